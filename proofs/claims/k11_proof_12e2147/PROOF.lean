import PyProof.Rows.All
import Wide.All
import OpenK.AllK
import Wide.FinOn
import HandS.ForMost
import HandS.Exc
import HandS.WordsExc
import HandS.Defaults
import HandS.ExcInit
import HandS.ExcField
import HandS.TryMany
import HandS.IsInst
import HandS.Deep
import HandS.Lambda
import HandS.Flow
import HandS.Style
import HandS.TupAny
import KE.KDictKeyed
import KE.KeyNested
import HandS.DictComp
import KE.GoesMore
import KE.GoesEnum
import HandS.SortInts
import KE.LtSeq
import KE.KSortTup
import HandS.SortRule
import PyProof.Rows.RuleB_bool
import KE.KStateDown
import HandS.Head0
import HandS.Head1
import HandS.Head2
import HandS.HeadEnd
import HandS.HeadHook1
import HandS.HeadHook2
import HandS.Zip
import HandS.ListItems
import HandS.Small
import HandS.WideBits
import PyProof.ReprRoads
import PyProof.ReprLen
import PyProof.FitsInt
import PyProof.StrLawsRepr
import KE.DataFind
import HandS.EndTab
import PySem.Challenge.RW_pagestrue_k11_whole_meanings_and_choices
set_option Elab.async false
set_option linter.all false
set_option maxRecDepth 100000
set_option maxHeartbeats 0
/-! Rules of my own over the hand layer. -/
namespace WR
open PySem PySem.Spec PyProof.Rows L2
section
variable {X : Cx} {e : Expr} {es : List Expr} {ta : TA} {p1 p2 pos : Pos}
/-- Base.__init__(self, ..), Base an own error class whose __init__ is ValueError's -/
theorem pe_ownInit {b : Str} {B : Addr} {pl : Sem Bool} (hg : Gl X b) (hm : X.mg b = some (.ref B))
    (hs : PySem.W.specialIn X.K (.ref B) "__getattribute__" = some (some (.builtin "type.__getattribute__"))) (ty : PySem.W.typeIn X.K (.ref B) = some (.type "type"))
    (rd : PySem.W.readsIn X.K B (.type "type") = true) (vV : PySem.W.findCls X.K (.ref B) (.type "type") "__init__" = some (.val (.builtin "ValueError.__init__"))) (ha : PA X (e :: es) ta)
    (hc : eval (.Call (.Attribute (.Name b p1) "__init__" p2) (e :: es) [] pos) X.env = (do
      let ov ← eval (.Name b p1) X.env
      standAt p2.atName
      let (f, first) ← holding [ov] (getMethod ov "__init__" pl)
      callWith pos f first (backTo pos (starEach (e :: es) X.env)) (backToKw pos (keywordEach [] X.env))) := by rfl)
    (hd : (b == ("__debug__" : Str)) = false := by decide)
    (he : starEach (e :: es) X.env = (false, eval e X.env) :: starEach es X.env := by rfl) (hpl : (backTo pos (starEach es X.env)).any (·.1) = false := by rfl) :
    PE X (.Call (.Attribute (.Name b p1) "__init__" p2) (e :: es) [] pos) (tVeI X.K ta) := by
  constructor
  intro pins s σ H Q I h
  refine PySem.W.methodCall_KW (ld_glob I hg hm ?_ hd) hc
  obtain ⟨m, fr⟩ := I.fr
  refine PySem.W.method_of_cls fr I.ok.mod.kin hs (PySem.W.cls_val fr I.ok.mod.kin ty rd vV (by decide +kernel) ?_)
  show wpAny _ _ (callWith pos (Value.builtin "ValueError.__init__") [] (backTo pos (starEach (e :: es) X.env)) []) _ _ _
  refine PyProof.Rows.callWith_method1 (thn (ha.run pos pins _ σ H _ (I.tok _) h) ?_) he hpl
  rintro us s1 ⟨vs, H1, I1, r1, a, C, ws, rfl, hl, T, ea, q⟩
  cases r1 with
  | @cons _ u0 _ ur ra rw' =>
    have eu : u0 = Value.ref a := ra
    subst eu
    have hlen : ur.length ≤ sizeLine := by
      have := Paired.length rw'
      rw [sizeLine_eq]
      omega
    exact oinit_ok T I1 ea hlen fun s' J => ⟨.non, H1, J, rfl, q⟩
end
end WR

/-! Data in the heap: none, bools, ints, texts, lists, tuples, dicts with text keys; its lists and dicts stand where N lets them. -/
namespace WR
open PySem PySem.Spec PyProof.Rows L2
mutual
inductive Dr (N : Addr → Prop) (H : Hp) : V → PyData → Prop
  | non : Dr N H .non .none
  | bl (b : Bool) : Dr N H (.bl b) (.bool b)
  | int (i : Int) : Dr N H (.int i) (.int i)
  | str (x : Str) : Dr N H (.str x) (.str x)
  | lst {a : Addr} {xs : List V} {ds : List PyData} : N a → H a = some (.lst xs) → DrA N H xs ds → Dr N H (.ref a) (.list ds)
  | tup {a : Addr} {xs : List V} {ds : List PyData} : H a = some (.tup xs) → DrA N H xs ds → Dr N H (.ref a) (.tuple ds)
  | dct {a : Addr} {kvs : List (Key × V)} {ps : List (PyData × PyData)} : N a → H a = some (.dK kvs) → DrK N H kvs ps → Dr N H (.ref a) (.dict ps)
inductive DrA (N : Addr → Prop) (H : Hp) : List V → List PyData → Prop
  | nil : DrA N H [] []
  | cons {v : V} {vs : List V} {d : PyData} {ds : List PyData} : Dr N H v d → DrA N H vs ds → DrA N H (v :: vs) (d :: ds)
inductive DrK (N : Addr → Prop) (H : Hp) : List (Key × V) → List (PyData × PyData) → Prop
  | nil : DrK N H [] []
  | cons {x : Str} {v : V} {d : PyData} {kvs : List (Key × V)} {ps : List (PyData × PyData)} : Dr N H v d → DrK N H kvs ps → DrK N H ((Sum.inr x, v) :: kvs) ((.str x, d) :: ps)
end
/-- what stood at N stands, tuples too -/
structure Stays (N : Addr → Prop) (H H' : Hp) : Prop where
  at_ : ∀ a o, N a → H a = some o → H' a = some o
  tup : ∀ a xs, H a = some (.tup xs) → H' a = some (.tup xs)
abbrev All : Addr → Prop := fun _ => True
abbrev Sm (H H' : Hp) : Prop := ∀ b o, H b = some o → H' b = some o
theorem Stays.of {N : Addr → Prop} {H H' : Hp} (s : Sm H H') : Stays N H H' := ⟨fun a o _ e => s a o e, fun a xs e => s a _ e⟩
theorem Sm.rfl' {H : Hp} : Sm H H := fun _ _ e => e
theorem Sm.trans {H H1 H2 : Hp} (a : Sm H H1) (b : Sm H1 H2) : Sm H H2 := fun c o e => b c o (a c o e)
theorem Sm.new {H : Hp} {p : Addr} {o : HO} (h : H p = none) : Sm H (upd H p o) := fun b u e => by
  rw [upd_ne (ne_of_none e h)]
  exact e
theorem Sm.free {H H' : Hp} (s : Sm H H') {p : Addr} (h : H' p = none) : H p = none := by
  cases e : H p with
  | none => rfl
  | some o =>
    rw [s p o e] at h
    cases h
section
variable {N M : Addr → Prop} {H H' : Hp}
mutual
theorem Dr.mono (w : ∀ a, N a → M a) (s : Stays N H H') : ∀ {d : PyData} {v : V}, Dr N H v d → Dr M H' v d
  | _, _, .non => .non
  | _, _, .bl b => .bl b
  | _, _, .int i => .int i
  | _, _, .str x => .str x
  | _, _, .lst n e r => .lst (w _ n) (s.at_ _ _ n e) (DrA.mono w s r)
  | _, _, .tup e r => .tup (s.tup _ _ e) (DrA.mono w s r)
  | _, _, .dct n e r => .dct (w _ n) (s.at_ _ _ n e) (DrK.mono w s r)
theorem DrA.mono (w : ∀ a, N a → M a) (s : Stays N H H') : ∀ {ds : List PyData} {vs : List V}, DrA N H vs ds → DrA M H' vs ds
  | _, _, .nil => .nil
  | _, _, .cons r t => .cons (Dr.mono w s r) (DrA.mono w s t)
theorem DrK.mono (w : ∀ a, N a → M a) (s : Stays N H H') : ∀ {ps : List (PyData × PyData)} {kvs : List (Key × V)}, DrK N H kvs ps → DrK M H' kvs ps
  | _, _, .nil => .nil
  | _, _, .cons r t => .cons (Dr.mono w s r) (DrK.mono w s t)
end
theorem Dr.sm (s : Sm H H') {v : V} {d : PyData} (r : Dr N H v d) : Dr N H' v d := r.mono (fun _ z => z) (Stays.of s)
theorem DrA.sm (s : Sm H H') {vs : List V} {ds : List PyData} (r : DrA N H vs ds) : DrA N H' vs ds := r.mono (fun _ z => z) (Stays.of s)
theorem Dr.all (r : Dr N H v d) : Dr All H v d := r.mono (fun _ _ => trivial) (Stays.of Sm.rfl')
theorem DrA.all (r : DrA N H v d) : DrA All H v d := r.mono (fun _ _ => trivial) (Stays.of Sm.rfl')
theorem DrA.length : ∀ {ds : List PyData} {vs : List V}, DrA N H vs ds → vs.length = ds.length
  | _, _, .nil => rfl
  | _, _, .cons _ t => by simp [DrA.length t]
theorem DrA.get : ∀ {ds : List PyData} {vs : List V} {i : Nat} {v : V}, DrA N H vs ds → vs[i]? = some v → ∃ d, ds[i]? = some d ∧ Dr N H v d
  | _, _, i, v, .nil, e => by simp at e
  | _, _, 0, v, .cons r t, e => by
    simp at e
    subst e
    exact ⟨_, rfl, r⟩
  | _, _, i + 1, v, .cons r t, e => by
    obtain ⟨d, h1, h2⟩ := DrA.get (i := i) (v := v) t (by simpa using e)
    exact ⟨d, by simpa using h1, h2⟩
theorem DrA.at_ {ds : List PyData} {vs : List V} {i : Nat} {d : PyData} (r : DrA N H vs ds) (e : ds[i]? = some d) : ∃ v, vs[i]? = some v ∧ Dr N H v d := by
  have hi : i < vs.length := by
    rw [r.length]
    exact (List.getElem?_eq_some_iff.mp e).1
  obtain ⟨d', e', r'⟩ := r.get (List.getElem?_eq_getElem hi)
  rw [e] at e'
  cases e'
  exact ⟨_, List.getElem?_eq_getElem hi, r'⟩
theorem DrA.append : ∀ {ds es : List PyData} {vs ws : List V}, DrA N H vs ds → DrA N H ws es → DrA N H (vs ++ ws) (ds ++ es)
  | _, _, _, _, .nil, s => s
  | _, _, _, _, .cons r t, s => .cons r (DrA.append t s)
theorem DrA.one {v : V} {d : PyData} (r : Dr N H v d) : DrA N H [v] [d] := .cons r .nil
theorem DrA.take : ∀ {ds : List PyData} {vs : List V} (n : Nat), DrA N H vs ds → DrA N H (vs.take n) (ds.take n)
  | _, _, 0, _ => .nil
  | _, _, _ + 1, .nil => .nil
  | _, _, n + 1, .cons r t => .cons r (DrA.take n t)
theorem DrA.drop : ∀ {ds : List PyData} {vs : List V} (n : Nat), DrA N H vs ds → DrA N H (vs.drop n) (ds.drop n)
  | _, _, 0, r => r
  | _, _, _ + 1, .nil => .nil
  | _, _, n + 1, .cons r t => DrA.drop n t
theorem DrA.set {v : V} {d : PyData} (q : Dr N H v d) : ∀ {ds : List PyData} {vs : List V} (n : Nat), DrA N H vs ds → DrA N H (vs.set n v) (ds.set n d)
  | _, _, _, .nil => .nil
  | _, _, 0, .cons r t => .cons q t
  | _, _, n + 1, .cons r t => .cons r (DrA.set q n t)
theorem DrA.eraseIdx : ∀ {ds : List PyData} {vs : List V} (n : Nat), DrA N H vs ds → DrA N H (vs.eraseIdx n) (ds.eraseIdx n)
  | _, _, _, .nil => .nil
  | _, _, 0, .cons r t => t
  | _, _, n + 1, .cons r t => .cons r (DrA.eraseIdx n t)
end
/-! ### what it is -/
def isL : PyData → Bool
  | .list _ => true
  | .tuple _ => true
  | _ => false
def its : PyData → List PyData
  | .list xs => xs
  | .tuple xs => xs
  | _ => []
/-- a list or a tuple stands there -/
theorem Dr.seq {N : Addr → Prop} {H : Hp} {v : V} {d : PyData} (r : Dr N H v d) (h : isL d = true) : ∃ a xs, v = .ref a ∧ (H a = some (.lst xs) ∨ H a = some (.tup xs)) ∧ DrA N H xs (its d) := by
  cases r with
  | lst n e r => exact ⟨_, _, rfl, .inl e, r⟩
  | tup e r => exact ⟨_, _, rfl, .inr e, r⟩
  | _ => cases h
/-! ### over to the layer's data, to the library's -/
section
variable {K : PySem.W.Frag} {N : Addr → Prop} {H : Hp}
mutual
theorem Dr.dp : ∀ {d : PyData} {v : V}, Dr N H v d → d.hasDict = false → Dp K H v d
  | _, _, .non, _ => .non
  | _, _, .bl b, _ => .bl b
  | _, _, .int i, _ => .int i
  | _, _, .str x, _ => .str x
  | _, _, .lst _ e r, h => .lst (.inl (.inl e)) (DrA.dp r (by simpa [PyData.hasDict] using h))
  | _, _, .tup e r, h => .tup (.inl (.inl e)) (DrA.dp r (by simpa [PyData.hasDict] using h))
  | _, _, .dct _ _ _, h => by simp [PyData.hasDict] at h
theorem DrA.dp : ∀ {ds : List PyData} {vs : List V}, DrA N H vs ds → PyData.hasDictAll ds = false → DpAll K H vs ds
  | _, _, .nil, _ => .nil
  | _, _, .cons r t, h => by
    simp only [PyData.hasDictAll, Bool.or_eq_false_iff] at h
    exact .cons (Dr.dp r h.1) (DrA.dp t h.2)
end
end
end WR

namespace WR
open PySem PySem.Spec PyProof.Rows L2
/-! ### defs by name -/
structure Df (P : Program) (w : World) (K : PySem.W.Frag) (mg : Str → Option Value) (base : Heap) (CX : CXT) (k : Nat) (x : Str) (ps : List Str) (sp : Sp) : Prop where
  ex : ∃ f fd, mg x = some (.ref f) ∧ PySem.W.keepIn K (.ref f) = true ∧ Binds K fd ps [] ∧ FnOk P w K mg base CX k f fd ps sp
section
variable {X : Cx} {CX : CXT} {x : Str} {ps : List Str} {sp : Sp} {k : Nat} {e : Expr} {es : List Expr} {ta : TA} {p pos : Pos} {E : XK}
theorem pe_df (D : Df X.prog X.w X.K X.mg X.base CX k x ps sp) (hr : Room k X.A) (hx : Passes CX X E) (ha : PA X (e :: es) ta) (hg : Gl X x := by rfl) (hdb : (x == ("__debug__" : Str)) = false := by decide)
    (he : starEach (e :: es) X.env = (false, eval e X.env) :: starEach es X.env := by rfl) (hpl : (backTo pos (starEach es X.env)).any (·.1) = false := by rfl) : PE X (.Call (.Name x p) (e :: es) [] pos) (tCall sp [] E ta) := by
  obtain ⟨f, fd, hm, hk, hb, F⟩ := D.ex
  exact pe_call F hr hg hm hk hb .nil hx ha hdb he hpl
theorem Df.mono {P : Program} {w : World} {K : PySem.W.Frag} {mg : Str → Option Value} {base : Heap} {j : Nat} (D : Df P w K mg base CX j x ps sp) (h : j ≤ k) : Df P w K mg base CX k x ps sp := by
  obtain ⟨f, fd, hm, hk, hb, F⟩ := D.ex
  exact ⟨f, fd, hm, hk, hb, F.mono h⟩
end
theorem pe_ty {X : Cx} {x : Str} {pos : Pos} (n : String) (hm : X.mg x = none) (hv : bootBuiltins x = some (.type n)) (hg : Gl X x := by rfl) (hn : x ≠ "__name__" := by decide) (hd : (x == ("__debug__" : Str)) = false := by decide) : PE X (.Name x pos) (tC (.ty n)) :=
  pe_bltn hg hm hv rfl hn hd
/-! ### kinds -/
def tyD : PyData → String
  | .none => "NoneType"
  | .bool _ => "bool"
  | .int _ => "int"
  | .str _ => "str"
  | .list _ => "list"
  | .tuple _ => "tuple"
  | .dict _ => "dict"
def isT (c : String) (d : PyData) : Bool := (kitB (tyD d) c).getD false
theorem Dr.ty {K : PySem.W.Frag} {N : Addr → Prop} {H : Hp} {v : V} {d : PyData} (r : Dr N H v d) : TyX K H v (.type (tyD d)) := by
  cases r with
  | non => exact .base .non
  | bl b => exact .base (.bl b)
  | int i => exact .base (.int i)
  | str x => exact .base (.str x)
  | lst _ e _ => exact .base (.lst e)
  | tup e _ => exact .base (.tup e)
  | dct _ e _ => exact .base (.dK e)
def isD : PyData → Bool
  | .dict _ => true
  | _ => false
def isLst : PyData → Bool
  | .list _ => true
  | _ => false
def isTup : PyData → Bool
  | .tuple _ => true
  | _ => false
def isB : PyData → Bool
  | .bool _ => true
  | _ => false
def isI : PyData → Bool
  | .int _ => true
  | .bool _ => true
  | _ => false
def isS : PyData → Bool
  | .str _ => true
  | _ => false
theorem kit_list (d : PyData) : kitB (tyD d) "list" = some (isLst d) := by cases d <;> (simp only [tyD, isLst, isTup, isD, isB, isI, isS]; decide +kernel)
theorem kit_tuple (d : PyData) : kitB (tyD d) "tuple" = some (isTup d) := by cases d <;> (simp only [tyD, isLst, isTup, isD, isB, isI, isS]; decide +kernel)
theorem kit_dict (d : PyData) : kitB (tyD d) "dict" = some (isD d) := by cases d <;> (simp only [tyD, isLst, isTup, isD, isB, isI, isS]; decide +kernel)
theorem kit_bool (d : PyData) : kitB (tyD d) "bool" = some (isB d) := by cases d <;> (simp only [tyD, isLst, isTup, isD, isB, isI, isS]; decide +kernel)
theorem kit_int (d : PyData) : kitB (tyD d) "int" = some (isI d) := by cases d <;> (simp only [tyD, isLst, isTup, isD, isB, isI, isS]; decide +kernel)
theorem kit_str (d : PyData) : kitB (tyD d) "str" = some (isS d) := by cases d <;> (simp only [tyD, isLst, isTup, isD, isB, isI, isS]; decide +kernel)
section
variable {X : Cx}
/-- isinstance(x, c) of data -/
def rIsD (c : String) (f : PyData → Bool) : List V → Hp → VK → Prop := fun xs H Q => ∃ x d, xs = [x, .ty c] ∧ Dr All H x d ∧ Q (.bl (f d)) H
theorem call_isD {c : String} {f : PyData → Bool} (hc : ∀ d, kitB (tyD d) c = some (f d)) : CallR X (.builtin "isinstance") (rIsD c f) := by
  intro pins s σ H xs us Q I r h
  obtain ⟨x, d, rfl, hd, q⟩ := h
  exact call_isi pins s σ H _ us Q I r ⟨x, .ty c, _, _, _, rfl, .ty c, hd.ty, kit_ty (hc d), q⟩
def rIsD2 (c1 c2 : String) (f : PyData → Bool) : List V → Hp → VK → Prop := fun xs H Q => ∃ x t d, xs = [x, .ref t] ∧ H t = some (.tup [.ty c1, .ty c2]) ∧ Dr All H x d ∧ Q (.bl (f d)) H
theorem kit_any2 {K : PySem.W.Frag} {a c1 c2 : String} {b1 b2 : Bool} (h1 : kitB a c1 = some b1) (h2 : kitB a c2 = some b2) : PySem.W.kitAny K (.type a) [.type c1, .type c2] = some (b1 || b2) := by
  refine kitAny_cons (kit_ty h1) (fun e => ?_) (fun e => by rw [e]; rfl)
  subst e
  refine kitAny_cons (kit_ty h2) (fun e => ?_) (fun e => by rw [e]; rfl)
  subst e
  exact kitAny_nil
theorem call_isD2 {c1 c2 : String} {f1 f2 f : PyData → Bool} (h1 : ∀ d, kitB (tyD d) c1 = some (f1 d)) (h2 : ∀ d, kitB (tyD d) c2 = some (f2 d)) (hf : ∀ d, (f1 d || f2 d) = f d) : CallR X (.builtin "isinstance") (rIsD2 c1 c2 f) := by
  intro pins s σ H xs us Q I r h
  obtain ⟨x, t, d, rfl, ht, hd, q⟩ := h
  refine call_isiT pins s σ H _ us Q I r ⟨x, t, [.ty c1, .ty c2], _, [.type c1, .type c2], _, rfl, ht, .cons (.ty c1) (.cons (.ty c2) .nil), hd.ty, kit_any2 (h1 d) (h2 d), ?_⟩
  rw [hf d]
  exact q
theorem isL_or (d : PyData) : (isLst d || isTup d) = isL d := by cases d <;> rfl
end
/-! ### pure defs: data in, data out -/
def spP (n : Nat) (ok : List PyData → Prop) (F : List PyData → PyData) : Sp := fun vs H Q _ => ∃ ds, DrA All H vs ds ∧ ds.length = n ∧ ok ds ∧ ∀ v H', Sm H H' → Dr All H' v (F ds) → Q v H'
theorem spP_len {n : Nat} {ok : List PyData → Prop} {F : List PyData → PyData} (vs : List V) (H : Hp) (Q : VK) (E : XK) (h : spP n ok F vs H Q E) : vs.length = n := by
  obtain ⟨ds, r, e, _⟩ := h
  rw [r.length, e]
/-- one argument -/
theorem spP1 {ok : List PyData → Prop} {F : List PyData → PyData} {vs : List V} {H : Hp} {Q : VK} {E : XK} (h : spP 1 ok F vs H Q E) : ∃ v d, vs = [v] ∧ Dr All H v d ∧ ok [d] ∧ ∀ u H', Sm H H' → Dr All H' u (F [d]) → Q u H' := by
  obtain ⟨ds, r, e, k, q⟩ := h
  cases r with
  | nil => cases e
  | cons r t =>
    cases t with
    | nil => exact ⟨_, _, rfl, r, k, q⟩
    | cons _ _ => simp at e
theorem spP2 {ok : List PyData → Prop} {F : List PyData → PyData} {vs : List V} {H : Hp} {Q : VK} {E : XK} (h : spP 2 ok F vs H Q E) : ∃ v w d e, vs = [v, w] ∧ Dr All H v d ∧ Dr All H w e ∧ ok [d, e] ∧ ∀ u H', Sm H H' → Dr All H' u (F [d, e]) → Q u H' := by
  obtain ⟨ds, r, e, k, q⟩ := h
  cases r with
  | nil => cases e
  | cons r t =>
    cases t with
    | nil => cases e
    | cons r2 t =>
      cases t with
      | nil => exact ⟨_, _, _, _, rfl, r, r2, k, q⟩
      | cons _ _ => simp at e
theorem spP1_of {ok : List PyData → Prop} {F : List PyData → PyData} {v : V} {d : PyData} {H : Hp} {Q : VK} (r : Dr All H v d) (k : ok [d]) (q : ∀ (u : V) (H' : Hp), Sm H H' → Dr All H' u (F [d]) → Q u H') : spP 1 ok F [v] H Q E0 :=
  ⟨[d], .one r, rfl, k, q⟩
theorem spP2_of {ok : List PyData → Prop} {F : List PyData → PyData} {v w : V} {d e : PyData} {H : Hp} {Q : VK} (r : Dr All H v d) (r2 : Dr All H w e) (k : ok [d, e]) (q : ∀ (u : V) (H' : Hp), Sm H H' → Dr All H' u (F [d, e]) → Q u H') : spP 2 ok F [v, w] H Q E0 :=
  ⟨[d, e], .cons r (.one r2), rfl, k, q⟩
theorem Dr.bl_inv {N : Addr → Prop} {H : Hp} {v : V} {b : Bool} (r : Dr N H v (.bool b)) : v = .bl b := by
  cases r
  rfl
theorem Dr.int_inv {N : Addr → Prop} {H : Hp} {v : V} {i : Int} (r : Dr N H v (.int i)) : v = .int i := by
  cases r
  rfl
theorem Dr.str_inv {N : Addr → Prop} {H : Hp} {v : V} {x : Str} (r : Dr N H v (.str x)) : v = .str x := by
  cases r
  rfl
theorem Dr.non_inv {N : Addr → Prop} {H : Hp} {v : V} (r : Dr N H v .none) : v = .non := by
  cases r
  rfl
end WR

namespace WR
open PySem PySem.Spec PyProof.Rows L2
/-! ### walks over a list or a tuple -/
def Sq (H : Hp) (a : Addr) (xs : List V) : Prop := H a = some (.lst xs) ∨ H a = some (.tup xs)
/-- the walk of a: by its kind -/
def ItS (K : PySem.W.Frag) (H : Hp) (a : Addr) (xs : List V) (J : It) : Prop := (J = Itl K a ∧ H a = some (.lst xs)) ∨ (J = Itt K a ∧ H a = some (.tup xs))
def iSeq (K : PySem.W.Frag) (tl : TE) : TI := fun σ H R => tl σ H fun x H1 => ∃ a xs, x = .ref a ∧ Sq H1 a xs ∧ ∀ J, ItS K H1 a xs J → R J H1
theorem pi_seq {X : Cx} {tg l : Expr} {tl : TE} (hl : PE X l tl) : PI X tg l (iSeq X.K tl) := by
  constructor
  intro pins s σ H R I h
  refine thn (hl.run pins s σ H _ I h) ?_
  rintro v s1 ⟨x, H1, I1, r1, a, xs, rfl, hs, q⟩
  cases (show v = Value.ref a from r1)
  have new : ∀ b ∈ [s1.heap.objs.size], FpOk X pins H1 b := by
    intro b hb
    rw [List.mem_singleton] at hb
    rw [hb]
    exact I1.fpOk (Nat.le_refl _) (I1.hok.fresh (Nat.le_refl _))
  rcases hs with hs | hs
  · obtain ⟨_, _, pl, _⟩ := I1.list (SqL.of hs)
    exact wpAny_pyIter_list pl.isList ⟨_, [_], _, _, H1, rfl, I1.kept (t' := s1.toks) fun b o z => Heap.get?_push_of_some _ z, turn_list a _, ⟨_, Heap.get?_push_size _ rfl, rfl, rfl⟩, new, q _ (.inl ⟨rfl, hs⟩)⟩
  · obtain ⟨ws, _, pt, _⟩ := I1.tuple (SqT.of hs)
    exact wpAny_pyIter_tuple (show s1.heap.IsTuple a ws.toArray from pt) ⟨_, [_], _, _, H1, rfl, I1.kept (t' := s1.toks) fun b o z => Heap.get?_push_of_some _ z, turn_tuple a _, ⟨_, Heap.get?_push_size _ rfl, rfl, rfl⟩, new, q _ (.inr ⟨rfl, hs⟩)⟩
section
variable {K : PySem.W.Frag} {a : Addr} {xs : List V}
theorem for_seq {J : It} {g : TG} {tb : TS} {D : Ends} {σ : L2.St} {H : Hp} (hJ : ItS K H a xs J) (Pv : Nat → L2.St → Hp → Prop) (h0 : Pv 0 σ H) (hl : ∀ i σ2 H2, i ≤ xs.length → Pv i σ2 H2 → H2 a = H a)
    (hs : ∀ i x σ H, xs[i]? = some x → Pv i σ H → g x σ H fun σ2 H2 => tb { D with nx := Pv (i + 1), ct := Pv (i + 1), bk := D.nx } σ2 H2) (hd : ∀ σ H, Pv xs.length σ H → D.nx σ H) :
    ∃ W : Nat → Nat → L2.St → Hp → Prop, (∃ m, W 0 m σ H) ∧ ∀ i m σ H, W i m σ H →
      (J.stop i H ∧ D.nx σ H) ∨ (J.go i H ∧ ∃ N : L2.St → Hp → Prop, (∀ σ' H', N σ' H' → ∃ m', m' < m ∧ W (i + 1) m' σ' H') ∧ ∀ x H', J.yld i H x H' → g x σ H' fun σ2 H2 => tb { D with nx := N, ct := N, bk := D.nx } σ2 H2) := by
  rcases hJ with ⟨rfl, e⟩ | ⟨rfl, e⟩
  · exact for_list Pv h0 (fun i σ2 H2 hi p => SqL.of ((hl i σ2 H2 hi p).trans e)) hs hd
  · exact for_tup Pv h0 (fun i σ2 H2 hi p => SqT.of ((hl i σ2 H2 hi p).trans e)) hs hd
theorem lc_seq {J : It} {g : TG} {tt : TT} {te : TE} {vs : List Nat} {σ : L2.St} {H1 : Hp} {D : Addr} {Qd : Hp → Prop} (hJ : ItS K H1 a xs J) (Pv : Nat → Hp → Prop) (h0 : Pv 0 (upd H1 D (.lst []))) (hl : ∀ i H, i ≤ xs.length → Pv i H → H a = H1 a)
    (hs : ∀ i x H, xs[i]? = some x → Pv i H → g x (wipe σ vs) H fun σ2 H2 => wipe σ2 vs = wipe σ vs ∧ tt σ2 H2 fun b H3 =>
      if b = true then te σ2 H3 fun y H4 => ∃ acc, H4 D = some (.lst acc) ∧ acc.length < sizeLine ∧ Pv (i + 1) (upd H4 D (.lst (acc ++ [y]))) else Pv (i + 1) H3) (hd : ∀ H, Pv xs.length H → Qd H) :
    ∃ W : Nat → Nat → Hp → Prop, (∃ m, W 0 m (upd H1 D (.lst []))) ∧ ∀ i m H, W i m H →
      (J.stop i H ∧ Qd H) ∨ (J.go i H ∧ ∃ Nx : Hp → Prop, (∀ H', Nx H' → ∃ m', m' < m ∧ W (i + 1) m' H') ∧ ∀ x H', J.yld i H x H' → g x (wipe σ vs) H' fun σ2 H2 => wipe σ2 vs = wipe σ vs ∧ tt σ2 H2 fun b H3 =>
        if b = true then te σ2 H3 fun y H4 => ∃ acc, H4 D = some (.lst acc) ∧ acc.length < sizeLine ∧ Nx (upd H4 D (.lst (acc ++ [y]))) else Nx H3) := by
  rcases hJ with ⟨rfl, e⟩ | ⟨rfl, e⟩
  · exact lc_list Pv h0 (fun i H2 hi p => SqL.of ((hl i H2 hi p).trans e)) hs hd
  · exact lc_tup Pv h0 (fun i H2 hi p => SqT.of ((hl i H2 hi p).trans e)) hs hd
end
/-! ### no list, no dict within -/
mutual
def fz : PyData → Bool
  | .list _ => false
  | .dict _ => false
  | .tuple xs => fzA xs
  | _ => true
def fzA : List PyData → Bool
  | [] => true
  | d :: ds => fz d && fzA ds
end
mutual
theorem Dr.fz {N M : Addr → Prop} {H : Hp} : ∀ {d : PyData} {v : V}, Dr N H v d → fz d = true → Dr M H v d
  | _, _, .non, _ => .non
  | _, _, .bl b, _ => .bl b
  | _, _, .int i, _ => .int i
  | _, _, .str x, _ => .str x
  | _, _, .lst _ _ _, h => by simp [WR.fz] at h
  | _, _, .tup e r, h => .tup e (DrA.fz r (by simpa [WR.fz] using h))
  | _, _, .dct _ _ _, h => by simp [WR.fz] at h
theorem DrA.fz {N M : Addr → Prop} {H : Hp} : ∀ {ds : List PyData} {vs : List V}, DrA N H vs ds → fzA ds = true → DrA M H vs ds
  | _, _, .nil, _ => .nil
  | _, _, .cons r t, h => by
    simp only [fzA, Bool.and_eq_true] at h
    exact .cons (Dr.fz r h.1) (DrA.fz t h.2)
end
/-! ### sizes -/
def lim : Nat := 4000
mutual
def wd : PyData → Bool
  | .none => true
  | .bool _ => true
  | .int i => decide (i.natAbs.log2 < 1000)
  | .str x => decide (x.length ≤ lim)
  | .list xs => decide (xs.length ≤ lim) && wdA xs
  | .tuple xs => decide (xs.length ≤ lim) && wdA xs
  | .dict ps => decide (ps.length ≤ lim) && wdK ps
def wdA : List PyData → Bool
  | [] => true
  | d :: ds => wd d && wdA ds
def wdK : List (PyData × PyData) → Bool
  | [] => true
  | p :: ps => wd p.1 && wd p.2 && wdK ps
end
theorem wdA_mem : ∀ {ds : List PyData} {d : PyData}, wdA ds = true → d ∈ ds → wd d = true
  | [], d, _, h => by cases h
  | e :: es, d, w, h => by
    simp only [wdA, Bool.and_eq_true] at w
    rcases List.mem_cons.mp h with rfl | h
    · exact w.1
    · exact wdA_mem w.2 h
theorem wdA_of : ∀ {ds : List PyData}, (∀ d ∈ ds, wd d = true) → wdA ds = true
  | [], _ => by simp only [wdA]
  | d :: ds, h => by
    simp only [wdA, Bool.and_eq_true]
    exact ⟨h d (List.mem_cons_self ..), wdA_of fun e he => h e (List.mem_cons_of_mem _ he)⟩
theorem wd_its {d : PyData} (w : wd d = true) (h : isL d = true) : (its d).length ≤ lim ∧ wdA (its d) = true := by
  cases d with
  | list xs =>
    simp only [wd, Bool.and_eq_true, decide_eq_true_eq] at w
    exact w
  | tuple xs =>
    simp only [wd, Bool.and_eq_true, decide_eq_true_eq] at w
    exact w
  | _ => cases h
theorem lim_lt : lim < sizeLine := by
  rw [sizeLine_eq]
  decide
/-! ### a comprehension of data: each item's element is pure -/
/-- D's list is set apart; all else stays -/
structure But (D : Addr) (H H' : Hp) : Prop where
  old : ∀ b o, b ≠ D → H b = some o → H' b = some o
theorem But.sm {D : Addr} {H H' : Hp} (n : H D = none) (b : But D H H') : Sm H H' := fun c o e => b.old c o (ne_of_none e n) e
/-- J walks the data ds, whatever else comes to stand -/
structure Walk (J : It) (H1 : Hp) (ds : List PyData) : Prop where
  go : ∀ H i, Sm H1 H → i < ds.length → J.go i H
  yld : ∀ H i x H', Sm H1 H → i < ds.length → J.yld i H x H' → H' = H ∧ ∃ d, ds[i]? = some d ∧ Dr All H x d
  stop : ∀ H, Sm H1 H → J.stop ds.length H
theorem Walk.seq {K : PySem.W.Frag} {H1 : Hp} {a : Addr} {xs : List V} {ds : List PyData} {J : It} (hJ : ItS K H1 a xs J) (r : DrA All H1 xs ds) : Walk J H1 ds := by
  have hl := r.length
  constructor
  · intro H i s hi
    have hx : xs[i]? = some xs[i] := List.getElem?_eq_getElem (by omega)
    rcases hJ with ⟨rfl, e⟩ | ⟨rfl, e⟩
    · exact ⟨xs, _, SqL.of (s _ _ e), hx⟩
    · exact ⟨xs, _, SqT.of (s _ _ e), hx⟩
  · intro H i x H' s hi y
    have hx : H' = H ∧ xs[i]? = some x := by
      rcases hJ with ⟨rfl, e⟩ | ⟨rfl, e⟩
      · exact ⟨y.1, y.2 xs (SqL.of (s _ _ e))⟩
      · exact ⟨y.1, y.2 xs (SqT.of (s _ _ e))⟩
    obtain ⟨d, h1, h2⟩ := r.get hx.2
    exact ⟨hx.1, d, h1, h2.sm s⟩
  · intro H s
    rcases hJ with ⟨rfl, e⟩ | ⟨rfl, e⟩
    · exact ⟨xs, SqL.of (s _ _ e), by omega⟩
    · exact ⟨xs, SqT.of (s _ _ e), by omega⟩
/-- the signsD of a text, each a text -/
def signsD (x : Str) : List PyData := x.cps.toList.map fun c => .str ⟨#[c]⟩
theorem signsD_len (x : Str) : (signsD x).length = x.length := by
  simp [signsD, Str.length]
theorem Walk.str {H1 : Hp} {x : Str} : Walk (Its x) H1 (signsD x) := by
  have hl : (signsD x).length = x.cps.size := by simp [signsD]
  constructor
  · intro H i s hi
    show i < x.cps.size
    omega
  · rintro H i v H' s hi ⟨e, c, hc, rfl⟩
    refine ⟨e, .str ⟨#[c]⟩, ?_, .str _⟩
    simp [signsD, List.getElem?_map, hc]
  · intro H s
    show x.cps.size ≤ (signsD x).length
    omega
theorem Walk.range {H1 : Hp} {lo : Int} {n : Nat} : Walk (Itr lo n) H1 ((List.range n).map fun (k : Nat) => PyData.int (lo + (k : Int))) := by
  constructor
  · intro H i s hi
    show i < n
    simpa using hi
  · rintro H i v H' s hi ⟨e, rfl⟩
    refine ⟨e, .int (lo + i), ?_, .int _⟩
    have : i < n := by simpa using hi
    simp [List.getElem?_map, List.getElem?_range this]
  · intro H s
    show n ≤ _
    simp
section
variable {K : PySem.W.Frag}
/-- a comprehension by a state of one's own: P j H' ys, behind j items -/
theorem lc_walk {J : It} {te : TE} {tt : TT} {g : TG} {vs : List Nat} {σ : L2.St} {H1 : Hp} {D : Addr} {n : Nat} {Qd : Hp → Prop} (P : Nat → Hp → Prop) (h0 : P 0 (upd H1 D (.lst [])))
    (hgo : ∀ i H, i < n → P i H → J.go i H) (hst : ∀ H, P n H → J.stop n H)
    (hs : ∀ i x H H', i < n → P i H → J.yld i H x H' → g x (wipe σ vs) H' fun σ2 H2 => wipe σ2 vs = wipe σ vs ∧ tt σ2 H2 fun b H3 =>
      if b = true then te σ2 H3 fun y H4 => ∃ acc, H4 D = some (.lst acc) ∧ acc.length < sizeLine ∧ P (i + 1) (upd H4 D (.lst (acc ++ [y]))) else P (i + 1) H3)
    (hd : ∀ H, P n H → Qd H) :
    ∃ W : Nat → Nat → Hp → Prop, (∃ m, W 0 m (upd H1 D (.lst []))) ∧ ∀ i' m H, W i' m H →
      (J.stop i' H ∧ Qd H) ∨ (J.go i' H ∧ ∃ Nx : Hp → Prop, (∀ H', Nx H' → ∃ m', m' < m ∧ W (i' + 1) m' H') ∧ ∀ x H', J.yld i' H x H' → g x (wipe σ vs) H' fun σ2 H2 => wipe σ2 vs = wipe σ vs ∧ tt σ2 H2 fun b H3 =>
        if b = true then te σ2 H3 fun y H4 => ∃ acc, H4 D = some (.lst acc) ∧ acc.length < sizeLine ∧ Nx (upd H4 D (.lst (acc ++ [y]))) else Nx H3) := by
  refine ⟨fun i m H => m + i = n ∧ P i H, ⟨n, by omega, h0⟩, ?_⟩
  rintro i m H ⟨e, p⟩
  by_cases hi : i < n
  · exact .inr ⟨hgo i H hi p, P (i + 1), fun H' p' => ⟨m - 1, by omega, by omega, p'⟩, fun x H' y => hs i x H H' hi p y⟩
  · have e2 : i = n := by omega
    subst e2
    exact .inl ⟨hst H p, hd H p⟩
theorem lc_dr {J : It} {te : TE} {vs : List Nat} {i : Nat} {σ : L2.St} {H1 : Hp} {D : Addr} {ds : List PyData} {Qd : Hp → Prop} (F : PyData → PyData) (W : Walk J H1 ds) (nD : H1 D = none) (hlen : ds.length ≤ lim)
    (hw : ∀ x, wipe ((wipe σ vs).set i (some x)) vs = wipe σ vs)
    (hs : ∀ (x : V) (d : PyData) (H2 : Hp) (Q : VK), d ∈ ds → Sm H1 H2 → Dr All H2 x d → (∀ y H3, Sm H2 H3 → Dr (fun b => b ≠ D) H3 y (F d) → Q y H3) → te ((wipe σ vs).set i (some x)) H2 Q)
    (hd : ∀ H2 ys, Sm H1 H2 → H2 D = some (.lst ys) → DrA (fun b => b ≠ D) H2 ys (ds.map F) → Qd H2) :
    ∃ W : Nat → Nat → Hp → Prop, (∃ m, W 0 m (upd H1 D (.lst []))) ∧ ∀ i' m H, W i' m H →
      (J.stop i' H ∧ Qd H) ∨ (J.go i' H ∧ ∃ Nx : Hp → Prop, (∀ H', Nx H' → ∃ m', m' < m ∧ W (i' + 1) m' H') ∧ ∀ x H', J.yld i' H x H' → gName i x (wipe σ vs) H' fun σ2 H2 => wipe σ2 vs = wipe σ vs ∧ tYes σ2 H2 fun b H3 =>
        if b = true then te σ2 H3 fun y H4 => ∃ acc, H4 D = some (.lst acc) ∧ acc.length < sizeLine ∧ Nx (upd H4 D (.lst (acc ++ [y]))) else Nx H3) := by
  refine lc_walk (n := ds.length) (fun j H2 => Sm H1 H2 ∧ ∃ ys, H2 D = some (.lst ys) ∧ ys.length = j ∧ DrA (fun b => b ≠ D) H2 ys ((ds.take j).map F)) ?_ ?_ ?_ ?_ ?_
  · exact ⟨Sm.new nD, [], upd_same, rfl, .nil⟩
  · rintro j H2 hj ⟨s, _⟩
    exact W.go _ _ s hj
  · rintro H2 ⟨s, _⟩
    exact W.stop _ s
  · rintro j x H2 H' hj ⟨s, ys, eD, hl, ry⟩ hy
    obtain ⟨rfl, d, hd', rd⟩ := W.yld _ _ _ _ s hj hy
    have hm : d ∈ ds := List.mem_of_getElem? hd'
    refine ⟨hw x, ?_⟩
    dsimp only [tYes]
    rw [if_pos rfl]
    refine hs x d H' _ hm s rd fun y H3 s3 r3 => ?_
    have eD3 := s3 D _ eD
    refine ⟨ys, eD3, by rw [hl]; exact Nat.lt_of_lt_of_le hj (Nat.le_of_lt (Nat.lt_of_le_of_lt hlen lim_lt)), ?_⟩
    have s4 : Sm H1 (upd H3 D (.lst (ys ++ [y]))) := fun b o z => by
      rw [upd_ne (ne_of_none z nD)]
      exact s3 _ _ (s _ _ z)
    refine ⟨s4, ys ++ [y], upd_same, by rw [List.length_append, hl]; rfl, ?_⟩
    have et : (ds.take (j + 1)).map F = (ds.take j).map F ++ [F d] := by
      rw [List.take_succ, hd']
      simp
    rw [et]
    have s5 : Stays (fun b => b ≠ D) H3 (upd H3 D (.lst (ys ++ [y]))) := ⟨fun b o nb z => by rw [upd_ne nb]; exact z, fun b us z => by
      rw [upd_ne (fun q => by rw [q, eD3] at z; cases z)]
      exact z⟩
    exact ((ry.sm s3).append (.one r3)).mono (fun _ z => z) s5
  · rintro H2 ⟨s, ys, eD, hl, ry⟩
    refine hd H2 ys s eD ?_
    rw [List.take_length] at ry
    exact ry
/-- .. whose elements hold no list, no dict -/
theorem lc_fz {J : It} {te : TE} {vs : List Nat} {i : Nat} {σ : L2.St} {H1 : Hp} {D : Addr} {ds : List PyData} {Qd : Hp → Prop} (F : PyData → PyData) (W : Walk J H1 ds) (nD : H1 D = none) (hlen : ds.length ≤ lim)
    (hw : ∀ x, wipe ((wipe σ vs).set i (some x)) vs = wipe σ vs) (hf : ∀ d ∈ ds, fz (F d) = true)
    (hs : ∀ (x : V) (d : PyData) (H2 : Hp) (Q : VK), d ∈ ds → Sm H1 H2 → Dr All H2 x d → (∀ y H3, Sm H2 H3 → Dr All H3 y (F d) → Q y H3) → te ((wipe σ vs).set i (some x)) H2 Q)
    (hd : ∀ H2 ys, Sm H1 H2 → H2 D = some (.lst ys) → DrA All H2 ys (ds.map F) → Qd H2) :
    ∃ W : Nat → Nat → Hp → Prop, (∃ m, W 0 m (upd H1 D (.lst []))) ∧ ∀ i' m H, W i' m H →
      (J.stop i' H ∧ Qd H) ∨ (J.go i' H ∧ ∃ Nx : Hp → Prop, (∀ H', Nx H' → ∃ m', m' < m ∧ W (i' + 1) m' H') ∧ ∀ x H', J.yld i' H x H' → gName i x (wipe σ vs) H' fun σ2 H2 => wipe σ2 vs = wipe σ vs ∧ tYes σ2 H2 fun b H3 =>
        if b = true then te σ2 H3 fun y H4 => ∃ acc, H4 D = some (.lst acc) ∧ acc.length < sizeLine ∧ Nx (upd H4 D (.lst (acc ++ [y]))) else Nx H3) :=
  lc_dr F W nD hlen hw (fun x d H2 Q hm s rx q => hs x d H2 Q hm s rx fun y H3 s3 r3 => q y H3 s3 (r3.fz (hf d hm))) fun H2 ys s e rr => hd H2 ys s e rr.all
end
/-! ### all, any of a list of bools -/
theorem DrA.bls {N : Addr → Prop} {H : Hp} : ∀ {bs : List Bool} {vs : List V}, DrA N H vs (bs.map PyData.bool) → vs = bs.map V.bl
  | [], _, .nil => rfl
  | b :: bs, _, .cons r t => by
    cases r
    rw [DrA.bls t]
    rfl
theorem DrA.ints {N : Addr → Prop} {H : Hp} : ∀ {bs : List Int} {vs : List V}, DrA N H vs (bs.map PyData.int) → vs = bs.map V.int
  | [], _, .nil => rfl
  | b :: bs, _, .cons r t => by
    cases r
    rw [DrA.ints t]
    rfl
end WR

namespace WR
open PySem PySem.Spec PyProof.Rows L2
def likeD : PyData → List PyData → PyData
  | .list _, ys => .list ys
  | _, ys => .tuple ys
def cutA {α : Type} (xs : List α) (lo hi : Option Int) : List α := (xs.drop (HT.sIx xs.length 0 lo)).take (HT.sIx xs.length xs.length hi - HT.sIx xs.length 0 lo)
theorem cutA_from {α : Type} (xs : List α) (k : Nat) : cutA xs (some (k : Int)) none = xs.drop k := by
  unfold cutA
  rw [HT.sIx_nat, HT.sIx_none]
  by_cases h : k ≤ xs.length
  · rw [Nat.min_eq_left h, List.take_of_length_le (by rw [List.length_drop]; omega)]
  · rw [Nat.min_eq_right (by omega), List.drop_of_length_le (by omega), List.drop_of_length_le (by omega), List.take_nil]
theorem cutA_to {α : Type} (xs : List α) (k : Nat) : cutA xs none (some (k : Int)) = xs.take k := by
  unfold cutA
  rw [HT.sIx_nat, HT.sIx_none, List.drop_zero, Nat.sub_zero]
  by_cases h : k ≤ xs.length
  · rw [Nat.min_eq_left h]
  · rw [Nat.min_eq_right (by omega), List.take_of_length_le (by omega), List.take_of_length_le (by omega)]
theorem DrA.cut {N : Addr → Prop} {H : Hp} {vs : List V} {ds : List PyData} (r : DrA N H vs ds) (lo hi : Option Int) : DrA N H (cutV vs lo hi) (cutA ds lo hi) := by
  unfold cutV cutA
  rw [r.length]
  exact (r.drop _).take _
theorem its_like (d : PyData) (ys : List PyData) : its (likeD d ys) = ys := by cases d <;> rfl
theorem isL_like (d : PyData) (ys : List PyData) : isL (likeD d ys) = true := by cases d <;> rfl
theorem like_its {d : PyData} (h : isL d = true) : likeD d (its d) = d := by
  cases d with
  | list _ => rfl
  | tuple _ => rfl
  | _ => cases h
section
variable {X : Cx}
/-- x[lo:hi] of a list or a tuple -/
def rSlD : V → Option Int → Option Int → Hp → VK → Prop := fun x lo hi H Q => ∃ d, Dr All H x d ∧ isL d = true ∧ ∀ v H', Sm H H' → Dr All H' v (likeD d (cutA (its d) lo hi)) → Q v H'
theorem sl_D : SlR X rSlD := by
  intro pins s σ H x v vl vu lo hi sl Q I rx hs pl pu h
  obtain ⟨d, rd, hL, q⟩ := h
  cases rd with
  | lst _ e r =>
    refine sl_list pins s σ H _ v vl vu lo hi sl Q I rx hs pl pu ⟨_, _, rfl, SqL.of e, fun p np => q _ _ (Sm.new np) ?_⟩
    exact .lst trivial upd_same ((r.cut lo hi).sm (Sm.new np))
  | @tup a xs ds e r =>
    refine sl_tupA pins s σ H _ v vl vu lo hi sl Q I rx hs pl pu ⟨_, _, rfl, SqT.of e, fun hw => q _ _ Sm.rfl' ?_, fun _ p np => q _ _ (Sm.new np) ?_⟩
    · have ew : cutA ds lo hi = ds := by
        have hl := r.length
        unfold cutA
        rw [hl] at hw
        rw [hw.1, hw.2, List.drop_zero, Nat.sub_zero, List.take_length]
      show Dr All H _ (.tuple (cutA ds lo hi))
      rw [ew]
      exact .tup e r
    · exact .tup upd_same ((r.cut lo hi).sm (Sm.new np))
  | _ => cases hL
/-- x[j], j within a list or a tuple -/
def rIxD : R2 := fun x y H Q => ∃ d, ∃ j : Nat, ∃ e, Dr All H x d ∧ isL d = true ∧ y = .int (j : Int) ∧ (its d)[j]? = some e ∧ ∀ v, Dr All H v e → Q v H
theorem ix_D : IxR X rIxD := by
  intro value slice pins s σ H x y v u Q I rx ry h hs
  obtain ⟨d, j, e, rd, hL, rfl, he, q⟩ := h
  cases rd with
  | lst _ ea r =>
    obtain ⟨z, hz, rz⟩ := r.at_ he
    exact ix_list value slice pins s σ H _ _ v u Q I rx ry ⟨_, _, _, z, rfl, rfl, SqL.of ea, atI_nat hz, q _ rz⟩ hs
  | tup ea r =>
    obtain ⟨z, hz, rz⟩ := r.at_ he
    exact ix_tup value slice pins s σ H _ _ v u Q I rx ry ⟨_, _, _, z, rfl, rfl, SqT.of ea, atI_nat hz, q _ rz⟩ hs
  | _ => cases hL
/-- tuple(x) -/
theorem call_tupD : CallR X (.type "tuple") (fun xs H Q => ∃ v d, xs = [v] ∧ Dr All H v d ∧ isL d = true ∧ ∀ u H', Sm H H' → Dr All H' u (.tuple (its d)) → Q u H') := by
  intro pins s σ H xs us Q I r h
  obtain ⟨v, d, rfl, rd, hL, q⟩ := h
  cases rd with
  | lst _ e rr => exact call_tuple_of pins s σ H _ us Q I r ⟨_, _, rfl, .inl ⟨SqL.of e, fun p np => q _ _ (Sm.new np) (.tup upd_same (rr.sm (Sm.new np)))⟩⟩
  | tup e rr => exact call_tuple_of pins s σ H _ us Q I r ⟨_, _, rfl, .inr ⟨SqT.of e, q _ _ Sm.rfl' (.tup e rr)⟩⟩
  | _ => cases hL
/-- len(x) -/
theorem call_lenS : CallR X (.builtin "len") (fun xs H Q => ∃ v d, xs = [v] ∧ Dr All H v d ∧ isL d = true ∧ Q (.int ((its d).length : Nat)) H) := by
  intro pins s σ H xs us Q I r h
  obtain ⟨v, d, rfl, rd, hL, q⟩ := h
  cases rd with
  | lst _ e rr => exact call_len pins s σ H _ us Q I r ⟨_, _, rfl, .inl ⟨_, SqL.of e, rr.length.symm⟩, q⟩
  | tup e rr => exact call_len pins s σ H _ us Q I r ⟨_, _, rfl, .inr ⟨_, SqT.of e, rr.length.symm⟩, q⟩
  | _ => cases hL
/-- x == y, x != y of data without dicts, none deeper than 60 -/
def eqOk (d : PyData) : Prop := d.canLay0 = true ∧ d.depth ≤ 60
theorem eqOk.shaped {d : PyData} (h : eqOk d) : SeqAt.shaped d = true := by
  show (PyData.canLay0 d && decide (PyData.depth d ≤ 64)) = true
  rw [Bool.and_eq_true]
  exact ⟨h.1, decide_eq_true (by have := h.2; omega)⟩
theorem eqOk.dp {K : PySem.W.Frag} {N : Addr → Prop} {H : Hp} {v : V} {d : PyData} (h : eqOk d) (r : Dr N H v d) : Dp K H v d := r.dp (PyData.hasDict_of_canLay d h.1)
def rEqDr : R2 := fun x y H Q => ∃ d e, Dr All H x d ∧ Dr All H y e ∧ eqOk d ∧ eqOk e ∧ Q (.bl (PyData.eqv d e)) H
def rNeDr : R2 := fun x y H Q => ∃ d e, Dr All H x d ∧ Dr All H y e ∧ eqOk d ∧ eqOk e ∧ Q (.bl (!PyData.eqv d e)) H
theorem op_eqDr (hu : X.A.units + 64 < cLine) : OpR X (compareOp .Eq) rEqDr := by
  intro pins s σ H x y v u Q I rx ry h
  obtain ⟨d, e, rd, re, od, oe, q⟩ := h
  exact op_eqD hu pins s σ H x y v u Q I rx ry ⟨d, e, od.dp rd, oe.dp re, od.shaped, oe.shaped, q⟩
theorem op_neDr (hu : X.A.units + 64 < cLine) : OpR X (compareOp .NotEq) rNeDr := by
  intro pins s σ H x y v u Q I rx ry h
  obtain ⟨d, e, rd, re, od, oe, q⟩ := h
  exact op_neD hu pins s σ H x y v u Q I rx ry ⟨d, e, od.dp rd, oe.dp re, od.shaped, oe.shaped, q⟩
/-- x in y, y a list -/
def rInDr (b : Bool) : R2 := fun x y H Q => ∃ d ds, Dr All H x d ∧ Dr All H y (.list ds) ∧ eqOk d ∧ eqOk (.list ds) ∧ Q (.bl (if b then ds.any fun z => PyData.eqv z d else !ds.any fun z => PyData.eqv z d)) H
theorem op_inDr (hu : X.A.units + 65 < cLine) : OpR X (compareOp .In) (rInDr true) := by
  intro pins s σ H x y v u Q I rx ry h
  obtain ⟨d, e, rd, re, od, oe, q⟩ := h
  exact op_inD hu pins s σ H x y v u Q I rx ry ⟨d, e, od.dp rd, oe.dp re, od.shaped, oe.shaped, q⟩
theorem op_notInDr (hu : X.A.units + 65 < cLine) : OpR X (compareOp .NotIn) (rInDr false) := by
  intro pins s σ H x y v u Q I rx ry h
  obtain ⟨d, e, rd, re, od, oe, q⟩ := h
  exact op_notInD hu pins s σ H x y v u Q I rx ry ⟨d, e, od.dp rd, oe.dp re, od.shaped, oe.shaped, q⟩
end
end WR

/-! Dicts whose keys are nested tuples, over the layer. -/
namespace WR
open PySem PySem.Spec PyProof.Rows L2
mutual
/-- the data as a key -/
def nk : PyData → NestedKey
  | .none => .none
  | .bool b => .num (if b = true then 1 else 0)
  | .int i => .num i
  | .str x => .text x
  | .list _ => .none
  | .tuple xs => .tup (nkA xs)
  | .dict _ => .none
def nkA : List PyData → List NestedKey
  | [] => []
  | d :: ds => nk d :: nkA ds
end
section
variable {X : Cx} {pins : List (Addr × Obj)} {σ : L2.St} {N : Addr → Prop} {H : Hp} {s : Shared}
mutual
theorem Dr.key (I : Inv X pins σ H s) : ∀ {d : PyData} {v : V} {u : Value}, Dr N H v d → fz d = true → RelV v u → NestedIs s.heap (nk d) u
  | _, _, u, .non, _, r => by
    cases (show u = Value.none from r)
    exact .none
  | _, _, u, .bl b, _, r => by
    cases (show u = Value.bool b from r)
    exact .bool rfl
  | _, _, u, .int i, _, r => by
    obtain ⟨t, e⟩ := (show ∃ t, u = Value.int i t from r)
    subst e
    exact .int i t
  | _, _, u, .str x, _, r => by
    obtain ⟨t, e⟩ := (show ∃ t, u = Value.str x t from r)
    subst e
    exact .text x t
  | _, _, _, .lst _ _ _, h, _ => by simp [fz] at h
  | _, _, u, .tup (a := a) e ra, h, r => by
    cases (show u = Value.ref a from r)
    obtain ⟨ws, rv, ⟨o, ho, hc, n, hd⟩, _⟩ := I.tuple (SqT.of e)
    exact .tup ho hc hd (DrA.key I ra (by simpa [fz] using h) rv)
  | _, _, _, .dct _ _ _, h, _ => by simp [fz] at h
theorem DrA.key (I : Inv X pins σ H s) : ∀ {ds : List PyData} {vs : List V} {us : List Value}, DrA N H vs ds → fzA ds = true → Vals vs us → NestedAll s.heap (nkA ds) us
  | _, _, _, .nil, _, .nil => .nil
  | _, _, _, .cons r t, h, .cons q p => by
    simp only [fzA, Bool.and_eq_true] at h
    exact .cons (Dr.key I r h.1 q) (DrA.key I t h.2 p)
end
end
/-- may be a key -/
structure Kd (d : PyData) : Prop where
  tup : isTup d = true
  fz : WR.fz d = true
  dp : (nk d).depth ≤ 8
abbrev Ent : Type := PyData × Addr × V
def nent (q : Ent) (p : NestedKey × Addr × Value) : Prop := p.1 = nk q.1 ∧ p.2.1 = q.2.1 ∧ RelV q.2.2 p.2.2
/-- at d: a dict of these keys and values, the keys' tuples where they stand -/
def rdO (P : Program) (w : World) (d : Addr) (xs : List Ent) : HO := .ext fun h => (d == sysModules) = false ∧ ∃ ys : List (NestedKey × Addr × Value), Paired nent xs ys ∧
  (∃ o es ep, h.get? d = some o ∧ o.ExactDict ∧ o.data = .dict es ep ∧ es.toList = ys.map (entryOfKey (nestedKind P w))) ∧ (ys.map (·.1)).Nodup
/-- such a dict stands at d -/
structure RD (P : Program) (w : World) (H : Hp) (d : Addr) (xs : List Ent) : Prop where
  at_ : (xs = [] ∧ H d = some (.dK [])) ∨ H d = some (rdO P w d xs)
  keys : ∀ q ∈ xs, Kd q.1 ∧ Dr All H (.ref q.2.1) q.1
def lookE (xs : List Ent) (k : PyData) : Option V := (xs.find? fun q => decide (nk q.1 = nk k)).map (·.2.2)
section
variable {X : Cx} {pins : List (Addr × Obj)} {σ : L2.St} {H : Hp} {s : Shared} {d : Addr} {xs : List Ent}
theorem Kd.is {k : PyData} {a : Addr} (I : Inv X pins σ H s) (h : Kd k) (r : Dr All H (.ref a) k) : (nestedKind X.prog X.w).is s.heap (nk k) a :=
  ⟨r.key I h.fz rfl, h.dp⟩
/-- the library's word of it -/
theorem RD.of (I : Inv X pins σ H s) (h : RD X.prog X.w H d xs) : (d == sysModules) = false ∧ ∃ ys, Paired nent xs ys ∧ s.heap.DictOfH (nestedKind X.prog X.w) d ys := by
  rcases h.at_ with ⟨rfl, e⟩ | e
  · obtain ⟨_, hs, vs, rel, o, es, ep, h1, h2, h3, h4, h5, h6⟩ := dk_of I.hok e
    cases rel
    have e0 : es.toList = [] := by
      have := h5.length
      simpa using this
    exact ⟨hs, [], .nil, o, es, ep, h1, h2, h3, by rw [e0]; rfl, (fun x hx => by cases hx), List.nodup_nil⟩
  · have x : ObjOk X.prog X.w H s.heap d (rdO X.prog X.w d xs) := I.hok d _ e
    obtain ⟨⟨hs, ys, pr, ⟨o, es, ep, h1, h2, h3, h4⟩, nd⟩, _, _⟩ := x
    refine ⟨hs, ys, pr, o, es, ep, h1, h2, h3, h4, fun y hy => ?_, nd⟩
    have key : ∀ {xs : List Ent} {ys : List (NestedKey × Addr × Value)}, Paired nent xs ys → (∀ q ∈ xs, Kd q.1 ∧ Dr All H (.ref q.2.1) q.1) → ∀ y ∈ ys, (nestedKind X.prog X.w).is s.heap y.1 y.2.1 := by
      intro xs ys pr
      induction pr with
      | nil => intro _ y hy; cases hy
      | cons r t ih =>
        intro hk y hy
        rcases List.mem_cons.mp hy with rfl | hy
        · obtain ⟨k1, k2⟩ := hk _ (List.mem_cons_self ..)
          rw [r.1, r.2.1]
          exact k1.is I k2
        · exact ih (fun q hq => hk q (List.mem_cons_of_mem _ hq)) y hy
    exact key pr h.keys y hy
theorem atKey_look {ys : List (NestedKey × Addr × Value)} (pr : Paired nent xs ys) (k : PyData) : RelO (lookE xs k) ((atKey ys (nk k)).map (·.2)) := by
  induction pr with
  | nil => exact trivial
  | @cons q p qs ps r t ih =>
    unfold lookE atKey
    rw [List.find?_cons, List.find?_cons]
    have e : p.1 = nk q.1 := r.1
    rw [e]
    by_cases h : nk q.1 = nk k
    · rw [decide_eq_true h]
      exact r.2.2
    · rw [decide_eq_false h]
      exact ih
theorem atKey_none {ys : List (NestedKey × Addr × Value)} (pr : Paired nent xs ys) (k : PyData) (h : lookE xs k = none) : atKey ys (nk k) = none := by
  have r := atKey_look pr k
  rw [h] at r
  cases z : atKey ys (nk k) with
  | none => rfl
  | some y =>
    rw [z] at r
    exact r.elim
theorem atKey_some {ys : List (NestedKey × Addr × Value)} (pr : Paired nent xs ys) (k : PyData) : (atKey ys (nk k)).isSome = (lookE xs k).isSome := by
  have r := atKey_look pr k
  cases z : atKey ys (nk k) with
  | none =>
    rw [z] at r
    cases y : lookE xs k with
    | none => rfl
    | some v => rw [y] at r; exact r.elim
  | some p =>
    rw [z] at r
    cases y : lookE xs k with
    | none => rw [y] at r; exact r.elim
    | some v => rfl
end
section
variable {X : Cx}
theorem roomK {A : Around} (hu : A.units + 64 < cLine) {P : Program} {w : World} : (nestedKind P w).room A.in1 := by
  show A.units + 1 + 8 < cLine
  omega
/-- k in d -/
def rInRD (P : Program) (w : World) : R2 := fun x y H Q => ∃ (a d : Addr) (k : PyData) (xs : List Ent), x = .ref a ∧ y = .ref d ∧ Dr All H (.ref a) k ∧ Kd k ∧ RD P w H d xs ∧ Q (.bl (lookE xs k).isSome) H
theorem op_inRD (hu : X.A.units + 64 < cLine) : OpR X (compareOp .In) (rInRD X.prog X.w) := by
  intro pins s σ H x y v u Q I rx ry h
  obtain ⟨a, d, k, xs, rfl, rfl, rk, hk, hd, q⟩ := h
  cases (show v = Value.ref a from rx)
  cases (show u = Value.ref d from ry)
  obtain ⟨hs, ys, pr, dd⟩ := hd.of I
  refine wpAny_in_heap (knd := nestedKind X.prog X.w) (roomK hu) (hk.is I rk) hs dd ?_
  rw [atKey_some pr]
  exact ⟨.bl _, H, I.tok _, rfl, q⟩
/-- d.get(k) -/
def tGetRD (P : Program) (w : World) (td tk : TE) : TE := fun σ H Q => td σ H fun x H1 => ∃ d, x = .ref d ∧ (∃ ys, RD P w H1 d ys) ∧ tk σ H1 fun y H2 => ∃ (a : Addr) (k : PyData) (xs : List Ent), y = .ref a ∧ Dr All H2 (.ref a) k ∧ Kd k ∧ RD P w H2 d xs ∧ Q ((lookE xs k).getD .non) H2
theorem pe_getRD {o e : Expr} {apos cpos : Pos} {td tk : TE} (hu : X.A.units + 64 < cLine) (ho : PE X o td) (he : PE X e tk) (m : M1 X o "get" apos e cpos) : PE X (.Call (.Attribute o "get" apos) [e] [] cpos) (tGetRD X.prog X.w td tk) := by
  constructor
  intro pins s σ H Q I h
  refine wpAny_Call_method m.base m.few m.line PySem.F.plainAttrs_dict PySem.F.slot_dict_get PySem.F.type_dict_get (thn (ho.run pins s σ H _ I h) ?_)
  rintro u s1 ⟨x, H1, I1, rx, d, rfl, ⟨ys0, hd0⟩, q1⟩
  cases (show u = Value.ref d from rx)
  obtain ⟨_, ys1, _, dd1⟩ := hd0.of I1
  refine ⟨dd1.typeIs, fun b q => ?_, ?_⟩
  · cases q
    obtain ⟨o, _, _, h1, h2, _⟩ := dd1
    exact ⟨o, h1, h2.2.1⟩
  rw [m.trees]
  refine Calls.callWith_builtin rfl (Calls.evalArgs_plain (Calls.spliced_cons (thn (he.run pins s1 σ H1 _ I1 q1) ?_)))
  rintro iv s2 ⟨y, H2, I2, ry, a, k, xs, rfl, rk, hk, hd, q2⟩
  cases (show iv = Value.ref a from ry)
  refine Calls.spliced_nil ?_
  obtain ⟨hs, ys, pr, dd⟩ := hd.of I2
  refine call_meetsIn PySem.F.slot_dict_get dd.typeIs PySem.F.entry_dict_get (PySem.F.args_dict_get_2 _ _) (meetsH_dict_get (nestedKind X.prog X.w) d a hs) ⟨roomK hu, nk k, ys, hk.is I2 rk, dd, ?_⟩
  have r := atKey_look pr k
  refine ⟨_, H2, I2.tok _, ?_, q2⟩
  cases z : (atKey ys (nk k)).map (·.2) with
  | none =>
    rw [z] at r
    cases y : lookE xs k with
    | none => rfl
    | some v => rw [y] at r; exact r.elim
  | some p =>
    rw [z] at r
    cases y : lookE xs k with
    | none => rw [y] at r; exact r.elim
    | some v => rw [y] at r; exact r
/-- d[k] = v, k new -/
def tSetRD (P : Program) (w : World) : TSet := fun x y v H Q => ∃ (d a : Addr) (k : PyData) (xs : List Ent), x = .ref d ∧ y = .ref a ∧ Dr All H (.ref a) k ∧ Kd k ∧ RD P w H d xs ∧ lookE xs k = none ∧ xs.length < sizeLine ∧ Q (upd H d (rdO P w d (xs ++ [(k, a, v)])))
theorem Paired.app1 {α β : Type} {F : α → β → Prop} {a : α} {b : β} (r : F a b) : ∀ {xs : List α} {ys : List β}, Paired F xs ys → Paired F (xs ++ [a]) (ys ++ [b])
  | _, _, .nil => .cons r .nil
  | _, _, .cons q t => .cons q (Paired.app1 r t)
theorem set_RD (hu : X.A.units + 64 < cLine) : PSet X (tSetRD X.prog X.w) := by
  intro pins s σ H x y z v u r Q I rx ry rz h
  obtain ⟨d, a, k, xs, rfl, rfl, rk, hk, hd, hl, hz, q⟩ := h
  cases (show v = Value.ref d from rx)
  cases (show u = Value.ref a from ry)
  obtain ⟨hs, ys, pr, dd⟩ := hd.of I
  have hzy : ys.length ≤ sizeLine := by
    rw [← Paired.length pr]
    omega
  refine wpAny_setItem_heap (knd := nestedKind X.prog X.w) (roomK hu) (hk.is I rk) dd (fun h' dd' sb => ?_) hzy
  rw [storedH_new (atKey_none pr k hl)] at dd'
  have mu : Mut (H d) := by
    rcases hd.at_ with ⟨_, e⟩ | e
    · rw [e]; exact trivial
    · rw [e]; exact trivial
  obtain ⟨o, es, ep, h1, h2, h3, h4, h5, h6⟩ := dd'
  refine ⟨_, d_write I mu sb ⟨o, h1⟩ ?_, q⟩
  refine ⟨⟨hs, ys ++ [(nk k, a, r)], Paired.app1 ⟨rfl, rfl, rz⟩ pr, ⟨o, es, ep, h1, h2, h3, h4⟩, h6⟩, ⟨o, h1⟩, fun h1' h2' z st => ?_⟩
  obtain ⟨z1, ys', z2, ⟨o', es', ep', g1, g2, g3, g4⟩, z3⟩ := z
  exact ⟨z1, ys', z2, ⟨o', es', ep', st _ g1, g2, g3, g4⟩, z3⟩
end
end WR

/-! enumerate of a list or a tuple. -/
namespace WR
open PySem PySem.Spec PyProof.Rows L2
/-- enumerate(v) makes its two cells -/
theorem enum_new1 {v : Value} {o : Obj} {Hv : Heap → Prop} (B : Begins v o Hv) :
    Meets (Builtin.«enumerate.__new__» ⟨[.type "enumerate", v], []⟩) (fun _ R s => Hv s.heap ∧
      R (.ok (.ret (.ref (s.heap.push o).objs.size))) { s with heap := (s.heap.push o).push { cls := .type "enumerate", data := .fields #[.none, .bool false, .ref s.heap.objs.size, rawInt 0, .none, .none] } }) :=
  .of_wp fun prog w A R s h => by
    obtain ⟨hv, h⟩ := h
    obtain ⟨hp, g, d, tk, os⟩ := s
    have below := sub_enumerate
    have start : ∀ {A' : Around} {E : Value → Shared → Prop} {Q : Value → Shared → Prop}, Q (.ref hp.objs.size) ⟨hp.push o, g, d, tk, os⟩ → wpAny (model prog w) A' (pyIter v) Q E ⟨hp, g, d, tk, os⟩ := fun q => B.iter prog w _ _ _ _ hv q
    wp_walk using start
    refine wpAny_stack_any fun st => wpAny_pure ?_
    split
    · rename_i c _ _ _ _ _
      cases (c == Value.type "enumerate") <;> (wp_walk using start; exact ⟨_, rfl, h⟩)
    · wp_walk using start
      exact ⟨_, rfl, h⟩
theorem enum_call1 {prog : Program} {w : World} {A : Around} {E : Value → Shared → Prop} {s : Shared} {v : Value} {o : Obj} {Hv : Heap → Prop} {Q : Value → Shared → Prop} (B : Begins v o Hv) (hv : Hv s.heap)
    (h : ∀ h', IsEnum h' (s.heap.objs.size + 1) s.heap.objs.size 0 .none → h'.get? s.heap.objs.size = some o → (∀ b u, s.heap.get? b = some u → h'.get? b = some u) → Q (.ref (s.heap.objs.size + 1)) { s with heap := h' }) :
    wpAny (model prog w) A (call (.type "enumerate") [v]) Q E s := by
  refine callType_new F.called_enumerate (by decide) (F.typeCall_enumerate_1 _) (F.newCall_enumerate_1 _) (fun obj => F.args_object_init_2 obj _) F.entry_enumerate_new (enum_new1 B) ⟨hv, ?_⟩
  have sz : (s.heap.push o).objs.size = s.heap.objs.size + 1 := Heap.size_push ..
  show _ ∧ _
  rw [sz]
  have top := Heap.get?_push_size (s.heap.push o) (o := { cls := .type "enumerate", data := .fields #[.none, .bool false, .ref s.heap.objs.size, rawInt 0, .none, .none] }) rfl
  rw [sz] at top
  exact ⟨⟨_, top, rfl⟩, h _ top (Heap.get?_push_of_some _ (Heap.get?_push_size _ B.free)) fun b u z => Heap.get?_push_of_some _ (Heap.get?_push_of_some _ z)⟩
/-- the tuple at a, its items in new pairs -/
def Itu (K : PySem.W.Frag) (a : Addr) : It :=
  ⟨fun i H => ∃ (xs : List V) (x : V), SqT K H a xs ∧ xs[i]? = some x, fun i H v H' => ∃ T x, v = .ref T ∧ H T = none ∧ H' = upd H T (.tup [.int (i : Nat), x]) ∧ ∀ xs, SqT K H a xs → xs[i]? = some x, fun i H => ∃ xs : List V, SqT K H a xs ∧ xs.length = i⟩
theorem turn_enumT {P : Program} {w : World} {K : PySem.W.Frag} {elts : List Expr} {kk : Nat} {tpos : Pos} (a e it : Addr) :
    Turn P w K (.Tuple elts kk tpos) (Itu K a) [e, it] e (fun i h => (∃ old, IsEnum h e it ((i : Nat) : Int) old) ∧ h.IsTupleIter it a i ∧ e ≠ it ∧ a ≠ it ∧ a ≠ e) where
  mem := List.mem_cons_self ..
  obj := fun i h st b hb => by
    obtain ⟨⟨old, he⟩, ⟨o, ho, hc, hd⟩, _⟩ := st
    rcases List.mem_cons.mp hb with z | hb
    · rw [z]
      exact ⟨_, he, fun v q => nomatch q⟩
    · rw [List.mem_singleton.mp hb]
      exact ⟨o, ho, fun v q => by rw [hd] at q; cases q⟩
  keep := fun i h h' st k => by
    obtain ⟨⟨old, he⟩, hi, hr⟩ := st
    exact ⟨⟨old, k e (by simp) _ he⟩, hi.at fun o q => k it (by simp) o q, hr⟩
  item := by
    intro X hP hw hK hc i pins s σ H E I hf st hg
    subst hP hw hK
    obtain ⟨⟨old, he⟩, hit, hne, h1, h2⟩ := st
    obtain ⟨xs, x, hq, hx⟩ := hg
    obtain ⟨its, rv, p, hz⟩ := I.tuple hq
    obtain ⟨u, hu, ru⟩ := rv.get hx
    have hi : i < its.toArray.size := by
      have := (List.getElem?_eq_some_iff.mp hu).1
      simpa using this
    have lts : ∀ b ∈ [e, it], b < s.heap.objs.size := by
      intro b hb
      obtain ⟨_, q, _⟩ := hit
      rcases List.mem_cons.mp hb with z | hb
      · rw [z]; exact Heap.lt_size he
      · rw [List.mem_singleton.mp hb]; exact Heap.lt_size q
    have hh : X.A.in1.handled = none := I.ok.hd hc
    have D := Draws.tuple (prog := X.prog) (w := X.w) hh it a h1 its.toArray
    have hit0 := hit
    refine wpAny_pyNext_enum_itemD D he ⟨hit, p⟩ hi hne (fun z => ?_) fun y h' tk hy ho st' hT hsz hk => ?_
    · rcases List.mem_cons.mp z with z | z
      · exact hne z
      · exact h2 (List.mem_singleton.mp z).symm
    have ey : y = u := by
      have e1 : its.toArray[i]? = some u := by simpa using hu
      rw [e1] at hy
      exact (Option.some.inj hy).symm
    subst ey
    refine ⟨_, rfl, wpAny_letOwnedTupleGo_enum (s := { s with heap := h', toks := tk + 1 }) ho fun h'' he' sb => ?_⟩
    have hel := lts e (by simp)
    have hil := lts it (by simp)
    have hT2 : h''.get? s.heap.objs.size = some { cls := .type "tuple", data := .seq #[.int i tk, y] } := (sb.2 _ (Nat.ne_of_gt hel)).trans hT
    have new : ObjOk X.prog X.w (upd H s.heap.objs.size (.tup [.int (i : Nat), x])) h'' s.heap.objs.size (.tup [.int (i : Nat), x]) :=
      ⟨by show 2 ≤ sizeLine; decide, [.int i tk, y], .cons ⟨_, rfl⟩ (.cons ru .nil), ⟨_, hT2, rfl, _, rfl⟩⟩
    have I1 : Inv X pins σ (upd H s.heap.objs.size (.tup [.int (i : Nat), x])) { s with heap := h'', toks := tk + 1 } :=
      I.turnedNew (ch := [e, it]) (fun b ob hb q => (sb.2 b (fun z => hb (by simp [z]))).trans (hk b ob (fun z => hb (by simp [z])) (fun z => hb (by simp [z])) q)) hf (Nat.le_refl _) new
    refine ⟨.ref s.heap.objs.size, _, I1, rfl, ⟨_, x, rfl, I.hok.fresh (Nat.le_refl _), rfl, fun ys hy => by rw [I.tuple_inj hy hq]; exact hx⟩, ⟨⟨y, ?_⟩, st'.1.at fun o q => (sb.2 it (Ne.symm hne)).trans q, hne, h1, h2⟩, fun b hb => ?_⟩
    · have e1 : ((i + 1 : Nat) : Int) = (i : Int) + 1 := by omega
      rw [e1]
      exact he'
    · rw [upd_ne (Nat.ne_of_lt (lts b hb))]
      exact (hf b hb).1
  done := by
    intro X hP hw hK hc i pins s σ H E I hf st hg
    subst hP hw hK
    obtain ⟨⟨old, he⟩, hit, hne, h1, h2⟩ := st
    obtain ⟨xs, hq, hx⟩ := hg
    obtain ⟨its, rv, p, hz⟩ := I.tuple hq
    have hh : X.A.in1.handled = none := I.ok.hd hc
    have el : i = its.toArray.size := by
      have := rv.length
      simp
      omega
    obtain ⟨f0, f1, f2, f3, f4, f5⟩ := hf it (by simp)
    subst el
    exact wpAny_pyNext_enum_endD (Draws.tuple (prog := X.prog) (w := X.w) hh it a h1 its.toArray) he ⟨hit, p⟩ fun h' eb => ⟨rfl, I.turned (t' := s.toks) (fun b o hb q => eb b o hb q) f0 f1 f3 f4 f5⟩
  self := fun A i s Q E st h => by
    obtain ⟨⟨_, he⟩, _⟩ := st
    exact wpAny_pyIter_enum he h
/-- the walk of enumerate(x): by x's kind -/
def ItN (K : PySem.W.Frag) (H : Hp) (a : Addr) (xs : List V) (J : It) : Prop := (J = Ite K a ∧ H a = some (.lst xs)) ∨ (J = Itu K a ∧ H a = some (.tup xs))
def iEnS (K : PySem.W.Frag) (ta : TA) : TI := fun σ H R => ta σ H fun vs H1 => ∃ a xs, vs = [.ref a] ∧ Sq H1 a xs ∧ ∀ J, ItN K H1 a xs J → R J H1
theorem pi_enS {X : Cx} {e : Expr} {ta : TA} {p pos tpos : Pos} {elts : List Expr} {kk : Nat} (hm : X.mg "enumerate" = none) (ha : PA X [e] ta) (hg : Gl X "enumerate" := by rfl) (hs : starEach [e] X.env = [(false, eval e X.env)] := by rfl) :
    PI X (.Tuple elts kk tpos) (.Call (.Name "enumerate" p) [e] [] pos) (iEnS X.K ta) := by
  constructor
  intro pins s σ H R I h
  refine Call_ (ld_blt I hg hm boot_enumerate (PyProof.Rows.callWith_type1 (thn (ha.run pos pins s σ H _ I h) ?_) hs rfl))
  rintro us s1 ⟨vs, H1, I1, r1, a, xs, rfl, hq, q⟩
  cases r1 with
  | @cons _ u _ _ ra rr =>
    cases rr
    cases (show u = Value.ref a from ra)
    have new : ∀ b ∈ [s1.heap.objs.size + 1, s1.heap.objs.size], FpOk X pins H1 b := by
      intro b hb
      have hle : s1.heap.objs.size ≤ b := by
        rcases List.mem_cons.mp hb with z | hb
        · rw [z]; exact Nat.le_succ _
        · rw [List.mem_singleton.mp hb]; exact Nat.le_refl _
      exact I1.fpOk hle (I1.hok.fresh hle)
    rcases hq with hq | hq
    · obtain ⟨ws, _, pl, _⟩ := I1.list (SqL.of hq)
      refine enum_call1 (begins_list a ws.toArray) pl.isList fun h' he hi hk => wpAny_pyIter_enum he ?_
      exact ⟨_, _, _, _, H1, rfl, I1.kept (t' := s1.toks) hk, turn_enum a _ _, ⟨⟨_, he⟩, ⟨_, hi, rfl, rfl⟩, Nat.succ_ne_self _⟩, new, q _ (.inl ⟨rfl, hq⟩)⟩
    · obtain ⟨ws, _, pt, _⟩ := I1.tuple (SqT.of hq)
      have pt' : s1.heap.IsTuple a ws.toArray := pt
      have lt : a < s1.heap.objs.size := I1.hok.lt hq
      refine enum_call1 (begins_tuple a ws.toArray) pt' fun h' he hi hk => wpAny_pyIter_enum he ?_
      exact ⟨_, _, _, _, H1, rfl, I1.kept (t' := s1.toks) hk, turn_enumT a _ _, ⟨⟨_, he⟩, ⟨_, hi, rfl, rfl⟩, Nat.succ_ne_self _, Nat.ne_of_lt lt, Nat.ne_of_lt (Nat.lt_succ_of_lt lt)⟩, new, q _ (.inr ⟨rfl, hq⟩)⟩
/-- for i, x in enumerate(..): by a state P, turn by turn -/
theorem for_enS {K : PySem.W.Frag} {J : It} {g : TG} {tb : TS} {D : Ends} {a : Addr} {xs : List V} {σ : L2.St} {H : Hp} (hJ : ItN K H a xs J) (P : Nat → L2.St → Hp → Prop) (h0 : P 0 σ H) (hl : ∀ i σ2 H2, P i σ2 H2 → H2 a = H a)
    (hs : ∀ i x σ H T, xs[i]? = some x → P i σ H → H T = none → g (.ref T) σ (upd H T (.tup [.int (i : Nat), x])) fun σ2 H2 => tb { D with nx := P (i + 1), ct := P (i + 1), bk := D.nx } σ2 H2) (hd : ∀ σ H, P xs.length σ H → D.nx σ H) :
    ∃ W : Nat → Nat → L2.St → Hp → Prop, (∃ m, W 0 m σ H) ∧ ∀ i m σ H, W i m σ H →
      (J.stop i H ∧ D.nx σ H) ∨ (J.go i H ∧ ∃ N : L2.St → Hp → Prop, (∀ σ' H', N σ' H' → ∃ m', m' < m ∧ W (i + 1) m' σ' H') ∧ ∀ x H', J.yld i H x H' → g x σ H' fun σ2 H2 => tb { D with nx := N, ct := N, bk := D.nx } σ2 H2) := by
  refine ⟨fun i m σ H => m + i = xs.length ∧ P i σ H, ⟨xs.length, by omega, h0⟩, ?_⟩
  rintro i m σ2 H2 ⟨e, p⟩
  have ea := hl i σ2 H2 p
  by_cases hi : i < xs.length
  · have hx : xs[i]? = some xs[i] := List.getElem?_eq_getElem hi
    refine .inr ⟨?_, P (i + 1), fun σ' H' p' => ⟨m - 1, by omega, by omega, p'⟩, fun v H' y => ?_⟩
    · rcases hJ with ⟨rfl, z⟩ | ⟨rfl, z⟩
      · exact ⟨xs, _, SqL.of (ea.trans z), hx⟩
      · exact ⟨xs, _, SqT.of (ea.trans z), hx⟩
    · have y' : ∃ T x, v = .ref T ∧ H2 T = none ∧ H' = upd H2 T (.tup [.int (i : Nat), x]) ∧ xs[i]? = some x := by
        rcases hJ with ⟨rfl, z⟩ | ⟨rfl, z⟩
        · obtain ⟨T, x, h1, h2, h3, h4⟩ := y
          exact ⟨T, x, h1, h2, h3, h4 xs (SqL.of (ea.trans z))⟩
        · obtain ⟨T, x, h1, h2, h3, h4⟩ := y
          exact ⟨T, x, h1, h2, h3, h4 xs (SqT.of (ea.trans z))⟩
      obtain ⟨T, x, rfl, nT, rfl, hx'⟩ := y'
      exact hs i x σ2 H2 T hx' p nT
  · have e2 : i = xs.length := by omega
    subst e2
    refine .inl ⟨?_, hd σ2 H2 p⟩
    rcases hJ with ⟨rfl, z⟩ | ⟨rfl, z⟩
    · exact ⟨xs, SqL.of (ea.trans z), Nat.le_refl _⟩
    · exact ⟨xs, SqT.of (ea.trans z), rfl⟩
end WR

/-! Further rules: d[k] as an index, extend by a tuple, sorted(d) of any number of ints. -/
namespace PySem.AutoSeq1
set_option maxRecDepth 8000 in
theorem ext_tup (l : Addr) (items : Array Value) (n : Nat) (b : Addr) (items2 : Array Value) (n2 : Nat) (dd : Option Addr) (sl : Array (Option Value)) (hs0 : ¬(!items.isEmpty && Builtin.List.listTooLong (items.size + items2.size)) = true) (hs1 : items.size ≤ sizeLine) (hs2 : items.size + items2.size ≤ sizeLine + 1) :
    Meets (Builtin.«list.extend» ⟨[.ref l, .ref b], []⟩) (fun _ R s => s.heap.get? l = some { cls := .type "list", dict := none, data := .seq items n, slots := #[] } ∧ s.heap.get? b = some { cls := .type "tuple", dict := dd, data := .seq items2 n2, slots := sl } ∧ R (.ok (.ret Value.none)) { s with heap := s.heap.update l (Obj.mapSeq fun x => x ++ items2), toks := s.toks }) :=
  .of_wp fun prog w A R s h => by
    obtain ⟨hp, g, d, tk, os⟩ := s; obtain ⟨hl, hb, h⟩ := h; have f1 := idx_int; have f2 := sub_tuple_tuple; have f3 := sub_list_list; have f4 := sub_tuple_list; have f5 := sub_list_tuple;
    have hz' : (items ++ items2).size ≤ sizeLine + 1 := by rw [Array.size_append]; exact hs2
    wp_walk using (wpAny_updateSeq hl rfl (hz := hs1) (_hz' := hz')), wpAny_loadPart' hl, wpAny_loadPart' hb; exact ⟨_, rfl, h⟩
end PySem.AutoSeq1
namespace WR
open PySem PySem.Spec PyProof.Rows L2
section
variable {X : Cx}
def rIxK : R2 := fun x y H Q => ∃ a v, x = .ref a ∧ DGet H a y (some v) ∧ Q v H
theorem ix_K (hu : X.A.units + 1 < cLine) : IxR X rIxK := by
  intro value slice pins s σ H x y v u Q I rx ry h hs
  obtain ⟨a, z, rfl, g, q⟩ := h
  obtain rfl : v = Value.ref a := rx
  have hT := dict_typeIs I g
  unfold subscriptTail
  refine wpAny_bind ?_
  rw [getitemInPython_of_ne hT.not_modules]
  refine wpAny_bind (wpAny_specialOf hT PySem.F.slot_dict_getitem.lookup ?_)
  have fin : wpAny (model X.prog X.w) X.A (subscripted slice false (.ref a) u) (fun r s₃ => wpAny (model X.prog X.w) X.A (letTemporaryGo value (.ref a) r >>= fun _ => pure r) (EP X pins σ Q) X.xe s₃) X.xe s := by
    rw [hs]
    exact wpAny_operating (wpAny_mono (d_getItem hu I g ry fun w' s3 I3 rw' => ⟨z, H, I3, rw', q⟩) (fun r s₃ h₃ => wpAny_bind (wpAny_letTemporaryGo (wpAny_pure h₃))) fun _ _ x => x)
  first
    | exact wpAny_pure (wpAny_bind fin)
    | exact wpAny_bind (wpAny_pure (wpAny_bind fin))
/-- numbers told of numbers: a list of them, or a dict -/
def Pl (H : Hp) (x : V) (f : Nat → Nat) (k : Nat) : Prop := (∃ ps : List Nat, Dr All H x (.list (ps.map fun (k : Nat) => PyData.int (k : Int))) ∧ ps[k]? = some (f k)) ∨ ∃ a kvs, x = .ref a ∧ H a = some (.dK kvs) ∧ valV kvs (Sum.inl (k : Int)) = some (.int (f k : Nat))
theorem Pl.sm {H H' : Hp} {x : V} {f : Nat → Nat} {k : Nat} (s : Sm H H') (h : Pl H x f k) : Pl H' x f k := by
  rcases h with ⟨ps, r, e⟩ | ⟨a, kvs, rfl, e, g⟩
  · exact .inl ⟨ps, r.sm s, e⟩
  · exact .inr ⟨a, kvs, rfl, s _ _ e, g⟩
def rIxP (f : Nat → Nat) : R2 := fun x y H Q => ∃ k : Nat, y = .int (k : Int) ∧ Pl H x f k ∧ Q (.int (f k : Nat)) H
theorem ix_P (hu : X.A.units + 1 < cLine) (f : Nat → Nat) : IxR X (rIxP f) := by
  intro value slice pins s σ H x y v u Q I rx ry h hs
  obtain ⟨k, rfl, p, q⟩ := h
  rcases p with ⟨ps, r, e⟩ | ⟨a, kvs, rfl, e, g⟩
  · exact ix_D value slice pins s σ H x _ v u Q I rx ry ⟨_, k, .int (f k : Nat), r, rfl, rfl, by show (ps.map _)[k]? = _; rw [List.getElem?_map, e]; rfl, fun v rv => by cases rv; exact q⟩ hs
  · refine ix_K hu value slice pins s σ H _ _ v u Q I rx ry ⟨a, _, rfl, ?_, q⟩ hs
    rw [← g]
    exact DGet.k (k := Sum.inl (k : Int)) e
/-- l.extend(xs), xs a list or a tuple -/
def rExtS : V → List V → Hp → VK → Prop := fun x vs H Q => ∃ l b xs zs, x = .ref l ∧ vs = [.ref b] ∧ H l = some (.lst xs) ∧ Sq H b zs ∧ xs.length + zs.length ≤ sizeLine ∧ Q .non (upd H l (.lst (xs ++ zs)))
theorem mt_extS : MtM X "list.extend" rExtS := by
  intro pins s σ H x vs v us Q I rx rv h
  obtain ⟨l, b, xs, zs, rfl, rfl, hH, hB, hz, q⟩ := h
  rcases hB with hB | hB
  · exact mt_extend pins s σ H _ _ v us Q I rx rv ⟨l, b, xs, zs, rfl, rfl, hH, hB, hz, q⟩
  cases rx
  obtain ⟨u, rfl, ru⟩ := rv.one
  cases ru
  obtain ⟨z, its, n, r, hl, e⟩ := I.lstM hH
  obtain ⟨its2, r2, ⟨o, ho, hc, n2, hd⟩, z2⟩ := I.tuple (SqT.of hB)
  have l1 := r.length
  have l2 := r2.length
  have hsz : its.toArray.size + its2.toArray.size ≤ sizeLine := by rw [List.size_toArray, List.size_toArray]; omega
  have hlong : ¬ (!its.toArray.isEmpty && Builtin.List.listTooLong (its.toArray.size + its2.toArray.size)) = true := by
    have : Builtin.List.listTooLong (its.toArray.size + its2.toArray.size) = false := by
      unfold Builtin.List.listTooLong
      exact decide_eq_false (by omega)
    rw [this, Bool.and_false]
    exact Bool.false_ne_true
  obtain ⟨oc, od, odt, osl⟩ := o
  cases hc
  cases hd
  refine call_meets F.slot_list_extend ⟨_, e, rfl⟩ F.entry_list_extend (F.args_list_extend_2 _ _)
    (AutoSeq1.ext_tup l its.toArray n b its2.toArray n2 od osl hlong (by rw [List.size_toArray]; omega) (by omega)) ⟨e, ho, ?_⟩
  refine ⟨.non, _, I.lset (its' := its ++ its2) hH e (by simp) (r.append r2) ?_, rfl, q⟩
  rw [List.length_append]
  omega
/-- sorted(d) of a dict whose keys are ints, any number of them -/
theorem call_sortedDL (hcalm : X.calm = true) : CallR X (.builtin "sorted") (fun xs H Q => ∃ (a : Addr) (kvs : List (Key × V)) (ks : List Int), xs = [.ref a] ∧ H a = some (.dK kvs) ∧ kvs.map (·.1) = ks.map Sum.inl ∧ ks.length ≤ sizeLine ∧
    ∀ (ys : List Int) (p : Addr), ys.Perm ks → ys.Pairwise (· ≤ ·) → H p = none → Q (.ref p) (upd H p (.lst (ys.map V.int)))) := by
  intro pins s σ H xs us Q I r q
  obtain ⟨a, kvs, ks, ex, hd, hks, h64, q⟩ := q
  subst ex
  obtain ⟨u, eu, rx⟩ := vals1 r
  subst eu
  cases rx
  obtain ⟨z, lo, vs, rel, dd⟩ := dk_rd I.hok (.inl hd)
  obtain ⟨ep, hat⟩ := dd.dictAt
  have hkeys : vs.map (·.1) = ks.map Sum.inl := rel.keys.symm.trans hks
  have hl : vs.length = ks.length := by
    have e := congrArg List.length hkeys
    rw [List.length_map, List.length_map] at e
    exact e
  have h16 : vs.length ≤ sizeLine := by rw [hl]; exact h64
  refine Calls.call_function_entry PyProof.Rows.kind_sorted PyProof.Rows.plain_sorted PyProof.Rows.entry_sorted (PyProof.Rows.args_sorted1 _) ?_
  unfold Builtin.«sorted»
  refine wpAny_bind (m := checkCount "sorted" 1 1 _) (wpAny_pure ?_)
  refine wpAny_bind (PySem.W.kdu_collect (A := X.A.in1) (PySem.W.kdl_dict (knd := mixKind X.prog X.w) (kvs := vs) (ep := ep) lo) (I.ok.hd hcalm) hat h16 fun h' tk acc hk hacc => ?_)
  have hal : acc.toList.length = ks.length := by rw [Array.length_toList, hacc.1, hl]
  have hS : IntsAre acc.toList ks := ints_each hal fun j v e => by
    obtain ⟨k, x, e1, e2⟩ := hacc.2 j v (by rw [← Array.getElem?_toList]; exact e)
    have e3 : (vs.map (·.1))[j]? = some k := by rw [List.getElem?_map, e1]; rfl
    rw [hkeys, List.getElem?_map] at e3
    cases e4 : ks[j]? with
    | none => rw [e4] at e3; cases e3
    | some y =>
      rw [e4] at e3
      have e5 : Sum.inl y = k := Option.some.inj e3
      subst e5
      rcases keyIs_shape (show keyIs (Sum.inl y) v = true from e2) with ⟨i, t, ek, ev⟩ | ⟨z, t, ek, ev⟩
      · cases ek
        exact ⟨y, t, rfl, ev⟩
      · cases ek
  have I1 : Inv X pins σ H { s with heap := h', toks := tk } := I.kept hk
  refine wpAny_bind (wpAny_newList ?_ (by rw [hal]; exact h64))
  have hoL : (h'.push (seqObj "list" acc.toList.toArray 0)).get? h'.objs.size = some (seqObj "list" acc.toList.toArray 0) := Heap.get?_push_size _ rfl
  show wpAny _ _ _ _ _ { s with heap := h'.push (seqObj "list" acc.toList.toArray 0), toks := tk }
  refine wpAny_bind (wpAny_holding (wpAny_call_entry PyProof.Rows.slot_list_sort ⟨_, hoL, rfl⟩ PyProof.Rows.entry_list_sort
    (SrtO.list_sort_ord (s := { s with heap := h'.push (seqObj "list" acc.toList.toArray 0), toks := tk }) SrtO.swo_int hoL (by rw [hal]; exact h64) (fun h2 => SrtO.ints_sortable hS h2) fun out h1 h2 => ⟨_, rfl, ?_⟩) (PyProof.Rows.args_list_sort _)))
  obtain ⟨k1, k2, k3⟩ := SrtO.ints_out hS h1 h2
  obtain ⟨e', he'⟩ := PyProof.Rows.sortedHeap_at (vs := acc.toList) (out := out.toArray) hoL
  have hlen : ((out.map SrtO.iv).map V.int).length ≤ sizeLine := by
    rw [List.length_map, k2.length_eq]
    exact h64
  refine wpAny_pure ⟨_, rfl, .ref h'.objs.size, upd H h'.objs.size (.lst ((out.map SrtO.iv).map V.int)), I1.laid (t' := tk) (fun b u e => ?_) (Nat.le_refl _)
    (show ObjOk X.prog X.w _ _ _ (.lst ((out.map SrtO.iv).map V.int)) from ⟨hlen, out, e', vals_of_ints k1, he'⟩), rfl, q _ _ k2 k3 (I1.hok.fresh (Nat.le_refl _))⟩
  have hb : b < h'.objs.size := Heap.lt_size e
  rw [PyProof.Rows.sortedHeap_old (Nat.ne_of_lt hb) (by rw [size_push']; exact Nat.lt_succ_of_lt hb)]
  exact Heap.get?_push_of_some _ e
end
end WR

/-! d.setdefault(k, x) of a dict whose keys are nested tuples. -/
namespace WR
open PySem PySem.Spec PyProof.Rows L2
section
variable {X : Cx}
def tSdRD (P : Program) (w : World) (td tk tv : TE) : TE := fun σ H Q => td σ H fun x H1 => ∃ d, x = .ref d ∧ (∃ ys, RD P w H1 d ys) ∧ tk σ H1 fun y H2 => tv σ H2 fun z H3 => ∃ (a : Addr) (k : PyData) (xs : List Ent), y = .ref a ∧ Dr All H3 (.ref a) k ∧ Kd k ∧ RD P w H3 d xs ∧ xs.length < sizeLine ∧
  (∀ v, lookE xs k = some v → Q v H3) ∧ (lookE xs k = none → Q z (upd H3 d (rdO P w d (xs ++ [(k, a, z)]))))
theorem pe_sdRD {o e f : Expr} {apos cpos : Pos} {td tk tv : TE} (hu : X.A.units + 64 < cLine) (ho : PE X o td) (he : PE X e tk) (hf : PE X f tv) (m : M2 X o "setdefault" apos e f cpos) : PE X (.Call (.Attribute o "setdefault" apos) [e, f] [] cpos) (tSdRD X.prog X.w td tk tv) := by
  constructor
  intro pins s σ H Q I h
  refine wpAny_Call_method m.base m.few m.line PySem.F.plainAttrs_dict PySem.F.slot_dict_setdefault PySem.F.type_dict_setdefault (thn (ho.run pins s σ H _ I h) ?_)
  rintro u s1 ⟨x, H1, I1, rx, d, rfl, ⟨ys0, hd0⟩, q1⟩
  cases (show u = Value.ref d from rx)
  obtain ⟨_, ys1, _, dd1⟩ := hd0.of I1
  refine ⟨dd1.typeIs, fun b q => ?_, ?_⟩
  · cases q
    obtain ⟨o, _, _, h1, h2, _⟩ := dd1
    exact ⟨o, h1, h2.2.1⟩
  rw [m.trees]
  refine Calls.callWith_builtin rfl (Calls.evalArgs_plain (Calls.spliced_cons (thn (he.run pins s1 σ H1 _ I1 q1) ?_)))
  rintro iv s2 ⟨y, H2, I2, ry, q2⟩
  refine Calls.spliced_cons (thn (hf.run pins s2 σ H2 _ I2 q2) ?_)
  rintro jv s3 ⟨z, H3, I3, rz, a, k, xs, rfl, rk, hk, hd, hz, qa, qb⟩
  cases (show iv = Value.ref a from ry)
  refine Calls.spliced_nil ?_
  obtain ⟨hs, ys, pr, dd⟩ := hd.of I3
  have hzy : ys.length ≤ sizeLine := by
    rw [← Paired.length pr]
    omega
  have r := atKey_look pr k
  refine call_setdefault_heap (knd := nestedKind X.prog X.w) (hsz := hzy) (roomK hu) (hk.is I3 rk) hs dd (fun p hp => ?_) fun hn h' dd' sb => ?_
  · rw [hp] at r
    cases y : lookE xs k with
    | none => rw [y] at r; exact r.elim
    | some v =>
      rw [y] at r
      exact ⟨v, H3, I3.tok _, r, qa v y⟩
  · have hl : lookE xs k = none := by
      have := atKey_some pr k
      rw [hn] at this
      cases y : lookE xs k with
      | none => rfl
      | some v => rw [y] at this; cases this
    rw [storedH_new hn] at dd'
    have mu : Mut (H3 d) := by
      rcases hd.at_ with ⟨_, e⟩ | e
      · rw [e]; exact trivial
      · rw [e]; exact trivial
    obtain ⟨o, es, ep, h1, h2, h3, h4, h5, h6⟩ := dd'
    refine ⟨z, _, d_write I3 mu sb ⟨o, h1⟩ ?_, rz, qb hl⟩
    refine ⟨⟨hs, ys ++ [(nk k, a, jv)], Paired.app1 ⟨rfl, rfl, rz⟩ pr, ⟨o, es, ep, h1, h2, h3, h4⟩, h6⟩, ⟨o, h1⟩, fun h1' h2' z st => ?_⟩
    obtain ⟨z1, ys', z2, ⟨o', es', ep', g1, g2, g3, g4⟩, z3⟩ := z
    exact ⟨z1, ys', z2, ⟨o', es', ep', st _ g1, g2, g3, g4⟩, z3⟩
end
end WR

/-! sorted(pairs), their firsts lists of bools, all unlike. -/
namespace WR
open PySem PySem.Spec PyProof.Rows L2
/-- the order of lists of bools -/
def lexB2 : List Bool → List Bool → Bool
  | [], [] => false
  | [], _ :: _ => true
  | _ :: _, [] => false
  | a :: as, b :: bs => if a = b then lexB2 as bs else (!a && b)
theorem lexB2_irr : ∀ l : List Bool, lexB2 l l = false
  | [] => rfl
  | a :: l => by
    show (if a = a then lexB2 l l else _) = false
    rw [if_pos rfl]
    exact lexB2_irr l
theorem lexB2_asym : ∀ {l m : List Bool}, lexB2 l m = true → lexB2 m l = false
  | [], [], h => by cases h
  | [], _ :: _, _ => rfl
  | _ :: _, [], h => by cases h
  | a :: l, b :: m, h => by
    unfold lexB2 at h ⊢
    by_cases e : a = b
    · rw [if_pos e] at h
      rw [if_pos e.symm]
      exact lexB2_asym h
    · rw [if_neg e] at h
      rw [if_neg (Ne.symm e)]
      cases a <;> cases b <;> simp at h ⊢
theorem lexB2_tot : ∀ {l m : List Bool}, lexB2 l m = false → lexB2 m l = false → l = m
  | [], [], _, _ => rfl
  | [], _ :: _, h, _ => by cases h
  | _ :: _, [], _, h => by cases h
  | a :: l, b :: m, h1, h2 => by
    unfold lexB2 at h1 h2
    by_cases e : a = b
    · rw [if_pos e] at h1
      rw [if_pos e.symm] at h2
      rw [e, lexB2_tot h1 h2]
    · rw [if_neg e] at h1
      rw [if_neg (Ne.symm e)] at h2
      cases a <;> cases b <;> simp at h1 h2 e
theorem lexB2_trans : ∀ {l m n : List Bool}, lexB2 l m = true → lexB2 m n = true → lexB2 l n = true
  | [], [], [], h1, _ => by cases h1
  | [], _ :: _, [], _, h2 => by cases h2
  | [], _, _ :: _, _, _ => rfl
  | _ :: _, [], _, h1, _ => by cases h1
  | _ :: _, _ :: _, [], _, h2 => by cases h2
  | a :: l, b :: m, c :: n, h1, h2 => by
    unfold lexB2 at h1 h2 ⊢
    by_cases e1 : a = b
    · rw [if_pos e1] at h1
      by_cases e2 : b = c
      · rw [if_pos e2] at h2
        rw [if_pos (e1.trans e2)]
        exact lexB2_trans h1 h2
      · rw [if_neg e2] at h2
        rw [if_neg (by rw [e1]; exact e2), e1]
        exact h2
    · rw [if_neg e1] at h1
      by_cases e2 : b = c
      · rw [if_pos e2] at h2
        rw [if_neg (by rw [← e2]; exact e1), ← e2]
        exact h1
      · rw [if_neg e2] at h2
        cases a <;> cases b <;> cases c <;> simp at h1 h2 e1 e2 ⊢
theorem swo_b2 {α : Type} (k : α → List Bool) : SrtO.Swo fun v u => lexB2 (k v) (k u) := by
  refine ⟨fun x y h => lexB2_asym h, fun x y z h1 h2 => ?_⟩
  cases e : lexB2 (k z) (k x) with
  | false => rfl
  | true =>
    cases e1 : lexB2 (k x) (k y) with
    | true =>
      have := lexB2_trans e e1
      rw [h2] at this
      cases this
    | false =>
      have := lexB2_tot e1 h1
      rw [this, h2] at e
      cases e
/-- by the library's words -/
theorem firstLt_lex (fin : Bool) : ∀ (l m : List Bool) (i : Nat) (e r : Nat → Bool), (∀ j (h1 : j < l.length) (h2 : j < m.length), e (i + j) = (l[j] == m[j])) → (∀ j (h1 : j < l.length) (h2 : j < m.length), r (i + j) = (!l[j] && m[j])) → fin = decide (l.length < m.length) →
    SeqAt.firstLt e r fin (List.range' i (min l.length m.length)) = lexB2 l m
  | [], [], i, e, r, _, _, hf => by rw [hf]; rfl
  | [], _ :: _, i, e, r, _, _, hf => by
    rw [hf]
    show SeqAt.firstLt e r _ (List.range' i (min 0 _)) = true
    rw [Nat.zero_min]
    show decide (0 < _) = true
    simp
  | _ :: _, [], i, e, r, _, _, hf => by
    rw [hf]
    show SeqAt.firstLt e r _ (List.range' i (min _ 0)) = false
    rw [Nat.min_zero]
    rfl
  | a :: l, b :: m, i, e, r, he, hr, hf => by
    have ih := firstLt_lex fin l m (i + 1) e r (fun j h1 h2 => by have := he (j + 1) (by simp; omega) (by simp; omega); rw [show i + (j + 1) = i + 1 + j by omega] at this; exact this) (fun j h1 h2 => by have := hr (j + 1) (by simp; omega) (by simp; omega); rw [show i + (j + 1) = i + 1 + j by omega] at this; exact this) (by rw [hf]; simp)
    have e0 := he 0 (by simp) (by simp)
    have r0 := hr 0 (by simp) (by simp)
    rw [Nat.add_zero] at e0 r0
    rw [show min (a :: l).length (b :: m).length = min l.length m.length + 1 by simp [Nat.succ_min_succ], List.range'_succ]
    unfold lexB2
    by_cases h : a = b
    · rw [if_pos h, SeqAt.firstLt_yes (by rw [e0]; simpa using h)]
      exact ih
    · rw [if_neg h, SeqAt.firstLt_no (by rw [e0]; simpa using h), r0]
      rfl
/-! ### at the heap -/
def IsBl (h : Heap) (l : Addr) (bs : List Bool) : Prop := h.IsList l (bs.map Value.bool).toArray
/-- a pair whose first is a list of bools -/
def IsBp (h : Heap) (v : Value) (bs : List Bool) : Prop := ∃ (a : Addr) (o : Obj) (l : Addr) (w : Value) (n : Nat), v = .ref a ∧ h.get? a = some o ∧ o.cls = .type "tuple" ∧ o.data = .seq #[.ref l, w] n ∧ IsBl h l bs
section
variable {prog : Program} {w : World} {A : Around} {E : Value → Shared → Prop} {s : Shared}
theorem bl_at {bs : List Bool} {j : Nat} (h : j < (bs.map Value.bool).toArray.size) : ∃ h' : j < bs.length, (bs.map Value.bool).toArray[j] = Value.bool bs[j] := by
  have h' : j < bs.length := by simpa using h
  exact ⟨h', by simp⟩
theorem rc_bool (p q : Bool) : SeqAt.RcLt A s (.bool p) (.bool q) (!p && q) := fun prog w E Q h => by
  refine PyProof.Rows.lt_bool ?_
  have e : decide (PyProof.Rows.b2i p < PyProof.Rows.b2i q) = (!p && q) := by cases p <;> cases q <;> decide
  rw [e]
  exact h
/-- two such lists: unlike ones are unlike, and their order -/
theorem bl_eq {l m : Addr} {bs cs : List Bool} (hl : IsBl s.heap l bs) (hm : IsBl s.heap m cs) (hu : A.units < cLine) (hne : ¬ bs = cs) : SeqAt.EqAt A s (.ref l) (.ref m) false := by
  have hlm : l ≠ m := fun z => by
    subst z
    obtain ⟨o, h1, _, n, h2⟩ := hl
    obtain ⟨o', h3, _, n', h4⟩ := hm
    rw [h1] at h3
    cases h3
    rw [h2] at h4
    have h5 : (bs.map Value.bool).toArray = (cs.map Value.bool).toArray := by injection h4
    have h6 : bs.map Value.bool = cs.map Value.bool := by simpa using h5
    exact hne (List.map_inj_right (fun a b h => by injection h) |>.mp h6)
  refine SeqAt.EqAt.of_refs hlm ?_
  by_cases hz : bs.length = cs.length
  · have := SeqAt.RcAt.lists (A := A) (s := s) (e := fun j => bs.getD j false == cs.getD j false) hl hm (by simpa using hz) hu (fun j h1 h2 => by
      obtain ⟨h1', e1⟩ := bl_at h1
      obtain ⟨h2', e2⟩ := bl_at h2
      rw [e1, e2]
      have := SeqAt.EqAt.bool_bool (A := A.in1) (s := s) bs[j] cs[j]
      rw [List.getD_eq_getElem?_getD, List.getD_eq_getElem?_getD, List.getElem?_eq_getElem h1', List.getElem?_eq_getElem h2']
      exact this)
    have e : (List.range (bs.map Value.bool).toArray.size).all (fun j => bs.getD j false == cs.getD j false) = false := by
      rw [← Bool.not_eq_true, List.all_eq_true]
      intro h
      refine hne (List.ext_getElem hz fun j h1 h2 => ?_)
      have := h j (List.mem_range.mpr (by simpa using h1))
      rw [List.getD_eq_getElem?_getD, List.getD_eq_getElem?_getD, List.getElem?_eq_getElem h1, List.getElem?_eq_getElem h2] at this
      simpa using this
    rw [e] at this
    exact this
  · exact SeqAt.RcAt.lists_lengths hl hm (by simpa using hz) hu
theorem bl_lt {l m : Addr} {bs cs : List Bool} {Q : Bool → Shared → Prop} (hl : IsBl s.heap l bs) (hm : IsBl s.heap m cs) (hu : A.units < cLine) (h : Q (lexB2 bs cs) s) : wpAny (model prog w) A (oneLt' true (.ref l) (.ref m)) Q E s := by
  obtain ⟨o, ho, hc, n, hd⟩ := id hl
  rw [oneLt'_eq]
  simp only [if_true]
  refine wpAny_bind (wpAny_cRoomFor hu ?_)
  refine wpAny_bind (wpAny_callSpecialIfBound?_slot ⟨o, ho, hc⟩ F.slot_list_lt (SeqAt.call_list_lt (e := fun j => bs.getD j false == cs.getD j false) (r := fun j => !bs.getD j false && cs.getD j false) hl hm (fun j h1 h2 => ?_) (fun j h1 h2 _ => ?_) ?_))
  · obtain ⟨h1', e1⟩ := bl_at h1
    obtain ⟨h2', e2⟩ := bl_at h2
    rw [e1, e2, List.getD_eq_getElem?_getD, List.getD_eq_getElem?_getD, List.getElem?_eq_getElem h1', List.getElem?_eq_getElem h2']
    exact SeqAt.EqAt.bool_bool bs[j] cs[j]
  · obtain ⟨h1', e1⟩ := bl_at h1
    obtain ⟨h2', e2⟩ := bl_at h2
    rw [e1, e2, List.getD_eq_getElem?_getD, List.getD_eq_getElem?_getD, List.getElem?_eq_getElem h1', List.getElem?_eq_getElem h2']
    exact rc_bool bs[j] cs[j]
  · have e := firstLt_lex (decide ((bs.map Value.bool).toArray.size < (cs.map Value.bool).toArray.size)) bs cs 0 (fun j => bs.getD j false == cs.getD j false) (fun j => !bs.getD j false && cs.getD j false) (fun j h1 h2 => by
      rw [Nat.zero_add, List.getD_eq_getElem?_getD, List.getD_eq_getElem?_getD, List.getElem?_eq_getElem h1, List.getElem?_eq_getElem h2]
      rfl) (fun j h1 h2 => by
      rw [Nat.zero_add, List.getD_eq_getElem?_getD, List.getD_eq_getElem?_getD, List.getElem?_eq_getElem h1, List.getElem?_eq_getElem h2]
      rfl) (by simp)
    have e2 : min (bs.map Value.bool).toArray.size (cs.map Value.bool).toArray.size = min bs.length cs.length := by simp
    rw [e2, List.range_eq_range', e]
    exact wpAny_truthy_bool h
theorem bp_cmp {vs : List Value} {k : Value → List Bool} (hu : A.units + 8 < cLine) (hp : ∀ v ∈ vs, IsBp s.heap v (k v)) (inj : ∀ v ∈ vs, ∀ u ∈ vs, k v = k u → v = u) : SrtO.Cmp prog w A s (tuples' true) (fun p => p.1 ∈ vs) (SrtO.lt2 fun v u => lexB2 (k v) (k u)) := by
  intro p q hm hm'
  have h1 := hp _ hm
  have h2 := hp _ hm'
  have hin := inj _ hm _ hm'
  show wpAny (model prog w) A (keyLt' (tuples' true) p.1 q.1) (fun r s' => s' = s ∧ r = lexB2 (k p.1) (k q.1)) (fun _ _ => False) s
  generalize k p.1 = bs at h1 hin ⊢
  generalize k q.1 = cs at h2 hin ⊢
  obtain ⟨a, o, l, x, n, e, ho, hc, hd, hl⟩ := h1
  obtain ⟨a', o', l', x', n', e', ho', hc', hd', hl'⟩ := h2
  rw [e, e'] at hin ⊢
  refine PySem.W.kat_lt ho hd ho' hd' ?_
  show PySem.W.KatLex prog w A true (decide (2 < 2)) _ [(.ref l, .ref l'), (x, x')] 0 s
  by_cases hb : bs = cs
  · have ea := hin hb
    injection ea with ea
    subst ea
    rw [ho] at ho'
    cases ho'
    rw [hd] at hd'
    have e5 : (#[Value.ref l, x] : Array Value) = #[.ref l', x'] := by injection hd'
    have e6 : Value.ref l = .ref l' ∧ x = x' := by simpa using e5
    obtain ⟨e7, e8⟩ := e6
    injection e7 with e7
    subst e7 e8
    refine PySem.W.kat_cons (SeqAt.EqAt.same _ prog w _ _ (PySem.W.kat_yes (PySem.W.kat_cons (SeqAt.EqAt.same _ prog w _ _ (PySem.W.kat_yes (PySem.W.kat_nil ⟨rfl, ?_⟩))))))
    rw [hb, lexB2_irr]
    rfl
  · refine PySem.W.kat_cons (bl_eq hl hl' (by omega) hb prog w _ _ (PySem.W.kat_no ?_))
    exact bl_lt hl hl' (by omega) ⟨rfl, rfl⟩
theorem bp_firsts {h : Heap} {k : Value → List Bool} : ∀ {vs : List Value}, (∀ v ∈ vs, IsBp h v (k v)) → ∃ fs : List Value, PySem.W.KatTups h vs fs ∧ fs.length = vs.length ∧ ∀ f ∈ fs, ∃ (l : Addr) (o : Obj), f = Value.ref l ∧ h.get? l = some o ∧ o.cls = .type "list"
  | [], _ => ⟨[], PySem.W.KatTups.nil, rfl, fun _ hm => by simp at hm⟩
  | v :: vs, hp => by
    obtain ⟨fs, h1, h2, h3⟩ := bp_firsts (vs := vs) fun v' hm => hp v' (List.mem_cons_of_mem _ hm)
    obtain ⟨a, o, l, x, n, e, ho, hc, hd, ol, hol, hcl, _⟩ := hp v (List.mem_cons_self ..)
    subst e
    refine ⟨.ref l :: fs, PySem.W.KatTups.cons ho hc hd rfl h1, by rw [List.length_cons, List.length_cons, h2], fun f hm => ?_⟩
    rcases List.mem_cons.mp hm with rfl | hm
    · exact ⟨l, ol, rfl, hol, hcl⟩
    · exact h3 f hm
theorem bp_sortable {a : Addr} {vs : List Value} {k : Value → List Bool} (h0 : 0 < vs.length) (hu : A.units + 8 < cLine) (hp : ∀ h' : Heap, (∀ b o, b ≠ a → s.heap.get? b = some o → h'.get? b = some o) → ∀ v ∈ vs, IsBp h' v (k v)) (inj : ∀ v ∈ vs, ∀ u ∈ vs, k v = k u → v = u) :
    SrtO.SortableO prog w A s a vs fun v u => lexB2 (k v) (k u) := by
  intro h' keep
  have hp' := hp h' keep
  obtain ⟨fs, h1, h2, h3⟩ := bp_firsts hp'
  refine ⟨tuples' true, fun Q E hq => ?_, bp_cmp hu hp' inj⟩
  refine PySem.W.kat_kind (T := .type "list") h1 (by omega) (fun f hm => ?_) (by rfl) ?_
  · obtain ⟨l, o, rfl, ho, hc⟩ := h3 f hm
    have z : PySem.W.Looks (model prog w) h' (typeOf (.ref l)) o.cls := (PySem.W.Looks.ld ho).andThen .now
    rw [hc] at z
    exact z
  · have e : (Value.type "list" != Value.type "tuple") = true := by first | decide +kernel | rfl | decide
    rw [e]
    exact hq
end
/-- sorted(xs), xs a list of pairs whose firsts are lists of bools, all unlike -/
abbrev BP : Type := Addr × Addr × V × List Bool
def rSortedB : List V → Hp → VK → Prop := fun vs H Q => ∃ (a : Addr) (qs : List BP), vs = [.ref a] ∧ H a = some (.lst (qs.map fun q => V.ref q.1)) ∧ (∀ q ∈ qs, H q.1 = some (.tup [.ref q.2.1, q.2.2.1]) ∧ H q.2.1 = some (.lst (q.2.2.2.map V.bl))) ∧
  (∀ p ∈ qs, ∀ q ∈ qs, p.2.2.2 = q.2.2.2 → p = q) ∧ ∀ (qs' : List BP) (p : Addr), qs'.Perm qs → qs'.Pairwise (fun x y => lexB2 y.2.2.2 x.2.2.2 = false) → H p = none → Q (.ref p) (upd H p (.lst (qs'.map fun q => V.ref q.1)))
theorem vals_bls : ∀ {bs : List Bool} {us : List Value}, Vals (bs.map V.bl) us → us = bs.map Value.bool
  | [], us, r => by
    rw [List.map_nil] at r
    cases r
    rfl
  | b :: bs, us, r => by
    rw [List.map_cons] at r
    cases r with
    | cons h q =>
      rw [List.map_cons, ← vals_bls q]
      cases (show _ = Value.bool b from h)
      rfl
theorem vals_refs : ∀ {as : List Addr} {us : List Value}, Vals (as.map V.ref) us → us = as.map Value.ref
  | [], us, r => by
    rw [List.map_nil] at r
    cases r
    rfl
  | a :: as, us, r => by
    rw [List.map_cons] at r
    cases r with
    | cons h q =>
      rw [List.map_cons, ← vals_refs q]
      cases (show _ = Value.ref a from h)
      rfl
theorem refs_vals : ∀ as : List Addr, Vals (as.map V.ref) (as.map Value.ref)
  | [] => .nil
  | _ :: as => .cons rfl (refs_vals as)
section
variable {X : Cx}
theorem cr_sortedB (hu : X.A.units + 64 < cLine) : CallR X (.builtin "sorted") rSortedB := by
  intro pins s σ H vs us Q I r h
  obtain ⟨a, qs, rfl, ha, hq, inj, q⟩ := h
  obtain ⟨its, rv, hl, hz⟩ := I.list (SqL.of ha)
  obtain ⟨u, rfl, ru⟩ := vals1 r
  obtain rfl : u = Value.ref a := ru
  have eits : its = qs.map fun q => Value.ref q.1 := by
    have := vals_refs (as := qs.map (·.1)) (by rw [List.map_map]; exact rv)
    rw [this, List.map_map]
    rfl
  -- addresses are unlike
  have ainj : ∀ p ∈ qs, ∀ q ∈ qs, p.1 = q.1 → p = q := fun p hp q hq' e => by
    obtain ⟨p1, p2⟩ := hq p hp
    obtain ⟨q1, q2⟩ := hq q hq'
    rw [e, q1] at p1
    have e2 : [V.ref q.2.1, q.2.2.1] = [V.ref p.2.1, p.2.2.1] := by injection (Option.some.inj p1)
    have e3 : q.2.1 = p.2.1 := by simp at e2; exact e2.1
    rw [← e3, q2] at p2
    have e4 : q.2.2.2.map V.bl = p.2.2.2.map V.bl := by injection (Option.some.inj p2)
    exact (inj q hq' p hp (List.map_inj_right (fun a b h => by injection h) |>.mp e4)).symm
  let g : BP → Value := fun q => Value.ref q.1
  let back : Value → Option BP := fun v => qs.find? fun q => decide (g q = v)
  have hback : ∀ q ∈ qs, back (g q) = some q := fun q hq' => by
    show qs.find? _ = some q
    cases e : qs.find? fun q' => decide (g q' = g q) with
    | none =>
      have := List.find?_eq_none.mp e q hq'
      simp at this
    | some q' =>
      have h1 := List.find?_some e
      have h2 := List.mem_of_find?_eq_some e
      have h3 : q'.1 = q.1 := by
        have : g q' = g q := by simpa using h1
        injection this
      rw [ainj q' h2 q hq' h3]
  let k : Value → List Bool := fun v => ((back v).map (·.2.2.2)).getD []
  have hk : ∀ q ∈ qs, k (g q) = q.2.2.2 := fun q hq' => by
    show ((back (g q)).map (·.2.2.2)).getD [] = _
    rw [hback q hq']
    rfl
  have isbp : ∀ (b : Addr) (h' : Heap), (∀ c o, c ≠ b → s.heap.get? c = some o → h'.get? c = some o) → (∀ c o, s.heap.get? c = some o → c ≠ b) → ∀ v ∈ qs.map g, IsBp h' v (k v) := fun b h' kp nb v hv => by
    obtain ⟨p, hp, rfl⟩ := List.mem_map.mp hv
    rw [hk p hp]
    obtain ⟨p1, p2⟩ := hq p hp
    obtain ⟨_, its2, r2, o, ho, hc, n, hd⟩ := I.hok _ _ p1
    obtain ⟨u1, u2, rfl, ri, rj⟩ := vals2 r2
    obtain rfl : u1 = Value.ref p.2.1 := ri
    obtain ⟨its3, r3, hl3, hz3⟩ := I.list (SqL.of p2)
    have e3 := vals_bls r3
    subst e3
    obtain ⟨ol, ho3, hc3, n3, hd3⟩ := hl3.isList
    exact ⟨p.1, o, p.2.1, u2, n, rfl, kp _ _ (nb _ _ ho) ho, hc, hd, ol, kp _ _ (nb _ _ ho3) ho3, hc3, n3, hd3⟩
  have hinj : ∀ v ∈ qs.map g, ∀ u ∈ qs.map g, k v = k u → v = u := fun v hv u hu' e => by
    obtain ⟨p, hp, rfl⟩ := List.mem_map.mp hv
    obtain ⟨p', hp', rfl⟩ := List.mem_map.mp hu'
    rw [hk p hp, hk p' hp'] at e
    rw [inj p hp p' hp' e]
  have hu2 : X.A.in1.in1.units + 8 < cLine := by
    show X.A.units + 1 + 1 + 8 < cLine
    omega
  subst eits
  refine SrtO.sorted_ord (swo_b2 k) hl.isList (by rw [← rv.length]; exact hz) (fun h2 h₁ b hb kk => ?_) fun out hs hb => ?_
  · refine bp_sortable (by omega) hu2 (fun h' keep => isbp b h' (fun c o hc e => keep c o hc (kk c o e).2) fun c o e => (kk c o e).1) hinj
  · have hmem : ∀ u ∈ out, ∃ p ∈ qs, g p = u ∧ back u = some p := fun u hu' => by
      obtain ⟨p, hp, rfl⟩ := List.mem_map.mp (hb.perm.mem_iff.mp hu')
      exact ⟨p, hp, rfl, hback p hp⟩
    obtain ⟨qs', e1, e2⟩ : ∃ qs' : List BP, out = qs'.map g ∧ ∀ p ∈ qs', p ∈ qs := by
      have : ∀ l : List Value, (∀ u ∈ l, ∃ p ∈ qs, g p = u ∧ back u = some p) → ∃ qs' : List BP, l = qs'.map g ∧ ∀ p ∈ qs', p ∈ qs := fun l => by
        induction l with
        | nil => exact fun _ => ⟨[], rfl, fun _ h => nomatch h⟩
        | cons u l ih =>
          intro h
          obtain ⟨p, hp, e, _⟩ := h u (List.mem_cons_self ..)
          obtain ⟨qs', e1, e2⟩ := ih fun v hv => h v (List.mem_cons_of_mem _ hv)
          refine ⟨p :: qs', by rw [List.map_cons, ← e1, e], fun p' hp' => ?_⟩
          rcases List.mem_cons.mp hp' with rfl | z
          · exact hp
          · exact e2 p' z
      exact this out hmem
    subst e1
    have hperm : qs'.Perm qs := by
      have h1 := hb.perm.map back
      rw [List.map_map, List.map_map] at h1
      have f1 : ∀ l : List BP, (∀ p ∈ l, p ∈ qs) → l.map (back ∘ g) = l.map some := fun l hl' => List.map_congr_left fun p hp => hback p (hl' p hp)
      rw [f1 qs' e2, f1 qs fun p hp => hp] at h1
      have h2 := h1.filterMap id
      have f2 : ∀ l : List BP, (l.map some).filterMap id = l := fun l => by
        rw [List.filterMap_map]
        exact List.filterMap_some
      rw [f2, f2] at h2
      exact h2
    have hsort : qs'.Pairwise (fun x y => lexB2 y.2.2.2 x.2.2.2 = false) := by
      have h1 : (qs'.map g).Pairwise (fun x y => lexB2 (k y) (k x) = false) := hs
      rw [List.pairwise_map] at h1
      refine h1.imp_of_mem fun {x y} hx hy h => ?_
      rw [hk y (e2 y hy), hk x (e2 x hx)] at h
      exact h
    have kp : ∀ b o, s.heap.get? b = some o → (sortedAll s.heap (qs.map fun q => Value.ref q.1) (qs'.map g).toArray).get? b = some o := fun b o e => sortedAll_old e
    have hd : s.heap.objs.size ≤ s.heap.objs.size + 1 := Nat.le_succ _
    obtain ⟨n, hn⟩ := sortedAll_at s.heap (qs.map fun q => Value.ref q.1) (qs'.map g).toArray
    have ev : Vals (qs'.map fun q => V.ref q.1) (qs'.map g) := by
      have := refs_vals (qs'.map (·.1))
      rw [List.map_map, List.map_map] at this
      exact this
    refine ⟨.ref (s.heap.objs.size + 1), upd H (s.heap.objs.size + 1) (.lst (qs'.map fun q => V.ref q.1)), I.laid (t' := s.toks) kp hd ⟨?_, qs'.map g, n, ev, hn⟩, rfl, q qs' _ hperm hsort (I.hok.fresh hd)⟩
    have l1 := hperm.length_eq
    have l2 := rv.length
    rw [List.length_map] at l2 ⊢
    rw [l1, l2]
    rw [List.length_map] at l2
    simpa using hz
end
end WR

namespace K8
open PySem PySem.Spec PyProof.Rows L2
def top (i : Nat) : Stmt := PySem.Challenge.pw_pagestrue_k11_whole_meanings_and_choices.main.body.getD i (.Pass ⟨0, 0, 0, 0⟩)
abbrev sBadWeb_I : Stmt := inClass (top 2) 0
def dBadWeb_I : He.DefD := ⟨("BadWeb", some "__init__"), "__init__", "BadWeb.__init__", defArgs sBadWeb_I, defBody sBadWeb_I, defScope sBadWeb_I, [], []⟩
abbrev sBadChoices_I : Stmt := inClass (top 3) 0
def dBadChoices_I : He.DefD := ⟨("BadChoices", some "__init__"), "__init__", "BadChoices.__init__", defArgs sBadChoices_I, defBody sBadChoices_I, defScope sBadChoices_I, [], []⟩
abbrev sRowTable_I : Stmt := inClass (top 5) 0
def dRowTable_I : He.DefD := ⟨("RowTable", some "__init__"), "__init__", "RowTable.__init__", defArgs sRowTable_I, defBody sRowTable_I, defScope sRowTable_I, [], []⟩
abbrev sRowTable_put_in : Stmt := inClass (top 5) 1
def dRowTable_put_in : He.DefD := ⟨("RowTable", some "put_in"), "put_in", "RowTable.put_in", defArgs sRowTable_put_in, defBody sRowTable_put_in, defScope sRowTable_put_in, [], []⟩
abbrev snamed_rows : Stmt := top 6
def dnamed_rows : He.DefD := ⟨("named_rows", none), "named_rows", "named_rows", defArgs snamed_rows, defBody snamed_rows, defScope snamed_rows, [], []⟩
abbrev sis_list : Stmt := top 9
def dis_list : He.DefD := ⟨("is_list", none), "is_list", "is_list", defArgs sis_list, defBody sis_list, defScope sis_list, [], []⟩
abbrev sis_number : Stmt := top 10
def dis_number : He.DefD := ⟨("is_number", none), "is_number", "is_number", defArgs sis_number, defBody sis_number, defScope sis_number, [], []⟩
abbrev sare_numbers : Stmt := top 11
def dare_numbers : He.DefD := ⟨("are_numbers", none), "are_numbers", "are_numbers", defArgs sare_numbers, defBody sare_numbers, defScope sare_numbers, [], []⟩
abbrev sis_place : Stmt := top 12
def dis_place : He.DefD := ⟨("is_place", none), "is_place", "is_place", defArgs sis_place, defBody sis_place, defScope sis_place, [], []⟩
abbrev sis_letter : Stmt := top 13
def dis_letter : He.DefD := ⟨("is_letter", none), "is_letter", "is_letter", defArgs sis_letter, defBody sis_letter, defScope sis_letter, [], []⟩
abbrev sis_figure : Stmt := top 14
def dis_figure : He.DefD := ⟨("is_figure", none), "is_figure", "is_figure", defArgs sis_figure, defBody sis_figure, defScope sis_figure, [], []⟩
abbrev sbegins_name : Stmt := top 15
def dbegins_name : He.DefD := ⟨("begins_name", none), "begins_name", "begins_name", defArgs sbegins_name, defBody sbegins_name, defScope sbegins_name, [], []⟩
abbrev sis_name : Stmt := top 16
def dis_name : He.DefD := ⟨("is_name", none), "is_name", "is_name", defArgs sis_name, defBody sis_name, defScope sis_name, [], []⟩
abbrev sfirst_wrong : Stmt := top 17
def dfirst_wrong : He.DefD := ⟨("first_wrong", none), "first_wrong", "first_wrong", defArgs sfirst_wrong, defBody sfirst_wrong, defScope sfirst_wrong, [], []⟩
abbrev srow_form : Stmt := top 19
def drow_form : He.DefD := ⟨("row_form", none), "row_form", "row_form", defArgs srow_form, defBody srow_form, defScope srow_form, [], []⟩
abbrev srow_why : Stmt := top 20
def drow_why : He.DefD := ⟨("row_why", none), "row_why", "row_why", defArgs srow_why, defBody srow_why, defScope srow_why, [], []⟩
abbrev sscanned_web : Stmt := top 21
def dscanned_web : He.DefD := ⟨("scanned_web", none), "scanned_web", "scanned_web", defArgs sscanned_web, defBody sscanned_web, defScope sscanned_web, [], []⟩
abbrev sjudged_web : Stmt := top 22
def djudged_web : He.DefD := ⟨("judged_web", none), "judged_web", "judged_web", defArgs sjudged_web, defBody sjudged_web, defScope sjudged_web, [], []⟩
abbrev sis_part : Stmt := top 23
def dis_part : He.DefD := ⟨("is_part", none), "is_part", "is_part", defArgs sis_part, defBody sis_part, defScope sis_part, [], []⟩
abbrev sis_meaning : Stmt := top 25
def dis_meaning : He.DefD := ⟨("is_meaning", none), "is_meaning", "is_meaning", defArgs sis_meaning, defBody sis_meaning, defScope sis_meaning, [], []⟩
abbrev smeaning_fault : Stmt := top 26
def dmeaning_fault : He.DefD := ⟨("meaning_fault", none), "meaning_fault", "meaning_fault", defArgs smeaning_fault, defBody smeaning_fault, defScope smeaning_fault, [], []⟩
abbrev srows_fault : Stmt := top 27
def drows_fault : He.DefD := ⟨("rows_fault", none), "rows_fault", "rows_fault", defArgs srows_fault, defBody srows_fault, defScope srows_fault, [], []⟩
abbrev sworth_why : Stmt := top 28
def dworth_why : He.DefD := ⟨("worth_why", none), "worth_why", "worth_why", defArgs sworth_why, defBody sworth_why, defScope sworth_why, [], []⟩
abbrev sside_of : Stmt := top 29
def dside_of : He.DefD := ⟨("side_of", none), "side_of", "side_of", defArgs sside_of, defBody sside_of, defScope sside_of, [], []⟩
abbrev skey_of : Stmt := top 30
def dkey_of : He.DefD := ⟨("key_of", none), "key_of", "key_of", defArgs skey_of, defBody skey_of, defScope skey_of, [], []⟩
abbrev sFreeWalk_I : Stmt := inClass (top 31) 0
def dFreeWalk_I : He.DefD := ⟨("FreeWalk", some "__init__"), "__init__", "FreeWalk.__init__", defArgs sFreeWalk_I, defBody sFreeWalk_I, defScope sFreeWalk_I, [], []⟩
abbrev sFreeWalk_walk : Stmt := inClass (top 31) 1
def dFreeWalk_walk : He.DefD := ⟨("FreeWalk", some "walk"), "walk", "FreeWalk.walk", defArgs sFreeWalk_walk, defBody sFreeWalk_walk, defScope sFreeWalk_walk, [], []⟩
abbrev sFreeWalk_worth : Stmt := inClass (top 31) 2
def dFreeWalk_worth : He.DefD := ⟨("FreeWalk", some "worth"), "worth", "FreeWalk.worth", defArgs sFreeWalk_worth, defBody sFreeWalk_worth, defScope sFreeWalk_worth, [], []⟩
abbrev sFreeWalk_new_number : Stmt := inClass (top 31) 3
def dFreeWalk_new_number : He.DefD := ⟨("FreeWalk", some "new_number"), "new_number", "FreeWalk.new_number", defArgs sFreeWalk_new_number, defBody sFreeWalk_new_number, defScope sFreeWalk_new_number, [], []⟩
abbrev sFreeWalk_next_choice : Stmt := inClass (top 31) 4
def dFreeWalk_next_choice : He.DefD := ⟨("FreeWalk", some "next_choice"), "next_choice", "FreeWalk.next_choice", defArgs sFreeWalk_next_choice, defBody sFreeWalk_next_choice, defScope sFreeWalk_next_choice, [], []⟩
abbrev sfree_walk : Stmt := top 32
def dfree_walk : He.DefD := ⟨("free_walk", none), "free_walk", "free_walk", defArgs sfree_walk, defBody sfree_walk, defScope sfree_walk, [], []⟩
abbrev sfree_meaning : Stmt := top 33
def dfree_meaning : He.DefD := ⟨("free_meaning", none), "free_meaning", "free_meaning", defArgs sfree_meaning, defBody sfree_meaning, defScope sfree_meaning, [], []⟩
abbrev sfree_walks : Stmt := top 34
def dfree_walks : He.DefD := ⟨("free_walks", none), "free_walks", "free_walks", defArgs sfree_walks, defBody sfree_walks, defScope sfree_walks, [], []⟩
abbrev snext_choices : Stmt := top 35
def dnext_choices : He.DefD := ⟨("next_choices", none), "next_choices", "next_choices", defArgs snext_choices, defBody snext_choices, defScope snext_choices, [], []⟩
abbrev schoice_lists : Stmt := top 36
def dchoice_lists : He.DefD := ⟨("choice_lists", none), "choice_lists", "choice_lists", defArgs schoice_lists, defBody schoice_lists, defScope schoice_lists, [], []⟩
abbrev s_law_stream : Stmt := top 38
def d_law_stream : He.DefD := ⟨("_law_stream", none), "_law_stream", "_law_stream", defArgs s_law_stream, defBody s_law_stream, defScope s_law_stream, [], []⟩
abbrev s_law_draw : Stmt := top 39
def d_law_draw : He.DefD := ⟨("_law_draw", none), "_law_draw", "_law_draw", defArgs s_law_draw, defBody s_law_draw, defScope s_law_draw, [], []⟩
abbrev s_law_pick : Stmt := top 40
def d_law_pick : He.DefD := ⟨("_law_pick", none), "_law_pick", "_law_pick", defArgs s_law_pick, defBody s_law_pick, defScope s_law_pick, [], []⟩
abbrev s_law_mixed : Stmt := top 41
def d_law_mixed : He.DefD := ⟨("_law_mixed", none), "_law_mixed", "_law_mixed", defArgs s_law_mixed, defBody s_law_mixed, defScope s_law_mixed, [], []⟩
abbrev s_law_same : Stmt := top 42
def d_law_same : He.DefD := ⟨("_law_same", none), "_law_same", "_law_same", defArgs s_law_same, defBody s_law_same, defScope s_law_same, [], []⟩
abbrev s_law_loose : Stmt := top 43
def d_law_loose : He.DefD := ⟨("_law_loose", none), "_law_loose", "_law_loose", defArgs s_law_loose, defBody s_law_loose, defScope s_law_loose, [], []⟩
abbrev s_law_spoiled : Stmt := top 44
def d_law_spoiled : He.DefD := ⟨("_law_spoiled", none), "_law_spoiled", "_law_spoiled", defArgs s_law_spoiled, defBody s_law_spoiled, defScope s_law_spoiled, [], []⟩
abbrev s_law_is_apart : Stmt := top 45
def d_law_is_apart : He.DefD := ⟨("_law_is_apart", none), "_law_is_apart", "_law_is_apart", defArgs s_law_is_apart, defBody s_law_is_apart, defScope s_law_is_apart, [], []⟩
abbrev s_law_a_row : Stmt := top 46
def d_law_a_row : He.DefD := ⟨("_law_a_row", none), "_law_a_row", "_law_a_row", defArgs s_law_a_row, defBody s_law_a_row, defScope s_law_a_row, [], []⟩
abbrev s_law_a_pushed : Stmt := top 47
def d_law_a_pushed : He.DefD := ⟨("_law_a_pushed", none), "_law_a_pushed", "_law_a_pushed", defArgs s_law_a_pushed, defBody s_law_a_pushed, defScope s_law_a_pushed, [], []⟩
abbrev s_law_a_web : Stmt := top 48
def d_law_a_web : He.DefD := ⟨("_law_a_web", none), "_law_a_web", "_law_a_web", defArgs s_law_a_web, defBody s_law_a_web, defScope s_law_a_web, [], []⟩
abbrev s_law_a_like : Stmt := top 49
def d_law_a_like : He.DefD := ⟨("_law_a_like", none), "_law_a_like", "_law_a_like", defArgs s_law_a_like, defBody s_law_a_like, defScope s_law_a_like, [], []⟩
abbrev s_law_a_side : Stmt := top 50
def d_law_a_side : He.DefD := ⟨("_law_a_side", none), "_law_a_side", "_law_a_side", defArgs s_law_a_side, defBody s_law_a_side, defScope s_law_a_side, [], []⟩
abbrev s_law_a_fault : Stmt := top 51
def d_law_a_fault : He.DefD := ⟨("_law_a_fault", none), "_law_a_fault", "_law_a_fault", defArgs s_law_a_fault, defBody s_law_a_fault, defScope s_law_a_fault, [], []⟩
abbrev s_law_a_told : Stmt := top 52
def d_law_a_told : He.DefD := ⟨("_law_a_told", none), "_law_a_told", "_law_a_told", defArgs s_law_a_told, defBody s_law_a_told, defScope s_law_a_told, [], []⟩
abbrev s_law_a_all : Stmt := top 53
def d_law_a_all : He.DefD := ⟨("_law_a_all", none), "_law_a_all", "_law_a_all", defArgs s_law_a_all, defBody s_law_a_all, defScope s_law_a_all, [], []⟩
abbrev s_law_a_drawn : Stmt := top 54
def d_law_a_drawn : He.DefD := ⟨("_law_a_drawn", none), "_law_a_drawn", "_law_a_drawn", defArgs s_law_a_drawn, defBody s_law_a_drawn, defScope s_law_a_drawn, [], []⟩
abbrev s_law_bent : Stmt := top 55
def d_law_bent : He.DefD := ⟨("_law_bent", none), "_law_bent", "_law_bent", defArgs s_law_bent, defBody s_law_bent, defScope s_law_bent, [], []⟩
abbrev s_law_judged_right : Stmt := top 56
def d_law_judged_right : He.DefD := ⟨("_law_judged_right", none), "_law_judged_right", "_law_judged_right", defArgs s_law_judged_right, defBody s_law_judged_right, defScope s_law_judged_right, [], []⟩
abbrev s_law_free_right : Stmt := top 57
def d_law_free_right : He.DefD := ⟨("_law_free_right", none), "_law_free_right", "_law_free_right", defArgs s_law_free_right, defBody s_law_free_right, defScope s_law_free_right, [], []⟩
abbrev s_law_met : Stmt := top 58
def d_law_met : He.DefD := ⟨("_law_met", none), "_law_met", "_law_met", defArgs s_law_met, defBody s_law_met, defScope s_law_met, [], []⟩
abbrev s_law_refused_right : Stmt := top 59
def d_law_refused_right : He.DefD := ⟨("_law_refused_right", none), "_law_refused_right", "_law_refused_right", defArgs s_law_refused_right, defBody s_law_refused_right, defScope s_law_refused_right, [], []⟩
abbrev slaw : Stmt := top 60
def dlaw : He.DefD := ⟨("law", none), "law", "law", defArgs slaw, defBody slaw, defScope slaw, [], []⟩
end K8

namespace K8
open PySem PySem.Spec PyProof.Rows L2 WR
/-- built-in names that the text leaves alone -/
structure Bt (mg : Str → Option Value) : Prop where
  isinstance : mg "isinstance" = none
  list : mg "list" = none
  tuple : mg "tuple" = none
  int : mg "int" = none
  bool : mg "bool" = none
  str : mg "str" = none
  dict : mg "dict" = none
  len : mg "len" = none
  all : mg "all" = none
  any : mg "any" = none
  range : mg "range" = none
  enumerate : mg "enumerate" = none
  zip : mg "zip" = none
  abs : mg "abs" = none
  sum : mg "sum" = none
  repr : mg "repr" = none
/-- the def's object -/
abbrev Fn (K : PySem.W.Frag) (mg : Str → Option Value) (d : He.DefD) : Prop := ∃ f fd, mg d.name = some (.ref f) ∧ FunD K d.name d.qual d.params d.body d.scope [] [] f fd
section
variable {P : Program} {w : World} {K : PySem.W.Frag} {mg : Str → Option Value} {base : Heap}
/-! ### is_list -/
theorem sc_is_list : FnScope ["thing"] ["thing"] (defScope sis_list) := ⟨rfl, rfl, rfl, by decide +kernel, rfl, by decide +kernel, by decide +kernel⟩
theorem ok_is_list (B : Bt mg) (F : Fn K mg dis_list) : Df P w K mg base CX0 1 "is_list" ["thing"] (spP 1 (fun _ => True) fun ds => .bool (isL (ds.headD .none))) := by
  obtain ⟨f, fd, hm, F⟩ := F
  refine ⟨f, fd, hm, F.kp, F.bindsN fun _ _ _ _ _ _ us hl => match us, hl with | [_], _ => rfl, ?_⟩
  refine F.ok sc_is_list (fun vs H Q E h => spP_len vs H Q E h) (fun cdv A outer s H vs Q E hr h => ?_)
  obtain ⟨v, d, rfl, rd, -, q⟩ := spP1 h
  refine ⟨_, PSs.nox (pss_one (ps_ret (pe_callB (call_isD2 kit_list kit_tuple isL_or) (by rfl) B.isinstance (by decide +kernel)
    (pa_cons (pv 0) (pa_cons (pe_tup (pa_cons (pe_ty "list" B.list (by decide +kernel)) (pa_cons (pe_ty "tuple" B.tuple (by decide +kernel)) pa_nil))) pa_nil))))), ?_⟩
  refine ⟨_, rfl, (by show 2 ≤ sizeLine; decide), fun t ht => ?_⟩
  refine ⟨v, t, d, rfl, upd_same, rd.sm (Sm.new ht), q _ _ (Sm.new ht) (.bl _)⟩
end
end K8

namespace K8
open PySem PySem.Spec PyProof.Rows L2 WR
/-! ### mirrors -/
def isNum : PyData → Bool
  | .int i => decide (0 ≤ i)
  | _ => false
def areNums (d : PyData) : Bool := isL d && (its d).all isNum
section
variable {P : Program} {w : World} {K : PySem.W.Frag} {mg : Str → Option Value} {base : Heap}
/-! ### is_number -/
theorem sc_is_number : FnScope ["thing"] ["thing"] (defScope sis_number) := ⟨rfl, rfl, rfl, by decide +kernel, rfl, by decide +kernel, by decide +kernel⟩
theorem ok_is_number (B : Bt mg) (F : Fn K mg dis_number) : Df P w K mg base CX0 1 "is_number" ["thing"] (spP 1 (fun _ => True) fun ds => .bool (isNum (ds.headD .none))) := by
  obtain ⟨f, fd, hm, F⟩ := F
  refine ⟨f, fd, hm, F.kp, F.bindsN fun _ _ _ _ _ _ us hl => match us, hl with | [_], _ => rfl, ?_⟩
  refine F.ok sc_is_number (fun vs H Q E h => spP_len vs H Q E h) (fun cdv A outer s H vs Q E hr h => ?_)
  obtain ⟨v, d, rfl, rd, -, q⟩ := spP1 h
  refine ⟨_, PSs.nox (pss_one (ps_ret (pe_and (pe_callB (call_isD kit_int) (by rfl) B.isinstance (by decide +kernel) (pa_cons (pv 0) (pa_cons (pe_ty "int" B.int (by decide +kernel)) pa_nil)))
    (pe_and (pe_not (pe_callB (call_isD kit_bool) (by rfl) B.isinstance (by decide +kernel) (pa_cons (pv 0) (pa_cons (pe_ty "bool" B.bool (by decide +kernel)) pa_nil))))
      (pe_one (pe_cmpR op_ge (pv 0) pe_int (nomark _))))))), ?_⟩
  refine ⟨_, rfl, v, d, rfl, rd, _, rfl, ?_⟩
  have fin : ∀ b, isNum d = b → Q (.bl b) H := fun b e => q _ _ Sm.rfl' (by rw [show isNum ([d].headD .none) = b from e]; exact .bl b)
  cases rd with
  | int i =>
    exact iteT ⟨_, rfl, _, _, rfl, .int i, _, rfl, _, rfl, iteT ⟨_, rfl, _, _, rfl, rfl, fin _ rfl⟩⟩
  | bl b => exact iteT ⟨_, rfl, _, _, rfl, .bl b, _, rfl, _, rfl, iteF (fin _ rfl)⟩
  | _ => exact iteF (fin _ rfl)
/-! ### are_numbers -/
theorem sc_are_numbers : FnScope ["thing", "one"] ["thing"] (defScope sare_numbers) := ⟨rfl, rfl, rfl, by decide +kernel, rfl, by decide +kernel, by decide +kernel⟩
theorem ok_are_numbers (B : Bt mg) (F : Fn K mg dare_numbers) (D1 : Df P w K mg base CX0 1 "is_list" ["thing"] (spP 1 (fun _ => True) fun ds => .bool (isL (ds.headD .none))))
    (D2 : Df P w K mg base CX0 1 "is_number" ["thing"] (spP 1 (fun _ => True) fun ds => .bool (isNum (ds.headD .none)))) :
    Df P w K mg base CX0 2 "are_numbers" ["thing"] (spP 1 (fun ds => wdA ds = true) fun ds => .bool (areNums (ds.headD .none))) := by
  obtain ⟨f, fd, hm, F⟩ := F
  refine ⟨f, fd, hm, F.kp, F.bindsN fun _ _ _ _ _ _ us hl => match us, hl with | [_], _ => rfl, ?_⟩
  refine F.ok sc_are_numbers (fun vs H Q E h => spP_len vs H Q E h) (fun cdv A outer s H vs Q E hr h => ?_)
  obtain ⟨v, d, rfl, rd, wdd, q⟩ := spP1 h
  refine ⟨_, PSs.nox (pss_one (ps_ret (pe_and (pe_df D1 hr pass0 (pa_cons (pv 0) pa_nil))
    (pe_one (pe_callB (cr_all rfl) (by rfl) B.all (by decide +kernel) (pa_cons (pe_lc (own := [("one", 1)]) (g := gName 1) (tt := tYes) rfl sc_are_numbers.nd (pi_seq (pv 0)) (blkOk_by (own := [("one", 1)]) (N := ["thing", "one"]) (sc := defScope sare_numbers) (by decide +kernel))
      (fun _ _ _ _ _ => pg_name (i := 1) sc_are_numbers.nd rfl (Or.inl rfl)) (fun _ _ _ _ _ => pts_nil) (fun _ _ _ _ _ => pe_df D2 (hr.mono (by decide)) pass0 (pa_cons (pv 1) pa_nil))) pa_nil)))))), ?_⟩
  refine ⟨_, rfl, spP1_of rd trivial fun u H1 s1 r1 => ?_⟩
  have e1 := r1.bl_inv
  subst e1
  refine ⟨_, rfl, ite2 (fun hL => ?_) (fun hL => ?_)⟩
  · have hL' : isL d = true := hL
    obtain ⟨a, xs, rfl, hq, rs⟩ := (rd.sm s1).seq hL'
    have ww := wd_its (d := d) (by simpa [wdA] using wdd) hL'
    refine ⟨_, rfl, a, xs, rfl, hq, fun J hJ D nD => ?_⟩
    refine lc_fz (fun d => .bool (isNum d)) (.seq hJ rs) nD ww.1 (fun _ => rfl) (fun _ _ => rfl) (fun x e H2 Q' he s2 rx q' => ?_) fun H2 ys s2 eD ry => ?_
    · exact ⟨_, rfl, spP1_of rx trivial q'⟩
    · have eb : (its d).map (fun d => PyData.bool (isNum d)) = ((its d).map isNum).map PyData.bool := by simp
      rw [eb] at ry
      have ey := ry.bls
      subst ey
      refine ⟨_, (its d).map isNum, rfl, SqL.of eD, q _ _ (s1.trans s2) ?_⟩
      have e : areNums ([d].headD .none) = (List.map isNum (its d)).all id := by
        simp [areNums, hL', List.all_map]
      rw [e]
      exact .bl _
  · have hL' : isL d = false := by
      cases z : isL d with
      | false => rfl
      | true => exact absurd z hL
    refine q _ _ s1 ?_
    rw [show areNums ([d].headD .none) = false by simp [areNums, hL']]
    exact .bl false
end
end K8

namespace K8
open PySem PySem.Spec PyProof.Rows L2 WR
/-! ### mirrors -/
def leS (x y : Str) : Bool := !decide (y.cps.toList < x.cps.toList)
def isLet (x : Str) : Bool := leS "a" x && leS x "z"
def isFig (x : Str) : Bool := leS "0" x && leS x "9"
def strOf : PyData → Str
  | .str x => x
  | _ => ""
def isPlace (t : PyData) (m : Int) : Bool := match t with
  | .int i => decide (0 ≤ i) && decide (i < m)
  | _ => false
def headS (x : Str) : Str := match x.cps.toList with
  | c :: _ => ⟨#[c]⟩
  | [] => ""
def begName (x : Str) : Bool := decide (x.length ≤ 8) && ((signsD x).all fun d => isLet (strOf d) || isFig (strOf d)) && (decide (x = "") || isLet (headS x))
def isName : PyData → Bool
  | .str x => !decide (x = "") && begName x
  | _ => false
def intOf : PyData → Int
  | .int i => i
  | _ => 0
section
variable {P : Program} {w : World} {K : PySem.W.Frag} {mg : Str → Option Value} {base : Heap}
/-! ### is_place -/
theorem sc_is_place : FnScope ["thing", "many"] ["thing", "many"] (defScope sis_place) := ⟨rfl, rfl, rfl, by decide +kernel, rfl, by decide +kernel, by decide +kernel⟩
theorem ok_is_place (F : Fn K mg dis_place) (D1 : Df P w K mg base CX0 1 "is_number" ["thing"] (spP 1 (fun _ => True) fun ds => .bool (isNum (ds.headD .none)))) :
    Df P w K mg base CX0 2 "is_place" ["thing", "many"] (spP 2 (fun ds => ∃ d m, ds = [d, .int m]) fun ds => .bool (isPlace (ds.headD .none) (intOf (ds.getD 1 .none)))) := by
  obtain ⟨f, fd, hm, F⟩ := F
  refine ⟨f, fd, hm, F.kp, F.bindsN fun _ _ _ _ _ _ us hl => match us, hl with | [_, _], _ => rfl, ?_⟩
  refine F.ok sc_is_place (fun vs H Q E h => spP_len vs H Q E h) (fun cdv A outer s H vs Q E hr h => ?_)
  obtain ⟨v, w', d, e, rfl, rd, re, ⟨_, m, z⟩, q⟩ := spP2 h
  cases z
  cases re.int_inv
  refine ⟨_, PSs.nox (pss_one (ps_ret (pe_and (pe_df D1 hr pass0 (pa_cons (pv 0) pa_nil)) (pe_one (pe_cmpR op_lt (pv 0) (pv 1) (nomark _)))))), ?_⟩
  refine ⟨_, rfl, spP1_of rd trivial fun u H1 s1 r1 => ?_⟩
  cases r1.bl_inv
  have fin : ∀ b, isPlace d m = b → Q (.bl b) H1 := fun b e => q _ _ s1 (by rw [show isPlace ([d, PyData.int m].headD .none) (intOf ([d, PyData.int m].getD 1 .none)) = b from e]; exact .bl b)
  refine ⟨_, rfl, ite2 (fun hL => ?_) (fun hL => fin _ ?_)⟩
  · cases rd with
    | int i =>
      have hi : decide (0 ≤ i) = true := hL
      refine ⟨_, rfl, _, rfl, _, _, rfl, rfl, fin _ ?_⟩
      show (decide (0 ≤ i) && decide (i < m)) = _
      rw [hi, Bool.true_and]
    | _ => cases hL
  · cases rd with
    | int i =>
      have hi : decide (0 ≤ i) = false := by
        cases z : decide (0 ≤ i) with
        | false => rfl
        | true => exact absurd z hL
      show (decide (0 ≤ i) && decide (i < m)) = _
      rw [hi]
      rfl
    | _ => rfl
/-! ### is_letter, is_figure -/
theorem sc_is_letter : FnScope ["sign"] ["sign"] (defScope sis_letter) := ⟨rfl, rfl, rfl, by decide +kernel, rfl, by decide +kernel, by decide +kernel⟩
theorem sc_is_figure : FnScope ["sign"] ["sign"] (defScope sis_figure) := ⟨rfl, rfl, rfl, by decide +kernel, rfl, by decide +kernel, by decide +kernel⟩
theorem ok_is_letter (F : Fn K mg dis_letter) : Df P w K mg base CX0 1 "is_letter" ["sign"] (spP 1 (fun ds => ∃ x, ds = [.str x]) fun ds => .bool (isLet (strOf (ds.headD .none)))) := by
  obtain ⟨f, fd, hm, F⟩ := F
  refine ⟨f, fd, hm, F.kp, F.bindsN fun _ _ _ _ _ _ us hl => match us, hl with | [_], _ => rfl, ?_⟩
  refine F.ok sc_is_letter (fun vs H Q E h => spP_len vs H Q E h) (fun cdv A outer s H vs Q E hr h => ?_)
  obtain ⟨v, d, rfl, rd, ⟨x, z⟩, q⟩ := spP1 h
  cases z
  cases rd.str_inv
  refine ⟨_, PSs.nox (pss_one (ps_ret (pe_chain op_le_str op_le_str pe_str (pv 0) pe_str))), ?_⟩
  have fin : ∀ b, isLet x = b → Q (.bl b) H := fun b e => q _ _ Sm.rfl' (by rw [show isLet (strOf ([PyData.str x].headD .none)) = b from e]; exact .bl b)
  refine ⟨_, rfl, _, _, rfl, rfl, _, rfl, ite2 (fun hL => ⟨_, _, rfl, rfl, fin _ ?_⟩) (fun hL => fin _ ?_)⟩
  · have : leS "a" x = true := hL
    show (leS "a" x && leS x "z") = _
    rw [this]
    rfl
  · have : leS "a" x = false := by
      cases z : leS "a" x with
      | false => rfl
      | true => exact absurd z hL
    show (leS "a" x && leS x "z") = _
    rw [this]
    rfl
theorem ok_is_figure (F : Fn K mg dis_figure) : Df P w K mg base CX0 1 "is_figure" ["sign"] (spP 1 (fun ds => ∃ x, ds = [.str x]) fun ds => .bool (isFig (strOf (ds.headD .none)))) := by
  obtain ⟨f, fd, hm, F⟩ := F
  refine ⟨f, fd, hm, F.kp, F.bindsN fun _ _ _ _ _ _ us hl => match us, hl with | [_], _ => rfl, ?_⟩
  refine F.ok sc_is_figure (fun vs H Q E h => spP_len vs H Q E h) (fun cdv A outer s H vs Q E hr h => ?_)
  obtain ⟨v, d, rfl, rd, ⟨x, z⟩, q⟩ := spP1 h
  cases z
  cases rd.str_inv
  refine ⟨_, PSs.nox (pss_one (ps_ret (pe_chain op_le_str op_le_str pe_str (pv 0) pe_str))), ?_⟩
  have fin : ∀ b, isFig x = b → Q (.bl b) H := fun b e => q _ _ Sm.rfl' (by rw [show isFig (strOf ([PyData.str x].headD .none)) = b from e]; exact .bl b)
  refine ⟨_, rfl, _, _, rfl, rfl, _, rfl, ite2 (fun hL => ⟨_, _, rfl, rfl, fin _ ?_⟩) (fun hL => fin _ ?_)⟩
  · have : leS "0" x = true := hL
    show (leS "0" x && leS x "9") = _
    rw [this]
    rfl
  · have : leS "0" x = false := by
      cases z : leS "0" x with
      | false => rfl
      | true => exact absurd z hL
    show (leS "0" x && leS x "9") = _
    rw [this]
    rfl
/-! ### begins_name -/
theorem sc_begins_name : FnScope ["text", "sign"] ["text"] (defScope sbegins_name) := ⟨rfl, rfl, rfl, by decide +kernel, rfl, by decide +kernel, by decide +kernel⟩
abbrev Mk8 (mg : Str → Option Value) : Prop := ∃ t, mg "LONGEST_NAME" = some (.int 8 t)
theorem headS_at {x : Str} (h : x ≠ "") : ∃ c, x.cps[0]? = some c ∧ headS x = ⟨#[c]⟩ ∧ 0 < x.length := by
  obtain ⟨⟨l⟩⟩ := x
  cases l with
  | nil => exact absurd rfl h
  | cons c r => exact ⟨c, rfl, rfl, by simp [Str.length]⟩
theorem ok_begins_name (B : Bt mg) (M : Mk8 mg) (F : Fn K mg dbegins_name) (D1 : Df P w K mg base CX0 1 "is_letter" ["sign"] (spP 1 (fun ds => ∃ x, ds = [.str x]) fun ds => .bool (isLet (strOf (ds.headD .none)))))
    (D2 : Df P w K mg base CX0 1 "is_figure" ["sign"] (spP 1 (fun ds => ∃ x, ds = [.str x]) fun ds => .bool (isFig (strOf (ds.headD .none))))) :
    Df P w K mg base CX0 2 "begins_name" ["text"] (spP 1 (fun ds => ∃ x : Str, ds = [.str x] ∧ x.length ≤ lim) fun ds => .bool (begName (strOf (ds.headD .none)))) := by
  obtain ⟨f, fd, hm, F⟩ := F
  obtain ⟨tk, M⟩ := M
  refine ⟨f, fd, hm, F.kp, F.bindsN fun _ _ _ _ _ _ us hl => match us, hl with | [_], _ => rfl, ?_⟩
  refine F.ok sc_begins_name (fun vs H Q E h => spP_len vs H Q E h) (fun cdv A outer s H vs Q E hr h => ?_)
  obtain ⟨v, d, rfl, rd, ⟨x, z, hz⟩, q⟩ := spP1 h
  cases z
  cases rd.str_inv
  have hl2 := lim_lt
  refine ⟨_, PSs.nox (pss_cons (ps_if (PW.pt (pw_or (pt_cmpR op_gt (pe_callB call_len_str (by rfl) B.len (by decide +kernel) (pa_cons (pv 0) pa_nil)) (pe_glob (v := .int 8) (by rfl) M ⟨_, rfl⟩) (nomark _))
      (pw_or1 (pt_not (pt_val (pe_callB (cr_all rfl) (by rfl) B.all (by decide +kernel) (pa_cons (pe_lc (own := [("sign", 1)]) (g := gName 1) (tt := tYes) rfl sc_begins_name.nd (pi_str (pv 0))
        (blkOk_by (own := [("sign", 1)]) (N := ["text", "sign"]) (sc := defScope sbegins_name) (by decide +kernel))
        (fun _ _ _ _ _ => pg_name (i := 1) sc_begins_name.nd rfl (Or.inl rfl)) (fun _ _ _ _ _ => pts_nil)
        (fun _ _ _ _ _ => pe_or (pe_df D1 (hr.mono (by decide)) pass0 (pa_cons (pv 1) pa_nil)) (pe_one (pe_df D2 (hr.mono (by decide)) pass0 (pa_cons (pv 1) pa_nil))))) pa_nil))))))) (pss_one (ps_ret pe_bl)) pss_nil)
    (pss_one (ps_ret (pe_or (pe_cmpR op_eq (pv 0) pe_str (nomark _)) (pe_one (pe_df D1 hr pass0 (pa_cons (pe_item_str (pv 0) pe_int (fun _ _ => rfl)) pa_nil))))))), ?_⟩
  refine ⟨_, rfl, _, rfl, by omega, _, _, rfl, rfl, _, rfl, ?_⟩
  have fin : ∀ b H1, Sm H H1 → begName x = b → Q (.bl b) H1 := fun b H1 s1 e => q _ _ s1 (by rw [show begName (strOf ([PyData.str x].headD .none)) = b from e]; exact .bl b)
  refine ite2 (fun hL => ?_) (fun hL => ?_)
  · have h8 : decide (x.length ≤ 8) = false := by
      have := of_decide_eq_true hL
      exact decide_eq_false (by omega)
    exact iteT (fin _ _ Sm.rfl' (by simp only [begName, h8, Bool.false_and]))
  · have h8 : decide (x.length ≤ 8) = true := by
      have : ¬ ((8 : Int) < x.length) := fun q => hL (decide_eq_true q)
      exact decide_eq_true (by omega)
    refine ⟨_, rfl, _, rfl, fun D nD => ?_⟩
    refine lc_fz (fun d => .bool (isLet (strOf d) || isFig (strOf d))) (.str (x := x)) nD (by rw [signsD_len]; exact hz) (fun _ => rfl) (fun _ _ => rfl) (fun y e H2 Q' he s2 ry q' => ?_) fun H2 ys s2 eD ry => ?_
    · obtain ⟨c, _, rfl⟩ := List.mem_map.mp he
      cases ry.str_inv
      refine ⟨_, rfl, spP1_of ry ⟨_, rfl⟩ fun u H3 s3 r3 => ?_⟩
      cases r3.bl_inv
      refine ⟨_, rfl, ite2 (fun hl => ?_) (fun hl => ?_)⟩
      · refine q' _ _ s3 ?_
        rw [show isLet (strOf (.str ⟨#[c]⟩)) = true from hl]
        exact .bl _
      · refine ⟨_, rfl, spP1_of (ry.sm s3) ⟨_, rfl⟩ fun u H4 s4 r4 => q' _ _ (s3.trans s4) ?_⟩
        have hl' : isLet (strOf (.str ⟨#[c]⟩)) = false := by
          cases z : isLet (strOf (.str ⟨#[c]⟩)) with
          | false => rfl
          | true => exact absurd z hl
        rw [hl', Bool.false_or]
        exact r4
    · have eb : (signsD x).map (fun d => PyData.bool (isLet (strOf d) || isFig (strOf d))) = ((signsD x).map fun d => isLet (strOf d) || isFig (strOf d)).map PyData.bool := by simp
      rw [eb] at ry
      have ey := ry.bls
      subst ey
      refine ⟨_, _, rfl, SqL.of eD, _, rfl, ?_⟩
      have ea : (((signsD x).map fun d => isLet (strOf d) || isFig (strOf d)).all id) = (signsD x).all fun d => isLet (strOf d) || isFig (strOf d) := by rw [List.all_map]; rfl
      rw [ea]
      cases hA : ((signsD x).all fun d => isLet (strOf d) || isFig (strOf d)) with
      | false => exact iteT (fin _ _ s2 (by simp only [begName, h8, hA, Bool.true_and, Bool.false_and]))
      | true =>
        refine iteF ⟨_, rfl, rfl, _, rfl, ite2 (fun he => ?_) (fun he => ?_)⟩
        · have ex : x = "" := by
            have := of_decide_eq_true he
            injection this
          exact fin _ _ s2 (by simp only [begName, h8, hA, decide_eq_true ex, Bool.true_and, Bool.true_or])
        · have ex : x ≠ "" := fun z => he (decide_eq_true (by rw [z]))
          obtain ⟨c, h1, h2, h3⟩ := headS_at ex
          refine ⟨_, rfl, _, _, _, rfl, rfl, by decide, by decide, by omega, h1, ?_⟩
          refine spP1_of (.str _) ⟨_, rfl⟩ fun u H4 s4 r4 => ?_
          cases r4.bl_inv
          refine fin _ _ (s2.trans s4) ?_
          simp only [begName, h8, hA, decide_eq_false ex, Bool.true_and, Bool.false_or, h2]
          rfl
/-! ### is_name -/
theorem sc_is_name : FnScope ["thing"] ["thing"] (defScope sis_name) := ⟨rfl, rfl, rfl, by decide +kernel, rfl, by decide +kernel, by decide +kernel⟩
theorem ok_is_name (B : Bt mg) (F : Fn K mg dis_name) (D1 : Df P w K mg base CX0 2 "begins_name" ["text"] (spP 1 (fun ds => ∃ x : Str, ds = [.str x] ∧ x.length ≤ lim) fun ds => .bool (begName (strOf (ds.headD .none))))) :
    Df P w K mg base CX0 3 "is_name" ["thing"] (spP 1 (fun ds => wdA ds = true) fun ds => .bool (isName (ds.headD .none))) := by
  obtain ⟨f, fd, hm, F⟩ := F
  refine ⟨f, fd, hm, F.kp, F.bindsN fun _ _ _ _ _ _ us hl => match us, hl with | [_], _ => rfl, ?_⟩
  refine F.ok sc_is_name (fun vs H Q E h => spP_len vs H Q E h) (fun cdv A outer s H vs Q E hr h => ?_)
  obtain ⟨v, d, rfl, rd, wdd, q⟩ := spP1 h
  refine ⟨_, PSs.nox (pss_one (ps_ret (pe_and (pe_callB (call_isD kit_str) (by rfl) B.isinstance (by decide +kernel) (pa_cons (pv 0) (pa_cons (pe_ty "str" B.str (by decide +kernel)) pa_nil)))
    (pe_and (pe_cmpR op_ne (pv 0) pe_str (nomark _)) (pe_one (pe_df D1 hr pass0 (pa_cons (pv 0) pa_nil))))))), ?_⟩
  refine ⟨_, rfl, v, d, rfl, rd, _, rfl, ?_⟩
  have fin : ∀ b H1, Sm H H1 → isName d = b → Q (.bl b) H1 := fun b H1 s1 e => q _ _ s1 (by rw [show isName ([d].headD .none) = b from e]; exact .bl b)
  cases rd with
  | str x =>
    refine iteT ⟨_, rfl, rfl, _, rfl, ?_⟩
    by_cases ex : x = ""
    · subst ex
      exact iteF (fin _ _ Sm.rfl' rfl)
    · have e1 : decide (V.str x = V.str "") = false := decide_eq_false fun z => ex (by injection z)
      rw [e1]
      refine iteT ⟨_, rfl, spP1_of (.str x) ⟨x, rfl, ?_⟩ fun u H3 s3 r3 => ?_⟩
      · simpa [wdA, wd] using wdd
      · cases r3.bl_inv
        refine fin _ _ s3 ?_
        simp only [isName, decide_eq_false ex, Bool.not_false, Bool.true_and]
        rfl
  | _ => exact iteF (fin _ _ Sm.rfl' rfl)
end
end K8

namespace K8
open PySem PySem.Spec PyProof.Rows L2 WR
/-! ### mirrors -/
def nth (d : PyData) (i : Nat) : PyData := (its d).getD i .none
def rowForm2 (d : PyData) : PyData :=
  if (strOf (nth d 0) = "made" ∨ strOf (nth d 0) = "asked") ∧ (its d).length = 3 then
    (if (isName (nth d 1) && areNums (nth d 2)) = true then .tuple [nth d 0, nth d 1, .tuple (its (nth d 2))] else .none)
  else if strOf (nth d 0) = "either" ∧ (its d).length = 4 ∧ ((its d).drop 1).all isNum = true then .tuple [nth d 0, nth d 1, nth d 2, nth d 3]
  else if strOf (nth d 0) = "given" ∧ (its d).length = 2 ∧ ((its d).drop 1).all isNum = true then .tuple [nth d 0, nth d 1]
  else .none
def rowForm (d : PyData) : PyData := if isL d = true ∧ (its d).length ≠ 0 ∧ isS (nth d 0) = true then rowForm2 d else .none
theorem nth_at {d : PyData} {i : Nat} (h : i < (its d).length) : (its d)[i]? = some (nth d i) := by
  unfold nth
  rw [List.getD_eq_getElem?_getD, List.getElem?_eq_getElem h]
  rfl
theorem nth_wd {d : PyData} {i : Nat} (w : wd d = true) (hL : isL d = true) (h : i < (its d).length) : wd (nth d i) = true :=
  wdA_mem (wd_its w hL).2 (List.mem_of_getElem? (nth_at h))
theorem str_of {d : PyData} (h : isS d = true) : d = .str (strOf d) := by
  cases d with
  | str x => rfl
  | _ => cases h
theorem wdA_drop : ∀ {ds : List PyData} (k : Nat), wdA ds = true → wdA (ds.drop k) = true := fun k w => wdA_of fun d hd => wdA_mem w (List.mem_of_mem_drop hd)
theorem wd_drop {d : PyData} (k : Nat) (w : wd d = true) (hL : isL d = true) : wd (likeD d ((its d).drop k)) = true := by
  obtain ⟨h1, h2⟩ := wd_its w hL
  have h3 := wdA_drop k h2
  have h4 : ((its d).drop k).length ≤ lim := by
    rw [List.length_drop]
    omega
  cases d with
  | list xs => simp only [likeD, wd, Bool.and_eq_true, decide_eq_true_eq]; exact ⟨h4, h3⟩
  | tuple xs => simp only [likeD, wd, Bool.and_eq_true, decide_eq_true_eq]; exact ⟨h4, h3⟩
  | _ => cases hL
abbrev spIsList : Sp := spP 1 (fun _ => True) fun ds => .bool (isL (ds.headD .none))
abbrev spIsName : Sp := spP 1 (fun ds => wdA ds = true) fun ds => .bool (isName (ds.headD .none))
abbrev spAreNums : Sp := spP 1 (fun ds => wdA ds = true) fun ds => .bool (areNums (ds.headD .none))
abbrev spRowForm : Sp := spP 1 (fun ds => wdA ds = true) fun ds => rowForm (ds.headD .none)
theorem inV2 (x a b : Str) : inV (.str x) [.str a, .str b] = decide (x = a ∨ x = b) := by
  simp only [inV, List.any_cons, List.any_nil, eqV, Bool.or_false]
  rw [Bool.eq_iff_iff]
  simp only [Bool.or_eq_true, beq_iff_eq, decide_eq_true_eq]
  exact ⟨fun h => h.elim (fun z => .inl z.symm) (fun z => .inr z.symm), fun h => h.elim (fun z => .inl z.symm) (fun z => .inr z.symm)⟩
section
variable {P : Program} {w : World} {K : PySem.W.Frag} {mg : Str → Option Value} {base : Heap}
theorem sc_row_form : FnScope ["thing", "word", "is_right"] ["thing"] (defScope srow_form) := ⟨rfl, rfl, rfl, by decide +kernel, rfl, by decide +kernel, by decide +kernel⟩
theorem ok_row_form (B : Bt mg) (F : Fn K mg drow_form) (D1 : Df P w K mg base CX0 1 "is_list" ["thing"] spIsList) (D2 : Df P w K mg base CX0 3 "is_name" ["thing"] spIsName) (D3 : Df P w K mg base CX0 2 "are_numbers" ["thing"] spAreNums) :
    Df P w K mg base CX0 4 "row_form" ["thing"] spRowForm := by
  obtain ⟨f, fd, hm, F⟩ := F
  refine ⟨f, fd, hm, F.kp, F.bindsN fun _ _ _ _ _ _ us hl => match us, hl with | [_], _ => rfl, ?_⟩
  refine F.ok sc_row_form (fun vs H Q E h => spP_len vs H Q E h) (fun cdv A outer s H vs Q E hr h => ?_)
  obtain ⟨v, d, rfl, rd, wdd, q⟩ := spP1 h
  have wd0 : wd d = true := by simpa [wdA] using wdd
  have hr1 := hr.mono (show 1 ≤ 3 by decide)
  have hr2 := hr.mono (show 2 ≤ 3 by decide)
  refine ⟨_, PSs.nox (pss_cons (ps_if (PW.pt (pw_or (pt_not (pt_val (pe_df D1 hr1 pass0 (pa_cons (pv 0) pa_nil)))) (pw_or (pt_cmpR op_eq (pe_callB call_lenS (by rfl) B.len (by decide +kernel) (pa_cons (pv 0) pa_nil)) pe_int (nomark _)) (pw_or1 (pt_not (pt_val (pe_callB (call_isD kit_str) (by rfl) B.isinstance (by decide +kernel) (pa_cons (pe_ix ix_D (pv 0) pe_int (fun _ _ => rfl)) (pa_cons (pe_ty "str" B.str (by decide +kernel)) pa_nil))))))))) (pss_one (ps_ret pe_non)) pss_nil)
      (pss_cons (ps_set (i := 1) sc_row_form.nd rfl (by first | exact Or.inl rfl | exact Or.inr rfl) (pe_ix ix_D (pv 0) pe_int (fun _ _ => rfl)))
      (C8.pss_cut (ps_if (PW.pt (pw_and (pt_cmpR op_in_seq (pv 1) (pe_tup (pa_cons pe_str (pa_cons pe_str pa_nil))) (by rfl)) (pw_and1 (pt_cmpR op_eq (pe_callB call_lenS (by rfl) B.len (by decide +kernel) (pa_cons (pv 0) pa_nil)) pe_int (nomark _))))) (pss_cons (ps_set (i := 2) sc_row_form.nd rfl (by first | exact Or.inl rfl | exact Or.inr rfl) (pe_and (pe_df D2 hr pass0 (pa_cons (pe_ix ix_D (pv 0) pe_int (fun _ _ => rfl)) pa_nil)) (pe_one (pe_df D3 hr2 pass0 (pa_cons (pe_ix ix_D (pv 0) pe_int (fun _ _ => rfl)) pa_nil)))))
      (pss_one (ps_ret (pe_ifExp (pt_val (pv 2)) (pe_tup (pa_cons (pv 1) (pa_cons (pe_ix ix_D (pv 0) pe_int (fun _ _ => rfl)) (pa_cons (pe_callTy call_tupD (by rfl) B.tuple (by decide +kernel) (pa_cons (pe_ix ix_D (pv 0) pe_int (fun _ _ => rfl)) pa_nil)) pa_nil)))) pe_non)))) pss_nil)
      (C8.pss_cut (ps_if (PW.pt (pw_and (pt_cmpR op_eq (pv 1) pe_str (nomark _)) (pw_and (pt_cmpR op_eq (pe_callB call_lenS (by rfl) B.len (by decide +kernel) (pa_cons (pv 0) pa_nil)) pe_int (nomark _)) (pw_and1 (pt_val (pe_df D3 hr2 pass0 (pa_cons (pe_slice sl_D (pv 0) (po_some pe_int) po_none) pa_nil))))))) (pss_one (ps_ret (pe_tup (pa_cons (pv 1) (pa_cons (pe_ix ix_D (pv 0) pe_int (fun _ _ => rfl)) (pa_cons (pe_ix ix_D (pv 0) pe_int (fun _ _ => rfl)) (pa_cons (pe_ix ix_D (pv 0) pe_int (fun _ _ => rfl)) pa_nil))))))) pss_nil)
      (pss_cons (ps_if (PW.pt (pw_and (pt_cmpR op_eq (pv 1) pe_str (nomark _)) (pw_and (pt_cmpR op_eq (pe_callB call_lenS (by rfl) B.len (by decide +kernel) (pa_cons (pv 0) pa_nil)) pe_int (nomark _)) (pw_and1 (pt_val (pe_df D3 hr2 pass0 (pa_cons (pe_slice sl_D (pv 0) (po_some pe_int) po_none) pa_nil))))))) (pss_one (ps_ret (pe_tup (pa_cons (pv 1) (pa_cons (pe_ix ix_D (pv 0) pe_int (fun _ _ => rfl)) pa_nil))))) pss_nil)
      (pss_one (ps_ret pe_non))))))), ?_⟩
  have fin : ∀ u H1, Sm H H1 → Dr All H1 u (rowForm d) → Q u H1 := fun u H1 s1 r => q _ _ s1 r
  have nope : ∀ H1, Sm H H1 → rowForm d = .none → Q .non H1 := fun H1 s1 e => fin _ _ s1 (by rw [e]; exact .non)
  -- not is_list(thing) or len(thing) == 0 or not isinstance(thing[0], str)
  refine ⟨_, rfl, spP1_of rd trivial fun u H1 s1 r1 => ?_⟩
  cases r1.bl_inv
  refine ⟨_, rfl, ite2 (fun hL => ?_) (fun hL => ?_)⟩
  · have hL' : isL d = false := by simpa using hL
    refine iteT (nope _ s1 ?_)
    unfold rowForm
    rw [if_neg (fun z => by rw [hL'] at z; cases z.1)]
  have hL' : isL d = true := by simpa using hL
  have rd1 := rd.sm s1
  refine ⟨_, rfl, v, d, rfl, rd1, hL', rfl, _, rfl, ite2 (fun h0 => ?_) (fun h0 => ?_)⟩
  · have e0 : (its d).length = 0 := by
      have := of_decide_eq_true h0
      injection this with this
      omega
    refine iteT (nope _ s1 ?_)
    unfold rowForm
    rw [if_neg (fun z => z.2.1 e0)]
  have l0 : (its d).length ≠ 0 := fun z => h0 (decide_eq_true (by rw [z]; rfl))
  have l0' : 0 < (its d).length := by omega
  refine ⟨_, rfl, d, 0, _, rd1, hL', rfl, nth_at l0', fun v0 r0 => ?_⟩
  refine ⟨v0, _, rfl, r0, _, rfl, ite2 (fun hS => ?_) (fun hS => ?_)⟩
  · have hS' : isS (nth d 0) = false := by simpa using hS
    refine nope _ s1 ?_
    unfold rowForm
    rw [if_neg (fun z => by rw [hS'] at z; cases z.2.2)]
  have hS' : isS (nth d 0) = true := by simpa using hS
  have es := str_of hS'
  have top : rowForm d = rowForm2 d := if_pos ⟨hL', l0, hS'⟩
  -- word = thing[0]
  refine ⟨_, rfl, d, 0, _, rd1, hL', rfl, nth_at l0', fun v1 r1 => ?_⟩
  obtain ⟨wd1, ew⟩ : ∃ y, nth d 0 = .str y := ⟨_, es⟩
  rw [ew] at r1
  cases r1.str_inv
  have eso : strOf (nth d 0) = wd1 := by rw [ew]; rfl
  have areD : areNums (likeD d ((its d).drop 1)) = ((its d).drop 1).all isNum := by
    unfold areNums
    rw [isL_like, its_like, Bool.true_and]
  have c1 : cutA (its d) (some 1) none = (its d).drop 1 := cutA_from (its d) 1
  have wdd1 : wdA [likeD d ((its d).drop 1)] = true := by simpa [wdA] using wd_drop 1 wd0 hL'
  -- word in ('made', 'asked') and len(thing) == 3
  by_cases hc : (wd1 = "made" ∨ wd1 = "asked") ∧ (its d).length = 3
  · refine ⟨fun _ _ => False, ⟨_, rfl, (by show 2 ≤ sizeLine; decide), fun t ht => ?_⟩, fun _ _ z => z.elim⟩
    have s2 : Sm H (upd H1 t (.tup [.str "made", .str "asked"])) := s1.trans (Sm.new ht)
    have rd2 := rd.sm s2
    refine ⟨t, _, rfl, .inr (SqT.of upd_same), rfl, rfl, _, rfl, ?_⟩
    rw [if_neg Bool.false_ne_true, inV2]
    have e3 := hc.2
    have n1 := nth_at (d := d) (i := 1) (by omega)
    have n2 := nth_at (d := d) (i := 2) (by omega)
    have t2 : rowForm d = if (isName (nth d 1) && areNums (nth d 2)) = true then .tuple [nth d 0, nth d 1, .tuple (its (nth d 2))] else .none := by
      rw [top]
      exact if_pos ⟨by rw [eso]; exact hc.1, e3⟩
    refine ite2 (fun hw => ?_) (fun hw => absurd (decide_eq_true hc.1) hw)
    refine ⟨_, rfl, v, d, rfl, rd2, hL', rfl, _, rfl, ite2 (fun h3 => ?_) (fun h3 => absurd (decide_eq_true (by rw [e3]; rfl)) h3)⟩
    -- is_right
    refine ⟨_, rfl, d, 1, _, rd2, hL', rfl, n1, fun v1 r1 => ?_⟩
    refine spP1_of r1 (by simpa [wdA] using nth_wd wd0 hL' (show 1 < (its d).length by omega)) fun u H3 s3 r3 => ?_
    cases r3.bl_inv
    refine ⟨_, rfl, ite2 (fun hn => ?_) (fun hn => ?_)⟩
    · have hn' : isName (nth d 1) = true := hn
      refine ⟨_, rfl, d, 2, _, rd2.sm s3, hL', rfl, n2, fun v2 r2 => ?_⟩
      refine spP1_of r2 (by simpa [wdA] using nth_wd wd0 hL' (show 2 < (its d).length by omega)) fun u H4 s4 r4 => ?_
      cases r4.bl_inv
      have s5 := s3.trans s4
      refine ⟨_, rfl, _, rfl, ite2 (fun ha => ?_) (fun ha => ?_)⟩
      · have ha' : areNums (nth d 2) = true := ha
        have hl2 : isL (nth d 2) = true := by
          unfold areNums at ha'
          exact (Bool.and_eq_true_iff.mp ha').1
        rw [hn', ha'] at t2
        refine ⟨_, rfl, _, rfl, d, 1, _, rd2.sm s5, hL', rfl, n1, fun v1' r1' => ?_⟩
        refine ⟨_, rfl, d, 2, _, rd2.sm s5, hL', rfl, n2, fun v2' r2' => ?_⟩
        refine ⟨_, _, rfl, r2', hl2, fun v3 H5 s6 r6 => ⟨(by show 3 ≤ sizeLine; decide), fun t3 ht3 => ?_⟩⟩
        refine fin _ _ ((s2.trans s5).trans (s6.trans (Sm.new ht3))) ?_
        rw [t2, ew]
        exact .tup upd_same (.cons (.str _) (.cons ((r1'.sm s6).sm (Sm.new ht3)) (.one (r6.sm (Sm.new ht3)))))
      · have ha' : areNums (nth d 2) = false := by simpa using ha
        refine nope _ (s2.trans s5) ?_
        rw [t2, ha', Bool.and_false]
        rfl
    · have hn' : isName (nth d 1) = false := by simpa using hn
      refine ⟨_, rfl, _, rfl, iteF (nope _ (s2.trans s3) ?_)⟩
      rw [t2, hn', Bool.false_and]
      rfl
  refine ⟨fun σ' H' => σ' = [some v, some (.str wd1), none] ∧ Sm H H', ⟨_, rfl, (by show 2 ≤ sizeLine; decide), fun t ht => ?_⟩, ?_⟩
  · have s2 : Sm H (upd H1 t (.tup [.str "made", .str "asked"])) := s1.trans (Sm.new ht)
    refine ⟨t, _, rfl, .inr (SqT.of upd_same), rfl, rfl, _, rfl, ?_⟩
    rw [if_neg Bool.false_ne_true, inV2]
    refine ite2 (fun hw => ?_) (fun hw => iteF ⟨rfl, s2⟩)
    refine ⟨_, rfl, v, d, rfl, rd.sm s2, hL', rfl, _, rfl, ite2 (fun h3 => absurd ⟨of_decide_eq_true hw, ?_⟩ hc) (fun h3 => ⟨rfl, s2⟩)⟩
    have := of_decide_eq_true h3
    injection this with this
    omega
  rintro σ' H2 ⟨rfl, s2⟩
  have rd2 := rd.sm s2
  have t3 : rowForm d = if strOf (nth d 0) = "either" ∧ (its d).length = 4 ∧ ((its d).drop 1).all isNum = true then .tuple [nth d 0, nth d 1, nth d 2, nth d 3]
      else if strOf (nth d 0) = "given" ∧ (its d).length = 2 ∧ ((its d).drop 1).all isNum = true then .tuple [nth d 0, nth d 1] else .none := by
    rw [top]
    exact if_neg (by rw [eso]; exact hc)
  by_cases hc2 : wd1 = "either" ∧ (its d).length = 4 ∧ ((its d).drop 1).all isNum = true
  · obtain ⟨e1, e4, ea⟩ := id hc2
    have t4 : rowForm d = .tuple [nth d 0, nth d 1, nth d 2, nth d 3] := by
      rw [t3]
      exact if_pos (by rw [eso]; exact hc2)
    refine ⟨fun _ _ => False, ⟨_, rfl, rfl, _, rfl, ite2 (fun _ => ?_) (fun z => absurd (decide_eq_true (by rw [e1])) z)⟩, fun _ _ z => z.elim⟩
    refine ⟨_, rfl, v, d, rfl, rd2, hL', rfl, _, rfl, ite2 (fun _ => ?_) (fun z => absurd (decide_eq_true (by rw [e4]; rfl)) z)⟩
    refine ⟨_, rfl, _, rfl, d, rd2, hL', fun v1 H3 s3 r3 => ?_⟩
    rw [c1] at r3
    refine spP1_of r3 wdd1 fun u H4 s4 r4 => ?_
    cases r4.bl_inv
    have s5 := s3.trans s4
    have rd5 := rd2.sm s5
    refine ⟨_, rfl, ite2 (fun _ => ?_) (fun z => absurd (show areNums (likeD d ((its d).drop 1)) = true by rw [areD]; exact ea) z)⟩
    refine ⟨_, rfl, _, rfl, d, 1, _, rd5, hL', rfl, nth_at (by omega), fun v1 r1 => ⟨_, rfl, d, 2, _, rd5, hL', rfl, nth_at (by omega), fun v2 r2 => ⟨_, rfl, d, 3, _, rd5, hL', rfl, nth_at (by omega), fun v3 r3 => ⟨(by show 4 ≤ sizeLine; decide), fun t4' ht4 => ?_⟩⟩⟩⟩
    refine fin _ _ ((s2.trans s5).trans (Sm.new ht4)) ?_
    rw [t4, ew]
    exact .tup upd_same (.cons (.str _) (.cons (r1.sm (Sm.new ht4)) (.cons (r2.sm (Sm.new ht4)) (.one (r3.sm (Sm.new ht4))))))
  have t5 : rowForm d = if strOf (nth d 0) = "given" ∧ (its d).length = 2 ∧ ((its d).drop 1).all isNum = true then .tuple [nth d 0, nth d 1] else .none := by
    rw [t3]
    exact if_neg (by rw [eso]; exact hc2)
  have lenEq : ∀ n : Nat, decide (V.int ((its d).length : Nat) = V.int (n : Int)) = true → (its d).length = n := fun n z => by
    have := of_decide_eq_true z
    injection this with this
    omega
  have strEq : ∀ y : Str, decide (V.str wd1 = V.str y) = true → wd1 = y := fun y z => by
    have := of_decide_eq_true z
    injection this
  refine ⟨fun σ' H' => σ' = [some v, some (.str wd1), none] ∧ Sm H H', ⟨_, rfl, rfl, _, rfl, ite2 (fun h1 => ?_) (fun _ => iteF ⟨rfl, s2⟩)⟩, ?_⟩
  · refine ⟨_, rfl, v, d, rfl, rd2, hL', rfl, _, rfl, ite2 (fun h4 => ?_) (fun _ => iteF ⟨rfl, s2⟩)⟩
    refine ⟨_, rfl, _, rfl, d, rd2, hL', fun v1 H3 s3 r3 => ?_⟩
    rw [c1] at r3
    refine spP1_of r3 wdd1 fun u H4 s4 r4 => ?_
    cases r4.bl_inv
    refine ⟨_, rfl, ite2 (fun z => absurd ⟨strEq _ h1, lenEq 4 h4, ?_⟩ hc2) (fun _ => ⟨rfl, s2.trans (s3.trans s4)⟩)⟩
    rw [← areD]
    exact z
  rintro σ' H3 ⟨rfl, s3⟩
  have rd3 := rd.sm s3
  refine ⟨_, rfl, rfl, _, rfl, ite2 (fun h1 => ?_) (fun h1 => iteF (nope _ s3 ?_))⟩
  · refine ⟨_, rfl, v, d, rfl, rd3, hL', rfl, _, rfl, ite2 (fun h2 => ?_) (fun h2 => iteF (nope _ s3 ?_))⟩
    · refine ⟨_, rfl, _, rfl, d, rd3, hL', fun v1 H4 s4 r4 => ?_⟩
      rw [c1] at r4
      refine spP1_of r4 wdd1 fun u H5 s5 r5 => ?_
      cases r5.bl_inv
      have s6 := s4.trans s5
      have l2 := lenEq 2 h2
      refine ⟨_, rfl, ite2 (fun ha => ?_) (fun ha => nope _ (s3.trans s6) ?_)⟩
      · have ha' : ((its d).drop 1).all isNum = true := by rw [← areD]; exact ha
        refine ⟨_, rfl, _, rfl, d, 1, _, rd3.sm s6, hL', rfl, nth_at (by omega), fun v1 r1 => ⟨(by show 2 ≤ sizeLine; decide), fun t4' ht4 => ?_⟩⟩
        refine fin _ _ ((s3.trans s6).trans (Sm.new ht4)) ?_
        rw [t5, if_pos ⟨by rw [eso]; exact strEq _ h1, l2, ha'⟩, ew]
        exact .tup upd_same (.cons (.str _) (.one (r1.sm (Sm.new ht4))))
      · rw [t5, if_neg (fun z => ha (by show areNums (likeD d ((its d).drop 1)) = true; rw [areD]; exact z.2.2))]
    · rw [t5, if_neg (fun z => h2 (decide_eq_true (by rw [z.2.1]; rfl)))]
  · rw [t5, if_neg (fun z => h1 (decide_eq_true (by rw [← eso, z.1])))]
end
end K8

namespace K8
open PySem PySem.Spec PyProof.Rows L2 WR
/-! ### rows -/
inductive Row where
  | made (n : Str) (ks : List Nat)
  | asked (n : Str) (ks : List Nat)
  | either (a i j : Nat)
  | given (k : Nat)
  deriving DecidableEq
def nums (ks : List Nat) : List PyData := ks.map fun (k : Nat) => PyData.int (k : Int)
def Row.d : Row → PyData
  | .made n ks => .tuple [.str "made", .str n, .tuple (nums ks)]
  | .asked n ks => .tuple [.str "asked", .str n, .tuple (nums ks)]
  | .either a i j => .tuple [.str "either", .int (a : Nat), .int (i : Nat), .int (j : Nat)]
  | .given k => .tuple [.str "given", .int (k : Nat)]
def Row.ok : Row → Prop
  | .made n ks => isName (.str n) = true ∧ ks.length ≤ lim
  | .asked n ks => isName (.str n) = true ∧ ks.length ≤ lim
  | _ => True
def Row.named : Row → List Nat
  | .made _ ks => ks
  | .asked _ ks => ks
  | .either a i j => [a, i, j]
  | .given _ => []
def Row.isAsked : Row → Bool
  | .asked _ _ => true
  | _ => false
theorem nums_of : ∀ {ds : List PyData}, ds.all isNum = true → ∃ ks, ds = nums ks
  | [], _ => ⟨[], rfl⟩
  | d :: ds, h => by
    simp only [List.all_cons, Bool.and_eq_true] at h
    obtain ⟨ks, e⟩ := nums_of h.2
    cases d with
    | int i =>
      have hi : 0 ≤ i := of_decide_eq_true h.1
      refine ⟨i.toNat :: ks, ?_⟩
      show _ = PyData.int (i.toNat : Int) :: nums ks
      rw [Int.toNat_of_nonneg hi, ← e]
    | _ => cases h.1
theorem fz_nums (ks : List Nat) : fzA (nums ks) = true := by
  induction ks with
  | nil => simp [nums, fzA]
  | cons k ks ih => simp only [nums, List.map_cons, fzA, fz, Bool.true_and]; exact ih
theorem Row.fz (r : Row) : WR.fz r.d = true := by
  cases r with
  | made n ks => simp [Row.d, WR.fz, fzA, fz_nums]
  | asked n ks => simp [Row.d, WR.fz, fzA, fz_nums]
  | either a i j => simp [Row.d, WR.fz, fzA]
  | given k => simp [Row.d, WR.fz, fzA]
theorem its_len_of {d : PyData} {n : Nat} (h : (its d).length = n) : ∀ i, i < n → ∃ e, (its d)[i]? = some e := fun i hi => ⟨_, List.getElem?_eq_getElem (by omega)⟩
theorem nth_cons (d : PyData) (x : PyData) (xs : List PyData) (h : its d = x :: xs) (i : Nat) : nth d (i + 1) = xs.getD i .none := by
  unfold nth
  rw [h]
  rfl
/-- what a row's form comes to -/
theorem rowForm_row {d : PyData} (w : wd d = true) : rowForm d = .none ∨ ∃ r : Row, rowForm d = r.d ∧ r.ok := by
  unfold rowForm
  by_cases h0 : isL d = true ∧ (its d).length ≠ 0 ∧ isS (nth d 0) = true
  · rw [if_pos h0]
    obtain ⟨hL, hl, hS⟩ := h0
    have es := str_of hS
    unfold rowForm2
    by_cases h1 : (strOf (nth d 0) = "made" ∨ strOf (nth d 0) = "asked") ∧ (its d).length = 3
    · rw [if_pos h1]
      by_cases h2 : (isName (nth d 1) && areNums (nth d 2)) = true
      · rw [if_pos h2]
        simp only [Bool.and_eq_true] at h2
        obtain ⟨hn, ha⟩ := h2
        unfold areNums at ha
        simp only [Bool.and_eq_true] at ha
        obtain ⟨ks, ek⟩ := nums_of ha.2
        have w2 := nth_wd w hL (show 2 < (its d).length by omega)
        have lk : ks.length ≤ lim := by
          have := (wd_its w2 ha.1).1
          rw [ek] at this
          simpa [nums] using this
        obtain ⟨n, en⟩ : ∃ n, nth d 1 = .str n := by
          cases z : nth d 1 with
          | str n => exact ⟨n, rfl⟩
          | _ => rw [z] at hn; cases hn
        rw [ek, es, en]
        rw [en] at hn
        rcases h1.1 with h | h
        · exact .inr ⟨.made n ks, by rw [h]; rfl, hn, lk⟩
        · exact .inr ⟨.asked n ks, by rw [h]; rfl, hn, lk⟩
      · rw [if_neg h2]
        exact .inl rfl
    · rw [if_neg h1]
      by_cases h2 : strOf (nth d 0) = "either" ∧ (its d).length = 4 ∧ ((its d).drop 1).all isNum = true
      · rw [if_pos h2]
        obtain ⟨ks, ek⟩ := nums_of h2.2.2
        have lk : ks.length = 3 := by
          have e := congrArg List.length ek
          rw [List.length_drop] at e
          simp only [nums, List.length_map] at e
          omega
        match ks, lk with
        | [a, i, j], _ =>
          have g : ∀ m, nth d (m + 1) = (nums [a, i, j]).getD m .none := fun m => by
            unfold nth
            rw [← ek, List.getD_eq_getElem?_getD, List.getD_eq_getElem?_getD, List.getElem?_drop, Nat.add_comm]
          rw [es, h2.1, g 0, g 1, g 2]
          exact .inr ⟨.either a i j, rfl, trivial⟩
      · rw [if_neg h2]
        by_cases h3 : strOf (nth d 0) = "given" ∧ (its d).length = 2 ∧ ((its d).drop 1).all isNum = true
        · rw [if_pos h3]
          obtain ⟨ks, ek⟩ := nums_of h3.2.2
          have lk : ks.length = 1 := by
            have e := congrArg List.length ek
            rw [List.length_drop] at e
            simp only [nums, List.length_map] at e
            omega
          match ks, lk with
          | [k], _ =>
            have g : ∀ m, nth d (m + 1) = (nums [k]).getD m .none := fun m => by
              unfold nth
              rw [← ek, List.getD_eq_getElem?_getD, List.getD_eq_getElem?_getD, List.getElem?_drop, Nat.add_comm]
            rw [es, h3.1, g 0]
            exact .inr ⟨.given k, rfl, trivial⟩
        · rw [if_neg h3]
          exact .inl rfl
  · rw [if_neg h0]
    exact .inl rfl
/-! ### named_rows -/
abbrev spNamed : Sp := fun vs H Q _ => ∃ (v : V) (r : Row), vs = [v] ∧ Dr All H v r.d ∧ ∀ u H', Sm H H' → Dr All H' u (.tuple (nums r.named)) → Q u H'
section
variable {P : Program} {w : World} {K : PySem.W.Frag} {mg : Str → Option Value} {base : Heap}
theorem sc_named_rows : FnScope ["row"] ["row"] (defScope snamed_rows) := ⟨rfl, rfl, rfl, by decide +kernel, rfl, by decide +kernel, by decide +kernel⟩
theorem ok_named_rows (F : Fn K mg dnamed_rows) : Df P w K mg base CX0 1 "named_rows" ["row"] spNamed := by
  obtain ⟨f, fd, hm, F⟩ := F
  refine ⟨f, fd, hm, F.kp, F.bindsN fun _ _ _ _ _ _ us hl => match us, hl with | [_], _ => rfl, ?_⟩
  refine F.ok sc_named_rows (fun vs H Q E h => by obtain ⟨v, r, rfl, _⟩ := h; rfl) (fun cdv A outer s H vs Q E hr h => ?_)
  obtain ⟨v, r, rfl, rd, q⟩ := h
  refine ⟨_, PSs.nox (pss_cons (ps_if (pt_cmpR op_eq (pe_ix ix_D (pv 0) pe_int (fun _ _ => rfl)) pe_str (nomark _)) (pss_one (ps_ret (pe_tup pa_nil))) pss_nil)
      (pss_one (ps_ret (pe_ifExp (pt_cmpR op_eq (pe_ix ix_D (pv 0) pe_int (fun _ _ => rfl)) pe_str (nomark _)) (pe_slice sl_D (pv 0) (po_some pe_int) po_none) (pe_ix ix_D (pv 0) pe_int (fun _ _ => rfl)))))), ?_⟩
  cases r with
  | given k =>
    refine ⟨_, rfl, _, 0, _, rd, rfl, rfl, rfl, fun x0 r0 => ?_⟩
    cases r0.str_inv
    refine ⟨rfl, _, rfl, ite2 (fun _ => ?_) (fun z => absurd (decide_eq_true rfl) z)⟩
    refine ⟨(by show 0 ≤ sizeLine; decide), fun t ht => q _ _ (Sm.new ht) (.tup upd_same .nil)⟩
  | either a i j =>
    refine ⟨_, rfl, _, 0, _, rd, rfl, rfl, rfl, fun x0 r0 => ?_⟩
    cases r0.str_inv
    refine ⟨rfl, _, rfl, ite2 (fun z => absurd z (by decide +kernel)) (fun _ => ?_)⟩
    refine ⟨_, rfl, _, 0, _, rd, rfl, rfl, rfl, fun x0 r0 => ?_⟩
    cases r0.str_inv
    refine ⟨rfl, _, rfl, ite2 (fun _ => ?_) (fun z => absurd (decide_eq_true rfl) z)⟩
    refine ⟨_, rfl, _, rfl, _, rd, rfl, fun v1 H3 s3 r3 => q _ _ s3 ?_⟩
    exact r3
  | made n ks =>
    refine ⟨_, rfl, _, 0, _, rd, rfl, rfl, rfl, fun x0 r0 => ?_⟩
    cases r0.str_inv
    refine ⟨rfl, _, rfl, ite2 (fun z => absurd z (by decide +kernel)) (fun _ => ?_)⟩
    refine ⟨_, rfl, _, 0, _, rd, rfl, rfl, rfl, fun x0 r0 => ?_⟩
    cases r0.str_inv
    refine ⟨rfl, _, rfl, ite2 (fun z => absurd z (by decide +kernel)) (fun _ => ?_)⟩
    exact ⟨_, rfl, _, 2, _, rd, rfl, rfl, rfl, fun x0 r0 => q _ _ Sm.rfl' r0⟩
  | asked n ks =>
    refine ⟨_, rfl, _, 0, _, rd, rfl, rfl, rfl, fun x0 r0 => ?_⟩
    cases r0.str_inv
    refine ⟨rfl, _, rfl, ite2 (fun z => absurd z (by decide +kernel)) (fun _ => ?_)⟩
    refine ⟨_, rfl, _, 0, _, rd, rfl, rfl, rfl, fun x0 r0 => ?_⟩
    cases r0.str_inv
    refine ⟨rfl, _, rfl, ite2 (fun z => absurd z (by decide +kernel)) (fun _ => ?_)⟩
    exact ⟨_, rfl, _, 2, _, rd, rfl, rfl, rfl, fun x0 r0 => q _ _ Sm.rfl' r0⟩
end
end K8

namespace K8
open PySem PySem.Spec PyProof.Rows L2 WR
def rowsD (R : List Row) : PyData := .list (R.map Row.d)
def rowAt (R : List Row) (k : Nat) : Row := R.getD k (.given 0)
def isPart (R : List Row) (k : Nat) : Bool := decide (k < R.length) && !(rowAt R k).isAsked
def Row.parts : Row → List Nat
  | .either _ i j => [i, j]
  | r => r.named
def Row.badTest (R : List Row) : Row → Bool
  | .either a _ _ => !(rowAt R a).isAsked
  | _ => false
def Row.like : Row → Bool
  | .either _ i j => decide (i = j)
  | _ => false
def why4 (r : Row) : Option Str := if r.like = true then some "alike" else none
def why3 (R : List Row) (r : Row) : Option Str := if (r.parts.all (isPart R)) = false then some "kind" else why4 r
def why2 (R : List Row) (r : Row) : Option Str := if r.badTest R = true then some "kind" else why3 R r
def why (R : List Row) (r : Row) : Option Str := if (r.named.all fun k => decide (k < R.length)) = false then some "ahead" else why2 R r
def whyD : Option Str → PyData
  | none => .none
  | some x => .str x
theorem rowAt_at {R : List Row} {k : Nat} (h : k < R.length) : (R.map Row.d)[k]? = some (rowAt R k).d := by
  unfold rowAt
  rw [List.getElem?_map, List.getElem?_eq_getElem h, List.getD_eq_getElem?_getD, List.getElem?_eq_getElem h]
  rfl
/-- the row's word -/
def Row.word : Row → Str
  | .made _ _ => "made"
  | .asked _ _ => "asked"
  | .either _ _ _ => "either"
  | .given _ => "given"
theorem Row.word_at (r : Row) : (its r.d)[0]? = some (.str r.word) := by cases r <;> rfl
theorem Row.seqD (r : Row) : isL r.d = true := by cases r <;> rfl
theorem neS {x y : Str} (h : ¬ x = y) : decide (V.str x = V.str y) = false := decide_eq_false fun z => h (by injection z)
theorem Row.askedW : ∀ r : Row, (!decide (V.str r.word = V.str "asked")) = !r.isAsked
  | .made _ _ => congrArg (fun b => !b) (neS (show ¬ ("made" : Str) = "asked" by decide +kernel))
  | .asked _ _ => by rw [decide_eq_true (show V.str (Row.asked _ _).word = V.str "asked" from rfl)]; rfl
  | .either _ _ _ => congrArg (fun b => !b) (neS (show ¬ ("either" : Str) = "asked" by decide +kernel))
  | .given _ => congrArg (fun b => !b) (neS (show ¬ ("given" : Str) = "asked" by decide +kernel))
def Row.isEither : Row → Bool
  | .either _ _ _ => true
  | _ => false
theorem Row.eitherW : ∀ r : Row, decide (V.str r.word = V.str "either") = r.isEither
  | .made _ _ => neS (show ¬ ("made" : Str) = "either" by decide +kernel)
  | .asked _ _ => neS (show ¬ ("asked" : Str) = "either" by decide +kernel)
  | .either _ _ _ => decide_eq_true rfl
  | .given _ => neS (show ¬ ("given" : Str) = "either" by decide +kernel)
abbrev spIsPart : Sp := fun vs H Q _ => ∃ (v : V) (R : List Row) (k : Nat), vs = [v, .int (k : Int)] ∧ Dr All H v (rowsD R) ∧ ∀ H', Sm H H' → Q (.bl (isPart R k)) H'
abbrev spIsPlace : Sp := spP 2 (fun ds => ∃ d m, ds = [d, .int m]) fun ds => .bool (isPlace (ds.headD .none) (intOf (ds.getD 1 .none)))
abbrev spRowWhy : Sp := fun vs H Q _ => ∃ (v u : V) (R : List Row) (r : Row), vs = [v, u] ∧ Dr All H v (rowsD R) ∧ Dr All H u r.d ∧ r.ok ∧ ∀ x H', Sm H H' → Dr All H' x (whyD (why R r)) → Q x H'
section
variable {P : Program} {w : World} {K : PySem.W.Frag} {mg : Str → Option Value} {base : Heap}
/-! ### is_part -/
theorem sc_is_part : FnScope ["rows", "thing"] ["rows", "thing"] (defScope sis_part) := ⟨rfl, rfl, rfl, by decide +kernel, rfl, by decide +kernel, by decide +kernel⟩
theorem ok_is_part (B : Bt mg) (F : Fn K mg dis_part) (D1 : Df P w K mg base CX0 2 "is_place" ["thing", "many"] spIsPlace) : Df P w K mg base CX0 3 "is_part" ["rows", "thing"] spIsPart := by
  obtain ⟨f, fd, hm, F⟩ := F
  refine ⟨f, fd, hm, F.kp, F.bindsN fun _ _ _ _ _ _ us hl => match us, hl with | [_, _], _ => rfl, ?_⟩
  refine F.ok sc_is_part (fun vs H Q E h => by obtain ⟨v, R, k, rfl, _⟩ := h; rfl) (fun cdv A outer s H vs Q E hr h => ?_)
  obtain ⟨v, R, k, rfl, rd, q⟩ := h
  refine ⟨_, PSs.nox (pss_one (ps_ret (pe_and (pe_df D1 hr pass0 (pa_cons (pv 1) (pa_cons (pe_callB call_lenS (by rfl) B.len (by decide +kernel) (pa_cons (pv 0) pa_nil)) pa_nil))) (pe_one (pe_cmpR op_ne (pe_ix ix_D (pe_ix ix_D (pv 0) (pv 1) (fun _ _ => rfl)) pe_int (fun _ _ => rfl)) pe_str (nomark _)))))), ?_⟩
  refine ⟨_, rfl, _, rfl, v, _, rfl, rd, rfl, ?_⟩
  refine spP2_of (.int _) (.int _) ⟨_, _, rfl⟩ fun u H1 s1 r1 => ?_
  cases r1.bl_inv
  have e0 : isPlace (.int (k : Int)) ((its (rowsD R)).length : Nat) = decide (k < R.length) := by
    have el : (its (rowsD R)).length = R.length := by simp [rowsD, its]
    show (decide ((0 : Int) ≤ k) && decide ((k : Int) < ((its (rowsD R)).length : Nat))) = _
    rw [el, decide_eq_true (Int.natCast_nonneg k), Bool.true_and]
    exact decide_eq_decide.mpr (by omega)
  refine ⟨_, rfl, ite2 (fun hp => ?_) (fun hp => ?_)⟩
  · have hk : k < R.length := of_decide_eq_true (by rw [← e0]; exact hp)
    refine ⟨_, rfl, _, rfl, _, k, _, rd.sm s1, rfl, rfl, rowAt_at hk, fun x0 r0 => ?_⟩
    refine ⟨_, 0, _, r0, Row.seqD _, rfl, Row.word_at _, fun x1 r1 => ?_⟩
    cases r1.str_inv
    refine ⟨rfl, ?_⟩
    rw [Row.askedW]
    have := q H1 s1
    unfold isPart at this
    rw [decide_eq_true hk, Bool.true_and] at this
    exact this
  · have hk : decide (k < R.length) = false := by
      rw [← e0]
      exact eq_false_of_ne_true hp
    have := q H1 s1
    unfold isPart at this
    rw [hk, Bool.false_and] at this
    exact this
/-! ### row_why -/
theorem sc_row_why : FnScope ["rows", "row", "parts", "at"] ["rows", "row"] (defScope srow_why) := ⟨rfl, rfl, rfl, by decide +kernel, rfl, by decide +kernel, by decide +kernel⟩
theorem ok_row_why (B : Bt mg) (F : Fn K mg drow_why) (D1 : Df P w K mg base CX0 1 "named_rows" ["row"] spNamed) (D2 : Df P w K mg base CX0 3 "is_part" ["rows", "thing"] spIsPart) :
    Df P w K mg base CX0 4 "row_why" ["rows", "row"] spRowWhy := by
  obtain ⟨f, fd, hm, F⟩ := F
  refine ⟨f, fd, hm, F.kp, F.bindsN fun _ _ _ _ _ _ us hl => match us, hl with | [_, _], _ => rfl, ?_⟩
  refine F.ok sc_row_why (fun vs H Q E h => by obtain ⟨v, u, R, r, rfl, _⟩ := h; rfl) (fun cdv A outer s H vs Q E hr h => ?_)
  obtain ⟨v, u, R, r, rfl, rd, rr, hok, q⟩ := h
  have hr1 := hr.mono (show 1 ≤ 3 by decide)
  refine ⟨_, PSs.nox (pss_cons (ps_if (pt_not (pt_val (pe_callB (cr_all rfl) (by rfl) B.all (by decide +kernel) (pa_cons (pe_lc (own := [("at", 3)]) (g := gName 3) (tt := tYes) rfl sc_row_why.nd (pi_seq (pe_df D1 hr1 pass0 (pa_cons (pv 1) pa_nil))) (blkOk_by (own := [("at", 3)]) (N := ["rows", "row", "parts", "at"]) (sc := defScope srow_why) (by decide +kernel)) (fun _ _ _ _ _ => pg_name (i := 3) sc_row_why.nd rfl (by first | exact Or.inl rfl | exact Or.inr rfl)) (fun _ _ _ _ _ => pts_nil) (fun _ _ _ _ _ => (pe_cmpR op_lt (pv 3) (pe_callB call_lenS (by rfl) B.len (by decide +kernel) (pa_cons (pv 0) pa_nil)) (nomark _)))) pa_nil)))) (pss_one (ps_ret pe_str)) pss_nil)
      (pss_cons (ps_set (i := 2) sc_row_why.nd rfl (by first | exact Or.inl rfl | exact Or.inr rfl) (pe_df D1 hr1 pass0 (pa_cons (pv 1) pa_nil)))
      (C8.pss_cut (ps_if (pt_cmpR op_eq (pe_ix ix_D (pv 1) pe_int (fun _ _ => rfl)) pe_str (nomark _)) (pss_cons (ps_if (pt_cmpR op_ne (pe_ix ix_D (pe_ix ix_D (pv 0) (pe_ix ix_D (pv 1) pe_int (fun _ _ => rfl)) (fun _ _ => rfl)) pe_int (fun _ _ => rfl)) pe_str (nomark _)) (pss_one (ps_ret pe_str)) pss_nil)
      (pss_one (ps_set (i := 2) sc_row_why.nd rfl (by first | exact Or.inl rfl | exact Or.inr rfl) (pe_slice sl_D (pv 1) (po_some pe_int) po_none)))) pss_nil)
      (pss_cons (ps_if (pt_not (pt_val (pe_callB (cr_all rfl) (by rfl) B.all (by decide +kernel) (pa_cons (pe_lc (own := [("at", 3)]) (g := gName 3) (tt := tYes) rfl sc_row_why.nd (pi_seq (pv 2)) (blkOk_by (own := [("at", 3)]) (N := ["rows", "row", "parts", "at"]) (sc := defScope srow_why) (by decide +kernel)) (fun _ _ _ _ _ => pg_name (i := 3) sc_row_why.nd rfl (by first | exact Or.inl rfl | exact Or.inr rfl)) (fun _ _ _ _ _ => pts_nil) (fun _ _ _ _ _ => (pe_df D2 hr pass0 (pa_cons (pv 0) (pa_cons (pv 3) pa_nil))))) pa_nil)))) (pss_one (ps_ret pe_str)) pss_nil)
      (pss_cons (ps_if (PW.pt (pw_and (pt_cmpR op_eq (pe_ix ix_D (pv 1) pe_int (fun _ _ => rfl)) pe_str (nomark _)) (pw_and1 (pt_cmpR op_eq (pe_ix ix_D (pv 1) pe_int (fun _ _ => rfl)) (pe_ix ix_D (pv 1) pe_int (fun _ _ => rfl)) (nomark _))))) (pss_one (ps_ret pe_str)) pss_nil)
      (pss_one (ps_ret pe_non))))))), ?_⟩
  have lenR : (its (rowsD R)).length = R.length := by simp [rowsD, its]
  have hnl : r.named.length ≤ lim := by
    cases r with
    | made n ks => exact hok.2
    | asked n ks => exact hok.2
    | either a i j => show 3 ≤ lim; decide
    | given k => show 0 ≤ lim; decide
  have fin : ∀ x H1, Sm H H1 → Dr All H1 x (whyD (why R r)) → Q x H1 := fun x H1 s1 z => q _ _ s1 z
  -- not all([at < len(rows) for at in named_rows(row)])
  refine ⟨_, rfl, u, r, rfl, rr, fun y H1 s1 r1 => ?_⟩
  obtain ⟨a, xs, rfl, hq, rs⟩ := r1.seq rfl
  refine ⟨a, xs, rfl, hq, fun J hJ D nD => ?_⟩
  refine lc_fz (fun d => .bool (decide (intOf d < R.length))) (.seq hJ rs) nD (by simpa [its, nums] using hnl) (fun _ => rfl) (fun _ _ => rfl) (fun x e H2 Q' he s2 rx q' => ?_) fun H2 ys s2 eD ry => ?_
  · obtain ⟨k, _, rfl⟩ := List.mem_map.mp he
    cases rx.int_inv
    refine ⟨_, rfl, _, rfl, v, _, rfl, rd.sm (s1.trans s2), rfl, _, _, rfl, rfl, q' _ _ Sm.rfl' ?_⟩
    rw [lenR]
    exact .bl _
  have eb : (its (.tuple (nums r.named))).map (fun d => PyData.bool (decide (intOf d < R.length))) = (r.named.map fun k => decide (k < R.length)).map PyData.bool := by
    simp only [its, nums, List.map_map]
    refine List.map_congr_left fun k _ => ?_
    show PyData.bool (decide ((k : Int) < (R.length : Int))) = PyData.bool (decide (k < R.length))
    rw [decide_eq_decide.mpr (show (k : Int) < (R.length : Int) ↔ k < R.length by omega)]
  rw [eb] at ry
  have ey := ry.bls
  subst ey
  refine ⟨_, _, rfl, SqL.of eD, _, rfl, ?_⟩
  have ea : ((r.named.map fun k => decide (k < R.length)).all id) = r.named.all fun k => decide (k < R.length) := by rw [List.all_map]; rfl
  rw [ea]
  have s2' := s1.trans s2
  refine ite2 (fun hA => ?_) (fun hA => ?_)
  · have hA' : (r.named.all fun k => decide (k < R.length)) = false := by simpa using hA
    refine fin _ _ s2' ?_
    rw [show why R r = some "ahead" from if_pos hA']
    exact .str _
  have hA' : (r.named.all fun k => decide (k < R.length)) = true := by simpa using hA
  have w1 : why R r = why2 R r := if_neg (by rw [hA']; exact Bool.noConfusion)
  -- parts = named_rows(row)
  refine ⟨_, rfl, u, r, rfl, rr.sm s2', fun y3 H3 s3 r3 => ?_⟩
  have s3' := s2'.trans s3
  obtain ⟨a3, xs3, rfl, hq3, rs3⟩ := r3.seq rfl
  have rr3 := rr.sm s3'
  have rd3 := rd.sm s3'
  -- row[0] == 'either': the test's kind; parts
  by_cases hbt : r.badTest R = true
  · have wk : why R r = some "kind" := by rw [w1]; exact if_pos hbt
    obtain ⟨a', i', j', rfl⟩ : ∃ a i j, r = .either a i j := by
      cases r with
      | either a i j => exact ⟨a, i, j, rfl⟩
      | _ => cases hbt
    have ha : a' < R.length := by
      simp only [Row.named, List.all_cons, Bool.and_eq_true, decide_eq_true_eq] at hA'
      exact hA'.1
    refine ⟨fun _ _ => False, ⟨_, rfl, _, 0, _, rr3, rfl, rfl, rfl, fun x0 r0 => ?_⟩, fun _ _ z => z.elim⟩
    cases r0.str_inv
    refine ⟨rfl, _, rfl, ite2 (fun _ => ?_) (fun z => absurd (decide_eq_true rfl) z)⟩
    refine ⟨_, rfl, _, rfl, _, 1, _, rr3, rfl, rfl, rfl, fun x1 r1 => ?_⟩
    cases r1.int_inv
    refine ⟨_, a', _, rd3, rfl, rfl, rowAt_at ha, fun x2 r2 => ?_⟩
    refine ⟨_, 0, _, r2, Row.seqD _, rfl, Row.word_at _, fun x3 r3 => ?_⟩
    cases r3.str_inv
    refine ⟨rfl, _, rfl, ite2 (fun _ => ?_) (fun z => absurd ?_ z)⟩
    · refine fin _ _ s3' ?_
      rw [wk]
      exact .str _
    · rw [Row.askedW]
      exact hbt
  have w2 : why R r = why3 R r := by rw [w1]; exact if_neg hbt
  have hpl : r.parts.length ≤ lim := by
    cases r with
    | either a i j => show 2 ≤ lim; decide
    | _ => exact hnl
  refine ⟨fun σ' H' => ∃ (x : V), σ' = [some v, some u, some x, none] ∧ Sm H H' ∧ Dr All H' x (.tuple (nums r.parts)), ⟨_, rfl, _, 0, _, rr3, Row.seqD r, rfl, Row.word_at r, fun x0 r0 => ?_⟩, ?_⟩
  · cases r0.str_inv
    refine ⟨rfl, ?_⟩
    rw [Row.eitherW]
    cases r with
    | either a' i' j' =>
      have ha : a' < R.length := by
        simp only [Row.named, List.all_cons, Bool.and_eq_true, decide_eq_true_eq] at hA'
        exact hA'.1
      refine ⟨_, rfl, iteT ?_⟩
      refine ⟨_, rfl, _, rfl, _, 1, _, rr3, rfl, rfl, rfl, fun x1 r1 => ?_⟩
      cases r1.int_inv
      refine ⟨_, a', _, rd3, rfl, rfl, rowAt_at ha, fun x2 r2 => ?_⟩
      refine ⟨_, 0, _, r2, Row.seqD _, rfl, Row.word_at _, fun x3 r3 => ?_⟩
      cases r3.str_inv
      refine ⟨rfl, _, rfl, ite2 (fun z => absurd (by rw [Row.askedW] at z; exact z) hbt) (fun _ => ?_)⟩
      -- parts = row[2:]
      refine ⟨_, rfl, _, rfl, _, rr3, rfl, fun x4 H4 s4 r4 => ⟨x4, rfl, s3'.trans s4, r4⟩⟩
    | made n ks => exact ⟨_, rfl, iteF ⟨_, rfl, s3', r3⟩⟩
    | asked n ks => exact ⟨_, rfl, iteF ⟨_, rfl, s3', r3⟩⟩
    | given k => exact ⟨_, rfl, iteF ⟨_, rfl, s3', r3⟩⟩
  rintro σ' H4 ⟨x4, rfl, s4, r4⟩
  have rr4 := rr.sm s4
  have rd4 := rd.sm s4
  obtain ⟨a4, xs4, rfl, hq4, rs4⟩ := r4.seq rfl
  -- not all([is_part(rows, at) for at in parts])
  refine ⟨_, rfl, a4, xs4, rfl, hq4, fun J hJ D nD => ?_⟩
  refine lc_fz (fun d => .bool (isPart R (intOf d).toNat)) (.seq hJ rs4) nD (by simpa [its, nums] using hpl) (fun _ => rfl) (fun _ _ => rfl) (fun x e H2 Q' he s2 rx q' => ?_) fun H5 ys s5 eD ry => ?_
  · obtain ⟨k, _, rfl⟩ := List.mem_map.mp he
    cases rx.int_inv
    refine ⟨_, rfl, _, rfl, v, R, k, rfl, rd4.sm s2, fun H' s' => q' _ _ s' ?_⟩
    show Dr All H' (V.bl (isPart R k)) (PyData.bool (isPart R (k : Int).toNat))
    rw [Int.toNat_natCast]
    exact .bl _
  have eb : (its (.tuple (nums r.parts))).map (fun d => PyData.bool (isPart R (intOf d).toNat)) = (r.parts.map (isPart R)).map PyData.bool := by
    simp only [its, nums, List.map_map]
    refine List.map_congr_left fun k _ => ?_
    show PyData.bool (isPart R (k : Int).toNat) = PyData.bool (isPart R k)
    rw [Int.toNat_natCast]
  rw [eb] at ry
  have ey := ry.bls
  subst ey
  refine ⟨_, _, rfl, SqL.of eD, _, rfl, ?_⟩
  have ea : ((r.parts.map (isPart R)).all id) = r.parts.all (isPart R) := by rw [List.all_map]; rfl
  rw [ea]
  have s5' := s4.trans s5
  refine ite2 (fun hP => ?_) (fun hP => ?_)
  · have hP' : (r.parts.all (isPart R)) = false := by simpa using hP
    refine fin _ _ s5' ?_
    rw [w2, show why3 R r = some "kind" from if_pos hP']
    exact .str _
  have hP' : (r.parts.all (isPart R)) = true := by simpa using hP
  have w3 : why R r = why4 r := by
    rw [w2]
    exact if_neg (by rw [hP']; exact Bool.noConfusion)
  -- row[0] == 'either' and row[2] == row[3]
  have rr5 := rr.sm s5'
  refine ⟨_, rfl, _, 0, _, rr5, Row.seqD r, rfl, Row.word_at r, fun x0 r0 => ?_⟩
  cases r0.str_inv
  refine ⟨rfl, ?_⟩
  rw [Row.eitherW]
  have nope : r.like = false → Q .non H5 := fun hl => fin _ _ s5' (by rw [w3, show why4 r = none from if_neg (by rw [hl]; exact Bool.noConfusion)]; exact .non)
  cases r with
  | either a' i' j' =>
    refine ⟨_, rfl, iteT ?_⟩
    refine ⟨_, rfl, _, 2, _, rr5, rfl, rfl, rfl, fun x2 r2 => ?_⟩
    cases r2.int_inv
    refine ⟨_, rfl, _, 3, _, rr5, rfl, rfl, rfl, fun x3 r3 => ?_⟩
    cases r3.int_inv
    refine ⟨rfl, _, rfl, ite2 (fun z => ?_) (fun z => nope (decide_eq_false fun e => z (decide_eq_true (by rw [e]))))⟩
    have e : i' = j' := by
      have := of_decide_eq_true z
      injection this with this
      omega
    refine fin _ _ s5' ?_
    rw [w3, show why4 (Row.either a' i' j') = some "alike" from if_pos (decide_eq_true e)]
    exact .str _
  | made n ks => exact ⟨_, rfl, iteF (iteF (nope rfl))⟩
  | asked n ks => exact ⟨_, rfl, iteF (iteF (nope rfl))⟩
  | given k => exact ⟨_, rfl, iteF (iteF (nope rfl))⟩
end
end K8

namespace K8
open PySem PySem.Spec PyProof.Rows L2 WR
/-! ### the table: its object, its list, its dict -/
theorem kw : ¬ (("rows" : Str) = "where") := by decide +kernel
def flds (l d : Addr) : List (Str × V) := putF "where" (.ref d) (putF "rows" (.ref l) [])
theorem flds_rows (l d : Addr) : (flds l d).lookup ("rows" : Str) = some (.ref l) := by
  unfold flds
  rw [lookup_putF, if_neg kw, lookup_putF, if_pos rfl]
theorem flds_where (l d : Addr) : (flds l d).lookup ("where" : Str) = some (.ref d) := by
  unfold flds
  rw [lookup_putF, if_pos rfl]
theorem flds_no (l d : Addr) {m : Str} (h1 : ¬ m = "where") (h2 : ¬ m = "rows") : (flds l d).lookup m = none := by
  unfold flds
  rw [lookup_putF, if_neg h1, lookup_putF, if_neg h2]
  all_goals rfl
abbrev No : Addr → Prop := fun _ => False
def ents : List Row → List Addr → Nat → List Ent
  | r :: R, a :: as, n => (r.d, a, .int (n : Nat)) :: ents R as (n + 1)
  | _, _, _ => []
theorem ents_app (r : Row) (a : Addr) : ∀ (R : List Row) (as : List Addr) (n : Nat), as.length = R.length → ents (R ++ [r]) (as ++ [a]) n = ents R as n ++ [(r.d, a, .int ((n + R.length : Nat) : Int))]
  | [], [], n, _ => rfl
  | r' :: R, a' :: as, n, h => by
    show (r'.d, a', V.int (n : Nat)) :: ents (R ++ [r]) (as ++ [a]) (n + 1) = _
    rw [ents_app r a R as (n + 1) (by simpa using h)]
    have e : n + 1 + R.length = n + (r' :: R).length := by simp; omega
    rw [e]
    rfl
  | [], _ :: _, _, h => by simp at h
  | _ :: _, [], _, h => by simp at h
theorem nums_inj : ∀ {ks js : List Nat}, nkA (nums ks) = nkA (nums js) → ks = js
  | [], [], _ => rfl
  | k :: ks, j :: js, h => by
    simp only [nums, List.map_cons, nkA, nk, List.cons.injEq, NestedKey.num.injEq] at h
    rw [nums_inj (ks := ks) (js := js) h.2, show k = j by have := h.1; omega]
  | [], _ :: _, h => by simp [nums, nkA] at h
  | _ :: _, [], h => by simp [nums, nkA] at h
theorem txt_ne {x y : Str} (h : ¬ x = y) (z : NestedKey.text x = NestedKey.text y) : False := h (by injection z)
theorem Row.nk_inj {r s : Row} (h : nk r.d = nk s.d) : r = s := by
  cases r with
  | made n ks => cases s with
    | made m js =>
      simp only [Row.d, nk, nkA, NestedKey.tup.injEq, List.cons.injEq, NestedKey.text.injEq] at h
      rw [h.2.1, nums_inj h.2.2.1]
    | asked m js =>
      simp only [Row.d, nk, nkA, NestedKey.tup.injEq, List.cons.injEq] at h
      exact (txt_ne (by decide +kernel) h.1).elim
    | either a i j => simp [Row.d, nk, nkA] at h
    | given k => simp [Row.d, nk, nkA] at h
  | asked n ks => cases s with
    | asked m js =>
      simp only [Row.d, nk, nkA, NestedKey.tup.injEq, List.cons.injEq, NestedKey.text.injEq] at h
      rw [h.2.1, nums_inj h.2.2.1]
    | made m js =>
      simp only [Row.d, nk, nkA, NestedKey.tup.injEq, List.cons.injEq] at h
      exact (txt_ne (by decide +kernel) h.1).elim
    | either a i j => simp [Row.d, nk, nkA] at h
    | given k => simp [Row.d, nk, nkA] at h
  | either a i j => cases s with
    | either a' i' j' =>
      simp only [Row.d, nk, nkA, NestedKey.tup.injEq, List.cons.injEq, NestedKey.num.injEq] at h
      obtain ⟨_, h1, h2, h3, _⟩ := h
      rw [show a = a' by omega, show i = i' by omega, show j = j' by omega]
    | made m js => simp [Row.d, nk, nkA] at h
    | asked m js => simp [Row.d, nk, nkA] at h
    | given k => simp [Row.d, nk, nkA] at h
  | given k => cases s with
    | given k' =>
      simp only [Row.d, nk, nkA, NestedKey.tup.injEq, List.cons.injEq, NestedKey.num.injEq] at h
      rw [show k = k' by omega]
    | made m js => simp [Row.d, nk, nkA] at h
    | asked m js => simp [Row.d, nk, nkA] at h
    | either a i j => simp [Row.d, nk, nkA] at h
theorem nums_depth (ks : List Nat) : NestedKey.depthAll (nkA (nums ks)) = 0 := by
  induction ks with
  | nil => rfl
  | cons k ks ih =>
    show max (NestedKey.depth (nk (.int (k : Int)))) (NestedKey.depthAll (nkA (nums ks))) = 0
    rw [ih]
    rfl
theorem Row.kd (r : Row) : Kd r.d := by
  refine ⟨by cases r <;> rfl, Row.fz r, ?_⟩
  cases r with
  | made n ks => simp [Row.d, nk, nkA, NestedKey.depth, NestedKey.depthAll, nums_depth]
  | asked n ks => simp [Row.d, nk, nkA, NestedKey.depth, NestedKey.depthAll, nums_depth]
  | either a i j => simp [Row.d, nk, nkA, NestedKey.depth, NestedKey.depthAll]
  | given k => simp [Row.d, nk, nkA, NestedKey.depth, NestedKey.depthAll]
/-- the place of a row -/
def placeOf : List Row → Row → Nat → Option Nat
  | [], _, _ => none
  | r' :: R, r, n => if r' = r then some n else placeOf R r (n + 1)
theorem look_ents (r : Row) : ∀ (R : List Row) (as : List Addr) (n : Nat), as.length = R.length → lookE (ents R as n) r.d = (placeOf R r n).map fun k => V.int (k : Nat)
  | [], [], _, _ => rfl
  | r' :: R, a :: as, n, h => by
    have ih := look_ents r R as (n + 1) (by simpa using h)
    unfold lookE at ih ⊢
    show ((((r'.d, a, V.int (n : Nat)) :: ents R as (n + 1)).find? fun q => decide (nk q.1 = nk r.d)).map (·.2.2)) = _
    rw [List.find?_cons]
    unfold placeOf
    by_cases e : r' = r
    · rw [if_pos e, e, decide_eq_true rfl]
      rfl
    · rw [if_neg e, decide_eq_false fun z => e (Row.nk_inj z)]
      exact ih
  | [], _ :: _, _, h => by simp at h
  | _ :: _, [], _, h => by simp at h
theorem placeOf_none {r : Row} : ∀ {R : List Row} {n : Nat}, r ∉ R → placeOf R r n = none
  | [], _, _ => rfl
  | r' :: R, n, h => by
    unfold placeOf
    rw [if_neg fun e => h (by rw [e]; exact List.mem_cons_self ..)]
    exact placeOf_none fun z => h (List.mem_cons_of_mem _ z)
theorem placeOf_some {r : Row} : ∀ {R : List Row} {n : Nat}, r ∈ R → ∃ k, placeOf R r n = some k
  | [], _, h => by cases h
  | r' :: R, n, h => by
    unfold placeOf
    by_cases e : r' = r
    · exact ⟨n, if_pos e⟩
    · rw [if_neg e]
      rcases List.mem_cons.mp h with z | z
      · exact absurd z.symm e
      · exact placeOf_some z
structure Tb (P : Program) (w : World) (C : Addr) (H : Hp) (t l d : Addr) (R : List Row) (as : List Addr) : Prop where
  ob : ∃ dx, H t = some (.ins C dx (flds l d))
  len : as.length = R.length
  ls : H l = some (.lst (as.map V.ref))
  rs : DrA No H (as.map V.ref) (R.map Row.d)
  rd : RD P w H d (ents R as 0)
  ok : ∀ r ∈ R, r.ok
  nd : R.Nodup
section
variable {P : Program} {w : World} {C : Addr} {H H' : Hp} {t l d : Addr} {R : List Row} {as : List Addr}
theorem RD.sm {xs : List Ent} (s : Sm H H') (h : RD P w H d xs) : RD P w H' d xs := by
  refine ⟨?_, fun q hq => ⟨(h.keys q hq).1, (h.keys q hq).2.sm s⟩⟩
  rcases h.at_ with ⟨e, z⟩ | z
  · exact .inl ⟨e, s _ _ z⟩
  · exact .inr (s _ _ z)
theorem Tb.sm (s : Sm H H') (T : Tb P w C H t l d R as) : Tb P w C H' t l d R as := by
  obtain ⟨dx, e⟩ := T.ob
  exact ⟨⟨dx, s _ _ e⟩, T.len, s _ _ T.ls, T.rs.sm s, RD.sm s T.rd, T.ok, T.nd⟩
theorem Tb.rows (T : Tb P w C H t l d R as) : Dr All H (.ref l) (rowsD R) := .lst trivial T.ls T.rs.all
theorem Tb.dne (T : Tb P w C H t l d R as) : H d ≠ some (.lst (as.map V.ref)) ∧ (∀ C' dx fs, H d ≠ some (.ins C' dx fs)) ∧ (∀ xs, H d ≠ some (.tup xs)) ∧ H d ≠ none := by
  rcases T.rd.at_ with ⟨_, z⟩ | z
  · rw [z]
    exact ⟨(fun q => nomatch q), (fun _ _ _ q => nomatch q), (fun _ q => nomatch q), (fun q => nomatch q)⟩
  · rw [z]
    unfold rdO
    exact ⟨(fun q => nomatch q), (fun _ _ _ q => nomatch q), (fun _ q => nomatch q), (fun q => nomatch q)⟩
/-- what is known of the class -/
structure RT (P : Program) (w : World) (K : PySem.W.Frag) (mg : Str → Option Value) (base : Heap) (C : Addr) : Prop where
  cl : Cls K C
  nR : NoAttr K C "rows"
  nW : NoAttr K C "where"
  gC : mg "RowTable" = some (.ref C)
abbrev spTI (C : Addr) : Sp := fun vs H Q _ => ∃ (p dx rl : Addr), vs = [.ref p, .ref rl] ∧ H p = some (.ins C dx []) ∧ H rl = some (.lst []) ∧
  ∀ (l d : Addr) (H' : Hp), H l = none → H d = none → l ≠ d → (∀ b o, H b = some o → b ≠ p → H' b = some o) → H' p = some (.ins C dx (flds l d)) → H' l = some (.lst []) → H' d = some (.dK []) → Q .non H'
abbrev spPut (P : Program) (w : World) (C : Addr) : Sp := fun vs H Q _ => ∃ (t l d a : Addr) (R : List Row) (as : List Addr) (r : Row), vs = [.ref t, .ref a] ∧ Tb P w C H t l d R as ∧ Dr All H (.ref a) r.d ∧ r.ok ∧ R.length ≤ lim ∧
  (∀ k, placeOf R r 0 = some k → Q (.int (k : Nat)) H) ∧
  (r ∉ R → ∀ H', (∀ b o, b ≠ l → b ≠ d → H b = some o → H' b = some o) → Tb P w C H' t l d (R ++ [r]) (as ++ [a]) → Q (.int (R.length : Nat)) H')
section
variable {P : Program} {w : World} {K : PySem.W.Frag} {mg : Str → Option Value} {base : Heap} {C : Addr}
theorem sc_RowTable_I : FnScope ["self", "rows", "at", "row"] ["self", "rows"] (defScope sRowTable_I) := ⟨rfl, rfl, rfl, by decide +kernel, rfl, by decide +kernel, by decide +kernel⟩
theorem ok_RowTable_I (B : Bt mg) (T : RT P w K mg base C) {f : Addr} {fd : FuncData} (F : FunD K dRowTable_I.name dRowTable_I.qual dRowTable_I.params dRowTable_I.body dRowTable_I.scope [] [] f fd) :
    FnOk P w K mg base CX0 1 f fd ["self", "rows"] (spTI C) := by
  refine F.ok sc_RowTable_I (fun vs H Q E h => by obtain ⟨p, dx, rl, rfl, _⟩ := h; rfl) (fun cdv A outer s H vs Q E hr h => ?_)
  obtain ⟨p, dx, rl, rfl, hp, hl, q⟩ := h
  refine ⟨_, PSs.nox (pss_cons (ps_fld (pv 0) (pe_callTy call_list_of (by rfl) B.list (by decide +kernel) (pa_cons (pv 1) pa_nil)) rfl)
      (pss_one (ps_fld (pv 0) (pe_dc (own := [("at", 2), ("row", 3)]) (g := gTup K 2 (gCons (gName 2) (gCons (gName 3) gNil))) (tt := tYes) rfl sc_RowTable_I.nd (pi_enS B.enumerate (pa_cons (pe_fld (pv 0) rfl) pa_nil)) (blkOk_by (own := [("at", 2), ("row", 3)]) (N := ["self", "rows", "at", "row"]) (sc := defScope sRowTable_I) (by decide +kernel)) (fun _ _ _ _ _ => pg_tup rfl (pgs_cons (pg_name (i := 2) sc_RowTable_I.nd rfl (Or.inl rfl)) (pgs_cons (pg_name (i := 3) sc_RowTable_I.nd rfl (Or.inl rfl)) pgs_nil))) (fun _ _ _ _ _ => pts_nil) (fun _ _ _ _ _ => pv 3) (fun _ _ _ _ _ => pv 2)) rfl))), ?_⟩
  -- self.rows = list(rows)
  refine ⟨_, rfl, rl, _, rfl, .inl (SqL.of hl), fun l nl => ?_⟩
  have npl : p ≠ l := ne_of_none hp nl
  refine ⟨_, rfl, p, C, dx, [], rfl, (by rw [upd_ne npl]; exact hp), T.cl, T.nR, (by show 0 < 1000; decide), ?_⟩
  -- self.where = {..}
  refine ⟨_, rfl, p, C, dx, _, _, rfl, upd_same, T.cl, T.nR, ?_, l, [], rfl, .inl (by rw [upd_ne npl.symm]; exact upd_same), fun J hJ D nD => ?_⟩
  · rw [lookup_putF, if_pos rfl]
  have npD : p ≠ D := ne_of_none upd_same nD
  have nlD : l ≠ D := by
    refine ne_of_none (o := .lst []) ?_ nD
    rw [upd_ne npl.symm]
    exact upd_same
  have nDl : H D = none := by
    rw [upd_ne npD.symm, upd_ne nlD.symm] at nD
    exact nD
  refine ⟨fun i m H2 => m = 0 ∧ i = 0 ∧ H2 = upd (upd (upd H l (.lst [])) p (.ins C dx (putF "rows" (.ref l) []))) D (.dK []), ⟨0, rfl, rfl, rfl⟩, ?_⟩
  rintro i m H2 ⟨rfl, rfl, rfl⟩
  refine .inl ⟨?_, ?_⟩
  · have e : upd (upd (upd H l (.lst [])) p (.ins C dx (putF "rows" (.ref l) []))) D (.dK []) l = some (.lst []) := by
      rw [upd_ne nlD, upd_ne npl.symm]
      exact upd_same
    rcases hJ with ⟨rfl, z⟩ | ⟨rfl, z⟩
    · exact ⟨[], SqL.of e, Nat.le_refl _⟩
    · rw [upd_ne npl.symm, upd_same] at z
      cases z
  refine ⟨_, rfl, p, C, dx, _, rfl, (by rw [upd_ne npD]; exact upd_same), T.cl, T.nW, (by show 1 < 1000; decide), ?_⟩
  refine q l D _ nl nDl nlD (fun b o e hb => ?_) upd_same ?_ ?_
  · rw [upd_ne hb, upd_ne (ne_of_none e nDl), upd_ne hb, upd_ne (ne_of_none e nl)]
    exact e
  · rw [upd_ne npl.symm, upd_ne nlD, upd_ne npl.symm]
    exact upd_same
  · rw [upd_ne npD.symm]
    exact upd_same
theorem sc_RowTable_put_in : FnScope ["self", "row", "at"] ["self", "row"] (defScope sRowTable_put_in) := ⟨rfl, rfl, rfl, by decide +kernel, rfl, by decide +kernel, by decide +kernel⟩
theorem ok_RowTable_put_in (B : Bt mg) (T : RT P w K mg base C) {f : Addr} {fd : FuncData} (F : FunD K dRowTable_put_in.name dRowTable_put_in.qual dRowTable_put_in.params dRowTable_put_in.body dRowTable_put_in.scope [] [] f fd) :
    FnOk P w K mg base CX0 1 f fd ["self", "row"] (spPut P w C) := by
  refine F.ok sc_RowTable_put_in (fun vs H Q E h => by obtain ⟨t, l, d, a, R, as, r, rfl, _⟩ := h; rfl) (fun cdv A outer s H vs Q E hr h => ?_)
  obtain ⟨t, l, d, a, R, as, r, rfl, tb, rr, hok, hlen, q1, q2⟩ := h
  have hu := hr.units
  refine ⟨_, PSs.nox (pss_cons (ps_set (i := 2) sc_RowTable_put_in.nd rfl (by first | exact Or.inl rfl | exact Or.inr rfl) (pe_getRD hu (pe_fld (pv 0) rfl) (pv 1) ⟨rfl, rfl, rfl, rfl⟩))
      (pss_cons (ps_if (pt_cmpR op_isN (pv 2) pe_non (nomark _)) (pss_cons (ps_set (i := 2) sc_RowTable_put_in.nd rfl (by first | exact Or.inl rfl | exact Or.inr rfl) (pe_callB call_lenS (by rfl) B.len (by decide +kernel) (pa_cons (pe_fld (pv 0) rfl) pa_nil)))
      (pss_cons (ps_expr (pe_bm PySem.F.plainAttrs_list PySem.F.slot_list_append PySem.F.type_list_append mt_append (pe_fld (pv 0) rfl) (pa_cons (pv 1) pa_nil)))
      (pss_one (ps_asg (pv 2) (pg_sub (pe_fld (pv 0) rfl) (pv 1) (set_RD hu)))))) pss_nil)
      (pss_one (ps_ret (pv 2))))), ?_⟩
  obtain ⟨dx, ob⟩ := id tb.ob
  -- at = self.where.get(row)
  refine ⟨_, rfl, t, C, dx, _, _, rfl, ob, T.cl, T.nW, flds_where l d, d, rfl, ⟨_, tb.rd⟩, _, rfl, a, r.d, _, rfl, rr, Row.kd r, tb.rd, ?_⟩
  rw [look_ents r R as 0 tb.len]
  by_cases hm : r ∈ R
  · obtain ⟨k, ek⟩ := placeOf_some (n := 0) hm
    rw [ek]
    refine ⟨_, rfl, rfl, _, rfl, iteF ⟨_, rfl, q1 k ek⟩⟩
  · rw [placeOf_none hm]
    refine ⟨_, rfl, rfl, _, rfl, iteT ?_⟩
    have hl2 := lim_lt
    obtain ⟨e1, e2, e3, e4⟩ := tb.dne
    have ntl : t ≠ l := fun z => by
      rw [z, tb.ls] at ob
      cases ob
    have ntd : t ≠ d := fun z => e2 _ _ _ (by rw [← z]; exact ob)
    have nld : l ≠ d := fun z => e1 (by rw [← z]; exact tb.ls)
    have elen : (its (rowsD R)).length = R.length := by simp [rowsD, its]
    have hal : a ≠ l := fun z => by
      rw [z] at rr
      cases r <;> (cases rr with | tup e _ => rw [tb.ls] at e; cases e)
    have had : a ≠ d := fun z => by
      rw [z] at rr
      cases r <;> (cases rr with | tup e _ => exact e3 _ e)
    -- at = len(self.rows)
    refine ⟨_, rfl, t, C, dx, _, _, rfl, ob, T.cl, T.nR, flds_rows l d, _, rowsD R, rfl, tb.rows, rfl, ?_⟩
    rw [elen]
    -- self.rows.append(row)
    refine ⟨_, rfl, t, C, dx, _, _, rfl, ob, T.cl, T.nR, flds_rows l d, .inl ⟨rfl, _, SqL.of tb.ls⟩, _, rfl, l, _, _, rfl, rfl, tb.ls, (by rw [List.length_map, tb.len]; omega), ?_⟩
    -- self.where[row] = at
    have eR : List.map V.ref as ++ [V.ref a] = List.map V.ref (as ++ [a]) := by simp
    have ob1 : upd H l (.lst (List.map V.ref as ++ [V.ref a])) t = some (.ins C dx (flds l d)) := by rw [upd_ne ntl]; exact ob
    have st1 : Stays No H (upd H l (.lst (List.map V.ref as ++ [V.ref a]))) := ⟨fun _ _ z => z.elim, fun b xs z => by
      rw [upd_ne fun q => by rw [q, tb.ls] at z; cases z]
      exact z⟩
    have rr1 : Dr No (upd H l (.lst (List.map V.ref as ++ [V.ref a]))) (.ref a) r.d := (rr.fz (M := No) (Row.fz r)).mono (fun _ z => z) st1
    have rd1 : RD P w (upd H l (.lst (List.map V.ref as ++ [V.ref a]))) d (ents R as 0) := by
      refine ⟨?_, fun q hq => ⟨(tb.rd.keys q hq).1, (((tb.rd.keys q hq).2.fz (M := No) (tb.rd.keys q hq).1.fz).mono (fun _ z => z) st1).all⟩⟩
      rcases tb.rd.at_ with ⟨z1, z2⟩ | z
      · exact .inl ⟨z1, by rw [upd_ne nld.symm]; exact z2⟩
      · exact .inr (by rw [upd_ne nld.symm]; exact z)
    have elE : (ents R as 0).length < sizeLine := by
      have : ∀ (R : List Row) (as : List Addr) (n : Nat), (ents R as n).length ≤ R.length := by
        intro R
        induction R with
        | nil => intro as n; cases as <;> simp [ents]
        | cons r R ih => intro as n; cases as with
          | nil => simp [ents]
          | cons a as => simpa [ents] using ih as (n + 1)
      have := this R as 0
      omega
    refine ⟨_, rfl, _, rfl, t, C, dx, _, _, rfl, ob1, T.cl, T.nW, flds_where l d, _, rfl, d, a, r.d, _, rfl, rfl, rr1.all, Row.kd r, rd1, (by rw [look_ents r R as 0 tb.len, placeOf_none hm]; rfl), elE, ?_⟩
    -- return at
    have st2 : ∀ o, Stays No (upd H l (.lst (List.map V.ref as ++ [V.ref a]))) (upd (upd H l (.lst (List.map V.ref as ++ [V.ref a]))) d o) := fun o => ⟨fun _ _ z => z.elim, fun b xs z => by
      rw [upd_ne fun q => by rw [q, upd_ne nld.symm] at z; exact e3 _ z]
      exact z⟩
    refine ⟨_, rfl, q2 hm _ (fun b o h1 h2 z => ?_) ⟨⟨dx, ?_⟩, ?_, ?_, ?_, ⟨.inr ?_, fun q hq => ?_⟩, ?_, ?_⟩⟩
    · rw [upd_ne h2, upd_ne h1]
      exact z
    · rw [upd_ne ntd]
      exact ob1
    · simp [tb.len]
    · rw [upd_ne nld, upd_same, eR]
    · have e5 : (R ++ [r]).map Row.d = R.map Row.d ++ [r.d] := by simp
      rw [← eR, e5]
      exact (((tb.rs.mono (fun _ z => z) st1).append (.one rr1)).mono (fun _ z => z) (st2 _))
    · rw [ents_app r a R as 0 tb.len, Nat.zero_add]
      exact upd_same
    · rw [ents_app r a R as 0 tb.len] at hq
      rcases List.mem_append.mp hq with hq | hq
      · obtain ⟨k1, k2⟩ := rd1.keys q hq
        exact ⟨k1, ((k2.fz (M := No) k1.fz).mono (fun _ z => z) (st2 _)).all⟩
      · rw [List.mem_singleton.mp hq]
        exact ⟨Row.kd r, (rr1.mono (fun _ z => z) (st2 _)).all⟩
    · intro s hs
      rcases List.mem_append.mp hs with hs | hs
      · exact tb.ok s hs
      · rw [List.mem_singleton.mp hs]
        exact hok
    · refine List.nodup_append.mpr ⟨tb.nd, by simp, fun x hx y hy => ?_⟩
      rw [List.mem_singleton.mp hy]
      exact fun e => hm (e ▸ hx)
end
end
end K8

namespace K8
open PySem PySem.Spec PyProof.Rows L2 WR
def faultD (n : Nat) (x : Str) : PyData := .tuple [.int (n : Nat), .str x]
/-- what a scan of the things comes to: the rows ahead of the first wrong one, its fault -/
inductive Scan : List Row → Nat → List PyData → List Row → PyData → Prop where
  | done {R : List Row} {n : Nat} : Scan R n [] R .none
  | form {R : List Row} {n : Nat} {d : PyData} {ds : List PyData} : rowForm d = .none → Scan R n (d :: ds) R (faultD n "form")
  | why {R : List Row} {n : Nat} {d : PyData} {ds : List PyData} {r : Row} {x : Str} : rowForm d = r.d → why R r = some x → Scan R n (d :: ds) R (faultD n x)
  | twice {R : List Row} {n : Nat} {d : PyData} {ds : List PyData} {r : Row} : rowForm d = r.d → why R r = none → r ∈ R → Scan R n (d :: ds) R (faultD n "twice")
  | next {R R' : List Row} {n : Nat} {d f : PyData} {ds : List PyData} {r : Row} : rowForm d = r.d → why R r = none → r ∉ R → Scan (R ++ [r]) (n + 1) ds R' f → Scan R n (d :: ds) R' f
def ScanOf (d : PyData) (R : List Row) (f : PyData) : Prop := (isL d = true ∧ Scan [] 0 (its d) R f) ∨ (isL d = false ∧ R = [] ∧ f = faultD 0 "form")
theorem Row.d_ne (r : Row) : r.d ≠ .none := by cases r <;> exact fun z => nomatch z
abbrev spScan (P : Program) (w : World) (C : Addr) : Sp := fun vs H Q _ => ∃ (v : V) (d : PyData), vs = [v] ∧ Dr All H v d ∧ wd d = true ∧
  ∀ (p t l dd : Addr) (R : List Row) (as : List Addr) (f : PyData) (fv : V) (H' : Hp), Sm H H' → H p = none → H t = none → H l = none → H dd = none → Tb P w C H' t l dd R as → H' p = some (.tup [.ref t, fv]) → Dr All H' fv f → ScanOf d R f → Q (.ref p) H'
section
variable {P : Program} {w : World} {K : PySem.W.Frag} {mg : Str → Option Value} {base : Heap} {C fI fP : Addr} {fdI fdP : FuncData}
theorem sc_scanned_web : FnScope ["thing", "table", "at", "one", "row", "why"] ["thing"] (defScope sscanned_web) := ⟨rfl, rfl, rfl, by decide +kernel, rfl, by decide +kernel, by decide +kernel⟩
theorem ok_scanned_web (B : Bt mg) (T : RT P w K mg base C) (M : Mk K C fI) (mP : Meth K C "put_in" fP) (GI : FnOk P w K mg base CX0 1 fI fdI ["self", "rows"] (spTI C)) (bI : Binds K fdI ["self", "rows"] []) (GP : FnOk P w K mg base CX0 1 fP fdP ["self", "row"] (spPut P w C)) (bP : Binds K fdP ["self", "row"] [])
    (F : Fn K mg dscanned_web) (D1 : Df P w K mg base CX0 1 "is_list" ["thing"] spIsList) (D2 : Df P w K mg base CX0 4 "row_form" ["thing"] spRowForm) (D3 : Df P w K mg base CX0 4 "row_why" ["rows", "row"] spRowWhy) :
    Df P w K mg base CX0 5 "scanned_web" ["thing"] (spScan P w C) := by
  obtain ⟨f, fd, hm, F⟩ := F
  refine ⟨f, fd, hm, F.kp, F.bindsN fun _ _ _ _ _ _ us hl => match us, hl with | [_], _ => rfl, ?_⟩
  refine F.ok sc_scanned_web (fun vs H Q E h => by obtain ⟨v, d, rfl, _⟩ := h; rfl) (fun cdv A outer s H vs Q E hr h => ?_)
  obtain ⟨v, d, rfl, rd, wdd, q⟩ := h
  have hu := hr.units
  have hr1 := hr.mono (show 1 ≤ 4 by decide)
  have hr2 := hr.mono (show 2 ≤ 4 by decide)
  refine ⟨_, PSs.nox (pss_cons (ps_set (i := 1) sc_scanned_web.nd rfl (by first | exact Or.inl rfl | exact Or.inr rfl) (pe_make M GI hr2 (by rfl) T.gC bI .nil pass0 (pa_cons (pe_lst pa_nil) pa_nil)))
      (pss_cons (ps_if (pt_not (pt_val (pe_df D1 hr1 pass0 (pa_cons (pv 0) pa_nil)))) (pss_one (ps_ret (pe_tup (pa_cons (pv 1) (pa_cons (pe_tup (pa_cons pe_int (pa_cons pe_str pa_nil))) pa_nil))))) pss_nil)
      (pss_cons (ps_for PassesOwn.never rfl (pi_enS B.enumerate (pa_cons (pv 0) pa_nil)) (pg_tup rfl (pgs_cons (pg_name (i := 2) sc_scanned_web.nd rfl (by first | exact Or.inl rfl | exact Or.inr rfl)) (pgs_cons (pg_name (i := 3) sc_scanned_web.nd rfl (by first | exact Or.inl rfl | exact Or.inr rfl)) pgs_nil))) (pss_cons (ps_set (i := 4) sc_scanned_web.nd rfl (by first | exact Or.inl rfl | exact Or.inr rfl) (pe_df D2 hr pass0 (pa_cons (pv 3) pa_nil)))
      (C8.pss_cut (ps_set (i := 5) sc_scanned_web.nd rfl (by first | exact Or.inl rfl | exact Or.inr rfl) (pe_ifExp (pt_cmpR op_isN (pv 4) pe_non (nomark _)) pe_str (pe_df D3 hr pass0 (pa_cons (pe_fld (pv 1) rfl) (pa_cons (pv 4) pa_nil)))))
      (C8.pss_cut (ps_if (PW.pt (pw_and (pt_cmpR op_isN (pv 5) pe_non (nomark _)) (pw_and1 (pt_cmpR (op_inRD hu) (pv 4) (pe_fld (pv 1) rfl) (by rfl))))) (pss_one (ps_set (i := 5) sc_scanned_web.nd rfl (by first | exact Or.inl rfl | exact Or.inr rfl) pe_str)) pss_nil)
      (pss_cons (ps_if (pt_cmpR op_notN (pv 5) pe_non (nomark _)) (pss_one (ps_ret (pe_tup (pa_cons (pv 1) (pa_cons (pe_tup (pa_cons (pv 2) (pa_cons (pv 5) pa_nil))) pa_nil))))) pss_nil)
      (pss_one (ps_expr (pe_meth (pv 1) T.cl mP GP hr1 bP .nil pass0 (pa_cons (pv 4) pa_nil)))))))))
      (pss_one (ps_ret (pe_tup (pa_cons (pv 1) (pa_cons pe_non pa_nil)))))))), ?_⟩
  -- table = RowTable([])
  refine ⟨(by show 0 ≤ sizeLine; decide), fun rl nrl t dx nt ndx ndt => ?_⟩
  have nrl' : rl ≠ t := ne_of_none (o := .lst []) upd_same nt
  have nrd : rl ≠ dx := ne_of_none (o := .lst []) upd_same ndx
  have htn : H t = none := by rw [upd_ne nrl'.symm] at nt; exact nt
  have hdn : H dx = none := by rw [upd_ne nrd.symm] at ndx; exact ndx
  refine ⟨t, dx, rl, rfl, upd_same, by rw [upd_ne nrl', upd_ne nrd]; exact upd_same, fun l dd H1 nl ndd nldd kp ht hl hd => ⟨rfl, ?_⟩⟩
  have s1 : Sm H H1 := fun b o e => kp b o (by rw [upd_ne (ne_of_none e htn), upd_ne (ne_of_none e hdn), upd_ne (ne_of_none e nrl)]; exact e) (ne_of_none e htn)
  have nl' : H l = none := by
    cases z : H l with
    | none => rfl
    | some o =>
      have := kp l o (by rw [upd_ne (ne_of_none z htn), upd_ne (ne_of_none z hdn), upd_ne (ne_of_none z nrl)]; exact z) (ne_of_none z htn)
      have e2 : upd (upd (upd H rl (.lst [])) dx (.own t)) t (.ins C dx []) l = some o := by rw [upd_ne (ne_of_none z htn), upd_ne (ne_of_none z hdn), upd_ne (ne_of_none z nrl)]; exact z
      rw [nl] at e2
      cases e2
  have ndd' : H dd = none := by
    cases z : H dd with
    | none => rfl
    | some o =>
      have e2 : upd (upd (upd H rl (.lst [])) dx (.own t)) t (.ins C dx []) dd = some o := by rw [upd_ne (ne_of_none z htn), upd_ne (ne_of_none z hdn), upd_ne (ne_of_none z nrl)]; exact z
      rw [ndd] at e2
      cases e2
  have tb : Tb P w C H1 t l dd [] [] := ⟨⟨dx, ht⟩, rfl, hl, .nil, ⟨.inl ⟨rfl, hd⟩, (fun _ hq => nomatch hq)⟩, (fun _ hr => nomatch hr), List.nodup_nil⟩
  have rd1 := rd.sm s1
  -- not is_list(thing)
  refine ⟨_, rfl, spP1_of rd1 trivial fun u H2 s2 r2 => ?_⟩
  cases r2.bl_inv
  have s2' := s1.trans s2
  refine ⟨_, rfl, ite2 (fun hL => ?_) (fun hL => ?_)⟩
  · have hL' : isL d = false := by simpa using hL
    refine ⟨_, rfl, (by show 2 ≤ sizeLine; decide), fun p1 np1 => ⟨(by show 2 ≤ sizeLine; decide), fun p2 np2 => ?_⟩⟩
    have s3 : Sm H2 (upd (upd H2 p1 (.tup [.int 0, .str "form"])) p2 (.tup [.ref t, .ref p1])) := (Sm.new np1).trans (Sm.new np2)
    refine q p2 t l dd [] [] (faultD 0 "form") (.ref p1) _ (s2'.trans s3) ((s2'.trans (Sm.new np1)).free np2) htn nl' ndd' ((tb.sm s2).sm s3) upd_same ?_ (.inr ⟨hL', rfl, rfl⟩)
    exact .tup (by rw [upd_ne (ne_of_none upd_same np2)]; exact upd_same) (.cons (.int 0) (.one (.str _)))
  have hL' : isL d = true := by simpa using hL
  obtain ⟨a, xs, rfl, hq0, rs⟩ := rd.seq hL'
  obtain ⟨hdl, hdw⟩ := wd_its wdd hL'
  have lxs : xs.length = (its d).length := rs.length
  obtain ⟨oa, hoa⟩ : ∃ o, H a = some o := by
    rcases hq0 with z | z
    · exact ⟨_, z⟩
    · exact ⟨_, z⟩
  have hq : Sq H2 a xs := by
    rcases hq0 with z | z
    · exact .inl (s2' _ _ z)
    · exact .inr (s2' _ _ z)
  refine ⟨_, rfl, a, xs, rfl, hq, fun J hJ => ?_⟩
  refine for_enS hJ (fun i σ3 H3 => ∃ x2 x3 x4 x5 R as, σ3 = [some (.ref a), some (.ref t), x2, x3, x4, x5] ∧ Sm H H3 ∧ Tb P w C H3 t l dd R as ∧ R.length ≤ i ∧ (∀ R' f, Scan R i ((its d).drop i) R' f → Scan [] 0 (its d) R' f)) ?_ ?_ ?_ ?_
  · exact ⟨none, none, none, none, [], [], rfl, s2', tb.sm s2, Nat.le_refl _, fun R' f z => z⟩
  · rintro i σ3 H3 ⟨_, _, _, _, _, _, _, s, _⟩
    rw [s _ _ hoa, s2' _ _ hoa]
  · rintro i x σ3 H3 T0 hx ⟨x2, x3, x4, x5, R, as, rfl, s3, tb3, hRi, sc3⟩ nT
    obtain ⟨e, he, re⟩ := (rs.sm s3).get hx
    have hi : i < (its d).length := (List.getElem?_eq_some_iff.mp he).1
    have wde : wd e = true := wdA_mem hdw (List.mem_of_getElem? he)
    have ed : (its d).drop i = e :: (its d).drop (i + 1) := by
      rw [List.drop_eq_getElem_cons hi]
      rw [List.getElem?_eq_getElem hi] at he
      rw [Option.some.inj he]
    rw [ed] at sc3
    have sT : Sm H3 (upd H3 T0 (.tup [.int (i : Nat), x])) := Sm.new nT
    have s4 := s3.trans sT
    refine ⟨T0, _, rfl, SqT.of upd_same, rfl, _, _, rfl, _, _, rfl, rfl, ?_⟩
    -- row = row_form(one)
    refine ⟨_, rfl, spP1_of (re.sm sT) (by simpa [wdA] using wde) fun u H5 s5 r5 => ?_⟩
    have s5' := s4.trans s5
    have tb5 := (tb3.sm sT).sm s5
    have r5' : Dr All H5 u (rowForm e) := r5
    obtain ⟨dx5, ob5⟩ := tb5.ob
    -- why = ..
    refine ⟨fun σ6 H6 => ∃ (y : V), σ6 = [some (.ref a), some (.ref t), some (.int (i : Nat)), some x, some u, some y] ∧ Sm H H6 ∧ Tb P w C H6 t l dd R as ∧ Dr All H6 u (rowForm e) ∧
      ((rowForm e = .none ∧ y = .str "form") ∨ ∃ r : Row, rowForm e = r.d ∧ r.ok ∧ Dr All H6 y (whyD (why R r))), ?_, ?_⟩
    · rcases rowForm_row wde with ef | ⟨r, ef, rok⟩
      · rw [ef] at r5'
        cases r5'.non_inv
        exact ⟨_, rfl, rfl, _, rfl, iteT ⟨_, rfl, s5', tb5, by rw [ef]; exact .non, .inl ⟨ef, rfl⟩⟩⟩
      · rw [ef] at r5'
        have hun : decide (u = V.non) = false := by
          refine decide_eq_false fun z => ?_
          rw [z] at r5'
          cases r <;> cases r5'
        refine ⟨_, rfl, rfl, ?_⟩
        rw [hun]
        refine ⟨_, rfl, iteF ?_⟩
        refine ⟨_, rfl, t, C, dx5, _, _, rfl, ob5, T.cl, T.nR, flds_rows l dd, _, rfl, .ref l, u, R, r, rfl, tb5.rows, r5', rok, fun y H6 s6 r6 => ?_⟩
        exact ⟨y, rfl, s5'.trans s6, tb5.sm s6, by rw [ef]; exact r5'.sm s6, .inr ⟨r, ef, rok, r6⟩⟩
    rintro σ6 H6 ⟨y, rfl, s6, tb6, ru6, hy⟩
    obtain ⟨dx6, ob6⟩ := tb6.ob
    -- if why is None and row in table.where: why = 'twice'
    refine ⟨fun σ7 H7 => ∃ (y : V) (z : PyData), σ7 = [some (.ref a), some (.ref t), some (.int (i : Nat)), some x, some u, some y] ∧ Sm H H7 ∧ Tb P w C H7 t l dd R as ∧ Dr All H7 u (rowForm e) ∧ Dr All H7 y z ∧
      ((z = .none ∧ ∃ r : Row, rowForm e = r.d ∧ r.ok ∧ why R r = none ∧ r ∉ R) ∨ ∃ m : Str, z = .str m ∧ Scan R i (e :: (its d).drop (i + 1)) R (faultD i m)), ?_, ?_⟩
    · rcases hy with ⟨ef, rfl⟩ | ⟨r, ef, rok, ry⟩
      · exact ⟨_, rfl, rfl, _, rfl, iteF (iteF ⟨_, .str "form", rfl, s6, tb6, ru6, .str _, .inr ⟨_, rfl, .form ef⟩⟩)⟩
      · cases ew : why R r with
        | some m =>
          rw [ew] at ry
          cases ry.str_inv
          exact ⟨_, rfl, rfl, _, rfl, iteF (iteF ⟨_, .str m, rfl, s6, tb6, ru6, .str _, .inr ⟨_, rfl, .why ef ew⟩⟩)⟩
        | none =>
          rw [ew] at ry
          cases ry.non_inv
          rw [ef] at ru6
          obtain ⟨ua, rfl⟩ : ∃ ua, u = .ref ua := by
            cases r <;> (cases ru6; exact ⟨_, rfl⟩)
          refine ⟨_, rfl, rfl, _, rfl, iteT ?_⟩
          refine ⟨_, rfl, _, rfl, t, C, dx6, _, _, rfl, ob6, T.cl, T.nW, flds_where l dd, ua, dd, r.d, _, rfl, rfl, ru6, Row.kd r, tb6.rd, ?_⟩
          rw [look_ents r R as 0 tb6.len]
          by_cases hmem : r ∈ R
          · obtain ⟨k, ek⟩ := placeOf_some (n := 0) hmem
            rw [ek]
            exact ⟨_, rfl, iteT ⟨_, .str "twice", rfl, s6, tb6, by rw [ef]; exact ru6, .str _, .inr ⟨_, rfl, .twice ef ew hmem⟩⟩⟩
          · rw [placeOf_none hmem]
            exact ⟨_, rfl, iteF ⟨_, .none, rfl, s6, tb6, by rw [ef]; exact ru6, .non, .inl ⟨rfl, r, ef, rok, ew, hmem⟩⟩⟩
    rintro σ7 H7 ⟨y7, z7, rfl, s7, tb7, ru7, ry7, hz⟩
    rcases hz with ⟨rfl, r, ef, rok, ew, hmem⟩ | ⟨m, rfl, sc⟩
    · -- table.put_in(row)
      cases ry7.non_inv
      rw [ef] at ru7
      obtain ⟨ua, rfl⟩ : ∃ ua, u = .ref ua := by
        cases r <;> (cases ru7; exact ⟨_, rfl⟩)
      obtain ⟨dx7, ob7⟩ := tb7.ob
      refine ⟨_, rfl, rfl, _, rfl, iteF ?_⟩
      refine ⟨_, rfl, t, dx7, _, rfl, ob7, flds_no l dd (by decide +kernel) (by decide +kernel), _, rfl, t, l, dd, ua, R, as, r, rfl, tb7, ru7, rok, by omega, (fun k ek => by rw [placeOf_none hmem] at ek; cases ek), fun _ H8 fr tb8 => ?_⟩
      refine ⟨_, _, _, _, R ++ [r], as ++ [ua], rfl, fun b o z => ?_, tb8, by simp; omega, fun R' f' z => sc3 R' f' (.next ef ew hmem z)⟩
      exact fr b o (ne_of_none z nl') (ne_of_none z ndd') (s7 b o z)
    · -- return (table, (at, why))
      cases ry7.str_inv
      refine ⟨_, rfl, rfl, _, rfl, iteT ?_⟩
      refine ⟨_, rfl, _, rfl, _, rfl, (by show 2 ≤ sizeLine; decide), fun p1 np1 => ⟨(by show 2 ≤ sizeLine; decide), fun p2 np2 => ?_⟩⟩
      have s9 : Sm H7 (upd (upd H7 p1 (.tup [.int (i : Nat), .str m])) p2 (.tup [.ref t, .ref p1])) := (Sm.new np1).trans (Sm.new np2)
      refine q p2 t l dd R as (faultD i m) (.ref p1) _ (s7.trans s9) ((s7.trans (Sm.new np1)).free np2) htn nl' ndd' (tb7.sm s9) upd_same ?_ (.inl ⟨hL', sc3 R _ sc⟩)
      exact .tup (by rw [upd_ne (ne_of_none upd_same np2)]; exact upd_same) (.cons (.int _) (.one (.str _)))
  · rintro σ3 H3 ⟨x2, x3, x4, x5, R, as, rfl, s3, tb3, hRi, sc3⟩
    refine ⟨_, rfl, (by show 2 ≤ sizeLine; decide), fun p2 np2 => ?_⟩
    refine q p2 t l dd R as .none .non _ (s3.trans (Sm.new np2)) (s3.free np2) htn nl' ndd' (tb3.sm (Sm.new np2)) upd_same .non (.inl ⟨hL', sc3 R .none ?_⟩)
    rw [lxs, List.drop_length]
    exact .done
end
end K8

namespace K8
open PySem PySem.Spec PyProof.Rows L2 WR
/-- what is known of PageError -/
structure PgE (K : PySem.W.Frag) (mg : Str → Option Value) (B : Addr) : Prop where
  gB : mg "PageError" = some (.ref B)
  hs : PySem.W.specialIn K (.ref B) "__getattribute__" = some (some (.builtin "type.__getattribute__"))
  ty : PySem.W.typeIn K (.ref B) = some (.type "type")
  rd : PySem.W.readsIn K B (.type "type") = true
  vV : PySem.W.findCls K (.ref B) (.type "type") "__init__" = some (.val (.builtin "ValueError.__init__"))
/-- what is known of an error beneath it, which keeps f -/
structure ErC (K : PySem.W.Frag) (mg : Str → Option Value) (x f : Str) (C fI : Addr) : Prop where
  oex : OexC K C
  iC : PySem.W.findIn K (.ref C) "__init__" = some (some (.ref fI))
  tI : PySem.W.typeIn K (.ref fI) = some (.type "function")
  gC : mg x = some (.ref C)
  nf : PySem.W.findIn K (.ref C) f = some none
abbrev spEI (C : Addr) (f : Str) : Sp := fun vs H Q _ => ∃ (a : Addr) (v : V), vs = [.ref a, v] ∧ H a = some (exo a C none) ∧ ∀ dx, H dx = none → dx ≠ a → Q .non (upd (upd H dx (exd dx [(f, v)])) a (exo a C (some dx)))
section
variable {P : Program} {w : World} {K : PySem.W.Frag} {mg : Str → Option Value} {base : Heap} {C B fI fP CW fW CR fR : Addr} {fdI fdP fdW fdR : FuncData}
theorem sc_BadWeb_I : FnScope ["self", "index"] ["self", "index"] (defScope sBadWeb_I) := ⟨rfl, rfl, rfl, by decide +kernel, rfl, by decide +kernel, by decide +kernel⟩
theorem ok_BadWeb_I (G : PgE K mg B) (T : ErC K mg "BadWeb" "index" C fI) {f : Addr} {fd : FuncData} (F : FunD K dBadWeb_I.name dBadWeb_I.qual dBadWeb_I.params dBadWeb_I.body dBadWeb_I.scope [] [] f fd) :
    FnOk P w K mg base CX0 1 f fd ["self", "index"] (spEI C "index") := by
  refine F.ok sc_BadWeb_I (fun vs H Q E h => by obtain ⟨p, dx, rfl, _⟩ := h; rfl) (fun cdv A outer s H vs Q E hr h => ?_)
  obtain ⟨a, v, rfl, ha, q⟩ := h
  refine ⟨_, PSs.nox (pss_cons (ps_expr (pe_ownInit (by rfl) G.gB G.hs G.ty G.rd G.vV (pa_cons (pv 0) (pa_cons pe_str pa_nil)))) (pss_one (ps_ost (pv 0) (pv 1)))), ?_⟩
  exact ⟨_, rfl, a, C, _, rfl, (by show 1 ≤ 1000; decide), T.oex, ha, _, rfl, _, rfl, a, C, rfl, T.oex, T.nf, .inl ⟨ha, fun dx n ne => q dx n ne⟩⟩
theorem sc_BadChoices_I : FnScope ["self", "index"] ["self", "index"] (defScope sBadChoices_I) := ⟨rfl, rfl, rfl, by decide +kernel, rfl, by decide +kernel, by decide +kernel⟩
theorem ok_BadChoices_I (G : PgE K mg B) (T : ErC K mg "BadChoices" "index" C fI) {f : Addr} {fd : FuncData} (F : FunD K dBadChoices_I.name dBadChoices_I.qual dBadChoices_I.params dBadChoices_I.body dBadChoices_I.scope [] [] f fd) :
    FnOk P w K mg base CX0 1 f fd ["self", "index"] (spEI C "index") := by
  refine F.ok sc_BadChoices_I (fun vs H Q E h => by obtain ⟨p, dx, rfl, _⟩ := h; rfl) (fun cdv A outer s H vs Q E hr h => ?_)
  obtain ⟨a, v, rfl, ha, q⟩ := h
  refine ⟨_, PSs.nox (pss_cons (ps_expr (pe_ownInit (by rfl) G.gB G.hs G.ty G.rd G.vV (pa_cons (pv 0) (pa_cons pe_str pa_nil)))) (pss_one (ps_ost (pv 0) (pv 1)))), ?_⟩
  exact ⟨_, rfl, a, C, _, rfl, (by show 1 ≤ 1000; decide), T.oex, ha, _, rfl, _, rfl, a, C, rfl, T.oex, T.nf, .inl ⟨ha, fun dx n ne => q dx n ne⟩⟩
theorem Scan.res {R R' : List Row} {n : Nat} {ds : List PyData} {f : PyData} (h : Scan R n ds R' f) : f = .none ∨ ∃ m x, f = faultD m x := by
  induction h with
  | done => exact .inl rfl
  | form _ => exact .inr ⟨_, _, rfl⟩
  | why _ _ => exact .inr ⟨_, _, rfl⟩
  | twice _ _ _ => exact .inr ⟨_, _, rfl⟩
  | next _ _ _ _ ih => exact ih
theorem Scan.len {R R' : List Row} {n : Nat} {ds : List PyData} {f : PyData} (h : Scan R n ds R' f) : R'.length ≤ R.length + ds.length := by
  induction h with
  | next _ _ _ _ ih => simp at ih ⊢; omega
  | _ => simp
theorem ScanOf.res {d : PyData} {R : List Row} {f : PyData} (h : ScanOf d R f) : f = .none ∨ ∃ m x, f = faultD m x := by
  rcases h with ⟨_, h⟩ | ⟨_, _, rfl⟩
  · exact h.res
  · exact .inr ⟨_, _, rfl⟩
theorem ScanOf.len {d : PyData} {R : List Row} {f : PyData} (h : ScanOf d R f) (wdd : wd d = true) : R.length ≤ lim := by
  rcases h with ⟨hL, h⟩ | ⟨_, rfl, rfl⟩
  · have := h.len
    have := (wd_its wdd hL).1
    simp at *
    omega
  · exact Nat.zero_le _
/-- C(v) is raised: what stands behind -/
theorem raise_own {C : Addr} {f : Str} {v : V} {H : Hp} {E : XK} (q : ∀ dx H', Sm H H' → H dx = none → H' dx = some (.xd [(f, v)]) → E (.ref C) (some dx) H') :
    ∀ a, H a = none → spEI C f (.ref a :: ([v] ++ [])) (upd H a (exo a C none))
      (fun v H2 => v = .non ∧ ∃ (d : Addr) (fs : List (Str × V)), H2 a = some (exo a C (some d)) ∧ H2 d = some (exd d fs) ∧ H d = none ∧ E (.ref C) (some d) (upd (del H2 a) d (.xd fs))) (fun _ _ _ => False) := fun a na => by
  refine ⟨a, v, rfl, upd_same, fun dx nd ne => ⟨rfl, dx, [(f, v)], upd_same, ?_, ?_, ?_⟩⟩
  · rw [upd_ne ne]
    exact upd_same
  · rw [upd_ne ne] at nd
    exact nd
  · rw [upd_ne ne] at nd
    refine q dx _ (fun b o e => ?_) nd upd_same
    have hb : b ≠ dx := ne_of_none e nd
    have ha : b ≠ a := ne_of_none e na
    rw [upd_ne hb, del_ne ha, upd_ne ha, upd_ne hb, upd_ne ha]
    exact e
theorem faultD_ne {H : Hp} {v : V} {n : Nat} {x : Str} (r : Dr All H v (faultD n x)) : decide (v = V.non) = false := by
  cases r
  rfl
abbrev spJudge (P : Program) (w : World) (C CW : Addr) : Sp := fun vs H Q E => ∃ (v : V) (d : PyData), vs = [v] ∧ Dr All H v d ∧ wd d = true ∧
  (∀ (t l dd : Addr) (R : List Row) (as : List Addr) (H' : Hp), ScanOf d R .none → Sm H H' → H t = none → H l = none → H dd = none → Tb P w C H' t l dd R as → Q (.ref t) H') ∧
  (∀ (R : List Row) (n : Nat) (x : Str) (dx : Addr) (H' : Hp), ScanOf d R (faultD n x) → Sm H H' → H dx = none → H' dx = some (.xd [("index", .int (n : Nat))]) → E (.ref CW) (some dx) H')
theorem sc_judged_web : FnScope ["web", "table", "fault"] ["web"] (defScope sjudged_web) := ⟨rfl, rfl, rfl, by decide +kernel, rfl, by decide +kernel, by decide +kernel⟩
theorem ok_judged_web (TW : ErC K mg "BadWeb" "index" CW fW) (GW : FnOk P w K mg base CX0 1 fW fdW ["self", "index"] (spEI CW "index")) (bW : Binds K fdW ["self", "index"] [])
    (F : Fn K mg djudged_web) (D1 : Df P w K mg base CX0 5 "scanned_web" ["thing"] (spScan P w C)) :
    Df P w K mg base (L2.CX P w) 6 "judged_web" ["web"] (spJudge P w C CW) := by
  obtain ⟨f, fd, hm, F⟩ := F
  refine ⟨f, fd, hm, F.kp, F.bindsN fun _ _ _ _ _ _ us hl => match us, hl with | [_], _ => rfl, ?_⟩
  refine F.ok sc_judged_web (fun vs H Q E h => by obtain ⟨v, d, rfl, _⟩ := h; rfl) (fun cdv A outer s H vs Q E hr h => ?_)
  obtain ⟨v, d, rfl, rd, wdd, q1, q2⟩ := h
  have hr2 := hr.mono (show 2 ≤ 5 by decide)
  refine ⟨_, (pss_cons (ps_asg (pe_df D1 hr pass0 (pa_cons (pv 0) pa_nil)) (pg_tup rfl (pgs_cons (pg_name (i := 1) sc_judged_web.nd rfl (by first | exact Or.inl rfl | exact Or.inr rfl)) (pgs_cons (pg_name (i := 2) sc_judged_web.nd rfl (by first | exact Or.inl rfl | exact Or.inr rfl)) pgs_nil))))
      (pss_cons (ps_if (pt_cmpR op_notN (pv 2) pe_non (nomark _)) (pss_one (ps_raise rfl (takes_of rfl rfl rfl rfl) (pmk_oex TW.oex TW.iC TW.tI GW hr2 bW .nil pass0 (by rfl) TW.gC (pa_cons (pe_ix ix_D (pv 2) pe_int (fun _ _ => rfl)) pa_nil)))) pss_nil)
      (pss_one (ps_ret (pv 1))))), ?_⟩
  refine ⟨_, rfl, v, d, rfl, rd, wdd, fun p t l dd R as f fv H1 s1 np nt nl nd tb hp rf sc => ?_⟩
  refine ⟨p, _, rfl, SqT.of hp, rfl, _, _, rfl, _, _, rfl, rfl, ?_⟩
  rcases sc.res with rfl | ⟨m, x, rfl⟩
  · cases rf.non_inv
    exact ⟨_, rfl, rfl, _, rfl, iteF ⟨_, rfl, q1 t l dd R as H1 sc s1 nt nl nd tb⟩⟩
  · refine ⟨_, rfl, rfl, _, rfl, ?_⟩
    rw [faultD_ne rf]
    refine iteT ?_
    refine ⟨_, rfl, _, 0, _, rf, rfl, rfl, rfl, fun y ry => ?_⟩
    cases ry.int_inv
    refine ⟨(by show 1 ≤ 1000; decide), raise_own fun dx H' s2 nd2 hx => q2 R m x dx H' sc (s1.trans s2) (s1.free nd2) hx⟩
/-- such a def, the very object told -/
structure DfF (P : Program) (w : World) (K : PySem.W.Frag) (mg : Str → Option Value) (base : Heap) (CX : CXT) (k : Nat) (x : Str) (ps : List Str) (sp : Sp) (d : He.DefD) : Prop where
  ex : ∃ f fd, mg x = some (.ref f) ∧ FunD K d.name d.qual d.params d.body d.scope [] [] f fd ∧ Binds K fd ps [] ∧ FnOk P w K mg base CX k f fd ps sp
theorem DfF.df {P : Program} {w : World} {K : PySem.W.Frag} {mg : Str → Option Value} {base : Heap} {CX : CXT} {k : Nat} {x : Str} {ps : List Str} {sp : Sp} {d : He.DefD} (D : DfF P w K mg base CX k x ps sp d) : Df P w K mg base CX k x ps sp := by
  obtain ⟨f, fd, hm, F, b, G⟩ := D.ex
  exact ⟨f, fd, hm, F.kp, b, G⟩
abbrev spFault : Sp := fun vs H Q _ => ∃ (v : V) (d : PyData), vs = [v] ∧ Dr All H v d ∧ wd d = true ∧ ∀ (R : List Row) (f : PyData) (fv : V) (H' : Hp), ScanOf d R f → Sm H H' → Dr All H' fv f → Q fv H'
def noneB : PyData → Bool
  | .none => true
  | _ => false
/-! ### put_row -/
def newRows (R : List Row) (r : Row) : List Row := if r ∈ R then R else R ++ [r]
def NewAt (R : List Row) (r : Row) (k : Nat) : Prop := if r ∈ R then placeOf R r 0 = some k else k = R.length
def RowBad (R : List Row) (e : PyData) : Prop := rowForm e = .none ∨ ∃ r x, rowForm e = r.d ∧ why R r = some x
end
end K8

/-! Worths of rows: no Python here. -/
namespace K8
open PySem PySem.Spec PyProof.Rows L2 WR
/-- what a row is worth: a truth or a number -/
inductive Wt where
  | b (x : Bool)
  | n (k : Nat)
  deriving DecidableEq
def Wt.d : Wt → PyData
  | .b x => .bool x
  | .n k => .int (k : Nat)
def Wt.v : Wt → V
  | .b x => .bl x
  | .n k => .int (k : Nat)
def Wt.isB : Wt → Bool
  | .b _ => true
  | .n _ => false
theorem Wt.d_inj {x y : Wt} (h : x.d = y.d) : x = y := by
  cases x <;> cases y <;> simp only [Wt.d, PyData.bool.injEq, PyData.int.injEq, reduceCtorEq] at h
  · rw [h]
  · rw [Int.ofNat_inj.mp h]
def wAt (ms : List Wt) (k : Nat) : Wt := ms.getD k (.n 0)
theorem wAt_get {ms : List Wt} {k : Nat} (h : k < ms.length) : ms[k]? = some (wAt ms k) := by
  unfold wAt
  rw [List.getD_eq_getElem?_getD, List.getElem?_eq_getElem h]
  rfl
theorem wAt_app {ms ns : List Wt} {k : Nat} (h : k < ms.length) : wAt (ms ++ ns) k = wAt ms k := by
  unfold wAt
  rw [List.getD_eq_getElem?_getD, List.getD_eq_getElem?_getD, List.getElem?_append_left h]
theorem wAt_last (ms : List Wt) (x : Wt) : wAt (ms ++ [x]) ms.length = x := by
  unfold wAt
  rw [List.getD_eq_getElem?_getD, List.getElem?_append_right (Nat.le_refl _)]
  simp
/-- the worth that fits the row's kind -/
def wtOf (r : Row) (d : PyData) : Option Wt :=
  if r.isAsked = true then (match d with
    | .bool x => some (.b x)
    | _ => none)
  else (match d with
    | .int i => if 0 ≤ i then some (.n i.toNat) else none
    | _ => none)
theorem wtOf_d {r : Row} {d : PyData} {x : Wt} (h : wtOf r d = some x) : d = x.d ∧ x.isB = r.isAsked := by
  unfold wtOf at h
  split at h
  · rename_i ha
    split at h
    · cases h
      exact ⟨rfl, ha.symm⟩
    · cases h
  · rename_i ha
    split at h
    · split at h
      · cases h
        rename_i i hi
        refine ⟨?_, by simp at ha; rw [ha]; rfl⟩
        show PyData.int i = PyData.int (i.toNat : Nat)
        rw [Int.toNat_of_nonneg hi]
      · cases h
    · cases h
theorem wtOf_of {r : Row} {x : Wt} (h : x.isB = r.isAsked) : wtOf r x.d = some x := by
  unfold wtOf
  cases x with
  | b x =>
    have h' : r.isAsked = true := h.symm
    rw [if_pos h']
    rfl
  | n k =>
    have h' : r.isAsked = false := h.symm
    rw [if_neg (by rw [h']; exact Bool.false_ne_true)]
    show (if (0 : Int) ≤ (k : Nat) then some (Wt.n ((k : Nat) : Int).toNat) else none) = _
    rw [if_pos (Int.natCast_nonneg k), Int.toNat_natCast]
/-- the row's own name -/
def Row.name : Row → Str
  | .made n _ => n
  | .asked n _ => n
  | _ => ""
/-- is such a row as is known by its key -/
def Row.keyed : Row → Bool
  | .made _ _ => true
  | .asked _ _ => true
  | _ => false
/-- the row's key -/
def key (r : Row) (ms : List Wt) : Str × Str × List Wt := (r.word, r.name, r.named.map (wAt ms))
def keyD (r : Row) (ms : List Wt) : PyData := .tuple [.str r.word, .str r.name, .tuple ((r.named.map (wAt ms)).map Wt.d)]
abbrev KT : Type := Str × Str × List Wt
def kD (t : KT) : PyData := .tuple [.str t.1, .str t.2.1, .tuple (t.2.2.map Wt.d)]
theorem keyD_eq (r : Row) (ms : List Wt) : keyD r ms = kD (key r ms) := rfl
/-- the first row with this key -/
def kfind (R : List Row) (ms : List Wt) (t : KT) : Option Nat := (List.range ms.length).find? fun k => (rowAt R k).keyed && decide (key (rowAt R k) ms = t)
/-- the first row before that is like it -/
def firstLike (R : List Row) (ms : List Wt) (r : Row) : Option Nat := kfind R ms (key r ms)
/-- the side of an either -/
def side (r : Row) (ms : List Wt) : Nat :=
  match r with
  | .either c i j => if wAt ms c = .b true then i else j
  | _ => 0
/-- why a worth is wrong -/
def worthWhy (R : List Row) (ms : List Wt) (r : Row) (d : PyData) : Option Str :=
  match wtOf r d with
  | none => some "form"
  | some x =>
    if r.isEither = true then (if x = wAt ms (side r ms) then none else some "side")
    else if r.keyed = true then (match firstLike R ms r with
      | some k => if wAt ms k = x then none else some "like"
      | none => none)
    else none
/-- the first fault of a meaning: where, why -/
def mFault (R : List Row) : List Wt → List Row → List PyData → Option (Nat × Str)
  | ms, r :: rs, d :: ds =>
    match worthWhy R ms r d with
    | some x => some (ms.length, x)
    | none => (match wtOf r d with
      | some x => mFault R (ms ++ [x]) rs ds
      | none => none)
  | _, _, _ => none
def mFaultD (R : List Row) (d : PyData) : PyData :=
  if isL d = true then (match mFault R [] R (its d) with
    | some (k, x) => .tuple [.int (k : Nat), .str x]
    | none => if (its d).length = R.length then .none else .tuple [.str "many", .int (R.length : Nat)])
  else .tuple [.int 0, .str "form"]
theorem Row.askedP (r : Row) : decide (V.str r.word = V.str "asked") = r.isAsked := Bool.not_inj (Row.askedW r)
theorem Row.givenP (r : Row) : (!decide (V.str r.word = V.str "given")) = (r.isEither || r.keyed) := by
  cases r with
  | made n ks => exact congrArg (fun b => !b) (neS (show ¬ ("made" : Str) = "given" by decide +kernel))
  | asked n ks => exact congrArg (fun b => !b) (neS (show ¬ ("asked" : Str) = "given" by decide +kernel))
  | either a i j => exact congrArg (fun b => !b) (neS (show ¬ ("either" : Str) = "given" by decide +kernel))
  | given k => exact congrArg (fun b => !b) (decide_eq_true rfl)
end K8

/-! side_of, key_of. -/
namespace K8
open PySem PySem.Spec PyProof.Rows L2 WR
/-- a list or tuple of data whose items at the row's names are these worths -/
structure Mn (N : Addr → Prop) (H : Hp) (v : V) (ks : List Nat) (ms : List Wt) : Prop where
  ex : ∃ d, Dr N H v d ∧ isL d = true ∧ ∀ k ∈ ks, (its d)[k]? = some (wAt ms k).d
abbrev spSide : Sp := fun vs H Q _ => ∃ (v u : V) (c i j : Nat) (ms : List Wt) (x : Bool), vs = [v, u] ∧ Dr All H v (Row.either c i j).d ∧ Mn All H u [c] ms ∧ wAt ms c = .b x ∧ Q (.int (side (.either c i j) ms : Nat)) H
abbrev spKey : Sp := fun vs H Q _ => ∃ (v u : V) (r : Row) (ms : List Wt), vs = [v, u] ∧ Dr All H v r.d ∧ r.keyed = true ∧ r.named.length ≤ lim ∧ Mn All H u r.named ms ∧ ∀ a H', Sm H H' → Dr All H' (.ref a) (keyD r ms) → Q (.ref a) H'
section
variable {P : Program} {w : World} {K : PySem.W.Frag} {mg : Str → Option Value} {base : Heap}
theorem sc_side_of : FnScope ["row", "meaning"] ["row", "meaning"] (defScope sside_of) := ⟨rfl, rfl, rfl, by decide +kernel, rfl, by decide +kernel, by decide +kernel⟩
theorem ok_side_of (F : Fn K mg dside_of) : Df P w K mg base CX0 1 "side_of" ["row", "meaning"] spSide := by
  obtain ⟨f, fd, hm, F⟩ := F
  refine ⟨f, fd, hm, F.kp, F.bindsN fun _ _ _ _ _ _ us hl => match us, hl with | [_, _], _ => rfl, ?_⟩
  refine F.ok sc_side_of (fun vs H Q E h => by obtain ⟨v, u, c, i, j, ms, x, rfl, _⟩ := h; rfl) (fun cdv A outer s H vs Q E hr h => ?_)
  obtain ⟨v, u, c, i, j, ms, x, rfl, rr, ⟨d, rd, hL, al⟩, hx, q⟩ := h
  refine ⟨_, PSs.nox (pss_one (ps_ret (pe_ifExp (pt_val (pe_ix ix_D (pv 1) (pe_ix ix_D (pv 0) pe_int (fun _ _ => rfl)) (fun _ _ => rfl))) (pe_ix ix_D (pv 0) pe_int (fun _ _ => rfl)) (pe_ix ix_D (pv 0) pe_int (fun _ _ => rfl))))), ?_⟩
  have ec := al c (List.mem_singleton.mpr rfl)
  rw [hx] at ec
  refine ⟨_, rfl, _, rfl, _, 1, _, rr, rfl, rfl, rfl, fun y ry => ?_⟩
  cases ry.int_inv
  refine ⟨d, c, _, rd, hL, rfl, ec, fun y2 r2 => ?_⟩
  obtain rfl : y2 = .bl x := by cases r2; rfl
  refine ⟨_, rfl, ?_⟩
  cases x with
  | true =>
    refine iteT ⟨_, rfl, _, 2, _, rr, rfl, rfl, rfl, fun y3 r3 => ?_⟩
    cases r3.int_inv
    have e : side (.either c i j) ms = i := if_pos hx
    rw [e] at q
    exact q
  | false =>
    refine iteF ⟨_, rfl, _, 3, _, rr, rfl, rfl, rfl, fun y3 r3 => ?_⟩
    cases r3.int_inv
    have e : side (.either c i j) ms = j := if_neg (by rw [hx]; exact fun z => nomatch z)
    rw [e] at q
    exact q
theorem Row.keyedD {r : Row} (h : r.keyed = true) : r.d = .tuple [.str r.word, .str r.name, .tuple (nums r.named)] := by
  cases r <;> first | rfl | cases h
theorem keys_dr {d : PyData} {ks : List Nat} {ms : List Wt} (al : ∀ k ∈ ks, (its d)[k]? = some (wAt ms k).d) : (nums ks).map (fun e => (its d).getD (intOf e).toNat .none) = (ks.map (wAt ms)).map Wt.d := by
  rw [nums, List.map_map, List.map_map]
  refine List.map_congr_left fun k hk => ?_
  show (its d).getD ((k : Int)).toNat .none = _
  rw [Int.toNat_natCast, List.getD_eq_getElem?_getD, al k hk]
  rfl
theorem sc_key_of : FnScope ["row", "meaning", "at"] ["row", "meaning"] (defScope skey_of) := ⟨rfl, rfl, rfl, by decide +kernel, rfl, by decide +kernel, by decide +kernel⟩
theorem ok_key_of (B : Bt mg) (F : Fn K mg dkey_of) : Df P w K mg base CX0 1 "key_of" ["row", "meaning"] spKey := by
  obtain ⟨f, fd, hm, F⟩ := F
  refine ⟨f, fd, hm, F.kp, F.bindsN fun _ _ _ _ _ _ us hl => match us, hl with | [_, _], _ => rfl, ?_⟩
  refine F.ok sc_key_of (fun vs H Q E h => by obtain ⟨v, u, r, ms, rfl, _⟩ := h; rfl) (fun cdv A outer s H vs Q E hr h => ?_)
  obtain ⟨v, u, r, ms, rfl, rr, hk, hlen, ⟨d, rd, hL, al⟩, q⟩ := h
  refine ⟨_, PSs.nox (pss_one (ps_ret (pe_tup (pa_cons (pe_ix ix_D (pv 0) pe_int (fun _ _ => rfl)) (pa_cons (pe_ix ix_D (pv 0) pe_int (fun _ _ => rfl)) (pa_cons (pe_callTy call_tupD (by rfl) B.tuple (by decide +kernel) (pa_cons (pe_lc (own := [("at", 2)]) (g := gName 2) (tt := tYes) rfl sc_key_of.nd (pi_seq (pe_ix ix_D (pv 0) pe_int (fun _ _ => rfl))) (blkOk_by (own := [("at", 2)]) (N := ["row", "meaning", "at"]) (sc := defScope skey_of) (by decide +kernel)) (fun _ _ _ _ _ => pg_name (i := 2) sc_key_of.nd rfl (by first | exact Or.inl rfl | exact Or.inr rfl)) (fun _ _ _ _ _ => pts_nil) (fun _ _ _ _ _ => (pe_ix ix_D (pv 1) (pv 2) (fun _ _ => rfl)))) pa_nil)) pa_nil)))))), ?_⟩
  have ed := Row.keyedD hk
  have rr' := rr
  rw [ed] at rr'
  refine ⟨_, rfl, _, 0, _, rr', rfl, rfl, rfl, fun y0 r0 => ?_⟩
  cases r0.str_inv
  refine ⟨_, rfl, _, 1, _, rr', rfl, rfl, rfl, fun y1 r1 => ?_⟩
  cases r1.str_inv
  refine ⟨_, rfl, _, 2, _, rr', rfl, rfl, rfl, fun y2 r2 => ?_⟩
  obtain ⟨xa, xs, rfl, exa, rxs⟩ : ∃ a xs, y2 = .ref a ∧ H a = some (.tup xs) ∧ DrA All H xs (nums r.named) := by
    cases r2 with
    | tup e r => exact ⟨_, _, rfl, e, r⟩
  refine ⟨xa, xs, rfl, .inr exa, fun J hJ D nD => ?_⟩
  refine lc_fz (fun e => (its d).getD (intOf e).toNat .none) (.seq hJ rxs) nD (by simpa [nums] using hlen) (fun _ => rfl) (fun e he => ?_) (fun x e H2 Q' he s2 rx q' => ?_) fun H2 ys s2 eD ry => ?_
  · obtain ⟨k, hk', rfl⟩ := List.mem_map.mp he
    show WR.fz ((its d).getD ((k : Int)).toNat .none) = true
    rw [Int.toNat_natCast, List.getD_eq_getElem?_getD, al k hk']
    cases wAt ms k <;> rfl
  · obtain ⟨k, hk', rfl⟩ := List.mem_map.mp he
    cases rx.int_inv
    refine ⟨_, rfl, _, rfl, d, k, _, rd.sm s2, hL, rfl, al k hk', fun y ry => q' _ _ Sm.rfl' ?_⟩
    show Dr All H2 y ((its d).getD ((k : Int)).toNat .none)
    rw [Int.toNat_natCast, List.getD_eq_getElem?_getD, al k hk']
    exact ry
  rw [keys_dr al] at ry
  refine ⟨.ref D, .list _, rfl, .lst trivial eD ry, rfl, fun u3 H3 s3 r3 => ⟨(by show 3 ≤ sizeLine; decide), fun p np => q _ _ ((s2.trans s3).trans (Sm.new np)) ?_⟩⟩
  exact .tup upd_same (.cons (.str _) (.cons (.str _) (.one (r3.sm (Sm.new np)))))
end
end K8

/-! Keys of rows, and the dict that knows them: no calls here. -/
namespace K8
open PySem PySem.Spec PyProof.Rows L2 WR
theorem key_app {r : Row} {ms ns : List Wt} (h : ∀ k ∈ r.named, k < ms.length) : key r (ms ++ ns) = key r ms := by
  unfold key
  rw [List.map_congr_left fun k hk => wAt_app (h k hk)]
/-- rows that name what stands before them alone -/
def Ahd (R : List Row) (n : Nat) : Prop := ∀ i, i < n → ∀ k ∈ (rowAt R i).named, k < i
theorem Ahd.mono {R : List Row} {n m : Nat} (h : Ahd R n) (l : m ≤ n) : Ahd R m := fun i hi => h i (by omega)
theorem find_congr {α : Type} {p q : α → Bool} : ∀ {l : List α}, (∀ x ∈ l, p x = q x) → l.find? p = l.find? q
  | [], _ => rfl
  | x :: l, h => by
    rw [List.find?_cons, List.find?_cons, h x (List.mem_cons_self ..), find_congr fun y hy => h y (List.mem_cons_of_mem _ hy)]
theorem kfind_snoc {R : List Row} {ms : List Wt} {x : Wt} {t : KT} (h : Ahd R (ms.length + 1)) :
    kfind R (ms ++ [x]) t = (kfind R ms t).or (if ((rowAt R ms.length).keyed && decide (key (rowAt R ms.length) ms = t)) = true then some ms.length else none) := by
  unfold kfind
  rw [List.length_append, List.length_singleton, List.range_succ, List.find?_append]
  congr 1
  · refine find_congr fun k hk => ?_
    have hk' := List.mem_range.mp hk
    rw [key_app fun j hj => Nat.lt_trans (h k (by omega) j hj) hk']
  · rw [List.find?_singleton, key_app fun j hj => h _ (by omega) j hj]
theorem kfind_lt {R : List Row} {ms : List Wt} {t : KT} {k : Nat} (h : kfind R ms t = some k) : k < ms.length ∧ (rowAt R k).keyed = true ∧ key (rowAt R k) ms = t := by
  have h1 := List.mem_of_find?_eq_some h
  have h2 := List.find?_some h
  simp only [Bool.and_eq_true, decide_eq_true_eq] at h2
  exact ⟨List.mem_range.mp h1, h2⟩
/-- all numbers -/
def KT.nm (t : KT) : Prop := ∀ x ∈ t.2.2, x.isB = false
theorem kD_fz (t : KT) : WR.fz (kD t) = true := by
  have h : ∀ l : List Wt, WR.fzA (l.map Wt.d) = true := by
    intro l
    induction l with
    | nil => rfl
    | cons x l ih =>
      show (WR.fz x.d && WR.fzA (l.map Wt.d)) = true
      rw [ih]
      cases x <;> rfl
  simp [kD, WR.fz, WR.fzA, h]
theorem kD_kd (t : KT) : Kd (kD t) := by
  refine ⟨rfl, kD_fz t, ?_⟩
  have h : ∀ l : List Wt, NestedKey.depthAll (nkA (l.map Wt.d)) = 0 := by
    intro l
    induction l with
    | nil => rfl
    | cons x l ih => cases x <;> simp [Wt.d, nkA, nk, NestedKey.depthAll, NestedKey.depth, ih]
  simp [kD, nk, nkA, NestedKey.depth, NestedKey.depthAll, h]
theorem nkA_inj : ∀ {l m : List Wt}, (∀ x ∈ l, x.isB = false) → (∀ x ∈ m, x.isB = false) → nkA (l.map Wt.d) = nkA (m.map Wt.d) → l = m
  | [], [], _, _, _ => rfl
  | [], y :: m, _, _, h => by simp [nkA] at h
  | x :: l, [], _, _, h => by simp [nkA] at h
  | x :: l, y :: m, hl, hm, h => by
    simp only [List.map_cons, nkA, List.cons.injEq] at h
    rw [nkA_inj (fun z hz => hl z (List.mem_cons_of_mem _ hz)) (fun z hz => hm z (List.mem_cons_of_mem _ hz)) h.2]
    have hx := hl x (List.mem_cons_self ..)
    have hy := hm y (List.mem_cons_self ..)
    cases x with
    | b _ => cases hx
    | n i => cases y with
      | b _ => cases hy
      | n j =>
        have e := h.1
        simp only [Wt.d, nk, NestedKey.num.injEq] at e
        rw [Int.ofNat_inj.mp e]
theorem kD_inj {t u : KT} (ht : t.nm) (hu : u.nm) (h : nk (kD t) = nk (kD u)) : t = u := by
  obtain ⟨t1, t2, t3⟩ := t
  obtain ⟨u1, u2, u3⟩ := u
  simp only [kD, nk, nkA, NestedKey.tup.injEq, List.cons.injEq, NestedKey.text.injEq, and_true] at h
  obtain ⟨rfl, rfl, h⟩ := h
  have e : t3 = u3 := nkA_inj ht hu h
  rw [e]
theorem lookE_snoc (xs : List Ent) (k : PyData) (a : Addr) (z : V) (k' : PyData) : lookE (xs ++ [(k, a, z)]) k' = (lookE xs k').or (if nk k = nk k' then some z else none) := by
  unfold lookE
  rw [List.find?_append, List.find?_singleton]
  cases xs.find? fun q => decide (nk q.1 = nk k') with
  | some q => rfl
  | none =>
    by_cases h : nk k = nk k'
    · simp [h]
    · simp [h]
section
variable {P : Program} {w : World} {H H' : Hp} {d a : Addr} {xs : List Ent} {k : PyData} {z : V}
theorem _root_.WR.RD.dne (h : RD P w H d xs) : (∀ us, H d ≠ some (.lst us)) ∧ (∀ C' dx fs, H d ≠ some (.ins C' dx fs)) ∧ (∀ us, H d ≠ some (.tup us)) ∧ H d ≠ none := by
  rcases h.at_ with ⟨_, z⟩ | z
  · rw [z]
    exact ⟨(fun _ q => nomatch q), (fun _ _ _ q => nomatch q), (fun _ q => nomatch q), (fun q => nomatch q)⟩
  · rw [z]
    unfold rdO
    exact ⟨(fun _ q => nomatch q), (fun _ _ _ q => nomatch q), (fun _ q => nomatch q), (fun q => nomatch q)⟩
theorem _root_.WR.RD.st (h : RD P w H d xs) (hd : ∀ o, H d = some o → H' d = some o) (ht : ∀ b us, H b = some (.tup us) → H' b = some (.tup us)) : RD P w H' d xs := by
  refine ⟨?_, fun q hq => ⟨(h.keys q hq).1, (((h.keys q hq).2.fz (M := No) (h.keys q hq).1.fz).mono (fun _ z => z) ⟨fun _ _ z => z.elim, ht⟩).all⟩⟩
  rcases h.at_ with ⟨e, z⟩ | z
  · exact .inl ⟨e, hd _ z⟩
  · exact .inr (hd _ z)
theorem _root_.WR.RD.put (h : RD P w H d xs) (hk : Kd k) (rk : Dr All H (.ref a) k) : RD P w (upd H d (rdO P w d (xs ++ [(k, a, z)]))) d (xs ++ [(k, a, z)]) := by
  have ht : ∀ b us, H b = some (.tup us) → upd H d (rdO P w d (xs ++ [(k, a, z)])) b = some (.tup us) := fun b us e => by
    rw [upd_ne fun y => h.dne.2.2.1 us (by rw [← y]; exact e)]
    exact e
  refine ⟨.inr upd_same, fun q hq => ?_⟩
  rcases List.mem_append.mp hq with y | y
  · exact ⟨(h.keys q y).1, (((h.keys q y).2.fz (M := No) (h.keys q y).1.fz).mono (fun _ z => z) ⟨fun _ _ z => z.elim, ht⟩).all⟩
  · rw [List.mem_singleton.mp y]
    exact ⟨hk, ((rk.fz (M := No) hk.fz).mono (fun _ z => z) ⟨fun _ _ z => z.elim, ht⟩).all⟩
end
/-- the dict knows the first worth of each key -/
structure Kn (R : List Row) (ms : List Wt) (xs : List Ent) : Prop where
  look : ∀ t : KT, t.nm → lookE xs (kD t) = (kfind R ms t).map fun k => (wAt ms k).v
  len : xs.length ≤ ms.length
theorem Kn.nil (R : List Row) : Kn R [] [] := ⟨fun _ _ => rfl, Nat.le_refl _⟩
theorem kn_map {R : List Row} {ms : List Wt} {x : Wt} {t : KT} {o : Option Nat} (h : kfind R ms t = o) : (o.map fun k => (wAt (ms ++ [x]) k).v) = o.map fun k => (wAt ms k).v := by
  cases o with
  | none => rfl
  | some k =>
    have := (kfind_lt h).1
    show some (wAt (ms ++ [x]) k).v = some (wAt ms k).v
    rw [wAt_app this]
/-- a row without a key, or one that is like one before -/
theorem Kn.old {R : List Row} {ms : List Wt} {xs : List Ent} {x : Wt} (K : Kn R ms xs) (h : Ahd R (ms.length + 1)) (ho : (rowAt R ms.length).keyed = true → firstLike R ms (rowAt R ms.length) ≠ none) : Kn R (ms ++ [x]) xs := by
  refine ⟨fun t ht => ?_, by have := K.len; rw [List.length_append]; omega⟩
  rw [kfind_snoc h]
  cases e : kfind R ms t with
  | some k =>
    show _ = (some k).map _
    rw [kn_map e, ← e]
    exact K.look t ht
  | none =>
    have h1 := K.look t ht
    rw [e] at h1
    rw [h1, if_neg]
    · rfl
    · simp only [Bool.and_eq_true, decide_eq_true_eq]
      rintro ⟨a, b⟩
      exact ho a (by unfold firstLike; rw [b]; exact e)
/-- a row with a new key -/
theorem Kn.put {R : List Row} {ms : List Wt} {xs : List Ent} {x : Wt} {a : Addr} (K : Kn R ms xs) (h : Ahd R (ms.length + 1)) (hk : (rowAt R ms.length).keyed = true) (hn : KT.nm (key (rowAt R ms.length) ms)) (ho : firstLike R ms (rowAt R ms.length) = none) :
    Kn R (ms ++ [x]) (xs ++ [(keyD (rowAt R ms.length) ms, a, x.v)]) := by
  refine ⟨fun t ht => ?_, by have := K.len; rw [List.length_append, List.length_append]; simp; omega⟩
  rw [kfind_snoc h, lookE_snoc, K.look t ht]
  cases e : kfind R ms t with
  | some k =>
    show _ = (some k).map _
    rw [kn_map e]
    rfl
  | none =>
    show (if _ then _ else _) = Option.map _ (Option.or none _)
    rw [Option.none_or, hk, Bool.true_and]
    by_cases q : key (rowAt R ms.length) ms = t
    · have hc : nk (keyD (rowAt R ms.length) ms) = nk (kD t) := by rw [← q]; rfl
      rw [if_pos hc, if_pos (decide_eq_true q)]
      show some x.v = some (wAt (ms ++ [x]) ms.length).v
      rw [wAt_last]
    · have hc : ¬ nk (keyD (rowAt R ms.length) ms) = nk (kD t) := fun z => q (kD_inj hn ht z)
      rw [if_neg hc, if_neg (by simpa using q)]
      rfl
end K8

namespace K8
open PySem PySem.Spec PyProof.Rows L2 WR
/-! ### the law's well -/
def top0 : Nat := 1000000000000
structure Wl (H : Hp) (w : Addr) (n : Nat) : Prop where
  ex : ∃ a b c : Int, H w = some (.lst [.int a, .int b, .int c]) ∧ 0 ≤ b ∧ b < 5000000000 ∧ 0 ≤ c ∧ c ≤ n
theorem Wl.mono {H : Hp} {w : Addr} {n m : Nat} (h : Wl H w n) (l : n ≤ m) : Wl H w m := by
  obtain ⟨a, b, c, e, h1, h2, h3, h4⟩ := h
  exact ⟨a, b, c, e, h1, h2, h3, by omega⟩
/-- all but what stands at w stays -/
def Gw (w : Addr) (H H' : Hp) : Prop := ∀ b o, b ≠ w → H b = some o → H' b = some o
def Ne (w : Addr) : Addr → Prop := fun a => a ≠ w
theorem Gw.of {w : Addr} {H H' : Hp} (s : Sm H H') : Gw w H H' := fun b o _ e => s b o e
theorem Gw.trans {w : Addr} {H H1 H2 : Hp} (s : Gw w H H1) (t : Gw w H1 H2) : Gw w H H2 := fun b o h e => t b o h (s b o h e)
theorem Gw.stays {w : Addr} {n : Nat} {H H' : Hp} (hw : Wl H w n) (g : Gw w H H') : Stays (Ne w) H H' := by
  obtain ⟨a, b, c, e, _⟩ := hw
  refine ⟨fun a o h z => g a o h z, fun a xs z => g a _ (fun y => ?_) z⟩
  rw [y, e] at z
  cases z
theorem Gw.free {w p : Addr} {n : Nat} {H H' : Hp} (hw : Wl H' w n) (g : Gw w H H') (h : H' p = none) : H p = none := by
  obtain ⟨a, b, c, e, _⟩ := hw
  have hp : p ≠ w := fun z => by
    rw [z, e] at h
    cases h
  cases z : H p with
  | none => rfl
  | some o =>
    rw [g p o hp z] at h
    cases h
theorem Wl.sm {w : Addr} {n : Nat} {H H' : Hp} (hw : Wl H w n) (s : Sm H H') : Wl H' w n := by
  obtain ⟨a, b, c, e, r⟩ := hw
  exact ⟨a, b, c, s _ _ e, r⟩
theorem Wl.ne {w p : Addr} {n : Nat} {H : Hp} (hw : Wl H w n) (h : H p = none) : p ≠ w := fun z => by
  obtain ⟨a, b, c, e, r⟩ := hw
  rw [z, e] at h
  cases h
theorem Dr.gw {w : Addr} {n : Nat} {H H' : Hp} {v : V} {d : PyData} (r : Dr (Ne w) H v d) (hw : Wl H w n) (g : Gw w H H') : Dr (Ne w) H' v d := r.mono (fun _ z => z) (g.stays hw)
theorem DrA.gw {w : Addr} {n : Nat} {H H' : Hp} {v : List V} {d : List PyData} (r : DrA (Ne w) H v d) (hw : Wl H w n) (g : Gw w H H') : DrA (Ne w) H' v d := r.mono (fun _ z => z) (g.stays hw)
def intsD (xs : List Int) : List PyData := xs.map PyData.int
theorem ints_dr {N : Addr → Prop} {H : Hp} : ∀ xs : List Int, DrA N H (xs.map V.int) (intsD xs)
  | [] => .nil
  | x :: xs => .cons (.int x) (ints_dr xs)
theorem sqlSm {K : PySem.W.Frag} {a : Addr} {xs : List V} {H H' : Hp} (s : Sm H H') (h : SqL K H a xs) : SqL K H' a xs := h.elim (fun r => .inl (r.elim (fun e => .inl (s _ _ e)) fun ⟨o, e⟩ => .inr ⟨o, s _ _ e⟩)) .inr
/-- for i, x in enumerate(a list that may be frozen): by a state P, turn by turn -/
theorem for_enL {K : PySem.W.Frag} {g : TG} {tb : TS} {D : Ends} {a : Addr} {xs : List V} {σ : L2.St} {H : Hp} (P : Nat → L2.St → Hp → Prop) (h0 : P 0 σ H) (hl : ∀ i σ2 H2, P i σ2 H2 → SqL K H2 a xs)
    (hs : ∀ i x σ H T, xs[i]? = some x → P i σ H → H T = none → g (.ref T) σ (upd H T (.tup [.int (i : Nat), x])) fun σ2 H2 => tb { D with nx := P (i + 1), ct := P (i + 1), bk := D.nx } σ2 H2) (hd : ∀ σ H, P xs.length σ H → D.nx σ H) :
    ∃ W : Nat → Nat → L2.St → Hp → Prop, (∃ m, W 0 m σ H) ∧ ∀ i m σ H, W i m σ H →
      ((Ite K a).stop i H ∧ D.nx σ H) ∨ ((Ite K a).go i H ∧ ∃ N : L2.St → Hp → Prop, (∀ σ' H', N σ' H' → ∃ m', m' < m ∧ W (i + 1) m' σ' H') ∧ ∀ x H', (Ite K a).yld i H x H' → g x σ H' fun σ2 H2 => tb { D with nx := N, ct := N, bk := D.nx } σ2 H2) := by
  refine ⟨fun i m σ H => m + i = xs.length ∧ P i σ H, ⟨xs.length, by omega, h0⟩, ?_⟩
  rintro i m σ2 H2 ⟨e, p⟩
  have ea := hl i σ2 H2 p
  by_cases hi : i < xs.length
  · have hx : xs[i]? = some xs[i] := List.getElem?_eq_getElem hi
    refine .inr ⟨⟨xs, _, ea, hx⟩, P (i + 1), fun σ' H' p' => ⟨m - 1, by omega, by omega, p'⟩, fun v H' y => ?_⟩
    obtain ⟨T, x, rfl, nT, rfl, hx'⟩ := y
    exact hs i x σ2 H2 T (hx' xs ea) p nT
  · have e2 : i = xs.length := by omega
    subst e2
    exact .inl ⟨⟨xs, ea, Nat.le_refl _⟩, hd σ2 H2 p⟩
abbrev spWell (K : PySem.W.Frag) : Sp := fun vs H Q _ => ∃ (s : Addr) (xs : List Int) (p : Nat), vs = [.ref s, .int (p : Nat)] ∧ SqL K H s (xs.map V.int) ∧ xs.length ≤ 100 ∧ p ≤ 100 ∧ ∀ (w : Addr) (H' : Hp), Sm H H' → H w = none → Wl H' w 0 → Q (.ref w) H'
abbrev spDraw : Sp := fun vs H Q _ => ∃ (w : Addr) (m n : Nat), vs = [.ref w, .int (m : Nat)] ∧ 1 ≤ m ∧ m ≤ 1000000 ∧ Wl H w n ∧ n < top0 ∧ ∀ (k : Nat) (H' : Hp), k < m → Gw w H H' → Wl H' w (n + 1) → Q (.int (k : Nat)) H'
section
variable {P : Program} {w : World} {K : PySem.W.Frag} {mg : Str → Option Value} {base : Heap}
theorem sc__law_draw : FnScope ["stream", "many", "digit", "mixed"] ["stream", "many"] (defScope s_law_draw) := ⟨rfl, rfl, rfl, by decide +kernel, rfl, by decide +kernel, by decide +kernel⟩
theorem ok__law_draw (B : Bt mg) (F : Fn K mg d_law_draw) : Df P w K mg base CX0 1 "_law_draw" ["stream", "many"] spDraw := by
  obtain ⟨f, fd, hm, F⟩ := F
  refine ⟨f, fd, hm, F.kp, F.bindsN fun _ _ _ _ _ _ us hl => match us, hl with | [_, _], _ => rfl, ?_⟩
  refine F.ok sc__law_draw (fun vs H Q E h => by obtain ⟨w, m, n, rfl, _⟩ := h; rfl) (fun cdv A outer s H vs Q E hr h => ?_)
  obtain ⟨wa, m, n, rfl, hm1, hm2, hw, hn, q⟩ := h
  refine ⟨_, PSs.nox (pss_cons (ps_if (pt_cmpR op_gt (pe_ix ix_list (pv 0) pe_int (fun _ _ => rfl)) pe_int (nomark _)) (pss_cons (ps_set (i := 2) sc__law_draw.nd rfl (by first | exact Or.inl rfl | exact Or.inr rfl) (pe_op op_modN (pe_callTy call_int1 (by rfl) B.int (by decide +kernel) (pa_cons (pe_ix ix_list (pv 0) pe_int (fun _ _ => rfl)) pa_nil)) (pv 1)))
      (pss_cons (ps_asg (pe_op op_fdivN (pe_ix ix_list (pv 0) pe_int (fun _ _ => rfl)) (pv 1)) (pg_sub (pv 0) pe_int set_list))
      (pss_one (ps_ret (pv 2))))) pss_nil)
      (pss_cons (ps_asg (pe_op op_add (pe_ix ix_list (pv 0) pe_int (fun _ _ => rfl)) pe_int) (pg_sub (pv 0) pe_int set_list))
      (pss_cons (ps_set (i := 3) sc__law_draw.nd rfl (by first | exact Or.inl rfl | exact Or.inr rfl) (pe_op op_modN (pe_op op_pow (pe_callTy call_int1 (by rfl) B.int (by decide +kernel) (pa_cons (pe_op op_add (pe_op op_add (pe_ix ix_list (pv 0) pe_int (fun _ _ => rfl)) (pe_op op_mul pe_int (pe_ix ix_list (pv 0) pe_int (fun _ _ => rfl)))) pe_int) pa_nil)) pe_int) pe_int))
      (pss_one (ps_ret (pe_op op_modN (pe_op op_fdivN (pe_op op_modN (pe_op op_pow (pe_callTy call_int1 (by rfl) B.int (by decide +kernel) (pa_cons (pe_op op_add (pe_op op_mul (pv 3) pe_int) (pe_op op_mul pe_int (pe_ix ix_list (pv 0) pe_int (fun _ _ => rfl)))) pa_nil)) pe_int) pe_int) pe_int) (pv 1))))))), ?_⟩
  obtain ⟨a, b, c, ew, hb1, hb2, hc1, hc2⟩ := hw
  have gw : ∀ o, Gw wa H (upd H wa o) := fun o x z hx e => by
    rw [upd_ne hx]
    exact e
  have lk : ∀ {x y z : V} {H' : Hp}, H' wa = some (.lst [x, y, z]) → SqL K H' wa [x, y, z] := fun e => SqL.of e
  have hmi : (m : Int) ≠ 0 := by omega
  have md : ∀ i : Int, ∃ k : Nat, k < m ∧ i.fmod (m : Int) = (k : Int) := fun i => by
    have h1 := Int.fmod_nonneg_of_pos i (show (0 : Int) < m by omega)
    have h2 := Int.fmod_lt_of_pos i (show (0 : Int) < m by omega)
    exact ⟨(i.fmod m).toNat, by omega, by omega⟩
  have hms : (m : Int).natAbs < 1073741824 := by omega
  refine ⟨_, rfl, wa, _, 0, _, rfl, rfl, lk ew, rfl, _, _, rfl, rfl, _, rfl, ite2 (fun _ => ?_) (fun _ => ?_)⟩
  · obtain ⟨k, hk, ek⟩ := md a
    refine ⟨_, rfl, wa, _, 0, _, rfl, rfl, lk ew, rfl, .inl ⟨a, rfl, _, rfl, _, _, rfl, rfl, hmi, ?_⟩⟩
    refine ⟨_, rfl, wa, _, 0, _, rfl, rfl, lk ew, rfl, _, rfl, _, _, rfl, rfl, ⟨hmi, hms⟩, _, rfl, wa, _, 0, 0, rfl, rfl, ew, rfl, _, rfl, ?_⟩
    show Q (.int (a.fmod (m : Int))) _
    rw [ek]
    exact q k _ hk (gw _) ⟨_, _, _, upd_same, hb1, hb2, hc1, by omega⟩
  · refine ⟨_, rfl, wa, _, 2, _, rfl, rfl, lk ew, rfl, _, _, rfl, rfl, _, rfl, wa, _, 2, 2, rfl, rfl, ew, rfl, ?_⟩
    have e2 : upd H wa (.lst [.int a, .int b, .int (c + 1)]) wa = some (.lst [.int a, .int b, .int (c + 1)]) := upd_same
    have htop : top0 = 1000000000000 := rfl
    refine ⟨_, rfl, wa, _, 1, _, rfl, rfl, lk e2, rfl, _, rfl, wa, _, 2, _, rfl, rfl, lk e2, rfl, _, _, rfl, rfl, .inl (by constructor <;> decide), _, _, rfl, rfl, _, _, rfl, rfl, .inl ⟨_, rfl, _, _, rfl, rfl, ⟨by decide, by decide, by omega⟩, _, _, rfl, rfl, (by show (2147483647 : Int) ≠ 0; decide), ?_⟩⟩
    have x1 := Int.fmod_nonneg_of_pos ((b + 15485863 * (c + 1) + 32452843) ^ Int.toNat 3) (show (0 : Int) < 2147483647 by decide)
    have x2 := Int.fmod_lt_of_pos ((b + 15485863 * (c + 1) + 32452843) ^ Int.toNat 3) (show (0 : Int) < 2147483647 by decide)
    dsimp only
    generalize ((b + 15485863 * (c + 1) + 32452843) ^ Int.toNat 3).fmod 2147483647 = z at x1 x2 ⊢
    refine ⟨_, rfl, _, _, rfl, rfl, .inr (by constructor <;> decide), _, rfl, wa, _, 2, _, rfl, rfl, lk e2, rfl, _, _, rfl, rfl, .inl (by constructor <;> decide), _, _, rfl, rfl, .inl ⟨_, rfl, _, _, rfl, rfl, ⟨by decide, by decide, by omega⟩, _, _, rfl, rfl, (by show (2147483629 : Int) ≠ 0; decide), _, _, rfl, rfl, ⟨by decide, by decide⟩, ?_⟩⟩
    have fin : ∀ z : Int, Q (.int (z.fmod (m : Int))) (upd H wa (.lst [.int a, .int b, .int (c + 1)])) := fun z => by
      obtain ⟨k, hk, ek⟩ := md z
      rw [ek]
      exact q k _ hk (gw _) ⟨_, _, _, upd_same, hb1, hb2, by omega, by omega⟩
    exact ⟨_, rfl, _, _, rfl, rfl, hmi, fin _⟩
theorem sc__law_stream : FnScope ["script", "turn", "cell", "mix", "one"] ["script", "turn"] (defScope s_law_stream) := ⟨rfl, rfl, rfl, by decide +kernel, rfl, by decide +kernel, by decide +kernel⟩
theorem ok__law_stream (B : Bt mg) (F : Fn K mg d_law_stream) : Df P w K mg base CX0 1 "_law_stream" ["script", "turn"] (spWell K) := by
  obtain ⟨f, fd, hm, F⟩ := F
  refine ⟨f, fd, hm, F.kp, F.bindsN fun _ _ _ _ _ _ us hl => match us, hl with | [_, _], _ => rfl, ?_⟩
  refine F.ok sc__law_stream (fun vs H Q E h => by obtain ⟨w, m, n, rfl, _⟩ := h; rfl) (fun cdv A outer s H vs Q E hr h => ?_)
  obtain ⟨sa, xs, p, rfl, hs, hx, hp, q⟩ := h
  refine ⟨_, PSs.nox (C8.pss_cut (ps_set (i := 2) sc__law_stream.nd rfl (by first | exact Or.inl rfl | exact Or.inr rfl) (pe_ifExp (pt_cmpR op_lt (pv 1) (pe_callB call_len (by rfl) B.len (by decide +kernel) (pa_cons (pv 0) pa_nil)) (nomark _)) (pe_ix ix_list (pv 0) (pv 1) (fun _ _ => rfl)) (pe_op op_add (pe_op op_mul pe_int (pv 1)) (pe_callB call_len (by rfl) B.len (by decide +kernel) (pa_cons (pv 0) pa_nil)))))
      (pss_cons (ps_set (i := 3) sc__law_stream.nd rfl (by first | exact Or.inl rfl | exact Or.inr rfl) (pe_op op_add (pe_op op_add pe_int (pe_op op_mul pe_int (pv 1))) (pe_op op_mul pe_int (pe_callB call_len (by rfl) B.len (by decide +kernel) (pa_cons (pv 0) pa_nil)))))
      (pss_cons (ps_for PassesOwn.never rfl (pi_seq (pe_slice sl_list (pv 0) po_none (po_some pe_int))) (pg_name (i := 4) sc__law_stream.nd rfl (by first | exact Or.inl rfl | exact Or.inr rfl)) (pss_one (ps_set (i := 3) sc__law_stream.nd rfl (by first | exact Or.inl rfl | exact Or.inr rfl) (pe_op op_modN (pe_callTy call_int1 (by rfl) B.int (by decide +kernel) (pa_cons (pe_op op_add (pe_op op_add (pe_op op_mul (pv 3) pe_int) (pv 4)) pe_int) pa_nil)) pe_int))))
      (pss_one (ps_ret (pe_lst (pa_cons (pe_ifExp (pt_cmpR op_ge (pv 2) (pe_op op_pow pe_int pe_int) (nomark _)) (pv 2) pe_int) (pa_cons (pe_op op_modN (pe_callTy call_int1 (by rfl) B.int (by decide +kernel) (pa_cons (pe_op op_add (pv 3) (pe_op op_mul (pv 2) pe_int)) pa_nil)) pe_int) (pa_cons pe_int pa_nil))))))))), ?_⟩
  -- cell
  refine ⟨fun σ' H' => ∃ i : Int, σ' = [some (.ref sa), some (.int (p : Nat)), some (.int i), none, none] ∧ Sm H H', ⟨_, rfl, _, rfl, _, _, rfl, Or.inl ⟨_, hs, rfl⟩, ?_⟩, ?_⟩
  · refine ⟨_, _, rfl, rfl, _, rfl, ite2 (fun hA => ?_) (fun _ => ?_)⟩
    · have hp2 : p < xs.length := by
        have := of_decide_eq_true hA
        rw [List.length_map] at this
        omega
      have e1 : (xs.map V.int)[p]? = some (V.int xs[p]) := by simp [hp2]
      exact ⟨_, rfl, _, rfl, sa, _, _, _, rfl, rfl, hs, atI_nat e1, _, rfl, Sm.rfl'⟩
    · exact ⟨_, rfl, _, _, rfl, rfl, .inl (by constructor <;> decide), _, rfl, _, _, rfl, Or.inl ⟨_, hs, rfl⟩, _, _, rfl, rfl, _, rfl, Sm.rfl'⟩
  rintro σ1 H1 ⟨i, rfl, s1⟩
  have hs1 := sqlSm s1 hs
  refine ⟨_, rfl, _, _, rfl, rfl, .inl (by constructor <;> decide), _, _, rfl, rfl, _, rfl, _, _, rfl, Or.inl ⟨_, hs1, rfl⟩, _, _, rfl, rfl, .inl (by constructor <;> decide), _, _, rfl, rfl, ?_⟩
  obtain ⟨m0, em0, hm1, hm2⟩ : ∃ m0 : Int, (1009 + 37 * (p : Int)) + 7 * ((xs.map V.int).length : Int) = m0 ∧ 0 ≤ m0 ∧ m0 < 2147483647 := ⟨_, rfl, by omega, by rw [List.length_map]; omega⟩
  dsimp only
  rw [em0]
  obtain ⟨ys, ey⟩ : ∃ ys : List Int, cutV (xs.map V.int) none (some 64) = ys.map V.int := by
    unfold cutV
    rw [← List.map_drop, ← List.map_take]
    exact ⟨_, rfl⟩
  refine ⟨_, rfl, 64, rfl, sa, _, rfl, hs1, fun l nl => ?_⟩
  rw [ey]
  have s2 := s1.trans (Sm.new (o := .lst (ys.map V.int)) nl)
  have el : upd H1 l (.lst (ys.map V.int)) l = some (.lst (ys.map V.int)) := upd_same
  generalize upd H1 l (.lst (ys.map V.int)) = H2 at s2 el ⊢
  refine ⟨l, _, rfl, .inl el, fun J hJ => ?_⟩
  refine for_seq hJ (fun _ σ3 H3 => ∃ (m : Int) (x4 : Option V), σ3 = [some (.ref sa), some (.int (p : Nat)), some (.int i), some (.int m), x4] ∧ 0 ≤ m ∧ m < 2147483647 ∧ Sm H2 H3) ⟨m0, none, rfl, hm1, hm2, Sm.rfl'⟩ ?_ ?_ ?_
  · rintro k σ3 H3 _ ⟨_, _, _, _, _, s⟩
    rw [el]
    exact s _ _ el
  · rintro k x σ3 H3 hx3 ⟨m, x4, rfl, m1, m2, s3⟩
    obtain ⟨y, rfl⟩ : ∃ y : Int, x = .int y := by
      have := List.mem_of_getElem? hx3
      obtain ⟨y, _, rfl⟩ := List.mem_map.mp this
      exact ⟨y, rfl⟩
    refine ⟨_, rfl, _, _, rfl, rfl, .inl ⟨by omega, by omega⟩, _, rfl, _, _, rfl, rfl, _, _, rfl, rfl, .inl ⟨_, rfl, _, _, rfl, rfl, (by show (2147483647 : Int) ≠ 0; decide), ?_⟩⟩
    exact ⟨_, _, rfl, Int.fmod_nonneg_of_pos _ (by decide), Int.fmod_lt_of_pos _ (by decide), s3⟩
  · rintro σ3 H3 ⟨m, x4, rfl, m1, m2, s3⟩
    have fin : ∀ c z : Int, 0 ≤ z → z < 2147483647 → ∀ a, H3 a = none → Q (.ref a) (upd H3 a (.lst [.int c, .int z, .int 0])) := fun c z z1 z2 a na =>
      q a _ ((s2.trans s3).trans (Sm.new na)) ((s2.trans s3).free na) ⟨c, _, _, upd_same, by omega, by omega, Int.le_refl _, Int.le_refl _⟩
    have last : ∀ c : Int, tCons
        (tOp (rI (fun _ j => j ≠ 0) fun i j => V.int (i.fmod j))
          (tCB (fun xs H Q => (∃ i, xs = [V.int i] ∧ Q (V.int i) H) ∨ ∃ k, xs = [V.bl k] ∧ Q (V.int (if k = true then 1 else 0)) H)
            (tCons (tOp (rI0 fun i j => V.int (i + j)) (tVar 3) (tOp (rI CMul fun i j => V.int (i * j)) (tVar 2) (tC (V.int 48271)))) tNil))
          (tC (V.int 2147483647)))
        (tCons (tC (V.int 0)) tNil) [some (.ref sa), some (.int (p : Nat)), some (.int i), some (.int m), x4] H3 fun vs H' => vs.length + 1 ≤ sizeLine ∧ ∀ a, H' a = none → Q (.ref a) (upd H' a (.lst (.int c :: vs))) := fun c => by
      refine ⟨_, rfl, _, rfl, _, _, rfl, rfl, .inr (by constructor <;> decide), _, _, rfl, rfl, .inl ⟨_, rfl, _, _, rfl, rfl, (by show (2147483647 : Int) ≠ 0; decide), (by show 3 ≤ sizeLine; decide), fun a na => ?_⟩⟩
      exact fin c _ (Int.fmod_nonneg_of_pos _ (by decide)) (Int.fmod_lt_of_pos _ (by decide)) a na
    exact ⟨_, rfl, _, _, rfl, rfl, ⟨by decide, by decide, by decide⟩, _, _, rfl, rfl, _, rfl, ite2 (fun _ => ⟨_, rfl, last i⟩) (fun _ => last 0)⟩
end
end K8

namespace WR
open PySem PySem.Spec PyProof.Rows L2
mutual
theorem Dr.live {N : Addr → Prop} {H : Hp} : ∀ {d : PyData} {v : V}, Dr N H v d → Dr (fun a => N a ∧ H a ≠ none) H v d
  | _, _, .non => .non
  | _, _, .bl b => .bl b
  | _, _, .int i => .int i
  | _, _, .str x => .str x
  | _, _, .lst n e r => .lst ⟨n, fun z => by rw [e] at z; cases z⟩ e (DrA.live r)
  | _, _, .tup e r => .tup e (DrA.live r)
  | _, _, .dct n e r => .dct ⟨n, fun z => by rw [e] at z; cases z⟩ e (DrK.live r)
theorem DrA.live {N : Addr → Prop} {H : Hp} : ∀ {ds : List PyData} {vs : List V}, DrA N H vs ds → DrA (fun a => N a ∧ H a ≠ none) H vs ds
  | _, _, .nil => .nil
  | _, _, .cons r t => .cons (Dr.live r) (DrA.live t)
theorem DrK.live {N : Addr → Prop} {H : Hp} : ∀ {ps : List (PyData × PyData)} {kvs : List (Key × V)}, DrK N H kvs ps → DrK (fun a => N a ∧ H a ≠ none) H kvs ps
  | _, _, .nil => .nil
  | _, _, .cons r t => .cons (Dr.live r) (DrK.live t)
end
end WR
namespace K8
open PySem PySem.Spec PyProof.Rows L2 WR
/-- N lets no well in -/
def Off (w : Addr) (N : Addr → Prop) : Prop := ∀ a, N a → a ≠ w
def Fr (N : Addr → Prop) (H : Hp) : Addr → Prop := fun a => N a ∨ H a = none
theorem Gw.stN {w : Addr} {n : Nat} {H H' : Hp} {N : Addr → Prop} (o : Off w N) (hw : Wl H w n) (g : Gw w H H') : Stays N H H' := by
  have := g.stays hw
  exact ⟨fun a u h z => this.at_ a u (o a h) z, this.tup⟩
theorem _root_.WR.Dr.gn {w : Addr} {n : Nat} {N : Addr → Prop} {H H' : Hp} {v : V} {d : PyData} (r : Dr N H v d) (o : Off w N) (hw : Wl H w n) (g : Gw w H H') : Dr N H' v d := r.mono (fun _ z => z) (g.stN o hw)
theorem _root_.WR.DrA.gn {w : Addr} {n : Nat} {N : Addr → Prop} {H H' : Hp} {v : List V} {d : List PyData} (r : DrA N H v d) (o : Off w N) (hw : Wl H w n) (g : Gw w H H') : DrA N H' v d := r.mono (fun _ z => z) (g.stN o hw)
theorem _root_.WR.Dr.wide {N M : Addr → Prop} {H : Hp} {v : V} {d : PyData} (r : Dr N H v d) (h : ∀ a, N a → M a) : Dr M H v d := r.mono h (Stays.of Sm.rfl')
theorem _root_.WR.DrA.wide {N M : Addr → Prop} {H : Hp} {v : List V} {d : List PyData} (r : DrA N H v d) (h : ∀ a, N a → M a) : DrA M H v d := r.mono h (Stays.of Sm.rfl')
section
variable {X : Cx}
/-- x[j], j within a list or a tuple -/
def rIxN (N : Addr → Prop) : R2 := fun x y H Q => ∃ d, ∃ j : Nat, ∃ e, Dr N H x d ∧ isL d = true ∧ y = .int (j : Int) ∧ (its d)[j]? = some e ∧ ∀ v, Dr N H v e → Q v H
theorem ix_N (N : Addr → Prop) : IxR X (rIxN N) := by
  intro value slice pins s σ H x y v u Q I rx ry h hs
  obtain ⟨d, j, e, rd, hL, rfl, he, q⟩ := h
  cases rd with
  | lst _ ea r =>
    obtain ⟨z, hz, rz⟩ := r.at_ he
    exact ix_list value slice pins s σ H _ _ v u Q I rx ry ⟨_, _, _, z, rfl, rfl, SqL.of ea, atI_nat hz, q _ rz⟩ hs
  | tup ea r =>
    obtain ⟨z, hz, rz⟩ := r.at_ he
    exact ix_tup value slice pins s σ H _ _ v u Q I rx ry ⟨_, _, _, z, rfl, rfl, SqT.of ea, atI_nat hz, q _ rz⟩ hs
  | _ => cases hL
/-- x[lo:hi] of a list or a tuple -/
def rSlN (N : Addr → Prop) : V → Option Int → Option Int → Hp → VK → Prop := fun x lo hi H Q => ∃ d, Dr N H x d ∧ isL d = true ∧ ∀ v H', Sm H H' → Dr (Fr N H) H' v (likeD d (cutA (its d) lo hi)) → Q v H'
theorem sl_N (N : Addr → Prop) : SlR X (rSlN N) := by
  intro pins s σ H x v vl vu lo hi sl Q I rx hs pl pu h
  obtain ⟨d, rd, hL, q⟩ := h
  cases rd with
  | lst _ e r =>
    refine sl_list pins s σ H _ v vl vu lo hi sl Q I rx hs pl pu ⟨_, _, rfl, SqL.of e, fun p np => q _ _ (Sm.new np) ?_⟩
    exact .lst (.inr np) upd_same (((r.cut lo hi).sm (Sm.new np)).wide fun _ z => .inl z)
  | @tup a xs ds e r =>
    refine sl_tupA pins s σ H _ v vl vu lo hi sl Q I rx hs pl pu ⟨_, _, rfl, SqT.of e, fun hw => q _ _ Sm.rfl' ?_, fun _ p np => q _ _ (Sm.new np) ?_⟩
    · have ew : cutA ds lo hi = ds := by
        have hl := r.length
        unfold cutA
        rw [hl] at hw
        rw [hw.1, hw.2, List.drop_zero, Nat.sub_zero, List.take_length]
      show Dr _ H _ (.tuple (cutA ds lo hi))
      rw [ew]
      exact .tup e (r.wide fun _ z => .inl z)
    · exact .tup upd_same (((r.cut lo hi).sm (Sm.new np)).wide fun _ z => .inl z)
  | _ => cases hL
/-- list(x) -/
theorem call_listN (N : Addr → Prop) : CallR X (.type "list") (fun xs H Q => ∃ v d, xs = [v] ∧ Dr N H v d ∧ isL d = true ∧ ∀ l ys, H l = none → DrA N H ys (its d) → Q (.ref l) (upd H l (.lst ys))) := by
  intro pins s σ H xs us Q I r h
  obtain ⟨v, d, rfl, rd, hL, q⟩ := h
  cases rd with
  | lst _ e rr => exact call_list_of pins s σ H _ us Q I r ⟨_, _, rfl, .inl (SqL.of e), fun l nl => q l _ nl rr⟩
  | tup e rr => exact call_list_of pins s σ H _ us Q I r ⟨_, _, rfl, .inr (SqT.of e), fun l nl => q l _ nl rr⟩
  | _ => cases hL
/-- tuple(x) -/
theorem call_tupN (N : Addr → Prop) : CallR X (.type "tuple") (fun xs H Q => ∃ v d, xs = [v] ∧ Dr N H v d ∧ isL d = true ∧ ∀ u H', Sm H H' → Dr N H' u (.tuple (its d)) → Q u H') := by
  intro pins s σ H xs us Q I r h
  obtain ⟨v, d, rfl, rd, hL, q⟩ := h
  cases rd with
  | lst _ e rr => exact call_tuple_of pins s σ H _ us Q I r ⟨_, _, rfl, .inl ⟨SqL.of e, fun p np => q _ _ (Sm.new np) (.tup upd_same (rr.sm (Sm.new np)))⟩⟩
  | tup e rr => exact call_tuple_of pins s σ H _ us Q I r ⟨_, _, rfl, .inr ⟨SqT.of e, q _ _ Sm.rfl' (.tup e rr)⟩⟩
  | _ => cases hL
end
theorem erase_perm {α : Type} : ∀ (l : List α) (k : Nat) (h : k < l.length), (l[k] :: l.eraseIdx k).Perm l
  | a :: l, 0, _ => List.Perm.refl _
  | a :: l, k + 1, h => by
    have ih := erase_perm l k (by simpa using h)
    exact (List.Perm.swap a _ _).trans (ih.cons a)
theorem ixN_nat {n k : Nat} (h : k < n) : ixN n (k : Int) = some k := by
  unfold ixN
  rw [if_pos (by omega), if_pos (by omega)]
  rfl
/-- what N lets in stays when another one is written -/
theorem stays_upd {N : Addr → Prop} {H : Hp} {a : Addr} {o : HO} (h : ∀ b, N b → b ≠ a) (ht : ∀ xs, H a ≠ some (.tup xs)) : Stays N H (upd H a o) :=
  ⟨fun b u n e => by rw [upd_ne (h b n)]; exact e, fun b xs e => by rw [upd_ne (fun z => ht xs (by rw [← z]; exact e))]; exact e⟩
/-- o.name(e, ..) in a block: K told apart -/
theorem pe_bmB {X : Cx} {K1 : PySem.W.Frag} {o e : Expr} {es : List Expr} {to : TE} {t : TA} {name : Str} {apos cpos : Pos} {T id : String} {r : V → List V → Hp → VK → Prop} (hK : X.K = K1) (pa : PlainAttrs T) (slot : Slot T name id) (hty : typeOf (.builtin id) = pure (.type "method_descriptor"))
    (hm : MtR X id r) (ho : PE X o to) (ha : PA X (e :: es) t) (b1 : attributeBase o name X.env (eval o X.env) = eval o X.env := by rfl)
    (b2 : ((backTo cpos (starEach (e :: es) X.env)).all (fun x => !x.1) && (backToKw cpos (keywordEach [] X.env)).all (fun x => x.1.isSome) && decide ((e :: es).length + ([] : List Keyword).length + (if ([] : List Keyword).isEmpty then 0 else 1) < 30)) = true := by rfl)
    (b3 : (apos.endLine == cpos.line) = true := by rfl) (b4 : starEach (e :: es) X.env = (false, eval e X.env) :: starEach es X.env := by rfl) (b5 : (backTo cpos (starEach es X.env)).any (·.1) = false := by rfl) : PE X (.Call (.Attribute o name apos) (e :: es) [] cpos) (tBM K1 T r to t) := by
  subst hK
  exact pe_bm pa slot hty hm ho ha b1 b2 b3 b4 b5
/-! ### comprehensions that draw -/
/-- J walks the data ds, whatever is drawn meanwhile -/
structure WalkW (w : Addr) (N : Addr → Prop) (J : It) (H1 : Hp) (ds : List PyData) : Prop where
  go : ∀ H i, Gw w H1 H → i < ds.length → J.go i H
  yld : ∀ H i x H', Gw w H1 H → i < ds.length → J.yld i H x H' → H' = H ∧ ∃ d, ds[i]? = some d ∧ Dr N H x d
  stop : ∀ H, Gw w H1 H → J.stop ds.length H
theorem WalkW.seq {K : PySem.W.Frag} {w : Addr} {n : Nat} {N : Addr → Prop} {H1 : Hp} {a : Addr} {xs : List V} {ds : List PyData} {J : It} (hJ : ItS K H1 a xs J) (na : a ≠ w) (o : Off w N) (hw : Wl H1 w n) (r : DrA N H1 xs ds) : WalkW w N J H1 ds := by
  have hl := r.length
  constructor
  · intro H i s hi
    have hx : xs[i]? = some xs[i] := List.getElem?_eq_getElem (by omega)
    rcases hJ with ⟨rfl, e⟩ | ⟨rfl, e⟩
    · exact ⟨xs, _, SqL.of (s _ _ na e), hx⟩
    · exact ⟨xs, _, SqT.of (s _ _ na e), hx⟩
  · intro H i x H' s hi y
    have hx : H' = H ∧ xs[i]? = some x := by
      rcases hJ with ⟨rfl, e⟩ | ⟨rfl, e⟩
      · exact ⟨y.1, y.2 xs (SqL.of (s _ _ na e))⟩
      · exact ⟨y.1, y.2 xs (SqT.of (s _ _ na e))⟩
    obtain ⟨d, h1, h2⟩ := r.get hx.2
    exact ⟨hx.1, d, h1, h2.gn o hw s⟩
  · intro H s
    rcases hJ with ⟨rfl, e⟩ | ⟨rfl, e⟩
    · exact ⟨xs, SqL.of (s _ _ na e), by omega⟩
    · exact ⟨xs, SqT.of (s _ _ na e), by omega⟩
theorem WalkW.range {w : Addr} {N : Addr → Prop} {H1 : Hp} {lo : Int} {n : Nat} : WalkW w N (Itr lo n) H1 ((List.range n).map fun (k : Nat) => PyData.int (lo + (k : Int))) := by
  constructor
  · intro H i s hi
    show i < n
    simpa using hi
  · rintro H i v H' s hi ⟨e, rfl⟩
    refine ⟨e, .int (lo + i), ?_, .int _⟩
    have : i < n := by simpa using hi
    simp [List.getElem?_map, List.getElem?_range this]
  · intro H s
    show n ≤ _
    simp
/-- pairwise -/
inductive All2 (R : PyData → PyData → Prop) : List PyData → List PyData → Prop
  | nil : All2 R [] []
  | cons {d e : PyData} {ds es : List PyData} : R d e → All2 R ds es → All2 R (d :: ds) (e :: es)
theorem All2.app {R : PyData → PyData → Prop} {d e : PyData} (h : R d e) : ∀ {ds es : List PyData}, All2 R ds es → All2 R (ds ++ [d]) (es ++ [e])
  | _, _, .nil => .cons h .nil
  | _, _, .cons a t => .cons a (t.app h)
theorem All2.len {R : PyData → PyData → Prop} : ∀ {ds es : List PyData}, All2 R ds es → es.length = ds.length
  | _, _, .nil => rfl
  | _, _, .cons _ t => by simp [t.len]
theorem lc_w {J : It} {te : TE} {vs : List Nat} {i : Nat} {σ : L2.St} {H1 : Hp} {D w : Addr} {n c : Nat} {M N : Addr → Prop} {ds : List PyData} {Qd : Hp → Prop} (R : PyData → PyData → Prop) (W : WalkW w M J H1 ds) (nD : H1 D = none) (hw0 : Wl H1 w n) (oN : Off w N)
    (hlen : ds.length ≤ lim)
    (hw : ∀ x, wipe ((wipe σ vs).set i (some x)) vs = wipe σ vs)
    (hs : ∀ (x : V) (d : PyData) (j : Nat) (H2 : Hp) (Q : VK), ds[j]? = some d → Gw w H1 H2 → Wl H2 w (n + c * j) → Dr M H2 x d →
      (∀ y e H3, Gw w H2 H3 → Wl H3 w (n + c * (j + 1)) → Dr (fun b => (N b ∨ H1 b = none) ∧ b ≠ D) H3 y e → R d e → Q y H3) → H2 D ≠ none → te ((wipe σ vs).set i (some x)) H2 Q)
    (hd : ∀ H2 ys es, Gw w H1 H2 → Wl H2 w (n + c * ds.length) → H2 D = some (.lst ys) → DrA (fun b => (N b ∨ H1 b = none) ∧ b ≠ D) H2 ys es → All2 R ds es → Qd H2) :
    ∃ W : Nat → Nat → Hp → Prop, (∃ m, W 0 m (upd H1 D (.lst []))) ∧ ∀ i' m H, W i' m H →
      (J.stop i' H ∧ Qd H) ∨ (J.go i' H ∧ ∃ Nx : Hp → Prop, (∀ H', Nx H' → ∃ m', m' < m ∧ W (i' + 1) m' H') ∧ ∀ x H', J.yld i' H x H' → gName i x (wipe σ vs) H' fun σ2 H2 => wipe σ2 vs = wipe σ vs ∧ tYes σ2 H2 fun b H3 =>
        if b = true then te σ2 H3 fun y H4 => ∃ acc, H4 D = some (.lst acc) ∧ acc.length < sizeLine ∧ Nx (upd H4 D (.lst (acc ++ [y]))) else Nx H3) := by
  have nDw : D ≠ w := hw0.ne nD
  have offM : Off w (fun b => (N b ∨ H1 b = none) ∧ b ≠ D) := fun a h => by
    rcases h.1 with z | z
    · exact oN a z
    · exact hw0.ne z
  refine lc_walk (n := ds.length) (fun j H2 => Gw w H1 H2 ∧ Wl H2 w (n + c * j) ∧ ∃ ys es, H2 D = some (.lst ys) ∧ ys.length = j ∧ DrA (fun b => (N b ∨ H1 b = none) ∧ b ≠ D) H2 ys es ∧ All2 R (ds.take j) es) ?_ ?_ ?_ ?_ ?_
  · exact ⟨Gw.of (Sm.new nD), by simpa using hw0.sm (Sm.new nD), [], [], upd_same, rfl, .nil, by simpa using All2.nil⟩
  · rintro j H2 hj ⟨s, _⟩
    exact W.go _ _ s hj
  · rintro H2 ⟨s, _⟩
    exact W.stop _ s
  · rintro j x H2 H' hj ⟨s, hw2, ys, es, eD, hl, ry, al⟩ hy
    obtain ⟨rfl, d, hd', rd⟩ := W.yld _ _ _ _ s hj hy
    refine ⟨hw x, ?_⟩
    dsimp only [tYes]
    rw [if_pos rfl]
    refine hs x d j H' _ hd' s hw2 rd (fun y e H3 s3 hw3 r3 hr => ?_) (by rw [eD]; exact fun z => nomatch z)
    have eD3 := s3 D _ nDw eD
    refine ⟨ys, eD3, by rw [hl]; exact Nat.lt_of_lt_of_le hj (Nat.le_of_lt (Nat.lt_of_le_of_lt hlen lim_lt)), ?_⟩
    have s4 : Gw w H1 (upd H3 D (.lst (ys ++ [y]))) := fun b o hb z => by
      rw [upd_ne (ne_of_none z nD)]
      exact s3 _ _ hb (s _ _ hb z)
    have hw4 : Wl (upd H3 D (.lst (ys ++ [y]))) w (n + c * (j + 1)) := by
      obtain ⟨a, b, c', e', h'⟩ := hw3
      exact ⟨a, b, c', by rw [upd_ne (Ne.symm nDw)]; exact e', h'⟩
    refine ⟨s4, hw4, ys ++ [y], es ++ [e], upd_same, by rw [List.length_append, hl]; rfl, ?_, ?_⟩
    · have s5 : Stays (fun b => (N b ∨ H1 b = none) ∧ b ≠ D) H3 (upd H3 D (.lst (ys ++ [y]))) := ⟨fun b o nb z => by rw [upd_ne nb.2]; exact z, fun b us z => by
        rw [upd_ne (fun q => by rw [q, eD3] at z; cases z)]
        exact z⟩
      exact ((ry.gn offM hw2 s3).append (.one r3)).mono (fun _ z => z) s5
    · rw [List.take_succ, hd']
      exact al.app hr
  · rintro H2 ⟨s, hw2, ys, es, eD, hl, ry, al⟩
    rw [List.take_length] at al
    exact hd H2 ys es s hw2 eD ry al
abbrev spPick : Sp := fun vs H Q _ => ∃ (w : Addr) (n : Nat) (N : Addr → Prop) (v : V) (d : PyData), vs = [.ref w, v] ∧ Off w N ∧ Wl H w n ∧ n < top0 ∧ Dr N H v d ∧ isL d = true ∧ its d ≠ [] ∧ (its d).length ≤ lim ∧
  ∀ e ∈ its d, ∀ u H', Gw w H H' → Wl H' w (n + 1) → Dr N H' u e → Q u H'
abbrev spMixed : Sp := fun vs H Q _ => ∃ (w : Addr) (n : Nat) (N : Addr → Prop) (v : V) (d : PyData), vs = [.ref w, v] ∧ Off w N ∧ Wl H w n ∧ n + lim < top0 ∧ Dr N H v d ∧ isL d = true ∧ (its d).length ≤ lim ∧
  ∀ (l : Addr) (ys : List V) (es : List PyData) (H' : Hp), H l = none → es.Perm (its d) → Gw w H H' → Wl H' w (n + (its d).length) → H' l = some (.lst ys) → DrA N H' ys es → Q (.ref l) H'
section
variable {P : Program} {w : World} {K : PySem.W.Frag} {mg : Str → Option Value} {base : Heap}
theorem sc__law_pick : FnScope ["stream", "things"] ["stream", "things"] (defScope s_law_pick) := ⟨rfl, rfl, rfl, by decide +kernel, rfl, by decide +kernel, by decide +kernel⟩
theorem ok__law_pick (B : Bt mg) (F : Fn K mg d_law_pick) (D1 : Df P w K mg base CX0 1 "_law_draw" ["stream", "many"] spDraw) : Df P w K mg base CX0 2 "_law_pick" ["stream", "things"] spPick := by
  obtain ⟨f, fd, hm, F⟩ := F
  refine ⟨f, fd, hm, F.kp, F.bindsN fun _ _ _ _ _ _ us hl => match us, hl with | [_, _], _ => rfl, ?_⟩
  refine F.ok sc__law_pick (fun vs H Q E h => by obtain ⟨w, n, N, v, d, rfl, _⟩ := h; rfl) (fun cdv A outer s H vs Q E hr h => ?_)
  obtain ⟨wa, n, N, v, d, rfl, oN, hw, hn, rd, hL, h0, hl, q⟩ := h
  refine ⟨_, PSs.nox (pss_one (ps_ret (pe_ix (ix_N N) (pv 1) (pe_df D1 hr pass0 (pa_cons (pv 0) (pa_cons (pe_callB call_lenS (by rfl) B.len (by decide +kernel) (pa_cons (pv 1) pa_nil)) pa_nil))) (fun _ _ => rfl)))), ?_⟩
  have hl1 : 1 ≤ (its d).length := by
    cases e : its d with
    | nil => exact absurd e h0
    | cons _ _ => simp
  have hlim : lim = 4000 := rfl
  refine ⟨_, rfl, _, rfl, _, rfl, v, d, rfl, rd.all, hL, ?_⟩
  refine ⟨wa, (its d).length, n, rfl, hl1, by omega, hw, hn, fun k H' hk g hw' => ?_⟩
  have e1 : (its d)[k]? = some (its d)[k] := List.getElem?_eq_getElem hk
  exact ⟨d, k, _, rd.gn oN hw g, hL, rfl, e1, fun u ru => q _ (List.getElem_mem hk) u H' g hw' ru⟩
theorem sc__law_mixed : FnScope ["stream", "things", "left", "found", "k"] ["stream", "things"] (defScope s_law_mixed) := ⟨rfl, rfl, rfl, by decide +kernel, rfl, by decide +kernel, by decide +kernel⟩
theorem ok__law_mixed (B : Bt mg) (F : Fn K mg d_law_mixed) (D1 : Df P w K mg base CX0 1 "_law_draw" ["stream", "many"] spDraw) : Df P w K mg base CX0 2 "_law_mixed" ["stream", "things"] spMixed := by
  obtain ⟨f, fd, hm, F⟩ := F
  refine ⟨f, fd, hm, F.kp, F.bindsN fun _ _ _ _ _ _ us hl => match us, hl with | [_, _], _ => rfl, ?_⟩
  refine F.ok sc__law_mixed (fun vs H Q E h => by obtain ⟨w, n, N, v, d, rfl, _⟩ := h; rfl) (fun cdv A outer s H vs Q E hr h => ?_)
  obtain ⟨wa, n, N, v, d, rfl, oN, hw, hn, rd, hL, hl, q⟩ := h
  refine ⟨_, PSs.nox (pss_cons (ps_par (i := 2) (j := 3) (by rfl) sc__law_mixed.nd rfl rfl (by decide) rfl rfl (pa_cons (pe_callTy (call_listN N) (by rfl) B.list (by decide +kernel) (pa_cons (pv 1) pa_nil)) (pa_cons (pe_lst pa_nil) pa_nil)) (by first | rfl | kernel_rfl))
      (pss_cons (ps_for PassesOwn.never rfl (pi_range1 rfl B.range (pa_cons (pe_callB call_lenS (by rfl) B.len (by decide +kernel) (pa_cons (pv 2) pa_nil)) pa_nil)) (pg_name (i := 4) sc__law_mixed.nd rfl (by first | exact Or.inl rfl | exact Or.inr rfl)) (pss_one (ps_expr (pe_bm PySem.F.plainAttrs_list PySem.F.slot_list_append PySem.F.type_list_append mt_append (pv 3) (pa_cons (pe_bmB (K1 := K) rfl PySem.F.plainAttrs_list PySem.F.slot_list_pop PySem.F.type_list_pop mt_popAt (pv 2) (pa_cons (pe_df D1 hr pass0 (pa_cons (pv 0) (pa_cons (pe_callB call_lenS (by rfl) B.len (by decide +kernel) (pa_cons (pv 2) pa_nil)) pa_nil))) pa_nil)) pa_nil)))))
      (pss_one (ps_ret (pv 3))))), ?_⟩
  have hlim : lim = 4000 := rfl
  refine ⟨_, rfl, v, d, rfl, rd, hL, fun l zs nl rz => ?_⟩
  have nlw : l ≠ wa := hw.ne nl
  have lz := rz.length
  have rz1 := rz.live
  have e0 : upd H l (.lst zs) l = some (.lst zs) := upd_same
  have hsl : 4000 < sizeLine := by rw [sizeLine_eq]; decide
  refine ⟨(by show 0 ≤ sizeLine; decide), fun D nD => ?_⟩
  refine ⟨_, _, rfl, ?_⟩
  have nDl : D ≠ l := (ne_of_none e0 nD).symm
  have nD0 : H D = none := by
    rw [upd_ne nDl] at nD
    exact nD
  have nDw : D ≠ wa := hw.ne nD0
  have off : ∀ a, (N a ∧ H a ≠ none) → a ≠ wa ∧ a ≠ l ∧ a ≠ D := fun a h => ⟨oN a h.1, fun z => h.2 (by rw [z]; exact nl), fun z => h.2 (by rw [z]; exact nD0)⟩
  have off1 : Off wa (fun a => N a ∧ H a ≠ none) := fun a h => (off a h).1
  have s0 : Sm H (upd (upd H l (.lst zs)) D (.lst [])) := (Sm.new nl).trans (Sm.new nD)
  have el0 : upd (upd H l (.lst zs)) D (.lst []) l = some (.lst zs) := by
    rw [upd_ne nDl.symm]
    exact upd_same
  refine ⟨_, rfl, .ref l, .list (its d), rfl, .lst trivial el0 (rz.sm s0).all, rfl, ?_⟩
  refine ⟨_, rfl, by omega, by simp [its] at *; omega, ?_⟩
  rw [Int.toNat_natCast]
  refine for_range (n := (its (.list (its d))).length) (fun j σ2 H2 => ∃ x4, σ2 = [some (.ref wa), some v, some (.ref l), some (.ref D), x4] ∧ Gw wa H H2 ∧ Wl H2 wa (n + j) ∧ ∃ zs ds ys es, H2 l = some (.lst zs) ∧ zs.length + j = (its d).length ∧ DrA (fun a => N a ∧ H a ≠ none) H2 zs ds ∧ H2 D = some (.lst ys) ∧ ys.length = j ∧ DrA (fun a => N a ∧ H a ≠ none) H2 ys es ∧ (es ++ ds).Perm (its d)) ?_ ?_ ?_
  · exact ⟨_, rfl, Gw.of s0, hw.sm s0, zs, its d, [], [], el0, lz, rz1.sm s0, upd_same, rfl, .nil, List.Perm.refl _⟩
  · rintro j σ2 H2 hj ⟨x4, rfl, g, hw2, zs2, ds2, ys, es, el, hlz, rz2, eD, hly, ry, pm⟩
    have hj' : j < (its d).length := hj
    have lz2 := rz2.length
    refine ⟨_, rfl, .inl ⟨rfl, _, SqL.of eD⟩, _, rfl, .inl ⟨rfl, _, SqL.of el⟩, _, rfl, _, rfl, .ref l, .list ds2, rfl, .lst trivial el rz2.all, rfl, wa, ds2.length, n + j, rfl, by omega, by omega, hw2, by omega, fun k H3 hk g3 hw3 => ?_⟩
    have el3 := g3 l _ nlw el
    have eD3 := g3 D _ nDw eD
    have hk2 : k < zs2.length := by omega
    have ey : zs2[k]? = some zs2[k] := List.getElem?_eq_getElem hk2
    obtain ⟨dk, edk, rk⟩ := (rz2.gn off1 hw2 g3).get ey
    refine ⟨l, zs2, (k : Int), k, zs2[k], rfl, rfl, el3, by omega, by omega, (ixN_seq (ixN_nat hk2)).1, ey, ?_⟩
    refine ⟨D, ys, zs2[k], rfl, rfl, by rw [upd_ne nDl]; exact eD3, by omega, ?_⟩
    have st1 : Stays (fun a => N a ∧ H a ≠ none) H3 (upd H3 l (.lst (zs2.eraseIdx k))) := stays_upd (fun b h => (off b h).2.1) (fun xs z => by rw [el3] at z; cases z)
    have st2 : Stays (fun a => N a ∧ H a ≠ none) (upd H3 l (.lst (zs2.eraseIdx k))) (upd (upd H3 l (.lst (zs2.eraseIdx k))) D (.lst (ys ++ [zs2[k]]))) := stays_upd (fun b h => (off b h).2.2) (fun xs z => by rw [upd_ne nDl, eD3] at z; cases z)
    have up : ∀ {us : List V} {fs : List PyData}, DrA (fun a => N a ∧ H a ≠ none) H3 us fs → DrA (fun a => N a ∧ H a ≠ none) (upd (upd H3 l (.lst (zs2.eraseIdx k))) D (.lst (ys ++ [zs2[k]]))) us fs := fun r => (r.mono (fun _ z => z) st1).mono (fun _ z => z) st2
    refine ⟨_, rfl, fun b o hb e => ?_, ?_, zs2.eraseIdx k, ds2.eraseIdx k, ys ++ [zs2[k]], es ++ [dk], ?_, ?_, ?_, upd_same, ?_, ?_, ?_⟩
    · rw [upd_ne (ne_of_none e nD0), upd_ne (ne_of_none e nl)]
      exact g3 b o hb (g b o hb e)
    · obtain ⟨a, b, c, e', r'⟩ := hw3
      exact ⟨a, b, c, by rw [upd_ne nDw.symm, upd_ne nlw.symm]; exact e', r'⟩
    · rw [upd_ne nDl.symm]
      exact upd_same
    · rw [List.length_eraseIdx_of_lt hk2]
      omega
    · exact up ((rz2.gn off1 hw2 g3).eraseIdx k)
    · rw [List.length_append, hly]
      rfl
    · exact up ((ry.gn off1 hw2 g3).append (.one rk))
    · have hk3 : k < ds2.length := hk
      have e5 : dk = ds2[k] := by
        rw [List.getElem?_eq_getElem hk3] at edk
        exact (Option.some.inj edk).symm
      have p1 : (dk :: ds2.eraseIdx k).Perm ds2 := by
        rw [e5]
        exact erase_perm ds2 k hk3
      rw [List.append_assoc]
      exact (List.Perm.append_left es p1).trans pm
  · rintro σ2 H2 ⟨x4, rfl, g, hw2, zs2, ds2, ys, es, el, hlz, rz2, eD, hly, ry, pm⟩
    have e6 : ds2 = [] := by
      have := rz2.length
      have e : (its (.list (its d))).length = (its d).length := rfl
      exact List.length_eq_zero_iff.mp (by omega)
    subst e6
    rw [List.append_nil] at pm
    exact ⟨_, rfl, q D ys es H2 nD0 pm g hw2 eD (ry.wide fun _ z => z.1)⟩
end
end K8

/-! worth_why. -/
namespace K8
open PySem PySem.Spec PyProof.Rows L2 WR
/-- R's rows up to the n-th: ahead of nothing, right in kind, worths of their kind -/
structure Mw (R : List Row) (ms : List Wt) : Prop where
  ahd : Ahd R (ms.length + 1)
  ok : (rowAt R ms.length).ok
  kinds : ∀ k, k < ms.length → (wAt ms k).isB = (rowAt R k).isAsked
  parts : ∀ k ∈ (rowAt R ms.length).parts, (rowAt R k).isAsked = false
  tests : ∀ c i j, rowAt R ms.length = .either c i j → (rowAt R c).isAsked = true
theorem Mw.nm {R : List Row} {ms : List Wt} (M : Mw R ms) (hk : (rowAt R ms.length).keyed = true) : KT.nm (key (rowAt R ms.length) ms) := by
  intro x hx
  obtain ⟨k, hk', rfl⟩ := List.mem_map.mp hx
  rw [M.kinds k (M.ahd _ (by omega) k hk')]
  refine M.parts k ?_
  cases e : rowAt R ms.length with
  | made n ks => rw [e] at hk'; exact hk'
  | asked n ks => rw [e] at hk'; exact hk'
  | _ => rw [e] at hk; cases hk
/-- a list or a tuple whose first items are these worths -/
structure Mf (N : Addr → Prop) (H : Hp) (v : V) (ms : List Wt) : Prop where
  ex : ∃ d, Dr N H v d ∧ isL d = true ∧ ∀ k, k < ms.length → (its d)[k]? = some (wAt ms k).d
theorem Mf.mn {N : Addr → Prop} {H : Hp} {v : V} {ms : List Wt} {ks : List Nat} (h : Mf N H v ms) (hk : ∀ k ∈ ks, k < ms.length) : Mn N H v ks ms := by
  obtain ⟨d, h1, h2, h3⟩ := h
  exact ⟨d, h1, h2, fun k hk' => h3 k (hk k hk')⟩
theorem Mf.sm {N : Addr → Prop} {H H' : Hp} {v : V} {ms : List Wt} (h : Mf N H v ms) (s : Sm H H') : Mf N H' v ms := by
  obtain ⟨d, h1, h2, h3⟩ := h
  exact ⟨d, h1.sm s, h2, h3⟩
theorem Wt.dr_v {N : Addr → Prop} {H : Hp} {y : Wt} {x : V} (r : Dr N H x y.d) : x = y.v := by
  cases y with
  | b z => cases r; rfl
  | n k => cases r; rfl
theorem Wt.v_dr {N : Addr → Prop} {H : Hp} (y : Wt) : Dr N H y.v y.d := by
  cases y with
  | b z => exact .bl z
  | n k => exact .int _
theorem Wt.dec_v (y z : Wt) : decide (y.v = z.v) = decide (y = z) := by
  cases y <;> cases z <;> simp [Wt.v] <;> omega
theorem Wt.scal_v {y z : Wt} (h : y.isB = z.isB) : scal y.v z.v = true := by
  cases y <;> cases z <;> first | rfl | cases h
theorem wtOf_isSome (r : Row) (e : PyData) : (wtOf r e).isSome = if r.isAsked = true then isB e else isNum e := by
  unfold wtOf
  by_cases h : r.isAsked = true
  · rw [if_pos h, if_pos h]
    cases e <;> rfl
  · rw [if_neg h, if_neg h]
    cases e with
    | int i =>
      show (if 0 ≤ i then some (Wt.n i.toNat) else none).isSome = decide (0 ≤ i)
      by_cases hi : 0 ≤ i
      · rw [if_pos hi, decide_eq_true hi]; rfl
      · rw [if_neg hi, decide_eq_false hi]; rfl
    | _ => rfl
abbrev spWorthWhy (P : Program) (w : World) : Sp := fun vs H Q _ => ∃ (v x u : V) (dd : Addr) (R : List Row) (ms : List Wt) (e : PyData) (xs : List Ent), vs = [v, x, u, .ref dd] ∧ Dr All H v (rowAt R ms.length).d ∧ Dr All H x e ∧ Mf All H u ms ∧ Mw R ms ∧ ms.length ≤ lim ∧
  RD P w H dd xs ∧ Kn R ms xs ∧
  (∀ s H', worthWhy R ms (rowAt R ms.length) e = some s → Sm H H' → Q (.str s) H') ∧
  (∀ y xs' H', worthWhy R ms (rowAt R ms.length) e = none → wtOf (rowAt R ms.length) e = some y → Gw dd H H' → RD P w H' dd xs' → Kn R (ms ++ [y]) xs' → Q .non H')
section
variable {P : Program} {w : World} {K : PySem.W.Frag} {mg : Str → Option Value} {base : Heap}
theorem sc_worth_why : FnScope ["row", "worth", "meaning", "asked_for", "is_right"] ["row", "worth", "meaning", "asked_for"] (defScope sworth_why) := ⟨rfl, rfl, rfl, by decide +kernel, rfl, by decide +kernel, by decide +kernel⟩
theorem ok_worth_why (B : Bt mg) (F : Fn K mg dworth_why) (D1 : Df P w K mg base CX0 1 "is_number" ["thing"] (spP 1 (fun _ => True) fun ds => .bool (isNum (ds.headD .none)))) (D2 : Df P w K mg base CX0 1 "side_of" ["row", "meaning"] spSide) (D3 : Df P w K mg base CX0 1 "key_of" ["row", "meaning"] spKey) :
    Df P w K mg base CX0 2 "worth_why" ["row", "worth", "meaning", "asked_for"] (spWorthWhy P w) := by
  obtain ⟨f, fd, hm, F⟩ := F
  refine ⟨f, fd, hm, F.kp, F.bindsN fun _ _ _ _ _ _ us hl => match us, hl with | [_, _, _, _], _ => rfl, ?_⟩
  refine F.ok sc_worth_why (fun vs H Q E h => by obtain ⟨v, x, u, dd, R, ms, e, xs, rfl, _⟩ := h; rfl) (fun cdv A outer s H vs Q E hr h => ?_)
  obtain ⟨v, x, u, dd, R, ms, e, xs, rfl, rr, rx, mf, M, hl, rd, kn, q1, q2⟩ := h
  have hu := hr.units
  refine ⟨_, PSs.nox (C8.pss_cut (ps_set (i := 4) sc_worth_why.nd rfl (by first | exact Or.inl rfl | exact Or.inr rfl) (pe_ifExp (pt_cmpR op_eq (pe_ix ix_D (pv 0) pe_int (fun _ _ => rfl)) pe_str (nomark _)) (pe_callB (call_isD kit_bool) (by rfl) B.isinstance (by decide +kernel) (pa_cons (pv 1) (pa_cons (pe_ty "bool" B.bool (by decide +kernel)) pa_nil))) (pe_df D1 hr pass0 (pa_cons (pv 1) pa_nil))))
      (pss_cons (ps_if (pt_not (pt_val (pv 4))) (pss_one (ps_ret pe_str)) pss_nil)
      (pss_cons (ps_if (pt_cmpR op_eq (pe_ix ix_D (pv 0) pe_int (fun _ _ => rfl)) pe_str (nomark _)) (pss_one (ps_ret (pe_ifExp (pt_cmpR op_eq (pv 1) (pe_ix ix_D (pv 2) (pe_df D2 hr pass0 (pa_cons (pv 0) (pa_cons (pv 2) pa_nil))) (fun _ _ => rfl)) (nomark _)) pe_non pe_str))) pss_nil)
      (pss_cons (ps_if (pt_cmpR op_ne (pe_ix ix_D (pv 0) pe_int (fun _ _ => rfl)) pe_str (nomark _)) (pss_one (ps_if (pt_cmpR op_ne (pe_sdRD hu (pv 3) (pe_df D3 hr pass0 (pa_cons (pv 0) (pa_cons (pv 2) pa_nil))) (pv 1) ⟨rfl, rfl, rfl, rfl⟩) (pv 1) (nomark _)) (pss_one (ps_ret pe_str)) pss_nil)) pss_nil)
      (pss_one (ps_ret pe_non)))))), ?_⟩
  generalize hr0 : rowAt R ms.length = r at *
  refine ⟨fun σ1 H1 => σ1 = [some v, some x, some u, some (.ref dd), some (.bl (wtOf r e).isSome)] ∧ Sm H H1, ?_, ?_⟩
  · refine ⟨_, rfl, _, 0, _, rr, Row.seqD _, rfl, Row.word_at _, fun x0 r0 => ?_⟩
    cases r0.str_inv
    refine ⟨rfl, _, rfl, ?_⟩
    rw [Row.askedP]
    refine ite2 (fun ha => ?_) (fun ha => ?_)
    · refine ⟨_, rfl, x, e, rfl, rx, ?_⟩
      have : isB e = (wtOf r e).isSome := by rw [wtOf_isSome, if_pos ha]
      rw [this]
      exact ⟨rfl, Sm.rfl'⟩
    · refine ⟨_, rfl, spP1_of rx trivial fun y H1 s1 r1 => ?_⟩
      cases r1.bl_inv
      have : isNum ([e].headD .none) = (wtOf r e).isSome := by rw [wtOf_isSome, if_neg ha]; rfl
      rw [this]
      exact ⟨rfl, s1⟩
  rintro σ1 H1 ⟨rfl, s1⟩
  have rr1 := rr.sm s1
  have rx1 := rx.sm s1
  have mf1 := mf.sm s1
  have rd1 := RD.sm s1 rd
  refine ⟨_, rfl, _, rfl, ?_⟩
  cases hw : wtOf r e with
  | none =>
    refine iteT ?_
    exact q1 "form" H1 (by unfold worthWhy; rw [hw]) s1
  | some y =>
    refine iteF ?_
    obtain ⟨rfl, hy⟩ := wtOf_d hw
    have ex := Wt.dr_v rx1
    subst ex
    refine ⟨_, rfl, _, 0, _, rr1, Row.seqD _, rfl, Row.word_at _, fun x0 r0 => ?_⟩
    cases r0.str_inv
    refine ⟨rfl, _, rfl, ?_⟩
    rw [Row.eitherW]
    have ahd' := M.ahd ms.length (by omega)
    rw [hr0] at ahd'
    cases he : r.isEither with
    | true =>
      refine iteT ?_
      obtain ⟨c, i, j, rfl⟩ : ∃ c i j, r = .either c i j := by
        cases r with
        | either c i j => exact ⟨_, _, _, rfl⟩
        | _ => cases he
      have hc : c < ms.length := ahd' c (by simp [Row.named])
      obtain ⟨xb, hxb⟩ : ∃ xb, wAt ms c = .b xb := by
        have := M.kinds c hc
        rw [M.tests c i j hr0] at this
        cases z : wAt ms c with
        | b xb => exact ⟨xb, rfl⟩
        | n k => rw [z] at this; cases this
      have hside : side (.either c i j) ms < ms.length ∧ side (.either c i j) ms ∈ (Row.either c i j).parts := by
        unfold side
        dsimp only
        split
        · exact ⟨ahd' i (by simp [Row.named]), by simp [Row.parts]⟩
        · exact ⟨ahd' j (by simp [Row.named]), by simp [Row.parts]⟩
      obtain ⟨d2, rd2, hL2, al2⟩ := mf1.ex
      have kind : y.isB = (wAt ms (side (.either c i j) ms)).isB := by
        rw [M.kinds _ hside.1, M.parts _ (by rw [hr0]; exact hside.2), hy]
        rfl
      have whyE : worthWhy R ms (.either c i j) y.d = (if y = wAt ms (side (.either c i j) ms) then none else some ("side" : Str) : Option Str) := by
        unfold worthWhy
        rw [hw]
        dsimp only
        rw [if_pos he]
      refine ⟨_, rfl, _, rfl, _, rfl, _, rfl, v, u, c, i, j, ms, xb, rfl, rr1, mf1.mn (fun k hk => by rw [List.mem_singleton.mp hk]; exact hc), hxb, ?_⟩
      refine ⟨d2, _, _, rd2, hL2, rfl, al2 _ hside.1, fun z rz => ?_⟩
      cases Wt.dr_v rz
      refine ⟨Wt.scal_v kind, _, rfl, ?_⟩
      rw [Wt.dec_v]
      by_cases hq : y = wAt ms (side (.either c i j) ms)
      · rw [decide_eq_true hq]
        rw [if_pos hq] at whyE
        refine iteT ?_
        refine q2 y xs H1 whyE hw (Gw.of s1) rd1 (kn.old M.ahd ?_)
        rw [hr0]
        exact fun z => nomatch z
      · rw [decide_eq_false hq]
        rw [if_neg hq] at whyE
        exact iteF (q1 "side" H1 whyE s1)
    | false =>
      refine iteF ?_
      refine ⟨_, rfl, _, 0, _, rr1, Row.seqD _, rfl, Row.word_at _, fun x0 r0 => ?_⟩
      cases r0.str_inv
      refine ⟨rfl, _, rfl, ?_⟩
      rw [Row.givenP, he, Bool.false_or]
      cases hk : r.keyed with
      | false =>
        refine iteF ?_
        refine q2 y xs H1 ?_ hw (Gw.of s1) rd1 (kn.old M.ahd ?_)
        · unfold worthWhy
          rw [hw]
          dsimp only
          rw [if_neg (by rw [he]; exact Bool.false_ne_true), if_neg (by rw [hk]; exact Bool.false_ne_true)]
        · rw [hr0, hk]
          exact fun z => nomatch z
      | true =>
        refine iteT ?_
        have nm : KT.nm (key r ms) := by
          have := M.nm (by rw [hr0]; exact hk)
          rwa [hr0] at this
        have hlen : r.named.length ≤ lim := by
          have := M.ok
          rw [hr0] at this
          cases r with
          | made n ks => exact this.2
          | asked n ks => exact this.2
          | _ => cases hk
        have whyK : worthWhy R ms r y.d = (match firstLike R ms r with
            | some k => if wAt ms k = y then none else some "like"
            | none => none) := by
          unfold worthWhy
          rw [hw]
          dsimp only
          rw [if_neg (by rw [he]; exact Bool.false_ne_true), if_pos hk]
          try rfl
        refine ⟨_, rfl, dd, rfl, ⟨xs, rd1⟩, _, rfl, _, rfl, v, u, r, ms, rfl, rr1, hk, hlen, mf1.mn ahd', fun ka H2 s2 rk => ?_⟩
        have hll := kn.len
        have hsl := lim_lt
        refine ⟨_, rfl, ka, keyD r ms, xs, rfl, rk, kD_kd (key r ms), RD.sm s2 rd1, by omega, fun z hz => ?_, fun hz => ?_⟩
        · rw [keyD_eq, kn.look _ nm] at hz
          cases hf : kfind R ms (key r ms) with
          | none => rw [hf] at hz; cases hz
          | some k =>
            rw [hf] at hz
            cases hz
            have hf' : firstLike R ms r = some k := hf
            rw [hf'] at whyK
            dsimp only at whyK
            obtain ⟨k1, k2, k3⟩ := kfind_lt hf
            have kind : (wAt ms k).isB = y.isB := by
              have hw1 : (rowAt R k).word = r.word := congrArg (·.1) k3
              rw [M.kinds k k1, hy, ← Row.askedP, hw1, Row.askedP]
            refine ⟨_, rfl, Wt.scal_v kind, _, rfl, ?_⟩
            rw [Wt.dec_v]
            by_cases hq : wAt ms k = y
            · rw [decide_eq_true hq]
              rw [if_pos hq] at whyK
              refine iteF (q2 y xs H2 whyK hw (Gw.of (s1.trans s2)) (RD.sm s2 rd1) (kn.old M.ahd fun _ => ?_))
              rw [hr0, hf']
              exact fun z => nomatch z
            · rw [decide_eq_false hq]
              rw [if_neg hq] at whyK
              exact iteT (q1 "like" H2 whyK (s1.trans s2))
        · rw [keyD_eq, kn.look _ nm] at hz
          have hf : firstLike R ms r = none := by
            cases hf : kfind R ms (key r ms) with
            | none => exact hf
            | some k => rw [hf] at hz; cases hz
          rw [hf] at whyK
          dsimp only at whyK
          refine ⟨_, rfl, Wt.scal_v rfl, _, rfl, ?_⟩
          rw [Wt.dec_v, decide_eq_true rfl]
          have kn' := kn.put (x := y) (a := ka) M.ahd (by rw [hr0]; exact hk) (by rw [hr0]; exact nm) (by rw [hr0]; exact hf)
          rw [hr0] at kn'
          refine iteF (q2 y _ _ whyK hw (fun b o hb e => ?_) ?_ kn')
          · rw [upd_ne hb]
            exact s2 _ _ (s1 _ _ e)
          · exact (RD.sm s2 rd1).put (kD_kd (key r ms)) rk
end
end K8

namespace K8
open PySem PySem.Spec PyProof.Rows L2 WR LiI RZ
mutual
/-- no deeper than n, no dict but {} -/
def fit : PyData → Nat → Bool
  | .list xs, n => decide (1 ≤ n) && decide (xs.length ≤ lim) && fitA xs (n - 1)
  | .tuple xs, n => decide (1 ≤ n) && decide (xs.length ≤ lim) && fitA xs (n - 1)
  | .dict ps, n => decide (2 ≤ n) && ps.isEmpty
  | .str x, _ => decide (x.length ≤ lim)
  | .int i, _ => decide (i.natAbs.log2 < 1000)
  | .bool _, _ => true
  | .none, _ => true
def fitA : List PyData → Nat → Bool
  | [], _ => true
  | d :: ds, n => fit d n && fitA ds n
end
theorem fitA_at : ∀ {ds : List PyData} {n i : Nat} {d : PyData}, fitA ds n = true → ds[i]? = some d → fit d n = true
  | [], n, i, d, _, e => by simp at e
  | x :: xs, n, 0, d, h, e => by
    simp only [fitA, Bool.and_eq_true] at h
    simp at e
    rw [← e]
    exact h.1
  | x :: xs, n, i + 1, d, h, e => by
    simp only [fitA, Bool.and_eq_true] at h
    exact fitA_at h.2 (by simpa using e)
theorem Df.off {P : Program} {w : World} {K : PySem.W.Frag} {mg : Str → Option Value} {base : Heap} {CX : CXT} {d : He.DefD} {ps : List Str} (F : Fn K mg d)
    (hb : ∀ f fd, FunD K d.name d.qual d.params d.body d.scope [] [] f fd → Binds K fd ps []) : Df P w K mg base CX 0 d.name ps (fun _ _ _ _ => False) := by
  obtain ⟨f, fd, hm, F⟩ := F
  exact ⟨f, fd, hm, F.kp, hb f fd F, ⟨fun _ _ _ _ z => z.elim, fun _ _ _ _ _ _ _ _ _ _ _ _ _ z => z.elim⟩⟩
section
variable {X : Cx}
def rIsD3 (c1 c2 c3 : String) (f : PyData → Bool) : List V → Hp → VK → Prop := fun xs H Q => ∃ x t d, xs = [x, .ref t] ∧ H t = some (.tup [.ty c1, .ty c2, .ty c3]) ∧ Dr All H x d ∧ Q (.bl (f d)) H
theorem call_isD3 {c1 c2 c3 : String} {f1 f2 f3 f : PyData → Bool} (h1 : ∀ d, kitB (tyD d) c1 = some (f1 d)) (h2 : ∀ d, kitB (tyD d) c2 = some (f2 d)) (h3 : ∀ d, kitB (tyD d) c3 = some (f3 d)) (hf : ∀ d, (f1 d || (f2 d || f3 d)) = f d) : CallR X (.builtin "isinstance") (rIsD3 c1 c2 c3 f) := by
  intro pins s σ H xs us Q I r h
  obtain ⟨x, t, d, rfl, ht, hd, q⟩ := h
  have k3 : PySem.W.kitAny X.K (.type (tyD d)) [.type c1, .type c2, .type c3] = some (f1 d || (f2 d || f3 d)) := by
    refine kitAny_cons (kit_ty (h1 d)) (fun e => ?_) (fun e => by rw [e]; rfl)
    rw [e, Bool.false_or]
    exact kit_any2 (h2 d) (h3 d)
  refine call_isiT pins s σ H _ us Q I r ⟨x, t, [.ty c1, .ty c2, .ty c3], _, [.type c1, .type c2, .type c3], _, rfl, ht, .cons (.ty c1) (.cons (.ty c2) (.cons (.ty c3) .nil)), hd.ty, k3, ?_⟩
  rw [hf d]
  exact q
end
def isDL : PyData → Bool
  | .list _ => true
  | .tuple _ => true
  | .dict _ => true
  | _ => false
theorem isDL_or (d : PyData) : (isD d || (isLst d || isTup d)) = isDL d := by cases d <;> rfl
/-- J walks two of the same data side by side -/
structure ZWalk (J : It) (H1 : Hp) (ds : List PyData) : Prop where
  go : ∀ H i, Sm H1 H → i < ds.length → J.go i H
  yld : ∀ H i x H', Sm H1 H → i < ds.length → J.yld i H x H' → ∃ T a b d, x = .ref T ∧ H T = none ∧ H' = upd H T (.tup [a, b]) ∧ ds[i]? = some d ∧ Dr All H a d ∧ Dr All H b d
  stop : ∀ H, Sm H1 H → J.stop ds.length H
theorem ZWalk.lists {K : PySem.W.Frag} {H1 : Hp} {a b : Addr} {xs ys : List V} {ds : List PyData} (ea : H1 a = some (.lst xs)) (eb : H1 b = some (.lst ys)) (ra : DrA All H1 xs ds) (rb : DrA All H1 ys ds) : ZWalk (Itz K a b) H1 ds := by
  have la := ra.length
  have lb := rb.length
  refine ⟨fun H i s hi => ⟨xs, ys, _, _, SqL.of (s _ _ ea), SqL.of (s _ _ eb), List.getElem?_eq_getElem (by omega), List.getElem?_eq_getElem (by omega)⟩, ?_, fun H s => ⟨xs, ys, SqL.of (s _ _ ea), SqL.of (s _ _ eb), .inl (by omega)⟩⟩
  rintro H i v H' s hi ⟨T, x, y, rfl, nT, rfl, hx, hy⟩
  obtain ⟨d, e1, r1⟩ := (ra.sm s).get (hx xs (SqL.of (s _ _ ea)))
  obtain ⟨d', e2, r2⟩ := (rb.sm s).get (hy ys (SqL.of (s _ _ eb)))
  rw [e1] at e2
  cases e2
  exact ⟨T, x, y, d, rfl, nT, rfl, e1, r1, r2⟩
theorem ZWalk.tups {K : PySem.W.Frag} {H1 : Hp} {a b : Addr} {xs ys : List V} {ds : List PyData} (ea : H1 a = some (.tup xs)) (eb : H1 b = some (.tup ys)) (ra : DrA All H1 xs ds) (rb : DrA All H1 ys ds) : ZWalk (ItzT K a b) H1 ds := by
  have la := ra.length
  have lb := rb.length
  refine ⟨fun H i s hi => ⟨xs, ys, _, _, SqT.of (s _ _ ea), SqT.of (s _ _ eb), List.getElem?_eq_getElem (by omega), List.getElem?_eq_getElem (by omega)⟩, ?_, fun H s => ⟨xs, ys, SqT.of (s _ _ ea), SqT.of (s _ _ eb), .inl (by omega)⟩⟩
  rintro H i v H' s hi ⟨T, x, y, rfl, nT, rfl, hx, hy⟩
  obtain ⟨d, e1, r1⟩ := (ra.sm s).get (hx xs (SqT.of (s _ _ ea)))
  obtain ⟨d', e2, r2⟩ := (rb.sm s).get (hy ys (SqT.of (s _ _ eb)))
  rw [e1] at e2
  cases e2
  exact ⟨T, x, y, d, rfl, nT, rfl, e1, r1, r2⟩
theorem fit_its {d : PyData} {n : Nat} (h : fit d n = true) (hL : isL d = true) : 1 ≤ n ∧ (its d).length ≤ lim ∧ fitA (its d) (n - 1) = true := by
  cases d with
  | list xs =>
    simp only [fit, Bool.and_eq_true, decide_eq_true_eq] at h
    exact ⟨h.1.1, h.1.2, h.2⟩
  | tuple xs =>
    simp only [fit, Bool.and_eq_true, decide_eq_true_eq] at h
    exact ⟨h.1.1, h.1.2, h.2⟩
  | _ => cases hL
/-- two of the same data: True -/
def spSame : Nat → Sp
  | 0 => fun _ _ _ _ => False
  | n + 1 => fun vs H Q _ => ∃ (u v : V) (d : PyData), vs = [u, v] ∧ Dr All H u d ∧ Dr All H v d ∧ fit d n = true ∧ ∀ H', Sm H H' → Q (.bl true) H'
theorem same_comp {K : PySem.W.Frag} {J : It} {H1 : Hp} {D : Addr} {ds : List PyData} {m : Nat} {x1 x2 : V} {Qd : Hp → Prop} (Z : ZWalk J H1 ds) (nD : H1 D = none) (hlen : ds.length ≤ lim) (hf : fitA ds m = true) (hd : ∀ H, Sm H1 H → H D = some (.lst ((List.replicate ds.length true).map V.bl)) → Qd H) :
    ∃ W : Nat → Nat → Hp → Prop, (∃ m, W 0 m (upd H1 D (.lst []))) ∧ ∀ i m' H, W i m' H → (J.stop i H ∧ Qd H) ∨ (J.go i H ∧ ∃ Nx : Hp → Prop, (∀ H', Nx H' → ∃ m'', m'' < m' ∧ W (i + 1) m'' H') ∧ ∀ x H', J.yld i H x H' → (gTup K 2 (gCons (gName 2) (gCons (gName 3) gNil))) x (wipe [some x1, some x2, none, none] [2, 3]) H' fun σ2 H2 => wipe σ2 [2, 3] = wipe [some x1, some x2, none, none] [2, 3] ∧ tYes σ2 H2 fun b H3 =>
      if b = true then (tCall (spSame (m + 1)) [] E0 (tCons (tVar 2) (tCons (tVar 3) tNil))) σ2 H3 fun y H4 => ∃ acc, H4 D = some (.lst acc) ∧ acc.length < sizeLine ∧ Nx (upd H4 D (.lst (acc ++ [y]))) else Nx H3) := by
  refine lc_walk (n := ds.length) (fun j H2 => Sm H1 H2 ∧ H2 D = some (.lst ((List.replicate j true).map V.bl))) ⟨Sm.new nD, upd_same⟩ (fun j H2 hj h => Z.go _ _ h.1 hj) (fun H2 h => Z.stop _ h.1) ?_ fun H2 h => hd H2 h.1 h.2
  rintro j x H2 H' hj ⟨s, eD⟩ hy
  obtain ⟨T, a, b, d, rfl, nT, rfl, ed, ra, rb⟩ := Z.yld _ _ _ _ s hj hy
  refine ⟨T, _, rfl, SqT.of upd_same, rfl, _, _, rfl, _, _, rfl, rfl, rfl, ?_⟩
  dsimp only [tYes]
  rw [if_pos rfl]
  have sT : Sm H2 (upd H2 T (.tup [a, b])) := Sm.new nT
  refine ⟨_, rfl, _, rfl, a, b, d, rfl, ra.sm sT, rb.sm sT, fitA_at hf ed, fun H3 s3 => ⟨_, s3 _ _ (sT _ _ eD), ?_, ?_, ?_⟩⟩
  · simp
    have := lim_lt
    omega
  · exact fun c o e => by
      rw [upd_ne (ne_of_none e nD)]
      exact s3 _ _ (sT _ _ (s _ _ e))
  · rw [upd_same, List.replicate_succ', List.map_append]
    rfl
section
variable {P : Program} {w : World} {K : PySem.W.Frag} {mg : Str → Option Value} {base : Heap}
theorem sc__law_same : FnScope ["found", "due", "one", "other"] ["found", "due"] (defScope s_law_same) := ⟨rfl, rfl, rfl, by decide +kernel, rfl, by decide +kernel, by decide +kernel⟩
theorem ok__law_same (B : Bt mg) (F0 : Fn K mg d_law_same) : ∀ n, Df P w K mg base CX0 n "_law_same" ["found", "due"] (spSame n)
  | 0 => Df.off F0 fun f fd F => F.bindsN fun _ _ _ _ _ _ us hl => match us, hl with | [_, _], _ => rfl
  | n + 1 => by
    have D1 : Df P w K mg base CX0 n "_law_same" ["found", "due"] (spSame n) := ok__law_same B F0 n
    obtain ⟨f, fd, hm, F⟩ := F0
    refine ⟨f, fd, hm, F.kp, F.bindsN fun _ _ _ _ _ _ us hl => match us, hl with | [_, _], _ => rfl, ?_⟩
    refine F.ok sc__law_same (fun vs H Q E h => by obtain ⟨w, n, N, rfl, _⟩ := h; rfl) (fun cdv A outer s H vs Q E hr h => ?_)
    obtain ⟨u, v, d, rfl, ru, rv, hf, q⟩ := h
    refine ⟨_, PSs.nox (pss_cons (ps_if (pt_val (pe_callB (call_isD kit_dict) (by rfl) B.isinstance (by decide +kernel) (pa_cons (pv 1) (pa_cons (pe_ty "dict" B.dict (by decide +kernel)) pa_nil)))) (pss_one (ps_ret (pe_and (pe_callB (call_isD kit_dict) (by rfl) B.isinstance (by decide +kernel) (pa_cons (pv 0) (pa_cons (pe_ty "dict" B.dict (by decide +kernel)) pa_nil))) (pe_one (pe_df D1 hr pass0 (pa_cons (pe_listItems rfl (pv 0) (by rfl) B.list (by decide +kernel)) (pa_cons (pe_listItems rfl (pv 1) (by rfl) B.list (by decide +kernel)) pa_nil))))))) pss_nil)
      (pss_cons (ps_if (pt_val (pe_callB (call_isD2 kit_list kit_tuple isL_or) (by rfl) B.isinstance (by decide +kernel) (pa_cons (pv 1) (pa_cons (pe_tup (pa_cons (pe_ty "list" B.list (by decide +kernel)) (pa_cons (pe_ty "tuple" B.tuple (by decide +kernel)) pa_nil))) pa_nil)))) (pss_cons (ps_if (PW.pt (pw_or (pt_cmpR op_ne (pe_callB (call_isD kit_list) (by rfl) B.isinstance (by decide +kernel) (pa_cons (pv 0) (pa_cons (pe_ty "list" B.list (by decide +kernel)) pa_nil))) (pe_callB (call_isD kit_list) (by rfl) B.isinstance (by decide +kernel) (pa_cons (pv 1) (pa_cons (pe_ty "list" B.list (by decide +kernel)) pa_nil))) (nomark _)) (pw_or1 (pt_cmpR op_ne (pe_callB (call_isD kit_tuple) (by rfl) B.isinstance (by decide +kernel) (pa_cons (pv 0) (pa_cons (pe_ty "tuple" B.tuple (by decide +kernel)) pa_nil))) (pe_callB (call_isD kit_tuple) (by rfl) B.isinstance (by decide +kernel) (pa_cons (pv 1) (pa_cons (pe_ty "tuple" B.tuple (by decide +kernel)) pa_nil))) (nomark _))))) (pss_one (ps_ret pe_bl)) pss_nil)
      (pss_one (ps_ret (pe_and (pe_cmpR op_eq (pe_callB call_lenS (by rfl) B.len (by decide +kernel) (pa_cons (pv 0) pa_nil)) (pe_callB call_lenS (by rfl) B.len (by decide +kernel) (pa_cons (pv 1) pa_nil)) (nomark _)) (pe_one (pe_callB (cr_all rfl) (by rfl) B.all (by decide +kernel) (pa_cons (pe_lc (own := [("one", 2), ("other", 3)]) (g := gTup K 2 (gCons (gName 2) (gCons (gName 3) gNil))) (tt := tYes) rfl sc__law_same.nd (pi_zipA (by rfl) B.zip (pa_cons (pv 0) (pa_cons (pv 1) pa_nil))) (blkOk_by (own := [("one", 2), ("other", 3)]) (N := ["found", "due", "one", "other"]) (sc := defScope s_law_same) (by decide +kernel)) (fun _ _ _ _ _ => pg_tup rfl (pgs_cons (pg_name (i := 2) sc__law_same.nd rfl (by first | exact Or.inl rfl | exact Or.inr rfl)) (pgs_cons (pg_name (i := 3) sc__law_same.nd rfl (by first | exact Or.inl rfl | exact Or.inr rfl)) pgs_nil))) (fun _ _ _ _ _ => pts_nil) (fun _ _ _ _ _ => (pe_df D1 hr pass0 (pa_cons (pv 2) (pa_cons (pv 3) pa_nil))))) pa_nil))))))) pss_nil)
      (pss_cons (ps_if (PW.pt (pw_or (pt_val (pe_callB (call_isD3 kit_dict kit_list kit_tuple isDL_or) (by rfl) B.isinstance (by decide +kernel) (pa_cons (pv 0) (pa_cons (pe_tup (pa_cons (pe_ty "dict" B.dict (by decide +kernel)) (pa_cons (pe_ty "list" B.list (by decide +kernel)) (pa_cons (pe_ty "tuple" B.tuple (by decide +kernel)) pa_nil)))) pa_nil)))) (pw_or1 (pt_cmpR op_ne (pe_callB (call_isD kit_bool) (by rfl) B.isinstance (by decide +kernel) (pa_cons (pv 0) (pa_cons (pe_ty "bool" B.bool (by decide +kernel)) pa_nil))) (pe_callB (call_isD kit_bool) (by rfl) B.isinstance (by decide +kernel) (pa_cons (pv 1) (pa_cons (pe_ty "bool" B.bool (by decide +kernel)) pa_nil))) (nomark _))))) (pss_one (ps_ret pe_bl)) pss_nil)
      (pss_one (ps_ret (pe_cmpR op_eq (pv 0) (pv 1) (nomark _))))))), ?_⟩
    have sz2 : ([V.ty "list", V.ty "tuple"] : List V).length ≤ sizeLine := by show 2 ≤ sizeLine; decide
    have sz3 : ([V.ty "dict", V.ty "list", V.ty "tuple"] : List V).length ≤ sizeLine := by show 3 ≤ sizeLine; decide
    have neB : ∀ b : Bool, (!decide (V.bl b = V.bl b)) = false := fun b => by simp
    by_cases hD : isDL d = true
    · by_cases hd : isD d = true
      · -- a dict
        obtain ⟨ps, rfl⟩ : ∃ ps, d = .dict ps := by
          cases d with
          | dict ps => exact ⟨ps, rfl⟩
          | _ => cases hd
        simp only [fit, Bool.and_eq_true, decide_eq_true_eq, List.isEmpty_iff] at hf
        obtain ⟨h2, rfl⟩ := hf
        obtain ⟨m, rfl⟩ : ∃ m, n = m + 1 := ⟨n - 1, by omega⟩
        cases ru with
        | dct _ ea ka =>
        cases rv with
        | dct _ eb kb =>
        cases ka
        cases kb
        refine ⟨_, rfl, _, .dict [], rfl, .dct trivial eb .nil, _, rfl, iteT ⟨_, rfl, _, .dict [], rfl, .dct trivial ea .nil, _, rfl, iteT ?_⟩⟩
        refine ⟨_, rfl, _, [], rfl, ea, fun G1 p1 t1 s1 n1 _ _ e1 pr1 => ?_⟩
        cases pr1
        refine ⟨_, rfl, _, [], rfl, s1 _ _ eb, fun G2 p2 t2 s2 n2 _ _ e2 pr2 => ?_⟩
        cases pr2
        refine ⟨_, _, .list [], rfl, .lst trivial (s2 _ _ e1) .nil, .lst trivial e2 .nil, ?_, fun H' s3 => q H' (Sm.trans (Sm.trans s1 s2) s3)⟩
        simp only [fit, fitA, Bool.and_eq_true, decide_eq_true_eq]
        exact ⟨⟨by omega, by show 0 ≤ lim; decide⟩, trivial⟩
      · have hL : isL d = true := by
          cases d with
          | dict _ => exact absurd rfl hd
          | list _ => rfl
          | tuple _ => rfl
          | _ => cases hD
        refine ⟨_, rfl, v, d, rfl, rv, _, rfl, ite2 (fun z => absurd z hd) (fun _ => ?_)⟩
        refine ⟨_, rfl, sz2, fun p1 np1 => ⟨v, p1, d, rfl, upd_same, rv.sm (Sm.new np1), _, rfl, ite2 (fun _ => ?_) (fun z => absurd hL z)⟩⟩
        have ru1 := ru.sm (Sm.new (o := .tup [.ty "list", .ty "tuple"]) np1)
        have rv1 := rv.sm (Sm.new (o := .tup [.ty "list", .ty "tuple"]) np1)
        refine ⟨_, rfl, u, d, rfl, ru1, _, rfl, v, d, rfl, rv1, rfl, _, rfl, ?_⟩
        rw [neB]
        refine iteF ⟨_, rfl, u, d, rfl, ru1, _, rfl, v, d, rfl, rv1, rfl, _, rfl, ?_⟩
        rw [neB]
        refine iteF ?_
        obtain ⟨hn1, hlen, hfA⟩ := fit_its hf hL
        obtain ⟨m, rfl⟩ : ∃ m, n = m + 1 := ⟨n - 1, by omega⟩
        generalize hH1 : upd H p1 (.tup [V.ty "list", V.ty "tuple"]) = H1 at ru1 rv1
        have s1 : Sm H H1 := by
          rw [← hH1]
          exact Sm.new np1
        refine ⟨_, rfl, u, d, rfl, ru1, hL, _, rfl, v, d, rfl, rv1, hL, rfl, _, rfl, ite2 (fun _ => ?_) (fun z => absurd (decide_eq_true rfl) z)⟩
        have hall : (List.replicate (its d).length true).all id = true := by simp
        cases d with
        | list ds =>
          cases ru1 with
          | lst _ ea ra =>
          cases rv1 with
          | lst _ eb rb =>
          refine ⟨_, rfl, _, rfl, _, _, _, _, rfl, .inl ⟨SqL.of ea, SqL.of eb, fun D nD => same_comp (.lists ea eb ra rb) nD hlen hfA fun H2 s2 e2 => ?_⟩⟩
          refine ⟨D, List.replicate ds.length true, rfl, SqL.of e2, ?_⟩
          show Q (.bl ((List.replicate ds.length true).all id)) H2
          rw [show (List.replicate ds.length true).all id = true from hall]
          exact q H2 (s1.trans s2)
        | tuple ds =>
          cases ru1 with
          | tup ea ra =>
          cases rv1 with
          | tup eb rb =>
          refine ⟨_, rfl, _, rfl, _, _, _, _, rfl, .inr ⟨SqT.of ea, SqT.of eb, fun D nD => same_comp (.tups ea eb ra rb) nD hlen hfA fun H2 s2 e2 => ?_⟩⟩
          refine ⟨D, List.replicate ds.length true, rfl, SqL.of e2, ?_⟩
          show Q (.bl ((List.replicate ds.length true).all id)) H2
          rw [show (List.replicate ds.length true).all id = true from hall]
          exact q H2 (s1.trans s2)
        | _ => cases hL
    · have hd : ¬ isD d = true := fun z => hD (by cases d <;> first | rfl | cases z)
      have hl : ¬ isL d = true := fun z => hD (by cases d <;> first | rfl | cases z)
      have e : u = v ∧ scal u v = true := by
        cases d with
        | none =>
          cases ru
          cases rv
          exact ⟨rfl, rfl⟩
        | bool b =>
          cases ru
          cases rv
          exact ⟨rfl, rfl⟩
        | int i =>
          cases ru
          cases rv
          exact ⟨rfl, rfl⟩
        | str x =>
          cases ru
          cases rv
          exact ⟨rfl, rfl⟩
        | _ => exact absurd rfl hD
      obtain ⟨rfl, hs⟩ := e
      refine ⟨_, rfl, u, d, rfl, rv, _, rfl, ite2 (fun z => absurd z hd) (fun _ => ?_)⟩
      refine ⟨_, rfl, sz2, fun p1 np1 => ⟨u, p1, d, rfl, upd_same, rv.sm (Sm.new np1), _, rfl, ite2 (fun z => absurd z hl) (fun _ => ?_)⟩⟩
      refine ⟨_, rfl, sz3, fun p2 np2 => ⟨u, p2, d, rfl, upd_same, (rv.sm (Sm.new np1)).sm (Sm.new np2), _, rfl, ite2 (fun z => absurd z hD) (fun _ => ?_)⟩⟩
      have ru2 := (rv.sm (Sm.new (o := .tup [.ty "list", .ty "tuple"]) np1)).sm (Sm.new (o := .tup [.ty "dict", .ty "list", .ty "tuple"]) np2)
      refine ⟨_, rfl, u, d, rfl, ru2, _, rfl, u, d, rfl, ru2, rfl, _, rfl, ?_⟩
      rw [neB]
      refine iteF ⟨_, rfl, _, rfl, hs, ?_⟩
      have := q _ ((Sm.new (o := .tup [.ty "list", .ty "tuple"]) np1).trans (Sm.new (o := .tup [.ty "dict", .ty "list", .ty "tuple"]) np2))
      rw [decide_eq_true rfl]
      exact this
end
end K8

namespace K8
open PySem PySem.Spec PyProof.Rows L2 WR
/-- a short text of known signs -/
def okStr (x : Str) : Bool := decide (x.length ≤ 12) && x.cps.toList.all fun c => decide (c < 4294967296)
/-- a dict of one text and one number -/
def okOne : List (PyData × PyData) → Bool
  | [(.str x, .int i)] => okStr x && decide (i.natAbs.log2 < 100)
  | _ => false
/-- so long a list may be, n levels from it on -/
def capT (n : Nat) : Nat := if n ≤ 2 then 8 else 40
theorem cap_le (n : Nat) : capT n ≤ 40 := by
  unfold capT
  split <;> omega
theorem cap_ge (n : Nat) : 8 ≤ capT n := by
  unfold capT
  split <;> omega
theorem cap_mono {n m : Nat} (h : n ≤ m) : capT n ≤ capT m := by
  unfold capT
  split <;> split <;> omega
mutual
/-- no deeper than n, no longer than it may be -/
def tame (b : Bool) : PyData → Nat → Bool
  | .list xs, n => decide (1 ≤ n) && decide (xs.length ≤ capT n) && tameA b xs (n - 1)
  | .tuple xs, n => decide (1 ≤ n) && decide (xs.length ≤ capT n) && tameA b xs (n - 1)
  | .dict ps, n => decide (2 ≤ n) && (ps.isEmpty || (b && okOne ps))
  | .str x, _ => okStr x
  | .int i, _ => decide (i.natAbs.log2 < 100)
  | .bool _, _ => true
  | .none, _ => true
def tameA (b : Bool) : List PyData → Nat → Bool
  | [], _ => true
  | d :: ds, n => tame b d n && tameA b ds n
end
theorem tameA_at {b : Bool} : ∀ {ds : List PyData} {n i : Nat} {d : PyData}, tameA b ds n = true → ds[i]? = some d → tame b d n = true
  | [], n, i, d, _, e => by simp at e
  | x :: xs, n, 0, d, h, e => by
    simp only [tameA, Bool.and_eq_true] at h
    simp at e
    rw [← e]
    exact h.1
  | x :: xs, n, i + 1, d, h, e => by
    simp only [tameA, Bool.and_eq_true] at h
    exact tameA_at h.2 (by simpa using e)
theorem tame_its {b : Bool} {d : PyData} {n : Nat} (h : tame b d n = true) (hL : isL d = true) : 1 ≤ n ∧ (its d).length ≤ 40 ∧ tameA b (its d) (n - 1) = true := by
  cases d with
  | list xs =>
    simp only [tame, Bool.and_eq_true, decide_eq_true_eq] at h
    exact ⟨h.1.1, Nat.le_trans h.1.2 (cap_le n), h.2⟩
  | tuple xs =>
    simp only [tame, Bool.and_eq_true, decide_eq_true_eq] at h
    exact ⟨h.1.1, Nat.le_trans h.1.2 (cap_le n), h.2⟩
  | _ => cases hL
mutual
inductive Lo : PyData → PyData → Prop
  | same {d : PyData} : isDL d = false → Lo d d
  | dct {ps : List (PyData × PyData)} : Lo (.dict ps) (.dict ps)
  | ll {xs ys : List PyData} : LoA xs ys → Lo (.list xs) (.list ys)
  | lt {xs ys : List PyData} : LoA xs ys → Lo (.list xs) (.tuple ys)
  | tl {xs ys : List PyData} : LoA xs ys → Lo (.tuple xs) (.list ys)
  | tt {xs ys : List PyData} : LoA xs ys → Lo (.tuple xs) (.tuple ys)
inductive LoA : List PyData → List PyData → Prop
  | nil : LoA [] []
  | cons {d e : PyData} {ds es : List PyData} : Lo d e → LoA ds es → LoA (d :: ds) (e :: es)
end
theorem All2.lo : ∀ {ds es : List PyData}, All2 Lo ds es → LoA ds es
  | _, _, .nil => .nil
  | _, _, .cons a t => .cons a t.lo
theorem Lo.list {d : PyData} {ys : List PyData} (h : isL d = true) (a : LoA (its d) ys) : Lo d (.list ys) := by
  cases d with
  | list _ => exact .ll a
  | tuple _ => exact .tl a
  | _ => cases h
theorem Lo.tuple {d : PyData} {ys : List PyData} (h : isL d = true) (a : LoA (its d) ys) : Lo d (.tuple ys) := by
  cases d with
  | list _ => exact .lt a
  | tuple _ => exact .tt a
  | _ => cases h
/-- what did not stand in H -/
def NwA (H : Hp) : Addr → Prop := fun a => H a = none
def spLoose : Nat → Sp
  | 0 => fun _ _ _ _ => False
  | n + 1 => fun vs H Q _ => ∃ (w : Addr) (m : Nat) (N : Addr → Prop) (v : V) (d : PyData), vs = [.ref w, v] ∧ Off w N ∧ Wl H w m ∧ m + 41 ^ n + 5000 < top0 ∧ Dr N H v d ∧ tame true d n = true ∧
    ∀ u e H', Gw w H H' → Wl H' w (m + 41 ^ n) → Dr (NwA H) H' u e → Lo d e → Q u H'
theorem dk_keys {N : Addr → Prop} {H : Hp} : ∀ {ps : List (PyData × PyData)} {kvs : List (Key × V)}, DrK N H kvs ps → DrA (fun _ => False) H (kvs.map fun kv => kV kv.1) (ps.map (·.1))
  | _, _, .nil => .nil
  | _, _, .cons r t => .cons (.str _) (dk_keys t)
end K8

namespace K8
open PySem PySem.Spec PyProof.Rows L2 WR
/-! ### what is the caller's alone: its lists, each once -/
mutual
inductive Ow (H : Hp) : V → PyData → List Addr → Prop
  | non : Ow H .non .none []
  | bl (b : Bool) : Ow H (.bl b) (.bool b) []
  | int (i : Int) : Ow H (.int i) (.int i) []
  | str (x : Str) : Ow H (.str x) (.str x) []
  | lst {a : Addr} {xs : List V} {ds : List PyData} {fs : List (List Addr)} : H a = some (.lst xs) → OwA H xs ds fs → Ow H (.ref a) (.list ds) (a :: fs.flatten)
  | tup {a : Addr} {xs : List V} {ds : List PyData} {fs : List (List Addr)} : H a = some (.tup xs) → OwA H xs ds fs → Ow H (.ref a) (.tuple ds) fs.flatten
inductive OwA (H : Hp) : List V → List PyData → List (List Addr) → Prop
  | nil : OwA H [] [] []
  | cons {v : V} {vs : List V} {d : PyData} {ds : List PyData} {f : List Addr} {fs : List (List Addr)} : Ow H v d f → OwA H vs ds fs → OwA H (v :: vs) (d :: ds) (f :: fs)
end
mutual
theorem Ow.dr {H : Hp} : ∀ {d : PyData} {v : V} {f : List Addr}, Ow H v d f → Dr All H v d
  | _, _, _, .non => .non
  | _, _, _, .bl b => .bl b
  | _, _, _, .int i => .int i
  | _, _, _, .str x => .str x
  | _, _, _, .lst e r => .lst trivial e (OwA.dr r)
  | _, _, _, .tup e r => .tup e (OwA.dr r)
theorem OwA.dr {H : Hp} : ∀ {ds : List PyData} {vs : List V} {fs : List (List Addr)}, OwA H vs ds fs → DrA All H vs ds
  | _, _, _, .nil => .nil
  | _, _, _, .cons r t => .cons (Ow.dr r) (OwA.dr t)
end
mutual
theorem Ow.keep {H H' : Hp} (ht : ∀ a xs, H a = some (.tup xs) → H' a = some (.tup xs)) : ∀ {d : PyData} {v : V} {f : List Addr}, Ow H v d f → (∀ b ∈ f, ∀ o, H b = some o → H' b = some o) → Ow H' v d f
  | _, _, _, .non, _ => .non
  | _, _, _, .bl b, _ => .bl b
  | _, _, _, .int i, _ => .int i
  | _, _, _, .str x, _ => .str x
  | _, _, _, .lst e r, k => .lst (k _ (List.mem_cons_self ..) _ e) (OwA.keep ht r fun b hb => k b (List.mem_cons_of_mem _ hb))
  | _, _, _, .tup e r, k => .tup (ht _ _ e) (OwA.keep ht r k)
theorem OwA.keep {H H' : Hp} (ht : ∀ a xs, H a = some (.tup xs) → H' a = some (.tup xs)) : ∀ {ds : List PyData} {vs : List V} {fs : List (List Addr)}, OwA H vs ds fs → (∀ b ∈ fs.flatten, ∀ o, H b = some o → H' b = some o) → OwA H' vs ds fs
  | _, _, _, .nil, _ => .nil
  | _, _, _, .cons r t, k => .cons (Ow.keep ht r fun b hb => k b (by simp only [List.flatten_cons, List.mem_append]; exact .inl hb)) (OwA.keep ht t fun b hb => k b (by simp only [List.flatten_cons, List.mem_append]; exact .inr hb))
end
mutual
/-- what it owns are lists -/
theorem Ow.lists {H : Hp} : ∀ {d : PyData} {v : V} {f : List Addr}, Ow H v d f → ∀ b ∈ f, ∃ xs, H b = some (.lst xs)
  | _, _, _, .non, b, hb => by cases hb
  | _, _, _, .bl _, b, hb => by cases hb
  | _, _, _, .int _, b, hb => by cases hb
  | _, _, _, .str _, b, hb => by cases hb
  | _, _, _, .lst e r, b, hb => by
    rcases List.mem_cons.mp hb with z | z
    · rw [z]
      exact ⟨_, e⟩
    · exact OwA.lists r b z
  | _, _, _, .tup e r, b, hb => OwA.lists r b hb
theorem OwA.lists {H : Hp} : ∀ {ds : List PyData} {vs : List V} {fs : List (List Addr)}, OwA H vs ds fs → ∀ b ∈ fs.flatten, ∃ xs, H b = some (.lst xs)
  | _, _, _, .nil, b, hb => by cases hb
  | _, _, _, .cons r t, b, hb => by
    simp only [List.flatten_cons, List.mem_append] at hb
    rcases hb with z | z
    · exact Ow.lists r b z
    · exact OwA.lists t b z
end
theorem OwA.get {H : Hp} : ∀ {ds : List PyData} {vs : List V} {fs : List (List Addr)} {i : Nat} {v : V}, OwA H vs ds fs → vs[i]? = some v → ∃ d f, ds[i]? = some d ∧ fs[i]? = some f ∧ Ow H v d f
  | _, _, _, i, v, .nil, e => by simp at e
  | _, _, _, 0, v, .cons r t, e => by
    simp at e
    subst e
    exact ⟨_, _, rfl, rfl, r⟩
  | _, _, _, i + 1, v, .cons r t, e => by
    obtain ⟨d, f, h1, h2, h3⟩ := OwA.get (i := i) (v := v) t (by simpa using e)
    exact ⟨d, f, by simpa using h1, by simpa using h2, h3⟩
theorem OwA.lenF {H : Hp} : ∀ {ds : List PyData} {vs : List V} {fs : List (List Addr)}, OwA H vs ds fs → vs.length = ds.length ∧ vs.length = fs.length
  | _, _, _, .nil => ⟨rfl, rfl⟩
  | _, _, _, .cons _ t => ⟨by simp [(OwA.lenF t).1], by simp [(OwA.lenF t).2]⟩
theorem flat_take {fs : List (List Addr)} {i : Nat} {f : List Addr} (e : fs[i]? = some f) : (fs.take (i + 1)).flatten = (fs.take i).flatten ++ f := by
  rw [List.take_succ, e]
  simp
theorem flat_apart {fs : List (List Addr)} {i : Nat} {f : List Addr} (e : fs[i]? = some f) (nd : fs.flatten.Nodup) : f.Nodup ∧ ∀ b ∈ f, b ∉ (fs.take i).flatten := by
  obtain ⟨hi, e'⟩ := List.getElem?_eq_some_iff.mp e
  have ed : fs.drop i = f :: fs.drop (i + 1) := by rw [List.drop_eq_getElem_cons hi, e']
  have ea : fs.flatten = (fs.take i).flatten ++ (f ++ (fs.drop (i + 1)).flatten) := by
    conv => lhs; rw [← List.take_append_drop i fs]
    rw [List.flatten_append, ed, List.flatten_cons]
  rw [ea] at nd
  obtain ⟨_, n2, n3⟩ := List.nodup_append.mp nd
  obtain ⟨n4, _, _⟩ := List.nodup_append.mp n2
  exact ⟨n4, fun b hb hc => n3 b hc b (List.mem_append_left _ hb) rfl⟩
theorem flat_sub {fs : List (List Addr)} {i : Nat} {b : Addr} (h : b ∈ (fs.take i).flatten) : b ∈ fs.flatten := by
  rw [← List.take_append_drop i fs, List.flatten_append]
  exact List.mem_append_left _ h
section
variable {X : Cx}
/-- isinstance(x, c) by x's type alone -/
def rIsTy (K : PySem.W.Frag) (c : String) (f : PyData → Bool) : List V → Hp → VK → Prop := fun xs H Q => ∃ x d, xs = [x, .ty c] ∧ TyX K H x (.type (tyD d)) ∧ Q (.bl (f d)) H
theorem call_isTy {c : String} {f : PyData → Bool} (hc : ∀ d, kitB (tyD d) c = some (f d)) : CallR X (.builtin "isinstance") (rIsTy X.K c f) := by
  intro pins s σ H xs us Q I r h
  obtain ⟨x, d, rfl, hd, q⟩ := h
  exact call_isi pins s σ H _ us Q I r ⟨x, .ty c, _, _, _, rfl, .ty c, hd, kit_ty (hc d), q⟩
end
/-- all but what is in f stays -/
def Bt1 (f : List Addr) (H H' : Hp) : Prop := ∀ b o, b ∉ f → H b = some o → H' b = some o
def spPoil : Nat → Sp
  | 0 => fun _ _ _ _ => False
  | n + 1 => fun vs H Q _ => ∃ (v : V) (d : PyData) (f : List Addr), vs = [v] ∧ Ow H v d f ∧ f.Nodup ∧ fit d n = true ∧ ∀ H', Bt1 f H H' → Q .non H'
section
variable {P : Program} {w : World} {K : PySem.W.Frag} {mg : Str → Option Value} {base : Heap}
theorem sc__law_spoiled : FnScope ["thing", "key", "part"] ["thing"] (defScope s_law_spoiled) := ⟨rfl, rfl, rfl, by decide +kernel, rfl, by decide +kernel, by decide +kernel⟩
theorem ok__law_spoiled (B : Bt mg) (F0 : Fn K mg d_law_spoiled) : ∀ n, Df P w K mg base CX0 n "_law_spoiled" ["thing"] (spPoil n)
  | 0 => Df.off F0 fun f fd F => F.bindsN fun _ _ _ _ _ _ us hl => match us, hl with | [_], _ => rfl
  | n + 1 => by
    have D1 : Df P w K mg base CX0 n "_law_spoiled" ["thing"] (spPoil n) := ok__law_spoiled B F0 n
    obtain ⟨f, fd, hm, F⟩ := F0
    refine ⟨f, fd, hm, F.kp, F.bindsN fun _ _ _ _ _ _ us hl => match us, hl with | [_], _ => rfl, ?_⟩
    refine F.ok sc__law_spoiled (fun vs H Q E h => by obtain ⟨v, d, f, rfl, _⟩ := h; rfl) (fun cdv A outer s H vs Q E hr h => ?_)
    obtain ⟨v, d, fp, rfl, ow, nd, hf, q⟩ := h
    have hu := hu_of hr
    refine ⟨_, PSs.nox (pss_one (ps_if (pt_val (pe_callB (call_isD kit_dict) (by rfl) B.isinstance (by decide +kernel) (pa_cons (pv 0) (pa_cons (pe_ty "dict" B.dict (by decide +kernel)) pa_nil)))) (pss_cons (ps_for PassesOwn.never rfl (pi_seq (pe_callTy (call_listD rfl) (by rfl) B.list (by decide +kernel) (pa_cons (pv 0) pa_nil))) (pg_name (i := 1) sc__law_spoiled.nd rfl (by first | exact Or.inl rfl | exact Or.inr rfl)) (pss_one (ps_expr (pe_df D1 hr pass0 (pa_cons (pe_dget hu (pv 0) (pv 1) (fun _ _ => rfl)) pa_nil)))))
      (pss_one (ps_asg pe_str (pg_sub (pv 0) pe_str (set_dict hu))))) (pss_one (ps_if (pt_val (pe_callB (call_isD2 kit_list kit_tuple isL_or) (by rfl) B.isinstance (by decide +kernel) (pa_cons (pv 0) (pa_cons (pe_tup (pa_cons (pe_ty "list" B.list (by decide +kernel)) (pa_cons (pe_ty "tuple" B.tuple (by decide +kernel)) pa_nil))) pa_nil)))) (pss_cons (ps_for PassesOwn.never rfl (pi_seq (pv 0)) (pg_name (i := 2) sc__law_spoiled.nd rfl (by first | exact Or.inl rfl | exact Or.inr rfl)) (pss_one (ps_expr (pe_df D1 hr pass0 (pa_cons (pv 2) pa_nil)))))
      (pss_one (ps_if (pt_val (pe_callB (call_isTy kit_list) (by rfl) B.isinstance (by decide +kernel) (pa_cons (pv 0) (pa_cons (pe_ty "list" B.list (by decide +kernel)) pa_nil)))) (pss_one (ps_expr (pe_bm PySem.F.plainAttrs_list PySem.F.slot_list_append PySem.F.type_list_append mt_append (pv 0) (pa_cons pe_str pa_nil)))) pss_nil))) pss_nil)))), ?_⟩
    have rd := ow.dr
    have sz2 : ([V.ty "list", V.ty "tuple"] : List V).length ≤ sizeLine := by show 2 ≤ sizeLine; decide
    have hnd : ¬ isD d = true := fun z => by cases ow <;> cases z
    refine ⟨_, rfl, v, d, rfl, rd, _, rfl, ite2 (fun z => absurd z hnd) (fun _ => ?_)⟩
    refine ⟨_, rfl, sz2, fun p1 np1 => ⟨v, p1, d, rfl, upd_same, rd.sm (Sm.new np1), _, rfl, ite2 (fun hL => ?_) (fun _ => ?_)⟩⟩
    · have hL' : isL d = true := hL
      have s1 : Sm H (upd H p1 (.tup [V.ty "list", V.ty "tuple"])) := Sm.new np1
      generalize hH1 : upd H p1 (.tup [V.ty "list", V.ty "tuple"]) = H1 at s1
      obtain ⟨hn1, hlen, hfA⟩ := fit_its hf hL'
      obtain ⟨m, rfl⟩ : ∃ m, n = m + 1 := ⟨n - 1, by omega⟩
      have hsl := lim_lt
      have bt1 : ∀ {f : List Addr} {H2 : Hp}, Bt1 f H1 H2 → Bt1 f H H2 := fun k b o hb e => k b o hb (s1 b o e)
      have loop : ∀ (a : Addr) (xs : List V) (ds : List PyData) (fs : List (List Addr)) (D : Ends), (H1 a = some (.lst xs) ∨ H1 a = some (.tup xs)) → OwA H1 xs ds fs → fs.flatten.Nodup → a ∉ fs.flatten → ds.length ≤ lim → fitA ds m = true →
          (∀ x H2, Bt1 fs.flatten H1 H2 → D.nx [some (.ref a), none, x] H2) → ∀ J, ItS K H1 a xs J →
          ∃ W : Nat → Nat → L2.St → Hp → Prop, (∃ m, W 0 m [some (.ref a), none, none] H1) ∧ ∀ i m' σ H2, W i m' σ H2 →
            (J.stop i H2 ∧ D.nx σ H2) ∨ (J.go i H2 ∧ ∃ N : L2.St → Hp → Prop, (∀ σ' H', N σ' H' → ∃ m'', m'' < m' ∧ W (i + 1) m'' σ' H') ∧ ∀ x H', J.yld i H2 x H' → gName 2 x σ H' fun σ2 H3 => (tDrop (tCall (spPoil (m + 1)) [] E0 (tCons (tVar 2) tNil))) { D with nx := N, ct := N, bk := D.nx } σ2 H3) := by
        intro a xs ds fs D ha oa ndf naf hl hfd hd J hJ
        have tups : ∀ {i : Nat} {H2 : Hp}, Bt1 (fs.take i).flatten H1 H2 → ∀ b ys, H1 b = some (.tup ys) → H2 b = some (.tup ys) := fun {i H2} k b ys e => k b _ (fun z => by
          obtain ⟨zs, ez⟩ := oa.lists b (flat_sub z)
          rw [e] at ez
          cases ez) e
        refine for_seq hJ (fun i σ H2 => ∃ x, σ = [some (.ref a), none, x] ∧ Bt1 (fs.take i).flatten H1 H2) ⟨none, rfl, fun b o _ e => e⟩ ?_ ?_ ?_
        · rintro i σ H2 _ ⟨x, _, k⟩
          rcases ha with e | e
          · rw [e]
            exact k a _ (fun z => naf (flat_sub z)) e
          · rw [e]
            exact k a _ (fun z => naf (flat_sub z)) e
        · rintro i x σ H2 hx ⟨x0, rfl, k⟩
          obtain ⟨d1, f1, e1, e2, o1⟩ := oa.get hx
          obtain ⟨nd1, ap1⟩ := flat_apart e2 ndf
          have o2 : Ow H2 x d1 f1 := o1.keep (tups k) fun b hb o e => k b o (ap1 b hb) e
          refine ⟨_, rfl, x, d1, f1, rfl, o2, nd1, fitA_at hfd e1, fun H3 k3 => ⟨some x, rfl, fun b o hb e => ?_⟩⟩
          rw [flat_take e2] at hb
          exact k3 b o (fun z => hb (List.mem_append_right _ z)) (k b o (fun z => hb (List.mem_append_left _ z)) e)
        · rintro σ H2 ⟨x, rfl, k⟩
          refine hd x H2 ?_
          rw [oa.lenF.2, List.take_length] at k
          exact k
      have ow1 : Ow H1 v d fp := ow.keep (fun a xs e => s1 a _ e) fun b _ o e => s1 b o e
      cases ow1 with
      | @lst a xs ds fs ea oa =>
        have nd' := List.nodup_cons.mp nd
        refine ⟨_, rfl, a, xs, rfl, .inl ea, fun J hJ => ?_⟩
        refine loop a xs ds fs _ (.inl ea) oa nd'.2 nd'.1 hlen hfA (fun x H2 k => ?_) J hJ
        have e2 : H2 a = some (.lst xs) := k a _ nd'.1 ea
        refine ⟨_, rfl, .ref a, .list [], rfl, .base (.lst e2), _, rfl, iteT ?_⟩
        have lx : xs.length = ds.length := oa.lenF.1
        have hl : ds.length ≤ lim := hlen
        refine ⟨_, rfl, .inl ⟨rfl, xs, SqL.of e2⟩, a, _, _, rfl, rfl, e2, by omega, ?_⟩
        refine q _ fun b o hb e => ?_
        rw [upd_ne (fun z => hb (by rw [z]; exact List.mem_cons_self ..))]
        exact k b o (fun z => hb (List.mem_cons_of_mem _ z)) (s1 b o e)
      | @tup a xs ds fs ea oa =>
        have na : a ∉ fs.flatten := fun z => by
          obtain ⟨zs, ez⟩ := oa.lists a z
          rw [ea] at ez
          cases ez
        refine ⟨_, rfl, a, xs, rfl, .inr ea, fun J hJ => ?_⟩
        refine loop a xs ds fs _ (.inr ea) oa nd na hlen hfA (fun x H2 k => ?_) J hJ
        have e2 : H2 a = some (.tup xs) := k a _ na ea
        refine ⟨_, rfl, .ref a, .tuple [], rfl, .base (.tup e2), _, rfl, iteF ?_⟩
        exact q _ fun b o hb e => k b o hb (s1 b o e)
      | _ => cases hL'
    · exact q _ (fun b o _ e => Sm.new np1 b o e)
end
end K8

/-! Webs, places, sizes: what is shared. -/
namespace K8
open PySem PySem.Spec PyProof.Rows L2 WR
theorem ei_ma : ¬ (("either" : Str) = "made" ∨ ("either" : Str) = "asked") := by decide +kernel
def Row.small : Row → Prop
  | .made _ ks => ks.length ≤ 3 ∧ ∀ k ∈ ks, k ≤ 100
  | .asked _ ks => ks.length ≤ 3 ∧ ∀ k ∈ ks, k ≤ 100
  | .either a i j => a ≤ 100 ∧ i ≤ 100 ∧ j ≤ 100
  | .given k => k ≤ 100
theorem gv_ma : ¬ (("given" : Str) = "made" ∨ ("given" : Str) = "asked") := by decide +kernel
theorem gv_ei : ¬ (("given" : Str) = "either") := by decide +kernel
/-! ### webs -/
/-- these rows are a web -/
structure Web (R : List Row) : Prop where
  ok : ∀ r ∈ R, r.ok
  fit : ∀ i (h : i < R.length), why (R.take i) R[i] = none ∧ R[i] ∉ R.take i
theorem Web.nil : Web [] := ⟨(fun _ h => nomatch h), fun i h => absurd h (Nat.not_lt_zero i)⟩
theorem Web.snoc {R : List Row} {r : Row} (W : Web R) (h1 : r.ok) (h2 : why R r = none) (h3 : r ∉ R) : Web (R ++ [r]) := by
  refine ⟨fun s hs => ?_, fun i h => ?_⟩
  · rcases List.mem_append.mp hs with hs | hs
    · exact W.ok s hs
    · rw [List.mem_singleton.mp hs]
      exact h1
  · by_cases hi : i < R.length
    · have e1 : (R ++ [r])[i] = R[i] := List.getElem_append_left hi
      have e2 : (R ++ [r]).take i = R.take i := List.take_append_of_le_length (by omega)
      rw [e1, e2]
      exact W.fit i hi
    · have e : i = R.length := by simp at h; omega
      subst e
      have e1 : (R ++ [r])[R.length] = r := by simp
      have e2 : (R ++ [r]).take R.length = R := by simp
      rw [e1, e2]
      exact ⟨h2, h3⟩
theorem nums_all (ks : List Nat) : (nums ks).all isNum = true := by
  rw [List.all_eq_true]
  intro d hd
  obtain ⟨k, _, rfl⟩ := List.mem_map.mp hd
  exact decide_eq_true (Int.natCast_nonneg k)
theorem rowForm_d {r : Row} (h : r.ok) : rowForm r.d = r.d := by
  cases r with
  | made n ks =>
    have e2 : (isName (.str n) && areNums (.tuple (nums ks))) = true := by
      rw [h.1, Bool.true_and]
      exact nums_all ks
    unfold rowForm
    rw [if_pos ⟨rfl, by simp [Row.d, its], rfl⟩]
    unfold rowForm2
    rw [if_pos ⟨.inl rfl, rfl⟩]
    exact if_pos e2
  | asked n ks =>
    have e2 : (isName (.str n) && areNums (.tuple (nums ks))) = true := by
      rw [h.1, Bool.true_and]
      exact nums_all ks
    unfold rowForm
    rw [if_pos ⟨rfl, by simp [Row.d, its], rfl⟩]
    unfold rowForm2
    rw [if_pos ⟨.inr rfl, rfl⟩]
    exact if_pos e2
  | either a i j =>
    unfold rowForm
    rw [if_pos ⟨rfl, by simp [Row.d, its], rfl⟩]
    unfold rowForm2
    rw [if_neg (fun z => ei_ma z.1), if_pos ⟨rfl, rfl, nums_all [a, i, j]⟩]
    rfl
  | given k =>
    unfold rowForm
    rw [if_pos ⟨rfl, by simp [Row.d, its], rfl⟩]
    unfold rowForm2
    rw [if_neg (fun z => gv_ma z.1), if_neg (fun z => gv_ei z.1), if_pos ⟨rfl, rfl, nums_all [k]⟩]
    rfl
theorem Web.scanFrom {R : List Row} (W : Web R) : ∀ (m i : Nat), m + i = R.length → Scan (R.take i) i ((R.drop i).map Row.d) R .none
  | 0, i, e => by
    have e' : i = R.length := by omega
    subst e'
    rw [List.take_length, List.drop_length]
    exact .done
  | m + 1, i, e => by
    have hi : i < R.length := by omega
    rw [List.drop_eq_getElem_cons hi, List.map_cons]
    have ih := W.scanFrom m (i + 1) (by omega)
    have et : R.take (i + 1) = R.take i ++ [R[i]] := by rw [List.take_succ, List.getElem?_eq_getElem hi]; rfl
    rw [et] at ih
    exact .next (rowForm_d (W.ok _ (List.getElem_mem hi))) (W.fit i hi).1 (W.fit i hi).2 ih
theorem Web.scan {R : List Row} (W : Web R) : ScanOf (rowsD R) R .none := .inl ⟨rfl, W.scanFrom R.length 0 (by omega)⟩
mutual
theorem tame_fit : ∀ {d : PyData} {n : Nat}, tame false d n = true → fit d n = true
  | .list xs, n, t => by
    simp only [tame, Bool.and_eq_true, decide_eq_true_eq] at t
    simp only [fit, Bool.and_eq_true, decide_eq_true_eq]
    exact ⟨⟨t.1.1, Nat.le_trans t.1.2 (Nat.le_trans (cap_le n) (by decide))⟩, tameA_fit t.2⟩
  | .tuple xs, n, t => by
    simp only [tame, Bool.and_eq_true, decide_eq_true_eq] at t
    simp only [fit, Bool.and_eq_true, decide_eq_true_eq]
    exact ⟨⟨t.1.1, Nat.le_trans t.1.2 (Nat.le_trans (cap_le n) (by decide))⟩, tameA_fit t.2⟩
  | .dict ps, n, t => by
    simp only [tame, Bool.and_eq_true, decide_eq_true_eq, Bool.false_and, Bool.or_false] at t
    simp only [fit, Bool.and_eq_true, decide_eq_true_eq]
    exact t
  | .str x, n, t => by
    simp only [tame, okStr, Bool.and_eq_true, decide_eq_true_eq] at t
    simp only [fit, decide_eq_true_eq]
    have l : lim = 4000 := rfl
    omega
  | .int i, n, t => by
    simp only [tame, decide_eq_true_eq] at t
    simp only [fit, decide_eq_true_eq]
    omega
  | .bool _, _, _ => rfl
  | .none, _, _ => rfl
theorem tameA_fit : ∀ {ds : List PyData} {n : Nat}, tameA false ds n = true → fitA ds n = true
  | [], _, _ => rfl
  | d :: ds, n, t => by
    simp only [tameA, Bool.and_eq_true] at t
    simp only [fitA, Bool.and_eq_true]
    exact ⟨tame_fit t.1, tameA_fit t.2⟩
end
theorem fitA_app {n : Nat} : ∀ {ds es : List PyData}, fitA ds n = true → fitA es n = true → fitA (ds ++ es) n = true
  | [], _, _, h => h
  | d :: ds, es, h, k => by
    simp only [fitA, List.cons_append, Bool.and_eq_true] at h ⊢
    exact ⟨h.1, fitA_app h.2 k⟩
/-- the tables stay where a list alone was written -/
theorem placeOf_at {R : List Row} {r : Row} : ∀ {S : List Row} {n k : Nat}, placeOf S r n = some k → ∃ j, k = n + j ∧ S[j]? = some r ∧ ∀ (m : Nat) (z : Row), m < j → S[m]? = some z → z ≠ r
  | [], n, k, h => by simp [placeOf] at h
  | s :: S, n, k, h => by
    unfold placeOf at h
    by_cases z : s = r
    · rw [if_pos z] at h
      cases h
      exact ⟨0, rfl, by rw [z]; rfl, fun m z hm => absurd hm (Nat.not_lt_zero m)⟩
    · rw [if_neg z] at h
      obtain ⟨j, e1, e2, e3⟩ := placeOf_at (R := R) h
      refine ⟨j + 1, by omega, by simpa using e2, fun m y hm hy => ?_⟩
      cases m with
      | zero =>
        simp at hy
        rw [← hy]
        exact z
      | succ m => exact e3 m y (by omega) (by simpa using hy)
theorem NewAt.det {R : List Row} {r : Row} {k j : Nat} (h : NewAt R r k) (h2 : NewAt R r j) : k = j := by
  unfold NewAt at h h2
  by_cases m : r ∈ R
  · rw [if_pos m] at h h2
    rw [h] at h2
    cases h2
    rfl
  · rw [if_neg m] at h h2
    rw [h, h2]
/-! ### told -/
mutual
/-- without lists: nothing of its own -/
theorem Ow.ofFz {N : Addr → Prop} {H : Hp} : ∀ {d : PyData} {v : V}, Dr N H v d → fz d = true → ∃ f, Ow H v d f ∧ f = []
  | _, _, .non, _ => ⟨_, .non, rfl⟩
  | _, _, .bl b, _ => ⟨_, .bl b, rfl⟩
  | _, _, .int i, _ => ⟨_, .int i, rfl⟩
  | _, _, .str y, _ => ⟨_, .str y, rfl⟩
  | _, _, .lst _ _ _, h => by cases h
  | _, _, .tup e r, h => by
    obtain ⟨fs, o, z⟩ := OwA.ofFz r (by simpa only [fz] using h)
    exact ⟨_, .tup e o, z⟩
  | _, _, .dct _ _ _, h => by cases h
theorem OwA.ofFz {N : Addr → Prop} {H : Hp} : ∀ {ds : List PyData} {vs : List V}, DrA N H vs ds → fzA ds = true → ∃ fs, OwA H vs ds fs ∧ fs.flatten = []
  | _, _, .nil, _ => ⟨[], .nil, rfl⟩
  | _, _, .cons r t, h => by
    simp only [fzA, Bool.and_eq_true] at h
    obtain ⟨f, o, rfl⟩ := Ow.ofFz r h.1
    obtain ⟨fs, os, z⟩ := OwA.ofFz t h.2
    exact ⟨_, .cons o os, by simpa using z⟩
end
/-- what put_row tells: the tuple, the rows' list -/
theorem NewAt.le {R : List Row} {r : Row} {k : Nat} (h : NewAt R r k) : k ≤ R.length := by
  unfold NewAt at h
  by_cases m : r ∈ R
  · rw [if_pos m] at h
    obtain ⟨j, e1, e2, _⟩ := placeOf_at (R := R) h
    have := (List.getElem?_eq_some_iff.mp e2).1
    omega
  · rw [if_neg m] at h
    omega
mutual
theorem fit_wd : ∀ {d : PyData} {n : Nat}, fit d n = true → wd d = true
  | .list xs, n, t => by
    simp only [fit, Bool.and_eq_true, decide_eq_true_eq] at t
    simp only [wd, Bool.and_eq_true, decide_eq_true_eq]
    exact ⟨t.1.2, fitA_wd t.2⟩
  | .tuple xs, n, t => by
    simp only [fit, Bool.and_eq_true, decide_eq_true_eq] at t
    simp only [wd, Bool.and_eq_true, decide_eq_true_eq]
    exact ⟨t.1.2, fitA_wd t.2⟩
  | .dict ps, n, t => by
    simp only [fit, Bool.and_eq_true, decide_eq_true_eq, List.isEmpty_iff] at t
    rw [t.2]
    rfl
  | .str x, n, t => by
    simp only [fit, decide_eq_true_eq] at t
    simp only [wd, decide_eq_true_eq]
    exact t
  | .int i, n, t => by
    simp only [fit, decide_eq_true_eq] at t
    simp only [wd, decide_eq_true_eq]
    exact t
  | .bool _, _, _ => rfl
  | .none, _, _ => rfl
theorem fitA_wd : ∀ {ds : List PyData} {n : Nat}, fitA ds n = true → wdA ds = true
  | [], _, _ => rfl
  | d :: ds, n, t => by
    simp only [fitA, Bool.and_eq_true] at t
    simp only [wdA, Bool.and_eq_true]
    exact ⟨fit_wd t.1, fitA_wd t.2⟩
end
end K8

namespace K8
open PySem PySem.Spec PyProof.Rows L2 WR
theorem lt_one (a b : Nat) : decide (([a] : List Nat) < [b]) = decide (a < b) := by
  refine decide_eq_decide.mpr ⟨fun h => ?_, fun h => List.Lex.rel h⟩
  cases h with
  | rel h => exact h
  | cons h => cases h
theorem leS_one (c : Nat) (k : Nat) : (!decide (([c] : List Nat) < [k])) = decide (k ≤ c) ∧ (!decide (([k] : List Nat) < [c])) = decide (c ≤ k) := by
  rw [lt_one, lt_one]
  constructor
  · rw [← decide_not]; exact decide_eq_decide.mpr (by omega)
  · rw [← decide_not]; exact decide_eq_decide.mpr (by omega)
theorem isLet_c (c : Nat) : isLet ⟨#[c]⟩ = decide (97 ≤ c ∧ c ≤ 122) := by
  have h1 : leS "a" ⟨#[c]⟩ = decide (97 ≤ c) := (leS_one c 97).1
  have h2 : leS ⟨#[c]⟩ "z" = decide (c ≤ 122) := (leS_one c 122).2
  unfold isLet
  rw [h1, h2, Bool.decide_and]
theorem isFig_c (c : Nat) : isFig ⟨#[c]⟩ = decide (48 ≤ c ∧ c ≤ 57) := by
  have h1 : leS "0" ⟨#[c]⟩ = decide (48 ≤ c) := (leS_one c 48).1
  have h2 : leS ⟨#[c]⟩ "9" = decide (c ≤ 57) := (leS_one c 57).2
  unfold isFig
  rw [h1, h2, Bool.decide_and]
/-! ### rows, held against one another -/
theorem eqv_nums : ∀ ks js : List Nat, PyData.eqvAll (nums ks) (nums js) = decide (ks = js)
  | [], [] => rfl
  | [], _ :: _ => by simp [nums, PyData.eqvAll]
  | _ :: _, [] => by simp [nums, PyData.eqvAll]
  | k :: ks, j :: js => by
    have ih := eqv_nums ks js
    simp only [nums, List.map_cons] at ih ⊢
    rw [PyData.eqvAll, ih, PyData.eqv]
    by_cases h : k = j
    · subst h
      simp
    · simp [h, show ¬ ((k : Int) = (j : Int)) by omega]
theorem eqv_bools : ∀ bs cs : List Bool, PyData.eqvAll (bs.map PyData.bool) (cs.map PyData.bool) = decide (bs = cs)
  | [], [] => rfl
  | [], _ :: _ => by simp [PyData.eqvAll]
  | _ :: _, [] => by simp [PyData.eqvAll]
  | b :: bs, c :: cs => by
    have ih := eqv_bools bs cs
    simp only [List.map_cons]
    rw [PyData.eqvAll, ih, PyData.eqv]
    cases b <;> cases c <;> simp
theorem w_ma : (("made" : Str) == ("asked" : Str)) = false := by decide +kernel
theorem w_am : (("asked" : Str) == ("made" : Str)) = false := by decide +kernel
theorem str_self (x : Str) : (x == x) = true := by simp
theorem Row.eqv (r s : Row) : PyData.eqv r.d s.d = decide (r = s) := by
  cases r with
  | made n ks => cases s with
    | made m js =>
      simp only [Row.d, PyData.eqv, PyData.eqvAll, eqv_nums, str_self, Bool.true_and, Bool.and_true]
      rw [Bool.eq_iff_iff]
      simp
    | asked m js =>
      simp only [Row.d, PyData.eqv, PyData.eqvAll, w_ma, Bool.false_and]
      exact (decide_eq_false (fun z => nomatch z)).symm
    | either a i j => simp [Row.d, PyData.eqv, PyData.eqvAll]
    | given k => simp [Row.d, PyData.eqv, PyData.eqvAll]
  | asked n ks => cases s with
    | made m js =>
      simp only [Row.d, PyData.eqv, PyData.eqvAll, w_am, Bool.false_and]
      exact (decide_eq_false (fun z => nomatch z)).symm
    | asked m js =>
      simp only [Row.d, PyData.eqv, PyData.eqvAll, eqv_nums, str_self, Bool.true_and, Bool.and_true]
      rw [Bool.eq_iff_iff]
      simp
    | either a i j => simp [Row.d, PyData.eqv, PyData.eqvAll]
    | given k => simp [Row.d, PyData.eqv, PyData.eqvAll]
  | either a i j => cases s with
    | either a' i' j' =>
      simp only [Row.d, PyData.eqv, PyData.eqvAll, str_self, Bool.true_and, Bool.and_true]
      rw [Bool.eq_iff_iff]
      simp only [Bool.and_eq_true, beq_iff_eq, decide_eq_true_eq, Row.either.injEq]
      omega
    | made m js => simp [Row.d, PyData.eqv, PyData.eqvAll]
    | asked m js => simp [Row.d, PyData.eqv, PyData.eqvAll]
    | given k => simp [Row.d, PyData.eqv, PyData.eqvAll]
  | given k => cases s with
    | given k' =>
      simp only [Row.d, PyData.eqv, PyData.eqvAll, str_self, Bool.true_and, Bool.and_true]
      rw [Bool.eq_iff_iff]
      simp only [beq_iff_eq, decide_eq_true_eq, Row.given.injEq]
      omega
    | made m js => simp [Row.d, PyData.eqv, PyData.eqvAll]
    | asked m js => simp [Row.d, PyData.eqv, PyData.eqvAll]
    | either a i j => simp [Row.d, PyData.eqv, PyData.eqvAll]
theorem lay_nums (ks : List Nat) : PyData.canLayAll0 (nums ks) = true := by
  induction ks with
  | nil => rfl
  | cons k ks ih => simp only [nums, List.map_cons, PyData.canLayAll0, PyData.canLay0, Bool.true_and]; exact ih
theorem dep_nums (ks : List Nat) : PyData.depthAll (nums ks) = 0 := by
  induction ks with
  | nil => rfl
  | cons k ks ih =>
    show max 0 (PyData.depthAll (nums ks)) = 0
    rw [ih]
    rfl
/-- a name's signs are signs of texts -/
theorem name_ok {n : Str} (h : isName (.str n) = true) : PyData.strOk n = true := by
  have h1 : begName n = true := by
    simp only [isName, Bool.and_eq_true] at h
    exact h.2
  simp only [begName, Bool.and_eq_true] at h1
  have h2 := h1.1.2
  unfold PyData.strOk
  rw [Array.all_eq_true]
  intro i hi
  have hm : PyData.str ⟨#[n.cps[i]]⟩ ∈ signsD n := List.mem_map.mpr ⟨n.cps[i], by simp, rfl⟩
  have h3 := List.all_eq_true.mp h2 _ hm
  rw [show strOf (PyData.str ⟨#[n.cps[i]]⟩) = ⟨#[n.cps[i]]⟩ from rfl, isLet_c, isFig_c] at h3
  simp only [Bool.or_eq_true, decide_eq_true_eq] at h3
  exact decide_eq_true (by omega)
theorem Row.lay {r : Row} (h : r.ok) : r.d.canLay0 = true := by
  cases r with
  | made n ks =>
    simp only [Row.d, PyData.canLay0, PyData.canLayAll0, lay_nums, name_ok h.1, Bool.and_true]
    exact (by decide +kernel : PyData.strOk "made" = true)
  | asked n ks =>
    simp only [Row.d, PyData.canLay0, PyData.canLayAll0, lay_nums, name_ok h.1, Bool.and_true]
    exact (by decide +kernel : PyData.strOk "asked" = true)
  | either a i j => simp only [Row.d, PyData.canLay0, PyData.canLayAll0, Bool.and_true]; decide +kernel
  | given k => simp only [Row.d, PyData.canLay0, PyData.canLayAll0, Bool.and_true]; decide +kernel
theorem Row.dep (r : Row) : r.d.depth ≤ 2 := by
  cases r with
  | made n ks => simp [Row.d, PyData.depth, PyData.depthAll, dep_nums]
  | asked n ks => simp [Row.d, PyData.depth, PyData.depthAll, dep_nums]
  | either a i j => simp [Row.d, PyData.depth, PyData.depthAll]
  | given k => simp [Row.d, PyData.depth, PyData.depthAll]
theorem Row.eqOk {r : Row} (h : r.ok) : eqOk r.d := ⟨Row.lay h, by have := Row.dep r; omega⟩
theorem rows_lay : ∀ {R : List Row}, (∀ r ∈ R, r.ok) → PyData.canLayAll0 (R.map Row.d) = true
  | [], _ => rfl
  | r :: R, h => by
    simp only [List.map_cons, PyData.canLayAll0, Row.lay (h r (List.mem_cons_self ..)), Bool.true_and]
    exact rows_lay fun s hs => h s (List.mem_cons_of_mem _ hs)
theorem rows_dep : ∀ R : List Row, PyData.depthAll (R.map Row.d) ≤ 2
  | [] => Nat.zero_le _
  | r :: R => by
    have h1 := Row.dep r
    have h2 := rows_dep R
    show max (PyData.depth r.d) (PyData.depthAll (R.map Row.d)) ≤ 2
    omega
theorem rows_eqOk {R : List Row} (h : ∀ r ∈ R, r.ok) : eqOk (rowsD R) := by
  refine ⟨?_, ?_⟩
  · show PyData.canLay0 (.list (R.map Row.d)) = true
    simp only [PyData.canLay0]
    exact rows_lay h
  · have := rows_dep R
    show PyData.depthAll (R.map Row.d) + 1 ≤ 60
    omega
theorem rows_any (R : List Row) (r : Row) : ((R.map Row.d).any fun z => PyData.eqv z r.d) = decide (r ∈ R) := by
  induction R with
  | nil => simp
  | cons s R ih =>
    rw [List.map_cons, List.any_cons, ih, Row.eqv, ← Bool.decide_or]
    refine decide_eq_decide.mpr ?_
    rw [List.mem_cons]
    exact or_congr eq_comm Iff.rfl
theorem Row.d_inj {r s : Row} (h : r.d = s.d) : r = s := by
  have e := Row.eqv r s
  rw [← h, Row.eqv r r, decide_eq_true rfl] at e
  exact of_decide_eq_true e.symm
theorem vints_dr {N : Addr → Prop} {H : Hp} : ∀ ks : List Nat, DrA N H (ks.map fun (k : Nat) => V.int (k : Int)) (nums ks)
  | [] => .nil
  | k :: ks => .cons (.int _) (vints_dr ks)
theorem nums_eqOk (ks : List Nat) : eqOk (.list (nums ks)) := by
  refine ⟨?_, ?_⟩
  · simp only [PyData.canLay0]
    exact lay_nums ks
  · show PyData.depthAll (nums ks) + 1 ≤ 60
    rw [dep_nums]
    decide
end K8

/-! Webs led over, joined, thinned: no Python here. -/
namespace K8
/-! ### a row led over -/
def Row.led (f : Nat → Nat) : Row → Row
  | .made n ks => .made n (ks.map f)
  | .asked n ks => .asked n (ks.map f)
  | .either a i j => .either (f a) (f i) (f j)
  | .given k => .given k
theorem Row.led_ok {r : Row} {f : Nat → Nat} (h : r.ok) : (r.led f).ok := by
  cases r with
  | made n ks => exact ⟨h.1, by rw [List.length_map]; exact h.2⟩
  | asked n ks => exact ⟨h.1, by rw [List.length_map]; exact h.2⟩
  | _ => trivial
theorem Row.led_asked (r : Row) (f : Nat → Nat) : (r.led f).isAsked = r.isAsked := by cases r <;> rfl
theorem Row.led_named (r : Row) (f : Nat → Nat) : (r.led f).named = r.named.map f := by cases r <;> rfl
theorem Row.led_congr {r : Row} {f g : Nat → Nat} (h : ∀ k ∈ r.named, f k = g k) : r.led f = r.led g := by
  cases r with
  | made n ks => simp only [Row.led, Row.made.injEq, true_and]; exact List.map_congr_left h
  | asked n ks => simp only [Row.led, Row.asked.injEq, true_and]; exact List.map_congr_left h
  | either a i j => simp only [Row.led, h a (by simp [Row.named]), h i (by simp [Row.named]), h j (by simp [Row.named])]
  | given k => rfl
theorem Row.led_self {r : Row} {f : Nat → Nat} (h : ∀ k ∈ r.named, f k = k) : r.led f = r := by
  cases r with
  | made n ks => simp only [Row.led, Row.made.injEq, true_and]; exact (List.map_congr_left h).trans (List.map_id' ks)
  | asked n ks => simp only [Row.led, Row.asked.injEq, true_and]; exact (List.map_congr_left h).trans (List.map_id' ks)
  | either a i j => simp only [Row.led, h a (by simp [Row.named]), h i (by simp [Row.named]), h j (by simp [Row.named])]
  | given k => rfl
theorem map_inj_on {f : Nat → Nat} : ∀ {ks js : List Nat}, (∀ a ∈ ks, ∀ b ∈ js, f a = f b → a = b) → ks.map f = js.map f → ks = js
  | [], [], _, _ => rfl
  | k :: ks, j :: js, h, e => by
    simp only [List.map_cons, List.cons.injEq] at e
    rw [h k (by simp) j (by simp) e.1, map_inj_on (fun a ha b hb => h a (by simp [ha]) b (by simp [hb])) e.2]
  | [], _ :: _, _, e => by simp at e
  | _ :: _, [], _, e => by simp at e
theorem Row.led_inj {r s : Row} {f : Nat → Nat} (h : ∀ a ∈ r.named, ∀ b ∈ s.named, f a = f b → a = b) (e : r.led f = s.led f) : r = s := by
  cases r with
  | made n ks => cases s with
    | made m js =>
      simp only [Row.led, Row.made.injEq] at e
      rw [e.1, map_inj_on (ks := ks) (js := js) h e.2]
    | _ => cases e
  | asked n ks => cases s with
    | asked m js =>
      simp only [Row.led, Row.asked.injEq] at e
      rw [e.1, map_inj_on (ks := ks) (js := js) h e.2]
    | _ => cases e
  | either a i j => cases s with
    | either b k l =>
      simp only [Row.led, Row.either.injEq] at e
      rw [h a (by simp [Row.named]) b (by simp [Row.named]) e.1, h i (by simp [Row.named]) k (by simp [Row.named]) e.2.1, h j (by simp [Row.named]) l (by simp [Row.named]) e.2.2]
    | _ => cases e
  | given k => cases s with
    | given l => exact e
    | _ => cases e
/-! ### what may stand -/
theorem why_none {R : List Row} {r : Row} : why R r = none ↔ (∀ k ∈ r.named, k < R.length) ∧ r.badTest R = false ∧ (∀ k ∈ r.parts, isPart R k = true) ∧ r.like = false := by
  unfold why why2 why3 why4
  by_cases h1 : (r.named.all fun k => decide (k < R.length)) = false
  · rw [if_pos h1]
    refine ⟨(fun z => nomatch z), fun z => ?_⟩
    have : (r.named.all fun k => decide (k < R.length)) = true := List.all_eq_true.mpr fun k hk => decide_eq_true (z.1 k hk)
    rw [h1] at this
    cases this
  rw [if_neg h1]
  have h1' : ∀ k ∈ r.named, k < R.length := fun k hk => of_decide_eq_true (List.all_eq_true.mp (eq_true_of_ne_false h1) k hk)
  by_cases h2 : r.badTest R = true
  · rw [if_pos h2]
    exact ⟨(fun z => nomatch z), fun z => by rw [z.2.1] at h2; cases h2⟩
  rw [if_neg h2]
  by_cases h3 : (r.parts.all (isPart R)) = false
  · rw [if_pos h3]
    refine ⟨(fun z => nomatch z), fun z => ?_⟩
    rw [List.all_eq_true.mpr z.2.2.1] at h3
    cases h3
  rw [if_neg h3]
  have h3' : ∀ k ∈ r.parts, isPart R k = true := List.all_eq_true.mp (eq_true_of_ne_false h3)
  by_cases h4 : r.like = true
  · rw [if_pos h4]
    exact ⟨(fun z => nomatch z), fun z => by rw [z.2.2.2] at h4; cases h4⟩
  · rw [if_neg h4]
    exact ⟨fun _ => ⟨h1', by simpa using h2, h3', by simpa using h4⟩, fun _ => rfl⟩
theorem Row.parts_named (r : Row) : ∀ k ∈ r.parts, k ∈ r.named := by
  cases r with
  | either a i j => intro k hk; simp only [Row.parts, Row.named, List.mem_cons, List.not_mem_nil, or_false] at hk ⊢; exact .inr hk
  | _ => exact fun k hk => hk
theorem why_led {X R : List Row} {r : Row} {f : Nat → Nat} (h : why X r = none) (h1 : ∀ k ∈ r.named, f k < R.length ∧ (rowAt R (f k)).isAsked = (rowAt X k).isAsked) (h2 : ∀ a ∈ r.named, ∀ b ∈ r.named, f a = f b → a = b) : why R (r.led f) = none := by
  obtain ⟨w1, w2, w3, w4⟩ := why_none.mp h
  refine why_none.mpr ⟨?_, ?_, ?_, ?_⟩
  · intro k hk
    rw [Row.led_named] at hk
    obtain ⟨j, hj, rfl⟩ := List.mem_map.mp hk
    exact (h1 j hj).1
  · cases r with
    | either a i j =>
      simp only [Row.badTest, Row.led] at w2 ⊢
      rw [(h1 a (by simp [Row.named])).2]
      exact w2
    | _ => rfl
  · have hp : (r.led f).parts = r.parts.map f := by cases r <;> rfl
    rw [hp]
    intro k hk
    obtain ⟨j, hj, rfl⟩ := List.mem_map.mp hk
    have hn := r.parts_named j hj
    have hw := w3 j hj
    unfold isPart at hw ⊢
    rw [decide_eq_true (h1 j hn).1, (h1 j hn).2, Bool.true_and]
    exact (Bool.and_eq_true_iff.mp hw).2
  · cases r with
    | either a i j =>
      simp only [Row.like, Row.led] at w4 ⊢
      exact decide_eq_false fun z => of_decide_eq_false w4 (h2 i (by simp [Row.named]) j (by simp [Row.named]) z)
    | _ => rfl
theorem rowAt_get {R : List Row} {k : Nat} (h : k < R.length) : rowAt R k = R[k] := by
  unfold rowAt
  rw [List.getD_eq_getElem?_getD, List.getElem?_eq_getElem h]
  rfl
theorem rowAt_app {R S : List Row} {k : Nat} (h : k < R.length) : rowAt (R ++ S) k = rowAt R k := by
  rw [rowAt_get h, rowAt_get (by simp; omega), List.getElem_append_left h]
theorem rowAt_last (R : List Row) (r : Row) : rowAt (R ++ [r]) R.length = r := by
  rw [rowAt_get (by simp)]
  simp
theorem rowAt_take {R : List Row} {k i : Nat} (h : k < i) : rowAt (R.take i) k = rowAt R k := by
  unfold rowAt
  rw [List.getD_eq_getElem?_getD, List.getD_eq_getElem?_getD, List.getElem?_take_of_lt h]
theorem Web.at_ {R : List Row} (W : Web R) {i : Nat} (h : i < R.length) : why (R.take i) (rowAt R i) = none ∧ rowAt R i ∉ R.take i ∧ (rowAt R i).ok := by
  rw [rowAt_get h]
  exact ⟨(W.fit i h).1, (W.fit i h).2, W.ok _ (List.getElem_mem h)⟩
theorem Web.ahead {R : List Row} (W : Web R) {i : Nat} (h : i < R.length) : ∀ k ∈ (rowAt R i).named, k < i := fun k hk => by
  have := (why_none.mp (W.at_ h).1).1 k hk
  rw [List.length_take] at this
  omega
theorem Web.init {R : List Row} {r : Row} (W : Web (R ++ [r])) : Web R ∧ why R r = none ∧ r ∉ R ∧ r.ok := by
  have hl : R.length < (R ++ [r]).length := by simp
  have hf := W.fit R.length hl
  have e1 : (R ++ [r])[R.length] = r := by simp
  have e2 : (R ++ [r]).take R.length = R := by simp
  rw [e1, e2] at hf
  refine ⟨⟨fun s hs => W.ok s (List.mem_append_left _ hs), fun i hi => ?_⟩, hf.1, hf.2, W.ok r (by simp)⟩
  have hf := W.fit i (by simp; omega)
  rw [List.getElem_append_left hi, List.take_append_of_le_length (by omega)] at hf
  exact hf
theorem Web.take {R : List Row} (W : Web R) (n : Nat) : Web (R.take n) := by
  refine ⟨fun r hr => W.ok r (List.mem_of_mem_take hr), fun i hi => ?_⟩
  rw [List.length_take] at hi
  have hf := W.fit i (by omega)
  have e : (R.take n).take i = R.take i := by rw [List.take_take, Nat.min_eq_left (by omega)]
  rw [e, List.getElem_take]
  exact hf
theorem Web.inj {R : List Row} (W : Web R) {i j : Nat} (hi : i < R.length) (hj : j < R.length) (e : rowAt R i = rowAt R j) : i = j := by
  rcases Nat.lt_trichotomy i j with h | h | h
  · exfalso
    refine (W.at_ hj).2.1 ?_
    rw [← e, rowAt_get hi]
    exact List.mem_take_iff_getElem.mpr ⟨i, by omega, rfl⟩
  · exact h
  · exfalso
    refine (W.at_ hi).2.1 ?_
    rw [e, rowAt_get hj]
    exact List.mem_take_iff_getElem.mpr ⟨j, by omega, rfl⟩
theorem rowAt_mem {R : List Row} {k : Nat} (h : k < R.length) : rowAt R k ∈ R := by
  rw [rowAt_get h]
  exact List.getElem_mem h
/-! ### the place of a row -/
def idxOf (R : List Row) (r : Row) : Nat := (placeOf R r 0).getD R.length
theorem idxOf_new {R : List Row} {r : Row} (h : r ∉ R) : idxOf R r = R.length := by
  unfold idxOf
  rw [placeOf_none h]
  rfl
theorem idxOf_at {R : List Row} {r : Row} (h : r ∈ R) : placeOf R r 0 = some (idxOf R r) ∧ idxOf R r < R.length ∧ rowAt R (idxOf R r) = r := by
  obtain ⟨k, e⟩ := placeOf_some (n := 0) h
  have ei : idxOf R r = k := by
    unfold idxOf
    rw [e]
    rfl
  obtain ⟨j, h1, h2, _⟩ := placeOf_at (R := []) e
  rw [ei]
  have hk : k = j := by omega
  subst hk
  obtain ⟨hj, he⟩ := List.getElem?_eq_some_iff.mp h2
  exact ⟨e, hj, by rw [rowAt_get hj]; exact he⟩
theorem idxOf_newAt (R : List Row) (r : Row) : NewAt R r (idxOf R r) := by
  unfold NewAt
  by_cases h : r ∈ R
  · rw [if_pos h]
    exact (idxOf_at h).1
  · rw [if_neg h]
    exact idxOf_new h
theorem newRows_at (R : List Row) (r : Row) : idxOf R r < (newRows R r).length ∧ rowAt (newRows R r) (idxOf R r) = r ∧ ∀ k, k < R.length → k < (newRows R r).length ∧ rowAt (newRows R r) k = rowAt R k := by
  unfold newRows
  by_cases h : r ∈ R
  · rw [if_pos h]
    exact ⟨(idxOf_at h).2.1, (idxOf_at h).2.2, fun k hk => ⟨hk, rfl⟩⟩
  · rw [if_neg h, idxOf_new h]
    exact ⟨by simp, rowAt_last R r, fun k hk => ⟨by simp; omega, rowAt_app hk⟩⟩
theorem newRows_len (R : List Row) (r : Row) : R.length ≤ (newRows R r).length ∧ (newRows R r).length ≤ R.length + 1 := by
  unfold newRows
  by_cases h : r ∈ R
  · rw [if_pos h]; omega
  · rw [if_neg h]; simp
/-! ### webs joined -/
def fL (ps : List Nat) : Nat → Nat := fun k => ps.getD k 0
theorem fL_app {ps qs : List Nat} {k : Nat} (h : k < ps.length) : fL (ps ++ qs) k = fL ps k := by
  unfold fL
  rw [List.getD_eq_getElem?_getD, List.getD_eq_getElem?_getD, List.getElem?_append_left h]
theorem fL_last (ps : List Nat) (q : Nat) : fL (ps ++ [q]) ps.length = q := by
  unfold fL
  simp [List.getD_eq_getElem?_getD]
def joinG (R : List Row) (ps : List Nat) : List Row → List Row × List Nat
  | [] => (R, ps)
  | r :: S => joinG (newRows R (r.led (fL ps))) (ps ++ [idxOf R (r.led (fL ps))]) S
theorem joinG_app : ∀ (S : List Row) (R : List Row) (ps : List Nat) (r : Row), joinG R ps (S ++ [r]) = (newRows (joinG R ps S).1 (r.led (fL (joinG R ps S).2)), (joinG R ps S).2 ++ [idxOf (joinG R ps S).1 (r.led (fL (joinG R ps S).2))])
  | [], R, ps, r => rfl
  | s :: S, R, ps, r => by
    rw [List.cons_append]
    unfold joinG
    exact joinG_app S _ _ r
structure Joined (R0 S R : List Row) (ps : List Nat) : Prop where
  web : Web R
  len : ps.length = S.length
  at_ : ∀ k, k < S.length → fL ps k < R.length ∧ rowAt R (fL ps k) = (rowAt S k).led (fL ps)
  inj : ∀ i j, i < S.length → j < S.length → fL ps i = fL ps j → i = j
  lo : R0.length ≤ R.length
  hi : R.length ≤ R0.length + S.length
  pre : ∀ k, k < R0.length → rowAt R k = rowAt R0 k
theorem Joined.nil {R : List Row} (W : Web R) : Joined R [] R [] := ⟨W, rfl, (fun _ h => absurd h (Nat.not_lt_zero _)), (fun _ _ h => absurd h (Nat.not_lt_zero _)), Nat.le_refl _, Nat.le_refl _, fun _ _ => rfl⟩
theorem Joined.named {R0 S R : List Row} {ps : List Nat} {r : Row} (J : Joined R0 S R ps) (W : Web (S ++ [r])) : ∀ k ∈ r.named, k < ps.length := fun k hk => by
  rw [J.len]
  exact (why_none.mp W.init.2.1).1 k hk
theorem Joined.snoc {R0 S R : List Row} {ps : List Nat} {r : Row} (J : Joined R0 S R ps) (W : Web (S ++ [r])) : Joined R0 (S ++ [r]) (newRows R (r.led (fL ps))) (ps ++ [idxOf R (r.led (fL ps))]) := by
  obtain ⟨W0, h1, h2, h3⟩ := W.init
  have hn : ∀ k ∈ r.named, k < S.length := (why_none.mp h1).1
  have hq : ∀ k, k < S.length → fL (ps ++ [idxOf R (r.led (fL ps))]) k = fL ps k := fun k hk => fL_app (by rw [J.len]; exact hk)
  have hl : fL (ps ++ [idxOf R (r.led (fL ps))]) S.length = idxOf R (r.led (fL ps)) := by rw [← J.len]; exact fL_last _ _
  have hlr : ∀ {x : Row}, (∀ k ∈ x.named, k < S.length) → x.led (fL (ps ++ [idxOf R (r.led (fL ps))])) = x.led (fL ps) := fun hx => Row.led_congr fun k hk => hq k (hx k hk)
  have hS : ∀ k, k < S.length → ∀ j ∈ (rowAt S k).named, j < S.length := fun k hk j hj => Nat.lt_trans (W0.ahead hk j hj) hk
  obtain ⟨n1, n2, n3⟩ := newRows_at R (r.led (fL ps))
  obtain ⟨l1, l2⟩ := newRows_len R (r.led (fL ps))
  have hwhy : why R (r.led (fL ps)) = none := why_led h1 (fun k hk => ⟨(J.at_ k (hn k hk)).1, by rw [(J.at_ k (hn k hk)).2, Row.led_asked]⟩) fun a ha b hb e => J.inj a b (hn a ha) (hn b hb) e
  have unlike : ∀ k, k < S.length → fL ps k = idxOf R (r.led (fL ps)) → False := fun k hk e => by
    have e2 : (rowAt S k).led (fL ps) = r.led (fL ps) := by
      rw [← (J.at_ k hk).2, e]
      have := n3 (idxOf R (r.led (fL ps))) (by rw [← e]; exact (J.at_ k hk).1)
      rw [← this.2]
      exact n2
    have e3 := Row.led_inj (fun a ha b hb z => J.inj a b (hS k hk a ha) (hn b hb) z) e2
    exact h2 (by rw [← e3]; exact rowAt_mem hk)
  constructor
  · unfold newRows
    by_cases hm : r.led (fL ps) ∈ R
    · rw [if_pos hm]
      exact J.web
    · rw [if_neg hm]
      exact J.web.snoc (Row.led_ok h3) hwhy hm
  · simp [J.len]
  · intro k hk
    by_cases hk' : k < S.length
    · rw [hq k hk', rowAt_app hk', hlr (hS k hk')]
      obtain ⟨a1, a2⟩ := J.at_ k hk'
      exact ⟨(n3 _ a1).1, by rw [(n3 _ a1).2]; exact a2⟩
    · have e : k = S.length := by simp at hk; omega
      subst e
      rw [hl, rowAt_last, hlr hn]
      exact ⟨n1, n2⟩
  · intro i j hi hj e
    by_cases hi' : i < S.length
    · by_cases hj' : j < S.length
      · rw [hq i hi', hq j hj'] at e
        exact J.inj i j hi' hj' e
      · have ej : j = S.length := by simp at hj; omega
        rw [ej, hq i hi', hl] at e
        exact (unlike i hi' e).elim
    · have ei : i = S.length := by simp at hi; omega
      by_cases hj' : j < S.length
      · rw [ei, hq j hj', hl] at e
        exact (unlike j hj' e.symm).elim
      · simp at hj
        omega
  · exact Nat.le_trans J.lo l1
  · have := J.hi
    simp
    omega
  · intro k hk
    rw [(n3 k (by have := J.lo; omega)).2]
    exact J.pre k hk
theorem joinG_joined {R0 : List Row} (W0 : Web R0) : ∀ (m : Nat) {S : List Row}, Web S → m ≤ S.length → Joined R0 (S.take m) (joinG R0 [] (S.take m)).1 (joinG R0 [] (S.take m)).2
  | 0, S, _, _ => by
    rw [List.take_zero]
    exact Joined.nil W0
  | m + 1, S, W, h => by
    have ih := joinG_joined W0 m W (by omega)
    have et : S.take (m + 1) = S.take m ++ [S[m]] := by rw [List.take_add_one, List.getElem?_eq_getElem (by omega)]; rfl
    rw [et, joinG_app]
    exact ih.snoc (by rw [← et]; exact W.take _)
theorem joined_of {R S : List Row} (W : Web R) (V : Web S) : Joined R S (joinG R [] S).1 (joinG R [] S).2 := by
  have := joinG_joined W S.length V (Nat.le_refl _)
  rwa [List.take_length] at this
/-- a web joined to itself -/
theorem join_self {R : List Row} (W : Web R) : joinG R [] R = (R, List.range R.length) := by
  have key : ∀ m, m ≤ R.length → joinG R [] (R.take m) = (R, List.range m) := by
    intro m
    induction m with
    | zero => intro _; rfl
    | succ m ih =>
      intro h
      have hm : m < R.length := by omega
      have et : R.take (m + 1) = R.take m ++ [R[m]] := by rw [List.take_add_one, List.getElem?_eq_getElem hm]; rfl
      rw [et, joinG_app, ih (by omega)]
      have er : R[m].led (fL (List.range m)) = R[m] := Row.led_self fun k hk => by
        rw [← rowAt_get hm] at hk
        have := W.ahead hm k hk
        unfold fL
        rw [List.getD_eq_getElem?_getD, List.getElem?_range this]
        rfl
      have hmem : R[m] ∈ R := List.getElem_mem hm
      obtain ⟨i1, i2, i3⟩ := idxOf_at hmem
      have hi : idxOf R R[m] = m := W.inj i2 hm (by rw [i3, rowAt_get hm])
      simp only [er, hi]
      rw [List.range_succ]
      unfold newRows
      rw [if_pos hmem]
  have := key R.length (Nat.le_refl _)
  rwa [List.take_length] at this
/-! ### what is needed -/
inductive Rch (R : List Row) (tips : List Nat) : Nat → Prop where
  | tip {k : Nat} : k ∈ tips → Rch R tips k
  | step {k j : Nat} : Rch R tips k → j ∈ (rowAt R k).named → Rch R tips j
structure IsCone (R : List Row) (tips ks : List Nat) : Prop where
  asc : ks.Pairwise (· < ·)
  mem : ∀ k, k ∈ ks ↔ Rch R tips k
theorem asc_ext : ∀ {ks js : List Nat}, ks.Pairwise (· < ·) → js.Pairwise (· < ·) → (∀ k, k ∈ ks ↔ k ∈ js) → ks = js
  | [], [], _, _, _ => rfl
  | [], j :: js, _, _, h => by simpa using (h j).mpr (by simp)
  | k :: ks, [], _, _, h => by simpa using (h k).mp (by simp)
  | k :: ks, j :: js, p, q, h => by
    rw [List.pairwise_cons] at p q
    have e : k = j := by
      have h1 := (h k).mp (by simp)
      have h2 := (h j).mpr (by simp)
      rcases List.mem_cons.mp h1 with z | z
      · exact z
      · rcases List.mem_cons.mp h2 with y | y
        · exact y.symm
        · have := q.1 k z
          have := p.1 j y
          omega
    subst e
    rw [asc_ext p.2 q.2 fun x => ?_]
    have hx := h x
    constructor
    · intro hm
      rcases List.mem_cons.mp (hx.mp (by simp [hm])) with z | z
      · have := p.1 x hm
        omega
      · exact z
    · intro hm
      rcases List.mem_cons.mp (hx.mpr (by simp [hm])) with z | z
      · have := q.1 x hm
        omega
      · exact z
theorem IsCone.uniq {R : List Row} {tips ks js : List Nat} (h : IsCone R tips ks) (g : IsCone R tips js) : ks = js := asc_ext h.asc g.asc fun k => (h.mem k).trans (g.mem k).symm
theorem Rch.lt {R : List Row} (W : Web R) {tips : List Nat} (ht : ∀ k ∈ tips, k < R.length) {k : Nat} (h : Rch R tips k) : k < R.length := by
  induction h with
  | tip h => exact ht _ h
  | step _ hj ih => exact Nat.lt_trans (W.ahead ih _ hj) ih
/-- a list that is closed, as it was gathered -/
structure Gath (R : List Row) (tips found left : List Nat) : Prop where
  from_ : ∀ k, k ∈ found ∨ k ∈ left → Rch R tips k
  tips : ∀ k ∈ tips, k ∈ found ∨ k ∈ left
  next : ∀ k ∈ found, ∀ j ∈ (rowAt R k).named, j ∈ found ∨ j ∈ left
  nd : found.Nodup
theorem Gath.start (R : List Row) (tips : List Nat) : Gath R tips [] tips := ⟨fun k h => h.elim (fun z => nomatch z) .tip, fun k h => .inr h, (fun _ h => nomatch h), List.nodup_nil⟩
theorem Gath.drop {R : List Row} {tips found left : List Nat} {o : Nat} (G : Gath R tips found (left ++ [o])) (h : o ∈ found) : Gath R tips found left := by
  have mv : ∀ k, k ∈ found ∨ k ∈ left ++ [o] → k ∈ found ∨ k ∈ left := fun k hk => hk.elim .inl fun z => by
    rcases List.mem_append.mp z with z | z
    · exact .inr z
    · rw [List.mem_singleton.mp z]
      exact .inl h
  exact ⟨fun k hk => G.from_ k (hk.elim .inl fun z => .inr (List.mem_append_left _ z)), fun k hk => mv k (G.tips k hk), fun k hk j hj => mv j (G.next k hk j hj), G.nd⟩
/-- one more, with some of what it names (those found may be left out) -/
theorem Gath.more {R : List Row} {tips found left js : List Nat} {o : Nat} (G : Gath R tips found (left ++ [o])) (h : o ∉ found) (h1 : ∀ j ∈ js, j ∈ (rowAt R o).named) (h2 : ∀ j ∈ (rowAt R o).named, j ∈ js ∨ j ∈ found ++ [o]) : Gath R tips (found ++ [o]) (left ++ js) := by
  have ro : Rch R tips o := G.from_ o (.inr (by simp))
  have mv : ∀ k, k ∈ found ∨ k ∈ left ++ [o] → k ∈ found ++ [o] ∨ k ∈ left ++ js := fun k hk => hk.elim (fun z => .inl (List.mem_append_left _ z)) fun z => by
    rcases List.mem_append.mp z with z | z
    · exact .inr (List.mem_append_left _ z)
    · exact .inl (List.mem_append_right _ z)
  refine ⟨fun k hk => ?_, fun k hk => mv k (G.tips k hk), fun k hk j hj => ?_, ?_⟩
  · rcases hk with z | z
    · rcases List.mem_append.mp z with z | z
      · exact G.from_ k (.inl z)
      · rw [List.mem_singleton.mp z]
        exact ro
    · rcases List.mem_append.mp z with z | z
      · exact G.from_ k (.inr (List.mem_append_left _ z))
      · exact .step ro (h1 k z)
  · rcases List.mem_append.mp hk with z | z
    · exact mv j (G.next k z j hj)
    · rw [List.mem_singleton.mp z] at hj
      rcases h2 j hj with y | y
      · exact .inr (List.mem_append_right _ y)
      · exact .inl y
  · rw [List.nodup_append]
    refine ⟨G.nd, by simp, fun a ha b hb e => ?_⟩
    rw [List.mem_singleton.mp hb] at e
    exact h (by rw [← e]; exact ha)
theorem Gath.done {R : List Row} {tips found : List Nat} (G : Gath R tips found []) : ∀ k, k ∈ found ↔ Rch R tips k := fun k => by
  refine ⟨fun h => G.from_ k (.inl h), fun h => ?_⟩
  induction h with
  | tip h => exact (G.tips _ h).elim id fun z => nomatch z
  | step _ hj ih => exact (G.next _ ih _ hj).elim id fun z => nomatch z
/-- found, sorted -/
theorem Gath.cone {R : List Row} {tips found ks : List Nat} (G : Gath R tips found []) (hp : ks.Perm found) (hs : ks.Pairwise (· ≤ ·)) : IsCone R tips ks := by
  refine ⟨?_, fun k => hp.mem_iff.trans (G.done k)⟩
  have hn : ks.Nodup := hp.nodup_iff.mpr G.nd
  exact (hs.and hn).imp fun {a b} h => Nat.lt_of_le_of_ne h.1 h.2
/-- how much is left to do -/
def sumN (R : List Row) (found : List Nat) : Nat := ((List.range R.length).map fun k => if k ∈ found then 0 else (rowAt R k).named.length).sum
theorem sum_snoc (g : Nat → Nat) {F : List Nat} {o : Nat} (ho : o ∉ F) : ∀ {l : List Nat}, l.Nodup → (l.map fun k => if k ∈ F ++ [o] then 0 else g k).sum + (if o ∈ l then g o else 0) = (l.map fun k => if k ∈ F then 0 else g k).sum
  | [], _ => by simp
  | x :: l, hn => by
    rw [List.nodup_cons] at hn
    have ih := sum_snoc g ho hn.2
    simp only [List.map_cons, List.sum_cons]
    by_cases hx : x = o
    · subst hx
      rw [if_pos (List.mem_append_right _ (List.mem_singleton.mpr rfl)), if_neg ho, if_pos (List.mem_cons_self ..)]
      rw [if_neg hn.1] at ih
      omega
    · have e1 : (x ∈ F ++ [o]) = (x ∈ F) := by simp [hx]
      have e2 : (o ∈ x :: l) = (o ∈ l) := by simp [Ne.symm hx]
      simp only [e1, e2]
      omega
theorem sumN_snoc {R : List Row} {found : List Nat} {o : Nat} (h : o ∉ found) (hl : o < R.length) : sumN R (found ++ [o]) + (rowAt R o).named.length = sumN R found := by
  have := sum_snoc (fun k => (rowAt R k).named.length) h (l := List.range R.length) List.nodup_range
  rw [if_pos (List.mem_range.mpr hl)] at this
  exact this
theorem sum_le {g : Nat → Nat} {c : Nat} : ∀ {l : List Nat}, (∀ k ∈ l, g k ≤ c) → (l.map g).sum ≤ c * l.length
  | [], _ => by simp
  | x :: l, h => by
    have ih := sum_le (g := g) (c := c) (l := l) fun k hk => h k (List.mem_cons_of_mem _ hk)
    have := h x (List.mem_cons_self ..)
    simp only [List.map_cons, List.sum_cons, List.length_cons, Nat.mul_succ]
    omega
theorem sumN_le {R : List Row} {c : Nat} (h : ∀ k, k < R.length → (rowAt R k).named.length ≤ c) (found : List Nat) : sumN R found ≤ c * R.length := by
  have := sum_le (g := fun k => if k ∈ found then 0 else (rowAt R k).named.length) (c := c) (l := List.range R.length) fun k hk => by
    by_cases z : k ∈ found
    · simp [z]
    · simp only [z, if_false]
      exact h k (List.mem_range.mp hk)
  simpa [sumN] using this
/-! ### webs thinned -/
/-- the place of a number in a list -/
def gI (ks : List Nat) : Nat → Nat := fun k => ks.idxOf k
theorem gI_lt {ks : List Nat} {k : Nat} (h : k ∈ ks) : gI ks k < ks.length := List.idxOf_lt_length_iff.mpr h
theorem gI_get {ks : List Nat} {k : Nat} (h : k ∈ ks) : ks[gI ks k]? = some k := by
  rw [List.getElem?_eq_getElem (gI_lt h)]
  exact congrArg some (List.getElem_idxOf (gI_lt h))
theorem gI_inj {ks : List Nat} {a b : Nat} (ha : a ∈ ks) (hb : b ∈ ks) (e : gI ks a = gI ks b) : a = b := by
  have h1 := gI_get ha
  have h2 := gI_get hb
  rw [e, h2] at h1
  exact (Option.some.inj h1).symm
def thin (R : List Row) (ks : List Nat) : List Row := ks.map fun k => (rowAt R k).led (gI ks)
/-- of a cone: what may be led over so far -/
structure Cone (R : List Row) (ks : List Nat) : Prop where
  web : Web R
  lt : ∀ k ∈ ks, k < R.length
  asc : ks.Pairwise (· < ·)
  clo : ∀ k ∈ ks, ∀ j ∈ (rowAt R k).named, j ∈ ks
theorem IsCone.cone {R : List Row} {tips ks : List Nat} (h : IsCone R tips ks) (W : Web R) (ht : ∀ k ∈ tips, k < R.length) : Cone R ks :=
  ⟨W, fun k hk => ((h.mem k).mp hk).lt W ht, h.asc, fun k hk j hj => (h.mem j).mpr (.step ((h.mem k).mp hk) hj)⟩
theorem asc_take {ks : List Nat} (h : ks.Pairwise (· < ·)) {m : Nat} (hm : m < ks.length) {j : Nat} (hj : j ∈ ks) (hl : j < ks[m]) : j ∈ ks.take m := by
  obtain ⟨i, hi, rfl⟩ := List.mem_iff_getElem.mp hj
  have : i < m := by
    rcases Nat.lt_or_ge i m with z | z
    · exact z
    · rcases Nat.lt_or_ge m i with y | y
      · have := List.pairwise_iff_getElem.mp h m i hm hi y
        omega
      · have e : i = m := by omega
        subst e
        omega
  exact List.mem_take_iff_getElem.mpr ⟨i, by omega, rfl⟩
theorem Cone.step {R : List Row} {ks : List Nat} (C : Cone R ks) {m : Nat} (hm : m < ks.length) : (∀ j ∈ (rowAt R ks[m]).named, j ∈ ks.take m) ∧ (rowAt R ks[m]).led (gI ks) ∉ (thin R ks).take m ∧ why ((thin R ks).take m) ((rowAt R ks[m]).led (gI ks)) = none ∧ ((rowAt R ks[m]).led (gI ks)).ok := by
  have hk : ks[m] ∈ ks := List.getElem_mem hm
  have hl := C.lt _ hk
  have n1 : ∀ j ∈ (rowAt R ks[m]).named, j ∈ ks := fun j hj => C.clo _ hk j hj
  have n2 : ∀ j ∈ (rowAt R ks[m]).named, j < ks[m] := fun j hj => C.web.ahead hl j hj
  have n3 : ∀ j ∈ (rowAt R ks[m]).named, j ∈ ks.take m := fun j hj => asc_take C.asc hm (n1 j hj) (n2 j hj)
  have n4 : ∀ j ∈ ks.take m, gI ks j < m ∧ rowAt ((thin R ks).take m) (gI ks j) = (rowAt R j).led (gI ks) := fun j hj => by
    have hjm : j ∈ ks := List.mem_of_mem_take hj
    obtain ⟨i, hi, e⟩ := List.mem_take_iff_getElem.mp hj
    have hi2 : i < ks.length := by omega
    have hg : gI ks j = i := by
      have nd : ks.Nodup := C.asc.imp fun h => Nat.ne_of_lt h
      have h1 := gI_get hjm
      have h2 : ks[i]? = some j := by rw [List.getElem?_eq_getElem hi2, e]
      exact (List.getElem?_inj (gI_lt hjm) nd).mp (h1.trans h2.symm)
    rw [hg]
    refine ⟨by omega, ?_⟩
    rw [rowAt_take (by omega), rowAt_get (by simp [thin]; omega)]
    simp only [thin, List.getElem_map]
    rw [e]
  refine ⟨n3, ?_, ?_, Row.led_ok (C.web.at_ hl).2.2⟩
  · intro hin
    obtain ⟨i, hi, e⟩ := List.mem_take_iff_getElem.mp hin
    have hi1 : i < m := by omega
    have hi2 : i < ks.length := by omega
    simp only [thin, List.getElem_map] at e
    have hki : ks[i] ∈ ks := List.getElem_mem hi2
    have e2 := Row.led_inj (fun a ha b hb z => gI_inj (C.clo _ hki a ha) (n1 b hb) z) e
    have e3 := C.web.inj (C.lt _ hki) hl e2
    have := List.pairwise_iff_getElem.mp C.asc i m hi2 hm hi1
    omega
  · refine why_led (X := R.take ks[m]) (C.web.at_ hl).1 (fun j hj => ?_) fun a ha b hb z => gI_inj (n1 a ha) (n1 b hb) z
    obtain ⟨h1, h2⟩ := n4 j (n3 j hj)
    refine ⟨by rw [List.length_take]; simp [thin]; omega, ?_⟩
    rw [h2, Row.led_asked, rowAt_take (n2 j hj)]
theorem Cone.web_thin {R : List Row} {ks : List Nat} (C : Cone R ks) : Web (thin R ks) := by
  have key : ∀ m, m ≤ ks.length → Web ((thin R ks).take m) := by
    intro m
    induction m with
    | zero => intro _; rw [List.take_zero]; exact Web.nil
    | succ m ih =>
      intro h
      have hm : m < ks.length := by omega
      obtain ⟨_, h2, h3, h4⟩ := C.step hm
      have hl : m < (thin R ks).length := by simp [thin]; omega
      have et : (thin R ks).take (m + 1) = (thin R ks).take m ++ [(rowAt R ks[m]).led (gI ks)] := by
        rw [List.take_add_one, List.getElem?_eq_getElem hl]
        simp [thin]
      rw [et]
      exact (ih (by omega)).snoc h4 h3 h2
  have := key ks.length (Nat.le_refl _)
  rwa [List.take_of_length_le (by simp [thin])] at this
theorem Row.led_small {r : Row} {f : Nat → Nat} (h : r.small) (hf : ∀ k ∈ r.named, f k ≤ 100) : (r.led f).small := by
  cases r with
  | made n ks =>
    refine ⟨by rw [List.length_map]; exact h.1, fun k hk => ?_⟩
    obtain ⟨j, hj, rfl⟩ := List.mem_map.mp hk
    exact hf j hj
  | asked n ks =>
    refine ⟨by rw [List.length_map]; exact h.1, fun k hk => ?_⟩
    obtain ⟨j, hj, rfl⟩ := List.mem_map.mp hk
    exact hf j hj
  | either a i j => exact ⟨hf a (by simp [Row.named]), hf i (by simp [Row.named]), hf j (by simp [Row.named])⟩
  | given k => exact h
theorem Row.small_named {r : Row} (h : r.small) : r.named.length ≤ 3 := by
  cases r with
  | made n ks => exact h.1
  | asked n ks => exact h.1
  | either a i j => exact Nat.le_refl _
  | given k => exact Nat.zero_le _
theorem thin_small {R : List Row} {ks : List Nat} (C : Cone R ks) (h : ∀ r ∈ R, r.small) (hl : ks.length ≤ 100) : ∀ r ∈ thin R ks, r.small := fun r hr => by
  obtain ⟨k, hk, rfl⟩ := List.mem_map.mp hr
  exact Row.led_small (h _ (rowAt_mem (C.lt k hk))) fun j hj => Nat.le_of_lt (Nat.lt_of_lt_of_le (gI_lt (C.clo k hk j hj)) hl)
theorem asc_len {n : Nat} : ∀ {ks : List Nat} {lo : Nat}, ks.Pairwise (· < ·) → (∀ k ∈ ks, lo ≤ k ∧ k < n) → ks.length ≤ n - lo
  | [], _, _, _ => Nat.zero_le _
  | k :: ks, lo, p, h => by
    rw [List.pairwise_cons] at p
    have ih := asc_len (lo := k + 1) p.2 fun j hj => ⟨p.1 j hj, (h j (List.mem_cons_of_mem _ hj)).2⟩
    have := h k (List.mem_cons_self ..)
    simp only [List.length_cons]
    omega
theorem cone_len {R : List Row} {ks : List Nat} (C : Cone R ks) : ks.length ≤ R.length := by
  have := asc_len (lo := 0) C.asc fun k hk => ⟨Nat.zero_le _, C.lt k hk⟩
  omega
end K8

/-! Meanings row by row: no calls here. -/
namespace K8
open PySem PySem.Spec PyProof.Rows L2 WR
theorem Row.badTest_take {R : List Row} {c i j n : Nat} (hc : c < n) (h : (Row.either c i j).badTest (R.take n) = false) : (rowAt R c).isAsked = true := by
  have h' : (!(rowAt (R.take n) c).isAsked) = false := h
  rw [rowAt_take hc] at h'
  simpa using h'
/-- what a web gives at its n-th row, behind worths of their kinds -/
theorem Web.mw {R : List Row} {ms : List Wt} (W : Web R) (h : ms.length < R.length) (kinds : ∀ k, k < ms.length → (wAt ms k).isB = (rowAt R k).isAsked) : Mw R ms := by
  obtain ⟨h1, _, hok⟩ := W.at_ h
  obtain ⟨w1, w2, w3, _⟩ := why_none.mp h1
  have la : (R.take ms.length).length = ms.length := by rw [List.length_take]; omega
  refine ⟨fun i hi k hk => W.ahead (show i < R.length by omega) k hk, hok, kinds, fun k hk => ?_, fun c i j e => ?_⟩
  · have := w3 k hk
    unfold isPart at this
    simp only [Bool.and_eq_true, decide_eq_true_eq, Bool.not_eq_true'] at this
    rw [← rowAt_take (R := R) (i := ms.length) (by rw [← la]; exact this.1)]
    exact this.2
  · rw [e] at w1 w2
    refine Row.badTest_take (n := ms.length) ?_ w2
    have := w1 c (by simp [Row.named])
    rwa [la] at this
/-- the first worths are right, what is left is judged next -/
structure Pre (R : List Row) (ds : List PyData) (ms : List Wt) : Prop where
  len : ms.length ≤ R.length
  lend : ms.length ≤ ds.length
  kinds : ∀ k, k < ms.length → (wAt ms k).isB = (rowAt R k).isAsked
  at_ : ∀ k, k < ms.length → ds[k]? = some (wAt ms k).d
  go : mFault R [] R ds = mFault R ms (R.drop ms.length) (ds.drop ms.length)
theorem Pre.nil (R : List Row) (ds : List PyData) : Pre R ds [] := ⟨Nat.zero_le _, Nat.zero_le _, (fun _ h => absurd h (Nat.not_lt_zero _)), (fun _ h => absurd h (Nat.not_lt_zero _)), rfl⟩
theorem mFault_cons {R : List Row} {ms : List Wt} {ds : List PyData} {e : PyData} (h : ms.length < R.length) (he : ds[ms.length]? = some e) :
    mFault R ms (R.drop ms.length) (ds.drop ms.length) = (match worthWhy R ms (rowAt R ms.length) e with
      | some x => some (ms.length, x)
      | none => (match wtOf (rowAt R ms.length) e with
        | some x => mFault R (ms ++ [x]) (R.drop (ms.length + 1)) (ds.drop (ms.length + 1))
        | none => none)) := by
  obtain ⟨h2, he⟩ := List.getElem?_eq_some_iff.mp he
  rw [List.drop_eq_getElem_cons h, List.drop_eq_getElem_cons h2, he, ← rowAt_get h]
  rfl
theorem Pre.fault {R : List Row} {ds : List PyData} {ms : List Wt} {e : PyData} {s : Str} (P : Pre R ds ms) (h : ms.length < R.length) (he : ds[ms.length]? = some e) (hw : worthWhy R ms (rowAt R ms.length) e = some s) : mFault R [] R ds = some (ms.length, s) := by
  rw [P.go, mFault_cons h he, hw]
theorem worthWhy_none {R : List Row} {ms : List Wt} {r : Row} {e : PyData} (h : worthWhy R ms r e = none) : ∃ y, wtOf r e = some y := by
  cases hw : wtOf r e with
  | some y => exact ⟨y, rfl⟩
  | none =>
    unfold worthWhy at h
    rw [hw] at h
    cases h
theorem Pre.step {R : List Row} {ds : List PyData} {ms : List Wt} {e : PyData} {y : Wt} (P : Pre R ds ms) (h : ms.length < R.length) (he : ds[ms.length]? = some e) (hw : worthWhy R ms (rowAt R ms.length) e = none) (hy : wtOf (rowAt R ms.length) e = some y) : Pre R ds (ms ++ [y]) := by
  obtain ⟨e1, e2⟩ := wtOf_d hy
  have hl : (ms ++ [y]).length = ms.length + 1 := by simp
  have key : ∀ k, k < (ms ++ [y]).length → k < ms.length ∨ k = ms.length := fun k hk => by omega
  refine ⟨by omega, ?_, fun k hk => ?_, fun k hk => ?_, ?_⟩
  · have := (List.getElem?_eq_some_iff.mp he).1
    omega
  · rcases key k hk with z | rfl
    · rw [wAt_app z]
      exact P.kinds k z
    · rw [wAt_last]
      exact e2
  · rcases key k hk with z | rfl
    · rw [wAt_app z]
      exact P.at_ k z
    · rw [wAt_last, he, e1]
  · rw [P.go, mFault_cons h he, hw, hy, hl]
theorem Pre.done {R : List Row} {ds : List PyData} {ms : List Wt} (P : Pre R ds ms) (h : ms.length = R.length ∨ ms.length = ds.length) : mFault R [] R ds = none := by
  rw [P.go]
  rcases h with h | h
  · rw [h, List.drop_length]
    cases ds.drop R.length <;> rfl
  · rw [h, List.drop_length]
    cases R.drop ds.length <;> rfl
end K8

/-! first_wrong, is_part of any thing, judged_part, join_rows, joined_webs, same_part. -/
namespace K8
open PySem PySem.Spec PyProof.Rows L2 WR
def firstF : List Bool → Nat → Option Nat
  | [], _ => none
  | b :: bs, n => if b = false then some n else firstF bs (n + 1)
def natO : Option Nat → V
  | none => .non
  | some k => .int (k : Nat)
def isPartD (R : List Row) : PyData → Bool
  | .int i => decide (0 ≤ i) && (decide (i < (R.length : Int)) && !(rowAt R i.toNat).isAsked)
  | _ => false
theorem isPartD_nat (R : List Row) (k : Nat) : isPartD R (.int (k : Nat)) = isPart R k := by
  show (decide ((0 : Int) ≤ (k : Nat)) && (decide (((k : Nat) : Int) < (R.length : Int)) && !(rowAt R ((k : Nat) : Int).toNat).isAsked)) = (decide (k < R.length) && !(rowAt R k).isAsked)
  rw [decide_eq_true (Int.natCast_nonneg k), Bool.true_and, Int.toNat_natCast, decide_eq_decide.mpr (show ((k : Nat) : Int) < (R.length : Int) ↔ k < R.length by omega)]
theorem isPartD_int {R : List Row} {d : PyData} (h : isPartD R d = true) : ∃ k : Nat, d = .int (k : Nat) ∧ isPart R k = true ∧ k < R.length := by
  cases d with
  | int i =>
    have h' := h
    simp only [isPartD, Bool.and_eq_true, decide_eq_true_eq] at h'
    obtain ⟨k, rfl⟩ := Int.eq_ofNat_of_zero_le h'.1
    refine ⟨k, rfl, by rw [← isPartD_nat]; exact h, by omega⟩
  | _ => cases h
theorem Scan.web {R R' : List Row} {n : Nat} {ds : List PyData} {f : PyData} (h : Scan R n ds R' f) : wdA ds = true → Web R → Web R' := by
  induction h with
  | next e1 e2 e3 _ ih =>
    intro w W
    simp only [wdA, Bool.and_eq_true] at w
    refine ih w.2 (W.snoc ?_ e2 e3)
    rcases rowForm_row w.1 with z | ⟨r', z, ok⟩
    · exact absurd (e1.symm.trans z) (Row.d_ne _)
    · rw [Row.d_inj (e1.symm.trans z)]
      exact ok
  | _ => exact fun _ W => W
theorem ScanOf.web {d : PyData} {R : List Row} {f : PyData} (h : ScanOf d R f) (w : wd d = true) : Web R := by
  rcases h with ⟨hL, h⟩ | ⟨_, rfl, _⟩
  · exact h.web (wd_its w hL).2 Web.nil
  · exact Web.nil
theorem ScanOf.lenI {d : PyData} {R : List Row} {f : PyData} (h : ScanOf d R f) : R.length ≤ (its d).length := by
  rcases h with ⟨_, h⟩ | ⟨_, rfl, _⟩
  · have := h.len
    simpa using this
  · exact Nat.zero_le _
abbrev spFirst : Sp := fun vs H Q _ => ∃ (a : Addr) (bs : List Bool), vs = [.ref a] ∧ H a = some (.lst (bs.map V.bl)) ∧ ∀ H', Sm H H' → Q (natO (firstF bs 0)) H'
abbrev spIsPartD : Sp := fun vs H Q _ => ∃ (v u : V) (R : List Row) (d : PyData), vs = [v, u] ∧ Dr All H v (rowsD R) ∧ Dr All H u d ∧ ∀ H', Sm H H' → Q (.bl (isPartD R d)) H'
abbrev spJPart (CP : Addr) : Sp := fun vs H Q E => ∃ (v u : V) (R : List Row) (d : PyData), vs = [v, u] ∧ Dr All H v (rowsD R) ∧ Dr All H u d ∧ (isPartD R d = true → ∀ H', Sm H H' → Q u H') ∧
  (isPartD R d = false → ∀ (dx : Addr) H', Sm H H' → H dx = none → H' dx = some (.xd [("part", u)]) → E (.ref CP) (some dx) H')
/-- all but a table's list and dict stay -/
def FrT (l dd : Addr) (H H' : Hp) : Prop := ∀ b o, b ≠ l → b ≠ dd → H b = some o → H' b = some o
theorem FrT.of {l dd : Addr} {H H' : Hp} (s : Sm H H') : FrT l dd H H' := fun b o _ _ e => s b o e
theorem FrT.trans {l dd : Addr} {H H1 H2 : Hp} (s : FrT l dd H H1) (t : FrT l dd H1 H2) : FrT l dd H H2 := fun b o h1 h2 e => t b o h1 h2 (s b o h1 h2 e)
theorem FrT.new {l dd : Addr} {H0 H H' : Hp} (s : Sm H0 H) (nl : H0 l = none) (nd : H0 dd = none) (t : FrT l dd H H') : Sm H0 H' := fun b o e => t b o (ne_of_none e nl) (ne_of_none e nd) (s b o e)
/-- a list of another's is written -/
theorem Tb.list {P : Program} {w : World} {C : Addr} {H : Hp} {t l d q : Addr} {R : List Row} {as : List Addr} {xs ys : List V} (T : Tb P w C H t l d R as) (n1 : q ≠ l) (n2 : q ≠ d) (e : H q = some (.lst xs)) : Tb P w C (upd H q (.lst ys)) t l d R as := by
  obtain ⟨dx, ob⟩ := T.ob
  have st : Stays No H (upd H q (.lst ys)) := ⟨fun _ _ z => z.elim, fun b zs z => by
    rw [upd_ne fun y => by rw [y, e] at z; cases z]
    exact z⟩
  refine ⟨⟨dx, by rw [upd_ne fun y => by rw [y, e] at ob; cases ob]; exact ob⟩, T.len, by rw [upd_ne (Ne.symm n1)]; exact T.ls, T.rs.mono (fun _ z => z) st, ⟨?_, fun x hx => ⟨(T.rd.keys x hx).1, (((T.rd.keys x hx).2.fz (M := No) (T.rd.keys x hx).1.fz).mono (fun _ z => z) st).all⟩⟩, T.ok, T.nd⟩
  rw [upd_ne (Ne.symm n2)]
  exact T.rd.at_
section
variable {P : Program} {w : World} {K : PySem.W.Frag} {mg : Str → Option Value} {base : Heap}
theorem sc_first_wrong : FnScope ["oks", "at", "is_right"] ["oks"] (defScope sfirst_wrong) := ⟨rfl, rfl, rfl, by decide +kernel, rfl, by decide +kernel, by decide +kernel⟩
theorem ok_first_wrong (B : Bt mg) (F : Fn K mg dfirst_wrong) : Df P w K mg base CX0 1 "first_wrong" ["oks"] spFirst := by
  obtain ⟨f, fd, hm, F⟩ := F
  refine ⟨f, fd, hm, F.kp, F.bindsN fun _ _ _ _ _ _ us hl => match us, hl with | [_], _ => rfl, ?_⟩
  refine F.ok sc_first_wrong (fun vs H Q E h => by obtain ⟨a, bs, rfl, _⟩ := h; rfl) (fun cdv A outer s H vs Q E hr h => ?_)
  obtain ⟨a, bs, rfl, ea, q⟩ := h
  refine ⟨_, PSs.nox (pss_cons (ps_for PassesOwn.never rfl (pi_enS B.enumerate (pa_cons (pv 0) pa_nil)) (pg_tup rfl (pgs_cons (pg_name (i := 1) sc_first_wrong.nd rfl (by first | exact Or.inl rfl | exact Or.inr rfl)) (pgs_cons (pg_name (i := 2) sc_first_wrong.nd rfl (by first | exact Or.inl rfl | exact Or.inr rfl)) pgs_nil))) (pss_one (ps_if (pt_not (pt_val (pv 2))) (pss_one (ps_ret (pv 1))) pss_nil)))
      (pss_one (ps_ret pe_non))), ?_⟩
  refine ⟨_, rfl, a, _, rfl, .inl ea, fun J hJ => ?_⟩
  refine for_enS hJ (fun i σ3 H3 => ∃ x1 x2, σ3 = [some (.ref a), x1, x2] ∧ Sm H H3 ∧ firstF bs 0 = firstF (bs.drop i) i) ?_ ?_ ?_ ?_
  · exact ⟨_, _, rfl, Sm.rfl', rfl⟩
  · rintro i σ3 H3 ⟨_, _, _, s, _⟩
    rw [s _ _ ea, ea]
  · rintro i x σ3 H3 T0 hx ⟨x1, x2, rfl, s3, e3⟩ nT
    rw [List.getElem?_map] at hx
    obtain ⟨b, hb, rfl⟩ := Option.map_eq_some_iff.mp hx
    obtain ⟨hi, eb⟩ := List.getElem?_eq_some_iff.mp hb
    have sT : Sm H3 (upd H3 T0 (.tup [.int (i : Nat), V.bl b])) := Sm.new nT
    refine ⟨T0, _, rfl, SqT.of upd_same, rfl, _, _, rfl, _, _, rfl, rfl, ?_⟩
    have ed : bs.drop i = b :: bs.drop (i + 1) := by rw [List.drop_eq_getElem_cons hi, eb]
    rw [ed] at e3
    refine ⟨_, rfl, _, rfl, ?_⟩
    cases b with
    | true => exact iteF ⟨_, _, rfl, s3.trans sT, e3⟩
    | false =>
      refine iteT ⟨_, rfl, ?_⟩
      have := q _ (s3.trans sT)
      rw [e3] at this
      exact this
  · rintro σ3 H3 ⟨x1, x2, rfl, s3, e3⟩
    have := q _ s3
    rw [e3, List.length_map, List.drop_length] at this
    exact this
end
end K8

/-! rows_fault, is_meaning, meaning_fault. -/
namespace K8
open PySem PySem.Spec PyProof.Rows L2 WR
abbrev spRowsFault : Sp := fun vs H Q _ => ∃ (v u : V) (R : List Row) (d : PyData), vs = [v, u] ∧ Dr All H v (rowsD R) ∧ Web R ∧ R.length ≤ lim ∧ Dr All H u d ∧ wd d = true ∧ ∀ z H', Sm H H' → Dr All H' z (mFaultD R d) → Q z H'
theorem gw_stays {dd : Addr} {H H' : Hp} (hd : ∀ us, H dd ≠ some (.tup us)) (g : Gw dd H H') : Stays (Ne dd) H H' := ⟨fun a o h z => g a o h z, fun a us z => g a _ (fun y => hd us (by rw [← y]; exact z)) z⟩
theorem gw_sm {dd : Addr} {H H1 H' : Hp} (s : Sm H H1) (nd : H dd = none) (g : Gw dd H1 H') : Sm H H' := fun b o e => g b o (ne_of_none e nd) (s b o e)
theorem dr_ne {H H' : Hp} {l : Addr} (s : Sm H H') (nl : H l = none) {v : V} {d : PyData} (r : Dr All H v d) : Dr (Ne l) H' v d :=
  r.live.mono (fun a h z => h.2 (by rw [z]; exact nl)) (Stays.of s)
section
variable {P : Program} {w : World} {K : PySem.W.Frag} {mg : Str → Option Value} {base : Heap}
theorem sc_rows_fault : FnScope ["rows", "thing", "asked_for", "at", "row", "why"] ["rows", "thing"] (defScope srows_fault) := ⟨rfl, rfl, rfl, by decide +kernel, rfl, by decide +kernel, by decide +kernel⟩
theorem ok_rows_fault (B : Bt mg) (F : Fn K mg drows_fault) (D1 : Df P w K mg base CX0 1 "is_list" ["thing"] spIsList) (D2 : Df P w K mg base CX0 2 "worth_why" ["row", "worth", "meaning", "asked_for"] (spWorthWhy P w)) :
    Df P w K mg base CX0 3 "rows_fault" ["rows", "thing"] spRowsFault := by
  obtain ⟨f, fd, hm, F⟩ := F
  refine ⟨f, fd, hm, F.kp, F.bindsN fun _ _ _ _ _ _ us hl => match us, hl with | [_, _], _ => rfl, ?_⟩
  refine F.ok sc_rows_fault (fun vs H Q E h => by obtain ⟨v, u, R, d, rfl, _⟩ := h; rfl) (fun cdv A outer s H vs Q E hr h => ?_)
  obtain ⟨v, u, R, d, rfl, rr, WR', hR, ru, wdd, q⟩ := h
  have hr1 := hr.mono (show 1 ≤ 2 by decide)
  refine ⟨_, PSs.nox (pss_cons (ps_if (pt_not (pt_val (pe_df D1 hr1 pass0 (pa_cons (pv 1) pa_nil)))) (pss_one (ps_ret (pe_tup (pa_cons pe_int (pa_cons pe_str pa_nil))))) pss_nil)
      (pss_cons (ps_set (i := 2) sc_rows_fault.nd rfl (by first | exact Or.inl rfl | exact Or.inr rfl) pe_dnewK)
      (pss_cons (ps_for PassesOwn.never rfl (pi_enS B.enumerate (pa_cons (pe_slice sl_D (pv 0) po_none (po_some (pe_callB call_lenS (by rfl) B.len (by decide +kernel) (pa_cons (pv 1) pa_nil)))) pa_nil)) (pg_tup rfl (pgs_cons (pg_name (i := 3) sc_rows_fault.nd rfl (by first | exact Or.inl rfl | exact Or.inr rfl)) (pgs_cons (pg_name (i := 4) sc_rows_fault.nd rfl (by first | exact Or.inl rfl | exact Or.inr rfl)) pgs_nil))) (pss_cons (ps_set (i := 5) sc_rows_fault.nd rfl (by first | exact Or.inl rfl | exact Or.inr rfl) (pe_df D2 hr pass0 (pa_cons (pv 4) (pa_cons (pe_ix ix_D (pv 1) (pv 3) (fun _ _ => rfl)) (pa_cons (pv 1) (pa_cons (pv 2) pa_nil))))))
      (pss_one (ps_if (pt_cmpR op_notN (pv 5) pe_non (nomark _)) (pss_one (ps_ret (pe_tup (pa_cons (pv 3) (pa_cons (pv 5) pa_nil))))) pss_nil))))
      (pss_one (ps_ret (pe_ifExp (pt_cmpR op_eq (pe_callB call_lenS (by rfl) B.len (by decide +kernel) (pa_cons (pv 1) pa_nil)) (pe_callB call_lenS (by rfl) B.len (by decide +kernel) (pa_cons (pv 0) pa_nil)) (nomark _)) pe_non (pe_tup (pa_cons pe_str (pa_cons (pe_callB call_lenS (by rfl) B.len (by decide +kernel) (pa_cons (pv 0) pa_nil)) pa_nil))))))))), ?_⟩
  have sz2 : 2 ≤ sizeLine := by decide
  have hlim : lim = 4000 := rfl
  have hsl := lim_lt
  refine ⟨_, rfl, spP1_of ru trivial fun y H1 s1 r1 => ?_⟩
  cases r1.bl_inv
  refine ⟨_, rfl, ?_⟩
  rw [show isL ([d].headD .none) = isL d from rfl]
  cases hL : isL d with
  | false =>
    refine iteT ⟨sz2, fun p np => q _ _ (s1.trans (Sm.new np)) ?_⟩
    have e : mFaultD R d = .tuple [.int 0, .str "form"] := by unfold mFaultD; rw [if_neg (by rw [hL]; exact Bool.false_ne_true)]
    rw [e]
    exact .tup upd_same (.cons (.int _) (.one (.str _)))
  | true =>
    refine iteF ?_
    have eq : mFaultD R d = (match mFault R [] R (its d) with
        | some (k, x) => .tuple [.int (k : Nat), .str x]
        | none => if (its d).length = R.length then .none else .tuple [.str "many", .int (R.length : Nat)]) := by
      unfold mFaultD
      rw [if_pos hL]
      try rfl
    have wl := (wd_its wdd hL).1
    -- asked_for
    intro dd ndd1
    have ndd : H dd = none := s1.free ndd1
    have s2 := s1.trans (Sm.new (o := .dK []) ndd1)
    have edd : upd H1 dd (.dK []) dd = some (.dK []) := upd_same
    generalize upd H1 dd (.dK []) = H2 at s2 edd ⊢
    clear ndd1 s1
    refine ⟨_, rfl, _, rfl, u, d, rfl, ru.sm s2, hL, _, rfl, rowsD R, rr.sm s2, rfl, fun sv H3 s3 rs => ?_⟩
    have ecut : cutA (its (rowsD R)) none (some ((its d).length : Int)) = (R.map Row.d).take (its d).length := cutA_to _ _
    rw [ecut] at rs
    obtain ⟨la, xs, rfl, ela, rxs⟩ : ∃ a xs, sv = .ref a ∧ H3 a = some (.lst xs) ∧ DrA All H3 xs ((R.map Row.d).take (its d).length) := by
      cases rs with
      | lst _ e r => exact ⟨_, _, rfl, e, r⟩
    have lxs : xs.length = min (its d).length R.length := by rw [rxs.length, List.length_take, List.length_map]
    have edd3 := s3 _ _ edd
    have nla : la ≠ dd := fun z => by rw [z, edd3] at ela; cases ela
    have s03 := s2.trans s3
    have rrN := dr_ne s03 ndd rr
    have ruN := dr_ne s03 ndd ru
    have rxN : DrA No H3 xs ((R.map Row.d).take (its d).length) := rxs.fz (by
      have : ∀ l : List Row, fzA (l.map Row.d) = true := fun l => by
        induction l with
        | nil => rfl
        | cons r l ih =>
          show (WR.fz r.d && fzA (l.map Row.d)) = true
          rw [ih, Row.fz]
          rfl
      rw [← List.map_take]
      exact this _)
    have htup : ∀ us, H3 dd ≠ some (.tup us) := fun us z => by rw [edd3] at z; cases z
    refine ⟨la, xs, rfl, .inl ela, fun J hJ => ?_⟩
    refine for_enS hJ (fun i σ4 H4 => ∃ (ms : List Wt) (es : List Ent) (x3 x4 x5 : Option V), σ4 = [some v, some u, some (.ref dd), x3, x4, x5] ∧ Gw dd H3 H4 ∧ ms.length = i ∧ Pre R (its d) ms ∧ RD P w H4 dd es ∧ Kn R ms es) ?_ ?_ ?_ ?_
    · exact ⟨[], [], _, _, _, rfl, Gw.of Sm.rfl', rfl, .nil R _, ⟨.inl ⟨rfl, edd3⟩, fun q hq => nomatch hq⟩, .nil R⟩
    · rintro i σ4 H4 ⟨_, _, _, _, _, _, g, _⟩
      rw [g _ _ nla ela, ela]
    · rintro i x σ4 H4 T hx ⟨ms, es, x3, x4, x5, rfl, g4, hi, pre, rd4, kn⟩ nT
      have hix := (List.getElem?_eq_some_iff.mp hx).1
      have hiR : ms.length < R.length := by omega
      have hid : ms.length < (its d).length := by omega
      have sT : Sm H4 (upd H4 T (.tup [.int (i : Nat), x])) := Sm.new nT
      have st := gw_stays htup g4
      have rr4 := ((rrN.mono (fun _ z => z) st).sm sT).all
      have ru4 := ((ruN.mono (fun _ z => z) st).sm sT).all
      obtain ⟨dx, e1, rx⟩ := rxN.get hx
      have rx4 : Dr All (upd H4 T (.tup [.int (i : Nat), x])) x dx := ((rx.mono (M := No) (fun _ z => z) ⟨fun _ _ z => z.elim, st.tup⟩).sm sT).all
      have edx : dx = (rowAt R ms.length).d := by
        rw [List.getElem?_take_of_lt (by omega), List.getElem?_map, hi.symm, List.getElem?_eq_getElem hiR] at e1
        rw [rowAt_get hiR]
        exact (Option.some.inj e1).symm
      subst edx
      have he : (its d)[ms.length]? = some (its d)[ms.length] := List.getElem?_eq_getElem hid
      generalize (its d)[ms.length] = e at he
      have rd4' := RD.sm sT rd4
      refine ⟨T, _, rfl, SqT.of upd_same, rfl, _, _, rfl, _, _, rfl, rfl, ?_⟩
      have g5 := g4.trans (Gw.of sT)
      generalize upd H4 T (.tup [.int (i : Nat), x]) = H5 at rr4 ru4 rx4 rd4' g5 ⊢
      subst hi
      refine ⟨_, rfl, _, rfl, _, rfl, d, ms.length, e, ru4, hL, rfl, he, fun xw rw' => ?_⟩
      refine ⟨_, rfl, _, rfl, x, xw, u, dd, R, ms, e, es, rfl, rx4, rw', ⟨d, ru4, hL, pre.at_⟩, WR'.mw hiR pre.kinds, by omega, rd4', kn, fun s H6 hw s6 => ?_, fun y es' H6 hw hy g6 rd6 kn6 => ?_⟩
      · refine ⟨_, rfl, rfl, _, rfl, ?_⟩
        rw [show (!decide (V.str s = V.non)) = true by simp]
        refine iteT ⟨_, rfl, _, rfl, sz2, fun p np => q _ _ ((gw_sm s03 ndd (g5.trans (Gw.of s6))).trans (Sm.new np)) ?_⟩
        rw [eq, pre.fault hiR he hw]
        exact .tup upd_same (.cons (.int _) (.one (.str _)))
      · refine ⟨_, rfl, rfl, _, rfl, iteF ?_⟩
        exact ⟨ms ++ [y], es', _, _, _, rfl, g5.trans g6, by simp, pre.step hiR he hw hy, rd6, kn6⟩
    · rintro σ4 H4 ⟨ms, es, x3, x4, x5, rfl, g4, hi, pre, rd4, kn⟩
      have st := gw_stays htup g4
      have rr4 := (rrN.mono (fun _ z => z) st).all
      have ru4 := (ruN.mono (fun _ z => z) st).all
      rw [pre.done (by omega)] at eq
      dsimp only at eq
      have elR : (its (rowsD R)).length = R.length := by simp [rowsD, its]
      have s4 := gw_sm s03 ndd g4
      refine ⟨_, rfl, u, d, rfl, ru4, hL, _, rfl, v, _, rfl, rr4, rfl, rfl, _, rfl, ?_⟩
      rw [elR]
      by_cases hq : (its d).length = R.length
      · rw [if_pos hq] at eq
        rw [hq, decide_eq_true rfl]
        refine iteT (q _ _ s4 ?_)
        rw [eq]
        exact .non
      · rw [if_neg hq] at eq
        rw [decide_eq_false (fun z => hq (by injection z with z; omega))]
        refine iteF ⟨_, rfl, v, _, rfl, rr4, rfl, ?_⟩
        rw [elR]
        refine ⟨sz2, fun p np => q _ _ (s4.trans (Sm.new np)) ?_⟩
        rw [eq]
        exact .tup upd_same (.cons (.str _) (.one (.int _)))
end
end K8

/-! is_meaning, meaning_fault. -/
namespace K8
open PySem PySem.Spec PyProof.Rows L2 WR
theorem ScanOf.lenW {d : PyData} {R : List Row} {f : PyData} (h : ScanOf d R f) (w : wd d = true) : R.length ≤ lim := by
  have h1 := h.lenI
  by_cases hL : isL d = true
  · have := (wd_its w hL).1
    omega
  · have e : its d = [] := by cases d <;> first | rfl | exact absurd rfl hL
    rw [e] at h1
    exact Nat.le_trans h1 (Nat.zero_le _)
theorem none_dec {N : Addr → Prop} {H : Hp} {z : V} {D : PyData} (r : Dr N H z D) : decide (z = V.non) = noneB D := by
  cases r <;> simp [noneB]
/-- what is told of a web and a thing -/
def spMF (CW : Addr) (P : List Row → PyData → V → Hp → Prop) : Sp := fun vs H Q E => ∃ (v u : V) (d e : PyData), vs = [v, u] ∧ Dr All H v d ∧ wd d = true ∧ Dr All H u e ∧ wd e = true ∧
  (∀ (R : List Row) z H', ScanOf d R .none → Sm H H' → P R e z H' → Q z H') ∧
  (∀ (R : List Row) (n : Nat) (x : Str) (dx : Addr) (H' : Hp), ScanOf d R (faultD n x) → Sm H H' → H dx = none → H' dx = some (.xd [("index", .int (n : Nat))]) → E (.ref CW) (some dx) H')
abbrev spMFault (CW : Addr) : Sp := spMF CW fun R e z H' => Dr All H' z (mFaultD R e)
abbrev spIsMean (CW : Addr) : Sp := spMF CW fun R e z _ => z = .bl (noneB (mFaultD R e))
section
variable {P : Program} {w : World} {K : PySem.W.Frag} {mg : Str → Option Value} {base : Heap} {C CW : Addr}
theorem sc_meaning_fault : FnScope ["web", "thing"] ["web", "thing"] (defScope smeaning_fault) := ⟨rfl, rfl, rfl, by decide +kernel, rfl, by decide +kernel, by decide +kernel⟩
theorem okF_meaning_fault (T : RT P w K mg base C) (F : Fn K mg dmeaning_fault) (D1 : Df P w K mg base (L2.CX P w) 6 "judged_web" ["web"] (spJudge P w C CW)) (D2 : Df P w K mg base CX0 3 "rows_fault" ["rows", "thing"] spRowsFault) :
    DfF P w K mg base (L2.CX P w) 7 "meaning_fault" ["web", "thing"] (spMFault CW) dmeaning_fault := by
  obtain ⟨f, fd, hm, F⟩ := F
  refine ⟨f, fd, hm, F, F.bindsN fun _ _ _ _ _ _ us hl => match us, hl with | [_, _], _ => rfl, ?_⟩
  refine F.ok sc_meaning_fault (fun vs H Q E h => by obtain ⟨v, u, d, e, rfl, _⟩ := h; rfl) (fun cdv A outer s H vs Q E hr h => ?_)
  obtain ⟨v, u, d, e, rfl, rd, wdd, re, wde, q1, q2⟩ := h
  have hr3 := hr.mono (show 3 ≤ 6 by decide)
  refine ⟨_, (pss_one (ps_ret (pe_df D2 hr3 pass0 (pa_cons (pe_fld (pe_df D1 hr (passes_call (takes_of rfl rfl rfl rfl) (fun _ _ _ _ z => z)) (pa_cons (pv 0) pa_nil)) rfl) (pa_cons (pv 1) pa_nil))))), ?_⟩
  refine ⟨_, rfl, v, d, rfl, rd, wdd, fun t l dd R as H1 sc s1 nt nl nd tb => ?_, fun R n x dx H' sc s nd hx => q2 R n x dx H' sc s nd hx⟩
  obtain ⟨dx1, ob1⟩ := tb.ob
  refine ⟨t, C, dx1, _, _, rfl, ob1, T.cl, T.nR, flds_rows l dd, _, rfl, .ref l, u, R, e, rfl, tb.rows, sc.web wdd, sc.lenW wdd, re.sm s1, wde, fun z H2 s2 rz => q1 R z H2 sc (s1.trans s2) rz⟩
theorem sc_is_meaning : FnScope ["web", "thing"] ["web", "thing"] (defScope sis_meaning) := ⟨rfl, rfl, rfl, by decide +kernel, rfl, by decide +kernel, by decide +kernel⟩
theorem okF_is_meaning (T : RT P w K mg base C) (F : Fn K mg dis_meaning) (D1 : Df P w K mg base (L2.CX P w) 6 "judged_web" ["web"] (spJudge P w C CW)) (D2 : Df P w K mg base CX0 3 "rows_fault" ["rows", "thing"] spRowsFault) :
    DfF P w K mg base (L2.CX P w) 7 "is_meaning" ["web", "thing"] (spIsMean CW) dis_meaning := by
  obtain ⟨f, fd, hm, F⟩ := F
  refine ⟨f, fd, hm, F, F.bindsN fun _ _ _ _ _ _ us hl => match us, hl with | [_, _], _ => rfl, ?_⟩
  refine F.ok sc_is_meaning (fun vs H Q E h => by obtain ⟨v, u, d, e, rfl, _⟩ := h; rfl) (fun cdv A outer s H vs Q E hr h => ?_)
  obtain ⟨v, u, d, e, rfl, rd, wdd, re, wde, q1, q2⟩ := h
  have hr3 := hr.mono (show 3 ≤ 6 by decide)
  refine ⟨_, (pss_one (ps_ret (pe_cmpR op_isN (pe_df D2 hr3 pass0 (pa_cons (pe_fld (pe_df D1 hr (passes_call (takes_of rfl rfl rfl rfl) (fun _ _ _ _ z => z)) (pa_cons (pv 0) pa_nil)) rfl) (pa_cons (pv 1) pa_nil))) pe_non (nomark _)))), ?_⟩
  refine ⟨_, rfl, v, d, rfl, rd, wdd, fun t l dd R as H1 sc s1 nt nl nd tb => ?_, fun R n x dx H' sc s nd hx => q2 R n x dx H' sc s nd hx⟩
  obtain ⟨dx1, ob1⟩ := tb.ob
  refine ⟨t, C, dx1, _, _, rfl, ob1, T.cl, T.nR, flds_rows l dd, _, rfl, .ref l, u, R, e, rfl, tb.rows, sc.web wdd, sc.lenW wdd, re.sm s1, wde, fun z H2 s2 rz => ?_⟩
  refine ⟨rfl, q1 R _ H2 sc (s1.trans s2) ?_⟩
  have h : decide (z = V.non) = noneB (mFaultD R e) := none_dec rz
  rw [h]
end
end K8

/-! Free walks: no Python here. -/
namespace K8
open PySem PySem.Spec PyProof.Rows L2 WR
/-- where a free walk is: the worths, what was chosen, how many numbers are used -/
structure Fs where
  ms : List Wt
  ch : List Bool
  n : Nat
def Row.isMadeB : Row → Bool
  | .made _ _ => true
  | _ => false
/-- the next choice -/
def nextC (cs ch : List Bool) : Bool := if ch.length < cs.length then cs.getD ch.length false else false
/-- a keyed row's worth, where it has none yet -/
def newW (cs : List Bool) (s : Fs) (r : Row) : Wt × List Bool × Nat := if r.isMadeB = true then (.n s.n, s.ch, s.n + 1) else (.b (nextC cs s.ch), s.ch ++ [nextC cs s.ch], s.n)
def keyW (R : List Row) (cs : List Bool) (s : Fs) (r : Row) : Wt × List Bool × Nat :=
  match firstLike R s.ms r with
  | some k => (wAt s.ms k, s.ch, s.n)
  | none => newW cs s r
def rowW (R : List Row) (cs : List Bool) (s : Fs) (r : Row) : Wt × List Bool × Nat :=
  if r.isEither = true then (wAt s.ms (side r s.ms), s.ch, s.n) else if r.keyed = true then keyW R cs s r else (.n s.n, s.ch, s.n + 1)
def fstep (R : List Row) (cs : List Bool) (s : Fs) (r : Row) : Fs := ⟨s.ms ++ [(rowW R cs s r).1], (rowW R cs s r).2.1, (rowW R cs s r).2.2⟩
def fwalk (R : List Row) (cs : List Bool) (m : Nat) : Fs := (R.take m).foldl (fstep R cs) ⟨[], [], 0⟩
theorem fwalk_zero (R : List Row) (cs : List Bool) : fwalk R cs 0 = ⟨[], [], 0⟩ := by
  unfold fwalk
  rw [List.take_zero]
  rfl
theorem fwalk_succ {R : List Row} {cs : List Bool} {m : Nat} (h : m < R.length) : fwalk R cs (m + 1) = fstep R cs (fwalk R cs m) (rowAt R m) := by
  unfold fwalk
  rw [List.take_succ, List.getElem?_eq_getElem h, Option.toList_some, List.foldl_append, rowAt_get h]
  rfl
theorem fwalk_len {R : List Row} {cs : List Bool} : ∀ m, m ≤ R.length → (fwalk R cs m).ms.length = m
  | 0, _ => by rw [fwalk_zero]; rfl
  | m + 1, h => by
    rw [fwalk_succ (by omega)]
    show ((fwalk R cs m).ms ++ [_]).length = m + 1
    rw [List.length_append, fwalk_len m (by omega)]
    rfl
theorem Web.side_lt {R : List Row} {ms : List Wt} (M : Mw R ms) {c i j : Nat} (e : rowAt R ms.length = .either c i j) : side (.either c i j) ms < ms.length ∧ (rowAt R (side (.either c i j) ms)).isAsked = false ∧ c < ms.length := by
  have ahd' := M.ahd ms.length (by omega)
  have hp := M.parts
  rw [e] at ahd' hp
  unfold side
  dsimp only
  split
  · exact ⟨ahd' i (by simp [Row.named]), hp i (by simp [Row.parts]), ahd' c (by simp [Row.named])⟩
  · exact ⟨ahd' j (by simp [Row.named]), hp j (by simp [Row.parts]), ahd' c (by simp [Row.named])⟩
theorem word_asked {r s : Row} (h : r.word = s.word) : r.isAsked = s.isAsked := by rw [← Row.askedP, h, Row.askedP]
/-- a worth of the row's kind -/
theorem rowW_kind {R : List Row} {cs : List Bool} {s : Fs} (M : Mw R s.ms) : (rowW R cs s (rowAt R s.ms.length)).1.isB = (rowAt R s.ms.length).isAsked := by
  cases e : rowAt R s.ms.length with
  | either c i j =>
    obtain ⟨h1, h2, _⟩ := Web.side_lt M e
    show (wAt s.ms (side (.either c i j) s.ms)).isB = false
    rw [M.kinds _ h1, h2]
  | given k => rfl
  | made n ks =>
    show (keyW R cs s (.made n ks)).1.isB = false
    unfold keyW
    cases f : firstLike R s.ms (.made n ks) with
    | none => rfl
    | some k =>
      obtain ⟨k1, k2, k3⟩ := kfind_lt f
      show (wAt s.ms k).isB = false
      rw [M.kinds k k1, word_asked (show (rowAt R k).word = (Row.made n ks).word from congrArg (·.1) k3)]
      rfl
  | asked n ks =>
    show (keyW R cs s (.asked n ks)).1.isB = true
    unfold keyW
    cases f : firstLike R s.ms (.asked n ks) with
    | none => rfl
    | some k =>
      obtain ⟨k1, k2, k3⟩ := kfind_lt f
      show (wAt s.ms k).isB = true
      rw [M.kinds k k1, word_asked (show (rowAt R k).word = (Row.asked n ks).word from congrArg (·.1) k3)]
      rfl
theorem fwalk_kinds {R : List Row} {cs : List Bool} (W : Web R) : ∀ m, m ≤ R.length → ∀ k, k < m → (wAt (fwalk R cs m).ms k).isB = (rowAt R k).isAsked
  | 0, _ => fun k h => absurd h (Nat.not_lt_zero k)
  | m + 1, h => fun k hk => by
    have hl := fwalk_len (cs := cs) m (by omega : m ≤ R.length)
    have ih := fwalk_kinds (cs := cs) W m (by omega)
    have M : Mw R (fwalk R cs m).ms := W.mw (by omega) (by rw [hl]; exact ih)
    rw [fwalk_succ (by omega)]
    show (wAt ((fwalk R cs m).ms ++ [(rowW R cs (fwalk R cs m) (rowAt R m)).1]) k).isB = _
    by_cases z : k < m
    · rw [wAt_app (by omega)]
      exact ih k z
    · obtain rfl : k = m := by omega
      have h2 := rowW_kind (cs := cs) M
      have := wAt_last (fwalk R cs k).ms (rowW R cs (fwalk R cs k) (rowAt R k)).1
      rw [hl] at this h2
      rw [this]
      exact h2
theorem fwalk_mw {R : List Row} {cs : List Bool} (W : Web R) {m : Nat} (h : m < R.length) : Mw R (fwalk R cs m).ms := by
  have hl := fwalk_len (cs := cs) m (by omega : m ≤ R.length)
  exact W.mw (by omega) (by rw [hl]; exact fwalk_kinds W m (by omega))
end K8

/-! FreeWalk: its object, new_number, next_choice. -/
namespace K8
open PySem PySem.Spec PyProof.Rows L2 WR
theorem look_eq {f : Str} {v : V} {fs : List (Str × V)} : ((f, v) :: fs).lookup f = some v := by simp [List.lookup]
theorem look_ne {f g : Str} {v : V} {fs : List (Str × V)} (h : ¬ f = g) : ((g, v) :: fs).lookup f = fs.lookup f := by
  have : (f == g) = false := by simpa using h
  simp only [List.lookup, this]
theorem putF_eq {f : Str} {v x : V} {fs : List (Str × V)} : putF f v ((f, x) :: fs) = (f, v) :: fs := if_pos rfl
theorem putF_ne {f g : Str} {v x : V} {fs : List (Str × V)} (h : ¬ g = f) : putF f v ((g, x) :: fs) = (g, x) :: putF f v fs := if_neg h
def wfs (g : V) (ml cl : Addr) (n : Int) (kd : Addr) : List (Str × V) := [("given", g), ("meaning", .ref ml), ("chosen", .ref cl), ("many", .int n), ("known", .ref kd)]
theorem n_mg : ¬ (("meaning" : Str) = "given") := by decide +kernel
theorem n_cg : ¬ (("chosen" : Str) = "given") := by decide +kernel
theorem n_cm : ¬ (("chosen" : Str) = "meaning") := by decide +kernel
theorem n_ng : ¬ (("many" : Str) = "given") := by decide +kernel
theorem n_nm : ¬ (("many" : Str) = "meaning") := by decide +kernel
theorem n_nc : ¬ (("many" : Str) = "chosen") := by decide +kernel
theorem n_kg : ¬ (("known" : Str) = "given") := by decide +kernel
theorem n_km : ¬ (("known" : Str) = "meaning") := by decide +kernel
theorem n_kc : ¬ (("known" : Str) = "chosen") := by decide +kernel
theorem n_kn : ¬ (("known" : Str) = "many") := by decide +kernel
section
variable {g : V} {ml cl kd : Addr} {n : Int}
theorem wfs_g : (wfs g ml cl n kd).lookup ("given" : Str) = some g := look_eq
theorem wfs_m : (wfs g ml cl n kd).lookup ("meaning" : Str) = some (.ref ml) := by
  unfold wfs
  rw [look_ne n_mg, look_eq]
theorem wfs_c : (wfs g ml cl n kd).lookup ("chosen" : Str) = some (.ref cl) := by
  unfold wfs
  rw [look_ne n_cg, look_ne n_cm, look_eq]
theorem wfs_n : (wfs g ml cl n kd).lookup ("many" : Str) = some (.int n) := by
  unfold wfs
  rw [look_ne n_ng, look_ne n_nm, look_ne n_nc, look_eq]
theorem wfs_k : (wfs g ml cl n kd).lookup ("known" : Str) = some (.ref kd) := by
  unfold wfs
  rw [look_ne n_kg, look_ne n_km, look_ne n_kc, look_ne n_kn, look_eq]
theorem wfs_no {m : Str} (h1 : ¬ m = "given") (h2 : ¬ m = "meaning") (h3 : ¬ m = "chosen") (h4 : ¬ m = "many") (h5 : ¬ m = "known") : (wfs g ml cl n kd).lookup m = none := by
  unfold wfs
  rw [look_ne h1, look_ne h2, look_ne h3, look_ne h4, look_ne h5]
  rfl
theorem wfs_putn {k : Int} : putF "many" (.int k) (wfs g ml cl n kd) = wfs g ml cl k kd := by
  unfold wfs
  rw [putF_ne (Ne.symm n_ng), putF_ne (Ne.symm n_nm), putF_ne (Ne.symm n_nc), putF_eq]
end
/-- the walk's object and its two lists -/
structure Wo (C : Addr) (H : Hp) (t : Addr) (g : V) (ml cl kd : Addr) (ms : List Wt) (ch : List Bool) (n : Nat) : Prop where
  ob : ∃ dx, H t = some (.ins C dx (wfs g ml cl n kd))
  ml_ : H ml = some (.lst (ms.map Wt.v))
  cl_ : H cl = some (.lst (ch.map V.bl))
  ne : ml ≠ cl
/-- all but the walk's own objects stays -/
def FrW (t ml cl kd : Addr) (H H' : Hp) : Prop := ∀ b o, b ≠ t → b ≠ ml → b ≠ cl → b ≠ kd → H b = some o → H' b = some o
theorem FrW.of {t ml cl kd : Addr} {H H' : Hp} (s : Sm H H') : FrW t ml cl kd H H' := fun b o _ _ _ _ e => s b o e
theorem FrW.trans {t ml cl kd : Addr} {H H1 H2 : Hp} (s : FrW t ml cl kd H H1) (u : FrW t ml cl kd H1 H2) : FrW t ml cl kd H H2 := fun b o h1 h2 h3 h4 e => u b o h1 h2 h3 h4 (s b o h1 h2 h3 h4 e)
section
variable {C : Addr} {H H' : Hp} {t : Addr} {g : V} {ml cl kd : Addr} {ms : List Wt} {ch : List Bool} {n : Nat}
theorem Wo.sm (h : Wo C H t g ml cl kd ms ch n) (s : Sm H H') : Wo C H' t g ml cl kd ms ch n := by
  obtain ⟨⟨dx, e⟩, e2, e3, e4⟩ := h
  exact ⟨⟨dx, s _ _ e⟩, s _ _ e2, s _ _ e3, e4⟩
theorem Wo.tml (h : Wo C H t g ml cl kd ms ch n) : t ≠ ml := fun z => by
  obtain ⟨⟨dx, e⟩, e2, _, _⟩ := h
  rw [z, e2] at e
  cases e
theorem Wo.tcl (h : Wo C H t g ml cl kd ms ch n) : t ≠ cl := fun z => by
  obtain ⟨⟨dx, e⟩, _, e2, _⟩ := h
  rw [z, e2] at e
  cases e
/-- its data -/
theorem Wo.cdr {N : Addr → Prop} (h : Wo C H t g ml cl kd ms ch n) (hN : N cl) : Dr N H (.ref cl) (.list (ch.map PyData.bool)) := by
  refine .lst hN h.cl_ ?_
  have : ∀ l : List Bool, DrA N H (l.map V.bl) (l.map PyData.bool) := fun l => by
    induction l with
    | nil => exact .nil
    | cons b l ih => exact .cons (.bl b) ih
  exact this ch
theorem wts_dr {N : Addr → Prop} {H : Hp} : ∀ l : List Wt, DrA N H (l.map Wt.v) (l.map Wt.d)
  | [] => .nil
  | x :: l => .cons (Wt.v_dr x) (wts_dr l)
theorem Wo.mdr {N : Addr → Prop} (h : Wo C H t g ml cl kd ms ch n) (hN : N ml) : Dr N H (.ref ml) (.list (ms.map Wt.d)) := .lst hN h.ml_ (wts_dr ms)
theorem wts_at {ms : List Wt} {k : Nat} (h : k < ms.length) : (ms.map Wt.d)[k]? = some (wAt ms k).d := by
  rw [List.getElem?_map, wAt_get h]
  rfl
theorem Wo.mf (h : Wo C H t g ml cl kd ms ch n) : Mf All H (.ref ml) ms := ⟨_, h.mdr trivial, rfl, fun k hk => wts_at hk⟩
/-- what is known of the class -/
structure FW (K : PySem.W.Frag) (mg : Str → Option Value) (C : Addr) : Prop where
  cl : Cls K C
  ng : NoAttr K C "given"
  nm : NoAttr K C "meaning"
  nc : NoAttr K C "chosen"
  nn : NoAttr K C "many"
  nk : NoAttr K C "known"
  gC : mg "FreeWalk" = some (.ref C)
end
abbrev spNewNum (C : Addr) : Sp := fun vs H Q _ => ∃ (t : Addr) (g : V) (ml cl kd : Addr) (ms : List Wt) (ch : List Bool) (n : Nat), vs = [.ref t] ∧ Wo C H t g ml cl kd ms ch n ∧
  ∀ H', (∀ b o, b ≠ t → H b = some o → H' b = some o) → Wo C H' t g ml cl kd ms ch (n + 1) → Q (.int (n : Nat)) H'
abbrev spNextC (C : Addr) : Sp := fun vs H Q _ => ∃ (t : Addr) (g : V) (ml cl kd : Addr) (ms : List Wt) (ch : List Bool) (n : Nat) (gd : PyData) (cs : List Bool), vs = [.ref t] ∧ Wo C H t g ml cl kd ms ch n ∧ Dr (fun b => b ≠ cl) H g gd ∧ isL gd = true ∧ its gd = cs.map PyData.bool ∧ ch.length ≤ lim ∧
  ∀ H', (∀ b o, b ≠ cl → H b = some o → H' b = some o) → Wo C H' t g ml cl kd ms (ch ++ [nextC cs ch]) n → Q (.bl (nextC cs ch)) H'
section
variable {P : Program} {w : World} {K : PySem.W.Frag} {mg : Str → Option Value} {base : Heap} {C : Addr}
theorem sc_FreeWalk_new_number : FnScope ["self"] ["self"] (defScope sFreeWalk_new_number) := ⟨rfl, rfl, rfl, by decide +kernel, rfl, by decide +kernel, by decide +kernel⟩
theorem ok_FreeWalk_new_number (T : FW K mg C) {f : Addr} {fd : FuncData} (F : FunD K dFreeWalk_new_number.name dFreeWalk_new_number.qual dFreeWalk_new_number.params dFreeWalk_new_number.body dFreeWalk_new_number.scope [] [] f fd) :
    FnOk P w K mg base CX0 1 f fd ["self"] (spNewNum C) := by
  refine F.ok sc_FreeWalk_new_number (fun vs H Q E h => by obtain ⟨t, g, ml, cl, kd, ms, ch, n, rfl, _⟩ := h; rfl) (fun cdv A outer s H vs Q E hr h => ?_)
  obtain ⟨t, g, ml, cl, kd, ms, ch, n, rfl, wo, q⟩ := h
  refine ⟨_, PSs.nox (pss_cons (ps_fldaug (pv 0) pe_int in_add)
      (pss_one (ps_ret (pe_op op_sub (pe_fld (pv 0) rfl) pe_int)))), ?_⟩
  obtain ⟨dx, ob⟩ := wo.ob
  refine ⟨_, rfl, t, C, dx, _, _, rfl, ob, T.cl, T.nn, wfs_n, _, _, rfl, rfl, dx, _, ob, (by show 5 < 1000; decide), ?_⟩
  rw [wfs_putn]
  have eo : upd H t (.ins C dx (wfs g ml cl ((n : Int) + 1) kd)) t = some (.ins C dx (wfs g ml cl ((n : Int) + 1) kd)) := upd_same
  refine ⟨_, rfl, t, C, dx, _, _, rfl, eo, T.cl, T.nn, wfs_n, _, _, rfl, rfl, ?_⟩
  have e : ((n : Int) + 1 - 1) = (n : Nat) := by omega
  show Q (.int ((n : Int) + 1 - 1)) _
  rw [e]
  refine q _ (fun b o hb z => by rw [upd_ne hb]; exact z) ⟨⟨dx, eo⟩, ?_, ?_, wo.ne⟩
  · rw [upd_ne wo.tml.symm]
    exact wo.ml_
  · rw [upd_ne wo.tcl.symm]
    exact wo.cl_
theorem sc_FreeWalk_next_choice : FnScope ["self", "at"] ["self"] (defScope sFreeWalk_next_choice) := ⟨rfl, rfl, rfl, by decide +kernel, rfl, by decide +kernel, by decide +kernel⟩
theorem ok_FreeWalk_next_choice (B : Bt mg) (T : FW K mg C) {f : Addr} {fd : FuncData} (F : FunD K dFreeWalk_next_choice.name dFreeWalk_next_choice.qual dFreeWalk_next_choice.params dFreeWalk_next_choice.body dFreeWalk_next_choice.scope [] [] f fd) :
    FnOk P w K mg base CX0 1 f fd ["self"] (spNextC C) := by
  refine F.ok sc_FreeWalk_next_choice (fun vs H Q E h => by obtain ⟨t, g, ml, cl, kd, ms, ch, n, gd, cs, rfl, _⟩ := h; rfl) (fun cdv A outer s H vs Q E hr h => ?_)
  obtain ⟨t, g, ml, cl, kd, ms, ch, n, gd, cs, rfl, wo, rg, hg, eg, hl, q⟩ := h
  refine ⟨_, PSs.nox (pss_cons (ps_set (i := 1) sc_FreeWalk_next_choice.nd rfl (by first | exact Or.inl rfl | exact Or.inr rfl) (pe_callB call_lenS (by rfl) B.len (by decide +kernel) (pa_cons (pe_fld (pv 0) rfl) pa_nil)))
      (pss_cons (ps_expr (pe_bm PySem.F.plainAttrs_list PySem.F.slot_list_append PySem.F.type_list_append mt_append (pe_fld (pv 0) rfl) (pa_cons (pe_ifExp (pt_cmpR op_lt (pv 1) (pe_callB call_lenS (by rfl) B.len (by decide +kernel) (pa_cons (pe_fld (pv 0) rfl) pa_nil)) (nomark _)) (pe_ix ix_D (pe_fld (pv 0) rfl) (pv 1) (fun _ _ => rfl)) pe_bl) pa_nil)))
      (pss_one (ps_ret (pe_ix ix_D (pe_fld (pv 0) rfl) (pv 1) (fun _ _ => rfl)))))), ?_⟩
  obtain ⟨dx, ob⟩ := wo.ob
  have hsl := lim_lt
  have lch : (its (.list (ch.map PyData.bool))).length = ch.length := by simp [its]
  have lcs : (its gd).length = cs.length := by rw [eg]; simp
  refine ⟨_, rfl, t, C, dx, _, _, rfl, ob, T.cl, T.nc, wfs_c, .ref cl, _, rfl, wo.cdr trivial, rfl, ?_⟩
  rw [lch]
  refine ⟨_, rfl, t, C, dx, _, _, rfl, ob, T.cl, T.nc, wfs_c, .inl ⟨rfl, _, SqL.of wo.cl_⟩, ?_⟩
  have ecl2 : upd H cl (.lst (ch.map V.bl ++ [.bl (nextC cs ch)])) cl = some (.lst ((ch ++ [nextC cs ch]).map V.bl)) := by
    rw [upd_same]
    simp
  -- behind the value
  have fin : ∀ c, c = nextC cs ch → rAppend (.ref cl) [.bl c] H fun _ H1 => tRet (tOp WR.rIxD (tFld K (tVar 0) "chosen") (tVar 1)) { nx := fun _ H' => Q V.non H', rt := Q } [some (.ref t), some (.int (ch.length : Nat))] H1 := fun c hc => by
    subst hc
    refine ⟨cl, _, _, rfl, rfl, wo.cl_, by rw [List.length_map]; omega, ?_⟩
    have wo2 : Wo C (upd H cl (.lst (ch.map V.bl ++ [.bl (nextC cs ch)]))) t g ml cl kd ms (ch ++ [nextC cs ch]) n := by
      refine ⟨⟨dx, ?_⟩, ?_, ecl2, wo.ne⟩
      · rw [upd_ne wo.tcl]
        exact ob
      · rw [upd_ne wo.ne]
        exact wo.ml_
    obtain ⟨dx2, ob2⟩ := wo2.ob
    refine ⟨_, rfl, t, C, dx2, _, _, rfl, ob2, T.cl, T.nc, wfs_c, _, rfl, _, ch.length, .bool (nextC cs ch), wo2.cdr trivial, rfl, rfl, ?_, fun y ry => ?_⟩
    · show ((ch ++ [nextC cs ch]).map PyData.bool)[ch.length]? = _
      rw [List.getElem?_map, List.getElem?_append_right (Nat.le_refl _)]
      simp
    · cases ry.bl_inv
      exact q _ (fun b o hb z => by rw [upd_ne hb]; exact z) wo2
  have rgA : Dr All H g gd := rg.all
  refine ⟨_, rfl, _, rfl, t, C, dx, _, _, rfl, ob, T.cl, T.ng, wfs_g, g, gd, rfl, rgA, hg, ?_⟩
  rw [lcs]
  refine ⟨_, _, rfl, rfl, _, rfl, ite2 (fun hlt => ?_) (fun hlt => ?_)⟩
  · have hlt' : ch.length < cs.length := by
      have := of_decide_eq_true hlt
      omega
    refine ⟨_, rfl, t, C, dx, _, _, rfl, ob, T.cl, T.ng, wfs_g, _, rfl, gd, ch.length, .bool (nextC cs ch), rgA, hg, rfl, ?_, fun y ry => ?_⟩
    · rw [eg, List.getElem?_map, List.getElem?_eq_getElem hlt']
      unfold nextC
      rw [if_pos hlt', List.getD_eq_getElem?_getD, List.getElem?_eq_getElem hlt']
      rfl
    · cases ry.bl_inv
      exact fin _ rfl
  · have e : nextC cs ch = false := if_neg (fun z => by rw [decide_eq_true (show ((ch.length : Nat) : Int) < (cs.length : Nat) by omega)] at hlt; exact hlt rfl)
    exact fin false e.symm
end
end K8

/-! FreeWalk: worth. -/
namespace K8
open PySem PySem.Spec PyProof.Rows L2 WR
theorem Row.madeQ (r : Row) : decide (V.str r.word = V.str "made") = r.isMadeB := by
  cases r with
  | made n ks => exact decide_eq_true rfl
  | asked n ks => exact neS (show ¬ ("asked" : Str) = "made" by decide +kernel)
  | either a i j => exact neS (show ¬ ("either" : Str) = "made" by decide +kernel)
  | given k => exact neS (show ¬ ("given" : Str) = "made" by decide +kernel)
/-- none of the walk's own objects -/
def OffW (t ml cl kd : Addr) : Addr → Prop := fun b => b ≠ t ∧ b ≠ ml ∧ b ≠ cl ∧ b ≠ kd
section
variable {P : Program} {w : World} {C : Addr} {H H' : Hp} {t : Addr} {g : V} {ml cl kd : Addr} {ms : List Wt} {ch : List Bool} {n : Nat} {xs : List Ent}
theorem Wo.stays (h : Wo C H t g ml cl kd ms ch n) (hd : ∀ us, H kd ≠ some (.tup us)) (f : FrW t ml cl kd H H') : Stays (OffW t ml cl kd) H H' := by
  obtain ⟨⟨dx, e1⟩, e2, e3, _⟩ := h
  refine ⟨fun a o z e => f a o z.1 z.2.1 z.2.2.1 z.2.2.2 e, fun a us e => f a _ (fun y => ?_) (fun y => ?_) (fun y => ?_) (fun y => hd us (by rw [← y]; exact e)) e⟩
  · rw [y, e1] at e
    cases e
  · rw [y, e2] at e
    cases e
  · rw [y, e3] at e
    cases e
theorem Wo.kd_ne (h : Wo C H t g ml cl kd ms ch n) (rd : RD P w H kd xs) : t ≠ kd ∧ ml ≠ kd ∧ cl ≠ kd := by
  obtain ⟨⟨dx, e1⟩, e2, e3, _⟩ := h
  obtain ⟨d1, d2, _, _⟩ := rd.dne
  exact ⟨fun z => d2 _ _ _ (by rw [← z]; exact e1), fun z => d1 _ (by rw [← z]; exact e2), fun z => d1 _ (by rw [← z]; exact e3)⟩
/-- the dict is written -/
theorem Wo.updk {o : HO} (h : Wo C H t g ml cl kd ms ch n) (rd : RD P w H kd xs) : Wo C (upd H kd o) t g ml cl kd ms ch n := by
  obtain ⟨h1, h2, h3⟩ := h.kd_ne rd
  obtain ⟨⟨dx, e1⟩, e2, e3, e4⟩ := h
  exact ⟨⟨dx, by rw [upd_ne h1]; exact e1⟩, by rw [upd_ne h2]; exact e2, by rw [upd_ne h3]; exact e3, e4⟩
/-- another of its objects is written -/
theorem Wo.rdk {b : Addr} (h : Wo C H t g ml cl kd ms ch n) (rd : RD P w H kd xs) (hb : b = t ∨ b = ml ∨ b = cl) (f : ∀ a o, a ≠ b → H a = some o → H' a = some o) : RD P w H' kd xs := by
  obtain ⟨h1, h2, h3⟩ := h.kd_ne rd
  refine rd.st (fun o e => f _ _ (fun z => ?_) e) fun a us e => f a _ (fun z => ?_) e
  · rcases hb with y | y | y
    · exact h1 (by rw [← y, ← z])
    · exact h2 (by rw [← y, ← z])
    · exact h3 (by rw [← y, ← z])
  · obtain ⟨⟨dx, e1⟩, e2, e3, _⟩ := h
    rcases hb with y | y | y
    · rw [z, y, e1] at e
      cases e
    · rw [z, y, e2] at e
      cases e
    · rw [z, y, e3] at e
      cases e
end
/-- the choices that were given -/
structure Gv (N : Addr → Prop) (H : Hp) (g : V) (cs : List Bool) : Prop where
  ex : ∃ gd, Dr N H g gd ∧ isL gd = true ∧ its gd = cs.map PyData.bool
theorem Gv.mono {N M : Addr → Prop} {H H' : Hp} {g : V} {cs : List Bool} (h : Gv N H g cs) (w : ∀ a, N a → M a) (s : Stays N H H') : Gv M H' g cs := by
  obtain ⟨gd, h1, h2, h3⟩ := h
  exact ⟨gd, h1.mono w s, h2, h3⟩
theorem Gv.sm {N : Addr → Prop} {H H' : Hp} {g : V} {cs : List Bool} (h : Gv N H g cs) (s : Sm H H') : Gv N H' g cs := h.mono (fun _ z => z) (Stays.of s)
abbrev spWorth (P : Program) (w : World) (C : Addr) : Sp := fun vs H Q _ => ∃ (t : Addr) (v g : V) (ml cl kd : Addr) (ms : List Wt) (ch : List Bool) (n : Nat) (cs : List Bool) (R : List Row) (xs : List Ent), vs = [.ref t, v] ∧ Wo C H t g ml cl kd ms ch n ∧ RD P w H kd xs ∧ Kn R ms xs ∧ Mw R ms ∧
  Dr All H v (rowAt R ms.length).d ∧ (rowAt R ms.length).keyed = true ∧ Gv (OffW t ml cl kd) H g cs ∧ ms.length ≤ lim ∧ ch.length ≤ lim ∧
  ∀ (y : Wt) (ch' : List Bool) (n' : Nat) (xs' : List Ent) H', keyW R cs ⟨ms, ch, n⟩ (rowAt R ms.length) = (y, ch', n') → FrW t ml cl kd H H' → Wo C H' t g ml cl kd ms ch' n' → RD P w H' kd xs' → Kn R (ms ++ [y]) xs' → Q y.v H'
section
variable {P : Program} {w : World} {K : PySem.W.Frag} {mg : Str → Option Value} {base : Heap} {C fN fC : Addr} {fdN fdC : FuncData}
theorem sc_FreeWalk_worth : FnScope ["self", "row", "key", "worth"] ["self", "row"] (defScope sFreeWalk_worth) := ⟨rfl, rfl, rfl, by decide +kernel, rfl, by decide +kernel, by decide +kernel⟩
theorem ok_FreeWalk_worth (T : FW K mg C) (mN : Meth K C "new_number" fN) (GN : FnOk P w K mg base CX0 1 fN fdN ["self"] (spNewNum C)) (bN : Binds K fdN ["self"] []) (mC : Meth K C "next_choice" fC) (GC : FnOk P w K mg base CX0 1 fC fdC ["self"] (spNextC C)) (bC : Binds K fdC ["self"] [])
    (D1 : Df P w K mg base CX0 1 "key_of" ["row", "meaning"] spKey) {f : Addr} {fd : FuncData} (F : FunD K dFreeWalk_worth.name dFreeWalk_worth.qual dFreeWalk_worth.params dFreeWalk_worth.body dFreeWalk_worth.scope [] [] f fd) :
    FnOk P w K mg base CX0 2 f fd ["self", "row"] (spWorth P w C) := by
  refine F.ok sc_FreeWalk_worth (fun vs H Q E h => by obtain ⟨t, v, g, ml, cl, kd, ms, ch, n, cs, R, xs, rfl, _⟩ := h; rfl) (fun cdv A outer s H vs Q E hr h => ?_)
  obtain ⟨t, v, g, ml, cl, kd, ms, ch, n, cs, R, xs, rfl, wo, rd, kn, M, rr, hk, gv, hl, hlc, q⟩ := h
  have hu := hr.units
  refine ⟨_, PSs.nox (pss_cons (ps_set (i := 2) sc_FreeWalk_worth.nd rfl (by first | exact Or.inl rfl | exact Or.inr rfl) (pe_df D1 hr pass0 (pa_cons (pv 1) (pa_cons (pe_fld (pv 0) rfl) pa_nil))))
      (pss_cons (ps_set (i := 3) sc_FreeWalk_worth.nd rfl (by first | exact Or.inl rfl | exact Or.inr rfl) (pe_getRD hu (pe_fld (pv 0) rfl) (pv 2) ⟨rfl, rfl, rfl, rfl⟩))
      (pss_cons (ps_if (pt_cmpR op_isN (pv 3) pe_non (nomark _)) (pss_cons (ps_set (i := 3) sc_FreeWalk_worth.nd rfl (by first | exact Or.inl rfl | exact Or.inr rfl) (pe_ifExp (pt_cmpR op_eq (pe_ix ix_D (pv 1) pe_int (fun _ _ => rfl)) pe_str (nomark _)) (pe_meth0 (pv 0) T.cl mN GN hr bN .nil pass0) (pe_meth0 (pv 0) T.cl mC GC hr bC .nil pass0)))
      (pss_one (ps_asg (pv 3) (pg_sub (pe_fld (pv 0) rfl) (pv 2) (set_RD hu))))) pss_nil)
      (pss_one (ps_ret (pv 3)))))), ?_⟩
  generalize hr0 : rowAt R ms.length = r at *
  have ahd' := M.ahd ms.length (by omega)
  rw [hr0] at ahd'
  have hlen : r.named.length ≤ lim := by
    have := M.ok
    rw [hr0] at this
    cases r with
    | made n ks => exact this.2
    | asked n ks => exact this.2
    | _ => cases hk
  have nm : KT.nm (key r ms) := by
    have := M.nm (by rw [hr0]; exact hk)
    rwa [hr0] at this
  obtain ⟨dx, ob⟩ := wo.ob
  -- key
  refine ⟨_, rfl, _, rfl, t, C, dx, _, _, rfl, ob, T.cl, T.nm, wfs_m, v, .ref ml, r, ms, rfl, rr, hk, hlen, wo.mf.mn ahd', fun ka H1 s1 rk => ?_⟩
  have wo1 := wo.sm s1
  have rd1 := RD.sm s1 rd
  have rr1 := rr.sm s1
  have gv1 := gv.sm s1
  obtain ⟨dx1, ob1⟩ := wo1.ob
  have hll := kn.len
  have hsl := lim_lt
  refine ⟨_, rfl, t, C, dx1, _, _, rfl, ob1, T.cl, T.nk, wfs_k, kd, rfl, ⟨_, rd1⟩, _, rfl, ka, keyD r ms, xs, rfl, rk, kD_kd (key r ms), rd1, ?_⟩
  rw [keyD_eq, kn.look _ nm]
  cases hf : kfind R ms (key r ms) with
  | some k =>
    have hf' : firstLike R ms r = some k := hf
    have ek : keyW R cs ⟨ms, ch, n⟩ r = (wAt ms k, ch, n) := by
      unfold keyW
      rw [hf']
    show _
    refine ⟨_, rfl, rfl, _, rfl, ?_⟩
    have e : decide ((some (wAt ms k).v).getD V.non = V.non) = false := by
      cases wAt ms k <;> simp [Wt.v]
    show if decide ((some (wAt ms k).v).getD V.non = V.non) = true then _ else _
    rw [e]
    refine iteF ⟨_, rfl, ?_⟩
    refine q _ _ _ xs H1 ek (FrW.of s1) wo1 rd1 (kn.old M.ahd fun _ => ?_)
    rw [hr0, hf']
    exact fun z => nomatch z
  | none =>
    have hf' : firstLike R ms r = none := hf
    have ek : keyW R cs ⟨ms, ch, n⟩ r = newW cs ⟨ms, ch, n⟩ r := by
      unfold keyW
      rw [hf']
    refine ⟨_, rfl, rfl, _, rfl, iteT ?_⟩
    -- behind the new worth
    have fin : ∀ (y : Wt) (ch' : List Bool) (n' : Nat) (H2 : Hp) (b : Addr), keyW R cs ⟨ms, ch, n⟩ r = (y, ch', n') → (b = t ∨ b = ml ∨ b = cl) → (∀ a o, a ≠ b → H1 a = some o → H2 a = some o) → Wo C H2 t g ml cl kd ms ch' n' →
        tAsg (tVar 3) (gSub (tFld K (tVar 0) "known") (tVar 2) (tSetRD P w)) { nx := tRet (tVar 3) { nx := fun _ H' => Q V.non H', rt := Q }, rt := Q } [some (.ref t), some v, some (.ref ka), some y.v] H2 := fun y ch' n' H2 b ey hb fr wo2 => by
      have rd2 := wo1.rdk rd1 hb fr
      have rk2 : Dr All H2 (.ref ka) (keyD r ms) := ((rk.fz (M := No) (kD_fz (key r ms))).mono (fun _ z => z) ⟨fun _ _ z => z.elim, fun a us e => fr a _ (fun z => by
        obtain ⟨⟨dx', e1⟩, e2, e3, _⟩ := wo1
        rcases hb with y | y | y
        · rw [z, y, e1] at e
          cases e
        · rw [z, y, e2] at e
          cases e
        · rw [z, y, e3] at e
          cases e) e⟩).all
      obtain ⟨dx2, ob2⟩ := wo2.ob
      have hnone : lookE xs (keyD r ms) = none := by
        rw [keyD_eq, kn.look _ nm, hf]
        rfl
      refine ⟨_, rfl, _, rfl, t, C, dx2, _, _, rfl, ob2, T.cl, T.nk, wfs_k, _, rfl, kd, ka, keyD r ms, xs, rfl, rfl, rk2, kD_kd (key r ms), rd2, hnone, by omega, ?_⟩
      have kn' := kn.put (x := y) (a := ka) M.ahd (by rw [hr0]; exact hk) (by rw [hr0]; exact nm) (by rw [hr0]; exact hf')
      rw [hr0] at kn'
      refine ⟨_, rfl, q y ch' n' _ _ ey (fun c o h1 h2 h3 h4 e => ?_) (wo2.updk rd2) (rd2.put (kD_kd (key r ms)) rk2) kn'⟩
      rw [upd_ne h4]
      refine fr c o (fun z => ?_) (s1 _ _ e)
      rcases hb with y | y | y
      · exact h1 (z.trans y)
      · exact h2 (z.trans y)
      · exact h3 (z.trans y)
    refine ⟨_, rfl, _, 0, _, rr1, Row.seqD _, rfl, Row.word_at _, fun x0 r0 => ?_⟩
    cases r0.str_inv
    refine ⟨rfl, _, rfl, ?_⟩
    rw [Row.madeQ]
    cases hm : r.isMadeB with
    | true =>
      have en : newW cs ⟨ms, ch, n⟩ r = (.n n, ch, n + 1) := by
        unfold newW
        rw [if_pos hm]
      refine iteT ⟨_, rfl, t, dx1, _, rfl, ob1, wfs_no (by decide +kernel) (by decide +kernel) (by decide +kernel) (by decide +kernel) (by decide +kernel), t, g, ml, cl, kd, ms, ch, n, rfl, wo1, fun H2 fr wo2 => ?_⟩
      exact fin (.n n) ch (n + 1) H2 t (ek.trans en) (.inl rfl) fr wo2
    | false =>
      have en : newW cs ⟨ms, ch, n⟩ r = (.b (nextC cs ch), ch ++ [nextC cs ch], n) := by
        unfold newW
        rw [if_neg (by rw [hm]; exact Bool.false_ne_true)]
      obtain ⟨gd, g1, g2, g3⟩ := gv1.ex
      refine iteF ⟨_, rfl, t, dx1, _, rfl, ob1, wfs_no (by decide +kernel) (by decide +kernel) (by decide +kernel) (by decide +kernel) (by decide +kernel), t, g, ml, cl, kd, ms, ch, n, gd, cs, rfl, wo1, g1.wide (fun b hb => hb.2.2.1), g2, g3, hlc, fun H2 fr wo2 => ?_⟩
      exact fin (.b (nextC cs ch)) _ n H2 cl (ek.trans en) (.inr (.inr rfl)) fr wo2
end
end K8

/-! FreeWalk: walk, __init__; free_walk. -/
namespace K8
open PySem PySem.Spec PyProof.Rows L2 WR
theorem fwalk_ch {R : List Row} {cs : List Bool} : ∀ m, m ≤ R.length → (fwalk R cs m).ch.length ≤ m
  | 0, _ => by rw [fwalk_zero]; exact Nat.le_refl _
  | m + 1, h => by
    have ih := fwalk_ch (R := R) (cs := cs) m (by omega)
    rw [fwalk_succ (by omega)]
    show (rowW R cs (fwalk R cs m) (rowAt R m)).2.1.length ≤ m + 1
    unfold rowW
    split
    · show (fwalk R cs m).ch.length ≤ m + 1
      omega
    · split
      · unfold keyW
        split
        · show (fwalk R cs m).ch.length ≤ m + 1
          omega
        · unfold newW
          split
          · show (fwalk R cs m).ch.length ≤ m + 1
            omega
          · show ((fwalk R cs m).ch ++ [_]).length ≤ m + 1
            rw [List.length_append]
            exact Nat.succ_le_succ ih
      · show (fwalk R cs m).ch.length ≤ m + 1
        omega
abbrev spWalk (P : Program) (w : World) (C : Addr) : Sp := fun vs H Q _ => ∃ (t : Addr) (v g : V) (ml cl kd : Addr) (cs : List Bool) (R : List Row), vs = [.ref t, v] ∧ Wo C H t g ml cl kd [] [] 0 ∧ RD P w H kd [] ∧ Dr (OffW t ml cl kd) H v (rowsD R) ∧ Web R ∧ R.length ≤ lim ∧ Gv (OffW t ml cl kd) H g cs ∧
  ∀ H', FrW t ml cl kd H H' → Wo C H' t g ml cl kd (fwalk R cs R.length).ms (fwalk R cs R.length).ch (fwalk R cs R.length).n → Q .non H'
section
variable {P : Program} {w : World} {K : PySem.W.Frag} {mg : Str → Option Value} {base : Heap} {C fN fW fI fK : Addr} {fdN fdW fdI fdK : FuncData}
theorem sc_FreeWalk_walk : FnScope ["self", "rows", "row"] ["self", "rows"] (defScope sFreeWalk_walk) := ⟨rfl, rfl, rfl, by decide +kernel, rfl, by decide +kernel, by decide +kernel⟩
theorem ok_FreeWalk_walk (T : FW K mg C) (mN : Meth K C "new_number" fN) (GN : FnOk P w K mg base CX0 1 fN fdN ["self"] (spNewNum C)) (bN : Binds K fdN ["self"] []) (mW : Meth K C "worth" fW) (GW : FnOk P w K mg base CX0 2 fW fdW ["self", "row"] (spWorth P w C)) (bW : Binds K fdW ["self", "row"] [])
    (D1 : Df P w K mg base CX0 1 "side_of" ["row", "meaning"] spSide) {f : Addr} {fd : FuncData} (F : FunD K dFreeWalk_walk.name dFreeWalk_walk.qual dFreeWalk_walk.params dFreeWalk_walk.body dFreeWalk_walk.scope [] [] f fd) :
    FnOk P w K mg base CX0 3 f fd ["self", "rows"] (spWalk P w C) := by
  refine F.ok sc_FreeWalk_walk (fun vs H Q E h => by obtain ⟨t, v, g, ml, cl, kd, cs, R, rfl, _⟩ := h; rfl) (fun cdv A outer s H vs Q E hr h => ?_)
  obtain ⟨t, v, g, ml, cl, kd, cs, R, rfl, wo0, rd0, rr, WR', hR, gv, q⟩ := h
  have hr1 := hr.mono (show 1 ≤ 2 by decide)
  refine ⟨_, PSs.nox (pss_one (ps_for PassesOwn.never rfl (pi_seq (pv 1)) (pg_name (i := 2) sc_FreeWalk_walk.nd rfl (by first | exact Or.inl rfl | exact Or.inr rfl)) (pss_one (ps_if (pt_cmpR op_eq (pe_ix ix_D (pv 2) pe_int (fun _ _ => rfl)) pe_str (nomark _)) (pss_one (ps_expr (pe_bm PySem.F.plainAttrs_list PySem.F.slot_list_append PySem.F.type_list_append mt_append (pe_fld (pv 0) rfl) (pa_cons (pe_ix ix_D (pe_fld (pv 0) rfl) (pe_df D1 hr1 pass0 (pa_cons (pv 2) (pa_cons (pe_fld (pv 0) rfl) pa_nil))) (fun _ _ => rfl)) pa_nil)))) (pss_one (ps_if (pt_cmpR op_eq (pe_ix ix_D (pv 2) pe_int (fun _ _ => rfl)) pe_str (nomark _)) (pss_one (ps_expr (pe_bm PySem.F.plainAttrs_list PySem.F.slot_list_append PySem.F.type_list_append mt_append (pe_fld (pv 0) rfl) (pa_cons (pe_meth0 (pv 0) T.cl mN GN hr1 bN .nil pass0) pa_nil)))) (pss_one (ps_expr (pe_bm PySem.F.plainAttrs_list PySem.F.slot_list_append PySem.F.type_list_append mt_append (pe_fld (pv 0) rfl) (pa_cons (pe_meth (pv 0) T.cl mW GW hr bW .nil pass0 (pa_cons (pv 2) pa_nil)) pa_nil)))))))))), ?_⟩
  have hlim : lim = 4000 := rfl
  have hsl := lim_lt
  obtain ⟨rl, ys, rfl, offR, erl, ry⟩ : ∃ a ys, v = .ref a ∧ OffW t ml cl kd a ∧ H a = some (.lst ys) ∧ DrA No H ys (R.map Row.d) := by
    cases rr with
    | lst n e r =>
      refine ⟨_, _, rfl, n, e, r.fz ?_⟩
      have : ∀ l : List Row, fzA (l.map Row.d) = true := fun l => by
        induction l with
        | nil => rfl
        | cons r l ih =>
          show (WR.fz r.d && fzA (l.map Row.d)) = true
          rw [ih, Row.fz]
          rfl
      exact this R
  have lys : ys.length = R.length := by rw [ry.length, List.length_map]
  refine ⟨_, rfl, rl, ys, rfl, .inl erl, fun J hJ => ?_⟩
  refine for_seq hJ (fun i σ2 H2 => ∃ (x2 : Option V) (xs : List Ent), σ2 = [some (.ref t), some (.ref rl), x2] ∧ FrW t ml cl kd H H2 ∧ Wo C H2 t g ml cl kd (fwalk R cs i).ms (fwalk R cs i).ch (fwalk R cs i).n ∧ RD P w H2 kd xs ∧ Kn R (fwalk R cs i).ms xs) ?_ ?_ ?_ ?_
  · refine ⟨_, [], rfl, FrW.of Sm.rfl', ?_, rd0, ?_⟩
    · rw [fwalk_zero]
      exact wo0
    · rw [fwalk_zero]
      exact .nil R
  · rintro i σ2 H2 _ ⟨_, _, _, f2, _⟩
    rw [f2 _ _ offR.1 offR.2.1 offR.2.2.1 offR.2.2.2 erl, erl]
  · rintro i x σ2 H2 hx ⟨x2, xs, rfl, f2, wo, rd, kn⟩
    have hi : i < R.length := by
      have := (List.getElem?_eq_some_iff.mp hx).1
      omega
    have hl := fwalk_len (cs := cs) i (Nat.le_of_lt hi)
    have hlc := fwalk_ch (cs := cs) i (Nat.le_of_lt hi)
    have M := fwalk_mw (cs := cs) WR' hi
    have hs := fwalk_succ (cs := cs) hi
    have tupd : ∀ us, H kd ≠ some (.tup us) := fun us => rd0.dne.2.2.1 us
    have st := wo0.stays tupd f2
    obtain ⟨d, ed, rx⟩ := ry.get hx
    have rx2 : Dr All H2 x d := ((rx.mono (M := No) (fun _ z => z) ⟨fun _ _ z => z.elim, st.tup⟩)).all
    have ed' : d = (rowAt R i).d := by
      rw [List.getElem?_map, List.getElem?_eq_getElem hi] at ed
      rw [rowAt_get hi]
      exact (Option.some.inj ed).symm
    subst ed'
    have gv2 := gv.mono (fun _ z => z) st
    generalize hS : fwalk R cs i = S at *
    obtain ⟨ms, ch, n⟩ := S
    have hl' : ms.length = i := hl
    subst hl'
    dsimp only at wo kn M hlc
    obtain ⟨dx, ob⟩ := wo.ob
    generalize hr0 : rowAt R ms.length = r at *
    -- behind the worth
    have fin : ∀ (y : Wt) (ch' : List Bool) (n' : Nat) (xs' : List Ent) (H3 : Hp), rowW R cs ⟨ms, ch, n⟩ r = (y, ch', n') → FrW t ml cl kd H H3 → Wo C H3 t g ml cl kd ms ch' n' → RD P w H3 kd xs' → Kn R (ms ++ [y]) xs' →
        rAppend (.ref ml) [y.v] H3 fun _ H4 => ∃ (x2 : Option V) (xs : List Ent), [some (V.ref t), some (.ref rl), some x] = [some (V.ref t), some (.ref rl), x2] ∧ FrW t ml cl kd H H4 ∧ Wo C H4 t g ml cl kd (fwalk R cs (ms.length + 1)).ms (fwalk R cs (ms.length + 1)).ch (fwalk R cs (ms.length + 1)).n ∧ RD P w H4 kd xs ∧ Kn R (fwalk R cs (ms.length + 1)).ms xs := fun y ch' n' xs' H3 ey f3 wo3 rd3 kn3 => by
      refine ⟨ml, _, _, rfl, rfl, wo3.ml_, by rw [List.length_map]; omega, ?_⟩
      have e1 : fwalk R cs (ms.length + 1) = ⟨ms ++ [y], ch', n'⟩ := by
        rw [hs]
        unfold fstep
        rw [ey]
      rw [e1]
      refine ⟨_, xs', rfl, f3.trans fun b o h1 h2 h3 h4 e => by rw [upd_ne h2]; exact e, ?_, wo3.rdk rd3 (.inr (.inl rfl)) (fun a o h e => by rw [upd_ne h]; exact e), kn3⟩
      obtain ⟨dx3, ob3⟩ := wo3.ob
      refine ⟨⟨dx3, by rw [upd_ne wo3.tml]; exact ob3⟩, by rw [upd_same]; simp, by rw [upd_ne wo3.ne.symm]; exact wo3.cl_, wo3.ne⟩
    refine ⟨_, rfl, _, 0, _, rx2, Row.seqD _, rfl, Row.word_at _, fun x0 r0 => ?_⟩
    cases r0.str_inv
    refine ⟨rfl, _, rfl, ?_⟩
    rw [Row.eitherW]
    cases he : r.isEither with
    | true =>
      obtain ⟨c, i, j, rfl⟩ : ∃ c i j, r = .either c i j := by
        cases r with
        | either c i j => exact ⟨_, _, _, rfl⟩
        | _ => cases he
      obtain ⟨h1, h2, hc⟩ := Web.side_lt M hr0
      obtain ⟨xb, hxb⟩ : ∃ xb, wAt ms c = .b xb := by
        have := M.kinds c hc
        rw [M.tests c i j hr0] at this
        cases z : wAt ms c with
        | b xb => exact ⟨xb, rfl⟩
        | n k => rw [z] at this; cases this
      refine iteT ⟨_, rfl, t, C, dx, _, _, rfl, ob, T.cl, T.nm, wfs_m, .inl ⟨rfl, _, SqL.of wo.ml_⟩, _, rfl, t, C, dx, _, _, rfl, ob, T.cl, T.nm, wfs_m, _, rfl, _, rfl, t, C, dx, _, _, rfl, ob, T.cl, T.nm, wfs_m, x, .ref ml, c, i, j, ms, xb, rfl, rx2, wo.mf.mn (fun k hk => by rw [List.mem_singleton.mp hk]; exact hc), hxb, ?_⟩
      refine ⟨_, _, _, wo.mdr trivial, rfl, rfl, wts_at h1, fun y ry => ?_⟩
      cases Wt.dr_v ry
      exact fin _ ch n xs H2 rfl f2 wo rd (kn.old M.ahd (by rw [hr0]; exact fun z => nomatch z))
    | false =>
      refine iteF ?_
      refine ⟨_, rfl, _, 0, _, rx2, Row.seqD _, rfl, Row.word_at _, fun x0 r0 => ?_⟩
      cases r0.str_inv
      refine ⟨rfl, _, rfl, ?_⟩
      have hg : decide (V.str r.word = V.str "given") = !r.keyed := by
        have := Row.givenP r
        rw [he, Bool.false_or] at this
        rw [← this, Bool.not_not]
      rw [hg]
      cases hk : r.keyed with
      | false =>
        have ey : rowW R cs ⟨ms, ch, n⟩ r = (.n n, ch, n + 1) := by
          unfold rowW
          rw [if_neg (by rw [he]; exact Bool.false_ne_true), if_neg (by rw [hk]; exact Bool.false_ne_true)]
        refine iteT ⟨_, rfl, t, C, dx, _, _, rfl, ob, T.cl, T.nm, wfs_m, .inl ⟨rfl, _, SqL.of wo.ml_⟩, _, rfl, t, dx, _, rfl, ob, wfs_no (by decide +kernel) (by decide +kernel) (by decide +kernel) (by decide +kernel) (by decide +kernel), t, g, ml, cl, kd, ms, ch, n, rfl, wo, fun H3 fr wo3 => ?_⟩
        exact fin (.n n) ch (n + 1) xs H3 ey (f2.trans fun b o h1 _ _ _ e => fr b o h1 e) wo3 (wo.rdk rd (.inl rfl) fr) (kn.old M.ahd (by rw [hr0, hk]; exact fun z => nomatch z))
      | true =>
        refine iteF ⟨_, rfl, t, C, dx, _, _, rfl, ob, T.cl, T.nm, wfs_m, .inl ⟨rfl, _, SqL.of wo.ml_⟩, _, rfl, t, dx, _, rfl, ob, wfs_no (by decide +kernel) (by decide +kernel) (by decide +kernel) (by decide +kernel) (by decide +kernel), _, rfl, t, x, g, ml, cl, kd, ms, ch, n, cs, R, xs, rfl, wo, rd, kn, M, by rw [hr0]; exact rx2, by rw [hr0]; exact hk, gv2, by omega, by omega, fun y ch' n' xs' H3 ey fr wo3 rd3 kn3 => ?_⟩
        rw [hr0] at ey
        have ey2 : rowW R cs ⟨ms, ch, n⟩ r = (y, ch', n') := by
          unfold rowW
          rw [if_neg (by rw [he]; exact Bool.false_ne_true), if_pos hk]
          exact ey
        exact fin y ch' n' xs' H3 ey2 (f2.trans fr) wo3 rd3 kn3
  · rintro σ2 H2 ⟨x2, xs, rfl, f2, wo, rd, kn⟩
    rw [lys] at wo
    exact q H2 f2 wo
end
end K8

/-! FreeWalk's __init__; free_walk; next_choices. -/
namespace K8
open PySem PySem.Spec PyProof.Rows L2 WR
abbrev spFI (C : Addr) : Sp := fun vs H Q _ => ∃ (p dx : Addr) (g : V), vs = [.ref p, g] ∧ H p = some (.ins C dx []) ∧
  ∀ (ml cl kd : Addr) (H' : Hp), H ml = none → H cl = none → H kd = none → ml ≠ cl → (∀ b o, H b = some o → b ≠ p → H' b = some o) → H' p = some (.ins C dx (wfs g ml cl 0 kd)) → H' ml = some (.lst []) → H' cl = some (.lst []) → H' kd = some (.dK []) → Q .non H'
theorem put1 (g : V) : putF "given" g [] = ([("given", g)] : List (Str × V)) := rfl
theorem put2 (g x : V) : putF "meaning" x [("given", g)] = ([("given", g), ("meaning", x)] : List (Str × V)) := putF_ne (Ne.symm n_mg)
theorem put3 (g x y : V) : putF "chosen" y [("given", g), ("meaning", x)] = ([("given", g), ("meaning", x), ("chosen", y)] : List (Str × V)) := by
  rw [putF_ne (Ne.symm n_cg), putF_ne (Ne.symm n_cm)]
  rfl
theorem put4 (g x y z : V) : putF "many" z [("given", g), ("meaning", x), ("chosen", y)] = ([("given", g), ("meaning", x), ("chosen", y), ("many", z)] : List (Str × V)) := by
  rw [putF_ne (Ne.symm n_ng), putF_ne (Ne.symm n_nm), putF_ne (Ne.symm n_nc)]
  rfl
theorem put5 (g x y z u : V) : putF "known" u [("given", g), ("meaning", x), ("chosen", y), ("many", z)] = ([("given", g), ("meaning", x), ("chosen", y), ("many", z), ("known", u)] : List (Str × V)) := by
  rw [putF_ne (Ne.symm n_kg), putF_ne (Ne.symm n_km), putF_ne (Ne.symm n_kc), putF_ne (Ne.symm n_kn)]
  rfl
section
variable {P : Program} {w : World} {K : PySem.W.Frag} {mg : Str → Option Value} {base : Heap} {C fI fK : Addr} {fdI fdK : FuncData}
theorem sc_FreeWalk_I : FnScope ["self", "choices"] ["self", "choices"] (defScope sFreeWalk_I) := ⟨rfl, rfl, rfl, by decide +kernel, rfl, by decide +kernel, by decide +kernel⟩
theorem ok_FreeWalk_I (T : FW K mg C) {f : Addr} {fd : FuncData} (F : FunD K dFreeWalk_I.name dFreeWalk_I.qual dFreeWalk_I.params dFreeWalk_I.body dFreeWalk_I.scope [] [] f fd) :
    FnOk P w K mg base CX0 1 f fd ["self", "choices"] (spFI C) := by
  refine F.ok sc_FreeWalk_I (fun vs H Q E h => by obtain ⟨p, dx, g, rfl, _⟩ := h; rfl) (fun cdv A outer s H vs Q E hr h => ?_)
  obtain ⟨p, dx, g, rfl, hp, q⟩ := h
  refine ⟨_, PSs.nox (pss_cons (ps_fld (pv 0) (pv 1) rfl)
      (pss_cons (ps_fld (pv 0) (pe_lst pa_nil) rfl)
      (pss_cons (ps_fld (pv 0) (pe_lst pa_nil) rfl)
      (pss_cons (ps_fld (pv 0) pe_int rfl)
      (pss_one (ps_fld (pv 0) pe_dnewK rfl)))))), ?_⟩
  have z0 : 0 ≤ sizeLine := by decide
  refine ⟨_, rfl, _, rfl, p, C, dx, _, rfl, hp, T.cl, T.ng, (by show 0 < 1000; decide), ?_⟩
  have e1 : upd H p (.ins C dx (putF "given" g [])) p = some (.ins C dx [("given", g)]) := upd_same
  have k1 : ∀ b o, H b = some o → b ≠ p → upd H p (.ins C dx (putF "given" g [])) b = some o := fun b o e h => by rw [upd_ne h]; exact e
  have n1 : ∀ b, upd H p (.ins C dx (putF "given" g [])) b = none → H b = none ∧ b ≠ p := fun b e => by
    by_cases z : b = p
    · rw [z, upd_same] at e
      cases e
    · rw [upd_ne z] at e
      exact ⟨e, z⟩
  generalize upd H p (.ins C dx (putF "given" g [])) = H1 at e1 k1 n1 ⊢
  -- self.meaning = []
  refine ⟨z0, fun ml nml => ?_⟩
  have nml' := n1 ml nml
  refine ⟨_, rfl, p, C, dx, _, rfl, (by rw [upd_ne nml'.2.symm]; exact e1), T.cl, T.nm, (by show 1 < 1000; decide), ?_⟩
  rw [put2]
  have e2 : upd (upd H1 ml (.lst [])) p (.ins C dx [("given", g), ("meaning", .ref ml)]) p = some (.ins C dx [("given", g), ("meaning", .ref ml)]) := upd_same
  have em2 : upd (upd H1 ml (.lst [])) p (.ins C dx [("given", g), ("meaning", .ref ml)]) ml = some (.lst []) := by
    rw [upd_ne nml'.2]
    exact upd_same
  have k2 : ∀ b o, H b = some o → b ≠ p → upd (upd H1 ml (.lst [])) p (.ins C dx [("given", g), ("meaning", .ref ml)]) b = some o := fun b o e h => by
    rw [upd_ne h, upd_ne (ne_of_none e nml'.1)]
    exact k1 b o e h
  have n2 : ∀ b, upd (upd H1 ml (.lst [])) p (.ins C dx [("given", g), ("meaning", .ref ml)]) b = none → H b = none ∧ b ≠ p ∧ b ≠ ml := fun b e => by
    have hp' : b ≠ p := fun z => by rw [z, e2] at e; cases e
    have hm' : b ≠ ml := fun z => by rw [z, em2] at e; cases e
    rw [upd_ne hp', upd_ne hm'] at e
    exact ⟨(n1 b e).1, hp', hm'⟩
  generalize upd (upd H1 ml (.lst [])) p (.ins C dx [("given", g), ("meaning", .ref ml)]) = H2 at e2 em2 k2 n2 ⊢
  clear e1 k1 n1 nml
  -- self.chosen = []
  refine ⟨z0, fun cl ncl => ?_⟩
  have ncl' := n2 cl ncl
  refine ⟨_, rfl, p, C, dx, _, rfl, (by rw [upd_ne ncl'.2.1.symm]; exact e2), T.cl, T.nc, (by show 2 < 1000; decide), ?_⟩
  rw [put3]
  have e3 : upd (upd H2 cl (.lst [])) p (.ins C dx [("given", g), ("meaning", .ref ml), ("chosen", .ref cl)]) p = some (.ins C dx [("given", g), ("meaning", .ref ml), ("chosen", .ref cl)]) := upd_same
  have ec3 : upd (upd H2 cl (.lst [])) p (.ins C dx [("given", g), ("meaning", .ref ml), ("chosen", .ref cl)]) cl = some (.lst []) := by
    rw [upd_ne ncl'.2.1]
    exact upd_same
  have em3 : upd (upd H2 cl (.lst [])) p (.ins C dx [("given", g), ("meaning", .ref ml), ("chosen", .ref cl)]) ml = some (.lst []) := by
    rw [upd_ne nml'.2, upd_ne ncl'.2.2.symm]
    exact em2
  have k3 : ∀ b o, H b = some o → b ≠ p → upd (upd H2 cl (.lst [])) p (.ins C dx [("given", g), ("meaning", .ref ml), ("chosen", .ref cl)]) b = some o := fun b o e h => by
    rw [upd_ne h, upd_ne (ne_of_none e ncl'.1)]
    exact k2 b o e h
  have n3 : ∀ b, upd (upd H2 cl (.lst [])) p (.ins C dx [("given", g), ("meaning", .ref ml), ("chosen", .ref cl)]) b = none → H b = none ∧ b ≠ p ∧ b ≠ ml ∧ b ≠ cl := fun b e => by
    have hp' : b ≠ p := fun z => by rw [z, e3] at e; cases e
    have hm' : b ≠ cl := fun z => by rw [z, ec3] at e; cases e
    rw [upd_ne hp', upd_ne hm'] at e
    exact ⟨(n2 b e).1, hp', (n2 b e).2.2, hm'⟩
  generalize upd (upd H2 cl (.lst [])) p (.ins C dx [("given", g), ("meaning", .ref ml), ("chosen", .ref cl)]) = H3 at e3 ec3 em3 k3 n3 ⊢
  clear e2 k2 n2 ncl em2
  -- self.many = 0
  refine ⟨_, rfl, p, C, dx, _, rfl, e3, T.cl, T.nn, (by show 3 < 1000; decide), ?_⟩
  rw [put4]
  intro kd nkd
  have hkp : kd ≠ p := fun z => by rw [z, upd_same] at nkd; cases nkd
  rw [upd_ne hkp] at nkd
  have nkd' := n3 kd nkd
  refine ⟨_, rfl, p, C, dx, _, rfl, (by rw [upd_ne hkp.symm]; exact upd_same), T.cl, T.nk, (by show 4 < 1000; decide), ?_⟩
  rw [put5]
  refine q ml cl kd _ nml'.1 ncl'.1 nkd'.1 ncl'.2.2.symm (fun b o e h => ?_) upd_same ?_ ?_ ?_
  · rw [upd_ne h, upd_ne (ne_of_none e nkd'.1), upd_ne h]
    exact k3 b o e h
  · rw [upd_ne nml'.2, upd_ne nkd'.2.2.1.symm, upd_ne nml'.2]
    exact em3
  · rw [upd_ne ncl'.2.1, upd_ne nkd'.2.2.2.symm, upd_ne ncl'.2.1]
    exact ec3
  · rw [upd_ne hkp]
    exact upd_same
end
end K8

/-! free_walk; next_choices. -/
namespace K8
open PySem PySem.Spec PyProof.Rows L2 WR
/-- a finished walk: its object and lists, new since H -/
structure Wd (C : Addr) (H H' : Hp) (t ml cl : Addr) (S : Fs) : Prop where
  ex : ∃ g kd, Wo C H' t g ml cl kd S.ms S.ch S.n
  nt : H t = none
  nm : H ml = none
  nc : H cl = none
theorem Wd.sm {C : Addr} {H H1 H' : Hp} {t ml cl : Addr} {S : Fs} (h : Wd C H H1 t ml cl S) (s : Sm H1 H') : Wd C H H' t ml cl S := by
  obtain ⟨⟨g, kd, e⟩, h1, h2, h3⟩ := h
  exact ⟨⟨g, kd, e.sm s⟩, h1, h2, h3⟩
abbrev spFreeWalk (C : Addr) : Sp := fun vs H Q _ => ∃ (v g : V) (cs : List Bool) (R : List Row), vs = [v, g] ∧ Dr All H v (rowsD R) ∧ Web R ∧ R.length ≤ lim ∧ Gv All H g cs ∧
  ∀ (t ml cl : Addr) H', Sm H H' → Wd C H H' t ml cl (fwalk R cs R.length) → Q (.ref t) H'
/-- where the last True's end -/
def lastF (ch : List Bool) : Nat := (ch.reverse.dropWhile id).length
def nextCh (ch : List Bool) : Option (List Bool) := if lastF ch = 0 then none else some (ch.take (lastF ch - 1) ++ [true])
theorem lastF_snocT (ch : List Bool) : lastF (ch ++ [true]) = lastF ch := by
  unfold lastF
  rw [List.reverse_append]
  rfl
theorem lastF_snocF (ch : List Bool) : lastF (ch ++ [false]) = ch.length + 1 := by
  unfold lastF
  rw [List.reverse_append]
  show ([false] ++ ch.reverse).length = _
  simp
theorem lastF_le (ch : List Bool) : lastF ch ≤ ch.length := by
  unfold lastF
  have := (List.dropWhile_sublist (p := id) (l := ch.reverse)).length_le
  rw [List.length_reverse] at this
  exact this
def chsD : Option (List Bool) → PyData
  | none => .none
  | some cs => .list (cs.map PyData.bool)
abbrev spNextCh : Sp := fun vs H Q _ => ∃ (a : Addr) (ch : List Bool), vs = [.ref a] ∧ H a = some (.lst (ch.map V.bl)) ∧ ch.length ≤ lim ∧ (nextCh ch = none → ∀ H', Sm H H' → Q .non H') ∧
  (∀ cs p H', nextCh ch = some cs → Sm H H' → H p = none → H' p = some (.lst (cs.map V.bl)) → Q (.ref p) H')
section
variable {P : Program} {w : World} {K : PySem.W.Frag} {mg : Str → Option Value} {base : Heap} {C fI fK : Addr} {fdI fdK : FuncData}
theorem sc_free_walk : FnScope ["rows", "choices", "walk"] ["rows", "choices"] (defScope sfree_walk) := ⟨rfl, rfl, rfl, by decide +kernel, rfl, by decide +kernel, by decide +kernel⟩
theorem ok_free_walk (T : FW K mg C) (M : Mk K C fI) (GI : FnOk P w K mg base CX0 1 fI fdI ["self", "choices"] (spFI C)) (bI : Binds K fdI ["self", "choices"] []) (mK : Meth K C "walk" fK) (GK : FnOk P w K mg base CX0 3 fK fdK ["self", "rows"] (spWalk P w C)) (bK : Binds K fdK ["self", "rows"] [])
    (F : Fn K mg dfree_walk) : Df P w K mg base CX0 4 "free_walk" ["rows", "choices"] (spFreeWalk C) := by
  obtain ⟨f, fd, hm, F⟩ := F
  refine ⟨f, fd, hm, F.kp, F.bindsN fun _ _ _ _ _ _ us hl => match us, hl with | [_, _], _ => rfl, ?_⟩
  refine F.ok sc_free_walk (fun vs H Q E h => by obtain ⟨v, g, cs, R, rfl, _⟩ := h; rfl) (fun cdv A outer s H vs Q E hr h => ?_)
  obtain ⟨v, g, cs, R, rfl, rr, WR', hR, gv, q⟩ := h
  have hr2 := hr.mono (show 2 ≤ 3 by decide)
  refine ⟨_, PSs.nox (pss_cons (ps_set (i := 2) sc_free_walk.nd rfl (by first | exact Or.inl rfl | exact Or.inr rfl) (pe_make M GI hr2 (by rfl) T.gC bI .nil pass0 (pa_cons (pv 1) pa_nil)))
      (pss_cons (ps_expr (pe_meth (pv 2) T.cl mK GK hr bK .nil pass0 (pa_cons (pv 0) pa_nil)))
      (pss_one (ps_ret (pv 2))))), ?_⟩
  refine ⟨_, rfl, fun t dx nt ndx ndt => ?_⟩
  refine ⟨t, dx, g, rfl, upd_same, fun ml cl kd H1 nml ncl nkd nmc kp et em ec ek => ⟨rfl, ?_⟩⟩
  have dn : ∀ b, upd (upd H dx (.own t)) t (.ins C dx []) b = none → H b = none := fun b e => by
    cases z : H b with
    | none => rfl
    | some o =>
      rw [upd_ne (ne_of_none z nt), upd_ne (ne_of_none z ndx), z] at e
      cases e
  have s1 : Sm H H1 := fun b o e => kp b o (by rw [upd_ne (ne_of_none e nt), upd_ne (ne_of_none e ndx)]; exact e) (ne_of_none e nt)
  have wo : Wo C H1 t g ml cl kd [] [] 0 := ⟨⟨dx, et⟩, em, ec, nmc⟩
  have rd : RD P w H1 kd [] := ⟨.inl ⟨rfl, ek⟩, fun q hq => nomatch hq⟩
  have off : ∀ a, (All a ∧ H a ≠ none) → OffW t ml cl kd a := fun a h => ⟨fun z => h.2 (by rw [z]; exact nt), fun z => h.2 (by rw [z]; exact dn _ nml), fun z => h.2 (by rw [z]; exact dn _ ncl), fun z => h.2 (by rw [z]; exact dn _ nkd)⟩
  obtain ⟨gd, g1, g2, g3⟩ := gv
  refine ⟨_, rfl, t, dx, _, rfl, et, wfs_no (by decide +kernel) (by decide +kernel) (by decide +kernel) (by decide +kernel) (by decide +kernel), _, rfl, t, v, g, ml, cl, kd, cs, R, rfl, wo, rd, rr.live.mono off (Stays.of s1), WR', hR, ⟨gd, g1.live.mono off (Stays.of s1), g2, g3⟩, fun H2 f2 wo2 => ?_⟩
  refine ⟨_, rfl, q t ml cl H2 (fun b o e => ?_) ⟨⟨g, kd, wo2⟩, nt, dn _ nml, dn _ ncl⟩⟩
  have := off b ⟨trivial, fun z => by rw [z] at e; cases e⟩
  exact f2 b o this.1 this.2.1 this.2.2.1 this.2.2.2 (s1 _ _ e)
theorem sc_next_choices : FnScope ["chosen", "last"] ["chosen"] (defScope snext_choices) := ⟨rfl, rfl, rfl, by decide +kernel, rfl, by decide +kernel, by decide +kernel⟩
theorem ok_next_choices (B : Bt mg) (F : Fn K mg dnext_choices) : Df P w K mg base CX0 1 "next_choices" ["chosen"] spNextCh := by
  obtain ⟨f, fd, hm, F⟩ := F
  refine ⟨f, fd, hm, F.kp, F.bindsN fun _ _ _ _ _ _ us hl => match us, hl with | [_], _ => rfl, ?_⟩
  refine F.ok sc_next_choices (fun vs H Q E h => by obtain ⟨a, ch, rfl, _⟩ := h; rfl) (fun cdv A outer s H vs Q E hr h => ?_)
  obtain ⟨a, ch, rfl, ea, hl, q1, q2⟩ := h
  refine ⟨_, PSs.nox (pss_cons (ps_set (i := 1) sc_next_choices.nd rfl (by first | exact Or.inl rfl | exact Or.inr rfl) (pe_callB call_lenS (by rfl) B.len (by decide +kernel) (pa_cons (pv 0) pa_nil)))
      (pss_cons (ps_while PassesOwn.never (PW.pt (pw_and (pt_cmpR op_gt (pv 1) pe_int (nomark _)) (pw_and1 (pt_val (pe_ix ix_list (pv 0) (pe_op op_sub (pv 1) pe_int) (fun _ _ => rfl)))))) (pss_one (ps_aug (i := 1) sc_next_choices.nd rfl (by first | exact Or.inl rfl | exact Or.inr rfl) pe_int ip_sub)))
      (pss_one (ps_ret (pe_ifExp (pt_cmpR op_gt (pv 1) pe_int (nomark _)) (pe_op op_cat (pe_slice sl_list (pv 0) po_none (po_some (pe_op op_sub (pv 1) pe_int))) (pe_lst (pa_cons pe_bl pa_nil))) pe_non))))), ?_⟩
  have hsl := lim_lt
  have hlim : lim = 4000 := rfl
  have cd : Dr All H (.ref a) (.list (ch.map PyData.bool)) := .lst trivial ea (by
    have : ∀ l : List Bool, DrA All H (l.map V.bl) (l.map PyData.bool) := fun l => by
      induction l with
      | nil => exact .nil
      | cons b l ih => exact .cons (.bl b) ih
    exact this ch)
  refine ⟨_, rfl, .ref a, _, rfl, cd, rfl, ?_⟩
  rw [show (its (.list (ch.map PyData.bool))).length = ch.length by simp [its]]
  refine ⟨fun m σ2 H2 => σ2 = [some (.ref a), some (.int (m : Nat))] ∧ H2 = H ∧ m ≤ ch.length ∧ lastF ch = lastF (ch.take m), ⟨ch.length, rfl, rfl, Nat.le_refl _, by rw [List.take_length]⟩, ?_⟩
  -- behind the loop
  have fin : ∀ m, m = lastF ch → tRet
        (tIf (tTest (tOp (rI0 fun i j => V.bl (decide (j < i))) (tVar 1) (tC (V.int 0))))
          (tOp rCat (tSl (rSlL K) (tVar 0) tNoPart (tPart (tOp (rI0 fun i j => V.int (i - j)) (tVar 1) (tC (V.int 1))))) (tLst (tCons (tC (V.bl true)) tNil)))
          (tC V.non)) { nx := fun _ H' => Q V.non H', rt := Q } [some (.ref a), some (.int (m : Nat))] H := fun m hm => by
    subst hm
    have le := lastF_le ch
    refine ⟨_, rfl, _, _, rfl, rfl, _, rfl, ite2 (fun hp => ?_) (fun hp => ?_)⟩
    · have hp' : 0 < lastF ch := by
        have := of_decide_eq_true hp
        omega
      obtain ⟨k, ek⟩ : ∃ k : Nat, lastF ch = k + 1 := ⟨lastF ch - 1, by omega⟩
      have en : nextCh ch = some (ch.take k ++ [true]) := by
        unfold nextCh
        rw [if_neg (by omega), ek]
        rfl
      rw [ek]
      refine ⟨_, rfl, _, rfl, _, _, rfl, rfl, _, rfl, a, _, rfl, SqL.of ea, fun l1 n1 => ⟨(by show 1 ≤ sizeLine; decide), fun l2 n2 => ?_⟩⟩
      have ecut : cutV (ch.map V.bl) none (some (((k + 1 : Nat) : Int) - 1)) = (ch.take k).map V.bl := by
        rw [show ((k + 1 : Nat) : Int) - 1 = (k : Nat) by omega, show cutV (ch.map V.bl) none (some ((k : Nat) : Int)) = cutA (ch.map V.bl) none (some ((k : Nat) : Int)) from rfl, cutA_to, List.map_take]
      have s1 := Sm.new (o := .lst (cutV (ch.map V.bl) none (some (((k + 1 : Nat) : Int) - 1)))) n1
      have s2 := Sm.new (o := .lst [V.bl true]) n2
      refine ⟨l1, l2, _, _, rfl, rfl, s2 _ _ upd_same, upd_same, ?_, fun p np => ?_⟩
      · rw [ecut, List.length_map, List.length_take]
        simp
        omega
      · refine q2 _ p _ en ((s1.trans s2).trans (Sm.new np)) ((s1.trans s2).free np) ?_
        rw [upd_same, ecut]
        simp
    · refine q1 ?_ H Sm.rfl'
      unfold nextCh
      rw [if_pos]
      have h2 : ¬ (0 : Int) < (lastF ch : Nat) := fun z => hp (decide_eq_true z)
      omega
  rintro m σ2 H2 ⟨rfl, rfl, hm, el⟩
  refine ⟨_, rfl, _, _, rfl, rfl, _, rfl, ite2 (fun hp => ?_) (fun hp => ?_)⟩
  · obtain ⟨k, rfl⟩ : ∃ k : Nat, m = k + 1 := ⟨m - 1, by have := of_decide_eq_true hp; omega⟩
    have hk : k < ch.length := by omega
    have et : ch.take (k + 1) = ch.take k ++ [ch[k]] := by rw [List.take_succ, List.getElem?_eq_getElem hk, Option.toList_some]
    have ev : (ch.map V.bl)[k]? = some (V.bl ch[k]) := by rw [List.getElem?_map, List.getElem?_eq_getElem hk]; rfl
    refine ⟨_, rfl, _, rfl, _, _, rfl, rfl, a, _, _, .bl ch[k], rfl, rfl, SqL.of ea, ?_, ch[k], rfl, ?_⟩
    · rw [show ((k + 1 : Nat) : Int) - 1 = (k : Nat) by omega]
      exact atI_nat ev
    rw [et] at el
    cases hb : ch[k] with
    | true =>
      rw [hb, lastF_snocT] at el
      refine iteT ⟨fun σ' H' => σ' = [some (.ref a), some (.int (k : Nat))] ∧ H' = H2 ∧ k ≤ ch.length ∧ lastF ch = lastF (ch.take k), fun σ' H' h => ⟨k, by omega, h⟩, _, rfl, _, _, rfl, rfl, ?_⟩
      refine ⟨?_, rfl, by omega, el⟩
      show [some (V.ref a), some (V.int (((k + 1 : Nat) : Int) - 1))] = _
      rw [show ((k + 1 : Nat) : Int) - 1 = (k : Nat) by omega]
    | false =>
      rw [hb, lastF_snocF, List.length_take, Nat.min_eq_left (by omega)] at el
      exact iteF (fin (k + 1) el.symm)
  · have hm0 : m = 0 := by
      have h2 : ¬ (0 : Int) < (m : Nat) := fun z => hp (decide_eq_true z)
      omega
    subst hm0
    exact iteF (fin 0 (by rw [el]; rfl))
end
end K8

/-! All free walks: a tree's leaves, one after another. No Python here. -/
namespace K8
open PySem PySem.Spec PyProof.Rows L2 WR
theorem nextC_getD (cs ch : List Bool) : nextC cs ch = cs.getD ch.length false := by
  unfold nextC
  by_cases h : ch.length < cs.length
  · rw [if_pos h]
  · rw [if_neg h, List.getD_eq_getElem?_getD, List.getElem?_eq_none (by omega)]
    rfl
/-- the row asks for a choice -/
def opens (R : List Row) (S : Fs) (r : Row) : Bool := r.isAsked && (firstLike R S.ms r).isNone
/-- the state behind a row, where c is chosen -/
def fput (R : List Row) (S : Fs) (r : Row) (c : Bool) : Fs := fstep R (S.ch ++ [c]) S r
theorem fstep_c {R : List Row} {S : Fs} {r : Row} {cs ds : List Bool} (h : cs.getD S.ch.length false = ds.getD S.ch.length false) : fstep R cs S r = fstep R ds S r := by
  have hn : nextC cs S.ch = nextC ds S.ch := by rw [nextC_getD, nextC_getD, h]
  unfold fstep rowW keyW newW
  rw [hn]
theorem fstep_closed {R : List Row} {S : Fs} {r : Row} {cs ds : List Bool} (h : opens R S r = false) : fstep R cs S r = fstep R ds S r := by
  have : rowW R cs S r = rowW R ds S r := by
    unfold rowW keyW
    cases r with
    | either c i j => rfl
    | given k => rfl
    | made n ks =>
      show (match firstLike R S.ms (.made n ks) with | some k => _ | none => newW cs S (.made n ks)) = _
      cases firstLike R S.ms (.made n ks) with
      | some k => rfl
      | none => rfl
    | asked n ks =>
      unfold opens at h
      cases e : firstLike R S.ms (.asked n ks) with
      | some k => rfl
      | none => rw [e] at h; cases h
  unfold fstep
  rw [this]
theorem fput_ch {R : List Row} {S : Fs} {r : Row} {c : Bool} (h : opens R S r = true) : (fput R S r c).ch = S.ch ++ [c] ∧ (fput R S r c).ms = S.ms ++ [.b c] := by
  unfold opens at h
  cases r with
  | asked n ks =>
    have e : firstLike R S.ms (.asked n ks) = none := by
      cases z : firstLike R S.ms (.asked n ks) with
      | none => rfl
      | some k => rw [z] at h; cases h
    have en : nextC (S.ch ++ [c]) S.ch = c := by
      rw [nextC_getD, List.getD_eq_getElem?_getD, List.getElem?_append_right (Nat.le_refl _)]
      simp
    have er : rowW R (S.ch ++ [c]) S (.asked n ks) = (.b c, S.ch ++ [c], S.n) := by
      show keyW R (S.ch ++ [c]) S (.asked n ks) = _
      unfold keyW
      rw [e]
      show newW (S.ch ++ [c]) S (.asked n ks) = _
      show (Wt.b (nextC (S.ch ++ [c]) S.ch), S.ch ++ [nextC (S.ch ++ [c]) S.ch], S.n) = _
      rw [en]
    unfold fput fstep
    rw [er]
    exact ⟨rfl, rfl⟩
  | _ => cases h
theorem fclosed_ch {R : List Row} {S : Fs} {r : Row} {cs : List Bool} (h : opens R S r = false) : (fstep R cs S r).ch = S.ch := by
  show (rowW R cs S r).2.1 = S.ch
  unfold rowW keyW
  cases r with
  | either c i j => rfl
  | given k => rfl
  | made n ks =>
    show (match firstLike R S.ms (.made n ks) with | some k => _ | none => newW cs S (.made n ks)).2.1 = _
    cases firstLike R S.ms (.made n ks) with
    | some k => rfl
    | none => rfl
  | asked n ks =>
    unfold opens at h
    cases e : firstLike R S.ms (.asked n ks) with
    | some k => rfl
    | none => rw [e] at h; cases h
theorem getD_snocF (l : List Bool) (j : Nat) : (l ++ [false]).getD j false = l.getD j false := by
  rw [List.getD_eq_getElem?_getD, List.getD_eq_getElem?_getD]
  by_cases h : j < l.length
  · rw [List.getElem?_append_left h]
  · rw [List.getElem?_append_right (by omega), List.getElem?_eq_none (l := l) (by omega)]
    by_cases e : j - l.length = 0
    · rw [e]
      rfl
    · rw [List.getElem?_eq_none (by simp; omega)]
theorem getD_app {l : List Bool} (k : List Bool) {j : Nat} (h : j < l.length) : (l ++ k).getD j false = l.getD j false := by
  rw [List.getD_eq_getElem?_getD, List.getD_eq_getElem?_getD, List.getElem?_append_left h]
/-- walks of choices that agree as far as they are asked for -/
theorem fwalk_agree {R : List Row} {cs ds : List Bool} : ∀ m, m ≤ R.length → (∀ j, j < (fwalk R cs m).ch.length → cs.getD j false = ds.getD j false) → fwalk R cs m = fwalk R ds m
  | 0, _, _ => by rw [fwalk_zero, fwalk_zero]
  | m + 1, h, ha => by
    rw [fwalk_succ (by omega)] at ha ⊢
    rw [fwalk_succ (by omega)]
    have key : ∀ b, opens R (fwalk R cs m) (rowAt R m) = b → fwalk R cs m = fwalk R ds m ∧ (b = true → cs.getD (fwalk R cs m).ch.length false = ds.getD (fwalk R cs m).ch.length false) := fun b hb => by
      cases b with
      | false =>
        rw [fclosed_ch hb] at ha
        exact ⟨fwalk_agree m (by omega) ha, fun z => nomatch z⟩
      | true =>
        have e : (fstep R cs (fwalk R cs m) (rowAt R m)).ch.length = (fwalk R cs m).ch.length + 1 := by
          have hq : (cs).getD (fwalk R cs m).ch.length false = ((fwalk R cs m).ch ++ [cs.getD (fwalk R cs m).ch.length false]).getD (fwalk R cs m).ch.length false := by
            rw [List.getD_eq_getElem?_getD (l := _ ++ _), List.getElem?_append_right (Nat.le_refl _)]
            simp
          rw [fstep_c hq]
          show (fput R (fwalk R cs m) (rowAt R m) _).ch.length = _
          rw [(fput_ch hb).1]
          simp
        rw [e] at ha
        exact ⟨fwalk_agree m (by omega) fun j hj => ha j (by omega), fun _ => ha _ (by omega)⟩
    cases hb : opens R (fwalk R cs m) (rowAt R m) with
    | false =>
      obtain ⟨k1, _⟩ := key _ hb
      rw [← k1]
      exact fstep_closed hb
    | true =>
      obtain ⟨k1, k2⟩ := key _ hb
      rw [← k1]
      exact fstep_c (k2 rfl)
/-- the leaves below a state -/
def leaves (R : List Row) : Nat → Nat → Fs → List Fs
  | 0, _, S => [S]
  | f + 1, m, S => if opens R S (rowAt R m) = true then leaves R f (m + 1) (fput R S (rowAt R m) false) ++ leaves R f (m + 1) (fput R S (rowAt R m) true) else leaves R f (m + 1) (fstep R [] S (rowAt R m))
/-- a state that is reached, by its own choices -/
def Rchd (R : List Row) (m : Nat) (S : Fs) : Prop := m ≤ R.length ∧ fwalk R S.ch m = S
theorem Rchd.put {R : List Row} {m : Nat} {S : Fs} (h : Rchd R m S) (hm : m < R.length) (ho : opens R S (rowAt R m) = true) (c : Bool) : Rchd R (m + 1) (fput R S (rowAt R m) c) := by
  refine ⟨hm, ?_⟩
  rw [(fput_ch ho).1, fwalk_succ hm]
  have e : fwalk R (S.ch ++ [c]) m = S := by
    have := fwalk_agree (cs := S.ch) (ds := S.ch ++ [c]) m h.1 (fun j hj => by rw [h.2] at hj; exact (getD_app _ hj).symm)
    rw [← this]
    exact h.2
  rw [e]
  rfl
theorem Rchd.next {R : List Row} {m : Nat} {S : Fs} (h : Rchd R m S) (hm : m < R.length) (ho : opens R S (rowAt R m) = false) : Rchd R (m + 1) (fstep R [] S (rowAt R m)) := by
  refine ⟨hm, ?_⟩
  rw [fclosed_ch ho, fwalk_succ hm, h.2]
  exact fstep_closed ho
/-- the list is run through: each walk's next choices give the next walk -/
structure Run (R : List Row) (S : Fs) (L : List Fs) : Prop where
  ne : L ≠ []
  head : L[0]? = some (fwalk R S.ch R.length)
  step : ∀ i (x y : Fs), L[i]? = some x → L[i + 1]? = some y → ∃ c, nextCh x.ch = some c ∧ fwalk R c R.length = y
  last : ∀ x : Fs, L[L.length - 1]? = some x → nextCh x.ch = nextCh S.ch
theorem nextCh_T (ch : List Bool) : nextCh (ch ++ [true]) = nextCh ch := by
  unfold nextCh
  rw [lastF_snocT]
  by_cases h : lastF ch = 0
  · rw [if_pos h, if_pos h]
  · rw [if_neg h, if_neg h, List.take_append_of_le_length (by have := lastF_le ch; omega)]
theorem nextCh_F (ch : List Bool) : nextCh (ch ++ [false]) = some (ch ++ [true]) := by
  unfold nextCh
  rw [lastF_snocF, if_neg (by omega), Nat.add_sub_cancel, List.take_left']
  rfl
theorem leaves_run {R : List Row} : ∀ f m S, m + f = R.length → Rchd R m S → Run R S (leaves R f m S)
  | 0, m, S, hm, h => by
    have hm' : m = R.length := by omega
    subst hm'
    refine ⟨(fun z => nomatch z), ?_, fun i x y h1 h2 => ?_, fun x hx => ?_⟩
    · show some S = _
      rw [h.2]
    · unfold leaves at h2
      simp at h2
    · have : x = S := by
        unfold leaves at hx
        simpa using hx.symm
      rw [this]
  | f + 1, m, S, hm, h => by
    have hm' : m < R.length := by omega
    unfold leaves
    cases ho : opens R S (rowAt R m) with
    | false =>
      rw [if_neg Bool.false_ne_true]
      have ih := leaves_run f (m + 1) _ (by omega) (h.next hm' ho)
      have ec := fclosed_ch (cs := []) ho
      refine ⟨ih.ne, ?_, ih.step, fun x hx => ?_⟩
      · rw [ih.head, ec]
      · rw [ih.last x hx, ec]
    | true =>
      rw [if_pos rfl]
      have A := leaves_run f (m + 1) _ (by omega) (h.put hm' ho false)
      have B := leaves_run f (m + 1) _ (by omega) (h.put hm' ho true)
      obtain ⟨c1, _⟩ := fput_ch (c := false) ho
      obtain ⟨c2, _⟩ := fput_ch (c := true) ho
      generalize leaves R f (m + 1) (fput R S (rowAt R m) false) = LA at A
      generalize leaves R f (m + 1) (fput R S (rowAt R m) true) = LB at B
      have la : 0 < LA.length := List.length_pos_iff.mpr A.ne
      have lb : 0 < LB.length := List.length_pos_iff.mpr B.ne
      refine ⟨fun z => A.ne (List.append_eq_nil_iff.mp z).1, ?_, fun i x y h1 h2 => ?_, fun x hx => ?_⟩
      · rw [List.getElem?_append_left la, A.head, c1]
        rw [fwalk_agree (cs := S.ch ++ [false]) (ds := S.ch) R.length (Nat.le_refl _) fun j _ => getD_snocF _ _]
      · by_cases hi : i + 1 < LA.length
        · rw [List.getElem?_append_left (by omega)] at h1
          rw [List.getElem?_append_left hi] at h2
          exact A.step i x y h1 h2
        · by_cases hi2 : i < LA.length
          · rw [List.getElem?_append_left hi2] at h1
            rw [List.getElem?_append_right (by omega), show i + 1 - LA.length = 0 by omega, B.head] at h2
            have hi3 : i = LA.length - 1 := by omega
            rw [hi3] at h1
            refine ⟨S.ch ++ [true], ?_, ?_⟩
            · rw [A.last x h1, c1, nextCh_F]
            · rw [← c2]
              exact Option.some.inj h2
          · rw [List.getElem?_append_right (by omega)] at h1 h2
            rw [show i + 1 - LA.length = (i - LA.length) + 1 by omega] at h2
            exact B.step _ x y h1 h2
      · rw [List.length_append, List.getElem?_append_right (by omega), show LA.length + LB.length - 1 - LA.length = LB.length - 1 by omega] at hx
        rw [B.last x hx, c2, nextCh_T]
/-- all free walks -/
def allW (R : List Row) : List Fs := leaves R R.length 0 ⟨[], [], 0⟩
theorem allW_run (R : List Row) : Run R ⟨[], [], 0⟩ (allW R) := leaves_run R.length 0 _ (by omega) ⟨Nat.zero_le _, fwalk_zero R _⟩
theorem allW_last {R : List Row} {x : Fs} (h : (allW R)[(allW R).length - 1]? = some x) : nextCh x.ch = none := by
  rw [(allW_run R).last x h]
  rfl
/-- how many there are at most -/
theorem leaves_len {R : List Row} : ∀ f m S, m + f = R.length → (leaves R f m S).length ≤ 2 ^ ((R.drop m).filter Row.isAsked).length
  | 0, m, S, _ => by
    unfold leaves
    exact Nat.one_le_two_pow
  | f + 1, m, S, hm => by
    have hm' : m < R.length := by omega
    have ed : R.drop m = rowAt R m :: R.drop (m + 1) := by rw [List.drop_eq_getElem_cons hm', rowAt_get hm']
    have ih := fun S' => leaves_len (R := R) f (m + 1) S' (by omega)
    unfold leaves
    rw [ed, List.filter_cons]
    cases ho : opens R S (rowAt R m) with
    | false =>
      rw [if_neg Bool.false_ne_true]
      refine Nat.le_trans (ih _) (Nat.pow_le_pow_right (by decide) ?_)
      split <;> simp
    | true =>
      have ha : (rowAt R m).isAsked = true := by
        unfold opens at ho
        exact (Bool.and_eq_true_iff.mp ho).1
      rw [if_pos rfl, if_pos ha, List.length_append, List.length_cons, Nat.pow_succ]
      have h1 := ih (fput R S (rowAt R m) false)
      have h2 := ih (fput R S (rowAt R m) true)
      omega
theorem allW_len (R : List Row) : (allW R).length ≤ 2 ^ (R.filter Row.isAsked).length := by
  have := leaves_len (R := R) R.length 0 ⟨[], [], 0⟩ (by omega)
  rwa [List.drop_zero] at this
end K8

/-! free_walks. -/
namespace K8
open PySem PySem.Spec PyProof.Rows L2 WR
theorem Wd.old {C : Addr} {H H1 H' : Hp} {t ml cl : Addr} {S : Fs} (s : Sm H H1) (h : Wd C H1 H' t ml cl S) : Wd C H H' t ml cl S := ⟨h.ex, s.free h.nt, s.free h.nm, s.free h.nc⟩
/-- finished walks, new since H, apart from one another; none of their lists is wl -/
structure Wks (C : Addr) (H H' : Hp) (wl : Addr) (ts : List (Addr × Addr × Addr)) (L : List Fs) : Prop where
  len : ts.length = L.length
  at_ : ∀ (j : Nat) (t ml cl : Addr) (S : Fs), ts[j]? = some (t, ml, cl) → L[j]? = some S → Wd C H H' t ml cl S ∧ ml ≠ wl ∧ cl ≠ wl
  nd : (ts.map (·.2.2)).Nodup
theorem Wks.sm {C : Addr} {H H1 H' : Hp} {wl : Addr} {ts : List (Addr × Addr × Addr)} {L : List Fs} (h : Wks C H H1 wl ts L) (s : Sm H1 H') : Wks C H H' wl ts L :=
  ⟨h.len, fun j t ml cl S h1 h2 => by
    obtain ⟨a, b⟩ := h.at_ j t ml cl S h1 h2
    exact ⟨a.sm s, b⟩, h.nd⟩
theorem Wd.upd {C : Addr} {H H1 : Hp} {t ml cl wl : Addr} {S : Fs} {zs : List V} {o : HO} (h : Wd C H H1 t ml cl S) (e : H1 wl = some (.lst zs)) (h1 : ml ≠ wl) (h2 : cl ≠ wl) : Wd C H (upd H1 wl o) t ml cl S := by
  obtain ⟨⟨g, kd, ⟨dx, e1⟩, e2, e3, e4⟩, n1, n2, n3⟩ := h
  refine ⟨⟨g, kd, ⟨dx, ?_⟩, by rw [upd_ne h1]; exact e2, by rw [upd_ne h2]; exact e3, e4⟩, n1, n2, n3⟩
  rw [upd_ne fun z => by rw [z, e] at e1; cases e1]
  exact e1
/-- one more -/
theorem Wks.snoc {C : Addr} {H H1 H2 : Hp} {wl t ml cl : Addr} {ts : List (Addr × Addr × Addr)} {L : List Fs} {S : Fs} {zs : List V} {o : HO} (h : Wks C H H1 wl ts L) (s0 : Sm H H1) (ew : H1 wl = some (.lst zs)) (s : Sm H1 H2) (d : Wd C H1 H2 t ml cl S) : Wks C H (upd H2 wl o) wl (ts ++ [(t, ml, cl)]) (L ++ [S]) := by
  have ew2 := s _ _ ew
  refine ⟨by rw [List.length_append, List.length_append, h.len]; rfl, fun j t' ml' cl' S' h1 h2 => ?_, ?_⟩
  · by_cases hj : j < ts.length
    · rw [List.getElem?_append_left hj] at h1
      rw [List.getElem?_append_left (by rw [← h.len]; exact hj)] at h2
      obtain ⟨a, b, c⟩ := h.at_ j t' ml' cl' S' h1 h2
      exact ⟨(a.sm s).upd ew2 b c, b, c⟩
    · rw [List.getElem?_append_right (by omega)] at h1
      rw [List.getElem?_append_right (by rw [← h.len]; omega), ← h.len] at h2
      have hz : j - ts.length = 0 := by
        have := (List.getElem?_eq_some_iff.mp h1).1
        simp at this
        omega
      rw [hz] at h1 h2
      cases h1
      cases h2
      have n1 : ml ≠ wl := fun z => by have := d.nm; rw [z, ew] at this; cases this
      have n2 : cl ≠ wl := fun z => by have := d.nc; rw [z, ew] at this; cases this
      exact ⟨(d.old s0).upd ew2 n1 n2, n1, n2⟩
  · rw [List.map_append, List.nodup_append]
    refine ⟨h.nd, by simp, fun a ha b hb e => ?_⟩
    obtain ⟨q, hq, rfl⟩ := List.mem_map.mp ha
    obtain ⟨j, hj, ej⟩ := List.mem_iff_getElem.mp hq
    have hL : j < L.length := by rw [← h.len]; exact hj
    obtain ⟨⟨⟨g, kd, wo⟩, _⟩, _⟩ := h.at_ j q.1 q.2.1 q.2.2 L[j] (by rw [List.getElem?_eq_getElem hj, ej]) (List.getElem?_eq_getElem hL)
    have hb' : b = cl := by simpa using hb
    have := d.nc
    rw [← hb', ← e, wo.cl_] at this
    cases this
abbrev spFreeWalks (C : Addr) : Sp := fun vs H Q _ => ∃ (v : V) (R : List Row), vs = [v] ∧ Dr All H v (rowsD R) ∧ Web R ∧ R.length ≤ lim ∧ (R.filter Row.isAsked).length ≤ 10 ∧
  ∀ (wl : Addr) (ts : List (Addr × Addr × Addr)) H', Sm H H' → H wl = none → H' wl = some (.lst (ts.map fun q => V.ref q.1)) → Wks C H H' wl ts (allW R) → Q (.ref wl) H'
/-- what stands in choices -/
def ChV (H : Hp) (v : V) : Option (List Bool) → Prop
  | none => v = .non
  | some cs => ∃ p, v = .ref p ∧ H p = some (.lst (cs.map V.bl))
theorem bls_dr {N : Addr → Prop} {H : Hp} : ∀ l : List Bool, DrA N H (l.map V.bl) (l.map PyData.bool)
  | [] => .nil
  | b :: l => .cons (.bl b) (bls_dr l)
section
variable {P : Program} {w : World} {K : PySem.W.Frag} {mg : Str → Option Value} {base : Heap} {C : Addr}
theorem sc_free_walks : FnScope ["rows", "walks", "choices"] ["rows"] (defScope sfree_walks) := ⟨rfl, rfl, rfl, by decide +kernel, rfl, by decide +kernel, by decide +kernel⟩
theorem ok_free_walks (T : FW K mg C) (F : Fn K mg dfree_walks) (D1 : Df P w K mg base CX0 4 "free_walk" ["rows", "choices"] (spFreeWalk C)) (D2 : Df P w K mg base CX0 1 "next_choices" ["chosen"] spNextCh) :
    Df P w K mg base CX0 5 "free_walks" ["rows"] (spFreeWalks C) := by
  obtain ⟨f, fd, hm, F⟩ := F
  refine ⟨f, fd, hm, F.kp, F.bindsN fun _ _ _ _ _ _ us hl => match us, hl with | [_], _ => rfl, ?_⟩
  refine F.ok sc_free_walks (fun vs H Q E h => by obtain ⟨v, R, rfl, _⟩ := h; rfl) (fun cdv A outer s H vs Q E hr h => ?_)
  obtain ⟨v, R, rfl, rr, WR', hR, hA, q⟩ := h
  have hr1 := hr.mono (show 1 ≤ 4 by decide)
  refine ⟨_, PSs.nox (pss_cons (ps_set (i := 1) sc_free_walks.nd rfl (by first | exact Or.inl rfl | exact Or.inr rfl) (pe_lst (pa_cons (pe_df D1 hr pass0 (pa_cons (pv 0) (pa_cons (pe_lst pa_nil) pa_nil))) pa_nil)))
      (pss_cons (ps_set (i := 2) sc_free_walks.nd rfl (by first | exact Or.inl rfl | exact Or.inr rfl) (pe_df D2 hr1 pass0 (pa_cons (pe_fld (pe_ix ix_list (pv 1) (pe_un un_neg pe_int) (fun _ _ => rfl)) rfl) pa_nil)))
      (pss_cons (ps_while PassesOwn.never (pt_cmpR op_notN (pv 2) pe_non (nomark _)) (pss_cons (ps_expr (pe_bm PySem.F.plainAttrs_list PySem.F.slot_list_append PySem.F.type_list_append mt_append (pv 1) (pa_cons (pe_df D1 hr pass0 (pa_cons (pv 0) (pa_cons (pv 2) pa_nil))) pa_nil)))
      (pss_one (ps_set (i := 2) sc_free_walks.nd rfl (by first | exact Or.inl rfl | exact Or.inr rfl) (pe_df D2 hr1 pass0 (pa_cons (pe_fld (pe_ix ix_list (pv 1) (pe_un un_neg pe_int) (fun _ _ => rfl)) rfl) pa_nil))))))
      (pss_one (ps_ret (pv 1)))))), ?_⟩
  have hsl := lim_lt
  have z0 : 0 ≤ sizeLine := by decide
  have L1024 : (allW R).length ≤ 1024 := Nat.le_trans (allW_len R) (Nat.le_trans (Nat.pow_le_pow_right (by decide) hA) (by decide))
  have szL : 1024 < sizeLine := by decide
  have hrun := allW_run R
  have hL := @allW_last R
  generalize allW R = L at *
  -- next_choices(walks[-1].chosen)
  have nx : ∀ (H2 : Hp) (wl t ml cl : Addr) (ts : List (Addr × Addr × Addr)) (S : Fs) (x2 : Option V) (Q2 : VK), H2 wl = some (.lst ((ts ++ [(t, ml, cl)]).map fun q => V.ref q.1)) → Wd C H H2 t ml cl S → S.ch.length ≤ lim → (∀ cv H3, Sm H2 H3 → ChV H3 cv (nextCh S.ch) → Q2 cv H3) →
      tCall spNextCh [] E0 (tCons (tFld K (tOp (rIxL K) (tVar 1) (tUn (rU fun i => V.int (-i)) (tC (V.int 1)))) "chosen") tNil) [some v, some (.ref wl), x2] H2 Q2 := fun H2 wl t ml cl ts S x2 Q2 ew wd hc q2 => by
    obtain ⟨⟨g, kd, wo⟩, _⟩ := wd
    obtain ⟨dx, ob⟩ := wo.ob
    refine ⟨_, rfl, _, rfl, wl, _, -1, .ref t, rfl, rfl, SqL.of ew, ?_, t, C, dx, _, _, rfl, ob, T.cl, T.nc, wfs_c, cl, S.ch, rfl, wo.cl_, hc, fun hn H3 s3 => ?_, fun cs p H3 hn s3 np ep => ?_⟩
    · rw [List.map_append]
      exact atI_last _ _
    · refine q2 _ H3 s3 ?_
      rw [hn]
      rfl
    · refine q2 _ H3 s3 ?_
      rw [hn]
      exact ⟨p, rfl, ep⟩
  have chl : ∀ (cs : List Bool), (fwalk R cs R.length).ch.length ≤ lim := fun cs => Nat.le_trans (fwalk_ch R.length (Nat.le_refl _)) hR
  -- the first walk
  refine ⟨_, rfl, z0, fun e0 ne0 => ?_⟩
  have s0 := Sm.new (o := .lst []) ne0
  have ee0 : upd H e0 (.lst []) e0 = some (.lst []) := upd_same
  generalize upd H e0 (.lst []) = H1 at s0 ee0 ⊢
  refine ⟨v, .ref e0, [], R, rfl, rr.sm s0, WR', hR, ⟨.list [], .lst trivial ee0 .nil, rfl, rfl⟩, fun t ml cl H2 s2 wd => ⟨(by show 1 ≤ sizeLine; decide), fun wl nwl => ?_⟩⟩
  have nwlH : H wl = none := (s0.trans s2).free nwl
  have s3 := Sm.new (o := .lst [V.ref t]) nwl
  have ew : upd H2 wl (.lst [V.ref t]) wl = some (.lst [V.ref t]) := upd_same
  have s03 := (s0.trans s2).trans s3
  have wd3 := (wd.old s0).sm s3
  have nml : ml ≠ wl := fun z => by
    obtain ⟨⟨g, kd, wo⟩, _⟩ := wd
    have := wo.ml_
    rw [z, nwl] at this
    cases this
  have ncl : cl ≠ wl := fun z => by
    obtain ⟨⟨g, kd, wo⟩, _⟩ := wd
    have := wo.cl_
    rw [z, nwl] at this
    cases this
  generalize upd H2 wl (.lst [V.ref t]) = H3 at s3 ew s03 wd3 ⊢
  clear s2 wd nwl s3 ne0 s0 ee0
  refine nx H3 wl t ml cl [] _ none _ ew wd3 (chl []) fun cv H4 s4 hcv => ?_
  have hlen1 : 1 ≤ L.length := List.length_pos_iff.mpr hrun.ne
  refine ⟨fun m σ5 H5 => ∃ (i : Nat) (ts : List (Addr × Addr × Addr)) (cv : V) (x : Fs), σ5 = [some v, some (.ref wl), some cv] ∧ i + 1 + m = L.length ∧ Sm H H5 ∧ H5 wl = some (.lst (ts.map fun q => V.ref q.1)) ∧ Wks C H H5 wl ts (L.take (i + 1)) ∧ L[i]? = some x ∧ ChV H5 cv (nextCh x.ch), ⟨L.length - 1, 0, [(t, ml, cl)], cv, _, rfl, by omega, s03.trans s4, s4 _ _ ew, ?_, hrun.head, hcv⟩, ?_⟩
  · obtain ⟨y, L', hL'⟩ : ∃ y L', L = y :: L' := by
      cases L with
      | nil => simp at hlen1
      | cons y L' => exact ⟨_, _, rfl⟩
    have hy : y = fwalk R [] R.length := by
      have := hrun.head
      rw [hL'] at this
      exact Option.some.inj this
    rw [hL']
    refine ⟨rfl, fun j t' ml' cl' S' h1 h2 => ?_, by simp⟩
    have hj : j = 0 := by
      have := (List.getElem?_eq_some_iff.mp h1).1
      simp at this
      exact this
    subst hj
    cases h1
    have e : S' = fwalk R [] R.length := by
      rw [← hy]
      exact (Option.some.inj h2).symm
    rw [e]
    exact ⟨wd3.sm s4, nml, ncl⟩
  · rintro m σ5 H5 ⟨i, ts, cv5, x, rfl, him, s5, ew5, wks, hx, hcv5⟩
    refine ⟨_, rfl, rfl, _, rfl, ?_⟩
    cases hn : nextCh x.ch with
    | none =>
      rw [hn] at hcv5
      have hcv' : cv5 = .non := hcv5
      subst hcv'
      refine iteF ⟨_, rfl, ?_⟩
      have hi : i + 1 = L.length := by
        by_cases h : i + 1 < L.length
        · obtain ⟨c, h1, _⟩ := hrun.step i x L[i + 1] hx (List.getElem?_eq_getElem h)
          rw [hn] at h1
          cases h1
        · omega
      rw [hi, List.take_length] at wks
      exact q wl ts H5 s5 nwlH ew5 wks
    | some cs =>
      rw [hn] at hcv5
      obtain ⟨p, rfl, ep⟩ := hcv5
      have hi : i + 1 < L.length := by
        by_cases h : i + 1 < L.length
        · exact h
        · have : i = L.length - 1 := by omega
          rw [this] at hx
          rw [hL hx] at hn
          cases hn
      obtain ⟨c, h1, h2⟩ := hrun.step i x L[i + 1] hx (List.getElem?_eq_getElem hi)
      rw [hn] at h1
      cases h1
      rw [show (!decide (V.ref p = V.non)) = true by simp]
      obtain ⟨m', rfl⟩ : ∃ m', m = m' + 1 := ⟨m - 1, by omega⟩
      refine iteT ⟨fun σ6 H6 => ∃ (i : Nat) (ts : List (Addr × Addr × Addr)) (cv : V) (x : Fs), σ6 = [some v, some (.ref wl), some cv] ∧ i + 1 + m' = L.length ∧ Sm H H6 ∧ H6 wl = some (.lst (ts.map fun q => V.ref q.1)) ∧ Wks C H H6 wl ts (L.take (i + 1)) ∧ L[i]? = some x ∧ ChV H6 cv (nextCh x.ch), fun σ' H' h => ⟨m', by omega, h⟩, ?_⟩
      refine ⟨_, rfl, .inl ⟨rfl, _, SqL.of ew5⟩, _, rfl, _, rfl, v, .ref p, cs, R, rfl, rr.sm s5, WR', hR, ⟨.list (cs.map PyData.bool), .lst trivial ep (bls_dr cs), rfl, rfl⟩, fun t6 ml6 cl6 H6 s6 wd6 => ?_⟩
      have ltk : (L.take (i + 1)).length = i + 1 := by rw [List.length_take]; omega
      refine ⟨wl, _, _, rfl, rfl, s6 _ _ ew5, by rw [List.length_map, wks.len, ltk]; omega, ?_⟩
      have wks6 := wks.snoc (o := .lst ((ts.map fun q => V.ref q.1) ++ [V.ref t6])) s5 ew5 s6 wd6
      have ew6 : upd H6 wl (.lst ((ts.map fun q => V.ref q.1) ++ [V.ref t6])) wl = some (.lst ((ts ++ [(t6, ml6, cl6)]).map fun q => V.ref q.1)) := by
        rw [upd_same]
        simp
      have s56 : Sm H (upd H6 wl (.lst ((ts.map fun q => V.ref q.1) ++ [V.ref t6]))) := fun b o e => by
        rw [upd_ne (ne_of_none e nwlH)]
        exact s6 _ _ (s5 _ _ e)
      rw [h2] at wks6
      rw [show L.take (i + 1) ++ [L[i + 1]] = L.take (i + 1 + 1) by rw [List.take_succ (i := i + 1), List.getElem?_eq_getElem hi]; rfl] at wks6
      obtain ⟨wdL, _, _⟩ := wks6.at_ ts.length t6 ml6 cl6 L[i + 1] (by rw [List.getElem?_append_right (Nat.le_refl _)]; simp) (by rw [wks.len, ltk, List.getElem?_take_of_lt (by omega)]; exact List.getElem?_eq_getElem hi)
      generalize upd H6 wl (.lst ((ts.map fun q => V.ref q.1) ++ [V.ref t6])) = H7 at wks6 ew6 s56 wdL ⊢
      refine nx H7 wl t6 ml6 cl6 ts L[i + 1] _ _ ew6 wdL (by rw [← h2]; exact chl cs) fun cv8 H8 s8 hcv8 => ?_
      exact ⟨i + 1, ts ++ [(t6, ml6, cl6)], cv8, L[i + 1], rfl, by omega, s56.trans s8, s8 _ _ ew6, wks6.sm s8, List.getElem?_eq_getElem hi, hcv8⟩
end
end K8

/-! choice_lists, free_meaning. -/
namespace K8
open PySem PySem.Spec PyProof.Rows L2 WR
/-- e.f in a block: K told apart -/
theorem pe_fldB {X : Cx} {K1 : PySem.W.Frag} {o : Expr} {ta : TE} {f : Str} {apos : Pos} (hK : X.K = K1) (he : PE X o ta) (hb : attributeBase o f X.env (eval o X.env) = eval o X.env) : PE X (.Attribute o f apos) (tFld K1 ta f) := by
  subst hK
  exact pe_fld he hb
/-- what is new, and whose alone -/
structure OwN (H H' : Hp) (v : V) (d : PyData) (f : List Addr) : Prop where
  ow : Ow H' v d f
  nd : f.Nodup
  nw : ∀ b ∈ f, H b = none
theorem Ow.sm {H H' : Hp} {v : V} {d : PyData} {f : List Addr} (o : Ow H v d f) (s : Sm H H') : Ow H' v d f := o.keep (fun a xs e => s _ _ e) fun b _ z e => s _ _ e
theorem OwN.sm {H H1 H' : Hp} {v : V} {d : PyData} {f : List Addr} (o : OwN H H1 v d f) (s : Sm H1 H') : OwN H H' v d f := ⟨o.ow.sm s, o.nd, o.nw⟩
theorem OwN.old {H H1 H' : Hp} {v : V} {d : PyData} {f : List Addr} (o : OwN H1 H' v d f) (s : Sm H H1) : OwN H H' v d f := ⟨o.ow, o.nd, fun b hb => s.free (o.nw b hb)⟩
theorem bools_fz (l : List Bool) : WR.fzA (l.map PyData.bool) = true := by
  induction l with
  | nil => rfl
  | cons b l ih => exact ih
theorem bls_ow {H H' : Hp} {c : Addr} {l : List Bool} (h : H c = none) (e : H' c = some (.lst (l.map V.bl))) : OwN H H' (.ref c) (.list (l.map PyData.bool)) [c] := by
  obtain ⟨gs, o2, z2⟩ := OwA.ofFz (N := No) (bls_dr (H := H') l) (bools_fz l)
  have h2 := Ow.lst e o2
  rw [z2] at h2
  exact ⟨h2, by simp, fun b hb => by rw [List.mem_singleton.mp hb]; exact h⟩
/-- a list of such lists -/
theorem blss_ow {H' : Hp} : ∀ {cs : List Addr} {L : List (List Bool)}, cs.length = L.length → (∀ (j : Nat) (c : Addr) (l : List Bool), cs[j]? = some c → L[j]? = some l → H' c = some (.lst (l.map V.bl))) → OwA H' (cs.map V.ref) (L.map fun l => PyData.list (l.map PyData.bool)) (cs.map fun c => [c])
  | [], [], _, _ => .nil
  | c :: cs, l :: L, hl, ha => by
    obtain ⟨gs, o2, z2⟩ := OwA.ofFz (N := No) (bls_dr (H := H') l) (bools_fz l)
    have h2 := Ow.lst (ha 0 c l rfl rfl) o2
    rw [z2] at h2
    exact .cons h2 (blss_ow (by simpa using hl) fun j c' l' h1 h2 => ha (j + 1) c' l' (by simpa using h1) (by simpa using h2))
  | [], _ :: _, h, _ => by simp at h
  | _ :: _, [], h, _ => by simp at h
theorem flat_one (cs : List Addr) : (cs.map fun c => [c]).flatten = cs := by
  induction cs with
  | nil => rfl
  | cons c cs ih => rw [List.map_cons, List.flatten_cons, ih]; rfl
def chLists (R : List Row) : PyData := .list ((allW R).map fun S => PyData.list (S.ch.map PyData.bool))
abbrev spChLists (CW : Addr) : Sp := fun vs H Q E => ∃ (v : V) (d : PyData), vs = [v] ∧ Dr All H v d ∧ wd d = true ∧ (∀ R, ScanOf d R .none → (R.filter Row.isAsked).length ≤ 10) ∧
  (∀ (R : List Row) (p : Addr) (f : List Addr) H', ScanOf d R .none → Sm H H' → OwN H H' (.ref p) (chLists R) f → Q (.ref p) H') ∧
  (∀ (R : List Row) (n : Nat) (x : Str) (dx : Addr) (H' : Hp), ScanOf d R (faultD n x) → Sm H H' → H dx = none → H' dx = some (.xd [("index", .int (n : Nat))]) → E (.ref CW) (some dx) H')
def boolsOf (d : PyData) : List Bool := (its d).map fun e => match e with
  | .bool b => b
  | _ => false
/-- where choices are wrong -/
def chFault (R : List Row) (e : PyData) : Option Nat :=
  if isL e = true then (match firstF ((its e).map isB) 0 with
    | some k => some k
    | none => if (boolsOf e).length < (fwalk R (boolsOf e) R.length).ch.length then some (boolsOf e).length else none)
  else some 0
theorem firstF_none : ∀ {bs : List Bool} {n : Nat}, firstF bs n = none → ∀ b ∈ bs, b = true
  | [], _, _ => fun _ h => nomatch h
  | b :: bs, n, h => by
    unfold firstF at h
    by_cases hb : b = false
    · rw [if_pos hb] at h
      cases h
    · rw [if_neg hb] at h
      intro c hc
      rcases List.mem_cons.mp hc with rfl | z
      · simpa using hb
      · exact firstF_none h c z
theorem boolsOf_its {e : PyData} (h : ∀ b ∈ (its e).map isB, b = true) : its e = (boolsOf e).map PyData.bool := by
  unfold boolsOf
  rw [List.map_map]
  conv => lhs; rw [← List.map_id (its e)]
  refine List.map_congr_left fun x hx => ?_
  have := h (isB x) (List.mem_map.mpr ⟨x, hx, rfl⟩)
  cases x <;> first | rfl | cases this
theorem boolsOf_len (e : PyData) : (boolsOf e).length = (its e).length := by simp [boolsOf]
abbrev spFreeM (CW CC : Addr) : Sp := fun vs H Q E => ∃ (v u : V) (d e : PyData), vs = [v, u] ∧ Dr All H v d ∧ wd d = true ∧ Dr All H u e ∧ wd e = true ∧
  (∀ (R : List Row) (ml : Addr) H', ScanOf d R .none → chFault R e = none → Sm H H' → H ml = none → H' ml = some (.lst ((fwalk R (boolsOf e) R.length).ms.map Wt.v)) → Q (.ref ml) H') ∧
  (∀ (R : List Row) (k : Nat) (dx : Addr) (H' : Hp), ScanOf d R .none → chFault R e = some k → Sm H H' → H dx = none → H' dx = some (.xd [("index", .int (k : Nat))]) → E (.ref CC) (some dx) H') ∧
  (∀ (R : List Row) (n : Nat) (x : Str) (dx : Addr) (H' : Hp), ScanOf d R (faultD n x) → Sm H H' → H dx = none → H' dx = some (.xd [("index", .int (n : Nat))]) → E (.ref CW) (some dx) H')
section
variable {P : Program} {w : World} {K : PySem.W.Frag} {mg : Str → Option Value} {base : Heap} {C CT CW CC fC : Addr} {fdC : FuncData}
theorem sc_choice_lists : FnScope ["web", "walk"] ["web"] (defScope schoice_lists) := ⟨rfl, rfl, rfl, by decide +kernel, rfl, by decide +kernel, by decide +kernel⟩
theorem okF_choice_lists (T : RT P w K mg base CT) (TW : FW K mg C) (F : Fn K mg dchoice_lists) (D1 : Df P w K mg base (L2.CX P w) 6 "judged_web" ["web"] (spJudge P w CT CW)) (D2 : Df P w K mg base CX0 5 "free_walks" ["rows"] (spFreeWalks C)) :
    DfF P w K mg base (L2.CX P w) 7 "choice_lists" ["web"] (spChLists CW) dchoice_lists := by
  obtain ⟨f, fd, hm, F⟩ := F
  refine ⟨f, fd, hm, F, F.bindsN fun _ _ _ _ _ _ us hl => match us, hl with | [_], _ => rfl, ?_⟩
  refine F.ok sc_choice_lists (fun vs H Q E h => by obtain ⟨v, d, rfl, _⟩ := h; rfl) (fun cdv A outer s H vs Q E hr h => ?_)
  obtain ⟨v, d, rfl, rd, wdd, hA, q1, q2⟩ := h
  have hr5 := hr.mono (show 5 ≤ 6 by decide)
  refine ⟨_, (pss_one (ps_ret (pe_lc (own := [("walk", 1)]) (g := gName 1) (tt := tYes) rfl sc_choice_lists.nd (pi_seq (pe_df D2 hr5 pass0 (pa_cons (pe_fld (pe_df D1 hr (passes_call (takes_of rfl rfl rfl rfl) (fun _ _ _ _ z => z)) (pa_cons (pv 0) pa_nil)) rfl) pa_nil))) (blkOk_by (own := [("walk", 1)]) (N := ["web", "walk"]) (sc := defScope schoice_lists) (by decide +kernel)) (fun _ _ _ _ _ => pg_name (i := 1) sc_choice_lists.nd rfl (by first | exact Or.inl rfl | exact Or.inr rfl)) (fun _ _ _ _ _ => pts_nil) (fun _ _ _ _ _ => (pe_fldB (K1 := K) rfl (pv 1) rfl))))), ?_⟩
  have hsl := lim_lt
  have szL : 1024 < sizeLine := by decide
  refine ⟨_, rfl, v, d, rfl, rd, wdd, fun t l dd R as H1 sc s1 nt nl nd tb => ?_, fun R n x dx H' sc s nd hx => q2 R n x dx H' sc s nd hx⟩
  obtain ⟨dx1, ob1⟩ := tb.ob
  refine ⟨t, CT, dx1, _, _, rfl, ob1, T.cl, T.nR, flds_rows l dd, .ref l, R, rfl, tb.rows, sc.web wdd, sc.lenW wdd, hA R sc, fun wl ts H2 s2 nwl ew wks => ?_⟩
  have L1024 : (allW R).length ≤ 1024 := Nat.le_trans (allW_len R) (Nat.le_trans (Nat.pow_le_pow_right (by decide) (hA R sc)) (by decide))
  refine ⟨wl, _, rfl, .inl ew, fun J hJ D nD => ?_⟩
  have lxs : (ts.map fun q => V.ref q.1).length = (allW R).length := by rw [List.length_map, wks.len]
  refine lc_seq hJ (fun i H3 => Sm H2 H3 ∧ H3 D = some (.lst ((ts.take i).map fun q => V.ref q.2.2))) ⟨Sm.new nD, by simpa using upd_same⟩ (fun i H3 _ h => by rw [h.1 _ _ ew, ew]) (fun i x H3 hx h => ?_) fun H3 h => ?_
  · obtain ⟨s3, eD⟩ := h
    rw [List.getElem?_map] at hx
    obtain ⟨q, hq, rfl⟩ := Option.map_eq_some_iff.mp hx
    have hi := (List.getElem?_eq_some_iff.mp hq).1
    have hiL : i < (allW R).length := by rw [← wks.len]; exact hi
    obtain ⟨⟨⟨g, kd, wo⟩, _⟩, _⟩ := wks.at_ i q.1 q.2.1 q.2.2 (allW R)[i] (by rw [hq]) (List.getElem?_eq_getElem hiL)
    obtain ⟨dxw, obw⟩ := (wo.sm s3).ob
    refine ⟨rfl, ?_⟩
    dsimp only [tYes]
    rw [if_pos rfl]
    refine ⟨_, rfl, q.1, C, dxw, _, _, rfl, obw, TW.cl, TW.nc, wfs_c, _, eD, ?_, ?_, ?_⟩
    · rw [List.length_map, List.length_take]
      omega
    · exact fun b o e => by
        rw [upd_ne (ne_of_none e nD)]
        exact s3 _ _ e
    · rw [upd_same, List.take_succ, hq]
      simp
  · obtain ⟨s3, eD⟩ := h
    rw [show (ts.map fun q => V.ref q.1).length = ts.length by simp, List.take_length] at eD
    have s13 := s1.trans (s2.trans s3)
    have oA : OwA H3 ((ts.map (·.2.2)).map V.ref) (((allW R).map (·.ch)).map fun l => PyData.list (l.map PyData.bool)) ((ts.map (·.2.2)).map fun c => [c]) := by
      refine blss_ow (by simp [wks.len]) fun j c l h1 h2 => ?_
      rw [List.getElem?_map] at h1 h2
      obtain ⟨q, hq, rfl⟩ := Option.map_eq_some_iff.mp h1
      obtain ⟨S, hS, rfl⟩ := Option.map_eq_some_iff.mp h2
      obtain ⟨⟨⟨g, kd, wo⟩, _⟩, _⟩ := wks.at_ j q.1 q.2.1 q.2.2 S (by rw [hq]) hS
      exact s3 _ _ wo.cl_
    have eD' : H3 D = some (.lst ((ts.map (·.2.2)).map V.ref)) := by
      rw [eD, List.map_map]
      rfl
    have nws : ∀ c ∈ ts.map (·.2.2), H1 c = none ∧ ∃ zs, H2 c = some (.lst zs) := fun c hc => by
      obtain ⟨q, hq, rfl⟩ := List.mem_map.mp hc
      obtain ⟨j, hj, ej⟩ := List.mem_iff_getElem.mp hq
      have hiL : j < (allW R).length := by rw [← wks.len]; exact hj
      obtain ⟨⟨⟨g, kd, wo⟩, _, _, nc⟩, _⟩ := wks.at_ j q.1 q.2.1 q.2.2 (allW R)[j] (by rw [List.getElem?_eq_getElem hj, ej]) (List.getElem?_eq_getElem hiL)
      exact ⟨nc, _, wo.cl_⟩
    refine q1 R D (D :: ((ts.map (·.2.2)).map fun c => [c]).flatten) H3 sc s13 ⟨?_, ?_, fun b hb => ?_⟩
    · have := Ow.lst eD' oA
      rwa [List.map_map] at this
    · rw [flat_one, List.nodup_cons]
      refine ⟨fun hD => ?_, wks.nd⟩
      obtain ⟨_, zs, e⟩ := nws D hD
      rw [nD] at e
      cases e
    · rw [flat_one] at hb
      rcases List.mem_cons.mp hb with rfl | z
      · exact (s1.trans s2).free nD
      · exact s1.free (nws b z).1
theorem sc_free_meaning : FnScope ["web", "choices", "rows", "wrong", "walk", "choice"] ["web", "choices"] (defScope sfree_meaning) := ⟨rfl, rfl, rfl, by decide +kernel, rfl, by decide +kernel, by decide +kernel⟩
theorem okF_free_meaning (B : Bt mg) (T : RT P w K mg base CT) (TW : FW K mg C) (TC : ErC K mg "BadChoices" "index" CC fC) (GC : FnOk P w K mg base CX0 1 fC fdC ["self", "index"] (spEI CC "index")) (bC : Binds K fdC ["self", "index"] [])
    (F : Fn K mg dfree_meaning) (D1 : Df P w K mg base (L2.CX P w) 6 "judged_web" ["web"] (spJudge P w CT CW)) (D2 : Df P w K mg base CX0 4 "free_walk" ["rows", "choices"] (spFreeWalk C))
    (D3 : Df P w K mg base CX0 1 "is_list" ["thing"] spIsList) (D4 : Df P w K mg base CX0 1 "first_wrong" ["oks"] spFirst) :
    DfF P w K mg base (L2.CX P w) 7 "free_meaning" ["web", "choices"] (spFreeM CW CC) dfree_meaning := by
  obtain ⟨f, fd, hm, F⟩ := F
  refine ⟨f, fd, hm, F, F.bindsN fun _ _ _ _ _ _ us hl => match us, hl with | [_, _], _ => rfl, ?_⟩
  refine F.ok sc_free_meaning (fun vs H Q E h => by obtain ⟨v, u, d, e, rfl, _⟩ := h; rfl) (fun cdv A outer s H vs Q E hr h => ?_)
  obtain ⟨v, u, d, e, rfl, rd, wdd, re, wde, q1, q2, q3⟩ := h
  have hr1 := hr.mono (show 1 ≤ 6 by decide)
  have hr2 := hr.mono (show 2 ≤ 6 by decide)
  have hr4 := hr.mono (show 4 ≤ 6 by decide)
  refine ⟨_, (pss_cons (ps_set (i := 2) sc_free_meaning.nd rfl (by first | exact Or.inl rfl | exact Or.inr rfl) (pe_fld (pe_df D1 hr (passes_call (takes_of rfl rfl rfl rfl) (fun _ _ _ _ z => z)) (pa_cons (pv 0) pa_nil)) rfl))
      (pss_cons (ps_if (pt_not (pt_val (pe_df D3 hr1 pass0 (pa_cons (pv 1) pa_nil)))) (pss_one (ps_raise rfl (takes_of rfl rfl rfl rfl) (pmk_oex TC.oex TC.iC TC.tI GC hr2 bC .nil pass0 (by rfl) TC.gC (pa_cons pe_int pa_nil)))) pss_nil)
      (pss_cons (ps_set (i := 3) sc_free_meaning.nd rfl (by first | exact Or.inl rfl | exact Or.inr rfl) (pe_df D4 hr1 pass0 (pa_cons (pe_lc (own := [("choice", 5)]) (g := gName 5) (tt := tYes) rfl sc_free_meaning.nd (pi_seq (pv 1)) (blkOk_by (own := [("choice", 5)]) (N := ["web", "choices", "rows", "wrong", "walk", "choice"]) (sc := defScope sfree_meaning) (by decide +kernel)) (fun _ _ _ _ _ => pg_name (i := 5) sc_free_meaning.nd rfl (by first | exact Or.inl rfl | exact Or.inr rfl)) (fun _ _ _ _ _ => pts_nil) (fun _ _ _ _ _ => (pe_callB (call_isD kit_bool) (by rfl) B.isinstance (by decide +kernel) (pa_cons (pv 5) (pa_cons (pe_ty "bool" B.bool (by decide +kernel)) pa_nil))))) pa_nil)))
      (pss_cons (ps_if (pt_cmpR op_notN (pv 3) pe_non (nomark _)) (pss_one (ps_raise rfl (takes_of rfl rfl rfl rfl) (pmk_oex TC.oex TC.iC TC.tI GC hr2 bC .nil pass0 (by rfl) TC.gC (pa_cons (pv 3) pa_nil)))) pss_nil)
      (pss_cons (ps_set (i := 4) sc_free_meaning.nd rfl (by first | exact Or.inl rfl | exact Or.inr rfl) (pe_df D2 hr4 pass0 (pa_cons (pv 2) (pa_cons (pv 1) pa_nil))))
      (pss_cons (ps_if (pt_cmpR op_gt (pe_callB call_lenS (by rfl) B.len (by decide +kernel) (pa_cons (pe_fld (pv 4) rfl) pa_nil)) (pe_callB call_lenS (by rfl) B.len (by decide +kernel) (pa_cons (pv 1) pa_nil)) (nomark _)) (pss_one (ps_raise rfl (takes_of rfl rfl rfl rfl) (pmk_oex TC.oex TC.iC TC.tI GC hr2 bC .nil pass0 (by rfl) TC.gC (pa_cons (pe_callB call_lenS (by rfl) B.len (by decide +kernel) (pa_cons (pv 1) pa_nil)) pa_nil)))) pss_nil)
      (pss_one (ps_ret (pe_fld (pv 4) rfl))))))))), ?_⟩
  have hsl := lim_lt
  refine ⟨_, rfl, v, d, rfl, rd, wdd, fun t l dd R as H1 sc s1 nt nl nd tb => ?_, fun R n x dx H' sc s nd hx => q3 R n x dx H' sc s nd hx⟩
  obtain ⟨dx1, ob1⟩ := tb.ob
  refine ⟨t, CT, dx1, _, _, rfl, ob1, T.cl, T.nR, flds_rows l dd, ?_⟩
  have re1 := re.sm s1
  refine ⟨_, rfl, spP1_of re1 trivial fun y H2 s2 r2 => ?_⟩
  cases r2.bl_inv
  refine ⟨_, rfl, ?_⟩
  rw [show isL ([e].headD .none) = isL e from rfl]
  have s12 := s1.trans s2
  have re2 := re1.sm s2
  have tb2 := tb.sm s2
  cases hL : isL e with
  | false =>
    refine iteT ⟨(by show 1 ≤ 1000; decide), raise_own fun dx H' s5 nd5 hx => q2 R 0 dx H' sc ?_ (s12.trans s5) (s12.free nd5) hx⟩
    unfold chFault
    rw [if_neg (by rw [hL]; exact Bool.false_ne_true)]
  | true =>
    refine iteF ?_
    have lW := (wd_its wde hL).1
    obtain ⟨a, xs, rfl, hq, rs⟩ := re2.seq hL
    refine ⟨_, rfl, a, xs, rfl, hq, fun J hJ D nD => ?_⟩
    refine lc_fz (fun d => .bool (isB d)) (.seq hJ rs) nD lW (fun _ => rfl) (fun _ _ => rfl) (fun x dx' H3 Q' hx' s3 rx q' => ?_) fun H3 ys s3 eD ry => ?_
    · exact ⟨_, rfl, x, dx', rfl, rx, q' _ _ Sm.rfl' (.bl _)⟩
    · have ey : (its e).map (fun d => PyData.bool (isB d)) = ((its e).map isB).map PyData.bool := by simp
      rw [ey] at ry
      have ey2 := ry.bls
      subst ey2
      refine ⟨D, _, rfl, eD, fun H4 s4 => ?_⟩
      have s14 := s12.trans (s3.trans s4)
      have re4 := re2.sm (s3.trans s4)
      have tb4 := tb2.sm (s3.trans s4)
      cases hf : firstF ((its e).map isB) 0 with
      | some k =>
        refine ⟨_, rfl, rfl, _, rfl, ?_⟩
        rw [show (!decide (natO (some k) = V.non)) = true by simp [natO]]
        refine iteT ⟨_, rfl, (by show 1 ≤ 1000; decide), raise_own fun dx H' s5 nd5 hx => q2 R k dx H' sc ?_ (s14.trans s5) (s14.free nd5) hx⟩
        unfold chFault
        rw [if_pos hL, hf]
      | none =>
        refine ⟨_, rfl, rfl, _, rfl, iteF ?_⟩
        have eb := boolsOf_its (firstF_none hf)
        have lb := boolsOf_len e
        refine ⟨_, rfl, _, rfl, .ref l, .ref a, boolsOf e, R, rfl, tb4.rows, sc.web wdd, sc.lenW wdd, ⟨e, re4, hL, eb⟩, fun tw ml cl H5 s5 wd => ?_⟩
        obtain ⟨⟨g, kd, wo⟩, n1, n2, n3⟩ := wd
        obtain ⟨dx5, ob5⟩ := wo.ob
        have re5 := re4.sm s5
        have s15 := s14.trans s5
        refine ⟨_, rfl, tw, C, dx5, _, _, rfl, ob5, TW.cl, TW.nc, wfs_c, .ref cl, _, rfl, wo.cdr trivial, rfl, _, rfl, .ref a, e, rfl, re5, hL, _, _, rfl, rfl, _, rfl, ?_⟩
        rw [show (its (.list ((fwalk R (boolsOf e) R.length).ch.map PyData.bool))).length = (fwalk R (boolsOf e) R.length).ch.length by simp [its], ← lb]
        have ech : chFault R e = if (boolsOf e).length < (fwalk R (boolsOf e) R.length).ch.length then some (boolsOf e).length else none := by
          unfold chFault
          rw [if_pos hL, hf]
        by_cases hc : (boolsOf e).length < (fwalk R (boolsOf e) R.length).ch.length
        · rw [if_pos hc] at ech
          rw [decide_eq_true (show (((boolsOf e).length : Nat) : Int) < ((fwalk R (boolsOf e) R.length).ch.length : Nat) by omega)]
          refine iteT ⟨_, rfl, .ref a, e, rfl, re5, hL, (by show 1 ≤ 1000; decide), ?_⟩
          rw [← lb]
          exact raise_own fun dx H' s6 nd6 hx => q2 R _ dx H' sc ech (s15.trans s6) (s15.free nd6) hx
        · rw [if_neg hc] at ech
          rw [decide_eq_false (show ¬ (((boolsOf e).length : Nat) : Int) < ((fwalk R (boolsOf e) R.length).ch.length : Nat) by omega)]
          refine iteF ⟨_, rfl, tw, C, dx5, _, _, rfl, ob5, TW.cl, TW.nm, wfs_m, ?_⟩
          exact q1 R ml H5 sc ech s15 (s14.free n2) wo.ml_
end
end K8

/-! _law_a_like, _law_a_side. -/
namespace K8
open PySem PySem.Spec PyProof.Rows L2 WR
abbrev spALike : Sp := fun vs H Q _ => ∃ (v u : V) (R : List Row) (ms : List Wt), vs = [v, u, .int (ms.length : Nat)] ∧ Dr All H v (rowsD R) ∧ Mf All H u ms ∧ Mw R ms ∧ ms.length < R.length ∧ R.length ≤ lim ∧ (∀ r ∈ R, r.ok) ∧ (rowAt R ms.length).keyed = true ∧
  (∀ k, k < ms.length → ∀ j ∈ (rowAt R k).parts, (rowAt R j).isAsked = false) ∧
  ∀ H', Sm H H' → Q (natO (firstLike R ms (rowAt R ms.length))) H'
abbrev spASide : Sp := fun vs H Q _ => ∃ (v u : V) (c i j : Nat) (ms : List Wt) (x : Bool), vs = [v, u] ∧ Dr All H v (Row.either c i j).d ∧ Mn All H u [c] ms ∧ wAt ms c = .b x ∧ Q (.int (side (.either c i j) ms : Nat)) H
/-! ### mathematics -/
def Wt.nOf : Wt → Nat
  | .n k => k
  | .b _ => 0
theorem wts_nums : ∀ {l : List Wt}, (∀ x ∈ l, x.isB = false) → l.map Wt.d = nums (l.map Wt.nOf)
  | [], _ => rfl
  | x :: l, h => by
    have hx := h x (List.mem_cons_self ..)
    have ih := wts_nums fun y hy => h y (List.mem_cons_of_mem _ hy)
    rw [List.map_cons, ih]
    cases x with
    | b _ => cases hx
    | n k => rfl
theorem nOf_inj : ∀ {l m : List Wt}, (∀ x ∈ l, x.isB = false) → (∀ x ∈ m, x.isB = false) → l.map Wt.nOf = m.map Wt.nOf → l = m
  | [], [], _, _, _ => rfl
  | [], _ :: _, _, _, h => by simp at h
  | _ :: _, [], _, _, h => by simp at h
  | x :: l, y :: m, hl, hm, h => by
    simp only [List.map_cons, List.cons.injEq] at h
    have hx := hl x (List.mem_cons_self ..)
    have hy := hm y (List.mem_cons_self ..)
    have e : x = y := by
      cases x with
      | b _ => cases hx
      | n i => cases y with
        | b _ => cases hy
        | n j => exact congrArg Wt.n h.1
    rw [e, nOf_inj (fun z hz => hl z (List.mem_cons_of_mem _ hz)) (fun z hz => hm z (List.mem_cons_of_mem _ hz)) h.2]
theorem wts_eqv {l m : List Wt} (hl : ∀ x ∈ l, x.isB = false) (hm : ∀ x ∈ m, x.isB = false) : PyData.eqv (.list (l.map Wt.d)) (.list (m.map Wt.d)) = decide (l = m) := by
  rw [wts_nums hl, wts_nums hm]
  show PyData.eqvAll (nums _) (nums _) = _
  rw [eqv_nums]
  exact decide_eq_decide.mpr ⟨nOf_inj hl hm, fun h => by rw [h]⟩
theorem wts_eqOk {l : List Wt} (hl : ∀ x ∈ l, x.isB = false) : eqOk (.list (l.map Wt.d)) := by
  rw [wts_nums hl]
  exact nums_eqOk _
def head2 (r : Row) : PyData := .tuple ((its r.d).take 2)
theorem likeD_row (r : Row) : likeD r.d (cutA (its r.d) none (some 2)) = head2 r := by
  have h : cutA (its r.d) none (some 2) = (its r.d).take 2 := cutA_to _ 2
  rw [h]
  cases r <;> rfl
theorem head2_eqv (s r : Row) (hk : r.keyed = true) : PyData.eqv (head2 s) (head2 r) = (s.keyed && (decide (s.word = r.word) && decide (s.name = r.name))) := by
  have e1 : (("either" : Str) == ("made" : Str)) = false := by decide +kernel
  have e2 : (("either" : Str) == ("asked" : Str)) = false := by decide +kernel
  have g1 : (("given" : Str) == ("made" : Str)) = false := by decide +kernel
  have g2 : (("given" : Str) == ("asked" : Str)) = false := by decide +kernel
  have b : ∀ x y : Str, (x == y) = decide (x = y) := fun x y => by
    by_cases h : x = y
    · subst h
      simp
    · rw [decide_eq_false h]
      simpa using h
  cases r with
  | either c i j => cases hk
  | given k => cases hk
  | made n ks =>
    cases s with
    | made m js =>
      show (("made" : Str) == "made" && ((m == n) && true)) = (true && (decide (("made" : Str) = "made") && decide (m = n)))
      rw [b, b, Bool.and_true, Bool.true_and]
    | asked m js =>
      show (("asked" : Str) == "made" && ((m == n) && true)) = (true && (decide (("asked" : Str) = "made") && decide (m = n)))
      rw [b, b, Bool.and_true, Bool.true_and]
    | either c i j =>
      show (("either" : Str) == "made" && (PyData.eqv (.int (c : Nat)) (.str n) && true)) = false
      rw [e1, Bool.false_and]
    | given k =>
      show (("given" : Str) == "made" && (PyData.eqv (.int (k : Nat)) (.str n) && true)) = false
      rw [g1, Bool.false_and]
  | asked n ks =>
    cases s with
    | made m js =>
      show (("made" : Str) == "asked" && ((m == n) && true)) = (true && (decide (("made" : Str) = "asked") && decide (m = n)))
      rw [b, b, Bool.and_true, Bool.true_and]
    | asked m js =>
      show (("asked" : Str) == "asked" && ((m == n) && true)) = (true && (decide (("asked" : Str) = "asked") && decide (m = n)))
      rw [b, b, Bool.and_true, Bool.true_and]
    | either c i j =>
      show (("either" : Str) == "asked" && (PyData.eqv (.int (c : Nat)) (.str n) && true)) = false
      rw [e2, Bool.false_and]
    | given k =>
      show (("given" : Str) == "asked" && (PyData.eqv (.int (k : Nat)) (.str n) && true)) = false
      rw [g2, Bool.false_and]
theorem layAll_take : ∀ {ds : List PyData} (n : Nat), PyData.canLayAll0 ds = true → PyData.canLayAll0 (ds.take n) = true
  | [], _, _ => by rw [List.take_nil]; rfl
  | _ :: _, 0, _ => rfl
  | d :: ds, n + 1, h => by
    simp only [PyData.canLayAll0, Bool.and_eq_true] at h
    simp only [List.take_succ_cons, PyData.canLayAll0, Bool.and_eq_true]
    exact ⟨h.1, layAll_take n h.2⟩
theorem depAll_take : ∀ (ds : List PyData) (n : Nat), PyData.depthAll (ds.take n) ≤ PyData.depthAll ds
  | [], n => by rw [List.take_nil]; exact Nat.le_refl _
  | _ :: _, 0 => Nat.zero_le _
  | d :: ds, n + 1 => by
    have := depAll_take ds n
    simp only [List.take_succ_cons, PyData.depthAll]
    omega
theorem head2_eqOk {r : Row} (h : r.ok) : eqOk (head2 r) := by
  have l := Row.lay h
  have dp := Row.dep r
  have e : r.d = .tuple (its r.d) := by cases r <;> rfl
  rw [e] at l dp
  refine ⟨?_, ?_⟩
  · simp only [PyData.canLay0] at l
    simp only [head2, PyData.canLay0]
    exact layAll_take 2 l
  · have := depAll_take (its r.d) 2
    simp only [PyData.depth] at dp
    simp only [head2, PyData.depth]
    omega
theorem find_range {p : Nat → Bool} {n i : Nat} (h : ∀ j, j < i → p j = false) (hi : i < n) (hp : p i = true) : (List.range n).find? p = some i := by
  induction n with
  | zero => omega
  | succ n ih =>
    rw [List.range_succ, List.find?_append]
    by_cases z : i < n
    · rw [ih z]
      rfl
    · have e : i = n := by omega
      subst e
      have : (List.range i).find? p = none := List.find?_eq_none.mpr fun x hx => by rw [h x (List.mem_range.mp hx)]; exact Bool.false_ne_true
      rw [this, Option.none_or, List.find?_singleton, if_pos hp]
theorem find_range_none {p : Nat → Bool} {n : Nat} (h : ∀ j, j < n → p j = false) : (List.range n).find? p = none :=
  List.find?_eq_none.mpr fun x hx => by rw [h x (List.mem_range.mp hx)]; exact Bool.false_ne_true
section
variable {P : Program} {w : World} {K : PySem.W.Frag} {mg : Str → Option Value} {base : Heap}
theorem sc__law_a_side : FnScope ["row", "told"] ["row", "told"] (defScope s_law_a_side) := ⟨rfl, rfl, rfl, by decide +kernel, rfl, by decide +kernel, by decide +kernel⟩
theorem ok__law_a_side (F : Fn K mg d_law_a_side) : Df P w K mg base CX0 1 "_law_a_side" ["row", "told"] spASide := by
  obtain ⟨f, fd, hm, F⟩ := F
  refine ⟨f, fd, hm, F.kp, F.bindsN fun _ _ _ _ _ _ us hl => match us, hl with | [_, _], _ => rfl, ?_⟩
  refine F.ok sc__law_a_side (fun vs H Q E h => by obtain ⟨v, u, c, i, j, ms, x, rfl, _⟩ := h; rfl) (fun cdv A outer s H vs Q E hr h => ?_)
  obtain ⟨v, u, c, i, j, ms, x, rfl, rr, ⟨d, rd, hL, al⟩, hx, q⟩ := h
  refine ⟨_, PSs.nox (pss_one (ps_ret (pe_ifExp (pt_val (pe_ix ix_D (pv 1) (pe_ix ix_D (pv 0) pe_int (fun _ _ => rfl)) (fun _ _ => rfl))) (pe_ix ix_D (pv 0) pe_int (fun _ _ => rfl)) (pe_ix ix_D (pv 0) pe_int (fun _ _ => rfl))))), ?_⟩
  have ec := al c (List.mem_singleton.mpr rfl)
  rw [hx] at ec
  refine ⟨_, rfl, _, rfl, _, 1, _, rr, rfl, rfl, rfl, fun y ry => ?_⟩
  cases ry.int_inv
  refine ⟨d, c, _, rd, hL, rfl, ec, fun y2 r2 => ?_⟩
  obtain rfl : y2 = .bl x := by cases r2; rfl
  refine ⟨_, rfl, ?_⟩
  cases x with
  | true =>
    refine iteT ⟨_, rfl, _, 2, _, rr, rfl, rfl, rfl, fun y3 r3 => ?_⟩
    cases r3.int_inv
    have e : side (.either c i j) ms = i := if_pos hx
    rw [e] at q
    exact q
  | false =>
    refine iteF ⟨_, rfl, _, 3, _, rr, rfl, rfl, rfl, fun y3 r3 => ?_⟩
    cases r3.int_inv
    have e : side (.either c i j) ms = j := if_neg (by rw [hx]; exact fun z => nomatch z)
    rw [e] at q
    exact q
theorem sc__law_a_like : FnScope ["rows", "told", "at", "row", "some", "one", "k"] ["rows", "told", "at"] (defScope s_law_a_like) := ⟨rfl, rfl, rfl, by decide +kernel, rfl, by decide +kernel, by decide +kernel⟩
theorem ok__law_a_like (B : Bt mg) (F : Fn K mg d_law_a_like) : Df P w K mg base CX0 1 "_law_a_like" ["rows", "told", "at"] spALike := by
  obtain ⟨f, fd, hm, F⟩ := F
  refine ⟨f, fd, hm, F.kp, F.bindsN fun _ _ _ _ _ _ us hl => match us, hl with | [_, _, _], _ => rfl, ?_⟩
  refine F.ok sc__law_a_like (fun vs H Q E h => by obtain ⟨v, u, R, ms, rfl, _⟩ := h; rfl) (fun cdv A outer s H vs Q E hr h => ?_)
  obtain ⟨v, u, R, ms, rfl, rr, mf, M, hlt, hR, hok, hk, hpt, q⟩ := h
  have hu65 := hr.units
  refine ⟨_, PSs.nox (pss_cons (ps_set (i := 3) sc__law_a_like.nd rfl (by first | exact Or.inl rfl | exact Or.inr rfl) (pe_ix ix_D (pv 0) (pv 2) (fun _ _ => rfl)))
      (pss_cons (ps_setLc (i := 4) (own := [("one", 5)]) (g := gName 5) (tt := tYes) rfl sc__law_a_like.nd rfl rfl (sw_true rfl rfl rfl (by decide +kernel)) (pi_seq (pe_ix ix_D (pv 3) pe_int (fun _ _ => rfl))) (blkOk_by (own := [("one", 5)]) (N := ["rows", "told", "at", "row", "some", "one", "k"]) (sc := defScope s_law_a_like) (by decide +kernel)) (fun _ _ _ _ _ => pg_name (i := 5) sc__law_a_like.nd rfl (by first | exact Or.inl rfl | exact Or.inr rfl)) (fun _ _ _ _ _ => pts_nil) (fun _ _ _ _ _ => (pe_ix ix_D (pv 1) (pv 5) (fun _ _ => rfl))))
      (pss_cons (ps_for PassesOwn.never rfl (pi_range1 rfl B.range (pa_cons (pv 2) pa_nil)) (pg_name (i := 5) sc__law_a_like.nd rfl (by first | exact Or.inl rfl | exact Or.inr rfl)) (pss_one (ps_if (PW.pt (pw_and (pt_cmpR (op_eqDr hu65) (pe_slice sl_D (pe_ix ix_D (pv 0) (pv 5) (fun _ _ => rfl)) po_none (po_some pe_int)) (pe_slice sl_D (pv 3) po_none (po_some pe_int)) (nomark _)) (pw_and1 (pt_cmpR (op_eqDr hu65) (pe_lc (own := [("k", 6)]) (g := gName 6) (tt := tYes) rfl sc__law_a_like.nd (pi_seq (pe_ix ix_D (pe_ix ix_D (pv 0) (pv 5) (fun _ _ => rfl)) pe_int (fun _ _ => rfl))) (blkOk_by (own := [("k", 6)]) (N := ["rows", "told", "at", "row", "some", "one", "k"]) (sc := defScope s_law_a_like) (by decide +kernel)) (fun _ _ _ _ _ => pg_name (i := 6) sc__law_a_like.nd rfl (by first | exact Or.inl rfl | exact Or.inr rfl)) (fun _ _ _ _ _ => pts_nil) (fun _ _ _ _ _ => (pe_ix ix_D (pv 1) (pv 6) (fun _ _ => rfl)))) (pv 4) (nomark _))))) (pss_one (ps_ret (pv 5))) pss_nil)))
      (pss_one (ps_ret pe_non))))), ?_⟩
  have hlim : lim = 4000 := rfl
  have hsl := lim_lt
  generalize hr0 : rowAt R ms.length = r at *
  have hrD : (R.map Row.d)[ms.length]? = some r.d := by rw [← hr0]; exact rowAt_at hlt
  have rokr : r.ok := by rw [← hr0]; exact M.ok
  have ahd' := M.ahd ms.length (by omega)
  rw [hr0] at ahd'
  have len_of : ∀ s : Row, s.keyed = true → s.ok → s.named.length ≤ lim := fun s hs ho => by
    cases s with
    | made n ks => exact ho.2
    | asked n ks => exact ho.2
    | _ => cases hs
  obtain ⟨d, rd, hL, al⟩ := mf
  -- [told[k] for k in row[2]]
  have comp : ∀ (i : Nat) (s : Row) (σ0 : L2.St) (H1 : Hp) (J : It) (zs : List V) (za : Addr) (D : Addr) (Qd : Hp → Prop), s.keyed = true → s.ok → (∀ k ∈ s.named, k < ms.length) → Sm H H1 → ItS K H1 za zs J → DrA All H1 zs (nums s.named) → H1 D = none →
      (∀ x, wipe ((wipe σ0 [i]).set i (some x)) [i] = wipe σ0 [i]) → (∀ x, ((wipe σ0 [i]).set i (some x))[1]? = some (some u)) → (∀ x, ((wipe σ0 [i]).set i (some x))[i]? = some (some x)) →
      (∀ H2 ys, Sm H1 H2 → H2 D = some (.lst ys) → DrA All H2 ys ((s.named.map (wAt ms)).map Wt.d) → Qd H2) →
      ∃ W : Nat → Nat → Hp → Prop, (∃ m, W 0 m (upd H1 D (.lst []))) ∧ ∀ i' m H, W i' m H →
      (J.stop i' H ∧ Qd H) ∨ (J.go i' H ∧ ∃ Nx : Hp → Prop, (∀ H', Nx H' → ∃ m', m' < m ∧ W (i' + 1) m' H') ∧ ∀ x H', J.yld i' H x H' → gName i x (wipe σ0 [i]) H' fun σ2 H2 => wipe σ2 [i] = wipe σ0 [i] ∧ tYes σ2 H2 fun b H3 =>
        if b = true then (tOp WR.rIxD (tVar 1) (tVar i)) σ2 H3 fun y H4 => ∃ acc, H4 D = some (.lst acc) ∧ acc.length < sizeLine ∧ Nx (upd H4 D (.lst (acc ++ [y]))) else Nx H3) := fun i s σ0 H1 J zs za D Qd hs ho hn s1 hJ rz nD w1 w2 w3 hd => by
    have al' : ∀ k ∈ s.named, (its d)[k]? = some (wAt ms k).d := fun k hk => al k (hn k hk)
    refine lc_fz (fun e => (its d).getD (intOf e).toNat .none) (.seq hJ rz) nD (by simpa [nums] using len_of s hs ho) w1 (fun e he => ?_) (fun x e H2 Q' he s2 rx q' => ?_) fun H2 ys s2 eD ry => ?_
    · obtain ⟨k, hk', rfl⟩ := List.mem_map.mp he
      show WR.fz ((its d).getD ((k : Int)).toNat .none) = true
      rw [Int.toNat_natCast, List.getD_eq_getElem?_getD, al' k hk']
      cases wAt ms k <;> rfl
    · obtain ⟨k, hk', rfl⟩ := List.mem_map.mp he
      cases rx.int_inv
      refine ⟨_, w2 _, _, w3 _, d, k, _, rd.sm (s1.trans s2), hL, rfl, al' k hk', fun y ry => q' _ _ Sm.rfl' ?_⟩
      show Dr All H2 y ((its d).getD ((k : Int)).toNat .none)
      rw [Int.toNat_natCast, List.getD_eq_getElem?_getD, al' k hk']
      exact ry
    · rw [keys_dr al'] at ry
      exact hd H2 ys s2 eD ry
  refine ⟨_, rfl, _, rfl, _, ms.length, _, rr, rfl, rfl, hrD, fun rv rrow => ?_⟩
  have rrow' := rrow
  rw [Row.keyedD hk] at rrow'
  refine ⟨_, rfl, _, 2, _, rrow', rfl, rfl, rfl, fun y2 r2 => ?_⟩
  obtain ⟨xa, xs, rfl, exa, rxs⟩ : ∃ a xs, y2 = .ref a ∧ H a = some (.tup xs) ∧ DrA All H xs (nums r.named) := by
    cases r2 with
    | tup e r => exact ⟨_, _, rfl, e, r⟩
  refine ⟨xa, xs, rfl, .inr exa, fun J hJ D0 nD0 => ?_⟩
  refine comp 5 r _ H J xs xa D0 _ hk rokr ahd' Sm.rfl' hJ rxs nD0 (fun _ => rfl) (fun _ => rfl) (fun _ => rfl) fun H2 ys s2 eD ry => ?_
  have nmr : ∀ x ∈ r.named.map (wAt ms), x.isB = false := by
    have := M.nm (by rw [hr0]; exact hk)
    rw [hr0] at this
    exact this
  have rD0 : Dr All H2 (.ref D0) (.list ((r.named.map (wAt ms)).map Wt.d)) := .lst trivial eD ry
  have rr2 := rr.sm s2
  have rrow2 := rrow.sm s2
  have hpe : ∀ H', Sm H H' → ∀ o, firstLike R ms r = o → Q (natO o) H' := fun H' s o e => by
    rw [← e]
    exact q H' s
  refine ⟨_, rfl, _, rfl, by omega, by omega, ?_⟩
  rw [Int.toNat_natCast]
  refine for_range (n := ms.length) (fun i σ3 H3 => ∃ (x5 x6 : Option V), σ3 = [some v, some u, some (.int (ms.length : Nat)), some rv, some (.ref D0), x5, x6] ∧ Sm H2 H3 ∧ ∀ j, j < i → ((rowAt R j).keyed && decide (key (rowAt R j) ms = key r ms)) = false) ?_ ?_ ?_
  · exact ⟨_, _, rfl, Sm.rfl', fun j hj => absurd hj (Nat.not_lt_zero j)⟩
  · rintro i σ3 H3 hi ⟨x5, x6, rfl, s3, hj⟩
    have hiR : i < R.length := by omega
    have hiD : (R.map Row.d)[i]? = some (rowAt R i).d := rowAt_at hiR
    have ei : (0 : Int) + (i : Nat) = (i : Nat) := Int.zero_add _
    have oki : (rowAt R i).ok := hok _ (rowAt_mem hiR)
    have ahi : ∀ k ∈ (rowAt R i).named, k < ms.length := fun k hk' => by
      have := M.ahd i (by omega) k hk'
      omega
    refine ⟨_, rfl, _, rfl, _, i, _, rr2.sm s3, rfl, by rw [ei], hiD, fun sv rsv => ⟨2, rfl, (rowAt R i).d, rsv, Row.seqD _, fun a1 H4 s4 r4 => ⟨_, rfl, 2, rfl, r.d, (rrow2.sm s3).sm s4, Row.seqD _, fun a2 H5 s5 r5 => ?_⟩⟩⟩
    rw [likeD_row] at r4 r5
    refine ⟨head2 (rowAt R i), head2 r, r4.sm s5, r5, head2_eqOk oki, head2_eqOk rokr, _, rfl, ?_⟩
    rw [head2_eqv _ _ hk]
    have s35 := s3.trans (s4.trans s5)
    by_cases hh : ((rowAt R i).keyed && (decide ((rowAt R i).word = r.word) && decide ((rowAt R i).name = r.name))) = true
    · rw [hh]
      refine iteT ?_
      simp only [Bool.and_eq_true, decide_eq_true_eq] at hh
      obtain ⟨hki, hw, hn⟩ := hh
      refine ⟨_, rfl, _, rfl, _, i, _, rr2.sm s35, rfl, by rw [ei], hiD, fun sv6 r6 => ?_⟩
      rw [Row.keyedD hki] at r6
      refine ⟨_, 2, _, r6, rfl, rfl, rfl, fun y7 r7 => ?_⟩
      obtain ⟨xb, zs, rfl, exb, rzs⟩ : ∃ a zs, y7 = .ref a ∧ H5 a = some (.tup zs) ∧ DrA All H5 zs (nums (rowAt R i).named) := by
        cases r7 with
        | tup e r => exact ⟨_, _, rfl, e, r⟩
      refine ⟨xb, zs, rfl, .inr exb, fun J2 hJ2 D2 nD2 => ?_⟩
      refine comp 6 (rowAt R i) _ H5 J2 zs xb D2 _ hki oki ahi (s2.trans s35) hJ2 rzs nD2 (fun _ => rfl) (fun _ => rfl) (fun _ => rfl) fun H6 ws s6 eD2 rws => ?_
      have nmi : ∀ x ∈ (rowAt R i).named.map (wAt ms), x.isB = false := fun x hx => by
        obtain ⟨k, hk', rfl⟩ := List.mem_map.mp hx
        rw [M.kinds k (ahi k hk')]
        refine hpt i hi k ?_
        cases e : rowAt R i with
        | made n ks => rw [e] at hk'; exact hk'
        | asked n ks => rw [e] at hk'; exact hk'
        | _ => rw [e] at hki; cases hki
      refine ⟨_, rfl, _, _, .lst trivial eD2 rws, (rD0.sm s35).sm s6, wts_eqOk nmi, wts_eqOk nmr, _, rfl, ?_⟩
      rw [wts_eqv nmi nmr]
      by_cases hq : (rowAt R i).named.map (wAt ms) = r.named.map (wAt ms)
      · rw [decide_eq_true hq]
        refine iteT ⟨_, rfl, ?_⟩
        have hp : ((rowAt R i).keyed && decide (key (rowAt R i) ms = key r ms)) = true := by
          rw [hki, Bool.true_and, decide_eq_true_eq]
          unfold key
          rw [hw, hn, hq]
        have := hpe H6 ((s2.trans s35).trans s6) (some i) (find_range hj hi hp)
        rw [ei]
        exact this
      · rw [decide_eq_false hq]
        refine iteF ⟨_, _, rfl, s35.trans s6, fun j hj' => ?_⟩
        by_cases z : j < i
        · exact hj j z
        · obtain rfl : j = i := by omega
          rw [hki, Bool.true_and, decide_eq_false_iff_not]
          intro e
          exact hq (congrArg (·.2.2) e)
    · rw [eq_false_of_ne_true hh]
      refine iteF (iteF ⟨_, _, rfl, s35, fun j hj' => ?_⟩)
      by_cases z : j < i
      · exact hj j z
      · obtain rfl : j = i := by omega
        cases hki : (rowAt R j).keyed with
        | false => rfl
        | true =>
          rw [hki, Bool.true_and] at hh
          rw [Bool.true_and, decide_eq_false_iff_not]
          intro e
          refine hh ?_
          rw [Bool.and_eq_true, decide_eq_true_eq, decide_eq_true_eq]
          exact ⟨congrArg (·.1) e, congrArg (·.2.1) e⟩
  · rintro σ3 H3 ⟨x5, x6, rfl, s3, hj⟩
    exact hpe H3 (s2.trans s3) none (find_range_none hj)
end
end K8

/-! _law_a_fault. -/
namespace K8
open PySem PySem.Spec PyProof.Rows L2 WR
section
variable {X : Cx} {a b c : Expr} {pos : Pos} {tA tB' tC' : TT}
/-- one test or another -/
def tIfT (c t u : TT) : TT := fun σ H Q => c σ H fun b H1 => if b = true then t σ H1 Q else u σ H1 Q
theorem pt_ifE (hc : PT X c tA) (ha : PT X a tB') (hb : PT X b tC') : PT X (.IfExp c a b pos) (tIfT tA tB' tC') := by
  refine ⟨fun pins s σ H Q I h => ?_⟩
  refine isTrue_IfExp (thn (hc.run pins s σ H _ I h) fun d s1 ⟨H1, I1, q1⟩ => ?_)
  cases d with
  | true => exact ha.run pins s1 σ H1 Q I1 q1
  | false => exact hb.run pins s1 σ H1 Q I1 q1
end
theorem Web.parts_na {R : List Row} (W : Web R) {i : Nat} (h : i < R.length) : ∀ k ∈ (rowAt R i).parts, (rowAt R k).isAsked = false := fun k hk => by
  obtain ⟨h1, _, _⟩ := W.at_ h
  obtain ⟨_, _, w3, _⟩ := why_none.mp h1
  have la : (R.take i).length = i := by rw [List.length_take]; omega
  have := w3 k hk
  unfold isPart at this
  simp only [Bool.and_eq_true, decide_eq_true_eq, Bool.not_eq_true'] at this
  rw [← rowAt_take (R := R) (i := i) (by rw [← la]; exact this.1)]
  exact this.2
theorem inV_keyed (r : Row) : inV (V.str r.word) [V.str "made", V.str "asked"] = r.keyed := by
  cases r with
  | made n ks => show inV (V.str "made") [V.str "made", V.str "asked"] = true; decide +kernel
  | asked n ks => show inV (V.str "asked") [V.str "made", V.str "asked"] = true; decide +kernel
  | either c i j => show inV (V.str "either") [V.str "made", V.str "asked"] = false; decide +kernel
  | given k => show inV (V.str "given") [V.str "made", V.str "asked"] = false; decide +kernel
theorem isI_num (e : PyData) : isNum e = (isI e && !isB e && (match e with | .int i => decide (0 ≤ i) | _ => false)) := by cases e <;> rfl
section
variable {P : Program} {w : World} {K : PySem.W.Frag} {mg : Str → Option Value} {base : Heap}
theorem sc__law_a_fault : FnScope ["rows", "thing", "at", "row", "one", "is_number_v", "like"] ["rows", "thing"] (defScope s_law_a_fault) := ⟨rfl, rfl, rfl, by decide +kernel, rfl, by decide +kernel, by decide +kernel⟩
theorem ok__law_a_fault (B : Bt mg) (F : Fn K mg d_law_a_fault) (D1 : Df P w K mg base CX0 1 "_law_a_side" ["row", "told"] spASide) (D2 : Df P w K mg base CX0 1 "_law_a_like" ["rows", "told", "at"] spALike) :
    Df P w K mg base CX0 2 "_law_a_fault" ["rows", "thing"] spRowsFault := by
  obtain ⟨f, fd, hm, F⟩ := F
  refine ⟨f, fd, hm, F.kp, F.bindsN fun _ _ _ _ _ _ us hl => match us, hl with | [_, _], _ => rfl, ?_⟩
  refine F.ok sc__law_a_fault (fun vs H Q E h => by obtain ⟨v, u, R, d, rfl, _⟩ := h; rfl) (fun cdv A outer s H vs Q E hr h => ?_)
  obtain ⟨v, u, R, d, rfl, rr, WR', hR, ru, wdd, q⟩ := h
  have hu := hr.units
  refine ⟨_, PSs.nox (pss_cons (ps_if (pt_not (pt_val (pe_callB (call_isD2 kit_list kit_tuple isL_or) (by rfl) B.isinstance (by decide +kernel) (pa_cons (pv 1) (pa_cons (pe_tup (pa_cons (pe_ty "list" B.list (by decide +kernel)) (pa_cons (pe_ty "tuple" B.tuple (by decide +kernel)) pa_nil))) pa_nil))))) (pss_one (ps_ret (pe_tup (pa_cons pe_int (pa_cons pe_str pa_nil))))) pss_nil)
      (pss_cons (ps_for PassesOwn.never rfl (pi_enS B.enumerate (pa_cons (pe_slice sl_D (pv 0) po_none (po_some (pe_callB call_lenS (by rfl) B.len (by decide +kernel) (pa_cons (pv 1) pa_nil)))) pa_nil)) (pg_tup rfl (pgs_cons (pg_name (i := 2) sc__law_a_fault.nd rfl (by first | exact Or.inl rfl | exact Or.inr rfl)) (pgs_cons (pg_name (i := 3) sc__law_a_fault.nd rfl (by first | exact Or.inl rfl | exact Or.inr rfl)) pgs_nil))) (pss_cons (ps_set (i := 4) sc__law_a_fault.nd rfl (by first | exact Or.inl rfl | exact Or.inr rfl) (pe_ix ix_D (pv 1) (pv 2) (fun _ _ => rfl)))
      (C8.pss_cut (ps_set (i := 5) sc__law_a_fault.nd rfl (by first | exact Or.inl rfl | exact Or.inr rfl) (pe_and (pe_callB (call_isD kit_int) (by rfl) B.isinstance (by decide +kernel) (pa_cons (pv 4) (pa_cons (pe_ty "int" B.int (by decide +kernel)) pa_nil))) (pe_and (pe_not (pe_callB (call_isD kit_bool) (by rfl) B.isinstance (by decide +kernel) (pa_cons (pv 4) (pa_cons (pe_ty "bool" B.bool (by decide +kernel)) pa_nil)))) (pe_one (pe_cmpR op_ge (pv 4) pe_int (nomark _))))))
      (C8.pss_cut (ps_if (pt_not (pt_ifE (pt_cmpR op_eq (pe_ix ix_D (pv 3) pe_int (fun _ _ => rfl)) pe_str (nomark _)) (pt_val (pe_callB (call_isD kit_bool) (by rfl) B.isinstance (by decide +kernel) (pa_cons (pv 4) (pa_cons (pe_ty "bool" B.bool (by decide +kernel)) pa_nil)))) (pt_val (pv 5)))) (pss_one (ps_ret (pe_tup (pa_cons (pv 2) (pa_cons pe_str pa_nil))))) pss_nil)
      (C8.pss_cut (ps_if (PW.pt (pw_and (pt_cmpR op_eq (pe_ix ix_D (pv 3) pe_int (fun _ _ => rfl)) pe_str (nomark _)) (pw_and1 (pt_cmpR op_ne (pv 4) (pe_ix ix_D (pv 1) (pe_df D1 hr pass0 (pa_cons (pv 3) (pa_cons (pv 1) pa_nil))) (fun _ _ => rfl)) (nomark _))))) (pss_one (ps_ret (pe_tup (pa_cons (pv 2) (pa_cons pe_str pa_nil))))) pss_nil)
      (C8.pss_cut (ps_set (i := 6) sc__law_a_fault.nd rfl (by first | exact Or.inl rfl | exact Or.inr rfl) (pe_ifExp (pt_cmpR op_in_seq (pe_ix ix_D (pv 3) pe_int (fun _ _ => rfl)) (pe_tup (pa_cons pe_str (pa_cons pe_str pa_nil))) (by rfl)) (pe_df D2 hr pass0 (pa_cons (pv 0) (pa_cons (pv 1) (pa_cons (pv 2) pa_nil)))) pe_non))
      (pss_one (ps_if (PW.pt (pw_and (pt_cmpR op_notN (pv 6) pe_non (nomark _)) (pw_and1 (pt_cmpR op_ne (pe_ix ix_D (pv 1) (pv 6) (fun _ _ => rfl)) (pv 4) (nomark _))))) (pss_one (ps_ret (pe_tup (pa_cons (pv 2) (pa_cons pe_str pa_nil))))) pss_nil))))))))
      (pss_one (ps_ret (pe_ifExp (pt_cmpR op_eq (pe_callB call_lenS (by rfl) B.len (by decide +kernel) (pa_cons (pv 1) pa_nil)) (pe_callB call_lenS (by rfl) B.len (by decide +kernel) (pa_cons (pv 0) pa_nil)) (nomark _)) pe_non (pe_tup (pa_cons pe_str (pa_cons (pe_callB call_lenS (by rfl) B.len (by decide +kernel) (pa_cons (pv 0) pa_nil)) pa_nil)))))))), ?_⟩
  have sz2 : 2 ≤ sizeLine := by decide
  have hlim : lim = 4000 := rfl
  have hsl := lim_lt
  refine ⟨_, rfl, sz2, fun p0 np0 => ⟨u, p0, d, rfl, upd_same, ru.sm (Sm.new np0), _, rfl, ?_⟩⟩
  have s1 := Sm.new (o := .tup [.ty "list", .ty "tuple"]) np0
  generalize upd H p0 (.tup [V.ty "list", V.ty "tuple"]) = H1 at s1 ⊢
  cases hL : isL d with
  | false =>
    refine iteT ⟨sz2, fun p np => q _ _ (s1.trans (Sm.new np)) ?_⟩
    have e : mFaultD R d = .tuple [.int 0, .str "form"] := by unfold mFaultD; rw [if_neg (by rw [hL]; exact Bool.false_ne_true)]
    rw [e]
    exact .tup upd_same (.cons (.int _) (.one (.str _)))
  | true =>
    refine iteF ?_
    have eq : mFaultD R d = (match mFault R [] R (its d) with
        | some (k, x) => .tuple [.int (k : Nat), .str x]
        | none => if (its d).length = R.length then .none else .tuple [.str "many", .int (R.length : Nat)]) := by
      unfold mFaultD
      rw [if_pos hL]
      try rfl
    have wl := (wd_its wdd hL).1
    refine ⟨_, rfl, _, rfl, u, d, rfl, ru.sm s1, hL, _, rfl, rowsD R, rr.sm s1, rfl, fun sv H3 s3 rs => ?_⟩
    have ecut : cutA (its (rowsD R)) none (some ((its d).length : Int)) = (R.map Row.d).take (its d).length := cutA_to _ _
    rw [ecut] at rs
    obtain ⟨la, xs, rfl, ela, rxs⟩ : ∃ a xs, sv = .ref a ∧ H3 a = some (.lst xs) ∧ DrA All H3 xs ((R.map Row.d).take (its d).length) := by
      cases rs with
      | lst _ e r => exact ⟨_, _, rfl, e, r⟩
    have lxs : xs.length = min (its d).length R.length := by rw [rxs.length, List.length_take, List.length_map]
    have s03 := s1.trans s3
    have rr3 := rr.sm s03
    have ru3 := ru.sm s03
    refine ⟨la, xs, rfl, .inl ela, fun J hJ => ?_⟩
    refine for_enS hJ (fun i σ4 H4 => ∃ (ms : List Wt) (x2 x3 x4 x5 x6 : Option V), σ4 = [some v, some u, x2, x3, x4, x5, x6] ∧ Sm H3 H4 ∧ ms.length = i ∧ Pre R (its d) ms) ?_ ?_ ?_ ?_
    · exact ⟨[], _, _, _, _, _, rfl, Sm.rfl', rfl, .nil R _⟩
    · rintro i σ4 H4 ⟨_, _, _, _, _, _, _, s, _⟩
      rw [s _ _ ela, ela]
    · rintro i x σ4 H4 T hx ⟨ms, x2, x3, x4, x5, x6, rfl, s4, hi, pre⟩ nT
      have hix := (List.getElem?_eq_some_iff.mp hx).1
      have hiR : ms.length < R.length := by omega
      have hid : ms.length < (its d).length := by omega
      have sT := s4.trans (Sm.new (o := .tup [.int (i : Nat), x]) nT)
      obtain ⟨dx, e1, rx⟩ := rxs.get hx
      have rx4 := rx.sm sT
      have ru4 := ru3.sm sT
      have rr4 := rr3.sm sT
      have edx : dx = (rowAt R ms.length).d := by
        rw [List.getElem?_take_of_lt (by omega), List.getElem?_map, hi.symm, List.getElem?_eq_getElem hiR] at e1
        rw [rowAt_get hiR]
        exact (Option.some.inj e1).symm
      subst edx
      have he : (its d)[ms.length]? = some (its d)[ms.length] := List.getElem?_eq_getElem hid
      generalize (its d)[ms.length] = e at he
      refine ⟨T, _, rfl, SqT.of upd_same, rfl, _, _, rfl, _, _, rfl, rfl, ?_⟩
      generalize upd H4 T (.tup [.int (i : Nat), x]) = H5 at sT rx4 ru4 rr4 ⊢
      subst hi
      have M := WR'.mw hiR pre.kinds
      generalize hr0 : rowAt R ms.length = r at *
      refine ⟨_, rfl, _, rfl, d, ms.length, e, ru4, hL, rfl, he, fun xw rw' => ?_⟩
      -- is_number_v
      refine ⟨fun σ6 H6 => σ6 = [some v, some u, some (.int (ms.length : Nat)), some x, some xw, some (.bl (isNum e)), x6] ∧ H6 = H5, ?_, ?_⟩
      · refine ⟨_, rfl, xw, e, rfl, rw', _, rfl, ?_⟩
        cases rw' with
        | int j => exact iteT ⟨_, rfl, _, _, rfl, .int j, _, rfl, _, rfl, iteT ⟨_, rfl, _, _, rfl, rfl, rfl, rfl⟩⟩
        | bl b => exact iteT ⟨_, rfl, _, _, rfl, .bl b, _, rfl, _, rfl, iteF ⟨rfl, rfl⟩⟩
        | _ => exact iteF ⟨rfl, rfl⟩
      rintro σ6 H6 ⟨rfl, rfl⟩
      have rtF : ∀ (s : Str) (H' : Hp), worthWhy R ms r e = some s → Sm H6 H' → tRet (tTup (tCons (tVar 2) (tCons (tC (V.str s)) tNil))) { nx := fun _ H' => Q V.non H', rt := Q } [some v, some u, some (.int (ms.length : Nat)), some x, some xw, some (.bl (isNum e)), x6] H' := fun s H' hw s' => by
        refine ⟨_, rfl, sz2, fun p np => q _ _ (((s03.trans sT).trans s').trans (Sm.new np)) ?_⟩
        rw [eq, pre.fault hiR he (by rw [hr0]; exact hw)]
        exact .tup upd_same (.cons (.int _) (.one (.str _)))
      -- form
      refine ⟨fun σ7 H7 => σ7 = [some v, some u, some (.int (ms.length : Nat)), some x, some xw, some (.bl (isNum e)), x6] ∧ H7 = H6 ∧ ∃ y, wtOf r e = some y, ?_, ?_⟩
      · have fin : ∀ b, b = (wtOf r e).isSome → (if (!b) = true then tRet (tTup (tCons (tVar 2) (tCons (tC (V.str "form")) tNil))) { nx := fun _ H' => Q V.non H', rt := Q } [some v, some u, some (.int (ms.length : Nat)), some x, some xw, some (.bl (isNum e)), x6] H6
            else [some v, some u, some (.int (ms.length : Nat)), some x, some xw, some (.bl (isNum e)), x6] = [some v, some u, some (.int (ms.length : Nat)), some x, some xw, some (.bl (isNum e)), x6] ∧ H6 = H6 ∧ ∃ y, wtOf r e = some y) := fun b hb => by
          subst hb
          cases hw : wtOf r e with
          | none => exact iteT (rtF "form" H6 (by unfold worthWhy; rw [hw]) Sm.rfl')
          | some y => exact iteF ⟨rfl, rfl, y, rfl⟩
        refine ⟨_, rfl, _, 0, _, rx4, Row.seqD _, rfl, Row.word_at _, fun x0 r0 => ?_⟩
        cases r0.str_inv
        refine ⟨rfl, _, rfl, ?_⟩
        rw [Row.askedP]
        refine ite2 (fun ha => ?_) (fun ha => ?_)
        · exact ⟨_, rfl, xw, e, rfl, rw', _, rfl, fin _ (by rw [wtOf_isSome, if_pos ha])⟩
        · exact ⟨_, rfl, _, rfl, fin _ (by rw [wtOf_isSome, if_neg ha])⟩
      rintro σ7 H7 ⟨rfl, rfl, y, hw⟩
      obtain ⟨rfl, hy⟩ := wtOf_d hw
      have ex := Wt.dr_v rw'
      subst ex
      -- either
      refine ⟨fun σ8 H8 => σ8 = [some v, some u, some (.int (ms.length : Nat)), some x, some y.v, some (.bl (isNum y.d)), x6] ∧ H8 = H7 ∧ (r.isEither = true → y = wAt ms (side r ms)), ?_, ?_⟩
      · refine ⟨_, rfl, _, 0, _, rx4, Row.seqD _, rfl, Row.word_at _, fun x0 r0 => ?_⟩
        cases r0.str_inv
        refine ⟨rfl, _, rfl, ?_⟩
        rw [Row.eitherW]
        cases hei : r.isEither with
        | false => exact iteF (iteF ⟨rfl, rfl, fun z => nomatch z⟩)
        | true =>
          refine iteT ?_
          obtain ⟨c, i, j, rfl⟩ : ∃ c i j, r = .either c i j := by
            cases r with
            | either c i j => exact ⟨_, _, _, rfl⟩
            | _ => cases hei
          obtain ⟨h1, h2, hc⟩ := Web.side_lt M hr0
          obtain ⟨xb, hxb⟩ : ∃ xb, wAt ms c = .b xb := by
            have := M.kinds c hc
            rw [M.tests c i j hr0] at this
            cases z : wAt ms c with
            | b xb => exact ⟨xb, rfl⟩
            | n k => rw [z] at this; cases this
          refine ⟨_, rfl, _, rfl, _, rfl, _, rfl, x, u, c, i, j, ms, xb, rfl, rx4, ⟨d, ru4, hL, fun k hk => by rw [List.mem_singleton.mp hk]; exact pre.at_ c hc⟩, hxb, ?_⟩
          refine ⟨d, _, _, ru4, hL, rfl, pre.at_ _ h1, fun z rz => ?_⟩
          cases Wt.dr_v rz
          have kind : y.isB = (wAt ms (side (.either c i j) ms)).isB := by
            rw [M.kinds _ h1, h2, hy]
            rfl
          refine ⟨Wt.scal_v kind, _, rfl, ?_⟩
          rw [Wt.dec_v]
          by_cases hq : y = wAt ms (side (.either c i j) ms)
          · rw [decide_eq_true hq]
            exact iteF ⟨rfl, rfl, fun _ => hq⟩
          · rw [decide_eq_false hq]
            refine iteT (rtF "side" H7 ?_ Sm.rfl')
            unfold worthWhy
            rw [hw]
            dsimp only
            rw [if_pos hei, if_neg hq]
      rintro σ8 H8 ⟨rfl, rfl, hside⟩
      -- like
      refine ⟨fun σ9 H9 => σ9 = [some v, some u, some (.int (ms.length : Nat)), some x, some y.v, some (.bl (isNum y.d)), some (natO (if r.keyed = true then firstLike R ms r else none))] ∧ Sm H8 H9, ?_, ?_⟩
      · refine ⟨_, rfl, _, 0, _, rx4, Row.seqD _, rfl, Row.word_at _, fun x0 r0 => ?_⟩
        cases r0.str_inv
        refine ⟨sz2, fun p np => ⟨p, [V.str "made", V.str "asked"], rfl, .inr (SqT.of upd_same), rfl, rfl, _, rfl, ?_⟩⟩
        rw [if_neg Bool.false_ne_true, inV_keyed]
        have sp := Sm.new (o := .tup [V.str "made", V.str "asked"]) np
        generalize upd H8 p (.tup [V.str "made", V.str "asked"]) = H9 at sp ⊢
        cases hk : r.keyed with
        | false => exact iteF ⟨rfl, sp⟩
        | true =>
          refine iteT ⟨_, rfl, _, rfl, _, rfl, v, u, R, ms, rfl, rr4.sm sp, ⟨d, ru4.sm sp, hL, pre.at_⟩, M, hiR, hR, fun r' hr' => WR'.ok r' hr', by rw [hr0]; exact hk, fun k hk' => WR'.parts_na (by omega), fun H' s' => ?_⟩
          rw [hr0]
          exact ⟨rfl, sp.trans s'⟩
      rintro σ9 H9 ⟨rfl, s9⟩
      have go : worthWhy R ms r y.d = none → ∃ (ms' : List Wt) (x2 x3 x4 x5 x6 : Option V), [some v, some u, some (V.int (ms.length : Nat)), some x, some y.v, some (.bl (isNum y.d)), some (natO (if r.keyed = true then firstLike R ms r else none))] = [some v, some u, x2, x3, x4, x5, x6] ∧ Sm H3 H9 ∧ ms'.length = ms.length + 1 ∧ Pre R (its d) ms' := fun hwy =>
        ⟨ms ++ [y], _, _, _, _, _, rfl, sT.trans s9, by simp, pre.step hiR he (by rw [hr0]; exact hwy) (by rw [hr0]; exact hw)⟩
      cases hk : r.keyed with
      | false =>
        have e0 : (if false = true then firstLike R ms r else none) = none := if_neg Bool.false_ne_true
        rw [hk, e0] at go
        refine ⟨_, rfl, rfl, _, rfl, iteF (iteF (go ?_))⟩
        unfold worthWhy
        rw [hw]
        dsimp only
        cases hei : r.isEither with
        | true => rw [if_pos rfl, if_pos (hside hei)]
        | false => rw [if_neg Bool.false_ne_true, if_neg (by rw [hk]; exact Bool.false_ne_true)]
      | true =>
        have hei : r.isEither = false := by
          cases r with
          | either c i j => cases hk
          | _ => rfl
        have whyK : worthWhy R ms r y.d = (match firstLike R ms r with
            | some k => if wAt ms k = y then none else some "like"
            | none => none) := by
          unfold worthWhy
          rw [hw]
          dsimp only
          rw [if_neg (by rw [hei]; exact Bool.false_ne_true), if_pos hk]
          try rfl
        have e0 : (if true = true then firstLike R ms r else none) = firstLike R ms r := if_pos rfl
        rw [hk, e0] at go
        rw [e0]
        cases hf : firstLike R ms r with
        | none =>
          rw [hf] at go whyK
          exact ⟨_, rfl, rfl, _, rfl, iteF (iteF (go whyK))⟩
        | some k =>
          rw [hf] at go whyK
          obtain ⟨k1, k2, k3⟩ := kfind_lt hf
          have kind : (wAt ms k).isB = y.isB := by rw [M.kinds k k1, hy, word_asked (show (rowAt R k).word = r.word from congrArg (·.1) k3)]
          refine ⟨_, rfl, rfl, _, rfl, ?_⟩
          rw [show (!decide (natO (some k) = V.non)) = true by simp [natO]]
          refine iteT ⟨_, rfl, _, rfl, d, k, _, ru4.sm s9, hL, rfl, pre.at_ k k1, fun z rz => ?_⟩
          cases Wt.dr_v rz
          refine ⟨_, rfl, Wt.scal_v kind, _, rfl, ?_⟩
          rw [Wt.dec_v]
          dsimp only at whyK
          by_cases hq : wAt ms k = y
          · rw [if_pos hq] at whyK
            rw [decide_eq_true hq]
            exact iteF (go whyK)
          · rw [if_neg hq] at whyK
            rw [decide_eq_false hq]
            refine iteT ⟨_, rfl, sz2, fun p np => q _ _ (((s03.trans sT).trans s9).trans (Sm.new np)) ?_⟩
            rw [eq, pre.fault hiR he (by rw [hr0]; exact whyK)]
            exact .tup upd_same (.cons (.int _) (.one (.str _)))
    · rintro σ4 H4 ⟨ms, x2, x3, x4, x5, x6, rfl, s4, hi, pre⟩
      have rr4 := rr3.sm s4
      have ru4 := ru3.sm s4
      rw [pre.done (by omega)] at eq
      dsimp only at eq
      have elR : (its (rowsD R)).length = R.length := by simp [rowsD, its]
      have s04 := s03.trans s4
      refine ⟨_, rfl, u, d, rfl, ru4, hL, _, rfl, v, _, rfl, rr4, rfl, rfl, _, rfl, ?_⟩
      rw [elR]
      by_cases hq : (its d).length = R.length
      · rw [if_pos hq] at eq
        rw [hq, decide_eq_true rfl]
        refine iteT (q _ _ s04 ?_)
        rw [eq]
        exact .non
      · rw [if_neg hq] at eq
        rw [decide_eq_false (fun z => hq (by injection z with z; omega))]
        refine iteF ⟨_, rfl, v, _, rfl, rr4, rfl, ?_⟩
        rw [elR]
        refine ⟨sz2, fun p np => q _ _ (s04.trans (Sm.new np)) ?_⟩
        rw [eq]
        exact .tup upd_same (.cons (.str _) (.one (.int _)))
end
end K8

/-! The worths by truths of the asked rows. No Python here. -/
namespace K8
open PySem PySem.Spec PyProof.Rows L2 WR
/-- truths of asked rows: the dict's entries, by index -/
def tV (ts : List (Nat × Bool)) : List (Key × V) := ts.map fun p => ((Sum.inl (p.1 : Int) : Key), V.bl p.2)
/-- a row by truths: none where a like one has another truth -/
def tstep (R : List Row) (t : Nat → Bool) (S : Fs) (r : Row) : Option Fs :=
  match r with
  | .asked _ _ => (match firstLike R S.ms r with
    | some k => if wAt S.ms k = .b (t S.ms.length) then some ⟨S.ms ++ [.b (t S.ms.length)], S.ch, S.n⟩ else none
    | none => some ⟨S.ms ++ [.b (t S.ms.length)], S.ch ++ [t S.ms.length], S.n⟩)
  | _ => some (fstep R [] S r)
def twalk (R : List Row) (t : Nat → Bool) : Nat → Option Fs
  | 0 => some ⟨[], [], 0⟩
  | m + 1 => (twalk R t m).bind fun S => tstep R t S (rowAt R m)
theorem tstep_len {R : List Row} {t : Nat → Bool} {S S' : Fs} {r : Row} (h : tstep R t S r = some S') : S'.ms.length = S.ms.length + 1 := by
  unfold tstep at h
  cases r with
  | asked n ks =>
    dsimp only at h
    cases e : firstLike R S.ms (.asked n ks) with
    | some k =>
      rw [e] at h
      dsimp only at h
      split at h
      · cases h
        simp
      · cases h
    | none =>
      rw [e] at h
      cases h
      simp
  | _ =>
    cases h
    show (S.ms ++ [_]).length = _
    simp
theorem twalk_len {R : List Row} {t : Nat → Bool} : ∀ {m : Nat} {S : Fs}, twalk R t m = some S → S.ms.length = m
  | 0, S, h => by
    cases h
    rfl
  | m + 1, S, h => by
    unfold twalk at h
    cases e : twalk R t m with
    | none => rw [e] at h; cases h
    | some S0 =>
      rw [e] at h
      rw [tstep_len h, twalk_len e]
/-- a walk by truths is a free walk -/
theorem tstep_f {R : List Row} {t : Nat → Bool} {S S' : Fs} {r : Row} (h : tstep R t S r = some S') : S' = if opens R S r = true then fput R S r (t S.ms.length) else fstep R [] S r := by
  unfold tstep at h
  cases r with
  | asked n ks =>
    dsimp only at h
    cases e : firstLike R S.ms (.asked n ks) with
    | some k =>
      have ho : opens R S (.asked n ks) = false := by
        unfold opens
        rw [e]
        rfl
      rw [e] at h
      dsimp only at h
      rw [ho, if_neg Bool.false_ne_true]
      split at h
      · rename_i hk
        cases h
        have er : rowW R [] S (.asked n ks) = (wAt S.ms k, S.ch, S.n) := by
          show keyW R [] S (.asked n ks) = _
          unfold keyW
          rw [e]
        unfold fstep
        rw [er, hk]
      · cases h
    | none =>
      have ho : opens R S (.asked n ks) = true := by
        unfold opens
        rw [e]
        rfl
      rw [e] at h
      cases h
      rw [if_pos ho]
      obtain ⟨c1, c2⟩ := fput_ch (c := t S.ms.length) ho
      have cn : (fput R S (.asked n ks) (t S.ms.length)).n = S.n := by
        show (rowW R (S.ch ++ [t S.ms.length]) S (.asked n ks)).2.2 = S.n
        show (keyW R (S.ch ++ [t S.ms.length]) S (.asked n ks)).2.2 = S.n
        unfold keyW
        rw [e]
        rfl
      cases hF : fput R S (.asked n ks) (t S.ms.length) with
      | mk a b c =>
        rw [hF] at c1 c2 cn
        dsimp only at c1 c2 cn
        rw [c1, c2, cn]
  | _ =>
    cases h
    rw [if_neg (by show ¬ (false && _) = true; rw [Bool.false_and]; exact Bool.false_ne_true)]
theorem twalk_rchd {R : List Row} {t : Nat → Bool} : ∀ {m : Nat} {S : Fs}, m ≤ R.length → twalk R t m = some S → Rchd R m S
  | 0, S, _, h => by
    cases h
    exact ⟨Nat.zero_le _, fwalk_zero R _⟩
  | m + 1, S, hm, h => by
    unfold twalk at h
    cases e : twalk R t m with
    | none => rw [e] at h; cases h
    | some S0 =>
      rw [e] at h
      have ih := twalk_rchd (by omega) e
      have hS := tstep_f h
      rw [hS]
      cases ho : opens R S0 (rowAt R m) with
      | true =>
        rw [if_pos rfl]
        exact ih.put (by omega) ho _
      | false =>
        rw [if_neg Bool.false_ne_true]
        exact ih.next (by omega) ho
theorem Rchd.ms_len {R : List Row} {m : Nat} {S : Fs} (h : Rchd R m S) : S.ms.length = m := by
  have := fwalk_len (R := R) (cs := S.ch) m h.1
  rwa [h.2] at this
theorem Rchd.kinds {R : List Row} {m : Nat} {S : Fs} (W : Web R) (h : Rchd R m S) : ∀ k, k < m → (wAt S.ms k).isB = (rowAt R k).isAsked := by
  have := fwalk_kinds (R := R) (cs := S.ch) W m h.1
  rwa [h.2] at this
theorem Rchd.mw {R : List Row} {m : Nat} {S : Fs} (W : Web R) (h : Rchd R m S) (hm : m < R.length) : Mw R S.ms := by
  have hl := h.ms_len
  exact W.mw (by omega) (by rw [hl]; exact h.kinds W)
end K8

/-! _law_a_told. -/
namespace K8
open PySem PySem.Spec PyProof.Rows L2 WR
/-- the dict gives each asked row's truth -/
def Trs (R : List Row) (ts : List (Nat × Bool)) (t : Nat → Bool) : Prop := ∀ k, k < R.length → (rowAt R k).isAsked = true → valV (tV ts) (Sum.inl (k : Int)) = some (V.bl (t k))
abbrev spATold : Sp := fun vs H Q _ => ∃ (v : V) (ta : Addr) (R : List Row) (ts : List (Nat × Bool)) (t : Nat → Bool), vs = [v, .ref ta] ∧ Dr All H v (rowsD R) ∧ Web R ∧ R.length ≤ lim ∧ H ta = some (.dK (tV ts)) ∧ Trs R ts t ∧
  (twalk R t R.length = none → ∀ H', Sm H H' → Q .non H') ∧ (∀ (S : Fs) (l : Addr) H', twalk R t R.length = some S → Sm H H' → H l = none → H' l = some (.lst (S.ms.map Wt.v)) → Q (.ref l) H')
section
variable {P : Program} {w : World} {K : PySem.W.Frag} {mg : Str → Option Value} {base : Heap}
theorem sc__law_a_told : FnScope ["rows", "truths", "told", "most", "at", "row", "like"] ["rows", "truths"] (defScope s_law_a_told) := ⟨rfl, rfl, rfl, by decide +kernel, rfl, by decide +kernel, by decide +kernel⟩
theorem ok__law_a_told (B : Bt mg) (F : Fn K mg d_law_a_told) (D1 : Df P w K mg base CX0 1 "_law_a_side" ["row", "told"] spASide) (D2 : Df P w K mg base CX0 1 "_law_a_like" ["rows", "told", "at"] spALike) :
    Df P w K mg base CX0 2 "_law_a_told" ["rows", "truths"] spATold := by
  obtain ⟨f, fd, hm, F⟩ := F
  refine ⟨f, fd, hm, F.kp, F.bindsN fun _ _ _ _ _ _ us hl => match us, hl with | [_, _], _ => rfl, ?_⟩
  refine F.ok sc__law_a_told (fun vs H Q E h => by obtain ⟨v, ta, R, ts, t, rfl, _⟩ := h; rfl) (fun cdv A outer s H vs Q E hr h => ?_)
  obtain ⟨v, ta, R, ts, t, rfl, rr, WR', hR, eta, tr, q1, q2⟩ := h
  have hu := hr.units
  have hu1 := hu_of hr
  refine ⟨_, PSs.nox (pss_cons (ps_par (i := 2) (j := 3) (by rfl) sc__law_a_told.nd rfl rfl (by decide) rfl rfl (pa_cons (pe_lst pa_nil) (pa_cons pe_int pa_nil)) (by first | rfl | kernel_rfl))
      (pss_cons (ps_for PassesOwn.never rfl (pi_enS B.enumerate (pa_cons (pv 0) pa_nil)) (pg_tup rfl (pgs_cons (pg_name (i := 4) sc__law_a_told.nd rfl (by first | exact Or.inl rfl | exact Or.inr rfl)) (pgs_cons (pg_name (i := 5) sc__law_a_told.nd rfl (by first | exact Or.inl rfl | exact Or.inr rfl)) pgs_nil))) (C8.pss_cut (ps_set (i := 6) sc__law_a_told.nd rfl (by first | exact Or.inl rfl | exact Or.inr rfl) (pe_ifExp (pt_cmpR op_in_seq (pe_ix ix_D (pv 5) pe_int (fun _ _ => rfl)) (pe_tup (pa_cons pe_str (pa_cons pe_str pa_nil))) (by rfl)) (pe_df D2 hr pass0 (pa_cons (pv 0) (pa_cons (pv 2) (pa_cons (pv 4) pa_nil)))) pe_non))
      (pss_one (ps_if (pt_cmpR op_eq (pe_ix ix_D (pv 5) pe_int (fun _ _ => rfl)) pe_str (nomark _)) (pss_cons (ps_if (PW.pt (pw_and (pt_cmpR op_notN (pv 6) pe_non (nomark _)) (pw_and1 (pt_cmpR op_ne (pe_ix ix_D (pv 2) (pv 6) (fun _ _ => rfl)) (pe_ix (ix_K hu1) (pv 1) (pv 4) (fun _ _ => rfl)) (nomark _))))) (pss_one (ps_ret pe_non)) pss_nil)
      (pss_one (ps_expr (pe_bm PySem.F.plainAttrs_list PySem.F.slot_list_append PySem.F.type_list_append mt_append (pv 2) (pa_cons (pe_ix (ix_K hu1) (pv 1) (pv 4) (fun _ _ => rfl)) pa_nil))))) (pss_one (ps_if (pt_cmpR op_eq (pe_ix ix_D (pv 5) pe_int (fun _ _ => rfl)) pe_str (nomark _)) (pss_one (ps_expr (pe_bm PySem.F.plainAttrs_list PySem.F.slot_list_append PySem.F.type_list_append mt_append (pv 2) (pa_cons (pe_ix ix_D (pv 2) (pe_df D1 hr pass0 (pa_cons (pv 5) (pa_cons (pv 2) pa_nil))) (fun _ _ => rfl)) pa_nil)))) (pss_cons (ps_expr (pe_bm PySem.F.plainAttrs_list PySem.F.slot_list_append PySem.F.type_list_append mt_append (pv 2) (pa_cons (pe_ifExp (pt_cmpR op_notN (pv 6) pe_non (nomark _)) (pe_ix ix_D (pv 2) (pv 6) (fun _ _ => rfl)) (pv 3)) pa_nil)))
      (pss_one (ps_set (i := 3) sc__law_a_told.nd rfl (by first | exact Or.inl rfl | exact Or.inr rfl) (pe_op op_add (pv 3) (pe_callTy call_int1 (by rfl) B.int (by decide +kernel) (pa_cons (pe_cmpR op_isN (pv 6) pe_non (nomark _)) pa_nil))))))))))))
      (pss_one (ps_ret (pv 2))))), ?_⟩
  have sz2 : 2 ≤ sizeLine := by decide
  have hlim : lim = 4000 := rfl
  have hsl := lim_lt
  refine ⟨(by show 0 ≤ sizeLine; decide), fun l nl => ⟨_, _, rfl, ?_⟩⟩
  have el : upd H l (.lst []) l = some (.lst []) := upd_same
  have s1 := Sm.new (o := .lst []) nl
  generalize upd H l (.lst []) = H1 at el s1 ⊢
  obtain ⟨va, xs, rfl, eva, rs⟩ : ∃ a xs, v = .ref a ∧ H a = some (.lst xs) ∧ DrA All H xs (R.map Row.d) := by
    cases rr with
    | lst _ e r => exact ⟨_, _, rfl, e, r⟩
  have lxs : xs.length = R.length := by rw [rs.length, List.length_map]
  refine ⟨_, rfl, va, xs, rfl, .inl (s1 _ _ eva), fun J hJ => ?_⟩
  refine for_enS hJ (fun i σ4 H4 => ∃ (S : Fs) (x4 x5 x6 : Option V), σ4 = [some (.ref va), some (.ref ta), some (.ref l), some (.int (S.n : Nat)), x4, x5, x6] ∧ Sm H H4 ∧ twalk R t i = some S ∧ H4 l = some (.lst (S.ms.map Wt.v))) ?_ ?_ ?_ ?_
  · exact ⟨⟨[], [], 0⟩, _, _, _, rfl, s1, rfl, el⟩
  · rintro i σ4 H4 ⟨_, _, _, _, _, s, _⟩
    rw [s _ _ eva, s1 _ _ eva]
  · rintro i x σ4 H4 T hx ⟨S, x4, x5, x6, rfl, s4, ht, el4⟩ nT
    have hix := (List.getElem?_eq_some_iff.mp hx).1
    have hiR : i < R.length := by omega
    have rc := twalk_rchd (Nat.le_of_lt hiR) ht
    have hl := rc.ms_len
    have M := rc.mw WR' hiR
    have kinds := rc.kinds WR'
    obtain ⟨ms, ch, n⟩ := S
    dsimp only at hl M kinds el4
    subst hl
    have sT := Sm.new (o := .tup [.int (ms.length : Nat), x]) nT
    have s5 := s4.trans sT
    have el5 := sT _ _ el4
    obtain ⟨dx, e1, rx⟩ := rs.get hx
    have rx5 := rx.sm s5
    have rr5 := rr.sm s5
    have eta5 := s5 _ _ eta
    have edx : dx = (rowAt R ms.length).d := by
      rw [List.getElem?_map, List.getElem?_eq_getElem hiR] at e1
      rw [rowAt_get hiR]
      exact (Option.some.inj e1).symm
    subst edx
    refine ⟨T, _, rfl, SqT.of upd_same, rfl, _, _, rfl, _, _, rfl, rfl, ?_⟩
    generalize upd H4 T (.tup [.int (ms.length : Nat), x]) = H5 at s5 el5 rx5 rr5 eta5 ⊢
    clear sT
    have hst : twalk R t (ms.length + 1) = tstep R t ⟨ms, ch, n⟩ (rowAt R ms.length) := by
      show (twalk R t ms.length).bind _ = _
      rw [ht]
      rfl
    have htk : ∀ S', tstep R t ⟨ms, ch, n⟩ (rowAt R ms.length) = S' → twalk R t (ms.length + 1) = S' := fun S' e => hst.trans e
    have hnone : tstep R t ⟨ms, ch, n⟩ (rowAt R ms.length) = none → twalk R t R.length = none := fun e => by
      have : ∀ m, ms.length + 1 ≤ m → twalk R t m = none := fun m => by
        induction m with
        | zero => intro h; omega
        | succ m ih =>
          intro h
          by_cases z : ms.length + 1 ≤ m
          · show (twalk R t m).bind _ = none
            rw [ih z]
            rfl
          · obtain rfl : m = ms.length := by omega
            exact htk _ e
      exact this _ (by omega)
    have trk := tr ms.length hiR
    have askd := M.kinds
    generalize hr0 : rowAt R ms.length = r at *
    have mfl : ∀ H', Sm H5 H' → Mf All H' (.ref l) ms := fun H' s' => ⟨_, .lst trivial (s' _ _ el5) (wts_dr ms), rfl, fun k hk => wts_at hk⟩
    -- like
    refine ⟨fun σ6 H6 => σ6 = [some (.ref va), some (.ref ta), some (.ref l), some (.int (n : Nat)), some (.int (ms.length : Nat)), some x, some (natO (if r.keyed = true then firstLike R ms r else none))] ∧ Sm H5 H6, ?_, ?_⟩
    · refine ⟨_, rfl, _, 0, _, rx5, Row.seqD _, rfl, Row.word_at _, fun x0 r0 => ?_⟩
      cases r0.str_inv
      refine ⟨sz2, fun p np => ⟨p, [V.str "made", V.str "asked"], rfl, .inr (SqT.of upd_same), rfl, rfl, _, rfl, ?_⟩⟩
      rw [if_neg Bool.false_ne_true, inV_keyed]
      have sp := Sm.new (o := .tup [V.str "made", V.str "asked"]) np
      generalize upd H5 p (.tup [V.str "made", V.str "asked"]) = H9 at sp ⊢
      cases hk : r.keyed with
      | false => exact iteF ⟨rfl, sp⟩
      | true =>
        refine iteT ⟨_, rfl, _, rfl, _, rfl, .ref va, .ref l, R, ms, rfl, rr5.sm sp, mfl _ sp, M, hiR, hR, fun r' hr' => WR'.ok r' hr', by rw [hr0]; exact hk, fun k hk' => WR'.parts_na (by omega), fun H' s' => ?_⟩
        rw [hr0]
        exact ⟨rfl, sp.trans s'⟩
    rintro σ6 H6 ⟨rfl, s6⟩
    have rx6 := rx5.sm s6
    have el6 := s6 _ _ el5
    have eta6 := s6 _ _ eta5
    have mf6 := mfl _ s6
    have s06 := s5.trans s6
    obtain ⟨dl, rdl, hLl, all⟩ := mf6
    -- told.append(y)
    have fin : ∀ (y : Wt) (ch' : List Bool) (H7 : Hp), H7 = H6 → tstep R t ⟨ms, ch, n⟩ r = some ⟨ms ++ [y], ch', n⟩ → ∀ x6', rAppend (.ref l) [y.v] H7 fun _ H8 => ∃ (S : Fs) (x4 x5 x6 : Option V), [some (V.ref va), some (.ref ta), some (.ref l), some (.int (n : Nat)), some (.int (ms.length : Nat)), some x, x6'] = [some (V.ref va), some (.ref ta), some (.ref l), some (.int (S.n : Nat)), x4, x5, x6] ∧ Sm H H8 ∧ twalk R t (ms.length + 1) = some S ∧ H8 l = some (.lst (S.ms.map Wt.v)) := fun y ch' H7 h7 e x6' => by
      subst h7
      refine ⟨l, _, _, rfl, rfl, el6, by rw [List.length_map]; omega, ?_⟩
      refine ⟨_, _, _, _, rfl, fun b o z => ?_, htk _ e, ?_⟩
      · rw [upd_ne (ne_of_none z nl)]
        exact s06 _ _ z
      · rw [upd_same]
        simp
    have dg : r.isAsked = true → ∀ {H' : Hp}, Sm H6 H' → DGet H' ta (.int (ms.length : Nat)) (some (.bl (t ms.length))) := fun ha H' s' => by
      have h1 := DGet.k (k := Sum.inl (ms.length : Int)) (s' _ _ eta6)
      rw [trk ha] at h1
      exact h1
    -- the end of a row that is neither asked nor an either
    have fin2 : ∀ (y : Wt) (b : Bool) (n' : Nat), (n : Int) + (if b = true then (1 : Int) else 0) = (n' : Nat) → tstep R t ⟨ms, ch, n⟩ r = some ⟨ms ++ [y], ch, n'⟩ → ∀ x6', rAppend (.ref l) [y.v] H6 fun _ H8 => ∃ (S : Fs) (x4 x5 x6 : Option V), [some (V.ref va), some (.ref ta), some (.ref l), some (.int ((n : Int) + (if b = true then (1 : Int) else 0))), some (.int (ms.length : Nat)), some x, x6'] = [some (V.ref va), some (.ref ta), some (.ref l), some (.int (S.n : Nat)), x4, x5, x6] ∧ Sm H H8 ∧ twalk R t (ms.length + 1) = some S ∧ H8 l = some (.lst (S.ms.map Wt.v)) := fun y b n' hn e x6' => by
      refine ⟨l, _, _, rfl, rfl, el6, by rw [List.length_map]; omega, ?_⟩
      refine ⟨⟨ms ++ [y], ch, n'⟩, _, _, _, by rw [hn], fun b o z => ?_, htk _ e, ?_⟩
      · rw [upd_ne (ne_of_none z nl)]
        exact s06 _ _ z
      · rw [upd_same]
        simp
    refine ⟨_, rfl, _, 0, _, rx6, Row.seqD _, rfl, Row.word_at _, fun x0 r0 => ?_⟩
    cases r0.str_inv
    refine ⟨rfl, _, rfl, ?_⟩
    rw [Row.askedP]
    cases r with
    | asked nm ks =>
      refine iteT ?_
      have hk : (Row.asked nm ks).keyed = true := rfl
      rw [if_pos hk]
      have ets : tstep R t ⟨ms, ch, n⟩ (.asked nm ks) = (match firstLike R ms (.asked nm ks) with
          | some k => if wAt ms k = .b (t ms.length) then some ⟨ms ++ [.b (t ms.length)], ch, n⟩ else none
          | none => some ⟨ms ++ [.b (t ms.length)], ch ++ [t ms.length], n⟩) := rfl
      have app : ∀ ch', tstep R t ⟨ms, ch, n⟩ (.asked nm ks) = some ⟨ms ++ [.b (t ms.length)], ch', n⟩ → ∀ x6', tDrop (tBM K "list" rAppend (tVar 2) (tCons (tOp rIxK (tVar 1) (tVar 4)) tNil)) { nx := fun σ4 H4 => ∃ (S : Fs) (x4 x5 x6 : Option V), σ4 = [some (V.ref va), some (.ref ta), some (.ref l), some (.int (S.n : Nat)), x4, x5, x6] ∧ Sm H H4 ∧ twalk R t (ms.length + 1) = some S ∧ H4 l = some (.lst (S.ms.map Wt.v)), rt := Q } [some (.ref va), some (.ref ta), some (.ref l), some (.int (n : Nat)), some (.int (ms.length : Nat)), some x, x6'] H6 := fun ch' e x6' =>
        ⟨_, rfl, .inl ⟨rfl, _, SqL.of el6⟩, _, rfl, _, rfl, ta, _, rfl, dg rfl Sm.rfl', fin _ ch' _ rfl e x6'⟩
      cases hf : firstLike R ms (.asked nm ks) with
      | none =>
        rw [hf] at ets
        exact ⟨_, rfl, rfl, _, rfl, iteF (iteF (app _ ets _))⟩
      | some k =>
        rw [hf] at ets
        dsimp only at ets
        obtain ⟨k1, k2, k3⟩ := kfind_lt hf
        have kind : (wAt ms k).isB = (Wt.b (t ms.length)).isB := by
          rw [askd k k1, word_asked (show (rowAt R k).word = (Row.asked nm ks).word from congrArg (·.1) k3)]
          rfl
        refine ⟨_, rfl, rfl, _, rfl, ?_⟩
        rw [show (!decide (natO (some k) = V.non)) = true by simp [natO]]
        refine iteT ⟨_, rfl, _, rfl, _, k, _, .lst trivial el6 (wts_dr ms), rfl, rfl, wts_at k1, fun z rz => ?_⟩
        cases Wt.dr_v rz
        refine ⟨_, rfl, _, rfl, ta, _, rfl, dg rfl Sm.rfl', Wt.scal_v kind, _, rfl, ?_⟩
        rw [show (!decide ((wAt ms k).v = V.bl (t ms.length))) = !decide (wAt ms k = .b (t ms.length)) by rw [← Wt.dec_v]; rfl]
        by_cases hq : wAt ms k = .b (t ms.length)
        · rw [if_pos hq] at ets
          rw [decide_eq_true hq]
          exact iteF (app _ ets _)
        · rw [if_neg hq] at ets
          rw [decide_eq_false hq]
          exact iteT (q1 (hnone ets) H6 s06)
    | either c i j =>
      refine iteF ?_
      refine ⟨_, rfl, _, 0, _, rx6, Row.seqD _, rfl, Row.word_at _, fun x0 r0 => ?_⟩
      cases r0.str_inv
      refine ⟨rfl, _, rfl, ?_⟩
      rw [Row.eitherW]
      refine iteT ?_
      obtain ⟨h1, h2, hc⟩ := Web.side_lt M hr0
      obtain ⟨xb, hxb⟩ : ∃ xb, wAt ms c = .b xb := by
        have := M.kinds c hc
        rw [M.tests c i j hr0] at this
        cases z : wAt ms c with
        | b xb => exact ⟨xb, rfl⟩
        | n k => rw [z] at this; cases this
      refine ⟨_, rfl, .inl ⟨rfl, _, SqL.of el6⟩, _, rfl, _, rfl, _, rfl, x, .ref l, c, i, j, ms, xb, rfl, rx6, ⟨_, .lst trivial el6 (wts_dr ms), rfl, fun k hk => by rw [List.mem_singleton.mp hk]; exact wts_at hc⟩, hxb, ?_⟩
      refine ⟨_, _, _, .lst trivial el6 (wts_dr ms), rfl, rfl, wts_at h1, fun z rz => ?_⟩
      cases Wt.dr_v rz
      exact fin _ ch H6 rfl rfl _
    | given k =>
      refine iteF ?_
      refine ⟨_, rfl, _, 0, _, rx6, Row.seqD _, rfl, Row.word_at _, fun x0 r0 => ?_⟩
      cases r0.str_inv
      refine ⟨rfl, _, rfl, ?_⟩
      rw [Row.eitherW]
      refine iteF ?_
      refine ⟨_, rfl, .inl ⟨rfl, _, SqL.of el6⟩, _, rfl, rfl, _, rfl, iteF ⟨_, rfl, ?_⟩⟩
      have f2 := fin2 (.n n) true (n + 1) rfl rfl (some .non)
      obtain ⟨l', xs', y', e1, e2, e3, e4, e5⟩ := f2
      exact ⟨l', xs', y', e1, e2, e3, e4, _, rfl, _, rfl, rfl, .inr ⟨_, rfl, _, _, rfl, rfl, e5⟩⟩
    | made nm ks =>
      refine iteF ?_
      refine ⟨_, rfl, _, 0, _, rx6, Row.seqD _, rfl, Row.word_at _, fun x0 r0 => ?_⟩
      cases r0.str_inv
      refine ⟨rfl, _, rfl, ?_⟩
      rw [Row.eitherW]
      refine iteF ?_
      have hk : (Row.made nm ks).keyed = true := rfl
      rw [if_pos hk]
      have ets : tstep R t ⟨ms, ch, n⟩ (.made nm ks) = some (match firstLike R ms (.made nm ks) with
          | some k => ⟨ms ++ [wAt ms k], ch, n⟩
          | none => ⟨ms ++ [.n n], ch, n + 1⟩) := by
        show some (fstep R [] ⟨ms, ch, n⟩ (.made nm ks)) = _
        unfold fstep rowW
        rw [if_neg (show ¬ (Row.made nm ks).isEither = true from Bool.false_ne_true), if_pos hk]
        unfold keyW
        cases firstLike R ms (.made nm ks) with
        | some k => rfl
        | none => rfl
      cases hf : firstLike R ms (.made nm ks) with
      | none =>
        rw [hf] at ets
        refine ⟨_, rfl, .inl ⟨rfl, _, SqL.of el6⟩, _, rfl, rfl, _, rfl, iteF ⟨_, rfl, ?_⟩⟩
        have f2 := fin2 (.n n) true (n + 1) rfl ets (some .non)
        obtain ⟨l', xs', y', e1, e2, e3, e4, e5⟩ := f2
        exact ⟨l', xs', y', e1, e2, e3, e4, _, rfl, _, rfl, rfl, .inr ⟨_, rfl, _, _, rfl, rfl, e5⟩⟩
      | some k =>
        rw [hf] at ets
        obtain ⟨k1, k2, k3⟩ := kfind_lt hf
        refine ⟨_, rfl, .inl ⟨rfl, _, SqL.of el6⟩, _, rfl, rfl, _, rfl, ?_⟩
        rw [show (!decide (natO (some k) = V.non)) = true by simp [natO]]
        refine iteT ⟨_, rfl, _, rfl, _, k, _, .lst trivial el6 (wts_dr ms), rfl, rfl, wts_at k1, fun z rz => ?_⟩
        cases Wt.dr_v rz
        have f2 := fin2 (wAt ms k) false n (by simp) ets (some (natO (some k)))
        obtain ⟨l', xs', y', e1, e2, e3, e4, e5⟩ := f2
        exact ⟨l', xs', y', e1, e2, e3, e4, _, rfl, _, rfl, rfl, .inr ⟨_, rfl, _, _, rfl, rfl, e5⟩⟩
  · rintro σ4 H4 ⟨S, x4, x5, x6, rfl, s4, ht, el4⟩
    rw [lxs] at ht
    exact ⟨_, rfl, q2 S l H4 ht s4 nl el4⟩
end
end K8

/-! All truths give all free walks. No Python here. -/
namespace K8
open PySem PySem.Spec PyProof.Rows L2 WR
/-! ### the leaves in order -/
theorem lex_pre : ∀ (p q r : List Bool), lexB2 (p ++ false :: q) (p ++ true :: r) = true
  | [], q, r => rfl
  | b :: p, q, r => by
    show (if b = b then lexB2 (p ++ false :: q) (p ++ true :: r) else _) = true
    rw [if_pos rfl]
    exact lex_pre p q r
theorem leaves_pre {R : List Row} : ∀ f m S x, x ∈ leaves R f m S → ∃ q, x.ch = S.ch ++ q
  | 0, m, S, x, h => by
    have : x = S := by unfold leaves at h; simpa using h
    exact ⟨[], by rw [this, List.append_nil]⟩
  | f + 1, m, S, x, h => by
    unfold leaves at h
    cases ho : opens R S (rowAt R m) with
    | false =>
      rw [ho, if_neg Bool.false_ne_true] at h
      obtain ⟨q, e⟩ := leaves_pre f (m + 1) _ x h
      exact ⟨q, by rw [e, fclosed_ch ho]⟩
    | true =>
      rw [ho, if_pos rfl] at h
      rcases List.mem_append.mp h with z | z
      · obtain ⟨q, e⟩ := leaves_pre f (m + 1) _ x z
        exact ⟨false :: q, by rw [e, (fput_ch ho).1, List.append_assoc]; rfl⟩
      · obtain ⟨q, e⟩ := leaves_pre f (m + 1) _ x z
        exact ⟨true :: q, by rw [e, (fput_ch ho).1, List.append_assoc]; rfl⟩
theorem leaves_lex {R : List Row} : ∀ f m S, (leaves R f m S).Pairwise fun x y => lexB2 x.ch y.ch = true
  | 0, m, S => List.pairwise_singleton _ _
  | f + 1, m, S => by
    unfold leaves
    cases ho : opens R S (rowAt R m) with
    | false =>
      rw [if_neg Bool.false_ne_true]
      exact leaves_lex f (m + 1) _
    | true =>
      rw [if_pos rfl, List.pairwise_append]
      refine ⟨leaves_lex f (m + 1) _, leaves_lex f (m + 1) _, fun x hx y hy => ?_⟩
      obtain ⟨q, e⟩ := leaves_pre f (m + 1) _ x hx
      obtain ⟨q', e'⟩ := leaves_pre f (m + 1) _ y hy
      rw [e, e', (fput_ch ho).1, (fput_ch ho).1, List.append_assoc, List.append_assoc]
      exact lex_pre S.ch q q'
theorem leaves_rchd {R : List Row} : ∀ f m S x, m + f = R.length → Rchd R m S → x ∈ leaves R f m S → Rchd R R.length x
  | 0, m, S, x, hm, h, hx => by
    have : x = S := by unfold leaves at hx; simpa using hx
    rw [this, show R.length = m by omega]
    exact h
  | f + 1, m, S, x, hm, h, hx => by
    unfold leaves at hx
    cases ho : opens R S (rowAt R m) with
    | false =>
      rw [ho, if_neg Bool.false_ne_true] at hx
      exact leaves_rchd f (m + 1) _ x (by omega) (h.next (by omega) ho) hx
    | true =>
      rw [ho, if_pos rfl] at hx
      rcases List.mem_append.mp hx with z | z
      · exact leaves_rchd f (m + 1) _ x (by omega) (h.put (by omega) ho false) z
      · exact leaves_rchd f (m + 1) _ x (by omega) (h.put (by omega) ho true) z
theorem mem_leaves {R : List Row} {x : Fs} : ∀ f m S, m + f = R.length → fwalk R x.ch m = S → fwalk R x.ch R.length = x → x ∈ leaves R f m S
  | 0, m, S, hm, h, hx => by
    rw [show m = R.length by omega, hx] at h
    rw [← h]
    exact List.mem_singleton.mpr rfl
  | f + 1, m, S, hm, h, hx => by
    have hs := fwalk_succ (R := R) (cs := x.ch) (show m < R.length by omega)
    rw [h] at hs
    unfold leaves
    cases ho : opens R S (rowAt R m) with
    | false =>
      rw [if_neg Bool.false_ne_true]
      exact mem_leaves f (m + 1) _ (by omega) (by rw [hs]; exact fstep_closed ho) hx
    | true =>
      rw [if_pos rfl]
      have e : fstep R x.ch S (rowAt R m) = fput R S (rowAt R m) (x.ch.getD S.ch.length false) := by
        refine fstep_c ?_
        rw [List.getD_eq_getElem?_getD (l := S.ch ++ _), List.getElem?_append_right (Nat.le_refl _)]
        simp
      rw [e] at hs
      cases hb : x.ch.getD S.ch.length false with
      | false =>
        rw [hb] at hs
        exact List.mem_append_left _ (mem_leaves f (m + 1) _ (by omega) hs hx)
      | true =>
        rw [hb] at hs
        exact List.mem_append_right _ (mem_leaves f (m + 1) _ (by omega) hs hx)
theorem mem_allW {R : List Row} {x : Fs} : x ∈ allW R ↔ Rchd R R.length x :=
  ⟨fun h => leaves_rchd R.length 0 _ x (by omega) ⟨Nat.zero_le _, fwalk_zero R _⟩ h, fun h => mem_leaves R.length 0 _ (by omega) (fwalk_zero R _) h.2⟩
theorem allW_lex (R : List Row) : (allW R).Pairwise fun x y => lexB2 x.ch y.ch = true := leaves_lex _ _ _
theorem allW_inj {R : List Row} {x y : Fs} (hx : x ∈ allW R) (hy : y ∈ allW R) (h : x.ch = y.ch) : x = y := by
  have h1 := (mem_allW.mp hx).2
  have h2 := (mem_allW.mp hy).2
  rw [← h1, ← h2, h]
/-! ### by truths -/
theorem twalk_b {R : List Row} {t : Nat → Bool} : ∀ {m : Nat} {S : Fs}, twalk R t m = some S → ∀ k, k < m → (rowAt R k).isAsked = true → wAt S.ms k = .b (t k)
  | 0, S, _ => fun k h => absurd h (Nat.not_lt_zero k)
  | m + 1, S, h => fun k hk ha => by
    unfold twalk at h
    cases e : twalk R t m with
    | none => rw [e] at h; cases h
    | some S0 =>
      rw [e] at h
      have hl := twalk_len e
      have hst : tstep R t S0 (rowAt R m) = some S := h
      have hms : ∃ y, S.ms = S0.ms ++ [y] ∧ ((rowAt R m).isAsked = true → y = .b (t m)) := by
        unfold tstep at hst
        cases er : rowAt R m with
        | asked n ks =>
          rw [er] at hst
          dsimp only at hst
          cases ef : firstLike R S0.ms (.asked n ks) with
          | some j =>
            rw [ef] at hst
            dsimp only at hst
            split at hst
            · cases hst
              exact ⟨_, rfl, fun _ => by rw [hl]⟩
            · cases hst
          | none =>
            rw [ef] at hst
            cases hst
            exact ⟨_, rfl, fun _ => by rw [hl]⟩
        | made n ks => rw [er] at hst; cases hst; exact ⟨_, rfl, fun z => nomatch z⟩
        | either c i j => rw [er] at hst; cases hst; exact ⟨_, rfl, fun z => nomatch z⟩
        | given g => rw [er] at hst; cases hst; exact ⟨_, rfl, fun z => nomatch z⟩
      obtain ⟨y, e1, e2⟩ := hms
      rw [e1]
      by_cases z : k < m
      · rw [wAt_app (by omega)]
        exact twalk_b e k z ha
      · obtain rfl : k = m := by omega
        rw [← hl, wAt_last, hl]
        exact e2 ha
theorem fwalk_take {R : List Row} {cs : List Bool} : ∀ {m n : Nat}, m ≤ n → n ≤ R.length → (fwalk R cs m).ms = (fwalk R cs n).ms.take m
  | m, 0, h1, _ => by
    obtain rfl : m = 0 := by omega
    rw [fwalk_zero]
    rfl
  | m, n + 1, h1, h2 => by
    have hl := fwalk_len (R := R) (cs := cs) n (by omega)
    rw [fwalk_succ (by omega)]
    show _ = ((fwalk R cs n).ms ++ [_]).take m
    by_cases z : m ≤ n
    · rw [List.take_append_of_le_length (by omega)]
      exact fwalk_take z (by omega)
    · obtain rfl : m = n + 1 := by omega
      rw [List.take_of_length_le (by rw [List.length_append, hl]; simp), fwalk_succ (by omega)]
      rfl
theorem wAt_take {ms : List Wt} {k n : Nat} (h : k < n) : wAt (ms.take n) k = wAt ms k := by
  unfold wAt
  rw [List.getD_eq_getElem?_getD, List.getD_eq_getElem?_getD, List.getElem?_take_of_lt h]
/-- the truths of a free walk give it -/
def truthsOf (x : Fs) (k : Nat) : Bool := decide (wAt x.ms k = .b true)
theorem b_of {y : Wt} (h : y.isB = true) : y = .b (decide (y = .b true)) := by
  cases y with
  | n k => cases h
  | b c => cases c <;> rfl
theorem twalk_of {R : List Row} (W : Web R) {x : Fs} (h : Rchd R R.length x) : ∀ m, m ≤ R.length → twalk R (truthsOf x) m = some (fwalk R x.ch m)
  | 0, _ => by rw [fwalk_zero]; rfl
  | m + 1, hm => by
    have ih := twalk_of W h m (by omega)
    have hl := fwalk_len (R := R) (cs := x.ch) m (by omega)
    have hs := fwalk_succ (R := R) (cs := x.ch) (show m < R.length by omega)
    have M := fwalk_mw (cs := x.ch) W (show m < R.length by omega)
    have kd := rowW_kind (cs := x.ch) M
    rw [hl] at kd
    -- the worth at m
    have hw : wAt x.ms m = (rowW R x.ch (fwalk R x.ch m) (rowAt R m)).1 := by
      have e := fwalk_take (R := R) (cs := x.ch) (m := m + 1) (n := R.length) hm (Nat.le_refl _)
      rw [h.2] at e
      rw [← wAt_take (ms := x.ms) (n := m + 1) (by omega), ← e, hs]
      show wAt ((fwalk R x.ch m).ms ++ [_]) m = _
      have := wAt_last (fwalk R x.ch m).ms (rowW R x.ch (fwalk R x.ch m) (rowAt R m)).1
      rwa [hl] at this
    show (twalk R (truthsOf x) m).bind _ = _
    rw [ih, hs]
    show tstep R (truthsOf x) (fwalk R x.ch m) (rowAt R m) = _
    cases er : rowAt R m with
    | asked n ks =>
      rw [er] at hw kd
      have ht : Wt.b (truthsOf x m) = wAt x.ms m := by
        rw [hw]
        show Wt.b (decide (wAt x.ms m = .b true)) = _
        rw [hw]
        exact (b_of kd).symm
      unfold tstep
      dsimp only
      have ek : rowW R x.ch (fwalk R x.ch m) (.asked n ks) = keyW R x.ch (fwalk R x.ch m) (.asked n ks) := rfl
      rw [ek] at hw
      unfold keyW at hw
      cases ef : firstLike R (fwalk R x.ch m).ms (.asked n ks) with
      | some j =>
        rw [ef] at hw
        dsimp only at hw ⊢
        rw [hl, if_pos (by rw [ht, hw])]
        unfold fstep
        rw [ek]
        unfold keyW
        rw [ef, ht, hw]
      | none =>
        rw [ef] at hw
        dsimp only at hw ⊢
        have hn : newW x.ch (fwalk R x.ch m) (.asked n ks) = (.b (nextC x.ch (fwalk R x.ch m).ch), (fwalk R x.ch m).ch ++ [nextC x.ch (fwalk R x.ch m).ch], (fwalk R x.ch m).n) := rfl
        rw [hn] at hw
        rw [hl, ht, hw]
        unfold fstep
        rw [ek]
        unfold keyW
        rw [ef, hn]
        have : truthsOf x m = nextC x.ch (fwalk R x.ch m).ch := by
          rw [hw] at ht
          injection ht
        rw [this]
    | made n ks =>
      show some (fstep R [] _ _) = _
      rw [fstep_closed (R := R) (cs := []) (ds := x.ch) (by show (false && _) = false; rfl)]
    | either c i j =>
      show some (fstep R [] _ _) = _
      rw [fstep_closed (R := R) (cs := []) (ds := x.ch) (by show (false && _) = false; rfl)]
    | given k =>
      show some (fstep R [] _ _) = _
      rw [fstep_closed (R := R) (cs := []) (ds := x.ch) (by show (false && _) = false; rfl)]
/-- walks by truths that agree on the asked rows -/
theorem twalk_congr {R : List Row} {t u : Nat → Bool} : ∀ m, m ≤ R.length → (∀ k, k < m → (rowAt R k).isAsked = true → t k = u k) → twalk R t m = twalk R u m
  | 0, _, _ => rfl
  | m + 1, hm, h => by
    have ih := twalk_congr m (by omega) fun k hk => h k (by omega)
    show (twalk R t m).bind _ = (twalk R u m).bind _
    rw [← ih]
    cases e : twalk R t m with
    | none => rfl
    | some S =>
      have hl := twalk_len e
      show tstep R t S (rowAt R m) = tstep R u S (rowAt R m)
      unfold tstep
      cases er : rowAt R m with
      | asked n ks =>
        have := h m (by omega) (by rw [er]; rfl)
        dsimp only
        rw [hl, this]
      | _ => rfl
end K8

/-! Places in rows by their kinds; truths as dicts (as in law_k10's texts). -/
namespace K8
open PySem PySem.Spec PyProof.Rows L2 WR
def vN (ks : List Nat) : List V := ks.map fun (k : Nat) => V.int (k : Int)
def tF : List (Nat × Bool) → Nat → Option Bool
  | [], _ => none
  | p :: ts, k => if p.1 = k then some p.2 else tF ts k
theorem tV_val (k : Nat) : ∀ ts : List (Nat × Bool), valV (tV ts) (Sum.inl (k : Int)) = (tF ts k).map V.bl
  | [] => rfl
  | p :: ts => by
    have ih := tV_val k ts
    show valV (((Sum.inl (p.1 : Int) : Key), V.bl p.2) :: tV ts) _ = _
    unfold tF
    by_cases h : p.1 = k
    · subst h
      rw [valV_pos rfl, if_pos rfl]
      rfl
    · rw [valV_neg (fun z => h (by injection z with z; omega)), ih, if_neg h]
/-- the places of the rows that p takes -/
def atP (p : Row → Bool) : List Row → Nat → List Nat
  | [], _ => []
  | r :: R, n => if p r = true then n :: atP p R (n + 1) else atP p R (n + 1)
theorem atP_app (p : Row → Bool) (r : Row) : ∀ (R : List Row) (n : Nat), atP p (R ++ [r]) n = atP p R n ++ (if p r = true then [n + R.length] else [])
  | [], n => by simp [atP]
  | s :: R, n => by
    have ih := atP_app p r R (n + 1)
    simp only [List.cons_append, atP]
    rw [ih]
    by_cases h : p s = true
    · rw [if_pos h, if_pos h, List.cons_append, List.length_cons, show n + 1 + R.length = n + (R.length + 1) by omega]
    · rw [if_neg h, if_neg h, List.length_cons, show n + 1 + R.length = n + (R.length + 1) by omega]
theorem atP_mem {p : Row → Bool} {k : Nat} : ∀ {R : List Row} {n : Nat}, k ∈ atP p R n → n ≤ k ∧ k < n + R.length ∧ p (rowAt R (k - n)) = true
  | [], n, h => by simp [atP] at h
  | r :: R, n, h => by
    unfold atP at h
    have rest : k ∈ atP p R (n + 1) → n ≤ k ∧ k < n + (r :: R).length ∧ p (rowAt (r :: R) (k - n)) = true := fun h => by
      obtain ⟨h1, h2, h3⟩ := atP_mem h
      refine ⟨by omega, by simp; omega, ?_⟩
      have e : rowAt (r :: R) (k - n) = rowAt R (k - (n + 1)) := by
        unfold rowAt
        rw [show k - n = (k - (n + 1)) + 1 by omega]
        rfl
      rw [e]
      exact h3
    by_cases hp : p r = true
    · rw [if_pos hp] at h
      rcases List.mem_cons.mp h with rfl | h
      · refine ⟨Nat.le_refl _, by simp, ?_⟩
        rw [Nat.sub_self]
        exact hp
      · exact rest h
    · rw [if_neg hp] at h
      exact rest h
theorem atP_nodup {p : Row → Bool} : ∀ (R : List Row) (n : Nat), (atP p R n).Nodup
  | [], _ => List.nodup_nil
  | r :: R, n => by
    unfold atP
    have ih := atP_nodup (p := p) R (n + 1)
    by_cases hp : p r = true
    · rw [if_pos hp]
      exact List.nodup_cons.mpr ⟨fun z => by have := (atP_mem z).1; omega, ih⟩
    · rw [if_neg hp]
      exact ih
theorem atP_len {p : Row → Bool} : ∀ (R : List Row) (n : Nat), (atP p R n).length ≤ R.length
  | [], _ => Nat.le_refl _
  | r :: R, n => by
    unfold atP
    have ih := atP_len (p := p) R (n + 1)
    by_cases hp : p r = true
    · rw [if_pos hp]; simp; omega
    · rw [if_neg hp]; simp; omega
theorem nums_app (ks js : List Nat) : nums (ks ++ js) = nums ks ++ nums js := by simp [nums]
/-- [i for i, r in enumerate(rows) if p(r)] -/
theorem enum_comp {K : PySem.W.Frag} {J : It} {H1 : Hp} {D a : Addr} {xs : List V} {R : List Row} {tt : TT} {σ : L2.St} {vs : List Nat} {i j : Nat} {Qd : Hp → Prop} (p : Row → Bool) (hJ : ItN K H1 a xs J) (rs : DrA All H1 xs (R.map Row.d)) (nD : H1 D = none) (hlen : R.length ≤ lim)
    (hw : ∀ a b, wipe (((wipe σ vs).set i (some a)).set j (some b)) vs = wipe σ vs) (hi : ∀ a b, (((wipe σ vs).set i (some a)).set j (some b))[i]? = some (some a))
    (htt : ∀ (a b : V) (H2 : Hp) (r : Row) (Q : Bool → Hp → Prop), Dr All H2 b r.d → Q (p r) H2 → tt (((wipe σ vs).set i (some a)).set j (some b)) H2 Q)
    (hd : ∀ H2, Sm H1 H2 → H2 D = some (.lst ((atP p R 0).map fun (k : Nat) => V.int (k : Int))) → Qd H2) :
    ∃ W : Nat → Nat → Hp → Prop, (∃ m, W 0 m (upd H1 D (.lst []))) ∧ ∀ i' m H, W i' m H →
      (J.stop i' H ∧ Qd H) ∨ (J.go i' H ∧ ∃ Nx : Hp → Prop, (∀ H', Nx H' → ∃ m', m' < m ∧ W (i' + 1) m' H') ∧ ∀ x H', J.yld i' H x H' → (gTup K 2 (gCons (gName i) (gCons (gName j) gNil))) x (wipe σ vs) H' fun σ2 H2 => wipe σ2 vs = wipe σ vs ∧ tt σ2 H2 fun b H3 =>
        if b = true then (tVar i) σ2 H3 fun y H4 => ∃ acc, H4 D = some (.lst acc) ∧ acc.length < sizeLine ∧ Nx (upd H4 D (.lst (acc ++ [y]))) else Nx H3) := by
  have hl : xs.length = R.length := by rw [rs.length, List.length_map]
  have hsl := lim_lt
  refine lc_walk (n := R.length) (fun m H2 => Sm H1 H2 ∧ H2 D = some (.lst ((atP p (R.take m) 0).map fun (k : Nat) => V.int (k : Int)))) ⟨Sm.new nD, upd_same⟩ (fun m H2 hm h => ?_) (fun H2 h => ?_) (fun m x H2 H' hm h hy => ?_) fun H2 h => ?_
  · have hx : xs[m]? = some xs[m] := List.getElem?_eq_getElem (by omega)
    rcases hJ with ⟨rfl, e⟩ | ⟨rfl, e⟩
    · exact ⟨xs, _, SqL.of (h.1 _ _ e), hx⟩
    · exact ⟨xs, _, SqT.of (h.1 _ _ e), hx⟩
  · rcases hJ with ⟨rfl, e⟩ | ⟨rfl, e⟩
    · exact ⟨xs, SqL.of (h.1 _ _ e), by omega⟩
    · exact ⟨xs, SqT.of (h.1 _ _ e), by omega⟩
  · obtain ⟨s, eD⟩ := h
    obtain ⟨T, y, rfl, nT, rfl, hx⟩ : ∃ T y, x = .ref T ∧ H2 T = none ∧ H' = upd H2 T (.tup [.int (m : Nat), y]) ∧ xs[m]? = some y := by
      rcases hJ with ⟨rfl, e⟩ | ⟨rfl, e⟩
      · obtain ⟨T, y, h1, h2, h3, h4⟩ := hy
        exact ⟨T, y, h1, h2, h3, h4 xs (SqL.of (s _ _ e))⟩
      · obtain ⟨T, y, h1, h2, h3, h4⟩ := hy
        exact ⟨T, y, h1, h2, h3, h4 xs (SqT.of (s _ _ e))⟩
    obtain ⟨d, hd', rd⟩ := (rs.sm s).get hx
    have hr : R[m]? = some R[m] := List.getElem?_eq_getElem hm
    rw [List.getElem?_map, hr] at hd'
    cases hd'
    have sT : Sm H2 (upd H2 T (.tup [.int (m : Nat), y])) := Sm.new nT
    refine ⟨T, _, rfl, SqT.of upd_same, rfl, _, _, rfl, _, _, rfl, rfl, hw _ _, ?_⟩
    have et : R.take (m + 1) = R.take m ++ [R[m]] := by rw [List.take_succ, hr]; rfl
    have em : (R.take m).length = m := by rw [List.length_take]; omega
    have la := atP_len (p := p) (R.take m) 0
    refine htt _ _ _ R[m] _ (rd.sm sT) ?_
    refine ite2 (fun hp => ?_) (fun hp => ?_)
    · refine ⟨_, hi _ _, _, sT _ _ eD, ?_, ?_, ?_⟩
      · rw [List.length_map]
        omega
      · exact fun c o e => by
          rw [upd_ne (ne_of_none e nD)]
          exact sT _ _ (s _ _ e)
      · rw [upd_same, et, atP_app, if_pos hp, em, Nat.zero_add, List.map_append]
        rfl
    · refine ⟨s.trans sT, ?_⟩
      rw [et, atP_app, if_neg hp, List.append_nil]
      exact sT _ _ eD
  · have := h.2
    rw [List.take_length] at this
    exact hd H2 h.1 this
def isPa (r : Row) : Bool := !r.isAsked
theorem part_ok {R : List Row} {k : Nat} (h : k ∈ atP isPa R 0) : isPart R k = true ∧ k < R.length := by
  obtain ⟨_, h2, h3⟩ := atP_mem h
  rw [Nat.zero_add] at h2
  rw [Nat.sub_zero] at h3
  unfold isPart
  rw [decide_eq_true h2, Bool.true_and]
  exact ⟨h3, h2⟩
theorem asked_ok {R : List Row} {k : Nat} (h : k ∈ atP Row.isAsked R 0) : (rowAt R k).isAsked = true ∧ k < R.length := by
  obtain ⟨_, h2, h3⟩ := atP_mem h
  rw [Nat.zero_add] at h2
  rw [Nat.sub_zero] at h3
  exact ⟨h3, h2⟩
theorem why_either {R : List Row} {a i j : Nat} (ha : (rowAt R a).isAsked = true ∧ a < R.length) (hi : isPart R i = true ∧ i < R.length) (hj : isPart R j = true ∧ j < R.length) (hij : i ≠ j) : why R (.either a i j) = none := by
  unfold why why2 why3 why4
  simp only [Row.named, List.all_cons, List.all_nil, decide_eq_true ha.2, decide_eq_true hi.2, decide_eq_true hj.2, Row.badTest, ha.1, Row.parts, hi.1, hj.1, Row.like, decide_eq_false hij, Bool.and_self, Bool.not_true]
  rfl
theorem why_parts {R : List Row} {n : Str} {ks : List Nat} (h : ∀ k ∈ ks, isPart R k = true ∧ k < R.length) : why R (.made n ks) = none ∧ why R (.asked n ks) = none := by
  have h1 : (ks.all fun k => decide (k < R.length)) = true := List.all_eq_true.mpr fun k hk => decide_eq_true (h k hk).2
  have h2 : ks.all (isPart R) = true := List.all_eq_true.mpr fun k hk => (h k hk).1
  unfold why why2 why3 why4
  simp only [Row.named, h1, Row.badTest, Row.parts, h2, Row.like]
  exact ⟨rfl, rfl⟩
def fgh : List PyData := [.str "f", .str "g", .str "h"]
def ftu : List PyData := [.str "f", .str "t", .str "u"]
theorem fgh_ok : ∀ e ∈ fgh, ∃ x : Str, e = .str x ∧ isName (.str x) = true := by
  intro e he
  simp only [fgh, List.mem_cons, List.not_mem_nil, or_false] at he
  rcases he with rfl | rfl | rfl <;> exact ⟨_, rfl, by decide +kernel⟩
theorem ftu_ok : ∀ e ∈ ftu, ∃ x : Str, e = .str x ∧ isName (.str x) = true := by
  intro e he
  simp only [ftu, List.mem_cons, List.not_mem_nil, or_false] at he
  rcases he with rfl | rfl | rfl <;> exact ⟨_, rfl, by decide +kernel⟩
theorem All2.mem {R : PyData → PyData → Prop} : ∀ {ds es : List PyData}, All2 R ds es → ∀ e ∈ es, ∃ d ∈ ds, R d e
  | _, _, .nil, e, h => by cases h
  | _, _, .cons a t, e, h => by
    rcases List.mem_cons.mp h with rfl | h
    · exact ⟨_, List.mem_cons_self .., a⟩
    · obtain ⟨d, hd, r⟩ := All2.mem t e h
      exact ⟨d, List.mem_cons_of_mem _ hd, r⟩
theorem nums_back {p : Nat → Prop} : ∀ {es : List PyData}, (∀ e ∈ es, ∃ k, e = .int (k : Nat) ∧ p k) → ∃ ks, es = nums ks ∧ ∀ k ∈ ks, p k
  | [], _ => ⟨[], rfl, fun _ h => by cases h⟩
  | e :: es, h => by
    obtain ⟨k, rfl, hk⟩ := h e (List.mem_cons_self ..)
    obtain ⟨ks, rfl, hks⟩ := nums_back fun e he => h e (List.mem_cons_of_mem _ he)
    refine ⟨k :: ks, rfl, fun j hj => ?_⟩
    rcases List.mem_cons.mp hj with rfl | hj
    · exact hk
    · exact hks j hj
theorem nums_nd {ks : List Nat} (h : ks.Nodup) : (nums ks).Nodup := by
  induction ks with
  | nil => exact List.nodup_nil
  | cons k ks ih =>
    obtain ⟨h1, h2⟩ := List.nodup_cons.mp h
    refine List.nodup_cons.mpr ⟨fun z => ?_, ih h2⟩
    obtain ⟨j, hj, e⟩ := List.mem_map.mp z
    injection e with e
    exact h1 (by rw [show k = j by omega]; exact hj)
theorem putK_tV {qs : List (Nat × Bool)} {q : Nat × Bool} (h : q.1 ∉ qs.map (·.1)) : putK (tV qs) (Sum.inl (q.1 : Int)) (V.bl q.2) = tV (qs ++ [q]) := by
  have hn : tF qs q.1 = none := by
    induction qs with
    | nil => rfl
    | cons p qs ih =>
      simp only [List.map_cons, List.mem_cons, not_or] at h
      unfold tF
      rw [if_neg (Ne.symm h.1)]
      exact ih h.2
  rw [putK_new _ (by rw [tV_val, hn]; rfl)]
  simp [tV]
theorem merge_tV : ∀ (qs acc : List (Nat × Bool)), ((acc ++ qs).map (·.1)).Nodup → mergeK (tV acc) (tV qs) = tV (acc ++ qs)
  | [], acc, _ => by rw [List.append_nil]; rfl
  | q :: qs, acc, h => by
    have h1 : q.1 ∉ acc.map (·.1) := fun z => by
      rw [List.map_append, List.map_cons] at h
      exact (List.nodup_append.mp h).2.2 _ z _ (List.mem_cons_self ..) rfl
    show mergeK (putK (tV acc) (Sum.inl (q.1 : Int)) (V.bl q.2)) (tV qs) = _
    rw [putK_tV h1, merge_tV qs (acc ++ [q]) (by simpa using h)]
    simp
theorem tF_mem : ∀ {ts : List (Nat × Bool)} {p : Nat × Bool}, (ts.map (·.1)).Nodup → p ∈ ts → tF ts p.1 = some p.2
  | [], _, _, h => by cases h
  | q :: ts, p, nd, h => by
    simp only [List.map_cons, List.nodup_cons] at nd
    unfold tF
    rcases List.mem_cons.mp h with rfl | h
    · rw [if_pos rfl]
    · rw [if_neg fun e => nd.1 (by rw [e]; exact List.mem_map.mpr ⟨p, h, rfl⟩)]
      exact tF_mem nd.2 h
theorem dra_nums {N : Addr → Prop} {H : Hp} : ∀ {ks : List Nat} {ys : List V}, DrA N H ys (nums ks) → ys = vN ks
  | [], _, .nil => rfl
  | k :: ks, _, .cons r t => by
    cases r.int_inv
    rw [dra_nums t]
    rfl
theorem pairs_tV {K : PySem.W.Frag} {H : Hp} : ∀ {Ts : List Addr} {qs : List (Nat × Bool)}, Paired (fun (T : Addr) (q : Nat × Bool) => H T = some (.tup [.int (q.1 : Nat), .bl q.2])) Ts qs → Paired (fun (p : Addr) (kv : Key × V) => SqT K H p [L2.kV kv.1, kv.2]) Ts (tV qs)
  | _, _, .nil => .nil
  | _, _, .cons e t => .cons (SqT.of e) (pairs_tV t)
theorem atP_in {p : Row → Bool} : ∀ {R : List Row} {n k : Nat}, k < R.length → p (rowAt R k) = true → n + k ∈ atP p R n
  | [], _, _, h, _ => absurd h (Nat.not_lt_zero _)
  | r :: R, n, k, h, hp => by
    unfold atP
    cases k with
    | zero =>
      have hp' : p r = true := hp
      rw [if_pos hp']
      exact List.mem_cons_self ..
    | succ k =>
      have e : rowAt (r :: R) (k + 1) = rowAt R k := rfl
      have ih := atP_in (R := R) (n := n + 1) (k := k) (by simpa using h) (by rw [← e]; exact hp)
      rw [show n + (k + 1) = n + 1 + k by omega]
      split
      · exact List.mem_cons_of_mem _ ih
      · exact ih
theorem atP_has {p : Row → Bool} {R : List Row} {k : Nat} (h : k < R.length) (hp : p (rowAt R k) = true) : k ∈ atP p R 0 := by
  have := atP_in (n := 0) h hp
  rwa [Nat.zero_add] at this
end K8

/-! Truths by a number's bits: every free walk once. No Python here. -/
namespace K8
open PySem PySem.Spec PyProof.Rows L2 WR
def bitN (num k : Nat) : Bool := decide (num / 2 ^ k % 2 = 1)
/-- asked rows and bits, from the k-th bit on -/
def qsF (num : Nat) : Nat → List Nat → List (Nat × Bool)
  | _, [] => []
  | k, a :: as => (a, bitN num k) :: qsF num (k + 1) as
theorem qsF_fst (num : Nat) : ∀ (k : Nat) (as : List Nat), (qsF num k as).map (·.1) = as
  | _, [] => rfl
  | k, a :: as => by
    show a :: (qsF num (k + 1) as).map (·.1) = _
    rw [qsF_fst]
theorem qsF_len (num k : Nat) (as : List Nat) : (qsF num k as).length = as.length := by
  have := congrArg List.length (qsF_fst num k as)
  rwa [List.length_map] at this
theorem qsF_snoc (num : Nat) : ∀ (as : List Nat) (k a : Nat), qsF num k (as ++ [a]) = qsF num k as ++ [(a, bitN num (k + as.length))]
  | [], k, a => rfl
  | b :: as, k, a => by
    show (b, bitN num k) :: qsF num (k + 1) (as ++ [a]) = _
    rw [qsF_snoc num as (k + 1) a, List.length_cons, show k + 1 + as.length = k + (as.length + 1) by omega]
    rfl
/-- the truths of a number -/
def tNum (as : List Nat) (num : Nat) (k : Nat) : Bool := (tF (qsF num 0 as) k).getD false
theorem tF_has : ∀ {ts : List (Nat × Bool)} {k : Nat}, k ∈ ts.map (·.1) → tF ts k ≠ none
  | [], _, h => by simp at h
  | p :: ts, k, h => by
    unfold tF
    by_cases e : p.1 = k
    · rw [if_pos e]
      exact fun z => nomatch z
    · rw [if_neg e]
      rw [List.map_cons, List.mem_cons] at h
      exact tF_has (h.resolve_left (Ne.symm e))
theorem tNum_some {as : List Nat} {num k : Nat} (h : k ∈ as) : tF (qsF num 0 as) k = some (tNum as num k) := by
  unfold tNum
  cases e : tF (qsF num 0 as) k with
  | none => exact absurd e (tF_has (by rw [qsF_fst]; exact h))
  | some b => rfl
/-- a number of these bits -/
def numOf : List Bool → Nat
  | [] => 0
  | b :: bs => (if b = true then 1 else 0) + 2 * numOf bs
theorem numOf_lt : ∀ bs : List Bool, numOf bs < 2 ^ bs.length
  | [] => Nat.one_pos
  | b :: bs => by
    have := numOf_lt bs
    show (if b = true then 1 else 0) + 2 * numOf bs < 2 ^ (bs.length + 1)
    rw [Nat.pow_succ]
    split <;> omega
theorem bitN_shift (b : Nat) (n k : Nat) (hb : b < 2) : bitN (b + 2 * n) (k + 1) = bitN n k := by
  unfold bitN
  rw [Nat.pow_succ', ← Nat.div_div_eq_div_mul, show (b + 2 * n) / 2 = n by omega]
theorem bitN_zero (b : Bool) (n : Nat) : bitN ((if b = true then 1 else 0) + 2 * n) 0 = b := by
  unfold bitN
  rw [Nat.pow_zero, Nat.div_one]
  cases b
  · simp
  · rw [if_pos rfl]
    exact decide_eq_true (by omega)
theorem bitN_numOf : ∀ (bs : List Bool) (k : Nat), bitN (numOf bs) k = bs.getD k false
  | [], k => by
    show bitN 0 k = false
    unfold bitN
    rw [Nat.zero_div]
    rfl
  | b :: bs, 0 => bitN_zero b _
  | b :: bs, k + 1 => by
    have h1 : (if b = true then 1 else 0 : Nat) < 2 := by split <;> decide
    show bitN ((if b = true then 1 else 0) + 2 * numOf bs) (k + 1) = _
    rw [bitN_shift _ _ _ h1, bitN_numOf bs k]
    rfl
theorem qsF_cons_shift (b n : Nat) (hb : b < 2) : ∀ (as : List Nat) (k : Nat), qsF (b + 2 * n) (k + 1) as = qsF n k as
  | [], _ => rfl
  | a :: as, k => by
    show (a, bitN (b + 2 * n) (k + 1)) :: qsF (b + 2 * n) (k + 2) as = (a, bitN n k) :: qsF n (k + 1) as
    rw [bitN_shift _ _ _ hb, qsF_cons_shift b n hb as (k + 1)]
/-- all truths of the asked rows are some number's -/
theorem qsF_num (t : Nat → Bool) : ∀ as : List Nat, qsF (numOf (as.map t)) 0 as = as.map fun a => (a, t a)
  | [] => rfl
  | a :: as => by
    have h1 : (if t a = true then 1 else 0 : Nat) < 2 := by split <;> decide
    show (a, bitN ((if t a = true then 1 else 0) + 2 * numOf (as.map t)) 0) :: qsF ((if t a = true then 1 else 0) + 2 * numOf (as.map t)) 1 as = (a, t a) :: as.map fun a => (a, t a)
    rw [bitN_zero, qsF_cons_shift _ _ h1, qsF_num t as]
theorem tF_map {t : Nat → Bool} : ∀ {as : List Nat} {k : Nat}, k ∈ as → tF (as.map fun a => (a, t a)) k = some (t k)
  | a :: as, k, h => by
    show (if a = k then some (t a) else tF (as.map fun a => (a, t a)) k) = _
    by_cases e : a = k
    · rw [if_pos e, e]
    · rw [if_neg e]
      rcases List.mem_cons.mp h with z | z
      · exact absurd z.symm e
      · exact tF_map z
theorem num_inj : ∀ (as : List Nat) (n m : Nat), as.Nodup → n < 2 ^ as.length → m < 2 ^ as.length → (∀ k ∈ as, tF (qsF n 0 as) k = tF (qsF m 0 as) k) → n = m
  | [], n, m, _, hn, hm, _ => by
    rw [List.length_nil, Nat.pow_zero] at hn hm
    omega
  | a :: as, n, m, nd, hn, hm, h => by
    obtain ⟨nd1, nd2⟩ := List.nodup_cons.mp nd
    rw [List.length_cons, Nat.pow_succ] at hn hm
    have h0 := h a (List.mem_cons_self ..)
    have e0 : ∀ n, tF (qsF n 0 (a :: as)) a = some (bitN n 0) := fun n => if_pos rfl
    rw [e0, e0] at h0
    have hb : n % 2 = m % 2 := by
      have h1 : bitN n 0 = bitN m 0 := Option.some.inj h0
      unfold bitN at h1
      rw [Nat.pow_zero, Nat.div_one, Nat.div_one] at h1
      have := decide_eq_decide.mp h1
      omega
    have ed : ∀ n, qsF n 1 as = qsF (n / 2) 0 as := fun n => by
      have := qsF_cons_shift (n % 2) (n / 2) (by omega) as 0
      rwa [show n % 2 + 2 * (n / 2) = n by omega] at this
    have ih := num_inj as (n / 2) (m / 2) nd2 (by omega) (by omega) fun k hk => by
      have hak : a ≠ k := fun z => nd1 (by rw [z]; exact hk)
      have := h k (List.mem_cons_of_mem _ hk)
      have e1 : ∀ n, tF (qsF n 0 (a :: as)) k = tF (qsF n 1 as) k := fun n => if_neg hak
      rw [e1, e1, ed, ed] at this
      exact this
    omega
/-- the asked rows -/
def asks (R : List Row) : List Nat := atP Row.isAsked R 0
theorem asks_mem {R : List Row} {k : Nat} : k ∈ asks R ↔ k < R.length ∧ (rowAt R k).isAsked = true :=
  ⟨fun h => ⟨(asked_ok h).2, (asked_ok h).1⟩, fun h => atP_has h.1 h.2⟩
theorem asks_nd (R : List Row) : (asks R).Nodup := atP_nodup R 0
/-- the walk of a number's truths -/
def wNum (R : List Row) (num : Nat) : Option Fs := twalk R (tNum (asks R) num) R.length
def founds (R : List Row) (n : Nat) : List Fs := (List.range n).filterMap (wNum R)
theorem founds_succ (R : List Row) (n : Nat) : founds R (n + 1) = founds R n ++ (wNum R n).toList := by
  unfold founds
  rw [List.range_succ, List.filterMap_append]
  cases e : wNum R n <;> simp [e]
theorem wNum_inj {R : List Row} {n m : Nat} {S : Fs} (hn : n < 2 ^ (asks R).length) (hm : m < 2 ^ (asks R).length) (h1 : wNum R n = some S) (h2 : wNum R m = some S) : n = m := by
  refine num_inj (asks R) n m (asks_nd R) hn hm fun k hk => ?_
  obtain ⟨hk1, hk2⟩ := asks_mem.mp hk
  have a1 := twalk_b h1 k hk1 hk2
  have a2 := twalk_b h2 k hk1 hk2
  rw [tNum_some hk, tNum_some hk]
  rw [a1] at a2
  injection a2 with a2
  rw [a2]
theorem founds_nd {R : List Row} : ∀ {n : Nat}, n ≤ 2 ^ (asks R).length → (founds R n).Nodup
  | 0, _ => List.nodup_nil
  | n + 1, h => by
    rw [founds_succ]
    have ih := founds_nd (R := R) (n := n) (by omega)
    cases e : wNum R n with
    | none =>
      rw [Option.toList_none, List.append_nil]
      exact ih
    | some S =>
      rw [Option.toList_some, List.nodup_append]
      refine ⟨ih, by simp, fun x hx y hy z => ?_⟩
      rw [List.mem_singleton.mp hy] at z
      subst z
      obtain ⟨m, hm, em⟩ := List.mem_filterMap.mp hx
      have hm' := List.mem_range.mp hm
      have := wNum_inj (by omega) (by omega) em e
      omega
theorem founds_mem {R : List Row} {n : Nat} {S : Fs} (h : S ∈ founds R n) : S ∈ allW R := by
  obtain ⟨m, _, em⟩ := List.mem_filterMap.mp h
  exact mem_allW.mpr (twalk_rchd (Nat.le_refl _) em)
theorem founds_all {R : List Row} (W : Web R) {S : Fs} (h : S ∈ allW R) : S ∈ founds R (2 ^ (asks R).length) := by
  have hr := mem_allW.mp h
  refine List.mem_filterMap.mpr ⟨numOf ((asks R).map (truthsOf S)), List.mem_range.mpr ?_, ?_⟩
  · have := numOf_lt ((asks R).map (truthsOf S))
    rwa [List.length_map] at this
  · have e := twalk_of W hr R.length (Nat.le_refl _)
    rw [hr.2] at e
    rw [← e]
    refine twalk_congr R.length (Nat.le_refl _) fun k hk ha => ?_
    have hm := asks_mem.mpr ⟨hk, ha⟩
    have h1 := tNum_some (num := numOf ((asks R).map (truthsOf S))) hm
    rw [qsF_num, tF_map hm] at h1
    exact (Option.some.inj h1).symm
theorem allW_nd (R : List Row) : (allW R).Nodup := (allW_lex R).imp fun {x y} h z => by
  rw [z, lexB2_irr] at h
  cases h
theorem founds_perm {R : List Row} (W : Web R) : (founds R (2 ^ (asks R).length)).Perm (allW R) :=
  (List.perm_ext_iff_of_nodup (founds_nd (Nat.le_refl _)) (allW_nd R)).mpr fun S => ⟨founds_mem, founds_all W⟩
/-- sorted by what was chosen, they are all free walks in their order -/
theorem sorted_allW {R : List Row} {L : List Fs} (hp : L.Perm (allW R)) (hs : L.Pairwise fun x y => lexB2 y.ch x.ch = false) : L = allW R := by
  refine List.Perm.eq_of_pairwise (le := fun x y : Fs => lexB2 y.ch x.ch = false) (fun x y hx hy h1 h2 => ?_) hs ((allW_lex R).imp fun h => lexB2_asym h) hp
  exact allW_inj (hp.mem_iff.mp hx) hy (lexB2_tot h2 h1)
end K8

/-! What was chosen, read off the worths. No Python here. -/
namespace K8
open PySem PySem.Spec PyProof.Rows L2 WR
theorem tstep_ms {R : List Row} {t : Nat → Bool} {S S' : Fs} {r : Row} (h : tstep R t S r = some S') : ∃ y, S'.ms = S.ms ++ [y] := by
  unfold tstep at h
  cases r with
  | asked n ks =>
    dsimp only at h
    cases e : firstLike R S.ms (.asked n ks) with
    | some k =>
      rw [e] at h
      dsimp only at h
      split at h
      · cases h
        exact ⟨_, rfl⟩
      · cases h
    | none =>
      rw [e] at h
      cases h
      exact ⟨_, rfl⟩
  | _ =>
    cases h
    exact ⟨_, rfl⟩
/-- the walk's beginnings -/
theorem twalk_init {R : List Row} {t : Nat → Bool} {m : Nat} : ∀ {n : Nat} {S : Fs}, m ≤ n → twalk R t n = some S → ∃ S', twalk R t m = some S' ∧ S'.ms = S.ms.take m
  | 0, S, h, e => by
    obtain rfl : m = 0 := by omega
    exact ⟨S, e, by rw [List.take_of_length_le (by rw [twalk_len e]; exact Nat.le_refl _)]⟩
  | n + 1, S, h, e => by
    by_cases z : m ≤ n
    · have e' := e
      unfold twalk at e'
      cases e1 : twalk R t n with
      | none => rw [e1] at e'; cases e'
      | some S1 =>
        rw [e1] at e'
        obtain ⟨y, hy⟩ := tstep_ms (show tstep R t S1 (rowAt R n) = some S from e')
        obtain ⟨S', h1, h2⟩ := twalk_init z e1
        refine ⟨S', h1, ?_⟩
        rw [h2, hy, List.take_append_of_le_length (by rw [twalk_len e1]; exact z)]
    · obtain rfl : m = n + 1 := by omega
      exact ⟨S, e, by rw [List.take_of_length_le (by rw [twalk_len e]; exact Nat.le_refl _)]⟩
theorem tstep_chs {R : List Row} {t : Nat → Bool} {S S' : Fs} {r : Row} (h : tstep R t S r = some S') : S'.ch = S.ch ++ (if r.isAsked = true ∧ firstLike R S.ms r = none then [t S.ms.length] else []) := by
  unfold tstep at h
  cases r with
  | asked n ks =>
    dsimp only at h
    cases e : firstLike R S.ms (.asked n ks) with
    | some k =>
      rw [e] at h
      dsimp only at h
      rw [if_neg (fun z => nomatch z.2), List.append_nil]
      split at h
      · cases h
        rfl
      · cases h
    | none =>
      rw [e] at h
      cases h
      rw [if_pos ⟨rfl, rfl⟩]
  | made n ks =>
    cases h
    rw [if_neg (fun z => nomatch z.1), List.append_nil]
    exact fclosed_ch (cs := []) (by show (false && _) = false; rfl)
  | either c i j =>
    cases h
    rw [if_neg (fun z => nomatch z.1), List.append_nil]
    exact fclosed_ch (cs := []) (by show (false && _) = false; rfl)
  | given k =>
    cases h
    rw [if_neg (fun z => nomatch z.1), List.append_nil]
    exact fclosed_ch (cs := []) (by show (false && _) = false; rfl)
/-- asked rows that open a choice -/
def opn (R : List Row) (ms : List Wt) (k : Nat) : Bool := (firstLike R (ms.take k) (rowAt R k)).isNone
theorem twalk_ch {R : List Row} {t : Nat → Bool} {S : Fs} (e : twalk R t R.length = some S) : ∀ m, m ≤ R.length → ∀ S', twalk R t m = some S' → S'.ch = ((atP Row.isAsked (R.take m) 0).filter (opn R S.ms)).map t
  | 0, _, S', h => by
    cases h
    rw [List.take_zero]
    rfl
  | m + 1, hm, S', h => by
    have h' := h
    unfold twalk at h'
    cases e1 : twalk R t m with
    | none => rw [e1] at h'; cases h'
    | some S1 =>
      rw [e1] at h'
      have hst : tstep R t S1 (rowAt R m) = some S' := h'
      have ih := twalk_ch e m (by omega) S1 e1
      have hl := twalk_len e1
      obtain ⟨S2, e2, e3⟩ := twalk_init (show m ≤ R.length by omega) e
      rw [e1] at e2
      cases e2
      rw [tstep_chs hst, ih, hl]
      have et : R.take (m + 1) = R.take m ++ [rowAt R m] := by
        rw [List.take_succ, List.getElem?_eq_getElem (show m < R.length by omega), rowAt_get (show m < R.length by omega)]
        rfl
      have lm : (R.take m).length = m := by rw [List.length_take]; omega
      rw [et, atP_app, lm, Nat.zero_add, List.filter_append, List.map_append]
      congr 1
      by_cases ha : (rowAt R m).isAsked = true
      · rw [if_pos ha]
        have eo : opn R S.ms m = (firstLike R S1.ms (rowAt R m)).isNone := by
          unfold opn
          rw [← e3]
        cases ef : firstLike R S1.ms (rowAt R m) with
        | none =>
          rw [if_pos ⟨ha, rfl⟩, List.filter_cons, eo, ef]
          rfl
        | some k =>
          rw [if_neg (fun z => nomatch z.2), List.filter_cons, eo, ef]
          rfl
      · rw [if_neg ha, if_neg (fun z => ha z.1)]
        rfl
theorem twalk_chs {R : List Row} {t : Nat → Bool} {S : Fs} (e : twalk R t R.length = some S) : S.ch = ((asks R).filter (opn R S.ms)).map t := by
  have := twalk_ch e R.length (Nat.le_refl _) S e
  rwa [List.take_length] at this
end K8

/-! _law_a_all. -/
namespace K8
open PySem PySem.Spec PyProof.Rows L2 WR
theorem Row.asked_keyed {r : Row} (h : r.isAsked = true) : r.keyed = true := by cases r <;> first | rfl | cases h
def entD (S : Fs) : PyData := .tuple [.list (S.ch.map PyData.bool), .list (S.ms.map Wt.d)]
def allD (R : List Row) : PyData := .list ((allW R).map entD)
abbrev spAAll : Sp := fun vs H Q _ => ∃ (v : V) (R : List Row), vs = [v] ∧ Dr All H v (rowsD R) ∧ Web R ∧ R.length ≤ lim ∧ (asks R).length ≤ 10 ∧ ∀ p H', Sm H H' → Dr (NwA H) H' (.ref p) (allD R) → Q (.ref p) H'
/-- an entry that stands: the pair, what was chosen, the worths -/
def EnA (N : Addr → Prop) (H : Hp) (q : BP) (S : Fs) : Prop := q.2.2.2 = S.ch ∧ H q.1 = some (.tup [.ref q.2.1, q.2.2.1]) ∧ H q.2.1 = some (.lst (S.ch.map V.bl)) ∧ N q.2.1 ∧ ∃ tl, q.2.2.1 = .ref tl ∧ H tl = some (.lst (S.ms.map Wt.v)) ∧ N tl
theorem EnA.sm {N : Addr → Prop} {H H' : Hp} {q : BP} {S : Fs} (h : EnA N H q S) (s : Sm H H') : EnA N H' q S := by
  obtain ⟨h1, h2, h3, h4, tl, h5, h6, h7⟩ := h
  exact ⟨h1, s _ _ h2, s _ _ h3, h4, tl, h5, s _ _ h6, h7⟩
theorem EnA.dr {N : Addr → Prop} {H : Hp} {q : BP} {S : Fs} (h : EnA N H q S) : Dr (N) H (.ref q.1) (entD S) := by
  obtain ⟨h1, h2, h3, h4, tl, h5, h6, h7⟩ := h
  rw [h5] at h2
  exact .tup h2 (.cons (.lst h4 h3 (bls_dr _)) (.one (.lst h7 h6 (wts_dr _))))
/-- a list of them -/
inductive Ens (N : Addr → Prop) (H : Hp) : List BP → List Fs → Prop
  | nil : Ens N H [] []
  | cons {q : BP} {S : Fs} {qs : List BP} {L : List Fs} : EnA N H q S → Ens N H qs L → Ens N H (q :: qs) (S :: L)
theorem Ens.sm {N : Addr → Prop} {H H' : Hp} (s : Sm H H') : ∀ {qs : List BP} {L : List Fs}, Ens N H qs L → Ens N H' qs L
  | _, _, .nil => .nil
  | _, _, .cons a t => .cons (a.sm s) (t.sm s)
theorem Ens.snoc {N : Addr → Prop} {H : Hp} {q : BP} {S : Fs} (a : EnA N H q S) : ∀ {qs : List BP} {L : List Fs}, Ens N H qs L → Ens N H (qs ++ [q]) (L ++ [S])
  | _, _, .nil => .cons a .nil
  | _, _, .cons b t => .cons b (t.snoc a)
theorem Ens.len {N : Addr → Prop} {H : Hp} : ∀ {qs : List BP} {L : List Fs}, Ens N H qs L → qs.length = L.length
  | _, _, .nil => rfl
  | _, _, .cons _ t => by simp [t.len]
theorem Ens.mem {N : Addr → Prop} {H : Hp} : ∀ {qs : List BP} {L : List Fs}, Ens N H qs L → ∀ q ∈ qs, ∃ S ∈ L, EnA N H q S
  | _, _, .nil, q, h => by cases h
  | _, _, .cons a t, q, h => by
    rcases List.mem_cons.mp h with rfl | z
    · exact ⟨_, List.mem_cons_self .., a⟩
    · obtain ⟨S, hS, e⟩ := t.mem q z
      exact ⟨S, List.mem_cons_of_mem _ hS, e⟩
/-- of one entry for each -/
theorem Ens.inj {N : Addr → Prop} {H : Hp} : ∀ {qs : List BP} {L : List Fs}, Ens N H qs L → (∀ x ∈ L, ∀ y ∈ L, x.ch = y.ch → x = y) → L.Nodup → ∀ p ∈ qs, ∀ q ∈ qs, p.2.2.2 = q.2.2.2 → p = q
  | _, _, .nil, _, _, p, hp, _, _, _ => by cases hp
  | _, _, .cons (q := q0) (S := S0) (qs := qs0) a t, hi, nd, p, hp, q, hq, e => by
    obtain ⟨n1, n2⟩ := List.nodup_cons.mp nd
    have ih := t.inj (fun x hx y hy => hi x (List.mem_cons_of_mem _ hx) y (List.mem_cons_of_mem _ hy)) n2
    have no : ∀ r ∈ qs0, r.2.2.2 = q0.2.2.2 → False := fun r hr er => by
      obtain ⟨S, hS, b⟩ := t.mem r hr
      have : S = S0 := hi S (List.mem_cons_of_mem _ hS) S0 (List.mem_cons_self ..) (by rw [← b.1, er, a.1])
      rw [this] at hS
      exact n1 hS
    rcases List.mem_cons.mp hp with z | hp'
    · rcases List.mem_cons.mp hq with y | hq'
      · rw [z, y]
      · rw [z] at e
        exact (no q hq' e.symm).elim
    · rcases List.mem_cons.mp hq with y | hq'
      · rw [y] at e
        exact (no p hp' e).elim
      · exact ih p hp' q hq' e
/-- another order of them -/
theorem Ens.perm {N : Addr → Prop} {H : Hp} {qs : List BP} {L : List Fs} (h : Ens N H qs L) {qs' : List BP} (p : qs'.Perm qs) : ∃ L' : List Fs, L'.Perm L ∧ Ens N H qs' L' := by
  have key : ∀ {as bs : List BP}, as.Perm bs → ∀ L, Ens N H as L → ∃ L' : List Fs, L'.Perm L ∧ Ens N H bs L' := by
    intro as bs p
    induction p with
    | nil => exact fun L h => ⟨L, List.Perm.refl _, h⟩
    | cons x _ ih =>
      intro L h
      cases h with
      | cons a t =>
        obtain ⟨L', h1, h2⟩ := ih _ t
        exact ⟨_ :: L', h1.cons _, .cons a h2⟩
    | swap x y l =>
      intro L h
      cases h with
      | cons a t => cases t with
        | cons b t => exact ⟨_ :: _ :: _, List.Perm.swap .., .cons b (.cons a t)⟩
    | trans _ _ ih1 ih2 =>
      intro L h
      obtain ⟨L1, h1, h2⟩ := ih1 L h
      obtain ⟨L2, h3, h4⟩ := ih2 L1 h2
      exact ⟨L2, h3.trans h1, h4⟩
  exact key p.symm L h
theorem Ens.dr {N : Addr → Prop} {H : Hp} : ∀ {qs : List BP} {L : List Fs}, Ens N H qs L → DrA (N) H (qs.map fun q => V.ref q.1) (L.map entD)
  | _, _, .nil => .nil
  | _, _, .cons a t => .cons a.dr t.dr
theorem Ens.sorted {N : Addr → Prop} {H : Hp} : ∀ {qs : List BP} {L : List Fs}, Ens N H qs L → (qs.Pairwise fun x y => lexB2 y.2.2.2 x.2.2.2 = false) → L.Pairwise fun x y => lexB2 y.ch x.ch = false
  | _, _, .nil, _ => List.Pairwise.nil
  | _, _, .cons (q := q0) (S := S0) a t, h => by
    obtain ⟨h1, h2⟩ := List.pairwise_cons.mp h
    refine List.pairwise_cons.mpr ⟨fun S hS => ?_, t.sorted h2⟩
    have key : ∀ {qs : List BP} {L : List Fs}, Ens N H qs L → ∀ S ∈ L, ∃ q ∈ qs, q.2.2.2 = S.ch := by
      intro qs L e
      induction e with
      | nil => exact fun S h => nomatch h
      | cons a _ ih =>
        intro S h
        rcases List.mem_cons.mp h with rfl | z
        · exact ⟨_, List.mem_cons_self .., a.1⟩
        · obtain ⟨q, hq, e⟩ := ih S z
          exact ⟨q, List.mem_cons_of_mem _ hq, e⟩
    obtain ⟨q, hq, e⟩ := key t S hS
    have := h1 q hq
    rw [e, a.1] at this
    exact this
theorem EnA.upd {N : Addr → Prop} {H : Hp} {q : BP} {S : Fs} {l : Addr} {o : HO} (h : EnA N H q S) (hN : ∀ b, N b → b ≠ l) (hl : ∃ xs, H l = some (.lst xs)) : EnA N (upd H l o) q S := by
  obtain ⟨h1, h2, h3, h4, tl, h5, h6, h7⟩ := h
  obtain ⟨xs, hl⟩ := hl
  exact ⟨h1, by rw [upd_ne (fun z => by rw [z, hl] at h2; cases h2)]; exact h2, by rw [upd_ne (hN _ h4)]; exact h3, h4, tl, h5, by rw [upd_ne (hN _ h7)]; exact h6, h7⟩
theorem Ens.upd {N : Addr → Prop} {H : Hp} {l : Addr} {o : HO} (hN : ∀ b, N b → b ≠ l) (hl : ∃ xs, H l = some (.lst xs)) : ∀ {qs : List BP} {L : List Fs}, Ens N H qs L → Ens N (upd H l o) qs L
  | _, _, .nil => .nil
  | _, _, .cons a t => .cons (a.upd hN hl) (t.upd hN hl)
theorem EnA.imp {N M : Addr → Prop} {H : Hp} {q : BP} {S : Fs} (h : EnA N H q S) (hi : ∀ b, N b → M b) : EnA M H q S := by
  obtain ⟨h1, h2, h3, h4, tl, h5, h6, h7⟩ := h
  exact ⟨h1, h2, h3, hi _ h4, tl, h5, h6, hi _ h7⟩
theorem Ens.imp {N M : Addr → Prop} {H : Hp} (hi : ∀ b, N b → M b) : ∀ {qs : List BP} {L : List Fs}, Ens N H qs L → Ens M H qs L
  | _, _, .nil => .nil
  | _, _, .cons a t => .cons (a.imp hi) (t.imp hi)
theorem founds_len (R : List Row) (n : Nat) : (founds R n).length ≤ n := by
  have := List.length_filterMap_le (wNum R) (List.range n)
  rwa [List.length_range] at this
theorem Paired.imp2 {α β : Type} {F G : α → β → Prop} : ∀ {xs : List α} {ys : List β}, Paired F xs ys → (∀ x y, F x y → G x y) → Paired G xs ys
  | _, _, .nil, _ => .nil
  | _, _, .cons a t, h => .cons (h _ _ a) (Paired.imp2 t h)
/-- [f(at) for at in asked if p(at)], of truths -/
theorem chs_comp {K : PySem.W.Frag} {J : It} {H1 : Hp} {D a : Addr} {as : List Nat} {te : TE} {tt : TT} {σ : L2.St} {vs : List Nat} {i : Nat} {Qd : Hp → Prop} (p f : Nat → Bool) (hJ : ItS K H1 a (vN as) J) (nD : H1 D = none) (hlen : as.length ≤ lim)
    (hw : ∀ x, wipe ((wipe σ vs).set i (some x)) vs = wipe σ vs)
    (htt : ∀ (k : Nat) (H2 : Hp) (Q : Bool → Hp → Prop), k ∈ as → Sm H1 H2 → (∀ H3, Sm H2 H3 → Q (p k) H3) → tt ((wipe σ vs).set i (some (.int (k : Nat)))) H2 Q)
    (hte : ∀ (k : Nat) (H2 : Hp) (Q : VK), k ∈ as → Sm H1 H2 → Q (.bl (f k)) H2 → te ((wipe σ vs).set i (some (.int (k : Nat)))) H2 Q)
    (hd : ∀ H2, Sm H1 H2 → H2 D = some (.lst (((as.filter p).map f).map V.bl)) → Qd H2) :
    ∃ W : Nat → Nat → Hp → Prop, (∃ m, W 0 m (upd H1 D (.lst []))) ∧ ∀ i' m H, W i' m H →
      (J.stop i' H ∧ Qd H) ∨ (J.go i' H ∧ ∃ Nx : Hp → Prop, (∀ H', Nx H' → ∃ m', m' < m ∧ W (i' + 1) m' H') ∧ ∀ x H', J.yld i' H x H' → (gName i) x (wipe σ vs) H' fun σ2 H2 => wipe σ2 vs = wipe σ vs ∧ tt σ2 H2 fun b H3 =>
        if b = true then te σ2 H3 fun y H4 => ∃ acc, H4 D = some (.lst acc) ∧ acc.length < sizeLine ∧ Nx (upd H4 D (.lst (acc ++ [y]))) else Nx H3) := by
  have hsl := lim_lt
  have hl : (vN as).length = as.length := by simp [vN]
  have ha : ∃ o, H1 a = some o := by rcases hJ with ⟨_, e⟩ | ⟨_, e⟩ <;> exact ⟨_, e⟩
  refine lc_seq hJ (fun m H2 => Sm H1 H2 ∧ H2 D = some (.lst ((((as.take m).filter p).map f).map V.bl))) ⟨Sm.new nD, upd_same⟩ (fun m H2 hm h => by obtain ⟨o, e⟩ := ha; rw [e]; exact h.1 _ _ e) (fun m x H2 hx h => ?_) fun H2 h => ?_
  · obtain ⟨s, eD⟩ := h
    have hm : m < as.length := by
      have := (List.getElem?_eq_some_iff.mp hx).1
      omega
    rw [vN, List.getElem?_map, List.getElem?_eq_getElem hm] at hx
    obtain rfl := (Option.some.inj hx).symm
    have hmem : as[m] ∈ as := List.getElem_mem hm
    refine ⟨hw _, ?_⟩
    have et : as.take (m + 1) = as.take m ++ [as[m]] := by rw [List.take_succ, List.getElem?_eq_getElem hm]; rfl
    have la : ((as.take m).filter p).length ≤ m := Nat.le_trans (List.length_filter_le _ _) (by rw [List.length_take]; omega)
    refine htt as[m] H2 _ hmem s fun H3 s3 => ?_
    refine ite2 (fun hp => ?_) (fun hp => ?_)
    · refine hte as[m] H3 _ hmem (s.trans s3) ⟨_, s3 _ _ eD, by rw [List.length_map, List.length_map]; omega, fun c o e => ?_, ?_⟩
      · rw [upd_ne (ne_of_none e nD)]
        exact s3 _ _ (s _ _ e)
      · rw [upd_same, et, List.filter_append, List.filter_cons, if_pos hp, List.filter_nil, List.map_append, List.map_append]
        rfl
    · refine ⟨s.trans s3, ?_⟩
      rw [et, List.filter_append, List.filter_cons, if_neg hp, List.filter_nil, List.append_nil]
      exact s3 _ _ eD
  · have := h.2
    rw [hl, List.take_length] at this
    exact hd H2 h.1 this
/-- [(at, bit of number) for k, at in enumerate(asked)] -/
theorem bits_comp {K : PySem.W.Frag} {J : It} {H1 : Hp} {D a : Addr} {as : List Nat} {te : TE} {σ : L2.St} {vs : List Nat} {i j : Nat} {Qd : Hp → Prop} {num : Nat} (hJ : ItN K H1 a (vN as) J) (nD : H1 D = none) (hlen : as.length ≤ lim)
    (hw : ∀ a b, wipe (((wipe σ vs).set i (some a)).set j (some b)) vs = wipe σ vs)
    (hte : ∀ (k at' : Nat) (H2 : Hp) (Q : VK), (∀ T, H2 T = none → Q (.ref T) (upd H2 T (.tup [.int (at' : Nat), .bl (bitN num k)]))) → te (((wipe σ vs).set i (some (.int (k : Nat)))).set j (some (.int (at' : Nat)))) H2 Q)
    (hd : ∀ H2 (Ts : List Addr), Sm H1 H2 → H2 D = some (.lst (Ts.map V.ref)) → Paired (fun (T : Addr) (q : Nat × Bool) => H2 T = some (.tup [.int (q.1 : Nat), .bl q.2])) Ts (qsF num 0 as) → Qd H2) :
    ∃ W : Nat → Nat → Hp → Prop, (∃ m, W 0 m (upd H1 D (.lst []))) ∧ ∀ i' m H, W i' m H →
      (J.stop i' H ∧ Qd H) ∨ (J.go i' H ∧ ∃ Nx : Hp → Prop, (∀ H', Nx H' → ∃ m', m' < m ∧ W (i' + 1) m' H') ∧ ∀ x H', J.yld i' H x H' → (gTup K 2 (gCons (gName i) (gCons (gName j) gNil))) x (wipe σ vs) H' fun σ2 H2 => wipe σ2 vs = wipe σ vs ∧ tYes σ2 H2 fun b H3 =>
        if b = true then te σ2 H3 fun y H4 => ∃ acc, H4 D = some (.lst acc) ∧ acc.length < sizeLine ∧ Nx (upd H4 D (.lst (acc ++ [y]))) else Nx H3) := by
  have hl : (vN as).length = as.length := by simp [vN]
  have hsl := lim_lt
  refine lc_walk (n := as.length) (fun m H2 => Sm H1 H2 ∧ ∃ Ts : List Addr, H2 D = some (.lst (Ts.map V.ref)) ∧ Paired (fun (T : Addr) (q : Nat × Bool) => H2 T = some (.tup [.int (q.1 : Nat), .bl q.2])) Ts (qsF num 0 (as.take m))) ⟨Sm.new nD, [], upd_same, .nil⟩ (fun m H2 hm h => ?_) (fun H2 h => ?_) (fun m x H2 H' hm h hy => ?_) fun H2 h => ?_
  · have hx : (vN as)[m]? = some (vN as)[m] := List.getElem?_eq_getElem (by omega)
    rcases hJ with ⟨rfl, e⟩ | ⟨rfl, e⟩
    · exact ⟨vN as, _, SqL.of (h.1 _ _ e), hx⟩
    · exact ⟨vN as, _, SqT.of (h.1 _ _ e), hx⟩
  · rcases hJ with ⟨rfl, e⟩ | ⟨rfl, e⟩
    · exact ⟨vN as, SqL.of (h.1 _ _ e), by omega⟩
    · exact ⟨vN as, SqT.of (h.1 _ _ e), by omega⟩
  · obtain ⟨s, Ts, eD, pr⟩ := h
    obtain ⟨T, y, rfl, nT, rfl, hx⟩ : ∃ T y, x = .ref T ∧ H2 T = none ∧ H' = upd H2 T (.tup [.int (m : Nat), y]) ∧ (vN as)[m]? = some y := by
      rcases hJ with ⟨rfl, e⟩ | ⟨rfl, e⟩
      · obtain ⟨T, y, h1, h2, h3, h4⟩ := hy
        exact ⟨T, y, h1, h2, h3, h4 _ (SqL.of (s _ _ e))⟩
      · obtain ⟨T, y, h1, h2, h3, h4⟩ := hy
        exact ⟨T, y, h1, h2, h3, h4 _ (SqT.of (s _ _ e))⟩
    have ey : y = .int (as[m] : Nat) := by
      rw [vN, List.getElem?_map, List.getElem?_eq_getElem hm] at hx
      exact (Option.some.inj hx).symm
    subst ey
    have sT : Sm H2 (upd H2 T (.tup [.int (m : Nat), .int (as[m] : Nat)])) := Sm.new nT
    refine ⟨T, _, rfl, SqT.of upd_same, rfl, _, _, rfl, _, _, rfl, rfl, hw _ _, ?_⟩
    dsimp only [tYes]
    rw [if_pos rfl]
    have lT : Ts.length = m := by
      rw [Paired.length pr, qsF_len, List.length_take]
      omega
    refine hte m as[m] _ _ fun T2 nT2 => ?_
    have s2 := Sm.new (o := .tup [.int (as[m] : Nat), .bl (bitN num m)]) nT2
    have eD2 := s2 _ _ (sT _ _ eD)
    refine ⟨_, eD2, by rw [List.length_map]; omega, fun b o e => ?_, Ts ++ [T2], by rw [upd_same]; simp, ?_⟩
    · rw [upd_ne (ne_of_none e nD)]
      exact s2 _ _ (sT _ _ (s _ _ e))
    · have et : as.take (m + 1) = as.take m ++ [as[m]] := by rw [List.take_succ, List.getElem?_eq_getElem hm]; rfl
      have lm : (as.take m).length = m := by rw [List.length_take]; omega
      rw [et, qsF_snoc, Nat.zero_add, lm]
      have up : ∀ b zs, H2 b = some (.tup zs) → upd (upd (upd H2 T (.tup [.int (m : Nat), .int (as[m] : Nat)])) T2 (.tup [.int (as[m] : Nat), .bl (bitN num m)])) D (.lst (Ts.map V.ref ++ [V.ref T2])) b = some (.tup zs) := fun b zs z => by
        rw [upd_ne fun y => by rw [y, eD] at z; cases z]
        exact s2 _ _ (sT _ _ z)
      refine Paired.app1 ?_ (Paired.imp2 pr fun T q e => up _ _ e)
      show upd _ D _ T2 = _
      rw [upd_ne (fun y => by rw [y, sT _ _ eD] at nT2; cases nT2)]
      exact upd_same
  · obtain ⟨s, Ts, eD, pr⟩ := h
    rw [List.take_length] at pr
    exact hd H2 Ts s eD pr
theorem bit_dec (num k : Nat) : decide (V.int ((((num : Nat) : Int) / 2 ^ k).fmod 2) = V.int 1) = bitN num k := by
  have e1 : (((num : Nat) : Int) / 2 ^ k) = ((num / 2 ^ k : Nat) : Int) := by simp
  have e2 : (((num / 2 ^ k : Nat) : Int)).fmod 2 = ((num / 2 ^ k % 2 : Nat) : Int) := by
    rw [Int.fmod_eq_emod_of_nonneg _ (by decide)]
    simp
  rw [e1, e2]
  unfold bitN
  refine decide_eq_decide.mpr ⟨fun h => ?_, fun h => ?_⟩
  · injection h with h
    omega
  · rw [h]
    rfl
section
variable {P : Program} {w : World} {K : PySem.W.Frag} {mg : Str → Option Value} {base : Heap}
theorem sc__law_a_all : FnScope ["rows", "asked", "found", "number", "truths", "told", "at", "row", "k"] ["rows"] (defScope s_law_a_all) := ⟨rfl, rfl, rfl, by decide +kernel, rfl, by decide +kernel, by decide +kernel⟩
theorem ok__law_a_all (B : Bt mg) (BS : mg "sorted" = none) (F : Fn K mg d_law_a_all) (D1 : Df P w K mg base CX0 2 "_law_a_told" ["rows", "truths"] spATold) (D2 : Df P w K mg base CX0 1 "_law_a_like" ["rows", "told", "at"] spALike) :
    Df P w K mg base CX0 3 "_law_a_all" ["rows"] spAAll := by
  obtain ⟨f, fd, hm, F⟩ := F
  refine ⟨f, fd, hm, F.kp, F.bindsN fun _ _ _ _ _ _ us hl => match us, hl with | [_], _ => rfl, ?_⟩
  refine F.ok sc__law_a_all (fun vs H Q E h => by obtain ⟨v, R, rfl, _⟩ := h; rfl) (fun cdv A outer s H vs Q E hr h => ?_)
  obtain ⟨v, R, rfl, rr, WR', hR, hA, q⟩ := h
  have hu := hr.units
  have hu1 : (A.deeper (envOfC d_law_a_all.qual d_law_a_all.scope s.heap.objs.size f cdv)).units + 1 < cLine := by omega
  have hr1 := hr.mono (show 1 ≤ 2 by decide)
  refine ⟨_, PSs.nox (pss_cons (ps_par (i := 1) (j := 2) (by rfl) sc__law_a_all.nd rfl rfl (by decide) rfl rfl (pa_cons (pe_lc (own := [("at", 6), ("row", 7)]) (g := gTup K 2 (gCons (gName 6) (gCons (gName 7) gNil))) (tt := _) rfl sc__law_a_all.nd (pi_enS B.enumerate (pa_cons (pv 0) pa_nil)) (blkOk_by (own := [("at", 6), ("row", 7)]) (N := ["rows", "asked", "found", "number", "truths", "told", "at", "row", "k"]) (sc := defScope s_law_a_all) (by decide +kernel)) (fun _ _ _ _ _ => pg_tup rfl (pgs_cons (pg_name (i := 6) sc__law_a_all.nd rfl (by first | exact Or.inl rfl | exact Or.inr rfl)) (pgs_cons (pg_name (i := 7) sc__law_a_all.nd rfl (by first | exact Or.inl rfl | exact Or.inr rfl)) pgs_nil))) (fun _ _ _ _ _ => (pts_one (pt_cmpR op_eq (pe_ix ix_D (pv 7) pe_int (fun _ _ => rfl)) pe_str (nomark _)))) (fun _ _ _ _ _ => (pv 6))) (pa_cons (pe_lst pa_nil) pa_nil)) (by first | rfl | kernel_rfl))
      (pss_cons (ps_for PassesOwn.never rfl (pi_range1 rfl B.range (pa_cons (pe_op op_oneShl pe_int (pe_callB call_lenS (by rfl) B.len (by decide +kernel) (pa_cons (pv 1) pa_nil))) pa_nil)) (pg_name (i := 3) sc__law_a_all.nd rfl (by first | exact Or.inl rfl | exact Or.inr rfl)) (pss_cons (ps_set (i := 4) sc__law_a_all.nd rfl (by first | exact Or.inl rfl | exact Or.inr rfl) (pe_callTy (call_dictP rfl) (by rfl) B.dict (by decide +kernel) (pa_cons (pe_lc (own := [("k", 8), ("at", 6)]) (g := gTup K 2 (gCons (gName 8) (gCons (gName 6) gNil))) (tt := tYes) rfl sc__law_a_all.nd (pi_enS B.enumerate (pa_cons (pv 1) pa_nil)) (blkOk_by (own := [("k", 8), ("at", 6)]) (N := ["rows", "asked", "found", "number", "truths", "told", "at", "row", "k"]) (sc := defScope s_law_a_all) (by decide +kernel)) (fun _ _ _ _ _ => pg_tup rfl (pgs_cons (pg_name (i := 8) sc__law_a_all.nd rfl (by first | exact Or.inl rfl | exact Or.inr rfl)) (pgs_cons (pg_name (i := 6) sc__law_a_all.nd rfl (by first | exact Or.inl rfl | exact Or.inr rfl)) pgs_nil))) (fun _ _ _ _ _ => pts_nil) (fun _ _ _ _ _ => (pe_tup (pa_cons (pv 6) (pa_cons (pe_cmpR op_eq (pe_op op_modN (pe_op op_shrN (pv 3) (pv 8)) pe_int) pe_int (nomark _)) pa_nil))))) pa_nil)))
      (pss_cons (ps_set (i := 5) sc__law_a_all.nd rfl (by first | exact Or.inl rfl | exact Or.inr rfl) (pe_df D1 hr pass0 (pa_cons (pv 0) (pa_cons (pv 4) pa_nil))))
      (pss_one (ps_if (pt_cmpR op_notN (pv 5) pe_non (nomark _)) (pss_one (ps_expr (pe_bm PySem.F.plainAttrs_list PySem.F.slot_list_append PySem.F.type_list_append mt_append (pv 2) (pa_cons (pe_tup (pa_cons (pe_lc (own := [("at", 6)]) (g := gName 6) (tt := _) rfl sc__law_a_all.nd (pi_seq (pv 1)) (blkOk_by (own := [("at", 6)]) (N := ["rows", "asked", "found", "number", "truths", "told", "at", "row", "k"]) (sc := defScope s_law_a_all) (by decide +kernel)) (fun _ _ _ _ _ => pg_name (i := 6) sc__law_a_all.nd rfl (by first | exact Or.inl rfl | exact Or.inr rfl)) (fun _ _ _ _ _ => (pts_one (pt_cmpR op_isN (pe_df D2 hr1 pass0 (pa_cons (pv 0) (pa_cons (pv 5) (pa_cons (pv 6) pa_nil)))) pe_non (nomark _)))) (fun _ _ _ _ _ => (pe_ix (ix_K hu1) (pv 4) (pv 6) (fun _ _ => rfl)))) (pa_cons (pv 5) pa_nil))) pa_nil)))) pss_nil)))))
      (pss_one (ps_ret (pe_callB (cr_sortedB hu) (by rfl) BS (by decide +kernel) (pa_cons (pv 2) pa_nil)))))), ?_⟩
  have hlim : lim = 4000 := rfl
  have hsl := lim_lt
  have sz2 : 2 ≤ sizeLine := by decide
  obtain ⟨va, xs, rfl, eva, rs⟩ : ∃ a xs, v = .ref a ∧ H a = some (.lst xs) ∧ DrA All H xs (R.map Row.d) := by
    cases rr with
    | lst _ e r => exact ⟨_, _, rfl, e, r⟩
  refine ⟨_, rfl, va, xs, rfl, .inl eva, fun J hJ D nD => ?_⟩
  refine enum_comp Row.isAsked hJ rs nD (by omega) (fun _ _ => rfl) (fun _ _ => rfl) (fun b c H2 r Q' rb q' => ?_) fun H1 s1 eD1 => ?_
  · refine ⟨_, rfl, _, 0, _, rb, Row.seqD _, rfl, Row.word_at _, fun x0 r0 => ?_⟩
    cases r0.str_inv
    refine ⟨rfl, _, rfl, ?_⟩
    rw [Row.askedP]
    exact q'
  have eD1' : H1 D = some (.lst (vN (asks R))) := eD1
  refine ⟨(by show 0 ≤ sizeLine; decide), fun l nl => ⟨_, _, rfl, ?_⟩⟩
  have s2 := Sm.new (o := .lst []) nl
  have nlH : H l = none := s1.free nl
  have el : upd H1 l (.lst []) l = some (.lst []) := upd_same
  have eD2 := s2 _ _ eD1'
  have s02 := s1.trans s2
  have nDl : D ≠ l := ne_of_none eD1 nl
  generalize upd H1 l (.lst []) = H2 at el eD2 s02 ⊢
  clear s2 s1 eD1 eD1' hJ
  have lN : (its (.list (nums (asks R)))).length = (asks R).length := by simp [its, nums]
  refine ⟨_, rfl, .ref D, .list (nums (asks R)), rfl, .lst trivial eD2 (vints_dr _), rfl, ?_⟩
  refine ⟨_, rfl, rfl, by rw [lN]; exact Nat.le_trans hA (by decide), ?_⟩
  rw [lN]
  have e2k : (2 : Int) ^ (asks R).length = ((2 ^ (asks R).length : Nat) : Int) := by simp
  have hk10 : 2 ^ (asks R).length ≤ 1024 := Nat.le_trans (Nat.pow_le_pow_right (by decide) hA) (by decide)
  rw [e2k]
  have hp0 : (0 : Int) ≤ ((2 ^ (asks R).length : Nat) : Int) := Int.natCast_nonneg _
  have hp1 : ((2 ^ (asks R).length : Nat) : Int) ≤ 1024 := Int.ofNat_le.mpr hk10
  refine ⟨_, rfl, Int.le_trans (by decide) hp0, Int.lt_of_le_of_lt hp1 (by decide), ?_⟩
  rw [Int.toNat_natCast]
  refine for_range (n := 2 ^ (asks R).length) (fun i σ3 H3 => ∃ (x3 x4 x5 : Option V) (qs : List BP), σ3 = [some (.ref va), some (.ref D), some (.ref l), x3, x4, x5, none, none, none] ∧ Sm H H3 ∧ H3 D = some (.lst (vN (asks R))) ∧ H3 l = some (.lst (qs.map fun q => V.ref q.1)) ∧ Ens (fun b => H b = none ∧ b ≠ l) H3 qs (founds R i)) ?_ ?_ ?_
  · exact ⟨_, _, _, [], rfl, s02, eD2, el, .nil⟩
  · rintro i σ3 H3 hi ⟨x3, x4, x5, qs, rfl, s3, eD3, el3, ens⟩
    have ei : (0 : Int) + (i : Nat) = (i : Nat) := Int.zero_add _
    rw [ei]
    -- truths
    refine ⟨_, rfl, D, _, rfl, .inl eD3, fun J2 hJ2 D2 nD2 => ?_⟩
    refine bits_comp (num := i) hJ2 nD2 (by omega) (fun _ _ => rfl) (fun k at' H4 Q' q' => ?_) fun H4 Ts s4 eD4 pr => ?_
    · refine ⟨_, rfl, _, rfl, _, rfl, _, _, rfl, rfl, _, _, rfl, rfl, (by show (2 : Int) ≠ 0; decide), rfl, sz2, fun T nT => ?_⟩
      rw [bit_dec]
      exact q' T nT
    refine ⟨D2, Ts, tV (qsF i 0 (asks R)), rfl, SqL.of eD4, pairs_tV pr, fun ta nta => ?_⟩
    have mt : mergeK [] (tV (qsF i 0 (asks R))) = tV (qsF i 0 (asks R)) := by
      have := merge_tV (qsF i 0 (asks R)) [] (by rw [List.nil_append, qsF_fst]; exact asks_nd R)
      simpa [tV] using this
    rw [mt]
    have s5 := s4.trans (Sm.new (o := .dK (tV (qsF i 0 (asks R)))) nta)
    have eta : upd H4 ta (.dK (tV (qsF i 0 (asks R)))) ta = some (.dK (tV (qsF i 0 (asks R)))) := upd_same
    generalize upd H4 ta (.dK (tV (qsF i 0 (asks R)))) = H5 at s5 eta ⊢
    have trs : Trs R (qsF i 0 (asks R)) (tNum (asks R) i) := fun k hk ha => by
      rw [tV_val, tNum_some (asks_mem.mpr ⟨hk, ha⟩)]
      rfl
    have s05 := s3.trans s5
    have fsuc := founds_succ R i
    refine ⟨_, rfl, _, rfl, .ref va, ta, R, _, _, rfl, rr.sm s05, WR', hR, eta, trs, fun hn H6 s6 => ?_, fun S tl H6 hS s6 ntl etl => ?_⟩
    · have e0 : wNum R i = none := hn
      rw [e0, Option.toList_none, List.append_nil] at fsuc
      rw [← fsuc] at ens
      have s36 := s5.trans s6
      exact ⟨_, rfl, rfl, _, rfl, iteF ⟨_, _, _, qs, rfl, s3.trans s36, s36 _ _ eD3, s36 _ _ el3, ens.sm s36⟩⟩
    · have e0 : wNum R i = some S := hS
      rw [e0, Option.toList_some] at fsuc
      have s36 := s5.trans s6
      have eta6 := s6 _ _ eta
      refine ⟨_, rfl, rfl, _, rfl, ?_⟩
      rw [show (!decide (V.ref tl = V.non)) = true by simp]
      have rc := twalk_rchd (Nat.le_refl _) hS
      have hl := rc.ms_len
      refine iteT ⟨_, rfl, .inl ⟨rfl, _, SqL.of (s36 _ _ el3)⟩, _, rfl, D, _, rfl, .inl (s36 _ _ eD3), fun J3 hJ3 D3 nD3 => ?_⟩
      have lm : ∀ k ∈ asks R, k < R.length ∧ (S.ms.take k).length = k := fun k hk => by
        have := (asks_mem.mp hk).1
        exact ⟨this, by rw [List.length_take]; omega⟩
      refine chs_comp (opn R S.ms) (tNum (asks R) i) hJ3 nD3 (by omega) (fun _ => rfl) (fun k H7 Q' hk s7 q' => ?_) (fun k H7 Q' hk s7 q' => ?_) fun H7 s7 eD7 => ?_
      · obtain ⟨hkR, hkl⟩ := lm k hk
        obtain ⟨S2, h2, e2⟩ := twalk_init (Nat.le_of_lt hkR) hS
        have rc2 := twalk_rchd (Nat.le_of_lt hkR) h2
        have M2 := rc2.mw WR' hkR
        rw [e2] at M2
        have ask := (asks_mem.mp hk).2
        have s07 := (s3.trans s36).trans s7
        refine ⟨_, rfl, _, rfl, _, rfl, .ref va, .ref tl, R, S.ms.take k, by rw [hkl]; rfl, rr.sm s07, ⟨_, .lst trivial (s7 _ _ etl) (wts_dr S.ms), rfl, fun j hj => ?_⟩, M2, by omega, hR, fun r' hr' => WR'.ok r' hr', ?_, fun j hj => ?_, fun H8 s8 => ?_⟩
        · rw [wAt_take (by omega)]
          exact wts_at (by omega)
        · rw [hkl]
          exact Row.asked_keyed ask
        · rw [hkl] at hj
          exact WR'.parts_na (by omega)
        · rw [hkl]
          refine ⟨rfl, _, rfl, ?_⟩
          have := q' H8 s8
          unfold opn at this
          cases e : firstLike R (S.ms.take k) (rowAt R k) <;> rw [e] at this <;> exact this
      · refine ⟨_, rfl, _, rfl, ?_⟩
        have h1 := DGet.k (k := Sum.inl (k : Int)) (s7 _ _ eta6)
        rw [tV_val, tNum_some hk] at h1
        exact ⟨ta, _, rfl, h1, q'⟩
      · rw [← twalk_chs hS] at eD7
        have s67 := s36.trans s7
        have s37 := s3.trans s67
        have el7 := s67 _ _ el3
        have lq : qs.length ≤ i := by rw [ens.len]; exact founds_len R i
        refine ⟨_, rfl, sz2, fun p np => ⟨l, _, _, rfl, rfl, Sm.new np _ _ el7, by rw [List.length_map]; omega, ?_⟩⟩
        have sp := Sm.new (o := .tup [.ref D3, .ref tl]) np
        have ep : upd H7 p (.tup [.ref D3, .ref tl]) p = some (.tup [.ref D3, .ref tl]) := upd_same
        generalize upd H7 p (.tup [.ref D3, .ref tl]) = H8 at sp ep ⊢
        have el8 := sp _ _ el7
        have kp : ∀ b o, H8 b = some o → H b = some o → upd H8 l (.lst (qs.map (fun q => V.ref q.1) ++ [.ref p])) b = some o := fun b o e eb => by
          rw [upd_ne (ne_of_none eb nlH)]
          exact e
        have NDl : D3 ≠ l := fun z => by rw [z, s36 _ _ el3] at nD3; cases nD3
        have Ntl : tl ≠ l := fun z => by rw [z, s5 _ _ el3] at ntl; cases ntl
        refine ⟨_, _, _, qs ++ [(p, D3, .ref tl, S.ch)], rfl, fun b o e => kp b o (sp _ _ (s37 _ _ e)) e, ?_, ?_, ?_⟩
        · rw [upd_ne nDl]
          exact sp _ _ (s67 _ _ eD3)
        · rw [upd_same]
          simp
        · rw [fsuc]
          refine Ens.snoc ?_ ((ens.sm (s67.trans sp)).upd (fun b h => h.2) ⟨_, el8⟩)
          exact EnA.upd ⟨rfl, ep, sp _ _ eD7, ⟨(s3.trans s36).free nD3, NDl⟩, tl, rfl, sp _ _ (s7 _ _ etl), ⟨s05.free ntl, Ntl⟩⟩ (fun b h => h.2) ⟨_, el8⟩
  · rintro σ3 H3 ⟨x3, x4, x5, qs, rfl, s3, eD3, el3, ens⟩
    have hnd := founds_nd (R := R) (n := 2 ^ (asks R).length) (Nat.le_refl _)
    have hin := ens.inj (fun x hx y hy e => allW_inj (founds_mem hx) (founds_mem hy) e) hnd
    refine ⟨_, rfl, l, qs, rfl, el3, fun q' hq' => ?_, hin, fun qs' p hp hs np => ?_⟩
    · obtain ⟨S, _, a⟩ := ens.mem q' hq'
      exact ⟨a.2.1, by rw [a.1]; exact a.2.2.1⟩
    · obtain ⟨L', hL', ens'⟩ := ens.perm hp
      have eL := sorted_allW (hL'.trans (founds_perm WR')) (ens'.sorted hs)
      rw [eL] at ens'
      have sp := Sm.new (o := .lst (qs'.map fun q => V.ref q.1)) np
      exact q p _ (s3.trans sp) (.lst (s3.free np) upd_same (((ens'.sm sp).imp fun b h => h.1).dr))
end
end K8

/-! _law_a_row. -/
namespace K8
open PySem PySem.Spec PyProof.Rows L2 WR
def dFG : List PyData := [.str "f", .str "g"]
def dTTU : List PyData := [.str "t", .str "t", .str "u"]
def dFFGH : List PyData := [.str "f", .str "f", .str "g", .str "h"]
theorem dFG_ok : ∀ e ∈ dFG, ∃ x : Str, e = .str x ∧ isName (.str x) = true := by
  intro e he
  simp only [dFG, List.mem_cons, List.not_mem_nil, or_false] at he
  rcases he with rfl | rfl <;> exact ⟨_, rfl, by decide +kernel⟩
theorem dTTU_ok : ∀ e ∈ dTTU, ∃ x : Str, e = .str x ∧ isName (.str x) = true := by
  intro e he
  simp only [dTTU, List.mem_cons, List.not_mem_nil, or_false] at he
  rcases he with rfl | rfl | rfl <;> exact ⟨_, rfl, by decide +kernel⟩
theorem dFFGH_ok : ∀ e ∈ dFFGH, ∃ x : Str, e = .str x ∧ isName (.str x) = true := by
  intro e he
  simp only [dFFGH, List.mem_cons, List.not_mem_nil, or_false] at he
  rcases he with rfl | rfl | rfl | rfl <;> exact ⟨_, rfl, by decide +kernel⟩
abbrev spARow : Sp := fun vs H Q _ => ∃ (w : Addr) (n : Nat) (v : V) (R : List Row), vs = [.ref w, v, .int (4 : Nat)] ∧ Wl H w n ∧ n + 5000 < top0 ∧ Dr (Ne w) H v (rowsD R) ∧ R.length ≤ 40 ∧
  ∀ (r : Row) u H', r.ok → r.small → why R r = none → (r.isAsked = true → (asks R).length < 4) → Gw w H H' → Wl H' w (n + 60) → Dr No H' u r.d → Q u H'
section
variable {P : Program} {w : World} {K : PySem.W.Frag} {mg : Str → Option Value} {base : Heap}
theorem sc__law_a_row : FnScope ["stream", "rows", "tests", "parts", "asked", "way", "first", "needs", "two", "at", "row", "k"] ["stream", "rows", "tests"] (defScope s_law_a_row) := ⟨rfl, rfl, rfl, by decide +kernel, rfl, by decide +kernel, by decide +kernel⟩
theorem ok__law_a_row (B : Bt mg) (F : Fn K mg d_law_a_row) (D1 : Df P w K mg base CX0 1 "_law_draw" ["stream", "many"] spDraw) (D2 : Df P w K mg base CX0 2 "_law_pick" ["stream", "things"] spPick) (D3 : Df P w K mg base CX0 2 "_law_mixed" ["stream", "things"] spMixed) :
    Df P w K mg base CX0 3 "_law_a_row" ["stream", "rows", "tests"] spARow := by
  obtain ⟨f, fd, hm, F⟩ := F
  refine ⟨f, fd, hm, F.kp, F.bindsN fun _ _ _ _ _ _ us hl => match us, hl with | [_, _, _], _ => rfl, ?_⟩
  refine F.ok sc__law_a_row (fun vs H Q E h => by obtain ⟨w, n, v, R, rfl, _⟩ := h; rfl) (fun cdv A outer s H vs Q E hr h => ?_)
  obtain ⟨wa, n, v, R, rfl, hw, hn, rd, hR, q⟩ := h
  have hr1 := hr.mono (show 1 ≤ 2 by decide)
  have hu := hr.units
  refine ⟨_, PSs.nox (pss_cons (ps_set (i := 3) sc__law_a_row.nd rfl (by first | exact Or.inl rfl | exact Or.inr rfl) (pe_lc (own := [("at", 9), ("row", 10)]) (g := gTup K 2 (gCons (gName 9) (gCons (gName 10) gNil))) (tt := _) rfl sc__law_a_row.nd (pi_enS B.enumerate (pa_cons (pv 1) pa_nil)) (blkOk_by (own := [("at", 9), ("row", 10)]) (N := ["stream", "rows", "tests", "parts", "asked", "way", "first", "needs", "two", "at", "row", "k"]) (sc := defScope s_law_a_row) (by decide +kernel)) (fun _ _ _ _ _ => pg_tup rfl (pgs_cons (pg_name (i := 9) sc__law_a_row.nd rfl (by first | exact Or.inl rfl | exact Or.inr rfl)) (pgs_cons (pg_name (i := 10) sc__law_a_row.nd rfl (by first | exact Or.inl rfl | exact Or.inr rfl)) pgs_nil))) (fun _ _ _ _ _ => (pts_one (pt_cmpR op_ne (pe_ix ix_D (pv 10) pe_int (fun _ _ => rfl)) pe_str (nomark _)))) (fun _ _ _ _ _ => (pv 9))))
      (pss_cons (ps_setLc (i := 4) (own := [("at", 9), ("row", 10)]) (g := gTup K 2 (gCons (gName 9) (gCons (gName 10) gNil))) (tt := _) rfl sc__law_a_row.nd rfl rfl (sw_true rfl rfl rfl (by decide +kernel)) (pi_enS B.enumerate (pa_cons (pv 1) pa_nil)) (blkOk_by (own := [("at", 9), ("row", 10)]) (N := ["stream", "rows", "tests", "parts", "asked", "way", "first", "needs", "two", "at", "row", "k"]) (sc := defScope s_law_a_row) (by decide +kernel)) (fun _ _ _ _ _ => pg_tup rfl (pgs_cons (pg_name (i := 9) sc__law_a_row.nd rfl (by first | exact Or.inl rfl | exact Or.inr rfl)) (pgs_cons (pg_name (i := 10) sc__law_a_row.nd rfl (by first | exact Or.inl rfl | exact Or.inr rfl)) pgs_nil))) (fun _ _ _ _ _ => (pts_one (pt_cmpR op_eq (pe_ix ix_D (pv 10) pe_int (fun _ _ => rfl)) pe_str (nomark _)))) (fun _ _ _ _ _ => (pv 9)))
      (pss_cons (ps_set (i := 5) sc__law_a_row.nd rfl (by first | exact Or.inl rfl | exact Or.inr rfl) (pe_df D1 hr1 pass0 (pa_cons (pv 0) (pa_cons pe_int pa_nil))))
      (C8.pss_cut (ps_if (PW.pt (pw_or (pt_cmpR (op_eqDr hu) (pv 3) (pe_lst pa_nil) (nomark _)) (pw_or1 (pt_cmpR op_eq (pv 5) pe_int (nomark _))))) (pss_cons (ps_set (i := 6) sc__law_a_row.nd rfl (by first | exact Or.inl rfl | exact Or.inr rfl) (pe_tup (pa_cons pe_str (pa_cons (pe_df D2 hr pass0 (pa_cons (pv 0) (pa_cons (pe_lst (pa_cons pe_str (pa_cons pe_str pa_nil))) pa_nil))) (pa_cons (pe_tup pa_nil) pa_nil)))))
      (pss_one (ps_ret (pe_ifExp (pt_cmpR op_gt (pe_df D1 hr1 pass0 (pa_cons (pv 0) (pa_cons pe_int pa_nil))) pe_int (nomark _)) (pv 6) (pe_tup (pa_cons pe_str (pa_cons (pe_df D1 hr1 pass0 (pa_cons (pv 0) (pa_cons pe_int pa_nil))) pa_nil))))))) pss_nil)
      (C8.pss_cut (ps_if (PW.pt (pw_and (pt_cmpR op_lt (pv 5) pe_int (nomark _)) (pw_and (pt_cmpR op_gt (pv 5) pe_int (nomark _)) (pw_and1 (pt_cmpR op_lt (pe_callB call_lenS (by rfl) B.len (by decide +kernel) (pa_cons (pv 4) pa_nil)) (pv 2) (nomark _)))))) (pss_cons (ps_setLc (i := 7) (own := [("k", 11)]) (g := gName 11) (tt := tYes) rfl sc__law_a_row.nd rfl rfl (sw_true rfl rfl rfl (by decide +kernel)) (pi_range1 rfl B.range (pa_cons (pe_df D1 hr1 pass0 (pa_cons (pv 0) (pa_cons pe_int pa_nil))) pa_nil)) (blkOk_by (own := [("k", 11)]) (N := ["stream", "rows", "tests", "parts", "asked", "way", "first", "needs", "two", "at", "row", "k"]) (sc := defScope s_law_a_row) (by decide +kernel)) (fun _ _ _ _ _ => pg_name (i := 11) sc__law_a_row.nd rfl (by first | exact Or.inl rfl | exact Or.inr rfl)) (fun _ _ _ _ _ => pts_nil) (fun _ _ _ _ _ => (pe_df D2 hr pass0 (pa_cons (pv 0) (pa_cons (pv 3) pa_nil)))))
      (pss_one (ps_ret (pe_tup (pa_cons pe_str (pa_cons (pe_df D2 hr pass0 (pa_cons (pv 0) (pa_cons (pe_lst (pa_cons pe_str (pa_cons pe_str (pa_cons pe_str pa_nil)))) pa_nil))) (pa_cons (pe_callTy call_tupD (by rfl) B.tuple (by decide +kernel) (pa_cons (pv 7) pa_nil)) pa_nil))))))) pss_nil)
      (C8.pss_cut (ps_if (PW.pt (pw_and (pt_cmpR op_gt (pv 5) pe_int (nomark _)) (pw_and (pt_cmpR (op_neDr hu) (pv 4) (pe_lst pa_nil) (nomark _)) (pw_and1 (pt_cmpR op_gt (pe_callB call_lenS (by rfl) B.len (by decide +kernel) (pa_cons (pv 3) pa_nil)) pe_int (nomark _)))))) (pss_cons (ps_set (i := 8) sc__law_a_row.nd rfl (by first | exact Or.inl rfl | exact Or.inr rfl) (pe_slice (sl_N (Ne wa)) (pe_df D3 hr pass0 (pa_cons (pv 0) (pa_cons (pv 3) pa_nil))) po_none (po_some pe_int)))
      (pss_one (ps_ret (pe_tup (pa_cons pe_str (pa_cons (pe_df D2 hr pass0 (pa_cons (pv 0) (pa_cons (pv 4) pa_nil))) (pa_cons (pe_ix ix_D (pv 8) pe_int (fun _ _ => rfl)) (pa_cons (pe_ix ix_D (pv 8) pe_int (fun _ _ => rfl)) pa_nil)))))))) pss_nil)
      (pss_cons (ps_setLc (i := 7) (own := [("k", 11)]) (g := gName 11) (tt := tYes) rfl sc__law_a_row.nd rfl rfl (sw_true rfl rfl rfl (by decide +kernel)) (pi_range1 rfl B.range (pa_cons (pe_op op_add pe_int (pe_df D1 hr1 pass0 (pa_cons (pv 0) (pa_cons pe_int pa_nil)))) pa_nil)) (blkOk_by (own := [("k", 11)]) (N := ["stream", "rows", "tests", "parts", "asked", "way", "first", "needs", "two", "at", "row", "k"]) (sc := defScope s_law_a_row) (by decide +kernel)) (fun _ _ _ _ _ => pg_name (i := 11) sc__law_a_row.nd rfl (by first | exact Or.inl rfl | exact Or.inr rfl)) (fun _ _ _ _ _ => pts_nil) (fun _ _ _ _ _ => (pe_df D2 hr pass0 (pa_cons (pv 0) (pa_cons (pv 3) pa_nil)))))
      (pss_one (ps_ret (pe_tup (pa_cons pe_str (pa_cons (pe_df D2 hr pass0 (pa_cons (pv 0) (pa_cons (pe_lst (pa_cons pe_str (pa_cons pe_str (pa_cons pe_str (pa_cons pe_str pa_nil))))) pa_nil))) (pa_cons (pe_callTy call_tupD (by rfl) B.tuple (by decide +kernel) (pa_cons (pv 7) pa_nil)) pa_nil))))))))))))), ?_⟩
  have hsl := lim_lt
  have htop : top0 = 1000000000000 := rfl
  have hlim : lim = 4000 := rfl
  -- parts
  obtain ⟨a, xs, rfl, hq, rs⟩ := rd.seq rfl
  refine ⟨_, rfl, a, xs, rfl, hq, fun J hJ l1 nl1 => ?_⟩
  refine enum_comp isPa hJ rs.all nl1 (by omega) (fun _ _ => rfl) (fun _ _ => rfl) (fun b c H2 r Q' rb q' => ?_) fun H1 s1 el1 => ?_
  · refine ⟨_, rfl, _, 0, _, rb, Row.seqD _, rfl, Row.word_at _, fun x0 r0 => ?_⟩
    cases r0.str_inv
    refine ⟨rfl, _, rfl, ?_⟩
    rw [Row.askedW]
    exact q'
  -- asked
  obtain ⟨xs1, hq1, rs1⟩ : ∃ xs1, Sq H1 a xs1 ∧ DrA (Ne wa) H1 xs1 (R.map Row.d) := ⟨xs, hq.imp (fun z => s1 _ _ z) (fun z => s1 _ _ z), rs.sm s1⟩
  refine ⟨_, rfl, a, xs1, rfl, hq1, fun J1 hJ1 D nD => ?_⟩
  refine enum_comp Row.isAsked hJ1 rs1.all nD (by omega) (fun _ _ => rfl) (fun _ _ => rfl) (fun b c H2 r Q' rb q' => ?_) fun H3 s2 eD3 => ?_
  · refine ⟨_, rfl, _, 0, _, rb, Row.seqD _, rfl, Row.word_at _, fun x0 r0 => ?_⟩
    cases r0.str_inv
    refine ⟨rfl, _, rfl, ?_⟩
    rw [Row.askedP]
    exact q'
  have s3 : Sm H H3 := s1.trans s2
  have el3 : H3 l1 = some (.lst ((atP isPa R 0).map fun (k : Nat) => V.int (k : Int))) := s2 _ _ el1
  have nl1w : l1 ≠ wa := hw.ne nl1
  have nDw : D ≠ wa := hw.ne (s1.free nD)
  have hP := atP_len (p := isPa) R 0
  have hA := atP_len (p := Row.isAsked) R 0
  have pok : ∀ k ∈ atP isPa R 0, isPart R k = true ∧ k < R.length := fun k h => part_ok h
  have aok : ∀ k ∈ atP Row.isAsked R 0, (rowAt R k).isAsked = true ∧ k < R.length := fun k h => asked_ok h
  have pnd := atP_nodup (p := isPa) R 0
  unfold asks at q
  generalize atP isPa R 0 = ps at el3 hP pok pnd
  generalize atP Row.isAsked R 0 = as at eD3 hA aok q
  have lps : (its (.list (nums ps))).length = ps.length := by simp [its, nums]
  have las : (its (.list (nums as))).length = as.length := by simp [its, nums]
  -- way
  refine ⟨_, rfl, wa, 12, n, rfl, by decide, by decide, hw.sm s3, by omega, fun way H4 hway g4 hw4 => ?_⟩
  have g4' : Gw wa H H4 := (Gw.of s3).trans g4
  have el4 := g4 l1 _ nl1w el3
  have eD4 := g4 D _ nDw eD3
  have rp : ∀ {H'}, Gw wa H4 H' → Dr (Ne wa) H' (.ref l1) (.list (nums ps)) := fun g => .lst nl1w (g l1 _ nl1w el4) (vints_dr _)
  have ra : ∀ {H'}, Gw wa H4 H' → Dr (Ne wa) H' (.ref D) (.list (nums as)) := fun g => .lst nDw (g D _ nDw eD4) (vints_dr _)
  have oNe : Off wa (Ne wa) := fun b h => h
  have fin : ∀ (r : Row) u H', r.ok → r.small → why R r = none → (r.isAsked = true → as.length < 4) → Gw wa H4 H' → Wl H' wa (n + 60) → Dr No H' u r.d → Q u H' := fun r u H' h1 h0 h2 h5 g h3 h4 => q r u H' h1 h0 h2 h5 (g4'.trans g) h3 h4
  -- if parts == [] or way == 0
  refine ⟨fun σ' H' => σ' = [some (.ref wa), some (.ref a), some (.int (4 : Nat)), some (.ref l1), some (.ref D), some (.int (way : Nat)), none, none, none, none, none, none] ∧ Sm H4 H' ∧ ps ≠ [], ?_, ?_⟩
  · refine ⟨_, rfl, (by show 0 ≤ sizeLine; decide), fun p np => ?_⟩
    have sp : Sm H4 (upd H4 p (.lst [])) := Sm.new np
    refine ⟨.list (nums ps), .list [], (rp (Gw.of sp)).all, .lst trivial upd_same .nil, nums_eqOk _, nums_eqOk [], _, rfl, ?_⟩
    rw [show PyData.eqv (.list (nums ps)) (.list []) = decide (ps = []) by rw [PyData.eqv]; exact eqv_nums ps []]
    have hw5 := hw4.sm sp
    generalize upd H4 p (.lst []) = H5 at sp hw5 ⊢
    refine ite2 (fun hz => iteT ?_) (fun hz => ⟨_, rfl, rfl, _, rfl, ite2 (fun h0 => ?_) (fun h0 => ⟨rfl, sp, fun z => hz (decide_eq_true z)⟩)⟩)
    · refine ⟨_, rfl, (by show 2 ≤ sizeLine; decide), fun p2 np2 => ?_⟩
      have np2w : p2 ≠ wa := hw5.ne np2
      refine ⟨wa, n + 1, Ne wa, .ref p2, .list dFG, rfl, oNe, hw5.sm (Sm.new np2), by omega, .lst np2w upd_same (.cons (.str _) (.one (.str _))), rfl, (fun z => by cases z), (by show 2 ≤ lim; decide), fun e he u H6 g6 hw6 ru => ?_⟩
      obtain ⟨nm, rfl, hnm⟩ := dFG_ok e he
      cases ru.str_inv
      have g56 := ((Gw.of sp).trans (Gw.of (Sm.new np2))).trans g6
      refine ⟨(by show 0 ≤ sizeLine; decide), fun t0 nt0 => ⟨(by show 3 ≤ sizeLine; decide), fun t nt => ?_⟩⟩
      have s0 := (Sm.new (o := .tup []) nt0)
      have ro : Dr No (upd (upd H6 t0 (.tup [])) t (.tup [.str "made", .str nm, .ref t0])) (.ref t) (Row.made nm []).d := .tup upd_same (.cons (.str _) (.cons (.str _) (.one (.tup ((Sm.new nt) _ _ upd_same) .nil))))
      have s6 : Sm H6 (upd (upd H6 t0 (.tup [])) t (.tup [.str "made", .str nm, .ref t0])) := s0.trans (Sm.new nt)
      generalize upd (upd H6 t0 (.tup [])) t (.tup [.str "made", .str nm, .ref t0]) = H7 at ro s6 ⊢
      have hw7 := hw6.sm s6
      have g57 := g56.trans (Gw.of s6)
      refine ⟨_, rfl, wa, 4, n + 1 + 1, rfl, by decide, by decide, hw7, by omega, fun kk H8 hk g8 hw8 => ⟨_, _, rfl, rfl, _, rfl, ite2 (fun _ => ⟨_, rfl, ?_⟩) (fun _ => ?_)⟩⟩
      · exact fin (.made nm []) _ _ ⟨hnm, by show 0 ≤ lim; decide⟩ ⟨by show 0 ≤ 3; decide, (fun _ h => nomatch h)⟩ (why_parts (n := nm) (ks := []) (fun _ h => nomatch h)).1 (fun z => nomatch z) (g57.trans g8) (hw8.mono (by omega)) (ro.gn (fun _ z => z.elim) hw7 g8)
      · refine ⟨_, rfl, wa, 3, n + 1 + 1 + 1, rfl, by decide, by decide, hw8, by omega, fun k H9 hk g9 hw9 => ⟨(by show 2 ≤ sizeLine; decide), fun t2 nt2 => ?_⟩⟩
        refine fin (.given k) _ _ trivial (by show k ≤ 100; omega) rfl (fun z => nomatch z) (((g57.trans g8).trans g9).trans (Gw.of (Sm.new nt2))) ((hw9.sm (Sm.new nt2)).mono (by omega)) ?_
        exact .tup upd_same (.cons (.str _) (.one (.int _)))
    · refine ⟨_, rfl, (by show 2 ≤ sizeLine; decide), fun p2 np2 => ?_⟩
      have np2w : p2 ≠ wa := hw5.ne np2
      refine ⟨wa, n + 1, Ne wa, .ref p2, .list dFG, rfl, oNe, hw5.sm (Sm.new np2), by omega, .lst np2w upd_same (.cons (.str _) (.one (.str _))), rfl, (fun z => by cases z), (by show 2 ≤ lim; decide), fun e he u H6 g6 hw6 ru => ?_⟩
      obtain ⟨nm, rfl, hnm⟩ := dFG_ok e he
      cases ru.str_inv
      have g56 := ((Gw.of sp).trans (Gw.of (Sm.new np2))).trans g6
      refine ⟨(by show 0 ≤ sizeLine; decide), fun t0 nt0 => ⟨(by show 3 ≤ sizeLine; decide), fun t nt => ?_⟩⟩
      have s0 := (Sm.new (o := .tup []) nt0)
      have ro : Dr No (upd (upd H6 t0 (.tup [])) t (.tup [.str "made", .str nm, .ref t0])) (.ref t) (Row.made nm []).d := .tup upd_same (.cons (.str _) (.cons (.str _) (.one (.tup ((Sm.new nt) _ _ upd_same) .nil))))
      have s6 : Sm H6 (upd (upd H6 t0 (.tup [])) t (.tup [.str "made", .str nm, .ref t0])) := s0.trans (Sm.new nt)
      generalize upd (upd H6 t0 (.tup [])) t (.tup [.str "made", .str nm, .ref t0]) = H7 at ro s6 ⊢
      have hw7 := hw6.sm s6
      have g57 := g56.trans (Gw.of s6)
      refine ⟨_, rfl, wa, 4, n + 1 + 1, rfl, by decide, by decide, hw7, by omega, fun kk H8 hk g8 hw8 => ⟨_, _, rfl, rfl, _, rfl, ite2 (fun _ => ⟨_, rfl, ?_⟩) (fun _ => ?_)⟩⟩
      · exact fin (.made nm []) _ _ ⟨hnm, by show 0 ≤ lim; decide⟩ ⟨by show 0 ≤ 3; decide, (fun _ h => nomatch h)⟩ (why_parts (n := nm) (ks := []) (fun _ h => nomatch h)).1 (fun z => nomatch z) (g57.trans g8) (hw8.mono (by omega)) (ro.gn (fun _ z => z.elim) hw7 g8)
      · refine ⟨_, rfl, wa, 3, n + 1 + 1 + 1, rfl, by decide, by decide, hw8, by omega, fun k H9 hk g9 hw9 => ⟨(by show 2 ≤ sizeLine; decide), fun t2 nt2 => ?_⟩⟩
        refine fin (.given k) _ _ trivial (by show k ≤ 100; omega) rfl (fun z => nomatch z) (((g57.trans g8).trans g9).trans (Gw.of (Sm.new nt2))) ((hw9.sm (Sm.new nt2)).mono (by omega)) ?_
        exact .tup upd_same (.cons (.str _) (.one (.int _)))
  rintro σ' H' ⟨rfl, s4, hps⟩
  have hw4' := hw4.sm s4
  have hps' : its (.list (nums ps)) ≠ [] := fun z => hps (by cases ps with | nil => rfl | cons _ _ => cases z)
  -- if way < 8 and way > 4 and len(asked) < tests
  refine ⟨fun σ' H5 => σ' = [some (.ref wa), some (.ref a), some (.int (4 : Nat)), some (.ref l1), some (.ref D), some (.int (way : Nat)), none, none, none, none, none, none] ∧ H5 = H', ?_, ?_⟩
  · refine ⟨_, rfl, _, _, rfl, rfl, _, rfl, ite2 (fun _ => ?_) (fun _ => iteF ⟨rfl, rfl⟩)⟩
    refine ⟨_, rfl, _, _, rfl, rfl, _, rfl, ite2 (fun _ => ?_) (fun _ => iteF ⟨rfl, rfl⟩)⟩
    refine ⟨_, rfl, .ref D, _, rfl, (ra (Gw.of s4)).all, rfl, ?_⟩
    rw [las]
    refine ⟨_, rfl, _, _, rfl, rfl, _, rfl, ite2 (fun h4 => ?_) (fun _ => ⟨rfl, rfl⟩)⟩
    have h4' : as.length < 4 := by
      have := of_decide_eq_true h4
      omega
    refine ⟨_, rfl, wa, 3, n + 1, rfl, by decide, by decide, hw4', by omega, fun many H8 hmany g8' hw8 => ?_⟩
    have g8 := (Gw.of s4).trans g8'
    refine ⟨_, rfl, by omega, by omega, fun D8 nD8 => ?_⟩
    rw [Int.toNat_natCast]
    refine lc_w (c := 1) (n := n + 1 + 1) (N := No) (fun _ e => ∃ k : Nat, e = .int (k : Int) ∧ k ∈ ps) (WalkW.range (w := wa) (N := No) (lo := 0)) nD8 hw8 (fun b z => z.elim) (by simp; omega) (fun _ => rfl) (fun x d' j H9 Q' hd' g9 hw9 rx q' _ => ?_) (fun H9 ys es g9 hw9 eD9 ry al => ?_)
    · have hj : j < many := by
        have := (List.getElem?_eq_some_iff.mp hd').1
        simpa using this
      refine ⟨_, rfl, _, rfl, wa, _, Ne wa, .ref l1, .list (nums ps), rfl, oNe, hw9, by omega, rp (g8.trans g9), rfl, hps', by rw [lps]; omega, fun e he u H10 g10 hw10 ru => ?_⟩
      obtain ⟨k, hk, rfl⟩ := List.mem_map.mp he
      cases ru.int_inv
      exact q' _ (.int (k : Int)) _ g10 (by rw [Nat.one_mul] at hw10 ⊢; exact hw10) (.int _) ⟨k, rfl, hk⟩
    obtain ⟨ks, rfl, hks⟩ := nums_back (p := fun k => k ∈ ps) (es := es) fun e he => by
      obtain ⟨_, _, h⟩ := al.mem e he
      exact h
    have lks : ks.length = many := by
      have := al.len
      simpa [nums] using this
    have lr : ((List.range (many)).map fun (k : Nat) => PyData.int (0 + (k : Int))).length = many := by simp
    rw [lr, Nat.one_mul] at hw9
    have lk : ks.length ≤ lim := by omega
    have sm3 : ks.length ≤ 3 ∧ ∀ k ∈ ks, k ≤ 100 := ⟨by omega, fun k hk => by have := (pok k (hks k hk)).2; omega⟩
    have nD8w : D8 ≠ wa := hw8.ne nD8
    have g9' := g8.trans g9
    refine ⟨_, rfl, (by show 3 ≤ sizeLine; decide), fun p np => ?_⟩
    have npw : p ≠ wa := hw9.ne np
    refine ⟨wa, _, Ne wa, .ref p, .list dTTU, rfl, oNe, hw9.sm (Sm.new np), by omega, .lst npw upd_same (.cons (.str _) (.cons (.str _) (.one (.str _)))), rfl, (fun z => by cases z), (by show 3 ≤ lim; decide), fun e he u' H11 g11 hw11 ru => ?_⟩
    obtain ⟨nm, rfl, hnm⟩ := dTTU_ok e he
    cases ru.str_inv
    have g911 := (Gw.of (Sm.new np)).trans g11
    have rD : Dr (Ne wa) H11 (.ref D8) (.list (nums ks)) := .lst nD8w (g911 D8 _ nD8w eD9) (by rw [dra_nums ry]; exact vints_dr _)
    refine ⟨_, rfl, _, .list (nums ks), rfl, rD.all, rfl, fun u H12 s12 r12 => ⟨(by show 3 ≤ sizeLine; decide), fun t nt => ?_⟩⟩
    have r12' : Dr No H12 u (.tuple (nums ks)) := r12.fz (by simp only [WR.fz]; exact fz_nums ks)
    refine fin (.asked nm ks) _ _ ⟨hnm, lk⟩ sm3 (why_parts (n := nm) fun k hk => pok k (hks k hk)).2 (fun _ => h4') (((g9'.trans g911).trans (Gw.of s12)).trans (Gw.of (Sm.new nt))) (((hw11.sm s12).sm (Sm.new nt)).mono (by omega)) ?_
    exact .tup upd_same (.cons (.str _) (.cons (.str _) (.one (r12'.sm (Sm.new nt)))))
  rintro σ' H5 ⟨rfl, rfl⟩
  -- if way > 4 and asked != [] and len(parts) > 1
  refine ⟨fun σ' H6 => σ' = [some (.ref wa), some (.ref a), some (.int (4 : Nat)), some (.ref l1), some (.ref D), some (.int (way : Nat)), none, none, none, none, none, none] ∧ Sm H5 H6, ?_, ?_⟩
  · refine ⟨_, rfl, _, _, rfl, rfl, _, rfl, ite2 (fun _ => ?_) (fun _ => iteF ⟨rfl, Sm.rfl'⟩)⟩
    refine ⟨_, rfl, (by show 0 ≤ sizeLine; decide), fun p np => ?_⟩
    have sp : Sm H5 (upd H5 p (.lst [])) := Sm.new np
    refine ⟨.list (nums as), .list [], (ra (Gw.of (s4.trans sp))).all, .lst trivial upd_same .nil, nums_eqOk _, nums_eqOk [], _, rfl, ?_⟩
    rw [show PyData.eqv (.list (nums as)) (.list []) = decide (as = []) by rw [PyData.eqv]; exact eqv_nums as []]
    refine ite2 (fun ha => ?_) (fun _ => iteF ⟨rfl, sp⟩)
    have has : as ≠ [] := by
      intro z
      rw [z] at ha
      exact absurd ha (by decide)
    generalize upd H5 p (.lst []) = H6 at sp
    refine ⟨_, rfl, .ref l1, _, rfl, (rp (Gw.of (s4.trans sp))).all, rfl, ?_⟩
    rw [lps]
    refine ⟨_, _, rfl, rfl, _, rfl, ite2 (fun h2 => ?_) (fun _ => ⟨rfl, sp⟩)⟩
    have hp2 : 2 ≤ ps.length := by
      have := of_decide_eq_true h2
      omega
    -- two
    have hw5 := hw4'.sm sp
    refine ⟨_, rfl, _, rfl, wa, n + 1, Ne wa, .ref l1, .list (nums ps), rfl, oNe, hw5, by omega, rp (Gw.of (s4.trans sp)), rfl, by rw [lps]; omega, fun l2 ys es H6 nl2 pm g6 hw6 el6 ry => ?_⟩
    have nl2w : l2 ≠ wa := hw5.ne nl2
    have g6' := (Gw.of (s4.trans sp)).trans g6
    rw [lps] at hw6
    refine ⟨_, rfl, .list es, .lst nl2w el6 ry, rfl, fun v7 H7 s7 r7 => ?_⟩
    have ces : cutA es none (some 2) = es.take 2 := cutA_to es 2
    rw [show its (.list es) = es from rfl, ces] at r7
    have les : es.length = ps.length := by rw [pm.length_eq]; simp [its, nums]
    match hes : es, les with
    | [], e => simp at e; omega
    | [_], e => simp at e; omega
    | e0 :: e1 :: rest, _ =>
    have hnd : (e0 :: e1 :: rest).Nodup := (pm.nodup_iff).mpr (nums_nd pnd)
    have m0 : e0 ∈ nums ps := pm.mem_iff.mp (List.mem_cons_self ..)
    have m1 : e1 ∈ nums ps := pm.mem_iff.mp (List.mem_cons_of_mem _ (List.mem_cons_self ..))
    obtain ⟨k0, hk0, rfl⟩ := List.mem_map.mp m0
    obtain ⟨k1, hk1, rfl⟩ := List.mem_map.mp m1
    have hk01 : k0 ≠ k1 := fun z => by
      rw [z] at hnd
      exact (List.nodup_cons.mp hnd).1 (List.mem_cons_self ..)
    have hw7 := hw6.sm s7
    have g7 := g6'.trans (Gw.of s7)
    have r7' : Dr (Ne wa) H7 v7 (.list [.int (k0 : Int), .int (k1 : Int)]) := r7.wide fun b z => z.elim id fun y => hw6.ne y
    refine ⟨_, rfl, _, rfl, wa, _, Ne wa, .ref D, .list (nums as), rfl, oNe, hw7, by omega, ra g7, rfl, (fun z => has (by cases as with | nil => rfl | cons _ _ => cases z)), by rw [las]; omega, fun e he u H8 g8 hw8 ru => ?_⟩
    obtain ⟨ka, hka, rfl⟩ := List.mem_map.mp he
    cases ru.int_inv
    have r8 : Dr (Ne wa) H8 v7 (.list [.int (k0 : Int), .int (k1 : Int)]) := r7'.gn oNe hw7 g8
    refine ⟨_, rfl, _, 0, _, r8.all, rfl, rfl, rfl, fun x0 r0 => ?_⟩
    cases r0.int_inv
    refine ⟨_, rfl, _, 1, _, r8.all, rfl, rfl, rfl, fun x1 r1 => ?_⟩
    cases r1.int_inv
    refine ⟨(by show 4 ≤ sizeLine; decide), fun t nt => ?_⟩
    refine fin (.either ka k0 k1) _ _ trivial ⟨by have := (aok ka hka).2; omega, by have := (pok k0 hk0).2; omega, by have := (pok k1 hk1).2; omega⟩ (why_either (aok ka hka) (pok k0 hk0) (pok k1 hk1) hk01) (fun z => nomatch z) ((g7.trans g8).trans (Gw.of (Sm.new nt))) ((hw8.sm (Sm.new nt)).mono (by omega)) ?_
    exact .tup upd_same (.cons (.str _) (.cons (.int _) (.cons (.int _) (.one (.int _)))))
  rintro σ' H6 ⟨rfl, s5⟩
  refine ⟨_, rfl, wa, 2, n + 1, rfl, by decide, by decide, hw4'.sm s5, by omega, fun kk H8 hkk g8' hw8 => ?_⟩
  have g8 := (Gw.of (s4.trans s5)).trans g8'
  refine ⟨_, _, rfl, rfl, ?_⟩
  refine ⟨((1 + kk : Nat) : Int), (by show [V.int ((1 : Int) + (kk : Int))] = _; rw [Int.natCast_add]; rfl), by omega, by omega, fun D8 nD8 => ?_⟩
  rw [Int.toNat_natCast]
  refine lc_w (c := 1) (n := n + 1 + 1) (N := No) (fun _ e => ∃ k : Nat, e = .int (k : Int) ∧ k ∈ ps) (WalkW.range (w := wa) (N := No) (lo := 0)) nD8 hw8 (fun b z => z.elim) (by simp; omega) (fun _ => rfl) (fun x d' j H9 Q' hd' g9 hw9 rx q' _ => ?_) (fun H9 ys es g9 hw9 eD9 ry al => ?_)
  · have hj : j < 1 + kk := by
      have := (List.getElem?_eq_some_iff.mp hd').1
      simpa using this
    refine ⟨_, rfl, _, rfl, wa, _, Ne wa, .ref l1, .list (nums ps), rfl, oNe, hw9, by omega, rp (g8.trans g9), rfl, hps', by rw [lps]; omega, fun e he u H10 g10 hw10 ru => ?_⟩
    obtain ⟨k, hk, rfl⟩ := List.mem_map.mp he
    cases ru.int_inv
    exact q' _ (.int (k : Int)) _ g10 (by rw [Nat.one_mul] at hw10 ⊢; exact hw10) (.int _) ⟨k, rfl, hk⟩
  obtain ⟨ks, rfl, hks⟩ := nums_back (p := fun k => k ∈ ps) (es := es) fun e he => by
    obtain ⟨_, _, h⟩ := al.mem e he
    exact h
  have lks : ks.length = 1 + kk := by
    have := al.len
    simpa [nums] using this
  have lr : ((List.range (1 + kk)).map fun (k : Nat) => PyData.int (0 + (k : Int))).length = 1 + kk := by simp
  rw [lr, Nat.one_mul] at hw9
  have lk : ks.length ≤ lim := by omega
  have sm3 : ks.length ≤ 3 ∧ ∀ k ∈ ks, k ≤ 100 := ⟨by omega, fun k hk => by have := (pok k (hks k hk)).2; omega⟩
  have nD8w : D8 ≠ wa := hw8.ne nD8
  have g9' := g8.trans g9
  refine ⟨_, rfl, (by show 4 ≤ sizeLine; decide), fun p np => ?_⟩
  have npw : p ≠ wa := hw9.ne np
  refine ⟨wa, _, Ne wa, .ref p, .list dFFGH, rfl, oNe, hw9.sm (Sm.new np), by omega, .lst npw upd_same (.cons (.str _) (.cons (.str _) (.cons (.str _) (.one (.str _))))), rfl, (fun z => by cases z), (by show 4 ≤ lim; decide), fun e he u' H11 g11 hw11 ru => ?_⟩
  obtain ⟨nm, rfl, hnm⟩ := dFFGH_ok e he
  cases ru.str_inv
  have g911 := (Gw.of (Sm.new np)).trans g11
  have rD : Dr (Ne wa) H11 (.ref D8) (.list (nums ks)) := .lst nD8w (g911 D8 _ nD8w eD9) (by rw [dra_nums ry]; exact vints_dr _)
  refine ⟨_, rfl, _, .list (nums ks), rfl, rD.all, rfl, fun u H12 s12 r12 => ⟨(by show 3 ≤ sizeLine; decide), fun t nt => ?_⟩⟩
  have r12' : Dr No H12 u (.tuple (nums ks)) := r12.fz (by simp only [WR.fz]; exact fz_nums ks)
  refine fin (.made nm ks) _ _ ⟨hnm, lk⟩ sm3 (why_parts (n := nm) fun k hk => pok k (hks k hk)).1 (fun z => nomatch z) (((g9'.trans g911).trans (Gw.of s12)).trans (Gw.of (Sm.new nt))) (((hw11.sm s12).sm (Sm.new nt)).mono (by omega)) ?_
  exact .tup upd_same (.cons (.str _) (.cons (.str _) (.one (r12'.sm (Sm.new nt)))))
end
end K8

/-! Rows behind a web. No Python here. -/
namespace K8
open PySem PySem.Spec PyProof.Rows L2 WR
structure Grown (R F : List Row) (m : Nat) : Prop where
  web : Web F
  small : ∀ r ∈ F, r.small
  ext : ∃ T, F = R ++ T
  len : F.length ≤ R.length + m
  asks : (asks F).length = (asks R).length
theorem Grown.refl {R : List Row} (W : Web R) (hs : ∀ r ∈ R, r.small) : Grown R R 0 := ⟨W, hs, ⟨[], (List.append_nil _).symm⟩, Nat.le_refl _, rfl⟩
theorem Grown.at_ {R F : List Row} {m k : Nat} (G : Grown R F m) (hk : k < R.length) : k < F.length ∧ rowAt F k = rowAt R k := by
  obtain ⟨T, rfl⟩ := G.ext
  exact ⟨by rw [List.length_append]; omega, rowAt_app hk⟩
theorem Grown.mono {R F : List Row} {m n : Nat} (G : Grown R F m) (h : m ≤ n) : Grown R F n := ⟨G.web, G.small, G.ext, Nat.le_trans G.len (by omega), G.asks⟩
theorem Grown.push {R F : List Row} {m : Nat} {r : Row} (G : Grown R F m) (hok : r.ok) (hs : r.small) (hy : why F r = none) (ha : r.isAsked = false) : Grown R (newRows F r) (m + 1) := by
  unfold newRows
  by_cases h : r ∈ F
  · rw [if_pos h]
    exact G.mono (by omega)
  · rw [if_neg h]
    obtain ⟨T, e⟩ := G.ext
    refine ⟨G.web.snoc hok hy h, fun s z => ?_, ⟨T ++ [r], by rw [e, List.append_assoc]⟩, by have := G.len; simp; omega, ?_⟩
    · rcases List.mem_append.mp z with z | z
      · exact G.small s z
      · rw [List.mem_singleton.mp z]
        exact hs
    · rw [← G.asks]
      unfold K8.asks
      rw [atP_app, if_neg (by rw [ha]; exact Bool.false_ne_true), List.append_nil]
theorem newRows_mem (F : List Row) (r : Row) : r ∈ newRows F r := by
  unfold newRows
  by_cases h : r ∈ F
  · rw [if_pos h]; exact h
  · rw [if_neg h]; simp
theorem newRows_sub {F : List Row} {r s : Row} (h : s ∈ F) : s ∈ newRows F r := by
  unfold newRows
  by_cases z : r ∈ F
  · rw [if_pos z]; exact h
  · rw [if_neg z]; exact List.mem_append_left _ h
theorem made_ok {F : List Row} {s : Str} {k : Nat} (hs : isName (.str s) = true) (hk : isPart F k = true ∧ k < F.length) (h100 : k ≤ 100) : (Row.made s [k]).ok ∧ (Row.made s [k]).small ∧ why F (.made s [k]) = none :=
  ⟨⟨hs, by show 1 ≤ lim; decide⟩, ⟨by show 1 ≤ 3; decide, fun j hj => by rw [List.mem_singleton.mp hj]; exact h100⟩, (why_parts (n := s) (ks := [k]) fun j hj => by rw [List.mem_singleton.mp hj]; exact hk).1⟩
theorem Web.either_ok {R : List Row} (W : Web R) {c i j : Nat} (h : .either c i j ∈ R) : ((rowAt R c).isAsked = true ∧ c < R.length) ∧ (isPart R i = true ∧ i < R.length) ∧ (isPart R j = true ∧ j < R.length) ∧ i ≠ j := by
  obtain ⟨n, hn, e⟩ := List.getElem_of_mem h
  have hw := (W.fit n hn).1
  rw [e] at hw
  obtain ⟨h1, h2, h3, h4⟩ := why_none.mp hw
  have ln : (R.take n).length = n := by rw [List.length_take]; omega
  have hc := h1 c (by simp [Row.named])
  have hi := h1 i (by simp [Row.named])
  have hj := h1 j (by simp [Row.named])
  have at_ : ∀ k, k < (R.take n).length → rowAt (R.take n) k = rowAt R k := fun k hk => by
    conv => rhs; rw [← List.take_append_drop n R]
    exact (rowAt_app hk).symm
  have part : ∀ k, k < (R.take n).length → isPart (R.take n) k = true → isPart R k = true ∧ k < R.length := fun k hk z => by
    have hk' : k < R.length := by omega
    refine ⟨?_, hk'⟩
    unfold isPart at z ⊢
    rw [at_ k hk, decide_eq_true hk, Bool.true_and] at z
    rw [decide_eq_true hk', Bool.true_and]
    exact z
  refine ⟨⟨?_, by omega⟩, part i hi (h3 i (by simp [Row.parts])), part j hj (h3 j (by simp [Row.parts])), fun z => ?_⟩
  · have h2' : (!(rowAt (R.take n) c).isAsked) = false := h2
    rw [at_ c hc] at h2'
    simpa using h2'
  · have h4' : decide (i = j) = false := h4
    rw [decide_eq_true z] at h4'
    cases h4'
theorem Grown.part {R F : List Row} {m k : Nat} (G : Grown R F m) (h : isPart R k = true ∧ k < R.length) : isPart F k = true ∧ k < F.length := by
  obtain ⟨h1, h2⟩ := h
  obtain ⟨a1, a2⟩ := G.at_ h2
  refine ⟨?_, a1⟩
  unfold isPart at h1 ⊢
  rw [decide_eq_true h2, Bool.true_and] at h1
  rw [a2, decide_eq_true a1, Bool.true_and]
  exact h1
/-- the last row of pushed ones -/
theorem Grown.last {R F : List Row} {m c i j : Nat} {s : Str} (G : Grown R F m) (hF : F.length ≤ 100) (W : Web R) (h : .either c i j ∈ R) (mi : Row.made s [i] ∈ F) (mj : Row.made s [j] ∈ F) :
    Grown R (newRows F (.either c (idxOf F (.made s [i])) (idxOf F (.made s [j])))) (m + 1) := by
  obtain ⟨⟨c1, c2⟩, hi, hj, hij⟩ := W.either_ok h
  obtain ⟨_, i1, i2⟩ := idxOf_at mi
  obtain ⟨_, j1, j2⟩ := idxOf_at mj
  have pt : ∀ {a k : Nat}, a < F.length → rowAt F a = .made s [k] → isPart F a = true ∧ a < F.length := fun h1 h2 => by
    refine ⟨?_, h1⟩
    unfold isPart
    rw [h2, decide_eq_true h1]
    rfl
  have cF := G.at_ c2
  refine G.push trivial ⟨by omega, by omega, by omega⟩ (why_either ⟨by rw [cF.2]; exact c1, cF.1⟩ (pt i1 i2) (pt j1 j2) fun z => ?_) rfl
  rw [z, j2] at i2
  injection i2 with _ z2
  injection z2 with z2
  exact hij z2.symm
theorem isPart_either {R : List Row} {c i j k : Nat} (hk : k < R.length) (e : rowAt R k = .either c i j) : isPart R k = true := by
  unfold isPart
  rw [decide_eq_true hk, e]
  rfl
theorem rows_eqv_nil (L : List Row) : PyData.eqv (.list (L.map Row.d)) (.list []) = decide (L = []) := by
  cases L with
  | nil => rfl
  | cons r L => simp [PyData.eqv, PyData.eqvAll]
end K8

/-! _law_a_pushed. -/
namespace K8
open PySem PySem.Spec PyProof.Rows L2 WR
theorem rowsFz : ∀ R : List Row, fzA (R.map Row.d) = true
  | [] => rfl
  | r :: R => by
    simp only [List.map_cons, fzA, Row.fz, Bool.true_and]
    exact rowsFz R
/-- [row for row in rows if p(row)] -/
theorem rows_comp {K : PySem.W.Frag} {J : It} {H1 : Hp} {D a : Addr} {xs : List V} {R : List Row} {tt : TT} {σ : L2.St} {vs : List Nat} {i : Nat} {Qd : Hp → Prop} (p : Row → Bool) (hJ : ItS K H1 a xs J) (rs : DrA All H1 xs (R.map Row.d)) (nD : H1 D = none) (hlen : R.length ≤ lim)
    (hw : ∀ x, wipe ((wipe σ vs).set i (some x)) vs = wipe σ vs) (hi : ∀ x, ((wipe σ vs).set i (some x))[i]? = some (some x))
    (htt : ∀ (x : V) (r : Row) (H2 : Hp) (Q : Bool → Hp → Prop), Dr All H2 x r.d → Sm H1 H2 → Q (p r) H2 → tt ((wipe σ vs).set i (some x)) H2 Q)
    (hd : ∀ H2 ys, Sm H1 H2 → H2 D = some (.lst ys) → DrA No H2 ys ((R.filter p).map Row.d) → Qd H2) :
    ∃ W : Nat → Nat → Hp → Prop, (∃ m, W 0 m (upd H1 D (.lst []))) ∧ ∀ i' m H, W i' m H →
      (J.stop i' H ∧ Qd H) ∨ (J.go i' H ∧ ∃ Nx : Hp → Prop, (∀ H', Nx H' → ∃ m', m' < m ∧ W (i' + 1) m' H') ∧ ∀ x H', J.yld i' H x H' → (gName i) x (wipe σ vs) H' fun σ2 H2 => wipe σ2 vs = wipe σ vs ∧ tt σ2 H2 fun b H3 =>
        if b = true then (tVar i) σ2 H3 fun y H4 => ∃ acc, H4 D = some (.lst acc) ∧ acc.length < sizeLine ∧ Nx (upd H4 D (.lst (acc ++ [y]))) else Nx H3) := by
  have hsl := lim_lt
  have hl : xs.length = R.length := by rw [rs.length, List.length_map]
  have ha : ∃ o, H1 a = some o := by rcases hJ with ⟨_, e⟩ | ⟨_, e⟩ <;> exact ⟨_, e⟩
  refine lc_seq hJ (fun m H2 => Sm H1 H2 ∧ ∃ ys, H2 D = some (.lst ys) ∧ DrA No H2 ys (((R.take m).filter p).map Row.d)) ⟨Sm.new nD, [], upd_same, .nil⟩ (fun m H2 hm h => by obtain ⟨o, e⟩ := ha; rw [e]; exact h.1 _ _ e) (fun m x H2 hx h => ?_) fun H2 h => ?_
  · obtain ⟨s, ys, eD, ry⟩ := h
    have hm : m < R.length := by
      have := (List.getElem?_eq_some_iff.mp hx).1
      omega
    obtain ⟨d, hd', rx⟩ := rs.get hx
    rw [List.getElem?_map, List.getElem?_eq_getElem hm] at hd'
    cases hd'
    refine ⟨hw _, ?_⟩
    have et : R.take (m + 1) = R.take m ++ [R[m]] := by rw [List.take_succ, List.getElem?_eq_getElem hm]; rfl
    have ly := ry.length
    have la : ((R.take m).filter p).length ≤ m := Nat.le_trans (List.length_filter_le _ _) (by rw [List.length_take]; omega)
    rw [List.length_map] at ly
    have rx2 := rx.sm s
    refine htt x R[m] H2 _ rx2 s ?_
    refine ite2 (fun hp => ?_) (fun hp => ?_)
    · have st : Stays No H2 (upd H2 D (.lst (ys ++ [x]))) := ⟨fun _ _ z => z.elim, fun b zs e => by
        rw [upd_ne fun z => by rw [z, eD] at e; cases e]
        exact e⟩
      refine ⟨_, hi _, ys, eD, by omega, fun c o e => ?_, ys ++ [x], upd_same, ?_⟩
      · rw [upd_ne (ne_of_none e nD)]
        exact s _ _ e
      · rw [et, List.filter_append, List.filter_cons, if_pos hp, List.filter_nil, List.map_append]
        exact (ry.append (.one (rx2.fz (M := No) (Row.fz _)))).mono (fun _ z => z) st
    · refine ⟨s, ys, eD, ?_⟩
      rw [et, List.filter_append, List.filter_cons, if_neg hp, List.filter_nil, List.append_nil]
      exact ry
  · obtain ⟨s, ys, eD, ry⟩ := h
    rw [hl, List.take_length] at ry
    exact hd H2 ys s eD ry
theorem mt_indexB {X : Cx} {K1 : PySem.W.Frag} (hK : X.K = K1) (hu : X.A.units + 65 < cLine) : MtR X "list.index" (rIndexD K1) := by
  subst hK
  exact mt_indexD hu
abbrev spAPush : Sp := fun vs H Q _ => ∃ (w l : Addr) (n : Nat) (xs : List V) (R : List Row), vs = [.ref w, .ref l] ∧ l ≠ w ∧ Wl H w n ∧ n + 5000 < top0 ∧ H l = some (.lst xs) ∧ DrA No H xs (R.map Row.d) ∧ Web R ∧ (∀ r ∈ R, r.small) ∧ R.length ≤ 40 ∧
  ∀ (u : Addr) (ys : List V) (F : List Row) H', Grown R F 4 → Gw w H H' → Wl H' w (n + 20) → H u = none → H' u = some (.lst ys) → DrA No H' ys (F.map Row.d) → Q (.ref u) H'
/-- l.index(x) in a list of rows -/
theorem index_f (K : PySem.W.Frag) {H : Hp} {a : Addr} {y : V} {R : List Row} {r : Row} {xs : List V} (e : H a = some (.lst xs)) (ra : DrA No H xs (R.map Row.d)) (rr : Dr All H y r.d) (ok : ∀ r ∈ R, r.ok) (rok : r.ok) (hm : r ∈ R) :
    Dp K H (.ref a) (.list (R.map Row.d)) ∧ Dp K H y r.d ∧ SeqAt.shaped (.list (R.map Row.d)) = true ∧ SeqAt.shaped r.d = true ∧ (R.map Row.d)[idxOf R r]? = some r.d ∧ PyData.eqv r.d r.d = true ∧ ∀ (m : Nat) (z' : PyData), m < idxOf R r → (R.map Row.d)[m]? = some z' → PyData.eqv z' r.d = false := by
  obtain ⟨m, e1, e2, e3⟩ := placeOf_at (R := R) (idxOf_at hm).1
  have em : m = idxOf R r := by omega
  subst em
  have eqR : eqOk (rowsD R) := rows_eqOk ok
  have eqr : eqOk r.d := Row.eqOk rok
  have rd : Dr All H (.ref a) (rowsD R) := .lst trivial e ra.all
  refine ⟨eqR.dp rd, eqr.dp rr, eqR.shaped, eqr.shaped, by rw [List.getElem?_map, e2]; rfl, by rw [Row.eqv]; exact decide_eq_true rfl, fun m' z' hm' hz => ?_⟩
  rw [List.getElem?_map] at hz
  cases eS : R[m']? with
  | none => rw [eS] at hz; cases hz
  | some s =>
    rw [eS] at hz
    cases hz
    rw [Row.eqv]
    exact decide_eq_false (e3 m' s hm' eS)
section
variable {P : Program} {w : World} {K : PySem.W.Frag} {mg : Str → Option Value} {base : Heap}
theorem sc__law_a_pushed : FnScope ["stream", "rows", "some", "found", "row", "step", "places", "part", "one", "last"] ["stream", "rows"] (defScope s_law_a_pushed) := ⟨rfl, rfl, rfl, by decide +kernel, rfl, by decide +kernel, by decide +kernel⟩
theorem ok__law_a_pushed (B : Bt mg) (F : Fn K mg d_law_a_pushed) (D2 : Df P w K mg base CX0 2 "_law_pick" ["stream", "things"] spPick) (D3 : Df P w K mg base CX0 2 "_law_mixed" ["stream", "things"] spMixed) :
    Df P w K mg base CX0 3 "_law_a_pushed" ["stream", "rows"] spAPush := by
  obtain ⟨f, fd, hm, F⟩ := F
  refine ⟨f, fd, hm, F.kp, F.bindsN fun _ _ _ _ _ _ us hl => match us, hl with | [_, _], _ => rfl, ?_⟩
  refine F.ok sc__law_a_pushed (fun vs H Q E h => by obtain ⟨w, l, n, xs, R, rfl, _⟩ := h; rfl) (fun cdv A outer s H vs Q E hr h => ?_)
  obtain ⟨wa, l, n, xs, R, rfl, nlw, hw, hn, el, rx, W, hsm, hR, q⟩ := h
  have hu := hr.un
  have hu65 : (A.deeper (envOfC d_law_a_pushed.qual d_law_a_pushed.scope s.heap.objs.size f cdv)).units + 65 < cLine := by omega
  have hu64 : (A.deeper (envOfC d_law_a_pushed.qual d_law_a_pushed.scope s.heap.objs.size f cdv)).units + 64 < cLine := by omega
  refine ⟨_, PSs.nox (pss_cons (ps_asg (pe_tup (pa_cons (pe_lc (own := [("row", 4)]) (g := gName 4) (tt := _) rfl sc__law_a_pushed.nd (pi_seq (pv 1)) (blkOk_by (own := [("row", 4)]) (N := ["stream", "rows", "some", "found", "row", "step", "places", "part", "one", "last"]) (sc := defScope s_law_a_pushed) (by decide +kernel)) (fun _ _ _ _ _ => pg_name (i := 4) sc__law_a_pushed.nd rfl (by first | exact Or.inl rfl | exact Or.inr rfl)) (fun _ _ _ _ _ => (pts_one (pt_cmpR op_eq (pe_ix ix_D (pv 4) pe_int (fun _ _ => rfl)) pe_str (nomark _)))) (fun _ _ _ _ _ => (pv 4))) (pa_cons (pe_callTy (call_listN (Ne wa)) (by rfl) B.list (by decide +kernel) (pa_cons (pv 1) pa_nil)) pa_nil))) (pg_tup rfl (pgs_cons (pg_name (i := 2) sc__law_a_pushed.nd rfl (by first | exact Or.inl rfl | exact Or.inr rfl)) (pgs_cons (pg_name (i := 3) sc__law_a_pushed.nd rfl (by first | exact Or.inl rfl | exact Or.inr rfl)) pgs_nil))))
      (pss_cons (ps_if (pt_cmpR (op_eqDr hu64) (pv 2) (pe_lst pa_nil) (nomark _)) (pss_one (ps_ret (pv 3))) pss_nil)
      (pss_cons (ps_asg (pe_tup (pa_cons (pe_df D2 hr pass0 (pa_cons (pv 0) (pa_cons (pv 2) pa_nil))) (pa_cons (pe_df D2 hr pass0 (pa_cons (pv 0) (pa_cons (pe_lst (pa_cons pe_str (pa_cons pe_str (pa_cons pe_str pa_nil)))) pa_nil))) (pa_cons (pe_lst pa_nil) pa_nil)))) (pg_tup rfl (pgs_cons (pg_name (i := 4) sc__law_a_pushed.nd rfl (by first | exact Or.inl rfl | exact Or.inr rfl)) (pgs_cons (pg_name (i := 5) sc__law_a_pushed.nd rfl (by first | exact Or.inl rfl | exact Or.inr rfl)) (pgs_cons (pg_name (i := 6) sc__law_a_pushed.nd rfl (by first | exact Or.inl rfl | exact Or.inr rfl)) pgs_nil)))))
      (pss_cons (ps_for PassesOwn.never rfl (pi_seq (pe_df D3 hr pass0 (pa_cons (pv 0) (pa_cons (pe_lst (pa_cons (pe_bm PySem.F.plainAttrs_list PySem.F.slot_list_index PySem.F.type_list_index (mt_indexD hu65) (pv 1) (pa_cons (pv 4) pa_nil)) (pa_cons (pe_ix ix_D (pv 4) pe_int (fun _ _ => rfl)) (pa_cons (pe_ix ix_D (pv 4) pe_int (fun _ _ => rfl)) pa_nil)))) pa_nil)))) (pg_name (i := 7) sc__law_a_pushed.nd rfl (by first | exact Or.inl rfl | exact Or.inr rfl)) (pss_cons (ps_set (i := 8) sc__law_a_pushed.nd rfl (by first | exact Or.inl rfl | exact Or.inr rfl) (pe_tup (pa_cons pe_str (pa_cons (pv 5) (pa_cons (pe_tup (pa_cons (pv 7) pa_nil)) pa_nil)))))
      (pss_one (ps_expr (pe_bm PySem.F.plainAttrs_list PySem.F.slot_list_extend PySem.F.type_list_extend mt_extend (pv 3) (pa_cons (pe_ifExp (pt_cmpR (op_notInDr hu65) (pv 8) (pv 3) (by rfl)) (pe_lst (pa_cons (pv 8) pa_nil)) (pe_lst pa_nil)) pa_nil))))))
      (pss_cons (ps_setLc (i := 6) (own := [("part", 7)]) (g := gName 7) (tt := tYes) rfl sc__law_a_pushed.nd rfl rfl (sw_true rfl rfl rfl (by decide +kernel)) (pi_seq (pe_slice (sl_N All) (pv 4) (po_some pe_int) po_none)) (blkOk_by (own := [("part", 7)]) (N := ["stream", "rows", "some", "found", "row", "step", "places", "part", "one", "last"]) (sc := defScope s_law_a_pushed) (by decide +kernel)) (fun _ _ _ _ _ => pg_name (i := 7) sc__law_a_pushed.nd rfl (by first | exact Or.inl rfl | exact Or.inr rfl)) (fun _ _ _ _ _ => pts_nil) (fun _ _ _ _ _ => (by exact (pe_bmB (K1 := K) rfl PySem.F.plainAttrs_list PySem.F.slot_list_index PySem.F.type_list_index (mt_indexB rfl hu65) (pv 3) (pa_cons (pe_tup (pa_cons (pe_str) (pa_cons (pv 5) (pa_cons (pe_tup (pa_cons (pv 7) pa_nil)) pa_nil)))) pa_nil)))))
      (pss_cons (ps_set (i := 9) sc__law_a_pushed.nd rfl (by first | exact Or.inl rfl | exact Or.inr rfl) (pe_tup (pa_cons pe_str (pa_cons (pe_ix ix_D (pv 4) pe_int (fun _ _ => rfl)) (pa_cons (pe_ix ix_D (pv 6) pe_int (fun _ _ => rfl)) (pa_cons (pe_ix ix_D (pv 6) pe_int (fun _ _ => rfl)) pa_nil))))))
      (pss_one (ps_ret (pe_op op_cat (pv 3) (pe_ifExp (pt_cmpR (op_notInDr hu65) (pv 9) (pv 3) (by rfl)) (pe_lst (pa_cons (pv 9) pa_nil)) (pe_lst pa_nil))))))))))), ?_⟩
  have hsl := lim_lt
  have htop : top0 = 1000000000000 := rfl
  have hlim : lim = 4000 := rfl
  have oNe : Off wa (Ne wa) := fun b h => h
  have sz0 : 0 ≤ sizeLine := Nat.zero_le _
  -- some, found
  refine ⟨_, rfl, l, xs, rfl, .inl el, fun J hJ D nD => ?_⟩
  refine rows_comp Row.isEither hJ rx.all nD (by omega) (fun _ => rfl) (fun _ => rfl) (fun x r H2 Q' r2 s2 q' => ?_) fun H1 ys s1 eD ry => ?_
  · refine ⟨_, rfl, _, 0, _, r2, Row.seqD _, rfl, Row.word_at _, fun x0 r0 => ?_⟩
    cases r0.str_inv
    refine ⟨rfl, _, rfl, ?_⟩
    rw [Row.eitherW]
    exact q'
  refine ⟨_, rfl, .ref l, rowsD R, rfl, .lst nlw (s1 _ _ el) ((rx.sm s1).wide fun _ z => z.elim), rfl, fun fl xs2 nfl rx2' => ?_⟩
  have rx2 : DrA No H1 xs2 (R.map Row.d) := rx2'.fz (rowsFz R)
  refine ⟨(by show 2 ≤ sizeLine; decide), fun p np => ⟨p, _, rfl, SqT.of upd_same, rfl, _, _, rfl, _, _, rfl, rfl, ?_⟩⟩
  have s12 : Sm H1 (upd (upd H1 fl (.lst xs2)) p (.tup [.ref D, .ref fl])) := (Sm.new nfl).trans (Sm.new np)
  have efl : upd (upd H1 fl (.lst xs2)) p (.tup [.ref D, .ref fl]) fl = some (.lst xs2) := (Sm.new np) _ _ upd_same
  have nflH : H fl = none := s1.free nfl
  have nflw : fl ≠ wa := hw.ne nflH
  have nDw : D ≠ wa := hw.ne nD
  have nfD : fl ≠ D := fun z => by rw [z, eD] at nfl; cases nfl
  generalize upd (upd H1 fl (.lst xs2)) p (.tup [.ref D, .ref fl]) = H2 at s12 efl ⊢
  have s2 := s1.trans s12
  -- if some == []
  refine ⟨_, rfl, sz0, fun p0 np0 => ?_⟩
  have s0 := Sm.new (o := .lst []) np0
  have rsm : Dr All H2 (.ref D) (.list ((R.filter Row.isEither).map Row.d)) := .lst trivial (s12 _ _ eD) ((ry.sm s12).all)
  refine ⟨.list ((R.filter Row.isEither).map Row.d), .list [], rsm.sm s0, .lst trivial upd_same .nil, rows_eqOk fun r h => W.ok r (List.mem_filter.mp h).1, nums_eqOk [], _, rfl, ?_⟩
  rw [rows_eqv_nil]
  generalize upd H2 p0 (.lst []) = H3 at s0 ⊢
  have s3 := s2.trans s0
  have s13 := s12.trans s0
  have efl3 := s0 _ _ efl
  have rx3 := rx2.sm s13
  refine ite2 (fun _ => ⟨_, rfl, q fl xs2 R H3 ((Grown.refl W hsm).mono (by omega)) (Gw.of s3) ((hw.sm s3).mono (by omega)) nflH efl3 rx3⟩) (fun hne => ?_)
  have hne' : R.filter Row.isEither ≠ [] := fun z => hne (decide_eq_true z)
  have hw3 := hw.sm s3
  have lf : (R.filter Row.isEither).length ≤ 40 := Nat.le_trans (List.length_filter_le _ _) hR
  -- row, step, places
  refine ⟨_, rfl, _, rfl, wa, n, Ne wa, .ref D, .list ((R.filter Row.isEither).map Row.d), rfl, oNe, hw3, by omega, .lst nDw (s13 _ _ eD) ((ry.sm s13).wide fun _ z => z.elim), rfl, (fun z => hne' (List.map_eq_nil_iff.mp z)), by rw [show its (.list ((R.filter Row.isEither).map Row.d)) = (R.filter Row.isEither).map Row.d from rfl, List.length_map]; omega, fun e he rw H4 g4 hw4 rr => ?_⟩
  obtain ⟨r, hr', rfl⟩ := List.mem_map.mp he
  obtain ⟨hrR, hrE⟩ := List.mem_filter.mp hr'
  obtain ⟨c, i, j, rfl⟩ : ∃ c i j, r = .either c i j := by
    cases r with
    | either c i j => exact ⟨c, i, j, rfl⟩
    | made _ _ => cases hrE
    | asked _ _ => cases hrE
    | given _ => cases hrE
  have rr4 : Dr No H4 rw (Row.either c i j).d := rr.fz (Row.fz _)
  refine ⟨_, rfl, (by show 3 ≤ sizeLine; decide), fun p2 np2 => ?_⟩
  have np2w := hw4.ne np2
  refine ⟨wa, n + 1, Ne wa, .ref p2, .list fgh, rfl, oNe, hw4.sm (Sm.new np2), by omega, .lst np2w upd_same (.cons (.str _) (.cons (.str _) (.one (.str _)))), rfl, (fun z => by cases z), (by show 3 ≤ lim; decide), fun e he st H5 g5 hw5 rst => ?_⟩
  obtain ⟨nm, rfl, hnm⟩ := fgh_ok e he
  cases rst.str_inv
  have g45 := (Gw.of (Sm.new np2)).trans g5
  refine ⟨sz0, fun pl npl => ⟨(by show 3 ≤ sizeLine; decide), fun p3 np3 => ⟨p3, _, rfl, SqT.of upd_same, rfl, _, _, rfl, _, _, rfl, _, _, rfl, rfl, ?_⟩⟩⟩
  have s56 : Sm H5 (upd (upd H5 pl (.lst [])) p3 (.tup [rw, .str nm, .ref pl])) := (Sm.new npl).trans (Sm.new np3)
  generalize upd (upd H5 pl (.lst [])) p3 (.tup [rw, .str nm, .ref pl]) = H6 at s56 ⊢
  have g36 := (g4.trans g45).trans (Gw.of s56)
  have g46 := g45.trans (Gw.of s56)
  have hw6 := hw5.sm s56
  have rr6 : Dr No H6 rw (Row.either c i j).d := rr4.gn (fun _ z => z.elim) hw4 g46
  have g06 := (Gw.of s3).trans g36
  have el6 := g06 l _ nlw el
  have rx6 : DrA No H6 xs (R.map Row.d) := rx.gn (fun _ z => z.elim) hw g06
  have efl6 := g36 fl _ nflw efl3
  have ry6 : DrA No H6 xs2 (R.map Row.d) := rx3.gn (fun _ z => z.elim) hw3 g36
  obtain ⟨⟨c1, c2⟩, hi, hj, hij⟩ := W.either_ok hrR
  obtain ⟨_, p1, p2'⟩ := idxOf_at hrR
  -- for part in ..
  refine ⟨_, rfl, _, rfl, .inl ⟨rfl, xs, SqL.of el6⟩, _, rfl, ?_⟩
  obtain ⟨f1, f2, f3, f4, f5, f6, f7⟩ := index_f K el6 rx6 rr6.all W.ok (W.ok _ hrR) hrR
  refine ⟨l, rw, _, _, idxOf R (.either c i j), _, rfl, rfl, f1, f2, f3, f4, f5, f6, f7, ?_⟩
  clear f1 f2 f3 f4 f5 f6 f7
  refine ⟨_, rfl, _, 2, _, rr6.all, rfl, rfl, rfl, fun x2 r2 => ?_⟩
  cases r2.int_inv
  refine ⟨_, rfl, _, 3, _, rr6.all, rfl, rfl, rfl, fun x3 r3 => ?_⟩
  cases r3.int_inv
  refine ⟨(by show 3 ≤ sizeLine; decide), fun p4 np4 => ?_⟩
  have np4w := hw6.ne np4
  refine ⟨wa, n + 1 + 1, Ne wa, .ref p4, .list (nums [idxOf R (.either c i j), i, j]), rfl, oNe, hw6.sm (Sm.new np4), by omega, (.lst np4w upd_same (vints_dr [idxOf R (.either c i j), i, j])), rfl, (by show 3 ≤ lim; decide), fun l2 ys2 es H7 nl2 pm g7' hw7 el7 ry7 => ?_⟩
  obtain ⟨ks, rfl, hks⟩ := nums_back (p := fun k => k ∈ [idxOf R (.either c i j), i, j]) (es := es) fun e he => by
    obtain ⟨k, hk, e'⟩ := List.mem_map.mp (pm.mem_iff.mp he)
    exact ⟨k, e'.symm, hk⟩
  have inks : ∀ k ∈ [idxOf R (.either c i j), i, j], k ∈ ks := fun k hk => by
    have : PyData.int (k : Int) ∈ nums ks := pm.mem_iff.mpr (List.mem_map.mpr ⟨k, hk, rfl⟩)
    obtain ⟨k', hk', e'⟩ := List.mem_map.mp this
    injection e' with e'
    rw [show k = k' by omega]
    exact hk'
  have lks : ks.length = 3 := by
    have := pm.length_eq
    simpa [its, nums] using this
  obtain rfl := dra_nums ry7
  have g67 := (Gw.of (Sm.new np4)).trans g7'
  have g37 := g36.trans g67
  have g07 := g06.trans g67
  have efl7 := g67 fl _ nflw efl6
  have ry7' : DrA No H7 xs2 (R.map Row.d) := ry6.gn (fun _ z => z.elim) hw6 g67
  have rr7 : Dr No H7 rw (Row.either c i j).d := rr6.gn (fun _ z => z.elim) hw6 g67
  have nl2f : l2 ≠ fl := fun z => by
    have e6 := (Sm.new np4 (o := .lst [.int (idxOf R (.either c i j) : Nat), .int (i : Nat), .int (j : Nat)])) _ _ efl6
    rw [← z] at e6
    exact absurd (nl2.symm.trans e6) (fun y => nomatch y)
  have pk : ∀ k ∈ ks, isPart R k = true ∧ k < R.length := fun k hk => by
    have := hks k hk
    simp only [List.mem_cons, List.not_mem_nil, or_false] at this
    rcases this with rfl | rfl | rfl
    · exact ⟨isPart_either p1 p2', p1⟩
    · exact hi
    · exact hj
  refine ⟨l2, vN ks, rfl, .inl el7, fun J2 hJ2 => ?_⟩
  refine for_seq hJ2 (fun m σ H8 => ∃ (x7 x8 : Option V) (zs : List V) (F : List Row), σ = [some (.ref wa), some (.ref l), some (.ref D), some (.ref fl), some rw, some (.str nm), some (.ref pl), x7, x8, none] ∧ (∀ b o, b ≠ fl → H7 b = some o → H8 b = some o) ∧ H8 fl = some (.lst zs) ∧ DrA No H8 zs (F.map Row.d) ∧ Grown R F m ∧ ∀ k ∈ ks.take m, Row.made nm [k] ∈ F) ?_ ?_ ?_ ?_
  · exact ⟨_, _, xs2, R, rfl, fun _ _ _ e => e, efl7, ry7', Grown.refl W hsm, fun k hk => by simp at hk⟩
  · rintro m σ H8 _ ⟨_, _, _, _, _, kp, _⟩
    rw [kp _ _ nl2f el7, el7]
  · rintro m x σ H8 hx ⟨x7, x8, zs, F, rfl, kp, efl8, rz8, G, mem⟩
    have hm3 : m < ks.length := by
      have := (List.getElem?_eq_some_iff.mp hx).1
      simpa [vN] using this
    rw [vN, List.getElem?_map, List.getElem?_eq_getElem hm3] at hx
    obtain rfl := (Option.some.inj hx).symm
    have hkm : ks[m] ∈ ks := List.getElem_mem hm3
    have et : ks.take (m + 1) = ks.take m ++ [ks[m]] := by rw [List.take_succ, List.getElem?_eq_getElem hm3]; rfl
    generalize hk0 : ks[m] = k at *
    have hF := G.len
    obtain ⟨mk1, mk2, mk3⟩ := made_ok (F := F) hnm (G.part (pk k hkm)) (by have := (pk k hkm).2; omega)
    have G' := G.push mk1 mk2 mk3 rfl
    have mem' : ∀ j ∈ ks.take (m + 1), Row.made nm [j] ∈ newRows F (.made nm [k]) := fun j hj => by
      rw [et] at hj
      rcases List.mem_append.mp hj with z | z
      · exact newRows_sub (mem j z)
      · rw [List.mem_singleton.mp z]
        exact newRows_mem _ _
    refine ⟨_, rfl, _, rfl, (by show 1 ≤ sizeLine; decide), fun t0 nt0 => ⟨(by show 3 ≤ sizeLine; decide), fun t nt => ?_⟩⟩
    have ro : Dr No (upd (upd H8 t0 (.tup [.int (k : Nat)])) t (.tup [.str "made", .str nm, .ref t0])) (.ref t) (Row.made nm [k]).d := .tup upd_same (.cons (.str _) (.cons (.str _) (.one (.tup ((Sm.new nt) _ _ upd_same) (.one (.int _))))))
    have s89 : Sm H8 (upd (upd H8 t0 (.tup [.int (k : Nat)])) t (.tup [.str "made", .str nm, .ref t0])) := (Sm.new nt0).trans (Sm.new nt)
    generalize upd (upd H8 t0 (.tup [.int (k : Nat)])) t (.tup [.str "made", .str nm, .ref t0]) = H9 at ro s89 ⊢
    have efl9 := s89 _ _ efl8
    have rz9 := rz8.sm s89
    have lz : zs.length = F.length := by rw [rz9.length, List.length_map]
    have rF : Dr All H9 (.ref fl) (rowsD F) := .lst trivial efl9 rz9.all
    refine ⟨_, rfl, .inl ⟨rfl, zs, SqL.of efl9⟩, _, rfl, _, rfl, (Row.made nm [k]).d, F.map Row.d, ro.all, rF, Row.eqOk mk1, rows_eqOk G.web.ok, _, rfl, ?_⟩
    rw [if_neg Bool.false_ne_true, rows_any]
    have st : ∀ {H10 : Hp} {o : List V}, Sm H9 H10 → Stays No H10 (upd H10 fl (.lst o)) := fun s10 => ⟨fun _ _ z => z.elim, fun b ws e => by
      rw [upd_ne fun y => by rw [y, s10 _ _ efl9] at e; cases e]
      exact e⟩
    refine ite2 (fun hn => ?_) (fun hn => ?_)
    · have hnm' : Row.made nm [k] ∉ F := fun z => by
        rw [decide_eq_true z] at hn
        cases hn
      refine ⟨_, rfl, (by show 1 ≤ sizeLine; decide), fun p5 np5 => ?_⟩
      have s10 := Sm.new (o := .lst [.ref t]) np5
      refine ⟨fl, p5, zs, [.ref t], rfl, rfl, s10 _ _ efl9, upd_same, by simp; omega, ?_⟩
      refine ⟨_, _, zs ++ [.ref t], newRows F (.made nm [k]), rfl, fun b o hb e => ?_, upd_same, ?_, G', mem'⟩
      · rw [upd_ne hb]
        exact s10 _ _ (s89 _ _ (kp b o hb e))
      · unfold newRows
        rw [if_neg hnm', List.map_append]
        exact ((rz9.sm s10).append (.one (ro.sm s10))).mono (fun _ z => z) (st s10)
    · have hnm' : Row.made nm [k] ∈ F := by
        by_cases z : Row.made nm [k] ∈ F
        · exact z
        · rw [decide_eq_false z] at hn
          exact absurd rfl hn
      refine ⟨sz0, fun p5 np5 => ?_⟩
      have s10 := Sm.new (o := .lst []) np5
      refine ⟨fl, p5, zs, [], rfl, rfl, s10 _ _ efl9, upd_same, by simp; omega, ?_⟩
      refine ⟨_, _, zs ++ [], newRows F (.made nm [k]), rfl, fun b o hb e => ?_, upd_same, ?_, G', mem'⟩
      · rw [upd_ne hb]
        exact s10 _ _ (s89 _ _ (kp b o hb e))
      · unfold newRows
        rw [if_pos hnm']
        have := (rz9.sm s10).mono (fun _ z => z) (st (o := zs ++ []) s10)
        rw [List.append_nil] at this ⊢
        exact this
  rintro σ H8 ⟨x7, x8, zs, F, rfl, kp, efl8, rz8, G, mem⟩
  rw [show (vN ks).length = ks.length by simp [vN], lks] at G mem
  rw [← lks, List.take_length] at mem
  have mi := mem i (inks i (by simp))
  have mj := mem j (inks j (by simp))
  have hF := G.len
  have st78 : Stays No H7 H8 := ⟨fun _ _ z => z.elim, fun b ws e => kp b _ (fun y => by rw [y, efl7] at e; cases e) e⟩
  have rr8 : Dr No H8 rw (Row.either c i j).d := rr7.mono (fun _ z => z) st78
  have g08 : Gw wa H H8 := fun b o hb e => kp b o (ne_of_none e nflH) (g07 b o hb e)
  have hw8 : Wl H8 wa (n + 1 + 1 + 3) := by
    have l3 : (its (.list (nums [idxOf R (.either c i j), i, j]))).length = 3 := rfl
    rw [l3] at hw7
    obtain ⟨a', b', c', e', h'⟩ := hw7
    exact ⟨a', b', c', kp wa _ (Ne.symm nflw) e', h'⟩
  have lz : zs.length = F.length := by rw [rz8.length, List.length_map]
  have dk : ∀ d ∈ [PyData.int (i : Nat), .int (j : Nat)], ∃ k : Nat, d = .int (k : Nat) ∧ Row.made nm [k] ∈ F := fun d hd => by
    simp only [List.mem_cons, List.not_mem_nil, or_false] at hd
    rcases hd with rfl | rfl
    · exact ⟨i, rfl, mi⟩
    · exact ⟨j, rfl, mj⟩
  -- places
  refine ⟨_, rfl, _, rfl, (Row.either c i j).d, rr8.all, rfl, fun v9 H9 s9 r9 => ?_⟩
  have ec : cutA (its (Row.either c i j).d) (some (2 : Int)) none = [.int (i : Nat), .int (j : Nat)] := cutA_from _ 2
  rw [ec] at r9
  obtain ⟨a9, ws, rfl, hq9, rs9⟩ := (show Dr (Fr All H8) H9 v9 (.tuple [.int (i : Nat), .int (j : Nat)]) from r9).seq rfl
  refine ⟨_, _, rfl, hq9, fun J3 hJ3 D9 nD9 => ?_⟩
  refine lc_fz (fun d => match d with | .int k => .int (idxOf F (.made nm [k.toNat]) : Nat) | _ => .none) (Walk.seq hJ3 rs9.all) nD9 (by show 2 ≤ lim; decide) (fun _ => rfl) (fun d hd => ?_) (fun x d H10 Q' hd s10 rx' q' => ?_) fun H10 ws2 s10 eD10 rw10 => ?_
  · obtain ⟨k, rfl, _⟩ := dk d hd
    rfl
  · obtain ⟨k, rfl, hmem⟩ := dk d hd
    cases rx'.int_inv
    have s810 := s9.trans s10
    refine ⟨_, rfl, .inl ⟨rfl, zs, SqL.of (s810 _ _ efl8)⟩, _, rfl, _, rfl, (by show 1 ≤ sizeLine; decide), fun t0 nt0 => ⟨(by show 3 ≤ sizeLine; decide), fun t nt => ?_⟩⟩
    have ro : Dr No (upd (upd H10 t0 (.tup [.int (k : Nat)])) t (.tup [.str "made", .str nm, .ref t0])) (.ref t) (Row.made nm [k]).d := .tup upd_same (.cons (.str _) (.cons (.str _) (.one (.tup ((Sm.new nt) _ _ upd_same) (.one (.int _))))))
    have s11 : Sm H10 (upd (upd H10 t0 (.tup [.int (k : Nat)])) t (.tup [.str "made", .str nm, .ref t0])) := (Sm.new nt0).trans (Sm.new nt)
    generalize upd (upd H10 t0 (.tup [.int (k : Nat)])) t (.tup [.str "made", .str nm, .ref t0]) = H11 at ro s11 ⊢
    have s811 := s810.trans s11
    obtain ⟨f1, f2, f3, f4, f5, f6, f7⟩ := index_f K (s811 _ _ efl8) (rz8.sm s811) ro.all G.web.ok (G.web.ok _ hmem) hmem
    exact ⟨fl, .ref t, _, _, idxOf F (.made nm [k]), _, rfl, rfl, f1, f2, f3, f4, f5, f6, f7, q' _ _ s11 (.int _)⟩
  have s810 := s9.trans s10
  have rp : Dr All H10 (.ref D9) (.list [.int (idxOf F (.made nm [i]) : Nat), .int (idxOf F (.made nm [j]) : Nat)]) := .lst trivial eD10 rw10
  have rr10 := rr8.sm s810
  -- last
  refine ⟨_, rfl, _, 1, _, rr10.all, rfl, rfl, rfl, fun x1 r1 => ?_⟩
  cases r1.int_inv
  refine ⟨_, rfl, _, 0, _, rp, rfl, rfl, rfl, fun x2 r2 => ?_⟩
  cases r2.int_inv
  refine ⟨_, rfl, _, 1, _, rp, rfl, rfl, rfl, fun x3 r3 => ?_⟩
  cases r3.int_inv
  refine ⟨(by show 4 ≤ sizeLine; decide), fun t nt => ?_⟩
  have G' := G.last (s := nm) (by omega) W hrR mi mj
  have oke : (Row.either c (idxOf F (.made nm [i])) (idxOf F (.made nm [j]))).ok := trivial
  generalize idxOf F (.made nm [i]) = ai at *
  generalize idxOf F (.made nm [j]) = aj at *
  have ro : Dr No (upd H10 t (.tup [.str "either", .int (c : Nat), .int (ai : Nat), .int (aj : Nat)])) (.ref t) (Row.either c ai aj).d := .tup upd_same (.cons (.str _) (.cons (.int _) (.cons (.int _) (.one (.int _)))))
  have s11 := Sm.new (o := .tup [.str "either", .int (c : Nat), .int (ai : Nat), .int (aj : Nat)]) nt
  generalize upd H10 t (.tup [.str "either", .int (c : Nat), .int (ai : Nat), .int (aj : Nat)]) = H11 at ro s11 ⊢
  have s811 := s810.trans s11
  have efl11 := s811 _ _ efl8
  have rz11 := rz8.sm s811
  have rF : Dr All H11 (.ref fl) (rowsD F) := .lst trivial efl11 rz11.all
  refine ⟨_, rfl, _, rfl, _, rfl, (Row.either c ai aj).d, F.map Row.d, ro.all, rF, Row.eqOk oke, rows_eqOk G.web.ok, _, rfl, ?_⟩
  rw [if_neg Bool.false_ne_true, rows_any]
  refine ite2 (fun hn => ?_) (fun hn => ?_)
  · have hnm' : Row.either c ai aj ∉ F := fun z => by
      rw [decide_eq_true z] at hn
      cases hn
    refine ⟨_, rfl, (by show 1 ≤ sizeLine; decide), fun p5 np5 => ?_⟩
    have s12 := Sm.new (o := .lst [.ref t]) np5
    refine ⟨fl, p5, zs, [.ref t], rfl, rfl, s12 _ _ efl11, upd_same, by simp; omega, fun p6 np6 => ?_⟩
    have s13 := s12.trans (Sm.new (o := .lst (zs ++ [.ref t])) np6)
    refine q p6 (zs ++ [.ref t]) _ _ G' (g08.trans (Gw.of (s811.trans s13))) (((hw8.sm s811).sm s13).mono (by omega)) ?_ upd_same ?_
    · cases z : H p6 with
      | none => rfl
      | some o =>
        have hpw : p6 ≠ wa := fun y => by
          obtain ⟨a', b', c', e', _⟩ := (hw8.sm s811).sm s12
          rw [y, e'] at np6
          cases np6
        rw [s12 _ _ (s811 _ _ (g08 p6 o hpw z))] at np6
        cases np6
    · unfold newRows
      rw [if_neg hnm', List.map_append]
      exact (rz11.sm s13).append (.one (ro.sm s13))
  · have hnm' : Row.either c ai aj ∈ F := by
      by_cases z : Row.either c ai aj ∈ F
      · exact z
      · rw [decide_eq_false z] at hn
        exact absurd rfl hn
    refine ⟨sz0, fun p5 np5 => ?_⟩
    have s12 := Sm.new (o := .lst []) np5
    refine ⟨fl, p5, zs, [], rfl, rfl, s12 _ _ efl11, upd_same, by simp; omega, fun p6 np6 => ?_⟩
    have s13 := s12.trans (Sm.new (o := .lst (zs ++ [])) np6)
    refine q p6 (zs ++ []) _ _ G' (g08.trans (Gw.of (s811.trans s13))) (((hw8.sm s811).sm s13).mono (by omega)) ?_ upd_same ?_
    · cases z : H p6 with
      | none => rfl
      | some o =>
        have hpw : p6 ≠ wa := fun y => by
          obtain ⟨a', b', c', e', _⟩ := (hw8.sm s811).sm s12
          rw [y, e'] at np6
          cases np6
        rw [s12 _ _ (s811 _ _ (g08 p6 o hpw z))] at np6
        cases np6
    · unfold newRows
      rw [if_pos hnm']
      have := rz11.sm s13
      rw [List.append_nil] at this ⊢
      exact this
end
end K8

/-! _law_a_web. -/
namespace K8
open PySem PySem.Spec PyProof.Rows L2 WR
theorem asks_snoc {R : List Row} {r : Row} (h : (asks R).length ≤ 4) (hr : r.isAsked = true → (asks R).length < 4) : (asks (R ++ [r])).length ≤ 4 := by
  unfold asks at *
  rw [atP_app, List.length_append]
  by_cases z : r.isAsked = true
  · rw [if_pos z]
    have := hr z
    simp
    omega
  · rw [if_neg z]
    exact h
abbrev spAWeb : Sp := fun vs H Q _ => ∃ (w : Addr) (n m : Nat), vs = [.ref w, .int (m : Nat), .int (4 : Nat)] ∧ m ≤ 16 ∧ Wl H w n ∧ n + 10000 < top0 ∧
  ∀ (l : Addr) (ys : List V) (R : List Row) H', H l = none → Web R → (∀ r ∈ R, r.small) → R.length ≤ m + 4 → (asks R).length ≤ 4 → Gw w H H' → Wl H' w (n + 1100) → H' l = some (.lst ys) → DrA No H' ys (R.map Row.d) → Q (.ref l) H'
section
variable {P : Program} {w : World} {K : PySem.W.Frag} {mg : Str → Option Value} {base : Heap}
theorem sc__law_a_web : FnScope ["stream", "many", "tests", "rows", "turn", "row"] ["stream", "many", "tests"] (defScope s_law_a_web) := ⟨rfl, rfl, rfl, by decide +kernel, rfl, by decide +kernel, by decide +kernel⟩
theorem ok__law_a_web (B : Bt mg) (F : Fn K mg d_law_a_web) (D1 : Df P w K mg base CX0 1 "_law_draw" ["stream", "many"] spDraw) (D2 : Df P w K mg base CX0 3 "_law_a_row" ["stream", "rows", "tests"] spARow) (D3 : Df P w K mg base CX0 3 "_law_a_pushed" ["stream", "rows"] spAPush) :
    Df P w K mg base CX0 4 "_law_a_web" ["stream", "many", "tests"] spAWeb := by
  obtain ⟨f, fd, hm, F⟩ := F
  refine ⟨f, fd, hm, F.kp, F.bindsN fun _ _ _ _ _ _ us hl => match us, hl with | [_, _, _], _ => rfl, ?_⟩
  refine F.ok sc__law_a_web (fun vs H Q E h => by obtain ⟨w, n, m, rfl, _⟩ := h; rfl) (fun cdv A outer s H vs Q E hr h => ?_)
  obtain ⟨wa, n, m, rfl, hm14, hw, hn, q⟩ := h
  have hr1 := hr.mono (show 1 ≤ 3 by decide)
  have hu := hr.un
  have hu65 : (A.deeper (envOfC d_law_a_web.qual d_law_a_web.scope s.heap.objs.size f cdv)).units + 65 < cLine := by omega
  refine ⟨_, PSs.nox (pss_cons (ps_set (i := 3) sc__law_a_web.nd rfl (by first | exact Or.inl rfl | exact Or.inr rfl) (pe_lst pa_nil))
      (pss_cons (ps_for PassesOwn.never rfl (pi_range1 rfl B.range (pa_cons (pv 1) pa_nil)) (pg_name (i := 4) sc__law_a_web.nd rfl (by first | exact Or.inl rfl | exact Or.inr rfl)) (pss_cons (ps_set (i := 5) sc__law_a_web.nd rfl (by first | exact Or.inl rfl | exact Or.inr rfl) (pe_df D2 hr pass0 (pa_cons (pv 0) (pa_cons (pv 3) (pa_cons (pv 2) pa_nil)))))
      (pss_one (ps_expr (pe_bm PySem.F.plainAttrs_list PySem.F.slot_list_extend PySem.F.type_list_extend mt_extend (pv 3) (pa_cons (pe_ifExp (pt_cmpR (op_notInDr hu65) (pv 5) (pv 3) (by rfl)) (pe_lst (pa_cons (pv 5) pa_nil)) (pe_lst pa_nil)) pa_nil))))))
      (pss_one (ps_ret (pe_ifExp (pt_cmpR op_eq (pe_df D1 hr1 pass0 (pa_cons (pv 0) (pa_cons pe_int pa_nil))) pe_int (nomark _)) (pe_df D3 hr pass0 (pa_cons (pv 0) (pa_cons (pv 3) pa_nil))) (pv 3)))))), ?_⟩
  have hsl := lim_lt
  have hlim : lim = 4000 := rfl
  have htop : top0 = 1000000000000 := rfl
  -- rows = []
  refine ⟨(by show 0 ≤ sizeLine; decide), fun l nl => ?_⟩
  have nlw : l ≠ wa := hw.ne nl
  -- range(_law_draw(well, most + 1))
  refine ⟨_, rfl, _, rfl, by omega, by omega, ?_⟩
  rw [Int.toNat_natCast]
  have g1 : Gw wa H (upd H l (.lst [])) := Gw.of (Sm.new nl)
  have hw1 := hw.sm (Sm.new (o := .lst []) nl)
  refine for_range (fun i σ' H2 => ∃ x3 x4 R ys, σ' = [some (.ref wa), some (.int (m : Nat)), some (.int (4 : Nat)), some (.ref l), x3, x4] ∧ (asks R).length ≤ 4 ∧ Gw wa H H2 ∧ Wl H2 wa (n + 60 * i) ∧ H2 l = some (.lst ys) ∧ DrA No H2 ys (R.map Row.d) ∧ R.length ≤ i ∧ Web R ∧ ∀ r ∈ R, r.small) ?_ ?_ ?_
  · exact ⟨none, none, [], [], rfl, Nat.zero_le _, g1, hw1.mono (by omega), upd_same, .nil, Nat.le_refl _, Web.nil, (fun _ h => nomatch h)⟩
  · rintro i σ' H2 hi ⟨x3, x4, R, ys, rfl, has, g2, hw2, el2, ry2, hR, W, sms⟩
    have rl2 : Dr (Ne wa) H2 (.ref l) (rowsD R) := .lst nlw el2 (ry2.mono (fun _ z => z.elim) (Stays.of Sm.rfl'))
    have lys : ys.length = R.length := by rw [ry2.length, List.length_map]
    refine ⟨_, rfl, _, rfl, _, rfl, wa, _, .ref l, R, rfl, hw2, by omega, rl2, by omega, fun r u H3 rok rsm hy hra g3 hw3 ru => ?_⟩
    have rl3 := rl2.gn (fun _ h => h) hw2 g3
    have ry3 : DrA No H3 ys (R.map Row.d) := (ry2.gn (fun _ h => h.elim) hw2 g3)
    have el3 := g3 l _ nlw el2
    have keepL : ∀ {H4 : Hp}, Sm H3 H4 → ∀ o, H4 l = some (.lst o) → Stays No H4 (upd H4 l (.lst (o ++ [u]))) := fun _ o e => ⟨fun _ _ z => z.elim, fun b xs z => by
      rw [upd_ne fun q => by rw [q, e] at z; cases z]
      exact z⟩
    -- rows.extend([row] if row not in rows else [])
    refine ⟨_, rfl, .inl ⟨rfl, ys, SqL.of el3⟩, _, rfl, _, rfl, r.d, R.map Row.d, ru.all, rl3.all, Row.eqOk rok, rows_eqOk W.ok, _, rfl, ?_⟩
    rw [if_neg Bool.false_ne_true, rows_any]
    refine ite2 (fun hn => ?_) (fun hn => ?_)
    · have hnm : r ∉ R := fun z => by
        rw [decide_eq_true z] at hn
        cases hn
      refine ⟨_, rfl, (by show 1 ≤ sizeLine; decide), fun p np => ?_⟩
      have sp : Sm H3 (upd H3 p (.lst [u])) := Sm.new np
      have elp := sp _ _ el3
      refine ⟨l, p, ys, [u], rfl, rfl, elp, upd_same, by simp; omega, ?_⟩
      have st := keepL sp ys elp
      refine ⟨_, _, R ++ [r], ys ++ [u], rfl, asks_snoc has hra, fun b o hb z => ?_, ?_, upd_same, ?_, by simp; omega, W.snoc rok hy hnm, fun s hs => ?_⟩
      · rw [upd_ne (ne_of_none z nl)]
        exact sp _ _ (g3 b o hb (g2 b o hb z))
      · obtain ⟨a', b', c', e', h'⟩ := hw3.sm sp
        exact ⟨a', b', c', by rw [upd_ne (Ne.symm nlw)]; exact e', by omega⟩
      · rw [show (R ++ [r]).map Row.d = R.map Row.d ++ [r.d] by simp]
        exact ((ry3.sm sp).append (.one (ru.sm sp))).mono (fun _ z => z) st
      · rcases List.mem_append.mp hs with hs | hs
        · exact sms s hs
        · rw [List.mem_singleton.mp hs]
          exact rsm
    · refine ⟨(by show 0 ≤ sizeLine; decide), fun p np => ?_⟩
      have sp : Sm H3 (upd H3 p (.lst [])) := Sm.new np
      have elp := sp _ _ el3
      refine ⟨l, p, ys, [], rfl, rfl, elp, upd_same, by simp; omega, ?_⟩
      have st : Stays No (upd H3 p (.lst [])) (upd (upd H3 p (.lst [])) l (.lst (ys ++ []))) := ⟨fun _ _ z => z.elim, fun b xs z => by
        rw [upd_ne fun q => by rw [q, elp] at z; cases z]
        exact z⟩
      refine ⟨_, _, R, ys ++ [], rfl, has, fun b o hb z => ?_, ?_, upd_same, ?_, by omega, W, sms⟩
      · rw [upd_ne (ne_of_none z nl)]
        exact sp _ _ (g3 b o hb (g2 b o hb z))
      · obtain ⟨a', b', c', e', h'⟩ := hw3.sm sp
        exact ⟨a', b', c', by rw [upd_ne (Ne.symm nlw)]; exact e', by omega⟩
      · rw [List.append_nil] at st ⊢
        exact (ry3.sm sp).mono (fun _ z => z) st
  · rintro σ' H2 ⟨x3, x4, R, ys, rfl, has, g2, hw2, el2, ry2, hR, W, sms⟩
    refine ⟨_, rfl, wa, 2, n + 60 * m, rfl, by decide, by decide, hw2, by omega, fun k H3 hk g3 hw3 => ⟨rfl, _, rfl, ite2 (fun _ => ?_) (fun _ => ?_)⟩⟩
    · have ry3 : DrA No H3 ys (R.map Row.d) := ry2.gn (fun _ h => h.elim) hw2 g3
      have el3 := g3 l _ nlw el2
      refine ⟨_, rfl, _, rfl, wa, l, n + 60 * m + 1, ys, R, rfl, nlw, hw3, by omega, el3, ry3, W, sms, by omega, fun u ys' F H' G g hw' nu eu ru => ?_⟩
      have hG := G.len
      exact q u ys' F H' ((g2.trans g3).free hw3 nu) G.web G.small (by omega) (by rw [G.asks]; exact has) ((g2.trans g3).trans g) (hw'.mono (by omega)) eu ru
    · have ry3 : DrA No H3 ys (R.map Row.d) := ry2.gn (fun _ h => h.elim) hw2 g3
      exact ⟨_, rfl, q l ys R H3 nl W sms (by omega) has (g2.trans g3) (hw3.mono (by omega)) (g3 l _ nlw el2) ry3⟩
end
end K8

/-! _law_loose. -/
namespace K8
open PySem PySem.Spec PyProof.Rows L2 WR
theorem noDict_at : ∀ {ds : List PyData} {j : Nat} {d : PyData}, PyData.hasDictAll ds = false → ds[j]? = some d → d.hasDict = false
  | [], j, d, _, e => by simp at e
  | x :: xs, 0, d, h, e => by
    simp only [PyData.hasDictAll, Bool.or_eq_false_iff] at h
    simp at e
    rw [← e]
    exact h.1
  | x :: xs, j + 1, d, h, e => by
    simp only [PyData.hasDictAll, Bool.or_eq_false_iff] at h
    exact noDict_at h.2 (by simpa using e)
section
variable {P : Program} {w : World} {K : PySem.W.Frag} {mg : Str → Option Value} {base : Heap}
def spLooseA : Nat → Sp
  | 0 => fun _ _ _ _ => False
  | n + 1 => fun vs H Q _ => ∃ (w : Addr) (m : Nat) (N : Addr → Prop) (v : V) (d : PyData), vs = [.ref w, v] ∧ Off w N ∧ Wl H w m ∧ m + 41 ^ n + 5000 < top0 ∧ Dr N H v d ∧ tame true d n = true ∧ d.hasDict = false ∧
    ∀ u e H', Gw w H H' → Wl H' w (m + 41 ^ n) → Dr (NwA H) H' u e → Lo d e → Q u H'
theorem sc__law_loose : FnScope ["stream", "thing", "found", "key", "part"] ["stream", "thing"] (defScope s_law_loose) := ⟨rfl, rfl, rfl, by decide +kernel, rfl, by decide +kernel, by decide +kernel⟩
theorem ok__law_loose (B : Bt mg) (F0 : Fn K mg d_law_loose) (D2 : Df P w K mg base CX0 1 "_law_draw" ["stream", "many"] spDraw) : ∀ n, Df P w K mg base CX0 (n + 2) "_law_loose" ["stream", "thing"] (spLooseA n)
  | 0 => (Df.off F0 fun f fd F => F.bindsN fun _ _ _ _ _ _ us hl => match us, hl with | [_, _], _ => rfl).mono (by decide)
  | n + 1 => by
    have D1 : Df P w K mg base CX0 (n + 2) "_law_loose" ["stream", "thing"] (spLooseA n) := ok__law_loose B F0 D2 n
    obtain ⟨f, fd, hm, F⟩ := F0
    refine ⟨f, fd, hm, F.kp, F.bindsN fun _ _ _ _ _ _ us hl => match us, hl with | [_, _], _ => rfl, ?_⟩
    refine F.ok sc__law_loose (fun vs H Q E h => by obtain ⟨w, n, N, v, d, rfl, _⟩ := h; rfl) (fun cdv A outer s H vs Q E hr h => ?_)
    obtain ⟨wa, m, N, v, d, rfl, oN, hw, hm, rd, ht, hnd, q⟩ := h
    have hr1 := hr.mono (show 1 ≤ n + 2 by omega)
    have hu1 := hu_of hr
    refine ⟨_, PSs.nox (pss_cons (ps_if (pt_val (pe_callB (call_isD kit_dict) (by rfl) B.isinstance (by decide +kernel) (pa_cons (pv 1) (pa_cons (pe_ty "dict" B.dict (by decide +kernel)) pa_nil)))) (pss_one (ps_ret (pe_callTy (call_dictP rfl) (by rfl) B.dict (by decide +kernel) (pa_cons (pe_lc (own := [("key", 3)]) (g := gName 3) (tt := tYes) rfl sc__law_loose.nd (pi_seq (pv 1)) (blkOk_by (own := [("key", 3)]) (N := ["stream", "thing", "found", "key", "part"]) (sc := defScope s_law_loose) (by decide +kernel)) (fun _ _ _ _ _ => pg_name (i := 3) sc__law_loose.nd rfl (by first | exact Or.inl rfl | exact Or.inr rfl)) (fun _ _ _ _ _ => pts_nil) (fun _ _ _ _ _ => (pe_tup (pa_cons (pv 3) (pa_cons (pe_df D1 hr pass0 (pa_cons (pv 0) (pa_cons (pe_ix (ix_K hu1) (pv 1) (pv 3) (fun _ _ => rfl)) pa_nil))) pa_nil))))) pa_nil)))) pss_nil)
      (pss_cons (ps_if (pt_not (pt_val (pe_callB (call_isD2 kit_list kit_tuple isL_or) (by rfl) B.isinstance (by decide +kernel) (pa_cons (pv 1) (pa_cons (pe_tup (pa_cons (pe_ty "list" B.list (by decide +kernel)) (pa_cons (pe_ty "tuple" B.tuple (by decide +kernel)) pa_nil))) pa_nil))))) (pss_one (ps_ret (pv 1))) pss_nil)
      (pss_cons (ps_setLc (i := 2) (own := [("part", 4)]) (g := gName 4) (tt := tYes) rfl sc__law_loose.nd rfl rfl (sw_true rfl rfl rfl (by decide +kernel)) (pi_seq (pv 1)) (blkOk_by (own := [("part", 4)]) (N := ["stream", "thing", "found", "key", "part"]) (sc := defScope s_law_loose) (by decide +kernel)) (fun _ _ _ _ _ => pg_name (i := 4) sc__law_loose.nd rfl (by first | exact Or.inl rfl | exact Or.inr rfl)) (fun _ _ _ _ _ => pts_nil) (fun _ _ _ _ _ => (pe_df D1 hr pass0 (pa_cons (pv 0) (pa_cons (pv 4) pa_nil)))))
      (pss_one (ps_ret (pe_ifExp (pt_cmpR op_gt (pe_df D2 hr1 pass0 (pa_cons (pv 0) (pa_cons pe_int pa_nil))) pe_int (nomark _)) (pv 2) (pe_callTy (call_tupN (NwA H)) (by rfl) B.tuple (by decide +kernel) (pa_cons (pv 2) pa_nil)))))))), ?_⟩
    have sz2 : ([V.ty "list", V.ty "tuple"] : List V).length ≤ sizeLine := by show 2 ≤ sizeLine; decide
    have htop : top0 = 1000000000000 := rfl
    have hd : ¬ isD d = true := fun z => by
      cases d with
      | dict ps => simp [PyData.hasDict] at hnd
      | _ => cases z
    refine ⟨_, rfl, v, d, rfl, rd.all, _, rfl, ite2 (fun z => absurd z hd) (fun _ => ?_)⟩
    refine ⟨_, rfl, sz2, fun p1 np1 => ⟨v, p1, d, rfl, upd_same, (rd.sm (Sm.new np1)).all, _, rfl, ?_⟩⟩
    have s1 : Sm H (upd H p1 (.tup [.ty "list", .ty "tuple"])) := Sm.new np1
    refine ite2 (fun z0 => ?_) (fun z0 => ?_)
    · have hl : isL d = false := by simpa using z0
      have hf : WR.fz d = true := by cases d <;> first | rfl | exact absurd rfl hd | cases hl
      refine ⟨_, rfl, q v d _ (Gw.of s1) ((hw.sm s1).mono (Nat.le_add_right _ _)) ((rd.sm s1).fz hf) (.same ?_)⟩
      cases d <;> first | rfl | exact absurd rfl hd | cases hl
    have hL : isL d = true := by simpa using z0
    generalize hH1 : upd H p1 (.tup [V.ty "list", V.ty "tuple"]) = H1 at s1
    obtain ⟨hn1, hlen, hA⟩ := tame_its ht hL
    have hndA : PyData.hasDictAll (its d) = false := by
      cases d with
      | list ds => simpa [PyData.hasDict, its] using hnd
      | tuple ds => simpa [PyData.hasDict, its] using hnd
      | _ => cases hL
    obtain ⟨k, rfl⟩ : ∃ k, n = k + 1 := ⟨n - 1, by omega⟩
    have hw1 := hw.sm s1
    have rd1 := (rd.sm s1).live
    have off1 : Off wa (fun a => N a ∧ H1 a ≠ none) := fun a h => oN a h.1
    obtain ⟨a, xs, rfl, hq, rs⟩ := rd1.seq hL
    have naw : a ≠ wa := fun z => by
      obtain ⟨a', b', c', e', _⟩ := hw1
      have : Dr (fun a => N a ∧ H1 a ≠ none) H1 (.ref a) d := rd1
      rcases hq with e | e
      · cases d with
        | list ds => cases rd1 with | lst no e2 _ => exact off1 a no (by assumption)
        | tuple ds => cases rd1 with | tup e2 _ => rw [e] at e2; cases e2
        | _ => cases hL
      · rw [z, e'] at e
        cases e
    have c1 : 1 ≤ 41 ^ k := Nat.one_le_pow _ _ (by decide)
    have c41 : 41 ^ (k + 1) = 41 ^ k * 41 := Nat.pow_succ ..
    rw [c41] at hm q
    generalize hc : 41 ^ k = c at hm q c1
    refine ⟨_, rfl, a, xs, rfl, hq, fun J hJ D nD => ?_⟩
    have nD0 : H D = none := s1.free nD
    have nDw := hw1.ne nD
    have off2 : Off wa (fun b => (No b ∨ H1 b = none) ∧ b ≠ D) := fun b h => by
      rcases h.1 with z | z
      · exact z.elim
      · exact hw1.ne z
    have mulle : ∀ j, j ≤ 40 → c * j ≤ c * 40 := fun j hj => Nat.mul_le_mul_left c hj
    refine lc_w (c := c) (n := m) (N := No) Lo (WalkW.seq hJ naw off1 hw1 rs) nD hw1 (fun _ z => z.elim) (by have : lim = 4000 := rfl; omega) (fun _ => rfl) (fun x d' j H2 Q' hd' g2 hw2 rx q' nD2 => ?_) (fun H2 ys es g2 hw2 eD ry al => ?_)
    · have hj : j < (its d).length := (List.getElem?_eq_some_iff.mp hd').1
      have := mulle j (by omega)
      have e1 : c * (j + 1) = c * j + c := Nat.mul_succ c j
      have := mulle (j + 1) (by omega)
      refine ⟨_, rfl, _, rfl, wa, m + c * j, _, x, d', rfl, off1, hw2, by rw [hc]; omega, rx, tameA_at hA hd', noDict_at hndA hd', fun u e H3 g3 hw3 r3 lo => ?_⟩
      rw [hc] at hw3
      refine q' u e H3 g3 (by rw [e1, ← Nat.add_assoc]; exact hw3) (r3.wide fun b z => ?_) lo
      exact ⟨.inr (g2.free hw2 z), fun y => nD2 (by rw [← y]; exact z)⟩
    · have := mulle (its d).length hlen
      have lo := al.lo
      refine ⟨_, rfl, wa, 3, m + c * (its d).length, rfl, by decide, by decide, hw2, by omega, fun kk H3 hk g3 hw3 => ⟨_, _, rfl, rfl, _, rfl, ?_⟩⟩
      have gD : Dr (NwA H) H3 (.ref D) (.list es) := .lst nD0 (g3 D _ nDw eD) ((ry.gn off2 hw2 g3).wide fun b z => z.1.elim (fun y => y.elim) (fun y => s1.free y))
      have gg : Gw wa H H3 := ((Gw.of s1).trans g2).trans g3
      have hw4 := hw3.mono (show m + c * (its d).length + 1 ≤ m + c * 41 by omega)
      refine ite2 (fun _ => ⟨_, rfl, q _ (.list es) H3 gg hw4 gD (.list hL lo)⟩) (fun _ => ⟨_, rfl, _, .list es, rfl, gD, rfl, fun u H4 s4 r4 => ?_⟩)
      exact q u (.tuple es) H4 (gg.trans (Gw.of s4)) (hw4.sm s4) r4 (.tuple hL lo)
end
end K8

/-! _law_a_drawn. -/
namespace K8
open PySem PySem.Spec PyProof.Rows L2 WR
theorem wAt_low {ms : List Wt} {b : Nat} (h : ∀ x ∈ ms, x.nOf ≤ b) (k : Nat) : (wAt ms k).nOf ≤ b := by
  by_cases z : k < ms.length
  · unfold wAt
    rw [List.getD_eq_getElem?_getD, List.getElem?_eq_getElem z]
    exact h _ (List.getElem_mem z)
  · unfold wAt
    rw [List.getD_eq_getElem?_getD, List.getElem?_eq_none (by omega)]
    exact Nat.zero_le _
theorem fwalk_low {R : List Row} {cs : List Bool} : ∀ m, m ≤ R.length → (fwalk R cs m).n ≤ m ∧ ∀ x ∈ (fwalk R cs m).ms, x.nOf ≤ m
  | 0, _ => by rw [fwalk_zero]; exact ⟨Nat.le_refl _, fun _ h => nomatch h⟩
  | m + 1, h => by
    obtain ⟨h1, h2⟩ := fwalk_low (R := R) (cs := cs) m (by omega)
    rw [fwalk_succ (by omega)]
    have key : (rowW R cs (fwalk R cs m) (rowAt R m)).1.nOf ≤ m ∧ (rowW R cs (fwalk R cs m) (rowAt R m)).2.2 ≤ m + 1 := by
      unfold rowW
      split
      · exact ⟨wAt_low h2 _, by show (fwalk R cs m).n ≤ _; omega⟩
      · split
        · unfold keyW
          split
          · exact ⟨wAt_low h2 _, by show (fwalk R cs m).n ≤ _; omega⟩
          · unfold newW
            split
            · exact ⟨h1, by show (fwalk R cs m).n + 1 ≤ _; omega⟩
            · exact ⟨Nat.zero_le _, by show (fwalk R cs m).n ≤ _; omega⟩
        · exact ⟨h1, by show (fwalk R cs m).n + 1 ≤ _; omega⟩
    refine ⟨key.2, fun x hx => ?_⟩
    rcases List.mem_append.mp hx with z | z
    · exact Nat.le_trans (h2 x z) (by omega)
    · rw [List.mem_singleton.mp z]
      exact Nat.le_trans key.1 (by omega)
theorem allW_low {R : List Row} {S : Fs} (h : S ∈ allW R) : S.ms.length = R.length ∧ ∀ x ∈ S.ms, x.nOf ≤ R.length := by
  have hr := mem_allW.mp h
  have := fwalk_low (R := R) (cs := S.ch) R.length (Nat.le_refl _)
  rw [hr.2] at this
  exact ⟨hr.ms_len, this.2⟩
abbrev spADrawn : Sp := fun vs H Q _ => ∃ (w va : Addr) (n : Nat) (R : List Row), vs = [.ref w, .ref va] ∧ Wl H w n ∧ n + 5000 < top0 ∧ Dr (Ne w) H (.ref va) (rowsD R) ∧ Web R ∧ R.length ≤ 40 ∧
  ∀ (ms : List Wt) (l : Addr) H', ms.length = R.length → (∀ x ∈ ms, x.nOf ≤ 100) → Gw w H H' → Wl H' w (n + 50) → H l = none → H' l = some (.lst (ms.map Wt.v)) → Q (.ref l) H'
section
variable {P : Program} {w : World} {K : PySem.W.Frag} {mg : Str → Option Value} {base : Heap}
theorem sc__law_a_drawn : FnScope ["stream", "rows", "told", "most", "at", "row", "like"] ["stream", "rows"] (defScope s_law_a_drawn) := ⟨rfl, rfl, rfl, by decide +kernel, rfl, by decide +kernel, by decide +kernel⟩
theorem ok__law_a_drawn (B : Bt mg) (F : Fn K mg d_law_a_drawn) (D0 : Df P w K mg base CX0 1 "_law_draw" ["stream", "many"] spDraw) (D1 : Df P w K mg base CX0 1 "_law_a_side" ["row", "told"] spASide) (D2 : Df P w K mg base CX0 1 "_law_a_like" ["rows", "told", "at"] spALike) :
    Df P w K mg base CX0 2 "_law_a_drawn" ["stream", "rows"] spADrawn := by
  obtain ⟨f, fd, hm, F⟩ := F
  refine ⟨f, fd, hm, F.kp, F.bindsN fun _ _ _ _ _ _ us hl => match us, hl with | [_, _], _ => rfl, ?_⟩
  refine F.ok sc__law_a_drawn (fun vs H Q E h => by obtain ⟨w, va, n, R, rfl, _⟩ := h; rfl) (fun cdv A outer s H vs Q E hr h => ?_)
  obtain ⟨wa, va, n, R, rfl, hw, hn, rr, WR', hR, q⟩ := h
  have hu := hr.units
  have hu1 := hu_of hr
  refine ⟨_, PSs.nox (pss_cons (ps_par (i := 2) (j := 3) (by rfl) sc__law_a_drawn.nd rfl rfl (by decide) rfl rfl (pa_cons (pe_lst pa_nil) (pa_cons (pe_op op_add pe_int (pe_df D0 hr pass0 (pa_cons (pv 0) (pa_cons pe_int pa_nil)))) pa_nil)) (by first | rfl | kernel_rfl))
      (pss_cons (ps_for PassesOwn.never rfl (pi_enS B.enumerate (pa_cons (pv 1) pa_nil)) (pg_tup rfl (pgs_cons (pg_name (i := 4) sc__law_a_drawn.nd rfl (by first | exact Or.inl rfl | exact Or.inr rfl)) (pgs_cons (pg_name (i := 5) sc__law_a_drawn.nd rfl (by first | exact Or.inl rfl | exact Or.inr rfl)) pgs_nil))) (C8.pss_cut (ps_set (i := 6) sc__law_a_drawn.nd rfl (by first | exact Or.inl rfl | exact Or.inr rfl) (pe_ifExp (pt_cmpR op_in_seq (pe_ix ix_D (pv 5) pe_int (fun _ _ => rfl)) (pe_tup (pa_cons pe_str (pa_cons pe_str pa_nil))) (by rfl)) (pe_df D2 hr pass0 (pa_cons (pv 1) (pa_cons (pv 2) (pa_cons (pv 4) pa_nil)))) pe_non))
      (pss_one (ps_if (pt_cmpR op_eq (pe_ix ix_D (pv 5) pe_int (fun _ _ => rfl)) pe_str (nomark _)) (pss_one (ps_expr (pe_bm PySem.F.plainAttrs_list PySem.F.slot_list_append PySem.F.type_list_append mt_append (pv 2) (pa_cons (pe_ix ix_D (pv 2) (pe_df D1 hr pass0 (pa_cons (pv 5) (pa_cons (pv 2) pa_nil))) (fun _ _ => rfl)) pa_nil)))) (pss_one (ps_if (pt_cmpR op_notN (pv 6) pe_non (nomark _)) (pss_one (ps_expr (pe_bm PySem.F.plainAttrs_list PySem.F.slot_list_append PySem.F.type_list_append mt_append (pv 2) (pa_cons (pe_ix ix_D (pv 2) (pv 6) (fun _ _ => rfl)) pa_nil)))) (pss_one (ps_expr (pe_bm PySem.F.plainAttrs_list PySem.F.slot_list_append PySem.F.type_list_append mt_append (pv 2) (pa_cons (pe_ifExp (pt_cmpR op_eq (pe_ix ix_D (pv 5) pe_int (fun _ _ => rfl)) pe_str (nomark _)) (pe_cmpR op_eq (pe_df D0 hr pass0 (pa_cons (pv 0) (pa_cons pe_int pa_nil))) pe_int (nomark _)) (pe_df D0 hr pass0 (pa_cons (pv 0) (pa_cons (pv 3) pa_nil)))) pa_nil))))))))))
      (pss_one (ps_ret (pv 2))))), ?_⟩
  have sz2 : 2 ≤ sizeLine := by decide
  have hlim : lim = 4000 := rfl
  have hsl := lim_lt
  have htop : top0 = 1000000000000 := rfl
  obtain ⟨xs, eva, rs, nva⟩ : ∃ xs, H va = some (.lst xs) ∧ DrA (Ne wa) H xs (R.map Row.d) ∧ va ≠ wa := by
    cases rr with
    | lst no e r => exact ⟨_, e, r, no⟩
  have lxs : xs.length = R.length := by rw [rs.length, List.length_map]
  have rsN : DrA No H xs (R.map Row.d) := rs.fz (rowsFz R)
  -- told, most
  refine ⟨(by show 0 ≤ sizeLine; decide), fun l nl => ?_⟩
  have el : upd H l (.lst []) l = some (.lst []) := upd_same
  have s1 := Sm.new (o := .lst []) nl
  have nlw : l ≠ wa := hw.ne nl
  generalize upd H l (.lst []) = H1 at el s1 ⊢
  refine ⟨_, rfl, wa, 5, n, rfl, by decide, by decide, hw.sm s1, by omega, fun k0 H2 hk0 g2 hw2 => ?_⟩
  refine ⟨_, _, rfl, rfl, _, _, rfl, ?_⟩
  have g02 := (Gw.of s1).trans g2
  have el2 := g2 l _ nlw el
  refine ⟨_, rfl, va, xs, rfl, .inl (g02 va _ nva eva), fun J hJ => ?_⟩
  refine for_enS hJ (fun i σ4 H4 => ∃ (ms : List Wt) (x4 x5 x6 : Option V), σ4 = [some (.ref wa), some (.ref va), some (.ref l), some (.int (1 + (k0 : Int))), x4, x5, x6] ∧ Gw wa H H4 ∧ Wl H4 wa (n + 1 + i) ∧ ms.length = i ∧ (∀ x ∈ ms, x.nOf ≤ 100) ∧ (∀ k, k < i → (wAt ms k).isB = (rowAt R k).isAsked) ∧ H4 l = some (.lst (ms.map Wt.v))) ?_ ?_ ?_ ?_
  · exact ⟨[], _, _, _, rfl, g02, hw2, rfl, (fun _ h => nomatch h), fun k hk => absurd hk (Nat.not_lt_zero _), el2⟩
  · rintro i σ4 H4 ⟨_, _, _, _, _, g, _⟩
    rw [g _ _ nva eva, g02 _ _ nva eva]
  · rintro i x σ4 H4 T hx ⟨ms, x4, x5, x6, rfl, g4, hw4, hl, low, kinds, el4⟩ nT
    have hix := (List.getElem?_eq_some_iff.mp hx).1
    have hiR : i < R.length := by omega
    subst hl
    have M := WR'.mw hiR kinds
    have sT := Sm.new (o := .tup [.int (ms.length : Nat), x]) nT
    have g5 := g4.trans (Gw.of sT)
    have hw5 := hw4.sm sT
    have el5 := sT _ _ el4
    obtain ⟨dx, e1, rx⟩ := rsN.get hx
    have rx5 := rx.gn (fun _ z => z.elim) hw g5
    have rr5 := rr.gn (fun _ z => z) hw g5
    have edx : dx = (rowAt R ms.length).d := by
      rw [List.getElem?_map, List.getElem?_eq_getElem hiR] at e1
      rw [rowAt_get hiR]
      exact (Option.some.inj e1).symm
    subst edx
    refine ⟨T, _, rfl, SqT.of upd_same, rfl, _, _, rfl, _, _, rfl, rfl, ?_⟩
    generalize upd H4 T (.tup [.int (ms.length : Nat), x]) = H5 at g5 hw5 el5 rx5 rr5 ⊢
    clear sT
    have askd := M.kinds
    generalize hr0 : rowAt R ms.length = r at *
    have mfl : ∀ H', Sm H5 H' → Mf All H' (.ref l) ms := fun H' s' => ⟨_, .lst trivial (s' _ _ el5) (wts_dr ms), rfl, fun k hk => wts_at hk⟩
    -- like
    refine ⟨fun σ6 H6 => σ6 = [some (.ref wa), some (.ref va), some (.ref l), some (.int (1 + (k0 : Int))), some (.int (ms.length : Nat)), some x, some (natO (if r.keyed = true then firstLike R ms r else none))] ∧ Sm H5 H6, ?_, ?_⟩
    · refine ⟨_, rfl, _, 0, _, rx5.all, Row.seqD _, rfl, Row.word_at _, fun x0 r0 => ?_⟩
      cases r0.str_inv
      refine ⟨sz2, fun p np => ⟨p, [V.str "made", V.str "asked"], rfl, .inr (SqT.of upd_same), rfl, rfl, _, rfl, ?_⟩⟩
      rw [if_neg Bool.false_ne_true, inV_keyed]
      have sp := Sm.new (o := .tup [V.str "made", V.str "asked"]) np
      generalize upd H5 p (.tup [V.str "made", V.str "asked"]) = H9 at sp ⊢
      cases hk : r.keyed with
      | false => exact iteF ⟨rfl, sp⟩
      | true =>
        refine iteT ⟨_, rfl, _, rfl, _, rfl, .ref va, .ref l, R, ms, rfl, (rr5.sm sp).all, mfl _ sp, M, hiR, by omega, fun r' hr' => WR'.ok r' hr', by rw [hr0]; exact hk, fun k hk' => WR'.parts_na (by omega), fun H' s' => ?_⟩
        rw [hr0]
        exact ⟨rfl, sp.trans s'⟩
    rintro σ6 H6 ⟨rfl, s6⟩
    have rx6 := (rx5.sm s6).all
    have el6 := s6 _ _ el5
    have mf6 := mfl _ s6
    have g06 := g5.trans (Gw.of s6)
    have hw6 := hw5.sm s6
    -- told.append(y)
    have fin : ∀ (y : Wt) (H7 : Hp), Gw wa H6 H7 → Wl H7 wa (n + 1 + (ms.length + 1)) → y.isB = r.isAsked → y.nOf ≤ 100 → ∀ x6', rAppend (.ref l) [y.v] H7 fun _ H8 => ∃ (ms' : List Wt) (x4 x5 x6 : Option V), [some (.ref wa), some (.ref va), some (.ref l), some (.int (1 + (k0 : Int))), some (.int (ms.length : Nat)), some x, x6'] = [some (.ref wa), some (.ref va), some (.ref l), some (.int (1 + (k0 : Int))), x4, x5, x6] ∧ Gw wa H H8 ∧ Wl H8 wa (n + 1 + (ms.length + 1)) ∧ ms'.length = ms.length + 1 ∧ (∀ x ∈ ms', x.nOf ≤ 100) ∧ (∀ k, k < ms.length + 1 → (wAt ms' k).isB = (rowAt R k).isAsked) ∧ H8 l = some (.lst (ms'.map Wt.v)) := fun y H7 g7 hw7 hy hlow x6' => by
      have el7 := g7 l _ nlw el6
      refine ⟨l, _, _, rfl, rfl, el7, by rw [List.length_map]; omega, ?_⟩
      refine ⟨ms ++ [y], _, _, _, rfl, fun b o hb z => ?_, ?_, by simp, fun z hz => ?_, fun k hk => ?_, ?_⟩
      · rw [upd_ne (ne_of_none z nl)]
        exact g7 b o hb (g06 b o hb z)
      · obtain ⟨a', b', c', e', h'⟩ := hw7
        exact ⟨a', b', c', by rw [upd_ne (Ne.symm nlw)]; exact e', h'⟩
      · rcases List.mem_append.mp hz with y' | y'
        · exact low z y'
        · rw [List.mem_singleton.mp y']
          exact hlow
      · by_cases z : k < ms.length
        · rw [wAt_app z]
          exact kinds k z
        · obtain rfl : k = ms.length := by omega
          rw [wAt_last, hr0]
          exact hy
      · rw [upd_same]
        simp
    refine ⟨_, rfl, _, 0, _, rx6, Row.seqD _, rfl, Row.word_at _, fun x0 r0 => ?_⟩
    cases r0.str_inv
    refine ⟨rfl, _, rfl, ?_⟩
    rw [Row.eitherW]
    have hw7 : Wl H6 wa (n + 1 + (ms.length + 1)) := hw6.mono (by omega)
    have drawn : ∀ (x6' : Option V), tDrop (tBM K "list" rAppend (tVar 2) (tCons (tIf (tTest (tOp rEq (tOp WR.rIxD (tVar 5) (tC (V.int 0))) (tC (V.str (Str.ofString "asked"))))) (tOp rEq (tCall spDraw [] E0 (tCons (tVar 0) (tCons (tC (V.int 2)) tNil))) (tC (V.int 0))) (tCall spDraw [] E0 (tCons (tVar 0) (tCons (tVar 3) tNil)))) tNil)) { nx := fun σ4 H4 => ∃ (ms' : List Wt) (x4 x5 x6 : Option V), σ4 = [some (.ref wa), some (.ref va), some (.ref l), some (.int (1 + (k0 : Int))), x4, x5, x6] ∧ Gw wa H H4 ∧ Wl H4 wa (n + 1 + (ms.length + 1)) ∧ ms'.length = ms.length + 1 ∧ (∀ x ∈ ms', x.nOf ≤ 100) ∧ (∀ k, k < ms.length + 1 → (wAt ms' k).isB = (rowAt R k).isAsked) ∧ H4 l = some (.lst (ms'.map Wt.v)), rt := Q } [some (.ref wa), some (.ref va), some (.ref l), some (.int (1 + (k0 : Int))), some (.int (ms.length : Nat)), some x, x6'] H6 := fun x6' => by
      refine ⟨_, rfl, .inl ⟨rfl, _, SqL.of el6⟩, ?_⟩
      refine ⟨_, rfl, _, 0, _, rx6, Row.seqD _, rfl, Row.word_at _, fun x0 r0 => ?_⟩
      cases r0.str_inv
      refine ⟨rfl, _, rfl, ?_⟩
      rw [Row.askedP]
      refine ite2 (fun ha => ?_) (fun ha => ?_)
      · refine ⟨_, rfl, wa, 2, _, rfl, by decide, by decide, hw6, by omega, fun k1 H7 hk1 g7 hw7' => ⟨rfl, ?_⟩⟩
        exact fin (.b (decide (V.int (k1 : Nat) = V.int 0))) H7 g7 (hw7'.mono (by omega)) ha.symm (Nat.zero_le _) _
      · refine ⟨_, rfl, _, rfl, wa, 1 + k0, _, by rw [Int.natCast_add]; rfl, by omega, by omega, hw6, by omega, fun k1 H7 hk1 g7 hw7' => ?_⟩
        exact fin (.n k1) H7 g7 (hw7'.mono (by omega)) (by rw [show r.isAsked = false by simpa using ha]; rfl) (by show k1 ≤ 100; omega) _
    have liked : ∀ k, firstLike R ms r = some k → r.keyed = true → tDrop (tBM K "list" rAppend (tVar 2) (tCons (tOp WR.rIxD (tVar 2) (tVar 6)) tNil)) { nx := fun σ4 H4 => ∃ (ms' : List Wt) (x4 x5 x6 : Option V), σ4 = [some (.ref wa), some (.ref va), some (.ref l), some (.int (1 + (k0 : Int))), x4, x5, x6] ∧ Gw wa H H4 ∧ Wl H4 wa (n + 1 + (ms.length + 1)) ∧ ms'.length = ms.length + 1 ∧ (∀ x ∈ ms', x.nOf ≤ 100) ∧ (∀ k, k < ms.length + 1 → (wAt ms' k).isB = (rowAt R k).isAsked) ∧ H4 l = some (.lst (ms'.map Wt.v)), rt := Q } [some (.ref wa), some (.ref va), some (.ref l), some (.int (1 + (k0 : Int))), some (.int (ms.length : Nat)), some x, some (.int (k : Nat))] H6 := fun k hf hk => by
      obtain ⟨k1, k2, k3⟩ := kfind_lt hf
      have hww : (rowAt R k).word = r.word := congrArg (·.1) k3
      refine ⟨_, rfl, .inl ⟨rfl, _, SqL.of el6⟩, _, rfl, _, rfl, _, k, _, .lst trivial el6 (wts_dr ms), rfl, rfl, wts_at k1, fun z rz => ?_⟩
      cases Wt.dr_v rz
      exact fin (wAt ms k) H6 (Gw.of Sm.rfl') hw7 (by rw [askd k k1, word_asked hww]) (wAt_low low k) _
    have rest : r.keyed = true ∨ r.isEither = false → r.isEither = false → tIfS (tTest (tOp (fun x y H Q => y = V.non ∧ Q (V.bl !decide (x = V.non)) H) (tVar 6) (tC V.non))) (tDrop (tBM K "list" rAppend (tVar 2) (tCons (tOp WR.rIxD (tVar 2) (tVar 6)) tNil))) (tDrop (tBM K "list" rAppend (tVar 2) (tCons (tIf (tTest (tOp rEq (tOp WR.rIxD (tVar 5) (tC (V.int 0))) (tC (V.str (Str.ofString "asked"))))) (tOp rEq (tCall spDraw [] E0 (tCons (tVar 0) (tCons (tC (V.int 2)) tNil))) (tC (V.int 0))) (tCall spDraw [] E0 (tCons (tVar 0) (tCons (tVar 3) tNil)))) tNil))) { nx := fun σ4 H4 => ∃ (ms' : List Wt) (x4 x5 x6 : Option V), σ4 = [some (.ref wa), some (.ref va), some (.ref l), some (.int (1 + (k0 : Int))), x4, x5, x6] ∧ Gw wa H H4 ∧ Wl H4 wa (n + 1 + (ms.length + 1)) ∧ ms'.length = ms.length + 1 ∧ (∀ x ∈ ms', x.nOf ≤ 100) ∧ (∀ k, k < ms.length + 1 → (wAt ms' k).isB = (rowAt R k).isAsked) ∧ H4 l = some (.lst (ms'.map Wt.v)), rt := Q } [some (.ref wa), some (.ref va), some (.ref l), some (.int (1 + (k0 : Int))), some (.int (ms.length : Nat)), some x, some (natO (if r.keyed = true then firstLike R ms r else none))] H6 := fun _ _ => by
      cases hL : (if r.keyed = true then firstLike R ms r else none) with
      | none => exact ⟨_, rfl, rfl, _, rfl, iteF (drawn _)⟩
      | some k =>
        have hk : r.keyed = true := by
          by_cases z : r.keyed = true
          · exact z
          · rw [if_neg z] at hL
            cases hL
        rw [if_pos hk] at hL
        refine ⟨_, rfl, rfl, _, rfl, ?_⟩
        rw [show (!decide (natO (some k) = V.non)) = true by simp [natO]]
        exact iteT (liked k hL hk)
    cases r with
    | either c i j =>
      refine iteT ?_
      obtain ⟨h1, h2, hc⟩ := Web.side_lt M hr0
      obtain ⟨xb, hxb⟩ : ∃ xb, wAt ms c = .b xb := by
        have := M.kinds c hc
        rw [M.tests c i j hr0] at this
        cases z : wAt ms c with
        | b xb => exact ⟨xb, rfl⟩
        | n k => rw [z] at this; cases this
      refine ⟨_, rfl, .inl ⟨rfl, _, SqL.of el6⟩, _, rfl, _, rfl, _, rfl, x, .ref l, c, i, j, ms, xb, rfl, rx6, ⟨_, .lst trivial el6 (wts_dr ms), rfl, fun k hk => by rw [List.mem_singleton.mp hk]; exact wts_at hc⟩, hxb, ?_⟩
      refine ⟨_, _, _, .lst trivial el6 (wts_dr ms), rfl, rfl, wts_at h1, fun z rz => ?_⟩
      cases Wt.dr_v rz
      exact fin _ H6 (Gw.of Sm.rfl') hw7 (by rw [M.kinds _ h1, h2]; rfl) (wAt_low low _) _
    | asked nm ks => exact iteF (rest (.inr rfl) rfl)
    | given k => exact iteF (rest (.inr rfl) rfl)
    | made nm ks => exact iteF (rest (.inr rfl) rfl)
  · rintro σ4 H4 ⟨ms, x4, x5, x6, rfl, g4, hw4, hl, low, kinds, el4⟩
    rw [lxs] at hl hw4
    exact ⟨_, rfl, q ms l H4 hl low g4 (hw4.mono (by omega)) nl el4⟩
end
end K8

/-! Rules and data for _law_bent. -/
namespace K8
open PySem PySem.Spec PyProof.Rows L2 WR
def addB : V → Int → Option V
  | .int j, i => some (.int (j + i))
  | .bl b, i => some (.int ((if b = true then (1 : Int) else 0) + i))
  | _, _ => none
theorem op_addBI {X : Cx} : OpR X (binaryOp .Add) (fun x y H Q => ∃ (i : Int) (z : V), y = .int i ∧ addB x i = some z ∧ Q z H) := by
  intro pins s σ H x y v u Q I rx ry h
  obtain ⟨i, z, rfl, e, q⟩ := h
  obtain ⟨t, rfl⟩ := ry
  cases x with
  | int j =>
    cases e
    obtain ⟨t2, rfl⟩ := rx
    exact add_int ⟨.int (j + i), H, I.tok _, ⟨_, rfl⟩, q⟩
  | bl b =>
    cases e
    cases rx
    exact IntBool.add_bool_int ⟨.int ((if b = true then (1 : Int) else 0) + i), H, I.tok _, ⟨_, rfl⟩, q⟩
  | _ => cases e
def intB : V → Option V
  | .int j => some (.int j)
  | .bl b => some (.int (if b = true then (1 : Int) else 0))
  | _ => none
theorem call_intB {X : Cx} : CallR X (.type "int") (fun xs H Q => ∃ x z, xs = [x] ∧ intB x = some z ∧ Q z H) := by
  intro pins s σ H xs us Q I r h
  obtain ⟨x, z, rfl, e, q⟩ := h
  refine call_int1 pins s σ H _ us Q I r ?_
  cases x with
  | int j =>
    cases e
    exact .inl ⟨j, rfl, q⟩
  | bl b =>
    cases e
    exact .inr ⟨b, rfl, q⟩
  | _ => cases e
def Wt.iOf : Wt → Nat
  | .n k => k
  | .b c => if c = true then 1 else 0
def Wt.tr : Wt → Bool
  | .n k => ((k : Int) != 0)
  | .b c => c
theorem Wt.addB (x : Wt) : K8.addB x.v 1 = some (.int ((x.iOf + 1 : Nat) : Int)) := by
  cases x with
  | n k => rfl
  | b b => cases b <;> rfl
theorem Wt.intB (x : Wt) : K8.intB x.v = some (.int (x.iOf : Nat)) := by
  cases x with
  | n k => rfl
  | b b => cases b <;> rfl
theorem Wt.tru (K : PySem.W.Frag) (H : Hp) (x : Wt) : TruV K x.v H x.tr := by
  cases x with
  | n k => rfl
  | b b => rfl
theorem Wt.iOf_le {x : Wt} (h : x.nOf ≤ 100) : x.iOf ≤ 100 := by
  cases x with
  | n k => exact h
  | b b => cases b <;> decide
theorem cutV_map (ms : List Wt) (lo hi : Option Int) : cutV (ms.map Wt.v) lo hi = (cutA ms lo hi).map Wt.v := by
  unfold cutV cutA
  rw [List.length_map, List.map_take, List.map_drop]
theorem cutA_mem {α : Type} {xs : List α} {lo hi : Option Int} {x : α} (h : x ∈ cutA xs lo hi) : x ∈ xs := by
  unfold cutA at h
  exact List.mem_of_mem_drop (List.mem_of_mem_take h)
theorem cutA_len {α : Type} (xs : List α) (lo hi : Option Int) : (cutA xs lo hi).length ≤ xs.length := by
  unfold cutA
  rw [List.length_take, List.length_drop]
  omega
theorem small_log {k : Nat} (h : k ≤ 1000) : ((k : Int)).natAbs.log2 < 100 := by
  rw [Int.natAbs_natCast]
  by_cases z : k = 0
  · subst z; decide
  · exact (Nat.log2_lt z).mpr (Nat.lt_of_le_of_lt h (by decide))
theorem tame_nat {k n : Nat} (h : k ≤ 1000) : tame true (.int (k : Nat)) n = true := by
  simp only [tame, decide_eq_true_eq]
  exact small_log h
theorem Wt.tame {x : Wt} {n : Nat} (h : x.nOf ≤ 100) : tame true x.d n = true := by
  cases x with
  | n k => exact tame_nat (show k ≤ 1000 by have : k ≤ 100 := h; omega)
  | b b => simp [Wt.d, K8.tame]
theorem tameA_every {n : Nat} : ∀ {ds : List PyData}, (∀ d ∈ ds, tame true d n = true) → tameA true ds n = true
  | [], _ => by simp only [tameA]
  | d :: ds, h => by
    simp only [tameA, Bool.and_eq_true]
    exact ⟨h d (List.mem_cons_self ..), tameA_every fun e he => h e (List.mem_cons_of_mem _ he)⟩
theorem tame_list {ds : List PyData} (hl : ds.length ≤ 40) (h : ∀ d ∈ ds, tame true d 2 = true) : tame true (.list ds) 3 = true := by
  simp only [tame, Bool.and_eq_true, decide_eq_true_eq]
  exact ⟨⟨by decide, by unfold capT; rw [if_neg (by decide)]; exact hl⟩, tameA_every h⟩
theorem tame_tuple {ds : List PyData} (hl : ds.length ≤ 40) (h : ∀ d ∈ ds, tame true d 2 = true) : tame true (.tuple ds) 3 = true := by
  simp only [tame, Bool.and_eq_true, decide_eq_true_eq]
  exact ⟨⟨by decide, by unfold capT; rw [if_neg (by decide)]; exact hl⟩, tameA_every h⟩
theorem tame_up {d : PyData} (h : tame true d 2 = true) : tame true d 3 = true → True := fun _ => trivial
theorem wts_tame {ms : List Wt} {n : Nat} (h : ∀ x ∈ ms, x.nOf ≤ 100) : ∀ d ∈ ms.map Wt.d, tame true d n = true := fun d hd => by
  obtain ⟨x, hx, rfl⟩ := List.mem_map.mp hd
  exact Wt.tame (h x hx)
theorem wts_drN {N : Addr → Prop} {H : Hp} : ∀ ms : List Wt, DrA N H (ms.map Wt.v) (ms.map Wt.d)
  | [] => .nil
  | .n k :: ms => .cons (.int _) (wts_drN ms)
  | .b b :: ms => .cons (.bl _) (wts_drN ms)
theorem wts_fz : ∀ ms : List Wt, fzA (ms.map Wt.d) = true
  | [] => rfl
  | .n k :: ms => by
    have := wts_fz ms
    simp only [List.map_cons, Wt.d, fzA, WR.fz, Bool.true_and]
    exact this
  | .b b :: ms => by
    have := wts_fz ms
    simp only [List.map_cons, Wt.d, fzA, WR.fz, Bool.true_and]
    exact this
theorem rep_flat {α : Type} (k : Nat) (x : α) : (List.replicate k [x]).flatten = List.replicate k x := by
  induction k with
  | zero => rfl
  | succ k ih => rw [List.replicate_succ, List.flatten_cons, ih]; rfl
theorem rep_dr {N : Addr → Prop} {H : Hp} {v : V} {d : PyData} (r : Dr N H v d) : ∀ k : Nat, DrA N H (List.replicate k v) (List.replicate k d)
  | 0 => .nil
  | k + 1 => .cons r (rep_dr r k)
theorem rep_tame {d : PyData} {n k : Nat} (h : tame true d n = true) : ∀ e ∈ List.replicate k d, tame true e n = true := fun e he => by
  rw [(List.mem_replicate.mp he).2]
  exact h
end K8

/-! _law_bent. -/
namespace K8
open PySem PySem.Spec PyProof.Rows L2 WR
abbrev spABent : Sp := fun vs H Q _ => ∃ (w l : Addr) (n : Nat) (v : V) (R : List Row) (ms : List Wt), vs = [.ref w, v, .ref l] ∧ Wl H w n ∧ n + 5000 < top0 ∧ Dr (Ne w) H v (rowsD R) ∧ (∀ r ∈ R, r.ok) ∧ R.length ≤ 18 ∧ l ≠ w ∧ H l = some (.lst (ms.map Wt.v)) ∧ ms.length = R.length ∧ (∀ x ∈ ms, x.nOf ≤ 100) ∧
  ∀ (p : Addr) (ys : List V) (ds : List PyData) H', Gw w H H' → Wl H' w (n + 40) → H' p = some (.lst ys) → DrA All H' ys ds → (∀ d ∈ ds, tame true d 3 = true) → ds.length ≤ 30 → Q (.ref p) H'
section
variable {P : Program} {w : World} {K : PySem.W.Frag} {mg : Str → Option Value} {base : Heap}
theorem sc__law_bent : FnScope ["stream", "rows", "told", "found", "turn", "at", "some"] ["stream", "rows", "told"] (defScope s_law_bent) := ⟨rfl, rfl, rfl, by decide +kernel, rfl, by decide +kernel, by decide +kernel⟩
theorem ok__law_bent (B : Bt mg) (F : Fn K mg d_law_bent) (D0 : Df P w K mg base CX0 1 "_law_draw" ["stream", "many"] spDraw) (D1 : Df P w K mg base CX0 2 "_law_pick" ["stream", "things"] spPick) :
    Df P w K mg base CX0 3 "_law_bent" ["stream", "rows", "told"] spABent := by
  obtain ⟨f, fd, hm, F⟩ := F
  refine ⟨f, fd, hm, F.kp, F.bindsN fun _ _ _ _ _ _ us hl => match us, hl with | [_, _, _], _ => rfl, ?_⟩
  refine F.ok sc__law_bent (fun vs H Q E h => by obtain ⟨w, l, n, v, R, ms, rfl, _⟩ := h; rfl) (fun cdv A outer s H vs Q E hr h => ?_)
  obtain ⟨wa, l, n, v, R, ms, rfl, hw, hn, rr, rok, hR, nlw, el, hl, hlow, q⟩ := h
  have hu := hr.un
  have hr1 := hr.mono (show 1 ≤ 2 by decide)
  have hu1 := hu_of hr
  have hu64 : (A.deeper (envOfC d_law_bent.qual d_law_bent.scope s.heap.objs.size f cdv)).units + 64 < cLine := by omega
  refine ⟨_, PSs.nox (pss_cons (ps_set (i := 3) sc__law_bent.nd rfl (by first | exact Or.inl rfl | exact Or.inr rfl) (pe_lst (pa_cons (pv 2) (pa_cons (pe_callTy call_tupD (by rfl) B.tuple (by decide +kernel) (pa_cons (pv 2) pa_nil)) (pa_cons (pe_slice sl_list (pv 2) po_none (po_some (pe_un un_neg pe_int))) (pa_cons (pe_op op_cat (pv 2) (pe_lst (pa_cons pe_int pa_nil))) (pa_cons (pe_slice sl_list (pv 2) (po_some pe_int) po_none) (pa_cons pe_non (pa_cons pe_int (pa_cons pe_str (pa_cons pe_dnewK (pa_cons (pe_lst pa_nil) pa_nil))))))))))))
      (pss_cons (ps_expr (pe_bm PySem.F.plainAttrs_list PySem.F.slot_list_extend PySem.F.type_list_extend mt_extend (pv 3) (pa_cons (pe_lst (pa_cons (pe_op op_rep (pe_lst (pa_cons pe_non pa_nil)) (pe_callB call_lenS (by rfl) B.len (by decide +kernel) (pa_cons (pv 1) pa_nil))) (pa_cons (pe_op op_rep (pe_lst (pa_cons pe_bl pa_nil)) (pe_callB call_lenS (by rfl) B.len (by decide +kernel) (pa_cons (pv 1) pa_nil))) pa_nil))) pa_nil)))
      (pss_cons (ps_for PassesOwn.never rfl (pi_range1 rfl B.range (pa_cons (pe_ifExp (pt_cmpR (op_neDr hu64) (pv 1) (pe_lst pa_nil) (nomark _)) pe_int pe_int) pa_nil)) (pg_name (i := 4) sc__law_bent.nd rfl (by first | exact Or.inl rfl | exact Or.inr rfl)) (pss_cons (ps_set (i := 5) sc__law_bent.nd rfl (by first | exact Or.inl rfl | exact Or.inr rfl) (pe_df D0 hr1 pass0 (pa_cons (pv 0) (pa_cons (pe_callB call_lenS (by rfl) B.len (by decide +kernel) (pa_cons (pv 1) pa_nil)) pa_nil))))
      (pss_cons (ps_set (i := 6) sc__law_bent.nd rfl (by first | exact Or.inl rfl | exact Or.inr rfl) (pe_lst (pa_cons pe_non (pa_cons (pe_un un_neg pe_int) (pa_cons pe_str (pa_cons (pe_lst (pa_cons (pe_ix ix_D (pv 2) (pv 5) (fun _ _ => rfl)) pa_nil)) (pa_cons pe_dnewK (pa_cons pe_bl (pa_cons pe_bl (pa_cons pe_int (pa_cons pe_int (pa_cons pe_int (pa_cons (pe_op op_addBI (pe_ix ix_D (pv 2) (pv 5) (fun _ _ => rfl)) pe_int) (pa_cons (pe_notT (pe_ix ix_D (pv 2) (pv 5) (fun _ _ => rfl))) (pa_cons (pe_op op_pow pe_int pe_int) pa_nil)))))))))))))))
      (pss_cons (ps_expr (pe_bm PySem.F.plainAttrs_list PySem.F.slot_list_extend PySem.F.type_list_extend mt_extend (pv 6) (pa_cons (pe_lst (pa_cons (pe_callTy call_intB (by rfl) B.int (by decide +kernel) (pa_cons (pe_ix ix_D (pv 2) (pv 5) (fun _ _ => rfl)) pa_nil)) (pa_cons (pe_ix ix_D (pv 2) (pe_df D0 hr1 pass0 (pa_cons (pv 0) (pa_cons (pe_callB call_lenS (by rfl) B.len (by decide +kernel) (pa_cons (pv 1) pa_nil)) pa_nil))) (fun _ _ => rfl)) pa_nil))) pa_nil)))
      (pss_one (ps_expr (pe_bm PySem.F.plainAttrs_list PySem.F.slot_list_append PySem.F.type_list_append mt_append (pv 3) (pa_cons (pe_op op_cat (pe_op op_cat (pe_slice sl_list (pv 2) po_none (po_some (pv 5))) (pe_lst (pa_cons (pe_df D1 hr pass0 (pa_cons (pv 0) (pa_cons (pv 6) pa_nil))) pa_nil))) (pe_slice sl_list (pv 2) (po_some (pe_op op_add (pv 5) pe_int)) po_none)) pa_nil))))))))
      (pss_one (ps_ret (pv 3)))))), ?_⟩
  have hlim : lim = 4000 := rfl
  have hsl := lim_lt
  have htop : top0 = 1000000000000 := rfl
  have sz0 : 0 ≤ sizeLine := Nat.zero_le _
  have sz : ∀ k, k ≤ 100 → k ≤ sizeLine := fun k hk => by omega
  have lmv : (ms.map Wt.v).length = R.length := by rw [List.length_map, hl]
  -- found
  refine ⟨_, rfl, _, rfl, .ref l, .list (ms.map Wt.d), rfl, .lst trivial el (wts_dr ms), rfl, fun tv H1 s1 rt => ?_⟩
  have rt1 : Dr No H1 tv (.tuple (ms.map Wt.d)) := rt.fz (by simp only [WR.fz]; exact wts_fz ms)
  refine ⟨_, rfl, _, rfl, _, rfl, l, _, rfl, SqL.of (s1 _ _ el), fun p1 np1 => ?_⟩
  rw [cutV_map]
  have s2 := Sm.new (o := .lst ((cutA ms none (some (-1))).map Wt.v)) np1
  have e1 : upd H1 p1 (.lst ((cutA ms none (some (-1))).map Wt.v)) p1 = some (.lst ((cutA ms none (some (-1))).map Wt.v)) := upd_same
  have n1w : p1 ≠ wa := (hw.sm s1).ne np1
  generalize upd H1 p1 (.lst ((cutA ms none (some (-1))).map Wt.v)) = H2 at s2 e1 ⊢
  have s02 := s1.trans s2
  refine ⟨_, rfl, sz 1 (by decide), fun p2 np2 => ⟨l, p2, _, _, rfl, rfl, (Sm.new np2) _ _ (s02 _ _ el), upd_same, by rw [lmv]; simp; omega, fun p3 np3 => ?_⟩⟩
  have s3 := (Sm.new (o := .lst [.int 0]) np2).trans (Sm.new (o := .lst (ms.map Wt.v ++ [.int 0])) np3)
  have e3 : upd (upd H2 p2 (.lst [.int 0])) p3 (.lst (ms.map Wt.v ++ [.int 0])) p3 = some (.lst (ms.map Wt.v ++ [.int 0])) := upd_same
  have n3w : p3 ≠ wa := ((hw.sm s02).sm (Sm.new (o := .lst [.int 0]) np2)).ne np3
  generalize upd (upd H2 p2 (.lst [.int 0])) p3 (.lst (ms.map Wt.v ++ [.int 0])) = H3 at s3 e3 ⊢
  have s03 := s02.trans s3
  refine ⟨_, rfl, _, rfl, l, _, rfl, SqL.of (s03 _ _ el), fun p4 np4 => ?_⟩
  rw [cutV_map]
  have s4 := Sm.new (o := .lst ((cutA ms (some 1) none).map Wt.v)) np4
  have e4 : upd H3 p4 (.lst ((cutA ms (some 1) none).map Wt.v)) p4 = some (.lst ((cutA ms (some 1) none).map Wt.v)) := upd_same
  have n4w : p4 ≠ wa := (hw.sm s03).ne np4
  generalize upd H3 p4 (.lst ((cutA ms (some 1) none).map Wt.v)) = H4 at s4 e4 ⊢
  have s04 := s03.trans s4
  intro p5 np5
  refine ⟨sz0, fun p6 np6 => ?_⟩
  have s5 := Sm.new (o := .dK []) np5
  have s6 := Sm.new (o := .lst []) np6
  have n5w : p5 ≠ wa := (hw.sm s04).ne np5
  have n6w : p6 ≠ wa := ((hw.sm s04).sm s5).ne np6
  have e5 : upd (upd H4 p5 (.dK [])) p6 (.lst []) p5 = some (.dK []) := s6 _ _ upd_same
  have e6 : upd (upd H4 p5 (.dK [])) p6 (.lst []) p6 = some (.lst []) := upd_same
  have s56 := s5.trans s6
  generalize upd (upd H4 p5 (.dK [])) p6 (.lst []) = H5 at s56 e5 e6 ⊢
  clear s5 s6
  have s05 := s04.trans s56
  refine ⟨sz 10 (by decide), fun fp nfp => ?_⟩
  have nfw : fp ≠ wa := (hw.sm s05).ne nfp
  have live : ∀ {a o}, H5 a = some o → a ≠ fp := fun e z => by rw [z, nfp] at e; cases e
  have efp : ∀ ys0, upd H5 fp (.lst ys0) fp = some (.lst ys0) := fun _ => upd_same
  have sf : ∀ ys0, Sm H5 (upd H5 fp (.lst ys0)) := fun _ => Sm.new nfp
  have k1 := (s3.trans (s4.trans s56)) _ _ e1
  have k3 := (s4.trans s56) _ _ e3
  have k4 := s56 _ _ e4
  have kl := s05 _ _ el
  obtain ⟨N, hN⟩ : ∃ N : Addr → Prop, N = fun a => a ≠ wa ∧ a ≠ fp := ⟨_, rfl⟩
  have mkN : ∀ a, a ≠ wa → a ≠ fp → N a := fun a h1 h2 => by rw [hN]; exact ⟨h1, h2⟩
  have m1 : ∀ x ∈ cutA ms none (some (-1)), x.nOf ≤ 100 := fun x hx => hlow x (cutA_mem hx)
  have m4 : ∀ x ∈ cutA ms (some 1) none, x.nOf ≤ 100 := fun x hx => hlow x (cutA_mem hx)
  have base0 : ∀ {H6}, Sm H5 H6 → DrA N H6 [.ref l, tv, .ref p1, .ref p3, .ref p4, .non, .int 5, .str "ab", .ref p5, .ref p6] [.list (ms.map Wt.d), .tuple (ms.map Wt.d), .list ((cutA ms none (some (-1))).map Wt.d), .list (ms.map Wt.d ++ [.int (0 : Nat)]), .list ((cutA ms (some 1) none).map Wt.d), .none, .int 5, .str "ab", .dict [], .list []] := fun s =>
    .cons (.lst (mkN _ nlw (live kl)) (s _ _ kl) (wts_drN ms)) (.cons (((rt1.sm (s2.trans (s3.trans (s4.trans s56)))).sm s).wide fun _ z => z.elim) (.cons (.lst (mkN _ n1w (live k1)) (s _ _ k1) (wts_drN _)) (.cons (.lst (mkN _ n3w (live k3)) (s _ _ k3) ((wts_drN ms).append (.one (.int _)))) (.cons (.lst (mkN _ n4w (live k4)) (s _ _ k4) (wts_drN _)) (.cons .non (.cons (.int _) (.cons (.str _) (.cons (.dct (mkN _ n5w (live e5)) (s _ _ e5) .nil) (.one (.lst (mkN _ n6w (live e6)) (s _ _ e6) .nil)))))))))) 
  have tame0 : ∀ d ∈ [PyData.list (ms.map Wt.d), .tuple (ms.map Wt.d), .list ((cutA ms none (some (-1))).map Wt.d), .list (ms.map Wt.d ++ [.int (0 : Nat)]), .list ((cutA ms (some 1) none).map Wt.d), .none, .int 5, .str "ab", .dict [], .list []], tame true d 3 = true := fun d hd => by
    have c1 := cutA_len ms none (some (-1))
    have c4 := cutA_len ms (some 1) none
    simp only [List.mem_cons, List.not_mem_nil, or_false] at hd
    rcases hd with rfl | rfl | rfl | rfl | rfl | rfl | rfl | rfl | rfl | rfl
    · exact tame_list (by rw [List.length_map]; omega) (wts_tame hlow)
    · exact tame_tuple (by rw [List.length_map]; omega) (wts_tame hlow)
    · exact tame_list (by rw [List.length_map]; omega) (wts_tame m1)
    · refine tame_list (by simp; omega) fun d hd => ?_
      rcases List.mem_append.mp hd with z | z
      · exact wts_tame hlow d z
      · rw [List.mem_singleton.mp z]
        exact tame_nat (by decide)
    · exact tame_list (by rw [List.length_map]; omega) (wts_tame m4)
    · decide +kernel
    · decide +kernel
    · decide +kernel
    · decide +kernel
    · decide +kernel
  generalize hds : [PyData.list (ms.map Wt.d), .tuple (ms.map Wt.d), .list ((cutA ms none (some (-1))).map Wt.d), .list (ms.map Wt.d ++ [.int (0 : Nat)]), .list ((cutA ms (some 1) none).map Wt.d), .none, .int 5, .str "ab", .dict [], .list []] = ds0 at base0 tame0
  have lds0 : ds0.length = 10 := by rw [← hds]; rfl
  generalize hys : [V.ref l, tv, .ref p1, .ref p3, .ref p4, .non, .int 5, .str "ab", .ref p5, .ref p6] = ys0 at base0
  have lys0 : ys0.length = 10 := by rw [← hys]; rfl
  have e7 := efp ys0
  have s7 := sf ys0
  generalize upd H5 fp (.lst ys0) = H6 at e7 s7 ⊢
  have s06 := s05.trans s7
  have hw6 := hw.sm s06
  have base6 := base0 s7
  have rr6 : Dr All H6 v (rowsD R) := (rr.sm s06).all
  have lR : (its (rowsD R)).length = R.length := by show (R.map Row.d).length = _; rw [List.length_map]
  clear base0 efp sf
  -- found.extend
  refine ⟨_, rfl, .inl ⟨rfl, _, SqL.of e7⟩, sz 1 (by decide), fun q1 nq1 => ⟨_, rfl, v, rowsD R, rfl, rr6.sm (Sm.new nq1), rfl, ?_⟩⟩
  rw [lR]
  refine ⟨q1, _, [.non], rfl, rfl, upd_same, by omega, by omega, by rw [Int.toNat_natCast]; simp; omega, fun q2 nq2 => ?_⟩
  rw [Int.toNat_natCast, rep_flat]
  have s8 := (Sm.new (o := .lst [.non]) nq1).trans (Sm.new (o := .lst (List.replicate R.length .non)) nq2)
  have eq2 : upd (upd H6 q1 (.lst [.non])) q2 (.lst (List.replicate R.length .non)) q2 = some (.lst (List.replicate R.length .non)) := upd_same
  have nq2w : q2 ≠ wa := (hw6.sm (Sm.new (o := .lst [.non]) nq1)).ne nq2
  have nq2f : q2 ≠ fp := fun z => by rw [z, (Sm.new (o := .lst [.non]) nq1) _ _ e7] at nq2; cases nq2
  generalize upd (upd H6 q1 (.lst [.non])) q2 (.lst (List.replicate R.length .non)) = H7 at s8 eq2 ⊢
  have hw7 := hw6.sm s8
  have rr7 := rr6.sm s8
  refine ⟨sz 1 (by decide), fun q3 nq3 => ⟨_, rfl, v, rowsD R, rfl, rr7.sm (Sm.new nq3), rfl, ?_⟩⟩
  rw [lR]
  refine ⟨q3, _, [.bl true], rfl, rfl, upd_same, by omega, by omega, by rw [Int.toNat_natCast]; simp; omega, fun q4 nq4 => ?_⟩
  rw [Int.toNat_natCast, rep_flat]
  have s9 := (Sm.new (o := .lst [.bl true]) nq3).trans (Sm.new (o := .lst (List.replicate R.length (.bl true))) nq4)
  have eq4 : upd (upd H7 q3 (.lst [.bl true])) q4 (.lst (List.replicate R.length (.bl true))) q4 = some (.lst (List.replicate R.length (.bl true))) := upd_same
  have nq4w : q4 ≠ wa := (hw7.sm (Sm.new (o := .lst [.bl true]) nq3)).ne nq4
  have nq4f : q4 ≠ fp := fun z => by rw [z, (Sm.new (o := .lst [.bl true]) nq3) _ _ (s8 _ _ e7)] at nq4; cases nq4
  generalize upd (upd H7 q3 (.lst [.bl true])) q4 (.lst (List.replicate R.length (.bl true))) = H8 at s9 eq4 ⊢
  have s69 := s8.trans s9
  refine ⟨sz 2 (by decide), fun q5 nq5 => ?_⟩
  have s10 := Sm.new (o := .lst [.ref q2, .ref q4]) nq5
  refine ⟨fp, q5, ys0, [.ref q2, .ref q4], rfl, rfl, s10 _ _ (s69 _ _ e7), upd_same, by rw [lys0]; simp; omega, ?_⟩
  have s610 := s69.trans s10
  have b10 : DrA N (upd H8 q5 (.lst [.ref q2, .ref q4])) (ys0 ++ [.ref q2, .ref q4]) (ds0 ++ [.list (List.replicate R.length .none), .list (List.replicate R.length (.bool true))]) := by
    have := (base6.sm s610).append (.cons (.lst (mkN _ nq2w nq2f) (s10 _ _ (s9 _ _ eq2)) (rep_dr .non _)) (.one (.lst (mkN _ nq4w nq4f) (s10 _ _ eq4) (rep_dr (.bl true) _))))
    exact this
  have e10 := s610 _ _ e7
  generalize upd H8 q5 (.lst [.ref q2, .ref q4]) = H9 at s10 s610 b10 e10 ⊢
  have tame1 : ∀ d ∈ ds0 ++ [.list (List.replicate R.length .none), .list (List.replicate R.length (.bool true))], tame true d 3 = true := fun d hd => by
    rcases List.mem_append.mp hd with z | z
    · exact tame0 d z
    · simp only [List.mem_cons, List.not_mem_nil, or_false] at z
      rcases z with rfl | rfl
      · exact tame_list (by rw [List.length_replicate]; omega) (rep_tame (by simp [tame]))
      · exact tame_list (by rw [List.length_replicate]; omega) (rep_tame (by simp [tame]))
  have lds1 : (ds0 ++ [PyData.list (List.replicate R.length .none), .list (List.replicate R.length (.bool true))]).length = 12 := by simp [lds0]
  generalize ys0 ++ [V.ref q2, .ref q4] = ys1 at b10 ⊢
  generalize ds0 ++ [PyData.list (List.replicate R.length .none), .list (List.replicate R.length (.bool true))] = ds1 at b10 tame1 lds1
  have s09 := s06.trans s610
  have stf : ∀ {H' : Hp} {o xs0}, H' fp = some (.lst xs0) → Stays N H' (upd H' fp o) := fun e => ⟨fun b o nb z => by
    rw [hN] at nb
    rw [upd_ne nb.2]
    exact z, fun b ws z => by
    rw [upd_ne fun y => by rw [y, e] at z; cases z]
    exact z⟩
  have b11 := b10.mono (fun _ z => z) (stf (o := .lst ys1) e10)
  have g11 : Gw wa H (upd H9 fp (.lst ys1)) := fun b o hb z => by
    rw [upd_ne fun y => by rw [y] at z; exact absurd ((s05.free nfp).symm.trans z) (fun y => nomatch y)]
    exact s09 _ _ z
  have hw11 : Wl (upd H9 fp (.lst ys1)) wa n := by
    obtain ⟨a', b', c', e', h'⟩ := hw6.sm s610
    exact ⟨a', b', c', by rw [upd_ne (Ne.symm nfw)]; exact e', h'⟩
  have e11 : upd H9 fp (.lst ys1) fp = some (.lst ys1) := upd_same
  generalize upd H9 fp (.lst ys1) = H10 at b11 g11 hw11 e11 ⊢
  have rr10 : Dr (Ne wa) H10 v (rowsD R) := rr.gn (fun _ z => z) hw g11
  have oN : Off wa N := fun b h => by rw [hN] at h; exact h.1
  have fin : ∀ (ys : List V) (ds : List PyData) H', Gw wa H H' → Wl H' wa (n + 30) → H' fp = some (.lst ys) → DrA N H' ys ds → (∀ d ∈ ds, tame true d 3 = true) → ds.length ≤ 30 → Q (.ref fp) H' := fun ys ds H' g h1 h2 h3 h4 h5 => q fp ys ds H' g (h1.mono (by omega)) h2 h3.all h4 h5
  clear q
  -- for turn in range(..)
  refine ⟨_, rfl, sz0, fun p0 np0 => ?_⟩
  have s12 := Sm.new (o := .lst []) np0
  refine ⟨.list (R.map Row.d), .list [], (rr10.sm s12).all, .lst trivial upd_same .nil, rows_eqOk rok, nums_eqOk [], _, rfl, ?_⟩
  rw [rows_eqv_nil]
  generalize upd H10 p0 (.lst []) = H11 at s12 ⊢
  have g12 := g11.trans (Gw.of s12)
  have hw12 := hw11.sm s12
  have e12 := s12 _ _ e11
  have b12 := b11.sm s12
  refine ite2 (fun hne => ?_) (fun _ => ?_)
  · have hne' : R ≠ [] := fun z => by rw [decide_eq_true z] at hne; cases hne
    have hR1 : 1 ≤ R.length := List.length_pos_iff.mpr hne'
    refine ⟨_, rfl, by decide, by decide, ?_⟩
    rw [show (10 : Int).toNat = 10 from rfl]
    refine for_range (n := 10) (fun i σ' H2 => ∃ (x4 x5 x6 : Option V) (ys : List V) (ds : List PyData), σ' = [some (.ref wa), some v, some (.ref l), some (.ref fp), x4, x5, x6] ∧ Gw wa H H2 ∧ Wl H2 wa (n + 3 * i) ∧ H2 fp = some (.lst ys) ∧ DrA N H2 ys ds ∧ (∀ d ∈ ds, tame true d 3 = true) ∧ ds.length ≤ 12 + i) ?_ ?_ ?_
    · exact ⟨_, _, _, ys1, ds1, rfl, g12, hw12, e12, b12, tame1, by omega⟩
    · rintro i σ' H2 hi ⟨x4, x5, x6, ys, ds, rfl, g2, hw2, ef2, ry2, tm2, ld2⟩
      have rr2 : Dr (Ne wa) H2 v (rowsD R) := rr.gn (fun _ z => z) hw g2
      have lys : ys.length = ds.length := ry2.length
      -- at
      refine ⟨_, rfl, _, rfl, v, rowsD R, rfl, rr2.all, rfl, ?_⟩
      rw [lR]
      refine ⟨wa, R.length, _, rfl, hR1, by omega, hw2, by omega, fun at' H3 hat g3 hw3 => ?_⟩
      have hat' : at' < ms.length := by omega
      have g03 := g2.trans g3
      have el3 := g03 l _ nlw el
      have hx := hlow _ (show wAt ms at' ∈ ms by unfold wAt; rw [List.getD_eq_getElem?_getD, List.getElem?_eq_getElem hat']; exact List.getElem_mem hat')
      generalize hxe : wAt ms at' = x at hx
      have atx : (ms.map Wt.d)[at']? = some x.d := by rw [← hxe]; exact wts_at hat'
      have told : ∀ {H' : Hp}, Sm H3 H' → Dr All H' (.ref l) (.list (ms.map Wt.d)) := fun s' => .lst trivial (s' _ _ el3) (wts_dr ms)
      -- some
      refine ⟨_, rfl, _, rfl, _, rfl, _, at', _, told Sm.rfl', rfl, rfl, atx, fun z rz => ?_⟩
      cases Wt.dr_v rz
      refine ⟨sz 1 (by decide), fun p1 np1 => ?_⟩
      intro p2 np2
      have s4 := (Sm.new (o := .lst [x.v]) np1).trans (Sm.new (o := .dK []) np2)
      have e1 : upd (upd H3 p1 (.lst [x.v])) p2 (.dK []) p1 = some (.lst [x.v]) := (Sm.new np2) _ _ upd_same
      have e2 : upd (upd H3 p1 (.lst [x.v])) p2 (.dK []) p2 = some (.dK []) := upd_same
      have np1w : p1 ≠ wa := hw3.ne np1
      have np2w : p2 ≠ wa := (hw3.sm (Sm.new (o := .lst [x.v]) np1)).ne np2
      have ef3 := g3 fp _ nfw ef2
      have np1f : p1 ≠ fp := fun z => by rw [z, ef3] at np1; cases np1
      have np2f : p2 ≠ fp := fun z => by rw [z, (Sm.new (o := .lst [x.v]) np1) _ _ ef3] at np2; cases np2
      generalize upd (upd H3 p1 (.lst [x.v])) p2 (.dK []) = H4 at s4 e1 e2 ⊢
      refine ⟨_, rfl, _, rfl, _, at', _, told s4, rfl, rfl, atx, fun z rz => ?_⟩
      cases Wt.dr_v rz
      refine ⟨1, _, rfl, Wt.addB x, ?_⟩
      refine ⟨_, rfl, _, rfl, _, at', _, told s4, rfl, rfl, atx, fun z rz => ?_⟩
      cases Wt.dr_v rz
      refine ⟨_, Wt.tru _ _ x, ?_⟩
      refine ⟨10, 30, rfl, rfl, ⟨by decide, by decide, by decide⟩, ?_⟩
      refine ⟨sz 13 (by decide), fun sp nsp => ?_⟩
      have s5 := Sm.new (o := .lst [.non, .int (-1), .str "1", .ref p1, .ref p2, .bl true, .bl false, .int 0, .int 1, .int 2, .int ((x.iOf + 1 : Nat) : Int), .bl (!x.tr), .int (10 ^ (30 : Int).toNat)]) nsp
      have esp : upd H4 sp (.lst [.non, .int (-1), .str "1", .ref p1, .ref p2, .bl true, .bl false, .int 0, .int 1, .int 2, .int ((x.iOf + 1 : Nat) : Int), .bl (!x.tr), .int (10 ^ (30 : Int).toNat)]) sp = some (.lst [.non, .int (-1), .str "1", .ref p1, .ref p2, .bl true, .bl false, .int 0, .int 1, .int 2, .int ((x.iOf + 1 : Nat) : Int), .bl (!x.tr), .int (10 ^ (30 : Int).toNat)]) := upd_same
      have nspw : sp ≠ wa := (hw3.sm s4).ne nsp
      have nspf : sp ≠ fp := fun z => by rw [z, s4 _ _ ef3] at nsp; cases nsp
      have rx1 : x.v = x.v := rfl
      have np1s : p1 ≠ sp := fun z => by rw [← z, e1] at nsp; cases nsp
      have np2s : p2 ≠ sp := fun z => by rw [← z, e2] at nsp; cases nsp
      have so0 : ∀ {H' : Hp}, Sm H4 H' → DrA (fun a => N a ∧ a ≠ sp) H' [.non, .int (-1), .str "1", .ref p1, .ref p2, .bl true, .bl false, .int 0, .int 1, .int 2, .int ((x.iOf + 1 : Nat) : Int), .bl (!x.tr), .int (10 ^ (30 : Int).toNat)] [.none, .int (-1), .str "1", .list [x.d], .dict [], .bool true, .bool false, .int 0, .int 1, .int 2, .int ((x.iOf + 1 : Nat) : Int), .bool (!x.tr), .int (10 ^ (30 : Int).toNat)] := fun s' =>
        .cons .non (.cons (.int _) (.cons (.str _) (.cons (.lst ⟨mkN _ np1w np1f, np1s⟩ (s' _ _ e1) (wts_drN [x])) (.cons (.dct ⟨mkN _ np2w np2f, np2s⟩ (s' _ _ e2) .nil) (.cons (.bl _) (.cons (.bl _) (.cons (.int _) (.cons (.int _) (.cons (.int _) (.cons (.int _) (.cons (.bl _) (.one (.int _)))))))))))))
      have tm0 : ∀ d ∈ [PyData.none, .int (-1), .str "1", .list [x.d], .dict [], .bool true, .bool false, .int 0, .int 1, .int 2, .int ((x.iOf + 1 : Nat) : Int), .bool (!x.tr), .int (10 ^ (30 : Int).toNat)], tame true d 2 = true := fun d hd => by
        simp only [List.mem_cons, List.not_mem_nil, or_false] at hd
        have hi1 := Wt.iOf_le hx
        rcases hd with rfl | rfl | rfl | rfl | rfl | rfl | rfl | rfl | rfl | rfl | rfl | rfl | rfl
        · decide +kernel
        · decide +kernel
        · decide +kernel
        · simp only [tame, tameA, Bool.and_eq_true, decide_eq_true_eq, List.length_cons, List.length_nil]
          exact ⟨⟨by decide, by decide⟩, Wt.tame hx, trivial⟩
        · decide +kernel
        · decide +kernel
        · decide +kernel
        · decide +kernel
        · decide +kernel
        · decide +kernel
        · exact tame_nat (by omega)
        · simp [tame]
        · decide +kernel
      generalize hso : [V.non, .int (-1), .str "1", .ref p1, .ref p2, .bl true, .bl false, .int 0, .int 1, .int 2, .int ((x.iOf + 1 : Nat) : Int), .bl (!x.tr), .int (10 ^ (30 : Int).toNat)] = so at s5 esp so0 ⊢
      generalize hdo : [PyData.none, .int (-1), .str "1", .list [x.d], .dict [], .bool true, .bool false, .int 0, .int 1, .int 2, .int ((x.iOf + 1 : Nat) : Int), .bool (!x.tr), .int (10 ^ (30 : Int).toNat)] = dd0 at so0 tm0
      have lso : so.length = 13 := by rw [← hso]; rfl
      have ldo : dd0.length = 13 := by rw [← hdo]; rfl
      generalize upd H4 sp (.lst so) = H5' at s5 esp ⊢
      have s35 := s4.trans s5
      have hw5 := hw3.sm s35
      have so5 := so0 s5
      clear so0
      -- some.extend
      refine ⟨_, rfl, .inl ⟨rfl, _, SqL.of esp⟩, ?_⟩
      refine ⟨_, rfl, _, rfl, _, at', _, told s35, rfl, rfl, atx, fun z rz => ?_⟩
      cases Wt.dr_v rz
      refine ⟨_, _, rfl, Wt.intB x, ?_⟩
      have rr5 : Dr All H5' v (rowsD R) := ((rr2.gn (fun _ z => z) hw2 g3).sm s35).all
      refine ⟨_, rfl, _, rfl, _, rfl, v, rowsD R, rfl, rr5, rfl, ?_⟩
      rw [lR]
      refine ⟨wa, R.length, _, rfl, hR1, by omega, hw5, by omega, fun k2 H6' hk2 g6 hw6' => ?_⟩
      have g06 := (g03.trans (Gw.of s35)).trans g6
      have el6 := g06 l _ nlw el
      have hk2' : k2 < ms.length := by omega
      have hy := hlow _ (show wAt ms k2 ∈ ms by unfold wAt; rw [List.getD_eq_getElem?_getD, List.getElem?_eq_getElem hk2']; exact List.getElem_mem hk2')
      refine ⟨_, k2, _, .lst trivial el6 (wts_dr ms), rfl, rfl, wts_at hk2', fun z rz => ?_⟩
      cases Wt.dr_v rz
      generalize wAt ms k2 = y at hy ⊢
      refine ⟨sz 2 (by decide), fun p3 np3 => ?_⟩
      have esp6 := g6 sp _ nspw esp
      have so6 : DrA (fun a => N a ∧ a ≠ sp) H6' so dd0 := so5.gn (fun a h => oN a h.1) hw5 g6
      have s7' := Sm.new (o := .lst [.int (x.iOf : Nat), y.v]) np3
      refine ⟨sp, p3, so, [.int (x.iOf : Nat), y.v], rfl, rfl, s7' _ _ esp6, upd_same, by rw [lso]; simp; omega, ?_⟩
      have esp7 := s7' _ _ esp6
      have spH2 : H2 sp = none := g3.free hw3 (s4.free nsp)
      have stS : ∀ {M : Addr → Prop} {o : HO}, (∀ a, M a → a ≠ sp) → Stays M (upd H6' p3 (.lst [.int (x.iOf : Nat), y.v])) (upd (upd H6' p3 (.lst [.int (x.iOf : Nat), y.v])) sp o) := fun hM => ⟨fun b o nb z => by rw [upd_ne (hM b nb)]; exact z, fun b ws z => by
        rw [upd_ne fun y' => by rw [y', esp7] at z; cases z]
        exact z⟩
      have so7 := (so6.sm s7').mono (M := N) (fun _ z => z.1) (stS (o := .lst (so ++ [.int (x.iOf : Nat), y.v])) fun a h => h.2)
      have g26 := (g3.trans (Gw.of s35)).trans g6
      have ry6 := (ry2.live.gn (fun a h => oN a h.1) hw2 g26).sm s7'
      have ry7 := ry6.mono (M := N) (fun _ z => z.1) (stS (o := .lst (so ++ [.int (x.iOf : Nat), y.v])) fun a h z => h.2 (by rw [z]; exact spH2))
      have nspl : l ≠ sp := fun z => by rw [z, g2.free hw2 spH2] at el; cases el
      have g07 : Gw wa H (upd (upd H6' p3 (.lst [.int (x.iOf : Nat), y.v])) sp (.lst (so ++ [.int (x.iOf : Nat), y.v]))) := fun b o hb z => by
        rw [upd_ne fun y' => by rw [y', g2.free hw2 spH2] at z; cases z]
        exact s7' _ _ (g06 b o hb z)
      have hw7'' : Wl (upd (upd H6' p3 (.lst [.int (x.iOf : Nat), y.v])) sp (.lst (so ++ [.int (x.iOf : Nat), y.v]))) wa (n + 3 * i + 1 + 1) := by
        obtain ⟨a', b', c', e', h'⟩ := hw6'.sm s7'
        exact ⟨a', b', c', by rw [upd_ne (Ne.symm nspw)]; exact e', h'⟩
      have el7 := g07 l _ nlw el
      have ef7 : upd (upd H6' p3 (.lst [.int (x.iOf : Nat), y.v])) sp (.lst (so ++ [.int (x.iOf : Nat), y.v])) fp = some (.lst ys) := by
        rw [upd_ne (Ne.symm nspf)]
        exact s7' _ _ (g26 fp _ nfw ef2)
      have rsp7 : Dr N (upd (upd H6' p3 (.lst [.int (x.iOf : Nat), y.v])) sp (.lst (so ++ [.int (x.iOf : Nat), y.v]))) (.ref sp) (.list (dd0 ++ [.int (x.iOf : Nat), y.d])) := .lst (mkN _ nspw nspf) upd_same (so7.append (.cons (.int _) (wts_drN [y])))
      have tmo : ∀ d ∈ dd0 ++ [.int (x.iOf : Nat), y.d], tame true d 2 = true := fun d hd => by
        rcases List.mem_append.mp hd with z | z
        · exact tm0 d z
        · simp only [List.mem_cons, List.not_mem_nil, or_false] at z
          rcases z with rfl | rfl
          · exact tame_nat (by have := Wt.iOf_le hx; omega)
          · exact Wt.tame hy
      have ldo' : (dd0 ++ [PyData.int (x.iOf : Nat), y.d]).length = 15 := by simp [ldo]
      generalize upd (upd H6' p3 (.lst [.int (x.iOf : Nat), y.v])) sp (.lst (so ++ [.int (x.iOf : Nat), y.v])) = H7' at ry7 g07 hw7'' el7 ef7 rsp7 ⊢
      generalize dd0 ++ [PyData.int (x.iOf : Nat), y.d] = opts at rsp7 tmo ldo'
      -- found.append
      refine ⟨_, rfl, .inl ⟨rfl, _, SqL.of ef7⟩, ?_⟩
      refine ⟨_, rfl, _, rfl, _, rfl, l, _, rfl, SqL.of el7, fun p4 np4 => ?_⟩
      rw [cutV_map]
      generalize hma : cutA ms none (some (at' : Int)) = ma
      have lma : ma.length ≤ ms.length := by rw [← hma]; exact cutA_len _ _ _
      have lowa : ∀ z ∈ ma, z.nOf ≤ 100 := fun z hz => hlow z (by rw [← hma] at hz; exact cutA_mem hz)
      have s8' := Sm.new (o := .lst (ma.map Wt.v)) np4
      have e4' : upd H7' p4 (.lst (ma.map Wt.v)) p4 = some (.lst (ma.map Wt.v)) := upd_same
      have np4w : p4 ≠ wa := hw7''.ne np4
      generalize upd H7' p4 (.lst (ma.map Wt.v)) = H8' at s8' e4' ⊢
      have hw8 := hw7''.sm s8'
      refine ⟨_, rfl, _, rfl, wa, _, N, .ref sp, .list opts, rfl, oN, hw8, by omega, rsp7.sm s8', rfl, (fun z => by rw [show its (.list opts) = opts from rfl] at z; rw [z] at ldo'; cases ldo'), by rw [show its (.list opts) = opts from rfl]; omega, fun e he u H9' g9 hw9 ru => ?_⟩
      have e49 := g9 p4 _ np4w e4'
      have g09 := (g07.trans (Gw.of s8')).trans g9
      have el9 := g09 l _ nlw el
      have hlm : ms.length ≤ 18 := by omega
      refine ⟨sz 1 (by decide), fun p5' np5' => ⟨p4, p5', _, _, rfl, rfl, (Sm.new np5') _ _ e49, upd_same, by rw [List.length_map]; simp; omega, fun p6' np6' => ?_⟩⟩
      have s10' := (Sm.new (o := .lst [u]) np5').trans (Sm.new (o := .lst (ma.map Wt.v ++ [u])) np6')
      have e6' : upd (upd H9' p5' (.lst [u])) p6' (.lst (ma.map Wt.v ++ [u])) p6' = some (.lst (ma.map Wt.v ++ [u])) := upd_same
      generalize upd (upd H9' p5' (.lst [u])) p6' (.lst (ma.map Wt.v ++ [u])) = H10' at s10' e6' ⊢
      refine ⟨_, rfl, _, rfl, _, _, rfl, rfl, _, rfl, l, _, rfl, SqL.of (s10' _ _ el9), fun p7 np7 => ?_⟩
      rw [cutV_map]
      generalize hmb : cutA ms (some ((at' : Int) + 1)) none = mb
      have lmb : mb.length ≤ ms.length := by rw [← hmb]; exact cutA_len _ _ _
      have lowb : ∀ z ∈ mb, z.nOf ≤ 100 := fun z hz => hlow z (by rw [← hmb] at hz; exact cutA_mem hz)
      refine ⟨p6', p7, _, _, rfl, rfl, (Sm.new np7) _ _ e6', upd_same, by simp; omega, fun p8 np8 => ?_⟩
      have s12' := (Sm.new (o := .lst (mb.map Wt.v)) np7).trans (Sm.new (o := .lst (ma.map Wt.v ++ [u] ++ mb.map Wt.v)) np8)
      have e8' : upd (upd H10' p7 (.lst (mb.map Wt.v))) p8 (.lst (ma.map Wt.v ++ [u] ++ mb.map Wt.v)) p8 = some (.lst (ma.map Wt.v ++ [u] ++ mb.map Wt.v)) := upd_same
      have s912 := s10'.trans s12'
      have hw12' := (hw9.sm s912)
      have np8w : p8 ≠ wa := ((hw9.sm s10').sm (Sm.new (o := .lst (mb.map Wt.v)) np7)).ne np8
      have ef9 := g9 fp _ nfw (s8' _ _ ef7)
      have np8f : p8 ≠ fp := fun z => by rw [z, (Sm.new (o := .lst (mb.map Wt.v)) np7) _ _ (s10' _ _ ef9)] at np8; cases np8
      generalize upd (upd H10' p7 (.lst (mb.map Wt.v))) p8 (.lst (ma.map Wt.v ++ [u] ++ mb.map Wt.v)) = H12' at s12' e8' s912 hw12' ⊢
      have ef12 := s912 _ _ ef9
      have ry12 : DrA N H12' ys ds := ((ry7.sm s8').gn oN hw8 g9).sm s912
      have ru12 := ru.sm s912
      have rnew : Dr N H12' (.ref p8) (.list (ma.map Wt.d ++ [e] ++ mb.map Wt.d)) := .lst (mkN _ np8w np8f) e8' (((wts_drN ma).append (.one ru12)).append (wts_drN mb))
      have tnew : tame true (.list (ma.map Wt.d ++ [e] ++ mb.map Wt.d)) 3 = true := by
        refine tame_list (by simp; omega) fun d hd => ?_
        rcases List.mem_append.mp hd with z | z
        · rcases List.mem_append.mp z with z | z
          · exact wts_tame lowa d z
          · rw [List.mem_singleton.mp z]
            exact tmo e he
        · exact wts_tame lowb d z
      refine ⟨fp, ys, _, rfl, rfl, ef12, by omega, ?_⟩
      refine ⟨_, _, _, ys ++ [.ref p8], ds ++ [.list (ma.map Wt.d ++ [e] ++ mb.map Wt.d)], rfl, fun b o hb z => ?_, ?_, upd_same, (ry12.append (.one rnew)).mono (fun _ z => z) (stf ef12), fun d hd => ?_, by simp; omega⟩
      · rw [upd_ne fun y' => by rw [y'] at z; exact absurd ((s05.free nfp).symm.trans z) (fun q' => nomatch q')]
        exact s912 _ _ (g09 b o hb z)
      · obtain ⟨a', b', c', e', h'⟩ := hw12'
        exact ⟨a', b', c', by rw [upd_ne (Ne.symm nfw)]; exact e', by omega⟩
      · rcases List.mem_append.mp hd with z | z
        · exact tm2 d z
        · rw [List.mem_singleton.mp z]
          exact tnew
    · rintro σ' H2 ⟨x4, x5, x6, ys, ds, rfl, g2, hw2, ef2, ry2, tm2, ld2⟩
      exact ⟨_, rfl, fin ys ds H2 g2 (hw2.mono (by omega)) ef2 ry2 tm2 (by omega)⟩
  · refine ⟨_, rfl, by decide, by decide, ?_⟩
    refine for_range (n := 0) (fun i σ' H2 => ∃ (x4 x5 x6 : Option V), σ' = [some (.ref wa), some v, some (.ref l), some (.ref fp), x4, x5, x6] ∧ H2 = H11) ?_ ?_ ?_
    · exact ⟨_, _, _, rfl, rfl⟩
    · rintro i σ' H2 hi _
      exact absurd hi (Nat.not_lt_zero _)
    · rintro σ' H2 ⟨x4, x5, x6, rfl, rfl⟩
      exact ⟨_, rfl, fin ys1 ds1 H2 g12 (hw12.mono (by omega)) e12 b12 tame1 (by omega)⟩
end
end K8

/-! Expressions that yield data, whatever stands around: C the state, N where their lists and dicts may stand. -/
namespace K8
open PySem PySem.Spec PyProof.Rows L2 WR
structure Cy (N : Addr → Prop) (C : Hp → Prop) : Prop where
  sm : ∀ H H', Sm H H' → C H → C H'
  new : ∀ H p, C H → H p = none → N p
def Yd (N : Addr → Prop) (C : Hp → Prop) (σ : L2.St) (te : TE) (d : PyData) : Prop := ∀ H Q, C H → (∀ v H', Sm H H' → Dr N H' v d → Q v H') → te σ H Q
def Ya (N : Addr → Prop) (C : Hp → Prop) (σ : L2.St) (ta : TA) (ds : List PyData) : Prop := ∀ H Q, C H → (∀ vs H', Sm H H' → DrA N H' vs ds → Q vs H') → ta σ H Q
def Yo (C : Hp → Prop) (σ : L2.St) (to : TO) (o : Option Int) : Prop := ∀ H Q, C H → (∀ H', Sm H H' → Q o H') → to σ H Q
section
variable {N : Addr → Prop} {C : Hp → Prop} {σ : L2.St} {K : PySem.W.Frag} {te tb : TE} {ta : TA} {d e : PyData} {ds es : List PyData}
theorem Yd.int (i : Int) : Yd N C σ (tC (.int i)) (.int i) := fun H Q _ q => q _ _ Sm.rfl' (.int i)
theorem Yd.str (x : Str) : Yd N C σ (tC (.str x)) (.str x) := fun H Q _ q => q _ _ Sm.rfl' (.str x)
theorem Yd.bl (b : Bool) : Yd N C σ (tC (.bl b)) (.bool b) := fun H Q _ q => q _ _ Sm.rfl' (.bl b)
theorem Yd.non : Yd N C σ (tC .non) .none := fun H Q _ q => q _ _ Sm.rfl' .non
theorem Yd.var {i : Nat} {v : V} (h : σ[i]? = some (some v)) (r : ∀ H, C H → Dr N H v d) : Yd N C σ (tVar i) d := fun H Q c q => ⟨v, h, q v H Sm.rfl' (r H c)⟩
theorem Ya.nil : Ya N C σ tNil [] := fun H Q _ q => q _ _ Sm.rfl' .nil
theorem Ya.cons (Y : Cy N C) (a : Yd N C σ te d) (b : Ya N C σ ta ds) : Ya N C σ (tCons te ta) (d :: ds) :=
  fun H Q c q => a H _ c fun v H1 s1 r1 => b H1 _ (Y.sm _ _ s1 c) fun vs H2 s2 r2 => q (v :: vs) H2 (s1.trans s2) (.cons (r1.sm s2) r2)
theorem Ya.one (Y : Cy N C) (a : Yd N C σ te d) : Ya N C σ (tCons te tNil) [d] := .cons Y a .nil
theorem Yd.tup (hl : ds.length ≤ 100) (a : Ya N C σ ta ds) : Yd N C σ (tTup ta) (.tuple ds) := fun H Q c q => a H _ c fun vs H1 s1 r1 => by
  refine ⟨by rw [r1.length, sizeLine_eq]; omega, fun p np => q _ _ (s1.trans (Sm.new np)) ?_⟩
  exact .tup upd_same (r1.sm (Sm.new np))
theorem Yd.lst (Y : Cy N C) (hl : ds.length ≤ 100) (a : Ya N C σ ta ds) : Yd N C σ (tLst ta) (.list ds) := fun H Q c q => a H _ c fun vs H1 s1 r1 => by
  refine ⟨by rw [r1.length, sizeLine_eq]; omega, fun p np => q _ _ (s1.trans (Sm.new np)) ?_⟩
  exact .lst (Y.new _ _ (Y.sm _ _ s1 c) np) upd_same (r1.sm (Sm.new np))
theorem Yd.dict0 (Y : Cy N C) : Yd N C σ tDNewK (.dict []) := fun H Q c q p np => q _ _ (Sm.new np) (.dct (Y.new _ _ c np) upd_same .nil)
theorem Yd.ix {i : Int} (j : Nat) (a : Yd N C σ te d) (hL : isL d = true) (hi : i = (j : Int)) (he : (its d)[j]? = some e) : Yd N C σ (tOp (rIxN N) te (tC (.int i))) e :=
  fun H Q c q => a H _ c fun v H1 s1 r1 => ⟨d, j, e, r1, hL, by rw [hi], he, fun u ru => q u H1 s1 ru⟩
theorem Yd.ixv (Y : Cy N C) {i k : Nat} (a : Yd N C σ te d) (hL : isL d = true) (hi : σ[i]? = some (some (.int (k : Int)))) (he : (its d)[k]? = some e) : Yd N C σ (tOp (rIxN N) te (tVar i)) e :=
  fun H Q c q => a H _ c fun v H1 s1 r1 => ⟨_, hi, d, k, e, r1, hL, rfl, he, fun u ru => q u H1 s1 ru⟩
theorem Yo.no : Yo C σ tNoPart none := fun H Q _ q => q H Sm.rfl'
theorem Yo.int (i : Int) : Yo C σ (tPart (tC (.int i))) (some i) := fun H Q _ q => ⟨i, rfl, q H Sm.rfl'⟩
theorem Yo.var {j : Nat} {i : Int} (h : σ[j]? = some (some (.int i))) : Yo C σ (tPart (tVar j)) (some i) := fun H Q _ q => ⟨_, h, i, rfl, q H Sm.rfl'⟩
theorem Yo.add1 {j : Nat} {i : Int} (h : σ[j]? = some (some (.int i))) : Yo C σ (tPart (tOp (rI0 fun i j => .int (i + j)) (tVar j) (tC (.int 1)))) (some (i + 1)) := fun H Q _ q => ⟨_, h, _, _, rfl, rfl, _, rfl, q H Sm.rfl'⟩
theorem Yd.sl (Y : Cy N C) {tl th : TO} {lo hi : Option Int} (a : Yd N C σ te d) (hL : isL d = true) (hl : Yo C σ tl lo) (hh : Yo C σ th hi) : Yd N C σ (tSl (rSlN N) te tl th) (likeD d (cutA (its d) lo hi)) :=
  fun H Q c q => a H _ c fun v H1 s1 r1 => hl H1 _ (Y.sm _ _ s1 c) fun H2 s2 => hh H2 _ (Y.sm _ _ (s1.trans s2) c) fun H3 s3 =>
    have c3 := Y.sm _ _ ((s1.trans s2).trans s3) c
    ⟨d, (r1.sm s2).sm s3, hL, fun u H4 s4 r4 => q u H4 (((s1.trans s2).trans s3).trans s4) (r4.wide fun b z => z.elim id fun y => Y.new _ _ c3 y)⟩
theorem Yd.listOf (Y : Cy N C) (a : Yd N C σ te d) (hL : isL d = true) : Yd N C σ (tCB (fun xs H Q => ∃ v d, xs = [v] ∧ Dr N H v d ∧ isL d = true ∧ ∀ l ys, H l = none → DrA N H ys (its d) → Q (.ref l) (upd H l (.lst ys))) (tCons te tNil)) (.list (its d)) :=
  fun H Q c q => a H _ c fun v H1 s1 r1 => ⟨v, d, rfl, r1, hL, fun l ys nl ry => q _ _ (s1.trans (Sm.new nl)) (.lst (Y.new _ _ (Y.sm _ _ s1 c) nl) upd_same (ry.sm (Sm.new nl)))⟩
theorem Yd.catT (Y : Cy N C) (a : Yd N C σ te (.tuple ds)) (b : Yd N C σ tb (.tuple es)) (hl : ds.length + es.length ≤ 1000) : Yd N C σ (tOp (rCatA K) te tb) (.tuple (ds ++ es)) :=
  fun H Q c q => a H _ c fun v H1 s1 r1 => b H1 _ (Y.sm _ _ s1 c) fun u H2 s2 r2 => by
    have r1' := r1.sm s2
    cases r1' with
    | tup e1 a1 =>
    cases r2 with
    | tup e2 a2 =>
    have l1 := a1.length
    have l2 := a2.length
    refine ⟨_, _, _, _, rfl, rfl, SqT.of e1, SqT.of e2, by rw [sizeLine_eq]; omega, fun z => ?_, fun z y => ?_, fun z y p np => ?_⟩
    · refine q _ _ (s1.trans s2) ?_
      rw [z] at l1
      have : ds = [] := List.length_eq_zero_iff.mp l1.symm
      subst this
      exact .tup e2 a2
    · refine q _ _ (s1.trans s2) ?_
      rw [y] at l2
      have : es = [] := List.length_eq_zero_iff.mp l2.symm
      subst this
      rw [List.append_nil]
      exact .tup e1 a1
    · exact q _ _ ((s1.trans s2).trans (Sm.new np)) (.tup upd_same ((a1.append a2).sm (Sm.new np)))
theorem Yd.catL (Y : Cy N C) (a : Yd N C σ te (.list ds)) (b : Yd N C σ tb (.list es)) (hl : ds.length + es.length ≤ 1000) : Yd N C σ (tOp rCat te tb) (.list (ds ++ es)) :=
  fun H Q c q => a H _ c fun v H1 s1 r1 => b H1 _ (Y.sm _ _ s1 c) fun u H2 s2 r2 => by
    have c2 := Y.sm _ _ (s1.trans s2) c
    have r1' := r1.sm s2
    cases r1' with
    | lst _ e1 a1 =>
    cases r2 with
    | lst _ e2 a2 =>
    have l1 := a1.length
    have l2 := a2.length
    refine ⟨_, _, _, _, rfl, rfl, e1, e2, by rw [sizeLine_eq]; omega, fun p np => ?_⟩
    exact q _ _ ((s1.trans s2).trans (Sm.new np)) (.lst (Y.new _ _ c2 np) upd_same ((a1.append a2).sm (Sm.new np)))
/-- one side of an if-expression -/
theorem Yd.ifE (Y : Cy N C) {tt : TT} (b : Bool) (ht : ∀ H Q, C H → (∀ H', Sm H H' → Q b H') → tt σ H Q) (a1 : b = true → Yd N C σ te d) (a2 : b = false → Yd N C σ tb d) : Yd N C σ (tIf tt te tb) d :=
  fun H Q c q => ht H _ c fun H1 s1 => by
    have c1 := Y.sm _ _ s1 c
    cases b with
    | true => exact (iteT (a1 rfl H1 _ c1 fun v H2 s2 r2 => q v H2 (s1.trans s2) r2))
    | false => exact (iteF (a2 rfl H1 _ c1 fun v H2 s2 r2 => q v H2 (s1.trans s2) r2))
/-- row[0] == word -/
theorem Yd.wordIs {r : Row} {x : Str} (a : Yd N C σ te r.d) : ∀ H Q, C H → (∀ H', Sm H H' → Q (decide (V.str r.word = V.str x)) H') → tTest (tOp rEq (tOp (rIxN N) te (tC (.int 0))) (tC (.str x))) σ H Q := fun H Q c q => by
  refine a H _ c fun v H1 s1 r1 => ⟨_, 0, _, r1, Row.seqD r, rfl, Row.word_at r, fun u ru => ?_⟩
  cases ru.str_inv
  exact ⟨rfl, _, rfl, q H1 s1⟩
end
end K8
namespace K8
open PySem PySem.Spec PyProof.Rows L2 WR
theorem Yd.toFz {N N' : Addr → Prop} {C : Hp → Prop} {σ : L2.St} {te : TE} {d : PyData} (a : Yd N' C σ te d) (h : fz d = true) : Yd N C σ te d := fun H Q c q => a H Q c fun v H' s r => q v H' s (r.fz h)
theorem Yd.listFz {N N' : Addr → Prop} {C : Hp → Prop} {σ : L2.St} {te : TE} {d : PyData} (Y : Cy N C) (a : Yd N' C σ te d) (hL : isL d = true) (hf : fzA (its d) = true) :
    Yd N C σ (tCB (fun xs H Q => ∃ v d, xs = [v] ∧ Dr N' H v d ∧ isL d = true ∧ ∀ l ys, H l = none → DrA N' H ys (its d) → Q (.ref l) (upd H l (.lst ys))) (tCons te tNil)) (.list (its d)) :=
  fun H Q c q => a H _ c fun v H1 s1 r1 => ⟨v, d, rfl, r1, hL, fun l ys nl ry => q _ _ (s1.trans (Sm.new nl)) (.lst (Y.new _ _ (Y.sm _ _ s1 c) nl) upd_same ((ry.fz hf).sm (Sm.new nl)))⟩
/-! ### tame -/
mutual
theorem tame_mono {b : Bool} : ∀ {d : PyData} {n m : Nat}, n ≤ m → tame b d n = true → tame b d m = true
  | .list xs, n, m, h, t => by
    simp only [tame, Bool.and_eq_true, decide_eq_true_eq] at t ⊢
    exact ⟨⟨by omega, Nat.le_trans t.1.2 (cap_mono h)⟩, tameA_mono (by omega) t.2⟩
  | .tuple xs, n, m, h, t => by
    simp only [tame, Bool.and_eq_true, decide_eq_true_eq] at t ⊢
    exact ⟨⟨by omega, Nat.le_trans t.1.2 (cap_mono h)⟩, tameA_mono (by omega) t.2⟩
  | .dict ps, n, m, h, t => by
    simp only [tame, Bool.and_eq_true, decide_eq_true_eq] at t ⊢
    exact ⟨by omega, t.2⟩
  | .str x, n, m, h, t => by simpa only [tame] using t
  | .int i, n, m, h, t => by simpa only [tame] using t
  | .bool _, n, m, h, t => by simp only [tame]
  | .none, n, m, h, t => by simp only [tame]
theorem tameA_mono {b : Bool} : ∀ {ds : List PyData} {n m : Nat}, n ≤ m → tameA b ds n = true → tameA b ds m = true
  | [], _, _, _, _ => rfl
  | d :: ds, n, m, h, t => by
    simp only [tameA, Bool.and_eq_true] at t ⊢
    exact ⟨tame_mono h t.1, tameA_mono h t.2⟩
end
mutual
theorem tame_wk : ∀ {d : PyData} {n : Nat}, tame false d n = true → tame true d n = true
  | .list xs, n, t => by
    simp only [tame, Bool.and_eq_true, decide_eq_true_eq] at t ⊢
    exact ⟨t.1, tameA_wk t.2⟩
  | .tuple xs, n, t => by
    simp only [tame, Bool.and_eq_true, decide_eq_true_eq] at t ⊢
    exact ⟨t.1, tameA_wk t.2⟩
  | .dict ps, n, t => by
    simp only [tame, Bool.and_eq_true, decide_eq_true_eq, Bool.false_and, Bool.or_false] at t ⊢
    exact ⟨t.1, by rw [t.2]; rfl⟩
  | .str x, n, t => by simpa only [tame] using t
  | .int i, n, t => by simpa only [tame] using t
  | .bool _, n, t => by simp only [tame]
  | .none, n, t => by simp only [tame]
theorem tameA_wk : ∀ {ds : List PyData} {n : Nat}, tameA false ds n = true → tameA true ds n = true
  | [], _, _ => rfl
  | d :: ds, n, t => by
    simp only [tameA, Bool.and_eq_true] at t ⊢
    exact ⟨tame_wk t.1, tameA_wk t.2⟩
end
theorem tameA_of {b : Bool} {n : Nat} : ∀ {ds : List PyData}, (∀ d ∈ ds, tame b d n = true) → tameA b ds n = true
  | [], _ => rfl
  | d :: ds, h => by
    simp only [tameA, Bool.and_eq_true]
    exact ⟨h d (List.mem_cons_self ..), tameA_of fun e he => h e (List.mem_cons_of_mem _ he)⟩
theorem tameA_mem {b : Bool} {n : Nat} {ds : List PyData} (h : tameA b ds n = true) {d : PyData} (hd : d ∈ ds) : tame b d n = true := by
  obtain ⟨i, e⟩ := List.getElem?_of_mem hd
  exact tameA_at h e
theorem tameA_app {b : Bool} {n : Nat} {ds es : List PyData} (h1 : tameA b ds n = true) (h2 : tameA b es n = true) : tameA b (ds ++ es) n = true :=
  tameA_of fun d hd => (List.mem_append.mp hd).elim (tameA_mem h1) (tameA_mem h2)
theorem tameA_take {b : Bool} {n k : Nat} {ds : List PyData} (h : tameA b ds n = true) : tameA b (ds.take k) n = true := tameA_of fun d hd => tameA_mem h (List.mem_of_mem_take hd)
theorem tameA_drop {b : Bool} {n k : Nat} {ds : List PyData} (h : tameA b ds n = true) : tameA b (ds.drop k) n = true := tameA_of fun d hd => tameA_mem h (List.mem_of_mem_drop hd)
theorem tame_tup {b : Bool} {n : Nat} {ds : List PyData} (h : tameA b ds n = true) (hl : ds.length ≤ 8) : tame b (.tuple ds) (n + 1) = true := by
  simp only [tame, Bool.and_eq_true, decide_eq_true_eq]
  exact ⟨⟨by omega, Nat.le_trans hl (cap_ge _)⟩, h⟩
theorem tame_lst {b : Bool} {n : Nat} {ds : List PyData} (h : tameA b ds n = true) (hl : ds.length ≤ 8) : tame b (.list ds) (n + 1) = true := by
  simp only [tame, Bool.and_eq_true, decide_eq_true_eq]
  exact ⟨⟨by omega, Nat.le_trans hl (cap_ge _)⟩, h⟩
theorem tame_lst3 {b : Bool} {n : Nat} {ds : List PyData} (h : tameA b ds n = true) (hl : ds.length ≤ 40) (hn : 2 ≤ n := by decide) : tame b (.list ds) (n + 1) = true := by
  simp only [tame, Bool.and_eq_true, decide_eq_true_eq]
  refine ⟨⟨by omega, ?_⟩, h⟩
  unfold capT
  rw [if_neg (by omega)]
  exact hl
theorem log_small {i : Int} (h : i.natAbs < 2 ^ 99) : i.natAbs.log2 < 100 := by
  by_cases z : i.natAbs = 0
  · rw [z]
    decide
  · have := (Nat.log2_lt z (k := 99)).mpr h
    omega
theorem int_tame {b : Bool} {i : Int} {n : Nat} (h : i.natAbs ≤ 1000) : tame b (.int i) n = true := by
  simp only [tame, decide_eq_true_eq]
  refine log_small (Nat.lt_of_le_of_lt h ?_)
  have : 2 ^ 10 ≤ 2 ^ 99 := Nat.pow_le_pow_right (by decide) (by decide)
  omega
theorem nums_tame {b : Bool} {ks : List Nat} {n : Nat} (h : ∀ k ∈ ks, k ≤ 100) : tameA b (nums ks) n = true := by
  refine tameA_of fun d hd => ?_
  obtain ⟨k, hk, rfl⟩ := List.mem_map.mp hd
  exact int_tame (by have := h k hk; omega)
theorem name_len {n : Str} (h : isName (.str n) = true) : n.length ≤ 8 := by
  simp only [isName, begName, Bool.and_eq_true, decide_eq_true_eq] at h
  exact h.2.1.1
theorem above_f {c k : Nat} {y : Str} (hy : y.cps.toList = [k]) (h : k < c) : leS ⟨#[c]⟩ y = false := by
  have e : y.cps.toList < [c] := by
    rw [hy]
    exact List.Lex.rel h
  unfold leS
  rw [show decide (y.cps.toList < (Str.mk #[c]).cps.toList) = true from decide_eq_true e]
  rfl
theorem name_okT {n : Str} (h : isName (.str n) = true) : okStr n = true := by
  have hl := name_len h
  simp only [isName, begName, Bool.and_eq_true, decide_eq_true_eq] at h
  have ha := h.2.1.2
  simp only [okStr, Bool.and_eq_true, decide_eq_true_eq, List.all_eq_true]
  refine ⟨by omega, fun c hc => ?_⟩
  have t := List.all_eq_true.mp ha (.str ⟨#[c]⟩) (List.mem_map.mpr ⟨c, hc, rfl⟩)
  by_cases z : c < 4294967296
  · exact z
  · exfalso
    rw [show strOf (.str ⟨#[c]⟩) = ⟨#[c]⟩ from rfl, isLet, isFig, above_f (k := 122) (y := "z") (by decide +kernel) (by omega), above_f (k := 57) (y := "9") (by decide +kernel) (by omega)] at t
    simp at t
theorem Row.tm {b : Bool} {r : Row} (h1 : r.ok) (h2 : r.small) : tameA b (its r.d) 1 = true ∧ (its r.d).length ≤ 4 ∧ 2 ≤ (its r.d).length ∧ r.d = .tuple (its r.d) ∧ fzA (its r.d) = true := by
  have hf : fzA (its r.d) = true := by
    have := Row.fz r
    cases r <;> simpa [Row.d, WR.fz, its] using this
  have hs : ∀ x : Str, okStr x = true → ∀ n, tame b (.str x) n = true := fun x h n => by simp only [tame]; exact h
  cases r with
  | made n ks =>
    refine ⟨?_, by simp [Row.d, its], by simp [Row.d, its], rfl, hf⟩
    have hn := name_okT h1.1
    simp only [Row.d, its, tameA, Bool.and_eq_true]
    exact ⟨hs _ (by decide +kernel) _, hs _ hn _, tame_tup (n := 0) (nums_tame h2.2) (by simp [nums]; have := h2.1; omega), trivial⟩
  | asked n ks =>
    refine ⟨?_, by simp [Row.d, its], by simp [Row.d, its], rfl, hf⟩
    have hn := name_okT h1.1
    simp only [Row.d, its, tameA, Bool.and_eq_true]
    exact ⟨hs _ (by decide +kernel) _, hs _ hn _, tame_tup (n := 0) (nums_tame h2.2) (by simp [nums]; have := h2.1; omega), trivial⟩
  | either a i j =>
    obtain ⟨x1, x2, x3⟩ := h2
    refine ⟨?_, by simp [Row.d, its], by simp [Row.d, its], rfl, hf⟩
    simp only [Row.d, its, tameA, Bool.and_eq_true]
    exact ⟨hs _ (by decide +kernel) _, int_tame (by omega), int_tame (by omega), int_tame (by omega), trivial⟩
  | given k =>
    have x1 : k ≤ 100 := h2
    refine ⟨?_, by simp [Row.d, its], by simp [Row.d, its], rfl, hf⟩
    simp only [Row.d, its, tameA, Bool.and_eq_true]
    exact ⟨hs _ (by decide +kernel) _, int_tame (by omega), trivial⟩
end K8
namespace K8
open PySem PySem.Spec PyProof.Rows L2 WR
section
variable {N : Addr → Prop} {C : Hp → Prop} {σ : L2.St} {te : TE} {ta : TA} {tt : TT} {d : PyData} {ds : List PyData} {D : Ends} {g : TG} {rest : TS} {H : Hp} {Q : VK}
theorem seq_asg (h : te σ H fun v H1 => g v σ H1 (rest D)) : tSeq (tAsg te g) rest D σ H := h
theorem run_lst (a : Ya N C σ ta ds) (c : C H) (k : ∀ vs H1, Sm H H1 → DrA N H1 vs ds → vs.length ≤ sizeLine ∧ ∀ p, H1 p = none → Q (.ref p) (upd H1 p (.lst vs))) : tLst ta σ H Q := a H _ c k
theorem ret_y (h : te σ H D.rt) : tRet te D σ H := h
/-- _law_pick(well, ..) -/
theorem pick_y {wa : Addr} {m : Nat} (h0 : σ[0]? = some (some (.ref wa))) (Y : Cy N C) (a : Yd N C σ te (.list ds)) (c : C H) (hC : ∀ H', C H' → Wl H' wa m) (off : Off wa N) (hm : m < top0) (ne : ds ≠ []) (hl : ds.length ≤ lim)
    (k : ∀ e ∈ ds, ∀ u H1 H', Sm H H1 → C H1 → Gw wa H1 H' → Wl H' wa (m + 1) → Dr N H' u e → Q u H') : tCall spPick [] E0 (tCons (tVar 0) (tCons te tNil)) σ H Q :=
  ⟨_, h0, a H _ c fun v H1 s1 r1 => ⟨wa, m, N, v, .list ds, rfl, off, hC _ (Y.sm _ _ s1 c), hm, r1, rfl, ne, hl, fun e he u H' g hw' ru => k e he u H1 H' s1 (Y.sm _ _ s1 c) g hw' ru⟩⟩
end
end K8
namespace K8
open PySem PySem.Spec PyProof.Rows L2 WR
section
variable {N : Addr → Prop} {C : Hp → Prop} {σ : L2.St} {te tb : TE} {ta : TA} {tt : TT} {d : PyData} {ds es : List PyData} {D : Ends} {g : TG} {rest t u : TS} {H : Hp} {Q : VK}
theorem Yd.neg (i : Int) : Yd N C σ (tUn (rU fun i => V.int (-i)) (tC (.int i))) (.int (-i)) := fun H Q _ q => ⟨_, rfl, q _ _ Sm.rfl' (.int (-i))⟩
theorem Yd.addv {i : Nat} {z y : Int} (h : σ[i]? = some (some (.int z))) : Yd N C σ (tOp (rI0 fun i j => V.int (i + j)) (tVar i) (tC (.int y))) (.int (z + y)) := fun H Q _ q => ⟨_, h, _, _, rfl, rfl, q _ _ Sm.rfl' (.int (z + y))⟩
theorem Yd.vint {i : Nat} {z : Int} (h : σ[i]? = some (some (.int z))) : Yd N C σ (tVar i) (.int z) := fun H Q _ q => ⟨_, h, q _ _ Sm.rfl' (.int z)⟩
theorem Yd.catOwn (Y : Cy N C) {i : Nat} {l : Addr} {xs : List V} (h : σ[i]? = some (some (.ref l))) (hc : ∀ H, C H → H l = some (.lst xs) ∧ DrA N H xs ds) (b : Yd N C σ tb (.list es)) (hl : ds.length + es.length ≤ 1000) : Yd N C σ (tOp rCat (tVar i) tb) (.list (ds ++ es)) :=
  fun H Q c q => ⟨_, h, b H _ c fun u H2 s2 r2 => by
    have c2 := Y.sm _ _ s2 c
    obtain ⟨e1, a1⟩ := hc _ c2
    cases r2 with
    | lst _ e2 a2 =>
    have l1 := a1.length
    have l2 := a2.length
    refine ⟨_, _, _, _, rfl, rfl, e1, e2, by rw [sizeLine_eq]; omega, fun p np => ?_⟩
    exact q _ _ (s2.trans (Sm.new np)) (.lst (Y.new _ _ c2 np) upd_same ((a1.append a2).sm (Sm.new np)))⟩
theorem ifS_word {r : Row} {x : Str} (a : Yd N C σ te r.d) (c : C H) (k : ∀ H1, Sm H H1 → if decide (V.str r.word = V.str x) = true then t D σ H1 else u D σ H1) : tIfS (tTest (tOp rEq (tOp (rIxN N) te (tC (.int 0))) (tC (.str x)))) t u D σ H :=
  Yd.wordIs a H _ c k
/-- some.extend([..]) -/
theorem ext_y {K : PySem.W.Frag} {ls : Addr} {xs : List V} (h5 : σ[5]? = some (some (.ref ls))) (Y : Cy N C) (hls : ∀ H, C H → H ls = some (.lst xs)) (nls : ¬ N ls) (a : Ya N C σ ta es) (c : C H) (rx : ∀ H, C H → DrA N H xs ds) (hl : xs.length + es.length ≤ 100)
    (k : ∀ zs H2, C H2 → Sm H H2 → zs.length = es.length → DrA N (upd H2 ls (.lst (xs ++ zs))) (xs ++ zs) (ds ++ es) → Stays N H2 (upd H2 ls (.lst (xs ++ zs))) → rest D σ (upd H2 ls (.lst (xs ++ zs)))) : tSeq (tDrop (tBM K "list" rExtend (tVar 5) (tCons (tLst ta) tNil))) rest D σ H := by
  refine ⟨_, h5, .inl ⟨rfl, xs, SqL.of (hls H c)⟩, a H _ c fun zs H1 s1 r1 => ⟨by rw [r1.length, sizeLine_eq]; omega, fun p np => ?_⟩⟩
  have c1 := Y.sm _ _ s1 c
  have s2 : Sm H (upd H1 p (.lst zs)) := s1.trans (Sm.new np)
  have c2 := Y.sm _ _ s2 c
  have e2 := hls _ c2
  have lz : zs.length = es.length := r1.length
  refine ⟨ls, p, xs, zs, rfl, rfl, e2, upd_same, by rw [sizeLine_eq]; omega, ?_⟩
  have st : Stays N (upd H1 p (.lst zs)) (upd (upd H1 p (.lst zs)) ls (.lst (xs ++ zs))) := ⟨fun b o nb z => by
    rw [upd_ne fun y => nls (by rw [← y]; exact nb)]
    exact z, fun b ys z => by
    rw [upd_ne fun y => by rw [y, e2] at z; cases z]
    exact z⟩
  refine k zs _ c2 s2 lz ?_ st
  exact ((rx _ c2).append (r1.sm (Sm.new np))).mono (fun _ z => z) st
end
end K8

/-! try with several clauses, each `except X as n`, one name n for all. -/
namespace WR
open PySem PySem.Spec PyProof.Rows L2
abbrev SuT := Addr → Value → Option Addr → TS
/-- the ends of a suite behind which slot i is empty -/
def endsAs (i : Nat) (D : Ends) : Ends := { nx := fun a b => D.nx (a.set i none) b, rt := D.rt, bk := fun a b => D.bk (a.set i none) b, ct := fun a b => D.ct (a.set i none) b }
def wAsMany (K : PySem.W.Frag) (i : Nat) (Wout : WX) (D : Ends) : List (Value × SuT) → WX
  | [] => Wout
  | q :: r => fun cls d σ H => ∃ b, PySem.W.exmOne K cls q.1 = some b ∧ (b = true → ∀ a, H a = none → q.2 a cls d (endsAs i D) (σ.set i (some (.ref a))) H) ∧ (b = false → wAsMany K i Wout D r cls d σ H)
inductive HdsAs (X : Cx) (n : Str) : List ExceptHandler → List (Value × SuT) → Prop
  | nil : HdsAs X n [] []
  | cons {x : Str} {c : Value} {ts : SuT} {b₀ : Stmt} {su : List Stmt} {p1 p2 : Pos} {hs : List ExceptHandler} {l : List (Value × SuT)} (hc : Names X x c)
      (hsu : ∀ (a : Addr) (oe : Obj) (cls : Value) (d : Option Addr) (pn : List (Addr × Obj)), Zc cls d oe → (∃ vs, oe.data = .fields vs) → PSs (X.suite a ((a, oe) :: pn)) (b₀ :: su) (ts a cls d)) (r : HdsAs X n hs l) :
      HdsAs X n (.ExceptHandler (some (.Name x p1)) (some n) (b₀ :: su) p2 :: hs) ((c, ts) :: l)
section
variable {X : Cx} {n : Str} {i : Nat} {body : List Stmt} {h₀ : ExceptHandler} {hds : List ExceptHandler} {l : List (Value × SuT)} {pos : Pos} {tb : WX → TS} {Wout : WX}
theorem ps_try_asMany (stk : X.stack = X.env :: X.outer) (frm : X.env.frame = some X.env.locals) (nod : X.N.Nodup) (at_ : X.N[i]? = some n) (knd : X.env.kindOf n = some .local) (tk : Takes X Wout)
    (hb : ∀ (W : WX) (pn : List (Addr × Obj)) (xe : Value → Shared → Prop), Takes (X.tr pn xe) W → PassesOwn (model X.prog X.w) X.A X.env xe → PSs (X.tr pn xe) body (tb W))
    (hh : HdsAs X n (h₀ :: hds) l) : PS X (.Try body (h₀ :: hds) [] [] pos) (fun D σ H => tb (wAsMany X.K i Wout D l) D σ H) := by
  refine ⟨fun pins s σ H D I0 hyp => ?_⟩
  have okX := I0.ok
  have frs0 : X.A.frames = some (X.env :: X.outer) := okX.frames.trans (congrArg some stk)
  refine wpAny_Try_except (wpAny_mono ((hb (wAsMany X.K i Wout D l) (X.pn ++ pins)
    (fun x t1 => wpAny (model X.prog X.w) X.A (noteFrame x X.env) (fun _ t2 => wpAny (model X.prog X.w) X.A (setFlight x none)
      (fun _ t3 => wpAny (model X.prog X.w) X.A (handleBy x X.env (h₀ :: hds)) (SP X pins D) X.xe t3) X.xe t2) X.xe t1)
    (fun u t caught => ?fall) PassesOwn.looking).run [] s σ H D (I0.toTry _) hyp) (fun fl t through => ?pass) (fun _ _ z => z))
  case pass =>
    cases fl with
    | ret u => exact let ⟨v, a, b, J, r, q⟩ := through; ⟨v, a, b, J.ofTry okX, r, q⟩
    | next => exact let ⟨a, b, J, q⟩ := through; wpAny_execs_nil ⟨a, b, J.ofTry okX, q⟩
    | brk => exact let ⟨a, b, J, q⟩ := through; ⟨a, b, J.ofTry okX, q⟩
    | cont => exact let ⟨a, b, J, q⟩ := through; ⟨a, b, J.ofTry okX, q⟩
  case fall =>
    obtain ⟨ad, base, sB, pinsB, σB, HB, kls, dct, rfl, JB, nbB, upB, skyB, freeB, osB, agB, wish⟩ := caught
    have JX : Inv X pins σB HB sB := JB.ofTry okX
    rw [stk] at skyB
    show wpAny (model X.prog X.w) X.A (noteFrame (.ref ad) X.env) _ _ _
    refine Sky.land Zc.steady frs0 frm skyB fun hp land up1 => ?_
    obtain ⟨ob, flds, obAt, obZ, obD⟩ := land.there
    have away : ad ∉ frs (X.env :: X.outer) := fun mem => by
      obtain ⟨_, ob', e1, nofields⟩ := land.2.2.1.mem mem
      rw [obAt] at e1
      cases e1
      exact nofields _ obD
    have awayL : ad ≠ X.env.locals := fun e => away (List.mem_filterMap.mpr ⟨X.env, List.mem_cons_self .., by rw [frm, e]⟩)
    have awayF : ad ∉ X.fs := fun mem => let ⟨en, h1, h2⟩ := List.mem_filterMap.mp mem; away (List.mem_filterMap.mpr ⟨en, List.mem_cons_of_mem _ h1, h2⟩)
    have JL : Inv X pins σB HB { t with heap := hp } := JX.landed nbB land.1 (upB.trans up1) osB agB
    have JS := JL.suite obAt obD freeB awayL awayF
    have clauses : ∀ {hs : List ExceptHandler} {m : List (Value × SuT)}, HdsAs X n hs m → wAsMany X.K i Wout D m kls dct σB HB →
        wpAny (model X.prog X.w) X.A (handleBy (.ref ad) X.env hs) (SP X pins D) X.xe { t with heap := hp } := by
      intro hs m ok
      induction ok with
      | nil =>
        intro out
        obtain ⟨_, _, _, o1, v1, T1, _, _, a1, _, a3, a4, _⟩ := id land
        refine wpAny_handleBy_nil ?_
        unfold PySem.passOn
        refine wpAny_bind (wpAny_field a1 a3 a4 ?_)
        rw [if_neg (show ¬ ((Value.ref T1 == Value.none) = true) from by simp)]
        have onward : wpAny (model X.prog X.w) X.A (setFlight (.ref ad) X.env.frame) (fun _ t4 => wpAny (model X.prog X.w) X.A (throw (.ref ad) : Sem Flow) (SP X pins D) X.xe t4) X.xe { t with heap := hp } := by
          rw [frm]
          refine HandSPX.setFlight_upZ land fun h4 sky4 up4 => wpAny_throw (tk _ _ ⟨ad, base, sB, pins, σB, HB, kls, dct, rfl, JX, nbB, (upB.trans up1).trans up4, ?_, freeB, osB, agB, out⟩)
          exact .inr (.inr (by rw [stk]; exact sky4))
        first
          | exact wpAny_bind (wpAny_pure (wpAny_bind onward))
          | exact wpAny_bind onward
      | @cons x c ts b₀ su p1 p2 hs m hc hsu r ih =>
        rintro ⟨b, yesno, yes, no⟩
        refine wpAny_handleBy_cons (codeAny_handlers_test ?_) (fun q => by cases q)
        have kind : PySem.W.Looks (model X.prog X.w) hp (typeOf (.ref ad)) kls := fun _ _ _ _ kp q => wpAny_typeOf_ref (kp _ _ obAt) (by rw [obZ.1]; exact q)
        have name : ∀ {Q E : Value → Shared → Prop}, Q c { t with heap := hp } → wpAny (model X.prog X.w) (X.A.mark (some (.ref ad))) (eval (.Name x p1) X.env) Q E { t with heap := hp } := fun {Q E} q => by
          obtain ⟨g1, g2, g3⟩ := hc
          rcases g3 with g3 | ⟨g3, g4, g5⟩
          · exact ld_glob (X := X.suite ad ((ad, ob) :: (X.pn ++ pins))) JS g1 g3 q g2
          · exact ld_blt (X := X.suite ad ((ad, ob) :: (X.pn ++ pins))) JS g1 g3 g4 q g5 g2
        refine name ((PySem.W.exm_one (M := model X.prog X.w) JL.kIn kind yesno).here ?_)
        cases b with
        | false => exact ih (no rfl)
        | true =>
          refine codeAny_handlers_suite_as (HandSPX.lands_againZ land fun h5 land5 up5 => ?_)
          obtain ⟨ob5, _, at5, z5, d5⟩ := land5.there
          have J5 : Inv X pins σB HB { t with heap := h5 } := JX.landed nbB land5.1 ((upB.trans up1).trans up5) osB agB
          refine store_ok (X := X.suite ad ((ad, ob5) :: (X.pn ++ pins))) (v := .ref ad) (J5.suite at5 d5 freeB awayL awayF) nod at_ (.inl knd) rfl (fun t6 J6 => ?_) (.inr knd)
          refine wpAny_mono ((hsu ad ob5 kls dct (X.pn ++ pins) z5 ⟨_, d5⟩).run [] t6 _ HB _ J6 (yes rfl ad freeB)) (fun fl t7 told => ?_) (fun _ _ z => z.elim)
          cases fl with
          | ret u => exact let ⟨v, a, b, J, rr, q⟩ := told; gone_ok (J.unsuite okX) nod at_ knd fun t8 J8 => ⟨v, _, b, J8, rr, q⟩
          | next => exact let ⟨a, b, J, q⟩ := told; gone_ok (J.unsuite okX) nod at_ knd fun t8 J8 => ⟨_, b, J8, q⟩
          | brk => exact let ⟨a, b, J, q⟩ := told; gone_ok (J.unsuite okX) nod at_ knd fun t8 J8 => ⟨_, b, J8, q⟩
          | cont => exact let ⟨a, b, J, q⟩ := told; gone_ok (J.unsuite okX) nod at_ knd fun t8 J8 => ⟨_, b, J8, q⟩
    exact clauses hh wish
end
end WR

/-! _law_met, with its two except clauses. -/
namespace K8
open PySem PySem.Spec PyProof.Rows L2 WR LamX
def MetF (f word : Str) (d : Option Addr) (H : Hp) (Q : VK) : Prop := ∃ (dd : Addr) (fs : List (Str × V)) (v : V), d = some dd ∧ H dd = some (.xd fs) ∧ fs.lookup f = some v ∧ ∀ p, H p = none → Q (.ref p) (upd H p (.tup [.str word, v]))
/-- what _law_met makes of what it asks -/
def MetX (CW CC : Addr) (Q : VK) : XK := fun cls d H =>
  (cls = .ref CW ∧ MetF "index" "web" d H Q) ∨ (cls = .ref CC ∧ MetF "index" "choices" d H Q)
def TMet (CW CC : Addr) : (XK → Hp → VK → Prop) → Hp → VK → Prop := fun tl H Q =>
  tl (MetX CW CC Q) H (fun v H' => ∀ p, H' p = none → Q (.ref p) (upd H' p (.tup [.str "told", v])))
/-- what is known of the classes in except clauses -/
structure Ex2 (K : PySem.W.Frag) (mg : Str → Option Value) (CW CC : Addr) : Prop where
  xW : XfC K CW
  xC : XfC K CC
  nW : PySem.W.findIn K (.ref CW) "index" = some none
  nC : PySem.W.findIn K (.ref CC) "index" = some none
  ww : PySem.W.exmOne K (.ref CW) (.ref CW) = some true
  cw : PySem.W.exmOne K (.ref CC) (.ref CW) = some false
  cc : PySem.W.exmOne K (.ref CC) (.ref CC) = some true
  gW : mg "BadWeb" = some (.ref CW)
  gC : mg "BadChoices" = some (.ref CC)
theorem takes_len {X : Cx} {W : WX} (t : Takes X W) : Takes X (fun cls d σ H => σ.length = X.N.length → W cls d σ H) := fun u s' ⟨a, B, sI, pins, σ, H, cls, d, e, I, nb, up, sky, na, os, ag, w⟩ =>
  t u s' ⟨a, B, sI, pins, σ, H, cls, d, e, I, nb, up, sky, na, os, ag, w I.len⟩
theorem sc__law_met : FnScope ["ask", "e"] ["ask"] (defScope s_law_met) := ⟨rfl, rfl, rfl, by decide +kernel, rfl, by decide +kernel, by decide +kernel⟩
section
variable {X : Cx}
theorem met_gives {CW CC g : Addr} {cdg : Value} {q : Str} (E2 : Ex2 X.K X.mg CW CC) : GivesTo X ["ask", "e"] "_law_met" (defScope s_law_met) g cdg (defBody s_law_met) "ask" q (TMet CW CC) := by
  intro f c' s H Q tl act hc h
  refine ⟨_, pss_one (ps_try_asMany (X := (cxOf C8.CX0 X.prog X.w X.K X.mg X.base ["ask", "e"] "_law_met" (defScope s_law_met) g cdg X.A X.stack s H C8.E0).nox) (n := "e") (i := 1)
    (tb := fun W D σ H => ∃ Ech : XK, (∀ cls d σ' H', σ'.length = 2 → Ech cls d H' → W cls d σ' H') ∧ σ[0]? = some (some (.ref f)) ∧ H c' = some (CodeO c' q) ∧ tl Ech H (fun v H' => 2 ≤ sizeLine ∧ ∀ p, H' p = none → D.rt (.ref p) (upd H' p (.tup [.str "told", v]))))
    rfl rfl sc__law_met.nd rfl rfl LamX.takes0 (fun W pn xe tk _ => ?_)
    (.cons ⟨rfl, by decide, .inl E2.gW⟩ (fun a oe cls d pn hz hf => pss_one (ps_ret (pe_tup (pa_cons pe_str (pa_cons (pe_xf E2.xW E2.nW hz hf (pv 1)) pa_nil)))))
      (.cons ⟨rfl, by decide, .inl E2.gC⟩ (fun a oe cls d pn hz hf => pss_one (ps_ret (pe_tup (pa_cons pe_str (pa_cons (pe_xf E2.xC E2.nC hz hf (pv 1)) pa_nil))))) .nil))), ?_⟩
  · refine ⟨fun pins s' σ H' D I h' => ?_⟩
    obtain ⟨Ech, hW, h1, h2, h3⟩ := h'
    have hp := fun p1 p2 => act _ pn xe Ech p1 p2 (takes_len tk) fun cls d σ' H' e hl => hW cls d σ' H' hl e
    exact (pss_one (ps_ret (pe_tup (pa_cons pe_str (pa_cons (hp _ _) pa_nil))))).run pins s' σ H' D I ⟨h1, h2, h3⟩
  · refine ⟨MetX CW CC Q, fun cls d σ' H' hl e => ?_, rfl, hc, ?_⟩
    · have one : ∀ a : Addr, (σ'.set 1 (some (.ref a)))[1]? = some (some (.ref a)) := fun a => by
        rw [List.getElem?_set_self (by omega)]
      rcases e with ⟨rfl, dd, fs, v, rfl, e1, e2, k⟩ | ⟨rfl, dd, fs, v, rfl, e1, e2, k⟩
      · exact ⟨true, E2.ww, fun _ a na => ⟨_, one a, rfl, rfl, dd, fs, v, rfl, e1, e2, (by show 2 ≤ sizeLine; decide), fun p np => k p np⟩, fun z => nomatch z⟩
      · exact ⟨false, E2.cw, (fun z => nomatch z), fun _ => ⟨true, E2.cc, fun _ a na => ⟨_, one a, rfl, rfl, dd, fs, v, rfl, e1, e2, (by show 2 ≤ sizeLine; decide), fun p np => k p np⟩, fun z => nomatch z⟩⟩
    · have sz : 2 ≤ sizeLine := by decide
      simpa only [TMet, sz, true_and] using h
end
end K8

/-! Defs that ask repr: called where no repr is under way. -/
namespace WR
open PySem PySem.Spec PyProof.Rows L2
structure FnG (P : Program) (w : World) (K : PySem.W.Frag) (mg : Str → Option Value) (base : Heap) (CX : CXT) (k : Nat) (f : Addr) (fd : FuncData) (ps : List Str) (sp : Sp) : Prop where
  len : ∀ vs H Q E, sp vs H Q E → vs.length = ps.length
  run : ∀ (A : Around) (outer : List Env) (s : Shared) (H : Hp) (args : Args) (us : List Value) (vs : List V) (Q : VK) (E : XK), Room k A → A.guards = some [] → Env0 P w K mg base A outer s H → BindsTo s fd args (ps.zip us) → Vals vs us → sp vs H Q E →
    codeAny (model P w) A (.call (.ref f) args) (CR CX outer P w H s Q E) s
/-- a def by name, its code object and table known -/
structure DfG (P : Program) (w : World) (K : PySem.W.Frag) (mg : Str → Option Value) (base : Heap) (CX : CXT) (k : Nat) (x : Str) (ps : List Str) (sp : Sp) : Prop where
  ex : ∃ f fd, mg x = some (.ref f) ∧ PySem.W.keepIn K (.ref f) = true ∧ Binds K fd ps [] ∧ FnG P w K mg base CX k f fd ps sp
section
variable {P : Program} {w : World} {K : PySem.W.Frag} {mg : Str → Option Value} {base : Heap}
/-- from the def's place: its body's promise at one state -/
theorem fnG_of {CX : CXT} {k : Nat} {f : Addr} {name qual : Str} {params : Arguments} {body : List Stmt} {scope : Scope} {dV kV doc pm cdv ct oc : Value} {an od : Option Addr} {osl : Array (Option Value)} {N ps : List Str} {sp : Sp}
    (lk : K.lookup f = some ⟨oc, od, .func (PySem.W.fnOf name qual params body scope dV kV doc pm an cdv ct), osl⟩) (hcd : PySem.W.codeIn K cdv qual = true) (S : FnScope N ps scope) (len : ∀ vs H Q E, sp vs H Q E → vs.length = ps.length)
    (hbody : ∀ (A : Around) (outer : List Env) (s : Shared) (H : Hp) (vs : List V) (Q : VK) (E : XK), Room k (A.deeper (envOfC qual scope s.heap.objs.size f cdv)) → (A.deeper (envOfC qual scope s.heap.objs.size f cdv)).guards = some [] → sp vs H Q E →
      ∃ t, PSs (cxOf CX P w K mg base N qual scope f cdv A outer s H E) body t ∧ t { nx := fun _ H' => Q .non H', rt := Q } (L2.start N vs) H) :
    FnG P w K mg base CX (k + 1) f (PySem.W.fnOf name qual params body scope dV kV doc pm an cdv ct) ps sp :=
  ⟨len, fun A outer s H args us vs Q E hr hg e0 hb r hsp => LamX.run_ofS lk hcd S hr e0 hb r (len _ _ _ _ hsp) fun hr' => hbody A outer s H vs Q E hr' hg hsp⟩
theorem FnG.mono {CX : CXT} {j k : Nat} {f : Addr} {fd : FuncData} {ps : List Str} {sp : Sp} (F : FnG P w K mg base CX j f fd ps sp) (h : j ≤ k) : FnG P w K mg base CX k f fd ps sp :=
  ⟨F.len, fun A outer s H args us vs Q E hr => F.run A outer s H args us vs Q E (hr.mono h)⟩
end
section
variable {X : Cx} {CX : CXT} {x : Str} {ps : List Str} {sp : Sp} {k : Nat} {e : Expr} {es : List Expr} {ta : TA} {p pos : Pos} {E : XK}
/-- such a def called -/
theorem pe_dfG (D : DfG X.prog X.w X.K X.mg X.base CX k x ps sp) (room : Room k X.A) (free : X.A.guards = some []) (hx : Passes CX X E) (ha : PA X (e :: es) ta) (hg : Gl X x := by rfl) (hdb : (x == ("__debug__" : Str)) = false := by decide)
    (he : starEach (e :: es) X.env = (false, eval e X.env) :: starEach es X.env := by rfl) (hpl : (backTo pos (starEach es X.env)).any (·.1) = false := by rfl) : PE X (.Call (.Name x p) (e :: es) [] pos) (tCall sp [] E ta) := by
  obtain ⟨f, fd, named, kept, binds, G⟩ := D.ex
  constructor
  intro pins s σ H Q I0 want
  refine wpAny_Call_Name_kw (ld_glob I0 hg named (PySem.W.callWith_K (h₀ := X.base) I0.ok.mod.kin kept (thn (ha.run pos pins s σ H _ I0 want) ?_) he hpl) hdb)
  rintro us t ⟨vs, H1, I1, rel, want1⟩
  rw [List.append_nil] at want1
  have many : (us ++ []).length = ps.length := by rw [List.append_nil, ← rel.length]; exact G.len _ _ _ _ want1
  have bound := binds t us I1.kIn many
  rw [List.append_nil] at bound
  refine ⟨I1.kIn, wpAny_call (codeAny_mono (G.run X.A X.stack t H1 ⟨us, []⟩ us vs Q E room free I1.env0 bound rel want1) ?_)⟩
  intro r t2 told
  match r, told with
  | .error x, told => exact hx pins σ H1 t x t2 I1 told
  | .ok (.ret u), told => exact I1.after told
  | .ok .next, told => exact told.elim
  | .ok .brk, told => exact told.elim
  | .ok .cont, told => exact told.elim
end
/-! ### calls by keywords alone -/
section
variable {X : Cx} {CX : CXT} {x : Str} {ps ks : List Str} {sp : Sp} {k : Nat} {kws : List Keyword} {tk : TA} {p pos : Pos} {E : XK} {g : List Value → List Value → List Value} {gV : List V → List V → List V}
structure DfK (P : Program) (w : World) (K : PySem.W.Frag) (mg : Str → Option Value) (base : Heap) (CX : CXT) (k : Nat) (x : Str) (ps ks : List Str) (g : List Value → List Value → List Value) (gV : List V → List V → List V) (sp : Sp) : Prop where
  ex : ∃ f fd, mg x = some (.ref f) ∧ PySem.W.keepIn K (.ref f) = true ∧ KBn K fd ps 0 ks g gV ∧ FnOk P w K mg base CX k f fd ps sp
def tKw (n : Nat) (sp : Sp) (gV : List V → List V → List V) (E : XK) (tk : TA) : TE := fun σ H Q => tk σ H fun zs H2 => zs.length = n ∧ sp (gV [] zs) H2 Q E
theorem pe_dfK (D : DfK X.prog X.w X.K X.mg X.base CX k x ps ks g gV sp) (room : Room k X.A) (hx : Passes CX X E) (hkw : PK X kws tk) (hg : Gl X x := by rfl) (hall : (backToKw pos (keywordEach kws X.env)).all (·.1.isSome) = true := by rfl)
    (hks : (backToKw pos (keywordEach kws X.env)).filterMap (·.1) = ks := by rfl) (hdb : (x == ("__debug__" : Str)) = false := by decide)
    (hpl : ((backTo pos (starEach [] X.env)).any (·.1) || (backToKw pos (keywordEach kws X.env)).any (·.1.isNone)) = false := by rfl) : PE X (.Call (.Name x p) [] kws pos) (tKw ks.length sp gV E tk) := by
  obtain ⟨f, fd, named, kept, binds, G⟩ := D.ex
  constructor
  intro pins s σ H Q I0 want
  refine wpAny_Call_Name_kw (ld_glob I0 hg named (PySem.W.callWith_KW0 (h₀ := X.base) I0.ok.mod.kin kept hall (thn (hkw.run pos pins s σ H _ I0 want) ?_) hpl) hdb)
  rintro ws t ⟨zs, H1, I1, rel, len, want1⟩
  rw [hks]
  have rel2 := binds.rel (vs := []) (us := []) .nil rel
  have many : ws.length = ks.length := by rw [← rel.length]; exact len
  have bound := binds.to t [] ws I1.kIn rfl many
  refine ⟨I1.kIn, wpAny_call (codeAny_mono (G.run X.A X.stack t H1 ⟨[], ks.zip ws⟩ _ _ Q E room I1.env0 bound rel2 want1) ?_)⟩
  intro r t2 told
  match r, told with
  | .error x, told => exact hx pins σ H1 t x t2 I1 told
  | .ok (.ret u), told => exact I1.after told
  | .ok .next, told => exact told.elim
  | .ok .brk, told => exact told.elim
  | .ok .cont, told => exact told.elim
end
end WR

/-! repr of data, dicts too, where no repr is under way. -/
namespace K8
open PySem PySem.Spec PyProof.Rows L2 WR
section
variable {P : Program} {w : World} {H : Hp} {h : Heap}
mutual
theorem drReads (ok : HOk P w H h) : ∀ {d : PyData} {v : V} {u : Value}, Dr All H v d → RelV v u → ∃ as, Reads h u d as ∧ ∀ a ∈ as, H a ≠ none
  | _, _, _, .non, r => by
    cases r
    exact ⟨_, .none, by simp⟩
  | _, _, _, .bl b, r => by
    cases r
    exact ⟨_, .bool b, by simp⟩
  | _, _, _, .int i, r => by
    obtain ⟨t, rfl⟩ := r
    exact ⟨_, .int i t, by simp⟩
  | _, _, _, .str x, r => by
    obtain ⟨t, rfl⟩ := r
    exact ⟨_, .str x t, by simp⟩
  | _, _, _, .lst n e ra, r => by
    cases r
    obtain ⟨_, its, m, rv, g⟩ := (ok _ _ e)
    obtain ⟨as, hr, hn⟩ := drReadsA ok ra rv
    refine ⟨_, .list g rfl rfl hr, fun a ha => ?_⟩
    rcases List.mem_cons.mp ha with rfl | ha
    · rw [e]
      nofun
    · exact hn a ha
  | _, _, _, .tup e ra, r => by
    cases r
    obtain ⟨_, its, rv, o, ho, hc, n, hd⟩ := (ok _ _ e)
    obtain ⟨as, hr, hn⟩ := drReadsA ok ra rv
    exact ⟨_, .tuple ho hc hd hr, hn⟩
  | _, _, _, .dct n e rk, r => by
    cases r
    obtain ⟨_, _, vs, kv, o, es, ep, g, ex, hd, _, ps, _⟩ := (ok _ _ e)
    obtain ⟨as, bs, h1, h2, hn⟩ := drReadsK ok rk kv ps
    refine ⟨_, .dict g ex.1 hd h1 h2, fun a ha => ?_⟩
    rw [List.cons_append] at ha
    rcases List.mem_cons.mp ha with rfl | ha
    · rw [e]
      nofun
    · exact hn a ha
theorem drReadsA (ok : HOk P w H h) : ∀ {ds : List PyData} {vs : List V} {us : List Value}, DrA All H vs ds → Vals vs us → ∃ as, ReadsAll h us ds as ∧ ∀ a ∈ as, H a ≠ none
  | _, _, _, .nil, .nil => ⟨_, .nil, by simp⟩
  | _, _, _, .cons r1 t1, .cons r2 t2 => by
    obtain ⟨as, q1, n1⟩ := drReads ok r1 r2
    obtain ⟨bs, q2, n2⟩ := drReadsA ok t1 t2
    exact ⟨_, .cons q1 q2, fun a ha => (List.mem_append.mp ha).elim (n1 a) (n2 a)⟩
theorem drReadsK (ok : HOk P w H h) : ∀ {ps : List (PyData × PyData)} {kvs : List (Key × V)} {vs : List (Key × Value)} {es : List DictEntry}, DrK All H kvs ps → KV kvs vs → Pairs (mixKind P w) es vs →
    ∃ as bs, ReadsAll h (es.map (·.key)) (ps.map (·.1)) as ∧ ReadsAll h (es.map (·.val)) (ps.map (·.2)) bs ∧ ∀ a ∈ as ++ bs, H a ≠ none
  | _, _, _, _, .nil, .nil, .nil => ⟨_, _, .nil, .nil, by simp⟩
  | _, _, _, _, @DrK.cons _ _ x v d kvs ps r1 t1, @Paired.cons _ _ _ _ q _ _ r2 t2, @Pairs.cons _ _ _ _ _ e _ es _ k1 k2 p2 => by
    obtain ⟨as, bs, a1, a2, n1⟩ := drReadsK ok t1 t2 p2
    obtain ⟨cs, c1, n2⟩ := drReads ok r1 r2.2
    have hq : q.1 = Sum.inr x := r2.1.symm
    rw [hq] at k1
    have k1' : keyIs (Sum.inr x) e.key = true := k1
    rcases keyIs_shape k1' with ⟨i, t, z, _⟩ | ⟨y, t, z, ek⟩
    · cases z
    · cases z
      have c0 : Reads h e.key (.str x) [] := by
        rw [ek]
        exact .str x t
      have c2 : Reads h e.val d cs := by
        rw [k2]
        exact c1
      refine ⟨_, _, .cons c0 a1, .cons c2 a2, fun a ha => ?_⟩
      · simp only [List.nil_append, List.mem_append] at ha
        rcases ha with ha | ha | ha
        · exact n1 a (List.mem_append.mpr (.inl ha))
        · exact n2 a ha
        · exact n1 a (List.mem_append.mpr (.inr ha))
end
end
/-! ### how long it is -/
def tB : Nat → Nat
  | 0 => 122
  | n + 1 => capT (n + 1) * (tB n + 2) + 3
theorem tB_up (n : Nat) : tB n ≤ tB (n + 1) := by
  have := cap_ge (n + 1)
  show tB n ≤ capT (n + 1) * (tB n + 2) + 3
  have h2 : 8 * (tB n + 2) ≤ capT (n + 1) * (tB n + 2) := Nat.mul_le_mul_right _ this
  omega
theorem tB_mono {n m : Nat} (h : n ≤ m) : tB n ≤ tB m := by
  induction h with
  | refl => exact Nat.le_refl _
  | step _ ih => exact Nat.le_trans ih (tB_up _)
theorem tB_ge (n : Nat) : 122 ≤ tB n := tB_mono (Nat.zero_le n)
theorem shown_sum {B : Nat} : ∀ {ds : List PyData}, (∀ d ∈ ds, d.shown.length ≤ B) → ((PyData.shownAll ds).map (·.length)).sum ≤ ds.length * B
  | [], _ => by simp [PyData.shownAll]
  | d :: ds, h => by
    have h1 := h d (List.mem_cons_self ..)
    have h2 := shown_sum (B := B) (ds := ds) fun e he => h e (List.mem_cons_of_mem _ he)
    simp only [PyData.shownAll, List.map_cons, List.sum_cons, List.length_cons, Nat.add_mul, Nat.one_mul]
    omega
theorem shownAll_len : ∀ ds : List PyData, (PyData.shownAll ds).length = ds.length
  | [] => rfl
  | d :: ds => by simp [PyData.shownAll, shownAll_len ds]
theorem fit_seq {B c n : Nat} {ds : List PyData} (hl : ds.length ≤ c) (h : ∀ d ∈ ds, d.shown.length ≤ B) (hx : n ≤ ((PyData.shownAll ds).map (·.length)).sum + 2 * (PyData.shownAll ds).length + 3) : n ≤ c * (B + 2) + 3 := by
  have h1 := shown_sum h
  rw [shownAll_len] at hx
  have h2 : ds.length * (B + 2) ≤ c * (B + 2) := Nat.mul_le_mul_right _ hl
  rw [Nat.mul_add] at h2
  omega
theorem str_shown {x : Str} (h : okStr x = true) : (PyData.str x).shown.length ≤ 122 := by
  simp only [okStr, Bool.and_eq_true, decide_eq_true_eq, List.all_eq_true] at h
  have := PySem.StrLaws.reprText_len x fun c hc => h.2 c hc
  show (reprText x).length ≤ 122
  omega
theorem int_shown {i : Int} (h : i.natAbs.log2 < 100) : (PyData.int i).shown.length ≤ 101 := by
  have := int_text_length_le (a := i) (k := 100) (by decide) h
  show (Str.ofString (toString i)).length ≤ 101
  rw [PySem.ofString_length]
  exact this
mutual
theorem tame_shown : ∀ {d : PyData} {n : Nat}, tame true d n = true → d.shown.length ≤ tB n
  | .list xs, n, t => by
    simp only [tame, Bool.and_eq_true, decide_eq_true_eq] at t
    obtain ⟨m, rfl⟩ : ∃ m, n = m + 1 := ⟨n - 1, by omega⟩
    exact fit_seq t.1.2 (tameA_shown (n := m) t.2) (listText_len_le _)
  | .tuple xs, n, t => by
    simp only [tame, Bool.and_eq_true, decide_eq_true_eq] at t
    obtain ⟨m, rfl⟩ : ∃ m, n = m + 1 := ⟨n - 1, by omega⟩
    exact fit_seq t.1.2 (tameA_shown (n := m) t.2) (tupleText_len_le _)
  | .dict ps, n, t => by
    simp only [tame, Bool.and_eq_true, decide_eq_true_eq, Bool.or_eq_true, List.isEmpty_iff, Bool.true_and] at t
    have h2 : tB 2 ≤ tB n := tB_mono t.1
    have h3 : tB 2 = 7979 := by decide
    have hx := dictText_len_le (PyData.shownKv ps)
    show (dictText (PyData.shownKv ps)).length ≤ _
    rcases t.2 with rfl | h1
    · simp [PyData.shownKv] at hx ⊢
      omega
    · obtain ⟨x, i, rfl⟩ : ∃ x i, ps = [(.str x, .int i)] := by
        match ps, h1 with
        | [(.str x, .int i)], _ => exact ⟨x, i, rfl⟩
      simp only [okOne, Bool.and_eq_true, decide_eq_true_eq] at h1
      have e1 := str_shown h1.1
      have e2 := int_shown h1.2
      have e3 : ((": " : String) : Str).length = 2 := rfl
      simp only [PyData.shownKv, List.map_cons, List.map_nil, List.sum_cons, List.sum_nil, List.length_cons, List.length_nil, strLen_append, e3] at hx ⊢
      omega
  | .str x, n, t => by
    simp only [tame] at t
    exact Nat.le_trans (str_shown t) (tB_ge n)
  | .int i, n, t => by
    simp only [tame, decide_eq_true_eq] at t
    exact Nat.le_trans (int_shown t) (Nat.le_trans (by decide) (tB_ge n))
  | .bool b, n, _ => by
    have h1 : (PyData.bool b).shown.length ≤ 122 := by cases b <;> decide
    exact Nat.le_trans h1 (tB_ge n)
  | .none, n, _ => by
    have h1 : (PyData.none).shown.length ≤ 122 := by decide
    exact Nat.le_trans h1 (tB_ge n)
theorem tameA_shown : ∀ {ds : List PyData} {n : Nat}, tameA true ds n = true → ∀ d ∈ ds, d.shown.length ≤ tB n
  | [], _, _, d, hd => by cases hd
  | x :: xs, n, t, d, hd => by
    simp only [tameA, Bool.and_eq_true] at t
    have hx := tame_shown t.1
    rcases List.mem_cons.mp hd with e | hd
    · rw [e]
      exact hx
    · exact tameA_shown t.2 d hd
end
mutual
theorem tame_showable : ∀ {d : PyData} {n : Nat}, tame true d n = true → d.showable = true ∧ d.depth ≤ n + 1
  | .list xs, n, t => by
    simp only [tame, Bool.and_eq_true, decide_eq_true_eq] at t
    obtain ⟨m, rfl⟩ : ∃ m, n = m + 1 := ⟨n - 1, by omega⟩
    obtain ⟨h1, h2⟩ := tameA_showable (n := m) t.2
    exact ⟨by simpa [PyData.showable] using h1, by simp only [PyData.depth]; omega⟩
  | .tuple xs, n, t => by
    simp only [tame, Bool.and_eq_true, decide_eq_true_eq] at t
    obtain ⟨m, rfl⟩ : ∃ m, n = m + 1 := ⟨n - 1, by omega⟩
    obtain ⟨h1, h2⟩ := tameA_showable (n := m) t.2
    exact ⟨by simpa [PyData.showable] using h1, by simp only [PyData.depth]; omega⟩
  | .dict ps, n, t => by
    simp only [tame, Bool.and_eq_true, decide_eq_true_eq, Bool.or_eq_true, List.isEmpty_iff, Bool.true_and] at t
    rcases t.2 with rfl | h1
    · exact ⟨rfl, by simp [PyData.depth, PyData.depthKv]⟩
    · obtain ⟨x, i, rfl⟩ : ∃ x i, ps = [(.str x, .int i)] := by
        match ps, h1 with
        | [(.str x, .int i)], _ => exact ⟨x, i, rfl⟩
      simp only [okOne, Bool.and_eq_true, decide_eq_true_eq] at h1
      refine ⟨?_, by simp [PyData.depth, PyData.depthKv]⟩
      simp only [PyData.showable, PyData.showableKv, Bool.and_true, Bool.true_and, decide_eq_true_eq]
      have := h1.2
      omega
  | .str x, n, t => ⟨rfl, by simp [PyData.depth]⟩
  | .int i, n, t => by
    simp only [tame, decide_eq_true_eq] at t
    exact ⟨by simp only [PyData.showable, decide_eq_true_eq]; omega, by simp [PyData.depth]⟩
  | .bool b, n, _ => ⟨rfl, by simp [PyData.depth]⟩
  | .none, n, _ => ⟨rfl, by simp [PyData.depth]⟩
theorem tameA_showable : ∀ {ds : List PyData} {n : Nat}, tameA true ds n = true → PyData.showableAll ds = true ∧ PyData.depthAll ds ≤ n + 1
  | [], _, _ => ⟨rfl, by simp [PyData.depthAll]⟩
  | x :: xs, n, t => by
    simp only [tameA, Bool.and_eq_true] at t
    obtain ⟨h1, h2⟩ := tame_showable t.1
    obtain ⟨h3, h4⟩ := tameA_showable t.2
    exact ⟨by simp [PyData.showableAll, h1, h3], by simp only [PyData.depthAll]; omega⟩
end
/-- repr can be asked of it -/
def rprOk (d : PyData) : Prop := d.showable = true ∧ d.shown.length ≤ sizeLine ∧ d.depth ≤ 100
theorem rpr_tame {d : PyData} {n : Nat} (h : tame true d n = true) (hn : n ≤ 4) : rprOk d := by
  obtain ⟨h1, h2⟩ := tame_showable h
  refine ⟨h1, Nat.le_trans (tame_shown h) (Nat.le_trans (tB_mono hn) (by decide)), by omega⟩
theorem rpr_two {d e : PyData} (h1 : tame true d 3 = true) (h2 : tame true e 4 = true) : rprOk (.list [d, e]) := by
  obtain ⟨a1, a2⟩ := tame_showable h1
  obtain ⟨b1, b2⟩ := tame_showable h2
  have c1 := tame_shown h1
  have c2 := tame_shown h2
  have z := listText_len_le (PyData.shownAll [d, e])
  have t3 : tB 3 = 319243 := by decide
  have t4 : tB 4 = 12769803 := by decide
  refine ⟨by simp [PyData.showable, PyData.showableAll, a1, b1], ?_, by simp only [PyData.depth, PyData.depthAll]; omega⟩
  show (listText (PyData.shownAll [d, e])).length ≤ sizeLine
  simp only [PyData.shownAll, List.map_cons, List.map_nil, List.sum_cons, List.sum_nil, List.length_cons, List.length_nil] at z ⊢
  have sz : sizeLine = 16777216 := rfl
  omega
/-- repr(x) -/
def rReprD : List V → Hp → VK → Prop := fun xs H Q => ∃ x d, xs = [x] ∧ Dr All H x d ∧ rprOk d ∧ Q (.str d.shown) H
theorem call_reprD {X : Cx} {k : Nat} (room : Room k X.A) (free : X.A.guards = some []) (sm : ∃ o, X.base.get? sysModules = some o) : CallR X (.builtin "repr") rReprD := by
  intro pins s σ H xs us Q I r h
  obtain ⟨x, d, rfl, rd, ⟨k1, k2, k3⟩, q⟩ := h
  obtain ⟨u, rfl, rv⟩ := vals1 r
  obtain ⟨as, hr, hn⟩ := drReads I.hok rd rv
  have hu := room.un
  have hsm : d.hasDict = true → sysModules ∉ as := fun _ z => by
    obtain ⟨o, e⟩ := sm
    exact hn _ z (I.bs _ _ e).2
  cases hr with
  | none => exact PySem.P.repr_of_none ⟨.str _, H, I.tok _, ⟨_, rfl⟩, q⟩
  | bool b => exact PySem.P.repr_of_bool ⟨.str _, H, I.tok _, ⟨_, rfl⟩, q⟩
  | int i t =>
    simp only [PyData.showable, decide_eq_true_eq] at k1
    exact PySem.P.repr_of_int k1 ⟨.str _, H, I.tok _, ⟨_, rfl⟩, q⟩
  | str x t => exact PySem.P.repr_of_str ⟨.str _, H, I.tok _, ⟨_, rfl⟩, q⟩ k2
  | list h1 h2 h3 h4 => exact PySem.repr_of_reads' (.list h1 h2 h3 h4) k1 hsm free (by omega) (fun _ _ e => e) (fun h' u tk hk => ⟨.str _, H, I.kept hk, ⟨_, rfl⟩, q⟩) k2
  | tuple h1 h2 h3 h4 => exact PySem.repr_of_reads' (.tuple h1 h2 h3 h4) k1 hsm free (by omega) (fun _ _ e => e) (fun h' u tk hk => ⟨.str _, H, I.kept hk, ⟨_, rfl⟩, q⟩) k2
  | dict h1 h2 h3 h4 h5 => exact PySem.repr_of_reads' (.dict h1 h2 h3 h4 h5) k1 hsm free (by omega) (fun _ _ e => e) (fun h' u tk hk => ⟨.str _, H, I.kept hk, ⟨_, rfl⟩, q⟩) k2
end K8

/-! The defs that are called by keywords alone. -/
namespace K8
open PySem PySem.Spec PyProof.Rows L2 WR
section
variable {P : Program} {w : World} {K : PySem.W.Frag} {mg : Str → Option Value} {base : Heap} {CX : CXT} {k : Nat} {x : Str} {ps : List Str} {sp : Sp} {d : He.DefD}
theorem DfF.kw (D : DfF P w K mg base CX k x ps sp d) (ks : List Str) (g : {α : Type} → List α → List α) (hrel : ∀ {zs : List V} {ws : List Value}, Vals zs ws → Vals (g zs) (g ws))
    (h : ∀ (kV doc pm : Value) (an : Option Addr) (cdv ct : Value) (ws : List Value), ws.length = ks.length → bindArgs (PySem.W.fnOf d.name d.qual d.params d.body d.scope .none kV doc pm an cdv ct) ⟨[], ks.zip ws⟩ = pure (ps.zip (g ws))) :
    DfK P w K mg base CX k x ps ks (fun _ ws => g ws) (fun _ zs => g zs) sp := by
  obtain ⟨f, fd, hm, F, b, G⟩ := D.ex
  refine ⟨f, fd, hm, F.kp, ⟨fun s us ws X l1 l2 => ?_, fun r1 r2 => hrel r2⟩, G⟩
  obtain rfl : us = [] := List.eq_nil_of_length_eq_zero l1
  obtain ⟨oc, od, dV, kV, doc, pm, an, cdv, ct, osl, rfl, lk, hcd, hD, hK⟩ := F.ex
  rcases hD with ⟨_, rfl⟩ | ⟨e, _⟩
  · exact .of_eq (h kV doc pm an cdv ct ws l2)
  · exact absurd rfl e
theorem kw_meaning_fault (D : DfF P w K mg base CX k x ["web", "thing"] sp dmeaning_fault) : DfK P w K mg base CX k x ["web", "thing"] ["thing", "web"] (fun _ ws => ws.reverse) (fun _ zs => zs.reverse) sp :=
  D.kw ["thing", "web"] (fun l => l.reverse) (fun r => r.reverse) fun _ _ _ _ _ _ ws hl => match ws, hl with | [_, _], _ => rfl
theorem kw_is_meaning (D : DfF P w K mg base CX k x ["web", "thing"] sp dis_meaning) : DfK P w K mg base CX k x ["web", "thing"] ["thing", "web"] (fun _ ws => ws.reverse) (fun _ zs => zs.reverse) sp :=
  D.kw ["thing", "web"] (fun l => l.reverse) (fun r => r.reverse) fun _ _ _ _ _ _ ws hl => match ws, hl with | [_, _], _ => rfl
theorem kw_free_meaning (D : DfF P w K mg base CX k x ["web", "choices"] sp dfree_meaning) : DfK P w K mg base CX k x ["web", "choices"] ["choices", "web"] (fun _ ws => ws.reverse) (fun _ zs => zs.reverse) sp :=
  D.kw ["choices", "web"] (fun l => l.reverse) (fun r => r.reverse) fun _ _ _ _ _ _ ws hl => match ws, hl with | [_, _], _ => rfl
theorem kw_choice_lists (D : DfF P w K mg base CX k x ["web"] sp dchoice_lists) : DfK P w K mg base CX k x ["web"] ["web"] (fun _ ws => ws) (fun _ zs => zs) sp :=
  D.kw ["web"] (fun l => l) (fun r => r) fun _ _ _ _ _ _ ws hl => match ws, hl with | [_], _ => rfl
end
end K8

/-! Lists for tuples: the same rows, the same faults. Two scans of one web tell the same. -/
namespace K8
open PySem PySem.Spec PyProof.Rows L2 WR
theorem Lo.scal {x y : PyData} (h : Lo x y) (z : isDL x = false) : y = x := by
  cases h with
  | same _ => rfl
  | dct => rfl
  | _ => cases z
theorem Lo.eqL {x y : PyData} (h : Lo x y) : isL x = isL y := by
  cases h <;> rfl
theorem Lo.eqDL {x y : PyData} (h : Lo x y) : isDL x = isDL y := by
  cases h <;> rfl
theorem LoA.length : ∀ {xs ys : List PyData}, LoA xs ys → xs.length = ys.length
  | _, _, .nil => rfl
  | _, _, .cons _ t => by simp [LoA.length t]
theorem Lo.items {x y : PyData} (h : Lo x y) : LoA (its x) (its y) := by
  cases h with
  | same z =>
    have e : its x = [] := by cases x <;> first | rfl | cases z
    rw [e]
    exact .nil
  | dct => exact .nil
  | ll a => exact a
  | lt a => exact a
  | tl a => exact a
  | tt a => exact a
theorem LoA.getD : ∀ {xs ys : List PyData} (i : Nat), LoA xs ys → Lo (xs.getD i .none) (ys.getD i .none)
  | _, _, i, .nil => by simpa using Lo.same (d := .none) rfl
  | _, _, 0, .cons a _ => by simpa using a
  | _, _, i + 1, .cons _ t => by simpa using LoA.getD i t
theorem LoA.drop : ∀ {xs ys : List PyData} (i : Nat), LoA xs ys → LoA (xs.drop i) (ys.drop i)
  | _, _, 0, h => h
  | _, _, i + 1, .nil => .nil
  | _, _, i + 1, .cons _ t => by simpa using LoA.drop i t
theorem Lo.nth {x y : PyData} (h : Lo x y) (i : Nat) : Lo (K8.nth x i) (K8.nth y i) := h.items.getD i
/-- of what tells true of plain things alone -/
theorem Lo.pred {f : PyData → Bool} (hf : ∀ d : PyData, K8.isDL d = true → f d = false) {x y : PyData} (h : Lo x y) : f x = f y ∧ (f x = true → x = y) := by
  cases hd : K8.isDL x with
  | false => rw [h.scal hd]; exact ⟨rfl, fun _ => rfl⟩
  | true =>
    have hy : K8.isDL y = true := by rw [← h.eqDL]; exact hd
    rw [hf x hd, hf y hy]
    exact ⟨rfl, fun z => nomatch z⟩
theorem dl_num (d : PyData) (h : isDL d = true) : isNum d = false := by cases d <;> first | rfl | cases h
theorem dl_s (d : PyData) (h : isDL d = true) : isS d = false := by cases d <;> first | rfl | cases h
theorem dl_name (d : PyData) (h : isDL d = true) : isName d = false := by cases d <;> first | rfl | cases h
theorem LoA.nums : ∀ {xs ys : List PyData}, LoA xs ys → xs.all isNum = ys.all isNum ∧ (xs.all isNum = true → xs = ys)
  | _, _, .nil => ⟨rfl, fun _ => rfl⟩
  | _, _, .cons (d := d) (e := e) (ds := ds) (es := es) a t => by
    obtain ⟨h1, h2⟩ := Lo.pred dl_num a
    obtain ⟨h3, h4⟩ := LoA.nums t
    refine ⟨by simp only [List.all_cons, h1, h3], fun z => ?_⟩
    simp only [List.all_cons, Bool.and_eq_true] at z
    rw [h2 z.1, h4 z.2]
theorem rowForm_lo {d e : PyData} (h : Lo d e) : rowForm d = rowForm e := by
  have hL := h.eqL
  have hl := h.items.length
  obtain ⟨s1, s2⟩ := Lo.pred dl_s (h.nth 0)
  unfold rowForm
  rw [← hL, ← hl, ← s1]
  by_cases c : isL d = true ∧ (its d).length ≠ 0 ∧ isS (nth d 0) = true
  · rw [if_pos c, if_pos c]
    have e0 := s2 c.2.2
    obtain ⟨n1, n2⟩ := Lo.pred dl_name (h.nth 1)
    obtain ⟨a1, a2⟩ := (h.nth 2).items.nums
    have a3 : areNums (nth d 2) = areNums (nth e 2) := by unfold areNums; rw [(h.nth 2).eqL, a1]
    obtain ⟨b1, b2⟩ := (h.items.drop 1).nums
    have at_ : ∀ i, nth d (i + 1) = ((its d).drop 1).getD i .none := fun i => by simp [nth, List.getD_eq_getElem?_getD, List.getElem?_drop, Nat.add_comm]
    have at2 : ∀ i, nth e (i + 1) = ((its e).drop 1).getD i .none := fun i => by simp [nth, List.getD_eq_getElem?_getD, List.getElem?_drop, Nat.add_comm]
    unfold rowForm2
    rw [← e0, ← hl, ← n1, ← a3, ← b1]
    by_cases c1 : (strOf (nth d 0) = "made" ∨ strOf (nth d 0) = "asked") ∧ (its d).length = 3
    · rw [if_pos c1, if_pos c1]
      by_cases c2 : (isName (nth d 1) && areNums (nth d 2)) = true
      · rw [if_pos c2, if_pos c2]
        simp only [Bool.and_eq_true] at c2
        have c3 := c2.2
        simp only [areNums, Bool.and_eq_true] at c3
        rw [← n2 c2.1, ← a2 c3.2]
      · rw [if_neg c2, if_neg c2]
    · rw [if_neg c1, if_neg c1]
      by_cases b : ((its d).drop 1).all isNum = true
      · have eb := b2 b
        rw [at_ 0, at_ 1, at_ 2, at2 0, at2 1, at2 2, ← eb]
      · have n1 : ¬ (strOf (nth d 0) = "either" ∧ (its d).length = 4 ∧ ((its d).drop 1).all isNum = true) := fun z => b z.2.2
        have n2 : ¬ (strOf (nth d 0) = "given" ∧ (its d).length = 2 ∧ ((its d).drop 1).all isNum = true) := fun z => b z.2.2
        rw [if_neg n1, if_neg n1, if_neg n2, if_neg n2]
  · rw [if_neg c, if_neg c]
theorem Scan.lo {R R' : List Row} {n : Nat} {ds : List PyData} {f : PyData} (h : Scan R n ds R' f) : ∀ {es : List PyData}, LoA ds es → Scan R n es R' f := by
  induction h with
  | done =>
    intro es a
    cases a
    exact .done
  | form e =>
    intro es a
    cases a with
    | cons a t => exact .form (by rw [← rowForm_lo a]; exact e)
  | why e1 e2 =>
    intro es a
    cases a with
    | cons a t => exact .why (by rw [← rowForm_lo a]; exact e1) e2
  | twice e1 e2 e3 =>
    intro es a
    cases a with
    | cons a t => exact .twice (by rw [← rowForm_lo a]; exact e1) e2 e3
  | next e1 e2 e3 _ ih =>
    intro es a
    cases a with
    | cons a t => exact .next (by rw [← rowForm_lo a]; exact e1) e2 e3 (ih t)
theorem ScanOf.lo {d e : PyData} {R : List Row} {f : PyData} (h : ScanOf d R f) (l : Lo d e) : ScanOf e R f := by
  rcases h with ⟨hL, h⟩ | ⟨hL, h⟩
  · exact .inl ⟨by rw [← l.eqL]; exact hL, h.lo l.items⟩
  · exact .inr ⟨by rw [← l.eqL]; exact hL, h⟩
theorem Scan.det {R R1 R2 : List Row} {n : Nat} {ds : List PyData} {f1 f2 : PyData} (h : Scan R n ds R1 f1) : Scan R n ds R2 f2 → R1 = R2 ∧ f1 = f2 := by
  induction h with
  | done =>
    intro k
    cases k
    exact ⟨rfl, rfl⟩
  | form e =>
    intro k
    cases k with
    | form _ => exact ⟨rfl, rfl⟩
    | why e1 _ => exact absurd (e1.symm.trans e) (Row.d_ne _)
    | twice e1 _ _ => exact absurd (e1.symm.trans e) (Row.d_ne _)
    | next e1 _ _ _ => exact absurd (e1.symm.trans e) (Row.d_ne _)
  | why e e2 =>
    intro k
    cases k with
    | form e1 => exact absurd (e.symm.trans e1) (Row.d_ne _)
    | why e1 e3 =>
      have := Row.d_inj (e.symm.trans e1)
      subst this
      rw [e2] at e3
      cases e3
      exact ⟨rfl, rfl⟩
    | twice e1 e3 _ =>
      have := Row.d_inj (e.symm.trans e1)
      subst this
      rw [e2] at e3
      cases e3
    | next e1 e3 _ _ =>
      have := Row.d_inj (e.symm.trans e1)
      subst this
      rw [e2] at e3
      cases e3
  | twice e e2 m =>
    intro k
    cases k with
    | form e1 => exact absurd (e.symm.trans e1) (Row.d_ne _)
    | why e1 e3 =>
      have := Row.d_inj (e.symm.trans e1)
      subst this
      rw [e2] at e3
      cases e3
    | twice e1 e3 _ => exact ⟨rfl, rfl⟩
    | next e1 e3 m2 _ =>
      have := Row.d_inj (e.symm.trans e1)
      subst this
      exact absurd m m2
  | next e e2 m _ ih =>
    intro k
    cases k with
    | form e1 => exact absurd (e.symm.trans e1) (Row.d_ne _)
    | why e1 e3 =>
      have := Row.d_inj (e.symm.trans e1)
      subst this
      rw [e2] at e3
      cases e3
    | twice e1 e3 m2 =>
      have := Row.d_inj (e.symm.trans e1)
      subst this
      exact absurd m2 m
    | next e1 e3 m2 k2 =>
      have := Row.d_inj (e.symm.trans e1)
      subst this
      exact ih k2
theorem ScanOf.det {d : PyData} {R1 R2 : List Row} {f1 f2 : PyData} (h : ScanOf d R1 f1) (k : ScanOf d R2 f2) : R1 = R2 ∧ f1 = f2 := by
  rcases h with ⟨hL, h⟩ | ⟨hL, h1, h2⟩ <;> rcases k with ⟨kL, k⟩ | ⟨kL, k1, k2⟩
  · exact h.det k
  · rw [hL] at kL; cases kL
  · rw [hL] at kL; cases kL
  · exact ⟨h1.trans k1.symm, h2.trans k2.symm⟩
mutual
theorem tame_lo {b : Bool} : ∀ {d e : PyData} {n : Nat}, Lo d e → tame b d n = true → tame b e n = true
  | _, _, _, .same _, t => t
  | _, _, _, .dct, t => t
  | _, _, _, .ll a, t => by
    simp only [tame, Bool.and_eq_true, decide_eq_true_eq] at t ⊢
    exact ⟨⟨t.1.1, by rw [← a.length]; exact t.1.2⟩, tameA_lo a t.2⟩
  | _, _, _, .lt a, t => by
    simp only [tame, Bool.and_eq_true, decide_eq_true_eq] at t ⊢
    exact ⟨⟨t.1.1, by rw [← a.length]; exact t.1.2⟩, tameA_lo a t.2⟩
  | _, _, _, .tl a, t => by
    simp only [tame, Bool.and_eq_true, decide_eq_true_eq] at t ⊢
    exact ⟨⟨t.1.1, by rw [← a.length]; exact t.1.2⟩, tameA_lo a t.2⟩
  | _, _, _, .tt a, t => by
    simp only [tame, Bool.and_eq_true, decide_eq_true_eq] at t ⊢
    exact ⟨⟨t.1.1, by rw [← a.length]; exact t.1.2⟩, tameA_lo a t.2⟩
theorem tameA_lo {b : Bool} : ∀ {ds es : List PyData} {n : Nat}, LoA ds es → tameA b ds n = true → tameA b es n = true
  | _, _, _, .nil, _ => rfl
  | _, _, _, .cons a t, h => by
    simp only [tameA, Bool.and_eq_true] at h ⊢
    exact ⟨tame_lo a h.1, tameA_lo t h.2⟩
end
mutual
theorem tame_wd : ∀ {d : PyData} {n : Nat}, tame true d n = true → wd d = true
  | .list xs, n, t => by
    simp only [tame, Bool.and_eq_true, decide_eq_true_eq] at t
    simp only [wd, Bool.and_eq_true, decide_eq_true_eq]
    exact ⟨Nat.le_trans t.1.2 (Nat.le_trans (cap_le n) (by decide)), tameA_wd t.2⟩
  | .tuple xs, n, t => by
    simp only [tame, Bool.and_eq_true, decide_eq_true_eq] at t
    simp only [wd, Bool.and_eq_true, decide_eq_true_eq]
    exact ⟨Nat.le_trans t.1.2 (Nat.le_trans (cap_le n) (by decide)), tameA_wd t.2⟩
  | .dict ps, n, t => by
    simp only [tame, Bool.and_eq_true, decide_eq_true_eq, Bool.or_eq_true, List.isEmpty_iff, Bool.true_and] at t
    rcases t.2 with rfl | h1
    · rfl
    · obtain ⟨x, i, rfl⟩ : ∃ x i, ps = [(.str x, .int i)] := by
        match ps, h1 with
        | [(.str x, .int i)], _ => exact ⟨x, i, rfl⟩
      simp only [okOne, okStr, Bool.and_eq_true, decide_eq_true_eq] at h1
      simp only [wd, wdK, Bool.and_eq_true, decide_eq_true_eq, List.length_cons, List.length_nil]
      have l : lim = 4000 := rfl
      exact ⟨by omega, ⟨by omega, by omega⟩, trivial⟩
  | .str x, n, t => by
    simp only [tame, okStr, Bool.and_eq_true, decide_eq_true_eq] at t
    simp only [wd, decide_eq_true_eq]
    have l : lim = 4000 := rfl
    omega
  | .int i, n, t => by
    simp only [tame, decide_eq_true_eq] at t
    simp only [wd, decide_eq_true_eq]
    omega
  | .bool _, _, _ => rfl
  | .none, _, _ => rfl
theorem tameA_wd : ∀ {ds : List PyData} {n : Nat}, tameA true ds n = true → wdA ds = true
  | [], _, _ => rfl
  | d :: ds, n, t => by
    simp only [tameA, Bool.and_eq_true] at t
    simp only [wdA, Bool.and_eq_true]
    exact ⟨tame_wd t.1, tameA_wd t.2⟩
end
end K8

/-! _law_judged_right. -/
namespace K8
open PySem PySem.Spec PyProof.Rows L2 WR LamX
/-- all but the well and the tables of code stay -/
def GwN (w : Addr) (H H' : Hp) : Prop := ∀ b o, b ≠ w → H b = some o → (∀ ps, o ≠ .tbl ps) → H' b = some o
theorem GwN.of {w : Addr} {H H' : Hp} (s : Gw w H H') : GwN w H H' := fun b o h e _ => s b o h e
theorem GwN.ext {w : Addr} {H H' : Hp} (s : ExtN H H') : GwN w H H' := fun b o _ e n => s b o e n
theorem GwN.trans {w : Addr} {H H1 H2 : Hp} (s : GwN w H H1) (t : GwN w H1 H2) : GwN w H H2 := fun b o h e n => t b o h (s b o h e n) n
theorem tabs_gw {T : List (Addr × Str)} {w : Addr} {n : Nat} {H H' : Hp} (t : Tabs T H) (hw : Wl H w n) (g : Gw w H H') : Tabs T H' := fun p hp => by
  obtain ⟨ps, h1, h2, h3⟩ := t p hp
  obtain ⟨a, b, c, ew, _⟩ := hw
  refine ⟨ps, g _ _ (fun z => ?_) h1, h2, fun pos cv hc => ?_⟩
  · rw [z, ew] at h1
    cases h1
  · obtain ⟨c0, e1, e2⟩ := h3 pos cv hc
    refine ⟨c0, e1, g _ _ (fun z => ?_) e2⟩
    rw [z, ew] at e2
    unfold CodeO at e2
    cases e2
mutual
theorem drX {N : Addr → Prop} {H H' : Hp} (x : ExtN H H') : ∀ {d : PyData} {v : V}, Dr N H v d → Dr N H' v d
  | _, _, .non => .non
  | _, _, .bl b => .bl b
  | _, _, .int i => .int i
  | _, _, .str y => .str y
  | _, _, .lst n e r => .lst n (x _ _ e fun _ z => nomatch z) (drXA x r)
  | _, _, .tup e r => .tup (x _ _ e fun _ z => nomatch z) (drXA x r)
  | _, _, .dct n e r => .dct n (x _ _ e fun _ z => nomatch z) (drXK x r)
theorem drXA {N : Addr → Prop} {H H' : Hp} (x : ExtN H H') : ∀ {ds : List PyData} {vs : List V}, DrA N H vs ds → DrA N H' vs ds
  | _, _, .nil => .nil
  | _, _, .cons r t => .cons (drX x r) (drXA x t)
theorem drXK {N : Addr → Prop} {H H' : Hp} (x : ExtN H H') : ∀ {ps : List (PyData × PyData)} {kvs : List (Key × V)}, DrK N H kvs ps → DrK N H' kvs ps
  | _, _, .nil => .nil
  | _, _, .cons r t => .cons (drX x r) (drXK x t)
end
/-- what the law's own functions that make lambdas promise of the tables -/
abbrev TabL : Type := List (Addr × Str)
abbrev spJR (T : TabL) : Sp := fun vs H Q _ => ∃ (w : Addr) (n : Nat) (v : V) (d : PyData), vs = [.ref w, v] ∧ Wl H w n ∧ n + 41 ^ 4 + 6000 < top0 ∧ Dr (Ne w) H v d ∧ tame true d 4 = true ∧ Tabs T H ∧
  ∀ H', GwN w H H' → Wl H' w (n + 41 ^ 4) → Tabs T H' → Q (.bl true) H'
theorem ScanOf.fz {d : PyData} {R : List Row} {f : PyData} (h : ScanOf d R f) : WR.fz f = true := by
  rcases h.res with rfl | ⟨m, x, rfl⟩ <;> rfl
theorem why_len {R : List Row} {r : Row} {x : Str} (h : why R r = some x) : x.length ≤ 10 := by
  unfold why at h
  split at h
  · cases h
    decide
  · unfold why2 at h
    split at h
    · cases h
      decide
    · unfold why3 at h
      split at h
      · cases h
        decide
      · unfold why4 at h
        split at h
        · cases h
          decide
        · cases h
theorem nat_log {n : Nat} (h : n ≤ 1000000) : ((n : Nat) : Int).natAbs.log2 < 100 := log_small (by
  have : (1000000 : Nat) < 2 ^ 99 := by decide
  have e : ((n : Nat) : Int).natAbs = n := Int.natAbs_natCast n
  omega)
theorem fault_fit {n : Nat} {x : Str} (hn : n ≤ 1000000) (hx : x.length ≤ 10) : fit (faultD n x) 1 = true := by
  have := nat_log hn
  have l : lim = 4000 := rfl
  simp only [faultD, fit, fitA, List.length_cons, List.length_nil, Bool.and_eq_true, decide_eq_true_eq, Bool.and_true]
  exact ⟨⟨by omega, by omega⟩, ⟨by omega, by omega⟩⟩
theorem Scan.fit {R R' : List Row} {n : Nat} {ds : List PyData} {f : PyData} (h : Scan R n ds R' f) : n + ds.length ≤ 1000000 → K8.fit f 1 = true := by
  induction h with
  | done => intro _; rfl
  | form _ => intro l; exact fault_fit (by simp at l; omega) (by decide)
  | why _ e => intro l; exact fault_fit (by simp at l; omega) (why_len e)
  | twice _ _ _ => intro l; exact fault_fit (by simp at l; omega) (by decide)
  | next _ _ _ _ ih => intro l; exact ih (by simp at l ⊢; omega)
theorem ScanOf.fit {d : PyData} {R : List Row} {f : PyData} (h : ScanOf d R f) (w : wd d = true) : K8.fit f 1 = true := by
  have l : lim = 4000 := rfl
  rcases h with ⟨hL, h⟩ | ⟨_, _, rfl⟩
  · exact h.fit (by have := (wd_its w hL).1; omega)
  · exact fault_fit (by omega) (by decide)
mutual
theorem fit_mono : ∀ {d : PyData} {n m : Nat}, n ≤ m → fit d n = true → fit d m = true
  | .list xs, n, m, h, t => by
    simp only [fit, Bool.and_eq_true, decide_eq_true_eq] at t ⊢
    exact ⟨⟨by omega, t.1.2⟩, fitA_mono (by omega) t.2⟩
  | .tuple xs, n, m, h, t => by
    simp only [fit, Bool.and_eq_true, decide_eq_true_eq] at t ⊢
    exact ⟨⟨by omega, t.1.2⟩, fitA_mono (by omega) t.2⟩
  | .dict ps, n, m, h, t => by
    simp only [fit, Bool.and_eq_true, decide_eq_true_eq] at t ⊢
    exact ⟨by omega, t.2⟩
  | .str x, n, m, h, t => by simpa only [fit] using t
  | .int i, n, m, h, t => by simpa only [fit] using t
  | .bool _, n, m, h, t => by simp only [fit]
  | .none, n, m, h, t => by simp only [fit]
theorem fitA_mono : ∀ {ds : List PyData} {n m : Nat}, n ≤ m → fitA ds n = true → fitA ds m = true
  | [], _, _, _, _ => rfl
  | d :: ds, n, m, h, t => by
    simp only [fitA, Bool.and_eq_true] at t ⊢
    exact ⟨fit_mono h t.1, fitA_mono h t.2⟩
end
theorem fit_two {d e : PyData} {n : Nat} (h : fit d n = true) (k : fit e n = true) : fit (.list [d, e]) (n + 1) = true := by
  have l : lim = 4000 := rfl
  simp only [fit, fitA, List.length_cons, List.length_nil, Bool.and_eq_true, decide_eq_true_eq, Nat.add_sub_cancel]
  exact ⟨⟨by omega, by omega⟩, h, k, trivial⟩
end K8

/-! What _law_judged_right needs; no Python here. -/
namespace K8
open PySem PySem.Spec PyProof.Rows L2 WR
theorem worthWhy_len {R : List Row} {ms : List Wt} {r : Row} {d : PyData} {x : Str} (h : worthWhy R ms r d = some x) : x.length ≤ 10 := by
  have hf : (("form" : Str)).length ≤ 10 := by decide +kernel
  have hs : (("side" : Str)).length ≤ 10 := by decide +kernel
  have hl : (("like" : Str)).length ≤ 10 := by decide +kernel
  unfold worthWhy at h
  repeat' split at h
  all_goals first
    | (cases h; done)
    | (injection h with h; rw [← h]; first | exact hf | exact hs | exact hl)
theorem mFault_some {R : List Row} : ∀ {rs : List Row} {ms : List Wt} {ds : List PyData} {k : Nat} {x : Str}, mFault R ms rs ds = some (k, x) → k ≤ ms.length + rs.length ∧ x.length ≤ 10
  | [], ms, ds, k, x, h => by
    unfold mFault at h
    cases h
  | r :: rs, ms, [], k, x, h => by
    unfold mFault at h
    cases h
  | r :: rs, ms, d :: ds, k, x, h => by
    unfold mFault at h
    cases e : worthWhy R ms r d with
    | some y =>
      rw [e] at h
      injection h with h
      injection h with h1 h2
      rw [← h1, ← h2]
      exact ⟨by omega, worthWhy_len e⟩
    | none =>
      rw [e] at h
      dsimp only at h
      cases e2 : wtOf r d with
      | none => rw [e2] at h; cases h
      | some y =>
        rw [e2] at h
        have := mFault_some h
        simp only [List.length_append, List.length_cons, List.length_nil] at this ⊢
        exact ⟨by omega, this.2⟩
theorem nat_fit {k n : Nat} (h : k ≤ 1000000) : fit (.int (k : Nat)) n = true := by
  have := nat_log h
  simp only [fit, decide_eq_true_eq]
  omega
theorem mFaultD_fit {R : List Row} {d : PyData} (hR : R.length ≤ 1000000) {n : Nat} : fit (mFaultD R d) (n + 1) = true := by
  have l : lim = 4000 := rfl
  have pair : ∀ {a b : PyData}, fit a n = true → fit b n = true → fit (.tuple [a, b]) (n + 1) = true := fun ha hb => by
    simp only [fit, fitA, List.length_cons, List.length_nil, Bool.and_eq_true, decide_eq_true_eq, Nat.add_sub_cancel]
    exact ⟨⟨by omega, by omega⟩, ha, hb, trivial⟩
  have st : ∀ {x : Str}, x.length ≤ 10 → fit (.str x) n = true := fun hx => by
    simp only [fit, decide_eq_true_eq]
    omega
  unfold mFaultD
  split
  · split
    · rename_i k x e
      obtain ⟨h1, h2⟩ := mFault_some e
      exact pair (nat_fit (by simp at h1; omega)) (st h2)
    · split
      · rfl
      · exact pair (st (by decide +kernel)) (nat_fit hR)
  · exact pair (nat_fit (k := 0) (by decide)) (st (by decide +kernel))
theorem mFaultD_fz {R : List Row} {d : PyData} : WR.fz (mFaultD R d) = true := by
  unfold mFaultD
  split
  · split
    · rfl
    · split <;> rfl
  · rfl
/-- a list of worths, as long as the rows -/
def TD (R : List Row) (e : PyData) : Prop := ∃ ms : List Wt, e = .list (ms.map Wt.d) ∧ ms.length = R.length ∧ ∀ x ∈ ms, x.nOf ≤ 100
theorem dra_wts {N : Addr → Prop} {H : Hp} : ∀ {ms : List Wt} {xs : List V}, DrA N H xs (ms.map Wt.d) → xs = ms.map Wt.v
  | [], _, .nil => rfl
  | x :: ms, _, .cons r t => by
    rw [Wt.dr_v r, dra_wts t]
    rfl
theorem TD.at_ {N : Addr → Prop} {H : Hp} {R : List Row} {v : V} {e : PyData} (t : TD R e) (r : Dr N H v e) : ∃ (l : Addr) (ms : List Wt), v = .ref l ∧ N l ∧ H l = some (.lst (ms.map Wt.v)) ∧ ms.length = R.length ∧ ∀ x ∈ ms, x.nOf ≤ 100 := by
  obtain ⟨ms, rfl, h1, h2⟩ := t
  cases r with
  | lst no e r =>
    rw [dra_wts r] at e
    exact ⟨_, ms, rfl, no, e, h1, h2⟩
theorem allW_TD {R : List Row} {S : Fs} (hR : R.length ≤ 100) (h : S ∈ allW R) : TD R (.list (S.ms.map Wt.d)) := by
  obtain ⟨h1, h2⟩ := allW_low h
  exact ⟨S.ms, rfl, h1, fun x hx => Nat.le_trans (h2 x hx) hR⟩
theorem web_tame {R : List Row} (W : Web R) (hs : ∀ r ∈ R, r.small) (hl : R.length ≤ 40) : tame true (rowsD R) 3 = true := by
  refine tame_lst3 (n := 2) (tameA_of fun d hd => ?_) (by simp; omega)
  obtain ⟨r', hr', rfl⟩ := List.mem_map.mp hd
  obtain ⟨t1, t2, t3, t4, t5⟩ := Row.tm (b := true) (W.ok _ hr') (hs _ hr')
  rw [t4]
  exact tame_tup t1 (by omega)
theorem fitA_of {n : Nat} : ∀ {ds : List PyData}, (∀ d ∈ ds, fit d n = true) → fitA ds n = true
  | [], _ => rfl
  | d :: ds, h => by
    simp only [fitA, Bool.and_eq_true]
    exact ⟨h d (List.mem_cons_self ..), fitA_of fun e he => h e (List.mem_cons_of_mem _ he)⟩
theorem fit_list {ds : List PyData} {n : Nat} (hl : ds.length ≤ lim) (h : ∀ d ∈ ds, fit d n = true) : fit (.list ds) (n + 1) = true := by
  simp only [fit, Bool.and_eq_true, decide_eq_true_eq, Nat.add_sub_cancel]
  exact ⟨⟨by omega, hl⟩, fitA_of h⟩
end K8

/-! _law_judged_right. -/
namespace K8
open PySem PySem.Spec PyProof.Rows L2 WR
abbrev spJudR : Sp := fun vs H Q _ => ∃ (w va : Addr) (n : Nat) (u : V) (R : List Row) (e : PyData), vs = [.ref w, .ref va, u] ∧ Wl H w n ∧ n + 10000 < top0 ∧ Dr (Ne w) H (.ref va) (rowsD R) ∧ Dr (Ne w) H u e ∧ Lo (rowsD R) e ∧ Web R ∧ (∀ r ∈ R, r.small) ∧ R.length ≤ 18 ∧ (asks R).length ≤ 4 ∧
  ∀ H', Gw w H H' → Wl H' w (n + 300) → Q (.bl true) H'
section
variable {P : Program} {w : World} {K : PySem.W.Frag} {mg : Str → Option Value} {base : Heap} {CW : Addr}
theorem sc__law_judged_right : FnScope ["stream", "rows", "web", "base", "told", "thing", "due", "was", "found", "choices", "k"] ["stream", "rows", "web"] (defScope s_law_judged_right) := ⟨rfl, rfl, rfl, by decide +kernel, rfl, by decide +kernel, by decide +kernel⟩
theorem ok__law_judged_right (B : Bt mg) (SM : ∃ o, base.get? sysModules = some o) (F : Fn K mg d_law_judged_right) (D1 : Df P w K mg base CX0 3 "_law_a_all" ["rows"] spAAll) (D2 : Df P w K mg base CX0 2 "_law_a_drawn" ["stream", "rows"] spADrawn) (D3 : Df P w K mg base CX0 3 "_law_bent" ["stream", "rows", "told"] spABent)
    (D4 : Df P w K mg base CX0 2 "_law_a_fault" ["rows", "thing"] spRowsFault) (D5 : Df P w K mg base CX0 5 "_law_same" ["found", "due"] (spSame 5))
    (DM : DfF P w K mg base (L2.CX P w) 7 "meaning_fault" ["web", "thing"] (spMFault CW) dmeaning_fault) (DI : DfF P w K mg base (L2.CX P w) 7 "is_meaning" ["web", "thing"] (spIsMean CW) dis_meaning) :
    DfG P w K mg base CX0 10 "_law_judged_right" ["stream", "rows", "web"] spJudR := by
  obtain ⟨f, fd, hm, FD⟩ := F
  obtain ⟨oc, od, dV, kV, doc, pm, an, cdv, ct, osl, rfl, lk, hcd, _, _⟩ := FD.ex
  refine ⟨⟨f, _, hm, FD.kp, FD.bindsN fun _ _ _ _ _ _ us hl => match us, hl with | [_, _, _], _ => rfl, fnG_of (N := ["stream", "rows", "web", "base", "told", "thing", "due", "was", "found", "choices", "k"]) lk hcd sc__law_judged_right (fun vs H Q E h => by obtain ⟨w, va, n, u, R, e, rfl, _⟩ := h; rfl) (fun A outer s H vs Q E hr free h => ?_)⟩⟩
  obtain ⟨wa, va, n, u, R, ew, rfl, hw, hn, rd, ru, lo, W, sm, hR, hA, q⟩ := h
  have hr2 := hr.mono (show 2 ≤ 9 by decide)
  have hr3 := hr.mono (show 3 ≤ 9 by decide)
  have hr5 := hr.mono (show 5 ≤ 9 by decide)
  have hr7 := hr.mono (show 7 ≤ 9 by decide)
  have hr8 := hr.mono (show 8 ≤ 9 by decide)
  refine ⟨_, PSs.nox (pss_cons (ps_set (i := 3) sc__law_judged_right.nd rfl (by first | exact Or.inl rfl | exact Or.inr rfl) (pe_op op_cat (pe_lc (own := [("choices", 9), ("told", 4)]) (g := gTup K 2 (gCons (gName 9) (gCons (gName 4) gNil))) (tt := tYes) rfl sc__law_judged_right.nd (pi_seq (pe_slice (sl_N (Ne wa)) (pe_df D1 hr3 pass0 (pa_cons (pv 1) pa_nil)) po_none (po_some pe_int))) (blkOk_by (own := [("choices", 9), ("told", 4)]) (N := ["stream", "rows", "web", "base", "told", "thing", "due", "was", "found", "choices", "k"]) (sc := defScope s_law_judged_right) (by decide +kernel)) (fun _ _ _ _ _ => pg_tup rfl (pgs_cons (pg_name (i := 9) sc__law_judged_right.nd rfl (by first | exact Or.inl rfl | exact Or.inr rfl)) (pgs_cons (pg_name (i := 4) sc__law_judged_right.nd rfl (by first | exact Or.inl rfl | exact Or.inr rfl)) pgs_nil))) (fun _ _ _ _ _ => pts_nil) (fun _ _ _ _ _ => (pv 4))) (pe_lc (own := [("k", 10)]) (g := gName 10) (tt := tYes) rfl sc__law_judged_right.nd (pi_range1 rfl B.range (pa_cons pe_int pa_nil)) (blkOk_by (own := [("k", 10)]) (N := ["stream", "rows", "web", "base", "told", "thing", "due", "was", "found", "choices", "k"]) (sc := defScope s_law_judged_right) (by decide +kernel)) (fun _ _ _ _ _ => pg_name (i := 10) sc__law_judged_right.nd rfl (by first | exact Or.inl rfl | exact Or.inr rfl)) (fun _ _ _ _ _ => pts_nil) (fun _ _ _ _ _ => (pe_df D2 hr2 pass0 (pa_cons (pv 0) (pa_cons (pv 1) pa_nil)))))))
      (pss_cons (ps_for PassesOwn.never rfl (pi_seq (pv 3)) (pg_name (i := 4) sc__law_judged_right.nd rfl (by first | exact Or.inl rfl | exact Or.inr rfl)) (pss_one (ps_for PassesOwn.never rfl (pi_seq (pe_df D3 hr3 pass0 (pa_cons (pv 0) (pa_cons (pv 1) (pa_cons (pv 4) pa_nil))))) (pg_name (i := 5) sc__law_judged_right.nd rfl (by first | exact Or.inl rfl | exact Or.inr rfl)) (pss_cons (ps_par (i := 6) (j := 7) (by rfl) sc__law_judged_right.nd rfl rfl (by decide) rfl rfl (pa_cons (pe_df D4 hr2 pass0 (pa_cons (pv 1) (pa_cons (pv 5) pa_nil))) (pa_cons (pe_callB (call_reprD hr free SM) (by rfl) B.repr (by decide +kernel) (pa_cons (pv 5) pa_nil)) pa_nil)) (by first | rfl | kernel_rfl))
      (pss_cons (ps_set (i := 8) sc__law_judged_right.nd rfl (by first | exact Or.inl rfl | exact Or.inr rfl) (pe_lst (pa_cons (pe_df DM.df hr7 (passes_call LamX.takes0 (fun _ _ _ _ z => z)) (pa_cons (pv 2) (pa_cons (pv 5) pa_nil))) (pa_cons (pe_dfK (kw_meaning_fault DM) hr7 (passes_call LamX.takes0 (fun _ _ _ _ z => z)) (pk_cons (pv 5) (pk_cons (pv 2) pk_nil))) pa_nil))))
      (pss_cons (ps_expr (pe_bm PySem.F.plainAttrs_list PySem.F.slot_list_extend PySem.F.type_list_extend mt_extend (pv 8) (pa_cons (pe_lst (pa_cons (pe_df DI.df hr7 (passes_call LamX.takes0 (fun _ _ _ _ z => z)) (pa_cons (pv 2) (pa_cons (pv 5) pa_nil))) (pa_cons (pe_dfK (kw_is_meaning DI) hr7 (passes_call LamX.takes0 (fun _ _ _ _ z => z)) (pk_cons (pv 5) (pk_cons (pv 2) pk_nil))) pa_nil))) pa_nil)))
      (pss_one (ps_if (PW.pt (pw_or (pt_not (pt_val (pe_df D5 hr5 pass0 (pa_cons (pv 8) (pa_cons (pe_lst (pa_cons (pv 6) (pa_cons (pv 6) (pa_cons (pe_cmpR op_isN (pv 6) pe_non (nomark _)) (pa_cons (pe_cmpR op_isN (pv 6) pe_non (nomark _)) pa_nil))))) pa_nil))))) (pw_or1 (pt_cmpR op_ne (pe_callB (call_reprD hr free SM) (by rfl) B.repr (by decide +kernel) (pa_cons (pv 5) pa_nil)) (pv 7) (nomark _))))) (pss_one (ps_ret pe_bl)) pss_nil))))))))
      (pss_one (ps_ret pe_bl)))), ?_⟩
  have hsl := lim_lt
  have hlim : lim = 4000 := rfl
  have htop : top0 = 1000000000000 := rfl
  have oN : Off wa (Ne wa) := fun a z => z
  have tR := web_tame W sm (by omega)
  have te : tame true ew 3 = true := tame_lo lo tR
  have wde := tame_wd te
  have sc : ScanOf ew R .none := W.scan.lo lo
  -- base, its first half
  refine ⟨_, rfl, .ref va, R, rfl, rd.all, W, by omega, by omega, fun p H1 s1 r1 => ⟨_, rfl, allD R, r1.wide fun b z => hw.ne z, rfl, fun v2 H2 s2 r2 => ?_⟩⟩
  have e2 : likeD (allD R) (cutA (its (allD R)) none (some (2 : Int))) = .list (((allW R).take 2).map entD) := by
    show PyData.list (cutA ((allW R).map entD) none (some ((2 : Nat) : Int))) = _
    rw [cutA_to, List.map_take]
  rw [e2] at r2
  have hw2 := hw.sm (s1.trans s2)
  have r2' : Dr (Ne wa) H2 v2 (.list (((allW R).take 2).map entD)) := r2.wide fun b z => z.elim id fun y => (hw.sm s1).ne y
  obtain ⟨a2, xs2, rfl, hq2, rs2⟩ := r2'.seq rfl
  have lx2 : xs2.length = ((allW R).take 2).length := by rw [rs2.length]; simp [its]
  have l2 : ((allW R).take 2).length ≤ 2 := by rw [List.length_take]; omega
  have mem2 : ∀ S ∈ (allW R).take 2, S ∈ allW R := fun S h => List.mem_of_mem_take h
  generalize (allW R).take 2 = L2' at r2' rs2 lx2 l2 mem2
  refine ⟨a2, xs2, rfl, hq2, fun J hJ D1' nD1 => ?_⟩
  refine lc_seq hJ (fun m H' => Sm H2 H' ∧ ∃ ys, H' D1' = some (.lst ys) ∧ DrA (fun b => b ≠ wa ∧ b ≠ D1') H' ys ((L2'.take m).map fun S => PyData.list (S.ms.map Wt.d))) ⟨Sm.new nD1, [], upd_same, .nil⟩ (fun m H' hm h => ?_) (fun m x H' hx h => ?_) fun H3 h => ?_
  · rcases hq2 with e | e
    · rw [e]; exact h.1 _ _ e
    · rw [e]; exact h.1 _ _ e
  · obtain ⟨s', ys, eD, ry⟩ := h
    have hm : m < L2'.length := by
      have := (List.getElem?_eq_some_iff.mp hx).1
      omega
    obtain ⟨d, hd', rx⟩ := rs2.get hx
    rw [show its (PyData.list (L2'.map entD)) = L2'.map entD from rfl, List.getElem?_map, List.getElem?_eq_getElem hm] at hd'
    cases hd'
    have et : L2'.take (m + 1) = L2'.take m ++ [L2'[m]] := by rw [List.take_succ, List.getElem?_eq_getElem hm]; rfl
    have rx' := rx.live.sm s'
    have nD' : ∀ b, Ne wa b ∧ H2 b ≠ none → b ≠ wa ∧ b ≠ D1' := fun b z => ⟨z.1, fun y => z.2 (by rw [y]; exact nD1)⟩
    cases rx' with
    | tup eT ra =>
    cases ra with
    | cons ra1 ra2 =>
    cases ra2 with
    | cons ra2 ra3 =>
    cases ra3
    refine ⟨_, _, rfl, SqT.of eT, rfl, _, _, rfl, _, _, rfl, rfl, rfl, ?_⟩
    dsimp only [tYes]
    rw [if_pos rfl]
    have ly := ry.length
    rw [List.length_map, List.length_take] at ly
    refine ⟨_, rfl, ys, eD, by omega, fun c o e => ?_, _, upd_same, ?_⟩
    · rw [upd_ne (ne_of_none e nD1)]
      exact s' _ _ e
    · rw [et, List.map_append]
      have st : ∀ {o : HO}, Stays (fun b => b ≠ wa ∧ b ≠ D1') H' (upd H' D1' o) := ⟨fun b o nb z => by rw [upd_ne nb.2]; exact z, fun b ws z => by
        rw [upd_ne fun y' => by rw [y', eD] at z; cases z]
        exact z⟩
      exact (ry.append (.one (ra2.wide nD'))).mono (fun _ z => z) st
  obtain ⟨s3, ys1, eD1, ry1⟩ := h
  rw [lx2, List.take_length] at ry1
  have nD1w : D1' ≠ wa := hw2.ne nD1
  have s03 := (s1.trans s2).trans s3
  have hw3 := hw.sm s03
  -- its second half
  refine ⟨_, rfl, by decide, by decide, fun D2' nD2 => ?_⟩
  rw [show (2 : Int).toNat = 2 from rfl]
  refine lc_w (c := 50) (n := n) (N := No) (fun _ e => TD R e) (WalkW.range (w := wa) (N := No) (lo := 0)) nD2 hw3 (fun b z => z.elim) (by simp; omega) (fun _ => rfl) (fun x d' j H9 Q' hd' g9 hw9 rx q' hDn => ?_) (fun H4 ys2 es2 g4 hw4 eD2 ry2 al => ?_)
  · have hj : j < 2 := by
      have := (List.getElem?_eq_some_iff.mp hd').1
      simpa using this
    refine ⟨_, rfl, _, rfl, wa, va, n + 50 * j, R, rfl, hw9, by omega, (rd.sm s03).gn oN hw3 g9, W, by omega, fun ms l H10 hl hlow g10 hw10 nl el => ?_⟩
    exact q' _ (.list (ms.map Wt.d)) _ g10 (hw10.mono (by omega)) (.lst ⟨.inr (g9.free hw9 nl), fun y => hDn (by rw [← y]; exact nl)⟩ el (wts_drN ms)) ⟨ms, rfl, hl, hlow⟩
  rw [show ((List.range 2).map fun (k : Nat) => PyData.int (0 + (k : Int))).length = 2 from rfl] at hw4
  have les2 : es2.length = 2 := al.len
  have eD1' := g4 D1' _ nD1w eD1
  have td2 : ∀ e ∈ es2, TD R e := fun e he => by
    obtain ⟨_, _, h⟩ := al.mem e he
    exact h
  have ly1 : ys1.length ≤ 2 := by rw [ry1.length, List.length_map]; exact l2
  have ly2 : ys2.length = 2 := by rw [ry2.length]; exact les2
  refine ⟨D1', D2', ys1, ys2, rfl, rfl, eD1', eD2, by omega, fun bp nbp => ?_⟩
  have s5 := Sm.new (o := .lst (ys1 ++ ys2)) nbp
  have ebp : upd H4 bp (.lst (ys1 ++ ys2)) bp = some (.lst (ys1 ++ ys2)) := upd_same
  have nbw : bp ≠ wa := hw4.ne nbp
  have g04 := (Gw.of s03).trans g4
  have rb : DrA (Ne wa) (upd H4 bp (.lst (ys1 ++ ys2))) (ys1 ++ ys2) (L2'.map (fun S => PyData.list (S.ms.map Wt.d)) ++ es2) := by
    have a1 : DrA (Ne wa) H4 ys1 (L2'.map fun S => PyData.list (S.ms.map Wt.d)) := (ry1.wide (fun b z => z.1)).gn oN hw3 g4
    have a2 : DrA (Ne wa) H4 ys2 es2 := ry2.wide fun b z => z.1.elim (fun y => y.elim) fun y => hw3.ne y
    exact (a1.append a2).sm s5
  have tdb : ∀ e ∈ L2'.map (fun S => PyData.list (S.ms.map Wt.d)) ++ es2, TD R e := fun e he => by
    rcases List.mem_append.mp he with z | z
    · obtain ⟨S, hS, rfl⟩ := List.mem_map.mp z
      exact allW_TD (by omega) (mem2 S hS)
    · exact td2 e z
  have lb : (ys1 ++ ys2).length ≤ 4 := by rw [List.length_append]; omega
  have hw5 : Wl (upd H4 bp (.lst (ys1 ++ ys2))) wa (n + 100) := (hw4.sm s5).mono (by omega)
  have g05 := g04.trans (Gw.of s5)
  generalize ys1 ++ ys2 = ysb at ebp rb lb hw5 g05 ⊢
  generalize L2'.map (fun S => PyData.list (S.ms.map Wt.d)) ++ es2 = esb at rb tdb
  generalize upd H4 bp (.lst ysb) = H5 at ebp rb hw5 g05 ⊢
  clear s5 ry1 ry2 rs2 eD1 eD1' eD2 td2 r1 r2 r2'
  have rd5 := rd.gn oN hw g05
  have ru5 := ru.gn oN hw g05
  -- for told in base
  refine ⟨_, rfl, bp, ysb, rfl, .inl ebp, fun J hJ => ?_⟩
  refine for_seq hJ (fun i σ3 H3 => ∃ x4 x5 x6 x7 x8, σ3 = [some (.ref wa), some (.ref va), some u, some (.ref bp), x4, x5, x6, x7, x8, none, none] ∧ Gw wa H5 H3 ∧ Wl H3 wa (n + 100 + 40 * i)) ?_ ?_ ?_ ?_
  · exact ⟨_, _, _, _, _, rfl, Gw.of Sm.rfl', hw5⟩
  · rintro i σ3 H3 _ ⟨_, _, _, _, _, _, g3, _⟩
    rw [g3 _ _ nbw ebp, ebp]
  · rintro i x σ3 H3 hx ⟨x4, x5, x6, x7, x8, rfl, g3, hw3'⟩
    have hi := (List.getElem?_eq_some_iff.mp hx).1
    obtain ⟨ed, hed, rx⟩ := (rb.gn oN hw5 g3).get hx
    obtain ⟨l, ms, rfl, nlw, el, hl, hlow⟩ := (tdb _ (List.mem_of_getElem? hed)).at_ rx
    have rd3 := rd5.gn oN hw5 g3
    have ru3 := ru5.gn oN hw5 g3
    -- for thing in _law_bent(..)
    refine ⟨_, rfl, _, rfl, _, rfl, wa, l, n + 100 + 40 * i, .ref va, R, ms, rfl, hw3', by omega, rd3, W.ok, by omega, nlw, el, hl, hlow, fun p' ys ds H4' g4' hw4' ep rds tms lds => ⟨p', ys, rfl, .inl ep, fun J2 hJ2 => ?_⟩⟩
    have rd4 := (rd3.gn oN hw3' g4').all
    have ru4 := (ru3.gn oN hw3' g4').all
    refine for_seq hJ2 (fun j σ4 H6 => ∃ x5 x6 x7 x8, σ4 = [some (.ref wa), some (.ref va), some u, some (.ref bp), some (.ref l), x5, x6, x7, x8, none, none] ∧ Sm H4' H6) ?_ ?_ ?_ ?_
    · exact ⟨_, _, _, _, rfl, Sm.rfl'⟩
    · rintro j σ4 H6 _ ⟨_, _, _, _, _, s6⟩
      rw [s6 _ _ ep, ep]
    · rintro j y σ4 H6 hy ⟨x5, x6, x7, x8, rfl, s6⟩
      obtain ⟨d, hd, ry⟩ := (rds.sm s6).get hy
      have td := tms d (List.mem_of_getElem? hd)
      have wdd := tame_wd td
      have lR : R.length ≤ lim := by omega
      -- due, was
      refine ⟨_, rfl, _, rfl, .ref va, y, R, d, rfl, rd4.sm s6, W, lR, ry, wdd, fun due H7 s7 rdue => ⟨_, rfl, y, d, rfl, ry.sm s7, rpr_tame td (by decide), _, _, rfl, ?_⟩⟩
      have s67 := s6.trans s7
      have ry7 := ry.sm s7
      have bad : ∀ {R' : List Row} {m : Nat} {x : Str}, ScanOf ew R' (faultD m x) → False := fun z => by cases (sc.det z).2
      -- found
      refine ⟨_, rfl, _, rfl, u, y, ew, d, rfl, ru4.sm s67, wde, ry7, wdd, fun R1 z1 H8 sc1 s8 rz1 => ?_, fun R' m x dx H' z _ _ _ => bad z⟩
      obtain ⟨rfl, _⟩ := sc.det sc1
      refine ⟨_, rfl, _, rfl, rfl, u, y, ew, d, rfl, ru4.sm (s67.trans s8), wde, ry7.sm s8, wdd, fun R2 z2 H9 sc2 s9 rz2 => ?_, fun R' m x dx H' z _ _ _ => bad z⟩
      obtain ⟨rfl, _⟩ := sc.det sc2
      have rz1' : Dr No H9 z1 (mFaultD R d) := (rz1.fz mFaultD_fz).sm s9
      have rz2' : Dr No H9 z2 (mFaultD R d) := rz2.fz mFaultD_fz
      refine ⟨(by show 2 ≤ sizeLine; decide), fun q1 nq1 => ?_⟩
      have s10 := Sm.new (o := .lst [z1, z2]) nq1
      have e10 : upd H9 q1 (.lst [z1, z2]) q1 = some (.lst [z1, z2]) := upd_same
      have rz1a := rz1'.sm s10
      have rz2a := rz2'.sm s10
      have s710 := (s8.trans s9).trans s10
      have nq7 : H7 q1 = none := (s8.trans s9).free nq1
      generalize upd H9 q1 (.lst [z1, z2]) = H10 at s10 e10 rz1a rz2a s710 ⊢
      -- found.extend
      have s010 := s67.trans s710
      refine ⟨_, rfl, .inl ⟨rfl, _, SqL.of e10⟩, ?_⟩
      refine ⟨_, rfl, _, rfl, u, y, ew, d, rfl, ru4.sm s010, wde, ry7.sm s710, wdd, fun R3 z3 H11 sc3 s11 hz3 => ?_, fun R' m x dx H' z _ _ _ => bad z⟩
      obtain ⟨rfl, _⟩ := sc.det sc3
      subst hz3
      refine ⟨_, rfl, _, rfl, rfl, u, y, ew, d, rfl, ru4.sm (s010.trans s11), wde, ry7.sm (s710.trans s11), wdd, fun R4 z4 H12 sc4 s12 hz4 => ?_, fun R' m x dx H' z _ _ _ => bad z⟩
      obtain ⟨rfl, _⟩ := sc.det sc4
      subst hz4
      refine ⟨(by show 2 ≤ sizeLine; decide), fun q2 nq2 => ?_⟩
      have s13 := (s11.trans s12).trans (Sm.new (o := .lst [.bl (noneB (mFaultD R d)), .bl (noneB (mFaultD R d))]) nq2)
      have e13 := s13 _ _ e10
      refine ⟨q1, q2, [z1, z2], _, rfl, rfl, e13, upd_same, (by show 4 ≤ sizeLine; decide), ?_⟩
      have rz1b := rz1a.sm s13
      have rz2b := rz2a.sm s13
      have s713 := s710.trans s13
      generalize upd H12 q2 (.lst [.bl (noneB (mFaultD R d)), .bl (noneB (mFaultD R d))]) = H13 at s13 e13 rz1b rz2b s713 ⊢
      have stq : ∀ {o : HO}, Stays No H13 (upd H13 q1 o) := ⟨fun _ _ z => z.elim, fun b ws z => by
        rw [upd_ne fun y' => by rw [y', e13] at z; cases z]
        exact z⟩
      have rz1c : Dr No (upd H13 q1 (.lst ([z1, z2] ++ [.bl (noneB (mFaultD R d)), .bl (noneB (mFaultD R d))]))) z1 (mFaultD R d) := rz1b.mono (fun _ z => z) stq
      have rz2c : Dr No (upd H13 q1 (.lst ([z1, z2] ++ [.bl (noneB (mFaultD R d)), .bl (noneB (mFaultD R d))]))) z2 (mFaultD R d) := rz2b.mono (fun _ z => z) stq
      have s14 : Sm H7 (upd H13 q1 (.lst ([z1, z2] ++ [.bl (noneB (mFaultD R d)), .bl (noneB (mFaultD R d))]))) := fun b o z => by
        rw [upd_ne (ne_of_none z nq7)]
        exact s713 _ _ z
      have e14 : upd H13 q1 (.lst ([z1, z2] ++ [.bl (noneB (mFaultD R d)), .bl (noneB (mFaultD R d))])) q1 = some (.lst [z1, z2, .bl (noneB (mFaultD R d)), .bl (noneB (mFaultD R d))]) := upd_same
      generalize upd H13 q1 (.lst ([z1, z2] ++ [.bl (noneB (mFaultD R d)), .bl (noneB (mFaultD R d))])) = H14 at rz1c rz2c s14 e14 ⊢
      have rfound : Dr All H14 (.ref q1) (.list [mFaultD R d, mFaultD R d, .bool (noneB (mFaultD R d)), .bool (noneB (mFaultD R d))]) := .lst trivial e14 (.cons rz1c.all (.cons rz2c.all (.cons (.bl _) (.one (.bl _)))))
      -- the test
      refine ⟨_, rfl, _, rfl, _, rfl, _, rfl, rfl, _, rfl, rfl, (by show 4 ≤ sizeLine; decide), fun p2 np2 => ?_⟩
      rw [none_dec rdue]
      have sp2 := Sm.new (o := .lst [due, due, .bl (noneB (mFaultD R d)), .bl (noneB (mFaultD R d))]) np2
      have dueb := (rdue.sm s14).sm sp2
      refine ⟨.ref q1, .ref p2, _, rfl, rfound.sm sp2, .lst trivial upd_same (.cons dueb (.cons dueb (.cons (.bl _) (.one (.bl _))))), ?_, fun H15 s15 => ?_⟩
      · refine fit_list (by show 4 ≤ lim; decide) fun e he => ?_
        have hf := mFaultD_fit (R := R) (d := d) (n := 2) (by omega)
        simp only [List.mem_cons, List.not_mem_nil, or_false] at he
        rcases he with rfl | rfl | rfl | rfl
        · exact hf
        · exact hf
        · rfl
        · rfl
      · have s715 := (s14.trans sp2).trans s15
        refine ⟨_, rfl, iteF ?_⟩
        refine ⟨_, rfl, y, d, rfl, ry7.sm s715, rpr_tame td (by decide), _, rfl, rfl, _, rfl, ?_⟩
        rw [show (!decide (V.str d.shown = V.str d.shown)) = false by simp]
        exact ⟨_, _, _, _, rfl, s67.trans s715⟩
    · rintro σ4 H6 ⟨x5, x6, x7, x8, rfl, s6⟩
      exact ⟨_, _, _, _, _, rfl, (g3.trans g4').trans (Gw.of s6), (hw4'.sm s6).mono (by omega)⟩
  · rintro σ3 H3 ⟨x4, x5, x6, x7, x8, rfl, g3, hw3'⟩
    exact q H3 (g05.trans g3) (hw3'.mono (by omega))
end
end K8

/-! _law_spoiled and what comes of it; _law_is_apart. -/
namespace K8
open PySem PySem.Spec PyProof.Rows L2 WR
mutual
/-- what _law_spoiled makes of data without dicts -/
def sd : PyData → PyData
  | .list xs => .list (sdA xs ++ [.str "late9"])
  | .tuple xs => .tuple (sdA xs)
  | d => d
def sdA : List PyData → List PyData
  | [] => []
  | d :: ds => sd d :: sdA ds
end
theorem sdA_app : ∀ (xs ys : List PyData), sdA (xs ++ ys) = sdA xs ++ sdA ys
  | [], ys => rfl
  | x :: xs, ys => by rw [List.cons_append, sdA, sdA, sdA_app xs ys, List.cons_append]
theorem OwA.snoc {H : Hp} {v : V} {d : PyData} {f : List Addr} (o : Ow H v d f) : ∀ {vs : List V} {ds : List PyData} {fs : List (List Addr)}, OwA H vs ds fs → OwA H (vs ++ [v]) (ds ++ [d]) (fs ++ [f])
  | _, _, _, .nil => .cons o .nil
  | _, _, _, .cons a t => .cons a (OwA.snoc o t)
def spPoilD : Nat → Sp
  | 0 => fun _ _ _ _ => False
  | n + 1 => fun vs H Q _ => ∃ (v : V) (d : PyData) (f : List Addr), vs = [v] ∧ Ow H v d f ∧ f.Nodup ∧ fit d n = true ∧ ∀ H', Bt1 f H H' → Ow H' v (sd d) f → Q .non H'
section
variable {P : Program} {w : World} {K : PySem.W.Frag} {mg : Str → Option Value} {base : Heap}
theorem ok__law_spoiledD (B : Bt mg) (F0 : Fn K mg d_law_spoiled) : ∀ n, Df P w K mg base CX0 n "_law_spoiled" ["thing"] (spPoilD n)
  | 0 => Df.off F0 fun f fd F => F.bindsN fun _ _ _ _ _ _ us hl => match us, hl with | [_], _ => rfl
  | n + 1 => by
    have D1 : Df P w K mg base CX0 n "_law_spoiled" ["thing"] (spPoilD n) := ok__law_spoiledD B F0 n
    obtain ⟨f, fd, hm, F⟩ := F0
    refine ⟨f, fd, hm, F.kp, F.bindsN fun _ _ _ _ _ _ us hl => match us, hl with | [_], _ => rfl, ?_⟩
    refine F.ok sc__law_spoiled (fun vs H Q E h => by obtain ⟨v, d, f, rfl, _⟩ := h; rfl) (fun cdv A outer s H vs Q E hr h => ?_)
    obtain ⟨v, d, fp, rfl, ow, nd, hf, q⟩ := h
    have hu := hu_of hr
    refine ⟨_, PSs.nox (pss_one (ps_if (pt_val (pe_callB (call_isD kit_dict) (by rfl) B.isinstance (by decide +kernel) (pa_cons (pv 0) (pa_cons (pe_ty "dict" B.dict (by decide +kernel)) pa_nil)))) (pss_cons (ps_for PassesOwn.never rfl (pi_seq (pe_callTy (call_listD rfl) (by rfl) B.list (by decide +kernel) (pa_cons (pv 0) pa_nil))) (pg_name (i := 1) sc__law_spoiled.nd rfl (by first | exact Or.inl rfl | exact Or.inr rfl)) (pss_one (ps_expr (pe_df D1 hr pass0 (pa_cons (pe_dget hu (pv 0) (pv 1) (fun _ _ => rfl)) pa_nil)))))
      (pss_one (ps_asg pe_str (pg_sub (pv 0) pe_str (set_dict hu))))) (pss_one (ps_if (pt_val (pe_callB (call_isD2 kit_list kit_tuple isL_or) (by rfl) B.isinstance (by decide +kernel) (pa_cons (pv 0) (pa_cons (pe_tup (pa_cons (pe_ty "list" B.list (by decide +kernel)) (pa_cons (pe_ty "tuple" B.tuple (by decide +kernel)) pa_nil))) pa_nil)))) (pss_cons (ps_for PassesOwn.never rfl (pi_seq (pv 0)) (pg_name (i := 2) sc__law_spoiled.nd rfl (by first | exact Or.inl rfl | exact Or.inr rfl)) (pss_one (ps_expr (pe_df D1 hr pass0 (pa_cons (pv 2) pa_nil)))))
      (pss_one (ps_if (pt_val (pe_callB (call_isTy kit_list) (by rfl) B.isinstance (by decide +kernel) (pa_cons (pv 0) (pa_cons (pe_ty "list" B.list (by decide +kernel)) pa_nil)))) (pss_one (ps_expr (pe_bm PySem.F.plainAttrs_list PySem.F.slot_list_append PySem.F.type_list_append mt_append (pv 0) (pa_cons pe_str pa_nil)))) pss_nil))) pss_nil)))), ?_⟩
    have rd := ow.dr
    have sz2 : ([V.ty "list", V.ty "tuple"] : List V).length ≤ sizeLine := by show 2 ≤ sizeLine; decide
    have hnd : ¬ isD d = true := fun z => by cases ow <;> cases z
    refine ⟨_, rfl, v, d, rfl, rd, _, rfl, ite2 (fun z => absurd z hnd) (fun _ => ?_)⟩
    refine ⟨_, rfl, sz2, fun p1 np1 => ⟨v, p1, d, rfl, upd_same, rd.sm (Sm.new np1), _, rfl, ite2 (fun hL => ?_) (fun hL => ?_)⟩⟩
    · have hL' : isL d = true := hL
      have s1 : Sm H (upd H p1 (.tup [V.ty "list", V.ty "tuple"])) := Sm.new np1
      generalize hH1 : upd H p1 (.tup [V.ty "list", V.ty "tuple"]) = H1 at s1
      obtain ⟨hn1, hlen, hfA⟩ := fit_its hf hL'
      obtain ⟨m, rfl⟩ : ∃ m, n = m + 1 := ⟨n - 1, by omega⟩
      have hsl := lim_lt
      have loop : ∀ (a : Addr) (xs : List V) (ds : List PyData) (fs : List (List Addr)) (D : Ends), (H1 a = some (.lst xs) ∨ H1 a = some (.tup xs)) → OwA H1 xs ds fs → fs.flatten.Nodup → a ∉ fs.flatten → ds.length ≤ lim → fitA ds m = true →
          (∀ x H2, Bt1 fs.flatten H1 H2 → OwA H2 xs (sdA ds) fs → D.nx [some (.ref a), none, x] H2) → ∀ J, ItS K H1 a xs J →
          ∃ W : Nat → Nat → L2.St → Hp → Prop, (∃ m, W 0 m [some (.ref a), none, none] H1) ∧ ∀ i m' σ H2, W i m' σ H2 →
            (J.stop i H2 ∧ D.nx σ H2) ∨ (J.go i H2 ∧ ∃ N : L2.St → Hp → Prop, (∀ σ' H', N σ' H' → ∃ m'', m'' < m' ∧ W (i + 1) m'' σ' H') ∧ ∀ x H', J.yld i H2 x H' → gName 2 x σ H' fun σ2 H3 => (tDrop (tCall (spPoilD (m + 1)) [] E0 (tCons (tVar 2) tNil))) { D with nx := N, ct := N, bk := D.nx } σ2 H3) := by
        intro a xs ds fs D ha oa ndf naf hl hfd hd J hJ
        have tups : ∀ {i : Nat} {H2 : Hp}, Bt1 (fs.take i).flatten H1 H2 → ∀ b ys, H1 b = some (.tup ys) → H2 b = some (.tup ys) := fun {i H2} k b ys e => k b _ (fun z => by
          obtain ⟨zs, ez⟩ := oa.lists b (flat_sub z)
          rw [e] at ez
          cases ez) e
        have lxd : xs.length = ds.length := oa.lenF.1
        have lxf : xs.length = fs.length := oa.lenF.2
        refine for_seq hJ (fun i σ H2 => ∃ x, σ = [some (.ref a), none, x] ∧ Bt1 (fs.take i).flatten H1 H2 ∧ OwA H2 (xs.take i) (sdA (ds.take i)) (fs.take i)) ⟨none, rfl, fun b o _ e => e, .nil⟩ ?_ ?_ ?_
        · rintro i σ H2 _ ⟨x, _, k, _⟩
          rcases ha with e | e
          · rw [e]
            exact k a _ (fun z => naf (flat_sub z)) e
          · rw [e]
            exact k a _ (fun z => naf (flat_sub z)) e
        · rintro i x σ H2 hx ⟨x0, rfl, k, od⟩
          obtain ⟨d1, f1, e1, e2, o1⟩ := oa.get hx
          obtain ⟨nd1, ap1⟩ := flat_apart e2 ndf
          have o2 : Ow H2 x d1 f1 := o1.keep (tups k) fun b hb o e => k b o (ap1 b hb) e
          refine ⟨_, rfl, x, d1, f1, rfl, o2, nd1, fitA_at hfd e1, fun H3 k3 o3 => ⟨some x, rfl, fun b o hb e => ?_, ?_⟩⟩
          · rw [flat_take e2] at hb
            exact k3 b o (fun z => hb (List.mem_append_right _ z)) (k b o (fun z => hb (List.mem_append_left _ z)) e)
          · have tk : ∀ {α : Type} {l : List α} {y : α}, l[i]? = some y → l.take (i + 1) = l.take i ++ [y] := fun h => by rw [List.take_succ, h]; rfl
            rw [tk hx, tk e1, tk e2, sdA_app]
            refine OwA.snoc o3 (od.keep (fun b ys e => k3 b _ (fun z => ?_) e) fun b hb o e => k3 b o (fun z => ap1 b z hb) e)
            obtain ⟨zs, ez⟩ := o2.lists b z
            rw [e] at ez
            cases ez
        · rintro σ H2 ⟨x, rfl, k, od⟩
          refine hd x H2 ?_ ?_
          · rw [lxf, List.take_length] at k
            exact k
          · rw [List.take_length, lxd, List.take_length, ← lxd, lxf, List.take_length] at od
            exact od
      have ow1 : Ow H1 v d fp := ow.keep (fun a xs e => s1 a _ e) fun b _ o e => s1 b o e
      cases ow1 with
      | @lst a xs ds fs ea oa =>
        have nd' := List.nodup_cons.mp nd
        refine ⟨_, rfl, a, xs, rfl, .inl ea, fun J hJ => ?_⟩
        refine loop a xs ds fs _ (.inl ea) oa nd'.2 nd'.1 hlen hfA (fun x H2 k od => ?_) J hJ
        have e2 : H2 a = some (.lst xs) := k a _ nd'.1 ea
        refine ⟨_, rfl, .ref a, .list [], rfl, .base (.lst e2), _, rfl, iteT ?_⟩
        have lx : xs.length = ds.length := oa.lenF.1
        have hl : ds.length ≤ lim := hlen
        refine ⟨_, rfl, .inl ⟨rfl, xs, SqL.of e2⟩, a, _, _, rfl, rfl, e2, by omega, ?_⟩
        refine q _ (fun b o hb e => ?_) ?_
        · rw [upd_ne (fun z => hb (by rw [z]; exact List.mem_cons_self ..))]
          exact k b o (fun z => hb (List.mem_cons_of_mem _ z)) (s1 b o e)
        · have od2 : OwA (upd H2 a (.lst (xs ++ [V.str "late9"]))) xs (sdA ds) fs := od.keep (fun b ys e => by
            rw [upd_ne fun z => by rw [z, e2] at e; cases e]
            exact e) fun b hb o e => by
            rw [upd_ne fun z => nd'.1 (by rw [← z]; exact hb)]
            exact e
          have := Ow.lst (H := upd H2 a (.lst (xs ++ [V.str "late9"]))) upd_same (OwA.snoc (Ow.str "late9") od2)
          have ef : (fs ++ [[]]).flatten = fs.flatten := by simp
          rw [ef] at this
          exact this
      | @tup a xs ds fs ea oa =>
        have na : a ∉ fs.flatten := fun z => by
          obtain ⟨zs, ez⟩ := oa.lists a z
          rw [ea] at ez
          cases ez
        refine ⟨_, rfl, a, xs, rfl, .inr ea, fun J hJ => ?_⟩
        refine loop a xs ds fs _ (.inr ea) oa nd na hlen hfA (fun x H2 k od => ?_) J hJ
        have e2 : H2 a = some (.tup xs) := k a _ na ea
        refine ⟨_, rfl, .ref a, .tuple [], rfl, .base (.tup e2), _, rfl, iteF ?_⟩
        exact q _ (fun b o hb e => k b o hb (s1 b o e)) (.tup e2 od)
      | _ => cases hL'
    · have hL' : isL d = false := by simpa using hL
      refine q _ (fun b o _ e => Sm.new np1 b o e) ?_
      have o1 : Ow (upd H p1 (.tup [V.ty "list", V.ty "tuple"])) v d fp := ow.keep (fun a xs e => Sm.new np1 a _ e) fun b _ o e => Sm.new np1 b o e
      have ed : sd d = d := by cases d <;> first | rfl | cases hL'
      rw [ed]
      exact o1
end
end K8

/-! _law_is_apart. -/
namespace K8
open PySem PySem.Spec PyProof.Rows L2 WR
def rCntD (K : PySem.W.Frag) : V → List V → Hp → VK → Prop := fun x xs H Q => ∃ (a : Addr) (y : V) (d : PyData) (ds : List PyData), x = .ref a ∧ xs = [y] ∧ Dp K H (.ref a) (.list ds) ∧ Dp K H y d ∧ PyData.plainAll ds = true ∧ d.plain = true ∧ d.depth = 0 ∧ Q (.int ((ds.countP fun z => PyData.eqv z d : Nat) : Int)) H
theorem mt_countD {X : Cx} (hu : X.A.units + 1 < cLine) : MtR X "list.count" (rCntD X.K) := by
  intro pins s σ H x xs v us Q I rx rxs h
  obtain ⟨a, y, d, ds, rfl, rfl, hl, hy, pl, pd, dp, q⟩ := h
  cases rx
  obtain ⟨uy, rfl, ry⟩ := rxs.one
  obtain ⟨bs, r1⟩ := Dp.reads I d y uy hy ry
  cases hl with
  | lst hs ha =>
    obtain ⟨its, rv, ⟨⟨cls, dd, data, sls⟩, n, ho, hc, hdn, hdt⟩, hlen⟩ := I.list hs
    obtain ⟨as, h4⟩ := Dp.readsAll I ds _ its ha rv
    exact SeqAt.count_list_data ⟨_, ho, hc, n, hdt⟩ (show ReadsAll s.heap its.toArray.toList ds as from h4) r1 pl pd (by rw [dp, Nat.min_zero]; exact hu) ⟨.int _, H, I.tok _, ⟨_, rfl⟩, q⟩
def late : PyData := .str "late9"
mutual
/-- every list in it holds 'late9' once -/
def ap : PyData → Nat → Bool
  | .list xs, n => decide (1 ≤ n) && (decide (xs.length ≤ lim) && ((PyData.plainAll xs && !PyData.hasDictAll xs) && (decide ((xs.countP fun z => PyData.eqv z late) = 1) && apA xs (n - 1))))
  | .tuple xs, n => decide (1 ≤ n) && (decide (xs.length ≤ lim) && apA xs (n - 1))
  | .dict _, _ => false
  | _, _ => true
def apA : List PyData → Nat → Bool
  | [], _ => true
  | d :: ds, n => ap d n && apA ds n
end
theorem apA_mem : ∀ {ds : List PyData} {n : Nat} {d : PyData}, apA ds n = true → d ∈ ds → ap d n = true
  | [], _, _, _, h => by cases h
  | e :: es, n, d, w, h => by
    simp only [apA, Bool.and_eq_true] at w
    rcases List.mem_cons.mp h with rfl | h
    · exact w.1
    · exact apA_mem w.2 h
def spApart : Nat → Sp
  | 0 => fun _ _ _ _ => False
  | n + 1 => fun vs H Q _ => ∃ (v : V) (d : PyData), vs = [v] ∧ Dr All H v d ∧ ap d n = true ∧ ∀ H', Sm H H' → Q (.bl true) H'
section
variable {P : Program} {w : World} {K : PySem.W.Frag} {mg : Str → Option Value} {base : Heap}
theorem sc__law_is_apart : FnScope ["thing", "part"] ["thing"] (defScope s_law_is_apart) := ⟨rfl, rfl, rfl, by decide +kernel, rfl, by decide +kernel, by decide +kernel⟩
theorem ok__law_is_apart (B : Bt mg) (F0 : Fn K mg d_law_is_apart) : ∀ n, Df P w K mg base CX0 n "_law_is_apart" ["thing"] (spApart n)
  | 0 => Df.off F0 fun f fd F => F.bindsN fun _ _ _ _ _ _ us hl => match us, hl with | [_], _ => rfl
  | n + 1 => by
    have D1 : Df P w K mg base CX0 n "_law_is_apart" ["thing"] (spApart n) := ok__law_is_apart B F0 n
    obtain ⟨f, fd, hm, F⟩ := F0
    refine ⟨f, fd, hm, F.kp, F.bindsN fun _ _ _ _ _ _ us hl => match us, hl with | [_], _ => rfl, ?_⟩
    refine F.ok sc__law_is_apart (fun vs H Q E h => by obtain ⟨v, d, rfl, _⟩ := h; rfl) (fun cdv A outer s H vs Q E hr h => ?_)
    obtain ⟨v, d, rfl, rd, ha, q⟩ := h
    have hu := hu_of hr
    refine ⟨_, PSs.nox (pss_cons (ps_if (pt_val (pe_callB (call_isD kit_dict) (by rfl) B.isinstance (by decide +kernel) (pa_cons (pv 0) (pa_cons (pe_ty "dict" B.dict (by decide +kernel)) pa_nil)))) (pss_one (ps_ret (pe_callB (cr_all rfl) (by rfl) B.all (by decide +kernel) (pa_cons (pe_lock (pe_lc (own := [("part", 1)]) (g := gName 1) (tt := tYes) rfl sc__law_is_apart.nd (pi_values (pv 0)) (blkOk_by (own := [("part", 1)]) (N := ["thing", "part"]) (sc := defScope s_law_is_apart) (by decide +kernel)) (fun _ _ _ _ _ => pg_name (i := 1) sc__law_is_apart.nd rfl (by first | exact Or.inl rfl | exact Or.inr rfl)) (fun _ _ _ _ _ => pts_nil) (fun _ _ _ _ _ => (pe_df D1 hr pass0 (pa_cons (pv 1) pa_nil))))) pa_nil)))) pss_nil)
      (pss_cons (ps_if (PW.pt (pw_and (pt_val (pe_callB (call_isTy kit_list) (by rfl) B.isinstance (by decide +kernel) (pa_cons (pv 0) (pa_cons (pe_ty "list" B.list (by decide +kernel)) pa_nil)))) (pw_and1 (pt_cmpR op_ne (pe_bm PySem.F.plainAttrs_list PySem.F.slot_list_count PySem.F.type_list_count (mt_countD hu) (pv 0) (pa_cons pe_str pa_nil)) pe_int (nomark _))))) (pss_one (ps_ret pe_bl)) pss_nil)
      (pss_one (ps_ret (pe_ifExp (pt_val (pe_callB (call_isD2 kit_list kit_tuple isL_or) (by rfl) B.isinstance (by decide +kernel) (pa_cons (pv 0) (pa_cons (pe_tup (pa_cons (pe_ty "list" B.list (by decide +kernel)) (pa_cons (pe_ty "tuple" B.tuple (by decide +kernel)) pa_nil))) pa_nil)))) (pe_callB (cr_all rfl) (by rfl) B.all (by decide +kernel) (pa_cons (pe_lc (own := [("part", 1)]) (g := gName 1) (tt := tYes) rfl sc__law_is_apart.nd (pi_seq (pv 0)) (blkOk_by (own := [("part", 1)]) (N := ["thing", "part"]) (sc := defScope s_law_is_apart) (by decide +kernel)) (fun _ _ _ _ _ => pg_name (i := 1) sc__law_is_apart.nd rfl (by first | exact Or.inl rfl | exact Or.inr rfl)) (fun _ _ _ _ _ => pts_nil) (fun _ _ _ _ _ => (pe_df D1 hr pass0 (pa_cons (pv 1) pa_nil)))) pa_nil)) pe_bl))))), ?_⟩
    have sz2 : 2 ≤ sizeLine := by decide
    have hsl := lim_lt
    have hnd : ¬ isD d = true := fun z => by
      cases d with
      | dict ps => simp [ap] at ha
      | _ => cases z
    refine ⟨_, rfl, v, d, rfl, rd, _, rfl, ite2 (fun z => absurd z hnd) (fun _ => ?_)⟩
    have seq : ∀ (a : Addr) (vs : List V) (xs : List PyData), v = .ref a → Sq H a vs → DrA All H vs xs → isL d = true → its d = xs → xs.length ≤ lim → 1 ≤ n → apA xs (n - 1) = true →
        (tIf (L2.tB (tCB (rIsD2 "list" "tuple" isL) (tCons (tVar 0) (tCons (tTup (tCons (tC (V.ty "list")) (tCons (tC (V.ty "tuple")) tNil))) tNil)))) (tCB (rAll K) (tCons (tLc (iSeq K (tVar 0)) (gName 1) tYes (tCall (spApart n) [] E0 (tCons (tVar 1) tNil)) (List.map (fun x => x.snd) [(Str.ofString "part", 1)])) tNil)) (tC (V.bl true)))
          [some v, none] H Q := fun a vs xs ev hq rx hL hi hl hn hA => by
      subst ev
      refine ⟨_, rfl, sz2, fun p1 np1 => ⟨_, p1, d, rfl, upd_same, rd.sm (Sm.new np1), _, rfl, ite2 (fun _ => ?_) (fun z => absurd hL z)⟩⟩
      have s1 := Sm.new (o := .tup [V.ty "list", V.ty "tuple"]) np1
      generalize upd H p1 (.tup [V.ty "list", V.ty "tuple"]) = H1 at s1 ⊢
      refine ⟨_, rfl, a, vs, rfl, hq.imp (fun z => s1 _ _ z) (fun z => s1 _ _ z), fun J hJ D nD => ?_⟩
      refine lc_fz (fun _ => .bool true) (Walk.seq hJ (rx.sm s1)) nD hl (fun _ => rfl) (fun _ _ => rfl) (fun x d' H2 Q' hm' s2 rx' q' => ?_) fun H2 ys s2 eD ry => ?_
      · obtain ⟨m, rfl⟩ : ∃ m, n = m + 1 := ⟨n - 1, by omega⟩
        exact ⟨_, rfl, x, d', rfl, rx', apA_mem hA hm', fun H3 s3 => q' _ H3 s3 (.bl true)⟩
      · have em : xs.map (fun _ => PyData.bool true) = (xs.map fun _ => true).map PyData.bool := by rw [List.map_map]; rfl
        rw [em] at ry
        obtain rfl := DrA.bls ry
        refine ⟨D, xs.map fun _ => true, rfl, SqL.of eD, ?_⟩
        have e1 : (xs.map fun _ => true).all id = true := by simp
        show Q (.bl ((xs.map fun _ => true).all id)) H2
        rw [e1]
        exact q H2 (s1.trans s2)
    have scal : isL d = false → (tIf (L2.tB (tCB (rIsD2 "list" "tuple" isL) (tCons (tVar 0) (tCons (tTup (tCons (tC (V.ty "list")) (tCons (tC (V.ty "tuple")) tNil))) tNil)))) (tCB (rAll K) (tCons (tLc (iSeq K (tVar 0)) (gName 1) tYes (tCall (spApart n) [] E0 (tCons (tVar 1) tNil)) (List.map (fun x => x.snd) [(Str.ofString "part", 1)])) tNil)) (tC (V.bl true)))
          [some v, none] H Q := fun hL => by
      refine ⟨_, rfl, sz2, fun p1 np1 => ⟨_, p1, d, rfl, upd_same, rd.sm (Sm.new np1), _, rfl, ite2 (fun z => absurd z (by rw [hL]; exact Bool.false_ne_true)) (fun _ => q _ (Sm.new np1))⟩⟩
    cases d with
    | list xs =>
      have ha' := ha
      simp only [ap, Bool.and_eq_true, decide_eq_true_eq, Bool.not_eq_true'] at ha'
      obtain ⟨h1, h2, ⟨h3, h3'⟩, h4, h5⟩ := ha'
      have rd' := rd
      cases rd' with
      | lst _ ea ra =>
      refine ⟨_, rfl, _, .list xs, rfl, Dr.ty rd, _, rfl, iteT ?_⟩
      refine ⟨_, rfl, .inl ⟨rfl, _, SqL.of ea⟩, _, .str "late9", late, xs, rfl, rfl, rd.dp (by simpa [PyData.hasDict] using h3'), (Dr.str (N := All) "late9").dp rfl, h3, rfl, rfl, rfl, _, rfl, ?_⟩
      rw [h4]
      refine iteF ?_
      exact seq _ _ xs rfl (.inl ea) ra rfl rfl h2 h1 h5
    | tuple xs =>
      have ha' := ha
      simp only [ap, Bool.and_eq_true, decide_eq_true_eq] at ha'
      obtain ⟨h1, h2, h5⟩ := ha'
      have rd' := rd
      cases rd' with
      | tup ea ra =>
      refine ⟨_, rfl, _, .tuple xs, rfl, Dr.ty rd, _, rfl, iteF (iteF ?_)⟩
      exact seq _ _ xs rfl (.inr ea) ra rfl rfl h2 h1 h5
    | dict ps => exact absurd rfl hnd
    | none => exact ⟨_, rfl, _, .none, rfl, Dr.ty rd, _, rfl, iteF (iteF (scal rfl))⟩
    | bool b => exact ⟨_, rfl, _, .bool b, rfl, Dr.ty rd, _, rfl, iteF (iteF (scal rfl))⟩
    | int i => exact ⟨_, rfl, _, .int i, rfl, Dr.ty rd, _, rfl, iteF (iteF (scal rfl))⟩
    | str x => exact ⟨_, rfl, _, .str x, rfl, Dr.ty rd, _, rfl, iteF (iteF (scal rfl))⟩
end
end K8

/-! What _law_free_right needs; no Python here. -/
namespace K8
open PySem PySem.Spec PyProof.Rows L2 WR
theorem free_more {R : List Row} {S : Fs} (h : S ∈ allW R) (k : List Bool) : fwalk R (S.ch ++ k) R.length = S := by
  have hr := mem_allW.mp h
  have := fwalk_agree (R := R) (cs := S.ch) (ds := S.ch ++ k) R.length (Nat.le_refl _) fun j hj => by
    rw [hr.2] at hj
    exact (getD_app k hj).symm
  rw [← this]
  exact hr.2
theorem boolsOf_list {e : PyData} {l : List Bool} (h : its e = l.map PyData.bool) : boolsOf e = l := by
  unfold boolsOf
  rw [h, List.map_map]
  conv => rhs; rw [← List.map_id l]
  rfl
theorem firstF_bools : ∀ (l : List Bool) (n : Nat), firstF ((l.map PyData.bool).map isB) n = none
  | [], _ => rfl
  | b :: l, n => by
    simp only [List.map_cons]
    unfold firstF
    rw [if_neg (by show ¬ (true = false); decide)]
    exact firstF_bools l (n + 1)
theorem firstF_odd {o : PyData} (ho : isB o = false) (rest : List PyData) : ∀ (l : List Bool) (n : Nat), firstF ((l.map PyData.bool ++ o :: rest).map isB) n = some (n + l.length)
  | [], n => by
    simp only [List.map_nil, List.nil_append, List.map_cons]
    unfold firstF
    rw [if_pos ho]
    rfl
  | b :: l, n => by
    simp only [List.map_cons, List.cons_append]
    unfold firstF
    rw [if_neg (by show ¬ (true = false); decide)]
    rw [firstF_odd ho rest l (n + 1), List.length_cons, show n + 1 + l.length = n + (l.length + 1) by omega]
theorem chFault_ok {R : List Row} {S : Fs} {e : PyData} (h : S ∈ allW R) (hL : isL e = true) {k : List Bool} (he : its e = (S.ch ++ k).map PyData.bool) : chFault R e = none ∧ fwalk R (boolsOf e) R.length = S := by
  have hb := boolsOf_list he
  refine ⟨?_, by rw [hb]; exact free_more h k⟩
  unfold chFault
  rw [if_pos hL, he, firstF_bools]
  dsimp only
  rw [hb, free_more h k, if_neg (by rw [List.length_append]; omega)]
theorem chFault_odd {R : List Row} {o : PyData} (ho : isB o = false) {e : PyData} (hL : isL e = true) {a : List Bool} {rest : List PyData} (he : its e = a.map PyData.bool ++ o :: rest) : chFault R e = some a.length := by
  unfold chFault
  rw [if_pos hL, he, firstF_odd ho]
  dsimp only
  rw [Nat.zero_add]
theorem chFault_short {R : List Row} {S : Fs} {e : PyData} {k : Nat} (h : S ∈ allW R) (hk : k < S.ch.length) (hL : isL e = true) (he : its e = (S.ch.take k).map PyData.bool) : chFault R e = some k := by
  have hb := boolsOf_list he
  have lk : (S.ch.take k).length = k := by rw [List.length_take]; omega
  have hr := mem_allW.mp h
  unfold chFault
  rw [if_pos hL, he, firstF_bools]
  dsimp only
  rw [hb, lk, if_pos]
  refine Nat.lt_of_not_le fun z => ?_
  have := fwalk_agree (R := R) (cs := S.ch.take k) (ds := S.ch) R.length (Nat.le_refl _) fun j hj => by
    have hj' : j < k := by omega
    rw [List.getD_eq_getElem?_getD, List.getD_eq_getElem?_getD, List.getElem?_take, if_pos hj']
  rw [this, hr.2] at z
  omega
theorem atP_count {p : Row → Bool} : ∀ (R : List Row) (n : Nat), (atP p R n).length = (R.filter p).length
  | [], _ => rfl
  | r :: R, n => by
    unfold atP
    rw [List.filter_cons]
    split
    · rw [List.length_cons, List.length_cons, atP_count R (n + 1)]
    · exact atP_count R (n + 1)
theorem asks_count (R : List Row) : (R.filter Row.isAsked).length = (asks R).length := (atP_count R 0).symm
theorem allW_few {R : List Row} (h : (asks R).length ≤ 4) : (allW R).length ≤ 16 := by
  have := allW_len R
  rw [asks_count] at this
  exact Nat.le_trans this (Nat.le_trans (Nat.pow_le_pow_right (by decide) h) (by decide))
theorem allW_ch {R : List Row} (W : Web R) {S : Fs} (h : S ∈ allW R) (ha : (asks R).length ≤ 4) : S.ch.length ≤ 4 := by
  have hr := mem_allW.mp h
  have := twalk_of W hr R.length (Nat.le_refl _)
  rw [hr.2] at this
  rw [twalk_chs this, List.length_map]
  exact Nat.le_trans (List.length_filter_le _ _) ha
theorem bools_fitL {l : List Bool} (h : l.length ≤ lim) {n : Nat} : fit (.list (l.map PyData.bool)) (n + 1) = true := fit_list (by rw [List.length_map]; exact h) fun d hd => by
  obtain ⟨b, _, rfl⟩ := List.mem_map.mp hd
  rfl
theorem chLists_fit {R : List Row} (W : Web R) (ha : (asks R).length ≤ 4) {n : Nat} : fit (chLists R) (n + 2) = true := by
  have l : lim = 4000 := rfl
  refine fit_list (by rw [List.length_map]; have := allW_few ha; omega) fun d hd => ?_
  obtain ⟨S, hS, rfl⟩ := List.mem_map.mp hd
  exact bools_fitL (by have := allW_ch W hS ha; omega)
/-! ### what is apart -/
theorem sdA_bools : ∀ l : List Bool, sdA (l.map PyData.bool) = l.map PyData.bool
  | [] => rfl
  | b :: l => by
    rw [List.map_cons, sdA, sdA_bools l]
    rfl
theorem sdA_map {α : Type} (f : α → PyData) : ∀ l : List α, sdA (l.map f) = l.map fun x => sd (f x)
  | [] => rfl
  | x :: l => by rw [List.map_cons, sdA, sdA_map f l, List.map_cons]
theorem late_once {xs : List PyData} (h : ∀ d ∈ xs, PyData.eqv d late = false) : (xs ++ [PyData.str "late9"]).countP (fun z => PyData.eqv z late) = 1 := by
  rw [List.countP_append]
  have e1 : xs.countP (fun z => PyData.eqv z late) = 0 := by
    rw [List.countP_eq_zero]
    intro d hd
    rw [h d hd]
    exact Bool.false_ne_true
  rw [e1]
  decide +kernel
theorem plainAll_of : ∀ {xs : List PyData}, (∀ d ∈ xs, d.plain = true) → PyData.plainAll xs = true
  | [], _ => rfl
  | d :: ds, h => by
    simp only [PyData.plainAll, Bool.and_eq_true]
    exact ⟨h d (List.mem_cons_self ..), plainAll_of fun e he => h e (List.mem_cons_of_mem _ he)⟩
theorem noDict_of : ∀ {xs : List PyData}, (∀ d ∈ xs, d.hasDict = false) → PyData.hasDictAll xs = false
  | [], _ => rfl
  | d :: ds, h => by
    simp only [PyData.hasDictAll, Bool.or_eq_false_iff]
    exact ⟨h d (List.mem_cons_self ..), noDict_of fun e he => h e (List.mem_cons_of_mem _ he)⟩
theorem apA_of {n : Nat} : ∀ {xs : List PyData}, (∀ d ∈ xs, ap d n = true) → apA xs n = true
  | [], _ => rfl
  | d :: ds, h => by
    simp only [apA, Bool.and_eq_true]
    exact ⟨h d (List.mem_cons_self ..), apA_of fun e he => h e (List.mem_cons_of_mem _ he)⟩
/-- a list that was spoiled -/
theorem ap_late {xs : List PyData} {n : Nat} (hl : xs.length ≤ 100) (he : ∀ d ∈ xs, PyData.eqv d late = false) (hp : ∀ d ∈ xs, d.plain = true) (hd : ∀ d ∈ xs, d.hasDict = false) (ha : ∀ d ∈ xs, ap d n = true) :
    ap (.list (xs ++ [.str "late9"])) (n + 1) = true ∧ (PyData.list (xs ++ [.str "late9"])).plain = true ∧ (PyData.list (xs ++ [.str "late9"])).hasDict = false := by
  have l : lim = 4000 := rfl
  have p1 : PyData.plainAll (xs ++ [.str "late9"]) = true := plainAll_of fun d z => by
    rcases List.mem_append.mp z with z | z
    · exact hp d z
    · rw [List.mem_singleton.mp z]; rfl
  have p2 : PyData.hasDictAll (xs ++ [.str "late9"]) = false := noDict_of fun d z => by
    rcases List.mem_append.mp z with z | z
    · exact hd d z
    · rw [List.mem_singleton.mp z]; rfl
  refine ⟨?_, p1, p2⟩
  simp only [ap, Bool.and_eq_true, decide_eq_true_eq, Nat.add_sub_cancel, Bool.not_eq_true']
  refine ⟨by omega, by simp; omega, ⟨p1, p2⟩, late_once he, apA_of fun d z => ?_⟩
  rcases List.mem_append.mp z with z | z
  · exact ha d z
  · rw [List.mem_singleton.mp z]; rfl
theorem ap_bools {l : List Bool} {n : Nat} (h : l.length ≤ 100) : ap (sd (.list (l.map PyData.bool))) (n + 1) = true ∧ (sd (.list (l.map PyData.bool))).plain = true ∧ (sd (.list (l.map PyData.bool))).hasDict = false := by
  rw [sd, sdA_bools]
  have of : ∀ {p : PyData → Prop}, (∀ b, p (.bool b)) → ∀ d ∈ l.map PyData.bool, p d := fun h d hd => by
    obtain ⟨b, _, rfl⟩ := List.mem_map.mp hd
    exact h b
  exact ap_late (by rw [List.length_map]; exact h) (of fun b => by simp [late, PyData.eqv]) (of fun b => rfl) (of fun b => rfl) (of fun b => rfl)
theorem ap_chLists {R : List Row} (W : Web R) (ha : (asks R).length ≤ 4) {n : Nat} : ap (sd (chLists R)) (n + 2) = true ∧ (sd (chLists R)).plain = true ∧ (sd (chLists R)).hasDict = false := by
  unfold chLists
  rw [sd, sdA_map]
  have of : ∀ {p : PyData → Prop}, (∀ S ∈ allW R, p (sd (.list (S.ch.map PyData.bool)))) → ∀ d ∈ (allW R).map fun S => sd (.list (S.ch.map PyData.bool)), p d := fun h d hd => by
    obtain ⟨S, hS, rfl⟩ := List.mem_map.mp hd
    exact h S hS
  have ch := fun S hS => allW_ch W (S := S) hS ha
  exact ap_late (by rw [List.length_map]; have := allW_few ha; omega) (of fun S hS => by rw [sd]; simp [late, PyData.eqv]) (of fun S hS => (ap_bools (n := n) (by have := ch S hS; omega)).2.1) (of fun S hS => (ap_bools (n := n) (by have := ch S hS; omega)).2.2) (of fun S hS => (ap_bools (by have := ch S hS; omega)).1)
theorem ap_found {R : List Row} (W : Web R) (ha : (asks R).length ≤ 4) : ap (sd (.list [chLists R, chLists R])) 3 = true := by
  have h := ap_chLists W ha (n := 0)
  rw [sd]
  show ap (.list ([sd (chLists R), sd (chLists R)] ++ [.str "late9"])) 3 = true
  have of : ∀ {p : PyData → Prop}, p (sd (chLists R)) → ∀ d ∈ [sd (chLists R), sd (chLists R)], p d := fun h d hd => by
    simp only [List.mem_cons, List.not_mem_nil, or_false] at hd
    rcases hd with rfl | rfl <;> exact h
  exact (ap_late (n := 2) (by show 2 ≤ 100; decide) (of (by unfold chLists; rw [sd]; simp [late, PyData.eqv])) (of h.2.1) (of h.2.2) (of h.1)).1
end K8

/-! For _law_refused_right: what was met, in lists. -/
namespace K8
open PySem PySem.Spec PyProof.Rows L2 WR LamX
theorem tabs_but {T : List (Addr × Str)} {a : Addr} {zs : List V} {H H' : Hp} (t : Tabs T H) (ea : H a = some (.lst zs)) (g : ∀ b o, b ≠ a → H b = some o → H' b = some o) : Tabs T H' := fun p hp => by
  obtain ⟨ps, h1, h2, h3⟩ := t p hp
  refine ⟨ps, g _ _ (fun z => ?_) h1, h2, fun pos cv hc => ?_⟩
  · rw [z, ea] at h1
    cases h1
  · obtain ⟨c0, e1, e2⟩ := h3 pos cv hc
    refine ⟨c0, e1, g _ _ (fun z => ?_) e2⟩
    rw [z, ea] at e2
    unfold CodeO at e2
    cases e2
section
variable {wa : Addr} {n : Nat} {T : TabL} {H H2 H3 : Hp}
/-- a list of such lists -/
structure Fnd (H : Hp) (q : Addr) (ps : List Addr) (a : Str) (v : V) : Prop where
  ls : H q = some (.lst (ps.map V.ref))
  it : ∀ p ∈ ps, p ≠ q ∧ H p = some (.tup [.str a, v])
theorem Fnd.x {q : Addr} {ps : List Addr} {a : Str} {v : V} (f : Fnd H q ps a v) (x : ExtN H H2) : Fnd H2 q ps a v := ⟨x _ _ f.ls fun _ z => (nomatch z), fun p hp => ⟨(f.it p hp).1, x _ _ (f.it p hp).2 fun _ z => (nomatch z)⟩⟩
theorem Fnd.one {q p : Addr} {a : Str} {v : V} (e : H p = some (.tup [.str a, v])) (nq : H q = none) : Fnd (upd H q (.lst [.ref p])) q [p] a v := by
  have npq : p ≠ q := ne_of_none e nq
  refine ⟨upd_same, fun x hx => ?_⟩
  rw [List.mem_singleton.mp hx]
  exact ⟨npq, by rw [upd_ne npq]; exact e⟩
theorem Fnd.app {q p : Addr} {ps : List Addr} {a : Str} {v : V} (f : Fnd H q ps a v) (e : H p = some (.tup [.str a, v])) (npq : p ≠ q) : Fnd (upd H q (.lst (ps.map V.ref ++ [.ref p]))) q (ps ++ [p]) a v := by
  refine ⟨by rw [upd_same, List.map_append]; rfl, fun x hx => ?_⟩
  rcases List.mem_append.mp hx with z | z
  · exact ⟨(f.it x z).1, by rw [upd_ne (f.it x z).1]; exact (f.it x z).2⟩
  · rw [List.mem_singleton.mp z]
    exact ⟨npq, by rw [upd_ne npq]; exact e⟩
theorem Fnd.dr {q : Addr} {ps : List Addr} {a : Str} {v : V} {e : PyData} (f : Fnd H q ps a v) (r : Dr All H v e) : Dr All H (.ref q) (.list (List.replicate ps.length (.tuple [.str a, e]))) := by
  refine .lst trivial f.ls ?_
  have key : ∀ l : List Addr, (∀ p ∈ l, H p = some (.tup [.str a, v])) → DrA All H (l.map V.ref) (List.replicate l.length (.tuple [.str a, e])) := by
    intro l
    induction l with
    | nil => intro _; exact .nil
    | cons p l ih => intro h; exact .cons (.tup (h p (List.mem_cons_self ..)) (.cons (.str _) (.one r))) (ih fun x hx => h x (List.mem_cons_of_mem _ hx))
  exact key ps fun p hp => (f.it p hp).2
end
theorem nf2 (n : Nat) (x : Str) : ¬ (faultD n x = PyData.none) := fun z => by cases z
theorem fault_at {n m : Nat} {x y : Str} (h : faultD n x = faultD m y) : n = m := by
  simp only [faultD, PyData.tuple.injEq, List.cons.injEq, PyData.int.injEq] at h
  omega
def NQ (H : Hp) (q : Addr) : Prop := ∀ b o, H b = some o → (∀ ps, o ≠ .tbl ps) → b ≠ q
/-- a further one of what was met, found appended -/
theorem app_step {T : TabL} {H4 Hc H7 H8 : Hp} {q p : Addr} {ps : List Addr} {a : Str} {v : V} (xc : ExtN H4 Hc) (nq : NQ H4 q) (F : Fnd Hc q ps a v) (x7 : ExtN Hc H7) (t7 : Tabs T H7) (s : Sm H7 H8) (np : H8 p = none) :
    upd H8 p (.tup [.str a, v]) q = some (.lst (ps.map V.ref)) ∧ ExtN H4 (upd (upd H8 p (.tup [.str a, v])) q (.lst (ps.map V.ref ++ [.ref p]))) ∧ Tabs T (upd (upd H8 p (.tup [.str a, v])) q (.lst (ps.map V.ref ++ [.ref p]))) ∧ Fnd (upd (upd H8 p (.tup [.str a, v])) q (.lst (ps.map V.ref ++ [.ref p]))) q (ps ++ [p]) a v := by
  have sp : Sm H8 (upd H8 p (.tup [.str a, v])) := Sm.new np
  have xa : ExtN Hc (upd H8 p (.tup [.str a, v])) := x7.trans (ExtN.of (s.trans sp))
  have F' := F.x xa
  have npq : p ≠ q := fun z => by
    rw [z] at np
    rw [(F.x (x7.trans (ExtN.of s))).ls] at np
    cases np
  refine ⟨F'.ls, fun b o e n => ?_, tabs_but (t7.ext (s.trans sp)) F'.ls fun b o hb e => by rw [upd_ne hb]; exact e, F'.app upd_same npq⟩
  rw [upd_ne (nq b o e n)]
  exact xa _ _ (xc _ _ e n) n
/-- the first one -/
theorem one_step {T : TabL} {H4 H7 H8 : Hp} {q p : Addr} {a : Str} {v : V} (x7 : ExtN H4 H7) (t7 : Tabs T H7) (s : Sm H7 H8) (np : H8 p = none) (nq : upd H8 p (.tup [.str a, v]) q = none) :
    ExtN H4 (upd (upd H8 p (.tup [.str a, v])) q (.lst [.ref p])) ∧ Tabs T (upd (upd H8 p (.tup [.str a, v])) q (.lst [.ref p])) ∧ Fnd (upd (upd H8 p (.tup [.str a, v])) q (.lst [.ref p])) q [p] a v ∧ NQ H4 q :=
  ⟨x7.trans (ExtN.of ((s.trans (Sm.new np)).trans (Sm.new nq))), t7.ext ((s.trans (Sm.new np)).trans (Sm.new nq)), Fnd.one upd_same nq, fun b o e n => ne_of_none ((Sm.new np) _ _ (s _ _ (x7 _ _ e n))) nq⟩
theorem Web.scanApp {R R' : List Row} {ds : List PyData} {f : PyData} (W : Web R) (h : Scan R R.length ds R' f) : ∀ (m i : Nat), m + i = R.length → Scan (R.take i) i ((R.drop i).map Row.d ++ ds) R' f
  | 0, i, e => by
    have e' : i = R.length := by omega
    subst e'
    rw [List.take_length, List.drop_length]
    exact h
  | m + 1, i, e => by
    have hi : i < R.length := by omega
    rw [List.drop_eq_getElem_cons hi, List.map_cons, List.cons_append]
    have ih := W.scanApp h m (i + 1) (by omega)
    have et : R.take (i + 1) = R.take i ++ [R[i]] := by rw [List.take_succ, List.getElem?_eq_getElem hi]; rfl
    rw [et] at ih
    exact .next (rowForm_d (W.ok _ (List.getElem_mem hi))) (W.fit i hi).1 (W.fit i hi).2 ih
theorem rep_fitT {a : Str} {e : PyData} {c : Nat} (ha : a.length ≤ 10) (he : K8.fit e 4 = true) (hc : c ≤ 100) : K8.fit (.list (List.replicate c (.tuple [.str a, e]))) 6 = true := by
  have l : lim = 4000 := rfl
  simp only [K8.fit, Bool.and_eq_true, decide_eq_true_eq, List.length_replicate]
  refine ⟨⟨by omega, by omega⟩, fitA_of fun d hd => ?_⟩
  rw [(List.mem_replicate.mp hd).2]
  simp only [K8.fit, fitA, Bool.and_eq_true, decide_eq_true_eq, List.length_cons, List.length_nil]
  exact ⟨⟨by omega, by omega⟩, by omega, he, trivial⟩

theorem rep_drT {H : Hp} {l1 l3 : Addr} {a : Str} {y : V} {e : PyData} {c : Nat} (e1 : H l1 = some (.tup [.str a, y])) (r : Dr All H y e) (e3 : H l3 = some (.lst (List.replicate c [V.ref l1]).flatten)) : Dr All H (.ref l3) (.list (List.replicate c (.tuple [.str a, e]))) := by
  refine .lst trivial e3 ?_
  clear e3
  induction c with
  | zero => exact .nil
  | succ c ih =>
    rw [List.replicate_succ, List.replicate_succ, List.flatten_cons]
    exact .cons (.tup e1 (.cons (.str _) (.one r))) ih
/-- what is no web -/
structure OddW (e : PyData) (m : Nat) : Prop where
  sc : ∃ x R, ScanOf e R (faultD m x)
  wd : WR.wd e = true
theorem oddW_plain {e : PyData} (h : isL e = false) (w : WR.wd e = true) : OddW e 0 := ⟨⟨"form", [], .inr ⟨h, rfl, rfl⟩⟩, w⟩
theorem oddW_more {S : List Row} (W : Web S) (hs : ∀ r ∈ S, r.small) (hl : S.length ≤ 20) {x : PyData} {y : Str} (wx : WR.wd x = true) (h : Scan S S.length [x] S (faultD S.length y)) : OddW (.list (S.map Row.d ++ [x])) S.length := by
  have l : lim = 4000 := rfl
  refine ⟨⟨y, S, .inl ⟨rfl, by have := W.scanApp h S.length 0 (by omega); rw [List.take_zero, List.drop_zero] at this; exact this⟩⟩, ?_⟩
  have := tame_wd (web_tame W hs (by omega))
  simp only [rowsD, WR.wd, Bool.and_eq_true, decide_eq_true_eq] at this ⊢
  refine ⟨by simp; omega, wdA_of fun d hd => ?_⟩
  rcases List.mem_append.mp hd with z | z
  · exact wdA_mem this.2 z
  · rw [List.mem_singleton.mp z]
    exact wx
/-- [_law_met(lambda: ask(..)) for ask in asks]: each is refused alike -/
theorem lc_met {K : PySem.W.Frag} {J : It} {te : TE} {vs : List Nat} {i : Nat} {σ : L2.St} {T : TabL} {H1 : Hp} {D fl : Addr} {xs : List V} {a : Str} {v : V} {Qd : Hp → Prop} (hJ : ItS K H1 fl xs J) (nD : H1 D = none) (t0 : Tabs T H1) (hlen : xs.length ≤ lim)
    (hw : ∀ x, wipe ((wipe σ vs).set i (some x)) vs = wipe σ vs)
    (hs : ∀ (f : V) (H2 : Hp) (Q : VK), f ∈ xs → ExtN H1 H2 → Tabs T H2 → (∀ H7 H8 p, ExtN H2 H7 → Tabs T H7 → Sm H7 H8 → H8 p = none → Q (.ref p) (upd H8 p (.tup [.str a, v]))) → te ((wipe σ vs).set i (some f)) H2 Q)
    (hd : ∀ H2 ps, ExtN H1 H2 → Tabs T H2 → NQ H1 D → ps.length = xs.length → Fnd H2 D ps a v → Qd H2) :
    ∃ W : Nat → Nat → Hp → Prop, (∃ m, W 0 m (upd H1 D (.lst []))) ∧ ∀ i' m H, W i' m H →
      (J.stop i' H ∧ Qd H) ∨ (J.go i' H ∧ ∃ Nx : Hp → Prop, (∀ H', Nx H' → ∃ m', m' < m ∧ W (i' + 1) m' H') ∧ ∀ x H', J.yld i' H x H' → gName i x (wipe σ vs) H' fun σ2 H2 => wipe σ2 vs = wipe σ vs ∧ tYes σ2 H2 fun b H3 =>
        if b = true then te σ2 H3 fun y H4 => ∃ acc, H4 D = some (.lst acc) ∧ acc.length < sizeLine ∧ Nx (upd H4 D (.lst (acc ++ [y]))) else Nx H3) := by
  have hsl := lim_lt
  have nq : NQ H1 D := fun b o e _ => ne_of_none e nD
  have efl : H1 fl ≠ none := by
    rcases hJ with ⟨_, e⟩ | ⟨_, e⟩ <;> (rw [e]; exact fun z => nomatch z)
  refine lc_walk (n := xs.length) (fun m H2 => ExtN H1 H2 ∧ Tabs T H2 ∧ ∃ ps, ps.length = m ∧ Fnd H2 D ps a v) ?_ (fun m H2 hm h => ?_) (fun H2 h => ?_) (fun m x H2 H' hm h hy => ?_) fun H2 h => ?_
  · exact ⟨ExtN.of (Sm.new nD), t0.ext (Sm.new nD), [], rfl, upd_same, fun _ z => nomatch z⟩
  · have hx : xs[m]? = some xs[m] := List.getElem?_eq_getElem (by omega)
    rcases hJ with ⟨rfl, e⟩ | ⟨rfl, e⟩
    · exact ⟨_, _, SqL.of (h.1 _ _ e fun _ z => nomatch z), hx⟩
    · exact ⟨_, _, SqT.of (h.1 _ _ e fun _ z => nomatch z), hx⟩
  · rcases hJ with ⟨rfl, e⟩ | ⟨rfl, e⟩
    · exact ⟨_, SqL.of (h.1 _ _ e fun _ z => nomatch z), by omega⟩
    · exact ⟨_, SqT.of (h.1 _ _ e fun _ z => nomatch z), by omega⟩
  · obtain ⟨x1, t1, ps, lps, F⟩ := h
    have hx : H' = H2 ∧ xs[m]? = some x := by
      rcases hJ with ⟨rfl, e⟩ | ⟨rfl, e⟩
      · exact ⟨hy.1, hy.2 _ (SqL.of (x1 _ _ e fun _ z => nomatch z))⟩
      · exact ⟨hy.1, hy.2 _ (SqT.of (x1 _ _ e fun _ z => nomatch z))⟩
    obtain ⟨rfl, hx⟩ := hx
    refine ⟨hw _, ?_⟩
    dsimp only [tYes]
    rw [if_pos rfl]
    refine hs x H' _ (List.mem_of_getElem? hx) x1 t1 fun H7 H8 p x7 t7 s8 np => ?_
    obtain ⟨eq, xB, tB, FB⟩ := app_step x1 nq F x7 t7 s8 np
    exact ⟨_, eq, by rw [List.length_map]; omega, xB, tB, _, by rw [List.length_append, lps]; rfl, FB⟩
  · obtain ⟨x1, t1, ps, lps, F⟩ := h
    exact hd H2 ps x1 t1 nq lps F
end K8

/-! _law_refused_right. -/
namespace K8
open PySem PySem.Spec PyProof.Rows L2 WR LamX
abbrev spRefR (T : TabL) : Sp := fun vs H Q _ => ∃ (v : V) (R : List Row), vs = [v] ∧ Dr All H v (rowsD R) ∧ Web R ∧ (∀ r ∈ R, r.small) ∧ R.length ≤ 18 ∧ Tabs T H ∧
  ∀ H', ExtN H H' → Tabs T H' → Q (.bl true) H'
/-- a thing that is no web, and where it is none -/
def EntW (H : Hp) (x : V) : Prop := ∃ (t : Addr) (ov : V) (d : PyData) (m : Nat), x = .ref t ∧ H t = some (.tup [ov, .int (m : Nat)]) ∧ Dr All H ov d ∧ OddW d m ∧ m ≤ 1000
theorem EntW.sm {H H' : Hp} {x : V} (e : EntW H x) (s : Sm H H') : EntW H' x := by
  obtain ⟨t, ov, d, m, h1, h2, h3, h4⟩ := e
  exact ⟨t, ov, d, m, h1, s _ _ h2, h3.sm s, h4⟩
theorem EntW.x {H H' : Hp} {y : V} (e : EntW H y) (s : ExtN H H') : EntW H' y := by
  obtain ⟨t, ov, d, m, h1, h2, h3, h4⟩ := e
  exact ⟨t, ov, d, m, h1, s _ _ h2 (fun _ z => nomatch z), drX s h3, h4⟩
section
variable {P : Program} {w : World} {K : PySem.W.Frag} {mg : Str → Option Value} {base : Heap} {CW CC : Addr}
theorem sc__law_refused_right : FnScope ["rows", "at", "odds", "odd", "index", "asks"] ["rows"] (defScope s_law_refused_right) := ⟨rfl, rfl, rfl, by decide +kernel, rfl, by decide +kernel, by decide +kernel⟩
theorem ok__law_refused_right (B : Bt mg) (E2 : Ex2 K mg CW CC) (FM : Fn K mg d_law_met) (D4 : Df P w K mg base CX0 7 "_law_same" ["found", "due"] (spSame 7))
    (DM : DfF P w K mg base (L2.CX P w) 7 "meaning_fault" ["web", "thing"] (spMFault CW) dmeaning_fault) (DI : DfF P w K mg base (L2.CX P w) 7 "is_meaning" ["web", "thing"] (spIsMean CW) dis_meaning)
    (DC : DfF P w K mg base (L2.CX P w) 7 "choice_lists" ["web"] (spChLists CW) dchoice_lists) (DE : DfF P w K mg base (L2.CX P w) 7 "free_meaning" ["web", "choices"] (spFreeM CW CC) dfree_meaning)
    {T : TabL} {c Pt f : Addr} {dV kV doc pm ct oc : Value} {an od : Option Addr} {osl : Array (Option Value)} (TB : TabB base mg c Pt) (hmT : (Pt, ("_law_refused_right" : Str) ++ ".<locals>." ++ "<lambda>") ∈ T) (hu : ∀ p ∈ T, p.1 = Pt → p.2 = ("_law_refused_right" : Str) ++ ".<locals>." ++ "<lambda>")
    (lk : K.lookup f = some ⟨oc, od, .func (PySem.W.fnOf d_law_refused_right.name d_law_refused_right.qual d_law_refused_right.params d_law_refused_right.body d_law_refused_right.scope dV kV doc pm an (.ref c) ct), osl⟩) (hcd : PySem.W.codeIn K (.ref c) d_law_refused_right.qual = true) :
    FnG P w K mg base CX0 11 f (PySem.W.fnOf d_law_refused_right.name d_law_refused_right.qual d_law_refused_right.params d_law_refused_right.body d_law_refused_right.scope dV kV doc pm an (.ref c) ct) ["rows"] (spRefR T) := by
  refine fnG_of (N := ["rows", "at", "odds", "odd", "index", "asks"]) lk hcd sc__law_refused_right (fun vs H Q E h => by obtain ⟨v, R, rfl, _⟩ := h; rfl) (fun A outer s H vs Q E hr free h => ?_)
  obtain ⟨v, R, rfl, rd, WR', sm, hR, hT, q⟩ := h
  have hr7 := hr.mono (show 7 ≤ 10 by decide)
  obtain ⟨g, fdg, mm, FD⟩ := FM
  obtain ⟨ocg, odg, dVg, kVg, docg, pmg, ang, cdg, ctg, oslg, rfl, lkg, hcg, _, _⟩ := FD.ex
  have bm : L2.Binds K (PySem.W.fnOf d_law_met.name d_law_met.qual d_law_met.params d_law_met.body d_law_met.scope dVg kVg docg pmg ang cdg ctg) ["ask"] [] := FD.bindsN fun _ _ _ _ _ _ us hl => match us, hl with | [_], _ => rfl
  refine ⟨_, PSs.nox (pss_cons (ps_set (i := 1) sc__law_refused_right.nd rfl (by first | exact Or.inl rfl | exact Or.inr rfl) (pe_callB call_lenS (by rfl) B.len (by decide +kernel) (pa_cons (pv 0) pa_nil)))
      (pss_cons (ps_set (i := 2) sc__law_refused_right.nd rfl (by first | exact Or.inl rfl | exact Or.inr rfl) (pe_lst (pa_cons (pe_tup (pa_cons pe_non (pa_cons pe_int pa_nil))) (pa_cons (pe_tup (pa_cons pe_str (pa_cons pe_int pa_nil))) (pa_cons (pe_tup (pa_cons pe_dnewK (pa_cons pe_int pa_nil))) (pa_cons (pe_tup (pa_cons pe_int (pa_cons pe_int pa_nil))) (pa_cons (pe_tup (pa_cons (pe_op op_cat (pv 0) (pe_lst (pa_cons pe_non pa_nil))) (pa_cons (pv 1) pa_nil))) (pa_cons (pe_tup (pa_cons (pe_op op_cat (pv 0) (pe_lst (pa_cons (pe_tup (pa_cons pe_str (pa_cons pe_str (pa_cons (pe_tup (pa_cons (pv 1) pa_nil)) pa_nil)))) pa_nil))) (pa_cons (pv 1) pa_nil))) pa_nil))))))))
      (pss_cons (ps_for PassesOwn.never rfl (pi_seq (pv 2)) (pg_tup rfl (pgs_cons (pg_name (i := 3) sc__law_refused_right.nd rfl (by first | exact Or.inl rfl | exact Or.inr rfl)) (pgs_cons (pg_name (i := 4) sc__law_refused_right.nd rfl (by first | exact Or.inl rfl | exact Or.inr rfl)) pgs_nil))) (pss_cons (ps_set (i := 5) sc__law_refused_right.nd rfl (by first | exact Or.inl rfl | exact Or.inr rfl) (pe_lst (pa_cons (LamX.pe_lamcall (by rfl) mm FD.kp lkg hcg bm sc__law_met rfl (by first | exact .inl rfl | exact .inr (.inl rfl)) (met_gives E2) TB rfl hmT hu hr (lamS_by (by kernel_rfl)) rfl (fun _ _ _ _ _ => rfl) (fun A outer s H E f c hr2 => pe_df DM.df (hr2.mono (by decide)) (passes_call (takes_of rfl rfl rfl rfl) (fun _ _ _ _ z => z)) (pa_cons (pv 3) (pa_cons pe_non pa_nil)))) pa_nil)))
      (pss_cons (ps_expr (pe_bm PySem.F.plainAttrs_list PySem.F.slot_list_append PySem.F.type_list_append mt_append (pv 5) (pa_cons (LamX.pe_lamcall (by rfl) mm FD.kp lkg hcg bm sc__law_met rfl (by first | exact .inl rfl | exact .inr (.inl rfl)) (met_gives E2) TB rfl hmT hu hr (lamS_by (by kernel_rfl)) rfl (fun _ _ _ _ _ => rfl) (fun A outer s H E f c hr2 => pe_df DI.df (hr2.mono (by decide)) (passes_call (takes_of rfl rfl rfl rfl) (fun _ _ _ _ z => z)) (pa_cons (pv 3) (pa_cons pe_non pa_nil)))) pa_nil)))
      (pss_cons (ps_expr (pe_bm PySem.F.plainAttrs_list PySem.F.slot_list_append PySem.F.type_list_append mt_append (pv 5) (pa_cons (LamX.pe_lamcall (by rfl) mm FD.kp lkg hcg bm sc__law_met rfl (by first | exact .inl rfl | exact .inr (.inl rfl)) (met_gives E2) TB rfl hmT hu hr (lamS_by (by kernel_rfl)) rfl (fun _ _ _ _ _ => rfl) (fun A outer s H E f c hr2 => pe_df DE.df (hr2.mono (by decide)) (passes_call (takes_of rfl rfl rfl rfl) (fun _ _ _ _ z => z)) (pa_cons (pv 3) (pa_cons pe_non pa_nil)))) pa_nil)))
      (pss_cons (ps_expr (pe_bm PySem.F.plainAttrs_list PySem.F.slot_list_append PySem.F.type_list_append mt_append (pv 5) (pa_cons (LamX.pe_lamcall (by rfl) mm FD.kp lkg hcg bm sc__law_met rfl (by first | exact .inl rfl | exact .inr (.inl rfl)) (met_gives E2) TB rfl hmT hu hr (lamS_by (by kernel_rfl)) rfl (fun _ _ _ _ _ => rfl) (fun A outer s H E f c hr2 => pe_df DC.df (hr2.mono (by decide)) (passes_call (takes_of rfl rfl rfl rfl) (fun _ _ _ _ z => z)) (pa_cons (pv 3) pa_nil))) pa_nil)))
      (pss_one (ps_if (pt_not (pt_val (pe_df D4 hr7 pass0 (pa_cons (pv 5) (pa_cons (pe_op op_rep (pe_lst (pa_cons (pe_tup (pa_cons pe_str (pa_cons (pv 4) pa_nil))) pa_nil)) pe_int) pa_nil))))) (pss_one (ps_ret pe_bl)) pss_nil)))))))
      (pss_one (ps_ret (pe_df D4 hr7 pass0 (pa_cons (pe_lc (own := [("odd", 3)]) (g := gName 3) (tt := tYes) rfl sc__law_refused_right.nd (pi_seq (pe_tup (pa_cons pe_non (pa_cons pe_int (pa_cons pe_str (pa_cons pe_dnewK pa_nil)))))) (blkOk_by (own := [("odd", 3)]) (N := ["rows", "at", "odds", "odd", "index", "asks"]) (sc := defScope s_law_refused_right) (by decide +kernel)) (fun _ _ _ _ _ => pg_name (i := 3) sc__law_refused_right.nd rfl (by first | exact Or.inl rfl | exact Or.inr rfl)) (fun _ _ _ _ _ => pts_nil) (fun _ _ _ _ _ => (LamX.pe_lamcall (by rfl) mm FD.kp lkg hcg bm sc__law_met rfl (by first | exact .inl rfl | exact .inr (.inl rfl)) (met_gives E2) TB rfl hmT hu hr (lamS_by (by kernel_rfl)) rfl (fun _ _ _ _ _ => rfl) (fun A outer s H E f c hr2 => pe_df DE.df (hr2.mono (by decide)) (passes_call (takes_of rfl rfl rfl rfl) (fun _ _ _ _ z => z)) (pa_cons (pv 0) (pa_cons (pv 3) pa_nil)))))) (pa_cons (pe_op op_rep (pe_lst (pa_cons (pe_tup (pa_cons pe_str (pa_cons pe_int pa_nil))) pa_nil)) pe_int) pa_nil)))))))), ?_⟩
  have htop : top0 = 1000000000000 := rfl
  have hlim : lim = 4000 := rfl
  have hsl := lim_lt
  have tR := web_tame WR' sm (by omega)
  have wdR := tame_wd tR
  obtain ⟨va, xs, rfl, eva, rs⟩ : ∃ a xs, v = .ref a ∧ H a = some (.lst xs) ∧ DrA All H xs (R.map Row.d) := by
    cases rd with
    | lst _ e r => exact ⟨_, _, rfl, e, r⟩
  have lxs : xs.length = R.length := by rw [rs.length, List.length_map]
  have lenD : (its (rowsD R)).length = R.length := by show (R.map Row.d).length = _; rw [List.length_map]
  refine ⟨_, rfl, .ref va, rowsD R, rfl, rd, rfl, ?_⟩
  rw [lenD]
  have sz2 : 2 ≤ sizeLine := by decide
  have sz1 : 1 ≤ sizeLine := by decide
  -- odds
  refine ⟨sz2, fun t1 n1 => ?_⟩
  have s1 := Sm.new (o := .tup [.non, .int 0]) n1
  have a1 : EntW (upd H t1 (.tup [.non, .int 0])) (.ref t1) := ⟨t1, _, _, 0, rfl, upd_same, .non, oddW_plain rfl rfl, by decide⟩
  generalize upd H t1 (.tup [.non, .int 0]) = G1 at s1 a1 ⊢
  refine ⟨sz2, fun t2 n2 => ?_⟩
  have s2 := Sm.new (o := .tup [.str "web", .int 0]) n2
  have a2 : EntW (upd G1 t2 (.tup [.str "web", .int 0])) (.ref t2) := ⟨t2, _, _, 0, rfl, upd_same, .str "web", oddW_plain rfl (by decide +kernel), by decide⟩
  generalize upd G1 t2 (.tup [.str "web", .int 0]) = G2 at s2 a2 ⊢
  intro p3 np3
  have s3 := Sm.new (o := .dK []) np3
  have e3 : upd G2 p3 (.dK []) p3 = some (.dK []) := upd_same
  generalize upd G2 p3 (.dK []) = G3 at s3 e3 ⊢
  refine ⟨sz2, fun t3 n3 => ?_⟩
  have s4 := Sm.new (o := .tup [.ref p3, .int 0]) n3
  have a3 : EntW (upd G3 t3 (.tup [.ref p3, .int 0])) (.ref t3) := ⟨t3, _, _, 0, rfl, upd_same, .dct trivial (s4 _ _ e3) .nil, oddW_plain rfl rfl, by decide⟩
  generalize upd G3 t3 (.tup [.ref p3, .int 0]) = G4 at s4 a3 ⊢
  refine ⟨sz2, fun t4 n4 => ?_⟩
  have s5 := Sm.new (o := .tup [.int 5, .int 0]) n4
  have a4 : EntW (upd G4 t4 (.tup [.int 5, .int 0])) (.ref t4) := ⟨t4, _, _, 0, rfl, upd_same, .int 5, oddW_plain rfl (by decide +kernel), by decide⟩
  generalize upd G4 t4 (.tup [.int 5, .int 0]) = G5 at s5 a4 ⊢
  have s05 : Sm H G5 := s1.trans (s2.trans (s3.trans (s4.trans s5)))
  -- rows + [None]
  refine ⟨_, rfl, sz1, fun q5 nq5 => ?_⟩
  have s6 := Sm.new (o := .lst [.non]) nq5
  refine ⟨va, q5, xs, [.non], rfl, rfl, s6 _ _ (s05 _ _ eva), upd_same, by simp; omega, fun p5 np5 => ?_⟩
  have s7 := Sm.new (o := .lst (xs ++ [.non])) np5
  have b5 : Dr All (upd (upd G5 q5 (.lst [.non])) p5 (.lst (xs ++ [.non]))) (.ref p5) (.list (R.map Row.d ++ [.none])) := .lst trivial upd_same ((rs.sm (s05.trans (s6.trans s7))).append (.one .non))
  have s67 := s6.trans s7
  generalize upd (upd G5 q5 (.lst [.non])) p5 (.lst (xs ++ [.non])) = G6 at s67 b5 ⊢
  clear s6 s7
  refine ⟨_, rfl, sz2, fun t5 n5 => ?_⟩
  have s8 := Sm.new (o := .tup [.ref p5, .int (R.length : Nat)]) n5
  have a5 : EntW (upd G6 t5 (.tup [.ref p5, .int (R.length : Nat)])) (.ref t5) := ⟨t5, _, _, R.length, rfl, upd_same, b5.sm s8, oddW_more WR' sm (by omega) (by decide +kernel) (.form (by kernel_rfl)), by omega⟩
  generalize upd G6 t5 (.tup [.ref p5, .int (R.length : Nat)]) = G7 at s8 a5 ⊢
  have s57 := s67.trans s8
  clear b5 s67 s8 nq5 np5 n5
  -- rows + [('made', 'f', (at,))]
  have made_ok' : Row.ok (.made "f" [R.length]) := ⟨by decide +kernel, by show 1 ≤ lim; decide⟩
  have scM : Scan R R.length [.tuple [.str "made", .str "f", .tuple [.int (R.length : Nat)]]] R (faultD R.length "ahead") := by
    refine .why (r := .made "f" [R.length]) (rowForm_d made_ok') ?_
    unfold why
    refine if_pos ?_
    simp [Row.named]
  have wdM : WR.wd (.tuple [.str "made", .str "f", .tuple [.int (R.length : Nat)]]) = true := by
    have hi : WR.wd (.int (R.length : Nat)) = true := fit_wd (n := 0) (nat_fit (by omega))
    have hm : WR.wd (.str "made") = true := by decide +kernel
    have hf : WR.wd (.str "f") = true := by decide +kernel
    simp only [WR.wd, wdA, List.length_cons, List.length_nil, Bool.and_eq_true, decide_eq_true_eq] at hi hm hf ⊢
    exact ⟨by omega, hm, hf, ⟨by omega, hi, trivial⟩, trivial⟩
  refine ⟨_, rfl, _, rfl, sz1, fun u6 m6 => ⟨(by show 3 ≤ sizeLine; decide), fun v6 k6 => ⟨sz1, fun q6 nq6 => ?_⟩⟩⟩
  have c1 := Sm.new (o := .tup [.int (R.length : Nat)]) m6
  have c2 := Sm.new (o := .tup [.str "made", .str "f", .ref u6]) k6
  have c3 := Sm.new (o := .lst [.ref v6]) nq6
  have c13 := c1.trans (c2.trans c3)
  have d6 : Dr All (upd (upd (upd G7 u6 (.tup [.int (R.length : Nat)])) v6 (.tup [.str "made", .str "f", .ref u6])) q6 (.lst [.ref v6])) (.ref v6) (.tuple [.str "made", .str "f", .tuple [.int (R.length : Nat)]]) := .tup (c3 _ _ upd_same) (.cons (.str _) (.cons (.str _) (.one (.tup (c3 _ _ (c2 _ _ upd_same)) (.one (.int _))))))
  have e6 : upd (upd (upd G7 u6 (.tup [.int (R.length : Nat)])) v6 (.tup [.str "made", .str "f", .ref u6])) q6 (.lst [.ref v6]) q6 = some (.lst [.ref v6]) := upd_same
  generalize upd (upd (upd G7 u6 (.tup [.int (R.length : Nat)])) v6 (.tup [.str "made", .str "f", .ref u6])) q6 (.lst [.ref v6]) = G8 at c13 d6 e6 ⊢
  clear c1 c2 c3 m6 k6 nq6
  have s08 : Sm H G8 := s05.trans (s57.trans c13)
  refine ⟨va, q6, xs, [.ref v6], rfl, rfl, s08 _ _ eva, e6, by simp; omega, fun p6 np6 => ?_⟩
  have c4 := Sm.new (o := .lst (xs ++ [.ref v6])) np6
  have b6 : Dr All (upd G8 p6 (.lst (xs ++ [.ref v6]))) (.ref p6) (.list (R.map Row.d ++ [.tuple [.str "made", .str "f", .tuple [.int (R.length : Nat)]]])) := .lst trivial upd_same ((rs.sm (s08.trans c4)).append (.one (d6.sm c4)))
  generalize upd G8 p6 (.lst (xs ++ [.ref v6])) = G9 at c4 b6 ⊢
  refine ⟨_, rfl, sz2, fun t6 n6 => ?_⟩
  have c5 := Sm.new (o := .tup [.ref p6, .int (R.length : Nat)]) n6
  have a6 : EntW (upd G9 t6 (.tup [.ref p6, .int (R.length : Nat)])) (.ref t6) := ⟨t6, _, _, R.length, rfl, upd_same, b6.sm c5, oddW_more WR' sm (by omega) wdM scM, by omega⟩
  generalize upd G9 t6 (.tup [.ref p6, .int (R.length : Nat)]) = Ga at c5 a6 ⊢
  have s7a : Sm G7 Ga := c13.trans (c4.trans c5)
  clear b6 d6 e6 c13 c4 c5 np6 n6
  -- the list
  refine ⟨(by show 6 ≤ sizeLine; decide), fun ll nll => ?_⟩
  have s_ll := Sm.new (o := .lst [.ref t1, .ref t2, .ref t3, .ref t4, .ref t5, .ref t6]) nll
  have ell : upd Ga ll (.lst [.ref t1, .ref t2, .ref t3, .ref t4, .ref t5, .ref t6]) ll = some (.lst [.ref t1, .ref t2, .ref t3, .ref t4, .ref t5, .ref t6]) := upd_same
  have s7b := s7a.trans s_ll
  have ent : ∀ x ∈ ([.ref t1, .ref t2, .ref t3, .ref t4, .ref t5, .ref t6] : List V), EntW (upd Ga ll (.lst [.ref t1, .ref t2, .ref t3, .ref t4, .ref t5, .ref t6])) x := by
    intro x hx
    simp only [List.mem_cons, List.not_mem_nil, or_false] at hx
    rcases hx with rfl | rfl | rfl | rfl | rfl | rfl
    · exact a1.sm ((s2.trans (s3.trans (s4.trans s5))).trans (s57.trans s7b))
    · exact a2.sm ((s3.trans (s4.trans s5)).trans (s57.trans s7b))
    · exact a3.sm (s5.trans (s57.trans s7b))
    · exact a4.sm (s57.trans s7b)
    · exact a5.sm s7b
    · exact a6.sm s_ll
  have s0n : Sm H (upd Ga ll (.lst [.ref t1, .ref t2, .ref t3, .ref t4, .ref t5, .ref t6])) := s05.trans (s57.trans s7b)
  generalize hlt : ([.ref t1, .ref t2, .ref t3, .ref t4, .ref t5, .ref t6] : List V) = ents at ell ent s0n s_ll s7b ⊢
  clear hlt a1 a2 a3 a4 a5 a6 s1 s2 s3 s4 s5 s05 s57 s7a s08 e3 n1 n2 n3 np3 n4 s_ll s7b
  generalize upd Ga ll (.lst ents) = Hn at ell ent s0n ⊢
  have tn0 : Tabs T Hn := hT.ext s0n
  have rd0 := rd.sm s0n
  refine ⟨_, rfl, ll, ents, rfl, .inl ell, fun J hJ => ?_⟩
  refine for_seq hJ (fun i σ' H2 => ∃ x3 x4 x5, σ' = [some (.ref va), some (.int (R.length : Nat)), some (.ref ll), x3, x4, x5] ∧ ExtN Hn H2 ∧ Tabs T H2) ?_ ?_ ?_ ?_
  · exact ⟨_, _, _, rfl, ExtN.refl _, tn0⟩
  · rintro i σ3 H3 _ ⟨_, _, _, _, x3, _⟩
    rw [x3 _ _ ell (fun _ z => nomatch z), ell]
  · rintro i x σ3 H3 hx ⟨x3, x4, x5, rfl, xn, tn⟩
    obtain ⟨t, ov, d, m, rfl, et, rv, ⟨⟨yy, RR, sco⟩, wdd⟩, hm'⟩ := (ent x (List.mem_of_getElem? hx)).x xn
    clear hx
    refine ⟨t, _, rfl, SqT.of et, rfl, _, _, rfl, _, _, rfl, rfl, ?_⟩
    -- asks
    refine ⟨tn, fun H5 xb tb => ?_⟩
    refine ⟨_, rfl, ov, .non, d, .none, rfl, drX (xb) rv, wdd, .non, rfl, (fun R1 z H' sc _ _ => absurd (sco.det sc).2 (nf2 _ _)), fun R1 m1 x1 dx H6 z s6 nd hx => .inl ⟨rfl, dx, _, _, rfl, hx, rfl, fun p2 np2 => ?_⟩⟩
    obtain rfl := fault_at (sco.det z).2
    refine ⟨sz1, fun q1 nq1 => ?_⟩
    obtain ⟨x1', t1', F1, nqA⟩ := one_step (a := "web") (v := V.int (m : Nat)) xb tb s6 np2 nq1
    generalize upd (upd H6 p2 (.tup [.str "web", .int (m : Nat)])) q1 _ = HB1 at x1' t1' F1 ⊢
    clear np2 nq1 s6 nd hx z xb tb
    refine ⟨_, rfl, .inl ⟨rfl, _, SqL.of F1.ls⟩, t1', fun H5 xb tb => ?_⟩
    refine ⟨_, rfl, ov, .non, d, .none, rfl, drX (x1'.trans xb) rv, wdd, .non, rfl, (fun R1 z H' sc _ _ => absurd (sco.det sc).2 (nf2 _ _)), fun R1 m1 x1 dx H6 z s6 nd hx => .inl ⟨rfl, dx, _, _, rfl, hx, rfl, fun p2 np2 => ?_⟩⟩
    obtain rfl := fault_at (sco.det z).2
    obtain ⟨eq2, x2', t2', F2⟩ := app_step (v := V.int (m : Nat)) (a := "web") x1' nqA F1 xb tb s6 np2
    refine ⟨q1, _, _, rfl, rfl, eq2, (by simp; omega), ?_⟩
    generalize upd (upd H6 p2 (.tup [.str "web", .int (m : Nat)])) q1 _ = HB2 at x2' t2' F2 ⊢
    clear np2 eq2 s6 nd hx z xb tb
    refine ⟨_, rfl, .inl ⟨rfl, _, SqL.of F2.ls⟩, t2', fun H5 xb tb => ?_⟩
    refine ⟨_, rfl, ov, .non, d, .none, rfl, drX (x2'.trans xb) rv, wdd, .non, rfl, (fun R1 ml H' sc _ _ _ _ => absurd (sco.det sc).2 (nf2 _ _)), (fun R1 k dx H' sc _ _ _ _ => absurd (sco.det sc).2 (nf2 _ _)), fun R1 m1 x1 dx H6 z s6 nd hx => .inl ⟨rfl, dx, _, _, rfl, hx, rfl, fun p2 np2 => ?_⟩⟩
    obtain rfl := fault_at (sco.det z).2
    obtain ⟨eq2, x3', t3', F3⟩ := app_step (v := V.int (m : Nat)) (a := "web") x2' nqA F2 xb tb s6 np2
    refine ⟨q1, _, _, rfl, rfl, eq2, (by simp; omega), ?_⟩
    generalize upd (upd H6 p2 (.tup [.str "web", .int (m : Nat)])) q1 _ = HB3 at x3' t3' F3 ⊢
    clear np2 eq2 s6 nd hx z xb tb
    refine ⟨_, rfl, .inl ⟨rfl, _, SqL.of F3.ls⟩, t3', fun H5 xb tb => ?_⟩
    refine ⟨_, rfl, ov, d, rfl, drX (x3'.trans xb) rv, wdd, (fun R1 sc => absurd (sco.det sc).2 (nf2 _ _)), (fun R1 p f H' sc _ _ => absurd (sco.det sc).2 (nf2 _ _)), fun R1 m1 x1 dx H6 z s6 nd hx => .inl ⟨rfl, dx, _, _, rfl, hx, rfl, fun p2 np2 => ?_⟩⟩
    obtain rfl := fault_at (sco.det z).2
    obtain ⟨eq2, x4', t4', F4⟩ := app_step (v := V.int (m : Nat)) (a := "web") x3' nqA F3 xb tb s6 np2
    refine ⟨q1, _, _, rfl, rfl, eq2, (by simp; omega), ?_⟩
    generalize upd (upd H6 p2 (.tup [.str "web", .int (m : Nat)])) q1 _ = HB4 at x4' t4' F4 ⊢
    clear np2 eq2 s6 nd hx z xb tb
    -- if not _law_same(asks, [('web', index)] * 4)
    have fe : K8.fit (.int (m : Nat)) 4 = true := nat_fit (by omega)
    refine ⟨_, rfl, _, rfl, sz2, fun l1 nl1 => ⟨sz1, fun l2 nl2 => ?_⟩⟩
    have u1 := Sm.new (o := .tup [.str "web", .int (m : Nat)]) nl1
    have u2 := Sm.new (o := .lst [.ref l1]) nl2
    refine ⟨l2, 4, _, rfl, rfl, upd_same, by decide, by decide, (by show 4 ≤ sizeLine; decide), fun l3 nl3 => ?_⟩
    have u3 := Sm.new (o := .lst (List.replicate (4 : Int).toNat [.ref l1]).flatten) nl3
    have uA := (u1.trans u2).trans u3
    have dF := (F4.x (ExtN.of uA)).dr (e := .int (m : Nat)) (.int _)
    refine ⟨_, _, .list (List.replicate 4 (.tuple [.str "web", .int (m : Nat)])), rfl, dF, rep_drT (c := 4) (u3 _ _ (u2 _ _ upd_same)) (.int _) upd_same, rep_fitT (by decide) fe (by decide), fun HE sE => ⟨_, rfl, iteF ?_⟩⟩
    exact ⟨_, _, _, rfl, xn.trans (x4'.trans (ExtN.of (uA.trans sE))), t4'.ext (uA.trans sE)⟩
  rintro σ' H2 ⟨x3, x4, x5, rfl, xn, tn⟩
  clear ent ell hJ
  have rd2 := drX xn rd0
  have scW : ScanOf (rowsD R) R .none := WR'.scan
  intro p7 np7
  have w1 := Sm.new (o := .dK []) np7
  have h1 : upd H2 p7 (.dK []) p7 = some (.dK []) := upd_same
  generalize upd H2 p7 (.dK []) = G1 at w1 h1 ⊢
  refine ⟨(by show 4 ≤ sizeLine; decide), fun tp ntp => ?_⟩
  have w2 := Sm.new (o := .tup [V.non, .int 5, .str "ab", .ref p7]) ntp
  have h2 : upd G1 tp (.tup [V.non, .int 5, .str "ab", .ref p7]) tp = some (.tup [V.non, .int 5, .str "ab", .ref p7]) := upd_same
  have h1' := w2 _ _ h1
  have w12 := w1.trans w2
  generalize upd G1 tp (.tup [V.non, .int 5, .str "ab", .ref p7]) = G2 at w2 h2 h1' w12 ⊢
  refine ⟨tp, _, rfl, .inr h2, fun J1 hJ1 D1 nD1 => ?_⟩
  refine lc_met (T := T) (a := "choices") (v := .int ((0 : Nat) : Int)) hJ1 nD1 (tn.ext w12) (by show 4 ≤ lim; decide) (fun _ => rfl) (fun f0 H4 Q' hf xa ta q' => ?_) fun H4 ps xa ta nq lps F => ?_
  · refine ⟨ta, fun H5 xb tb => ?_⟩
    have h5 := (xa.trans xb) _ _ h1' (fun _ z => nomatch z)
    obtain ⟨e0, re, wde, hLe⟩ : ∃ e, Dr All H5 f0 e ∧ wd e = true ∧ isL e = false := by
      simp only [List.mem_cons, List.not_mem_nil, or_false] at hf
      rcases hf with rfl | rfl | rfl | rfl
      · exact ⟨_, .non, rfl, rfl⟩
      · exact ⟨_, .int _, by decide +kernel, rfl⟩
      · exact ⟨_, .str _, by decide +kernel, rfl⟩
      · exact ⟨_, .dct trivial h5 .nil, rfl, rfl⟩
    have chF : chFault R e0 = some 0 := by
      unfold chFault
      rw [if_neg (by rw [hLe]; exact Bool.false_ne_true)]
    refine ⟨_, rfl, _, rfl, .ref va, f0, rowsD R, e0, rfl, drX ((ExtN.of w12).trans (xa.trans xb)) rd2, wdR, re, wde, (fun R1 ml H' z hn _ _ _ => ?_), (fun R1 k dx H6 z hk s6 nd hx => .inr ⟨rfl, dx, _, _, rfl, hx, rfl, fun p np => ?_⟩), fun R1 n1 x1 dx H' z _ _ _ => absurd (scW.det z).2.symm (nf2 _ _)⟩
    · obtain ⟨rfl, _⟩ := scW.det z
      rw [chF] at hn
      cases hn
    · obtain ⟨rfl, _⟩ := scW.det z
      rw [chF] at hk
      cases hk
      exact q' H5 H6 p xb tb s6 np
  have fe : K8.fit (.int ((0 : Nat) : Int)) 4 = true := nat_fit (by decide)
  refine ⟨sz2, fun l1 nl1 => ⟨sz1, fun l2 nl2 => ?_⟩⟩
  have u1 := Sm.new (o := .tup [.str "choices", .int 0]) nl1
  have u2 := Sm.new (o := .lst [.ref l1]) nl2
  refine ⟨l2, 4, _, rfl, rfl, upd_same, by decide, by decide, (by show 4 ≤ sizeLine; decide), fun l3 nl3 => ?_⟩
  have u3 := Sm.new (o := .lst (List.replicate (4 : Int).toNat [.ref l1]).flatten) nl3
  have uA := (u1.trans u2).trans u3
  have dF := (F.x (ExtN.of uA)).dr (e := .int ((0 : Nat) : Int)) (.int _)
  rw [show ps.length = 4 from lps] at dF
  refine ⟨_, _, .list (List.replicate 4 (.tuple [.str "choices", .int ((0 : Nat) : Int)])), rfl, dF, rep_drT (c := 4) (u3 _ _ (u2 _ _ upd_same)) (.int _) upd_same, rep_fitT (by decide) fe (by decide), fun HE sE => ?_⟩
  exact q HE (((ExtN.of s0n).trans xn).trans ((ExtN.of w12).trans (xa.trans (ExtN.of (uA.trans sE))))) (ta.ext (uA.trans sE))
end
end K8

/-! _law_free_right. -/
namespace K8
open PySem PySem.Spec PyProof.Rows L2 WR LamX
/-- [choices for choices, told in ..] -/
theorem ch_comp {K : PySem.W.Frag} {J : It} {H2 : Hp} {D a : Addr} {xs : List V} {L : List Fs} {N : Addr → Prop} {σ : L2.St} {vs : List Nat} {i j : Nat} {Qd : Hp → Prop} (hJ : ItS K H2 a xs J) (rs : DrA N H2 xs (L.map entD)) (nD : H2 D = none) (hlen : L.length ≤ lim)
    (hw : ∀ a b, wipe (((wipe σ vs).set i (some a)).set j (some b)) vs = wipe σ vs) (hi : ∀ a b, (((wipe σ vs).set i (some a)).set j (some b))[i]? = some (some a))
    (hd : ∀ H3 ys, Sm H2 H3 → H3 D = some (.lst ys) → DrA N H3 ys (L.map fun S => PyData.list (S.ch.map PyData.bool)) → Qd H3) :
    ∃ W : Nat → Nat → Hp → Prop, (∃ m, W 0 m (upd H2 D (.lst []))) ∧ ∀ i' m H, W i' m H →
      (J.stop i' H ∧ Qd H) ∨ (J.go i' H ∧ ∃ Nx : Hp → Prop, (∀ H', Nx H' → ∃ m', m' < m ∧ W (i' + 1) m' H') ∧ ∀ x H', J.yld i' H x H' → (gTup K 2 (gCons (gName i) (gCons (gName j) gNil))) x (wipe σ vs) H' fun σ2 H2 => wipe σ2 vs = wipe σ vs ∧ tYes σ2 H2 fun b H3 =>
        if b = true then (tVar i) σ2 H3 fun y H4 => ∃ acc, H4 D = some (.lst acc) ∧ acc.length < sizeLine ∧ Nx (upd H4 D (.lst (acc ++ [y]))) else Nx H3) := by
  have hsl := lim_lt
  have lx2 : xs.length = L.length := by rw [rs.length, List.length_map]
  refine lc_seq hJ (fun m H' => Sm H2 H' ∧ ∃ ys, H' D = some (.lst ys) ∧ DrA (fun b => N b ∧ b ≠ D) H' ys ((L.take m).map fun S => PyData.list (S.ch.map PyData.bool))) ⟨Sm.new nD, [], upd_same, .nil⟩ (fun m H' hm h => ?_) (fun m x H' hx h => ?_) fun H3 h => ?_
  · rcases hJ with ⟨_, e⟩ | ⟨_, e⟩
    · rw [e]; exact h.1 _ _ e
    · rw [e]; exact h.1 _ _ e
  · obtain ⟨s', ys, eD, ry⟩ := h
    have hm : m < L.length := by
      have := (List.getElem?_eq_some_iff.mp hx).1
      omega
    obtain ⟨d, hd', rx⟩ := rs.get hx
    rw [List.getElem?_map, List.getElem?_eq_getElem hm] at hd'
    cases hd'
    have et : L.take (m + 1) = L.take m ++ [L[m]] := by rw [List.take_succ, List.getElem?_eq_getElem hm]; rfl
    have rx' := rx.live.sm s'
    have nD' : ∀ b, N b ∧ H2 b ≠ none → N b ∧ b ≠ D := fun b z => ⟨z.1, fun y => z.2 (by rw [y]; exact nD)⟩
    cases rx' with
    | tup eT ra =>
    cases ra with
    | cons ra1 ra2 =>
    cases ra2 with
    | cons ra2 ra3 =>
    cases ra3
    refine ⟨_, _, rfl, SqT.of eT, rfl, _, _, rfl, _, _, rfl, rfl, hw _ _, ?_⟩
    dsimp only [tYes]
    rw [if_pos rfl]
    have ly := ry.length
    rw [List.length_map, List.length_take] at ly
    refine ⟨_, hi _ _, ys, eD, by omega, fun c o e => ?_, _, upd_same, ?_⟩
    · rw [upd_ne (ne_of_none e nD)]
      exact s' _ _ e
    · rw [et, List.map_append]
      have st : ∀ {o : HO}, Stays (fun b => N b ∧ b ≠ D) H' (upd H' D o) := ⟨fun b o nb z => by rw [upd_ne nb.2]; exact z, fun b ws z => by
        rw [upd_ne fun y' => by rw [y', eD] at z; cases z]
        exact z⟩
      exact (ry.append (.one (ra1.wide nD'))).mono (fun _ z => z) st
  · obtain ⟨s', ys, eD, ry⟩ := h
    rw [lx2, List.take_length] at ry
    exact hd H3 ys s' eD (ry.wide fun b z => z.1)
mutual
theorem drN {N : Addr → Prop} {w : Addr} {H H' : Hp} (o : Off w N) (hw : ∃ xs, H w = some (.lst xs)) (x : GwN w H H') : ∀ {d : PyData} {v : V}, Dr N H v d → Dr N H' v d
  | _, _, .non => .non
  | _, _, .bl b => .bl b
  | _, _, .int i => .int i
  | _, _, .str y => .str y
  | _, _, .lst n e r => .lst n (x _ _ (o _ n) e fun _ z => nomatch z) (drNA o hw x r)
  | _, _, .tup e r => .tup (x _ _ (fun z => by obtain ⟨ys, e'⟩ := hw; rw [z, e'] at e; cases e) e fun _ z => nomatch z) (drNA o hw x r)
  | _, _, .dct n e r => .dct n (x _ _ (o _ n) e fun _ z => nomatch z) (drNK o hw x r)
theorem drNA {N : Addr → Prop} {w : Addr} {H H' : Hp} (o : Off w N) (hw : ∃ xs, H w = some (.lst xs)) (x : GwN w H H') : ∀ {ds : List PyData} {vs : List V}, DrA N H vs ds → DrA N H' vs ds
  | _, _, .nil => .nil
  | _, _, .cons a t => .cons (drN o hw x a) (drNA o hw x t)
theorem drNK {N : Addr → Prop} {w : Addr} {H H' : Hp} (o : Off w N) (hw : ∃ xs, H w = some (.lst xs)) (x : GwN w H H') : ∀ {ps : List (PyData × PyData)} {kvs : List (Key × V)}, DrK N H kvs ps → DrK N H' kvs ps
  | _, _, .nil => .nil
  | _, _, .cons a t => .cons (drN o hw x a) (drNK o hw x t)
end
theorem Wl.lst {H : Hp} {w : Addr} {n : Nat} (h : Wl H w n) : ∃ xs, H w = some (.lst xs) := by
  obtain ⟨a, b, c, e, _⟩ := h
  exact ⟨_, e⟩
theorem bools_back : ∀ {es : List PyData}, (∀ e ∈ es, ∃ b : Bool, e = .bool b) → ∃ l : List Bool, es = l.map PyData.bool
  | [], _ => ⟨[], rfl⟩
  | e :: es, h => by
    obtain ⟨b, rfl⟩ := h e (List.mem_cons_self ..)
    obtain ⟨l, rfl⟩ := bools_back fun e he => h e (List.mem_cons_of_mem _ he)
    exact ⟨b :: l, rfl⟩
theorem wts_ow {H : Hp} {a : Addr} {ms : List Wt} (e : H a = some (.lst (ms.map Wt.v))) : Ow H (.ref a) (.list (ms.map Wt.d)) [a] := by
  obtain ⟨gs, o2, z2⟩ := OwA.ofFz (N := No) (wts_drN (N := No) (H := H) ms) (wts_fz ms)
  have h2 := Ow.lst e o2
  rw [z2] at h2
  exact h2
theorem bools_wd {l : List Bool} (h : l.length ≤ 100) : wd (.list (l.map PyData.bool)) = true ∧ wd (.tuple (l.map PyData.bool)) = true := by
  have hl : lim = 4000 := rfl
  have hA : wdA (l.map PyData.bool) = true := wdA_of fun d hd => by
    obtain ⟨b, _, rfl⟩ := List.mem_map.mp hd
    rfl
  simp only [WR.wd, List.length_map, Bool.and_eq_true, decide_eq_true_eq]
  exact ⟨⟨by omega, hA⟩, ⟨by omega, hA⟩⟩
theorem cutB_to (l : List Bool) (k : Nat) : cutV (l.map V.bl) none (some (k : Int)) = (l.take k).map V.bl := by
  have := cutA_to (l.map V.bl) k
  unfold cutA at this
  unfold cutV
  rw [this, List.map_take]
theorem cutB_from (l : List Bool) (k : Nat) : cutV (l.map V.bl) (some (k : Int)) none = (l.drop k).map V.bl := by
  have := cutA_from (l.map V.bl) k
  unfold cutA at this
  unfold cutV
  rw [this, List.map_drop]
theorem wts_fitL {ms : List Wt} (hl : ms.length ≤ 100) (h : ∀ x ∈ ms, x.nOf ≤ 100) {n : Nat} : fit (.list (ms.map Wt.d)) (n + 1) = true := by
  have l : lim = 4000 := rfl
  refine fit_list (by rw [List.length_map]; omega) fun d hd => ?_
  obtain ⟨x, hx, rfl⟩ := List.mem_map.mp hd
  have := h x hx
  cases x with
  | n k => exact nat_fit (show k ≤ 1000000 by have h' : k ≤ 100 := this; omega)
  | b c => rfl
/-- choices that are wrong, and where -/
def EntC (R : List Row) (k : Nat) (H : Hp) (x : V) : Prop := ∃ (t : Addr) (ov : V) (d : PyData), x = .ref t ∧ H t = some (.tup [ov, .int (k : Nat)]) ∧ Dr All H ov d ∧ wd d = true ∧ chFault R d = some k
theorem EntC.sm {R : List Row} {k : Nat} {H H' : Hp} {x : V} (e : EntC R k H x) (s : Sm H H') : EntC R k H' x := by
  obtain ⟨t, ov, d, h1, h2, h3, h4⟩ := e
  exact ⟨t, ov, d, h1, s _ _ h2, h3.sm s, h4⟩
theorem EntC.x {R : List Row} {k : Nat} {H H' : Hp} {y : V} (e : EntC R k H y) (s : ExtN H H') : EntC R k H' y := by
  obtain ⟨t, ov, d, h1, h2, h3, h4⟩ := e
  exact ⟨t, ov, d, h1, s _ _ h2 (fun _ z => nomatch z), drX s h3, h4⟩
abbrev spFreeR (T : TabL) : Sp := fun vs H Q _ => ∃ (w va : Addr) (n : Nat) (u : V) (R : List Row) (e : PyData), vs = [.ref w, .ref va, u] ∧ Wl H w n ∧ n + 10000 < top0 ∧ Dr (Ne w) H (.ref va) (rowsD R) ∧ Dr (Ne w) H u e ∧ Lo (rowsD R) e ∧ Web R ∧ (∀ r ∈ R, r.small) ∧ R.length ≤ 18 ∧ (asks R).length ≤ 4 ∧ Tabs T H ∧
  ∀ H', GwN w H H' → Wl H' w (n + 100) → Tabs T H' → Q (.bl true) H'
section
variable {P : Program} {w : World} {K : PySem.W.Frag} {mg : Str → Option Value} {base : Heap} {CW CC : Addr}
theorem sc__law_free_right : FnScope ["stream", "rows", "web", "every", "due", "found", "choices", "told", "more", "at", "odd", "some", "thing", "index", "k"] ["stream", "rows", "web"] (defScope s_law_free_right) := ⟨rfl, rfl, rfl, by decide +kernel, rfl, by decide +kernel, by decide +kernel⟩
theorem ok__law_free_right (B : Bt mg) (E2 : Ex2 K mg CW CC) (FM : Fn K mg d_law_met) (D0 : Df P w K mg base CX0 1 "_law_draw" ["stream", "many"] spDraw) (D1 : Df P w K mg base CX0 2 "_law_pick" ["stream", "things"] spPick) (D2 : Df P w K mg base CX0 2 "_law_mixed" ["stream", "things"] spMixed)
    (D3 : Df P w K mg base CX0 3 "_law_a_all" ["rows"] spAAll) (D4 : Df P w K mg base CX0 7 "_law_same" ["found", "due"] (spSame 7)) (D5 : Df P w K mg base CX0 7 "_law_spoiled" ["thing"] (spPoilD 7)) (D6 : Df P w K mg base CX0 4 "_law_is_apart" ["thing"] (spApart 4))
    (DC : DfF P w K mg base (L2.CX P w) 7 "choice_lists" ["web"] (spChLists CW) dchoice_lists) (DE : DfF P w K mg base (L2.CX P w) 7 "free_meaning" ["web", "choices"] (spFreeM CW CC) dfree_meaning)
    {T : TabL} {c Pt f : Addr} {dV kV doc pm ct oc : Value} {an od : Option Addr} {osl : Array (Option Value)} (TB : TabB base mg c Pt) (hmT : (Pt, ("_law_free_right" : Str) ++ ".<locals>." ++ "<lambda>") ∈ T) (hu : ∀ p ∈ T, p.1 = Pt → p.2 = ("_law_free_right" : Str) ++ ".<locals>." ++ "<lambda>")
    (lk : K.lookup f = some ⟨oc, od, .func (PySem.W.fnOf d_law_free_right.name d_law_free_right.qual d_law_free_right.params d_law_free_right.body d_law_free_right.scope dV kV doc pm an (.ref c) ct), osl⟩) (hcd : PySem.W.codeIn K (.ref c) d_law_free_right.qual = true) :
    FnG P w K mg base CX0 11 f (PySem.W.fnOf d_law_free_right.name d_law_free_right.qual d_law_free_right.params d_law_free_right.body d_law_free_right.scope dV kV doc pm an (.ref c) ct) ["stream", "rows", "web"] (spFreeR T) := by
  refine fnG_of (N := ["stream", "rows", "web", "every", "due", "found", "choices", "told", "more", "at", "odd", "some", "thing", "index", "k"]) lk hcd sc__law_free_right (fun vs H Q E h => by obtain ⟨w, va, n, u, R, e, rfl, _⟩ := h; rfl) (fun A outer s H vs Q E hr free h => ?_)
  obtain ⟨wa, va, n, u, R, ew, rfl, hw, hn, rd, ru, lo, W, sm, hR, hA, hT, q⟩ := h
  have hr1 := hr.mono (show 1 ≤ 10 by decide)
  have hr2 := hr.mono (show 2 ≤ 10 by decide)
  have hr3 := hr.mono (show 3 ≤ 10 by decide)
  have hr4 := hr.mono (show 4 ≤ 10 by decide)
  have hr7 := hr.mono (show 7 ≤ 10 by decide)
  obtain ⟨g, fdg, mm, FD⟩ := FM
  obtain ⟨ocg, odg, dVg, kVg, docg, pmg, ang, cdg, ctg, oslg, rfl, lkg, hcg, _, _⟩ := FD.ex
  have bm : L2.Binds K (PySem.W.fnOf d_law_met.name d_law_met.qual d_law_met.params d_law_met.body d_law_met.scope dVg kVg docg pmg ang cdg ctg) ["ask"] [] := FD.bindsN fun _ _ _ _ _ _ us hl => match us, hl with | [_], _ => rfl
  refine ⟨_, PSs.nox (pss_cons (ps_set (i := 3) sc__law_free_right.nd rfl (by first | exact Or.inl rfl | exact Or.inr rfl) (pe_df D3 hr3 pass0 (pa_cons (pv 1) pa_nil)))
      (pss_cons (ps_setLc (i := 4) (own := [("choices", 6), ("told", 7)]) (g := gTup K 2 (gCons (gName 6) (gCons (gName 7) gNil))) (tt := tYes) rfl sc__law_free_right.nd rfl rfl (sw_true rfl rfl rfl (by decide +kernel)) (pi_seq (pv 3)) (blkOk_by (own := [("choices", 6), ("told", 7)]) (N := ["stream", "rows", "web", "every", "due", "found", "choices", "told", "more", "at", "odd", "some", "thing", "index", "k"]) (sc := defScope s_law_free_right) (by decide +kernel)) (fun _ _ _ _ _ => pg_tup rfl (pgs_cons (pg_name (i := 6) sc__law_free_right.nd rfl (by first | exact Or.inl rfl | exact Or.inr rfl)) (pgs_cons (pg_name (i := 7) sc__law_free_right.nd rfl (by first | exact Or.inl rfl | exact Or.inr rfl)) pgs_nil))) (fun _ _ _ _ _ => pts_nil) (fun _ _ _ _ _ => (pv 6)))
      (pss_cons (ps_set (i := 5) sc__law_free_right.nd rfl (by first | exact Or.inl rfl | exact Or.inr rfl) (pe_lst (pa_cons (pe_df DC.df hr7 (passes_call LamX.takes0 (fun _ _ _ _ z => z)) (pa_cons (pv 2) pa_nil)) (pa_cons (pe_dfK (kw_choice_lists DC) hr7 (passes_call LamX.takes0 (fun _ _ _ _ z => z)) (pk_cons (pv 2) pk_nil)) pa_nil))))
      (pss_cons (ps_if (pt_not (pt_val (pe_df D4 hr7 pass0 (pa_cons (pv 5) (pa_cons (pe_lst (pa_cons (pv 4) (pa_cons (pv 4) pa_nil))) pa_nil))))) (pss_one (ps_ret pe_bl)) pss_nil)
      (pss_cons (ps_expr (pe_df D5 hr7 pass0 (pa_cons (pv 5) pa_nil)))
      (pss_cons (ps_if (PW.pt (pw_or (pt_not (pt_val (pe_df D6 hr4 pass0 (pa_cons (pv 5) pa_nil)))) (pw_or1 (pt_not (pt_val (pe_df D4 hr7 pass0 (pa_cons (pe_df DC.df hr7 (passes_call LamX.takes0 (fun _ _ _ _ z => z)) (pa_cons (pv 2) pa_nil)) (pa_cons (pe_lc (own := [("choices", 6), ("told", 7)]) (g := gTup K 2 (gCons (gName 6) (gCons (gName 7) gNil))) (tt := tYes) rfl sc__law_free_right.nd (pi_seq (pv 3)) (blkOk_by (own := [("choices", 6), ("told", 7)]) (N := ["stream", "rows", "web", "every", "due", "found", "choices", "told", "more", "at", "odd", "some", "thing", "index", "k"]) (sc := defScope s_law_free_right) (by decide +kernel)) (fun _ _ _ _ _ => pg_tup rfl (pgs_cons (pg_name (i := 6) sc__law_free_right.nd rfl (by first | exact Or.inl rfl | exact Or.inr rfl)) (pgs_cons (pg_name (i := 7) sc__law_free_right.nd rfl (by first | exact Or.inl rfl | exact Or.inr rfl)) pgs_nil))) (fun _ _ _ _ _ => pts_nil) (fun _ _ _ _ _ => (pv 6))) pa_nil)))))))) (pss_one (ps_ret pe_bl)) pss_nil)
      (pss_cons (ps_for PassesOwn.never rfl (pi_seq (pe_slice (sl_N (Ne wa)) (pe_df D2 hr2 pass0 (pa_cons (pv 0) (pa_cons (pv 3) pa_nil))) po_none (po_some pe_int))) (pg_tup rfl (pgs_cons (pg_name (i := 6) sc__law_free_right.nd rfl (by first | exact Or.inl rfl | exact Or.inr rfl)) (pgs_cons (pg_name (i := 7) sc__law_free_right.nd rfl (by first | exact Or.inl rfl | exact Or.inr rfl)) pgs_nil))) (pss_cons (ps_set (i := 8) sc__law_free_right.nd rfl (by first | exact Or.inl rfl | exact Or.inr rfl) (pe_op op_cat (pv 6) (pe_lc (own := [("k", 14)]) (g := gName 14) (tt := tYes) rfl sc__law_free_right.nd (pi_range1 rfl B.range (pa_cons (pe_df D0 hr1 pass0 (pa_cons (pv 0) (pa_cons pe_int pa_nil))) pa_nil)) (blkOk_by (own := [("k", 14)]) (N := ["stream", "rows", "web", "every", "due", "found", "choices", "told", "more", "at", "odd", "some", "thing", "index", "k"]) (sc := defScope s_law_free_right) (by decide +kernel)) (fun _ _ _ _ _ => pg_name (i := 14) sc__law_free_right.nd rfl (by first | exact Or.inl rfl | exact Or.inr rfl)) (fun _ _ _ _ _ => pts_nil) (fun _ _ _ _ _ => (pe_cmpR op_eq (pe_df D0 hr1 pass0 (pa_cons (pv 0) (pa_cons pe_int pa_nil))) pe_int (nomark _))))))
      (pss_cons (ps_set (i := 5) sc__law_free_right.nd rfl (by first | exact Or.inl rfl | exact Or.inr rfl) (pe_lst (pa_cons (pe_df DE.df hr7 (passes_call LamX.takes0 (fun _ _ _ _ z => z)) (pa_cons (pv 2) (pa_cons (pv 6) pa_nil))) (pa_cons (pe_dfK (kw_free_meaning DE) hr7 (passes_call LamX.takes0 (fun _ _ _ _ z => z)) (pk_cons (pe_callTy call_tupD (by rfl) B.tuple (by decide +kernel) (pa_cons (pv 8) pa_nil)) (pk_cons (pv 2) pk_nil))) (pa_cons (pe_df DE.df hr7 (passes_call LamX.takes0 (fun _ _ _ _ z => z)) (pa_cons (pv 2) (pa_cons (pv 8) pa_nil))) pa_nil)))))
      (pss_cons (ps_if (pt_not (pt_val (pe_df D4 hr7 pass0 (pa_cons (pv 5) (pa_cons (pe_op op_rep (pe_lst (pa_cons (pv 7) pa_nil)) pe_int) pa_nil))))) (pss_one (ps_ret pe_bl)) pss_nil)
      (pss_cons (ps_expr (pe_df D5 hr7 pass0 (pa_cons (pv 5) pa_nil)))
      (pss_cons (ps_set (i := 9) sc__law_free_right.nd rfl (by first | exact Or.inl rfl | exact Or.inr rfl) (pe_df D0 hr1 pass0 (pa_cons (pv 0) (pa_cons (pe_op op_add (pe_callB call_lenS (by rfl) B.len (by decide +kernel) (pa_cons (pv 6) pa_nil)) pe_int) pa_nil))))
      (pss_cons (ps_set (i := 10) sc__law_free_right.nd rfl (by first | exact Or.inl rfl | exact Or.inr rfl) (pe_df D1 hr2 pass0 (pa_cons (pv 0) (pa_cons (pe_lst (pa_cons pe_non (pa_cons pe_int (pa_cons pe_int (pa_cons pe_str (pa_cons (pe_lst (pa_cons pe_bl pa_nil)) (pa_cons pe_dnewK pa_nil))))))) pa_nil))))
      (pss_cons (ps_set (i := 11) sc__law_free_right.nd rfl (by first | exact Or.inl rfl | exact Or.inr rfl) (pe_lst (pa_cons (pe_tup (pa_cons (pe_op op_cat (pe_op op_cat (pe_slice sl_list (pv 6) po_none (po_some (pv 9))) (pe_lst (pa_cons (pv 10) (pa_cons pe_non pa_nil)))) (pe_slice sl_list (pv 6) (po_some (pv 9)) po_none)) (pa_cons (pv 9) pa_nil))) pa_nil)))
      (C8.pss_cut (ps_expr (pe_bm PySem.F.plainAttrs_list PySem.F.slot_list_extend PySem.F.type_list_extend mt_extend (pv 11) (pa_cons (pe_ifExp (pt_cmpR op_lt (pv 9) (pe_callB call_lenS (by rfl) B.len (by decide +kernel) (pa_cons (pv 6) pa_nil)) (nomark _)) (pe_lst (pa_cons (pe_tup (pa_cons (pe_slice sl_list (pv 6) po_none (po_some (pv 9))) (pa_cons (pv 9) pa_nil))) pa_nil)) (pe_lst pa_nil)) pa_nil)))
      (pss_one (ps_for PassesOwn.never rfl (pi_seq (pv 11)) (pg_tup rfl (pgs_cons (pg_name (i := 12) sc__law_free_right.nd rfl (by first | exact Or.inl rfl | exact Or.inr rfl)) (pgs_cons (pg_name (i := 13) sc__law_free_right.nd rfl (by first | exact Or.inl rfl | exact Or.inr rfl)) pgs_nil))) (pss_one (ps_if (pt_not (pt_val (pe_df D4 hr7 pass0 (pa_cons (LamX.pe_lamcall (by rfl) mm FD.kp lkg hcg bm sc__law_met rfl (by first | exact .inl rfl | exact .inr (.inl rfl)) (met_gives E2) TB rfl hmT hu hr (lamS_by (by kernel_rfl)) rfl (fun _ _ _ _ _ => rfl) (fun A outer s H E f c hr2 => pe_df DE.df (hr2.mono (by decide)) (passes_call (takes_of rfl rfl rfl rfl) (fun _ _ _ _ z => z)) (pa_cons (pv 2) (pa_cons (pv 12) pa_nil)))) (pa_cons (pe_tup (pa_cons pe_str (pa_cons (pv 13) pa_nil))) pa_nil))))) (pss_one (ps_ret pe_bl)) pss_nil)))))))))))))
      (pss_one (ps_ret pe_bl))))))))), ?_⟩
  have htop : top0 = 1000000000000 := rfl
  have hlim : lim = 4000 := rfl
  have hsl := lim_lt
  have oN : Off wa (Ne wa) := fun a z => z
  have tR := web_tame W sm (by omega)
  have te : tame true ew 3 = true := tame_lo lo tR
  have wde := tame_wd te
  have sc : ScanOf ew R .none := W.scan.lo lo
  have sz1 : 1 ≤ sizeLine := by decide
  have sz2 : 2 ≤ sizeLine := by decide
  have bad : ∀ {R' : List Row} {m : Nat} {x : Str}, ScanOf ew R' (faultD m x) → False := fun z => by cases (sc.det z).2
  have bnd : ∀ R', ScanOf ew R' .none → (R'.filter Row.isAsked).length ≤ 10 := fun R' z => by
    obtain ⟨rfl, _⟩ := sc.det z
    rw [asks_count]
    omega
  have few := allW_few hA
  -- every, due
  refine ⟨_, rfl, .ref va, R, rfl, rd.all, W, by omega, by omega, fun p H1 s1 r1 => ?_⟩
  obtain ⟨xs1, ep, rs1⟩ : ∃ xs, H1 p = some (.lst xs) ∧ DrA (Ne wa) H1 xs ((allW R).map entD) := by
    cases r1 with
    | lst _ e r => exact ⟨_, e, r.wide fun b z => hw.ne z⟩
  have npw : p ≠ wa := by
    cases r1 with
    | lst no _ _ => exact hw.ne no
  clear r1
  refine ⟨_, rfl, p, xs1, rfl, .inl ep, fun J hJ D1' nD1 => ?_⟩
  refine ch_comp hJ rs1 nD1 (by omega) (fun _ _ => rfl) (fun _ _ => rfl) fun H2 ys1 s2 eD1 ry1 => ?_
  have s02 := s1.trans s2
  have ru2 := (ru.sm s02).all
  have rdue : Dr All H2 (.ref D1') (chLists R) := .lst trivial eD1 ry1.all
  -- found
  refine ⟨_, rfl, u, ew, rfl, ru2, wde, bnd, (fun R1 p1 f1 H3 sc1 s3 ow1 => ?_), fun R' m x dx H' z _ _ _ => bad z⟩
  obtain ⟨rfl, _⟩ := sc.det sc1
  refine ⟨_, rfl, rfl, u, ew, rfl, ru2.sm s3, wde, bnd, (fun R2 p2 f2 H4 sc2 s4 ow2 => ?_), fun R' m x dx H' z _ _ _ => bad z⟩
  obtain ⟨rfl, _⟩ := sc.det sc2
  refine ⟨sz2, fun q1 nq1 => ?_⟩
  have s5 := Sm.new (o := .lst [.ref p1, .ref p2]) nq1
  have e5 : upd H4 q1 (.lst [.ref p1, .ref p2]) q1 = some (.lst [.ref p1, .ref p2]) := upd_same
  have o1 : Ow H4 (.ref p1) (chLists R) f1 := ow1.ow.sm s4
  have o2 : Ow H4 (.ref p2) (chLists R) f2 := ow2.ow
  have n1 : ∀ b ∈ f1, b ≠ q1 := fun b hb z => by
    obtain ⟨zs, ez⟩ := o1.lists b hb
    rw [z, nq1] at ez
    cases ez
  have n2 : ∀ b ∈ f2, b ≠ q1 := fun b hb z => by
    obtain ⟨zs, ez⟩ := o2.lists b hb
    rw [z, nq1] at ez
    cases ez
  have n12 : ∀ a ∈ f1, ∀ b ∈ f2, a ≠ b := fun a ha b hb z => by
    obtain ⟨zs, ez⟩ := ow1.ow.lists a ha
    rw [z, ow2.nw b hb] at ez
    cases ez
  have ndf : (q1 :: [f1, f2].flatten).Nodup := by
    have ef : [f1, f2].flatten = f1 ++ f2 := by simp
    rw [ef]
    refine List.nodup_cons.mpr ⟨fun z => ?_, List.nodup_append.mpr ⟨ow1.nd, ow2.nd, n12⟩⟩
    rcases List.mem_append.mp z with z | z
    · exact n1 _ z rfl
    · exact n2 _ z rfl
  have fr2 : ∀ b ∈ q1 :: [f1, f2].flatten, H2 b = none := fun b hb => by
    have ef : [f1, f2].flatten = f1 ++ f2 := by simp
    rw [ef] at hb
    rcases List.mem_cons.mp hb with z | z
    · rw [z]
      exact (s3.trans s4).free nq1
    · rcases List.mem_append.mp z with z | z
      · exact ow1.nw b z
      · exact s3.free (ow2.nw b z)
  have ow5 : Ow (upd H4 q1 (.lst [.ref p1, .ref p2])) (.ref q1) (.list [chLists R, chLists R]) (q1 :: [f1, f2].flatten) := .lst e5 (.cons (o1.sm s5) (.cons (o2.sm s5) .nil))
  have s25 := (s3.trans s4).trans s5
  generalize upd H4 q1 (.lst [.ref p1, .ref p2]) = H5 at s5 e5 ow5 s25 ⊢
  clear n1 n2 n12 o1 o2 ow1 ow2
  have fitC : ∀ {n}, fit (chLists R) (n + 2) = true := chLists_fit W hA
  have fit2 : fit (.list [chLists R, chLists R]) 6 = true := fit_list (by show 2 ≤ lim; decide) fun d hd => by
    simp only [List.mem_cons, List.not_mem_nil, or_false] at hd
    rcases hd with rfl | rfl <;> exact fitC
  -- if not _law_same(found, [due, due])
  refine ⟨_, rfl, _, rfl, _, rfl, sz2, fun q2 nq2 => ?_⟩
  have s6 := Sm.new (o := .lst [.ref D1', .ref D1']) nq2
  have rdue5 := (rdue.sm s25).sm s6
  refine ⟨_, _, .list [chLists R, chLists R], rfl, ow5.dr.sm s6, .lst trivial upd_same (.cons rdue5 (.one rdue5)), fit2, fun H6 s6' => ⟨_, rfl, iteF ?_⟩⟩
  -- _law_spoiled(found)
  have s56 := s6.trans s6'
  refine ⟨_, rfl, .ref q1, _, _, rfl, ow5.sm s56, ndf, fit2, fun H7 bt7 ow7 => ?_⟩
  have s27 : Sm H2 H7 := fun b o e => bt7 b o (fun z => by rw [fr2 b z] at e; cases e) ((s25.trans s56) b o e)
  clear rdue5 s6 s6' s56 ow5 bt7 s25 s5 e5 nq2
  -- if not _law_is_apart(found) or ..
  refine ⟨_, rfl, .ref q1, _, rfl, ow7.dr, ap_found W hA, fun H8 s8 => ⟨_, rfl, iteF ?_⟩⟩
  have s28 := s27.trans s8
  refine ⟨_, rfl, u, ew, rfl, ru2.sm s28, wde, bnd, (fun R3 p3 f3 H9 sc3 s9 ow3 => ?_), fun R' m x dx H' z _ _ _ => bad z⟩
  obtain ⟨rfl, _⟩ := sc.det sc3
  have s29 := s28.trans s9
  have ep9 := (s2.trans s29) _ _ ep
  refine ⟨_, rfl, p, xs1, rfl, .inl ep9, fun J2 hJ2 D3' nD3 => ?_⟩
  refine ch_comp hJ2 (rs1.sm (s2.trans s29)) nD3 (by omega) (fun _ _ => rfl) (fun _ _ => rfl) fun H10 ys3 s10 eD3 ry3 => ?_
  refine ⟨_, _, chLists R, rfl, ow3.ow.dr.sm s10, .lst trivial eD3 ry3.all, fitC, fun H11 s11 => ⟨_, rfl, iteF ?_⟩⟩
  have s211 := (s29.trans s10).trans s11
  have s011 := s02.trans s211
  clear ow7 ow3 eD3 ry3 s8 s9 s10 s11 s28 s29 rdue eD1 ry1 s27 sc1 sc2 sc3
  have hw11 := hw.sm s011
  have rd11 := rd.sm s011
  have ru11 := ru.sm s011
  have hT11 : Tabs T H11 := hT.ext s011
  have rs11 := rs1.sm (s2.trans s211)
  have ep11 := (s2.trans s211) _ _ ep
  have g011 : GwN wa H H11 := GwN.of (Gw.of s011)
  have fin : ∀ H', GwN wa H11 H' → Wl H' wa (n + 100) → Tabs T H' → Q (.bl true) H' := fun H' g hw' t => q H' (g011.trans g) hw' t
  clear q
  -- for choices, told in _law_mixed(..)[:4]
  have lall : (its (allD R)).length ≤ 16 := by show ((allW R).map entD).length ≤ 16; rw [List.length_map]; exact few
  refine ⟨_, rfl, _, rfl, wa, n, Ne wa, .ref p, allD R, rfl, oN, hw11, by omega, .lst npw ep11 rs11, rfl, by omega, fun lm ysm es H12 nlm pm g12 hw12 elm rym => ⟨_, rfl, .list es, .lst (hw11.ne nlm) elm rym, rfl, fun v13 H13 s13 r13 => ?_⟩⟩
  have e13 : likeD (.list es) (cutA (its (.list es)) none (some (4 : Int))) = .list (es.take 4) := congrArg PyData.list (cutA_to es 4)
  rw [e13] at r13
  obtain ⟨a13, xs13, rfl, hq13, rs13⟩ := (r13.wide (N := Fr (Ne wa) H12) (M := Ne wa) fun b z => z.elim id fun y => hw12.ne y).seq rfl
  have ent : ∀ e ∈ es.take 4, ∃ S ∈ allW R, e = entD S := fun e he => by
    obtain ⟨S, hS, e'⟩ := List.mem_map.mp (pm.mem_iff.mp (List.mem_of_mem_take he))
    exact ⟨S, hS, e'.symm⟩
  have rs13' : DrA (Ne wa) H13 xs13 (es.take 4) := rs13
  have lx13 : xs13.length ≤ 4 := by rw [rs13'.length, List.length_take]; omega
  have hw13 : Wl H13 wa (n + 16) := (hw12.sm s13).mono (by omega)
  have g013 : Gw wa H11 H13 := g12.trans (Gw.of s13)
  have hT13 : Tabs T H13 := (tabs_gw hT11 hw11 g12).ext s13
  have ru13 := ru11.gn oN hw11 g013
  have na13 : a13 ≠ wa := by
    rcases hq13 with e | e
    · have := r13.wide (N := Fr (Ne wa) H12) (M := Ne wa) fun b z => z.elim id fun y => hw12.ne y
      cases this with
      | lst no _ _ => exact no
    · intro z
      obtain ⟨ys, e'⟩ := hw13.lst
      rw [z, e'] at e
      cases e
  refine ⟨a13, xs13, rfl, hq13, fun J hJ => ?_⟩
  refine for_seq hJ (fun i σ' H' => ∃ x5 x6 x7 x8 x9 x10 x11 x12 x13, σ' = [some (.ref wa), some (.ref va), some u, some (.ref p), some (.ref D1'), x5, x6, x7, x8, x9, x10, x11, x12, x13, none] ∧ GwN wa H13 H' ∧ Wl H' wa (n + 16 + 10 * i) ∧ Tabs T H') ?_ ?_ ?_ ?_
  · exact ⟨_, _, _, _, _, _, _, _, _, rfl, GwN.of (Gw.of Sm.rfl'), hw13, hT13⟩
  · rintro i σ' H' _ ⟨_, _, _, _, _, _, _, _, _, _, g, _⟩
    rcases hq13 with e | e
    · rw [g _ _ na13 e (fun _ z => nomatch z), e]
    · rw [g _ _ na13 e (fun _ z => nomatch z), e]
  · rintro i x σ' H3 hx ⟨x5, x6, x7, x8, x9, x10, x11, x12, x13, rfl, g3, hw3, tn3⟩
    have hi4 : i < 4 := by
      have := (List.getElem?_eq_some_iff.mp hx).1
      omega
    obtain ⟨d, hd, rx⟩ := (drNA oN hw13.lst g3 rs13').get hx
    obtain ⟨S, hS, rfl⟩ := ent d (List.mem_of_getElem? hd)
    clear hx hd
    have ru3 := drN oN hw13.lst g3 ru13
    cases rx with
    | tup eT ra =>
    cases ra with
    | cons ra1 ra2 =>
    cases ra2 with
    | cons ra2 ra3 =>
    cases ra3
    cases ra1 with
    | @lst cl _ _ ncl ecl rc =>
    cases ra2 with
    | @lst tl _ _ ntl etl rt =>
    obtain rfl := DrA.bls rc
    obtain rfl := dra_wts rt
    clear rc rt
    have lch := allW_ch W hS hA
    refine ⟨_, _, rfl, SqT.of eT, rfl, _, _, rfl, _, _, rfl, rfl, ?_⟩
    -- more
    refine ⟨_, rfl, _, rfl, wa, 3, n + 16 + 10 * i, rfl, by decide, by decide, hw3, by omega, fun mk H4 hmk g4 hw4 => ⟨_, rfl, by omega, by omega, fun D4' nD4 => ?_⟩⟩
    rw [Int.toNat_natCast]
    refine lc_w (c := 1) (n := n + 16 + 10 * i + 1) (N := No) (fun _ e => ∃ b : Bool, e = .bool b) (WalkW.range (w := wa) (N := No) (lo := 0)) nD4 hw4 (fun b z => z.elim) (by simp; omega) (fun _ => rfl) (fun x' d' j H9 Q' hd' g9 hw9 rx q' _ => ?_) (fun H5 ys5 es5 g5 hw5 eD5 ry5 al => ?_)
    · have hj : j < mk := by
        have := (List.getElem?_eq_some_iff.mp hd').1
        simpa using this
      refine ⟨_, rfl, wa, 2, _, rfl, by decide, by decide, hw9, by omega, fun k1 H10 hk1 g10 hw10 => ⟨rfl, q' _ (.bool (decide (V.int (k1 : Nat) = V.int 0))) _ g10 (by rw [Nat.one_mul] at hw10 ⊢; exact hw10) (.bl _) ⟨_, rfl⟩⟩⟩
    rw [show ((List.range mk).map fun (k : Nat) => PyData.int (0 + (k : Int))).length = mk by simp, Nat.one_mul] at hw5
    obtain ⟨ks, rfl⟩ := bools_back (es := es5) fun e he => by
      obtain ⟨_, _, h⟩ := al.mem e he
      exact h
    obtain rfl := DrA.bls ry5
    have lks : ks.length = mk := by
      have := al.len
      simpa using this
    have g35 := g4.trans g5
    have ecl5 := g35 cl _ ncl ecl
    have etl5 := g35 tl _ ntl etl
    have ru5 := ru3.gn oN hw3 g35
    have tn5 := tabs_gw tn3 hw3 g35
    have hwm : Wl H5 wa (n + 16 + 10 * i + 3) := hw5.mono (by omega)
    refine ⟨cl, D4', _, _, rfl, rfl, ecl5, eD5, by simp; omega, fun mp nmp => ?_⟩
    have s6 := Sm.new (o := .lst (S.ch.map V.bl ++ ks.map V.bl)) nmp
    have emp : upd H5 mp (.lst (S.ch.map V.bl ++ ks.map V.bl)) mp = some (.lst ((S.ch ++ ks).map V.bl)) := by rw [upd_same, List.map_append]
    generalize upd H5 mp (.lst (S.ch.map V.bl ++ ks.map V.bl)) = H6 at s6 emp ⊢
    have ecl6 := s6 _ _ ecl5
    have etl6 := s6 _ _ etl5
    have ru6 := (ru5.sm s6).all
    clear eD5 ry5 al hw5
    -- found
    have dch : ∀ {H' : Hp}, Sm H6 H' → Dr All H' (.ref cl) (.list (S.ch.map PyData.bool)) := fun s' => .lst trivial (s' _ _ ecl6) (bls_dr _)
    have dmo : ∀ {H' : Hp}, Sm H6 H' → Dr All H' (.ref mp) (.list ((S.ch ++ ks).map PyData.bool)) := fun s' => .lst trivial (s' _ _ emp) (bls_dr _)
    have lmo : (S.ch ++ ks).length ≤ 100 := by rw [List.length_append]; omega
    obtain ⟨c1, c1'⟩ := chFault_ok (e := .list (S.ch.map PyData.bool)) hS rfl (k := []) (by rw [List.append_nil]; rfl)
    obtain ⟨c2, c2'⟩ := chFault_ok (e := .tuple ((S.ch ++ ks).map PyData.bool)) hS rfl (k := ks) rfl
    obtain ⟨c3, c3'⟩ := chFault_ok (e := .list ((S.ch ++ ks).map PyData.bool)) hS rfl (k := ks) rfl
    refine ⟨_, rfl, _, rfl, u, .ref cl, ew, _, rfl, ru6, wde, dch Sm.rfl', (bools_wd (by omega)).1, (fun R1 m1 H7 sc1 hn s7 nm1 em1 => ?_), (fun R1 k dx H' sc1 hk _ _ _ => by obtain ⟨rfl, _⟩ := sc.det sc1; rw [c1] at hk; cases hk), fun R' m x dx H' z _ _ _ => bad z⟩
    obtain ⟨rfl, _⟩ := sc.det sc1
    rw [c1'] at em1
    refine ⟨_, rfl, .ref mp, _, rfl, dmo s7, rfl, fun tv H8 s8 rtv => ?_⟩
    refine ⟨_, rfl, rfl, u, tv, ew, _, rfl, ru6.sm (s7.trans s8), wde, rtv, (bools_wd lmo).2, (fun R1 m2 H9 sc1 hn s9 nm2 em2 => ?_), (fun R1 k dx H' sc1 hk _ _ _ => by obtain ⟨rfl, _⟩ := sc.det sc1; rw [show its (PyData.list ((S.ch ++ ks).map PyData.bool)) = (S.ch ++ ks).map PyData.bool from rfl] at hk; rw [c2] at hk; cases hk), fun R' m x dx H' z _ _ _ => bad z⟩
    obtain ⟨rfl, _⟩ := sc.det sc1
    rw [show its (PyData.list ((S.ch ++ ks).map PyData.bool)) = (S.ch ++ ks).map PyData.bool from rfl, c2'] at em2
    have s69 := (s7.trans s8).trans s9
    refine ⟨_, rfl, _, rfl, u, .ref mp, ew, _, rfl, ru6.sm s69, wde, dmo s69, (bools_wd lmo).1, (fun R1 m3 H10 sc1 hn s10 nm3 em3 => ?_), (fun R1 k dx H' sc1 hk _ _ _ => by obtain ⟨rfl, _⟩ := sc.det sc1; rw [c3] at hk; cases hk), fun R' m x dx H' z _ _ _ => bad z⟩
    obtain ⟨rfl, _⟩ := sc.det sc1
    rw [c3'] at em3
    refine ⟨(by show 3 ≤ sizeLine; decide), fun q1 nq1 => ?_⟩
    have s11 := Sm.new (o := .lst [.ref m1, .ref m2, .ref m3]) nq1
    have e11 : upd H10 q1 (.lst [.ref m1, .ref m2, .ref m3]) q1 = some (.lst [.ref m1, .ref m2, .ref m3]) := upd_same
    have a1 := (((s8.trans s9).trans s10).trans s11) _ _ em1
    have a2 := (s10.trans s11) _ _ em2
    have a3 := s11 _ _ em3
    have b1 := ((s8.trans s9).trans s10) _ _ em1
    have b2 := s10 _ _ em2
    have d12 : m1 ≠ m2 := fun z => by rw [← z, s8 _ _ em1] at nm2; cases nm2
    have d13 : m1 ≠ m3 := fun z => by rw [← z, (s8.trans s9) _ _ em1] at nm3; cases nm3
    have d23 : m2 ≠ m3 := fun z => by rw [← z, em2] at nm3; cases nm3
    have dq1 : q1 ≠ m1 := fun z => by rw [z, b1] at nq1; cases nq1
    have dq2 : q1 ≠ m2 := fun z => by rw [z, b2] at nq1; cases nq1
    have dq3 : q1 ≠ m3 := fun z => by rw [z, em3] at nq1; cases nq1
    have frs : ∀ b ∈ q1 :: [[m1], [m2], [m3]].flatten, H6 b = none := fun b hb => by
      simp only [List.flatten_cons, List.flatten_nil, List.append_nil, List.cons_append, List.nil_append, List.mem_cons, List.not_mem_nil, or_false] at hb
      rcases hb with rfl | rfl | rfl | rfl
      · exact (s69.trans s10).free nq1
      · exact nm1
      · exact (s7.trans s8).free nm2
      · exact s69.free nm3
    have ndq : (q1 :: [[m1], [m2], [m3]].flatten).Nodup := by
      simp [dq1, dq2, dq3, d12, d13, d23]
    have owq : Ow (upd H10 q1 (.lst [.ref m1, .ref m2, .ref m3])) (.ref q1) (.list [.list (S.ms.map Wt.d), .list (S.ms.map Wt.d), .list (S.ms.map Wt.d)]) (q1 :: [[m1], [m2], [m3]].flatten) := .lst e11 (.cons (wts_ow a1) (.cons (wts_ow a2) (.cons (wts_ow a3) .nil)))
    have s611 := (s69.trans s10).trans s11
    generalize upd H10 q1 (.lst [.ref m1, .ref m2, .ref m3]) = HA at s11 e11 a1 a2 a3 owq s611 ⊢
    clear a1 a2 a3 b1 b2 d12 d13 d23 dq1 dq2 dq3 em1 em2 em3 nm1 nm2 nm3 nq1 s7 s8 s9 s10 s69 s11 e11 rtv c1 c2 c3 c1' c2' c3'
    obtain ⟨lms, lows⟩ := allW_low hS
    have fW : ∀ {n}, fit (.list (S.ms.map Wt.d)) (n + 1) = true := wts_fitL (by omega) fun x hx => by have := lows x hx; omega
    have fW3 : fit (.list [.list (S.ms.map Wt.d), .list (S.ms.map Wt.d), .list (S.ms.map Wt.d)]) 6 = true := fit_list (by show 3 ≤ lim; decide) fun d hd => by
      simp only [List.mem_cons, List.not_mem_nil, or_false] at hd
      rcases hd with rfl | rfl | rfl <;> exact fW
    -- if not _law_same(found, [told] * 3)
    refine ⟨_, rfl, _, rfl, sz1, fun l2 nl2 => ?_⟩
    have v1 := Sm.new (o := .lst [.ref tl]) nl2
    refine ⟨l2, 3, _, rfl, rfl, upd_same, by decide, by decide, (by show 3 ≤ sizeLine; decide), fun l3 nl3 => ?_⟩
    have v2 := Sm.new (o := .lst (List.replicate (3 : Int).toNat [V.ref tl]).flatten) nl3
    have v12 := v1.trans v2
    have dtl : Dr All (upd (upd HA l2 (.lst [.ref tl])) l3 (.lst (List.replicate (3 : Int).toNat [V.ref tl]).flatten)) (.ref tl) (.list (S.ms.map Wt.d)) := .lst trivial ((s611.trans v12) _ _ etl6) (wts_dr _)
    refine ⟨_, _, .list [.list (S.ms.map Wt.d), .list (S.ms.map Wt.d), .list (S.ms.map Wt.d)], rfl, owq.dr.sm v12, .lst trivial (xs := [.ref tl, .ref tl, .ref tl]) upd_same (.cons dtl (.cons dtl (.one dtl))), fW3, fun HB sB => ⟨_, rfl, iteF ?_⟩⟩
    have sAB := v12.trans sB
    -- _law_spoiled(found)
    refine ⟨_, rfl, .ref q1, _, _, rfl, owq.sm sAB, ndq, fW3, fun HC btC _ => ?_⟩
    have s6C : Sm H6 HC := fun b o e => btC b o (fun z => by rw [frs b z] at e; cases e) ((s611.trans sAB) b o e)
    clear btC owq dtl v1 v2 v12 nl2 nl3 sAB sB s611 frs ndq fW3
    have hwC : Wl HC wa (n + 16 + 10 * i + 3) := (hwm.sm s6).sm s6C
    -- at
    refine ⟨_, rfl, _, rfl, .ref cl, .list (S.ch.map PyData.bool), rfl, dch s6C, rfl, _, _, rfl, rfl, wa, S.ch.length + 1, _, (by show [V.ref wa, V.int ((((S.ch.map PyData.bool).length : Nat) : Int) + 1)] = _; rw [List.length_map]; rfl), by omega, by omega, hwC, by omega, fun at' HD hat gD hwD => ?_⟩
    -- odd
    refine ⟨_, rfl, sz1, fun b1 nb1 => ?_⟩
    intro b2 nb2
    have w1 := (Sm.new (o := .lst [.bl true]) nb1).trans (Sm.new (o := .dK []) nb2)
    have eb1 : upd (upd HD b1 (.lst [.bl true])) b2 (.dK []) b1 = some (.lst [.bl true]) := (Sm.new nb2) _ _ upd_same
    have eb2 : upd (upd HD b1 (.lst [.bl true])) b2 (.dK []) b2 = some (.dK []) := upd_same
    have nb1w : b1 ≠ wa := hwD.ne nb1
    have nb2w : b2 ≠ wa := (hwD.sm (Sm.new (o := .lst [.bl true]) nb1)).ne nb2
    generalize upd (upd HD b1 (.lst [.bl true])) b2 (.dK []) = HE at w1 eb1 eb2 ⊢
    refine ⟨(by show 6 ≤ sizeLine; decide), fun ol nol => ?_⟩
    have w2 := Sm.new (o := .lst [.non, .int 0, .int 1, .str "True", .ref b1, .ref b2]) nol
    have nolw : ol ≠ wa := (hwD.sm w1).ne nol
    have rol : Dr (Ne wa) (upd HE ol (.lst [.non, .int 0, .int 1, .str "True", .ref b1, .ref b2])) (.ref ol) (.list [.none, .int 0, .int 1, .str "True", .list [.bool true], .dict []]) := .lst nolw upd_same (.cons .non (.cons (.int _) (.cons (.int _) (.cons (.str _) (.cons (.lst nb1w (w2 _ _ eb1) (.one (.bl _))) (.one (.dct nb2w (w2 _ _ eb2) .nil)))))))
    have hwE := (hwD.sm w1).sm w2
    have gCE := (gD.trans (Gw.of w1)).trans (Gw.of w2)
    generalize upd HE ol (.lst [.non, .int 0, .int 1, .str "True", .ref b1, .ref b2]) = HF at w2 rol hwE gCE ⊢
    refine ⟨wa, _, Ne wa, .ref ol, _, rfl, oN, hwE, by omega, rol, rfl, (fun z => by cases z), (by show 6 ≤ lim; decide), fun e he ov HG gG hwG rov => ?_⟩
    have hoe : isB e = false ∧ wd e = true := by
      simp only [its, List.mem_cons, List.not_mem_nil, or_false] at he
      rcases he with rfl | rfl | rfl | rfl | rfl | rfl <;> exact ⟨rfl, by decide +kernel⟩
    have gCG := gCE.trans gG
    have g5G : Gw wa H5 HG := (Gw.of (s6.trans s6C)).trans gCG
    have eclG := g5G cl _ ncl ecl5
    have ruG := ru5.gn oN hwm g5G
    have tnG : Tabs T HG := tabs_gw tn5 hwm g5G
    have hwG' : Wl HG wa (n + 16 + 10 * i + 5) := hwG.mono (by omega)
    have g3G : GwN wa H13 HG := (g3.trans (GwN.of g35)).trans (GwN.of g5G)
    have rovA := rov.all
    have hat' : at' ≤ S.ch.length := by omega
    clear rol w1 w2 eb1 eb2 gCE gD hwE hwD rov dch dmo
    have hA4 : S.ch.length ≤ 4 := lch
    have ltk : (S.ch.take at').length = at' := by rw [List.length_take]; omega
    -- some
    refine ⟨_, rfl, _, rfl, _, rfl, cl, _, rfl, SqL.of eclG, fun r1 nr1 => ?_⟩
    rw [cutB_to]
    have y1 := Sm.new (o := .lst ((S.ch.take at').map V.bl)) nr1
    have f1' : upd HG r1 (.lst ((S.ch.take at').map V.bl)) r1 = some (.lst ((S.ch.take at').map V.bl)) := upd_same
    generalize upd HG r1 (.lst ((S.ch.take at').map V.bl)) = K1 at y1 f1' ⊢
    refine ⟨_, rfl, sz2, fun r2 nr2 => ⟨r1, r2, _, _, rfl, rfl, (Sm.new nr2) _ _ f1', upd_same, by rw [List.length_map, ltk]; simp; omega, fun r3 nr3 => ?_⟩⟩
    have y2 := (Sm.new (o := .lst [ov, .non]) nr2).trans (Sm.new (o := .lst ((S.ch.take at').map V.bl ++ [ov, .non])) nr3)
    have f3' : upd (upd K1 r2 (.lst [ov, .non])) r3 (.lst ((S.ch.take at').map V.bl ++ [ov, .non])) r3 = some (.lst ((S.ch.take at').map V.bl ++ [ov, .non])) := upd_same
    generalize upd (upd K1 r2 (.lst [ov, .non])) r3 (.lst ((S.ch.take at').map V.bl ++ [ov, .non])) = K2 at y2 f3' ⊢
    have y12 := y1.trans y2
    refine ⟨_, rfl, _, rfl, _, rfl, cl, _, rfl, SqL.of (y12 _ _ eclG), fun r4 nr4 => ?_⟩
    rw [cutB_from]
    refine ⟨r3, r4, _, _, rfl, rfl, (Sm.new nr4) _ _ f3', upd_same, by rw [List.length_append, List.length_map, List.length_map, ltk]; simp; omega, fun r5 nr5 => ?_⟩
    have y3 := (Sm.new (o := .lst ((S.ch.drop at').map V.bl)) nr4).trans (Sm.new (o := .lst ((S.ch.take at').map V.bl ++ [ov, .non] ++ (S.ch.drop at').map V.bl)) nr5)
    have r5d : Dr All (upd (upd K2 r4 (.lst ((S.ch.drop at').map V.bl))) r5 (.lst ((S.ch.take at').map V.bl ++ [ov, .non] ++ (S.ch.drop at').map V.bl))) (.ref r5) (.list ((S.ch.take at').map PyData.bool ++ [e, .none] ++ (S.ch.drop at').map PyData.bool)) := .lst trivial upd_same (((bls_dr _).append (.cons ((rovA.sm y12).sm y3) (.one .non))).append (bls_dr _))
    have y13 := y12.trans y3
    generalize upd (upd K2 r4 (.lst ((S.ch.drop at').map V.bl))) r5 (.lst ((S.ch.take at').map V.bl ++ [ov, .non] ++ (S.ch.drop at').map V.bl)) = K3 at y3 r5d y13 ⊢
    refine ⟨_, rfl, sz2, fun t1 nt1 => ⟨sz1, fun sl nsl => ?_⟩⟩
    have y4 := (Sm.new (o := .tup [.ref r5, .int (at' : Nat)]) nt1).trans (Sm.new (o := .lst [.ref t1]) nsl)
    have et1 : upd (upd K3 t1 (.tup [.ref r5, .int (at' : Nat)])) sl (.lst [.ref t1]) t1 = some (.tup [.ref r5, .int (at' : Nat)]) := (Sm.new nsl) _ _ upd_same
    have esl : upd (upd K3 t1 (.tup [.ref r5, .int (at' : Nat)])) sl (.lst [.ref t1]) sl = some (.lst [.ref t1]) := upd_same
    have wdE : wd (.list ((S.ch.take at').map PyData.bool ++ [e, .none] ++ (S.ch.drop at').map PyData.bool)) = true := by
      simp only [WR.wd, Bool.and_eq_true, decide_eq_true_eq]
      refine ⟨by simp; omega, wdA_of fun d hd => ?_⟩
      rcases List.mem_append.mp hd with z | z
      · rcases List.mem_append.mp z with z | z
        · obtain ⟨b, _, rfl⟩ := List.mem_map.mp z
          rfl
        · simp only [List.mem_cons, List.not_mem_nil, or_false] at z
          rcases z with rfl | rfl
          · exact hoe.2
          · rfl
      · obtain ⟨b, _, rfl⟩ := List.mem_map.mp z
        rfl
    have chE : chFault R (.list ((S.ch.take at').map PyData.bool ++ [e, .none] ++ (S.ch.drop at').map PyData.bool)) = some at' := by
      have := chFault_odd (R := R) hoe.1 (e := .list ((S.ch.take at').map PyData.bool ++ [e, .none] ++ (S.ch.drop at').map PyData.bool)) rfl (a := S.ch.take at') (rest := .none :: (S.ch.drop at').map PyData.bool) (by simp [its])
      rwa [ltk] at this
    have ent1 : EntC R at' (upd (upd K3 t1 (.tup [.ref r5, .int (at' : Nat)])) sl (.lst [.ref t1])) (.ref t1) := ⟨t1, _, _, rfl, et1, r5d.sm y4, wdE, chE⟩
    have y14 := y13.trans y4
    have nslG : HG sl = none := (y13.trans (Sm.new (o := .tup [.ref r5, .int (at' : Nat)]) nt1)).free nsl
    have K3sl : K3 sl = none := (Sm.new (o := .tup [.ref r5, .int (at' : Nat)]) nt1).free nsl
    have nt1s : t1 ≠ sl := ne_of_none (o := .tup [.ref r5, .int (at' : Nat)]) upd_same nsl
    generalize upd (upd K3 t1 (.tup [.ref r5, .int (at' : Nat)])) sl (.lst [.ref t1]) = K4 at y4 et1 esl ent1 y14 ⊢
    -- some.extend(..)
    refine ⟨fun σ6 H6 => ∃ ts : List V, σ6 = [some (.ref wa), some (.ref va), some u, some (.ref p), some (.ref D1'), some (.ref q1), some (.ref cl), some (.ref tl), some (.ref mp), some (.int (at' : Nat)), some ov, some (.ref sl), x12, x13, none] ∧ Sm HG H6 ∧ H6 sl = some (.lst ts) ∧ ∀ z ∈ ts, EntC R at' H6 z, ?_, ?_⟩
    · have eclK := y14 _ _ eclG
      have r5l : Dr (fun a => a ≠ sl) K3 (.ref r5) (.list ((S.ch.take at').map PyData.bool ++ [e, .none] ++ (S.ch.drop at').map PyData.bool)) := r5d.live.wide fun a h z => h.2 (by rw [z]; exact K3sl)
      have entK : ∀ K', (∀ b o, b ≠ sl → K4 b = some o → K' b = some o) → EntC R at' K' (.ref t1) := fun K' kp => ⟨t1, _, _, rfl, kp t1 _ nt1s et1, r5l.mono (fun _ _ => trivial) ⟨fun a o na z => kp a o na (y4 _ _ z), fun b ws z => kp b _ (fun y => by rw [y, K3sl] at z; cases z) (y4 _ _ z)⟩, wdE, chE⟩
      have dcl : Dr All K4 (.ref cl) (.list (S.ch.map PyData.bool)) := .lst trivial eclK (bls_dr _)
      refine ⟨_, rfl, .inl ⟨rfl, _, SqL.of esl⟩, _, rfl, _, rfl, .ref cl, _, rfl, dcl, rfl, _, _, rfl, rfl, _, rfl, ite2 (fun hlt => ?_) (fun _ => ?_)⟩
      · have hlt' : at' < S.ch.length := by
          have := of_decide_eq_true hlt
          rw [show (its (PyData.list (S.ch.map PyData.bool))).length = S.ch.length by simp [its]] at this
          omega
        refine ⟨_, rfl, _, rfl, _, rfl, cl, _, rfl, SqL.of eclK, fun r6 nr6 => ?_⟩
        rw [cutB_to]
        have z1 := Sm.new (o := .lst ((S.ch.take at').map V.bl)) nr6
        have er6 : upd K4 r6 (.lst ((S.ch.take at').map V.bl)) r6 = some (.lst ((S.ch.take at').map V.bl)) := upd_same
        have nr6s : r6 ≠ sl := fun y => by rw [y, esl] at nr6; cases nr6
        generalize upd K4 r6 (.lst ((S.ch.take at').map V.bl)) = K5 at z1 er6 ⊢
        refine ⟨_, rfl, sz2, fun t2 nt2 => ⟨sz1, fun el nel => ?_⟩⟩
        have nt2s : t2 ≠ sl := fun y => by rw [y, z1 _ _ esl] at nt2; cases nt2
        have z2 := (Sm.new (o := .tup [.ref r6, .int (at' : Nat)]) nt2).trans (Sm.new (o := .lst [.ref t2]) nel)
        have et2 : upd (upd K5 t2 (.tup [.ref r6, .int (at' : Nat)])) el (.lst [.ref t2]) t2 = some (.tup [.ref r6, .int (at' : Nat)]) := (Sm.new nel) _ _ upd_same
        have eel : upd (upd K5 t2 (.tup [.ref r6, .int (at' : Nat)])) el (.lst [.ref t2]) el = some (.lst [.ref t2]) := upd_same
        generalize upd (upd K5 t2 (.tup [.ref r6, .int (at' : Nat)])) el (.lst [.ref t2]) = K6 at z2 et2 eel ⊢
        have z12 := z1.trans z2
        refine ⟨sl, el, [.ref t1], [.ref t2], rfl, rfl, z12 _ _ esl, eel, (by show 2 ≤ sizeLine; decide), ?_⟩
        have kp : ∀ b o, b ≠ sl → K6 b = some o → upd K6 sl (.lst ([V.ref t1] ++ [.ref t2])) b = some o := fun b o hb z => by
          rw [upd_ne hb]
          exact z
        refine ⟨[.ref t1] ++ [.ref t2], rfl, fun b o z => kp b o (ne_of_none z nslG) (z12 _ _ (y14 _ _ z)), upd_same, fun z hz => ?_⟩
        rcases List.mem_append.mp hz with hz | hz
        · rw [List.mem_singleton.mp hz]
          exact entK _ fun b o hb y => kp b o hb (z12 _ _ y)
        · rw [List.mem_singleton.mp hz]
          refine ⟨t2, _, .list ((S.ch.take at').map PyData.bool), rfl, kp t2 _ nt2s et2, .lst trivial (kp r6 _ nr6s (z2 _ _ er6)) (bls_dr _), (bools_wd (by omega)).1, chFault_short hS hlt' rfl rfl⟩
      · refine ⟨Nat.zero_le _, fun el nel => ?_⟩
        have z1 := Sm.new (o := .lst []) nel
        refine ⟨sl, el, [.ref t1], [], rfl, rfl, z1 _ _ esl, upd_same, (by show 1 ≤ sizeLine; decide), ?_⟩
        have kp : ∀ b o, b ≠ sl → upd K4 el (.lst []) b = some o → upd (upd K4 el (.lst [])) sl (.lst ([V.ref t1] ++ [])) b = some o := fun b o hb z => by
          rw [upd_ne hb]
          exact z
        refine ⟨[.ref t1] ++ [], rfl, fun b o z => kp b o (ne_of_none z nslG) (z1 _ _ (y14 _ _ z)), upd_same, fun z hz => ?_⟩
        rw [List.append_nil] at hz
        rw [List.mem_singleton.mp hz]
        exact entK _ fun b o hb y => kp b o hb (z1 _ _ y)
    rintro σ6 H6' ⟨ts, rfl, sG6, esl6, ents⟩
    refine ⟨_, rfl, sl, ts, rfl, .inl esl6, fun J2 hJ2 => ?_⟩
    refine for_seq hJ2 (fun j σ4 H' => ∃ x12 x13, σ4 = [some (.ref wa), some (.ref va), some u, some (.ref p), some (.ref D1'), some (.ref q1), some (.ref cl), some (.ref tl), some (.ref mp), some (.int (at' : Nat)), some ov, some (.ref sl), x12, x13, none] ∧ ExtN H6' H' ∧ Tabs T H') ?_ ?_ ?_ ?_
    · exact ⟨_, _, rfl, ExtN.refl _, tnG.ext sG6⟩
    · rintro j σ4 H' _ ⟨_, _, _, xx, _⟩
      rw [xx _ _ esl6 (fun _ z => nomatch z), esl6]
    · rintro j z σ4 H' hz ⟨x12', x13', rfl, xx, tn'⟩
      obtain ⟨t, ov', d, rfl, et, rov', wdd, chd⟩ := (ents z (List.mem_of_getElem? hz)).x xx
      refine ⟨t, _, rfl, SqT.of et, rfl, _, _, rfl, _, _, rfl, rfl, ?_⟩
      have ruX := drX xx (ruG.sm sG6).all
      refine ⟨tn', fun H5' xb tb => ⟨_, rfl, _, rfl, u, ov', ew, d, rfl, drX xb ruX, wde, drX xb rov', wdd, (fun R1 ml H'' sc1 hn _ _ _ => by obtain ⟨rfl, _⟩ := sc.det sc1; rw [chd] at hn; cases hn), (fun R1 k dx H7 sc1 hk s7 nd hx => .inr ⟨rfl, dx, _, _, rfl, hx, rfl, fun p3 np3 => ?_⟩), fun R' m x dx H'' z _ _ _ => (bad z).elim⟩⟩
      obtain ⟨rfl, _⟩ := sc.det sc1
      rw [chd] at hk
      cases hk
      have z1 := Sm.new (o := .tup [.str "choices", .int (at' : Nat)]) np3
      have ep3 : upd H7 p3 (.tup [.str "choices", .int (at' : Nat)]) p3 = some (.tup [.str "choices", .int (at' : Nat)]) := upd_same
      generalize upd H7 p3 (.tup [.str "choices", .int (at' : Nat)]) = K5 at z1 ep3 ⊢
      refine ⟨_, rfl, sz2, fun p4 np4 => ?_⟩
      have z2 := Sm.new (o := .tup [.str "choices", .int (at' : Nat)]) np4
      have fc : fit (.tuple [.str "choices", .int (at' : Nat)]) 6 = true := by
        have f1 : fit (.str "choices") 5 = true := by decide +kernel
        have f2 : fit (.int (at' : Nat)) 5 = true := nat_fit (by omega)
        simp only [fit, fitA, Bool.and_eq_true, decide_eq_true_eq, List.length_cons, List.length_nil] at f1 f2 ⊢
        exact ⟨⟨by omega, by omega⟩, f1, f2, trivial⟩
      refine ⟨_, _, .tuple [.str "choices", .int (at' : Nat)], rfl, .tup (z2 _ _ ep3) (.cons (.str _) (.one (.int _))), .tup upd_same (.cons (.str _) (.one (.int _))), fc, fun H8 s8 => ⟨_, rfl, iteF ?_⟩⟩
      have sz := ((s7.trans z1).trans z2).trans s8
      exact ⟨_, _, rfl, xx.trans (xb.trans (ExtN.of sz)), tb.ext sz⟩
    · rintro σ4 H' ⟨x12', x13', rfl, xx, tn'⟩
      refine ⟨_, _, _, _, _, _, _, _, _, rfl, (g3G.trans (GwN.of (Gw.of sG6))).trans (GwN.ext xx), ?_, tn'⟩
      obtain ⟨a', b', c', e', h'⟩ := hwG'.sm sG6
      exact ⟨a', b', c', xx _ _ e' (fun _ z => nomatch z), by omega⟩
  · rintro σ' H' ⟨x5, x6, x7, x8, x9, x10, x11, x12, x13, rfl, g, hw', tn⟩
    refine fin H' ((GwN.of g013).trans g) (hw'.mono (by omega)) tn
end
end K8

/-! The law. -/
namespace K8
open PySem PySem.Spec PyProof.Rows L2 WR LamX
theorem sqlN {K : PySem.W.Frag} {a : Addr} {xs : List V} {H H' : Hp} (s : ExtN H H') (h : SqL K H a xs) : SqL K H' a xs := h.elim (fun r => .inl (r.elim (fun e => .inl (s _ _ e fun _ z => nomatch z)) fun ⟨o, e⟩ => .inr ⟨o, s _ _ e fun _ z => nomatch z⟩)) .inr
abbrev spLaw (K : PySem.W.Frag) (T : TabL) : Sp := fun vs H Q _ => ∃ (a : Addr) (xs : List Int), vs = [.ref a] ∧ SqL K H a (xs.map V.int) ∧ xs.length ≤ 63 ∧ Tabs T H ∧ ∀ H', Q (.bl true) H'
theorem rows_nodict (R : List Row) : (rowsD R).hasDict = false := by
  have a : ∀ ks : List Nat, PyData.hasDictAll (nums ks) = false := by
    intro ks
    induction ks with
    | nil => rfl
    | cons k ks ih =>
      show (PyData.hasDict (.int (k : Nat)) || PyData.hasDictAll (nums ks)) = false
      rw [ih]
      rfl
  have b : ∀ r : Row, r.d.hasDict = false := by
    intro r
    cases r with
    | made n ks =>
      show ((PyData.hasDict (.str "made")) || ((PyData.hasDict (.str n)) || ((PyData.hasDictAll (nums ks)) || false))) = false
      rw [a]
      rfl
    | asked n ks =>
      show ((PyData.hasDict (.str "asked")) || ((PyData.hasDict (.str n)) || ((PyData.hasDictAll (nums ks)) || false))) = false
      rw [a]
      rfl
    | either c i j => rfl
    | given k => rfl
  show PyData.hasDictAll (R.map Row.d) = false
  induction R with
  | nil => rfl
  | cons r R ih =>
    show (r.d.hasDict || PyData.hasDictAll (R.map Row.d)) = false
    rw [b, ih]
    rfl
section
variable {P : Program} {w : World} {K : PySem.W.Frag} {mg : Str → Option Value} {base : Heap}
theorem sc_law : FnScope ["script", "turn", "stream", "many", "rows", "web", "was"] ["script"] (defScope slaw) := ⟨rfl, rfl, rfl, by decide +kernel, rfl, by decide +kernel, by decide +kernel⟩
theorem ok_law (B : Bt mg) {T : TabL} (SM : ∃ o, base.get? sysModules = some o)
    (D1 : Df P w K mg base CX0 1 "_law_stream" ["script", "turn"] (spWell K)) (D2 : Df P w K mg base CX0 4 "_law_a_web" ["stream", "many", "tests"] spAWeb) (D3 : Df P w K mg base CX0 6 "_law_loose" ["stream", "thing"] (spLooseA 4))
    (D4 : DfG P w K mg base CX0 10 "_law_judged_right" ["stream", "rows", "web"] spJudR) (D5 : DfG P w K mg base CX0 11 "_law_free_right" ["stream", "rows", "web"] (spFreeR T)) (D6 : DfG P w K mg base CX0 11 "_law_refused_right" ["rows"] (spRefR T))
    {f : Addr} {dV kV doc pm cdv ct oc : Value} {an od : Option Addr} {osl : Array (Option Value)}
    (lk : K.lookup f = some ⟨oc, od, .func (PySem.W.fnOf dlaw.name dlaw.qual dlaw.params dlaw.body dlaw.scope dV kV doc pm an cdv ct), osl⟩) (hcd : PySem.W.codeIn K cdv dlaw.qual = true) :
    FnG P w K mg base CX0 12 f (PySem.W.fnOf dlaw.name dlaw.qual dlaw.params dlaw.body dlaw.scope dV kV doc pm an cdv ct) ["script"] (spLaw K T) := by
  refine fnG_of (N := ["script", "turn", "stream", "many", "rows", "web", "was"]) lk hcd sc_law (fun vs H Q E h => by obtain ⟨a, xs, rfl, _⟩ := h; rfl) (fun A outer s H vs Q E hr free h => ?_)
  obtain ⟨a, xs, rfl, hS, hlen, hT, q⟩ := h
  have hr1 := hr.mono (show 1 ≤ 11 by decide)
  have hr4 := hr.mono (show 4 ≤ 11 by decide)
  have hr6 := hr.mono (show 6 ≤ 11 by decide)
  have hr10 := hr.mono (show 10 ≤ 11 by decide)
  refine ⟨_, PSs.nox (pss_cons (ps_for PassesOwn.never rfl (pi_range1 rfl B.range (pa_cons pe_int pa_nil)) (pg_name (i := 1) sc_law.nd rfl (by first | exact Or.inl rfl | exact Or.inr rfl)) (pss_cons (ps_set (i := 2) sc_law.nd rfl (by first | exact Or.inl rfl | exact Or.inr rfl) (pe_df D1 hr1 pass0 (pa_cons (pv 0) (pa_cons (pv 1) pa_nil))))
      (pss_one (ps_for PassesOwn.never rfl (pi_seq (pe_tup (pa_cons pe_int (pa_cons pe_int (pa_cons pe_int (pa_cons pe_int pa_nil)))))) (pg_name (i := 3) sc_law.nd rfl (by first | exact Or.inl rfl | exact Or.inr rfl)) (pss_cons (ps_set (i := 4) sc_law.nd rfl (by first | exact Or.inl rfl | exact Or.inr rfl) (pe_df D2 hr4 pass0 (pa_cons (pv 2) (pa_cons (pv 3) (pa_cons pe_int pa_nil)))))
      (pss_cons (ps_set (i := 5) sc_law.nd rfl (by first | exact Or.inl rfl | exact Or.inr rfl) (pe_df D3 hr6 pass0 (pa_cons (pv 2) (pa_cons (pv 4) pa_nil))))
      (pss_cons (ps_set (i := 6) sc_law.nd rfl (by first | exact Or.inl rfl | exact Or.inr rfl) (pe_callB (call_reprD hr free SM) (by rfl) B.repr (by decide +kernel) (pa_cons (pv 5) pa_nil)))
      (pss_cons (ps_if (PW.pt (pw_or (pt_not (pt_val (pe_dfG D4 hr10 free pass0 (pa_cons (pv 2) (pa_cons (pv 4) (pa_cons (pv 5) pa_nil)))))) (pw_or1 (pt_not (pt_val (pe_dfG D5 hr free pass0 (pa_cons (pv 2) (pa_cons (pv 4) (pa_cons (pv 5) pa_nil))))))))) (pss_one (ps_ret pe_bl)) pss_nil)
      (pss_one (ps_if (PW.pt (pw_or (pt_not (pt_val (pe_dfG D6 hr free pass0 (pa_cons (pv 4) pa_nil)))) (pw_or1 (pt_cmpR op_ne (pe_callB (call_reprD hr free SM) (by rfl) B.repr (by decide +kernel) (pa_cons (pv 5) pa_nil)) (pv 6) (nomark _))))) (pss_one (ps_ret pe_bl)) pss_nil))))))))))
      (pss_one (ps_ret pe_bl))), ?_⟩
  have htop : top0 = 1000000000000 := rfl
  have hlim : lim = 4000 := rfl
  have hsl := lim_lt
  have sz2 : 2 ≤ sizeLine := by decide
  have c41 : (41 : Nat) ^ 3 = 68921 := by decide
  refine ⟨_, rfl, by decide, by decide, ?_⟩
  rw [show (3 : Int).toNat = 3 from rfl]
  refine for_range (n := 3) (fun i σ' H2 => ExtN H H2 ∧ Tabs T H2 ∧ ∃ x1 x2 x3 x4 x5 x6, σ' = [some (.ref a), x1, x2, x3, x4, x5, x6]) ?_ ?_ ?_
  · exact ⟨ExtN.refl H, hT, _, _, _, _, _, _, rfl⟩
  · rintro place σ2 H2 hplace ⟨e2, T2, x1, x2, x3, x4, x5, x6, rfl⟩
    refine ⟨_, rfl, _, rfl, a, xs, place, by simp, sqlN e2 hS, by omega, by omega, fun wa H3 s3 nwa hw3 => ?_⟩
    have naw : ∀ b o, H2 b = some o → b ≠ wa := fun b o e => ne_of_none e nwa
    have T3 := T2.ext s3
    refine ⟨(by show 4 ≤ sizeLine; decide), fun tp ntp => ?_⟩
    have s4 := Sm.new (o := .tup [.int 0, .int 5, .int 9, .int 14]) ntp
    have etp : upd H3 tp (.tup [.int 0, .int 5, .int 9, .int 14]) tp = some (.tup [.int 0, .int 5, .int 9, .int 14]) := upd_same
    have hw4 := hw3.sm s4
    have T4 := T3.ext s4
    have ntw := hw3.ne ntp
    have s24 := s3.trans s4
    generalize upd H3 tp (.tup [.int 0, .int 5, .int 9, .int 14]) = H4 at etp hw4 T4 s24 ⊢
    clear s4 ntp hw3 s3
    refine ⟨tp, _, rfl, .inr etp, fun J hJ => ?_⟩
    refine for_seq hJ (fun k σ' H5 => ∃ (y3 y4 y5 y6 : Option V), σ' = [some (.ref a), some (.int (0 + (place : Nat))), some (.ref wa), y3, y4, y5, y6] ∧ GwN wa H4 H5 ∧ Wl H5 wa (80000 * k) ∧ Tabs T H5) ?_ ?_ ?_ ?_
    · exact ⟨_, _, _, _, rfl, fun b o _ e _ => e, by simpa using hw4, T4⟩
    · rintro i σ3 H5 _ ⟨_, _, _, _, _, g5, _⟩
      rw [g5 _ _ ntw etp (fun _ z => nomatch z), etp]
    · rintro k x σ5 H5 hx ⟨y3, y4, y5, y6, rfl, g5, hw5, T5⟩
      have hk4 : k < 4 := (List.getElem?_eq_some_iff.mp hx).1
      obtain ⟨m, rfl, hm⟩ : ∃ m : Nat, x = .int (m : Nat) ∧ m ≤ 14 := by
        have := List.mem_of_getElem? hx
        simp only [List.mem_cons, List.not_mem_nil, or_false] at this
        rcases this with rfl | rfl | rfl | rfl
        · exact ⟨0, rfl, by decide⟩
        · exact ⟨5, rfl, by decide⟩
        · exact ⟨9, rfl, by decide⟩
        · exact ⟨14, rfl, by decide⟩
      -- rows
      refine ⟨_, rfl, _, rfl, wa, 80000 * k, m, rfl, by omega, hw5, by omega, fun l ys R H6 nl WR' smR hR hA g6 hw6 el ry => ?_⟩
      have T6 := tabs_gw T5 hw5 g6
      have lwa : l ≠ wa := hw5.ne nl
      have rd6 : Dr (Ne wa) H6 (.ref l) (rowsD R) := .lst lwa el (ry.wide fun _ z => z.elim)
      have tR := web_tame WR' smR (by omega)
      -- web
      refine ⟨_, rfl, _, rfl, wa, _, Ne wa, .ref l, rowsD R, rfl, fun _ z => z, hw6, by rw [c41]; omega, rd6, tR, rows_nodict R, fun u e H7 g7 hw7 ru0 lo => ?_⟩
      have T7 := tabs_gw T6 hw6 g7
      have ru7 : Dr (Ne wa) H7 u e := ru0.wide fun b z => hw6.ne z
      have rd7 := rd6.gn (fun _ z => z) hw6 g7
      have te : tame true e 3 = true := tame_lo lo tR
      rw [c41] at hw7
      -- was
      refine ⟨_, rfl, u, e, rfl, ru7.all, rpr_tame te (by decide), ?_⟩
      -- the two
      refine ⟨_, rfl, _, rfl, _, rfl, wa, l, _, u, R, e, rfl, hw7, by omega, rd7, ru7, lo, WR', smR, by omega, hA, fun H8 g8 hw8 => ?_⟩
      refine ⟨_, rfl, iteF ?_⟩
      have T8 := tabs_gw T7 hw7 g8
      have rd8 := rd7.gn (fun _ z => z) hw7 g8
      have ru8 := ru7.gn (fun _ z => z) hw7 g8
      refine ⟨_, rfl, _, rfl, _, rfl, wa, l, _, u, R, e, rfl, hw8, by omega, rd8, ru8, lo, WR', smR, by omega, hA, T8, fun H9 g9 hw9 T9 => ?_⟩
      refine ⟨_, rfl, iteF ?_⟩
      have rd9 := drN (fun _ z => z) hw8.lst g9 rd8
      have ru9 := drN (fun _ z => z) hw8.lst g9 ru8
      -- refused
      refine ⟨_, rfl, .ref l, R, rfl, rd9.all, WR', smR, by omega, T9, fun Ha xa Ta => ⟨_, rfl, iteF ?_⟩⟩
      have rua := drX xa ru9
      refine ⟨_, rfl, u, e, rfl, rua.all, rpr_tame te (by decide), _, rfl, rfl, _, rfl, ?_⟩
      rw [show (!decide (V.str e.shown = V.str e.shown)) = false by simp]
      have hwa : Wl Ha wa (80000 * k + 71000) := by
        obtain ⟨b1, b2, b3, e', h'⟩ := hw9.mono (show _ ≤ 80000 * k + 71000 by omega)
        exact ⟨b1, b2, b3, xa _ _ e' (fun _ z => nomatch z), h'⟩
      exact ⟨_, _, _, _, rfl, ((g5.trans (GwN.of (g6.trans (g7.trans g8)))).trans g9).trans (GwN.ext xa), hwa.mono (by omega), Ta⟩
    · rintro σ5 H5 ⟨y3, y4, y5, y6, rfl, g5, hw5, T5⟩
      exact ⟨e2.trans fun b o e ne => g5 b o (naw b o e) (s24 b o e) ne, T5, _, _, _, _, _, _, rfl⟩
  · rintro σ2 H2 ⟨_, _, x1, x2, x3, x4, x5, x6, rfl⟩
    exact q H2
end
end K8

/-! The head: what is looked at behind the top. -/
namespace K8
open PySem PySem.Spec PyProof.Rows L2 WR LamX
def fn : List He.DefD := [dBadWeb_I, dBadChoices_I, dRowTable_I, dRowTable_put_in, dnamed_rows, dis_list, dis_number, dare_numbers, dis_place, dis_letter, dis_figure, dbegins_name, dis_name, dfirst_wrong, drow_form, drow_why, dscanned_web, djudged_web, dis_part, dis_meaning, dmeaning_fault, drows_fault, dworth_why, dside_of, dkey_of, dFreeWalk_I, dFreeWalk_walk, dFreeWalk_worth, dFreeWalk_new_number, dFreeWalk_next_choice, dfree_walk, dfree_meaning, dfree_walks, dnext_choices, dchoice_lists, d_law_stream, d_law_draw, d_law_pick, d_law_mixed, d_law_same, d_law_loose, d_law_spoiled, d_law_is_apart, d_law_a_row, d_law_a_pushed, d_law_a_web, d_law_a_like, d_law_a_side, d_law_a_fault, d_law_a_told, d_law_a_all, d_law_a_drawn, d_law_bent, d_law_judged_right, d_law_free_right, d_law_met, d_law_refused_right, dlaw]
def fa : List He.Fa := [.glo "named_rows", .glo "is_list", .glo "is_number", .glo "are_numbers", .glo "is_place", .glo "is_letter", .glo "is_figure", .glo "begins_name", .glo "is_name", .glo "first_wrong", .glo "row_form", .glo "row_why", .glo "scanned_web", .glo "judged_web", .glo "is_part", .glo "is_meaning", .glo "meaning_fault", .glo "rows_fault", .glo "worth_why", .glo "side_of", .glo "key_of", .glo "free_walk", .glo "free_meaning", .glo "free_walks", .glo "next_choices", .glo "choice_lists", .glo "_law_stream", .glo "_law_draw", .glo "_law_pick", .glo "_law_mixed", .glo "_law_same", .glo "_law_loose", .glo "_law_spoiled", .glo "_law_is_apart", .glo "_law_a_row", .glo "_law_a_pushed", .glo "_law_a_web", .glo "_law_a_like", .glo "_law_a_side", .glo "_law_a_fault", .glo "_law_a_told", .glo "_law_a_all", .glo "_law_a_drawn", .glo "_law_bent", .glo "_law_judged_right", .glo "_law_free_right", .glo "_law_met", .glo "_law_refused_right", .glo "law", .glo "PageError", .glo "BadWeb", .glo "BadChoices", .glo "RowTable", .glo "FreeWalk", .free "isinstance", .free "list", .free "tuple", .free "int", .free "bool", .free "str", .free "dict", .free "len", .free "all", .free "any", .free "range", .free "enumerate", .free "zip", .free "abs", .free "sum", .free "repr", .free "sorted", .int "LONGEST_NAME" 8, .cls "RowTable", .mkr "RowTable", .meth "RowTable" "put_in", .noat "RowTable" "rows", .noat "RowTable" "where", .cls "FreeWalk", .mkr "FreeWalk", .meth "FreeWalk" "walk", .meth "FreeWalk" "worth", .meth "FreeWalk" "new_number", .meth "FreeWalk" "next_choice", .noat "FreeWalk" "given", .noat "FreeWalk" "meaning", .noat "FreeWalk" "chosen", .noat "FreeWalk" "many", .noat "FreeWalk" "known", .exm "BadWeb" "BadWeb" true, .exm "BadChoices" "BadWeb" false, .exm "BadChoices" "BadChoices" true]
def names1 : List PySem.Str := ["PageError", "BadWeb", "BadChoices", "RowTable", "named_rows", "LONGEST_NAME", "is_list", "is_number", "are_numbers", "is_place", "is_letter", "is_figure", "begins_name", "is_name", "first_wrong", "row_form", "row_why", "scanned_web", "judged_web", "is_part", "is_meaning", "meaning_fault"]
def names2 : List PySem.Str := ["rows_fault", "worth_why", "side_of", "key_of", "FreeWalk", "free_walk", "free_meaning", "free_walks", "next_choices", "choice_lists", "_law_stream", "_law_draw", "_law_pick", "_law_mixed", "_law_same", "_law_loose", "_law_spoiled", "_law_is_apart", "_law_a_row", "_law_a_pushed", "_law_a_web", "_law_a_like"]
def names3 : List PySem.Str := ["_law_a_side", "_law_a_fault", "_law_a_told", "_law_a_all", "_law_a_drawn", "_law_bent", "_law_judged_right", "_law_free_right", "_law_met", "_law_refused_right"]
def names : List PySem.Str := names1 ++ names2 ++ names3
/-- an error's class, beneath ValueError by classes of its own -/
def oexB (K : PySem.W.Frag) (C : Addr) : Bool :=
  match K.lookup C with
  | some ob =>
    (match ob with
    | ⟨.type cn, _, .cls dt, so⟩ =>
      decide (cn = "type") &&
      (match dt.mro, so.toList with
      | .ref C0 :: rest, [_, _, _, _, some (.builtin nw), _] => decide (C0 = C) && (decide (nw = "ValueError.__new__") && (!dt.hasDel && (dt.hasDict && PySem.HandSPX.refsVE rest)))
      | _, _ => false)
    | _ => false)
  | none => false
theorem oexB_ok {K : PySem.W.Frag} {C : Addr} (h : oexB K C = true) : ∃ nm q N bs bm sn sub ab col dd k0 k1 k2 k3 k5, K.lookup C = some (excClassObj nm q C N bs bm true sn sub ab col dd k0 k1 k2 k3 k5 "ValueError.__new__") ∧ PySem.HandSPX.refsVE bm = true := by
  unfold oexB at h
  cases e : K.lookup C with
  | none => rw [e] at h; cases h
  | some ob =>
    rw [e] at h
    obtain ⟨oc, od, dt, so⟩ := ob
    cases oc with
    | type cn =>
      cases dt with
      | cls d0 =>
        obtain ⟨h1, h2⟩ := Bool.and_eq_true_iff.mp (show (decide (cn = "type") && _) = true from h)
        have ec := of_decide_eq_true h1
        subst ec
        obtain ⟨z1, z2, z3, z4, z5, z6, z7, z8, z9, za, zb⟩ := d0
        obtain ⟨lo⟩ := so
        dsimp only at h2
        split at h2
        · rename_i C0 rest k0 k1 k2 k3 nw k5
          simp only [Bool.and_eq_true, decide_eq_true_eq, Bool.not_eq_true'] at h2
          obtain ⟨rfl, rfl, h3, h4, h5⟩ := h2
          subst h3 h4
          exact ⟨z1, z5, z4, z2, rest, z7, z8, z9, za, od, k0, k1, k2, k3, k5, rfl, h5⟩
        · cases h2
      | _ => cases h
    | _ => cases h
def eqV (a b : Option (Option Value)) : Bool := decide (a = b)
/-- what an error of the program's own shows -/
def errB (K : PySem.W.Frag) (x f : Str) : Bool :=
  oexB K (He.ga K x) && (eqV (PySem.W.findIn K (.ref (He.ga K x)) "__setattr__") (some (some (.builtin "object.__setattr__"))) && (decide (PySem.W.subIn K (.ref (He.ga K x)) (.type "BaseException") = some true) && (decide (PySem.W.typeIn K (.ref (He.ga K x)) = some (.type "type")) &&
  (PySem.W.keepIn K (.ref (He.ga K x)) && (eqV (PySem.W.findIn K (.ref (He.ga K x)) "__init__") (some (some (.ref (He.ma K (He.ga K x) "__init__")))) && (decide (PySem.W.typeIn K (.ref (He.ma K (He.ga K x) "__init__")) = some (.type "function")) &&
  (eqV (PySem.W.findIn K (.ref (He.ga K x)) f) (some none) && xfB K (He.ga K x))))))))
def initB : Option PySem.W.CFound → Bool
  | some (.val v) => decide (v = .builtin "ValueError.__init__")
  | _ => false
theorem initB_ok {o : Option PySem.W.CFound} (h : initB o = true) : o = some (.val (.builtin "ValueError.__init__")) := by
  unfold initB at h
  split at h
  · rw [of_decide_eq_true h]
  · cases h
def pgeB (K : PySem.W.Frag) : Bool :=
  decide (PySem.W.specialIn K (.ref (He.ga K "PageError")) "__getattribute__" = some (some (.builtin "type.__getattribute__"))) && (decide (PySem.W.typeIn K (.ref (He.ga K "PageError")) = some (.type "type")) && (PySem.W.readsIn K (He.ga K "PageError") (.type "type") &&
  initB (PySem.W.findCls K (.ref (He.ga K "PageError")) (.type "type") "__init__")))
/-- a function's code object, its table -/
def codeA (K : PySem.W.Frag) (x : Str) : Addr :=
  match K.lookup (He.ga K x) with
  | some ⟨_, _, .func fd, _⟩ => (match fd.code with
    | .ref c => c
    | _ => 0)
  | _ => 0
def tabA (K : PySem.W.Frag) (c : Addr) : Addr :=
  match K.lookup c with
  | some ⟨_, _, .fields vs, _⟩ => (match (vs[11]? : Option Value) with
    | some (.ref p) => p
    | _ => 0)
  | _ => 0
def isCode (K : PySem.W.Frag) (x : Str) : Bool :=
  match K.lookup (He.ga K x) with
  | some ⟨_, _, .func fd, _⟩ => (match fd.code with
    | .ref c => decide (c = codeA K x)
    | _ => false)
  | _ => false
def codB (K : PySem.W.Frag) (x : Str) : Bool := isCode K x && (PySem.W.codeHdIn K (codeA K x) (tabA K (codeA K x)) && (K.lookup (tabA K (codeA K x))).isNone)
def emptyTab (o : Option Obj) : Bool :=
  match o with
  | some ⟨.none, none, .fields vs, so⟩ => decide (vs.toList = []) && decide (so.toList = [])
  | _ => false
theorem emptyTab_ok {o : Option Obj} (h : emptyTab o = true) : o = some { cls := .none, data := .fields #[] } := by
  unfold emptyTab at h
  split at h
  · rename_i vs so
    obtain ⟨h1, h2⟩ := Bool.and_eq_true_iff.mp h
    have e1 := of_decide_eq_true h1
    have e2 := of_decide_eq_true h2
    obtain ⟨l1⟩ := vs
    obtain ⟨l2⟩ := so
    simp only at e1 e2
    subst e1 e2
    rfl
  · cases h
def J1 : Str := "_law_free_right"
def J2 : Str := "_law_refused_right"
def ownB (K : PySem.W.Frag) : Bool :=
  errB K "BadWeb" "index" && (errB K "BadChoices" "index" && (pgeB K && (codB K J1 && (codB K J2 && (decide (tabA K (codeA K J1) ≠ tabA K (codeA K J2)) && (K.lookup sysModules).isSome)))))
/-- all that is held, the two tables aside -/
def frK (g : Addr → Option Obj) : PySem.W.Frag :=
  let K := He.frG g (He.asD g 5)
  let p := tabA K (codeA K J1)
  let q := tabA K (codeA K J2)
  He.frG g (sysModules :: cStatics :: (He.asD g 5).filter fun a => !decide (a = p) && !decide (a = q))
abbrev AlK : Type := Bool × He.AlD
def obsK (g : Addr → Option Obj) : AlK :=
  let K := frK g
  (ownB K && (emptyTab (g (tabA K (codeA K J1))) && emptyTab (g (tabA K (codeA K J2)))), He.obsD fa fn K)
structure SaysK (K : PySem.W.Frag) (h : Heap) : Prop where
  kin : K.In h
  own : ownB K = true
  t1 : h.get? (tabA K (codeA K J1)) = some { cls := .none, data := .fields #[] }
  t2 : h.get? (tabA K (codeA K J2)) = some { cls := .none, data := .fields #[] }
  says : He.SaysD fa fn K
def hk : PySem.W.Hook where
  α := AlK
  obs := fun s => obsK s.heap.get?
  val := fun _ => (true, He.valD fn)
  says := fun _ h => ∃ K : PySem.W.Frag, SaysK K h
  of := fun _ s e => by
    have h1 : (ownB (frK s.heap.get?) && (emptyTab (s.heap.get? (tabA (frK s.heap.get?) (codeA (frK s.heap.get?) J1))) && emptyTab (s.heap.get? (tabA (frK s.heap.get?) (codeA (frK s.heap.get?) J2))))) = true := congrArg (fun z : AlK => z.1) e
    have h2 : He.obsD fa fn (frK s.heap.get?) = He.valD fn := congrArg (fun z : AlK => z.2) e
    obtain ⟨a1, a2⟩ := Bool.and_eq_true_iff.mp h1
    obtain ⟨a3, a4⟩ := Bool.and_eq_true_iff.mp a2
    exact ⟨frK s.heap.get?, He.frG_in, a1, emptyTab_ok a3, emptyTab_ok a4, h2⟩
  keeps := fun _ _ _ ⟨K, c⟩ k => ⟨K, PySem.W.Frag.In.keeps c.kin k, c.own, k _ _ c.t1, k _ _ c.t2, c.says⟩
abbrev RR : PySem.W.OpenRow := PySem.W.OpenLaw.row PySem.Challenge.rw_pagestrue_k11_whole_meanings_and_choices
def obK (s : PySem.W.SharedT) : AlK := obsK (HandSHeadRun.getT s)
theorem obK_eq (s : PySem.W.SharedT) : obK s = hk.obs s.abs := by
  have e : HandSHeadRun.getT s = s.abs.heap.get? := funext (HandSHeadRun.getT_eq s)
  unfold obK
  rw [e]
  rfl
end K8

namespace K8
open PySem PySem.Spec PyProof.Rows L2 WR LamX
theorem run (w : World) : HandSHeadRun.RunEq RR (PySem.W.view RR.prog [60]) hk obK 6000 names w := by
  intro os
  kernel_rfl
end K8

/-! From what the head shows to the law's promise. -/
namespace K8
open PySem PySem.Spec PyProof.Rows L2 WR LamX
def qJ1 : Str := ("_law_free_right" : Str) ++ ".<locals>." ++ "<lambda>"
def qJ2 : Str := ("_law_refused_right" : Str) ++ ".<locals>." ++ "<lambda>"
def tabs (K : PySem.W.Frag) : TabL := [(tabA K (codeA K J1), qJ1), (tabA K (codeA K J2), qJ2)]
section
variable {P : Program} {w : World} {K : PySem.W.Frag} {h base : Heap} {mg : Str → Option Value}
theorem erc_ok {x f : Str} (G : mg x = some (.ref (He.ga K x))) (e : errB K x f = true) : ErC K mg x f (He.ga K x) (He.ma K (He.ga K x) "__init__") ∧ XfC K (He.ga K x) := by
  simp only [errB, eqV, Bool.and_eq_true, decide_eq_true_eq] at e
  obtain ⟨a1, a2, a3, a4, a5, a6, a7, a8, a9⟩ := e
  exact ⟨⟨⟨oexB_ok a1, a2, a3, a4, a5⟩, a6, a7, G, a8⟩, xfB_ok a9⟩
/-- a function's own code object -/
theorem cod_ok {x : Str} {o : Obj} {fd : FuncData} (e : codB K x = true) (lk : K.lookup (He.ga K x) = some o) (ho : o.data = .func fd) :
    fd.code = .ref (codeA K x) ∧ PySem.W.codeHdIn K (codeA K x) (tabA K (codeA K x)) = true ∧ K.lookup (tabA K (codeA K x)) = none := by
  simp only [codB, Bool.and_eq_true, Option.isNone_iff_eq_none] at e
  obtain ⟨e1, e2, e3⟩ := e
  refine ⟨?_, e2, e3⟩
  unfold isCode at e1
  rw [lk] at e1
  obtain ⟨oc, od, dt, so⟩ := o
  have hd : dt = .func fd := ho
  subst hd
  dsimp only at e1
  split at e1
  · rename_i c hc
    rw [hc, of_decide_eq_true e1]
  · cases e1
theorem law_ok (c : SaysK K h) (G : h.Ns mainGlobals mg) {f : Addr} (hfa : mg ("law" : Str) = some (.ref f)) :
    ∃ fd : FuncData, (∀ (s : Shared) (v : Value), BindsTo s fd ⟨[v], []⟩ [("script", v)]) ∧ ∀ base : Heap, K.In base → base.Ns mainGlobals mg → TabB base mg (codeA K J1) (tabA K (codeA K J1)) → TabB base mg (codeA K J2) (tabA K (codeA K J2)) →
      FnG P w K mg base CX0 12 f fd ["script"] (spLaw K (tabs K)) := by
  have X := c.kin
  have s := c.says
  have gl : ∀ (i : Nat) (x : Str), fa[i]? = some (.glo x) → mg x = some (.ref (He.ga K x)) := fun i x e => He.glo_ok X G (s.fact i e)
  have fr : ∀ (i : Nat) (x : Str), fa[i]? = some (.free x) → mg x = none := fun i x e => He.free_ok X G (s.fact i e)
  have ow := c.own
  simp only [ownB, Bool.and_eq_true, decide_eq_true_eq] at ow
  obtain ⟨o1, o2, o3, o4, o5, o6, o7⟩ := ow
  have dfn : ∀ (i j : Nat) (d : He.DefD), fn[i]? = some d → d.at_ = (d.name, none) → d.dvs K = [] → d.kws K = [] → fa[j]? = some (.glo d.name) → Fn K mg d := fun i j d e1 e2 e3 e4 e5 => by
    obtain ⟨fd, F⟩ := s.def_ i e1
    rw [e3, e4, e2] at F
    exact ⟨_, fd, gl j _ e5, F⟩
  have B : Bt mg := ⟨fr 54 _ rfl, fr 55 _ rfl, fr 56 _ rfl, fr 57 _ rfl, fr 58 _ rfl, fr 59 _ rfl, fr 60 _ rfl, fr 61 _ rfl, fr 62 _ rfl, fr 63 _ rfl, fr 64 _ rfl, fr 65 _ rfl, fr 66 _ rfl, fr 67 _ rfl, fr 68 _ rfl, fr 69 _ rfl⟩
  have BS : mg "sorted" = none := fr 70 _ rfl
  have F_named_rows : Fn K mg dnamed_rows := dfn 4 0 dnamed_rows rfl rfl rfl rfl rfl
  have F_is_list : Fn K mg dis_list := dfn 5 1 dis_list rfl rfl rfl rfl rfl
  have F_is_number : Fn K mg dis_number := dfn 6 2 dis_number rfl rfl rfl rfl rfl
  have F_are_numbers : Fn K mg dare_numbers := dfn 7 3 dare_numbers rfl rfl rfl rfl rfl
  have F_is_place : Fn K mg dis_place := dfn 8 4 dis_place rfl rfl rfl rfl rfl
  have F_is_letter : Fn K mg dis_letter := dfn 9 5 dis_letter rfl rfl rfl rfl rfl
  have F_is_figure : Fn K mg dis_figure := dfn 10 6 dis_figure rfl rfl rfl rfl rfl
  have F_begins_name : Fn K mg dbegins_name := dfn 11 7 dbegins_name rfl rfl rfl rfl rfl
  have F_is_name : Fn K mg dis_name := dfn 12 8 dis_name rfl rfl rfl rfl rfl
  have F_first_wrong : Fn K mg dfirst_wrong := dfn 13 9 dfirst_wrong rfl rfl rfl rfl rfl
  have F_row_form : Fn K mg drow_form := dfn 14 10 drow_form rfl rfl rfl rfl rfl
  have F_row_why : Fn K mg drow_why := dfn 15 11 drow_why rfl rfl rfl rfl rfl
  have F_scanned_web : Fn K mg dscanned_web := dfn 16 12 dscanned_web rfl rfl rfl rfl rfl
  have F_judged_web : Fn K mg djudged_web := dfn 17 13 djudged_web rfl rfl rfl rfl rfl
  have F_is_part : Fn K mg dis_part := dfn 18 14 dis_part rfl rfl rfl rfl rfl
  have F_is_meaning : Fn K mg dis_meaning := dfn 19 15 dis_meaning rfl rfl rfl rfl rfl
  have F_meaning_fault : Fn K mg dmeaning_fault := dfn 20 16 dmeaning_fault rfl rfl rfl rfl rfl
  have F_rows_fault : Fn K mg drows_fault := dfn 21 17 drows_fault rfl rfl rfl rfl rfl
  have F_worth_why : Fn K mg dworth_why := dfn 22 18 dworth_why rfl rfl rfl rfl rfl
  have F_side_of : Fn K mg dside_of := dfn 23 19 dside_of rfl rfl rfl rfl rfl
  have F_key_of : Fn K mg dkey_of := dfn 24 20 dkey_of rfl rfl rfl rfl rfl
  have F_free_walk : Fn K mg dfree_walk := dfn 30 21 dfree_walk rfl rfl rfl rfl rfl
  have F_free_meaning : Fn K mg dfree_meaning := dfn 31 22 dfree_meaning rfl rfl rfl rfl rfl
  have F_free_walks : Fn K mg dfree_walks := dfn 32 23 dfree_walks rfl rfl rfl rfl rfl
  have F_next_choices : Fn K mg dnext_choices := dfn 33 24 dnext_choices rfl rfl rfl rfl rfl
  have F_choice_lists : Fn K mg dchoice_lists := dfn 34 25 dchoice_lists rfl rfl rfl rfl rfl
  have F__law_stream : Fn K mg d_law_stream := dfn 35 26 d_law_stream rfl rfl rfl rfl rfl
  have F__law_draw : Fn K mg d_law_draw := dfn 36 27 d_law_draw rfl rfl rfl rfl rfl
  have F__law_pick : Fn K mg d_law_pick := dfn 37 28 d_law_pick rfl rfl rfl rfl rfl
  have F__law_mixed : Fn K mg d_law_mixed := dfn 38 29 d_law_mixed rfl rfl rfl rfl rfl
  have F__law_same : Fn K mg d_law_same := dfn 39 30 d_law_same rfl rfl rfl rfl rfl
  have F__law_loose : Fn K mg d_law_loose := dfn 40 31 d_law_loose rfl rfl rfl rfl rfl
  have F__law_spoiled : Fn K mg d_law_spoiled := dfn 41 32 d_law_spoiled rfl rfl rfl rfl rfl
  have F__law_is_apart : Fn K mg d_law_is_apart := dfn 42 33 d_law_is_apart rfl rfl rfl rfl rfl
  have F__law_a_row : Fn K mg d_law_a_row := dfn 43 34 d_law_a_row rfl rfl rfl rfl rfl
  have F__law_a_pushed : Fn K mg d_law_a_pushed := dfn 44 35 d_law_a_pushed rfl rfl rfl rfl rfl
  have F__law_a_web : Fn K mg d_law_a_web := dfn 45 36 d_law_a_web rfl rfl rfl rfl rfl
  have F__law_a_like : Fn K mg d_law_a_like := dfn 46 37 d_law_a_like rfl rfl rfl rfl rfl
  have F__law_a_side : Fn K mg d_law_a_side := dfn 47 38 d_law_a_side rfl rfl rfl rfl rfl
  have F__law_a_fault : Fn K mg d_law_a_fault := dfn 48 39 d_law_a_fault rfl rfl rfl rfl rfl
  have F__law_a_told : Fn K mg d_law_a_told := dfn 49 40 d_law_a_told rfl rfl rfl rfl rfl
  have F__law_a_all : Fn K mg d_law_a_all := dfn 50 41 d_law_a_all rfl rfl rfl rfl rfl
  have F__law_a_drawn : Fn K mg d_law_a_drawn := dfn 51 42 d_law_a_drawn rfl rfl rfl rfl rfl
  have F__law_bent : Fn K mg d_law_bent := dfn 52 43 d_law_bent rfl rfl rfl rfl rfl
  have F__law_judged_right : Fn K mg d_law_judged_right := dfn 53 44 d_law_judged_right rfl rfl rfl rfl rfl
  have F__law_free_right : Fn K mg d_law_free_right := dfn 54 45 d_law_free_right rfl rfl rfl rfl rfl
  have F__law_met : Fn K mg d_law_met := dfn 55 46 d_law_met rfl rfl rfl rfl rfl
  have F__law_refused_right : Fn K mg d_law_refused_right := dfn 56 47 d_law_refused_right rfl rfl rfl rfl rfl
  have F_law : Fn K mg dlaw := dfn 57 48 dlaw rfl rfl rfl rfl rfl
  have gB := gl 49 "PageError" rfl
  have gC := gl 52 "RowTable" rfl
  have gF := gl 53 "FreeWalk" rfl
  simp only [pgeB, Bool.and_eq_true, decide_eq_true_eq] at o3
  have PG : PgE K mg (He.ga K "PageError") := ⟨gB, o3.1, o3.2.1, o3.2.2.1, initB_ok o3.2.2.2⟩
  obtain ⟨EBadWeb, XBadWeb⟩ := erc_ok (gl 50 "BadWeb" rfl) o1
  obtain ⟨fdBadWeb, FFBadWeb⟩ := s.def_ 0 (d := dBadWeb_I) rfl
  have FIBadWeb : FunD K dBadWeb_I.name dBadWeb_I.qual dBadWeb_I.params dBadWeb_I.body dBadWeb_I.scope [] [] (He.ma K (He.ga K "BadWeb") "__init__") fdBadWeb := FFBadWeb
  have bBadWeb : L2.Binds K fdBadWeb ["self", "index"] [] := FIBadWeb.bindsN fun _ _ _ _ _ _ us hl => match us, hl with | [_, _], _ => rfl
  obtain ⟨EBadChoices, XBadChoices⟩ := erc_ok (gl 51 "BadChoices" rfl) o2
  obtain ⟨fdBadChoices, FFBadChoices⟩ := s.def_ 1 (d := dBadChoices_I) rfl
  have FIBadChoices : FunD K dBadChoices_I.name dBadChoices_I.qual dBadChoices_I.params dBadChoices_I.body dBadChoices_I.scope [] [] (He.ma K (He.ga K "BadChoices") "__init__") fdBadChoices := FFBadChoices
  have bBadChoices : L2.Binds K fdBadChoices ["self", "index"] [] := FIBadChoices.bindsN fun _ _ _ _ _ _ us hl => match us, hl with | [_, _], _ => rfl
  obtain ⟨fdTI, FFTI⟩ := s.def_ 2 (d := dRowTable_I) rfl
  have FTI : FunD K dRowTable_I.name dRowTable_I.qual dRowTable_I.params dRowTable_I.body dRowTable_I.scope [] [] (He.ma K (He.ga K "RowTable") "__init__") fdTI := FFTI
  have bTI : L2.Binds K fdTI ["self", "rows"] [] := FTI.bindsN fun _ _ _ _ _ _ us hl => match us, hl with | [_, _], _ => rfl
  obtain ⟨fdTP, FFTP⟩ := s.def_ 3 (d := dRowTable_put_in) rfl
  have FTP : FunD K dRowTable_put_in.name dRowTable_put_in.qual dRowTable_put_in.params dRowTable_put_in.body dRowTable_put_in.scope [] [] (He.ma K (He.ga K "RowTable") "put_in") fdTP := FFTP
  have bTP : L2.Binds K fdTP ["self", "row"] [] := FTP.bindsN fun _ _ _ _ _ _ us hl => match us, hl with | [_, _], _ => rfl
  obtain ⟨fdWI, FFWI⟩ := s.def_ 25 (d := dFreeWalk_I) rfl
  have FWI : FunD K dFreeWalk_I.name dFreeWalk_I.qual dFreeWalk_I.params dFreeWalk_I.body dFreeWalk_I.scope [] [] (He.ma K (He.ga K "FreeWalk") "__init__") fdWI := FFWI
  have bWI : L2.Binds K fdWI ["self", "choices"] [] := FWI.bindsN fun _ _ _ _ _ _ us hl => match us, hl with | [_, _], _ => rfl
  obtain ⟨fdWK, FFWK⟩ := s.def_ 26 (d := dFreeWalk_walk) rfl
  have FWK : FunD K dFreeWalk_walk.name dFreeWalk_walk.qual dFreeWalk_walk.params dFreeWalk_walk.body dFreeWalk_walk.scope [] [] (He.ma K (He.ga K "FreeWalk") "walk") fdWK := FFWK
  have bWK : L2.Binds K fdWK ["self", "rows"] [] := FWK.bindsN fun _ _ _ _ _ _ us hl => match us, hl with | [_, _], _ => rfl
  obtain ⟨fdWW, FFWW⟩ := s.def_ 27 (d := dFreeWalk_worth) rfl
  have FWW : FunD K dFreeWalk_worth.name dFreeWalk_worth.qual dFreeWalk_worth.params dFreeWalk_worth.body dFreeWalk_worth.scope [] [] (He.ma K (He.ga K "FreeWalk") "worth") fdWW := FFWW
  have bWW : L2.Binds K fdWW ["self", "row"] [] := FWW.bindsN fun _ _ _ _ _ _ us hl => match us, hl with | [_, _], _ => rfl
  obtain ⟨fdWN, FFWN⟩ := s.def_ 28 (d := dFreeWalk_new_number) rfl
  have FWN : FunD K dFreeWalk_new_number.name dFreeWalk_new_number.qual dFreeWalk_new_number.params dFreeWalk_new_number.body dFreeWalk_new_number.scope [] [] (He.ma K (He.ga K "FreeWalk") "new_number") fdWN := FFWN
  have bWN : L2.Binds K fdWN ["self"] [] := FWN.bindsN fun _ _ _ _ _ _ us hl => match us, hl with | [_], _ => rfl
  obtain ⟨fdWC, FFWC⟩ := s.def_ 29 (d := dFreeWalk_next_choice) rfl
  have FWC : FunD K dFreeWalk_next_choice.name dFreeWalk_next_choice.qual dFreeWalk_next_choice.params dFreeWalk_next_choice.body dFreeWalk_next_choice.scope [] [] (He.ma K (He.ga K "FreeWalk") "next_choice") fdWC := FFWC
  have bWC : L2.Binds K fdWC ["self"] [] := FWC.bindsN fun _ _ _ _ _ _ us hl => match us, hl with | [_], _ => rfl
  have mk := He.mkr_ok (s.fact 73 (f := .mkr "RowTable") rfl)
  have mp := He.meth_ok (s.fact 74 (f := .meth "RowTable" "put_in") rfl)
  have cl := He.cls_ok (s.fact 72 (f := .cls "RowTable") rfl)
  have nR := He.noat_ok (s.fact 75 (f := .noat "RowTable" "rows") rfl)
  have nW := He.noat_ok (s.fact 76 (f := .noat "RowTable" "where") rfl)
  have M8 : Mk8 mg := He.int_ok X G (s.fact 71 (f := .int "LONGEST_NAME" 8) rfl)
  have clF := He.cls_ok (s.fact 77 (f := .cls "FreeWalk") rfl)
  have mkF := He.mkr_ok (s.fact 78 (f := .mkr "FreeWalk") rfl)
  have mK := He.meth_ok (s.fact 79 (f := .meth "FreeWalk" "walk") rfl)
  have mW := He.meth_ok (s.fact 80 (f := .meth "FreeWalk" "worth") rfl)
  have mN := He.meth_ok (s.fact 81 (f := .meth "FreeWalk" "new_number") rfl)
  have mC := He.meth_ok (s.fact 82 (f := .meth "FreeWalk" "next_choice") rfl)
  have ng := He.noat_ok (s.fact 83 (f := .noat "FreeWalk" "given") rfl)
  have nm := He.noat_ok (s.fact 84 (f := .noat "FreeWalk" "meaning") rfl)
  have nc := He.noat_ok (s.fact 85 (f := .noat "FreeWalk" "chosen") rfl)
  have nn := He.noat_ok (s.fact 86 (f := .noat "FreeWalk" "many") rfl)
  have nk := He.noat_ok (s.fact 87 (f := .noat "FreeWalk" "known") rfl)
  have E2 : Ex2 K mg (He.ga K "BadWeb") (He.ga K "BadChoices") := ⟨XBadWeb, XBadChoices, EBadWeb.nf, EBadChoices.nf, He.exm_ok (s.fact 88 (f := .exm "BadWeb" "BadWeb" true) rfl), He.exm_ok (s.fact 89 (f := .exm "BadChoices" "BadWeb" false) rfl), He.exm_ok (s.fact 90 (f := .exm "BadChoices" "BadChoices" true) rfl), EBadWeb.gC, EBadChoices.gC⟩
  obtain ⟨fJ, fdJ, mJ, FJ⟩ := F__law_free_right
  obtain ⟨fU, fdU, mU, FU⟩ := F__law_refused_right
  obtain ⟨fL, fdL, mL, FL⟩ := F_law
  obtain rfl : fL = f := by
    have e := mL.symm.trans hfa
    cases e
    rfl
  obtain ⟨ocJ, odJ, dVJ, kVJ, docJ, pmJ, anJ, cdJ, ctJ, oslJ, rfl, lkJ, hcJ, _, _⟩ := FJ.ex
  obtain ⟨ocU, odU, dVU, kVU, docU, pmU, anU, cdU, ctU, oslU, rfl, lkU, hcU, _, _⟩ := FU.ex
  obtain ⟨ocL, odL, dVL, kVL, docL, pmL, anL, cdL, ctL, oslL, rfl, lkL, hcL, _, _⟩ := FL.ex
  have eJ : fJ = He.ga K J1 := by
    have e := mJ.symm.trans (gl 45 "_law_free_right" rfl)
    cases e
    rfl
  have eU : fU = He.ga K J2 := by
    have e := mU.symm.trans (gl 47 "_law_refused_right" rfl)
    cases e
    rfl
  obtain ⟨cJ, _, _⟩ := cod_ok o4 (by rw [← eJ]; exact lkJ) rfl
  obtain ⟨cU, _, _⟩ := cod_ok o5 (by rw [← eU]; exact lkU) rfl
  have cJ' : cdJ = .ref (codeA K J1) := cJ
  have cU' : cdU = .ref (codeA K J2) := cU
  subst cJ' cU'
  have bJ : L2.Binds K _ ["stream", "rows", "web"] [] := FJ.bindsN fun _ _ _ _ _ _ us hl => match us, hl with | [_, _, _], _ => rfl
  have bU : L2.Binds K _ ["rows"] [] := FU.bindsN fun _ _ _ _ _ _ us hl => match us, hl with | [_], _ => rfl
  have bL := FunD.bindsA (ps := ["script"]) FL fun _ _ _ _ _ _ us hl => match us, hl with | [_], _ => rfl
  refine ⟨_, fun s v => bL s [v] rfl, fun base kb gb T1 T2 => ?_⟩
  have SM : ∃ o, base.get? sysModules = some o := by
    obtain ⟨o, e⟩ := Option.isSome_iff_exists.mp o7
    exact ⟨o, kb _ _ e⟩
  have T : RT P w K mg base (He.ga K "RowTable") := ⟨cl, nR, nW, gC⟩
  have TW : FW K mg (He.ga K "FreeWalk") := ⟨clF, ng, nm, nc, nn, nk, gF⟩
  have h_is_list := ok_is_list (P := P) (w := w) (base := base) B F_is_list
  have h_is_number := ok_is_number (P := P) (w := w) (base := base) B F_is_number
  have h_are_numbers := ok_are_numbers B F_are_numbers h_is_list h_is_number
  have h_is_place := ok_is_place F_is_place h_is_number
  have h_is_letter := ok_is_letter (P := P) (w := w) (base := base) F_is_letter
  have h_is_figure := ok_is_figure (P := P) (w := w) (base := base) F_is_figure
  have h_begins_name := ok_begins_name B M8 F_begins_name h_is_letter h_is_figure
  have h_is_name := ok_is_name B F_is_name h_begins_name
  have h_row_form := ok_row_form B F_row_form h_is_list h_is_name h_are_numbers
  have h_named_rows := ok_named_rows (P := P) (w := w) (base := base) F_named_rows
  have h_is_part := ok_is_part B F_is_part h_is_place
  have h_row_why := ok_row_why B F_row_why h_named_rows h_is_part
  have GI := ok_RowTable_I B T FTI
  have GP := ok_RowTable_put_in B T FTP
  have h_scanned := ok_scanned_web B T mk mp GI bTI GP bTP F_scanned_web h_is_list h_row_form h_row_why
  have GW := ok_BadWeb_I (P := P) (w := w) (base := base) PG EBadWeb FIBadWeb
  have GH := ok_BadChoices_I (P := P) (w := w) (base := base) PG EBadChoices FIBadChoices
  have h_judged := ok_judged_web EBadWeb GW bBadWeb F_judged_web h_scanned
  have h_first_wrong := ok_first_wrong (P := P) (w := w) (base := base) B F_first_wrong
  have h_side_of := ok_side_of (P := P) (w := w) (base := base) F_side_of
  have h_key_of := ok_key_of (P := P) (w := w) (base := base) B F_key_of
  have h_worth_why := ok_worth_why B F_worth_why h_is_number h_side_of h_key_of
  have h_rows_fault := ok_rows_fault B F_rows_fault h_is_list h_worth_why
  have h_mfault := okF_meaning_fault T F_meaning_fault h_judged h_rows_fault
  have h_ismean := okF_is_meaning T F_is_meaning h_judged h_rows_fault
  have GN := ok_FreeWalk_new_number (P := P) (w := w) (base := base) TW FWN
  have GC := ok_FreeWalk_next_choice (P := P) (w := w) (base := base) B TW FWC
  have GWW := ok_FreeWalk_worth TW mN GN bWN mC GC bWC h_key_of FWW
  have GK := ok_FreeWalk_walk TW mN GN bWN mW GWW bWW h_side_of FWK
  have GF := ok_FreeWalk_I (P := P) (w := w) (base := base) TW FWI
  have h_free_walk := ok_free_walk TW mkF GF bWI mK GK bWK F_free_walk
  have h_next := ok_next_choices (P := P) (w := w) (base := base) B F_next_choices
  have h_walks := ok_free_walks TW F_free_walks h_free_walk h_next
  have h_chl := okF_choice_lists T TW F_choice_lists h_judged h_walks
  have h_free := okF_free_meaning B T TW EBadChoices GH bBadChoices F_free_meaning h_judged h_free_walk h_is_list h_first_wrong
  have h_draw := ok__law_draw (P := P) (w := w) (base := base) B F__law_draw
  have h_stream := ok__law_stream (P := P) (w := w) (base := base) B F__law_stream
  have h_pick := ok__law_pick B F__law_pick h_draw
  have h_mixed := ok__law_mixed B F__law_mixed h_draw
  have h_same := fun k => ok__law_same (P := P) (w := w) (base := base) B F__law_same k
  have h_spoiled := fun k => ok__law_spoiledD (P := P) (w := w) (base := base) B F__law_spoiled k
  have h_apart := fun k => ok__law_is_apart (P := P) (w := w) (base := base) B F__law_is_apart k
  have h_loose := fun k => ok__law_loose B F__law_loose h_draw k
  have h_a_side := ok__law_a_side (P := P) (w := w) (base := base) F__law_a_side
  have h_a_like := ok__law_a_like (P := P) (w := w) (base := base) B F__law_a_like
  have h_a_fault := ok__law_a_fault B F__law_a_fault h_a_side h_a_like
  have h_a_told := ok__law_a_told B F__law_a_told h_a_side h_a_like
  have h_a_all := ok__law_a_all B BS F__law_a_all h_a_told h_a_like
  have h_a_row := ok__law_a_row B F__law_a_row h_draw h_pick h_mixed
  have h_a_pushed := ok__law_a_pushed B F__law_a_pushed h_pick h_mixed
  have h_a_web := ok__law_a_web B F__law_a_web h_draw h_a_row h_a_pushed
  have h_a_drawn := ok__law_a_drawn B F__law_a_drawn h_draw h_a_side h_a_like
  have h_bent := ok__law_bent B F__law_bent h_draw h_pick
  have gD := ok__law_judged_right B SM F__law_judged_right h_a_all h_a_drawn h_bent h_a_fault (h_same 5) h_mfault h_ismean
  have ne := o6
  have gJ := ok__law_free_right (T := tabs K) B E2 F__law_met h_draw h_pick h_mixed h_a_all (h_same 7) (h_spoiled 7) (h_apart 4) h_chl h_free T1 (by simp [tabs, qJ1]) (fun p hp e => by
    simp only [tabs, List.mem_cons, List.not_mem_nil, or_false] at hp
    rcases hp with rfl | rfl
    · rfl
    · exact absurd e.symm ne) lkJ hcJ
  have gU := ok__law_refused_right (T := tabs K) B E2 F__law_met (h_same 7) h_mfault h_ismean h_chl h_free T2 (by simp [tabs, qJ2]) (fun p hp e => by
    simp only [tabs, List.mem_cons, List.not_mem_nil, or_false] at hp
    rcases hp with rfl | rfl
    · exact absurd e ne
    · rfl) lkU hcU
  exact ok_law B SM h_stream h_a_web (h_loose 4) gD ⟨fJ, _, mJ, FJ.kp, bJ, gJ⟩ ⟨fU, _, mU, FU.kp, bU, gU⟩ lkL hcL
end
end K8

/-! The law called: two tables of code, no repr under way. -/
namespace K8
open PySem PySem.Spec PyProof.Rows L2 WR LamX
def tabO : Obj := { cls := .none, data := .fields #[] }
section
variable {P : Program} {w : World} {K : PySem.W.Frag} {mg mb : Str → Option Value} {k : Nat} {fa a c1 p1 c2 p2 : Addr} {fd : FuncData} {x : Str} {sp : Sp} {s : Shared} {vs : List Value} {ns : List Int}
/-- what is tracked: the two tables, the script where it may be hidden -/
def trkd (K : PySem.W.Frag) (p1 p2 a : Addr) (vs : List Value) (ns : List Int) : Hp := fun b =>
  if b = p1 ∨ b = p2 then some (.tbl #[]) else if b = a ∧ K.lookup a = none then some (.frz { cls := .type "list", data := .seq vs.toArray } (.lst (ns.map V.int))) else none
theorem callG (kin : K.In s.heap) (gl : s.heap.Ns mainGlobals mg) (bl : s.heap.Ns builtinsNs mb)
    (bb : ∀ y : Str, y ≠ "__name__" → mb y = bootBuiltins y) (nl : s.heap.NoLimit) (gs : s.gens = #[])
    (e1 : s.heap.get? p1 = some tabO) (e2 : s.heap.get? p2 = some tabO) (n1 : K.lookup p1 = none) (n2 : K.lookup p2 = none)
    (h1 : PySem.W.CodeHd s.heap c1 p1) (h2 : PySem.W.CodeHd s.heap c2 p2)
    (bm : ∃ (m : Addr) (om : Obj), mg "__builtins__" = some (.ref m) ∧ m ≠ builtinsNs ∧ s.heap.get? m = some om ∧ om.cls = .type "module" ∧ om.dict = some builtinsNs ∧ om.data = .plain)
    (ea : s.heap.get? a = some { cls := .type "list", data := .seq vs.toArray }) (iv : IntsAre vs ns) (ll : ns.length ≤ sizeLine) (room : Room k callerA)
    (F : ∀ base : Heap, K.In base → base.Ns mainGlobals mg → TabB base mg c1 p1 → TabB base mg c2 p2 → FnG P w K mg base CX0 k fa fd [x] sp)
    (bd : ∀ (s : Shared) (u : Value), BindsTo s fd ⟨[u], []⟩ [(x, u)])
    (hsp : ∀ H : Hp, H p1 = some (.tbl #[]) → H p2 = some (.tbl #[]) → SqL K H a (ns.map V.int) → sp [.ref a] H (fun v _ => v = .bl true) fun _ _ _ => False) :
    codeAny (model P w) callerA (.call (.ref fa) ⟨[.ref a], []⟩) (fun r s' => r = .ok (.ret (.bool true)) ∧ OldK s.heap s'.heap ∧ s'.os = s.os ∧ AllBare s'.gens) s := by
  have rel := vals_ints iv
  have lv := iv.length
  have tb : ∀ b, b = p1 ∨ b = p2 → s.heap.get? b = some tabO := fun b hb => hb.elim (fun z => by rw [z]; exact e1) fun z => by rw [z]; exact e2
  have tk : ∀ b, b = p1 ∨ b = p2 → K.lookup b = none := fun b hb => hb.elim (fun z => by rw [z]; exact n1) fun z => by rw [z]; exact n2
  have na : ¬ (a = p1 ∨ a = p2) := fun z => by
    have := tb a z
    rw [ea] at this
    cases this
  generalize hH : trkd K p1 p2 a vs ns = H
  have at1 : ∀ b, b = p1 ∨ b = p2 → H b = some (.tbl #[]) := fun b hb => by rw [← hH]; exact if_pos hb
  have at2 : K.lookup a = none → H a = some (.frz { cls := .type "list", data := .seq vs.toArray } (.lst (ns.map V.int))) := fun z => by
    rw [← hH]
    unfold trkd
    rw [if_neg na, if_pos ⟨rfl, z⟩]
  have cases3 : ∀ b, (b = p1 ∨ b = p2) ∨ (b = a ∧ K.lookup a = none) ∨ H b = none := fun b => by
    by_cases z : b = p1 ∨ b = p2
    · exact .inl z
    · by_cases y : b = a ∧ K.lookup a = none
      · exact .inr (.inl y)
      · refine .inr (.inr ?_)
        rw [← hH]
        unfold trkd
        rw [if_neg z, if_neg y]
  have ok : HOk P w H s.heap := fun b u hu => by
    rcases cases3 b with z | ⟨rfl, z⟩ | z
    · rw [at1 b z] at hu
      cases hu
      exact tb b z
    · rw [at2 z] at hu
      cases hu
      exact ⟨ea, by rw [List.length_map]; exact ll, vs, _, rel, ea⟩
    · rw [z] at hu
      cases hu
  have sq : SqL K H a (ns.map V.int) := by
    cases z : K.lookup a with
    | none => exact .inl (.inr ⟨_, at2 z⟩)
    | some o =>
      have y := kin a o z
      rw [ea] at y
      cases y
      exact .inr ⟨_, vs.toArray, _, z, rfl, rfl, rfl, by rw [List.size_toArray, lv]; exact ll, by simpa using rel⟩
  -- of what is neither list nor table nothing is hidden
  have plain : ∀ {b : Addr} {o : Obj}, s.heap.get? b = some o → (∀ ws n, o.data ≠ .seq ws n) → o.data ≠ .fields #[] → H b = none := fun {b o} e y1 y2 => by
    rcases cases3 b with z | ⟨rfl, _⟩ | z
    · rw [tb b z] at e
      cases e
      exact (y2 rfl).elim
    · rw [ea] at e
      cases e
      exact (y1 _ _ rfl).elim
    · exact z
  have dictF : ∀ {b : Addr} {o : Obj} {es : Array DictEntry} {ep : Nat}, s.heap.get? b = some o → o.data = .dict es ep → H b = none := fun e d => plain e (fun _ _ z => by rw [d] at z; cases z) fun z => by rw [d] at z; cases z
  have nsF : ∀ {b : Addr} {m : Str → Option Value}, s.heap.Ns b m → (hidT s.heap H).Ns b m := fun ⟨o, es, ep, e, d, r⟩ => ⟨o, es, ep, hidT_get e (dictF e d), d, r⟩
  have kB : K.In (hidT s.heap H) := fun b o e => hidT_get (kin b o e) (by
    rcases cases3 b with z | ⟨rfl, z⟩ | z
    · rw [tk b z] at e
      cases e
    · rw [z] at e
      cases e
    · exact z)
  have md : L2.Mod K mg (hidT s.heap H) := ⟨kB, nsF gl, ⟨mb, nsF bl, bb⟩, nl.elim fun mc y => ⟨mc, nsF y.1, y.2⟩⟩
  have tabF : ∀ c p, (p = p1 ∨ p = p2) → PySem.W.CodeHd s.heap c p → TabB (hidT s.heap H) mg c p := fun c p hp hc => by
    refine ⟨?_, ?_, fun z => ?_⟩
    · obtain ⟨o, us, fi, tf, fl, tg, inF, tx, tt, g1, r1, r2, r3, r⟩ := hc
      refine ⟨o, us, fi, tf, fl, tg, inF, tx, tt, hidT_get g1 (plain g1 (fun _ _ z => by rw [r2] at z; cases z) fun z => ?_), r1, r2, r3, r⟩
      rw [r2] at z
      cases z
      simp at r3
    · obtain ⟨m, om, m1, m2, m3, m4, m5, m6⟩ := bm
      refine ⟨m, om, m1, m2, fun y => ?_, fun y => ?_, hidT_get m3 (plain m3 (fun _ _ z => by rw [m6] at z; cases z) fun z => by rw [m6] at z; cases z), m4, m5, m6⟩
      · obtain ⟨o, es, ep, e, d, _⟩ := gl
        rw [y, e] at m3
        cases m3
        rw [d] at m6
        cases m6
      · rw [y, tb p hp] at m3
        cases m3
        cases m6
    · obtain ⟨o, es, ep, e, d, _⟩ := gl
      rw [z, tb p hp] at e
      cases e
      cases d
  have env : Env0 P w K mg (hidT s.heap H) callerA [] s H := ⟨rfl, md, fun b o e => of_hidT e, Nat.le_of_eq (hidT_size _ _), trivial, fun b hb => absurd hb (by simp [frs]), ok, .of_eq gs⟩
  have G := F _ kB (nsF gl) (tabF c1 p1 (.inl rfl) h1) (tabF c2 p2 (.inr rfl) h2)
  refine codeAny_mono (G.run callerA [] s H ⟨[.ref a], []⟩ [.ref a] [.ref a] _ _ room rfl env (bd s (.ref a)) (.cons rfl .nil) (hsp H (at1 _ (.inl rfl)) (at1 _ (.inr rfl)) sq)) fun r s' told => ?_
  match r, told with
  | .error e, told => exact False.elim told
  | .ok .next, told => exact False.elim told
  | .ok .brk, told => exact False.elim told
  | .ok .cont, told => exact False.elim told
  | .ok (.ret u), told =>
    obtain ⟨v, H', os, bare, un, ok', rv, q⟩ := told
    have q' : v = .bl true := q
    subst q'
    obtain rfl : u = Value.bool true := rv
    have more : ∀ p, (p = p1 ∨ p = p2) → ∃ m : Array Value, s'.heap.get? p = some { cls := .none, data := .fields m } := fun p hp => by
      obtain ⟨m, z⟩ := un.tbls p #[] (at1 p hp)
      exact ⟨_, ok' p _ z⟩
    have rest : ∀ b o, ¬ (b = p1 ∨ b = p2) → s.heap.get? b = some o → s'.heap.get? b = some o := fun b o hb e => by
      rcases cases3 b with z | ⟨rfl, z⟩ | z
      · exact absurd z hb
      · have z2 := un.frzs b _ _ (at2 z)
        rw [ea] at e
        cases e
        exact (ok' b _ z2).1
      · exact un.keep b o e z (by simp [frs]) (by simp)
    have hdOf : ∀ p, (p = p1 ∨ p = p2) → ∃ c, PySem.W.CodeHd s.heap c p := fun p hp => hp.elim (fun z => ⟨c1, by rw [z]; exact h1⟩) fun z => ⟨c2, by rw [z]; exact h2⟩
    refine ⟨rfl, ⟨fun b o e => ?_, fun b o e => ?_⟩, os, bare⟩
    · by_cases hb : b = p1 ∨ b = p2
      · obtain ⟨m, hm⟩ := more b hb
        obtain ⟨c, hc⟩ := hdOf b hb
        have et := tb b hb
        rw [et] at e
        cases e
        exact .inr (.inl ⟨(hc.tab et).isCodeTable, rfl, #[], m, rfl, by rw [Array.empty_append]; exact hm⟩)
      · exact .inl (rest b o hb e)
    · by_cases hb : b = p1 ∨ b = p2
      · exact (more b hb).elim fun m hm => ⟨_, hm⟩
      · exact ⟨o, rest b o hb e⟩
end
end K8

namespace K8
open PySem PySem.Spec PyProof.Rows L2 WR LamX
abbrev LL : PySem.W.OpenLaw := PySem.Challenge.rw_pagestrue_k11_whole_meanings_and_choices
theorem tl_ok {K : PySem.W.Frag} {x : Str} (e : codB K x = true) : PySem.W.codeHdIn K (codeA K x) (tabA K (codeA K x)) = true ∧ K.lookup (tabA K (codeA K x)) = none := by
  simp only [codB, Bool.and_eq_true, Option.isNone_iff_eq_none] at e
  exact e.2
theorem walkK {q : Program} {loose : List Str} {XP : (Str → Option Value) → Heap → Prop} {d : DefRec} (hn : LL.most = some 63) (hdf : d.params.defaults = []) (hd : d.name = ("law" : Str)) :
    PySem.W.WalkO q loose XP hk.says LL.row.toRowW d [] (fun f vs => PySem.call f vs) := by
  refine Att.attach_callB hn hdf fun w s0 s1 mg mb fa o pm cd doc a vs ns G Y _ _ _ hmg hobj hints hlen _ hg => ?_
  obtain ⟨K, c⟩ := Y
  rw [hd] at hmg
  obtain ⟨fd, hb, hF⟩ := law_ok (P := LL.prog) (w := w) c G.T.g hmg
  have ow := c.own
  simp only [ownB, Bool.and_eq_true, decide_eq_true_eq] at ow
  obtain ⟨_, _, _, o4, o5, ne, _⟩ := ow
  obtain ⟨hd1, n1⟩ := tl_ok o4
  obtain ⟨hd2, n2⟩ := tl_ok o5
  have sz : (63 : Nat) ≤ sizeLine := by decide
  exact callG c.kin G.T.g G.T.b G.T.builtins G.T.nolimit hg c.t1 c.t2 n1 n2 (PySem.W.codeHd_of_K c.kin hd1) (PySem.W.codeHd_of_K c.kin hd2) G.T.bmain hobj hints (Nat.le_trans hlen sz) ⟨rfl, by decide, by decide⟩ hF hb
    fun H t1 t2 hS => ⟨a, ns, rfl, hS, hlen, fun p hp => by
      simp only [tabs, List.mem_cons, List.not_mem_nil, or_false] at hp
      rcases hp with rfl | rfl
      · exact .nil t1
      · exact .nil t2, fun _ => rfl⟩
end K8
open PySem PySem.W PySem.Calls PyProof.Rows
theorem PySem.Challenge.cw_pagestrue_k11_whole_meanings_and_choices_holds : PySem.Challenge.rw_pagestrue_k11_whole_meanings_and_choices.Holds := by
  w_on; o_law
  refine HandSHeadRun.head_any (r := K8.RR) (q := view K8.RR.prog [60]) (H := K8.hk) (ob := K8.obK) (M := 6000) (loose := K8.names) (d := HandSHeadRun.topDef K8.RR.prog 60) (kwd := []) K8.obK_eq
    (by kernel_rfl) (fun s => by kernel_rfl) K8.run (by kernel_rfl) (by kernel_rfl) (by kernel_rfl) (by rfl) (by first | assumption | decide +kernel) (by decide +kernel) ⟨rfl, rfl, rfl, rfl, rfl, by decide +kernel⟩ ?hw ?hc
  case hw => w_witness2
  case hc => exact K8.walkK rfl (by kernel_rfl) (by kernel_rfl)

