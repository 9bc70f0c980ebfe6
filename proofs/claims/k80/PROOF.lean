import PyProof.Rows.All
import Wide.All
import OpenK.AllK
import Wide.FinOn
import KE.KExcInit
import KE.KExcIs
import HandS.ForMost
import HandS.Flow
import HandS.ExcInit
import HandS.ExcValue
import HandS.ExcField
import HandS.IsInst
import HandS.Exc
import HandS.ExcOwn
import HandS.TryOnly
import HandS.WordsExc
import HandS.ForExc
import HandS.Comp
import KE.GoesRaise
import KE.GoesComp
import HandS.GenList
import HandS.Keys
import KE.KDictZip
import KE.GoesEnum
import KE.GoesMore
import PyProof.EnumMake
import KE.KStateDown
import HandS.Defaults
import HandS.Head0
import HandS.Head1
import HandS.Head2
import HandS.Head3
import HandS.HeadEnd
import HandS.HeadHook1
import HandS.HeadHook2
import HandS.HeadHook3
import HandS.HeadHook4
import HandS.Conv
import HandS.Gcd
import HandS.SortInts
import HandS.NoneIn
import KE.KMathG
import PySem.Challenge.RW_hiddensorts_k80_lots_and_spots_judged
set_option Elab.async false
set_option linter.all false
set_option maxRecDepth 100000
set_option maxHeartbeats 4000000
namespace Hs
open PySem PySem.Spec PyProof.Rows L2
/-! ## exception objects that are held as values: own classes over Exception -/
abbrev excB : List Value := [.type "Exception", .type "BaseException", .type "object"]
/-- the class at C, an exception class of the text's own -/
structure Exn (K : PySem.W.Frag) (C : Addr) : Prop where
  keep : PySem.W.keepIn K (.ref C) = true
  isCls : (PySem.W.clsIn K C).isSome = true
  base : PySem.W.subIn K (.ref C) (.type "BaseException") = some true
  dct : PySem.W.hasDictIn K C = true
  get : PySem.W.findIn K (.ref C) "__getattribute__" = some (some (.builtin "BaseException.__getattribute__"))
  noGet : PySem.W.findIn K (.ref C) "__getattr__" = some none
  clsAt : PySem.W.findIn K (.ref C) "__class__" = some (some (.builtin "object.__class__"))
  objM : PySem.W.mroIn K C (.type "object") = some true
  set : PySem.W.findIn K (.ref C) "__setattr__" = some (some (.builtin "object.__setattr__"))
  over : PySem.W.excOver K C excB = true
def eqF (a b : Option (Option Value)) : Bool := decide (a = b)
def exnB (K : PySem.W.Frag) (C : Addr) : Bool :=
  PySem.W.keepIn K (.ref C) && ((PySem.W.clsIn K C).isSome && (decide (PySem.W.subIn K (.ref C) (.type "BaseException") = some true) && (PySem.W.hasDictIn K C &&
    (eqF (PySem.W.findIn K (.ref C) "__getattribute__") (some (some (.builtin "BaseException.__getattribute__"))) && (eqF (PySem.W.findIn K (.ref C) "__getattr__") (some none) &&
      (eqF (PySem.W.findIn K (.ref C) "__class__") (some (some (.builtin "object.__class__"))) && (decide (PySem.W.mroIn K C (.type "object") = some true) &&
        (eqF (PySem.W.findIn K (.ref C) "__setattr__") (some (some (.builtin "object.__setattr__"))) && PySem.W.excOver K C excB))))))))
theorem two {a b : Bool} (h : (a && b) = true) : a = true ∧ b = true := Bool.and_eq_true_iff.mp h
theorem exnB_ok {K : PySem.W.Frag} {C : Addr} (h : exnB K C = true) : Exn K C := by
  obtain ⟨a1, h⟩ := two h
  obtain ⟨a2, h⟩ := two h
  obtain ⟨a3, h⟩ := two h
  obtain ⟨a4, h⟩ := two h
  obtain ⟨a5, h⟩ := two h
  obtain ⟨a6, h⟩ := two h
  obtain ⟨a7, h⟩ := two h
  obtain ⟨a8, h⟩ := two h
  obtain ⟨a9, h⟩ := two h
  exact ⟨a1, a2, of_decide_eq_true a3, a4, of_decide_eq_true a5, of_decide_eq_true a6, of_decide_eq_true a7, of_decide_eq_true a8, of_decide_eq_true a9, h⟩
section
open PySem.W PySem.Calls Builtin.ObjectAttr
variable {prog : Program} {w : World} {A : Around} {E : Value → Shared → Prop} {R : Result → Shared → Prop} {hp : Heap} {g : Array GenState} {d : Drawn} {t : Nat} {os : OsState} {K : Frag} {name : Str} {tk : Tok} {v : Value} {x C : Addr} {fv : Array Value}
theorem takes_none (ha : findIn K (.ref C) name = some none) : takerIn K C name = some none := by
  unfold takerIn
  rw [ha]
  rfl
/-- the first field: the object's own dict is laid -/
theorem put_first (T : Exn K C) (X : K.In hp) (hx : hp.get? x = some ⟨.ref C, none, .fields fv, #[]⟩) (ha : findIn K (.ref C) name = some none)
    (done : ∀ h2 tk2 dx, (∀ b o, b ≠ x → hp.get? b = some o → h2.get? b = some o) → hp.objs.size ≤ dx → dx ≠ x → h2.get? x = some ⟨.ref C, some dx, .fields fv, #[]⟩ →
      h2.Ns1 dx (fun y => if y = name then some v else none) → R (.ok (.ret .none)) ⟨h2, g, d, tk2, os⟩) :
    codeAny (model prog w) A (.call (.builtin "object.__setattr__") ⟨[.ref x, .str name tk, v], []⟩) R ⟨hp, g, d, t, os⟩ := by
  obtain ⟨cd, hcd, hh⟩ := any_some T.dct
  have far : x ≠ hp.objs.size := Nat.ne_of_lt (Heap.lt_size hx)
  refine osa_openX F.store_Exception X (od := none) ⟨hx, rfl, rfl, trivial⟩ T.over (takes_none ha) fun b => ?_
  have look : W.Looks (model prog w) hp (classData C) cd := W.looks_clsIn X hcd
  obtain ⟨n1, n2, n3, n4, n5, n6, n7, n8, n9, n10, n11⟩ := cd
  dsimp only at hh
  subst hh
  unfold storeInOwnDict
  unfold ownDictForStores
  repeat (first
    | with_reducible refine HandSPX.store_in_new ?_ ?_
    | with_reducible refine wpAny_loadPart_at hx ?_
    | with_reducible refine look.at ?_
    | wp_step)
  · refine ⟨_, #[], _, (Heap.get?_update_ne _ _ _ _ far.symm).trans (Heap.get?_push_at rfl rfl), rfl, ?_, ?_⟩
    · exact fun e he => absurd he (by simp)
    · exact fun _ => rfl
  · intro h2 tk2 hn2 same
    refine done h2 tk2 hp.objs.size (fun b o hb ho => ?_) (Nat.le_refl _) far.symm ?_ hn2
    · rw [same.2 b (Nat.ne_of_lt (Heap.lt_size ho)), Heap.get?_update_ne _ _ _ _ hb]
      exact Heap.get?_push_of_some _ ho
    · rw [same.2 x far]
      exact Heap.get?_update_self _ (Heap.get?_push_of_some _ hx) rfl
/-- a further field -/
theorem put_more {dx : Addr} {m0 : Str → Option Value} {nl : List Str} (T : Exn K C) (X : K.In hp) (hx : hp.get? x = some ⟨.ref C, some dx, .fields fv, #[]⟩) (hn : hp.Ns1 dx m0) (hw : Within m0 nl) (hz : nl.length ≤ 1000) (ha : findIn K (.ref C) name = some none)
    (done : ∀ h2 tk2, (∀ b o, b ≠ dx → hp.get? b = some o → h2.get? b = some o) → h2.Ns1 dx (fun y => if y = name then some v else m0 y) → R (.ok (.ret .none)) ⟨h2, g, d, tk2, os⟩) :
    codeAny (model prog w) A (.call (.builtin "object.__setattr__") ⟨[.ref x, .str name tk, v], []⟩) R ⟨hp, g, d, t, os⟩ := by
  obtain ⟨cd, hcd, hh⟩ := any_some T.dct
  obtain ⟨oD, _, _, hoD, _, _⟩ := hn.count hw
  refine osa_openX F.store_Exception X (od := some oD) ⟨hx, rfl, rfl, hoD⟩ T.over (takes_none ha) fun b => ?_
  have look : W.Looks (model prog w) hp (classData C) cd := W.looks_clsIn X hcd
  obtain ⟨n1, n2, n3, n4, n5, n6, n7, n8, n9, n10, n11⟩ := cd
  dsimp only at hh
  subst hh
  unfold storeInOwnDict
  unfold ownDictForStores
  repeat (first
    | with_reducible refine OEX.store_in_old hn hw hz ?_
    | with_reducible refine wpAny_loadPart_at hx ?_
    | with_reducible refine look.at ?_
    | wp_step)
  intro h2 tk2 hn2 same
  exact done h2 tk2 (fun b o hb ho => (same.2 b hb).trans ho) hn2
end
section
variable {X : Cx} {pins : List (Addr × Obj)} {σ : L2.St} {H : Hp} {s : Shared} {a C dx : Addr} {f : Str} {y : V} {u : Value} {fs : List (Str × V)} {Q : Unit → Shared → Prop} {E : Value → Shared → Prop} {A : Around}
/-- a.f = y, the first one: two steps on the abstract heap (a new dict; the object names it) -/
theorem put1_ok (T : Exn X.K C) (I : Inv X pins σ H s) (e : H a = some (exo a C none)) (no : PySem.W.findIn X.K (.ref C) f = some none) (ry : RelV y u)
    (h : ∀ dx s2, H dx = none → dx ≠ a → Inv X pins σ (upd (upd H dx (exd dx [(f, y)])) a (exo a C (some dx))) s2 → Q () s2) : wpAny (model X.prog X.w) A (setAttr (.ref a) f u) Q E s := by
  obtain ⟨t1, ho⟩ := exo_at I.hok e
  obtain ⟨hp, g, d, t, os⟩ := s
  refine PySem.W.set_plain I.kIn (ox := ⟨.ref C, none, .fields #[.ref t1, .none, .none, .none, .bool false, .none], #[]⟩) (od := none) ⟨ho, rfl, rfl, trivial⟩ T.set ?_
  refine put_first T I.kIn ho no fun h2 tk2 dx k big ne hx hn => ?_
  have free : H dx = none := I.hok.fresh big
  have off : ∀ {b : Addr} {o : Obj}, b ≠ a → (h2.update a fun _ => ⟨.ref C, none, .fields #[.ref t1, .none, .none, .none, .bool false, .none], #[]⟩).get? b = some o → h2.get? b = some o := fun {b o} hb q => by
    rw [Heap.get?_update_ne _ _ _ _ hb] at q
    exact q
  have on : ∀ {b : Addr} {o : Obj}, b ≠ a → h2.get? b = some o → (h2.update a fun _ => ⟨.ref C, none, .fields #[.ref t1, .none, .none, .none, .bool false, .none], #[]⟩).get? b = some o := fun {b o} hb q => by
    rw [Heap.get?_update_ne _ _ _ _ hb]
    exact q
  have J1 := I.laid (t' := tk2) (a := dx) (o := exd dx [(f, y)]) (h' := h2.update a fun _ => ⟨.ref C, none, .fields #[.ref t1, .none, .none, .none, .bool false, .none], #[]⟩) (fun b o q => by
    by_cases hb : b = a
    · subst hb
      rw [show hp.get? b = _ from ho] at q
      cases q
      exact Heap.get?_update_self _ hx rfl
    · exact on hb (k b o hb q)) big (exd_ok (hn.at fun o q => on ne q) (relO_put (fs := []) ry fun _ => True.intro))
  have ea : upd H dx (exd dx [(f, y)]) a = some (exo a C none) := by
    rw [upd_ne ne.symm]
    exact e
  exact h dx _ free ne (J1.write (t' := tk2) (x := a) (e := a) (o := exo a C (some dx)) (h' := h2) (by rw [ea]; exact True.intro) (.inl rfl) (fun b o hb q => off hb q) ⟨_, hx⟩ (exo_ok hx))
/-- a.f = y, a further one -/
theorem put2_ok (T : Exn X.K C) (I : Inv X pins σ H s) (e : H a = some (exo a C (some dx))) (ed : H dx = some (exd dx fs)) (hl : fs.length ≤ 900) (no : PySem.W.findIn X.K (.ref C) f = some none) (ry : RelV y u)
    (h : ∀ s2, Inv X pins σ (upd H dx (exd dx ((f, y) :: fs))) s2 → Q () s2) : wpAny (model X.prog X.w) A (setAttr (.ref a) f u) Q E s := by
  obtain ⟨t1, ho⟩ := exo_at I.hok e
  obtain ⟨mA, hns, rel⟩ := exd_at I.hok ed
  obtain ⟨hp, g, d, t, os⟩ := s
  have hin := within_of rel
  obtain ⟨oD, _, _, hoD, _, _⟩ := hns.count hin
  refine PySem.W.set_plain I.kIn (ox := ⟨.ref C, some dx, .fields #[.ref t1, .none, .none, .none, .bool false, .none], #[]⟩) (od := some oD) ⟨ho, rfl, rfl, hoD⟩ T.set ?_
  refine put_more T I.kIn ho hns hin (by rw [List.length_map]; omega) no fun h2 tk2 k hn => ?_
  obtain ⟨oN, _, _, there, _⟩ := id hn
  exact h _ (I.write (t' := tk2) (x := dx) (e := dx) (o := exd dx ((f, y) :: fs)) (by rw [ed]; exact True.intro) (.inl rfl) k ⟨oN, there⟩ (exd_ok hn (relO_put ry rel)))
end
/-- o.f = e, o an exception object -/
def tPut (K : PySem.W.Frag) (f : Str) (to te : TE) : TS := fun D σ H => te σ H fun y H1 => to σ H1 fun x H2 => ∃ a C : Addr, x = .ref a ∧ Exn K C ∧ PySem.W.findIn K (.ref C) f = some none ∧
  ((H2 a = some (exo a C none) ∧ ∀ dx, H2 dx = none → dx ≠ a → D.nx σ (upd (upd H2 dx (exd dx [(f, y)])) a (exo a C (some dx)))) ∨
    ∃ (dx : Addr) (fs : List (Str × V)), H2 a = some (exo a C (some dx)) ∧ H2 dx = some (exd dx fs) ∧ fs.length ≤ 900 ∧ D.nx σ (upd H2 dx (exd dx ((f, y) :: fs))))
/-- C(e, ..) as a value, C's own __init__ keeping sp -/
def tNew (C : Addr) (sp : Sp) (ta : TA) : TE := fun σ H Q => ta σ H fun vs H1 => vs.length ≤ 1000 ∧ ∀ a, H1 a = none → sp (.ref a :: vs) (upd H1 a (exo a C none)) (fun v H2 => v = .non ∧ Q (.ref a) H2) (fun _ _ _ => False)
/-- C() as a value, C without an __init__ -/
def tNew0 (C : Addr) : TE := fun _ H Q => ∀ a, H a = none → Q (.ref a) (upd H a (exo a C none))
/-- e.f of an exception object -/
def tAttr (K : PySem.W.Frag) (f : Str) (te : TE) : TE := fun σ H Q => te σ H fun x H1 => ∃ (a C dx : Addr) (fs : List (Str × V)) (v : V), x = .ref a ∧ Exn K C ∧ PySem.W.findIn K (.ref C) f = some none ∧ H1 a = some (exo a C (some dx)) ∧ H1 dx = some (exd dx fs) ∧ fs.lookup f = some v ∧ Q v H1
/-- isinstance(e, D) of an exception object -/
def rIsX (K : PySem.W.Frag) : List V → Hp → VK → Prop := fun xs H Q => ∃ (a C D : Addr) (b : Bool), xs = [.ref a, .ref D] ∧ Exn K C ∧ (H a = some (exo a C none) ∨ ∃ dx fs, H a = some (exo a C (some dx)) ∧ H dx = some (exd dx fs)) ∧ PySem.W.kitOne K (.ref C) (.ref D) = some b ∧ Q (.bl b) H
section
variable {X : Cx} {o e : Expr} {es : List Expr} {to te : TE} {ta : TA} {f x : Str} {p p' pos : Pos} {C : Addr}
theorem ps_put (ho : PE X o to) (he : PE X e te) (hs : swapsWith e (some (.Attribute o f p')) pos.line X.env = pure false := by rfl) : PS X (.Assign [.Attribute o f p'] e pos) (tPut X.K f to te) := by
  refine ⟨fun pins s σ H D I h => plainObj_wpAny_Assign_Attribute (thn (he.run pins s σ H _ I h) fun v s1 ⟨y, H1, I1, r1, q1⟩ => thn (ho.run pins s1 σ H1 _ I1 q1) fun u s2 ⟨z, H2, I2, r2, a, C, ez, T, no, q⟩ => ?_) hs⟩
  subst ez
  obtain rfl : u = Value.ref a := r2
  rcases q with ⟨ea, q⟩ | ⟨dx, fs, ea, ed, hl, q⟩
  · exact put1_ok T I2 ea no r1 fun dx s3 n ne J => ⟨σ, _, J, q dx n ne⟩
  · exact put2_ok T I2 ea ed hl no r1 fun s3 J => ⟨σ, _, J, q⟩
theorem pe_new0 (T : Exn X.K C) (q : PySem.W.excIn X.K C excB "Exception.__new__" = true) (hm : X.mg x = some (.ref C)) (hg : Gl X x) (hdb : (x == ("__debug__" : Str)) = false := by decide) : PE X (.Call (.Name x p) [] [] pos) (tNew0 C) := by
  refine ⟨fun pins s σ H Q I h => wpAny_Call_Name_kw (ld_glob I hg hm ?_ hdb)⟩
  refine PySem.W.callWith_K0 I.kIn T.keep ?_
  show wpAny _ _ (call (.ref C) []) _ _ _
  obtain ⟨_, _, _, _, _, _, _, _, _, _, _, _, _, _, _, _, _, hC, hN, hni, tail⟩ := exc_obj I.kIn q
  refine wpAny_call_exc_subT F.excBase_Exception tail hC hN hni (fun h2 a made => ?_) (Nat.zero_le _)
  have free : H a = none := I.hok.gone made.new
  obtain ⟨t1, there, _, _⟩ := made.there
  exact ⟨.ref a, upd H a (exo a C none), I.laidN made.keeps made.new free (exo_ok there), rfl, h a free⟩
theorem pe_new {CX : CXT} {fI : Addr} {k : Nat} {fd : FuncData} {ps : List Str} {sp : Sp} (T : Exn X.K C) (q : PySem.W.excInitIn X.K C excB "Exception.__new__" = true) (iC : PySem.W.findIn X.K (.ref C) "__init__" = some (some (.ref fI))) (tI : PySem.W.typeIn X.K (.ref fI) = some (.type "function"))
    (F1 : FnOk X.prog X.w X.K X.mg X.base CX k fI fd ps sp) (hr : Room (k + 1) X.A) (hb : Binds X.K fd ps []) (hx : Passes CX X (fun _ _ _ => False)) (hg : Gl X x) (hm : X.mg x = some (.ref C)) (ha : PA X (e :: es) ta)
    (hdb : (x == ("__debug__" : Str)) = false := by decide) (he : starEach (e :: es) X.env = (false, eval e X.env) :: starEach es X.env := by rfl) (hpl : (backTo pos (starEach es X.env)).any (·.1) = false := by rfl) :
    PE X (.Call (.Name x p) (e :: es) [] pos) (tNew C sp ta) := by
  refine ⟨fun pins s σ H Q I h => wpAny_Call_Name_kw (ld_glob I hg hm ?_ hdb)⟩
  refine PySem.W.callWith_K (h₀ := X.base) I.ok.mod.kin T.keep (thn (ha.run pos pins s σ H _ I h) fun us s1 ⟨vs, H1, I1, r1, hz, q1⟩ => ⟨I1.kIn, ?_⟩) he hpl
  show wpAny _ _ (call (.ref C) us) _ _ _
  obtain ⟨_, _, _, _, _, _, _, _, _, _, _, _, _, _, _, _, hC, hT⟩ := PySem.W.excInit_of I1.kIn q
  obtain ⟨hp, g, dr, tk, os⟩ := s1
  have big : hp.objs.size ≤ hp.objs.size + 1 := Nat.le_succ _
  have free : H1 (hp.objs.size + 1) = none := I1.hok.fresh big
  have ask := q1 (hp.objs.size + 1) free
  have keeps : ∀ b o, hp.get? b = some o → ((hp.push (PySem.W.kdv_tup us)).push (PySem.HandSPX.excO C hp.objs.size)).get? b = some o :=
    fun b o z => Heap.get?_push_of_some _ (Heap.get?_push_of_some _ z)
  have there : ((hp.push (PySem.W.kdv_tup us)).push (PySem.HandSPX.excO C hp.objs.size)).get? (hp.objs.size + 1) = some (PySem.HandSPX.excO C hp.objs.size) := by heap_get
  have I2 := I1.laid (t' := tk) (a := hp.objs.size + 1) (o := exo (hp.objs.size + 1) C none) keeps big (exo_ok there)
  have r2 : Vals (V.ref (hp.objs.size + 1) :: vs) (Value.ref (hp.objs.size + 1) :: us) := .cons rfl r1
  have len2 : (Value.ref (hp.objs.size + 1) :: us).length = ps.length := by
    rw [← r2.length]
    exact F1.len _ _ _ _ ask
  have small : us.length ≤ sizeLine := by
    rw [← Paired.length r1]
    exact Nat.le_trans hz (by decide)
  refine wpAny_call (PySem.HandSPX.call_own F.excBase_Exception hT hC (PySem.W.looks_findIn I1.kIn iC) (fun self => PySem.W.bind_fn I1.kIn self tI) small
    (codeAny_mono (F1.run _ X.stack _ _ ⟨Value.ref (hp.objs.size + 1) :: us, []⟩ (Value.ref (hp.objs.size + 1) :: us) _ _ (fun _ _ _ => False) (hr.make C us []) (I2.env0.make C us []) ?_ r2 ask) fun r s2 back => ?_))
  · have z := hb ⟨(hp.push (PySem.W.kdv_tup us)).push (PySem.HandSPX.excO C hp.objs.size), g, dr, tk, os⟩ (Value.ref (hp.objs.size + 1) :: us) I2.kIn (by rw [List.append_nil]; exact len2)
    rw [List.append_nil] at z
    exact z
  · cases r with
    | error er => exact hx pins σ _ _ er s2 I2 back
    | ok fl =>
      cases fl with
      | ret u =>
        obtain ⟨v, H2, J, rv, ev, q2⟩ := I2.after back
        subst ev
        exact ⟨rv, .ref _, H2, J, rfl, q2⟩
      | next => exact back.elim
      | brk => exact back.elim
      | cont => exact back.elim
theorem pe_attr (he : PE X e te) (hb : attributeBase e f X.env (eval e X.env) = eval e X.env := by rfl) : PE X (.Attribute e f pos) (tAttr X.K f te) := by
  refine ⟨fun pins s σ H Q I h => attr_of hb (thn (he.run pins s σ H _ I h) fun u s1 hh => ?_)⟩
  obtain ⟨z, H1, I1, rz, a, C, dx, fs, v, ez, T, no, ea, ed, l, q⟩ := hh
  subst ez
  obtain rfl : u = Value.ref a := rz
  obtain ⟨t1, ho⟩ := exo_at I1.hok ea
  obtain ⟨mA, hns, rel⟩ := exd_at I1.hok ed
  obtain ⟨od, hod, lk⟩ := lookIn_ns hns
  obtain ⟨w, hw, rw'⟩ := RelO.some_of (v := v) (o := mA f) (by rw [← l]; exact rel f)
  have J : PySem.W.InstAt s1.heap a _ C (some od) := ⟨ho, rfl, rfl, hod⟩
  exact HandSPX.exc_get I1.kIn J T.get T.noGet T.base (PySem.W.findObj_own T.dct no rfl (by rw [lk, hw])) (handed_of rw') ⟨v, H1, I1.tok _, rw', q⟩
theorem call_isX (hn : PySem.W.specialIn X.K (.builtin "object.__class__") "__get__" = some (some (.builtin "getset_descriptor.__get__"))) (htk : PySem.W.takesIn X.K (.builtin "object.__class__") = some true) : CallR X (.builtin "isinstance") (rIsX X.K) := by
  intro pins s σ H xs us Q I r h
  obtain ⟨a, C, D, b, rfl, T, at_, k, q⟩ := h
  obtain ⟨u1, u2, rfl, r1, r2⟩ := vals2 r
  cases (show u1 = Value.ref a from r1)
  cases (show u2 = Value.ref D from r2)
  rcases at_ with ea | ⟨dx, fs, ea, ed⟩
  · obtain ⟨t1, ho⟩ := exo_at I.hok ea
    exact PySem.W.kia_one (PySem.W.kitx_exc (od := none) T.isCls T.get T.noGet T.base T.clsAt hn htk T.objM) I.kIn ⟨ho, rfl, rfl, trivial⟩ k (fun z => nomatch z) fun tk => ⟨.bl b, H, I.tok tk, rfl, q⟩
  · obtain ⟨t1, ho⟩ := exo_at I.hok ea
    obtain ⟨mA, hns, rel⟩ := exd_at I.hok ed
    obtain ⟨od, hod, lk⟩ := lookIn_ns hns
    exact PySem.W.kia_one (PySem.W.kitx_exc (od := some od) T.isCls T.get T.noGet T.base T.clsAt hn htk T.objM) I.kIn ⟨ho, rfl, rfl, hod⟩ k (fun z => nomatch z) fun tk => ⟨.bl b, H, I.tok tk, rfl, q⟩
end
end Hs
set_option maxHeartbeats 4000000
namespace Hs
open PySem PySem.Spec PyProof.Rows L2
/-! ## own exceptions, raised -/
section
variable {X : Cx} {x : Str} {C : Addr} {p pos : Pos}
/-- C(), C without an __init__ -/
theorem pmk0 (T : Exn X.K C) (ty : PySem.W.typeIn X.K (.ref C) = some (.type "type")) (q : PySem.W.excIn X.K C excB "Exception.__new__" = true) (hm : X.mg x = some (.ref C)) (hg : Gl X x) (hdb : (x == ("__debug__" : Str)) = false := by decide) :
    PMk X (.Call (.Name x p) [] [] pos) (fun _ H Q => Q (.ref C) none H) := by
  intro pins s σ H Q I h
  refine wpAny_Call_Name_kw (ld_glob I hg hm ?_ hdb)
  refine PySem.W.callWith_K0 I.kIn T.keep ?_
  show wpAny _ _ (call (.ref C) []) _ _ _
  obtain ⟨_, _, _, _, _, _, _, _, _, _, _, _, _, _, _, _, _, hC, hN, hni, tail⟩ := exc_obj I.kIn q
  exact wpAny_call_exc_subT F.excBase_Exception tail hC hN hni (fun h2 a made => mk_of I made (raises_own T.base ty) h (I.hok.gone made.new)) (Nat.zero_le _)
/-- C(e), C's __init__ keeping it under f -/
def spOne (C : Addr) (f : Str) : Sp := fun vs H Q _ => ∃ (a : Addr) (v : V), vs = [.ref a, v] ∧ H a = some (exo a C none) ∧ ∀ (d : Addr), H d = none → d ≠ a → Q .non (upd (upd H d (exd d [(f, v)])) a (exo a C (some d)))
theorem pmk1 {CX : CXT} {fI : Addr} {k : Nat} {fd : FuncData} {f : Str} {e : Expr} {ta : TE} (T : Exn X.K C) (ty : PySem.W.typeIn X.K (.ref C) = some (.type "type")) (q : PySem.W.excInitIn X.K C excB "Exception.__new__" = true) (iC : PySem.W.findIn X.K (.ref C) "__init__" = some (some (.ref fI))) (tI : PySem.W.typeIn X.K (.ref fI) = some (.type "function"))
    (F1 : FnOk X.prog X.w X.K X.mg X.base CX k fI fd ["self", f] (spOne C f)) (hr : Room (k + 1) X.A) (hb : Binds X.K fd ["self", f] []) (hx : Passes CX X (fun _ _ _ => False)) (hg : Gl X x) (hm : X.mg x = some (.ref C)) (ha : PE X e ta)
    (hdb : (x == ("__debug__" : Str)) = false := by decide) (he : starEach (e :: []) X.env = (false, eval e X.env) :: starEach [] X.env := by rfl) (hpl : (backTo pos (starEach [] X.env)).any (·.1) = false := by rfl) :
    PMk X (.Call (.Name x p) [e] [] pos) (fun σ H Q => ta σ H fun v H1 => ∀ d, H1 d = none → Q (.ref C) (some d) (upd H1 d (.xd [(f, v)]))) := by
  intro pins s σ H Q I h
  refine wpAny_Call_Name_kw (ld_glob I hg hm ?_ hdb)
  refine PySem.W.callWith_K (h₀ := X.base) I.ok.mod.kin T.keep (thn ((pa_cons ha pa_nil he).run pos pins s σ H (fun vs H1 => ∃ v, vs = [v] ∧ ∀ d, H1 d = none → Q (.ref C) (some d) (upd H1 d (.xd [(f, v)]))) I ?_) fun us s1 ⟨vs, H1, I1, r1, v, ev, q1⟩ => ⟨I1.kIn, ?_⟩) he hpl
  · show ta σ H fun v H1 => _
    refine cast (congrArg (ta σ H) (funext fun v => funext fun H1 => propext ⟨fun z => ⟨v, rfl, z⟩, fun ⟨w, ew, z⟩ => ?_⟩)) h
    cases ew
    exact z
  subst ev
  show wpAny _ _ (call (.ref C) us) _ _ _
  obtain ⟨_, _, _, _, _, _, _, _, _, _, _, _, _, _, _, _, hC, hT⟩ := PySem.W.excInit_of I1.kIn q
  obtain ⟨hp, g, dr, tk, os⟩ := s1
  have big : hp.objs.size ≤ hp.objs.size + 1 := Nat.le_succ _
  have free : H1 (hp.objs.size + 1) = none := I1.hok.fresh big
  have keeps : ∀ b o, hp.get? b = some o → ((hp.push (PySem.W.kdv_tup us)).push (PySem.HandSPX.excO C hp.objs.size)).get? b = some o :=
    fun b o z => Heap.get?_push_of_some _ (Heap.get?_push_of_some _ z)
  have there : ((hp.push (PySem.W.kdv_tup us)).push (PySem.HandSPX.excO C hp.objs.size)).get? (hp.objs.size + 1) = some (PySem.HandSPX.excO C hp.objs.size) := by heap_get
  have I2 := I1.laid (t' := tk) (a := hp.objs.size + 1) (o := exo (hp.objs.size + 1) C none) keeps big (exo_ok there)
  have r2 : Vals (V.ref (hp.objs.size + 1) :: [v]) (Value.ref (hp.objs.size + 1) :: us) := .cons rfl r1
  have ask : spOne C f (V.ref (hp.objs.size + 1) :: [v]) (upd H1 (hp.objs.size + 1) (exo (hp.objs.size + 1) C none))
      (fun y H2 => y = .non ∧ ∃ (d : Addr) (kvs : List (Str × V)), H2 (hp.objs.size + 1) = some (exo (hp.objs.size + 1) C (some d)) ∧ H2 d = some (exd d kvs) ∧ H1 d = none ∧ Q (.ref C) (some d) (upd (del H2 (hp.objs.size + 1)) d (.xd kvs))) (fun _ _ _ => False) := by
    refine ⟨_, v, rfl, upd_same, fun d hd ne => ⟨rfl, d, [(f, v)], upd_same, by rw [upd_ne ne, upd_same], ?_, ?_⟩⟩
    · rw [upd_ne ne] at hd
      exact hd
    · have nd : H1 d = none := by
        rw [upd_ne ne] at hd
        exact hd
      have e1 : upd (del (upd (upd (upd H1 (hp.objs.size + 1) (exo (hp.objs.size + 1) C none)) d (exd d [(f, v)])) (hp.objs.size + 1) (exo (hp.objs.size + 1) C (some d))) (hp.objs.size + 1)) d (.xd [(f, v)]) = upd H1 d (.xd [(f, v)]) := by
        funext b
        by_cases b1 : b = d
        · rw [b1, upd_same, upd_same]
        · rw [upd_ne b1, upd_ne b1]
          by_cases b2 : b = hp.objs.size + 1
          · rw [b2, del_same, free]
          · rw [del_ne b2, upd_ne b2, upd_ne b1, upd_ne b2]
      rw [e1]
      exact q1 d nd
  have len2 : (Value.ref (hp.objs.size + 1) :: us).length = (["self", f] : List Str).length := by
    rw [← r2.length]
    rfl
  have small : us.length ≤ sizeLine := by
    rw [← Paired.length r1]
    exact (by show 1 ≤ sizeLine; decide)
  refine wpAny_call (PySem.HandSPX.call_own F.excBase_Exception hT hC (PySem.W.looks_findIn I1.kIn iC) (fun self => PySem.W.bind_fn I1.kIn self tI) small
    (codeAny_mono (F1.run _ X.stack _ _ ⟨Value.ref (hp.objs.size + 1) :: us, []⟩ (Value.ref (hp.objs.size + 1) :: us) _ _ (fun _ _ _ => False) (hr.make C us []) (I2.env0.make C us []) ?_ r2 ask) fun r s2 back => ?_))
  · have z := hb ⟨(hp.push (PySem.W.kdv_tup us)).push (PySem.HandSPX.excO C hp.objs.size), g, dr, tk, os⟩ (Value.ref (hp.objs.size + 1) :: us) I2.kIn (by rw [List.append_nil]; exact len2)
    rw [List.append_nil] at z
    exact z
  · cases r with
    | error er => exact hx pins σ _ _ er s2 I2 back
    | ok fl =>
      cases fl with
      | ret u =>
        obtain ⟨y, H2, o2, b2, n2, k2, ry, ey, d, kvs, w1, w2, w3, w4⟩ := back
        subst ey
        obtain ⟨h2, g2, d2, t2, os'⟩ := s2
        exact ⟨ry, mk_end (raises_own T.base ty) I1 big keeps n2 k2 o2 b2 w1 w2 w3 w4⟩
      | next => exact back.elim
      | brk => exact back.elim
      | cont => exact back.elim
end
end Hs
set_option maxHeartbeats 4000000
namespace Hs
open PySem PySem.Spec PyProof.Rows L2
/-! ## a call in a list comprehension's element lets an exception out -/
section
variable {X : Cx} {pins : List (Addr × Obj)} {σ : L2.St} {H : Hp} {sB s2 : Shared} {W : WX} {E : XK} {ce : Env} {u : Value} {m : Str → Option Value}
theorem blk_held (hst : X.stack = X.env :: X.outer) (hfL : X.env.frame = some X.env.locals) (hce : ce.frame = X.env.frame) (tk : Takes X W) (I : Inv X pins σ H sB) (fC : FpOk X pins H ce.locals) (hn : sB.heap.Ns ce.locals m)
    (hW : ∀ cls d H', E cls d H' → W cls d σ H') (c : CX X.prog X.w X.stack H sB E u s2) : notedBy (model X.prog X.w) X.A ce (CompFails (model X.prog X.w) X.A X.xe ce) u s2 := by
  obtain ⟨a, B, Hn, cls, d, rfl, fl, hok, ub, na, os, ag, hE⟩ := c
  obtain ⟨oC, es, ep, eC, dC, rC⟩ := hn
  obtain ⟨n0, nL, nF, f3, f4, f5⟩ := fC
  have nst : ce.locals ∉ frs X.stack := fun z => (List.mem_cons.mp (I.stkSub _ z)).elim nL nF
  have nC : Hn ce.locals = none := ub.free _ oC eC n0
  have bC : B.get? ce.locals = some oC := ub.keep _ oC eC n0 nst
  have sC : s2.heap.get? ce.locals = some oC := fl.1 _ oC bC
  have nfC : ∀ vs, oC.data ≠ .fields vs := fun vs z => by rw [dC] at z; cases z
  -- the ground without the block's names
  generalize hB1 : PySem.W.hideAll B [ce.locals] = B1
  have g1 : ∀ {b o}, B1.get? b = some o → B.get? b = some o ∧ b ≠ ce.locals := fun {b o} q => by
    rw [← hB1] at q
    exact ⟨PySem.W.of_hideAll _ q, fun z => by rw [z, PySem.W.hideAll_none _ List.mem_cons_self] at q; cases q⟩
  have g2 : ∀ {b o}, B.get? b = some o → b ≠ ce.locals → B1.get? b = some o := fun {b o} q z => by
    rw [← hB1]
    exact PySem.W.hideAll_get _ q fun hm => z (by simpa using hm)
  have g3 : ∀ {b}, B.get? b = none → B1.get? b = none := fun {b} q => by
    cases e : B1.get? b with
    | none => rfl
    | some o => rw [(g1 e).1] at q; cases q
  have g4 : B1.get? ce.locals = none := by
    cases e : B1.get? ce.locals with
    | none => rfl
    | some o => exact absurd rfl (g1 e).2
  have frB : ∀ {l : List Env}, s2.heap.FunFrames B l → ∀ L ∈ frs l, B1.get? L = none := fun {l} ff L hL => g3 (ff.mem hL).1
  have fl1 : HandSPX.FlyingZ B1 X.stack a (Zc cls d) s2.heap := by
    obtain ⟨w1, w2, w3, oe, vs, T, oT, ts, e1, e2, e3, e4, e5, e6, e7, e8, e9⟩ := fl
    exact ⟨fun b o q => w1 b o (g1 q).1, g3 w2, funFrames_none w3 (frB w3), oe, vs, T, oT, ts, e1, e2, e3, e4, g3 e5, e6, e7, e8, e9⟩
  -- the state without the exception and without the block's names
  obtain ⟨G, r1, r2⟩ := restrict s2.heap fun b => decide (b ≠ ce.locals) && ((B.get? b).isSome || decide (b ∈ frs X.stack))
  have inG : ∀ {b o}, b ≠ ce.locals → B.get? b = some o → G.get? b = some o := fun {b o} z q => by
    rw [r1 b (by simp [z, q])]
    exact fl.1 b o q
  have frG : ∀ {b}, b ∈ frs X.stack → G.get? b = s2.heap.get? b := fun {b} hb => r1 b (by
    have z : b ≠ ce.locals := fun e => nst (e ▸ hb)
    simp [z, hb])
  have ofG : ∀ {b o}, G.get? b = some o → b ≠ ce.locals ∧ s2.heap.get? b = some o ∧ ((B.get? b).isSome = true ∨ b ∈ frs X.stack) := fun {b o} q => by
    cases t : (decide (b ≠ ce.locals) && ((B.get? b).isSome || decide (b ∈ frs X.stack))) with
    | false => rw [r2 b t] at q; cases q
    | true =>
      rw [r1 b t] at q
      obtain ⟨t1, t2⟩ := Bool.and_eq_true_iff.mp t
      exact ⟨of_decide_eq_true t1, q, by simpa [Bool.or_eq_true] using t2⟩
  have IG : Inv X pins σ Hn { sB with heap := G, gens := s2.gens, drawn := s2.drawn, toks := s2.toks } := by
    refine I.call (ch := [ce.locals]) ⟨fun b o q n hb hx => inG (by simpa using hx) (ub.keep b o q n hb), fun b o q n hb hx => ?_, fun b o q n hx => ub.free b o q n, fun b o q hx => ?_, ub.tups, ub.frzs, ub.tbls⟩ (fun b o q => ?_) ag fun b hb => ?_
    · obtain ⟨sl, z⟩ := ub.slot b o q hb
      exact ⟨sl, (frG hb).trans z⟩
    · by_cases hb : b ∈ frs X.stack
      · obtain ⟨sl, z⟩ := ub.slot b o q hb
        exact ⟨_, (frG hb).trans z⟩
      · obtain ⟨o1, z⟩ := ub.there b o q hb
        exact ⟨o1, inG (by simpa using hx) z⟩
    · refine (hok b o q).stay (fun c v hc r => inG (fun z => ?_) r) (fun _ r => r) fun _ _ r => r
      subst z
      rcases hc with hc | hc
      · rw [← hc, nC] at q; cases q
      · rw [nC] at hc; cases hc
    · obtain rfl : b = ce.locals := by simpa using hb
      exact ⟨f3, nL, f4, f5⟩
  have nb : ∀ b o, G.get? b = some o → b ∉ frs X.stack → B1.get? b = some o := fun b o q hb => by
    obtain ⟨z, q1, q2⟩ := ofG q
    rcases q2 with q2 | q2
    · obtain ⟨o1, q3⟩ := Option.isSome_iff_exists.mp q2
      have q4 := fl.1 b o1 q3
      rw [q1] at q4
      rw [Option.some.inj q4]
      exact g2 q3 z
    · exact absurd q2 hb
  show wpAny _ _ (noteFrame (.ref a) ce) _ _ s2
  rw [noteFrame_env _ hce]
  rw [hst] at fl1
  refine HandSPX.looks_onZ Zc.steady (by rw [I.ok.frames, hst]) hfL fl1 fun h1 hh1 up1 => ?_
  obtain ⟨sl1, c1⟩ := up1 _ oC sC nfC
  have ns1 : h1.Ns ce.locals m := ⟨_, es, ep, c1, dC, rC⟩
  refine ⟨m, ns1, fun h2 m2 ns2 sb => ?_⟩
  have hh2 : HandSPX.HeldZ B1 (X.env :: X.outer) a (Zc cls d) X.env.locals h2 := by
    obtain ⟨w1, w2, w3, oe, vs, T, oT, ts, e1, e2, e3, e4, e5, e6, e7, e8, e9⟩ := hh1
    have away : ∀ {b o} {xs : Array Value}, h1.get? b = some o → o.data = .fields xs → b ≠ ce.locals := fun {b o xs} q z y => by
      rw [y, c1] at q
      rw [← Option.some.inj q] at z
      exact nfC xs z
    exact ⟨fun b o q => (sb.2 b (g1 q).2).trans (w1 b o q), w2, Heap.FunFrames.sameBut sb ns2 w3, oe, vs, T, oT, ts, (sb.2 a (away e1 e3)).trans e1, e2, e3, e4, e5, e6, (sb.2 T (away e7 e8)).trans e7, e8, e9⟩
  obtain ⟨oe, vs, T, oT, ts, e1, e2, e3, e4, _⟩ := hh2.2.2.2
  unfold PySem.passOn
  refine wpAny_bind (wpAny_field e1 e3 e4 ?_)
  rw [if_neg (show ¬ ((Value.ref T == Value.none) = true) from by simp)]
  rw [hce, hfL]
  refine wpAny_bind (HandSPX.setFlight_onZ hh2 fun h3 hh3 up3 => wpAny_throw (tk _ _ ⟨a, B1, _, pins, σ, Hn, cls, d, rfl, IG, nb, fun b o q nf => ?_, .inr (.inr (by rw [hst]; exact hh3)), na, os, ag, hW _ _ _ hE⟩))
  obtain ⟨z, q1, _⟩ := ofG q
  obtain ⟨slA, qA⟩ := up1 b o q1 nf
  obtain ⟨slB, qB⟩ := up3 b _ ((sb.2 b z).trans qA) nf
  exact ⟨slB, qB⟩
end
/-- a block whose element's calls may let E out -/
abbrev blkR (X : Cx) (E : XK) (s : Shared) (H : Hp) (scope : Scope) (ce : Env) (fp : List Addr) : Cx :=
  (X.blk s H scope ce fp).wish fun u s2 => ∃ pins σ H2 sB, Inv (X.blk s H scope ce fp) pins σ H2 sB ∧ CX X.prog X.w X.stack H2 sB E u s2
theorem passes_blkR {X : Cx} {E : XK} {s : Shared} {H : Hp} {scope : Scope} {ce : Env} {fp : List Addr} : Passes (CX X.prog X.w) (blkR X E s H scope ce fp) E := fun pins σ H2 sB _ _ I c => ⟨pins, σ, H2, sB, I.unwish, c⟩
section
variable {X : Cx}
theorem pe_lcX {E : XK} {W : WX} {elt tg iter : Expr} {ifs : List Expr} {scope : Scope} {own : List (Str × Nat)} {pos : Pos} {wi : TI} {g : TG} {tt : TT} {te : TE} (hst : X.stack = X.env :: X.outer) (hfL : X.env.frame = some X.env.locals) (tk : Takes X W) (hW : ∀ cls d σ H, E cls d H → W cls d σ H)
    (hc : X.calm = true) (hN : X.N.Nodup) (hi : PI X tg iter wi) (ok : BlkOk X.N X.env.scope scope own)
    (hg : ∀ (s : Shared) (H : Hp) (C : Addr) (cl : List (Str × Addr)) (fp : List Addr), PG (X.blk s H scope (compEnvC scope cl C X.env) fp) tg g)
    (ht : ∀ (s : Shared) (H : Hp) (C : Addr) (cl : List (Str × Addr)) (fp : List Addr), PTs (X.blk s H scope (compEnvC scope cl C X.env) fp) ifs tt)
    (he : ∀ (s : Shared) (H : Hp) (C : Addr) (cl : List (Str × Addr)) (fp : List Addr), PE (blkR X E s H scope (compEnvC scope cl C X.env) fp) elt te) (hs : ∀ x, foldedSetIterable iter X.env x = pure x := by intro _; rfl) :
    PE X (.ListComp elt [⟨tg, iter, ifs, 0⟩] scope pos) (tLc wi g tt te (own.map (·.2))) := by
  refine ⟨fun pins s σ H Q I h => ?_⟩
  rw [eval_ListComp]
  have caught : ∀ y ∈ scope.names, y.2 = .free → ∃ c, X.env.cells.lookup y.1 = some c := fun y hy e => (ok.free y hy e).elim (fun k => I.ok.has _ (.inl k)) fun k => I.ok.has _ (.inr k)
  refine comprehension_at (use := none) rfl hs (closure_ok caught) ok.kind (fun y hy e => by rw [ok.uniq y hy, e]) (thn (hi.run pins s σ H _ I h) fun xv s1 hx => thn hx fun itv t0 h0 => ?_)
  obtain ⟨it, fp, tn, J, Ha, rfl, Ia, T, sta, fpa, q⟩ := h0
  refine wpAny_newObj_type (newEnv_comp ?_) (by show 0 ≤ sizeLine; decide)
  generalize eD : t0.heap.objs.size = D
  have freeD : Ha D = none := Ia.hok.fresh (Nat.le_of_eq eD)
  obtain ⟨Wt, ⟨m0, w0⟩, turn⟩ := q D freeD
  generalize e1 : ({ t0 with heap := t0.heap.push { cls := .type "list", data := .seq ([] : List Value).toArray } } : Shared) = t1
  have ht1 : t1.heap = t0.heap.push { cls := .type "list", data := .seq ([] : List Value).toArray } := by rw [← e1]
  have Ib : Inv X pins σ (upd Ha D (.lst [])) t1 := by
    rw [← e1]
    refine Ia.laid (t' := t0.toks) (fun b o e => Heap.get?_push_of_some _ e) (Nat.le_of_eq eD) ⟨Nat.zero_le _, [], 0, .nil, ?_⟩
    rw [← eD]
    exact Heap.get?_push_size _ rfl
  have small : ∀ b ∈ fp, b < t0.heap.objs.size := fun b hb => let ⟨_, e, _⟩ := T.obj _ _ sta b hb; Heap.lt_size e
  have fpb : ∀ b ∈ fp, FpOk X pins (upd Ha D (.lst [])) b ∧ b < t1.heap.objs.size := fun b hb => by
    refine ⟨⟨?_, (fpa b hb).2⟩, by rw [ht1, Heap.size_push]; exact Nat.lt_succ_of_lt (small b hb)⟩
    rw [upd_ne (by rw [← eD]; exact Nat.ne_of_lt (small b hb))]
    exact (fpa b hb).1
  have stb : tn 0 t1.heap := T.keep _ _ _ sta fun b _ o e => by rw [ht1]; exact Heap.get?_push_of_some _ e
  generalize eH : upd Ha D (.lst []) = Hb at Ib fpb w0
  show codeAny _ _ (.compStart (.ListComp elt [⟨tg, iter, ifs, 0⟩] scope pos) 0 (.ref it) (.ref D) (compEnvC scope (cellsFrom (t1.heap.objs.size + 1) scope.names (cloFrom X.env.cells scope.names [])) t1.heap.objs.size X.env))
    (compEnds (model X.prog X.w) X.A X.xe none (EP X pins σ Q) (.ref D) (compEnvC scope (cellsFrom (t1.heap.objs.size + 1) scope.names (cloFrom X.env.cells scope.names [])) t1.heap.objs.size X.env)) { t1 with heap := pushCells (t1.heap.push { cls := .type "dict", data := .dict #[] }) scope.names }
  generalize ecl : cellsFrom (t1.heap.objs.size + 1) scope.names (cloFrom X.env.cells scope.names []) = cl
  have Ic := block_start Ib ok hN fpb
  rw [ecl] at Ic
  have pg := hg t1 Hb t1.heap.objs.size cl fp
  have pt := ht t1 Hb t1.heap.objs.size cl fp
  have pe := he t1 Hb t1.heap.objs.size cl fp
  have ceF : (compEnvC scope cl t1.heap.objs.size X.env).frame = X.env.frame := rfl
  have ceL : (compEnvC scope cl t1.heap.objs.size X.env).locals = t1.heap.objs.size := rfl
  generalize compEnvC scope cl t1.heap.objs.size X.env = ce at Ic pg pt pe ceF ceL ⊢
  generalize e2 : ({ t1 with heap := pushCells (t1.heap.push { cls := .type "dict", data := .dict #[] }) scope.names } : Shared) = t2 at Ic ⊢
  have stc : tn 0 t2.heap := T.keep _ _ _ stb fun b _ o e => by rw [← e2]; exact pushCells_keeps _ _ _ _ (Heap.get?_push_of_some _ e)
  have nfp : ∀ b ∈ fp, Hb b = none := fun b hb => (fpb b hb).1.1
  have stat : ∀ {σ1 : L2.St} {H1 : Hp} {s1 : Shared}, Inv (X.blk t1 Hb scope ce fp) [] σ1 H1 s1 → (∀ b ∈ fp, H1 b = none) → ∀ b ∈ fp, FpOk (X.blk t1 Hb scope ce fp) [] H1 b := fun {σ1 H1 s1} I1 hn b hb =>
    ⟨hn b hb, (I1.ok.exf b hb).1, I1.ok.exfs b hb, .inl hb, fun x c e => (I1.ok.exf b hb).2 x c e, fun p hp => absurd (show p ∈ ([] : List (Addr × Obj)) ++ [] from hp) (by simp)⟩
  -- the def's own context again
  have back : ∀ {pn1 : List (Addr × Obj)} {σ1 : L2.St} {H1 : Hp} {s1 : Shared}, Inv (X.blk t1 Hb scope ce fp) pn1 σ1 H1 s1 → Inv X pins σ H1 s1 ∧ FpOk X pins H1 ce.locals ∧ ∃ m, s1.heap.Ns ce.locals m := fun {pn1 σ1 H1 s1} I1 => by
    have n1 : H1 ce.locals = none := I1.free
    obtain ⟨m, hn, _⟩ := I1.loc
    refine ⟨Ib.call' (ch := fp) I1.os I1.base I1.hok I1.bare fun b hb => ⟨(fpb b hb).1.2.2.2.1, (fpb b hb).1.2.1, (fpb b hb).1.2.2.2.2.1, (fpb b hb).1.2.2.2.2.2⟩, ?_, m, hn⟩
    rw [ceL] at n1 ⊢
    exact Ib.fpOk (Nat.le_refl _) n1
  have out : ∀ u s1, (blkR X E t1 Hb scope ce fp).xe u s1 → notedBy (model X.prog X.w) X.A ce (CompFails (model X.prog X.w) X.A X.xe ce) u s1 := fun u s1 ⟨pn1, σ1, H1, sB, I1, c⟩ => by
    obtain ⟨J1, fC, m, hn⟩ := back I1
    exact blk_held hst hfL ceF tk J1 fC hn (fun cls d H' z => hW cls d σ H' z) c
  have loop : codeAny (model X.prog X.w) X.A (.compLoop (.ListComp elt [⟨tg, iter, ifs, 0⟩] scope pos) 0 (.ref it) (.ref D) ce) (compEnds (model X.prog X.w) X.A X.xe none (EP X pins σ Q) (.ref D) ce) t2 := by
    refine compLoop_any (fun n s1 => ∃ i H1, Inv (X.blk t1 Hb scope ce fp) [] (wipe σ (own.map (·.2))) H1 s1 ∧ tn i s1.heap ∧ (∀ b ∈ fp, H1 b = none) ∧ Wt i n H1) ?_ m0 ⟨0, Hb, Ic, stc, nfp, w0⟩
    rintro n s5 ⟨i, H5, I5, st5, n5, w5⟩
    rcases turn i n H5 w5 with ⟨stop, qq⟩ | ⟨go, Nx, hNx, step⟩
    · refine thnF (T.done (X.blk t1 Hb scope ce fp) rfl rfl rfl hc i [] s5 _ H5 (fun _ _ => False) I5 (stat I5 n5) st5 stop) fun r s6 ⟨hr, I6⟩ => ?_
      subst hr
      obtain ⟨I7, fC, m, hn⟩ := back I6
      refine ⟨m, hn, fun h2 sb => ?_⟩
      obtain ⟨y0, y1, _, y3, y4, y5⟩ := fC
      exact ⟨.ref D, H5, I7.turned (t' := s6.toks) (fun b o hb e => (sb.2 b hb).trans e) y0 y1 y3 y4 y5, rfl, qq⟩
    · refine thnF (T.item (X.blk t1 Hb scope ce fp) rfl rfl rfl hc i [] s5 _ H5 (fun _ _ => False) I5 (stat I5 n5) st5 go) fun r s6 ⟨u, hr, h6⟩ => ?_
      subst hr
      refine thnF h6 fun _ s7 ⟨x, H7, I7, r7, y7, st7, n7⟩ => ?_
      refine thnF (pg.run _ s7 _ H7 x u _ (I7.pinned (stat I7 n7) (T.obj _ _ st7)) r7 (step x H7 y7)) fun _ s8 ⟨σ8, H8, I8, hw8, q8⟩ => ?_
      refine thnF (pt.run _ s8 σ8 H8 _ I8 q8) fun b s9 ⟨H9, I9, q9⟩ => ?_
      have fin : ∀ {s1 : Shared} {H1 : Hp}, Inv (X.blk t1 Hb scope ce fp) ([] ++ pinsAt fp s7.heap) σ8 H1 s1 → Nx H1 → ∃ m, m < n ∧ ∃ i H1, Inv (X.blk t1 Hb scope ce fp) [] (wipe σ (own.map (·.2))) H1 s1 ∧ tn i s1.heap ∧ (∀ b ∈ fp, H1 b = none) ∧ Wt i m H1 := fun {s1 H1} I1 nx => by
        obtain ⟨m1, hm, w1⟩ := hNx H1 nx
        have pinned : ∀ b ∈ fp, ∀ o, s7.heap.get? b = some o → s1.heap.get? b = some o ∧ H1 b = none := fun b hb o e =>
          let z := I1.pin (b, o) (List.mem_append_right _ (List.mem_append_right _ (mem_pinsAt hb e)))
          ⟨z.1, z.2.1⟩
        refine ⟨m1, hm, i + 1, H1, (I1.unpinned (pins := [])).weak (by rw [← hw8, wipe_length]) (fun j v e => ?_), T.keep _ _ _ st7 fun b hb o e => (pinned b hb o e).1, fun b hb => ?_, w1⟩
        · rw [← hw8] at e
          exact (wipe_some e).1
        · obtain ⟨o, e, _⟩ := T.obj _ _ st7 b hb
          exact (pinned b hb o e).2
      cases b with
      | false =>
        simp only [Bool.false_eq_true, if_false] at q9 ⊢
        exact fin I9 q9
      | true =>
        simp only [if_true] at q9 ⊢
        refine wpAny_mono (pe.run _ s9 σ8 H9 _ (I9.wish _) q9) (fun z s10 ⟨yv, H10, I10, r10, acc, hD10, hz10, nx⟩ => ?_) out
        exact app_ok (X := X.blk t1 Hb scope ce fp) I10.unwish hD10 hz10 r10 fun s11 I11 => fin I11 nx
  exact codeAny_compStart_list loop (T.self X.A 0 _ _ _ stc loop)
end
end Hs
set_option maxHeartbeats 4000000
namespace Hs
open PySem PySem.Spec PyProof.Rows L2
/-! ## list(zip(u, v)), u and v lists or tuples -/
theorem zip_len0 : typeLookup (.type "zip") "__len__" = pure none := by rw [typeLookup_type, builtinLookup_eq_fast]; kernel_rfl
theorem zip_hint0 : typeLookup (.type "zip") "__length_hint__" = pure none := by rw [typeLookup_type, builtinLookup_eq_fast]; kernel_rfl
section
variable {prog : Program} {w : World} {A : Around} {E : Value → Shared → Prop} {s : Shared} {z TI TO T i1 i2 : Addr} {fp1 fp2 : List Addr} {n1 n2 i : Nat} {P1 P2 : Nat → Value → Prop} {St1 St2 : Nat → Heap → Prop} {f : Bool} {oT : Obj}
/-- the pair handed out is still held -/
theorem zipH_item {Q : Value → Shared → Prop} (S : ZipSep2 z TI TO i1 i2 fp1 fp2) (D1 : Draws prog w A i1 fp1 n1 P1 St1) (D2 : Draws prog w A i2 fp2 n2 P2 St2)
    (hz : IsZipHeld s.heap z TI TO T f) (hT : s.heap.get? T = some oT) (hTI : IsTupOf2 s.heap TI (.ref i1) (.ref i2)) (st1 : St1 i s.heap) (st2 : St2 i s.heap) (lt1 : i < n1) (lt2 : i < n2)
    (hQ : ∀ x1 x2 h' tk, P1 i x1 → P2 i x2 → IsZipHeld h' z TI TO T true → St1 (i + 1) h' → St2 (i + 1) h' → IsTupOf2 h' s.heap.objs.size x1 x2 → h'.objs.size = s.heap.objs.size + 1 →
      (∀ c o, c ≠ z → c ≠ i1 → c ≠ i2 → s.heap.get? c = some o → h'.get? c = some o) → Q (.ref s.heap.objs.size) { s with heap := h', toks := tk }) :
    wpAny (model prog w) A (Builtin.«zip.__next__» ⟨[.ref z], []⟩) (fun fin s' => ∃ v, fin = .done (.ret v) ∧ Q v s') E s := by
  obtain ⟨hp, g, d, tk0, os⟩ := s
  show wpAny _ _ (field (.ref z) 2 >>= _) _ _ _
  refine wpAny_bind (wpAny_field hz rfl (x := .bool false) rfl ?_)
  show wpAny _ _ (field (.ref z) 3 >>= _) _ _ _
  refine wpAny_bind (wpAny_field hz rfl (x := .ref TI) rfl ?_)
  refine wpAny_bind (wpAny_seqItems hTI rfl ?_)
  show wpAny _ _ (Builtin.SmallTypes.ownedTupleIsFree (.ref z) >>= _) _ _ _
  refine wpAny_bind (wpAny_tupleHeld_zip hz hT fun g0 hz0 b0 => ?_)
  simp only [Bool.false_eq_true, if_false]
  refine wpAny_bind ?_
  rw [← Array.forIn_toList]
  simp only [List.forIn_cons, List.forIn_nil]
  refine wpAny_bind (wpAny_bind (wpAny_holding ?_))
  show wpAny _ _ (Builtin.SmallTypes.nextOf (.ref i1) >>= _) _ _ ⟨g0, g, d, tk0, os⟩
  refine wpAny_bind (D1.item i _ _ _ lt1 (D1.over st1 b0 S.zf1) fun x1 p1 tk1 y1 s1 b1 => wpAny_pure (wpAny_pure ?_))
  replace b1 : Heap.SameBut i1 g0 p1 := b1
  refine wpAny_bind (wpAny_bind (wpAny_holding ?_))
  show wpAny _ _ (Builtin.SmallTypes.nextOf (.ref i2) >>= _) _ _ ⟨p1, g, d, tk1, os⟩
  refine wpAny_bind (D2.item i _ _ _ lt2 (D2.over (D2.over st2 b0 S.zf2) b1 S.sep1_2) fun x2 p2 tk2 y2 s2 b2 => wpAny_pure (wpAny_pure (wpAny_pure ?_)))
  replace b2 : Heap.SameBut i2 p1 p2 := b2
  show wpAny _ _ (newTuple [x1, x2] >>= _) _ _ _
  refine wpAny_bind (wpAny_newTuple (wpAny_pure ⟨_, rfl, ?_⟩))
  have sz : p2.objs.size = hp.objs.size := by rw [b2.1, b1.1, b0.1]
  have keep : ∀ c o, c ≠ z → c ≠ i1 → c ≠ i2 → hp.get? c = some o → p2.get? c = some o := fun c o c0 c1 c2 e => b2.extBut _ _ c2 (b1.extBut _ _ c1 (b0.extBut _ _ c0 e))
  show Q (.ref p2.objs.size) _
  have at_ : IsTupOf2 (p2.push { cls := .type "tuple", data := .seq #[x1, x2] }) p2.objs.size x1 x2 := Heap.get?_push_size _ rfl
  have sz2 : (p2.push { cls := .type "tuple", data := .seq #[x1, x2] }).objs.size = p2.objs.size + 1 := Heap.size_push ..
  rw [sz] at at_ sz2 ⊢
  exact hQ x1 x2 _ tk2 y1 y2 (Heap.get?_push_of_some _ (b2.extBut _ _ S.zi2 (b1.extBut _ _ S.zi1 hz0))) (D1.frame _ _ _ (D1.over s1 b2 S.sep2_1) fun b _ o e => Heap.get?_push_of_some _ e) (D2.frame _ _ _ s2 fun b _ o e => Heap.get?_push_of_some _ e) at_ sz2
    fun c o c0 c1 c2 e => Heap.get?_push_of_some _ (keep c o c0 c1 c2 e)
theorem zipH_end {Q : Fin → Shared → Prop} (S : ZipSep2 z TI TO i1 i2 fp1 fp2) (D1 : Draws prog w A i1 fp1 n1 P1 St1)
    (hz : IsZipHeld s.heap z TI TO T f) (hT : s.heap.get? T = some oT) (hTI : IsTupOf2 s.heap TI (.ref i1) (.ref i2)) (st1 : St1 n1 s.heap)
    (hE : ∀ h' e, (∀ c o, c ≠ z → c ≠ i1 → c ≠ i2 → s.heap.get? c = some o → h'.get? c = some o) → (∃ o, h'.get? e = some o ∧ o.cls = .type "StopIteration") → E (.ref e) { s with heap := h' }) :
    wpAny (model prog w) A (Builtin.«zip.__next__» ⟨[.ref z], []⟩) Q E s := by
  obtain ⟨hp, g, d, tk0, os⟩ := s
  show wpAny _ _ (field (.ref z) 2 >>= _) _ _ _
  refine wpAny_bind (wpAny_field hz rfl (x := .bool false) rfl ?_)
  show wpAny _ _ (field (.ref z) 3 >>= _) _ _ _
  refine wpAny_bind (wpAny_field hz rfl (x := .ref TI) rfl ?_)
  refine wpAny_bind (wpAny_seqItems hTI rfl ?_)
  show wpAny _ _ (Builtin.SmallTypes.ownedTupleIsFree (.ref z) >>= _) _ _ _
  refine wpAny_bind (wpAny_tupleHeld_zip hz hT fun g0 hz0 b0 => ?_)
  simp only [Bool.false_eq_true, if_false]
  refine wpAny_bind ?_
  rw [← Array.forIn_toList]
  simp only [List.forIn_cons, List.forIn_nil]
  refine wpAny_bind (wpAny_bind (wpAny_holding ?_))
  show wpAny _ _ (Builtin.SmallTypes.nextOf (.ref i1) >>= _) _ _ ⟨g0, g, d, tk0, os⟩
  refine wpAny_bind (D1.done ⟨g0, g, d, tk0, os⟩ _ _ (D1.over st1 b0 S.zf1) fun q e hq he => ?_)
  replace hq : Heap.ExtBut i1 g0 q := hq
  exact hE q e (fun c o c0 c1 _ x => hq _ _ c1 (b0.extBut _ _ c0 x)) he
theorem nextH_item {Q : Option Value → Shared → Prop} (S : ZipSep2 z TI TO i1 i2 fp1 fp2) (D1 : Draws prog w A.in1 i1 fp1 n1 P1 St1) (D2 : Draws prog w A.in1 i2 fp2 n2 P2 St2)
    (hz : IsZipHeld s.heap z TI TO T f) (hT : s.heap.get? T = some oT) (hTI : IsTupOf2 s.heap TI (.ref i1) (.ref i2)) (st1 : St1 i s.heap) (st2 : St2 i s.heap) (lt1 : i < n1) (lt2 : i < n2)
    (hQ : ∀ x1 x2 h' tk, P1 i x1 → P2 i x2 → IsZipHeld h' z TI TO T true → St1 (i + 1) h' → St2 (i + 1) h' → IsTupOf2 h' s.heap.objs.size x1 x2 → h'.objs.size = s.heap.objs.size + 1 →
      (∀ c o, c ≠ z → c ≠ i1 → c ≠ i2 → s.heap.get? c = some o → h'.get? c = some o) → Q (some (.ref s.heap.objs.size)) { s with heap := h', toks := tk }) : wpAny (model prog w) A (pyNext (.ref z)) Q E s := by
  have ty : s.TypeIs (.ref z) "zip" := ⟨_, hz, rfl⟩
  unfold pyNext
  exact wpAny_bind (wpAny_attempt (wpAny_callSpecial?_slot (name := Str.ofString "__next__") ty F.slot_zip_next
    (wpAny_call_entry F.slot_zip_next ty F.entry_zip_next (zipH_item S D1 D2 hz hT hTI st1 st2 lt1 lt2 fun x1 x2 h' tk a1 a2 a3 a4 a5 a6 a7 a8 => wpAny_pure (hQ x1 x2 h' tk a1 a2 a3 a4 a5 a6 a7 a8)) (F.args_zip_next_1 _))))
theorem nextH_end {Q : Option Value → Shared → Prop} (S : ZipSep2 z TI TO i1 i2 fp1 fp2) (D1 : Draws prog w A.in1 i1 fp1 n1 P1 St1)
    (hz : IsZipHeld s.heap z TI TO T f) (hT : s.heap.get? T = some oT) (hTI : IsTupOf2 s.heap TI (.ref i1) (.ref i2)) (st1 : St1 n1 s.heap)
    (hQ : ∀ h', (∀ c o, c ≠ z → c ≠ i1 → c ≠ i2 → s.heap.get? c = some o → h'.get? c = some o) → Q none { s with heap := h' }) : wpAny (model prog w) A (pyNext (.ref z)) Q E s := by
  have ty : s.TypeIs (.ref z) "zip" := ⟨_, hz, rfl⟩
  unfold pyNext
  refine wpAny_bind (wpAny_attempt (wpAny_callSpecial?_slot (name := Str.ofString "__next__") ty F.slot_zip_next
    (wpAny_call_entry F.slot_zip_next ty F.entry_zip_next (zipH_end S D1 hz hT hTI st1 fun h' e hk he => ?_) (F.args_zip_next_1 _))))
  obtain ⟨o, ho, hc⟩ := he
  exact wpAny_bind (wpAny_isInstance (T := "StopIteration") (b := true) ⟨o, ho, hc⟩ isSubtype_stop (wpAny_pure (hQ _ hk)))
end
section
variable {prog : Program} {w : World} {A : Around} {s0 : Shared} {R : Result → Shared → Prop} {S z TI TO i1 i2 : Addr} {fp1 fp2 : List Addr} {n : Nat} {P1 P2 : Nat → Value → Prop} {St1 St2 : Nat → Heap → Prop} {res : Value}
/-- how far the draining has come: ts the pairs -/
structure ZAt (s0 : Shared) (S z TI TO i1 i2 : Addr) (P1 P2 : Nat → Value → Prop) (St1 St2 : Nat → Heap → Prop) (i : Nat) (ts : List Addr) (s : Shared) : Prop where
  like : s.gens = s0.gens ∧ s.drawn = s0.drawn ∧ s.os = s0.os
  lst : ∃ c, s.heap.get? S = some (lstObj (ts.map Value.ref).toArray c)
  len : ts.length = i
  held : (IsZip s.heap z TI TO .none ∧ ∃ a1 a2, IsTupOf2 s.heap TO a1 a2) ∨ ∃ T f oT, IsZipHeld s.heap z TI TO T f ∧ s.heap.get? T = some oT ∧ T ≠ S ∧ T ≠ z ∧ T ≠ i1 ∧ T ≠ i2
  to : ∃ o, s.heap.get? TO = some o
  ti : IsTupOf2 s.heap TI (.ref i1) (.ref i2)
  one : St1 i s.heap
  two : St2 i s.heap
  prs : ∀ (k : Nat) (t : Addr), ts[k]? = some t → s0.heap.objs.size ≤ t ∧ ∃ x y, P1 k x ∧ P2 k y ∧ IsTupOf2 s.heap t x y
  dup : ts.Nodup
  apart : ∀ t ∈ ts, t ≠ S ∧ t ≠ z ∧ t ≠ TO ∧ t ≠ i1 ∧ t ≠ i2
  keep : ∀ c o, c ≠ S → c ≠ z → c ≠ TO → c ≠ i1 → c ≠ i2 → s0.heap.get? c = some o → s.heap.get? c = some o
  size : s0.heap.objs.size ≤ s.heap.objs.size
theorem zdrain (Z : ZipSep2 z TI TO i1 i2 fp1 fp2) (D1 : Draws prog w A.in1.in1 i1 fp1 n P1 St1) (D2 : Draws prog w A.in1.in1 i2 fp2 n P2 St2) (hS : S ≠ z ∧ S ≠ TI ∧ S ≠ TO ∧ S ∉ fp1 ∧ S ∉ fp2 ∧ S ≠ i1 ∧ S ≠ i2) (hn : n < sizeLine) (hh : A.handled = none)
    (hend : ∀ (s : Shared) (ts : List Addr), (∃ c, s.heap.get? S = some (lstObj (ts.map Value.ref).toArray c)) → ts.length = n → s.gens = s0.gens ∧ s.drawn = s0.drawn ∧ s.os = s0.os →
      (∀ (k : Nat) (t : Addr), ts[k]? = some t → s0.heap.objs.size ≤ t ∧ ∃ x y, P1 k x ∧ P2 k y ∧ IsTupOf2 s.heap t x y) → ts.Nodup → (∀ t ∈ ts, t ≠ S) →
      (∀ c o, c ≠ S → c ≠ z → c ≠ TO → c ≠ i1 → c ≠ i2 → s0.heap.get? c = some o → s.heap.get? c = some o) → R (.ok (.ret res)) s) :
    ∀ (m i : Nat) (ts : List Addr) (s : Shared), i + m = n → ZAt s0 S z TI TO i1 i2 P1 P2 St1 St2 i ts s → codeAny (model prog w) A (.builtin "list.extend.loop" ⟨[.ref S, .ref z, res], []⟩) R s := by
  intro m
  induction m with
  | zero =>
    intro i ts s him st
    refine codeAny_builtin F.entry_extend_loop ?_
    rw [Around.under_plainId F.plain_extend_loop _]
    show wpAny _ A.in1 (pyNext (.ref z) >>= _) _ _ s
    have ein : i = n := by omega
    subst ein
    obtain ⟨c, hl⟩ := st.lst
    have fin : ∀ h' tk, (∀ c o, c ≠ z → c ≠ TO → c ≠ i1 → c ≠ i2 → s.heap.get? c = some o → h'.get? c = some o) → R (.ok (.ret res)) { s with heap := h', toks := tk } := fun h' tk k =>
      hend _ ts ⟨c, k _ _ hS.1 hS.2.2.1 hS.2.2.2.2.2.1 hS.2.2.2.2.2.2 hl⟩ st.len st.like (fun k1 t e => by
        obtain ⟨b0, x, y, b1, b2, b3⟩ := st.prs k1 t e
        obtain ⟨_, a2, a3, a4, a5⟩ := st.apart t (List.mem_of_getElem? e)
        exact ⟨b0, x, y, b1, b2, k _ _ a2 a3 a4 a5 b3⟩) st.dup (fun t ht => (st.apart t ht).1) fun b o b0 b1 b2 b3 b4 e => k _ _ b1 b2 b3 b4 (st.keep b o b0 b1 b2 b3 b4 e)
    rcases st.held with ⟨hz, a1, a2, hTO⟩ | ⟨T, f, oT, hz, hT, _⟩
    · exact wpAny_bind (wpAny_pyNext_zipD2_end Z D1 D2 hz st.ti hTO st.one st.two (Nat.le_refl _) (Nat.le_refl _) (.inl rfl) fun h' tk k => wpAny_pure (fin h' tk k))
    · exact wpAny_bind (nextH_end Z D1 hz hT st.ti st.one fun h' k => wpAny_pure (fin h' s.toks fun c o c1 c2 c3 c4 e => k c o c1 c3 c4 e))
  | succ m ih =>
    intro i ts s him st
    refine codeAny_builtin F.entry_extend_loop ?_
    rw [Around.under_plainId F.plain_extend_loop _]
    show wpAny _ A.in1 (pyNext (.ref z) >>= _) _ _ s
    have lt : i < n := by omega
    obtain ⟨c, hl⟩ := st.lst
    have hlen : (ts.map Value.ref).toArray.size = i := by rw [List.size_toArray, List.length_map, st.len]
    have zlt : ∀ {b o}, s.heap.get? b = some o → b ≠ s.heap.objs.size := fun {b o} e => Nat.ne_of_lt (Heap.lt_size e)
    obtain ⟨o1, e1⟩ := D1.live _ _ st.one
    obtain ⟨o2, e2⟩ := D2.live _ _ st.two
    -- the pair goes on to the list
    have go : ∀ x1 x2 h' tk (T : Addr) (f : Bool), P1 i x1 → P2 i x2 → IsZipHeld h' z TI TO T f → (∃ oT, h'.get? T = some oT) → (∃ oO, h'.get? TO = some oO) → T ≠ S ∧ T ≠ z ∧ T ≠ i1 ∧ T ≠ i2 → St1 (i + 1) h' → St2 (i + 1) h' → IsTupOf2 h' s.heap.objs.size x1 x2 → h'.objs.size = s.heap.objs.size + 1 → s.heap.objs.size ≠ z → s.heap.objs.size ≠ TO →
        (∀ c o, c ≠ z → c ≠ TO → c ≠ i1 → c ≠ i2 → s.heap.get? c = some o → h'.get? c = some o) →
        wpAny (model prog w) A.in1 (updateSeq S (·.push (.ref s.heap.objs.size)) >>= fun _ => again (.builtin "list.extend.loop" ⟨[.ref S, .ref z, res], []⟩))
          (fun fin s' => match fin with | .done f => R (.ok f) s' | .again c' => c'.quiet = true ∧ codeAny (model prog w) A c' R s') (fun e s' => R (.error e) s') { s with heap := h', toks := tk } := fun x1 x2 h' tk T f y1 y2 hz ⟨oT, hT⟩ ⟨oO, hO⟩ nT q1 q2 hp hs nz nTO k => by
      have hl' : h'.get? S = some (lstObj (ts.map Value.ref).toArray c) := k _ _ hS.1 hS.2.2.1 hS.2.2.2.2.2.1 hS.2.2.2.2.2.2 hl
      have nS : s.heap.objs.size ≠ S := (zlt hl).symm
      refine wpAny_bind (wpAny_updateSeq hl' rfl (wpAny_pure ⟨plainId_quiet F.plain_extend_loop _, ?_⟩) (by rw [hlen]; omega) (by show ((ts.map Value.ref).toArray.push _).size ≤ _; rw [Array.size_push, hlen]; omega))
      have far : ∀ b o, b ≠ S → h'.get? b = some o → (h'.update S (Obj.mapSeq (·.push (.ref s.heap.objs.size)))).get? b = some o := fun b o hb e => (Heap.get?_update_other _ _ (Ne.symm hb)).trans e
      have l2 : ∃ c2, (h'.update S (Obj.mapSeq (·.push (.ref s.heap.objs.size)))).get? S = some (lstObj ((ts ++ [s.heap.objs.size]).map Value.ref).toArray c2) := by
        have e : ((ts ++ [s.heap.objs.size]).map Value.ref).toArray = (ts.map Value.ref).toArray.push (.ref s.heap.objs.size) := by simp
        rw [e]
        exact ⟨_, Heap.get?_update_self _ hl' rfl⟩
      refine ih (i + 1) (ts ++ [s.heap.objs.size]) _ (by omega) ⟨st.like, l2, by rw [List.length_append, st.len]; rfl, .inr ⟨T, f, oT, far _ _ (Ne.symm hS.1) hz, far _ _ nT.1 hT, nT⟩, ⟨oO, far _ _ (Ne.symm hS.2.2.1) hO⟩, far _ _ (Ne.symm hS.2.1) (k _ _ Z.TIz Z.TITO Z.TIi1 Z.TIi2 st.ti),
        D1.frame _ _ _ q1 fun b hb o e => far b o (fun e' => hS.2.2.2.1 (e' ▸ hb)) e, D2.frame _ _ _ q2 fun b hb o e => far b o (fun e' => hS.2.2.2.2.1 (e' ▸ hb)) e, fun k1 t e => ?_, ?_, fun t ht => ?_, fun b o b0 b1 b2 b3 b4 e => far _ _ b0 (k _ _ b1 b2 b3 b4 (st.keep b o b0 b1 b2 b3 b4 e)), ?_⟩
      · by_cases hk : k1 < ts.length
        · rw [List.getElem?_append_left hk] at e
          obtain ⟨b0, x, y, b1, b2, b3⟩ := st.prs k1 t e
          obtain ⟨a1, a2, a3, a4, a5⟩ := st.apart t (List.mem_of_getElem? e)
          exact ⟨b0, x, y, b1, b2, far _ _ a1 (k _ _ a2 a3 a4 a5 b3)⟩
        · rw [List.getElem?_append_right (by omega)] at e
          have k0 : k1 - ts.length = 0 := by
            have z := (List.getElem?_eq_some_iff.mp e).1
            simp at z
            omega
          rw [k0] at e
          obtain rfl : s.heap.objs.size = t := Option.some.inj e
          have ek : k1 = i := by rw [← st.len]; omega
          subst ek
          exact ⟨st.size, x1, x2, y1, y2, far _ _ nS hp⟩
      · rw [List.nodup_append]
        refine ⟨st.dup, List.nodup_cons.mpr ⟨List.not_mem_nil, List.nodup_nil⟩, fun a ha b hb => ?_⟩
        obtain rfl : b = s.heap.objs.size := by simpa using hb
        obtain ⟨k1, hk1⟩ := List.mem_iff_getElem?.mp ha
        obtain ⟨_, x, y, _, _, b3⟩ := st.prs k1 a hk1
        exact zlt b3
      · rcases List.mem_append.mp ht with ht | ht
        · exact st.apart t ht
        · obtain rfl : t = s.heap.objs.size := by simpa using ht
          exact ⟨nS, nz, nTO, (zlt e1).symm, (zlt e2).symm⟩
      · show s0.heap.objs.size ≤ (h'.update S _).objs.size
        rw [Heap.size_update, hs]
        exact Nat.le_succ_of_le st.size
    rcases st.held with ⟨hz, a1, a2, hTO⟩ | ⟨T, f, oT, hz, hT, nT⟩
    · refine wpAny_bind (wpAny_pyNext_zipD2_item Z D1 D2 hz st.ti hTO st.one st.two lt lt fun x1 x2 h' tk y1 y2 b1 b2 b3 b4 b5 b6 b7 => ?_)
      exact go x1 x2 h' tk s.heap.objs.size false y1 y2 b1 ⟨_, b5⟩ ⟨_, b2⟩ ⟨(zlt hl).symm, (zlt hz).symm, (zlt e1).symm, (zlt e2).symm⟩ b3 b4 b5 b6 (zlt hz).symm (zlt hTO).symm b7
    · have hzz := hz
      refine wpAny_bind (nextH_item Z D1 D2 hz hT st.ti st.one st.two lt lt fun x1 x2 h' tk y1 y2 b1 b3 b4 b5 b6 b7 => ?_)
      obtain ⟨oO, hO⟩ := st.to
      exact go x1 x2 h' tk T true y1 y2 b1 ⟨oT, b7 _ _ nT.2.1 nT.2.2.1 nT.2.2.2 hT⟩ ⟨oO, b7 _ _ Z.TOz Z.Ti1 Z.Ti2 hO⟩ nT b3 b4 b5 b6 (zlt hz).symm (zlt hO).symm (fun c o c1 c2 c3 c4 e => b7 c o c1 c3 c4 e)
end
section
variable {prog : Program} {w : World} {A : Around} {E : Value → Shared → Prop} {s : Shared} {z TI TO i1 i2 : Addr} {fp1 fp2 : List Addr} {n : Nat} {P1 P2 : Nat → Value → Prop} {St1 St2 : Nat → Heap → Prop} {a1 a2 : Value}
/-- list(a zip that stands at its beginning) -/
theorem call_list_zip {Q : Value → Shared → Prop} (hh : A.handled = none) (Z : ZipSep2 z TI TO i1 i2 fp1 fp2) (D1 : ∀ A', A'.handled = none → Draws prog w A' i1 fp1 n P1 St1) (D2 : ∀ A', A'.handled = none → Draws prog w A' i2 fp2 n P2 St2) (hn : n < sizeLine)
    (hz : IsZip s.heap z TI TO .none) (hTO : IsTupOf2 s.heap TO a1 a2) (hTI : IsTupOf2 s.heap TI (.ref i1) (.ref i2)) (st1 : St1 0 s.heap) (st2 : St2 0 s.heap) (l1 : ∀ b ∈ fp1, b < s.heap.objs.size) (l2 : ∀ b ∈ fp2, b < s.heap.objs.size)
    (hQ : ∀ s2 (ts : List Addr), (∃ c, s2.heap.get? s.heap.objs.size = some (lstObj (ts.map Value.ref).toArray c)) → ts.length = n → s2.gens = s.gens ∧ s2.drawn = s.drawn ∧ s2.os = s.os →
      (∀ (k : Nat) (t : Addr), ts[k]? = some t → s.heap.objs.size ≤ t ∧ ∃ x y, P1 k x ∧ P2 k y ∧ IsTupOf2 s2.heap t x y) → ts.Nodup → (∀ t ∈ ts, t ≠ s.heap.objs.size) →
      (∀ c o, c ≠ s.heap.objs.size → c ≠ z → c ≠ TO → c ≠ i1 → c ≠ i2 → s.heap.get? c = some o → s2.heap.get? c = some o) → Q (.ref s.heap.objs.size) s2) :
    wpAny (model prog w) A (call (.type "list") [.ref z]) Q E s := by
  have zlt : ∀ {b o}, s.heap.get? b = some o → b ≠ s.heap.objs.size := fun {b o} e => Nat.ne_of_lt (Heap.lt_size e)
  refine callType_codes (Q₁ := fun obj s1 => obj = .ref s.heap.objs.size ∧ s1 = { s with heap := s.heap.push { cls := .type "list", data := .seq #[] } }) F.called_list (F.typeCall_list_1 _) F.entry_list_init
    (code_list_new _ ⟨rfl, rfl⟩) fun obj s1 h1 => ?_
  obtain ⟨rfl, rfl⟩ := h1
  have hS : (s.heap.push { cls := .type "list", data := .seq #[] }).get? s.heap.objs.size = some { cls := .type "list", data := .seq #[] } := Heap.get?_push_size _ rfl
  refine ⟨⟨_, hS, rfl⟩, F.args_list_init_2 _ _, ?_⟩
  show wpAny _ A.in1.in1 (do let old ← Builtin.List.listItems (.ref s.heap.objs.size); Builtin.List.listUpdate (.ref s.heap.objs.size) (fun _ => #[]); letGo old.toList.reverse; Builtin.List.listExtendWith (.ref s.heap.objs.size) (.ref z) .none) _ _ _
  refine wpAny_bind ?_
  unfold Builtin.List.listItems
  refine wpAny_bind (wpAny_seqItems hS rfl (wpAny_pure ?_))
  show wpAny _ A.in1.in1 (updateSeq s.heap.objs.size (fun _ => #[]) >>= fun _ => letGo (#[] : Array Value).toList.reverse >>= fun _ => Builtin.List.listExtendWith (.ref s.heap.objs.size) (.ref z) .none) _ _ _
  refine wpAny_bind (wpAny_updateSeq hS rfl ?_)
  have hS2 := Heap.get?_update_self (Obj.mapSeq (fun _ => (#[] : Array Value))) hS rfl
  refine wpAny_bind (wpAny_letGo ?_)
  unfold Builtin.List.listExtendWith
  have up : ∀ (h : Heap) (f : Obj → Obj), (∀ b o, s.heap.get? b = some o → h.get? b = some o) → ∀ b o, s.heap.get? b = some o → (h.update s.heap.objs.size f).get? b = some o := fun h f q b o e =>
    (Heap.get?_update_other _ _ (Ne.symm (zlt e))).trans (q b o e)
  have k1 : ∀ b o, s.heap.get? b = some o → (s.heap.push { cls := .type "list", data := .seq #[] }).get? b = some o := fun b o e => Heap.get?_push_of_some _ e
  have k2 := up _ (Obj.mapSeq (fun _ => (#[] : Array Value))) k1
  have gty : ∀ {h : Heap} {A' : Shared}, (∀ b o, s.heap.get? b = some o → h.get? b = some o) → A'.heap = h → A'.TypeIs (.ref z) "zip" := fun {h A'} q e => ⟨_, by rw [e]; exact q _ _ hz, rfl⟩
  refine wpAny_bind (wpAny_typeOf (gty k2 rfl) ?_)
  have e1 : Builtin.List.listSameRef (.ref s.heap.objs.size) (.ref z) = false := by simp [Builtin.List.listSameRef, (zlt hz).symm]
  have e2 : (Value.type "zip" == Value.type "list") = false := by decide
  have e3 : (Value.type "zip" == Value.type "tuple") = false := by decide
  simp only [e1, e2, e3, Bool.or_false, Bool.false_eq_true, if_false]
  refine wpAny_bind (wpAny_pyIter_zip (s := { s with heap := _ }) (k2 _ _ hz) ?_)
  refine wpAny_bind (wpAny_holding ?_)
  unfold Builtin.List.listLengthHint
  refine wpAny_bind (wpAny_specialOf (gty k2 rfl) zip_len0 ?_)
  show wpAny _ A.in1.in1 (specialOf (Value.ref z) (Str.ofString "__length_hint__") >>= _) _ _ _
  refine wpAny_bind (wpAny_specialOf (gty k2 rfl) zip_hint0 ?_)
  refine wpAny_pure ?_
  show wpAny _ A.in1.in1 (rule "list.extend.makes-room" >>= fun _ => Builtin.List.listTouch (.ref s.heap.objs.size) >>= fun _ =>
    again (.builtin "list.extend.loop" ⟨[.ref s.heap.objs.size, .ref z, .none], []⟩)) _ _ _
  refine wpAny_bind (wpAny_rule ?_)
  refine wpAny_bind ?_
  show wpAny _ A.in1.in1 (updateSeq s.heap.objs.size (·.push .none) >>= fun _ => updateSeq s.heap.objs.size (·.pop)) _ _ _
  refine wpAny_bind (wpAny_updateSeq hS2 rfl ?_)
  have hS3 := Heap.get?_update_self (Obj.mapSeq (·.push Value.none)) hS2 rfl
  refine wpAny_updateSeq (hz := by seq_fits) hS3 rfl ?_
  have hS4 := Heap.get?_update_self (Obj.mapSeq (·.pop)) hS3 rfl
  have k4 := up _ (Obj.mapSeq (·.pop)) (up _ (Obj.mapSeq (·.push Value.none)) k2)
  refine wpAny_pure ⟨plainId_quiet F.plain_extend_loop _, ?_⟩
  obtain ⟨o1, c1⟩ := (D1 A hh).live _ _ st1
  obtain ⟨o2, c2⟩ := (D2 A hh).live _ _ st2
  have out1 : s.heap.objs.size ∉ fp1 := fun hm => Nat.lt_irrefl _ (l1 _ hm)
  have out2 : s.heap.objs.size ∉ fp2 := fun hm => Nat.lt_irrefl _ (l2 _ hm)
  refine zdrain (A := A.in1) (s0 := s) (S := s.heap.objs.size) Z (D1 _ hh) (D2 _ hh) ⟨(zlt hz).symm, (zlt hTI).symm, (zlt hTO).symm, out1, out2, (zlt c1).symm, (zlt c2).symm⟩ hn hh
    (fun s' ts q1 q2 q3 q4 q5 q6 q7 => ⟨rfl, hQ s' ts q1 q2 q3 q4 q5 q6 q7⟩) n 0 [] _ (by omega) ⟨⟨rfl, rfl, rfl⟩, ⟨_, hS4⟩, rfl, .inl ⟨k4 _ _ hz, a1, a2, k4 _ _ hTO⟩, ⟨_, k4 _ _ hTO⟩, k4 _ _ hTI, (D1 A hh).frame _ _ _ st1 fun b _ o e => k4 b o e, (D2 A hh).frame _ _ _ st2 fun b _ o e => k4 b o e,
      fun k t e => (nomatch (show (none : Option Addr) = some t from e)), List.nodup_nil, fun t ht => absurd ht List.not_mem_nil, fun c o _ _ _ _ _ e => k4 c o e, ?_⟩
  show s.heap.objs.size ≤ Array.size _
  rw [Heap.size_update, Heap.size_update, Heap.size_update, Heap.size_push]
  exact Nat.le_succ _
end
section
variable {X : Cx} {pins : List (Addr × Obj)} {σ : L2.St} {H : Hp} {s : Shared}
/-- a list or a tuple -/
abbrev SqA (K : PySem.W.Frag) (H : Hp) (a : Addr) (xs : List V) : Prop := SqL K H a xs ∨ SqT K H a xs
theorem sq_draws (I : Inv X pins σ H s) {a : Addr} {xs : List V} (h : SqA X.K H a xs) : ∃ (its : List Value) (o : Obj) (Hh : Heap → Prop), Vals xs its ∧ xs.length ≤ sizeLine ∧ a < s.heap.objs.size ∧ Begins (.ref a) o Hh ∧ Hh s.heap ∧
    ∀ (prog : Program) (w : World) (N : Addr), a ≠ N → ∃ St : Nat → Heap → Prop, (∀ h', h'.get? N = some o → Hh h' → St 0 h') ∧ ∀ A', A'.handled = none → Draws prog w A' N [N, a] xs.length (fun i v => its[i]? = some v) St := by
  rcases h with h | h
  · obtain ⟨its, r, p, hz⟩ := I.list h
    have hl := r.length
    refine ⟨its, _, _, r, hz, p.lt, begins_list a its.toArray, p.isList, fun prog w N ne => ⟨fun i h' => h'.IsListIter N a i ∧ h'.IsList a its.toArray, fun h' e k => ⟨⟨_, e, rfl, rfl⟩, k⟩, fun A' hA => ?_⟩⟩
    have D := Draws.list (prog := prog) (w := w) (A := A') hA N a ne its.toArray
    rw [List.size_toArray, ← hl] at D
    simpa using D
  · obtain ⟨its, r, p, hz⟩ := I.tuple h
    have hl := r.length
    refine ⟨its, _, _, r, hz, p.lt, begins_tuple a its.toArray, (show s.heap.IsTuple a its.toArray from p), fun prog w N ne => ⟨fun i h' => h'.IsTupleIter N a i ∧ h'.IsTuple a its.toArray, fun h' e k => ⟨⟨_, e, rfl, rfl⟩, k⟩, fun A' hA => ?_⟩⟩
    have D := Draws.tuple (prog := prog) (w := w) (A := A') hA N a ne its.toArray
    rw [List.size_toArray, ← hl] at D
    simpa using D
/-- new untracked pairs are tracked -/
theorem take_pairs {ts : List Addr} (ok : ∀ (t : Addr) (H' : Hp), t ∈ ts → H' t = none → FpOk X pins H' t) : ∀ (rows : List (Addr × V × V)) (H : Hp), Inv X pins σ H s → (rows.map (·.1)).Nodup → (∀ r ∈ rows, r.1 ∈ ts ∧ H r.1 = none ∧ ∃ x y, RelV r.2.1 x ∧ RelV r.2.2 y ∧ IsTupOf2 s.heap r.1 x y) →
    ∃ H2, Inv X pins σ H2 s ∧ Same H H2 ∧ (∀ r ∈ rows, H2 r.1 = some (.tup [r.2.1, r.2.2])) ∧ ∀ b, b ∉ rows.map (·.1) → H2 b = H b
  | [], H, I, _, _ => ⟨H, I, Same.refl H, fun r h => absurd h List.not_mem_nil, fun _ _ => rfl⟩
  | r :: rows, H, I, nd, h => by
    obtain ⟨t, x, y⟩ := r
    obtain ⟨m0, n0, u, v, ru, rv, e⟩ := h _ List.mem_cons_self
    rw [List.map_cons, List.nodup_cons] at nd
    have I2 : Inv X pins σ (upd H t (.tup [x, y])) s := I.take (h' := s.heap) (t' := s.toks) (fun b o _ q => q) (ok t H m0 n0) ⟨by show 2 ≤ sizeLine; decide, [u, v], .cons ru (.cons rv .nil), ⟨_, e, rfl, _, rfl⟩⟩
    obtain ⟨H2, J, sm, all, off⟩ := take_pairs ok rows _ I2 nd.2 fun r hr => by
      obtain ⟨a, b, c⟩ := h r (List.mem_cons_of_mem _ hr)
      refine ⟨a, ?_, c⟩
      rw [upd_ne fun z => nd.1 (by have m := List.mem_map_of_mem (f := fun q : Addr × V × V => q.1) hr; rw [z] at m; exact m)]
      exact b
    refine ⟨H2, J, fun b o q => sm b o (by rw [upd_ne (ne_of_none q n0)]; exact q), fun r hr => ?_, fun b hb => ?_⟩
    · rcases List.mem_cons.mp hr with rfl | hr
      · exact sm _ _ upd_same
      · exact all r hr
    · rw [List.map_cons, List.mem_cons, not_or] at hb
      rw [off b hb.2, upd_ne hb.1]
/-- list(zip(a, b)), a and b of one length -/
def tLz (K : PySem.W.Frag) (ta : TA) : TE := fun σ H Q => ta σ H fun vs H1 => ∃ (a b : Addr) (xs ys : List V), vs = [.ref a, .ref b] ∧ SqA K H1 a xs ∧ SqA K H1 b ys ∧ xs.length = ys.length ∧ xs.length < sizeLine ∧
  ∀ (ts : List Addr) (H2 : Hp) (p : Addr), Same H1 H2 → ts.length = xs.length → (∀ (k : Nat) (t : Addr), ts[k]? = some t → ∃ x y, xs[k]? = some x ∧ ys[k]? = some y ∧ H2 t = some (.tup [x, y])) → H2 p = none → Q (.ref p) (upd H2 p (.lst (ts.map V.ref)))
theorem pe_lz {e1 e2 : Expr} {ta : TA} {p p2 pos pos2 : Pos} (hc : X.calm = true) (hg : Gl X "list") (hm : X.mg "list" = none) (hg2 : Gl X "zip") (hm2 : X.mg "zip" = none) (ha : PA X [e1, e2] ta)
    (hs : starEach [e1, e2] X.env = (false, eval e1 X.env) :: starEach [e2] X.env := by rfl) (hpl : (backTo pos2 (starEach [e2] X.env)).any (·.1) = false := by rfl)
    (hs2 : starEach [.Call (.Name "zip" p2) [e1, e2] [] pos2] X.env = (false, eval (.Call (.Name "zip" p2) [e1, e2] [] pos2) X.env) :: starEach [] X.env := by rfl) (hpl2 : (backTo pos (starEach [] X.env)).any (·.1) = false := by rfl) :
    PE X (.Call (.Name "list" p) [.Call (.Name "zip" p2) [e1, e2] [] pos2] [] pos) (tLz X.K ta) := by
  refine ⟨fun pins s σ H Q I h => ?_⟩
  refine Call_ (ld_blt I hg hm PyProof.Rows.boot_list (PyProof.Rows.callWith_type1 ?_ hs2 hpl2))
  rw [hs2]
  refine Calls.spliced_cons (thn (Q := fun v s2 => wpAny (model X.prog X.w) X.A (call (.type "list") [v]) (EP X pins σ Q) X.xe s2) ?_ fun v s2 q => Calls.spliced_nil q)
  refine Call_ (ld_blt I hg2 hm2 PyProof.Rows.boot_zip (PyProof.Rows.callWith_type1 (thn (ha.run pos2 pins s σ H _ I h) fun us s1 q1 => ?_) hs hpl))
  obtain ⟨vs, H1, I1, r1, a, b, xs, ys, rfl, qa, qb, hl, hsz, q⟩ := q1
  obtain ⟨ua, ub, rfl, ra, rb⟩ := vals2 r1
  cases (show ua = Value.ref a from ra)
  cases (show ub = Value.ref b from rb)
  obtain ⟨ia, oa, Ha, va, za, la, Ba, ha0, da⟩ := sq_draws I1 qa
  obtain ⟨ib, ob, Hb, vb, zb, lb, Bb, hb0, db⟩ := sq_draws I1 qb
  refine zip_begins2 Ba Bb ha0 hb0 fun h' hz hTI hTO g1 g2 hsz5 kp => ?_
  obtain ⟨Sa, sa0, Da⟩ := da X.prog X.w s1.heap.objs.size (Nat.ne_of_lt la)
  obtain ⟨Sb, sb0, Db⟩ := db X.prog X.w (s1.heap.objs.size + 1) (Nat.ne_of_lt (Nat.lt_succ_of_lt lb))
  rw [← hl] at Db
  have big : ∀ {c : Addr}, c < s1.heap.objs.size → c < h'.objs.size := fun {c} hc => by rw [hsz5]; exact Nat.lt_of_lt_of_le hc (Nat.le_add_right _ _)
  have fpa : ∀ c ∈ [s1.heap.objs.size, a], c < h'.objs.size := fun c hcm => by
    have e' : c = s1.heap.objs.size ∨ c = a := by simpa using hcm
    rcases e' with rfl | rfl
    · rw [hsz5]; exact Nat.lt_add_of_pos_right (by decide)
    · exact big la
  have fpb : ∀ c ∈ [s1.heap.objs.size + 1, b], c < h'.objs.size := fun c hcm => by
    have e' : c = s1.heap.objs.size + 1 ∨ c = b := by simpa using hcm
    rcases e' with rfl | rfl
    · rw [hsz5]; exact Nat.add_lt_add_left (by decide) _
    · exact big lb
  refine call_list_zip (s := { s1 with heap := h' }) (I1.ok.hd hc) (zip_sep2 (fp1 := [a]) (fp2 := [b]) (fun c hcm => (show c = a by simpa using hcm) ▸ la) (fun c hcm => (show c = b by simpa using hcm) ▸ lb)) Da Db hsz hz hTO hTI (sa0 _ g1 (Ba.keeps _ _ ha0 kp)) (sb0 _ g2 (Bb.keeps _ _ hb0 kp)) fpa fpb fun s2 ts hl2 len like prs nd noS kp2 => ?_
  have hN : s1.heap.objs.size ≤ h'.objs.size := by rw [hsz5]; exact Nat.le_add_right _ _
  have far : ∀ {c o}, s1.heap.get? c = some o → s2.heap.get? c = some o := fun {c o} e => by
    have lt := Heap.lt_size e
    have nx : ∀ k : Nat, c ≠ s1.heap.objs.size + k := fun k => Nat.ne_of_lt (Nat.lt_of_lt_of_le lt (Nat.le_add_right _ _))
    exact kp2 c o (Nat.ne_of_lt (big lt)) (nx 4) (nx 3) (nx 0) (nx 1) (kp _ _ e)
  have J : Inv X pins σ H1 s2 := by
    obtain ⟨h2, g2', d2, t2, o2⟩ := s2
    obtain ⟨y1, y2, y3⟩ := like
    have y1' : g2' = s1.gens := y1
    have y2' : d2 = s1.drawn := y2
    have y3' : o2 = s1.os := y3
    subst y1' y2' y3'
    exact I1.kept (h' := h2) (t' := t2) fun c o e => far e
  have okT : ∀ (t : Addr) (H' : Hp), t ∈ ts → H' t = none → FpOk X pins H' t := fun t H' ht n => by
    obtain ⟨k, hk⟩ := List.mem_iff_getElem?.mp ht
    exact I1.fpOk (Nat.le_trans hN (prs k t hk).1) n
  -- the rows
  have rows : ∃ rs : List (Addr × V × V), rs.map (·.1) = ts ∧ ∀ (k : Nat) r, rs[k]? = some r → xs[k]? = some r.2.1 ∧ ys[k]? = some r.2.2 := by
    refine ⟨ts.zip (xs.zip ys), ?_, fun k r e => ?_⟩
    · rw [List.map_fst_zip]
      rw [List.length_zip, ← hl, len]
      simp
    · rw [List.getElem?_zip_eq_some] at e
      obtain ⟨_, e2⟩ := e
      rw [List.getElem?_zip_eq_some] at e2
      exact e2
  obtain ⟨rs, hr1, hr2⟩ := rows
  obtain ⟨H2, J2, sm, all, off⟩ := take_pairs okT rs H1 J (by rw [hr1]; exact nd) fun r hr => by
    obtain ⟨k, hk⟩ := List.mem_iff_getElem?.mp hr
    have hkt : ts[k]? = some r.1 := by rw [← hr1, List.getElem?_map, hk]; rfl
    obtain ⟨ge, x, y, px, py, e⟩ := prs k r.1 hkt
    obtain ⟨ex, ey⟩ := hr2 k r hk
    obtain ⟨ux, eux, rx⟩ := va.get ex
    obtain ⟨uy, euy, ry⟩ := vb.get ey
    have px' : ia[k]? = some x := px
    have py' : ib[k]? = some y := py
    rw [eux] at px'
    rw [euy] at py'
    cases px'
    cases py'
    exact ⟨List.mem_of_getElem? hkt, I1.hok.fresh (Nat.le_trans hN ge), x, y, rx, ry, e⟩
  obtain ⟨c, hS⟩ := hl2
  have nS : H2 h'.objs.size = none := by
    rw [off _ fun hm => noS _ (hr1 ▸ hm) rfl]
    exact I1.hok.fresh hN
  have vt : ∀ l : List Addr, Vals (l.map V.ref) (l.map Value.ref) := fun l => by
    induction l with
    | nil => exact .nil
    | cons t r ih => exact .cons rfl ih
  have J3 : Inv X pins σ (upd H2 h'.objs.size (.lst (ts.map V.ref))) s2 := J2.take (h' := s2.heap) (t' := s2.toks) (fun b o _ e => e) (I1.fpOk hN nS) ⟨by rw [List.length_map, len]; exact Nat.le_of_lt hsz, ts.map Value.ref, c, vt ts, hS⟩
  refine ⟨.ref h'.objs.size, _, J3, rfl, q ts H2 h'.objs.size sm len (fun k t e => ?_) nS⟩
  obtain ⟨r, hr⟩ : ∃ r, rs[k]? = some r := by
    have z := (List.getElem?_eq_some_iff.mp e).1
    rw [← hr1, List.length_map] at z
    exact ⟨_, List.getElem?_eq_getElem z⟩
  have et : r.1 = t := by
    rw [← hr1, List.getElem?_map, hr] at e
    exact Option.some.inj e
  subst et
  obtain ⟨ex, ey⟩ := hr2 k r hr
  exact ⟨_, _, ex, ey, all r (List.mem_of_getElem? hr)⟩
end
end Hs
set_option maxHeartbeats 4000000
namespace Hs
open PySem PySem.Spec PyProof.Rows L2
open AutoSeq1 (wpAny_loadPart')
/-! ## enumerate(a tuple) -/
theorem meets_enumT (l : Addr) (items : Array Value) :
    Meets (Builtin.«enumerate.__new__» ⟨[.type "enumerate", .ref l], []⟩) (fun _ R s => s.heap.IsTuple l items ∧
      R (.ok (.ret (.ref (s.heap.push { cls := .type "tuple_iterator", data := .fields #[.ref l, .int 0 0] }).objs.size)))
        { s with heap := (s.heap.push { cls := .type "tuple_iterator", data := .fields #[.ref l, .int 0 0] }).push { cls := .type "enumerate", data := .fields #[.none, .bool false, .ref s.heap.objs.size, rawInt 0, .none, .none] } }) :=
  .of_wp fun prog w A R s h => by
    obtain ⟨hp, g, d, tk, os⟩ := s
    obtain ⟨ht, h⟩ := h
    have hsub := sub_enumerate
    have tup : Heap.IsTuple (Shared.heap ⟨hp, g, d, tk, os⟩) l items := ht
    obtain ⟨o, hl, oc, od⟩ := id ht
    wp_walk using wpAny_loadPart' hl
    refine wpAny_stack_any fun st => wpAny_pure ?_
    split
    · rename_i c _ _ _ _ _
      cases (c == Value.type "enumerate")
      all_goals
        wp_walk using wpAny_loadPart' hl, wpAny_pyIter_tuple tup
        exact ⟨_, rfl, h⟩
    · wp_walk using wpAny_loadPart' hl, wpAny_pyIter_tuple tup
      exact ⟨_, rfl, h⟩
section
variable {prog : Program} {w : World} {A : Around} {E : Value → Shared → Prop} {s : Shared}
theorem call_enumT {l : Addr} {items : Array Value} {Q : Value → Shared → Prop} (hL : s.heap.IsTuple l items)
    (h : ∀ h', IsEnum h' (s.heap.objs.size + 1) s.heap.objs.size 0 .none → h'.IsTupleIter s.heap.objs.size l 0 → (∀ b o, s.heap.get? b = some o → h'.get? b = some o) → Q (.ref (s.heap.objs.size + 1)) { s with heap := h' }) :
    wpAny (model prog w) A (call (.type "enumerate") [.ref l]) Q E s := by
  refine callType_new F.called_enumerate (by decide) (F.typeCall_enumerate_1 _) (F.newCall_enumerate_1 _) (fun obj => F.args_object_init_2 obj _) F.entry_enumerate_new (meets_enumT l items) ⟨hL, ?_⟩
  have sz : (s.heap.push { cls := .type "tuple_iterator", data := .fields #[.ref l, .int 0 0] }).objs.size = s.heap.objs.size + 1 := Heap.size_push ..
  show _ ∧ _
  rw [sz]
  have he : IsEnum ((s.heap.push { cls := .type "tuple_iterator", data := .fields #[.ref l, .int 0 0] }).push { cls := .type "enumerate", data := .fields #[.none, .bool false, .ref s.heap.objs.size, rawInt 0, .none, .none] }) (s.heap.objs.size + 1) s.heap.objs.size 0 .none := by
    have q := Heap.get?_push_size (s.heap.push { cls := .type "tuple_iterator", data := .fields #[.ref l, .int 0 0] }) (o := { cls := .type "enumerate", data := .fields #[.none, .bool false, .ref s.heap.objs.size, rawInt 0, .none, .none] }) rfl
    rw [sz] at q
    exact q
  exact ⟨⟨_, he, rfl⟩, h _ he ⟨_, Heap.get?_push_of_some _ (Heap.get?_push_size _ rfl), rfl, rfl⟩ fun b o x => Heap.get?_push_of_some _ (Heap.get?_push_of_some _ x)⟩
end
def IteT (K : PySem.W.Frag) (a : Addr) : It :=
  ⟨fun i H => ∃ (xs : List V) (x : V), SqT K H a xs ∧ xs[i]? = some x, fun i H v H' => ∃ T x, v = .ref T ∧ H T = none ∧ H' = upd H T (.tup [.int (i : Nat), x]) ∧ ∀ xs, SqT K H a xs → xs[i]? = some x, fun i H => ∃ xs : List V, SqT K H a xs ∧ xs.length ≤ i⟩
theorem turn_enumT {P : Program} {w : World} {K : PySem.W.Frag} {elts : List Expr} {kk : Nat} {tpos : Pos} (a e it : Addr) :
    Turn P w K (.Tuple elts kk tpos) (IteT K a) [e, it] e (fun i h => (∃ old, IsEnum h e it ((i : Nat) : Int) old) ∧ h.IsTupleIter it a i ∧ e ≠ it ∧ a ≠ it ∧ e ≠ a) where
  mem := by simp
  obj := fun i h st b hb => by
    obtain ⟨⟨old, he⟩, ⟨o, ho, hc, hd⟩, _⟩ := st
    have e' : b = e ∨ b = it := by simpa using hb
    rcases e' with rfl | rfl
    · exact ⟨_, he, fun v q => nomatch q⟩
    · exact ⟨o, ho, fun v q => by rw [hd] at q; cases q⟩
  keep := fun i h h' st k => let ⟨⟨old, he⟩, hi, hne⟩ := st; ⟨⟨old, k e (by simp) _ he⟩, hi.at fun o q => k it (by simp) o q, hne⟩
  item := by
    intro X hP hw hK hc i pins s σ H E I hf st hg
    subst hP hw hK
    obtain ⟨⟨old, he⟩, hit, hne, nai, nea⟩ := st
    obtain ⟨xs, x, hq, hx⟩ := hg
    obtain ⟨its, rv, p, hz⟩ := I.tuple hq
    obtain ⟨u, hu, ru⟩ := rv.get hx
    have hel : e < s.heap.objs.size := Heap.lt_size he
    have hil : it < s.heap.objs.size := let ⟨_, q, _⟩ := hit; Heap.lt_size q
    have lt : i < its.toArray.size := by
      have z := (List.getElem?_eq_some_iff.mp hu).1
      simpa using z
    refine wpAny_pyNext_enum_itemD (Draws.tuple (A := X.A.in1) (I.ok.hd hc) it a nai its.toArray) he ⟨hit, p⟩ lt hne (by simp [hne, nea]) fun y h' tk hy ho hit' hT hsz hk => ?_
    have eu : y = u := by
      have q : its[i]? = some y := by simpa using hy
      rw [hu] at q
      exact (Option.some.inj q).symm
    subst eu
    refine ⟨_, rfl, wpAny_letOwnedTupleGo_enum (s := { s with heap := h', toks := tk + 1 }) ho fun h2 he' sb => ?_⟩
    have at2 : h2.get? s.heap.objs.size = some { cls := .type "tuple", data := .seq #[.int i tk, y] } := (sb.2 _ (Nat.ne_of_gt hel)).trans hT
    have new : ObjOk X.prog X.w (upd H s.heap.objs.size (.tup [.int (i : Nat), x])) h2 s.heap.objs.size (.tup [.int (i : Nat), x]) :=
      ⟨by show 2 ≤ sizeLine; decide, [.int i tk, y], .cons ⟨_, rfl⟩ (.cons ru .nil), ⟨_, at2, rfl, _, rfl⟩⟩
    have I1 : Inv X pins σ (upd H s.heap.objs.size (.tup [.int (i : Nat), x])) { s with heap := h2, toks := tk + 1 } :=
      I.turnedNew (ch := [e, it]) (fun b ob hb q => (sb.2 b (fun z => hb (by simp [z]))).trans (hk b ob (fun z => hb (by simp [z])) (fun z => hb (by simp [z])) q)) hf (Nat.le_refl _) new
    refine ⟨.ref s.heap.objs.size, _, I1, rfl, ⟨_, x, rfl, I.hok.fresh (Nat.le_refl _), rfl, fun ys hy => by rw [I.tuple_inj hy hq]; exact hx⟩, ⟨⟨y, ?_⟩, hit'.1.at fun o q => (sb.2 it (Ne.symm hne)).trans q, hne, nai, nea⟩, fun b hb => ?_⟩
    · have e1 : ((i + 1 : Nat) : Int) = (i : Int) + 1 := by omega
      rw [e1]
      exact he'
    · have lt2 : b < s.heap.objs.size := by
        have e' : b = e ∨ b = it := by simpa using hb
        rcases e' with rfl | rfl
        · exact hel
        · exact hil
      rw [upd_ne (Nat.ne_of_lt lt2)]
      exact (hf b hb).1
  done := by
    intro X hP hw hK hc i pins s σ H E I hf st hg
    subst hP hw hK
    obtain ⟨⟨old, he⟩, hit, hne, nai, nea⟩ := st
    obtain ⟨xs, hq, hx⟩ := hg
    obtain ⟨its, rv, p, hz⟩ := I.tuple hq
    obtain ⟨f0, f1, f2, f3, f4, f5⟩ := hf it (by simp)
    have hl := rv.length
    have none_ : its.toArray[i]? = none := by simp; omega
    have ty : s.TypeIs (.ref e) "enumerate" := ⟨_, he, rfl⟩
    unfold pyNext
    refine wpAny_bind (wpAny_attempt (wpAny_callSpecial?_slot (name := Str.ofString "__next__") ty F.slot_enumerate_next (wpAny_call_entry F.slot_enumerate_next ty F.entry_enumerate_next ?_ (F.args_enumerate_next_1 _))))
    show wpAny _ _ (field (.ref e) 2 >>= _) _ _ _
    refine wpAny_bind (wpAny_field he rfl (x := .ref it) rfl ?_)
    refine wpAny_bind (wpAny_nextOf_tuple_end (I.ok.hd hc) hit (show s.heap.IsTuple a its.toArray from p) none_ fun h' x he' hx' => ?_)
    obtain ⟨o, ho, hc'⟩ := hx'
    exact wpAny_bind (wpAny_isInstance (T := "StopIteration") (b := true) ⟨o, ho, hc'⟩ isSubtype_stop (wpAny_pure ⟨rfl, I.turned (t' := s.toks) (fun b o hb q => he' b o hb q) f0 f1 f3 f4 f5⟩))
  self := fun A i s Q E st h => let ⟨⟨_, he⟩, _⟩ := st; wpAny_pyIter_enum he h
def iEnumT (K : PySem.W.Frag) (ta : TA) : TI := fun σ H R => ta σ H fun vs H1 => ∃ a xs, vs = [.ref a] ∧ SqT K H1 a xs ∧ R (IteT K a) H1
theorem pi_enumT {X : Cx} {e : Expr} {ta : TA} {p pos tpos : Pos} {elts : List Expr} {kk : Nat} (hg : Gl X "enumerate") (hm : X.mg "enumerate" = none) (ha : PA X [e] ta) (hs : starEach [e] X.env = [(false, eval e X.env)] := by rfl) :
    PI X (.Tuple elts kk tpos) (.Call (.Name "enumerate" p) [e] [] pos) (iEnumT X.K ta) := by
  refine ⟨fun pins s σ H R I h => ?_⟩
  refine Call_ (ld_blt I hg hm boot_enumerate (PyProof.Rows.callWith_type1 (thn (ha.run pos pins s σ H _ I h) fun us s1 ⟨vs, H1, I1, r1, q1⟩ => ?_) hs rfl))
  obtain ⟨a, xs, rfl, hq, q⟩ := q1
  obtain ⟨u, rfl, rx⟩ := vals1 r1
  cases (show u = Value.ref a from rx)
  obtain ⟨its, rv, p', hz⟩ := I1.tuple hq
  refine call_enumT (show s1.heap.IsTuple a its.toArray from p') fun h' he hit hk => wpAny_pyIter_enum he ?_
  have I2 : Inv X pins σ H1 { s1 with heap := h' } := I1.kept (t' := s1.toks) hk
  refine ⟨s1.heap.objs.size + 1, [s1.heap.objs.size + 1, s1.heap.objs.size], _, _, H1, rfl, I2, turn_enumT a (s1.heap.objs.size + 1) s1.heap.objs.size, ⟨⟨.none, he⟩, hit, Nat.succ_ne_self _, Nat.ne_of_lt p'.lt, (Nat.ne_of_lt (Nat.lt_succ_of_lt p'.lt)).symm⟩, fun b hb => ?_, q⟩
  have e' : b = s1.heap.objs.size + 1 ∨ b = s1.heap.objs.size := by simpa using hb
  have ge : s1.heap.objs.size ≤ b := by
    rcases e' with rfl | rfl
    · exact Nat.le_add_right _ _
    · exact Nat.le_refl _
  exact I1.fpOk ge (I1.hok.fresh ge)
/-! ## or -/
section
variable {X : Cx} {e tg : Expr} {t t' : TE} {i i' : TI} {st : Stmt} {r r' : TS}
theorem pe_or (h : PE X e t) (h' : PE X e t') : PE X e (fun σ H Q => t σ H Q ∨ t' σ H Q) := ⟨fun pins s σ H Q I q => q.elim (h.run pins s σ H Q I) (h'.run pins s σ H Q I)⟩
theorem pi_or (h : PI X tg e i) (h' : PI X tg e i') : PI X tg e (fun σ H R => i σ H R ∨ i' σ H R) := ⟨fun pins s σ H R I q => q.elim (h.run pins s σ H R I) (h'.run pins s σ H R I)⟩
theorem ps_or (h : PS X st r) (h' : PS X st r') : PS X st (fun D σ H => r D σ H ∨ r' D σ H) := ⟨fun pins s σ H D I q => q.elim (h.run pins s σ H D I) (h'.run pins s σ H D I)⟩
theorem pg_or {g g' : TG} (h : PG X tg g) (h' : PG X tg g') : PG X tg (fun v σ H Q => g v σ H Q ∨ g' v σ H Q) := ⟨fun pins s σ H v u Q I r q => q.elim (h.run pins s σ H v u Q I r) (h'.run pins s σ H v u Q I r)⟩
/-- what is not reached -/
theorem pe_no : PE X e (fun _ _ _ => False) := ⟨fun _ _ _ _ _ _ q => q.elim⟩
theorem ps_no : PS X st (fun _ _ _ => False) := ⟨fun _ _ _ _ _ _ q => q.elim⟩
theorem pss_no {b : List Stmt} : PSs X b (fun _ _ _ => False) := ⟨fun _ _ _ _ _ _ q => q.elim⟩
end
end Hs
set_option maxHeartbeats 0
namespace Hs
open PySem PySem.Spec PyProof.Rows L2
def topH (i : Nat) : Stmt := PySem.Challenge.pw_hiddensorts_k80_lots_and_spots_judged.main.body.getD i (.Pass ⟨0, 0, 0, 0⟩)
def clsN : List Str := (["BadNumber", "ByZero", "BadSize", "BadLot", "BadSpot"] : List PySem.Str)
def plainN : List Str := (["BadNumber", "ByZero", "BadSize", "BadSpot"] : List PySem.Str)
abbrev gaS (K : PySem.W.Frag) : Addr := He.ga K "SortsError"
def ownB (K : PySem.W.Frag) (x : Str) : Bool := decide (PySem.W.typeIn K (.ref (He.ga K x)) = some (.type "type"))
def exmB (K : PySem.W.Frag) (x : Str) : Bool := (PySem.W.exmOne K (.ref (He.ga K x)) (.ref (He.ga K x)) == some true) && PySem.W.isClsIn K (He.ga K x)
def initB (K : PySem.W.Frag) (x : Str) : Bool := PySem.W.excInitIn K (He.ga K x) excB "Exception.__new__" && (eqF (PySem.W.findIn K (.ref (He.ga K x)) "__init__") (some (some (.ref (He.ma K (He.ga K x) "__init__")))) && decide (PySem.W.typeIn K (.ref (He.ma K (He.ga K x) "__init__")) = some (.type "function")))
def exB (K : PySem.W.Frag) : Bool :=
  (clsN.all fun x => exnB K (He.ga K x)) && ((plainN.all fun x => PySem.W.excIn K (He.ga K x) excB "Exception.__new__") && (initB K "BadLot" && (eqF (PySem.W.findIn K (.ref (He.ga K "BadLot")) "place") (some none) &&
    ((clsN.all fun x => ownB K x) && ((clsN.all fun x => exmB K x) && (eqF (PySem.W.nsIn K mainGlobals "gcd") (some (some (.builtin "math.gcd"))) && (eqF (PySem.W.nsIn K mainGlobals "isqrt") (some (some (.builtin "math.isqrt"))) && eqF (PySem.W.nsIn K mainGlobals "lcm") (some (some (.builtin "math.lcm"))))))))))
def dD0 : He.DefD := ⟨("is_int", none), "is_int", "is_int", defArgs (topH 9), defBody (topH 9), defScope (topH 9), [], []⟩
def dD1 : He.DefD := ⟨("is_list", none), "is_list", "is_list", defArgs (topH 10), defBody (topH 10), defScope (topH 10), [], []⟩
def dD2 : He.DefD := ⟨("is_number", none), "is_number", "is_number", defArgs (topH 11), defBody (topH 11), defScope (topH 11), [], []⟩
def dD3 : He.DefD := ⟨("as_ratio", none), "as_ratio", "as_ratio", defArgs (topH 12), defBody (topH 12), defScope (topH 12), [], []⟩
def dD4 : He.DefD := ⟨("as_ratios", none), "as_ratios", "as_ratios", defArgs (topH 13), defBody (topH 13), defScope (topH 13), [], []⟩
def dD5 : He.DefD := ⟨("plus", none), "plus", "plus", defArgs (topH 14), defBody (topH 14), defScope (topH 14), [], []⟩
def dD6 : He.DefD := ⟨("minus", none), "minus", "minus", defArgs (topH 15), defBody (topH 15), defScope (topH 15), [], []⟩
def dD7 : He.DefD := ⟨("times", none), "times", "times", defArgs (topH 16), defBody (topH 16), defScope (topH 16), [], []⟩
def dD8 : He.DefD := ⟨("negative", none), "negative", "negative", defArgs (topH 17), defBody (topH 17), defScope (topH 17), [], []⟩
def dD9 : He.DefD := ⟨("over", none), "over", "over", defArgs (topH 18), defBody (topH 18), defScope (topH 18), [], []⟩
def dD10 : He.DefD := ⟨("sign_of", none), "sign_of", "sign_of", defArgs (topH 19), defBody (topH 19), defScope (topH 19), [], []⟩
def dD11 : He.DefD := ⟨("below", none), "below", "below", defArgs (topH 20), defBody (topH 20), defScope (topH 20), [], []⟩
def dD12 : He.DefD := ⟨("shared_bottom", none), "shared_bottom", "shared_bottom", defArgs (topH 21), defBody (topH 21), defScope (topH 21), [], []⟩
def dD13 : He.DefD := ⟨("total", none), "total", "total", defArgs (topH 22), defBody (topH 22), defScope (topH 22), [], []⟩
def dD14 : He.DefD := ⟨("least", none), "least", "least", defArgs (topH 23), defBody (topH 23), defScope (topH 23), [], []⟩
def dD15 : He.DefD := ⟨("root_of", none), "root_of", "root_of", defArgs (topH 24), defBody (topH 24), defScope (topH 24), [], []⟩
def dD16 : He.DefD := ⟨("shown", none), "shown", "shown", defArgs (topH 25), defBody (topH 25), defScope (topH 25), [], []⟩
def dD17 : He.DefD := ⟨("is_below", none), "is_below", "is_below", defArgs (topH 30), defBody (topH 30), defScope (topH 30), [], []⟩
def dD18 : He.DefD := ⟨("sizes_of", none), "sizes_of", "sizes_of", defArgs (topH 31), defBody (topH 31), defScope (topH 31), [], []⟩
def dD19 : He.DefD := ⟨("rising_looks", none), "rising_looks", "rising_looks", defArgs (topH 32), defBody (topH 32), defScope (topH 32), [], []⟩
def dD20 : He.DefD := ⟨("lot_of", none), "lot_of", "lot_of", defArgs (topH 33), defBody (topH 33), defScope (topH 33), [], []⟩
def dD21 : He.DefD := ⟨("asking_of", none), "asking_of", "asking_of", defArgs (topH 34), defBody (topH 34), defScope (topH 34), [], []⟩
def dD22 : He.DefD := ⟨("spot_of", none), "spot_of", "spot_of", defArgs (topH 35), defBody (topH 35), defScope (topH 35), [], []⟩
def dD23 : He.DefD := ⟨("row_spots", none), "row_spots", "row_spots", defArgs (topH 36), defBody (topH 36), defScope (topH 36), [], []⟩
def dD24 : He.DefD := ⟨("_law_feed", none), "_law_feed", "_law_feed", defArgs (topH 38), defBody (topH 38), defScope (topH 38), [], []⟩
def dD25 : He.DefD := ⟨("_law_pick", none), "_law_pick", "_law_pick", defArgs (topH 39), defBody (topH 39), defScope (topH 39), [], []⟩
def dD26 : He.DefD := ⟨("_law_whole", none), "_law_whole", "_law_whole", defArgs (topH 40), defBody (topH 40), defScope (topH 40), [], []⟩
def dD27 : He.DefD := ⟨("_law_spots", none), "_law_spots", "_law_spots", defArgs (topH 41), defBody (topH 41), defScope (topH 41), [], []⟩
def dD28 : He.DefD := ⟨("_law_thing", none), "_law_thing", "_law_thing", defArgs (topH 42), defBody (topH 42), defScope (topH 42), [], []⟩
def dD29 : He.DefD := ⟨("_law_list", none), "_law_list", "_law_list", defArgs (topH 43), defBody (topH 43), defScope (topH 43), [], []⟩
def dD30 : He.DefD := ⟨("_law_due", none), "_law_due", "_law_due", defArgs (topH 44), defBody (topH 44), defScope (topH 44), [], []⟩
def dD31 : He.DefD := ⟨("_law_lot_told", none), "_law_lot_told", "_law_lot_told", defArgs (topH 45), defBody (topH 45), defScope (topH 45), [], []⟩
def dD32 : He.DefD := ⟨("_law_asking_told", none), "_law_asking_told", "_law_asking_told", defArgs (topH 46), defBody (topH 46), defScope (topH 46), [], []⟩
def dD33 : He.DefD := ⟨("_law_spot_right", none), "_law_spot_right", "_law_spot_right", defArgs (topH 47), defBody (topH 47), defScope (topH 47), [], []⟩
def dD34 : He.DefD := ⟨("_law_sizes_right", none), "_law_sizes_right", "_law_sizes_right", defArgs (topH 48), defBody (topH 48), defScope (topH 48), [], []⟩
def dD35 : He.DefD := ⟨("_law_row_right", none), "_law_row_right", "_law_row_right", defArgs (topH 49), defBody (topH 49), defScope (topH 49), [], []⟩
def dD36 : He.DefD := ⟨("_law_door", none), "_law_door", "_law_door", defArgs (topH 50), defBody (topH 50), defScope (topH 50), [], []⟩
def dD37 : He.DefD := ⟨("_law_numbers_judged", none), "_law_numbers_judged", "_law_numbers_judged", defArgs (topH 51), defBody (topH 51), defScope (topH 51), [], []⟩
def dD38 : He.DefD := ⟨("_law_kept", none), "_law_kept", "_law_kept", defArgs (topH 52), defBody (topH 52), defScope (topH 52), [], []⟩
def dD39 : He.DefD := ⟨("law", none), "law", "law", defArgs (topH 53), defBody (topH 53), defScope (topH 53), [], []⟩
def dD40 : He.DefD := ⟨("BadLot", some "__init__"), "__init__", "BadLot.__init__", defArgs (inClass (topH 6) 0), defBody (inClass (topH 6) 0), defScope (inClass (topH 6) 0), [], []⟩
def fn : List He.DefD := ([dD0, dD1, dD2, dD3, dD4, dD5, dD6, dD7, dD8, dD9, dD10, dD11, dD12, dD13, dD14, dD15, dD16, dD17, dD18, dD19, dD20, dD21, dD22, dD23, dD24, dD25, dD26, dD27, dD28, dD29] : List _) ++ ([dD30, dD31, dD32, dD33, dD34, dD35, dD36, dD37, dD38, dD39, dD40] : List _)
def fa : List He.Fa := ([.glo "is_int", .glo "is_list", .glo "is_number", .glo "as_ratio", .glo "as_ratios", .glo "plus", .glo "minus", .glo "times", .glo "negative", .glo "over", .glo "sign_of", .glo "below", .glo "shared_bottom", .glo "total", .glo "least", .glo "root_of", .glo "shown", .glo "is_below", .glo "sizes_of", .glo "rising_looks", .glo "lot_of", .glo "asking_of", .glo "spot_of", .glo "row_spots", .glo "_law_feed", .glo "_law_pick", .glo "_law_whole", .glo "_law_spots", .glo "_law_thing", .glo "_law_list"] : List He.Fa) ++ ([.glo "_law_due", .glo "_law_lot_told", .glo "_law_asking_told", .glo "_law_spot_right", .glo "_law_sizes_right", .glo "_law_row_right", .glo "_law_door", .glo "_law_numbers_judged", .glo "_law_kept", .glo "law", .glo "SortsError", .glo "BadNumber", .glo "ByZero", .glo "BadSize", .glo "BadLot", .glo "BadSpot", .free "isinstance", .free "list", .free "tuple", .free "len", .free "int", .free "abs", .free "range", .free "bool", .free "enumerate", .free "zip", .free "sum", .free "sorted", .free "str", .int "MOST_LOOKS" 8] : List He.Fa) ++ ([.int "LEAST_ANSWERS" 2, .int "MOST_ANSWERS" 6, .keep "BadNumber", .keep "ByZero", .keep "BadSize", .keep "BadLot", .keep "BadSpot"] : List He.Fa)
abbrev R : PySem.W.OpenRow := PySem.W.OpenLaw.row PySem.Challenge.rw_hiddensorts_k80_lots_and_spots_judged
abbrev hk : PySem.W.Hook := He.hookX 5 fa fn [] [] exB
def ob (s : PySem.W.SharedT) : He.AlX := He.obsX 5 fa fn [] [] exB (HandSHeadRun.getT s)
theorem ob_eq (s : PySem.W.SharedT) : ob s = hk.obs s.abs := He.obsX_eq (HandSHeadRun.getT_eq s)
def loose : List PySem.Str := (["is_int", "is_list", "is_number", "as_ratio", "as_ratios", "plus", "minus", "times", "negative", "over", "sign_of", "below", "shared_bottom", "total", "least", "root_of", "shown", "is_below", "sizes_of", "rising_looks", "lot_of", "asking_of", "spot_of", "row_spots", "_law_feed", "_law_pick", "_law_whole", "_law_spots", "_law_thing", "_law_list"] : List PySem.Str) ++ (["_law_due", "_law_lot_told", "_law_asking_told", "_law_spot_right", "_law_sizes_right", "_law_row_right", "_law_door", "_law_numbers_judged", "_law_kept", "SortsError", "BadNumber", "ByZero", "BadSize", "BadLot", "BadSpot", "MOST_LOOKS", "LEAST_ANSWERS", "MOST_ANSWERS"] : List PySem.Str)
abbrev vw : Program := PySem.W.view R.prog [0, 53]
theorem run (w : World) : HandSHeadRun.RunEqI R vw hk ob 40000 loose w := by
  unfold HandSHeadRun.RunEqI
  kernel_rfl
end Hs
set_option maxHeartbeats 4000000
namespace Hs
open PySem L2
/-! ## data -/
def Keeps (H H' : Hp) : Prop := ∀ b o, H b = some o → (∀ φ, o ≠ .ext φ) → H' b = some o
theorem Keeps.of {H H' : Hp} (s : Same H H') : Keeps H H' := fun b o e _ => s b o e
theorem Keeps.trans {H H1 H2 : Hp} (a : Keeps H H1) (b : Keeps H1 H2) : Keeps H H2 := fun c o e n => b c o (a c o e n) n
theorem lst_ext {xs : List V} : ∀ φ, HO.lst xs ≠ .ext φ := fun _ z => nomatch z
theorem tup_ext {xs : List V} : ∀ φ, HO.tup xs ≠ .ext φ := fun _ z => nomatch z
theorem frz_ext {o : Obj} {u : HO} : ∀ φ, HO.frz o u ≠ .ext φ := fun _ z => nomatch z
theorem Keeps.sqT {K : PySem.W.Frag} {H H' : Hp} {a : Addr} {xs : List V} (g : Keeps H H') (h : SqT K H a xs) : SqT K H' a xs := by
  rcases h with (e | ⟨o, e⟩) | k
  · exact .inl (.inl (g _ _ e tup_ext))
  · exact .inl (.inr ⟨o, g _ _ e frz_ext⟩)
  · exact .inr k
theorem Keeps.sqL {K : PySem.W.Frag} {H H' : Hp} {a : Addr} {xs : List V} (g : Keeps H H') (h : SqL K H a xs) : SqL K H' a xs := by
  rcases h with (e | ⟨o, e⟩) | k
  · exact .inl (.inl (g _ _ e lst_ext))
  · exact .inl (.inr ⟨o, g _ _ e frz_ext⟩)
  · exact .inr k
mutual
theorem Dp.keep {K : PySem.W.Frag} {H H' : Hp} (g : Keeps H H') : ∀ (d : PyData) (v : V), Dp K H v d → Dp K H' v d
  | .none, _, h => by
    cases h
    exact .non
  | .bool b, _, h => by
    cases h
    exact .bl b
  | .int i, _, h => by
    cases h
    exact .int i
  | .str x, _, h => by
    cases h
    exact .str x
  | .list ds, _, h => by
    cases h with
    | lst hs ha => exact .lst (g.sqL hs) (DpAll.keep g ds _ ha)
  | .tuple ds, _, h => by
    cases h with
    | tup hs ha => exact .tup (g.sqT hs) (DpAll.keep g ds _ ha)
  | .dict _, _, h => nomatch h
theorem DpAll.keep {K : PySem.W.Frag} {H H' : Hp} (g : Keeps H H') : ∀ (ds : List PyData) (vs : List V), DpAll K H vs ds → DpAll K H' vs ds
  | [], _, h => by
    cases h
    exact .nil
  | d :: ds, _, h => by
    cases h with
    | cons h1 h2 => exact .cons (Dp.keep g d _ h1) (DpAll.keep g ds _ h2)
end
theorem DpAll.snoc {K : PySem.W.Frag} {H : Hp} {d : PyData} {v : V} : ∀ {ds : List PyData} {vs : List V}, DpAll K H vs ds → Dp K H v d → DpAll K H (vs ++ [v]) (ds ++ [d])
  | [], _, h, k => by
    cases h
    exact .cons k .nil
  | _ :: _, _, h, k => by
    cases h with
    | cons h1 h2 => exact .cons h1 (DpAll.snoc h2 k)
theorem DpAll.at {K : PySem.W.Frag} {H : Hp} : ∀ {ds : List PyData} {vs : List V} {i : Nat} {v : V}, DpAll K H vs ds → vs[i]? = some v → ∃ d, ds[i]? = some d ∧ Dp K H v d
  | _, _, i, _, .nil, e => by simp at e
  | _, _, 0, _, .cons h _, e => by
    simp at e
    subst e
    exact ⟨_, rfl, h⟩
  | _, _, i + 1, _, .cons _ t, e => by
    obtain ⟨d, e1, e2⟩ := DpAll.at (i := i) t (by simpa using e)
    exact ⟨d, by simpa using e1, e2⟩
theorem DpAll.len {K : PySem.W.Frag} {H : Hp} : ∀ {ds : List PyData} {vs : List V}, DpAll K H vs ds → vs.length = ds.length
  | _, _, .nil => rfl
  | _, _, .cons _ t => congrArg (· + 1) (DpAll.len t)
def KeepsT (H H' : Hp) : Prop := (∀ b xs, H b = some (.tup xs) → H' b = some (.tup xs)) ∧ ∀ b o u, H b = some (.frz o u) → H' b = some (.frz o u)
theorem KeepsT.of {H H' : Hp} (s : Same H H') : KeepsT H H' := ⟨fun b xs e => s b _ e, fun b o u e => s b _ e⟩
theorem KeepsT.trans {H H1 H2 : Hp} (a : KeepsT H H1) (b : KeepsT H1 H2) : KeepsT H H2 := ⟨fun c xs e => b.1 c xs (a.1 c xs e), fun c o u e => b.2 c o u (a.2 c o u e)⟩
theorem KeepsT.at_lst {H : Hp} {D : Addr} {ys : List V} (e : H D = some (.lst ys)) (o : HO) : KeepsT H (upd H D o) :=
  ⟨fun b xs q => by rw [upd_ne (ne_of q e (fun z => nomatch z))]; exact q, fun b o' u q => by rw [upd_ne (ne_of q e (fun z => nomatch z))]; exact q⟩
theorem KeepsT.at_ext {H : Hp} {D : Addr} {φ : Heap → Prop} (e : H D = some (.ext φ)) (o : HO) : KeepsT H (upd H D o) :=
  ⟨fun b xs q => by rw [upd_ne (ne_of q e (fun z => nomatch z))]; exact q, fun b o' u q => by rw [upd_ne (ne_of q e (fun z => nomatch z))]; exact q⟩
theorem KeepsT.at_new {H : Hp} {D : Addr} (e : H D = none) (o : HO) : KeepsT H (upd H D o) :=
  ⟨fun b xs q => by rw [upd_ne (ne_of_none q e)]; exact q, fun b o' u q => by rw [upd_ne (ne_of_none q e)]; exact q⟩
theorem KeepsT.sqT {K : PySem.W.Frag} {H H' : Hp} {a : Addr} {xs : List V} (g : KeepsT H H') (h : SqT K H a xs) : SqT K H' a xs := by
  rcases h with (e | ⟨o, e⟩) | k
  · exact .inl (.inl (g.1 _ _ e))
  · exact .inl (.inr ⟨o, g.2 _ _ _ e⟩)
  · exact .inr k
theorem same_new {H H' : Hp} {p : Addr} (s : Same H H') (h : H' p = none) (o : HO) : Same H (upd H' p o) := fun b u q => by
  rw [upd_ne (ne_of_none (s b u q) h)]
  exact s b u q
theorem kit_no {K : PySem.W.Frag} {T : String} (h1 : kitB T "list" = some false) (h2 : kitB T "tuple" = some false) : PySem.W.kitAny K (.type T) [.type "list", .type "tuple"] = some false :=
  kitAny_cons (b := false) (kit_ty h1) (fun _ => kitAny_cons (b := false) (kit_ty h2) (fun _ => rfl) (fun z => nomatch z)) (fun z => nomatch z)
theorem kit_yes {K : PySem.W.Frag} : PySem.W.kitAny K (.type "tuple") [.type "list", .type "tuple"] = some true :=
  kitAny_cons (b := false) (kit_ty (by decide +kernel)) (fun _ => kitAny_cons (b := true) (kit_ty (by decide +kernel)) (fun z => nomatch z) (fun _ => rfl)) (fun z => nomatch z)
theorem tyT {K : PySem.W.Frag} {H : Hp} {a : Addr} {xs : List V} (h : SqT K H a xs) : TyX K H (.ref a) (.type "tuple") := by
  rcases h with (e | ⟨o, e⟩) | ⟨o, its, n, e, c, _⟩
  · exact .base (.tup e)
  · exact .fTuple e
  · exact .kTuple e c
theorem list_b : bootBuiltins "list" = some (.type "list") := by decide +kernel
theorem tuple_b : bootBuiltins "tuple" = some (.type "tuple") := by decide +kernel
theorem isi_b : bootBuiltins "isinstance" = some (.builtin "isinstance") := by decide +kernel
def tyN : PyData → String
  | .none => "NoneType"
  | .bool _ => "bool"
  | .int _ => "int"
  | .str _ => "str"
  | .list _ => "list"
  | .tuple _ => "tuple"
  | .dict _ => "dict"
/-- data, or an empty dict -/
def Da (K : PySem.W.Frag) (H : Hp) (v : V) (d : PyData) : Prop := Dp K H v d ∨ (d = .dict [] ∧ ∃ a, v = .ref a ∧ H a = some (.dK []))
theorem Da.of {K : PySem.W.Frag} {H : Hp} {v : V} {d : PyData} (h : Dp K H v d) : Da K H v d := .inl h
theorem Da.keep {K : PySem.W.Frag} {H H' : Hp} {v : V} {d : PyData} (g : Same H H') (h : Da K H v d) : Da K H' v d := by
  rcases h with h | ⟨e, a, e2, h⟩
  · exact .inl (Dp.keep (Keeps.of g) d v h)
  · exact .inr ⟨e, a, e2, g _ _ h⟩
theorem dp_keep {K : PySem.W.Frag} {H H' : Hp} {v : V} {d : PyData} (g : Same H H') (h : Dp K H v d) : Dp K H' v d := Dp.keep (Keeps.of g) d v h
theorem tyL {K : PySem.W.Frag} {H : Hp} {a : Addr} {xs : List V} (h : SqL K H a xs) : TyX K H (.ref a) (.type "list") := by
  rcases h with (e | ⟨o, e⟩) | ⟨o, its, n, e, c, _⟩
  · exact .base (.lst e)
  · exact .base (.frz e)
  · exact .kList e c
theorem Da.ty {K : PySem.W.Frag} {H : Hp} {v : V} {d : PyData} (h : Da K H v d) : TyX K H v (.type (tyN d)) := by
  rcases h with h | ⟨rfl, a, rfl, h⟩
  · cases h with
    | non => exact .base .non
    | bl b => exact .base (.bl b)
    | int i => exact .base (.int i)
    | str x => exact .base (.str x)
    | lst h _ => exact tyL h
    | tup h _ => exact tyT h
  · exact .base (.dK h)
def isI : PyData → Bool
  | .int _ => true
  | _ => false
def isB : PyData → Bool
  | .bool _ => true
  | _ => false
def isLs : PyData → Bool
  | .list _ => true
  | _ => false
def isTp : PyData → Bool
  | .tuple _ => true
  | _ => false
def isL (d : PyData) : Bool := isLs d || isTp d
theorem kit_int {K : PySem.W.Frag} (d : PyData) : PySem.W.kitOne K (.type (tyN d)) (.type "int") = some (isI d || isB d) := by
  match d with
  | .none => exact kit_ty (a := "NoneType") (b := "int") (r := false) (by decide +kernel)
  | .bool _ => exact kit_ty (a := "bool") (b := "int") (r := true) (by decide +kernel)
  | .int _ => exact kit_ty (a := "int") (b := "int") (r := true) (by decide +kernel)
  | .str _ => exact kit_ty (a := "str") (b := "int") (r := false) (by decide +kernel)
  | .list _ => exact kit_ty (a := "list") (b := "int") (r := false) (by decide +kernel)
  | .tuple _ => exact kit_ty (a := "tuple") (b := "int") (r := false) (by decide +kernel)
  | .dict _ => exact kit_ty (a := "dict") (b := "int") (r := false) (by decide +kernel)
theorem kit_bool {K : PySem.W.Frag} (d : PyData) : PySem.W.kitOne K (.type (tyN d)) (.type "bool") = some (isB d) := by
  match d with
  | .none => exact kit_ty (a := "NoneType") (b := "bool") (r := false) (by decide +kernel)
  | .bool _ => exact kit_ty (a := "bool") (b := "bool") (r := true) (by decide +kernel)
  | .int _ => exact kit_ty (a := "int") (b := "bool") (r := false) (by decide +kernel)
  | .str _ => exact kit_ty (a := "str") (b := "bool") (r := false) (by decide +kernel)
  | .list _ => exact kit_ty (a := "list") (b := "bool") (r := false) (by decide +kernel)
  | .tuple _ => exact kit_ty (a := "tuple") (b := "bool") (r := false) (by decide +kernel)
  | .dict _ => exact kit_ty (a := "dict") (b := "bool") (r := false) (by decide +kernel)
theorem kit_list {K : PySem.W.Frag} (d : PyData) : PySem.W.kitOne K (.type (tyN d)) (.type "list") = some (isLs d) := by
  match d with
  | .none => exact kit_ty (a := "NoneType") (b := "list") (r := false) (by decide +kernel)
  | .bool _ => exact kit_ty (a := "bool") (b := "list") (r := false) (by decide +kernel)
  | .int _ => exact kit_ty (a := "int") (b := "list") (r := false) (by decide +kernel)
  | .str _ => exact kit_ty (a := "str") (b := "list") (r := false) (by decide +kernel)
  | .list _ => exact kit_ty (a := "list") (b := "list") (r := true) (by decide +kernel)
  | .tuple _ => exact kit_ty (a := "tuple") (b := "list") (r := false) (by decide +kernel)
  | .dict _ => exact kit_ty (a := "dict") (b := "list") (r := false) (by decide +kernel)
theorem kit_tuple {K : PySem.W.Frag} (d : PyData) : PySem.W.kitOne K (.type (tyN d)) (.type "tuple") = some (isTp d) := by
  match d with
  | .none => exact kit_ty (a := "NoneType") (b := "tuple") (r := false) (by decide +kernel)
  | .bool _ => exact kit_ty (a := "bool") (b := "tuple") (r := false) (by decide +kernel)
  | .int _ => exact kit_ty (a := "int") (b := "tuple") (r := false) (by decide +kernel)
  | .str _ => exact kit_ty (a := "str") (b := "tuple") (r := false) (by decide +kernel)
  | .list _ => exact kit_ty (a := "list") (b := "tuple") (r := false) (by decide +kernel)
  | .tuple _ => exact kit_ty (a := "tuple") (b := "tuple") (r := true) (by decide +kernel)
  | .dict _ => exact kit_ty (a := "dict") (b := "tuple") (r := false) (by decide +kernel)
theorem kit_lt {K : PySem.W.Frag} (d : PyData) : PySem.W.kitAny K (.type (tyN d)) [.type "list", .type "tuple"] = some (isL d) := by
  refine kitAny_cons (b := isLs d) (kit_list d) (fun e => ?_) (fun e => ?_)
  · refine kitAny_cons (b := isTp d) (kit_tuple d) (fun e2 => ?_) (fun e2 => ?_)
    · unfold isL
      rw [e, e2]
      rfl
    · unfold isL
      rw [e, e2]
      rfl
  · unfold isL
    rw [e]
    rfl
theorem kit_tl {K : PySem.W.Frag} (d : PyData) : PySem.W.kitAny K (.type (tyN d)) [.type "tuple", .type "list"] = some (isL d) := by
  refine kitAny_cons (b := isTp d) (kit_tuple d) (fun e => ?_) (fun e => ?_)
  · refine kitAny_cons (b := isLs d) (kit_list d) (fun e2 => ?_) (fun e2 => ?_)
    · unfold isL
      rw [e, e2]
      rfl
    · unfold isL
      rw [e, e2]
      rfl
  · unfold isL
    rw [e]
    simp
theorem int_b : bootBuiltins "int" = some (.type "int") := by decide +kernel
theorem bool_b : bootBuiltins "bool" = some (.type "bool") := by decide +kernel
/-- x is True, x any value -/
theorem op_isB {X : Cx} : OpR X (compareOp .Is) (fun x y H Q => ∃ b : Bool, y = .bl b ∧ Q (.bl (decide (x = .bl b))) H) := by
  intro pins s σ H x y v u Q I rx ry h
  obtain ⟨b, rfl, q⟩ := h
  cases (show u = Value.bool b from ry)
  have other : ∀ {v : Value}, RelV x v → x ≠ .bl b → plainIs v (.bool b) = true → v ≠ .bool b → wpAny (model X.prog X.w) X.A (compareOp .Is v (.bool b)) (EP X pins σ Q) X.xe s := fun {v} _ e p ne =>
    wpAny_is_other p ne ⟨.bl false, H, I, rfl, by simpa [e] using q⟩
  cases x with
  | bl c =>
    cases (show v = Value.bool c from rx)
    by_cases e : c = b
    · subst e
      exact wpAny_is_self rfl ⟨.bl true, H, I, rfl, by simpa using q⟩
    · exact other rfl (fun z => e (V.bl.inj z)) rfl fun z => e (Value.bool.inj z)
  | int i =>
    obtain ⟨t, rfl⟩ := (show ∃ t, v = Value.int i t from rx)
    exact other ⟨t, rfl⟩ (fun z => nomatch z) rfl fun z => nomatch z
  | str i =>
    obtain ⟨t, rfl⟩ := (show ∃ t, v = Value.str i t from rx)
    exact other ⟨t, rfl⟩ (fun z => nomatch z) rfl fun z => nomatch z
  | byt i =>
    obtain ⟨t, rfl⟩ := (show ∃ t, v = Value.bytes i t from rx)
    exact other ⟨t, rfl⟩ (fun z => nomatch z) rfl fun z => nomatch z
  | flt i =>
    obtain ⟨t, rfl⟩ := (show ∃ t, v = Value.float i t from rx)
    exact other ⟨t, rfl⟩ (fun z => nomatch z) rfl fun z => nomatch z
  | non =>
    cases (show v = Value.none from rx)
    exact other rfl (fun z => nomatch z) rfl fun z => nomatch z
  | ref a =>
    cases (show v = Value.ref a from rx)
    exact other rfl (fun z => nomatch z) rfl fun z => nomatch z
  | ty n =>
    cases (show v = Value.type n from rx)
    exact other rfl (fun z => nomatch z) rfl fun z => nomatch z
end Hs
set_option maxHeartbeats 8000000
namespace Hs
open PySem L2
/-! ## what stands in the program -/
structure Tx (K : PySem.W.Frag) (mg : Str → Option Value) (tk : Tok × Tok × Tok) : Prop where
  isi : mg "isinstance" = none
  len : mg "len" = none
  int : mg "int" = none
  bool : mg "bool" = none
  list : mg "list" = none
  tuple : mg "tuple" = none
  range : mg "range" = none
  enumerate : mg "enumerate" = none
  zip : mg "zip" = none
  sum : mg "sum" = none
  sorted : mg "sorted" = none
  abs : mg "abs" = none
  str : mg "str" = none
  gcd : mg "gcd" = some (.builtin "math.gcd")
  lcm : mg "lcm" = some (.builtin "math.lcm")
  most : mg "MOST_LOOKS" = some (.int 8 tk.1)
  least : mg "LEAST_ANSWERS" = some (.int 2 tk.2.1)
  mosta : mg "MOST_ANSWERS" = some (.int 6 tk.2.2)
  exBadNumber : Exn K (He.ga K "BadNumber")
  tyBadNumber : PySem.W.typeIn K (.ref (He.ga K "BadNumber")) = some (.type "type")
  glBadNumber : mg "BadNumber" = some (.ref (He.ga K "BadNumber"))
  xmBadNumber : PySem.W.exmOne K (.ref (He.ga K "BadNumber")) (.ref (He.ga K "BadNumber")) = some true
  exByZero : Exn K (He.ga K "ByZero")
  tyByZero : PySem.W.typeIn K (.ref (He.ga K "ByZero")) = some (.type "type")
  glByZero : mg "ByZero" = some (.ref (He.ga K "ByZero"))
  xmByZero : PySem.W.exmOne K (.ref (He.ga K "ByZero")) (.ref (He.ga K "ByZero")) = some true
  exBadSize : Exn K (He.ga K "BadSize")
  tyBadSize : PySem.W.typeIn K (.ref (He.ga K "BadSize")) = some (.type "type")
  glBadSize : mg "BadSize" = some (.ref (He.ga K "BadSize"))
  xmBadSize : PySem.W.exmOne K (.ref (He.ga K "BadSize")) (.ref (He.ga K "BadSize")) = some true
  exBadSpot : Exn K (He.ga K "BadSpot")
  tyBadSpot : PySem.W.typeIn K (.ref (He.ga K "BadSpot")) = some (.type "type")
  glBadSpot : mg "BadSpot" = some (.ref (He.ga K "BadSpot"))
  xmBadSpot : PySem.W.exmOne K (.ref (He.ga K "BadSpot")) (.ref (He.ga K "BadSpot")) = some true
  exBadLot : Exn K (He.ga K "BadLot")
  tyBadLot : PySem.W.typeIn K (.ref (He.ga K "BadLot")) = some (.type "type")
  glBadLot : mg "BadLot" = some (.ref (He.ga K "BadLot"))
  xmBadLot : PySem.W.exmOne K (.ref (He.ga K "BadLot")) (.ref (He.ga K "BadLot")) = some true
  plBadNumber : PySem.W.excIn K (He.ga K "BadNumber") excB "Exception.__new__" = true
  plByZero : PySem.W.excIn K (He.ga K "ByZero") excB "Exception.__new__" = true
  plBadSize : PySem.W.excIn K (He.ga K "BadSize") excB "Exception.__new__" = true
  plBadSpot : PySem.W.excIn K (He.ga K "BadSpot") excB "Exception.__new__" = true
  inBadLot : PySem.W.excInitIn K (He.ga K "BadLot") excB "Exception.__new__" = true
  iC : PySem.W.findIn K (.ref (He.ga K "BadLot")) "__init__" = some (some (.ref (He.ma K (He.ga K "BadLot") "__init__")))
  tI : PySem.W.typeIn K (.ref (He.ma K (He.ga K "BadLot") "__init__")) = some (.type "function")
  nof : PySem.W.findIn K (.ref (He.ga K "BadLot")) "place" = some none
/-! ## is_int .. as_ratios -/
def seqD : PyData → Option (List PyData)
  | .list ds => some ds
  | .tuple ds => some ds
  | _ => none
def posI : PyData → Bool
  | .int i => decide (i ≥ 1)
  | _ => false
def numL : List PyData → Bool
  | [a, b] => isI a && (isI b && posI b)
  | _ => false
def numD (d : PyData) : Bool := match seqD d with
  | none => isI d
  | some ds => numL ds
theorem numL_no {ds : List PyData} (h : ds.length ≠ 2) : numL ds = false := by
  match ds, h with
  | [], _ => rfl
  | [_], _ => rfl
  | [_, _], l => exact absurd rfl l
  | _ :: _ :: _ :: _, _ => rfl
theorem two_all {K : PySem.W.Frag} {H : Hp} {xs : List V} {ds : List PyData} (h : DpAll K H xs ds) (l : xs.length = 2) : ∃ x y dx dy, xs = [x, y] ∧ ds = [dx, dy] ∧ Dp K H x dx ∧ Dp K H y dy := by
  cases h with
  | nil => cases l
  | cons hx t =>
    cases t with
    | nil => cases l
    | cons hy t =>
      cases t with
      | nil => exact ⟨_, _, _, _, rfl, rfl, hx, hy⟩
      | cons _ _ => exact absurd l (by simp)
theorem seq_of {K : PySem.W.Frag} {H : Hp} {v : V} {d : PyData} (e : isL d = true) (h : Da K H v d) : ∃ a xs ds, v = .ref a ∧ seqD d = some ds ∧ SqA K H a xs ∧ DpAll K H xs ds := by
  rcases h with h | ⟨rfl, _⟩
  · cases h with
    | lst s t => exact ⟨_, _, _, rfl, rfl, .inl s, t⟩
    | tup s t => exact ⟨_, _, _, rfl, rfl, .inr s, t⟩
    | _ => cases e
  · cases e
theorem seq_no {d : PyData} (e : isL d = false) : seqD d = none := by
  cases d <;> first | rfl | cases e
theorem sqA_keep {K : PySem.W.Frag} {H H' : Hp} {a : Addr} {xs : List V} (g : Same H H') (h : SqA K H a xs) : SqA K H' a xs := h.elim (fun h => .inl ((Keeps.of g).sqL h)) fun h => .inr ((Keeps.of g).sqT h)
/-- xs[i] of a list or a tuple -/
theorem ix_of {K : PySem.W.Frag} {H : Hp} {a : Addr} {xs : List V} {i : Int} {v : V} {Q : VK} (h : SqA K H a xs) (e : atI xs i = some v) (q : Q v H) : rIx K (.ref a) (.int i) H Q :=
  h.elim (fun h => .inl ⟨a, xs, i, v, rfl, rfl, h, e, q⟩) fun h => .inr (.inl ⟨a, xs, i, v, rfl, rfl, h, e, q⟩)
theorem two_ints {K : PySem.W.Frag} {H : Hp} {xs : List V} {i j : Int} (h : DpAll K H xs [.int i, .int j]) : xs = [.int i, .int j] := by
  cases h with
  | cons hx t =>
    cases t with
    | cons hy t =>
      cases t
      cases hx
      cases hy
      rfl
theorem pair_of {K : PySem.W.Frag} {H : Hp} {v : V} {d : PyData} {i j : Int} (h : Da K H v d) (e : seqD d = some [.int i, .int j]) : ∃ a, v = .ref a ∧ SqA K H a [.int i, .int j] := by
  have l : isL d = true := by
    cases d <;> first | rfl | cases e
  obtain ⟨a, xs, ds, rfl, es, sq, all⟩ := seq_of l h
  rw [es] at e
  obtain rfl := Option.some.inj e
  obtain rfl := two_ints all
  exact ⟨a, rfl, sq⟩
theorem ty_keep {K : PySem.W.Frag} {H H' : Hp} {v : V} {t : Value} (g : Same H H') (h : TyX K H v t) : TyX K H' v t := by
  cases h with
  | base b =>
    cases b with
    | non => exact .base .non
    | bl x => exact .base (.bl x)
    | int x => exact .base (.int x)
    | str x => exact .base (.str x)
    | flt x => exact .base (.flt x)
    | lst e => exact .base (.lst (g _ _ e))
    | frz e => exact .base (.frz (g _ _ e))
    | tup e => exact .base (.tup (g _ _ e))
    | dK e => exact .base (.dK (g _ _ e))
    | dT e => exact .base (.dT (g _ _ e))
    | ins e c1 c2 c3 c4 c5 => exact .base (.ins (g _ _ e) c1 c2 c3 c4 c5)
  | byt b => exact .byt b
  | set e => exact .set (g _ _ e)
  | kList e c => exact .kList e c
  | kTuple e c => exact .kTuple e c
  | kDict e c => exact .kDict e c
  | fTuple e => exact .fTuple (g _ _ e)
  | fDict e => exact .fDict (g _ _ e)
def spLs (K : PySem.W.Frag) : Sp := fun vs H Q _ => ∃ v d, vs = [v] ∧ TyX K H v (.type (tyN d)) ∧ ∀ H', Same H H' → Q (.bl (isL d)) H'
def spB (K : PySem.W.Frag) (g : PyData → Bool) : Sp := fun vs H Q _ => ∃ v d, vs = [v] ∧ Da K H v d ∧ ∀ H', Same H H' → Q (.bl (g d)) H'
/-- the class of a number's error -/
abbrev CN (K : PySem.W.Frag) : Value := .ref (He.ga K "BadNumber")
/-- a number, and its ratio in lowest terms -/
inductive Good : PyData → Int → Int → Prop where
  | int (i : Int) : Good (.int i) i 1
  | three (i k : Int) (e : k = 3 * i) : Good (.list [.int k, .int 3]) i 1
  | pr (i j : Int) (g : Nat.gcd i.natAbs j.natAbs = 1) (p : 1 ≤ j) : Good (.tuple [.int i, .int j]) i j
theorem Good.num {d : PyData} {i j : Int} (g : Good d i j) : numD d = true := by
  cases g with
  | int => rfl
  | three => rfl
  | pr i j g p =>
    show (true && (true && decide (j ≥ 1))) = true
    rw [decide_eq_true p]
    rfl
def spRatio (K : PySem.W.Frag) : Sp := fun vs H Q E => ∃ v d, vs = [v] ∧ Da K H v d ∧ ((numD d = false ∧ ∀ H', Same H H' → E (CN K) none H') ∨
  ∃ i j, Good d i j ∧ ∀ p H', Same H H' → H' p = some (.tup [.int i, .int j]) → Q (.ref p) H')
section
variable {P : Program} {w : World} {K : PySem.W.Frag} {mg : Str → Option Value} {base : Heap} {tk : Tok × Tok × Tok}
theorem sc_is_int : FnScope ["value"] ["value"] (defScope (topH 9)) := ⟨rfl, rfl, rfl, by decide +kernel, rfl, by decide +kernel, by decide +kernel⟩
theorem ok_is_int {f : Addr} {fd : FuncData} (F : Fun K "is_int" "is_int" (topH 9) f fd) (T : Tx K mg tk) :
    FnOk P w K mg base CX0 1 f fd ["value"] (spB K isI) := by
  refine F.ok sc_is_int (fun vs H Q E h => ?_) (fun cdv A outer s H vs Q E hr h => ?_)
  · obtain ⟨v, d, rfl, _⟩ := h
    rfl
  obtain ⟨v, d, rfl, hd, q⟩ := h
  refine ⟨_, (pss_one (ps_ret (pe_andT (pe_callB call_isi (by rfl) T.isi isi_b (pa_cons (pv 0) (pa_cons (pe_bltn (v := .ty "int") (by rfl) T.int int_b rfl) pa_nil))) (pe_one (pe_notT (pe_callB call_isi (by rfl) T.isi isi_b (pa_cons (pv 0) (pa_cons (pe_bltn (v := .ty "bool") (by rfl) T.bool bool_b rfl) pa_nil)))))))), ?_⟩
  refine ⟨_, rfl, _, _, _, _, _, rfl, .ty _, hd.ty, kit_int d, _, rfl, ?_⟩
  cases e : (isI d || isB d) with
  | false =>
    have e1 : isI d = false := (Bool.or_eq_false_iff.mp e).1
    have z := q H (Same.refl H)
    rw [e1] at z
    exact z
  | true =>
    refine ⟨_, rfl, _, _, _, _, _, rfl, .ty _, hd.ty, kit_bool d, _, rfl, ?_⟩
    have e1 : (!isB d) = isI d := by
      cases d <;> first | rfl | cases e
    show Q (.bl (!isB d)) H
    rw [e1]
    exact q H (Same.refl H)

theorem sc_is_list : FnScope ["value"] ["value"] (defScope (topH 10)) := ⟨rfl, rfl, rfl, by decide +kernel, rfl, by decide +kernel, by decide +kernel⟩
theorem ok_is_list {f : Addr} {fd : FuncData} (F : Fun K "is_list" "is_list" (topH 10) f fd) (T : Tx K mg tk) :
    FnOk P w K mg base CX0 1 f fd ["value"] (spLs K) := by
  refine F.ok sc_is_list (fun vs H Q E h => ?_) (fun cdv A outer s H vs Q E hr h => ?_)
  · obtain ⟨v, d, rfl, _⟩ := h
    rfl
  obtain ⟨v, d, rfl, hd, q⟩ := h
  refine ⟨_, (pss_one (ps_ret (pe_callB call_isiT (by rfl) T.isi isi_b (pa_cons (pv 0) (pa_cons (pe_tup (pa_cons (pe_bltn (v := .ty "list") (by rfl) T.list list_b rfl) (pa_cons (pe_bltn (v := .ty "tuple") (by rfl) T.tuple tuple_b rfl) pa_nil))) pa_nil))))), ?_⟩
  refine ⟨_, rfl, by show 2 ≤ sizeLine; decide, fun t ht => ?_⟩
  have g := same_new (Same.refl H) ht (.tup [.ty "list", .ty "tuple"])
  exact ⟨_, t, _, _, _, _, rfl, upd_same, .cons (.ty _) (.cons (.ty _) .nil), ty_keep g hd, kit_lt d, q _ g⟩

theorem sc_is_number : FnScope ["value"] ["value"] (defScope (topH 11)) := ⟨rfl, rfl, rfl, by decide +kernel, rfl, by decide +kernel, by decide +kernel⟩
theorem ok_is_number {f : Addr} {fd : FuncData} (F : Fun K "is_number" "is_number" (topH 11) f fd) (T : Tx K mg tk) {fis_list : Addr} {fdis_list : FuncData} (Gis_list : FnOk P w K mg base CX0 1 fis_list fdis_list ["value"] (spLs K)) (Kis_list : PySem.W.keepIn K (.ref fis_list) = true) (Bis_list : Binds K fdis_list ["value"] []) (Mis_list : mg "is_list" = some (.ref fis_list)) {fis_int : Addr} {fdis_int : FuncData} (Gis_int : FnOk P w K mg base CX0 1 fis_int fdis_int ["value"] (spB K isI)) (Kis_int : PySem.W.keepIn K (.ref fis_int) = true) (Bis_int : Binds K fdis_int ["value"] []) (Mis_int : mg "is_int" = some (.ref fis_int)) :
    FnOk P w K mg base CX0 2 f fd ["value"] (spB K numD) := by
  refine F.ok sc_is_number (fun vs H Q E h => ?_) (fun cdv A outer s H vs Q E hr h => ?_)
  · obtain ⟨v, d, rfl, _⟩ := h
    rfl
  obtain ⟨v, d, rfl, hd, q⟩ := h
  refine ⟨_, (pss_cons (ps_if (pt_not (pt_val (pe_call Gis_list (hr.mono (by decide)) (by rfl) Mis_list Kis_list Bis_list .nil pass0 (pa_cons (pv 0) pa_nil)))) (pss_one (ps_ret (pe_call Gis_int (hr.mono (by decide)) (by rfl) Mis_int Kis_int Bis_int .nil pass0 (pa_cons (pv 0) pa_nil)))) pss_nil)
 (pss_one (ps_ret (pe_andT (pe_cmpR op_eq (pe_callB call_len_seq (by rfl) T.len PySem.boot_len (pa_cons (pv 0) pa_nil)) pe_int (nomark _)) (pe_andT (pe_call Gis_int (hr.mono (by decide)) (by rfl) Mis_int Kis_int Bis_int .nil pass0 (pa_cons (pe_ix (r := rIx K) ix_seq (pv 0) pe_int (fun _ _ => rfl)) pa_nil)) (pe_andT (pe_call Gis_int (hr.mono (by decide)) (by rfl) Mis_int Kis_int Bis_int .nil pass0 (pa_cons (pe_ix (r := rIx K) ix_seq (pv 0) pe_int (fun _ _ => rfl)) pa_nil)) (pe_one (pe_cmpR op_ge (pe_ix (r := rIx K) ix_seq (pv 0) pe_int (fun _ _ => rfl)) pe_int (nomark _))))))))), ?_⟩
  refine ⟨_, rfl, v, d, rfl, hd.ty, fun H1 s1 => ⟨_, rfl, ?_⟩⟩
  cases e : isL d with
  | false =>
    refine iteT ⟨_, rfl, v, d, rfl, hd.keep s1, fun H2 s2 => ?_⟩
    have e2 : numD d = isI d := by
      unfold numD
      rw [seq_no e]
    rw [← e2]
    exact q H2 (s1.trans s2)
  | true =>
    refine iteF ?_
    obtain ⟨a, xs, ds, rfl, es, sq, all⟩ := seq_of e hd
    have sq1 := sqA_keep s1 sq
    have all1 := DpAll.keep (Keeps.of s1) ds xs all
    have ln := DpAll.len all
    have en : numD d = numL ds := by
      unfold numD
      rw [es]
    refine ⟨_, rfl, a, xs, rfl, sq1, rfl, _, rfl, ?_⟩
    by_cases two : xs.length = 2
    · obtain ⟨x, y, dx, dy, rfl, rfl, hx, hy⟩ := two_all all1 two
      have en2 : numD d = (isI dx && (isI dy && posI dy)) := en
      have e3 : decide (V.int (([x, y] : List V).length : Int) = V.int 2) = true := rfl
      rw [e3]
      refine iteT ⟨_, rfl, ix_of sq1 (atI_nat (j := 0) rfl) ?_⟩
      refine ⟨x, dx, rfl, .of hx, fun H2 s2 => ⟨_, rfl, ?_⟩⟩
      cases ex : isI dx with
      | false =>
        have z := q H2 (s1.trans s2)
        rw [en2, ex] at z
        exact z
      | true =>
        refine iteT ⟨_, rfl, ix_of (sqA_keep s2 sq1) (atI_nat (j := 1) rfl) ?_⟩
        refine ⟨y, dy, rfl, (Da.of hy).keep s2, fun H3 s3 => ⟨_, rfl, ?_⟩⟩
        cases ey : isI dy with
        | false =>
          have z := q H3 ((s1.trans s2).trans s3)
          rw [en2, ex, ey] at z
          exact z
        | true =>
          refine iteT ⟨_, rfl, ix_of (sqA_keep (s2.trans s3) sq1) (atI_nat (j := 1) rfl) ?_⟩
          have z := q H3 ((s1.trans s2).trans s3)
          rw [en2, ex, ey] at z
          cases hy with
          | int j => exact ⟨_, _, rfl, rfl, z⟩
          | _ => cases ey
    · have z := q H1 s1
      rw [en, numL_no (by rw [← ln]; exact two)] at z
      have e3 : decide (V.int (xs.length : Int) = V.int 2) = false := decide_eq_false fun h => two (by have := V.int.inj h; omega)
      rw [e3]
      exact iteF z

theorem sc_as_ratio : FnScope ["value", "shared"] ["value"] (defScope (topH 12)) := ⟨rfl, rfl, rfl, by decide +kernel, rfl, by decide +kernel, by decide +kernel⟩
theorem ok_as_ratio {f : Addr} {fd : FuncData} (F : Fun K "as_ratio" "as_ratio" (topH 12) f fd) (T : Tx K mg tk) {fis_number : Addr} {fdis_number : FuncData} (Gis_number : FnOk P w K mg base CX0 2 fis_number fdis_number ["value"] (spB K numD)) (Kis_number : PySem.W.keepIn K (.ref fis_number) = true) (Bis_number : Binds K fdis_number ["value"] []) (Mis_number : mg "is_number" = some (.ref fis_number)) {fis_int : Addr} {fdis_int : FuncData} (Gis_int : FnOk P w K mg base CX0 1 fis_int fdis_int ["value"] (spB K isI)) (Kis_int : PySem.W.keepIn K (.ref fis_int) = true) (Bis_int : Binds K fdis_int ["value"] []) (Mis_int : mg "is_int" = some (.ref fis_int)) :
    FnOk P w K mg base (L2.CX P w) 3 f fd ["value"] (spRatio K) := by
  refine F.okX sc_as_ratio (fun vs H Q E h => ?_) (fun cdv A outer s H vs Q E hr h => ?_)
  · obtain ⟨v, d, rfl, _⟩ := h
    rfl
  obtain ⟨v, d, rfl, hd, q⟩ := h
  refine ⟨_, (pss_cons (ps_if (pt_not (pt_val (pe_call Gis_number (hr.mono (by decide)) (by rfl) Mis_number Kis_number Bis_number .nil pass0 (pa_cons (pv 0) pa_nil)))) (pss_one (ps_raise rfl (takes_of rfl rfl rfl rfl) (pmk0 (T.exBadNumber) (T.tyBadNumber) (T.plBadNumber) T.glBadNumber rfl))) pss_nil)
 (pss_cons (ps_if (pt_val (pe_call Gis_int (hr.mono (by decide)) (by rfl) Mis_int Kis_int Bis_int .nil pass0 (pa_cons (pv 0) pa_nil))) (pss_one (ps_ret (pe_tup (pa_cons (pv 0) (pa_cons pe_int pa_nil))))) pss_nil)
 (pss_cons (ps_set (i := 1) sc_as_ratio.nd rfl (Or.inl rfl) (pe_callBfun cr_gcd (by rfl) T.gcd (pa_cons (pe_ix (r := rIx K) ix_seq (pv 0) pe_int (fun _ _ => rfl)) (pa_cons (pe_ix (r := rIx K) ix_seq (pv 0) pe_int (fun _ _ => rfl)) pa_nil))))
 (pss_one (ps_ret (pe_tup (pa_cons (pe_op op_fdiv (pe_ix (r := rIx K) ix_seq (pv 0) pe_int (fun _ _ => rfl)) (pv 1)) (pa_cons (pe_op op_fdiv (pe_ix (r := rIx K) ix_seq (pv 0) pe_int (fun _ _ => rfl)) (pv 1)) pa_nil)))))))), ?_⟩
  refine ⟨_, rfl, v, d, rfl, hd, fun H1 s1 => ⟨_, rfl, ?_⟩⟩
  rcases q with ⟨e, q⟩ | ⟨i, j, g, q⟩
  · rw [e]
    exact iteT (q H1 s1)
  rw [g.num]
  refine iteF ?_
  refine ⟨_, rfl, v, d, rfl, hd.keep s1, fun H2 s2 => ⟨_, rfl, ?_⟩⟩
  have s12 := s1.trans s2
  have d2 := hd.keep s12
  cases g with
  | int =>
    rcases d2 with d2 | ⟨e, _⟩
    · cases d2
      refine iteT ⟨_, rfl, by show 2 ≤ sizeLine; decide, fun p hp => ?_⟩
      exact q p _ (same_new s12 hp _) upd_same
    · cases e
  | three _ k ek =>
    refine iteF ?_
    obtain ⟨a, rfl, sq⟩ := pair_of d2 rfl
    all_goals
      refine ⟨_, rfl, ix_of sq (atI_nat (j := 0) rfl) ⟨_, rfl, ix_of sq (atI_nat (j := 1) rfl) ?_⟩⟩
      have eg : Nat.gcd k.natAbs (3 : Int).natAbs = 3 := by
        rw [ek, Int.natAbs_mul]
        exact Nat.gcd_eq_right (Nat.dvd_mul_right _ _)
      refine ⟨_, _, rfl, ?_⟩
      rw [eg]
      refine ⟨_, rfl, ix_of sq (atI_nat (j := 0) rfl) ⟨_, rfl, _, _, rfl, rfl, ⟨by decide, by decide⟩, _, rfl, ix_of sq (atI_nat (j := 1) rfl) ⟨_, rfl, _, _, rfl, rfl, ⟨by decide, by decide⟩, by show 2 ≤ sizeLine; decide, fun p hp => ?_⟩⟩⟩
      refine q p _ (same_new s12 hp _) ?_
      rw [upd_same]
      have e1 : k / ((3 : Nat) : Int) = i := by
        rw [ek]
        exact Int.mul_ediv_cancel_left _ (by decide)
      have e2 : (3 : Int) / ((3 : Nat) : Int) = 1 := by decide
      show some (HO.tup [V.int (k / ((3 : Nat) : Int)), V.int ((3 : Int) / ((3 : Nat) : Int))]) = _
      rw [e1, e2]
  | pr _ _ h2 h3 =>
    refine iteF ?_
    obtain ⟨a, rfl, sq⟩ := pair_of d2 rfl
    all_goals
      refine ⟨_, rfl, ix_of sq (atI_nat (j := 0) rfl) ⟨_, rfl, ix_of sq (atI_nat (j := 1) rfl) ?_⟩⟩
      refine ⟨_, _, rfl, ?_⟩
      rw [h2]
      refine ⟨_, rfl, ix_of sq (atI_nat (j := 0) rfl) ⟨_, rfl, _, _, rfl, rfl, ⟨by decide, by decide⟩, _, rfl, ix_of sq (atI_nat (j := 1) rfl) ⟨_, rfl, _, _, rfl, rfl, ⟨by decide, by decide⟩, by show 2 ≤ sizeLine; decide, fun p hp => ?_⟩⟩⟩
      refine q p _ (same_new s12 hp _) ?_
      rw [upd_same]
      have e1 : ∀ k : Int, k / ((1 : Nat) : Int) = k := fun k => Int.ediv_one k
      show some (HO.tup [V.int (i / ((1 : Nat) : Int)), V.int (j / ((1 : Nat) : Int))]) = _
      rw [e1, e1]

end
end Hs
set_option maxHeartbeats 8000000
namespace Hs
open PySem L2
/-! ## the doors of numbers -/
theorem cr_lcm {X : Cx} : CallR X (.builtin "math.lcm") (fun vs H Q => vs = [.int 1, .int 1] ∧ Q (.int 1) H) := by
  intro pins s σ H vs us Q I r h
  obtain ⟨rfl, q⟩ := h
  obtain ⟨t, u, rfl⟩ := Vals.int2 r
  exact PySem.W.mg_lcm_v (c := 1) (by decide) (by decide) (by decide) (by decide) ⟨.int 1, H, I.tok _, ⟨_, rfl⟩, q⟩
abbrev Sml (i : Int) : Prop := -100 ≤ i ∧ i ≤ 100
/-- a wrong number: the error; a good one: its top -/
def Arg1 (K : PySem.W.Frag) (d : PyData) (H : Hp) (E : XK) (ok : Int → Prop) : Prop := (numD d = false ∧ ∀ H', Same H H' → E (CN K) none H') ∨ ∃ i, Good d i 1 ∧ Sml i ∧ ok i
/-- a ratio comes back -/
def Rat (Q : VK) (H : Hp) (x y : Int) : Prop := ∀ p H', Same H H' → H' p = some (.tup [.int x, .int y]) → Q (.ref p) H'
def spBin (K : PySem.W.Frag) (C : Int → Int → Prop) (g : Int → Int → Int × Int) : Sp := fun vs H Q E => ∃ v1 d1 v2 d2, vs = [v1, v2] ∧ Da K H v1 d1 ∧ Da K H v2 d2 ∧
  Arg1 K d1 H E fun i => Arg1 K d2 H E fun j => C i j ∧ Rat Q H (g i j).1 (g i j).2
theorem cmul {i j : Int} (h : Sml i) : CMul i j := .inl ⟨by have := h.1; omega, by have := h.2; omega⟩
section
variable {P : Program} {w : World} {K : PySem.W.Frag} {mg : Str → Option Value} {base : Heap} {tk : Tok × Tok × Tok}
theorem sc_plus : FnScope ["a", "b", "top", "bottom", "other_top", "other_bottom"] ["a", "b"] (defScope (topH 14)) := ⟨rfl, rfl, rfl, by decide +kernel, rfl, by decide +kernel, by decide +kernel⟩
theorem ok_plus {f : Addr} {fd : FuncData} (F : Fun K "plus" "plus" (topH 14) f fd) (T : Tx K mg tk) {fas_ratio : Addr} {fdas_ratio : FuncData} (Gas_ratio : FnOk P w K mg base (L2.CX P w) 3 fas_ratio fdas_ratio ["value"] (spRatio K)) (Kas_ratio : PySem.W.keepIn K (.ref fas_ratio) = true) (Bas_ratio : Binds K fdas_ratio ["value"] []) (Mas_ratio : mg "as_ratio" = some (.ref fas_ratio)) :
    FnOk P w K mg base (L2.CX P w) 4 f fd ["a", "b"] (spBin K (fun _ _ => True) fun i j => (i + j, 1)) := by
  refine F.okX sc_plus (fun vs H Q E h => ?_) (fun cdv A outer s H vs Q E hr h => ?_)
  · obtain ⟨v1, d1, v2, d2, rfl, _⟩ := h
    rfl
  obtain ⟨v1, d1, v2, d2, rfl, h1, h2, q⟩ := h
  refine ⟨_, (pss_cons (ps_asg (pe_call Gas_ratio (hr.mono (by decide)) (by rfl) Mas_ratio Kas_ratio Bas_ratio .nil (passes_call (takes_of rfl rfl rfl rfl) (fun _ _ _ _ h => h)) (pa_cons (pv 0) pa_nil)) (pg_tup rfl (pgs_cons (pg_name (i := 2) sc_plus.nd rfl (Or.inl rfl)) (pgs_cons (pg_name (i := 3) sc_plus.nd rfl (Or.inl rfl)) pgs_nil))))
 (pss_cons (ps_asg (pe_call Gas_ratio (hr.mono (by decide)) (by rfl) Mas_ratio Kas_ratio Bas_ratio .nil (passes_call (takes_of rfl rfl rfl rfl) (fun _ _ _ _ h => h)) (pa_cons (pv 1) pa_nil)) (pg_tup rfl (pgs_cons (pg_name (i := 4) sc_plus.nd rfl (Or.inl rfl)) (pgs_cons (pg_name (i := 5) sc_plus.nd rfl (Or.inl rfl)) pgs_nil))))
 (pss_one (ps_ret (pe_call Gas_ratio (hr.mono (by decide)) (by rfl) Mas_ratio Kas_ratio Bas_ratio .nil (passes_call (takes_of rfl rfl rfl rfl) (fun _ _ _ _ h => h)) (pa_cons (pe_tup (pa_cons (pe_op op_add (pe_op op_mul (pv 2) (pv 5)) (pe_op op_mul (pv 4) (pv 3))) (pa_cons (pe_op op_mul (pv 3) (pv 5)) pa_nil))) pa_nil)))))), ?_⟩
  refine ⟨_, rfl, v1, d1, rfl, h1, ?_⟩
  rcases q with ⟨e, q⟩ | ⟨i, g1, m1, q⟩
  · exact .inl ⟨e, q⟩
  refine .inr ⟨i, 1, g1, fun p1 H1 t1 e1 => ?_⟩
  refine ⟨p1, _, rfl, SqT.of e1, rfl, _, _, rfl, _, _, rfl, rfl, ?_⟩
  refine ⟨_, rfl, v2, d2, rfl, h2.keep t1, ?_⟩
  rcases q with ⟨e, q⟩ | ⟨j, g2, m2, c, q⟩
  · exact .inl ⟨e, fun H' s => q H' (t1.trans s)⟩
  refine .inr ⟨j, 1, g2, fun p2 H2 t2 e2 => ?_⟩
  refine ⟨p2, _, rfl, SqT.of e2, rfl, _, _, rfl, _, _, rfl, rfl, ?_⟩
  refine ⟨_, rfl, _, rfl, _, _, rfl, rfl, cmul m1, _, rfl, _, rfl, _, _, rfl, rfl, cmul m2, _, _, rfl, rfl, _, rfl, _, rfl, _, _, rfl, rfl, cmul (by decide), ?_⟩
  refine ⟨by show 2 ≤ sizeLine; decide, fun p3 h3 => ?_⟩
  refine ⟨.ref p3, .tuple [.int (i * 1 + j * 1), .int (1 * 1)], rfl, .of (.tup (SqT.of upd_same) (.cons (.int _) (.cons (.int _) .nil))), .inr ⟨(i * 1 + j * 1), (1 * 1), .pr _ _ (by rw [show ((1 : Int) * 1).natAbs = 1 from rfl]; exact Nat.gcd_one_right _) (by decide), fun p H' t e => ?_⟩⟩
  have z := q p H' ((t1.trans t2).trans ((same_new (Same.refl H2) h3 _).trans t))
  exact z (by rw [Int.mul_one, Int.mul_one] at e; exact e)

theorem sc_minus : FnScope ["a", "b", "top", "bottom", "other_top", "other_bottom"] ["a", "b"] (defScope (topH 15)) := ⟨rfl, rfl, rfl, by decide +kernel, rfl, by decide +kernel, by decide +kernel⟩
theorem ok_minus {f : Addr} {fd : FuncData} (F : Fun K "minus" "minus" (topH 15) f fd) (T : Tx K mg tk) {fas_ratio : Addr} {fdas_ratio : FuncData} (Gas_ratio : FnOk P w K mg base (L2.CX P w) 3 fas_ratio fdas_ratio ["value"] (spRatio K)) (Kas_ratio : PySem.W.keepIn K (.ref fas_ratio) = true) (Bas_ratio : Binds K fdas_ratio ["value"] []) (Mas_ratio : mg "as_ratio" = some (.ref fas_ratio)) :
    FnOk P w K mg base (L2.CX P w) 4 f fd ["a", "b"] (spBin K (fun _ _ => True) fun i j => (i - j, 1)) := by
  refine F.okX sc_minus (fun vs H Q E h => ?_) (fun cdv A outer s H vs Q E hr h => ?_)
  · obtain ⟨v1, d1, v2, d2, rfl, _⟩ := h
    rfl
  obtain ⟨v1, d1, v2, d2, rfl, h1, h2, q⟩ := h
  refine ⟨_, (pss_cons (ps_asg (pe_call Gas_ratio (hr.mono (by decide)) (by rfl) Mas_ratio Kas_ratio Bas_ratio .nil (passes_call (takes_of rfl rfl rfl rfl) (fun _ _ _ _ h => h)) (pa_cons (pv 0) pa_nil)) (pg_tup rfl (pgs_cons (pg_name (i := 2) sc_minus.nd rfl (Or.inl rfl)) (pgs_cons (pg_name (i := 3) sc_minus.nd rfl (Or.inl rfl)) pgs_nil))))
 (pss_cons (ps_asg (pe_call Gas_ratio (hr.mono (by decide)) (by rfl) Mas_ratio Kas_ratio Bas_ratio .nil (passes_call (takes_of rfl rfl rfl rfl) (fun _ _ _ _ h => h)) (pa_cons (pv 1) pa_nil)) (pg_tup rfl (pgs_cons (pg_name (i := 4) sc_minus.nd rfl (Or.inl rfl)) (pgs_cons (pg_name (i := 5) sc_minus.nd rfl (Or.inl rfl)) pgs_nil))))
 (pss_one (ps_ret (pe_call Gas_ratio (hr.mono (by decide)) (by rfl) Mas_ratio Kas_ratio Bas_ratio .nil (passes_call (takes_of rfl rfl rfl rfl) (fun _ _ _ _ h => h)) (pa_cons (pe_tup (pa_cons (pe_op op_sub (pe_op op_mul (pv 2) (pv 5)) (pe_op op_mul (pv 4) (pv 3))) (pa_cons (pe_op op_mul (pv 3) (pv 5)) pa_nil))) pa_nil)))))), ?_⟩
  refine ⟨_, rfl, v1, d1, rfl, h1, ?_⟩
  rcases q with ⟨e, q⟩ | ⟨i, g1, m1, q⟩
  · exact .inl ⟨e, q⟩
  refine .inr ⟨i, 1, g1, fun p1 H1 t1 e1 => ?_⟩
  refine ⟨p1, _, rfl, SqT.of e1, rfl, _, _, rfl, _, _, rfl, rfl, ?_⟩
  refine ⟨_, rfl, v2, d2, rfl, h2.keep t1, ?_⟩
  rcases q with ⟨e, q⟩ | ⟨j, g2, m2, c, q⟩
  · exact .inl ⟨e, fun H' s => q H' (t1.trans s)⟩
  refine .inr ⟨j, 1, g2, fun p2 H2 t2 e2 => ?_⟩
  refine ⟨p2, _, rfl, SqT.of e2, rfl, _, _, rfl, _, _, rfl, rfl, ?_⟩
  refine ⟨_, rfl, _, rfl, _, _, rfl, rfl, cmul m1, _, rfl, _, rfl, _, _, rfl, rfl, cmul m2, _, _, rfl, rfl, _, rfl, _, rfl, _, _, rfl, rfl, cmul (by decide), ?_⟩
  refine ⟨by show 2 ≤ sizeLine; decide, fun p3 h3 => ?_⟩
  refine ⟨.ref p3, .tuple [.int (i * 1 - j * 1), .int (1 * 1)], rfl, .of (.tup (SqT.of upd_same) (.cons (.int _) (.cons (.int _) .nil))), .inr ⟨(i * 1 - j * 1), (1 * 1), .pr _ _ (by rw [show ((1 : Int) * 1).natAbs = 1 from rfl]; exact Nat.gcd_one_right _) (by decide), fun p H' t e => ?_⟩⟩
  have z := q p H' ((t1.trans t2).trans ((same_new (Same.refl H2) h3 _).trans t))
  exact z (by rw [Int.mul_one, Int.mul_one] at e; exact e)

theorem sc_times : FnScope ["a", "b", "top", "bottom", "other_top", "other_bottom"] ["a", "b"] (defScope (topH 16)) := ⟨rfl, rfl, rfl, by decide +kernel, rfl, by decide +kernel, by decide +kernel⟩
theorem ok_times {f : Addr} {fd : FuncData} (F : Fun K "times" "times" (topH 16) f fd) (T : Tx K mg tk) {fas_ratio : Addr} {fdas_ratio : FuncData} (Gas_ratio : FnOk P w K mg base (L2.CX P w) 3 fas_ratio fdas_ratio ["value"] (spRatio K)) (Kas_ratio : PySem.W.keepIn K (.ref fas_ratio) = true) (Bas_ratio : Binds K fdas_ratio ["value"] []) (Mas_ratio : mg "as_ratio" = some (.ref fas_ratio)) :
    FnOk P w K mg base (L2.CX P w) 4 f fd ["a", "b"] (spBin K (fun _ _ => True) fun i j => (i * j, 1)) := by
  refine F.okX sc_times (fun vs H Q E h => ?_) (fun cdv A outer s H vs Q E hr h => ?_)
  · obtain ⟨v1, d1, v2, d2, rfl, _⟩ := h
    rfl
  obtain ⟨v1, d1, v2, d2, rfl, h1, h2, q⟩ := h
  refine ⟨_, (pss_cons (ps_asg (pe_call Gas_ratio (hr.mono (by decide)) (by rfl) Mas_ratio Kas_ratio Bas_ratio .nil (passes_call (takes_of rfl rfl rfl rfl) (fun _ _ _ _ h => h)) (pa_cons (pv 0) pa_nil)) (pg_tup rfl (pgs_cons (pg_name (i := 2) sc_times.nd rfl (Or.inl rfl)) (pgs_cons (pg_name (i := 3) sc_times.nd rfl (Or.inl rfl)) pgs_nil))))
 (pss_cons (ps_asg (pe_call Gas_ratio (hr.mono (by decide)) (by rfl) Mas_ratio Kas_ratio Bas_ratio .nil (passes_call (takes_of rfl rfl rfl rfl) (fun _ _ _ _ h => h)) (pa_cons (pv 1) pa_nil)) (pg_tup rfl (pgs_cons (pg_name (i := 4) sc_times.nd rfl (Or.inl rfl)) (pgs_cons (pg_name (i := 5) sc_times.nd rfl (Or.inl rfl)) pgs_nil))))
 (pss_one (ps_ret (pe_call Gas_ratio (hr.mono (by decide)) (by rfl) Mas_ratio Kas_ratio Bas_ratio .nil (passes_call (takes_of rfl rfl rfl rfl) (fun _ _ _ _ h => h)) (pa_cons (pe_tup (pa_cons (pe_op op_mul (pv 2) (pv 4)) (pa_cons (pe_op op_mul (pv 3) (pv 5)) pa_nil))) pa_nil)))))), ?_⟩
  refine ⟨_, rfl, v1, d1, rfl, h1, ?_⟩
  rcases q with ⟨e, q⟩ | ⟨i, g1, m1, q⟩
  · exact .inl ⟨e, q⟩
  refine .inr ⟨i, 1, g1, fun p1 H1 t1 e1 => ?_⟩
  refine ⟨p1, _, rfl, SqT.of e1, rfl, _, _, rfl, _, _, rfl, rfl, ?_⟩
  refine ⟨_, rfl, v2, d2, rfl, h2.keep t1, ?_⟩
  rcases q with ⟨e, q⟩ | ⟨j, g2, m2, c, q⟩
  · exact .inl ⟨e, fun H' s => q H' (t1.trans s)⟩
  refine .inr ⟨j, 1, g2, fun p2 H2 t2 e2 => ?_⟩
  refine ⟨p2, _, rfl, SqT.of e2, rfl, _, _, rfl, _, _, rfl, rfl, ?_⟩
  refine ⟨_, rfl, _, rfl, _, _, rfl, rfl, cmul m1, _, rfl, _, rfl, _, _, rfl, rfl, cmul (by decide), ?_⟩
  refine ⟨by show 2 ≤ sizeLine; decide, fun p3 h3 => ?_⟩
  refine ⟨.ref p3, .tuple [.int (i * j), .int (1 * 1)], rfl, .of (.tup (SqT.of upd_same) (.cons (.int _) (.cons (.int _) .nil))), .inr ⟨(i * j), (1 * 1), .pr _ _ (by rw [show ((1 : Int) * 1).natAbs = 1 from rfl]; exact Nat.gcd_one_right _) (by decide), fun p H' t e => ?_⟩⟩
  have z := q p H' ((t1.trans t2).trans ((same_new (Same.refl H2) h3 _).trans t))
  exact z e

theorem sc_over : FnScope ["a", "b", "top", "bottom", "other_top", "other_bottom"] ["a", "b"] (defScope (topH 18)) := ⟨rfl, rfl, rfl, by decide +kernel, rfl, by decide +kernel, by decide +kernel⟩
theorem ok_over {f : Addr} {fd : FuncData} (F : Fun K "over" "over" (topH 18) f fd) (T : Tx K mg tk) {fas_ratio : Addr} {fdas_ratio : FuncData} (Gas_ratio : FnOk P w K mg base (L2.CX P w) 3 fas_ratio fdas_ratio ["value"] (spRatio K)) (Kas_ratio : PySem.W.keepIn K (.ref fas_ratio) = true) (Bas_ratio : Binds K fdas_ratio ["value"] []) (Mas_ratio : mg "as_ratio" = some (.ref fas_ratio)) :
    FnOk P w K mg base (L2.CX P w) 4 f fd ["a", "b"] (spBin K (fun i j => i = 1 ∧ 1 ≤ j) fun i j => (1, j)) := by
  refine F.okX sc_over (fun vs H Q E h => ?_) (fun cdv A outer s H vs Q E hr h => ?_)
  · obtain ⟨v1, d1, v2, d2, rfl, _⟩ := h
    rfl
  obtain ⟨v1, d1, v2, d2, rfl, h1, h2, q⟩ := h
  refine ⟨_, (pss_cons (ps_asg (pe_call Gas_ratio (hr.mono (by decide)) (by rfl) Mas_ratio Kas_ratio Bas_ratio .nil (passes_call (takes_of rfl rfl rfl rfl) (fun _ _ _ _ h => h)) (pa_cons (pv 0) pa_nil)) (pg_tup rfl (pgs_cons (pg_name (i := 2) sc_over.nd rfl (Or.inl rfl)) (pgs_cons (pg_name (i := 3) sc_over.nd rfl (Or.inl rfl)) pgs_nil))))
 (pss_cons (ps_asg (pe_call Gas_ratio (hr.mono (by decide)) (by rfl) Mas_ratio Kas_ratio Bas_ratio .nil (passes_call (takes_of rfl rfl rfl rfl) (fun _ _ _ _ h => h)) (pa_cons (pv 1) pa_nil)) (pg_tup rfl (pgs_cons (pg_name (i := 4) sc_over.nd rfl (Or.inl rfl)) (pgs_cons (pg_name (i := 5) sc_over.nd rfl (Or.inl rfl)) pgs_nil))))
 (pss_cons (ps_if (pt_cmpR op_eq (pv 4) pe_int (nomark _)) (pss_one (ps_raise rfl (takes_of rfl rfl rfl rfl) (pmk0 (T.exByZero) (T.tyByZero) (T.plByZero) T.glByZero rfl))) pss_nil)
 (pss_cons (ps_if (pt_cmpR op_lt (pv 4) pe_int (nomark _)) (pss_one (ps_ret (pe_call Gas_ratio (hr.mono (by decide)) (by rfl) Mas_ratio Kas_ratio Bas_ratio .nil (passes_call (takes_of rfl rfl rfl rfl) (fun _ _ _ _ h => h)) (pa_cons (pe_tup (pa_cons (pe_op op_mul (pe_un un_neg (pv 2)) (pv 5)) (pa_cons (pe_op op_mul (pe_un un_neg (pv 3)) (pv 4)) pa_nil))) pa_nil)))) pss_nil)
 (pss_one (ps_ret (pe_call Gas_ratio (hr.mono (by decide)) (by rfl) Mas_ratio Kas_ratio Bas_ratio .nil (passes_call (takes_of rfl rfl rfl rfl) (fun _ _ _ _ h => h)) (pa_cons (pe_tup (pa_cons (pe_op op_mul (pv 2) (pv 5)) (pa_cons (pe_op op_mul (pv 3) (pv 4)) pa_nil))) pa_nil)))))))), ?_⟩
  refine ⟨_, rfl, v1, d1, rfl, h1, ?_⟩
  rcases q with ⟨e, q⟩ | ⟨i, g1, m1, q⟩
  · exact .inl ⟨e, q⟩
  refine .inr ⟨i, 1, g1, fun p1 H1 t1 e1 => ?_⟩
  refine ⟨p1, _, rfl, SqT.of e1, rfl, _, _, rfl, _, _, rfl, rfl, ?_⟩
  refine ⟨_, rfl, v2, d2, rfl, h2.keep t1, ?_⟩
  rcases q with ⟨e, q⟩ | ⟨j, g2, m2, c, q⟩
  · exact .inl ⟨e, fun H' s => q H' (t1.trans s)⟩
  refine .inr ⟨j, 1, g2, fun p2 H2 t2 e2 => ?_⟩
  refine ⟨p2, _, rfl, SqT.of e2, rfl, _, _, rfl, _, _, rfl, rfl, ?_⟩
  obtain ⟨rfl, c2⟩ := c
  refine ⟨_, rfl, rfl, _, rfl, ?_⟩
  have n0 : decide (V.int j = V.int 0) = false := decide_eq_false fun h => by
    have := V.int.inj h
    omega
  rw [n0]
  refine iteF ⟨_, rfl, _, _, rfl, rfl, _, rfl, ?_⟩
  rw [decide_eq_false (show ¬ j < 0 by omega)]
  refine iteF ⟨_, rfl, _, rfl, _, _, rfl, rfl, cmul (by decide), _, rfl, _, rfl, _, _, rfl, rfl, cmul (by decide), ?_⟩
  refine ⟨by show 2 ≤ sizeLine; decide, fun p3 h3 => ?_⟩
  refine ⟨.ref p3, .tuple [.int ((1 : Int) * 1), .int (1 * j)], rfl, .of (.tup (SqT.of upd_same) (.cons (.int _) (.cons (.int _) .nil))), .inr ⟨((1 : Int) * 1), (1 * j), .pr _ _ (by rw [show ((1 : Int) * 1).natAbs = 1 from rfl]; exact Nat.gcd_one_left _) (by omega), fun p H' t e => ?_⟩⟩
  have z := q p H' ((t1.trans t2).trans ((same_new (Same.refl H2) h3 _).trans t))
  exact z (by rw [Int.one_mul, Int.one_mul] at e; exact e)

theorem sc_below : FnScope ["a", "b", "top", "bottom", "other_top", "other_bottom"] ["a", "b"] (defScope (topH 20)) := ⟨rfl, rfl, rfl, by decide +kernel, rfl, by decide +kernel, by decide +kernel⟩
theorem ok_below {f : Addr} {fd : FuncData} (F : Fun K "below" "below" (topH 20) f fd) (T : Tx K mg tk) {fas_ratio : Addr} {fdas_ratio : FuncData} (Gas_ratio : FnOk P w K mg base (L2.CX P w) 3 fas_ratio fdas_ratio ["value"] (spRatio K)) (Kas_ratio : PySem.W.keepIn K (.ref fas_ratio) = true) (Bas_ratio : Binds K fdas_ratio ["value"] []) (Mas_ratio : mg "as_ratio" = some (.ref fas_ratio)) :
    FnOk P w K mg base (L2.CX P w) 4 f fd ["a", "b"] (fun vs H Q E => ∃ v1 d1 v2 d2, vs = [v1, v2] ∧ Da K H v1 d1 ∧ Da K H v2 d2 ∧ Arg1 K d1 H E fun i => Arg1 K d2 H E fun j => True ∧ ∀ H', Same H H' → Q (.bl (decide (i < j))) H') := by
  refine F.okX sc_below (fun vs H Q E h => ?_) (fun cdv A outer s H vs Q E hr h => ?_)
  · obtain ⟨v1, d1, v2, d2, rfl, _⟩ := h
    rfl
  obtain ⟨v1, d1, v2, d2, rfl, h1, h2, q⟩ := h
  refine ⟨_, (pss_cons (ps_asg (pe_call Gas_ratio (hr.mono (by decide)) (by rfl) Mas_ratio Kas_ratio Bas_ratio .nil (passes_call (takes_of rfl rfl rfl rfl) (fun _ _ _ _ h => h)) (pa_cons (pv 0) pa_nil)) (pg_tup rfl (pgs_cons (pg_name (i := 2) sc_below.nd rfl (Or.inl rfl)) (pgs_cons (pg_name (i := 3) sc_below.nd rfl (Or.inl rfl)) pgs_nil))))
 (pss_cons (ps_asg (pe_call Gas_ratio (hr.mono (by decide)) (by rfl) Mas_ratio Kas_ratio Bas_ratio .nil (passes_call (takes_of rfl rfl rfl rfl) (fun _ _ _ _ h => h)) (pa_cons (pv 1) pa_nil)) (pg_tup rfl (pgs_cons (pg_name (i := 4) sc_below.nd rfl (Or.inl rfl)) (pgs_cons (pg_name (i := 5) sc_below.nd rfl (Or.inl rfl)) pgs_nil))))
 (pss_one (ps_ret (pe_cmpR op_lt (pe_op op_mul (pv 2) (pv 5)) (pe_op op_mul (pv 4) (pv 3)) (nomark _)))))), ?_⟩
  refine ⟨_, rfl, v1, d1, rfl, h1, ?_⟩
  rcases q with ⟨e, q⟩ | ⟨i, g1, m1, q⟩
  · exact .inl ⟨e, q⟩
  refine .inr ⟨i, 1, g1, fun p1 H1 t1 e1 => ?_⟩
  refine ⟨p1, _, rfl, SqT.of e1, rfl, _, _, rfl, _, _, rfl, rfl, ?_⟩
  refine ⟨_, rfl, v2, d2, rfl, h2.keep t1, ?_⟩
  rcases q with ⟨e, q⟩ | ⟨j, g2, m2, c, q⟩
  · exact .inl ⟨e, fun H' s => q H' (t1.trans s)⟩
  refine .inr ⟨j, 1, g2, fun p2 H2 t2 e2 => ?_⟩
  refine ⟨p2, _, rfl, SqT.of e2, rfl, _, _, rfl, _, _, rfl, rfl, ?_⟩
  have z := q H2 (t1.trans t2)
  refine ⟨_, rfl, _, rfl, _, _, rfl, rfl, cmul m1, _, rfl, _, rfl, _, _, rfl, rfl, cmul m2, _, _, rfl, rfl, ?_⟩
  show Q (.bl (decide (i * 1 < j * 1))) _
  rw [Int.mul_one, Int.mul_one]
  exact z

theorem sc_negative : FnScope ["a", "top", "bottom"] ["a"] (defScope (topH 17)) := ⟨rfl, rfl, rfl, by decide +kernel, rfl, by decide +kernel, by decide +kernel⟩
theorem ok_negative {f : Addr} {fd : FuncData} (F : Fun K "negative" "negative" (topH 17) f fd) (T : Tx K mg tk) {fas_ratio : Addr} {fdas_ratio : FuncData} (Gas_ratio : FnOk P w K mg base (L2.CX P w) 3 fas_ratio fdas_ratio ["value"] (spRatio K)) (Kas_ratio : PySem.W.keepIn K (.ref fas_ratio) = true) (Bas_ratio : Binds K fdas_ratio ["value"] []) (Mas_ratio : mg "as_ratio" = some (.ref fas_ratio)) :
    FnOk P w K mg base (L2.CX P w) 4 f fd ["a"] (fun vs H Q E => ∃ v d, vs = [v] ∧ Da K H v d ∧ Arg1 K d H E fun i => Rat Q H (-i) 1) := by
  refine F.okX sc_negative (fun vs H Q E h => ?_) (fun cdv A outer s H vs Q E hr h => ?_)
  · obtain ⟨v, d, rfl, _⟩ := h
    rfl
  obtain ⟨v, d, rfl, hd, q⟩ := h
  refine ⟨_, (pss_cons (ps_asg (pe_call Gas_ratio (hr.mono (by decide)) (by rfl) Mas_ratio Kas_ratio Bas_ratio .nil (passes_call (takes_of rfl rfl rfl rfl) (fun _ _ _ _ h => h)) (pa_cons (pv 0) pa_nil)) (pg_tup rfl (pgs_cons (pg_name (i := 1) sc_negative.nd rfl (Or.inl rfl)) (pgs_cons (pg_name (i := 2) sc_negative.nd rfl (Or.inl rfl)) pgs_nil))))
 (pss_one (ps_ret (pe_tup (pa_cons (pe_un un_neg (pv 1)) (pa_cons (pv 2) pa_nil)))))), ?_⟩
  refine ⟨_, rfl, v, d, rfl, hd, ?_⟩
  rcases q with ⟨e, q⟩ | ⟨i, g1, m1, q⟩
  · exact .inl ⟨e, q⟩
  refine .inr ⟨i, 1, g1, fun p1 H1 t1 e1 => ?_⟩
  refine ⟨p1, _, rfl, SqT.of e1, rfl, _, _, rfl, _, _, rfl, rfl, ?_⟩
  refine ⟨_, rfl, _, rfl, _, rfl, by show 2 ≤ sizeLine; decide, fun p hp => ?_⟩
  exact q p _ (same_new t1 hp _) upd_same

theorem sc_sign_of : FnScope ["a", "top"] ["a"] (defScope (topH 19)) := ⟨rfl, rfl, rfl, by decide +kernel, rfl, by decide +kernel, by decide +kernel⟩
theorem ok_sign_of {f : Addr} {fd : FuncData} (F : Fun K "sign_of" "sign_of" (topH 19) f fd) (T : Tx K mg tk) {fas_ratio : Addr} {fdas_ratio : FuncData} (Gas_ratio : FnOk P w K mg base (L2.CX P w) 3 fas_ratio fdas_ratio ["value"] (spRatio K)) (Kas_ratio : PySem.W.keepIn K (.ref fas_ratio) = true) (Bas_ratio : Binds K fdas_ratio ["value"] []) (Mas_ratio : mg "as_ratio" = some (.ref fas_ratio)) :
    FnOk P w K mg base (L2.CX P w) 4 f fd ["a"] (fun vs H Q E => ∃ v d, vs = [v] ∧ Da K H v d ∧ Arg1 K d H E fun i => 1 ≤ i ∧ ∀ H', Same H H' → Q (.int 1) H') := by
  refine F.okX sc_sign_of (fun vs H Q E h => ?_) (fun cdv A outer s H vs Q E hr h => ?_)
  · obtain ⟨v, d, rfl, _⟩ := h
    rfl
  obtain ⟨v, d, rfl, hd, q⟩ := h
  refine ⟨_, (pss_cons (ps_set (i := 1) sc_sign_of.nd rfl (Or.inl rfl) (pe_ix (r := rIx K) ix_seq (pe_call Gas_ratio (hr.mono (by decide)) (by rfl) Mas_ratio Kas_ratio Bas_ratio .nil (passes_call (takes_of rfl rfl rfl rfl) (fun _ _ _ _ h => h)) (pa_cons (pv 0) pa_nil)) pe_int (fun _ _ => rfl)))
 (pss_cons (ps_if (pt_cmpR op_eq (pv 1) pe_int (nomark _)) (pss_one (ps_ret pe_int)) pss_nil)
 (pss_one (ps_ret (pe_ifExp (pt_cmpR op_gt (pv 1) pe_int (nomark _)) pe_int (pe_un un_neg pe_int)))))), ?_⟩
  refine ⟨_, rfl, v, d, rfl, hd, ?_⟩
  rcases q with ⟨e, q⟩ | ⟨i, g1, m1, q⟩
  · exact .inl ⟨e, q⟩
  refine .inr ⟨i, 1, g1, fun p1 H1 t1 e1 => ?_⟩
  obtain ⟨pos, q⟩ := q
  refine ix_of (.inr (SqT.of e1)) (atI_nat (j := 0) rfl) ?_
  refine ⟨_, rfl, rfl, _, rfl, ?_⟩
  have n0 : decide (V.int i = V.int 0) = false := decide_eq_false fun h => by
    have := V.int.inj h
    omega
  rw [n0]
  refine iteF ⟨_, rfl, _, _, rfl, rfl, _, rfl, ?_⟩
  rw [decide_eq_true (show i > 0 by omega)]
  exact iteT (q H1 t1)

theorem sc_root_of : FnScope ["a", "top", "bottom", "root"] ["a"] (defScope (topH 24)) := ⟨rfl, rfl, rfl, by decide +kernel, rfl, by decide +kernel, by decide +kernel⟩
theorem ok_root_of {f : Addr} {fd : FuncData} (F : Fun K "root_of" "root_of" (topH 24) f fd) (T : Tx K mg tk) {fas_ratio : Addr} {fdas_ratio : FuncData} (Gas_ratio : FnOk P w K mg base (L2.CX P w) 3 fas_ratio fdas_ratio ["value"] (spRatio K)) (Kas_ratio : PySem.W.keepIn K (.ref fas_ratio) = true) (Bas_ratio : Binds K fdas_ratio ["value"] []) (Mas_ratio : mg "as_ratio" = some (.ref fas_ratio)) :
    FnOk P w K mg base (L2.CX P w) 4 f fd ["a"] (fun vs H Q E => ∃ v d, vs = [v] ∧ Da K H v d ∧ numD d = false ∧ ∀ H', Same H H' → E (CN K) none H') := by
  refine F.okX sc_root_of (fun vs H Q E h => ?_) (fun cdv A outer s H vs Q E hr h => ?_)
  · obtain ⟨v, d, rfl, _⟩ := h
    rfl
  obtain ⟨v, d, rfl, hd, e, q⟩ := h
  refine ⟨_, (pss_cons (ps_asg (pe_call Gas_ratio (hr.mono (by decide)) (by rfl) Mas_ratio Kas_ratio Bas_ratio .nil (passes_call (takes_of rfl rfl rfl rfl) (fun _ _ _ _ h => h)) (pa_cons (pv 0) pa_nil)) (pg_tup rfl (pgs_cons (pg_name (i := 1) sc_root_of.nd rfl (Or.inl rfl)) (pgs_cons (pg_name (i := 2) sc_root_of.nd rfl (Or.inl rfl)) pgs_nil))))
 pss_no), ?_⟩
  exact ⟨_, rfl, v, d, rfl, hd, .inl ⟨e, q⟩⟩

theorem sc_shown : FnScope ["a", "top", "bottom"] ["a"] (defScope (topH 25)) := ⟨rfl, rfl, rfl, by decide +kernel, rfl, by decide +kernel, by decide +kernel⟩
theorem ok_shown {f : Addr} {fd : FuncData} (F : Fun K "shown" "shown" (topH 25) f fd) (T : Tx K mg tk) {fas_ratio : Addr} {fdas_ratio : FuncData} (Gas_ratio : FnOk P w K mg base (L2.CX P w) 3 fas_ratio fdas_ratio ["value"] (spRatio K)) (Kas_ratio : PySem.W.keepIn K (.ref fas_ratio) = true) (Bas_ratio : Binds K fdas_ratio ["value"] []) (Mas_ratio : mg "as_ratio" = some (.ref fas_ratio)) :
    FnOk P w K mg base (L2.CX P w) 4 f fd ["a"] (fun vs H Q E => ∃ v d, vs = [v] ∧ Da K H v d ∧ numD d = false ∧ ∀ H', Same H H' → E (CN K) none H') := by
  refine F.okX sc_shown (fun vs H Q E h => ?_) (fun cdv A outer s H vs Q E hr h => ?_)
  · obtain ⟨v, d, rfl, _⟩ := h
    rfl
  obtain ⟨v, d, rfl, hd, e, q⟩ := h
  refine ⟨_, (pss_cons (ps_asg (pe_call Gas_ratio (hr.mono (by decide)) (by rfl) Mas_ratio Kas_ratio Bas_ratio .nil (passes_call (takes_of rfl rfl rfl rfl) (fun _ _ _ _ h => h)) (pa_cons (pv 0) pa_nil)) (pg_tup rfl (pgs_cons (pg_name (i := 1) sc_shown.nd rfl (Or.inl rfl)) (pgs_cons (pg_name (i := 2) sc_shown.nd rfl (Or.inl rfl)) pgs_nil))))
 pss_no), ?_⟩
  exact ⟨_, rfl, v, d, rfl, hd, .inl ⟨e, q⟩⟩

/-- [1, v2] -/
def Ls2 (K : PySem.W.Frag) (vs : List V) (H : Hp) (a : Addr) (v2 : V) (d2 : PyData) : Prop := vs = [.ref a] ∧ H a = some (.lst [.int 1, v2]) ∧ Da K H v2 d2
/-- two ratios -/
def Two (H : Hp) (l : Addr) (j : Int) : Prop := ∃ p1 p2, H l = some (.lst [.ref p1, .ref p2]) ∧ H p1 = some (.tup [.int 1, .int 1]) ∧ H p2 = some (.tup [.int j, .int 1])
theorem Two.keep {H H' : Hp} {l : Addr} {j : Int} (g : Same H H') (h : Two H l j) : Two H' l j := let ⟨p1, p2, a, b, c⟩ := h; ⟨p1, p2, g _ _ a, g _ _ b, g _ _ c⟩
def spRatios (K : PySem.W.Frag) : Sp := fun vs H Q E => ∃ (a : Addr) (v2 : V) (d2 : PyData), Ls2 K vs H a v2 d2 ∧ Arg1 K d2 H E fun j => ∀ l H', Same H H' → Two H' l j → Q (.ref l) H'
theorem same_lst {H H' H2 : Hp} {D : Addr} (g : Same H H') (n : H D = none) (g2 : Same H' H2) (o : HO) : Same H (upd H2 D o) := fun b u q => by
  rw [upd_ne (ne_of_none q n)]
  exact g2 _ _ (g _ _ q)
theorem sc_as_ratios : FnScope ["numbers", "number"] ["numbers"] (defScope (topH 13)) := ⟨rfl, rfl, rfl, by decide +kernel, rfl, by decide +kernel, by decide +kernel⟩
theorem ok_as_ratios {f : Addr} {fd : FuncData} (F : Fun K "as_ratios" "as_ratios" (topH 13) f fd) (T : Tx K mg tk) {fis_list : Addr} {fdis_list : FuncData} (Gis_list : FnOk P w K mg base CX0 1 fis_list fdis_list ["value"] (spLs K)) (Kis_list : PySem.W.keepIn K (.ref fis_list) = true) (Bis_list : Binds K fdis_list ["value"] []) (Mis_list : mg "is_list" = some (.ref fis_list)) {fas_ratio : Addr} {fdas_ratio : FuncData} (Gas_ratio : FnOk P w K mg base (L2.CX P w) 3 fas_ratio fdas_ratio ["value"] (spRatio K)) (Kas_ratio : PySem.W.keepIn K (.ref fas_ratio) = true) (Bas_ratio : Binds K fdas_ratio ["value"] []) (Mas_ratio : mg "as_ratio" = some (.ref fas_ratio)) :
    FnOk P w K mg base (L2.CX P w) 4 f fd ["numbers"] (spRatios K) := by
  refine F.okX sc_as_ratios (fun vs H Q E h => ?_) (fun cdv A outer s H vs Q E hr h => ?_)
  · obtain ⟨a, v2, d2, ⟨rfl, _⟩, _⟩ := h
    rfl
  obtain ⟨a, v2, d2, ⟨rfl, ha, h2⟩, q⟩ := h
  refine ⟨_, (pss_cons (ps_if (pt_not (pt_val (pe_call Gis_list (hr.mono (by decide)) (by rfl) Mis_list Kis_list Bis_list .nil pass0 (pa_cons (pv 0) pa_nil)))) (pss_one (ps_raise rfl (takes_of rfl rfl rfl rfl) (pmk0 (T.exBadNumber) (T.tyBadNumber) (T.plBadNumber) T.glBadNumber rfl))) pss_nil)
 (pss_one (ps_ret (pe_lcX (E := E) (W := fun cls d _ H => E cls d H) (own := [("number", 1)]) (g := gName 1) (tt := tYes)  rfl rfl (takes_of rfl rfl rfl rfl) (fun _ _ _ _ h => h) rfl sc_as_ratios.nd (pi_or (pi_list (pv 0)) (pi_tup (pv 0))) (blkOk_by (own := [("number", 1)]) (N := ["numbers", "number"]) (sc := defScope (topH 13)) (by decide +kernel)) (fun _ _ _ _ _ => pg_name (i := 1) sc_as_ratios.nd rfl (Or.inl rfl)) (fun _ _ _ _ _ => pts_nil) (fun _ _ _ _ _ => (pe_call Gas_ratio (hr.mono (by decide)) (by rfl) Mas_ratio Kas_ratio Bas_ratio .nil passes_blkR (pa_cons (pv 1) pa_nil))))))), ?_⟩
  refine ⟨_, rfl, _, .list [], rfl, .base (.lst ha), fun H1 s1 => ⟨_, rfl, iteF (.inl ⟨_, rfl, a, rfl, ⟨_, SqL.of (s1 _ _ ha)⟩, fun D hD => ?_⟩)⟩⟩
  have n0 : H D = none := s1.free hD
  have t0 : Same H (upd H1 D (.lst [])) := same_new s1 hD _
  rcases q with ⟨e, q⟩ | ⟨j, g, _, q⟩
  · refine lc_list (K := K) (a := a) (xs := [.int 1, v2]) (fun i H2 => Same H H2 ∧ ∃ acc, H2 D = some (.lst acc) ∧ acc.length = i ∧ i ≤ 1) ⟨t0, [], upd_same, rfl, Nat.zero_le _⟩ (fun i H2 _ z => SqL.of (z.1 _ _ ha)) ?_ ?_
    · rintro i x H2 hi ⟨g2, acc, hacc, hl, le⟩
      refine ⟨rfl, ?_⟩
      match i, hi, hl with
      | 0, hi, hl =>
        obtain rfl : V.int 1 = x := Option.some.inj hi
        refine ⟨_, rfl, _, .int 1, rfl, .of (.int 1), .inr ⟨1, 1, .int 1, fun p H3 g3 e3 => ⟨acc, g3 _ _ hacc, by rw [hl]; show 0 < sizeLine; decide, same_lst g2 n0 g3 _, _, upd_same, by rw [List.length_append, hl]; rfl, Nat.le_refl _⟩⟩⟩
      | 1, hi, hl =>
        obtain rfl : v2 = x := Option.some.inj hi
        exact ⟨_, rfl, _, d2, rfl, h2.keep g2, .inl ⟨e, fun H3 g3 => q H3 (g2.trans g3)⟩⟩
    · rintro H2 ⟨_, _, _, _, le⟩
      simp at le
  · refine lc_list (K := K) (a := a) (xs := [.int 1, v2]) (fun i H2 => Same H H2 ∧ ((i = 0 ∧ H2 D = some (.lst [])) ∨ (i = 1 ∧ ∃ p1, H2 D = some (.lst [.ref p1]) ∧ H2 p1 = some (.tup [.int 1, .int 1])) ∨ (i = 2 ∧ Two H2 D j))) ⟨t0, .inl ⟨rfl, upd_same⟩⟩ (fun i H2 _ z => SqL.of (z.1 _ _ ha)) ?_ ?_
    · rintro i x H2 hi ⟨g2, z⟩
      refine ⟨rfl, ?_⟩
      rcases z with ⟨rfl, hacc⟩ | ⟨rfl, p1, hacc, hp1⟩ | ⟨rfl, _⟩
      · obtain rfl : V.int 1 = x := Option.some.inj hi
        refine ⟨_, rfl, _, .int 1, rfl, .of (.int 1), .inr ⟨1, 1, .int 1, fun p H3 g3 e3 => ⟨[], g3 _ _ hacc, by decide, same_lst g2 n0 g3 _, .inr (.inl ⟨rfl, p, upd_same, ?_⟩)⟩⟩⟩
        rw [upd_ne (ne_of e3 (g3 _ _ hacc) (fun z => nomatch z))]
        exact e3
      · obtain rfl : v2 = x := Option.some.inj hi
        refine ⟨_, rfl, _, d2, rfl, h2.keep g2, .inr ⟨j, 1, g, fun p H3 g3 e3 => ⟨[.ref p1], g3 _ _ hacc, by show 1 < sizeLine; decide, same_lst g2 n0 g3 _, .inr (.inr ⟨rfl, p1, p, upd_same, ?_, ?_⟩)⟩⟩⟩
        · rw [upd_ne (ne_of (g3 _ _ hp1) (g3 _ _ hacc) (fun z => nomatch z))]
          exact g3 _ _ hp1
        · rw [upd_ne (ne_of e3 (g3 _ _ hacc) (fun z => nomatch z))]
          exact e3
      · exact nomatch (show (none : Option V) = some x from hi)
    · rintro H2 ⟨g2, z⟩
      rcases z with ⟨e, _⟩ | ⟨e, _⟩ | ⟨_, two⟩
      · exact nomatch e
      · exact nomatch e
      · exact q D H2 g2 two

theorem sc_shared_bottom : FnScope ["ratios", "bottom", "ratio"] ["ratios"] (defScope (topH 21)) := ⟨rfl, rfl, rfl, by decide +kernel, rfl, by decide +kernel, by decide +kernel⟩
theorem ok_shared_bottom {f : Addr} {fd : FuncData} (F : Fun K "shared_bottom" "shared_bottom" (topH 21) f fd) (T : Tx K mg tk) :
    FnOk P w K mg base CX0 1 f fd ["ratios"] (fun vs H Q _ => ∃ l j, vs = [.ref l] ∧ Two H l j ∧ ∀ H', Same H H' → Q (.int 1) H') := by
  refine F.ok sc_shared_bottom (fun vs H Q E h => ?_) (fun cdv A outer s H vs Q E hr h => ?_)
  · obtain ⟨l, j, rfl, _⟩ := h
    rfl
  obtain ⟨l, j, rfl, ⟨p1, p2, hl, h1, h2⟩, q⟩ := h
  refine ⟨_, (pss_cons (ps_set (i := 1) sc_shared_bottom.nd rfl (Or.inl rfl) pe_int)
 (pss_cons (ps_for PassesOwn.never rfl (pi_or (pi_list (pv 0)) (pi_tup (pv 0))) (pg_name (i := 2) sc_shared_bottom.nd rfl (Or.inl rfl))
 (pss_one (ps_set (i := 1) sc_shared_bottom.nd rfl (Or.inl rfl) (pe_callBfun cr_lcm (by rfl) T.lcm (pa_cons (pv 1) (pa_cons (pe_ix (r := rIx K) ix_seq (pv 2) pe_int (fun _ _ => rfl)) pa_nil))))))
 (pss_one (ps_ret (pv 1))))), ?_⟩
  refine .inl ⟨_, rfl, l, rfl, ⟨_, SqL.of hl⟩, for_list (K := K) (a := l) (xs := [.ref p1, .ref p2]) (fun i σ H' => ∃ v2, σ = [some (.ref l), some (.int 1), v2] ∧ H' = H) ⟨none, rfl, rfl⟩ (fun i σ H' _ ⟨_, _, e⟩ => e ▸ SqL.of hl) ?_ ?_⟩
  · rintro i x σ H' hi ⟨v2, rfl, rfl⟩
    match i, hi with
    | 0, hi =>
      obtain rfl : V.ref p1 = x := Option.some.inj hi
      exact ⟨_, rfl, _, rfl, ix_of (.inr (SqT.of h1)) (atI_nat (j := 1) rfl) ⟨rfl, _, rfl, rfl⟩⟩
    | 1, hi =>
      obtain rfl : V.ref p2 = x := Option.some.inj hi
      exact ⟨_, rfl, _, rfl, ix_of (.inr (SqT.of h2)) (atI_nat (j := 1) rfl) ⟨rfl, _, rfl, rfl⟩⟩
  · rintro σ H' ⟨v2, rfl, rfl⟩
    exact ⟨_, rfl, q _ (Same.refl _)⟩

theorem sc_total : FnScope ["numbers", "ratios", "bottom", "ratio"] ["numbers"] (defScope (topH 22)) := ⟨rfl, rfl, rfl, by decide +kernel, rfl, by decide +kernel, by decide +kernel⟩
theorem ok_total {f : Addr} {fd : FuncData} (F : Fun K "total" "total" (topH 22) f fd) (T : Tx K mg tk) {fas_ratios : Addr} {fdas_ratios : FuncData} (Gas_ratios : FnOk P w K mg base (L2.CX P w) 4 fas_ratios fdas_ratios ["numbers"] (spRatios K)) (Kas_ratios : PySem.W.keepIn K (.ref fas_ratios) = true) (Bas_ratios : Binds K fdas_ratios ["numbers"] []) (Mas_ratios : mg "as_ratios" = some (.ref fas_ratios)) {fshared_bottom : Addr} {fdshared_bottom : FuncData} (Gshared_bottom : FnOk P w K mg base CX0 1 fshared_bottom fdshared_bottom ["ratios"] (fun vs H Q _ => ∃ l j, vs = [.ref l] ∧ Two H l j ∧ ∀ H', Same H H' → Q (.int 1) H')) (Kshared_bottom : PySem.W.keepIn K (.ref fshared_bottom) = true) (Bshared_bottom : Binds K fdshared_bottom ["ratios"] []) (Mshared_bottom : mg "shared_bottom" = some (.ref fshared_bottom)) {fas_ratio : Addr} {fdas_ratio : FuncData} (Gas_ratio : FnOk P w K mg base (L2.CX P w) 3 fas_ratio fdas_ratio ["value"] (spRatio K)) (Kas_ratio : PySem.W.keepIn K (.ref fas_ratio) = true) (Bas_ratio : Binds K fdas_ratio ["value"] []) (Mas_ratio : mg "as_ratio" = some (.ref fas_ratio)) :
    FnOk P w K mg base (L2.CX P w) 5 f fd ["numbers"] (fun vs H Q E => ∃ (a : Addr) (v2 : V) (d2 : PyData), Ls2 K vs H a v2 d2 ∧ Arg1 K d2 H E fun j => Rat Q H (1 + j) 1) := by
  refine F.okX sc_total (fun vs H Q E h => ?_) (fun cdv A outer s H vs Q E hr h => ?_)
  · obtain ⟨a, v2, d2, ⟨rfl, _⟩, _⟩ := h
    rfl
  obtain ⟨a, v2, d2, ⟨rfl, ha, h2⟩, q⟩ := h
  refine ⟨_, (pss_cons (ps_set (i := 1) sc_total.nd rfl (Or.inl rfl) (pe_call Gas_ratios (hr.mono (by decide)) (by rfl) Mas_ratios Kas_ratios Bas_ratios .nil (passes_call (takes_of rfl rfl rfl rfl) (fun _ _ _ _ h => h)) (pa_cons (pv 0) pa_nil)))
 (pss_cons (ps_set (i := 2) sc_total.nd rfl (Or.inr rfl) (pe_call Gshared_bottom (hr.mono (by decide)) (by rfl) Mshared_bottom Kshared_bottom Bshared_bottom .nil pass0 (pa_cons (pv 1) pa_nil)))
 (pss_one (ps_ret (pe_call Gas_ratio (hr.mono (by decide)) (by rfl) Mas_ratio Kas_ratio Bas_ratio .nil (passes_call (takes_of rfl rfl rfl rfl) (fun _ _ _ _ h => h)) (pa_cons (pe_tup (pa_cons (pe_callB (cr_sum rfl) (by rfl) T.sum (by decide +kernel) (pa_cons (pe_lc (own := [("ratio", 3)]) (g := gName 3) (tt := tYes)  (by rfl) sc_total.nd (pi_or (pi_list (pv 1)) (pi_tup (pv 1))) (blkOk_by (own := [("ratio", 3)]) (N := ["numbers", "ratios", "bottom", "ratio"]) (sc := defScope (topH 22)) (by decide +kernel)) (fun _ _ _ _ _ => pg_name (i := 3) sc_total.nd rfl (Or.inl rfl)) (fun _ _ _ _ _ => pts_nil) (fun _ _ _ _ _ => (pe_op op_mul (pe_ix (r := rIx K) ix_seq (pv 3) pe_int (fun _ _ => rfl)) (pe_op op_fdiv (pv 2) (pe_ix (r := rIx K) ix_seq (pv 3) pe_int (fun _ _ => rfl)))))) pa_nil)) (pa_cons (pv 2) pa_nil))) pa_nil)))))), ?_⟩
  refine ⟨_, rfl, a, v2, d2, ⟨rfl, ha, h2⟩, ?_⟩
  rcases q with ⟨e, q⟩ | ⟨j, g, m, q⟩
  · exact .inl ⟨e, q⟩
  refine .inr ⟨j, g, m, fun l H1 g1 two => ⟨_, rfl, l, j, rfl, two, fun H2 g2 => ?_⟩⟩
  obtain ⟨p1, p2, hl, h1, hp2⟩ := two.keep g2
  refine .inl ⟨_, rfl, l, rfl, ⟨_, SqL.of hl⟩, fun D hD => ?_⟩
  have t0 : Same H2 (upd H2 D (.lst [])) := same_new (Same.refl _) hD _
  refine lc_list (K := K) (a := l) (xs := [.ref p1, .ref p2]) (fun i H3 => Same H2 H3 ∧ ((i = 0 ∧ H3 D = some (.lst [])) ∨ (i = 1 ∧ H3 D = some (.lst [.int (1 * 1)])) ∨ (i = 2 ∧ H3 D = some (.lst [.int (1 * 1), .int (j * 1)])))) ⟨t0, .inl ⟨rfl, upd_same⟩⟩ (fun i H3 _ z => SqL.of (z.1 _ _ hl)) ?_ ?_
  · rintro i x H3 hi ⟨g3, z⟩
    refine ⟨rfl, ?_⟩
    rcases z with ⟨rfl, hacc⟩ | ⟨rfl, hacc⟩ | ⟨rfl, _⟩
    · obtain rfl : V.ref p1 = x := Option.some.inj hi
      refine ⟨_, rfl, ix_of (.inr (SqT.of (g3 _ _ h1))) (atI_nat (j := 0) rfl) ⟨_, rfl, _, rfl, ix_of (.inr (SqT.of (g3 _ _ h1))) (atI_nat (j := 1) rfl) ⟨_, _, rfl, rfl, ⟨by decide, by decide⟩, _, _, rfl, rfl, cmul (by decide), [], hacc, by decide, same_lst (g3) hD (Same.refl _) _, .inr (.inl ⟨rfl, upd_same⟩)⟩⟩⟩
    · obtain rfl : V.ref p2 = x := Option.some.inj hi
      refine ⟨_, rfl, ix_of (.inr (SqT.of (g3 _ _ hp2))) (atI_nat (j := 0) rfl) ⟨_, rfl, _, rfl, ix_of (.inr (SqT.of (g3 _ _ hp2))) (atI_nat (j := 1) rfl) ⟨_, _, rfl, rfl, ⟨by decide, by decide⟩, _, _, rfl, rfl, cmul m, [.int (1 * 1)], hacc, by show 1 < sizeLine; decide, same_lst (g3) hD (Same.refl _) _, .inr (.inr ⟨rfl, upd_same⟩)⟩⟩⟩
    · exact nomatch (show (none : Option V) = some x from hi)
  · rintro H3 ⟨g3, z⟩
    rcases z with ⟨e, _⟩ | ⟨e, _⟩ | ⟨_, hs⟩
    · exact nomatch e
    · exact nomatch e
    refine ⟨D, [1 * 1, j * 1], rfl, SqL.of hs, ?_⟩
    refine ⟨_, rfl, by show 2 ≤ sizeLine; decide, fun p3 h3 => ?_⟩
    refine ⟨.ref p3, .tuple [.int ([1 * 1, j * 1] : List Int).sum, .int 1], rfl, .of (.tup (SqT.of upd_same) (.cons (.int _) (.cons (.int _) .nil))), .inr ⟨_, 1, .pr _ _ (by rw [show (1 : Int).natAbs = 1 from rfl]; exact Nat.gcd_one_right _) (by decide), fun p H' t e => ?_⟩⟩
    refine q p H' (((g1.trans g2).trans g3).trans ((same_new (Same.refl H3) h3 _).trans t)) ?_
    rw [e]
    simp

theorem sc_least : FnScope ["numbers", "ratios", "found", "ratio"] ["numbers"] (defScope (topH 23)) := ⟨rfl, rfl, rfl, by decide +kernel, rfl, by decide +kernel, by decide +kernel⟩
theorem ok_least {f : Addr} {fd : FuncData} (F : Fun K "least" "least" (topH 23) f fd) (T : Tx K mg tk) {fas_ratios : Addr} {fdas_ratios : FuncData} (Gas_ratios : FnOk P w K mg base (L2.CX P w) 4 fas_ratios fdas_ratios ["numbers"] (spRatios K)) (Kas_ratios : PySem.W.keepIn K (.ref fas_ratios) = true) (Bas_ratios : Binds K fdas_ratios ["numbers"] []) (Mas_ratios : mg "as_ratios" = some (.ref fas_ratios)) :
    FnOk P w K mg base (L2.CX P w) 5 f fd ["numbers"] (fun vs H Q E => ∃ (a : Addr) (v2 : V) (d2 : PyData), Ls2 K vs H a v2 d2 ∧ numD d2 = false ∧ ∀ H', Same H H' → E (CN K) none H') := by
  refine F.okX sc_least (fun vs H Q E h => ?_) (fun cdv A outer s H vs Q E hr h => ?_)
  · obtain ⟨a, v2, d2, ⟨rfl, _⟩, _⟩ := h
    rfl
  obtain ⟨a, v2, d2, ⟨rfl, ha, h2⟩, e, q⟩ := h
  refine ⟨_, (pss_cons (ps_set (i := 1) sc_least.nd rfl (Or.inl rfl) (pe_call Gas_ratios (hr.mono (by decide)) (by rfl) Mas_ratios Kas_ratios Bas_ratios .nil (passes_call (takes_of rfl rfl rfl rfl) (fun _ _ _ _ h => h)) (pa_cons (pv 0) pa_nil)))
 pss_no), ?_⟩
  exact ⟨_, rfl, a, v2, d2, ⟨rfl, ha, h2⟩, .inl ⟨e, q⟩⟩

end
end Hs
set_option maxHeartbeats 8000000
namespace Hs
open PySem L2
/-! ## sizes, lots, spots -/
def belowD (d : PyData) (m : Int) : Bool := match d with
  | .int i => decide (0 ≤ i) && decide (i < m)
  | _ => false
theorem below_int {d : PyData} {m : Int} (h : belowD d m = true) : ∃ i, d = .int i ∧ 0 ≤ i ∧ i < m := by
  cases d with
  | int i =>
    obtain ⟨a, b⟩ := two h
    exact ⟨i, rfl, of_decide_eq_true a, of_decide_eq_true b⟩
  | _ => cases h
theorem dpAll_of {K : PySem.W.Frag} {H : Hp} : ∀ {vs : List V} {ds : List PyData}, vs.length = ds.length → (∀ (k : Nat) v d, vs[k]? = some v → ds[k]? = some d → Dp K H v d) → DpAll K H vs ds
  | [], [], _, _ => .nil
  | [], _ :: _, e, _ => nomatch e
  | _ :: _, [], e, _ => nomatch e
  | v :: vs, d :: ds, e, h => .cons (h 0 v d rfl rfl) (dpAll_of (Nat.succ.inj e) fun k v d a b => h (k + 1) v d a b)
theorem dpAll_get {K : PySem.W.Frag} {H : Hp} {vs : List V} {ds : List PyData} {i : Nat} {d : PyData} (h : DpAll K H vs ds) (e : ds[i]? = some d) : ∃ v, vs[i]? = some v ∧ Dp K H v d := by
  have l := DpAll.len h
  have lt : i < vs.length := by
    have z := (List.getElem?_eq_some_iff.mp e).1
    omega
  obtain ⟨d2, e2, h2⟩ := DpAll.at h (List.getElem?_eq_getElem lt)
  rw [e] at e2
  cases e2
  exact ⟨_, List.getElem?_eq_getElem lt, h2⟩
/-- an error with nothing in it -/
def Er0 (K : PySem.W.Frag) (x : Str) (H : Hp) (E : XK) : Prop := ∀ H', Same H H' → E (.ref (He.ga K x)) none H'
/-- a wrong place -/
def ErP (K : PySem.W.Frag) (H : Hp) (E : XK) (i : Int) : Prop := ∀ H' dx, Same H H' → H' dx = none → E (.ref (He.ga K "BadLot")) (some dx) (upd H' dx (.xd [("place", .int i)]))
/-- data comes back -/
def Dat (K : PySem.W.Frag) (Q : VK) (H : Hp) (d : PyData) : Prop := ∀ v H', Same H H' → Dp K H' v d → Q v H'
def szI (d : PyData) : Bool := match d with
  | .int i => decide (2 ≤ i) && decide (i ≤ 6)
  | _ => false
def szOk (ds : List PyData) : Bool := (decide (1 ≤ ds.length) && decide (ds.length ≤ 8)) && ds.all szI
def szD (d : PyData) : Bool := match seqD d with
  | some ds => szOk ds
  | none => false
def okAt (m st : Int) (ds : List PyData) (i : Nat) : Bool := match ds[i]? with
  | some (.int v) => (decide (0 ≤ v) && decide (v < m)) && (i == 0 || match ds[i - 1]? with
    | some (.int u) => decide (u + st ≤ v)
    | _ => false)
  | _ => false
def intOf : PyData → Int
  | .int i => i
  | _ => 0
def spotD (d : PyData) (ns : List Int) : Option (Int × Int) := match seqD d with
  | some [dx, dy] => if (belowD dx ns.length && belowD dy (ns.getD (intOf dx).toNat 0)) = true then some (intOf dx, intOf dy) else none
  | _ => none
def zipD (as : List Int) (ds : List PyData) : List PyData := List.zipWith (fun a d => .tuple [.int a, d]) as ds
/-- enumerate(a list), enumerate(a tuple) in a loop -/
theorem for_enumL {K : PySem.W.Frag} {a : Addr} {xs : List V} {g : TG} {tb : TS} {D : Ends} {σ : L2.St} {H : Hp} (Pv : Nat → L2.St → Hp → Prop) (h0 : Pv 0 σ H) (hq : ∀ i σ H, Pv i σ H → SqL K H a xs)
    (hs : ∀ (i : Nat) (x : V) (T : Addr) (σ : L2.St) (H : Hp), xs[i]? = some x → Pv i σ H → H T = none → g (.ref T) σ (upd H T (.tup [.int (i : Nat), x])) fun σ2 H2 => tb { D with nx := Pv (i + 1), ct := Pv (i + 1), bk := D.nx } σ2 H2) (hd : ∀ σ H, Pv xs.length σ H → D.nx σ H) :
    ∃ W : Nat → Nat → L2.St → Hp → Prop, (∃ m, W 0 m σ H) ∧ ∀ i m σ H, W i m σ H →
      ((Ite K a).stop i H ∧ D.nx σ H) ∨ ((Ite K a).go i H ∧ ∃ N : L2.St → Hp → Prop, (∀ σ' H', N σ' H' → ∃ m', m' < m ∧ W (i + 1) m' σ' H') ∧ ∀ v H', (Ite K a).yld i H v H' → g v σ H' fun σ2 H2 => tb { D with nx := N, ct := N, bk := D.nx } σ2 H2) := by
  refine ⟨fun i m σ H => m = xs.length - i ∧ i ≤ xs.length ∧ Pv i σ H, ⟨xs.length, rfl, Nat.zero_le _, h0⟩, ?_⟩
  rintro i m σ H ⟨rfl, hi, p⟩
  have qx := hq i σ H p
  by_cases lt : i < xs.length
  · refine .inr ⟨⟨xs, xs[i], qx, List.getElem?_eq_getElem lt⟩, Pv (i + 1), fun σ' H' p' => ⟨xs.length - (i + 1), by omega, rfl, lt, p'⟩, fun v H' y => ?_⟩
    obtain ⟨T, x, rfl, hT, rfl, f⟩ := y
    exact hs i x T σ H (f xs qx) p hT
  · obtain rfl : i = xs.length := by omega
    exact .inl ⟨⟨xs, qx, Nat.le_refl _⟩, hd σ H p⟩
theorem for_enumT {K : PySem.W.Frag} {a : Addr} {xs : List V} {g : TG} {tb : TS} {D : Ends} {σ : L2.St} {H : Hp} (Pv : Nat → L2.St → Hp → Prop) (h0 : Pv 0 σ H) (hq : ∀ i σ H, Pv i σ H → SqT K H a xs)
    (hs : ∀ (i : Nat) (x : V) (T : Addr) (σ : L2.St) (H : Hp), xs[i]? = some x → Pv i σ H → H T = none → g (.ref T) σ (upd H T (.tup [.int (i : Nat), x])) fun σ2 H2 => tb { D with nx := Pv (i + 1), ct := Pv (i + 1), bk := D.nx } σ2 H2) (hd : ∀ σ H, Pv xs.length σ H → D.nx σ H) :
    ∃ W : Nat → Nat → L2.St → Hp → Prop, (∃ m, W 0 m σ H) ∧ ∀ i m σ H, W i m σ H →
      ((IteT K a).stop i H ∧ D.nx σ H) ∨ ((IteT K a).go i H ∧ ∃ N : L2.St → Hp → Prop, (∀ σ' H', N σ' H' → ∃ m', m' < m ∧ W (i + 1) m' σ' H') ∧ ∀ v H', (IteT K a).yld i H v H' → g v σ H' fun σ2 H2 => tb { D with nx := N, ct := N, bk := D.nx } σ2 H2) := by
  refine ⟨fun i m σ H => m = xs.length - i ∧ i ≤ xs.length ∧ Pv i σ H, ⟨xs.length, rfl, Nat.zero_le _, h0⟩, ?_⟩
  rintro i m σ H ⟨rfl, hi, p⟩
  have qx := hq i σ H p
  by_cases lt : i < xs.length
  · refine .inr ⟨⟨xs, xs[i], qx, List.getElem?_eq_getElem lt⟩, Pv (i + 1), fun σ' H' p' => ⟨xs.length - (i + 1), by omega, rfl, lt, p'⟩, fun v H' y => ?_⟩
    obtain ⟨T, x, rfl, hT, rfl, f⟩ := y
    exact hs i x T σ H (f xs qx) p hT
  · obtain rfl : i = xs.length := by omega
    exact .inl ⟨⟨xs, qx, Nat.le_refl _⟩, hd σ H p⟩
section
variable {P : Program} {w : World} {K : PySem.W.Frag} {mg : Str → Option Value} {base : Heap} {tk : Tok × Tok × Tok}
theorem scI_BadLot : FnScope ["self", "place"] ["self", "place"] (defScope (inClass (topH 6) 0)) := ⟨rfl, rfl, rfl, by decide +kernel, rfl, by decide +kernel, by decide +kernel⟩
theorem in_BadLot {f : Addr} {fd : FuncData} (F : Fun K "__init__" "BadLot.__init__" (inClass (topH 6) 0) f fd) (T : Tx K mg tk) : FnOk P w K mg base CX0 1 f fd ["self", "place"] (spOne (He.ga K "BadLot") "place") := by
  refine F.ok scI_BadLot (fun vs H Q E h => ?_) (fun cdv A outer s H vs Q E hr h => ?_)
  · obtain ⟨a, v, rfl, _⟩ := h
    rfl
  obtain ⟨a, v, rfl, ha, q⟩ := h
  refine ⟨_, pss_one (ps_put (pv 0) (pv 1)), ?_⟩
  exact ⟨_, rfl, _, rfl, a, _, rfl, T.exBadLot, T.nof, .inl ⟨ha, fun dx hn ne => q dx hn ne⟩⟩
theorem sc_is_below : FnScope ["value", "many"] ["value", "many"] (defScope (topH 30)) := ⟨rfl, rfl, rfl, by decide +kernel, rfl, by decide +kernel, by decide +kernel⟩
theorem ok_is_below {f : Addr} {fd : FuncData} (F : Fun K "is_below" "is_below" (topH 30) f fd) (T : Tx K mg tk) {fis_int : Addr} {fdis_int : FuncData} (Gis_int : FnOk P w K mg base CX0 1 fis_int fdis_int ["value"] (spB K isI)) (Kis_int : PySem.W.keepIn K (.ref fis_int) = true) (Bis_int : Binds K fdis_int ["value"] []) (Mis_int : mg "is_int" = some (.ref fis_int)) :
    FnOk P w K mg base CX0 2 f fd ["value", "many"] (fun vs H Q _ => ∃ v d m, vs = [v, .int m] ∧ Da K H v d ∧ ∀ H', Same H H' → Q (.bl (belowD d m)) H') := by
  refine F.ok sc_is_below (fun vs H Q E h => ?_) (fun cdv A outer s H vs Q E hr h => ?_)
  · obtain ⟨v, d, m, rfl, _⟩ := h
    rfl
  obtain ⟨v, d, m, rfl, hd, q⟩ := h
  refine ⟨_, (pss_one (ps_ret (pe_andT (pe_call Gis_int (hr.mono (by decide)) (by rfl) Mis_int Kis_int Bis_int .nil pass0 (pa_cons (pv 0) pa_nil)) (pe_one (pe_chain op_le op_lt pe_int (pv 0) (pv 1)))))), ?_⟩
  refine ⟨_, rfl, v, d, rfl, hd, fun H1 s1 => ⟨_, rfl, ?_⟩⟩
  have z := q H1 s1
  rcases hd with hd | ⟨rfl, _⟩
  · cases hd with
    | int i =>
      refine iteT ⟨_, rfl, _, _, rfl, rfl, _, rfl, ?_⟩
      cases e : decide ((0 : Int) ≤ i) with
      | false =>
        rw [show belowD (.int i) m = (decide (0 ≤ i) && decide (i < m)) from rfl, e] at z
        exact z
      | true =>
        rw [show belowD (.int i) m = (decide (0 ≤ i) && decide (i < m)) from rfl, e] at z
        exact iteT ⟨_, rfl, _, _, rfl, rfl, z⟩
    | _ => exact z
  · exact z

theorem all_take {ds : List PyData} {f : PyData → Bool} {i : Nat} {d : PyData} (h : (ds.take i).all f = true) (e : ds[i]? = some d) (k : f d = true) : (ds.take (i + 1)).all f = true := by
  rw [List.take_add_one, e, List.all_append, h]
  simp [k]
theorem all_no {ds : List PyData} {f : PyData → Bool} {i : Nat} {d : PyData} (e : ds[i]? = some d) (k : f d = false) : ds.all f = false := by
  cases h : ds.all f with
  | false => rfl
  | true =>
    rw [List.all_eq_true.mp h d (List.mem_of_getElem? e)] at k
    cases k
/-- tuple(x) of a list or a tuple -/
theorem tup_of {H : Hp} {a : Addr} {xs : List V} {ds : List PyData} {Q : VK} (h : SqA K H a xs) (all : DpAll K H xs ds) (q : Dat K Q H (.tuple ds)) :
    ∃ p ys, ([.ref a] : List V) = [.ref p] ∧ ((SqL K H p ys ∧ ∀ l, H l = none → Q (.ref l) (upd H l (.tup ys))) ∨ (SqT K H p ys ∧ Q (.ref p) H)) := by
  rcases h with h | h
  · exact ⟨a, xs, rfl, .inl ⟨h, fun l hl => q _ _ (same_new (Same.refl H) hl _) (.tup (SqT.of upd_same) (DpAll.keep (Keeps.of (same_new (Same.refl H) hl _)) ds xs all))⟩⟩
  · exact ⟨a, xs, rfl, .inr ⟨h, q _ _ (Same.refl H) (.tup h all)⟩⟩
theorem Dat.from {H H1 : Hp} {Q : VK} {d : PyData} (q : Dat K Q H d) (s : Same H H1) : Dat K Q H1 d := fun v H' t h => q v H' (s.trans t) h
theorem sc_sizes_of : FnScope ["value", "size"] ["value"] (defScope (topH 31)) := ⟨rfl, rfl, rfl, by decide +kernel, rfl, by decide +kernel, by decide +kernel⟩
theorem ok_sizes_of {f : Addr} {fd : FuncData} (F : Fun K "sizes_of" "sizes_of" (topH 31) f fd) (T : Tx K mg tk) {fis_list : Addr} {fdis_list : FuncData} (Gis_list : FnOk P w K mg base CX0 1 fis_list fdis_list ["value"] (spLs K)) (Kis_list : PySem.W.keepIn K (.ref fis_list) = true) (Bis_list : Binds K fdis_list ["value"] []) (Mis_list : mg "is_list" = some (.ref fis_list)) {fis_int : Addr} {fdis_int : FuncData} (Gis_int : FnOk P w K mg base CX0 1 fis_int fdis_int ["value"] (spB K isI)) (Kis_int : PySem.W.keepIn K (.ref fis_int) = true) (Bis_int : Binds K fdis_int ["value"] []) (Mis_int : mg "is_int" = some (.ref fis_int)) :
    FnOk P w K mg base (L2.CX P w) 2 f fd ["value"] (fun vs H Q E => ∃ v d, vs = [v] ∧ Da K H v d ∧ (szD d = false → Er0 K "BadSize" H E) ∧ ∀ ds, seqD d = some ds → szOk ds = true → Dat K Q H (.tuple ds)) := by
  refine F.okX sc_sizes_of (fun vs H Q E h => ?_) (fun cdv A outer s H vs Q E hr h => ?_)
  · obtain ⟨v, d, rfl, _⟩ := h
    rfl
  obtain ⟨v, d, rfl, hd, qe, qq⟩ := h
  refine ⟨_, (pss_cons (ps_if (PW.pt (pw_or (pt_not (pt_val (pe_call Gis_list (hr.mono (by decide)) (by rfl) Mis_list Kis_list Bis_list .nil pass0 (pa_cons (pv 0) pa_nil)))) (pw_or1 (pt_not (pt_chain op_le op_le pe_int (pe_callB call_len_seq (by rfl) T.len PySem.boot_len (pa_cons (pv 0) pa_nil)) (pe_glob (v := .int 8) (by rfl) T.most ⟨_, rfl⟩)))))) (pss_one (ps_raise rfl (takes_of rfl rfl rfl rfl) (pmk0 (T.exBadSize) (T.tyBadSize) (T.plBadSize) T.glBadSize rfl))) pss_nil)
 (pss_cons (ps_for (passes_of rfl) rfl (pi_or (pi_list (pv 0)) (pi_tup (pv 0))) (pg_name (i := 1) sc_sizes_of.nd rfl (Or.inl rfl))
 (pss_one (ps_if (PW.pt (pw_or (pt_not (pt_val (pe_call Gis_int (hr.mono (by decide)) (by rfl) Mis_int Kis_int Bis_int .nil pass0 (pa_cons (pv 1) pa_nil)))) (pw_or1 (pt_not (pt_chain op_le op_le (pe_glob (v := .int 2) (by rfl) T.least ⟨_, rfl⟩) (pv 1) (pe_glob (v := .int 6) (by rfl) T.mosta ⟨_, rfl⟩)))))) (pss_one (ps_raise rfl (takes_of rfl rfl rfl rfl) (pmk0 (T.exBadSize) (T.tyBadSize) (T.plBadSize) T.glBadSize rfl))) pss_nil)))
 (pss_one (ps_ret (pe_callTy call_tuple_of (by rfl) T.tuple tuple_b (pa_cons (pv 0) pa_nil)))))), ?_⟩
  refine ⟨_, rfl, v, d, rfl, hd.ty, fun H1 s1 => ⟨_, rfl, ?_⟩⟩
  cases el : isL d with
  | false =>
    refine iteT (qe ?_ H1 s1)
    unfold szD
    rw [seq_no el]
  | true =>
    obtain ⟨a, xs, ds, rfl, es, sq0, all0⟩ := seq_of el hd
    have sq := sqA_keep s1 sq0
    have all := DpAll.keep (Keeps.of s1) ds xs all0
    have ln := DpAll.len all
    have qe : szD d = false → ∀ H', Same H1 H' → E (.ref (He.ga K "BadSize")) none H' := fun e H' s => qe e H' (s1.trans s)
    have qq : ∀ ds, seqD d = some ds → szOk ds = true → Dat K Q H1 (.tuple ds) := fun ds e k => (qq ds e k).from s1
    have lens : (decide (1 ≤ xs.length) && decide (xs.length ≤ 8)) = false → szD d = false := fun e => by
      unfold szD szOk
      rw [es]
      show ((_ && _) && _) = false
      rw [← ln, e]
      rfl
    refine iteF ⟨_, rfl, a, xs, rfl, sq, _, _, rfl, rfl, _, rfl, ?_⟩
    have i1 : decide ((1 : Int) ≤ (xs.length : Int)) = decide (1 ≤ xs.length) := decide_eq_decide.mpr (by omega)
    have i2 : decide ((xs.length : Int) ≤ 8) = decide (xs.length ≤ 8) := decide_eq_decide.mpr (by omega)
    rw [i1]
    cases l1 : decide (1 ≤ xs.length) with
    | false => exact iteF ⟨_, rfl, iteT (qe (lens (by rw [l1]; rfl)) _ (Same.refl _))⟩
    | true =>
    refine iteT ⟨_, _, rfl, rfl, _, rfl, ?_⟩
    rw [i2]
    cases l2 : decide (xs.length ≤ 8) with
    | false => exact iteT (qe (lens (by rw [l1, l2]; rfl)) _ (Same.refl _))
    | true =>
    refine iteF ?_
    rcases sq with sqL | sqT
    · have sq : SqA K H1 a xs := .inl sqL
      refine .inl ⟨_, rfl, a, rfl, ⟨_, sqL⟩, for_list (K := K) (a := a) (xs := xs) (fun i σ H' => ∃ x1, σ = [some (.ref a), x1] ∧ Same H1 H' ∧ (ds.take i).all szI = true) ⟨none, rfl, Same.refl _, rfl⟩ (fun i σ H' _ ⟨_, _, g, _⟩ => (Keeps.of g).sqL sqL) ?_ ?_⟩
      · rintro i x σ H2 hi ⟨x1, rfl, g2, al⟩
        obtain ⟨dx, edx, hdx⟩ := DpAll.at (DpAll.keep (Keeps.of g2) ds xs all) hi
        refine ⟨_, rfl, x, dx, rfl, .of hdx, fun H3 g3 => ⟨_, rfl, ?_⟩⟩
        have bad : szI dx = false → Er0 K "BadSize" H3 E := fun e H' s => qe (by
          unfold szD szOk
          rw [es]
          show ((_ && _) && ds.all szI) = false
          rw [all_no edx e, Bool.and_false]) H' ((g2.trans g3).trans s)
        cases ei : isI dx with
        | false =>
          refine iteT (bad ?_ _ (Same.refl _))
          cases dx <;> first | rfl | cases ei
        | true =>
          cases hdx with
          | int k =>
            refine iteF ⟨_, rfl, _, _, rfl, rfl, _, rfl, ?_⟩
            cases e1 : decide ((2 : Int) ≤ k) with
            | false =>
              refine iteF ⟨_, rfl, iteT (bad ?_ _ (Same.refl _))⟩
              show (decide (2 ≤ k) && decide (k ≤ 6)) = false
              rw [e1]
              rfl
            | true =>
              refine iteT ⟨_, _, rfl, rfl, _, rfl, ?_⟩
              cases e2 : decide (k ≤ (6 : Int)) with
              | false =>
                refine iteT (bad ?_ _ (Same.refl _))
                show (decide (2 ≤ k) && decide (k ≤ 6)) = false
                rw [e1, e2]
                rfl
              | true =>
                refine iteF ⟨_, rfl, g2.trans g3, all_take al edx ?_⟩
                show (decide (2 ≤ k) && decide (k ≤ 6)) = true
                rw [e1, e2]
                rfl
          | _ => cases ei
      · rintro σ H2 ⟨x1, rfl, g2, al⟩
        refine ⟨_, rfl, tup_of (sqA_keep g2 sq) (DpAll.keep (Keeps.of g2) ds xs all) ((qq ds es ?_).from g2)⟩
        unfold szOk
        rw [ln, List.take_length] at al
        rw [← ln, l1, l2, al]
        rfl
    · have sq : SqA K H1 a xs := .inr sqT
      refine .inr ⟨_, rfl, a, rfl, ⟨_, sqT⟩, for_tup (K := K) (a := a) (xs := xs) (fun i σ H' => ∃ x1, σ = [some (.ref a), x1] ∧ Same H1 H' ∧ (ds.take i).all szI = true) ⟨none, rfl, Same.refl _, rfl⟩ (fun i σ H' _ ⟨_, _, g, _⟩ => (Keeps.of g).sqT sqT) ?_ ?_⟩
      · rintro i x σ H2 hi ⟨x1, rfl, g2, al⟩
        obtain ⟨dx, edx, hdx⟩ := DpAll.at (DpAll.keep (Keeps.of g2) ds xs all) hi
        refine ⟨_, rfl, x, dx, rfl, .of hdx, fun H3 g3 => ⟨_, rfl, ?_⟩⟩
        have bad : szI dx = false → Er0 K "BadSize" H3 E := fun e H' s => qe (by
          unfold szD szOk
          rw [es]
          show ((_ && _) && ds.all szI) = false
          rw [all_no edx e, Bool.and_false]) H' ((g2.trans g3).trans s)
        cases ei : isI dx with
        | false =>
          refine iteT (bad ?_ _ (Same.refl _))
          cases dx <;> first | rfl | cases ei
        | true =>
          cases hdx with
          | int k =>
            refine iteF ⟨_, rfl, _, _, rfl, rfl, _, rfl, ?_⟩
            cases e1 : decide ((2 : Int) ≤ k) with
            | false =>
              refine iteF ⟨_, rfl, iteT (bad ?_ _ (Same.refl _))⟩
              show (decide (2 ≤ k) && decide (k ≤ 6)) = false
              rw [e1]
              rfl
            | true =>
              refine iteT ⟨_, _, rfl, rfl, _, rfl, ?_⟩
              cases e2 : decide (k ≤ (6 : Int)) with
              | false =>
                refine iteT (bad ?_ _ (Same.refl _))
                show (decide (2 ≤ k) && decide (k ≤ 6)) = false
                rw [e1, e2]
                rfl
              | true =>
                refine iteF ⟨_, rfl, g2.trans g3, all_take al edx ?_⟩
                show (decide (2 ≤ k) && decide (k ≤ 6)) = true
                rw [e1, e2]
                rfl
          | _ => cases ei
      · rintro σ H2 ⟨x1, rfl, g2, al⟩
        refine ⟨_, rfl, tup_of (sqA_keep g2 sq) (DpAll.keep (Keeps.of g2) ds xs all) ((qq ds es ?_).from g2)⟩
        unfold szOk
        rw [ln, List.take_length] at al
        rw [← ln, l1, l2, al]
        rfl

end
end Hs
set_option maxHeartbeats 8000000
namespace Hs
open PySem L2
/-! ## lots, spots, rows -/
theorem okAt_eq {m st : Int} {ds : List PyData} {i : Nat} {v : Int} (e : ds[i]? = some (.int v)) : okAt m st ds i = ((decide (0 ≤ v) && decide (v < m)) && (i == 0 || match ds[i - 1]? with
    | some (.int u) => decide (u + st ≤ v)
    | _ => false)) := by
  unfold okAt
  rw [e]
  all_goals rfl
theorem okAt_no {m st : Int} {ds : List PyData} {i : Nat} {d : PyData} (e : ds[i]? = some d) (h : belowD d m = false) : okAt m st ds i = false := by
  unfold okAt
  rw [e]
  cases d with
  | int v =>
    have h2 : (decide (0 ≤ v) && decide (v < m)) = false := h
    show ((decide (0 ≤ v) && decide (v < m)) && _) = false
    rw [h2]
    rfl
  | _ => rfl
theorem okAt_int {m st : Int} {ds : List PyData} {i : Nat} (h : okAt m st ds i = true) : ∃ v, ds[i]? = some (.int v) ∧ 0 ≤ v ∧ v < m := by
  unfold okAt at h
  split at h
  · rename_i v e
    obtain ⟨a, _⟩ := two h
    obtain ⟨a1, a2⟩ := two a
    exact ⟨v, e, of_decide_eq_true a1, of_decide_eq_true a2⟩
  · cases h
def spRise (K : PySem.W.Frag) (sts : List V) (st : Int) : Sp := fun vs H Q E => ∃ v d m, vs = v :: .int m :: sts ∧ Da K H v d ∧ (isL d = false → ErP K H E (-1)) ∧
  (∀ ds (i : Nat), seqD d = some ds → i < ds.length → (∀ j < i, okAt m st ds j = true) → okAt m st ds i = false → ErP K H E i) ∧
  (∀ ds, seqD d = some ds → (∀ j < ds.length, okAt m st ds j = true) → Dat K Q H (.tuple ds))
section
variable {P : Program} {w : World} {K : PySem.W.Frag} {mg : Str → Option Value} {base : Heap} {tk : Tok × Tok × Tok}
theorem sc_rising_looks : FnScope ["value", "many", "step", "place", "look"] ["value", "many", "step"] (defScope (topH 32)) := ⟨rfl, rfl, rfl, by decide +kernel, rfl, by decide +kernel, by decide +kernel⟩
theorem ok_rising_looks {f : Addr} {fd : FuncData} (F : Fun K "rising_looks" "rising_looks" (topH 32) f fd) (T : Tx K mg tk) {fis_list : Addr} {fdis_list : FuncData} (Gis_list : FnOk P w K mg base CX0 1 fis_list fdis_list ["value"] (spLs K)) (Kis_list : PySem.W.keepIn K (.ref fis_list) = true) (Bis_list : Binds K fdis_list ["value"] []) (Mis_list : mg "is_list" = some (.ref fis_list)) {fis_below : Addr} {fdis_below : FuncData} (Gis_below : FnOk P w K mg base CX0 2 fis_below fdis_below ["value", "many"] (fun vs H Q _ => ∃ v d m, vs = [v, .int m] ∧ Da K H v d ∧ ∀ H', Same H H' → Q (.bl (belowD d m)) H')) (Kis_below : PySem.W.keepIn K (.ref fis_below) = true) (Bis_below : Binds K fdis_below ["value", "many"] []) (Mis_below : mg "is_below" = some (.ref fis_below)) {fI : Addr} {fdI : FuncData} (F1 : FnOk P w K mg base CX0 1 (He.ma K (He.ga K "BadLot") "__init__") fdI ["self", "place"] (spOne (He.ga K "BadLot") "place")) (bI : Binds K fdI ["self", "place"] []) :
    FnOk P w K mg base (L2.CX P w) 3 f fd ["value", "many", "step"] (fun vs H Q E => ∃ st, spRise K [.int st] st vs H Q E) := by
  refine F.okX sc_rising_looks (fun vs H Q E h => ?_) (fun cdv A outer s H vs Q E hr h => ?_)
  · obtain ⟨st, v, d, m, rfl, _⟩ := h
    rfl
  obtain ⟨st, v, d, m, rfl, hd, q1, q2, q3⟩ := h
  refine ⟨_, (pss_cons (ps_if (pt_not (pt_val (pe_call Gis_list (hr.mono (by decide)) (by rfl) Mis_list Kis_list Bis_list .nil pass0 (pa_cons (pv 0) pa_nil)))) (pss_one (ps_raise rfl (takes_of rfl rfl rfl rfl) (pmk1 T.exBadLot T.tyBadLot T.inBadLot T.iC T.tI F1 (hr.mono (by decide)) bI pass0 rfl T.glBadLot (pe_un un_neg pe_int)))) pss_nil)
 (pss_cons (ps_for (passes_of rfl) rfl (pi_or (pi_enum (by rfl) T.enumerate (pa_cons (pv 0) pa_nil)) (pi_enumT (by rfl) T.enumerate (pa_cons (pv 0) pa_nil))) (pg_tup rfl (pgs_cons (pg_name (i := 3) sc_rising_looks.nd rfl (Or.inl rfl)) (pgs_cons (pg_name (i := 4) sc_rising_looks.nd rfl (Or.inl rfl)) pgs_nil)))
 (pss_cons (ps_if (pt_not (pt_val (pe_call Gis_below (hr.mono (by decide)) (by rfl) Mis_below Kis_below Bis_below .nil pass0 (pa_cons (pv 4) (pa_cons (pv 1) pa_nil))))) (pss_one (ps_raise rfl (takes_of rfl rfl rfl rfl) (pmk1 T.exBadLot T.tyBadLot T.inBadLot T.iC T.tI F1 (hr.mono (by decide)) bI pass0 rfl T.glBadLot (pv 3)))) pss_nil)
 (pss_one (ps_if (PW.pt (pw_and (pt_cmpR op_gt (pv 3) pe_int (nomark _)) (pw_and1 (pt_cmpR op_lt (pv 4) (pe_op op_add (pe_ix (r := rIx K) ix_seq (pv 0) (pe_op op_sub (pv 3) pe_int) (fun _ _ => rfl)) (pv 2)) (nomark _))))) (pss_one (ps_raise rfl (takes_of rfl rfl rfl rfl) (pmk1 T.exBadLot T.tyBadLot T.inBadLot T.iC T.tI F1 (hr.mono (by decide)) bI pass0 rfl T.glBadLot (pv 3)))) pss_nil))))
 (pss_one (ps_ret (pe_callTy call_tuple_of (by rfl) T.tuple tuple_b (pa_cons (pv 0) pa_nil)))))), ?_⟩
  refine ⟨_, rfl, v, d, rfl, hd.ty, fun H1 s1 => ⟨_, rfl, ?_⟩⟩
  cases el : isL d with
  | false => exact iteT ⟨_, rfl, fun dd hd => q1 el _ dd s1 hd⟩
  | true =>
    obtain ⟨a, xs, ds, rfl, es, sq0, all0⟩ := seq_of el hd
    have sq := sqA_keep s1 sq0
    have all := DpAll.keep (Keeps.of s1) ds xs all0
    have ln := DpAll.len all
    refine iteF ?_
    rcases sq with sqL | sqT
    · have sq : SqA K H1 a xs := .inl sqL
      refine .inl ⟨_, rfl, a, xs, rfl, sqL, for_enumL (K := K) (a := a) (xs := xs) (fun i σ H' => ∃ x3 x4, σ = [some (.ref a), some (.int m), some (.int st), x3, x4] ∧ Same H1 H' ∧ ∀ j < i, okAt m st ds j = true) ⟨none, none, rfl, Same.refl _, fun j hj => absurd hj (Nat.not_lt_zero j)⟩ (fun i σ H' ⟨_, _, _, g, _⟩ => (Keeps.of g).sqL sqL) ?_ ?_⟩
      · rintro i x T' σ H2 hi ⟨x3, x4, rfl, g2, al⟩ hT
        have nT : ∀ b o, H2 b = some o → upd H2 T' (.tup [.int (i : Nat), x]) b = some o := same_new (Same.refl H2) hT _
        refine ⟨T', _, rfl, SqT.of upd_same, rfl, _, _, rfl, _, _, rfl, rfl, ?_⟩
        obtain ⟨dx, edx, hdx0⟩ := DpAll.at (DpAll.keep (Keeps.of g2) ds xs all) hi
        have hdx := dp_keep nT hdx0
        have il : i < ds.length := (List.getElem?_eq_some_iff.mp edx).1
        have g3 : Same H1 (upd H2 T' (.tup [.int (i : Nat), x])) := g2.trans nT
        generalize upd H2 T' (.tup [.int (i : Nat), x]) = H3 at g3 hdx
        refine ⟨_, rfl, _, rfl, x, dx, m, rfl, .of hdx, fun H4 g4 => ⟨_, rfl, ?_⟩⟩
        have g := g3.trans g4
        cases eb : belowD dx m with
        | false => exact iteT ⟨_, rfl, fun dd hd => q2 ds i es il al (okAt_no edx eb) _ dd (s1.trans g) hd⟩
        | true =>
          obtain ⟨k, rfl, k0, km⟩ := below_int eb
          cases hdx
          refine iteF ?_
          have ek := okAt_eq (m := m) (st := st) edx
          rw [decide_eq_true k0, decide_eq_true km] at ek
          have ek : okAt m st ds i = (i == 0 || match ds[i - 1]? with
            | some (.int u) => decide (u + st ≤ k)
            | _ => false) := ek
          refine ⟨_, rfl, _, _, rfl, rfl, _, rfl, ?_⟩
          by_cases i0 : i = 0
          · subst i0
            rw [decide_eq_false (show ¬ (((0 : Nat) : Int) > 0) by decide)]
            refine iteF (iteF ⟨_, _, rfl, g, fun j hj => ?_⟩)
            obtain rfl : j = 0 := by omega
            rw [ek]
            rfl
          · rw [decide_eq_true (show ((i : Nat) : Int) > 0 by omega)]
            obtain ⟨u, eu, u0, um⟩ := okAt_int (al (i - 1) (by omega))
            obtain ⟨vu, evu, hu⟩ := dpAll_get (DpAll.keep (Keeps.of g) ds xs all) eu
            cases hu
            have at1 : atI xs (((i : Nat) : Int) - 1) = some (V.int u) := by
              have e2 : ((i : Nat) : Int) - 1 = ((i - 1 : Nat) : Int) := by omega
              rw [e2]
              exact atI_nat evu
            refine iteT ⟨_, rfl, _, rfl, _, rfl, _, _, rfl, rfl, ix_of (sqA_keep g sq) at1 ⟨_, rfl, _, _, rfl, rfl, _, _, rfl, rfl, _, rfl, ?_⟩⟩
            have ek2 : okAt m st ds i = decide (u + st ≤ k) := by
              rw [ek, eu, show (i == 0) = false by simpa using i0]
              rfl
            by_cases lt : k < u + st
            · rw [decide_eq_true lt]
              exact iteT ⟨_, rfl, fun dd hd => q2 ds i es il al (by rw [ek2]; exact decide_eq_false (by omega)) _ dd (s1.trans g) hd⟩
            · rw [decide_eq_false lt]
              refine iteF ⟨_, _, rfl, g, fun j hj => ?_⟩
              by_cases ji : j = i
              · rw [ji, ek2]
                exact decide_eq_true (by omega)
              · exact al j (by omega)
      · rintro σ H2 ⟨x3, x4, rfl, g2, al⟩
        refine ⟨_, rfl, tup_of (sqA_keep g2 sq) (DpAll.keep (Keeps.of g2) ds xs all) ((q3 ds es ?_).from (s1.trans g2))⟩
        rw [← ln]
        exact al
    · have sq : SqA K H1 a xs := .inr sqT
      refine .inr ⟨_, rfl, a, xs, rfl, sqT, for_enumT (K := K) (a := a) (xs := xs) (fun i σ H' => ∃ x3 x4, σ = [some (.ref a), some (.int m), some (.int st), x3, x4] ∧ Same H1 H' ∧ ∀ j < i, okAt m st ds j = true) ⟨none, none, rfl, Same.refl _, fun j hj => absurd hj (Nat.not_lt_zero j)⟩ (fun i σ H' ⟨_, _, _, g, _⟩ => (Keeps.of g).sqT sqT) ?_ ?_⟩
      · rintro i x T' σ H2 hi ⟨x3, x4, rfl, g2, al⟩ hT
        have nT : ∀ b o, H2 b = some o → upd H2 T' (.tup [.int (i : Nat), x]) b = some o := same_new (Same.refl H2) hT _
        refine ⟨T', _, rfl, SqT.of upd_same, rfl, _, _, rfl, _, _, rfl, rfl, ?_⟩
        obtain ⟨dx, edx, hdx0⟩ := DpAll.at (DpAll.keep (Keeps.of g2) ds xs all) hi
        have hdx := dp_keep nT hdx0
        have il : i < ds.length := (List.getElem?_eq_some_iff.mp edx).1
        have g3 : Same H1 (upd H2 T' (.tup [.int (i : Nat), x])) := g2.trans nT
        generalize upd H2 T' (.tup [.int (i : Nat), x]) = H3 at g3 hdx
        refine ⟨_, rfl, _, rfl, x, dx, m, rfl, .of hdx, fun H4 g4 => ⟨_, rfl, ?_⟩⟩
        have g := g3.trans g4
        cases eb : belowD dx m with
        | false => exact iteT ⟨_, rfl, fun dd hd => q2 ds i es il al (okAt_no edx eb) _ dd (s1.trans g) hd⟩
        | true =>
          obtain ⟨k, rfl, k0, km⟩ := below_int eb
          cases hdx
          refine iteF ?_
          have ek := okAt_eq (m := m) (st := st) edx
          rw [decide_eq_true k0, decide_eq_true km] at ek
          have ek : okAt m st ds i = (i == 0 || match ds[i - 1]? with
            | some (.int u) => decide (u + st ≤ k)
            | _ => false) := ek
          refine ⟨_, rfl, _, _, rfl, rfl, _, rfl, ?_⟩
          by_cases i0 : i = 0
          · subst i0
            rw [decide_eq_false (show ¬ (((0 : Nat) : Int) > 0) by decide)]
            refine iteF (iteF ⟨_, _, rfl, g, fun j hj => ?_⟩)
            obtain rfl : j = 0 := by omega
            rw [ek]
            rfl
          · rw [decide_eq_true (show ((i : Nat) : Int) > 0 by omega)]
            obtain ⟨u, eu, u0, um⟩ := okAt_int (al (i - 1) (by omega))
            obtain ⟨vu, evu, hu⟩ := dpAll_get (DpAll.keep (Keeps.of g) ds xs all) eu
            cases hu
            have at1 : atI xs (((i : Nat) : Int) - 1) = some (V.int u) := by
              have e2 : ((i : Nat) : Int) - 1 = ((i - 1 : Nat) : Int) := by omega
              rw [e2]
              exact atI_nat evu
            refine iteT ⟨_, rfl, _, rfl, _, rfl, _, _, rfl, rfl, ix_of (sqA_keep g sq) at1 ⟨_, rfl, _, _, rfl, rfl, _, _, rfl, rfl, _, rfl, ?_⟩⟩
            have ek2 : okAt m st ds i = decide (u + st ≤ k) := by
              rw [ek, eu, show (i == 0) = false by simpa using i0]
              rfl
            by_cases lt : k < u + st
            · rw [decide_eq_true lt]
              exact iteT ⟨_, rfl, fun dd hd => q2 ds i es il al (by rw [ek2]; exact decide_eq_false (by omega)) _ dd (s1.trans g) hd⟩
            · rw [decide_eq_false lt]
              refine iteF ⟨_, _, rfl, g, fun j hj => ?_⟩
              by_cases ji : j = i
              · rw [ji, ek2]
                exact decide_eq_true (by omega)
              · exact al j (by omega)
      · rintro σ H2 ⟨x3, x4, rfl, g2, al⟩
        refine ⟨_, rfl, tup_of (sqA_keep g2 sq) (DpAll.keep (Keeps.of g2) ds xs all) ((q3 ds es ?_).from (s1.trans g2))⟩
        rw [← ln]
        exact al

theorem sc_lot_of : FnScope ["value", "many"] ["value", "many"] (defScope (topH 33)) := ⟨rfl, rfl, rfl, by decide +kernel, rfl, by decide +kernel, by decide +kernel⟩
theorem ok_lot_of {f : Addr} {fd : FuncData} (F : Fun K "lot_of" "lot_of" (topH 33) f fd) (T : Tx K mg tk) {frising_looks : Addr} {fdrising_looks : FuncData} (Grising_looks : FnOk P w K mg base (L2.CX P w) 3 frising_looks fdrising_looks ["value", "many", "step"] (fun vs H Q E => ∃ st, spRise K [.int st] st vs H Q E)) (Krising_looks : PySem.W.keepIn K (.ref frising_looks) = true) (Brising_looks : Binds K fdrising_looks ["value", "many", "step"] []) (Mrising_looks : mg "rising_looks" = some (.ref frising_looks)) :
    FnOk P w K mg base (L2.CX P w) 4 f fd ["value", "many"] (spRise K [] 1) := by
  refine F.okX sc_lot_of (fun vs H Q E h => ?_) (fun cdv A outer s H vs Q E hr h => ?_)
  · obtain ⟨v, d, m, rfl, _⟩ := h
    rfl
  obtain ⟨v, d, m, rfl, hd, q1, q2, q3⟩ := h
  refine ⟨_, (pss_one (ps_ret (pe_call Grising_looks (hr.mono (by decide)) (by rfl) Mrising_looks Krising_looks Brising_looks .nil (passes_call (takes_of rfl rfl rfl rfl) (fun _ _ _ _ h => h)) (pa_cons (pv 0) (pa_cons (pv 1) (pa_cons pe_int pa_nil)))))), ?_⟩
  exact ⟨_, rfl, _, rfl, 1, v, d, m, rfl, hd, q1, q2, q3⟩

theorem sc_asking_of : FnScope ["value", "many"] ["value", "many"] (defScope (topH 34)) := ⟨rfl, rfl, rfl, by decide +kernel, rfl, by decide +kernel, by decide +kernel⟩
theorem ok_asking_of {f : Addr} {fd : FuncData} (F : Fun K "asking_of" "asking_of" (topH 34) f fd) (T : Tx K mg tk) {frising_looks : Addr} {fdrising_looks : FuncData} (Grising_looks : FnOk P w K mg base (L2.CX P w) 3 frising_looks fdrising_looks ["value", "many", "step"] (fun vs H Q E => ∃ st, spRise K [.int st] st vs H Q E)) (Krising_looks : PySem.W.keepIn K (.ref frising_looks) = true) (Brising_looks : Binds K fdrising_looks ["value", "many", "step"] []) (Mrising_looks : mg "rising_looks" = some (.ref frising_looks)) :
    FnOk P w K mg base (L2.CX P w) 4 f fd ["value", "many"] (spRise K [] 0) := by
  refine F.okX sc_asking_of (fun vs H Q E h => ?_) (fun cdv A outer s H vs Q E hr h => ?_)
  · obtain ⟨v, d, m, rfl, _⟩ := h
    rfl
  obtain ⟨v, d, m, rfl, hd, q1, q2, q3⟩ := h
  refine ⟨_, (pss_one (ps_ret (pe_call Grising_looks (hr.mono (by decide)) (by rfl) Mrising_looks Krising_looks Brising_looks .nil (passes_call (takes_of rfl rfl rfl rfl) (fun _ _ _ _ h => h)) (pa_cons (pv 0) (pa_cons (pv 1) (pa_cons pe_int pa_nil)))))), ?_⟩
  exact ⟨_, rfl, _, rfl, 0, v, d, m, rfl, hd, q1, q2, q3⟩

theorem sc_spot_of : FnScope ["value", "sizes", "look", "answer"] ["value", "sizes"] (defScope (topH 35)) := ⟨rfl, rfl, rfl, by decide +kernel, rfl, by decide +kernel, by decide +kernel⟩
theorem ok_spot_of {f : Addr} {fd : FuncData} (F : Fun K "spot_of" "spot_of" (topH 35) f fd) (T : Tx K mg tk) {fis_list : Addr} {fdis_list : FuncData} (Gis_list : FnOk P w K mg base CX0 1 fis_list fdis_list ["value"] (spLs K)) (Kis_list : PySem.W.keepIn K (.ref fis_list) = true) (Bis_list : Binds K fdis_list ["value"] []) (Mis_list : mg "is_list" = some (.ref fis_list)) {fis_below : Addr} {fdis_below : FuncData} (Gis_below : FnOk P w K mg base CX0 2 fis_below fdis_below ["value", "many"] (fun vs H Q _ => ∃ v d m, vs = [v, .int m] ∧ Da K H v d ∧ ∀ H', Same H H' → Q (.bl (belowD d m)) H')) (Kis_below : PySem.W.keepIn K (.ref fis_below) = true) (Bis_below : Binds K fdis_below ["value", "many"] []) (Mis_below : mg "is_below" = some (.ref fis_below)) :
    FnOk P w K mg base (L2.CX P w) 3 f fd ["value", "sizes"] (fun vs H Q E => ∃ v d b ns, vs = [v, .ref b] ∧ Da K H v d ∧ SqA K H b ((ns : List Int).map V.int) ∧ (spotD d ns = none → Er0 K "BadSpot" H E) ∧ ∀ x y, spotD d ns = some (x, y) → Rat Q H x y) := by
  refine F.okX sc_spot_of (fun vs H Q E h => ?_) (fun cdv A outer s H vs Q E hr h => ?_)
  · obtain ⟨v, d, b, ns, rfl, _⟩ := h
    rfl
  obtain ⟨v, d, b, ns, rfl, hd, sb, qe, qq⟩ := h
  refine ⟨_, (pss_cons (ps_if (PW.pt (pw_or (pt_not (pt_val (pe_call Gis_list (hr.mono (by decide)) (by rfl) Mis_list Kis_list Bis_list .nil pass0 (pa_cons (pv 0) pa_nil)))) (pw_or1 (pt_cmpR op_ne (pe_callB call_len_seq (by rfl) T.len PySem.boot_len (pa_cons (pv 0) pa_nil)) pe_int (nomark _))))) (pss_one (ps_raise rfl (takes_of rfl rfl rfl rfl) (pmk0 (T.exBadSpot) (T.tyBadSpot) (T.plBadSpot) T.glBadSpot rfl))) pss_nil)
 (pss_cons (ps_asg (pv 0) (pg_or (pg_tup rfl (pgs_cons (pg_name (i := 2) sc_spot_of.nd rfl (Or.inl rfl)) (pgs_cons (pg_name (i := 3) sc_spot_of.nd rfl (Or.inl rfl)) pgs_nil))) (pg_unl rfl (pgs_cons (pg_name (i := 2) sc_spot_of.nd rfl (Or.inl rfl)) (pgs_cons (pg_name (i := 3) sc_spot_of.nd rfl (Or.inl rfl)) pgs_nil)))))
 (pss_cons (ps_if (PW.pt (pw_or (pt_not (pt_val (pe_call Gis_below (hr.mono (by decide)) (by rfl) Mis_below Kis_below Bis_below .nil pass0 (pa_cons (pv 2) (pa_cons (pe_callB call_len_seq (by rfl) T.len PySem.boot_len (pa_cons (pv 1) pa_nil)) pa_nil))))) (pw_or1 (pt_not (pt_val (pe_call Gis_below (hr.mono (by decide)) (by rfl) Mis_below Kis_below Bis_below .nil pass0 (pa_cons (pv 3) (pa_cons (pe_ix (r := rIx K) ix_seq (pv 1) (pv 2) (fun _ _ => rfl)) pa_nil)))))))) (pss_one (ps_raise rfl (takes_of rfl rfl rfl rfl) (pmk0 (T.exBadSpot) (T.tyBadSpot) (T.plBadSpot) T.glBadSpot rfl))) pss_nil)
 (pss_one (ps_ret (pe_tup (pa_cons (pv 2) (pa_cons (pv 3) pa_nil)))))))), ?_⟩
  refine ⟨_, rfl, v, d, rfl, hd.ty, fun H1 s1 => ⟨_, rfl, ?_⟩⟩
  cases el : isL d with
  | false =>
    refine iteT (qe ?_ H1 s1)
    unfold spotD
    rw [seq_no el]
  | true =>
    obtain ⟨a, xs, ds, rfl, es, sq0, all0⟩ := seq_of el hd
    have sq := sqA_keep s1 sq0
    have all := DpAll.keep (Keeps.of s1) ds xs all0
    have ln := DpAll.len all
    refine iteF ⟨_, rfl, a, xs, rfl, sq, rfl, _, rfl, ?_⟩
    by_cases two : xs.length = 2
    · obtain ⟨x, y, dx, dy, rfl, rfl, hx, hy⟩ := two_all all two
      have e3 : (!decide (V.int (([x, y] : List V).length : Int) = V.int 2)) = false := rfl
      rw [e3]
      refine iteF ?_
      have ed : spotD d ns = if (belowD dx ns.length && belowD dy (ns.getD (intOf dx).toNat 0)) = true then some (intOf dx, intOf dy) else none := by
        unfold spotD
        rw [es]
      have unp : ∀ {Q' : St → Hp → Prop}, Q' [some (.ref a), some (.ref b), some x, some y] H1 → gTup K 2 (gCons (gName 2) (gCons (gName 3) gNil)) (.ref a) [some (.ref a), some (.ref b), none, none] H1 Q' ∨ gUnl K 2 (gCons (gName 2) (gCons (gName 3) gNil)) (.ref a) [some (.ref a), some (.ref b), none, none] H1 Q' := fun {Q'} q => by
        rcases sq with h | h
        · exact .inr ⟨a, _, rfl, h, rfl, _, _, rfl, _, _, rfl, rfl, q⟩
        · exact .inl ⟨a, _, rfl, h, rfl, _, _, rfl, _, _, rfl, rfl, q⟩
      refine ⟨_, rfl, unp ?_⟩
      refine ⟨_, rfl, _, rfl, b, _, rfl, sqA_keep s1 sb, x, dx, _, rfl, .of hx, fun H2 s2 => ⟨_, rfl, ?_⟩⟩
      rw [List.length_map]
      cases e1 : belowD dx ns.length with
      | false =>
        refine iteT (qe ?_ H2 (s1.trans s2))
        rw [ed, e1]
        rfl
      | true =>
        obtain ⟨k, rfl, k0, km⟩ := below_int e1
        cases hx
        obtain ⟨nk, hnk⟩ : ∃ nk, ns[k.toNat]? = some nk := ⟨_, List.getElem?_eq_getElem (by omega)⟩
        have at1 : atI (ns.map V.int) k = some (V.int nk) := by
          have e2 : k = ((k.toNat : Nat) : Int) := by omega
          rw [e2]
          refine atI_nat ?_
          rw [List.getElem?_map]
          have e3 : ((k.toNat : Nat) : Int).toNat = k.toNat := by omega
          first | rw [hnk] | rw [e3, hnk]
          rfl
        refine iteF ⟨_, rfl, _, rfl, _, rfl, ix_of (sqA_keep (s1.trans s2) sb) at1 ⟨y, dy, nk, rfl, (Da.of hy).keep s2, fun H3 s3 => ⟨_, rfl, ?_⟩⟩⟩
        have gd : ns.getD (intOf (.int k)).toNat 0 = nk := by
          show ns.getD k.toNat 0 = nk
          rw [List.getD_eq_getElem?_getD, hnk]
          rfl
        rw [gd, e1] at ed
        cases e2 : belowD dy nk with
        | false =>
          refine iteT (qe ?_ H3 ((s1.trans s2).trans s3))
          rw [ed, e2]
          rfl
        | true =>
          rw [e2] at ed
          obtain ⟨l, rfl, _, _⟩ := below_int e2
          cases hy
          refine iteF ⟨_, rfl, _, rfl, by show 2 ≤ sizeLine; decide, fun p hp => ?_⟩
          exact qq k l ed p _ (same_new ((s1.trans s2).trans s3) hp _) upd_same
    · have e3 : (!decide (V.int (xs.length : Int) = V.int 2)) = true := by
        rw [decide_eq_false fun h => two (by have := V.int.inj h; omega)]
        rfl
      rw [e3]
      refine iteT (qe ?_ H1 s1)
      unfold spotD
      rw [es]
      match ds, ln with
      | [], _ => rfl
      | [_], _ => rfl
      | [_, _], l => exact absurd l two
      | _ :: _ :: _ :: _, _ => rfl

def rowD (d : PyData) (n : Nat) : Bool := match seqD d with
  | some ds => decide (ds.length = n)
  | none => false
theorem sc_row_spots : FnScope ["asking", "row"] ["asking", "row"] (defScope (topH 36)) := ⟨rfl, rfl, rfl, by decide +kernel, rfl, by decide +kernel, by decide +kernel⟩
theorem ok_row_spots {f : Addr} {fd : FuncData} (F : Fun K "row_spots" "row_spots" (topH 36) f fd) (T : Tx K mg tk) {fis_list : Addr} {fdis_list : FuncData} (Gis_list : FnOk P w K mg base CX0 1 fis_list fdis_list ["value"] (spLs K)) (Kis_list : PySem.W.keepIn K (.ref fis_list) = true) (Bis_list : Binds K fdis_list ["value"] []) (Mis_list : mg "is_list" = some (.ref fis_list)) :
    FnOk P w K mg base (L2.CX P w) 2 f fd ["asking", "row"] (fun vs H Q E => ∃ v d b as, vs = [.ref b, v] ∧ Da K H v d ∧ SqA K H b ((as : List Int).map V.int) ∧ as.length ≤ 1000 ∧ (rowD d as.length = false → Er0 K "BadSpot" H E) ∧ ∀ ds, seqD d = some ds → ds.length = as.length → Dat K Q H (.tuple (zipD as ds))) := by
  refine F.okX sc_row_spots (fun vs H Q E h => ?_) (fun cdv A outer s H vs Q E hr h => ?_)
  · obtain ⟨v, d, b, as, rfl, _⟩ := h
    rfl
  obtain ⟨v, d, b, as, rfl, hd, sb, small, qe, qq⟩ := h
  refine ⟨_, (pss_cons (ps_if (PW.pt (pw_or (pt_not (pt_val (pe_call Gis_list (hr.mono (by decide)) (by rfl) Mis_list Kis_list Bis_list .nil pass0 (pa_cons (pv 1) pa_nil)))) (pw_or1 (pt_cmpR op_ne (pe_callB call_len_seq (by rfl) T.len PySem.boot_len (pa_cons (pv 1) pa_nil)) (pe_callB call_len_seq (by rfl) T.len PySem.boot_len (pa_cons (pv 0) pa_nil)) (nomark _))))) (pss_one (ps_raise rfl (takes_of rfl rfl rfl rfl) (pmk0 (T.exBadSpot) (T.tyBadSpot) (T.plBadSpot) T.glBadSpot rfl))) pss_nil)
 (pss_one (ps_ret (pe_callTy call_tuple_of (by rfl) T.tuple tuple_b (pa_cons (pe_lz rfl (by rfl) T.list (by rfl) T.zip (pa_cons (pv 0) (pa_cons (pv 1) pa_nil))) pa_nil))))), ?_⟩
  refine ⟨_, rfl, v, d, rfl, hd.ty, fun H1 s1 => ⟨_, rfl, ?_⟩⟩
  cases el : isL d with
  | false =>
    refine iteT (qe ?_ H1 s1)
    unfold rowD
    rw [seq_no el]
  | true =>
    obtain ⟨a, xs, ds, rfl, es, sq0, all0⟩ := seq_of el hd
    have sq := sqA_keep s1 sq0
    have all := DpAll.keep (Keeps.of s1) ds xs all0
    have ln := DpAll.len all
    refine iteF ⟨_, rfl, a, xs, rfl, sq, _, rfl, b, _, rfl, sqA_keep s1 sb, rfl, _, rfl, ?_⟩
    by_cases e : ds.length = as.length
    · have e3 : (!decide (V.int (xs.length : Int) = V.int ((as.map V.int).length : Int))) = false := by
        rw [List.length_map, ln, e, decide_eq_true rfl]
        rfl
      rw [e3]
      refine iteF ⟨_, rfl, _, rfl, b, a, _, xs, rfl, sqA_keep s1 sb, sq, by rw [List.length_map, ln, e], by rw [List.length_map]; exact Nat.lt_of_le_of_lt small (by decide), fun ts H2 p s2 tl prs hp => ?_⟩
      have t3 : Same H2 (upd H2 p (.lst (ts.map V.ref))) := same_new (Same.refl H2) hp _
      refine ⟨p, ts.map V.ref, rfl, .inl ⟨SqL.of upd_same, fun l hl => ?_⟩⟩
      have t4 : Same H2 (upd (upd H2 p (.lst (ts.map V.ref))) l (.tup (ts.map V.ref))) := same_new t3 hl _
      refine qq ds es e _ _ ((s1.trans s2).trans t4) (.tup (SqT.of upd_same) (dpAll_of ?_ fun k t z et ez => ?_))
      · rw [List.length_map, tl, List.length_map]
        unfold zipD
        rw [List.length_zipWith, e, Nat.min_self]
      · rw [List.getElem?_map] at et
        obtain ⟨q, eq, rfl⟩ := Option.map_eq_some_iff.mp et
        obtain ⟨x, y, ex, ey, hq⟩ := prs k q eq
        rw [List.getElem?_map] at ex
        obtain ⟨i, ei, rfl⟩ := Option.map_eq_some_iff.mp ex
        obtain ⟨dy, edy, hdy⟩ := DpAll.at (DpAll.keep (Keeps.of (s2.trans t4)) ds xs all) ey
        unfold zipD at ez
        rw [List.getElem?_zipWith, ei, edy] at ez
        cases ez
        exact .tup (SqT.of (t4 _ _ hq)) (.cons (.int i) (.cons hdy .nil))
    · have e3 : (!decide (V.int (xs.length : Int) = V.int ((as.map V.int).length : Int))) = true := by
        rw [decide_eq_false fun h => e (by have := V.int.inj h; rw [List.length_map] at this; omega)]
        rfl
      rw [e3]
      refine iteT (qe ?_ H1 s1)
      unfold rowD
      rw [es]
      exact decide_eq_false e

end
end Hs
set_option maxHeartbeats 8000000
namespace Hs
open PySem L2
/-! ## the law: what is due -/
theorem xf_of {K : PySem.W.Frag} {C : Addr} (T : Exn K C) : XfC K C := ⟨T.get, T.noGet, T.base, T.dct⟩
def dBad (i : Int) : PyData := .tuple [.str "bad", .int i]
def dGood (ds : List PyData) : PyData := .tuple [.str "good", .tuple ds]
/-- a short list, if it is one -/
def Sml8 (d : PyData) : Prop := ∀ ds, seqD d = some ds → ds.length ≤ 1000
def due (m st : Int) (d : PyData) : PyData := match seqD d with
  | none => dBad (-1)
  | some ds => match (List.range ds.length).find? (fun i => !okAt m st ds i) with
    | some i => dBad i
    | none => dGood ds
theorem due_no {m st : Int} {d : PyData} (e : isL d = false) : due m st d = dBad (-1) := by
  unfold due
  rw [seq_no e]
theorem due_bad {m st : Int} {d : PyData} {ds : List PyData} {i : Nat} (es : seqD d = some ds) (il : i < ds.length) (al : ∀ j < i, okAt m st ds j = true) (e : okAt m st ds i = false) : due m st d = dBad i := by
  have f : (List.range ds.length).find? (fun i => !okAt m st ds i) = some i := by
    rw [List.find?_range_eq_some]
    exact ⟨by rw [e]; rfl, List.mem_range.mpr il, fun j hj => by rw [al j hj]; rfl⟩
  unfold due
  rw [es]
  show (match (List.range ds.length).find? (fun i => !okAt m st ds i) with
    | some i => dBad i
    | none => dGood ds) = _
  rw [f]
theorem due_good {m st : Int} {d : PyData} {ds : List PyData} (es : seqD d = some ds) (al : ∀ j < ds.length, okAt m st ds j = true) : due m st d = dGood ds := by
  have f : (List.range ds.length).find? (fun i => !okAt m st ds i) = none := by
    rw [List.find?_range_eq_none]
    exact fun j hj => by rw [al j hj]; rfl
  unfold due
  rw [es]
  show (match (List.range ds.length).find? (fun i => !okAt m st ds i) with
    | some i => dBad i
    | none => dGood ds) = _
  rw [f]
theorem is_bl {K : PySem.W.Frag} {H : Hp} {v : V} {d : PyData} (h : Dp K H v d) (e : isI d = true ∨ isB d = false) (b : Bool) : decide (v = .bl b) = false := by
  cases h <;> first | rfl | (rcases e with e | e <;> cases e)
section
variable {P : Program} {w : World} {K : PySem.W.Frag} {mg : Str → Option Value} {base : Heap} {tk : Tok × Tok × Tok}
theorem sc__law_whole : FnScope ["_law_value"] ["_law_value"] (defScope (topH 40)) := ⟨rfl, rfl, rfl, by decide +kernel, rfl, by decide +kernel, by decide +kernel⟩
theorem ok__law_whole {f : Addr} {fd : FuncData} (F : Fun K "_law_whole" "_law_whole" (topH 40) f fd) (T : Tx K mg tk) :
    FnOk P w K mg base CX0 1 f fd ["_law_value"] (fun vs H Q _ => ∃ v d, vs = [v] ∧ Dp K H v d ∧ ∀ H', Same H H' → Q (.bl (isI d)) H') := by
  refine F.ok sc__law_whole (fun vs H Q E h => ?_) (fun cdv A outer s H vs Q E hr h => ?_)
  · obtain ⟨v, d, rfl, _⟩ := h
    rfl
  obtain ⟨v, d, rfl, hd, q⟩ := h
  refine ⟨_, (pss_cons (ps_if (PW.pt (pw_or (pt_cmpR op_isB (pv 0) pe_bl (nomark _)) (pw_or1 (pt_cmpR op_isB (pv 0) pe_bl (nomark _))))) (pss_one (ps_ret pe_bl)) pss_nil)
 (pss_one (ps_ret (pe_callB call_isi (by rfl) T.isi isi_b (pa_cons (pv 0) (pa_cons (pe_bltn (v := .ty "int") (by rfl) T.int int_b rfl) pa_nil)))))), ?_⟩
  have z := q H (Same.refl H)
  cases eb : isB d with
  | true =>
    cases hd with
    | bl b =>
      cases b with
      | true => exact ⟨_, rfl, true, rfl, _, rfl, iteT z⟩
      | false => exact ⟨_, rfl, true, rfl, _, rfl, iteF ⟨_, rfl, false, rfl, _, rfl, iteT z⟩⟩
    | _ => cases eb
  | false =>
    refine ⟨_, rfl, true, rfl, _, rfl, ?_⟩
    rw [is_bl hd (.inr eb)]
    refine iteF ⟨_, rfl, false, rfl, _, rfl, ?_⟩
    rw [is_bl hd (.inr eb)]
    refine iteF ⟨_, rfl, _, _, _, _, _, rfl, .ty _, (Da.of hd).ty, kit_int d, ?_⟩
    rw [eb, Bool.or_false]
    exact z

theorem sc__law_due : FnScope ["_law_value", "_law_many", "_law_step", "_law_low", "_law_place"] ["_law_value", "_law_many", "_law_step"] (defScope (topH 44)) := ⟨rfl, rfl, rfl, by decide +kernel, rfl, by decide +kernel, by decide +kernel⟩
theorem ok__law_due {f : Addr} {fd : FuncData} (F : Fun K "_law_due" "_law_due" (topH 44) f fd) (T : Tx K mg tk) {fLwhole : Addr} {fdLwhole : FuncData} (GLwhole : FnOk P w K mg base CX0 1 fLwhole fdLwhole ["_law_value"] (fun vs H Q _ => ∃ v d, vs = [v] ∧ Dp K H v d ∧ ∀ H', Same H H' → Q (.bl (isI d)) H')) (KLwhole : PySem.W.keepIn K (.ref fLwhole) = true) (BLwhole : Binds K fdLwhole ["_law_value"] []) (MLwhole : mg "_law_whole" = some (.ref fLwhole)) :
    FnOk P w K mg base CX0 2 f fd ["_law_value", "_law_many", "_law_step"] (fun vs H Q _ => ∃ v d m st, vs = [v, .int m, .int st] ∧ 0 ≤ st ∧ Dp K H v d ∧ Sml8 d ∧ Dat K Q H (due m st d)) := by
  refine F.ok sc__law_due (fun vs H Q E h => ?_) (fun cdv A outer s H vs Q E hr h => ?_)
  · obtain ⟨v, d, m, st, rfl, _⟩ := h
    rfl
  obtain ⟨v, d, m, st, rfl, st0, hd, sm, q⟩ := h
  refine ⟨_, (pss_cons (ps_if (pt_not (pt_val (pe_callB call_isiT (by rfl) T.isi isi_b (pa_cons (pv 0) (pa_cons (pe_tup (pa_cons (pe_bltn (v := .ty "tuple") (by rfl) T.tuple tuple_b rfl) (pa_cons (pe_bltn (v := .ty "list") (by rfl) T.list list_b rfl) pa_nil))) pa_nil))))) (pss_one (ps_ret (pe_tup (pa_cons pe_str (pa_cons (pe_un un_neg pe_int) pa_nil))))) pss_nil)
 (pss_cons (ps_set (i := 3) sc__law_due.nd rfl (Or.inl rfl) pe_int)
 (pss_cons (ps_for PassesOwn.never rfl (pi_range1 (by rfl) T.range (pa_cons (pe_callB call_len_seq (by rfl) T.len PySem.boot_len (pa_cons (pv 0) pa_nil)) pa_nil)) (pg_name (i := 4) sc__law_due.nd rfl (Or.inl rfl))
 (pss_cons (ps_if (PW.pt (pw_or (pt_not (pt_val (pe_call GLwhole (hr.mono (by decide)) (by rfl) MLwhole KLwhole BLwhole .nil pass0 (pa_cons (pe_ix (r := rIx K) ix_seq (pv 0) (pv 4) (fun _ _ => rfl)) pa_nil)))) (pw_or (pt_cmpR op_lt (pe_ix (r := rIx K) ix_seq (pv 0) (pv 4) (fun _ _ => rfl)) (pv 3) (nomark _)) (pw_or1 (pt_cmpR op_ge (pe_ix (r := rIx K) ix_seq (pv 0) (pv 4) (fun _ _ => rfl)) (pv 1) (nomark _)))))) (pss_one (ps_ret (pe_tup (pa_cons pe_str (pa_cons (pv 4) pa_nil))))) pss_nil)
 (pss_one (ps_set (i := 3) sc__law_due.nd rfl (Or.inl rfl) (pe_op op_add (pe_ix (r := rIx K) ix_seq (pv 0) (pv 4) (fun _ _ => rfl)) (pv 2))))))
 (pss_one (ps_ret (pe_tup (pa_cons pe_str (pa_cons (pe_callTy call_tuple_of (by rfl) T.tuple tuple_b (pa_cons (pv 0) pa_nil)) pa_nil)))))))), ?_⟩
  refine ⟨_, rfl, by show 2 ≤ sizeLine; decide, fun t ht => ?_⟩
  have s1 : Same H (upd H t (.tup [.ty "tuple", .ty "list"])) := same_new (Same.refl H) ht _
  refine ⟨_, t, _, _, _, _, rfl, upd_same, .cons (.ty _) (.cons (.ty _) .nil), ty_keep s1 (Da.of hd).ty, kit_tl d, _, rfl, ?_⟩
  generalize upd H t (.tup [.ty "tuple", .ty "list"]) = H1 at s1
  cases el : isL d with
  | false =>
    refine iteT ⟨_, rfl, by show 2 ≤ sizeLine; decide, fun p hp => ?_⟩
    rw [due_no el] at q
    exact q _ _ (same_new s1 hp _) (.tup (SqT.of upd_same) (.cons (.str _) (.cons (.int _) .nil)))
  | true =>
    obtain ⟨a, xs, ds, rfl, es, sq0, all0⟩ := seq_of el (Da.of hd)
    have sq := sqA_keep s1 sq0
    have all := DpAll.keep (Keeps.of s1) ds xs all0
    have ln := DpAll.len all
    refine iteF ?_
    refine ⟨_, rfl, a, xs, rfl, sq, (xs.length : Int), rfl, by omega, by have := sm ds es; omega, for_range (n := xs.length) (fun i σ H' => ∃ low x4, σ = [some (.ref a), some (.int m), some (.int st), some (.int low), x4] ∧ Same H1 H' ∧ (∀ j < i, okAt m st ds j = true) ∧ 0 ≤ low ∧ ((i = 0 ∧ low = 0) ∨ ∃ u, i ≠ 0 ∧ ds[i - 1]? = some (.int u) ∧ low = u + st)) ⟨0, none, rfl, Same.refl _, fun j hj => absurd hj (Nat.not_lt_zero j), Int.le_refl 0, .inl ⟨rfl, rfl⟩⟩ ?_ ?_⟩
    · rintro i σ H2 hi ⟨low, x4, rfl, g2, al, low0, hl⟩
      have ex : xs[i]? = some xs[i] := List.getElem?_eq_getElem hi
      generalize xs[i] = x at ex
      obtain ⟨dx, edx, hdx⟩ := DpAll.at (DpAll.keep (Keeps.of g2) ds xs all) ex
      have il : i < ds.length := by omega
      have atx : ∀ {H3 : Hp} {Q' : VK}, Same H2 H3 → Q' x H3 → rIx K (.ref a) (.int (0 + (i : Nat))) H3 Q' := fun {H3 Q'} g3 q' => ix_of (sqA_keep (g2.trans g3) sq) (at_of (j := i) (by omega) ex) q'
      have no : okAt m st ds i = false → ∀ p H', Same H2 H' → H' p = some (.tup [.str "bad", .int (0 + (i : Nat))]) → Q (.ref p) H' := fun e p H' g hp => by
        rw [due_bad es il al e] at q
        refine q _ _ ((s1.trans g2).trans g) (.tup (SqT.of hp) (.cons (.str _) (.cons ?_ .nil)))
        rw [show (0 : Int) + ((i : Nat) : Int) = ((i : Nat) : Int) by omega]
        exact .int _
      refine ⟨_, rfl, _, rfl, atx (Same.refl _) ⟨x, dx, rfl, hdx, fun H3 g3 => ⟨_, rfl, ?_⟩⟩⟩
      cases ei : isI dx with
      | false =>
        refine iteT ⟨_, rfl, by show 2 ≤ sizeLine; decide, fun p hp => no ?_ p _ (same_new g3 hp _) upd_same⟩
        refine okAt_no edx ?_
        cases dx <;> first | rfl | cases ei
      | true =>
        cases hdx with
        | int k =>
          refine iteF ⟨_, rfl, _, rfl, atx g3 ⟨_, rfl, _, _, rfl, rfl, _, rfl, ?_⟩⟩
          have ek := okAt_eq (m := m) (st := st) edx
          by_cases kl : k < low
          · rw [decide_eq_true kl]
            refine iteT ⟨_, rfl, by show 2 ≤ sizeLine; decide, fun p hp => no ?_ p _ (same_new g3 hp _) upd_same⟩
            rcases hl with ⟨rfl, rfl⟩ | ⟨u, i0, eu, rfl⟩
            · rw [ek, decide_eq_false (show ¬ (0 ≤ k) by omega)]
              rfl
            · rw [ek, eu, show (i == 0) = false by simpa using i0]
              show (_ && (false || decide (u + st ≤ k))) = false
              rw [decide_eq_false (show ¬ (u + st ≤ k) by omega)]
              simp
          · rw [decide_eq_false kl]
            refine iteF ⟨_, rfl, _, rfl, atx g3 ⟨_, rfl, _, _, rfl, rfl, _, rfl, ?_⟩⟩
            by_cases km : m ≤ k
            · rw [decide_eq_true (show k ≥ m from km)]
              refine iteT ⟨_, rfl, by show 2 ≤ sizeLine; decide, fun p hp => no ?_ p _ (same_new g3 hp _) upd_same⟩
              rw [ek, decide_eq_false (show ¬ (k < m) by omega), Bool.and_false]
              rfl
            · rw [decide_eq_false (show ¬ k ≥ m from km)]
              have yes : okAt m st ds i = true := by
                rw [ek, decide_eq_true (show 0 ≤ k by omega), decide_eq_true (show k < m by omega)]
                rcases hl with ⟨rfl, _⟩ | ⟨u, i0, eu, rfl⟩
                · rfl
                · rw [eu]
                  show ((true && true) && (i == 0 || decide (u + st ≤ k))) = true
                  rw [decide_eq_true (show u + st ≤ k by omega)]
                  simp
              refine iteF ⟨_, rfl, _, rfl, atx g3 ⟨_, rfl, _, _, rfl, rfl, k + st, _, rfl, g2.trans g3, fun j hj => ?_, by omega, .inr ⟨k, by omega, ?_, rfl⟩⟩⟩
              · by_cases ji : j = i
                · rw [ji]
                  exact yes
                · exact al j (by omega)
              · exact edx
        | _ => cases ei
    · rintro σ H2 ⟨low, x4, rfl, g2, al, _⟩
      have q2 := q
      rw [due_good es (by rw [← ln]; exact al)] at q2
      refine ⟨_, rfl, tup_of (Q := fun v2 H3 => ([.str "good", v2] : List V).length ≤ sizeLine ∧ ∀ p, H3 p = none → Q (.ref p) (upd H3 p (.tup [.str "good", v2]))) (sqA_keep g2 sq) (DpAll.keep (Keeps.of g2) ds xs all) fun v2 H3 g3 hv2 => ⟨by show 2 ≤ sizeLine; decide, fun p hp => ?_⟩⟩
      have g4 := same_new (Same.refl H3) hp (.tup [.str "good", v2])
      exact q2 _ _ (((s1.trans g2).trans g3).trans g4) (.tup (SqT.of upd_same) (.cons (.str _) (.cons (dp_keep g4 hv2) .nil)))

theorem sc__law_lot_told : FnScope ["_law_value", "_law_many", "_law_told", "error"] ["_law_value", "_law_many"] (defScope (topH 45)) := ⟨rfl, rfl, rfl, by decide +kernel, rfl, by decide +kernel, by decide +kernel⟩
theorem ok__law_lot_told {f : Addr} {fd : FuncData} (F : Fun K "_law_lot_told" "_law_lot_told" (topH 45) f fd) (T : Tx K mg tk) {flot_of : Addr} {fdlot_of : FuncData} (Glot_of : FnOk P w K mg base (L2.CX P w) 4 flot_of fdlot_of ["value", "many"] (spRise K [] 1)) (Klot_of : PySem.W.keepIn K (.ref flot_of) = true) (Blot_of : Binds K fdlot_of ["value", "many"] []) (Mlot_of : mg "lot_of" = some (.ref flot_of)) :
    FnOk P w K mg base CX0 5 f fd ["_law_value", "_law_many"] (fun vs H Q _ => ∃ v d m, vs = [v, .int m] ∧ Dp K H v d ∧ Dat K Q H (due m 1 d)) := by
  refine F.ok sc__law_lot_told (fun vs H Q E h => ?_) (fun cdv A outer s H vs Q E hr h => ?_)
  · obtain ⟨v, d, m, rfl, _⟩ := h
    rfl
  obtain ⟨v, d, m, rfl, hd, q⟩ := h
  refine ⟨_, (pss_cons (ps_set (i := 2) sc__law_lot_told.nd rfl (Or.inl rfl) (pe_tup (pa_cons pe_str (pa_cons pe_int pa_nil))))
 (pss_cons (ps_try_as (i := 3) rfl rfl sc__law_lot_told.nd rfl rfl ⟨rfl, by decide, .inl T.glBadLot⟩ takes0 (fun W pn xe tkk _ => (pss_one (ps_set (i := 2) sc__law_lot_told.nd rfl (Or.inl rfl) (pe_tup (pa_cons pe_str (pa_cons (pe_callS Glot_of (hr.mono (by decide)) (by rfl) Mlot_of Klot_of Blot_of (fun σ => passAt tkk σ) (pa_cons (pv 0) (pa_cons (pv 1) pa_nil))) pa_nil))))))
 (fun a oe cls d pn hz hf => (pss_one (ps_set (i := 2) sc__law_lot_told.nd rfl (Or.inl rfl) (pe_tup (pa_cons pe_str (pa_cons (pe_xf (xf_of T.exBadLot) T.nof hz hf (pv 3)) pa_nil)))))))
 (pss_one (ps_ret (pv 2))))), ?_⟩
  refine ⟨by show 2 ≤ sizeLine; decide, fun p0 h0 => ?_⟩
  have s0 : Same H (upd H p0 (.tup [.str "bad", .int 99])) := same_new (Same.refl H) h0 _
  generalize upd H p0 (.tup [.str "bad", .int 99]) = H0 at s0
  refine ⟨_, rfl, _, rfl, v, d, m, rfl, (Da.of hd).keep s0, fun el H' dx g hx => ?_, fun ds i es il al e H' dx g hx => ?_, fun ds es al v2 H2 g2 hv2 => ?_⟩
  · have e := due_no (m := m) (st := 1) el
    refine ⟨true, T.xmBadLot, fun _ a ha => ?_, fun z => nomatch z⟩
    refine ⟨_, rfl, rfl, rfl, dx, _, _, rfl, upd_same, rfl, by show 2 ≤ sizeLine; decide, fun p hp => ?_⟩
    refine ⟨_, rfl, ?_⟩
    rw [e] at q
    exact q _ _ (((s0.trans g).trans (same_new (Same.refl H') hx _)).trans (same_new (Same.refl _) hp _)) (.tup (SqT.of upd_same) (.cons (.str _) (.cons (.int _) .nil)))
  · have e := due_bad es il al e
    refine ⟨true, T.xmBadLot, fun _ a ha => ?_, fun z => nomatch z⟩
    refine ⟨_, rfl, rfl, rfl, dx, _, _, rfl, upd_same, rfl, by show 2 ≤ sizeLine; decide, fun p hp => ?_⟩
    refine ⟨_, rfl, ?_⟩
    rw [e] at q
    exact q _ _ (((s0.trans g).trans (same_new (Same.refl H') hx _)).trans (same_new (Same.refl _) hp _)) (.tup (SqT.of upd_same) (.cons (.str _) (.cons (.int _) .nil)))
  refine ⟨by show 2 ≤ sizeLine; decide, fun p hp => ?_⟩
  refine ⟨_, rfl, ?_⟩
  rw [due_good es al] at q
  have g3 := same_new (Same.refl H2) hp (.tup [.str "good", v2])
  exact q _ _ ((s0.trans g2).trans g3) (.tup (SqT.of upd_same) (.cons (.str _) (.cons (dp_keep g3 hv2) .nil)))

theorem sc__law_asking_told : FnScope ["_law_value", "_law_many", "_law_told", "error"] ["_law_value", "_law_many"] (defScope (topH 46)) := ⟨rfl, rfl, rfl, by decide +kernel, rfl, by decide +kernel, by decide +kernel⟩
theorem ok__law_asking_told {f : Addr} {fd : FuncData} (F : Fun K "_law_asking_told" "_law_asking_told" (topH 46) f fd) (T : Tx K mg tk) {fasking_of : Addr} {fdasking_of : FuncData} (Gasking_of : FnOk P w K mg base (L2.CX P w) 4 fasking_of fdasking_of ["value", "many"] (spRise K [] 0)) (Kasking_of : PySem.W.keepIn K (.ref fasking_of) = true) (Basking_of : Binds K fdasking_of ["value", "many"] []) (Masking_of : mg "asking_of" = some (.ref fasking_of)) :
    FnOk P w K mg base CX0 5 f fd ["_law_value", "_law_many"] (fun vs H Q _ => ∃ v d m, vs = [v, .int m] ∧ Dp K H v d ∧ Dat K Q H (due m 0 d)) := by
  refine F.ok sc__law_asking_told (fun vs H Q E h => ?_) (fun cdv A outer s H vs Q E hr h => ?_)
  · obtain ⟨v, d, m, rfl, _⟩ := h
    rfl
  obtain ⟨v, d, m, rfl, hd, q⟩ := h
  refine ⟨_, (pss_cons (ps_set (i := 2) sc__law_asking_told.nd rfl (Or.inl rfl) (pe_tup (pa_cons pe_str (pa_cons pe_int pa_nil))))
 (pss_cons (ps_try_as (i := 3) rfl rfl sc__law_asking_told.nd rfl rfl ⟨rfl, by decide, .inl T.glBadLot⟩ takes0 (fun W pn xe tkk _ => (pss_one (ps_set (i := 2) sc__law_asking_told.nd rfl (Or.inl rfl) (pe_tup (pa_cons pe_str (pa_cons (pe_callS Gasking_of (hr.mono (by decide)) (by rfl) Masking_of Kasking_of Basking_of (fun σ => passAt tkk σ) (pa_cons (pv 0) (pa_cons (pv 1) pa_nil))) pa_nil))))))
 (fun a oe cls d pn hz hf => (pss_one (ps_set (i := 2) sc__law_asking_told.nd rfl (Or.inl rfl) (pe_tup (pa_cons pe_str (pa_cons (pe_xf (xf_of T.exBadLot) T.nof hz hf (pv 3)) pa_nil)))))))
 (pss_one (ps_ret (pv 2))))), ?_⟩
  refine ⟨by show 2 ≤ sizeLine; decide, fun p0 h0 => ?_⟩
  have s0 : Same H (upd H p0 (.tup [.str "bad", .int 99])) := same_new (Same.refl H) h0 _
  generalize upd H p0 (.tup [.str "bad", .int 99]) = H0 at s0
  refine ⟨_, rfl, _, rfl, v, d, m, rfl, (Da.of hd).keep s0, fun el H' dx g hx => ?_, fun ds i es il al e H' dx g hx => ?_, fun ds es al v2 H2 g2 hv2 => ?_⟩
  · have e := due_no (m := m) (st := 0) el
    refine ⟨true, T.xmBadLot, fun _ a ha => ?_, fun z => nomatch z⟩
    refine ⟨_, rfl, rfl, rfl, dx, _, _, rfl, upd_same, rfl, by show 2 ≤ sizeLine; decide, fun p hp => ?_⟩
    refine ⟨_, rfl, ?_⟩
    rw [e] at q
    exact q _ _ (((s0.trans g).trans (same_new (Same.refl H') hx _)).trans (same_new (Same.refl _) hp _)) (.tup (SqT.of upd_same) (.cons (.str _) (.cons (.int _) .nil)))
  · have e := due_bad es il al e
    refine ⟨true, T.xmBadLot, fun _ a ha => ?_, fun z => nomatch z⟩
    refine ⟨_, rfl, rfl, rfl, dx, _, _, rfl, upd_same, rfl, by show 2 ≤ sizeLine; decide, fun p hp => ?_⟩
    refine ⟨_, rfl, ?_⟩
    rw [e] at q
    exact q _ _ (((s0.trans g).trans (same_new (Same.refl H') hx _)).trans (same_new (Same.refl _) hp _)) (.tup (SqT.of upd_same) (.cons (.str _) (.cons (.int _) .nil)))
  refine ⟨by show 2 ≤ sizeLine; decide, fun p hp => ?_⟩
  refine ⟨_, rfl, ?_⟩
  rw [due_good es al] at q
  have g3 := same_new (Same.refl H2) hp (.tup [.str "good", v2])
  exact q _ _ ((s0.trans g2).trans g3) (.tup (SqT.of upd_same) (.cons (.str _) (.cons (dp_keep g3 hv2) .nil)))

end
end Hs
set_option maxHeartbeats 8000000
namespace Hs
open PySem L2
/-! ## the law: spots, sizes, rows -/
/-- a statement, and a wish of one's own behind it -/
theorem pss_cut {X : Cx} {st : Stmt} {rest : List Stmt} {t u : TS} (h1 : PS X st t) (h2 : PSs X rest u) : PSs X (st :: rest) (fun D σ H => ∃ J : L2.St → Hp → Prop, t { D with nx := J } σ H ∧ ∀ σ' H', J σ' H' → u D σ' H') := by
  refine ⟨fun pins s σ H D I ⟨J, h, k⟩ => ?_⟩
  refine wpAny_execs_cons (thn (h1.run pins s σ H { D with nx := J } I h) fun f s1 q => ?_)
  cases f with
  | next =>
    obtain ⟨σ', H', I', q⟩ := q
    exact h2.run pins s1 σ' H' D I' (k σ' H' q)
  | ret v => exact q
  | brk => exact q
  | cont => exact q
/-- shaped data, nested n deep at most -/
def Shp (n : Nat) (d : PyData) : Prop := d.canLay0 = true ∧ d.depth ≤ n
theorem shp_all {n : Nat} : ∀ {ds : List PyData}, (∀ d ∈ ds, Shp n d) → PyData.canLayAll0 ds = true ∧ PyData.depthAll ds ≤ n
  | [], _ => ⟨rfl, by simp [PyData.depthAll]⟩
  | d :: ds, h => by
    obtain ⟨a, b⟩ := h d List.mem_cons_self
    obtain ⟨a2, b2⟩ := shp_all fun e he => h e (List.mem_cons_of_mem _ he)
    refine ⟨?_, ?_⟩
    · show (d.canLay0 && PyData.canLayAll0 ds) = true
      rw [a, a2]
      rfl
    · simp only [PyData.depthAll]
      omega
theorem Shp.tup {n : Nat} {ds : List PyData} (h : ∀ d ∈ ds, Shp n d) : Shp (n + 1) (.tuple ds) := by
  obtain ⟨a, b⟩ := shp_all h
  refine ⟨?_, ?_⟩
  · show PyData.canLayAll0 ds = true
    exact a
  · simp only [PyData.depth]
    omega
theorem Shp.lst {n : Nat} {ds : List PyData} (h : ∀ d ∈ ds, Shp n d) : Shp (n + 1) (.list ds) := by
  obtain ⟨a, b⟩ := shp_all h
  refine ⟨?_, ?_⟩
  · show PyData.canLayAll0 ds = true
    exact a
  · simp only [PyData.depth]
    omega
theorem Shp.int {n : Nat} (i : Int) : Shp n (.int i) := ⟨rfl, by simp [PyData.depth]⟩
theorem Shp.str {n : Nat} {x : Str} (h : (PyData.str x).canLay0 = true := by decide) : Shp n (.str x) := ⟨h, by simp [PyData.depth]⟩
theorem Shp.ok {n : Nat} {d : PyData} (h : Shp n d) (l : n ≤ 64 := by decide) : SeqAt.shaped d = true := by
  unfold SeqAt.shaped
  rw [h.1, decide_eq_true (Nat.le_trans h.2 l)]
  rfl
theorem Shp.refl {n : Nat} {d : PyData} (h : Shp n d) : PyData.eqv d d = true := SeqAt.eqv_refl d h.1
theorem shp_two {n : Nat} {a b : PyData} (h : Shp n a) (k : Shp n b) : Shp (n + 1) (.tuple [a, b]) := .tup fun d hd => by
  rcases List.mem_cons.mp hd with rfl | hd
  · exact h
  · obtain rfl : d = b := by simpa using hd
    exact k
section
variable {P : Program} {w : World} {K : PySem.W.Frag} {mg : Str → Option Value} {base : Heap} {tk : Tok × Tok × Tok}
theorem sc__law_spot_right : FnScope ["_law_value", "_law_sizes", "_law_due_here", "_law_told"] ["_law_value", "_law_sizes"] (defScope (topH 47)) := ⟨rfl, rfl, rfl, by decide +kernel, rfl, by decide +kernel, by decide +kernel⟩
theorem ok__law_spot_right {f : Addr} {fd : FuncData} (F : Fun K "_law_spot_right" "_law_spot_right" (topH 47) f fd) (T : Tx K mg tk) {fLwhole : Addr} {fdLwhole : FuncData} (GLwhole : FnOk P w K mg base CX0 1 fLwhole fdLwhole ["_law_value"] (fun vs H Q _ => ∃ v d, vs = [v] ∧ Dp K H v d ∧ ∀ H', Same H H' → Q (.bl (isI d)) H')) (KLwhole : PySem.W.keepIn K (.ref fLwhole) = true) (BLwhole : Binds K fdLwhole ["_law_value"] []) (MLwhole : mg "_law_whole" = some (.ref fLwhole)) {fspot_of : Addr} {fdspot_of : FuncData} (Gspot_of : FnOk P w K mg base (L2.CX P w) 3 fspot_of fdspot_of ["value", "sizes"] (fun vs H Q E => ∃ v d b ns, vs = [v, .ref b] ∧ Da K H v d ∧ SqA K H b ((ns : List Int).map V.int) ∧ (spotD d ns = none → Er0 K "BadSpot" H E) ∧ ∀ x y, spotD d ns = some (x, y) → Rat Q H x y)) (Kspot_of : PySem.W.keepIn K (.ref fspot_of) = true) (Bspot_of : Binds K fdspot_of ["value", "sizes"] []) (Mspot_of : mg "spot_of" = some (.ref fspot_of)) :
    FnOk P w K mg base CX0 4 f fd ["_law_value", "_law_sizes"] (fun vs H Q _ => ∃ v d b ns, vs = [v, .ref b] ∧ Dp K H v d ∧ SqA K H b ((ns : List Int).map V.int) ∧ ∀ H', Same H H' → Q (.bl true) H') := by
  refine F.ok sc__law_spot_right (fun vs H Q E h => ?_) (fun cdv A outer s H vs Q E hr h => ?_)
  · obtain ⟨v, d, b, ns, rfl, _⟩ := h
    rfl
  obtain ⟨v, d, b, ns, rfl, hd, sb, q⟩ := h
  refine ⟨_, (pss_cons (ps_set (i := 2) sc__law_spot_right.nd rfl (Or.inl rfl) (pe_tup pa_nil))
 (pss_cut (ps_if (PW.pt (pw_and (pt_val (pe_callB call_isiT (by rfl) T.isi isi_b (pa_cons (pv 0) (pa_cons (pe_tup (pa_cons (pe_bltn (v := .ty "tuple") (by rfl) T.tuple tuple_b rfl) (pa_cons (pe_bltn (v := .ty "list") (by rfl) T.list list_b rfl) pa_nil))) pa_nil)))) (pw_and1 (pt_cmpR op_eq (pe_callB call_len_seq (by rfl) T.len PySem.boot_len (pa_cons (pv 0) pa_nil)) pe_int (nomark _))))) (pss_one (ps_if (PW.pt (pw_and (pt_val (pe_call GLwhole (hr.mono (by decide)) (by rfl) MLwhole KLwhole BLwhole .nil pass0 (pa_cons (pe_ix (r := rIx K) ix_seq (pv 0) pe_int (fun _ _ => rfl)) pa_nil))) (pw_and1 (pt_chain op_le op_lt pe_int (pe_ix (r := rIx K) ix_seq (pv 0) pe_int (fun _ _ => rfl)) (pe_callB call_len_seq (by rfl) T.len PySem.boot_len (pa_cons (pv 1) pa_nil)))))) (pss_one (ps_if (PW.pt (pw_and (pt_val (pe_call GLwhole (hr.mono (by decide)) (by rfl) MLwhole KLwhole BLwhole .nil pass0 (pa_cons (pe_ix (r := rIx K) ix_seq (pv 0) pe_int (fun _ _ => rfl)) pa_nil))) (pw_and1 (pt_chain op_le op_lt pe_int (pe_ix (r := rIx K) ix_seq (pv 0) pe_int (fun _ _ => rfl)) (pe_ix (r := rIx K) ix_seq (pv 1) (pe_ix (r := rIx K) ix_seq (pv 0) pe_int (fun _ _ => rfl)) (fun _ _ => rfl)))))) (pss_one (ps_set (i := 2) sc__law_spot_right.nd rfl (Or.inl rfl) (pe_tup (pa_cons (pe_ix (r := rIx K) ix_seq (pv 0) pe_int (fun _ _ => rfl)) (pa_cons (pe_ix (r := rIx K) ix_seq (pv 0) pe_int (fun _ _ => rfl)) pa_nil))))) pss_nil)) pss_nil)) pss_nil)
 (pss_cons (ps_set (i := 3) sc__law_spot_right.nd rfl (Or.inl rfl) (pe_tup pa_nil))
 (pss_cons (ps_try_only rfl rfl ⟨rfl, by decide, .inl T.glBadSpot⟩ takes0 (fun W pn xe tkk _ => (pss_one (ps_set (i := 3) sc__law_spot_right.nd rfl (Or.inl rfl) (pe_callS Gspot_of (hr.mono (by decide)) (by rfl) Mspot_of Kspot_of Bspot_of (fun σ => passAt tkk σ) (pa_cons (pv 0) (pa_cons (pv 1) pa_nil))))))
 (fun a oe cls d pn _ _ => (pss_one (ps_set (i := 3) sc__law_spot_right.nd rfl (Or.inl rfl) pe_str))))
 (pss_cons (ps_if (pt_cmpR (op_eqD hr.units) (pv 2) (pe_tup pa_nil) (nomark _)) (pss_one (ps_ret (pe_cmpR (op_eqD hr.units) (pv 3) pe_str (nomark _)))) pss_nil)
 (pss_one (ps_ret (pe_andT (pe_callB call_isi (by rfl) T.isi isi_b (pa_cons (pv 3) (pa_cons (pe_bltn (v := .ty "tuple") (by rfl) T.tuple tuple_b rfl) pa_nil))) (pe_one (pe_cmpR (op_eqD hr.units) (pv 3) (pv 2) (nomark _))))))))))), ?_⟩
  refine ⟨by show 0 ≤ sizeLine; decide, fun p0 h0 => ?_⟩
  have s0 : Same H (upd H p0 (.tup [])) := same_new (Same.refl H) h0 _
  have e0 : Dp K (upd H p0 (.tup [])) (.ref p0) (.tuple []) := .tup (SqT.of upd_same) .nil
  generalize upd H p0 (.tup []) = H0 at s0 e0
  -- what is due
  let dd : PyData := match spotD d ns with
    | some (x, y) => .tuple [.int x, .int y]
    | none => .tuple []
  refine ⟨fun σ H' => ∃ v2, σ = [some v, some (.ref b), some v2, none] ∧ Same H H' ∧ Dp K H' v2 dd, ?_, ?_⟩
  · refine ⟨_, rfl, by show 2 ≤ sizeLine; decide, fun t ht => ?_⟩
    have s1 : Same H (upd H0 t (.tup [.ty "tuple", .ty "list"])) := same_new s0 ht _
    have e1 := dp_keep (same_new (Same.refl H0) ht (.tup [.ty "tuple", .ty "list"])) e0
    refine ⟨_, t, _, _, _, _, rfl, upd_same, .cons (.ty _) (.cons (.ty _) .nil), ty_keep s1 (Da.of hd).ty, kit_tl d, _, rfl, ?_⟩
    generalize upd H0 t (.tup [.ty "tuple", .ty "list"]) = H1 at s1 e1
    have none_ : ∀ H', Same H1 H' → spotD d ns = none → (∃ v2, [some v, some (.ref b), some (.ref p0), none] = [some v, some (.ref b), some v2, (none : Option V)] ∧ Same H H' ∧ Dp K H' v2 dd) := fun H' g e => ⟨_, rfl, s1.trans g, by
      show Dp K H' _ (match spotD d ns with
        | some (x, y) => .tuple [.int x, .int y]
        | none => .tuple [])
      rw [e]
      exact dp_keep g e1⟩
    cases el : isL d with
    | false =>
      refine iteF (none_ _ (Same.refl _) ?_)
      unfold spotD
      rw [seq_no el]
    | true =>
      obtain ⟨a, xs, ds, rfl, es, sq0, all0⟩ := seq_of el (Da.of hd)
      have sq := sqA_keep s1 sq0
      have all := DpAll.keep (Keeps.of s1) ds xs all0
      have ln := DpAll.len all
      refine iteT ⟨_, rfl, a, xs, rfl, sq, rfl, _, rfl, ?_⟩
      by_cases two : xs.length = 2
      · obtain ⟨x, y, dx, dy, rfl, rfl, hx, hy⟩ := two_all all two
        have e3 : decide (V.int (([x, y] : List V).length : Int) = V.int 2) = true := rfl
        rw [e3]
        have ed : spotD d ns = if (belowD dx ns.length && belowD dy (ns.getD (intOf dx).toNat 0)) = true then some (intOf dx, intOf dy) else none := by
          unfold spotD
          rw [es]
        have nx : belowD dx ns.length = false → spotD d ns = none := fun e => by
          rw [ed, e]
          rfl
        refine iteT ⟨_, rfl, ix_of sq (atI_nat (j := 0) rfl) ⟨x, dx, rfl, hx, fun H2 s2 => ⟨_, rfl, ?_⟩⟩⟩
        cases ei : isI dx with
        | false =>
          refine iteF (none_ _ s2 (nx ?_))
          cases dx <;> first | rfl | cases ei
        | true =>
          cases hx with
          | int k =>
            refine iteT ⟨_, rfl, ix_of (sqA_keep s2 sq) (atI_nat (j := 0) rfl) ⟨_, _, rfl, rfl, _, rfl, ?_⟩⟩
            cases e1k : decide ((0 : Int) ≤ k) with
            | false =>
              refine iteF ⟨_, rfl, none_ _ s2 (nx ?_)⟩
              show (decide (0 ≤ k) && _) = false
              rw [e1k]
              rfl
            | true =>
              refine iteT ⟨_, rfl, b, _, rfl, sqA_keep (s1.trans s2) sb, _, _, rfl, rfl, _, rfl, ?_⟩
              rw [List.length_map]
              cases e2k : decide (k < (ns.length : Int)) with
              | false =>
                refine iteF (none_ _ s2 (nx ?_))
                show (decide (0 ≤ k) && decide (k < (ns.length : Int))) = false
                rw [e1k, e2k]
                rfl
              | true =>
                have k0 := of_decide_eq_true e1k
                have km := of_decide_eq_true e2k
                obtain ⟨nk, hnk⟩ : ∃ nk, ns[k.toNat]? = some nk := ⟨_, List.getElem?_eq_getElem (by omega)⟩
                have at1 : atI (ns.map V.int) k = some (V.int nk) := at_of (j := k.toNat) (by omega) (by rw [List.getElem?_map, hnk]; rfl)
                have gd : ns.getD (intOf (.int k)).toNat 0 = nk := by
                  show ns.getD k.toNat 0 = nk
                  rw [List.getD_eq_getElem?_getD, hnk]
                  rfl
                have eb : belowD (.int k) ns.length = true := by
                  show (decide (0 ≤ k) && decide (k < (ns.length : Int))) = true
                  rw [e1k, e2k]
                  rfl
                rw [gd, eb] at ed
                have ny : belowD dy nk = false → spotD d ns = none := fun e => by
                  rw [ed, e]
                  rfl
                refine iteT ⟨_, rfl, ix_of (sqA_keep s2 sq) (atI_nat (j := 1) rfl) ⟨y, dy, rfl, dp_keep s2 hy, fun H3 s3 => ⟨_, rfl, ?_⟩⟩⟩
                have s23 := s2.trans s3
                cases ej : isI dy with
                | false =>
                  refine iteF (none_ _ s23 (ny ?_))
                  cases dy <;> first | rfl | cases ej
                | true =>
                  cases hy with
                  | int l =>
                    refine iteT ⟨_, rfl, ix_of (sqA_keep s23 sq) (atI_nat (j := 1) rfl) ⟨_, _, rfl, rfl, _, rfl, ?_⟩⟩
                    cases e1l : decide ((0 : Int) ≤ l) with
                    | false =>
                      refine iteF ⟨_, rfl, none_ _ s23 (ny ?_)⟩
                      show (decide (0 ≤ l) && _) = false
                      rw [e1l]
                      rfl
                    | true =>
                      refine iteT ⟨_, rfl, _, rfl, ix_of (sqA_keep s23 sq) (atI_nat (j := 0) rfl) (ix_of (sqA_keep (s1.trans s23) sb) at1 ⟨_, _, rfl, rfl, _, rfl, ?_⟩)⟩
                      cases e2l : decide (l < nk) with
                      | false =>
                        refine iteF (none_ _ s23 (ny ?_))
                        show (decide (0 ≤ l) && decide (l < nk)) = false
                        rw [e1l, e2l]
                        rfl
                      | true =>
                        refine iteT ⟨_, rfl, ix_of (sqA_keep s23 sq) (atI_nat (j := 0) rfl) ⟨_, rfl, ix_of (sqA_keep s23 sq) (atI_nat (j := 1) rfl) ⟨by show 2 ≤ sizeLine; decide, fun p hp => ⟨_, rfl, (s1.trans s23).trans (same_new (Same.refl H3) hp _), ?_⟩⟩⟩⟩
                        have el2 : belowD (.int l) nk = true := by
                          show (decide (0 ≤ l) && decide (l < nk)) = true
                          rw [e1l, e2l]
                          rfl
                        rw [el2] at ed
                        have ed2 : spotD d ns = some (k, l) := ed
                        show Dp K _ _ (match spotD d ns with
                          | some (x, y) => .tuple [.int x, .int y]
                          | none => .tuple [])
                        rw [ed2]
                        exact .tup (SqT.of upd_same) (.cons (.int _) (.cons (.int _) .nil))
                  | _ => cases ej
          | _ => cases ei
      · have e3 : decide (V.int (xs.length : Int) = V.int 2) = false := decide_eq_false fun h => two (by have := V.int.inj h; omega)
        rw [e3]
        refine iteF (none_ _ (Same.refl _) ?_)
        unfold spotD
        rw [es]
        match ds, ln with
        | [], _ => rfl
        | [_], _ => rfl
        | [_, _], l => exact absurd l two
        | _ :: _ :: _ :: _, _ => rfl
  · rintro σ H1 ⟨v2, rfl, s1, h2⟩
    refine ⟨by show 0 ≤ sizeLine; decide, fun p3 h3 => ?_⟩
    have t3 : Same H1 (upd H1 p3 (.tup [])) := same_new (Same.refl _) h3 _
    have s3 := s1.trans t3
    have h23 := dp_keep t3 h2
    generalize upd H1 p3 (.tup []) = H3 at s3 h23
    refine ⟨_, rfl, _, rfl, v, d, b, ns, rfl, (Da.of hd).keep s3, sqA_keep s3 sb, fun e H' g => ?_, fun x y e p H' g hp => ?_⟩
    · refine ⟨true, T.xmBadSpot, fun _ a ha => ?_, fun z => nomatch z⟩
      have h24 := dp_keep g h23
      have ed : dd = .tuple [] := by
        show (match spotD d ns with
          | some (x, y) => PyData.tuple [.int x, .int y]
          | none => .tuple []) = _
        rw [e]
      rw [ed] at h24
      refine ⟨_, rfl, by show 0 ≤ sizeLine; decide, fun p5 h5 => ?_⟩
      have t5 := same_new (Same.refl H') h5 (.tup [])
      refine ⟨_, _, dp_keep t5 h24, .tup (SqT.of upd_same) .nil, by decide, by decide, _, rfl, ?_⟩
      refine iteT (show _ from ?_) |> cast (by rfl)
      exact ⟨_, rfl, _, _, .str _, .str _, by decide +kernel, by decide +kernel, q _ ((s3.trans g).trans t5)⟩
    · have h24 := dp_keep g h23
      have ed : dd = .tuple [.int x, .int y] := by
        show (match spotD d ns with
          | some (x, y) => PyData.tuple [.int x, .int y]
          | none => .tuple []) = _
        rw [e]
      rw [ed] at h24
      have sh : Shp 5 (.tuple [.int x, .int y]) := shp_two (n := 4) (.int x) (.int y)
      refine ⟨_, rfl, by show 0 ≤ sizeLine; decide, fun p5 h5 => ?_⟩
      have t5 := same_new (Same.refl H') h5 (.tup [])
      refine ⟨_, _, dp_keep t5 h24, .tup (SqT.of upd_same) .nil, sh.ok, by decide, _, rfl, ?_⟩
      refine iteF (show _ from ?_) |> cast (by rfl)
      have hp5 := t5 _ _ hp
      refine ⟨_, rfl, _, _, _, _, _, rfl, .ty _, tyT (SqT.of hp5), kit_ty (by decide +kernel), _, rfl, iteT ?_⟩
      refine ⟨_, rfl, _, rfl, _, _, .tup (SqT.of hp5) (.cons (.int _) (.cons (.int _) .nil)), dp_keep t5 h24, sh.ok, sh.ok, ?_⟩
      rw [sh.refl]
      exact q _ ((s3.trans g).trans t5)

theorem sc__law_sizes_right : FnScope ["_law_value", "_law_due_here", "_law_good", "_law_told", "_law_one"] ["_law_value"] (defScope (topH 48)) := ⟨rfl, rfl, rfl, by decide +kernel, rfl, by decide +kernel, by decide +kernel⟩
theorem ok__law_sizes_right {f : Addr} {fd : FuncData} (F : Fun K "_law_sizes_right" "_law_sizes_right" (topH 48) f fd) (T : Tx K mg tk) {fLwhole : Addr} {fdLwhole : FuncData} (GLwhole : FnOk P w K mg base CX0 1 fLwhole fdLwhole ["_law_value"] (fun vs H Q _ => ∃ v d, vs = [v] ∧ Dp K H v d ∧ ∀ H', Same H H' → Q (.bl (isI d)) H')) (KLwhole : PySem.W.keepIn K (.ref fLwhole) = true) (BLwhole : Binds K fdLwhole ["_law_value"] []) (MLwhole : mg "_law_whole" = some (.ref fLwhole)) {fsizes_of : Addr} {fdsizes_of : FuncData} (Gsizes_of : FnOk P w K mg base (L2.CX P w) 2 fsizes_of fdsizes_of ["value"] (fun vs H Q E => ∃ v d, vs = [v] ∧ Da K H v d ∧ (szD d = false → Er0 K "BadSize" H E) ∧ ∀ ds, seqD d = some ds → szOk ds = true → Dat K Q H (.tuple ds))) (Ksizes_of : PySem.W.keepIn K (.ref fsizes_of) = true) (Bsizes_of : Binds K fdsizes_of ["value"] []) (Msizes_of : mg "sizes_of" = some (.ref fsizes_of)) :
    FnOk P w K mg base CX0 3 f fd ["_law_value"] (fun vs H Q _ => ∃ v d, vs = [v] ∧ Dp K H v d ∧ Sml8 d ∧ ∀ H', Same H H' → Q (.bl true) H') := by
  refine F.ok sc__law_sizes_right (fun vs H Q E h => ?_) (fun cdv A outer s H vs Q E hr h => ?_)
  · obtain ⟨v, d, rfl, _⟩ := h
    rfl
  obtain ⟨v, d, rfl, hd, sm, q⟩ := h
  refine ⟨_, (pss_cons (ps_set (i := 1) sc__law_sizes_right.nd rfl (Or.inl rfl) pe_str)
 (pss_cut (ps_if (PW.pt (pw_and (pt_val (pe_callB call_isiT (by rfl) T.isi isi_b (pa_cons (pv 0) (pa_cons (pe_tup (pa_cons (pe_bltn (v := .ty "tuple") (by rfl) T.tuple tuple_b rfl) (pa_cons (pe_bltn (v := .ty "list") (by rfl) T.list list_b rfl) pa_nil))) pa_nil)))) (pw_and1 (pt_chain op_le op_le pe_int (pe_callB call_len_seq (by rfl) T.len PySem.boot_len (pa_cons (pv 0) pa_nil)) pe_int)))) (pss_cons (ps_setLc (i := 2) (own := [("_law_one", 4)]) (g := gName 4)  (by rfl) sc__law_sizes_right.nd rfl rfl (sw_true rfl rfl rfl (by decide +kernel)) (pi_or (pi_list (pv 0)) (pi_tup (pv 0))) (blkOk_by (own := [("_law_one", 4)]) (N := ["_law_value", "_law_due_here", "_law_good", "_law_told", "_law_one"]) (sc := defScope (topH 48)) (by decide +kernel)) (fun _ _ _ _ _ => pg_name (i := 4) sc__law_sizes_right.nd rfl (Or.inl rfl)) (fun _ _ _ _ _ => (pts_one (PW.pt (pw_and (pt_val (pe_call GLwhole (hr.mono (by decide)) (by rfl) MLwhole KLwhole BLwhole .nil pass0 (pa_cons (pv 4) pa_nil))) (pw_and1 (pt_chain op_le op_le pe_int (pv 4) pe_int)))))) (fun _ _ _ _ _ => (pv 4)))
 (pss_one (ps_if (pt_cmpR op_eq (pe_callB call_len_seq (by rfl) T.len PySem.boot_len (pa_cons (pv 2) pa_nil)) (pe_callB call_len_seq (by rfl) T.len PySem.boot_len (pa_cons (pv 0) pa_nil)) (nomark _)) (pss_one (ps_set (i := 1) sc__law_sizes_right.nd rfl (Or.inl rfl) (pe_callTy call_tuple_of (by rfl) T.tuple tuple_b (pa_cons (pv 0) pa_nil)))) pss_nil))) pss_nil)
 (pss_cons (ps_set (i := 3) sc__law_sizes_right.nd rfl (Or.inl rfl) (pe_tup pa_nil))
 (pss_cons (ps_try_only rfl rfl ⟨rfl, by decide, .inl T.glBadSize⟩ takes0 (fun W pn xe tkk _ => (pss_one (ps_set (i := 3) sc__law_sizes_right.nd rfl (Or.inl rfl) (pe_callS Gsizes_of (hr.mono (by decide)) (by rfl) Msizes_of Ksizes_of Bsizes_of (fun σ => passAt tkk σ) (pa_cons (pv 0) pa_nil)))))
 (fun a oe cls d pn _ _ => (pss_one (ps_set (i := 3) sc__law_sizes_right.nd rfl (Or.inl rfl) pe_str))))
 (pss_one (ps_ret (pe_cmpR (op_eqD hr.units) (pv 3) (pv 1) (nomark _)))))))), ?_⟩
  let dd : PyData := if szD d = true then .tuple ((seqD d).getD []) else .str "bad"
  have dd_no : szD d = false → dd = .str "bad" := fun e => by
    show (if szD d = true then PyData.tuple ((seqD d).getD []) else .str "bad") = _
    rw [e]
    rfl
  refine ⟨fun σ H' => ∃ v1 x2 x4, σ = [some v, some v1, x2, none, x4] ∧ Same H H' ∧ Dp K H' v1 dd, ?_, ?_⟩
  · refine ⟨_, rfl, by show 2 ≤ sizeLine; decide, fun t ht => ?_⟩
    have s1 : Same H (upd H t (.tup [.ty "tuple", .ty "list"])) := same_new (Same.refl H) ht _
    refine ⟨_, t, _, _, _, _, rfl, upd_same, .cons (.ty _) (.cons (.ty _) .nil), ty_keep s1 (Da.of hd).ty, kit_tl d, _, rfl, ?_⟩
    generalize upd H t (.tup [.ty "tuple", .ty "list"]) = H1 at s1
    have none_ : ∀ H' (x2 x4 : Option V), Same H1 H' → szD d = false → (∃ v1 y2 y4, [some v, some (V.str "bad"), x2, none, x4] = [some v, some v1, y2, (none : Option V), y4] ∧ Same H H' ∧ Dp K H' v1 dd) := fun H' x2 x4 g e => ⟨_, _, _, rfl, s1.trans g, by
      rw [dd_no e]
      exact .str _⟩
    cases el : isL d with
    | false =>
      refine iteF (none_ _ _ _ (Same.refl _) ?_)
      unfold szD
      rw [seq_no el]
    | true =>
      obtain ⟨a, xs, ds, rfl, es, sq0, all0⟩ := seq_of el (Da.of hd)
      have sq := sqA_keep s1 sq0
      have all := DpAll.keep (Keeps.of s1) ds xs all0
      have ln := DpAll.len all
      have es2 : szD d = szOk ds := by
        unfold szD
        rw [es]
      have lens : (decide (1 ≤ xs.length) && decide (xs.length ≤ 8)) = false → szD d = false := fun e => by
        rw [es2]
        unfold szOk
        rw [← ln, e]
        rfl
      have i1 : decide ((1 : Int) ≤ (xs.length : Int)) = decide (1 ≤ xs.length) := decide_eq_decide.mpr (by omega)
      have i2 : decide ((xs.length : Int) ≤ 8) = decide (xs.length ≤ 8) := decide_eq_decide.mpr (by omega)
      refine iteT ⟨_, rfl, a, xs, rfl, sq, _, _, rfl, rfl, _, rfl, ?_⟩
      rw [i1]
      cases l1 : decide (1 ≤ xs.length) with
      | false => exact iteF ⟨_, rfl, iteF (none_ _ _ _ (Same.refl _) (lens (by rw [l1]; rfl)))⟩
      | true =>
      refine iteT ⟨_, _, rfl, rfl, _, rfl, ?_⟩
      rw [i2]
      cases l2 : decide (xs.length ≤ 8) with
      | false => exact iteF (none_ _ _ _ (Same.refl _) (lens (by rw [l1, l2]; rfl)))
      | true =>
      have l8 := of_decide_eq_true l2
      refine iteT ?_
      rcases sq with sqX | sqX
      · have sq : SqA K H1 a xs := .inl sqX
        refine .inl ⟨_, rfl, a, rfl, ⟨_, sqX⟩, fun D hD => lc_list (K := K) (a := a) (xs := xs) (fun i H2 => Same H1 H2 ∧ ∃ acc, H2 D = some (.lst acc) ∧ acc.length = ((ds.take i).filter szI).length) ⟨same_new (Same.refl _) hD _, [], upd_same, rfl⟩ (fun i H2 _ z => (Keeps.of z.1).sqL sqX) ?_ ?_⟩
        · rintro i x H2 hi ⟨g2, acc, hacc, hl⟩
          obtain ⟨dx, edx, hdx⟩ := DpAll.at (DpAll.keep (Keeps.of g2) ds xs all) hi
          have il : i < xs.length := (List.getElem?_eq_some_iff.mp hi).1
          have et : ds.take (i + 1) = ds.take i ++ [dx] := by
            rw [List.take_add_one, edx]
            rfl
          have small : acc.length < sizeLine := by
            have z := List.length_filter_le szI (ds.take i)
            rw [List.length_take] at z
            exact Nat.lt_of_le_of_lt (show acc.length ≤ 8 by omega) (by decide)
          have no : ∀ H3, Same H2 H3 → szI dx = false → (Same H1 H3 ∧ ∃ acc, H3 D = some (.lst acc) ∧ acc.length = ((ds.take (i + 1)).filter szI).length) := fun H3 g e => ⟨g2.trans g, acc, g _ _ hacc, by rw [et, List.filter_append, List.length_append, hl]; simp [e]⟩
          refine ⟨rfl, _, rfl, x, dx, rfl, hdx, fun H3 g3 => ⟨_, rfl, ?_⟩⟩
          cases ei : isI dx with
          | false =>
            refine iteF ?_
            refine iteF (no _ g3 ?_)
            cases dx <;> first | rfl | cases ei
          | true =>
            cases hdx with
            | int k =>
              refine iteT ⟨_, rfl, _, _, rfl, rfl, _, rfl, ?_⟩
              cases e1 : decide ((2 : Int) ≤ k) with
              | false =>
                refine iteF ⟨_, rfl, ?_⟩
                refine iteF (no _ g3 ?_)
                show (decide (2 ≤ k) && decide (k ≤ 6)) = false
                rw [e1]
                rfl
              | true =>
                refine iteT ⟨_, _, rfl, rfl, _, rfl, ?_⟩
                cases e2 : decide (k ≤ (6 : Int)) with
                | false =>
                  refine iteF (no _ g3 ?_)
                  show (decide (2 ≤ k) && decide (k ≤ 6)) = false
                  rw [e1, e2]
                  rfl
                | true =>
                  refine iteT ⟨_, rfl, acc, g3 _ _ hacc, small, same_lst g2 hD g3 _, _, upd_same, ?_⟩
                  have yes : szI (.int k) = true := by
                    show (decide (2 ≤ k) && decide (k ≤ 6)) = true
                    rw [e1, e2]
                    rfl
                  rw [et, List.filter_append, List.length_append, List.length_append, hl]
                  simp [yes]
            | _ => cases ei
        · rintro H2 ⟨g2, acc, hacc, hl⟩
          refine ⟨_, rfl, D, acc, rfl, .inl (SqL.of hacc), _, rfl, a, xs, rfl, sqA_keep g2 sq, rfl, _, rfl, ?_⟩
          rw [ln, List.take_length] at hl
          cases ea : ds.all szI with
          | true =>
            have ef : ds.filter szI = ds := List.filter_eq_self.mpr (List.all_eq_true.mp ea)
            rw [ef] at hl
            rw [decide_eq_true (show V.int (acc.length : Int) = V.int (xs.length : Int) by rw [hl, ln])]
            have okd : szD d = true := by
              rw [es2]
              unfold szOk
              rw [← ln, l1, l2, ea]
              rfl
            refine iteT ⟨_, rfl, tup_of (Q := fun v2 H3 => ∃ v1 y2 y4, [some (V.ref a), some v2, some (V.ref D), none, none] = [some (V.ref a), some v1, y2, (none : Option V), y4] ∧ Same H H3 ∧ Dp K H3 v1 dd) (sqA_keep g2 sq) (DpAll.keep (Keeps.of g2) ds xs all) fun v2 H3 g3 hv2 => ⟨_, _, _, rfl, (s1.trans g2).trans g3, ?_⟩⟩
            show Dp K H3 v2 (if szD d = true then PyData.tuple ((seqD d).getD []) else .str "bad")
            rw [okd, es]
            exact hv2
          | false =>
            have ne : acc.length ≠ xs.length := fun z => by
              rw [hl, ln] at z
              have k := List.length_filter_eq_length_iff.mp z
              rw [List.all_eq_true.mpr k] at ea
              cases ea
            rw [decide_eq_false (fun h => ne (by have := V.int.inj h; omega))]
            refine iteF (none_ _ _ _ g2 ?_)
            rw [es2]
            unfold szOk
            rw [ea, Bool.and_false]
      · have sq : SqA K H1 a xs := .inr sqX
        refine .inr ⟨_, rfl, a, rfl, ⟨_, sqX⟩, fun D hD => lc_tup (K := K) (a := a) (xs := xs) (fun i H2 => Same H1 H2 ∧ ∃ acc, H2 D = some (.lst acc) ∧ acc.length = ((ds.take i).filter szI).length) ⟨same_new (Same.refl _) hD _, [], upd_same, rfl⟩ (fun i H2 _ z => (Keeps.of z.1).sqT sqX) ?_ ?_⟩
        · rintro i x H2 hi ⟨g2, acc, hacc, hl⟩
          obtain ⟨dx, edx, hdx⟩ := DpAll.at (DpAll.keep (Keeps.of g2) ds xs all) hi
          have il : i < xs.length := (List.getElem?_eq_some_iff.mp hi).1
          have et : ds.take (i + 1) = ds.take i ++ [dx] := by
            rw [List.take_add_one, edx]
            rfl
          have small : acc.length < sizeLine := by
            have z := List.length_filter_le szI (ds.take i)
            rw [List.length_take] at z
            exact Nat.lt_of_le_of_lt (show acc.length ≤ 8 by omega) (by decide)
          have no : ∀ H3, Same H2 H3 → szI dx = false → (Same H1 H3 ∧ ∃ acc, H3 D = some (.lst acc) ∧ acc.length = ((ds.take (i + 1)).filter szI).length) := fun H3 g e => ⟨g2.trans g, acc, g _ _ hacc, by rw [et, List.filter_append, List.length_append, hl]; simp [e]⟩
          refine ⟨rfl, _, rfl, x, dx, rfl, hdx, fun H3 g3 => ⟨_, rfl, ?_⟩⟩
          cases ei : isI dx with
          | false =>
            refine iteF ?_
            refine iteF (no _ g3 ?_)
            cases dx <;> first | rfl | cases ei
          | true =>
            cases hdx with
            | int k =>
              refine iteT ⟨_, rfl, _, _, rfl, rfl, _, rfl, ?_⟩
              cases e1 : decide ((2 : Int) ≤ k) with
              | false =>
                refine iteF ⟨_, rfl, ?_⟩
                refine iteF (no _ g3 ?_)
                show (decide (2 ≤ k) && decide (k ≤ 6)) = false
                rw [e1]
                rfl
              | true =>
                refine iteT ⟨_, _, rfl, rfl, _, rfl, ?_⟩
                cases e2 : decide (k ≤ (6 : Int)) with
                | false =>
                  refine iteF (no _ g3 ?_)
                  show (decide (2 ≤ k) && decide (k ≤ 6)) = false
                  rw [e1, e2]
                  rfl
                | true =>
                  refine iteT ⟨_, rfl, acc, g3 _ _ hacc, small, same_lst g2 hD g3 _, _, upd_same, ?_⟩
                  have yes : szI (.int k) = true := by
                    show (decide (2 ≤ k) && decide (k ≤ 6)) = true
                    rw [e1, e2]
                    rfl
                  rw [et, List.filter_append, List.length_append, List.length_append, hl]
                  simp [yes]
            | _ => cases ei
        · rintro H2 ⟨g2, acc, hacc, hl⟩
          refine ⟨_, rfl, D, acc, rfl, .inl (SqL.of hacc), _, rfl, a, xs, rfl, sqA_keep g2 sq, rfl, _, rfl, ?_⟩
          rw [ln, List.take_length] at hl
          cases ea : ds.all szI with
          | true =>
            have ef : ds.filter szI = ds := List.filter_eq_self.mpr (List.all_eq_true.mp ea)
            rw [ef] at hl
            rw [decide_eq_true (show V.int (acc.length : Int) = V.int (xs.length : Int) by rw [hl, ln])]
            have okd : szD d = true := by
              rw [es2]
              unfold szOk
              rw [← ln, l1, l2, ea]
              rfl
            refine iteT ⟨_, rfl, tup_of (Q := fun v2 H3 => ∃ v1 y2 y4, [some (V.ref a), some v2, some (V.ref D), none, none] = [some (V.ref a), some v1, y2, (none : Option V), y4] ∧ Same H H3 ∧ Dp K H3 v1 dd) (sqA_keep g2 sq) (DpAll.keep (Keeps.of g2) ds xs all) fun v2 H3 g3 hv2 => ⟨_, _, _, rfl, (s1.trans g2).trans g3, ?_⟩⟩
            show Dp K H3 v2 (if szD d = true then PyData.tuple ((seqD d).getD []) else .str "bad")
            rw [okd, es]
            exact hv2
          | false =>
            have ne : acc.length ≠ xs.length := fun z => by
              rw [hl, ln] at z
              have k := List.length_filter_eq_length_iff.mp z
              rw [List.all_eq_true.mpr k] at ea
              cases ea
            rw [decide_eq_false (fun h => ne (by have := V.int.inj h; omega))]
            refine iteF (none_ _ _ _ g2 ?_)
            rw [es2]
            unfold szOk
            rw [ea, Bool.and_false]

  · rintro σ H1 ⟨v1, x2, x4, rfl, s1, h1⟩
    refine ⟨by show 0 ≤ sizeLine; decide, fun p3 h3 => ?_⟩
    have t3 : Same H1 (upd H1 p3 (.tup [])) := same_new (Same.refl _) h3 _
    have s3 := s1.trans t3
    have h13 := dp_keep t3 h1
    generalize upd H1 p3 (.tup []) = H3 at s3 h13
    refine ⟨_, rfl, v, d, rfl, (Da.of hd).keep s3, fun e H' g => ?_, fun ds es ok v2 H' g h2 => ?_⟩
    · refine ⟨true, T.xmBadSize, fun _ a ha => ?_, fun z => nomatch z⟩
      have h14 := dp_keep g h13
      rw [dd_no e] at h14
      exact ⟨_, rfl, _, rfl, _, _, .str _, h14, by decide +kernel, by decide +kernel, q _ (s3.trans g)⟩
    · have h14 := dp_keep g h13
      have ed : dd = .tuple ds := by
        show (if szD d = true then PyData.tuple ((seqD d).getD []) else .str "bad") = _
        have e : szD d = true := by
          unfold szD
          rw [es]
          exact ok
        rw [e, es]
        rfl
      rw [ed] at h14
      have sh : Shp 5 (.tuple ds) := Shp.tup (n := 4) fun e he => by
        unfold szOk at ok
        obtain ⟨_, k⟩ := two ok
        have k2 := List.all_eq_true.mp k e he
        cases e with
        | int i => exact .int i
        | _ => cases k2
      refine ⟨_, rfl, _, rfl, _, _, h2, h14, sh.ok, sh.ok, ?_⟩
      rw [sh.refl]
      exact q _ (s3.trans g)

end
end Hs
set_option maxHeartbeats 8000000
namespace Hs
open PySem L2
/-! ## the law: rows, doors -/
theorem pairs_dp {K : PySem.W.Frag} {H : Hp} {ts : List Addr} {as : List Int} {xs : List V} {ds : List PyData} (lt : ts.length = as.length) (ld : ds.length = as.length)
    (h : ∀ (k : Nat) (t : Addr), ts[k]? = some t → ∃ n x, as[k]? = some n ∧ xs[k]? = some x ∧ H t = some (.tup [.int n, x])) (all : DpAll K H xs ds) : DpAll K H (ts.map V.ref) (zipD as ds) := by
  refine dpAll_of ?_ fun k t z et ez => ?_
  · rw [List.length_map, lt]
    unfold zipD
    rw [List.length_zipWith, ld, Nat.min_self]
  · rw [List.getElem?_map] at et
    obtain ⟨q, eq, rfl⟩ := Option.map_eq_some_iff.mp et
    obtain ⟨n, x, en, ex, hq⟩ := h k q eq
    obtain ⟨dy, edy, hdy⟩ := DpAll.at all ex
    unfold zipD at ez
    rw [List.getElem?_zipWith, en, edy] at ez
    cases ez
    exact .tup (SqT.of hq) (.cons (.int n) (.cons hdy .nil))
def doorD (i : Nat) (g : Int) : PyData := match i with
  | 0 => .tuple [.int (g + 1), .int 1]
  | 1 => .tuple [.int (g - 1), .int 1]
  | 2 => .tuple [.int (1 - g), .int 1]
  | 3 => .tuple [.int (g * 1), .int 1]
  | 4 => .tuple [.int (1 * g), .int 1]
  | 5 => .tuple [.int 1, .int g]
  | 6 => .tuple [.int (-g), .int 1]
  | 7 => .int 1
  | 8 => .bool (decide (g < 2))
  | 9 => .bool (decide (2 < g))
  | _ => .tuple [.int (1 + g), .int 1]
def duesD (g : Int) : List PyData := [.tuple [.int (g + 1), .int 1], .tuple [.int (g - 1), .int 1], .tuple [.int (1 - g), .int 1], .tuple [.int g, .int 1], .tuple [.int g, .int 1], .tuple [.int 1, .int g], .tuple [.int (-g), .int 1], .int 1, .bool (decide (g < 2)), .bool (decide (2 < g)), .tuple [.int (g + 1), .int 1]]
theorem rat_dp {K : PySem.W.Frag} {H : Hp} {p : Addr} {x y : Int} (h : H p = some (.tup [.int x, .int y])) : Dp K H (.ref p) (.tuple [.int x, .int y]) := .tup (SqT.of h) (.cons (.int _) (.cons (.int _) .nil))
section
variable {P : Program} {w : World} {K : PySem.W.Frag} {mg : Str → Option Value} {base : Heap} {tk : Tok × Tok × Tok}
theorem sc__law_row_right : FnScope ["_law_asking", "_law_row", "_law_due_here", "_law_told", "_law_place"] ["_law_asking", "_law_row"] (defScope (topH 49)) := ⟨rfl, rfl, rfl, by decide +kernel, rfl, by decide +kernel, by decide +kernel⟩
theorem ok__law_row_right {f : Addr} {fd : FuncData} (F : Fun K "_law_row_right" "_law_row_right" (topH 49) f fd) (T : Tx K mg tk) {frow_spots : Addr} {fdrow_spots : FuncData} (Grow_spots : FnOk P w K mg base (L2.CX P w) 2 frow_spots fdrow_spots ["asking", "row"] (fun vs H Q E => ∃ v d b as, vs = [.ref b, v] ∧ Da K H v d ∧ SqA K H b ((as : List Int).map V.int) ∧ as.length ≤ 1000 ∧ (rowD d as.length = false → Er0 K "BadSpot" H E) ∧ ∀ ds, seqD d = some ds → ds.length = as.length → Dat K Q H (.tuple (zipD as ds)))) (Krow_spots : PySem.W.keepIn K (.ref frow_spots) = true) (Brow_spots : Binds K fdrow_spots ["asking", "row"] []) (Mrow_spots : mg "row_spots" = some (.ref frow_spots)) :
    FnOk P w K mg base CX0 3 f fd ["_law_asking", "_law_row"] (fun vs H Q _ => ∃ v d b as, vs = [.ref b, v] ∧ Dp K H v d ∧ SqA K H b ((as : List Int).map V.int) ∧ as.length ≤ 1000 ∧ (∀ ds, seqD d = some ds → ds.length = as.length → Shp 6 (.tuple (zipD as ds))) ∧ ∀ H', Same H H' → Q (.bl true) H') := by
  refine F.ok sc__law_row_right (fun vs H Q E h => ?_) (fun cdv A outer s H vs Q E hr h => ?_)
  · obtain ⟨v, d, b, as, rfl, _⟩ := h
    rfl
  obtain ⟨v, d, b, as, rfl, hd, sb, small, shp, q⟩ := h
  refine ⟨_, (pss_cons (ps_set (i := 2) sc__law_row_right.nd rfl (Or.inl rfl) pe_str)
 (pss_cut (ps_if (PW.pt (pw_and (pt_val (pe_callB call_isiT (by rfl) T.isi isi_b (pa_cons (pv 1) (pa_cons (pe_tup (pa_cons (pe_bltn (v := .ty "tuple") (by rfl) T.tuple tuple_b rfl) (pa_cons (pe_bltn (v := .ty "list") (by rfl) T.list list_b rfl) pa_nil))) pa_nil)))) (pw_and1 (pt_cmpR op_eq (pe_callB call_len_seq (by rfl) T.len PySem.boot_len (pa_cons (pv 1) pa_nil)) (pe_callB call_len_seq (by rfl) T.len PySem.boot_len (pa_cons (pv 0) pa_nil)) (nomark _))))) (pss_one (ps_set (i := 2) sc__law_row_right.nd rfl (Or.inl rfl) (pe_callTy call_tuple_of (by rfl) T.tuple tuple_b (pa_cons (pe_lc (own := [("_law_place", 4)]) (g := gName 4) (tt := tYes)  (by rfl) sc__law_row_right.nd (pi_range1 (by rfl) T.range (pa_cons (pe_callB call_len_seq (by rfl) T.len PySem.boot_len (pa_cons (pv 0) pa_nil)) pa_nil)) (blkOk_by (own := [("_law_place", 4)]) (N := ["_law_asking", "_law_row", "_law_due_here", "_law_told", "_law_place"]) (sc := defScope (topH 49)) (by decide +kernel)) (fun _ _ _ _ _ => pg_name (i := 4) sc__law_row_right.nd rfl (Or.inl rfl)) (fun _ _ _ _ _ => pts_nil) (fun _ _ _ _ _ => (pe_tup (pa_cons (pe_ix (r := rIx K) ix_seq (pv 0) (pv 4) (fun _ _ => rfl)) (pa_cons (pe_ix (r := rIx K) ix_seq (pv 1) (pv 4) (fun _ _ => rfl)) pa_nil))))) pa_nil)))) pss_nil)
 (pss_cons (ps_set (i := 3) sc__law_row_right.nd rfl (Or.inl rfl) (pe_tup pa_nil))
 (pss_cons (ps_try_only rfl rfl ⟨rfl, by decide, .inl T.glBadSpot⟩ takes0 (fun W pn xe tkk _ => (pss_one (ps_set (i := 3) sc__law_row_right.nd rfl (Or.inl rfl) (pe_callS Grow_spots (hr.mono (by decide)) (by rfl) Mrow_spots Krow_spots Brow_spots (fun σ => passAt tkk σ) (pa_cons (pv 0) (pa_cons (pv 1) pa_nil))))))
 (fun a oe cls d pn _ _ => (pss_one (ps_set (i := 3) sc__law_row_right.nd rfl (Or.inl rfl) pe_str))))
 (pss_one (ps_ret (pe_cmpR (op_eqD hr.units) (pv 3) (pv 2) (nomark _)))))))), ?_⟩
  let dd : PyData := if rowD d as.length = true then .tuple (zipD as ((seqD d).getD [])) else .str "bad"
  have dd_no : rowD d as.length = false → dd = .str "bad" := fun e => by
    show (if rowD d as.length = true then PyData.tuple (zipD as ((seqD d).getD [])) else .str "bad") = _
    rw [e]
    rfl
  have dd_yes : ∀ ds, seqD d = some ds → ds.length = as.length → dd = .tuple (zipD as ds) := fun ds es e => by
    show (if rowD d as.length = true then PyData.tuple (zipD as ((seqD d).getD [])) else .str "bad") = _
    have e2 : rowD d as.length = true := by
      unfold rowD
      rw [es]
      exact decide_eq_true e
    rw [e2, es]
    rfl
  refine ⟨fun σ H' => ∃ v1 x4, σ = [some (.ref b), some v, some v1, none, x4] ∧ Same H H' ∧ Dp K H' v1 dd, ?_, ?_⟩
  · refine ⟨_, rfl, by show 2 ≤ sizeLine; decide, fun t ht => ?_⟩
    have s1 : Same H (upd H t (.tup [.ty "tuple", .ty "list"])) := same_new (Same.refl H) ht _
    refine ⟨_, t, _, _, _, _, rfl, upd_same, .cons (.ty _) (.cons (.ty _) .nil), ty_keep s1 (Da.of hd).ty, kit_tl d, _, rfl, ?_⟩
    generalize upd H t (.tup [.ty "tuple", .ty "list"]) = H1 at s1
    have none_ : ∀ H', Same H1 H' → rowD d as.length = false → (∃ v1 x4, [some (.ref b), some v, some (V.str "bad"), none, none] = [some (.ref b), some v, some v1, (none : Option V), x4] ∧ Same H H' ∧ Dp K H' v1 dd) := fun H' g e => ⟨_, _, rfl, s1.trans g, by
      rw [dd_no e]
      exact .str _⟩
    cases el : isL d with
    | false =>
      refine iteF (none_ _ (Same.refl _) ?_)
      unfold rowD
      rw [seq_no el]
    | true =>
      obtain ⟨a, xs, ds, rfl, es, sq0, all0⟩ := seq_of el (Da.of hd)
      have sq := sqA_keep s1 sq0
      have all := DpAll.keep (Keeps.of s1) ds xs all0
      have ln := DpAll.len all
      refine iteT ⟨_, rfl, a, xs, rfl, sq, _, rfl, b, _, rfl, sqA_keep s1 sb, rfl, _, rfl, ?_⟩
      by_cases e : ds.length = as.length
      · rw [decide_eq_true (show V.int (xs.length : Int) = V.int ((as.map V.int).length : Int) by rw [List.length_map, ln, e])]
        refine iteT ⟨_, rfl, b, _, rfl, sqA_keep s1 sb, ((as.map V.int).length : Int), rfl, by omega, by rw [List.length_map]; omega, fun D hD => ?_⟩
        refine lc_range (n := (as.map V.int).length) (fun i H2 => Same H1 H2 ∧ ∃ ts : List Addr, H2 D = some (.lst (ts.map V.ref)) ∧ ts.length = i ∧ ∀ (k : Nat) (t : Addr), ts[k]? = some t → ∃ n x, as[k]? = some n ∧ xs[k]? = some x ∧ H2 t = some (.tup [.int n, x])) ⟨same_new (Same.refl _) hD _, [], upd_same, rfl, fun k t z => nomatch z⟩ ?_ ?_
        · rintro i H2 hi ⟨g2, ts, hacc, hl, prs⟩
          rw [List.length_map] at hi
          have hx : xs[i]? = some xs[i] := List.getElem?_eq_getElem (by omega)
          have ha : as[i]? = some as[i] := List.getElem?_eq_getElem hi
          generalize xs[i] = x at hx
          generalize as[i] = n at ha
          refine ⟨rfl, _, rfl, _, rfl, ix_of (sqA_keep (s1.trans g2) sb) (at_of (j := i) (by omega) (by rw [List.getElem?_map, ha]; rfl)) ⟨_, rfl, _, rfl, ix_of (sqA_keep g2 sq) (at_of (j := i) (by omega) hx) ⟨by show 2 ≤ sizeLine; decide, fun p hp => ?_⟩⟩⟩
          have g3 := same_new (Same.refl H2) hp (.tup [.int n, x])
          have np : p ≠ D := (ne_of_none hacc hp).symm
          refine ⟨ts.map V.ref, by rw [upd_ne np.symm]; exact hacc, by rw [List.length_map, hl]; exact Nat.lt_of_le_of_lt (show i ≤ 1000 by omega) (by decide), same_lst g2 hD g3 _, ts ++ [p], ?_, by rw [List.length_append, hl]; rfl, fun k t et => ?_⟩
          · rw [upd_same, List.map_append]
            rfl
          · by_cases hk : k < ts.length
            · rw [List.getElem?_append_left hk] at et
              obtain ⟨n2, x2, e1, e2, e3⟩ := prs k t et
              refine ⟨n2, x2, e1, e2, ?_⟩
              rw [upd_ne (ne_of e3 hacc (fun z => nomatch z))]
              exact g3 _ _ e3
            · rw [List.getElem?_append_right (by omega)] at et
              have k0 : k - ts.length = 0 := by
                have z := (List.getElem?_eq_some_iff.mp et).1
                simp at z
                omega
              rw [k0] at et
              obtain rfl : p = t := Option.some.inj et
              have ek : k = i := by omega
              subst ek
              refine ⟨n, x, ha, hx, ?_⟩
              rw [upd_ne np, upd_same]
        · rintro H2 ⟨g2, ts, hacc, hl, prs⟩
          rw [List.length_map] at hl
          refine ⟨D, _, rfl, .inl ⟨SqL.of hacc, fun l hl2 => ⟨_, _, rfl, (s1.trans g2).trans (same_new (Same.refl H2) hl2 _), ?_⟩⟩⟩
          rw [dd_yes ds es e]
          have g3 := same_new (Same.refl H2) hl2 (.tup (ts.map V.ref))
          exact .tup (SqT.of upd_same) (DpAll.keep (Keeps.of g3) _ _ (pairs_dp hl e prs (DpAll.keep (Keeps.of g2) ds xs all)))
      · rw [decide_eq_false (fun h => e (by have := V.int.inj h; rw [List.length_map] at this; omega))]
        refine iteF (none_ _ (Same.refl _) ?_)
        unfold rowD
        rw [es]
        exact decide_eq_false e
  · rintro σ H1 ⟨v1, x4, rfl, s1, h1⟩
    refine ⟨by show 0 ≤ sizeLine; decide, fun p3 h3 => ?_⟩
    have t3 : Same H1 (upd H1 p3 (.tup [])) := same_new (Same.refl _) h3 _
    have s3 := s1.trans t3
    have h13 := dp_keep t3 h1
    generalize upd H1 p3 (.tup []) = H3 at s3 h13
    refine ⟨_, rfl, _, rfl, v, d, b, as, rfl, (Da.of hd).keep s3, sqA_keep s3 sb, small, fun e H' g => ?_, fun ds es e v2 H' g h2 => ?_⟩
    · refine ⟨true, T.xmBadSpot, fun _ a ha => ?_, fun z => nomatch z⟩
      have h14 := dp_keep g h13
      rw [dd_no e] at h14
      exact ⟨_, rfl, _, rfl, _, _, .str _, h14, by decide +kernel, by decide +kernel, q _ (s3.trans g)⟩
    · have h14 := dp_keep g h13
      rw [dd_yes ds es e] at h14
      have sh := shp ds es e
      refine ⟨_, rfl, _, rfl, _, _, h2, h14, sh.ok, sh.ok, ?_⟩
      rw [sh.refl]
      exact q _ (s3.trans g)

theorem sc__law_door : FnScope ["_law_door_here", "_law_value"] ["_law_door_here", "_law_value"] (defScope (topH 50)) := ⟨rfl, rfl, rfl, by decide +kernel, rfl, by decide +kernel, by decide +kernel⟩
theorem ok__law_door {f : Addr} {fd : FuncData} (F : Fun K "_law_door" "_law_door" (topH 50) f fd) (T : Tx K mg tk) {fplus : Addr} {fdplus : FuncData} (Gplus : FnOk P w K mg base (L2.CX P w) 4 fplus fdplus ["a", "b"] (spBin K (fun _ _ => True) fun i j => (i + j, 1))) (Kplus : PySem.W.keepIn K (.ref fplus) = true) (Bplus : Binds K fdplus ["a", "b"] []) (Mplus : mg "plus" = some (.ref fplus)) {fminus : Addr} {fdminus : FuncData} (Gminus : FnOk P w K mg base (L2.CX P w) 4 fminus fdminus ["a", "b"] (spBin K (fun _ _ => True) fun i j => (i - j, 1))) (Kminus : PySem.W.keepIn K (.ref fminus) = true) (Bminus : Binds K fdminus ["a", "b"] []) (Mminus : mg "minus" = some (.ref fminus)) {ftimes : Addr} {fdtimes : FuncData} (Gtimes : FnOk P w K mg base (L2.CX P w) 4 ftimes fdtimes ["a", "b"] (spBin K (fun _ _ => True) fun i j => (i * j, 1))) (Ktimes : PySem.W.keepIn K (.ref ftimes) = true) (Btimes : Binds K fdtimes ["a", "b"] []) (Mtimes : mg "times" = some (.ref ftimes)) {fover : Addr} {fdover : FuncData} (Gover : FnOk P w K mg base (L2.CX P w) 4 fover fdover ["a", "b"] (spBin K (fun i j => i = 1 ∧ 1 ≤ j) fun i j => (1, j))) (Kover : PySem.W.keepIn K (.ref fover) = true) (Bover : Binds K fdover ["a", "b"] []) (Mover : mg "over" = some (.ref fover)) {fnegative : Addr} {fdnegative : FuncData} (Gnegative : FnOk P w K mg base (L2.CX P w) 4 fnegative fdnegative ["a"] (fun vs H Q E => ∃ v d, vs = [v] ∧ Da K H v d ∧ Arg1 K d H E fun i => Rat Q H (-i) 1)) (Knegative : PySem.W.keepIn K (.ref fnegative) = true) (Bnegative : Binds K fdnegative ["a"] []) (Mnegative : mg "negative" = some (.ref fnegative)) {fsign_of : Addr} {fdsign_of : FuncData} (Gsign_of : FnOk P w K mg base (L2.CX P w) 4 fsign_of fdsign_of ["a"] (fun vs H Q E => ∃ v d, vs = [v] ∧ Da K H v d ∧ Arg1 K d H E fun i => 1 ≤ i ∧ ∀ H', Same H H' → Q (.int 1) H')) (Ksign_of : PySem.W.keepIn K (.ref fsign_of) = true) (Bsign_of : Binds K fdsign_of ["a"] []) (Msign_of : mg "sign_of" = some (.ref fsign_of)) {fbelow : Addr} {fdbelow : FuncData} (Gbelow : FnOk P w K mg base (L2.CX P w) 4 fbelow fdbelow ["a", "b"] (fun vs H Q E => ∃ v1 d1 v2 d2, vs = [v1, v2] ∧ Da K H v1 d1 ∧ Da K H v2 d2 ∧ Arg1 K d1 H E fun i => Arg1 K d2 H E fun j => True ∧ ∀ H', Same H H' → Q (.bl (decide (i < j))) H')) (Kbelow : PySem.W.keepIn K (.ref fbelow) = true) (Bbelow : Binds K fdbelow ["a", "b"] []) (Mbelow : mg "below" = some (.ref fbelow)) {ftotal : Addr} {fdtotal : FuncData} (Gtotal : FnOk P w K mg base (L2.CX P w) 5 ftotal fdtotal ["numbers"] (fun vs H Q E => ∃ (a : Addr) (v2 : V) (d2 : PyData), Ls2 K vs H a v2 d2 ∧ Arg1 K d2 H E fun j => Rat Q H (1 + j) 1)) (Ktotal : PySem.W.keepIn K (.ref ftotal) = true) (Btotal : Binds K fdtotal ["numbers"] []) (Mtotal : mg "total" = some (.ref ftotal)) {fleast : Addr} {fdleast : FuncData} (Gleast : FnOk P w K mg base (L2.CX P w) 5 fleast fdleast ["numbers"] (fun vs H Q E => ∃ (a : Addr) (v2 : V) (d2 : PyData), Ls2 K vs H a v2 d2 ∧ numD d2 = false ∧ ∀ H', Same H H' → E (CN K) none H')) (Kleast : PySem.W.keepIn K (.ref fleast) = true) (Bleast : Binds K fdleast ["numbers"] []) (Mleast : mg "least" = some (.ref fleast)) {froot_of : Addr} {fdroot_of : FuncData} (Groot_of : FnOk P w K mg base (L2.CX P w) 4 froot_of fdroot_of ["a"] (fun vs H Q E => ∃ v d, vs = [v] ∧ Da K H v d ∧ numD d = false ∧ ∀ H', Same H H' → E (CN K) none H')) (Kroot_of : PySem.W.keepIn K (.ref froot_of) = true) (Broot_of : Binds K fdroot_of ["a"] []) (Mroot_of : mg "root_of" = some (.ref froot_of)) {fshown : Addr} {fdshown : FuncData} (Gshown : FnOk P w K mg base (L2.CX P w) 4 fshown fdshown ["a"] (fun vs H Q E => ∃ v d, vs = [v] ∧ Da K H v d ∧ numD d = false ∧ ∀ H', Same H H' → E (CN K) none H')) (Kshown : PySem.W.keepIn K (.ref fshown) = true) (Bshown : Binds K fdshown ["a"] []) (Mshown : mg "shown" = some (.ref fshown)) :
    FnOk P w K mg base (L2.CX P w) 6 f fd ["_law_door_here", "_law_value"] (fun vs H Q E => ∃ (i : Nat) (z : Int) (v : V) (d : PyData), z = (i : Int) ∧ vs = [.int z, v] ∧ Da K H v d ∧ ((numD d = false ∧ i < 14 ∧ ∀ H', Same H H' → E (CN K) none H') ∨ ∃ g, Good d g 1 ∧ 1 ≤ g ∧ Sml g ∧ i < 11 ∧ Dat K Q H (doorD i g))) := by
  refine F.okX sc__law_door (fun vs H Q E h => ?_) (fun cdv A outer s H vs Q E hr h => ?_)
  · obtain ⟨i, z, v, d, _, rfl, _⟩ := h
    rfl
  obtain ⟨i, z, v, d, rfl, rfl, hd, q⟩ := h
  refine ⟨_, (pss_cons (ps_if (pt_cmpR op_eq (pv 0) pe_int (nomark _)) (pss_one (ps_ret (pe_call Gplus (hr.mono (by decide)) (by rfl) Mplus Kplus Bplus .nil (passes_call (takes_of rfl rfl rfl rfl) (fun _ _ _ _ h => h)) (pa_cons (pv 1) (pa_cons pe_int pa_nil))))) pss_nil)
 (pss_cons (ps_if (pt_cmpR op_eq (pv 0) pe_int (nomark _)) (pss_one (ps_ret (pe_call Gminus (hr.mono (by decide)) (by rfl) Mminus Kminus Bminus .nil (passes_call (takes_of rfl rfl rfl rfl) (fun _ _ _ _ h => h)) (pa_cons (pv 1) (pa_cons pe_int pa_nil))))) pss_nil)
 (pss_cons (ps_if (pt_cmpR op_eq (pv 0) pe_int (nomark _)) (pss_one (ps_ret (pe_call Gminus (hr.mono (by decide)) (by rfl) Mminus Kminus Bminus .nil (passes_call (takes_of rfl rfl rfl rfl) (fun _ _ _ _ h => h)) (pa_cons pe_int (pa_cons (pv 1) pa_nil))))) pss_nil)
 (pss_cons (ps_if (pt_cmpR op_eq (pv 0) pe_int (nomark _)) (pss_one (ps_ret (pe_call Gtimes (hr.mono (by decide)) (by rfl) Mtimes Ktimes Btimes .nil (passes_call (takes_of rfl rfl rfl rfl) (fun _ _ _ _ h => h)) (pa_cons (pv 1) (pa_cons pe_int pa_nil))))) pss_nil)
 (pss_cons (ps_if (pt_cmpR op_eq (pv 0) pe_int (nomark _)) (pss_one (ps_ret (pe_call Gtimes (hr.mono (by decide)) (by rfl) Mtimes Ktimes Btimes .nil (passes_call (takes_of rfl rfl rfl rfl) (fun _ _ _ _ h => h)) (pa_cons pe_int (pa_cons (pv 1) pa_nil))))) pss_nil)
 (pss_cons (ps_if (pt_cmpR op_eq (pv 0) pe_int (nomark _)) (pss_one (ps_ret (pe_call Gover (hr.mono (by decide)) (by rfl) Mover Kover Bover .nil (passes_call (takes_of rfl rfl rfl rfl) (fun _ _ _ _ h => h)) (pa_cons pe_int (pa_cons (pv 1) pa_nil))))) pss_nil)
 (pss_cons (ps_if (pt_cmpR op_eq (pv 0) pe_int (nomark _)) (pss_one (ps_ret (pe_call Gnegative (hr.mono (by decide)) (by rfl) Mnegative Knegative Bnegative .nil (passes_call (takes_of rfl rfl rfl rfl) (fun _ _ _ _ h => h)) (pa_cons (pv 1) pa_nil)))) pss_nil)
 (pss_cons (ps_if (pt_cmpR op_eq (pv 0) pe_int (nomark _)) (pss_one (ps_ret (pe_call Gsign_of (hr.mono (by decide)) (by rfl) Msign_of Ksign_of Bsign_of .nil (passes_call (takes_of rfl rfl rfl rfl) (fun _ _ _ _ h => h)) (pa_cons (pv 1) pa_nil)))) pss_nil)
 (pss_cons (ps_if (pt_cmpR op_eq (pv 0) pe_int (nomark _)) (pss_one (ps_ret (pe_call Gbelow (hr.mono (by decide)) (by rfl) Mbelow Kbelow Bbelow .nil (passes_call (takes_of rfl rfl rfl rfl) (fun _ _ _ _ h => h)) (pa_cons (pv 1) (pa_cons pe_int pa_nil))))) pss_nil)
 (pss_cons (ps_if (pt_cmpR op_eq (pv 0) pe_int (nomark _)) (pss_one (ps_ret (pe_call Gbelow (hr.mono (by decide)) (by rfl) Mbelow Kbelow Bbelow .nil (passes_call (takes_of rfl rfl rfl rfl) (fun _ _ _ _ h => h)) (pa_cons pe_int (pa_cons (pv 1) pa_nil))))) pss_nil)
 (pss_cons (ps_if (pt_cmpR op_eq (pv 0) pe_int (nomark _)) (pss_one (ps_ret (pe_call Gtotal (hr.mono (by decide)) (by rfl) Mtotal Ktotal Btotal .nil (passes_call (takes_of rfl rfl rfl rfl) (fun _ _ _ _ h => h)) (pa_cons (pe_lst (pa_cons pe_int (pa_cons (pv 1) pa_nil))) pa_nil)))) pss_nil)
 (pss_cons (ps_if (pt_cmpR op_eq (pv 0) pe_int (nomark _)) (pss_one (ps_ret (pe_call Gleast (hr.mono (by decide)) (by rfl) Mleast Kleast Bleast .nil (passes_call (takes_of rfl rfl rfl rfl) (fun _ _ _ _ h => h)) (pa_cons (pe_lst (pa_cons pe_int (pa_cons (pv 1) pa_nil))) pa_nil)))) pss_nil)
 (pss_cons (ps_if (pt_cmpR op_eq (pv 0) pe_int (nomark _)) (pss_one (ps_ret (pe_call Groot_of (hr.mono (by decide)) (by rfl) Mroot_of Kroot_of Broot_of .nil (passes_call (takes_of rfl rfl rfl rfl) (fun _ _ _ _ h => h)) (pa_cons (pv 1) pa_nil)))) pss_nil)
 (pss_one (ps_ret (pe_call Gshown (hr.mono (by decide)) (by rfl) Mshown Kshown Bshown .nil (passes_call (takes_of rfl rfl rfl rfl) (fun _ _ _ _ h => h)) (pa_cons (pv 1) pa_nil))))))))))))))))), ?_⟩
  rcases q with ⟨e, lt, q⟩ | ⟨g, gd, g1, sm, lt, q⟩
  · match i, lt with
    | 0, _ => exact ⟨_, rfl, rfl, _, rfl, iteT ⟨_, rfl, v, d, _, .int 1, rfl, hd, .of (.int 1), .inl ⟨e, q⟩⟩⟩
    | 1, _ => exact ⟨_, rfl, rfl, _, rfl, iteF ⟨_, rfl, rfl, _, rfl, iteT ⟨_, rfl, v, d, _, .int 1, rfl, hd, .of (.int 1), .inl ⟨e, q⟩⟩⟩⟩
    | 2, _ => exact ⟨_, rfl, rfl, _, rfl, iteF ⟨_, rfl, rfl, _, rfl, iteF ⟨_, rfl, rfl, _, rfl, iteT ⟨_, rfl, _, .int 1, v, d, rfl, .of (.int 1), hd, .inr ⟨1, .int 1, by decide, .inl ⟨e, q⟩⟩⟩⟩⟩⟩
    | 3, _ => exact ⟨_, rfl, rfl, _, rfl, iteF ⟨_, rfl, rfl, _, rfl, iteF ⟨_, rfl, rfl, _, rfl, iteF ⟨_, rfl, rfl, _, rfl, iteT ⟨_, rfl, v, d, _, .int 1, rfl, hd, .of (.int 1), .inl ⟨e, q⟩⟩⟩⟩⟩⟩
    | 4, _ => exact ⟨_, rfl, rfl, _, rfl, iteF ⟨_, rfl, rfl, _, rfl, iteF ⟨_, rfl, rfl, _, rfl, iteF ⟨_, rfl, rfl, _, rfl, iteF ⟨_, rfl, rfl, _, rfl, iteT ⟨_, rfl, _, .int 1, v, d, rfl, .of (.int 1), hd, .inr ⟨1, .int 1, by decide, .inl ⟨e, q⟩⟩⟩⟩⟩⟩⟩⟩
    | 5, _ => exact ⟨_, rfl, rfl, _, rfl, iteF ⟨_, rfl, rfl, _, rfl, iteF ⟨_, rfl, rfl, _, rfl, iteF ⟨_, rfl, rfl, _, rfl, iteF ⟨_, rfl, rfl, _, rfl, iteF ⟨_, rfl, rfl, _, rfl, iteT ⟨_, rfl, _, .int 1, v, d, rfl, .of (.int 1), hd, .inr ⟨1, .int 1, by decide, .inl ⟨e, q⟩⟩⟩⟩⟩⟩⟩⟩⟩
    | 6, _ => exact ⟨_, rfl, rfl, _, rfl, iteF ⟨_, rfl, rfl, _, rfl, iteF ⟨_, rfl, rfl, _, rfl, iteF ⟨_, rfl, rfl, _, rfl, iteF ⟨_, rfl, rfl, _, rfl, iteF ⟨_, rfl, rfl, _, rfl, iteF ⟨_, rfl, rfl, _, rfl, iteT ⟨_, rfl, v, d, rfl, hd, .inl ⟨e, q⟩⟩⟩⟩⟩⟩⟩⟩⟩
    | 7, _ => exact ⟨_, rfl, rfl, _, rfl, iteF ⟨_, rfl, rfl, _, rfl, iteF ⟨_, rfl, rfl, _, rfl, iteF ⟨_, rfl, rfl, _, rfl, iteF ⟨_, rfl, rfl, _, rfl, iteF ⟨_, rfl, rfl, _, rfl, iteF ⟨_, rfl, rfl, _, rfl, iteF ⟨_, rfl, rfl, _, rfl, iteT ⟨_, rfl, v, d, rfl, hd, .inl ⟨e, q⟩⟩⟩⟩⟩⟩⟩⟩⟩⟩
    | 8, _ => exact ⟨_, rfl, rfl, _, rfl, iteF ⟨_, rfl, rfl, _, rfl, iteF ⟨_, rfl, rfl, _, rfl, iteF ⟨_, rfl, rfl, _, rfl, iteF ⟨_, rfl, rfl, _, rfl, iteF ⟨_, rfl, rfl, _, rfl, iteF ⟨_, rfl, rfl, _, rfl, iteF ⟨_, rfl, rfl, _, rfl, iteF ⟨_, rfl, rfl, _, rfl, iteT ⟨_, rfl, v, d, _, .int 2, rfl, hd, .of (.int 2), .inl ⟨e, q⟩⟩⟩⟩⟩⟩⟩⟩⟩⟩⟩
    | 9, _ => exact ⟨_, rfl, rfl, _, rfl, iteF ⟨_, rfl, rfl, _, rfl, iteF ⟨_, rfl, rfl, _, rfl, iteF ⟨_, rfl, rfl, _, rfl, iteF ⟨_, rfl, rfl, _, rfl, iteF ⟨_, rfl, rfl, _, rfl, iteF ⟨_, rfl, rfl, _, rfl, iteF ⟨_, rfl, rfl, _, rfl, iteF ⟨_, rfl, rfl, _, rfl, iteF ⟨_, rfl, rfl, _, rfl, iteT ⟨_, rfl, _, .int 2, v, d, rfl, .of (.int 2), hd, .inr ⟨2, .int 2, by decide, .inl ⟨e, q⟩⟩⟩⟩⟩⟩⟩⟩⟩⟩⟩⟩⟩
    | 10, _ => exact ⟨_, rfl, rfl, _, rfl, iteF ⟨_, rfl, rfl, _, rfl, iteF ⟨_, rfl, rfl, _, rfl, iteF ⟨_, rfl, rfl, _, rfl, iteF ⟨_, rfl, rfl, _, rfl, iteF ⟨_, rfl, rfl, _, rfl, iteF ⟨_, rfl, rfl, _, rfl, iteF ⟨_, rfl, rfl, _, rfl, iteF ⟨_, rfl, rfl, _, rfl, iteF ⟨_, rfl, rfl, _, rfl, iteF ⟨_, rfl, rfl, _, rfl, iteT ⟨_, rfl, by show 2 ≤ sizeLine; decide, fun l hl => ⟨l, v, d, ⟨rfl, upd_same, hd.keep (same_new (Same.refl H) hl _)⟩, .inl ⟨e, fun H' s => q H' ((same_new (Same.refl H) hl _).trans s)⟩⟩⟩⟩⟩⟩⟩⟩⟩⟩⟩⟩⟩⟩
    | 11, _ => exact ⟨_, rfl, rfl, _, rfl, iteF ⟨_, rfl, rfl, _, rfl, iteF ⟨_, rfl, rfl, _, rfl, iteF ⟨_, rfl, rfl, _, rfl, iteF ⟨_, rfl, rfl, _, rfl, iteF ⟨_, rfl, rfl, _, rfl, iteF ⟨_, rfl, rfl, _, rfl, iteF ⟨_, rfl, rfl, _, rfl, iteF ⟨_, rfl, rfl, _, rfl, iteF ⟨_, rfl, rfl, _, rfl, iteF ⟨_, rfl, rfl, _, rfl, iteF ⟨_, rfl, rfl, _, rfl, iteT ⟨_, rfl, by show 2 ≤ sizeLine; decide, fun l hl => ⟨l, v, d, ⟨rfl, upd_same, hd.keep (same_new (Same.refl H) hl _)⟩, e, fun H' s => q H' ((same_new (Same.refl H) hl _).trans s)⟩⟩⟩⟩⟩⟩⟩⟩⟩⟩⟩⟩⟩⟩
    | 12, _ => exact ⟨_, rfl, rfl, _, rfl, iteF ⟨_, rfl, rfl, _, rfl, iteF ⟨_, rfl, rfl, _, rfl, iteF ⟨_, rfl, rfl, _, rfl, iteF ⟨_, rfl, rfl, _, rfl, iteF ⟨_, rfl, rfl, _, rfl, iteF ⟨_, rfl, rfl, _, rfl, iteF ⟨_, rfl, rfl, _, rfl, iteF ⟨_, rfl, rfl, _, rfl, iteF ⟨_, rfl, rfl, _, rfl, iteF ⟨_, rfl, rfl, _, rfl, iteF ⟨_, rfl, rfl, _, rfl, iteF ⟨_, rfl, rfl, _, rfl, iteT ⟨_, rfl, v, d, rfl, hd, e, q⟩⟩⟩⟩⟩⟩⟩⟩⟩⟩⟩⟩⟩⟩
    | 13, _ => exact ⟨_, rfl, rfl, _, rfl, iteF ⟨_, rfl, rfl, _, rfl, iteF ⟨_, rfl, rfl, _, rfl, iteF ⟨_, rfl, rfl, _, rfl, iteF ⟨_, rfl, rfl, _, rfl, iteF ⟨_, rfl, rfl, _, rfl, iteF ⟨_, rfl, rfl, _, rfl, iteF ⟨_, rfl, rfl, _, rfl, iteF ⟨_, rfl, rfl, _, rfl, iteF ⟨_, rfl, rfl, _, rfl, iteF ⟨_, rfl, rfl, _, rfl, iteF ⟨_, rfl, rfl, _, rfl, iteF ⟨_, rfl, rfl, _, rfl, iteF ⟨_, rfl, v, d, rfl, hd, e, q⟩⟩⟩⟩⟩⟩⟩⟩⟩⟩⟩⟩⟩⟩
  · match i, lt, q with
    | 0, _, q => exact ⟨_, rfl, rfl, _, rfl, iteT ⟨_, rfl, v, d, _, .int 1, rfl, hd, .of (.int 1), .inr ⟨g, gd, sm, .inr ⟨1, .int 1, by decide, trivial, fun p H' s hp => q _ H' s (rat_dp hp)⟩⟩⟩⟩
    | 1, _, q => exact ⟨_, rfl, rfl, _, rfl, iteF ⟨_, rfl, rfl, _, rfl, iteT ⟨_, rfl, v, d, _, .int 1, rfl, hd, .of (.int 1), .inr ⟨g, gd, sm, .inr ⟨1, .int 1, by decide, trivial, fun p H' s hp => q _ H' s (rat_dp hp)⟩⟩⟩⟩⟩
    | 2, _, q => exact ⟨_, rfl, rfl, _, rfl, iteF ⟨_, rfl, rfl, _, rfl, iteF ⟨_, rfl, rfl, _, rfl, iteT ⟨_, rfl, _, .int 1, v, d, rfl, .of (.int 1), hd, .inr ⟨1, .int 1, by decide, .inr ⟨g, gd, sm, trivial, fun p H' s hp => q _ H' s (rat_dp hp)⟩⟩⟩⟩⟩⟩
    | 3, _, q => exact ⟨_, rfl, rfl, _, rfl, iteF ⟨_, rfl, rfl, _, rfl, iteF ⟨_, rfl, rfl, _, rfl, iteF ⟨_, rfl, rfl, _, rfl, iteT ⟨_, rfl, v, d, _, .int 1, rfl, hd, .of (.int 1), .inr ⟨g, gd, sm, .inr ⟨1, .int 1, by decide, trivial, fun p H' s hp => q _ H' s (rat_dp hp)⟩⟩⟩⟩⟩⟩⟩
    | 4, _, q => exact ⟨_, rfl, rfl, _, rfl, iteF ⟨_, rfl, rfl, _, rfl, iteF ⟨_, rfl, rfl, _, rfl, iteF ⟨_, rfl, rfl, _, rfl, iteF ⟨_, rfl, rfl, _, rfl, iteT ⟨_, rfl, _, .int 1, v, d, rfl, .of (.int 1), hd, .inr ⟨1, .int 1, by decide, .inr ⟨g, gd, sm, trivial, fun p H' s hp => q _ H' s (rat_dp hp)⟩⟩⟩⟩⟩⟩⟩⟩
    | 5, _, q => exact ⟨_, rfl, rfl, _, rfl, iteF ⟨_, rfl, rfl, _, rfl, iteF ⟨_, rfl, rfl, _, rfl, iteF ⟨_, rfl, rfl, _, rfl, iteF ⟨_, rfl, rfl, _, rfl, iteF ⟨_, rfl, rfl, _, rfl, iteT ⟨_, rfl, _, .int 1, v, d, rfl, .of (.int 1), hd, .inr ⟨1, .int 1, by decide, .inr ⟨g, gd, sm, ⟨rfl, g1⟩, fun p H' s hp => q _ H' s (rat_dp hp)⟩⟩⟩⟩⟩⟩⟩⟩⟩
    | 6, _, q => exact ⟨_, rfl, rfl, _, rfl, iteF ⟨_, rfl, rfl, _, rfl, iteF ⟨_, rfl, rfl, _, rfl, iteF ⟨_, rfl, rfl, _, rfl, iteF ⟨_, rfl, rfl, _, rfl, iteF ⟨_, rfl, rfl, _, rfl, iteF ⟨_, rfl, rfl, _, rfl, iteT ⟨_, rfl, v, d, rfl, hd, .inr ⟨g, gd, sm, fun p H' s hp => q _ H' s (rat_dp hp)⟩⟩⟩⟩⟩⟩⟩⟩⟩
    | 7, _, q => exact ⟨_, rfl, rfl, _, rfl, iteF ⟨_, rfl, rfl, _, rfl, iteF ⟨_, rfl, rfl, _, rfl, iteF ⟨_, rfl, rfl, _, rfl, iteF ⟨_, rfl, rfl, _, rfl, iteF ⟨_, rfl, rfl, _, rfl, iteF ⟨_, rfl, rfl, _, rfl, iteF ⟨_, rfl, rfl, _, rfl, iteT ⟨_, rfl, v, d, rfl, hd, .inr ⟨g, gd, sm, g1, fun H' s => q _ H' s (.int _)⟩⟩⟩⟩⟩⟩⟩⟩⟩⟩
    | 8, _, q => exact ⟨_, rfl, rfl, _, rfl, iteF ⟨_, rfl, rfl, _, rfl, iteF ⟨_, rfl, rfl, _, rfl, iteF ⟨_, rfl, rfl, _, rfl, iteF ⟨_, rfl, rfl, _, rfl, iteF ⟨_, rfl, rfl, _, rfl, iteF ⟨_, rfl, rfl, _, rfl, iteF ⟨_, rfl, rfl, _, rfl, iteF ⟨_, rfl, rfl, _, rfl, iteT ⟨_, rfl, v, d, _, .int 2, rfl, hd, .of (.int 2), .inr ⟨g, gd, sm, .inr ⟨2, .int 2, by decide, trivial, fun H' s => q _ H' s (.bl _)⟩⟩⟩⟩⟩⟩⟩⟩⟩⟩⟩⟩
    | 9, _, q => exact ⟨_, rfl, rfl, _, rfl, iteF ⟨_, rfl, rfl, _, rfl, iteF ⟨_, rfl, rfl, _, rfl, iteF ⟨_, rfl, rfl, _, rfl, iteF ⟨_, rfl, rfl, _, rfl, iteF ⟨_, rfl, rfl, _, rfl, iteF ⟨_, rfl, rfl, _, rfl, iteF ⟨_, rfl, rfl, _, rfl, iteF ⟨_, rfl, rfl, _, rfl, iteF ⟨_, rfl, rfl, _, rfl, iteT ⟨_, rfl, _, .int 2, v, d, rfl, .of (.int 2), hd, .inr ⟨2, .int 2, by decide, .inr ⟨g, gd, sm, trivial, fun H' s => q _ H' s (.bl _)⟩⟩⟩⟩⟩⟩⟩⟩⟩⟩⟩⟩⟩
    | 10, _, q => exact ⟨_, rfl, rfl, _, rfl, iteF ⟨_, rfl, rfl, _, rfl, iteF ⟨_, rfl, rfl, _, rfl, iteF ⟨_, rfl, rfl, _, rfl, iteF ⟨_, rfl, rfl, _, rfl, iteF ⟨_, rfl, rfl, _, rfl, iteF ⟨_, rfl, rfl, _, rfl, iteF ⟨_, rfl, rfl, _, rfl, iteF ⟨_, rfl, rfl, _, rfl, iteF ⟨_, rfl, rfl, _, rfl, iteF ⟨_, rfl, rfl, _, rfl, iteT ⟨_, rfl, by show 2 ≤ sizeLine; decide, fun l hl => ⟨l, v, d, ⟨rfl, upd_same, hd.keep (same_new (Same.refl H) hl _)⟩, .inr ⟨g, gd, sm, fun p H' s hp => q _ H' ((same_new (Same.refl H) hl _).trans s) (rat_dp hp)⟩⟩⟩⟩⟩⟩⟩⟩⟩⟩⟩⟩⟩⟩

end
end Hs
set_option maxHeartbeats 8000000
namespace Hs
open PySem L2 PySem.Spec PyProof.Rows
/-! ## the law: numbers judged -/
/-- try .. except x, its reading as one word -/
def tTryO (K : PySem.W.Frag) (c : Value) (ts : Addr → Value → Option Addr → TS) (Wout : WX) (tb : WX → TS) : TS := fun D σ H => tb (wOnly K c ts Wout D) D σ H
theorem ps_try_o {X : Cx} {x : Str} {c : Value} {body suite : List Stmt} {b0 : Stmt} {np pos pos' : Pos} {tb : WX → TS} {ts : Addr → Value → Option Addr → TS} {Wout : WX} (hs : X.stack = X.env :: X.outer) (hf : X.env.frame = some X.env.locals) (hc : Names X x c) (tk : Takes X Wout)
    (hb : ∀ (W : WX) (pn : List (Addr × Obj)) (xe : Value → Shared → Prop), Takes (X.tr pn xe) W → PassesOwn (model X.prog X.w) X.A X.env xe → PSs (X.tr pn xe) body (tb W))
    (hsu : ∀ (a : Addr) (oe : Obj) (cls : Value) (d : Option Addr) (pn : List (Addr × Obj)), Zc cls d oe → (∃ vs, oe.data = .fields vs) → PSs (X.suite a ((a, oe) :: pn)) (b0 :: suite) (ts a cls d)) :
    PS X (.Try body [.ExceptHandler (some (.Name x np)) none (b0 :: suite) pos'] [] [] pos) (tTryO X.K c ts Wout tb) := ps_try_only hs hf hc tk hb hsu
theorem shp_pair (x y : Int) : Shp 5 (.tuple [.int x, .int y]) := shp_two (n := 4) (.int x) (.int y)
theorem shp_bool {n : Nat} (b : Bool) : Shp n (.bool b) := ⟨rfl, by simp [PyData.depth]⟩
theorem eqv_two {a b c d : Int} (h : a = c) (k : b = d) : PyData.eqv (.tuple [.int a, .int b]) (.tuple [.int c, .int d]) = true := by
  subst h k
  exact (shp_pair a b).refl
theorem door_eq {g : Int} : ∀ (i : Nat) (e : PyData), i < 11 → (duesD g)[i]? = some e → PyData.eqv (doorD i g) e = true ∧ Shp 5 (doorD i g) ∧ Shp 5 e := by
  intro i e lt h
  match i, lt, h with
  | 0, _, h => cases h; exact ⟨eqv_two rfl rfl, shp_pair _ _, shp_pair _ _⟩
  | 1, _, h => cases h; exact ⟨eqv_two rfl rfl, shp_pair _ _, shp_pair _ _⟩
  | 2, _, h => cases h; exact ⟨eqv_two rfl rfl, shp_pair _ _, shp_pair _ _⟩
  | 3, _, h => cases h; exact ⟨eqv_two (Int.mul_one _) rfl, shp_pair _ _, shp_pair _ _⟩
  | 4, _, h => cases h; exact ⟨eqv_two (Int.one_mul _) rfl, shp_pair _ _, shp_pair _ _⟩
  | 5, _, h => cases h; exact ⟨eqv_two rfl rfl, shp_pair _ _, shp_pair _ _⟩
  | 6, _, h => cases h; exact ⟨eqv_two rfl rfl, shp_pair _ _, shp_pair _ _⟩
  | 7, _, h => cases h; exact ⟨(Shp.int (n := 5) 1).refl, .int _, .int _⟩
  | 8, _, h => cases h; exact ⟨(shp_bool (n := 5) _).refl, shp_bool _, shp_bool _⟩
  | 9, _, h => cases h; exact ⟨(shp_bool (n := 5) _).refl, shp_bool _, shp_bool _⟩
  | 10, _, h => cases h; exact ⟨eqv_two (Int.add_comm _ _) rfl, shp_pair _ _, shp_pair _ _⟩
section
variable {P : Program} {w : World} {K : PySem.W.Frag} {mg : Str → Option Value} {base : Heap} {tk : Tok × Tok × Tok}
theorem sc__law_numbers_judged : FnScope ["_law_good", "_law_dues", "_law_door_here", "_law_hits", "_law_wrong"] ["_law_good"] (defScope (topH 51)) := ⟨rfl, rfl, rfl, by decide +kernel, rfl, by decide +kernel, by decide +kernel⟩
theorem ok__law_numbers_judged {f : Addr} {fd : FuncData} (F : Fun K "_law_numbers_judged" "_law_numbers_judged" (topH 51) f fd) (T : Tx K mg tk) {fLdoor : Addr} {fdLdoor : FuncData} (GLdoor : FnOk P w K mg base (L2.CX P w) 6 fLdoor fdLdoor ["_law_door_here", "_law_value"] (fun vs H Q E => ∃ (i : Nat) (z : Int) (v : V) (d : PyData), z = (i : Int) ∧ vs = [.int z, v] ∧ Da K H v d ∧ ((numD d = false ∧ i < 14 ∧ ∀ H', Same H H' → E (CN K) none H') ∨ ∃ g, Good d g 1 ∧ 1 ≤ g ∧ Sml g ∧ i < 11 ∧ Dat K Q H (doorD i g)))) (KLdoor : PySem.W.keepIn K (.ref fLdoor) = true) (BLdoor : Binds K fdLdoor ["_law_door_here", "_law_value"] []) (MLdoor : mg "_law_door" = some (.ref fLdoor)) :
    FnOk P w K mg base CX0 7 f fd ["_law_good"] (fun vs H Q _ => ∃ g, vs = [.int g] ∧ 1 ≤ g ∧ g ≤ 30 ∧ ∀ H', Same H H' → Q (.bl true) H') := by
  refine F.ok sc__law_numbers_judged (fun vs H Q E h => ?_) (fun cdv A outer s H vs Q E hr h => ?_)
  · obtain ⟨g, rfl, _⟩ := h
    rfl
  obtain ⟨g, rfl, g1, g30, q⟩ := h
  have sm : Sml g := ⟨by omega, by omega⟩
  refine ⟨_, (pss_cons (ps_set (i := 1) sc__law_numbers_judged.nd rfl (Or.inl rfl) (pe_lst (pa_cons (pe_tup (pa_cons (pe_op op_add (pv 0) pe_int) (pa_cons pe_int pa_nil))) (pa_cons (pe_tup (pa_cons (pe_op op_sub (pv 0) pe_int) (pa_cons pe_int pa_nil))) (pa_cons (pe_tup (pa_cons (pe_op op_sub pe_int (pv 0)) (pa_cons pe_int pa_nil))) (pa_cons (pe_tup (pa_cons (pv 0) (pa_cons pe_int pa_nil))) (pa_cons (pe_tup (pa_cons (pv 0) (pa_cons pe_int pa_nil))) (pa_cons (pe_tup (pa_cons pe_int (pa_cons (pv 0) pa_nil))) (pa_cons (pe_tup (pa_cons (pe_un un_neg (pv 0)) (pa_cons pe_int pa_nil))) (pa_cons pe_int (pa_cons (pe_cmpR op_lt (pv 0) pe_int (nomark _)) pa_nil)))))))))))
 (pss_cons (ps_set (i := 1) sc__law_numbers_judged.nd rfl (Or.inl rfl) (pe_op op_cat (pv 1) (pe_lst (pa_cons (pe_cmpR op_gt (pv 0) pe_int (nomark _)) (pa_cons (pe_tup (pa_cons (pe_op op_add (pv 0) pe_int) (pa_cons pe_int pa_nil))) pa_nil)))))
 (pss_cons (ps_for PassesOwn.never rfl (pi_range1 (by rfl) T.range (pa_cons pe_int pa_nil)) (pg_name (i := 2) sc__law_numbers_judged.nd rfl (Or.inl rfl))
 (pss_one (ps_if (PW.pt (pw_or (pt_cmpR (op_neD hr.units) (pe_call (E := fun _ _ _ => False) GLdoor (hr.mono (by decide)) (by rfl) MLdoor KLdoor BLdoor .nil (passes_call takes0 (fun _ _ _ _ h => h)) (pa_cons (pv 2) (pa_cons (pv 0) pa_nil))) (pe_ix (r := rIx K) ix_seq (pv 1) (pv 2) (fun _ _ => rfl)) (nomark _)) (pw_or1 (pt_cmpR (op_neD hr.units) (pe_call (E := fun _ _ _ => False) GLdoor (hr.mono (by decide)) (by rfl) MLdoor KLdoor BLdoor .nil (passes_call takes0 (fun _ _ _ _ h => h)) (pa_cons (pv 2) (pa_cons (pe_lst (pa_cons (pe_op op_mul pe_int (pv 0)) (pa_cons pe_int pa_nil))) pa_nil))) (pe_ix (r := rIx K) ix_seq (pv 1) (pv 2) (fun _ _ => rfl)) (nomark _))))) (pss_one (ps_ret pe_bl)) pss_nil)))
 (pss_cons (ps_set (i := 3) sc__law_numbers_judged.nd rfl (Or.inl rfl) pe_int)
 (pss_cons (ps_for PassesOwn.never rfl (pi_or (pi_list (pe_tup (pa_cons pe_bl (pa_cons pe_str (pa_cons (pe_tup (pa_cons pe_int (pa_cons pe_int pa_nil))) (pa_cons (pe_tup (pa_cons pe_int pa_nil)) (pa_cons pe_non (pa_cons (pe_tup (pa_cons pe_int (pa_cons pe_bl pa_nil))) (pa_cons (pe_tup (pa_cons pe_int (pa_cons (pe_un un_neg pe_int) pa_nil))) (pa_cons pe_dnewK pa_nil)))))))))) (pi_tup (pe_tup (pa_cons pe_bl (pa_cons pe_str (pa_cons (pe_tup (pa_cons pe_int (pa_cons pe_int pa_nil))) (pa_cons (pe_tup (pa_cons pe_int pa_nil)) (pa_cons pe_non (pa_cons (pe_tup (pa_cons pe_int (pa_cons pe_bl pa_nil))) (pa_cons (pe_tup (pa_cons pe_int (pa_cons (pe_un un_neg pe_int) pa_nil))) (pa_cons pe_dnewK pa_nil))))))))))) (pg_name (i := 4) sc__law_numbers_judged.nd rfl (Or.inl rfl))
 (pss_one (ps_for PassesOwn.never rfl (pi_range1 (by rfl) T.range (pa_cons pe_int pa_nil)) (pg_name (i := 2) sc__law_numbers_judged.nd rfl (Or.inl rfl))
 (pss_one (ps_try_o rfl rfl ⟨rfl, by decide, .inl T.glBadNumber⟩ takes0 (fun W pn xe tkk _ => (pss_one (ps_expr (pe_callS GLdoor (hr.mono (by decide)) (by rfl) MLdoor KLdoor BLdoor (fun σ => passAt tkk σ) (pa_cons (pv 2) (pa_cons (pv 4) pa_nil))))))
 (fun a oe cls d pn _ _ => (pss_one (ps_set (i := 3) sc__law_numbers_judged.nd rfl (Or.inl rfl) (pe_op op_add (pv 3) pe_int)))))))))
 (pss_one (ps_ret (pe_cmpR op_eq (pv 3) pe_int (nomark _))))))))), ?_⟩
  have S0 : Same H H := Same.refl H
  refine ⟨_, rfl, _, _, rfl, rfl, by show 2 ≤ sizeLine; decide, fun pa0 ha0 => ?_⟩
  have n_a0 := same_new (Same.refl H) ha0 (.tup [.int (g + 1), .int 1])
  have S_a0 := S0.trans n_a0
  have e_a0 : (upd H pa0 (.tup [.int (g + 1), .int 1])) pa0 = some (.tup [.int (g + 1), .int 1]) := upd_same
  generalize upd H pa0 (.tup [.int (g + 1), .int 1]) = H_a0 at *
  refine ⟨_, rfl, _, _, rfl, rfl, by show 2 ≤ sizeLine; decide, fun pa1 ha1 => ?_⟩
  have n_a1 := same_new (Same.refl H_a0) ha1 (.tup [.int (g - 1), .int 1])
  have S_a1 := S_a0.trans n_a1
  have e_a1 : (upd H_a0 pa1 (.tup [.int (g - 1), .int 1])) pa1 = some (.tup [.int (g - 1), .int 1]) := upd_same
  replace e_a0 := n_a1 _ _ e_a0
  generalize upd H_a0 pa1 (.tup [.int (g - 1), .int 1]) = H_a1 at *
  refine ⟨_, rfl, _, _, rfl, rfl, by show 2 ≤ sizeLine; decide, fun pa2 ha2 => ?_⟩
  have n_a2 := same_new (Same.refl H_a1) ha2 (.tup [.int (1 - g), .int 1])
  have S_a2 := S_a1.trans n_a2
  have e_a2 : (upd H_a1 pa2 (.tup [.int (1 - g), .int 1])) pa2 = some (.tup [.int (1 - g), .int 1]) := upd_same
  replace e_a0 := n_a2 _ _ e_a0
  replace e_a1 := n_a2 _ _ e_a1
  generalize upd H_a1 pa2 (.tup [.int (1 - g), .int 1]) = H_a2 at *
  refine ⟨_, rfl, by show 2 ≤ sizeLine; decide, fun pa3 ha3 => ?_⟩
  have n_a3 := same_new (Same.refl H_a2) ha3 (.tup [.int g, .int 1])
  have S_a3 := S_a2.trans n_a3
  have e_a3 : (upd H_a2 pa3 (.tup [.int g, .int 1])) pa3 = some (.tup [.int g, .int 1]) := upd_same
  replace e_a0 := n_a3 _ _ e_a0
  replace e_a1 := n_a3 _ _ e_a1
  replace e_a2 := n_a3 _ _ e_a2
  generalize upd H_a2 pa3 (.tup [.int g, .int 1]) = H_a3 at *
  refine ⟨_, rfl, by show 2 ≤ sizeLine; decide, fun pa4 ha4 => ?_⟩
  have n_a4 := same_new (Same.refl H_a3) ha4 (.tup [.int g, .int 1])
  have S_a4 := S_a3.trans n_a4
  have e_a4 : (upd H_a3 pa4 (.tup [.int g, .int 1])) pa4 = some (.tup [.int g, .int 1]) := upd_same
  replace e_a0 := n_a4 _ _ e_a0
  replace e_a1 := n_a4 _ _ e_a1
  replace e_a2 := n_a4 _ _ e_a2
  replace e_a3 := n_a4 _ _ e_a3
  generalize upd H_a3 pa4 (.tup [.int g, .int 1]) = H_a4 at *
  refine ⟨_, rfl, by show 2 ≤ sizeLine; decide, fun pa5 ha5 => ?_⟩
  have n_a5 := same_new (Same.refl H_a4) ha5 (.tup [.int 1, .int g])
  have S_a5 := S_a4.trans n_a5
  have e_a5 : (upd H_a4 pa5 (.tup [.int 1, .int g])) pa5 = some (.tup [.int 1, .int g]) := upd_same
  replace e_a0 := n_a5 _ _ e_a0
  replace e_a1 := n_a5 _ _ e_a1
  replace e_a2 := n_a5 _ _ e_a2
  replace e_a3 := n_a5 _ _ e_a3
  replace e_a4 := n_a5 _ _ e_a4
  generalize upd H_a4 pa5 (.tup [.int 1, .int g]) = H_a5 at *
  refine ⟨_, rfl, _, rfl, by show 2 ≤ sizeLine; decide, fun pa6 ha6 => ?_⟩
  have n_a6 := same_new (Same.refl H_a5) ha6 (.tup [.int (-g), .int 1])
  have S_a6 := S_a5.trans n_a6
  have e_a6 : (upd H_a5 pa6 (.tup [.int (-g), .int 1])) pa6 = some (.tup [.int (-g), .int 1]) := upd_same
  replace e_a0 := n_a6 _ _ e_a0
  replace e_a1 := n_a6 _ _ e_a1
  replace e_a2 := n_a6 _ _ e_a2
  replace e_a3 := n_a6 _ _ e_a3
  replace e_a4 := n_a6 _ _ e_a4
  replace e_a5 := n_a6 _ _ e_a5
  generalize upd H_a5 pa6 (.tup [.int (-g), .int 1]) = H_a6 at *
  refine ⟨_, rfl, _, _, rfl, rfl, by show 9 ≤ sizeLine; decide, fun l hl => ?_⟩
  have n_l := same_new (Same.refl H_a6) hl (.lst [.ref pa0, .ref pa1, .ref pa2, .ref pa3, .ref pa4, .ref pa5, .ref pa6, .int 1, .bl (decide (g < 2))])
  have S_l := S_a6.trans n_l
  have e_l : (upd H_a6 l (.lst [.ref pa0, .ref pa1, .ref pa2, .ref pa3, .ref pa4, .ref pa5, .ref pa6, .int 1, .bl (decide (g < 2))])) l = some (.lst [.ref pa0, .ref pa1, .ref pa2, .ref pa3, .ref pa4, .ref pa5, .ref pa6, .int 1, .bl (decide (g < 2))]) := upd_same
  replace e_a0 := n_l _ _ e_a0
  replace e_a1 := n_l _ _ e_a1
  replace e_a2 := n_l _ _ e_a2
  replace e_a3 := n_l _ _ e_a3
  replace e_a4 := n_l _ _ e_a4
  replace e_a5 := n_l _ _ e_a5
  replace e_a6 := n_l _ _ e_a6
  generalize upd H_a6 l (.lst [.ref pa0, .ref pa1, .ref pa2, .ref pa3, .ref pa4, .ref pa5, .ref pa6, .int 1, .bl (decide (g < 2))]) = H_l at *
  refine ⟨_, rfl, _, rfl, _, _, rfl, rfl, _, rfl, _, _, rfl, rfl, by show 2 ≤ sizeLine; decide, fun pa9 ha9 => ?_⟩
  have n_a9 := same_new (Same.refl H_l) ha9 (.tup [.int (g + 1), .int 1])
  have S_a9 := S_l.trans n_a9
  have e_a9 : (upd H_l pa9 (.tup [.int (g + 1), .int 1])) pa9 = some (.tup [.int (g + 1), .int 1]) := upd_same
  replace e_a0 := n_a9 _ _ e_a0
  replace e_a1 := n_a9 _ _ e_a1
  replace e_a2 := n_a9 _ _ e_a2
  replace e_a3 := n_a9 _ _ e_a3
  replace e_a4 := n_a9 _ _ e_a4
  replace e_a5 := n_a9 _ _ e_a5
  replace e_a6 := n_a9 _ _ e_a6
  replace e_l := n_a9 _ _ e_l
  generalize upd H_l pa9 (.tup [.int (g + 1), .int 1]) = H_a9 at *
  refine ⟨by show 2 ≤ sizeLine; decide, fun l2 hl2 => ?_⟩
  have n_m := same_new (Same.refl H_a9) hl2 (.lst [.bl (decide (2 < g)), .ref pa9])
  have S_m := S_a9.trans n_m
  have e_m : (upd H_a9 l2 (.lst [.bl (decide (2 < g)), .ref pa9])) l2 = some (.lst [.bl (decide (2 < g)), .ref pa9]) := upd_same
  replace e_a0 := n_m _ _ e_a0
  replace e_a1 := n_m _ _ e_a1
  replace e_a2 := n_m _ _ e_a2
  replace e_a3 := n_m _ _ e_a3
  replace e_a4 := n_m _ _ e_a4
  replace e_a5 := n_m _ _ e_a5
  replace e_a6 := n_m _ _ e_a6
  replace e_l := n_m _ _ e_l
  replace e_a9 := n_m _ _ e_a9
  generalize upd H_a9 l2 (.lst [.bl (decide (2 < g)), .ref pa9]) = H_m at *
  refine ⟨l, l2, _, _, rfl, rfl, e_l, e_m, by show 11 ≤ sizeLine; decide, fun L hL => ?_⟩
  have n_L := same_new (Same.refl H_m) hL (.lst ([.ref pa0, .ref pa1, .ref pa2, .ref pa3, .ref pa4, .ref pa5, .ref pa6, .int 1, .bl (decide (g < 2))] ++ [.bl (decide (2 < g)), .ref pa9]))
  have S_L := S_m.trans n_L
  have e_L : (upd H_m L (.lst ([.ref pa0, .ref pa1, .ref pa2, .ref pa3, .ref pa4, .ref pa5, .ref pa6, .int 1, .bl (decide (g < 2))] ++ [.bl (decide (2 < g)), .ref pa9]))) L = some (.lst ([.ref pa0, .ref pa1, .ref pa2, .ref pa3, .ref pa4, .ref pa5, .ref pa6, .int 1, .bl (decide (g < 2))] ++ [.bl (decide (2 < g)), .ref pa9])) := upd_same
  replace e_a0 := n_L _ _ e_a0
  replace e_a1 := n_L _ _ e_a1
  replace e_a2 := n_L _ _ e_a2
  replace e_a3 := n_L _ _ e_a3
  replace e_a4 := n_L _ _ e_a4
  replace e_a5 := n_L _ _ e_a5
  replace e_a6 := n_L _ _ e_a6
  replace e_l := n_L _ _ e_l
  replace e_a9 := n_L _ _ e_a9
  replace e_m := n_L _ _ e_m
  generalize upd H_m L (.lst ([.ref pa0, .ref pa1, .ref pa2, .ref pa3, .ref pa4, .ref pa5, .ref pa6, .int 1, .bl (decide (g < 2))] ++ [.bl (decide (2 < g)), .ref pa9])) = H9 at *
  have all : DpAll K H9 ([.ref pa0, .ref pa1, .ref pa2, .ref pa3, .ref pa4, .ref pa5, .ref pa6, .int 1, .bl (decide (g < 2))] ++ [.bl (decide (2 < g)), .ref pa9]) (duesD g) := .cons (rat_dp e_a0) (.cons (rat_dp e_a1) (.cons (rat_dp e_a2) (.cons (rat_dp e_a3) (.cons (rat_dp e_a4) (.cons (rat_dp e_a5) (.cons (rat_dp e_a6) (.cons (.int 1) (.cons (.bl _) (.cons (.bl _) (.cons (rat_dp e_a9) .nil))))))))))
  have lenX : ([.ref pa0, .ref pa1, .ref pa2, .ref pa3, .ref pa4, .ref pa5, .ref pa6, .int 1, .bl (decide (g < 2))] ++ [.bl (decide (2 < g)), .ref pa9] : List V).length = 11 := rfl
  generalize ([.ref pa0, .ref pa1, .ref pa2, .ref pa3, .ref pa4, .ref pa5, .ref pa6, .int 1, .bl (decide (g < 2))] ++ [.bl (decide (2 < g)), .ref pa9] : List V) = XS at *
  refine ⟨11, rfl, by decide, by decide, for_range (n := 11) (fun i σ H' => ∃ x2, σ = [some (.int g), some (.ref L), x2, none, none] ∧ Same H9 H') ⟨none, rfl, Same.refl _⟩ ?_ ?_⟩
  · rintro i σ H2 hi ⟨x2, rfl, g2⟩
    have hx : XS[i]? = some XS[i] := List.getElem?_eq_getElem (by omega)
    generalize XS[i] = x at hx
    obtain ⟨e, he, hdx⟩ := DpAll.at all hx
    obtain ⟨q1, q2, q3⟩ := door_eq i e hi he
    refine ⟨_, rfl, _, rfl, i, _, _, .int g, by omega, rfl, .of (.int g), .inr ⟨g, .int g, g1, sm, hi, fun v1 H3 g3 hv1 => ?_⟩⟩
    have g23 := g2.trans g3
    refine ⟨_, rfl, _, rfl, ix_of (.inl (SqL.of (g23 _ _ e_L))) (at_of (j := i) (by omega) hx) ⟨_, _, hv1, dp_keep g23 hdx, q2.ok, q3.ok, _, rfl, ?_⟩⟩
    rw [q1]
    refine iteF ⟨_, rfl, _, rfl, _, _, rfl, rfl, cmul (by decide), by show 2 ≤ sizeLine; decide, fun l3 h3 => ?_⟩
    have g4 := same_new g23 h3 (.lst [.int (3 * g), .int 3])
    have e4 : (upd H3 l3 (.lst [.int (3 * g), .int 3])) l3 = some (.lst [.int (3 * g), .int 3]) := upd_same
    generalize upd H3 l3 (.lst [.int (3 * g), .int 3]) = H4 at g4 e4
    refine ⟨i, _, _, .list [.int (3 * g), .int 3], by omega, rfl, .of (.lst (SqL.of e4) (.cons (.int _) (.cons (.int _) .nil))), .inr ⟨g, .three g _ rfl, g1, sm, hi, fun v5 H5 g5 hv5 => ?_⟩⟩
    have g45 := g4.trans g5
    refine ⟨_, rfl, _, rfl, ix_of (.inl (SqL.of (g45 _ _ e_L))) (at_of (j := i) (by omega) hx) ⟨_, _, hv5, dp_keep g45 hdx, q2.ok, q3.ok, _, rfl, ?_⟩⟩
    rw [q1]
    exact iteF ⟨_, rfl, g45⟩
  · rintro σ H2 ⟨x2, rfl, g2⟩
    -- the wrong ones
    refine .inr ⟨by show 2 ≤ sizeLine; decide, fun w1 k1 => ?_⟩
    have m1 := same_new (Same.refl H2) k1 (.tup [.int 1, .int 0])
    have f1 : (upd H2 w1 (.tup [.int 1, .int 0])) w1 = some (.tup [.int 1, .int 0]) := upd_same
    generalize upd H2 w1 (.tup [.int 1, .int 0]) = J1 at *
    refine ⟨by show 1 ≤ sizeLine; decide, fun w2 k2 => ?_⟩
    have m2 := same_new (Same.refl J1) k2 (.tup [.int 1])
    have f2 : (upd J1 w2 (.tup [.int 1])) w2 = some (.tup [.int 1]) := upd_same
    replace f1 := m2 _ _ f1
    generalize upd J1 w2 (.tup [.int 1]) = J2 at *
    refine ⟨by show 2 ≤ sizeLine; decide, fun w3 k3 => ?_⟩
    have m3 := same_new (Same.refl J2) k3 (.tup [.int 2, .bl true])
    have f3 : (upd J2 w3 (.tup [.int 2, .bl true])) w3 = some (.tup [.int 2, .bl true]) := upd_same
    replace f1 := m3 _ _ f1
    replace f2 := m3 _ _ f2
    generalize upd J2 w3 (.tup [.int 2, .bl true]) = J3 at *
    refine ⟨_, rfl, by show 2 ≤ sizeLine; decide, fun w4 k4 => ?_⟩
    have m4 := same_new (Same.refl J3) k4 (.tup [.int 1, .int (-2)])
    have f4 : (upd J3 w4 (.tup [.int 1, .int (-2)])) w4 = some (.tup [.int 1, .int (-2)]) := upd_same
    replace f1 := m4 _ _ f1
    replace f2 := m4 _ _ f2
    replace f3 := m4 _ _ f3
    generalize upd J3 w4 (.tup [.int 1, .int (-2)]) = J4 at *
    intro w5 k5
    have m5 := same_new (Same.refl J4) k5 (.dK [])
    have f5 : (upd J4 w5 (.dK [])) w5 = some (.dK []) := upd_same
    replace f1 := m5 _ _ f1
    replace f2 := m5 _ _ f2
    replace f3 := m5 _ _ f3
    replace f4 := m5 _ _ f4
    generalize upd J4 w5 (.dK []) = J5 at *
    refine ⟨by show 8 ≤ sizeLine; decide, fun T8 k8 => ?_⟩
    have m6 := same_new (Same.refl J5) k8 (.tup [.bl true, .str "1", .ref w1, .ref w2, .non, .ref w3, .ref w4, .ref w5])
    have f6 : (upd J5 T8 (.tup [.bl true, .str "1", .ref w1, .ref w2, .non, .ref w3, .ref w4, .ref w5])) T8 = some (.tup [.bl true, .str "1", .ref w1, .ref w2, .non, .ref w3, .ref w4, .ref w5]) := upd_same
    replace f1 := m6 _ _ f1
    replace f2 := m6 _ _ f2
    replace f3 := m6 _ _ f3
    replace f4 := m6 _ _ f4
    replace f5 := m6 _ _ f5
    generalize upd J5 T8 (.tup [.bl true, .str "1", .ref w1, .ref w2, .non, .ref w3, .ref w4, .ref w5]) = J6 at *
    have gJ : Same H J6 := (((((((S_L.trans g2).trans m1).trans m2).trans m3).trans m4).trans m5).trans m6)
    have wrong : ∀ (i : Nat) (x : V), ([.bl true, .str "1", .ref w1, .ref w2, .non, .ref w3, .ref w4, .ref w5] : List V)[i]? = some x → ∃ d, Da K J6 x d ∧ numD d = false := by
      intro i x h
      match i, h with
      | 0, h => cases h; exact ⟨_, .of (.bl true), rfl⟩
      | 1, h => cases h; exact ⟨_, .of (.str _), rfl⟩
      | 2, h => cases h; exact ⟨_, .of (rat_dp f1), by decide⟩
      | 3, h => cases h; exact ⟨_, .of (.tup (SqT.of f2) (.cons (.int _) .nil)), rfl⟩
      | 4, h => cases h; exact ⟨_, .of .non, rfl⟩
      | 5, h => cases h; exact ⟨_, .of (.tup (SqT.of f3) (.cons (.int _) (.cons (.bl _) .nil))), rfl⟩
      | 6, h => cases h; exact ⟨_, .of (rat_dp f4), by decide⟩
      | 7, h => cases h; exact ⟨.dict [], .inr ⟨rfl, w5, rfl, f5⟩, rfl⟩
    refine ⟨T8, rfl, ⟨_, SqT.of f6⟩, for_tup (K := K) (a := T8) (xs := [.bl true, .str "1", .ref w1, .ref w2, .non, .ref w3, .ref w4, .ref w5]) (fun i σ H' => ∃ x2 x4 hh, σ = [some (.int g), some (.ref L), x2, some (.int hh), x4] ∧ hh = 14 * (i : Int) ∧ Same J6 H') ⟨_, _, _, rfl, rfl, Same.refl _⟩ (fun i σ H' _ ⟨_, _, _, _, _, z⟩ => SqT.of (z _ _ f6)) ?_ ?_⟩
    · rintro i x σ H3 hi ⟨x2, x4, hh, rfl, eh, g3⟩
      obtain ⟨d, hd, nd⟩ := wrong i x hi
      refine ⟨14, rfl, by decide, by decide, for_range (n := 14) (fun j σ H' => ∃ x2 kk, σ = [some (.int g), some (.ref L), x2, some (.int kk), some x] ∧ kk = 14 * (i : Int) + (j : Int) ∧ Same J6 H') ⟨_, _, rfl, by omega, g3⟩ ?_ ?_⟩
      · rintro j σ H4 hj ⟨x2, kk, rfl, ek, g4⟩
        refine ⟨_, rfl, _, rfl, j, _, _, d, by omega, rfl, hd.keep g4, .inl ⟨nd, hj, fun H5 g5 => ⟨true, T.xmBadNumber, fun _ a ha => ?_, fun z => nomatch z⟩⟩⟩
        exact ⟨_, rfl, _, _, rfl, rfl, _, _, rfl, by omega, g4.trans g5⟩
      · rintro σ H4 ⟨x2, kk, rfl, ek, g4⟩
        exact ⟨_, _, _, rfl, by omega, g4⟩
    · rintro σ H3 ⟨x2, x4, hh, rfl, eh, g3⟩
      have e112 : hh = 112 := eh
      subst e112
      exact ⟨_, rfl, rfl, q _ (gJ.trans g3)⟩

end
end Hs
set_option maxHeartbeats 8000000
namespace Hs
open PySem L2
abbrev sFeed : Stmt := topH 38
abbrev sPick : Stmt := topH 39
/-! what the feed hands back: a new list of ints whose first one is the place of the next -/
def spFeed (K : PySem.W.Frag) : Sp := fun vs H Q _ => ∃ (a : Addr) (ns : List Int), vs = [.ref a] ∧ SqL K H a (ns.map V.int) ∧ ns.length ≤ 63 ∧
  ∀ (l : Addr) (H' : Hp) (r : List Int), Same H H' → H l = none → H' l = some (.lst ((1 :: r).map V.int)) → r.length ≤ 6048 → Q (.ref l) H'
/-- a drawn number: below `many`; the feed's place moves, all else stays -/
def spPick : Sp := fun vs H Q _ => ∃ (l : Addr) (p m : Int) (r : List Int), vs = [.ref l, .int m] ∧ 0 < m ∧ 1 ≤ p ∧ r.length ≤ 6048 ∧ H l = some (.lst ((p :: r).map V.int)) ∧
  ∀ (v q : Int), 0 ≤ v → v < m → 1 ≤ q → Q (.int v) (upd H l (.lst ((q :: r).map V.int)))
theorem same_at {H H' : Hp} {l : Addr} (s : Same H H') (n : H l = none) (o : HO) : Same H (upd H' l o) := fun b u q => by
  rw [upd_ne (ne_of_none q n)]
  exact s b u q
theorem upd_id {H : Hp} {l : Addr} {o : HO} (h : H l = some o) : upd H l o = H := by
  funext b
  by_cases e : b = l
  · rw [e, upd_same, h]
  · rw [upd_ne e]
theorem six_k {n : Nat} (h : n ≤ 6048) : (n + 1) < sizeLine := Nat.lt_of_le_of_lt (Nat.succ_le_succ h) (by decide)
theorem cut_int {ns : List Int} {lo hi : Option Int} {i : Nat} {y : V} (h : (cutV (ns.map V.int) lo hi)[i]? = some y) : ∃ u, y = V.int u := by
  have m : y ∈ cutV (ns.map V.int) lo hi := List.mem_of_getElem? h
  have m2 : y ∈ ns.map V.int := List.mem_of_mem_drop (List.mem_of_mem_take m)
  obtain ⟨u, _, e⟩ := List.mem_map.mp m2
  exact ⟨u, e.symm⟩
theorem app_int (p : Int) (r : List Int) (v : Int) : ((p :: r).map V.int) ++ [V.int v] = ((p :: (r ++ [v])).map V.int) := by
  simp
theorem first_ix {p : Int} {r : List Int} : ixN ((p :: r).map V.int).length 0 = some 0 := by
  unfold ixN
  rw [if_pos (Int.le_refl 0), if_pos (by rw [List.length_map, List.length_cons]; omega)]
  rfl
theorem mod_lt {a m : Int} (h : 0 < m) : 0 ≤ a % m ∧ a % m < m := ⟨Int.emod_nonneg _ (by omega), Int.emod_lt_of_pos _ h⟩
section
variable {P : Program} {w : World} {K : PySem.W.Frag} {mg : Str → Option Value} {base : Heap}
theorem scFeed : FnScope ["_law_script", "_law_feed_here", "_law_seat", "_law_cell", "_law_size", "_law_heap", "_law_turn", "_law_high", "_law_low"] ["_law_script"] (defScope sFeed) :=
  ⟨rfl, rfl, rfl, by decide +kernel, rfl, by decide +kernel, by decide +kernel⟩
theorem ok_feed {f : Addr} {fd : FuncData} (F : Fun K "_law_feed" "_law_feed" sFeed f fd) (mAbs : mg "abs" = none) (mRange : mg "range" = none) (mInt : mg "int" = none) :
    FnOk P w K mg base CX0 1 f fd ["_law_script"] (spFeed K) := by
  refine F.ok scFeed (fun vs H Q E h => ?_) (fun cdv A outer s H vs Q E hr h => ?_)
  · obtain ⟨a, ns, rfl, _⟩ := h
    rfl
  obtain ⟨a, ns, rfl, hS, h63, q⟩ := h
  refine ⟨_, (pss_cons (ps_set (i := 1) scFeed.nd rfl (Or.inl rfl) (pe_lst (pa_cons pe_int pa_nil)))
 (pss_cons (ps_set (i := 2) scFeed.nd rfl (Or.inl rfl) pe_int)
 (pss_cons (ps_for PassesOwn.never rfl (pi_list (pe_slice sl_list (pv 0) po_none (po_some pe_int))) (pg_name (i := 3) scFeed.nd rfl (Or.inl rfl))
 (pss_cons (ps_set (i := 2) scFeed.nd rfl (Or.inl rfl) (pe_op op_add (pv 2) pe_int))
 (pss_cons (ps_set (i := 4) scFeed.nd rfl (Or.inl rfl) (pe_callB call_abs (by rfl) mAbs (by decide +kernel) (pa_cons (pv 3) pa_nil)))
 (pss_one (ps_if (pt_cmpR op_ge (pv 4) (pe_op op_pow pe_int pe_int) (nomark _)) (pss_cons (ps_set (i := 5) scFeed.nd rfl (Or.inl rfl) (pe_op op_sub (pv 4) (pe_op op_pow pe_int pe_int)))
 (pss_one (ps_for PassesOwn.never rfl (pi_range1 (by rfl) mRange (pa_cons pe_int pa_nil)) (pg_name (i := 6) scFeed.nd rfl (Or.inl rfl))
 (pss_one (ps_if (pt_cmpR op_gt (pv 5) pe_int (nomark _)) (pss_cons (ps_expr (pe_bm PySem.F.plainAttrs_list PySem.F.slot_list_append PySem.F.type_list_append mt_append (pv 1) (pa_cons (pe_op op_mod (pe_callTy call_int1 (by rfl) mInt (by decide +kernel) (pa_cons (pv 5) pa_nil)) pe_int) pa_nil)))
 (pss_one (ps_set (i := 5) scFeed.nd rfl (Or.inl rfl) (pe_op op_fdiv (pv 5) pe_int)))) pss_nil))))) (pss_cons (ps_set (i := 7) scFeed.nd rfl (Or.inl rfl) (pe_op op_mod (pe_callTy call_int1 (by rfl) mInt (by decide +kernel) (pa_cons (pe_op op_add (pe_op op_mul (pv 4) pe_int) (pe_op op_mul (pv 2) pe_int)) pa_nil)) pe_int))
 (pss_cons (ps_set (i := 8) scFeed.nd rfl (Or.inl rfl) (pe_op op_mod (pe_callTy call_int1 (by rfl) mInt (by decide +kernel) (pa_cons (pe_op op_add (pe_op op_add (pv 4) (pe_op op_mul (pv 2) (pv 2))) pe_int) pa_nil)) pe_int))
 (pss_cons (ps_if (pt_cmpR op_lt (pv 3) pe_int (nomark _)) (pss_one (ps_set (i := 8) scFeed.nd rfl (Or.inl rfl) (pe_op op_add (pv 8) pe_int))) pss_nil)
 (pss_one (ps_for PassesOwn.never rfl (pi_range1 (by rfl) mRange (pa_cons pe_int pa_nil)) (pg_name (i := 6) scFeed.nd rfl (Or.inl rfl))
 (pss_cons (ps_set (i := 7) scFeed.nd rfl (Or.inl rfl) (pe_op op_mod (pe_callTy call_int1 (by rfl) mInt (by decide +kernel) (pa_cons (pe_op op_add (pe_op op_mul (pv 7) pe_int) (pv 8)) pa_nil)) pe_int))
 (pss_cons (ps_set (i := 8) scFeed.nd rfl (Or.inl rfl) (pe_op op_mod (pe_callTy call_int1 (by rfl) mInt (by decide +kernel) (pa_cons (pe_op op_add (pe_op op_add (pe_op op_mul (pv 8) pe_int) (pe_op op_mul (pv 7) (pv 7))) (pv 6)) pa_nil)) pe_int))
 (pss_one (ps_expr (pe_bm PySem.F.plainAttrs_list PySem.F.slot_list_append PySem.F.type_list_append mt_append (pv 1) (pa_cons (pe_op op_add (pv 7) (pv 8)) pa_nil))))))))))))))))
 (pss_one (ps_ret (pv 1)))))), ?_⟩
  refine ⟨by show 1 ≤ sizeLine; decide, fun l hl => ?_⟩
  have g1 : Same H (upd H l (.lst [.int 1])) := same_at (Same.refl H) hl _
  refine ⟨_, rfl, 63, rfl, a, _, rfl, g1.seq hS, fun p hp => ?_⟩
  have hp0 : H p = none := g1.free hp
  have npl : p ≠ l := fun e => by
    rw [e, upd_same] at hp
    cases hp
  have g2 : Same H (upd (upd H l (.lst [.int 1])) p (.lst (cutV (ns.map V.int) none (some 63)))) := same_at g1 hp0 _
  have hcl : (cutV (ns.map V.int) none (some 63)).length ≤ 63 := by
    have z := cutV_length (ns.map V.int) none (some 63)
    rw [List.length_map] at z
    omega
  refine ⟨p, rfl, ⟨_, SqL.of upd_same⟩, for_list (K := K) (a := p) (xs := cutV (ns.map V.int) none (some 63)) (fun i σ H' => ∃ (r : List Int) (v3 v4 v5 v6 v7 v8 : Option V),
      σ = [some (.ref a), some (.ref l), some (.int (i : Int)), v3, v4, v5, v6, v7, v8] ∧ Same H H' ∧ H' p = some (.lst (cutV (ns.map V.int) none (some 63))) ∧ H' l = some (.lst ((1 :: r).map V.int)) ∧ r.length ≤ 96 * i)
      ⟨[], none, none, none, none, none, none, rfl, g2, upd_same, by rw [upd_ne npl.symm, upd_same]; rfl, Nat.le_refl _⟩ (fun i σ H' _ ⟨_, _, _, _, _, _, _, _, _, hP, _⟩ => SqL.of hP) ?_ ?_⟩
  · rintro i y σ H' hi ⟨r, v3, v4, v5, v6, v7, v8, rfl, gs, hP, hL, hlen⟩
    have hi63 : i < 63 := Nat.lt_of_lt_of_le (List.getElem?_eq_some_iff.mp hi).1 hcl
    obtain ⟨u, rfl⟩ := cut_int hi
    refine ⟨_, rfl, _, _, rfl, rfl, ?_⟩
    refine ⟨_, rfl, u, rfl, ?_⟩
    refine ⟨_, rfl, _, _, rfl, rfl, ⟨by decide, by decide, by decide⟩, _, _, rfl, rfl, _, rfl, ?_⟩
    refine ite2 (fun _ => ?_) (fun hsm => ?_)
    · refine ⟨_, rfl, _, _, rfl, rfl, ⟨by decide, by decide, by decide⟩, _, _, rfl, rfl, ?_⟩
      refine ⟨96, rfl, by decide, by decide, for_range (n := 96) (fun j σ H2 => ∃ (r2 : List Int) (hp : Int) (v6' : Option V),
        σ = [some (.ref a), some (.ref l), some (.int ((i : Int) + 1)), some (.int u), some (.int (if u < 0 then -u else u)), some (.int hp), v6', v7, v8] ∧ Same H H2 ∧ H2 p = some (.lst (cutV (ns.map V.int) none (some 63))) ∧ H2 l = some (.lst ((1 :: r2).map V.int)) ∧ r2.length ≤ 96 * i + j)
        ⟨r, _, v6, rfl, gs, hP, hL, hlen⟩ ?_ ?_⟩
      · rintro j σ H2 hj ⟨r2, hp, v6', rfl, gs2, hP2, hL2, hlen2⟩
        refine ⟨_, rfl, _, _, rfl, rfl, _, rfl, ?_⟩
        refine ite2 (fun _ => ?_) (fun _ => ?_)
        · refine ⟨_, rfl, .inl ⟨rfl, _, SqL.of hL2⟩, _, rfl, .inl ⟨_, rfl, _, _, rfl, rfl, (by show (0 : Int) < 840; decide), ?_⟩⟩
          refine ⟨l, _, _, rfl, rfl, hL2, ?_, ?_⟩
          · rw [List.length_map, List.length_cons]
            exact six_k (by omega)
          · refine ⟨_, rfl, _, _, rfl, rfl, ⟨by decide, by decide⟩, ?_⟩
            refine ⟨r2 ++ [hp % 840], _, _, rfl, same_at gs2 hl _, by rw [upd_ne npl]; exact hP2, by rw [upd_same, app_int], ?_⟩
            rw [List.length_append, List.length_singleton]
            omega
        · exact ⟨r2, hp, _, rfl, gs2, hP2, hL2, by omega⟩
      · rintro σ H2 ⟨r2, hp, v6', rfl, gs2, hP2, hL2, hlen2⟩
        exact ⟨r2, _, _, _, _, _, _, rfl, gs2, hP2, hL2, by omega⟩
    · refine ⟨_, rfl, _, _, rfl, rfl, .inr ⟨by decide, by decide⟩, _, rfl, _, _, rfl, rfl, .inr ⟨by decide, by decide⟩, _, _, rfl, rfl, .inl ⟨_, rfl, _, _, rfl, rfl, (by show (0 : Int) < 90001; decide), ?_⟩⟩
      refine ⟨_, rfl, _, rfl, _, rfl, _, _, rfl, rfl, .inl ⟨by omega, by omega⟩, _, _, rfl, rfl, _, _, rfl, rfl, .inl ⟨_, rfl, _, _, rfl, rfl, (by show (0 : Int) < 100003; decide), ?_⟩⟩
      refine ⟨_, rfl, _, _, rfl, rfl, _, rfl, ?_⟩
      refine ite2 (fun _ => ⟨_, rfl, _, _, rfl, rfl, ?_⟩) (fun _ => ?_)
      all_goals
        refine ⟨9, rfl, by decide, by decide, for_range (n := 9) (fun j σ H2 => ∃ (r2 : List Int) (hg lw : Int) (v6' : Option V),
          σ = [some (.ref a), some (.ref l), some (.int ((i : Int) + 1)), some (.int u), some (.int (if u < 0 then -u else u)), v5, v6', some (.int hg), some (.int lw)] ∧ 0 ≤ hg ∧ hg < 90001 ∧ Same H H2 ∧ H2 p = some (.lst (cutV (ns.map V.int) none (some 63))) ∧ H2 l = some (.lst ((1 :: r2).map V.int)) ∧ r2.length ≤ 96 * i + j)
          ⟨r, _, _, v6, rfl, (mod_lt (by decide)).1, (mod_lt (by decide)).2, gs, hP, hL, hlen⟩ ?_ ?_⟩
        · rintro j σ H2 hj ⟨r2, hg, lw, v6', rfl, hg0, hg1, gs2, hP2, hL2, hlen2⟩
          refine ⟨_, rfl, _, _, rfl, rfl, .inr ⟨by decide, by decide⟩, _, rfl, _, _, rfl, rfl, .inl ⟨_, rfl, _, _, rfl, rfl, (by show (0 : Int) < 90001; decide), ?_⟩⟩
          have m1 := mod_lt (a := hg * 331 + lw) (m := 90001) (by decide)
          refine ⟨_, rfl, _, _, rfl, rfl, .inr ⟨by decide, by decide⟩, _, rfl, _, rfl, _, _, rfl, rfl, .inl ⟨by omega, by omega⟩, _, _, rfl, rfl, _, rfl, _, _, rfl, rfl, .inl ⟨_, rfl, _, _, rfl, rfl, (by show (0 : Int) < 100003; decide), ?_⟩⟩
          refine ⟨_, rfl, .inl ⟨rfl, _, SqL.of hL2⟩, _, rfl, _, rfl, _, _, rfl, rfl, l, _, _, rfl, rfl, hL2, ?_, ?_⟩
          · rw [List.length_map, List.length_cons]
            exact six_k (by omega)
          · refine ⟨r2 ++ [_], _, _, _, rfl, m1.1, m1.2, same_at gs2 hl _, by rw [upd_ne npl]; exact hP2, by rw [upd_same, app_int], ?_⟩
            rw [List.length_append, List.length_singleton]
            omega
        · rintro σ H2 ⟨r2, hg, lw, v6', rfl, hg0, hg1, gs2, hP2, hL2, hlen2⟩
          exact ⟨r2, _, _, _, _, _, _, rfl, gs2, hP2, hL2, by omega⟩
  · rintro σ H' ⟨r, v3, v4, v5, v6, v7, v8, rfl, gs, hP, hL, hlen⟩
    exact ⟨_, rfl, q l H' r gs hl hL (by omega)⟩
theorem scPick : FnScope ["_law_feed_here", "_law_many", "_law_place"] ["_law_feed_here", "_law_many"] (defScope sPick) :=
  ⟨rfl, rfl, rfl, by decide +kernel, rfl, by decide +kernel, by decide +kernel⟩
theorem ok_pick {f : Addr} {fd : FuncData} (F : Fun K "_law_pick" "_law_pick" sPick f fd) (mLen : mg "len" = none) (mInt : mg "int" = none) :
    FnOk P w K mg base CX0 1 f fd ["_law_feed_here", "_law_many"] spPick := by
  refine F.ok scPick (fun vs H Q E h => ?_) (fun cdv A outer s H vs Q E hr h => ?_)
  · obtain ⟨l, p, m, r, rfl, _⟩ := h
    rfl
  obtain ⟨l, p, m, r, rfl, hm, hp, hlen, hL, q⟩ := h
  refine ⟨_, (pss_cons (ps_set (i := 2) scPick.nd rfl (Or.inl rfl) (pe_ix ix_list (pv 0) pe_int (fun _ _ => rfl)))
 (pss_cons (ps_if (pt_cmpR op_ge (pv 2) (pe_callB call_len_seq (by rfl) mLen PySem.boot_len (pa_cons (pv 0) pa_nil)) (nomark _)) (pss_one (ps_ret pe_int)) pss_nil)
 (pss_cons (ps_asg (pe_op op_add (pv 2) pe_int) (pg_sub (pv 0) pe_int set_list))
 (pss_one (ps_ret (pe_op op_mod (pe_callTy call_int1 (by rfl) mInt (by decide +kernel) (pa_cons (pe_ix ix_list (pv 0) (pv 2) (fun _ _ => rfl)) pa_nil)) (pv 1))))))), ?_⟩
  refine ⟨_, rfl, l, _, _, _, rfl, rfl, SqL.of hL, atI_nat (j := 0) rfl, ?_⟩
  refine ⟨_, rfl, _, rfl, l, _, rfl, .inl (SqL.of hL), _, _, rfl, rfl, _, rfl, ?_⟩
  refine ite2 (fun _ => ?_) (fun c => ?_)
  · have z := q 0 p (Int.le_refl 0) hm hp
    rw [upd_id hL] at z
    exact z
  · have c' : ¬ p ≥ ((((p :: r).map V.int).length : Nat) : Int) := of_decide_eq_false (Bool.eq_false_iff.mpr c)
    rw [List.length_map, List.length_cons] at c'
    have hp2 : p.toNat < (p :: r).length := by
      rw [List.length_cons]
      omega
    obtain ⟨x, hx⟩ : ∃ x, (p :: r)[p.toNat]? = some x := ⟨_, List.getElem?_eq_getElem hp2⟩
    have hx2 : atI (((p + 1) :: r).map V.int) p = some (V.int x) := by
      have e : p = ((p.toNat : Nat) : Int) := by omega
      rw [e]
      refine atI_nat ?_
      have k : ∃ k, p.toNat = k + 1 := ⟨p.toNat - 1, by omega⟩
      obtain ⟨k, ek⟩ := k
      rw [ek] at hx ⊢
      simp only [List.getElem?_cons_succ, List.map_cons, List.getElem?_map] at hx ⊢
      rw [hx]
      rfl
    refine ⟨_, rfl, _, _, rfl, rfl, _, rfl, l, _, 0, 0, rfl, rfl, hL, first_ix, ?_⟩
    refine ⟨_, rfl, _, rfl, l, _, _, _, rfl, rfl, SqL.of upd_same, hx2, .inl ⟨_, rfl, _, rfl, _, _, rfl, rfl, hm, ?_⟩⟩
    exact q (x % m) (p + 1) (mod_lt hm).1 (mod_lt hm).2 (by omega)
end
end Hs
set_option maxHeartbeats 8000000
namespace Hs
open PySem L2
/-! ## the law: things drawn -/
/-- all stands but the feed -/
def Lx (L : Addr) (H H' : Hp) : Prop := ∀ b u, b ≠ L → H b = some u → H' b = some u
def FdAt (H : Hp) (L : Addr) : Prop := ∃ (p : Int) (r : List Int), 1 ≤ p ∧ r.length ≤ 6048 ∧ H L = some (.lst ((p :: r).map V.int))
/-- what is new in H' -/
def newH (H H' : Hp) : Hp := fun b => if (H b).isSome then none else H' b
theorem newH_at {H H' : Hp} {b : Addr} {u : HO} (h : newH H H' b = some u) : H b = none ∧ H' b = some u := by
  unfold newH at h
  cases e : H b with
  | none =>
    rw [e] at h
    exact ⟨rfl, h⟩
  | some o =>
    rw [e] at h
    cases h
theorem newH_of {H H' : Hp} {b : Addr} {u : HO} (n : H b = none) (h : H' b = some u) : newH H H' b = some u := by
  unfold newH
  rw [n]
  exact h
theorem Lx.refl (L : Addr) (H : Hp) : Lx L H H := fun _ _ _ e => e
theorem Lx.trans {L : Addr} {H H1 H2 : Hp} (a : Lx L H H1) (b : Lx L H1 H2) : Lx L H H2 := fun c u n e => b c u n (a c u n e)
theorem Lx.of {L : Addr} {H H' : Hp} (s : Same H H') : Lx L H H' := fun b u _ e => s b u e
theorem Lx.upd (L : Addr) (H : Hp) (o : HO) : Lx L H (upd H L o) := fun b u n e => by
  rw [upd_ne n]
  exact e
theorem FdAt.some {H : Hp} {L : Addr} (f : FdAt H L) : ∃ u, H L = some u := let ⟨_, _, _, _, e⟩ := f; ⟨_, e⟩
theorem FdAt.keep {H H' : Hp} {L : Addr} (f : FdAt H L) (s : Same H H') : FdAt H' L := let ⟨p, r, a, b, e⟩ := f; ⟨p, r, a, b, s _ _ e⟩
/-- what was new stays, whatever the feed does -/
theorem newH_keep {L : Addr} {H H1 H2 : Hp} (f : FdAt H L) (g : Lx L H1 H2) : Same (newH H H1) H2 := fun b u e => by
  obtain ⟨n, e2⟩ := newH_at e
  refine g b u (fun z => ?_) e2
  obtain ⟨o, eo⟩ := f.some
  rw [z, eo] at n
  cases n
theorem newH_mono {L : Addr} {H H1 H2 : Hp} (f : FdAt H L) (g : Lx L H1 H2) : Same (newH H H1) (newH H H2) := fun b u e => newH_of (newH_at e).1 (newH_keep f g b u e)
theorem newH_later {L : Addr} {H H1 H2 : Hp} (f1 : FdAt H1 L) (g : Lx L H H1) : Same (newH H1 H2) (newH H H2) := fun b u e => by
  obtain ⟨n, e2⟩ := newH_at e
  refine newH_of ?_ e2
  cases q : H b with
  | none => rfl
  | some o =>
    by_cases z : b = L
    · obtain ⟨o2, eo⟩ := f1.some
      rw [z, eo] at n
      cases n
    · rw [g b o z q] at n
      cases n
theorem newH_same (H H' : Hp) : Same (newH H H') H' := fun b u e => (newH_at e).2
/-- a draw, in the feed's heap -/
theorem pick_at {H : Hp} {L : Addr} {m : Int} {Q : VK} {E : XK} (f : FdAt H L) (hm : 0 < m) (q : ∀ (v : Int) H', 0 ≤ v → v < m → Lx L H H' → FdAt H' L → (∀ b, b ≠ L → H' b = H b) → Q (.int v) H') : spPick [.ref L, .int m] H Q E := by
  obtain ⟨p, r, hp, hr, e⟩ := f
  exact ⟨L, p, m, r, rfl, hm, hp, hr, e, fun v k v0 vm k1 => q v _ v0 vm (Lx.upd L H _) ⟨k, r, k1, hr, upd_same⟩ fun b n => upd_ne n⟩
/-- tuples of plain things -/
inductive Flat : Nat → PyData → Prop where
  | int (n : Nat) (i : Int) : Flat n (.int i)
  | str (n : Nat) (x : Str) : Flat n (.str x)
  | tup (n : Nat) (ds : List PyData) (h : ∀ d ∈ ds, Flat n d) : Flat (n + 1) (.tuple ds)
theorem dpAll_map {K : PySem.W.Frag} {H H' : Hp} : ∀ {ds : List PyData} {vs : List V}, (∀ d ∈ ds, ∀ v, Dp K H v d → Dp K H' v d) → DpAll K H vs ds → DpAll K H' vs ds
  | [], _, _, .nil => .nil
  | d :: ds, _, f, .cons h t => .cons (f d List.mem_cons_self _ h) (dpAll_map (fun e he => f e (List.mem_cons_of_mem _ he)) t)
theorem Flat.keep {K : PySem.W.Frag} {H H' : Hp} (g : KeepsT H H') {n : Nat} {d : PyData} (f : Flat n d) : ∀ v, Dp K H v d → Dp K H' v d := by
  induction f with
  | int n i =>
    intro v h
    cases h
    exact .int i
  | str n x =>
    intro v h
    cases h
    exact .str x
  | tup n ds h ih =>
    intro v hv
    cases hv with
    | tup s t =>
      refine .tup ?_ (dpAll_map (fun d m v h => ih d m v h) t)
      rcases s with (e | ⟨o, e⟩) | k
      · exact .inl (.inl (g.1 _ _ e))
      · exact .inl (.inr ⟨o, g.2 _ _ _ e⟩)
      · exact .inr k
theorem due_cases (m st : Int) (d : PyData) (sm : Sml8 d) : (∃ i, due m st d = dBad i) ∨ ∃ ns : List Int, due m st d = dGood (ns.map PyData.int) ∧ ns.length ≤ 1000 ∧ seqD d = some (ns.map PyData.int) := by
  cases es : seqD d with
  | none =>
    refine .inl ⟨-1, ?_⟩
    unfold due
    rw [es]
  | some ds =>
    by_cases al : ∀ j < ds.length, okAt m st ds j = true
    · refine .inr ⟨ds.map intOf, ?_, by rw [List.length_map]; exact sm ds es, ?_⟩
      all_goals
        have e : (ds.map intOf).map PyData.int = ds := by
          rw [List.map_map]
          refine List.ext_getElem? fun i => ?_
          rw [List.getElem?_map]
          cases h : ds[i]? with
          | none => rfl
          | some x =>
            obtain ⟨v, e2, _⟩ := okAt_int (al i (List.getElem?_eq_some_iff.mp h).1)
            rw [h] at e2
            cases e2
            rfl
        rw [e]
      exact due_good es al
    · refine .inl ?_
      have f : ∃ i, (List.range ds.length).find? (fun i => !okAt m st ds i) = some i := by
        cases h : (List.range ds.length).find? (fun i => !okAt m st ds i) with
        | some i => exact ⟨i, rfl⟩
        | none =>
          rw [List.find?_range_eq_none] at h
          exact absurd (fun j hj => by simpa using h j hj) al
      obtain ⟨i, f⟩ := f
      refine ⟨i, ?_⟩
      unfold due
      rw [es]
      show (match (List.range ds.length).find? (fun i => !okAt m st ds i) with
        | some i => dBad i
        | none => dGood ds) = _
      rw [f]
theorem due_flat (m st : Int) (d : PyData) (sm : Sml8 d) : Flat 3 (due m st d) ∧ Shp 5 (due m st d) := by
  rcases due_cases m st d sm with ⟨i, e⟩ | ⟨ns, e, _, _⟩
  · rw [e]
    refine ⟨.tup 2 _ fun d hd => ?_, shp_two (n := 4) (.str (by decide +kernel)) (.int _)⟩
    rcases List.mem_cons.mp hd with rfl | hd
    · exact .str _ _
    · obtain rfl : d = .int i := by simpa using hd
      exact .int _ _
  · rw [e]
    refine ⟨.tup 2 _ fun d hd => ?_, shp_two (n := 4) (.str (by decide +kernel)) (.tup (n := 3) fun d hd => ?_)⟩
    · rcases List.mem_cons.mp hd with rfl | hd
      · exact .str _ _
      · obtain rfl : d = .tuple (ns.map PyData.int) := by simpa using hd
        exact .tup 1 _ fun d hd => by
          obtain ⟨k, _, rfl⟩ := List.mem_map.mp hd
          exact .int _ _
    · obtain ⟨k, _, rfl⟩ := List.mem_map.mp hd
      exact .int _
section
variable {P : Program} {w : World} {K : PySem.W.Frag} {mg : Str → Option Value} {base : Heap} {tk : Tok × Tok × Tok}
theorem sc__law_kept : FnScope ["_law_value", "_law_many", "_law_first"] ["_law_value", "_law_many"] (defScope (topH 52)) := ⟨rfl, rfl, rfl, by decide +kernel, rfl, by decide +kernel, by decide +kernel⟩
theorem ok__law_kept {f : Addr} {fd : FuncData} (F : Fun K "_law_kept" "_law_kept" (topH 52) f fd) (T : Tx K mg tk) {fLasking_told : Addr} {fdLasking_told : FuncData} (GLasking_told : FnOk P w K mg base CX0 5 fLasking_told fdLasking_told ["_law_value", "_law_many"] (fun vs H Q _ => ∃ v d m, vs = [v, .int m] ∧ Dp K H v d ∧ Dat K Q H (due m 0 d))) (KLasking_told : PySem.W.keepIn K (.ref fLasking_told) = true) (BLasking_told : Binds K fdLasking_told ["_law_value", "_law_many"] []) (MLasking_told : mg "_law_asking_told" = some (.ref fLasking_told)) :
    FnOk P w K mg base CX0 6 f fd ["_law_value", "_law_many"] (fun vs H Q _ => ∃ v d m, vs = [v, .int m] ∧ Dp K H v d ∧ (∀ ds, d = .list ds → ∃ a xs, v = .ref a ∧ H a = some (.lst xs) ∧ xs.length ≤ 10) ∧ ∀ v1 H1 H', Same H H1 → Dp K H1 v1 (due m 0 d) → (H' = H1 ∨ ∃ ds a xs o, d = .list ds ∧ v = .ref a ∧ H a = some (.lst xs) ∧ H' = upd H1 a (.lst o)) → Q v1 H') := by
  refine F.ok sc__law_kept (fun vs H Q E h => ?_) (fun cdv A outer s H vs Q E hr h => ?_)
  · obtain ⟨v, d, m, rfl, _⟩ := h
    rfl
  obtain ⟨v, d, m, rfl, hd, hl, q⟩ := h
  refine ⟨_, (pss_cons (ps_set (i := 2) sc__law_kept.nd rfl (Or.inl rfl) (pe_call GLasking_told (hr.mono (by decide)) (by rfl) MLasking_told KLasking_told BLasking_told .nil pass0 (pa_cons (pv 0) (pa_cons (pv 1) pa_nil))))
 (pss_cons (ps_if (pt_val (pe_callB call_isi (by rfl) T.isi isi_b (pa_cons (pv 0) (pa_cons (pe_bltn (v := .ty "list") (by rfl) T.list list_b rfl) pa_nil)))) (pss_one (ps_expr (pe_bm PySem.F.plainAttrs_list PySem.F.slot_list_append PySem.F.type_list_append mt_append (pv 0) (pa_cons pe_int pa_nil)))) pss_nil)
 (pss_one (ps_ret (pv 2))))), ?_⟩
  refine ⟨_, rfl, _, rfl, v, d, m, rfl, hd, fun v1 H1 s1 h1 => ?_⟩
  refine ⟨_, rfl, _, _, _, _, _, rfl, .ty _, ty_keep s1 (Da.of hd).ty, kit_list d, _, rfl, ?_⟩
  cases el : isLs d with
  | false => exact iteF ⟨_, rfl, q v1 H1 H1 s1 h1 (.inl rfl)⟩
  | true =>
    cases d with
    | list ds =>
      obtain ⟨a, xs, rfl, ha, l10⟩ := hl ds rfl
      refine iteT ⟨_, rfl, .inl ⟨rfl, _, SqL.of (s1 _ _ ha)⟩, a, _, _, rfl, rfl, s1 _ _ ha, Nat.lt_of_le_of_lt l10 (by decide), _, rfl, ?_⟩
      exact q v1 H1 _ s1 h1 (.inr ⟨ds, a, xs, _, rfl, rfl, ha, rfl⟩)
    | _ => cases el

theorem sc__law_spots : FnScope ["_law_looks", "_law_sizes", "_law_spots_here", "_law_look", "_law_answer"] ["_law_looks", "_law_sizes"] (defScope (topH 41)) := ⟨rfl, rfl, rfl, by decide +kernel, rfl, by decide +kernel, by decide +kernel⟩
theorem ok__law_spots {f : Addr} {fd : FuncData} (F : Fun K "_law_spots" "_law_spots" (topH 41) f fd) (T : Tx K mg tk) :
    FnOk P w K mg base CX0 1 f fd ["_law_looks", "_law_sizes"] (fun vs H Q _ => ∃ (a b : Addr) (k n : Int) (ns : List Int), vs = [.ref a, .ref b] ∧ H a = some (.lst [.int k]) ∧ SqL K H b (ns.map V.int) ∧ atI (ns.map V.int) k = some (.int n) ∧ 0 ≤ n ∧ n ≤ 100 ∧ ∀ (l : Addr) (ts : List Addr) (H' : Hp), Same H H' → H l = none → H' l = some (.lst (ts.map V.ref)) → ts.length ≤ 100 → (∀ t ∈ ts, ∃ j : Int, H' t = some (.tup [.int k, .int j])) → Q (.ref l) H') := by
  refine F.ok sc__law_spots (fun vs H Q E h => ?_) (fun cdv A outer s H vs Q E hr h => ?_)
  · obtain ⟨a, b, k, n, ns, rfl, _⟩ := h
    rfl
  obtain ⟨a, b, k, n, ns, rfl, ha, hb, hn, n0, n100, q⟩ := h
  refine ⟨_, (pss_cons (ps_set (i := 2) sc__law_spots.nd rfl (Or.inl rfl) (pe_lst pa_nil))
 (pss_cons (ps_for PassesOwn.never rfl (pi_or (pi_list (pv 0)) (pi_tup (pv 0))) (pg_name (i := 3) sc__law_spots.nd rfl (Or.inl rfl))
 (pss_one (ps_for PassesOwn.never rfl (pi_range1 (by rfl) T.range (pa_cons (pe_ix (r := rIx K) ix_seq (pv 1) (pv 3) (fun _ _ => rfl)) pa_nil)) (pg_name (i := 4) sc__law_spots.nd rfl (Or.inl rfl))
 (pss_one (ps_expr (pe_bm PySem.F.plainAttrs_list PySem.F.slot_list_append PySem.F.type_list_append mt_append (pv 2) (pa_cons (pe_tup (pa_cons (pv 3) (pa_cons (pv 4) pa_nil))) pa_nil)))))))
 (pss_one (ps_ret (pv 2))))), ?_⟩
  refine ⟨by show 0 ≤ sizeLine; decide, fun l hl => ?_⟩
  have s1 : Same H (upd H l (.lst [])) := same_new (Same.refl H) hl _
  have e1 : (upd H l (.lst [])) l = some (.lst (([] : List Addr).map V.ref)) := upd_same
  generalize upd H l (.lst []) = H1 at s1 e1
  refine .inl ⟨_, rfl, a, rfl, ⟨_, SqL.of (s1 _ _ ha)⟩, for_list (K := K) (a := a) (xs := [.int k]) (fun i σ H' => ∃ x3 x4 ts, σ = [some (.ref a), some (.ref b), some (.ref l), x3, x4] ∧ Same H H' ∧ H' l = some (.lst ((ts : List Addr).map V.ref)) ∧ ts.length ≤ 100 * i ∧ (∀ t ∈ ts, ∃ j : Int, H' t = some (.tup [.int k, .int j]))) ⟨none, none, [], rfl, s1, e1, Nat.le_refl _, fun t h => absurd h List.not_mem_nil⟩ (fun i σ H' _ ⟨_, _, _, _, z, _⟩ => SqL.of (z _ _ ha)) ?_ ?_⟩
  · rintro i x σ H2 hi ⟨x3, x4, ts, rfl, g2, el, len, prs⟩
    match i, hi with
    | 0, hi =>
      obtain rfl : V.int k = x := Option.some.inj hi
      obtain rfl : ts = [] := List.length_eq_zero_iff.mp (Nat.le_zero.mp len)
      refine ⟨_, rfl, _, rfl, ix_of (.inl ((Keeps.of g2).sqL hb)) hn ⟨n, rfl, by omega, by omega, for_range (n := n.toNat) (fun j σ H' => ∃ x4 ts, σ = [some (.ref a), some (.ref b), some (.ref l), some (.int k), x4] ∧ Same H H' ∧ H' l = some (.lst ((ts : List Addr).map V.ref)) ∧ ts.length = j ∧ (∀ t ∈ ts, ∃ j : Int, H' t = some (.tup [.int k, .int j]))) ⟨_, [], rfl, g2, el, rfl, fun t h => absurd h List.not_mem_nil⟩ ?_ ?_⟩⟩
      · rintro j σ H3 hj ⟨x4, ts, rfl, g3, el, len, prs⟩
        refine ⟨_, rfl, .inl ⟨rfl, _, SqL.of el⟩, _, rfl, _, rfl, by show 2 ≤ sizeLine; decide, fun p hp => ?_⟩
        have g4 := same_new g3 hp (.tup [.int k, .int (0 + (j : Int))])
        have m4 := same_new (Same.refl H3) hp (.tup [.int k, .int (0 + (j : Int))])
        have e4 : (upd H3 p (.tup [.int k, .int (0 + (j : Int))])) p = some (.tup [.int k, .int (0 + (j : Int))]) := upd_same
        replace el := m4 _ _ el
        generalize upd H3 p (.tup [.int k, .int (0 + (j : Int))]) = H4 at *
        refine ⟨l, _, _, rfl, rfl, el, by rw [List.length_map, len]; exact Nat.lt_of_lt_of_le hj (Nat.le_trans (by omega : n.toNat ≤ 100) (by decide)), _, ts ++ [p], rfl, same_lst g4 hl (Same.refl _) _, by rw [upd_same, List.map_append]; rfl, by rw [List.length_append, len]; rfl, fun t ht => ?_⟩
        rcases List.mem_append.mp ht with ht | ht
        · obtain ⟨j2, e2⟩ := prs t ht
          refine ⟨j2, ?_⟩
          rw [upd_ne (ne_of (m4 _ _ e2) el (fun z => nomatch z))]
          exact m4 _ _ e2
        · obtain rfl : t = p := by simpa using ht
          refine ⟨0 + (j : Int), ?_⟩
          rw [upd_ne (ne_of e4 el (fun z => nomatch z))]
          exact e4
      · rintro σ H3 ⟨x4, ts, rfl, g3, el, len, prs⟩
        exact ⟨_, _, ts, rfl, g3, el, by omega, prs⟩
  · rintro σ H2 ⟨x3, x4, ts, rfl, g2, el, len, prs⟩
    exact ⟨_, rfl, q l ts H2 g2 hl el (by simpa using len) prs⟩

end
end Hs
set_option maxHeartbeats 8000000
namespace Hs
open PySem L2
/-! ## the law: things and lists drawn -/
theorem fd_ne {H : Hp} {L p : Addr} (f : FdAt H L) (n : H p = none) : p ≠ L := fun z => by
  obtain ⟨u, e⟩ := f.some
  rw [z, e] at n
  cases n
theorem sh_none {n : Nat} : Shp n .none := ⟨rfl, by simp [PyData.depth]⟩
theorem ints_dp {K : PySem.W.Frag} {H : Hp} : ∀ ns : List Int, DpAll K H (ns.map V.int) (ns.map PyData.int)
  | [] => .nil
  | n :: ns => .cons (.int n) (ints_dp ns)
theorem ints_of {K : PySem.W.Frag} {H : Hp} : ∀ {ns : List Int} {xs : List V}, DpAll K H xs (ns.map PyData.int) → xs = ns.map V.int
  | [], _, .nil => rfl
  | n :: ns, x :: xs, h => by
    cases h with
    | cons a b =>
      cases a
      rw [ints_of b]
      rfl
def Vald (n : Int) (d : PyData) : Prop := Shp 4 d ∧ ∀ ds, seqD d = some ds → (ds.length : Int) ≤ n ∧ ∀ e ∈ ds, Shp 3 e
section
variable {P : Program} {w : World} {K : PySem.W.Frag} {mg : Str → Option Value} {base : Heap} {tk : Tok × Tok × Tok}
theorem sc__law_thing : FnScope ["_law_feed_here", "_law_many"] ["_law_feed_here", "_law_many"] (defScope (topH 42)) := ⟨rfl, rfl, rfl, by decide +kernel, rfl, by decide +kernel, by decide +kernel⟩
theorem ok__law_thing {f : Addr} {fd : FuncData} (F : Fun K "_law_thing" "_law_thing" (topH 42) f fd) (T : Tx K mg tk) {fLpick : Addr} {fdLpick : FuncData} (GLpick : FnOk P w K mg base CX0 1 fLpick fdLpick ["_law_feed_here", "_law_many"] spPick) (KLpick : PySem.W.keepIn K (.ref fLpick) = true) (BLpick : Binds K fdLpick ["_law_feed_here", "_law_many"] []) (MLpick : mg "_law_pick" = some (.ref fLpick)) :
    FnOk P w K mg base CX0 2 f fd ["_law_feed_here", "_law_many"] (fun vs H Q _ => ∃ (L : Addr) (m : Int), vs = [.ref L, .int m] ∧ 0 ≤ m ∧ m ≤ 20 ∧ FdAt H L ∧ ∀ v H' d, Lx L H H' → FdAt H' L → Dp K (newH H H') v d → Shp 3 d → Q v H') := by
  refine F.ok sc__law_thing (fun vs H Q E h => ?_) (fun cdv A outer s H vs Q E hr h => ?_)
  · obtain ⟨L, m, rfl, _⟩ := h
    rfl
  obtain ⟨L, m, rfl, m0, m20, fd, q⟩ := h
  refine ⟨_, (pss_cons (ps_if (pt_cmpR op_eq (pe_call GLpick (hr.mono (by decide)) (by rfl) MLpick KLpick BLpick .nil pass0 (pa_cons (pv 0) (pa_cons pe_int pa_nil))) pe_int (nomark _)) (pss_one (ps_ret (pe_ix (r := rIx K) ix_seq (pe_lst (pa_cons pe_bl (pa_cons pe_bl (pa_cons pe_str (pa_cons pe_non (pa_cons (pe_tup (pa_cons pe_int (pa_cons pe_int pa_nil))) (pa_cons (pe_lst (pa_cons pe_int pa_nil)) pa_nil))))))) (pe_call GLpick (hr.mono (by decide)) (by rfl) MLpick KLpick BLpick .nil pass0 (pa_cons (pv 0) (pa_cons pe_int pa_nil))) (fun _ _ => rfl)))) pss_nil)
 (pss_one (ps_ret (pe_op op_sub (pe_op op_mod (pe_callTy call_int1 (by rfl) T.int (by decide +kernel) (pa_cons (pe_op op_add (pe_call GLpick (hr.mono (by decide)) (by rfl) MLpick KLpick BLpick .nil pass0 (pa_cons (pv 0) (pa_cons (pe_op op_add (pv 1) pe_int) pa_nil))) pe_int) pa_nil)) (pe_op op_add (pv 1) pe_int)) pe_int)))), ?_⟩
  obtain ⟨p_v1, r_v1, hp_v1, hr_v1, e_v1⟩ := id fd
  refine ⟨_, rfl, L, p_v1, _, r_v1, rfl, by decide, hp_v1, hr_v1, e_v1, fun v1 k_v1 a0 a1 kk_v1 => ?_⟩
  have x1 : Lx L H (upd H L (.lst ((k_v1 :: r_v1).map V.int))) := Lx.upd L H _
  have f1 : FdAt (upd H L (.lst ((k_v1 :: r_v1).map V.int))) L := ⟨k_v1, r_v1, kk_v1, hr_v1, upd_same⟩
  have o1 : ∀ b, b ≠ L → (upd H L (.lst ((k_v1 :: r_v1).map V.int))) b = H b := fun b n => upd_ne n
  generalize upd H L (.lst ((k_v1 :: r_v1).map V.int)) = H1 at *
  refine ⟨rfl, _, rfl, ?_⟩
  have back : ∀ {b : Addr}, b ≠ L → H1 b = none → H b = none := fun {b} n e => (o1 b n).symm.trans e
  by_cases e15 : v1 = 15
  · rw [decide_eq_true (show V.int v1 = V.int 15 by rw [e15])]
    refine iteT ⟨by show 2 ≤ sizeLine; decide, fun p hp => ?_⟩
    have g2 := same_new (Same.refl H1) hp (.tup [.int 1, .int 1])
    have ep : (upd H1 p (.tup [.int 1, .int 1])) p = some (.tup [.int 1, .int 1]) := upd_same
    have np : H p = none := back (fd_ne f1 hp) hp
    generalize upd H1 p (.tup [.int 1, .int 1]) = H2 at *
    refine ⟨by show 1 ≤ sizeLine; decide, fun l hl => ?_⟩
    have g3 := same_new (Same.refl H2) hl (.lst [.int 0])
    have el : (upd H2 l (.lst [.int 0])) l = some (.lst [.int 0]) := upd_same
    have nl : H l = none := back (fd_ne (f1.keep g2) hl) (g2.free hl)
    replace ep := g3 _ _ ep
    generalize upd H2 l (.lst [.int 0]) = H3 at *
    refine ⟨by show 6 ≤ sizeLine; decide, fun l2 hl2 => ?_⟩
    have g4 := same_new (Same.refl H3) hl2 (.lst [.bl true, .bl false, .str "1", .non, .ref p, .ref l])
    have el2 : (upd H3 l2 (.lst [.bl true, .bl false, .str "1", .non, .ref p, .ref l])) l2 = some (.lst [.bl true, .bl false, .str "1", .non, .ref p, .ref l]) := upd_same
    replace ep := g4 _ _ ep
    replace el := g4 _ _ el
    have f4 : FdAt (upd H3 l2 (.lst [.bl true, .bl false, .str "1", .non, .ref p, .ref l])) L := ((f1.keep g2).keep g3).keep g4
    have nl2 : l2 ≠ L := fd_ne ((f1.keep g2).keep g3) hl2
    generalize upd H3 l2 (.lst [.bl true, .bl false, .str "1", .non, .ref p, .ref l]) = H4 at *
    obtain ⟨p_v2, r_v2, hp_v2, hr_v2, e_v2⟩ := id f4
    refine ⟨_, rfl, L, p_v2, _, r_v2, rfl, by decide, hp_v2, hr_v2, e_v2, fun v2 k_v2 b0 b1 kk_v2 => ?_⟩
    have x5 : Lx L H4 (upd H4 L (.lst ((k_v2 :: r_v2).map V.int))) := Lx.upd L H4 _
    have f5 : FdAt (upd H4 L (.lst ((k_v2 :: r_v2).map V.int))) L := ⟨k_v2, r_v2, kk_v2, hr_v2, upd_same⟩
    have o5 : ∀ b, b ≠ L → (upd H4 L (.lst ((k_v2 :: r_v2).map V.int))) b = H4 b := fun b n => upd_ne n
    generalize upd H4 L (.lst ((k_v2 :: r_v2).map V.int)) = H5 at *
    have pL : p ≠ L := fun z => by
      obtain ⟨u, e⟩ := fd.some
      rw [z, e] at np
      cases np
    have lL : l ≠ L := fun z => by
      obtain ⟨u, e⟩ := fd.some
      rw [z, e] at nl
      cases nl
    have wp : newH H H5 p = some (.tup [.int 1, .int 1]) := newH_of np (x5 _ _ pL ep)
    have wl : newH H H5 l = some (.lst [.int 0]) := newH_of nl (x5 _ _ lL el)
    have gx : Lx L H H5 := (x1.trans (Lx.of ((g2.trans g3).trans g4))).trans x5
    have at2 : ∀ (x : V) (d : PyData), ([.bl true, .bl false, .str "1", .non, .ref p, .ref l] : List V)[v2.toNat]? = some x → Dp K (newH H H5) x d → Shp 3 d → rIx K (.ref l2) (.int v2) H5 Q := fun x d ex hx sh =>
      ix_of (.inl (SqL.of (x5 _ _ nl2 el2))) (at_of (j := v2.toNat) (by omega) ex) (q x H5 d gx f5 hx sh)
    have cs : v2 = 0 ∨ v2 = 1 ∨ v2 = 2 ∨ v2 = 3 ∨ v2 = 4 ∨ v2 = 5 := by omega
    rcases cs with rfl | rfl | rfl | rfl | rfl | rfl
    · exact at2 _ (.bool true) rfl (.bl _) (shp_bool _)
    · exact at2 _ (.bool false) rfl (.bl _) (shp_bool _)
    · exact at2 _ (.str "1") rfl (.str _) (.str (by decide +kernel))
    · exact at2 _ .none rfl .non sh_none
    · exact at2 _ _ rfl (rat_dp wp) (shp_two (n := 2) (.int 1) (.int 1))
    · exact at2 _ (.list [.int 0]) rfl (.lst (SqL.of wl) (.cons (.int 0) .nil)) (.lst (n := 2) fun d hd => by
        obtain rfl : d = .int 0 := by simpa using hd
        exact .int 0)
  · rw [decide_eq_false (fun h => e15 (V.int.inj h))]
    obtain ⟨p_v2, r_v2, hp_v2, hr_v2, e_v2⟩ := id f1
    refine iteF ⟨_, rfl, _, rfl, _, _, rfl, rfl, L, p_v2, _, r_v2, rfl, show (0 : Int) < m + 2 by omega, hp_v2, hr_v2, e_v2, fun v2 k_v2 b0 b1 kk_v2 => ?_⟩
    have x2 : Lx L H1 (upd H1 L (.lst ((k_v2 :: r_v2).map V.int))) := Lx.upd L H1 _
    have f2 : FdAt (upd H1 L (.lst ((k_v2 :: r_v2).map V.int))) L := ⟨k_v2, r_v2, kk_v2, hr_v2, upd_same⟩
    have o2 : ∀ b, b ≠ L → (upd H1 L (.lst ((k_v2 :: r_v2).map V.int))) b = H1 b := fun b n => upd_ne n
    generalize upd H1 L (.lst ((k_v2 :: r_v2).map V.int)) = H2 at *
    refine ⟨_, _, rfl, rfl, .inl ⟨_, rfl, _, rfl, _, _, rfl, rfl, _, _, rfl, rfl, show (0 : Int) < m + 2 by omega, _, _, rfl, rfl, ?_⟩⟩
    exact q _ H2 (.int _) (x1.trans x2) f2 (.int _) (.int _)

theorem sc__law_list : FnScope ["_law_feed_here", "_law_many", "_law_length", "_law_things", "_law_plain", "_law_shape", "_law_turn", "_law_one"] ["_law_feed_here", "_law_many", "_law_length"] (defScope (topH 43)) := ⟨rfl, rfl, rfl, by decide +kernel, rfl, by decide +kernel, by decide +kernel⟩
theorem ok__law_list {f : Addr} {fd : FuncData} (F : Fun K "_law_list" "_law_list" (topH 43) f fd) (T : Tx K mg tk) {fLthing : Addr} {fdLthing : FuncData} (GLthing : FnOk P w K mg base CX0 2 fLthing fdLthing ["_law_feed_here", "_law_many"] (fun vs H Q _ => ∃ (L : Addr) (m : Int), vs = [.ref L, .int m] ∧ 0 ≤ m ∧ m ≤ 20 ∧ FdAt H L ∧ ∀ v H' d, Lx L H H' → FdAt H' L → Dp K (newH H H') v d → Shp 3 d → Q v H')) (KLthing : PySem.W.keepIn K (.ref fLthing) = true) (BLthing : Binds K fdLthing ["_law_feed_here", "_law_many"] []) (MLthing : mg "_law_thing" = some (.ref fLthing)) {fLwhole : Addr} {fdLwhole : FuncData} (GLwhole : FnOk P w K mg base CX0 1 fLwhole fdLwhole ["_law_value"] (fun vs H Q _ => ∃ v d, vs = [v] ∧ Dp K H v d ∧ ∀ H', Same H H' → Q (.bl (isI d)) H')) (KLwhole : PySem.W.keepIn K (.ref fLwhole) = true) (BLwhole : Binds K fdLwhole ["_law_value"] []) (MLwhole : mg "_law_whole" = some (.ref fLwhole)) {fLpick : Addr} {fdLpick : FuncData} (GLpick : FnOk P w K mg base CX0 1 fLpick fdLpick ["_law_feed_here", "_law_many"] spPick) (KLpick : PySem.W.keepIn K (.ref fLpick) = true) (BLpick : Binds K fdLpick ["_law_feed_here", "_law_many"] []) (MLpick : mg "_law_pick" = some (.ref fLpick)) :
    FnOk P w K mg base CX0 3 f fd ["_law_feed_here", "_law_many", "_law_length"] (fun vs H Q _ => ∃ (L : Addr) (m n : Int), vs = [.ref L, .int m, .int n] ∧ 0 ≤ m ∧ m ≤ 20 ∧ 0 ≤ n ∧ n ≤ 10 ∧ FdAt H L ∧ ∀ v H' d, Lx L H H' → FdAt H' L → Dp K (newH H H') v d → Vald n d → (∀ ds, d = .list ds → ∃ a xs, v = .ref a ∧ H a = none ∧ H' a = some (.lst xs) ∧ xs.length ≤ 10) → Q v H') := by
  refine F.ok sc__law_list (fun vs H Q E h => ?_) (fun cdv A outer s H vs Q E hr h => ?_)
  · obtain ⟨L, m, n, rfl, _⟩ := h
    rfl
  obtain ⟨L, m, n, rfl, m0, m20, n0, n10, fd, q⟩ := h
  refine ⟨_, (pss_cons (ps_setLc (i := 3) (own := [("_law_turn", 6)]) (g := gName 6) (tt := tYes)  (by rfl) sc__law_list.nd rfl rfl (sw_true rfl rfl rfl (by decide +kernel)) (pi_range1 (by rfl) T.range (pa_cons (pv 2) pa_nil)) (blkOk_by (own := [("_law_turn", 6)]) (N := ["_law_feed_here", "_law_many", "_law_length", "_law_things", "_law_plain", "_law_shape", "_law_turn", "_law_one"]) (sc := defScope (topH 43)) (by decide +kernel)) (fun _ _ _ _ _ => pg_name (i := 6) sc__law_list.nd rfl (Or.inl rfl)) (fun _ _ _ _ _ => pts_nil) (fun _ _ _ _ _ => (pe_call GLthing (hr.mono (by decide)) (by rfl) MLthing KLthing BLthing .nil pass0 (pa_cons (pv 0) (pa_cons (pv 1) pa_nil)))))
 (pss_cons (ps_setLc (i := 4) (own := [("_law_one", 7)]) (g := gName 7)  (by rfl) sc__law_list.nd rfl rfl (sw_true rfl rfl rfl (by decide +kernel)) (pi_or (pi_list (pv 3)) (pi_tup (pv 3))) (blkOk_by (own := [("_law_one", 7)]) (N := ["_law_feed_here", "_law_many", "_law_length", "_law_things", "_law_plain", "_law_shape", "_law_turn", "_law_one"]) (sc := defScope (topH 43)) (by decide +kernel)) (fun _ _ _ _ _ => pg_name (i := 7) sc__law_list.nd rfl (Or.inl rfl)) (fun _ _ _ _ _ => (pts_one (pt_val (pe_call GLwhole (hr.mono (by decide)) (by rfl) MLwhole KLwhole BLwhole .nil pass0 (pa_cons (pv 7) pa_nil))))) (fun _ _ _ _ _ => (pv 7)))
 (pss_cut (ps_if (PW.pt (pw_and (pt_cmpR op_eq (pe_callB call_len_seq (by rfl) T.len PySem.boot_len (pa_cons (pv 4) pa_nil)) (pe_callB call_len_seq (by rfl) T.len PySem.boot_len (pa_cons (pv 3) pa_nil)) (nomark _)) (pw_and1 (pt_cmpR op_eq (pe_call GLpick (hr.mono (by decide)) (by rfl) MLpick KLpick BLpick .nil pass0 (pa_cons (pv 0) (pa_cons pe_int pa_nil))) pe_int (nomark _))))) (pss_one (ps_set (i := 3) sc__law_list.nd rfl (Or.inl rfl) (pe_callB cr_sortedI (by rfl) T.sorted (by decide +kernel) (pa_cons (pv 3) pa_nil)))) pss_nil)
 (pss_cons (ps_set (i := 5) sc__law_list.nd rfl (Or.inl rfl) (pe_call GLpick (hr.mono (by decide)) (by rfl) MLpick KLpick BLpick .nil pass0 (pa_cons (pv 0) (pa_cons pe_int pa_nil))))
 (pss_cons (ps_if (pt_cmpR op_eq (pv 5) pe_int (nomark _)) (pss_one (ps_ret (pe_ix (r := rIx K) ix_seq (pe_lst (pa_cons pe_str (pa_cons pe_int (pa_cons pe_non pa_nil)))) (pe_call GLpick (hr.mono (by decide)) (by rfl) MLpick KLpick BLpick .nil pass0 (pa_cons (pv 0) (pa_cons pe_int pa_nil))) (fun _ _ => rfl)))) pss_nil)
 (pss_cons (ps_if (pt_cmpR op_gt (pv 5) pe_int (nomark _)) (pss_one (ps_ret (pe_callTy call_tuple_of (by rfl) T.tuple tuple_b (pa_cons (pv 3) pa_nil)))) pss_nil)
 (pss_one (ps_ret (pv 3))))))))), ?_⟩
  -- the things
  refine ⟨_, rfl, n, rfl, by omega, by omega, fun D hD => ?_⟩
  have nDL : D ≠ L := fd_ne fd hD
  refine lc_range (n := n.toNat) (fun i H2 => Lx L H H2 ∧ FdAt H2 L ∧ ∃ acc ds, H2 D = some (.lst acc) ∧ acc.length = i ∧ DpAll K (del (newH H H2) D) acc ds ∧ ∀ e ∈ ds, Shp 3 e) ⟨Lx.of (same_new (Same.refl H) hD _), fd.keep (same_new (Same.refl H) hD _), [], [], upd_same, rfl, .nil, fun e h => absurd h List.not_mem_nil⟩ ?_ ?_
  · rintro i H2 hi ⟨x2, f2, acc, ds, hacc, hl, all, sh⟩
    refine ⟨rfl, _, rfl, _, rfl, L, m, rfl, m0, m20, f2, fun v H3 d x3 f3 hv shd => ?_⟩
    have h3 := x3 _ _ nDL hacc
    have keepL : FdAt (upd H3 D (.lst (acc ++ [v]))) L := by
      obtain ⟨p, r, a, b, e⟩ := f3
      exact ⟨p, r, a, b, by rw [upd_ne nDL.symm]; exact e⟩
    have x4 : Lx L H (upd H3 D (.lst (acc ++ [v]))) := fun b u nb e => by
      rw [upd_ne (ne_of_none e hD)]
      exact x3 b u nb (x2 b u nb e)
    have s1 : Same (del (newH H H2) D) (del (newH H (upd H3 D (.lst (acc ++ [v])))) D) := fun b u e => by
      by_cases bD : b = D
      · rw [bD, del_same] at e
        cases e
      · rw [del_ne bD] at e ⊢
        obtain ⟨n1, e1⟩ := newH_at e
        refine newH_of n1 ?_
        rw [upd_ne bD]
        exact newH_keep fd x3 b u e
    have s2 : Same (newH H2 H3) (del (newH H (upd H3 D (.lst (acc ++ [v])))) D) := fun b u e => by
      obtain ⟨n1, e1⟩ := newH_at e
      have bD : b ≠ D := fun z => by
        rw [z, hacc] at n1
        cases n1
      rw [del_ne bD]
      refine newH_of (newH_at (newH_later f2 x2 b u e)).1 ?_
      rw [upd_ne bD]
      exact e1
    refine ⟨acc, h3, by rw [hl]; exact Nat.lt_of_lt_of_le hi (Nat.le_trans (by omega : n.toNat ≤ 10) (by decide)), x4, keepL, _, ds ++ [d], upd_same, by rw [List.length_append, hl]; rfl, DpAll.snoc (DpAll.keep (Keeps.of s1) ds acc all) (dp_keep s2 hv), fun e he => ?_⟩
    rcases List.mem_append.mp he with he | he
    · exact sh e he
    · obtain rfl : e = d := by simpa using he
      exact shd
  rintro H2 ⟨x2, f2, xs, ds, hxs, hl, all, sh⟩
  have l10 : xs.length ≤ n.toNat := by omega
  have ln := DpAll.len all
  have sdel : ∀ {H3 : Hp}, Same H2 H3 → Same (del (newH H H2) D) (del (newH H H3) D) := fun {H3} g b u e => by
    by_cases bD : b = D
    · rw [bD, del_same] at e
      cases e
    · rw [del_ne bD] at e ⊢
      obtain ⟨n1, e1⟩ := newH_at e
      exact newH_of n1 (g b u e1)
  have s22 : Same (del (newH H H2) D) H2 := fun b u e => by
    by_cases bD : b = D
    · rw [bD, del_same] at e
      cases e
    · rw [del_ne bD] at e
      exact newH_same H H2 b u e
  -- the whole ones
  refine .inl ⟨_, rfl, D, rfl, ⟨_, SqL.of hxs⟩, fun D2 hD2 => ?_⟩
  refine lc_list (K := K) (a := D) (xs := xs) (fun i H3 => Same H2 H3 ∧ ∃ acc, H3 D2 = some (.lst acc) ∧ acc.length = ((ds.take i).filter isI).length) ⟨same_new (Same.refl _) hD2 _, [], upd_same, rfl⟩ (fun i H3 _ z => SqL.of (z.1 _ _ hxs)) ?_ ?_
  · rintro i x H3 hi ⟨g3, acc, hacc, hla⟩
    obtain ⟨dx, edx, hdx⟩ := DpAll.at (DpAll.keep (Keeps.of (s22.trans g3)) ds xs all) hi
    have il : i < xs.length := (List.getElem?_eq_some_iff.mp hi).1
    have et : ds.take (i + 1) = ds.take i ++ [dx] := by
      rw [List.take_add_one, edx]
      rfl
    refine ⟨rfl, _, rfl, x, dx, rfl, hdx, fun H4 g4 => ⟨_, rfl, ?_⟩⟩
    cases ei : isI dx with
    | false =>
      refine iteF ⟨g3.trans g4, acc, g4 _ _ hacc, ?_⟩
      rw [et, List.filter_append, List.length_append, hla]
      simp [ei]
    | true =>
      refine iteT ⟨_, rfl, acc, g4 _ _ hacc, ?_, same_lst g3 hD2 g4 _, _, upd_same, ?_⟩
      · have z := List.length_filter_le isI (ds.take i)
        rw [List.length_take] at z
        exact Nat.lt_of_le_of_lt (show acc.length ≤ 10 by omega) (by decide)
      · rw [et, List.filter_append, List.length_append, List.length_append, hla]
        simp [ei]
  rintro H3 ⟨g3, acc, hacc, hla⟩
  have f3 := f2.keep g3
  have x3 := x2.trans (Lx.of (L := L) g3)
  have hxs3 := g3 _ _ hxs
  have all3 := DpAll.keep (Keeps.of (sdel g3)) ds xs all
  have wD : H D = none := hD
  -- sorted or not
  refine ⟨fun σ H' => ∃ T ys es x4 x5 x6 x7, σ = [some (.ref L), some (.int m), some (.int n), some (.ref T), x4, x5, x6, x7] ∧ Lx L H H' ∧ FdAt H' L ∧ H T = none ∧ H' T = some (.lst ys) ∧ ys.length ≤ n.toNat ∧ DpAll K (del (newH H H') T) ys es ∧ ∀ e ∈ es, Shp 3 e, ?_, ?_⟩
  · rw [ln, List.take_length] at hla
    refine ⟨_, rfl, D2, acc, rfl, .inl (SqL.of hacc), _, rfl, D, xs, rfl, .inl (SqL.of hxs3), rfl, _, rfl, ?_⟩
    by_cases full : acc.length = xs.length
    · rw [decide_eq_true (show V.int (acc.length : Int) = V.int (xs.length : Int) by rw [full])]
      obtain ⟨p_v1, r_v1, hp_v1, hr_v1, e_v1⟩ := id f3
      refine iteT ⟨_, rfl, L, p_v1, _, r_v1, rfl, by decide, hp_v1, hr_v1, e_v1, fun v1 k_v1 a0 a1 kk_v1 => ?_⟩
      have x4 : Lx L H3 (upd H3 L (.lst ((k_v1 :: r_v1).map V.int))) := Lx.upd L H3 _
      have f4 : FdAt (upd H3 L (.lst ((k_v1 :: r_v1).map V.int))) L := ⟨k_v1, r_v1, kk_v1, hr_v1, upd_same⟩
      have o4 : ∀ b, b ≠ L → (upd H3 L (.lst ((k_v1 :: r_v1).map V.int))) b = H3 b := fun b n => upd_ne n
      generalize upd H3 L (.lst ((k_v1 :: r_v1).map V.int)) = H4 at *
      refine ⟨rfl, _, rfl, ?_⟩
      have hxs4 := x4 _ _ nDL hxs3
      by_cases z0 : v1 = 0
      · rw [decide_eq_true (show V.int v1 = V.int 0 by rw [z0])]
        have whole : ∀ e ∈ ds, isI e = true := List.length_filter_eq_length_iff.mp (by omega)
        have eds : ds = (ds.map intOf).map PyData.int := by
          rw [List.map_map]
          exact (List.map_id ds).symm.trans (List.map_congr_left fun e he => by
            have k := whole e he
            cases e <;> first | rfl | cases k)
        have exs : xs = (ds.map intOf).map V.int := ints_of (by rw [← eds]; exact all3)
        refine iteT ⟨_, rfl, D, ds.map intOf, rfl, SqL.of (by rw [← exs]; exact hxs4), fun ns' p perm _ hp => ?_⟩
        have g5 := same_new (Same.refl H4) hp (.lst (ns'.map V.int))
        refine ⟨p, ns'.map V.int, ns'.map PyData.int, _, _, _, _, rfl, (x3.trans x4).trans (Lx.of g5), f4.keep g5, ?_, upd_same, ?_, ints_dp ns', fun e he => ?_⟩
        · have pL := fd_ne f4 hp
          have n3 : H3 p = none := (o4 p pL).symm.trans hp
          cases e : H p with
          | none => rfl
          | some u =>
            rw [x3 p u pL e] at n3
            cases n3
        · rw [List.length_map, perm.length_eq, List.length_map, ← ln]
          exact l10
        · obtain ⟨k, _, rfl⟩ := List.mem_map.mp he
          exact .int _
      · rw [decide_eq_false (fun h => z0 (V.int.inj h))]
        refine iteF ⟨D, xs, ds, _, _, _, _, rfl, x3.trans x4, f4, wD, hxs4, l10, DpAll.keep (Keeps.of fun b u e => ?_) ds xs all3, sh⟩
        by_cases bD : b = D
        · rw [bD, del_same] at e
          cases e
        · rw [del_ne bD] at e ⊢
          exact newH_mono fd x4 b u e
    · rw [decide_eq_false (fun h => full (by have := V.int.inj h; omega))]
      exact iteF ⟨D, xs, ds, _, _, _, _, rfl, x3, f3, wD, hxs3, l10, all3, sh⟩
  · rintro σ H4 ⟨T, ys, es, x4, x5, x6, x7, rfl, gx, f4, wT, hT, l10, allT, shT⟩
    have TL : T ≠ L := fun z => by
      obtain ⟨u, e⟩ := fd.some
      rw [z, e] at wT
      cases wT
    have lnT := DpAll.len allT
    obtain ⟨p_sh1, r_sh1, hp_sh1, hr_sh1, e_sh1⟩ := id f4
    refine ⟨_, rfl, L, p_sh1, _, r_sh1, rfl, by decide, hp_sh1, hr_sh1, e_sh1, fun sh1 k_sh1 a0 a1 kk_sh1 => ?_⟩
    have y5 : Lx L H4 (upd H4 L (.lst ((k_sh1 :: r_sh1).map V.int))) := Lx.upd L H4 _
    have f5 : FdAt (upd H4 L (.lst ((k_sh1 :: r_sh1).map V.int))) L := ⟨k_sh1, r_sh1, kk_sh1, hr_sh1, upd_same⟩
    have o5 : ∀ b, b ≠ L → (upd H4 L (.lst ((k_sh1 :: r_sh1).map V.int))) b = H4 b := fun b n => upd_ne n
    generalize upd H4 L (.lst ((k_sh1 :: r_sh1).map V.int)) = H5 at *
    have gx5 := gx.trans y5
    have hT5 := y5 _ _ TL hT
    have all5 : DpAll K (newH H H5) ys es := DpAll.keep (Keeps.of fun b u e => by
      by_cases bD : b = T
      · rw [bD, del_same] at e
        cases e
      · rw [del_ne bD] at e
        exact newH_mono fd y5 b u e) es ys allT
    have vald : ∀ d, seqD d = some es → Shp 4 d → Vald n d := fun d e s4 => ⟨s4, fun ds' e' => by
      rw [e] at e'
      cases e'
      exact ⟨by omega, shT⟩⟩
    refine ⟨_, rfl, rfl, _, rfl, ?_⟩
    by_cases e10 : sh1 = 10
    · rw [decide_eq_true (show V.int sh1 = V.int 10 by rw [e10])]
      refine iteT ⟨by show 3 ≤ sizeLine; decide, fun l hl => ?_⟩
      have g6 := same_new (Same.refl H5) hl (.lst [.str "012", .int 5, .non])
      have el : (upd H5 l (.lst [.str "012", .int 5, .non])) l = some (.lst [.str "012", .int 5, .non]) := upd_same
      have f6 := f5.keep g6
      have lL := fd_ne f5 hl
      generalize upd H5 l (.lst [.str "012", .int 5, .non]) = H6 at *
      obtain ⟨p_v2, r_v2, hp_v2, hr_v2, e_v2⟩ := id f6
      refine ⟨_, rfl, L, p_v2, _, r_v2, rfl, by decide, hp_v2, hr_v2, e_v2, fun v2 k_v2 b0 b1 kk_v2 => ?_⟩
      have x7 : Lx L H6 (upd H6 L (.lst ((k_v2 :: r_v2).map V.int))) := Lx.upd L H6 _
      have f7 : FdAt (upd H6 L (.lst ((k_v2 :: r_v2).map V.int))) L := ⟨k_v2, r_v2, kk_v2, hr_v2, upd_same⟩
      have o7 : ∀ b, b ≠ L → (upd H6 L (.lst ((k_v2 :: r_v2).map V.int))) b = H6 b := fun b n => upd_ne n
      generalize upd H6 L (.lst ((k_v2 :: r_v2).map V.int)) = H7 at *
      have gx7 := (gx5.trans (Lx.of g6)).trans x7
      have at2 : ∀ (x : V) (d : PyData), ([.str "012", .int 5, .non] : List V)[v2.toNat]? = some x → Dp K (newH H H7) x d → Vald n d → (∀ ds, d ≠ .list ds) → rIx K (.ref l) (.int v2) H7 Q := fun x d ex hx sh nl =>
        ix_of (.inl (SqL.of (x7 _ _ lL el))) (at_of (j := v2.toNat) (by omega) ex) (q x H7 d gx7 f7 hx sh fun ds e => absurd e (nl ds))
      have cs : v2 = 0 ∨ v2 = 1 ∨ v2 = 2 := by omega
      rcases cs with rfl | rfl | rfl
      · exact at2 _ (.str "012") rfl (.str _) ⟨.str (by decide +kernel), fun ds e => by cases e⟩ (fun _ e => by cases e)
      · exact at2 _ (.int 5) rfl (.int _) ⟨.int _, fun ds e => by cases e⟩ (fun _ e => by cases e)
      · exact at2 _ .none rfl .non ⟨sh_none, fun ds e => by cases e⟩ (fun _ e => by cases e)
    · rw [decide_eq_false (fun h => e10 (V.int.inj h))]
      refine iteF ⟨_, rfl, _, _, rfl, rfl, _, rfl, ?_⟩
      by_cases g5 : sh1 > 5
      · rw [decide_eq_true g5]
        refine iteT ⟨_, rfl, T, ys, rfl, .inl ⟨SqL.of hT5, fun p hp => ?_⟩⟩
        have g6 := same_new (Same.refl H5) hp (.tup ys)
        have np : H p = none := by
          cases e : H p with
          | none => rfl
          | some u =>
            rw [gx5 p u (fd_ne f5 hp) e] at hp
            cases hp
        refine q _ _ (.tuple es) (gx5.trans (Lx.of g6)) (f5.keep g6) (.tup (SqT.of (newH_of np upd_same)) (DpAll.keep (Keeps.of (newH_mono fd (Lx.of g6))) es ys all5)) (vald _ rfl (.tup (n := 3) shT)) fun ds e => by cases e
      · rw [decide_eq_false g5]
        exact iteF ⟨_, rfl, q _ H5 (.list es) gx5 f5 (.lst (SqL.of (newH_of wT hT5)) all5) (vald _ rfl (.lst (n := 3) shT)) fun ds e => ⟨T, ys, rfl, wT, hT5, by omega⟩⟩

end
end Hs
set_option maxHeartbeats 8000000
namespace Hs
open PySem L2
/-! ## the law -/
def spLaw (K : PySem.W.Frag) : Sp := fun vs H Q _ => ∃ (a : Addr) (ns : List Int), vs = [.ref a] ∧ SqL K H a (ns.map V.int) ∧ ns.length ≤ 63 ∧ ∀ H', Q (.bl true) H'
theorem Shp.mono {n m : Nat} {d : PyData} (h : Shp n d) (l : n ≤ m) : Shp m d := ⟨h.1, Nat.le_trans h.2 l⟩
theorem zip_shp {n : Nat} : ∀ (as : List Int) (ds : List PyData), (∀ e ∈ ds, Shp n e) → ∀ e ∈ zipD as ds, Shp (n + 1) e
  | [], _, _, e, h => absurd h (by simp [zipD])
  | _ :: _, [], _, e, h => absurd h (by simp [zipD])
  | a :: as, d :: ds, k, e, h => by
    have h : e ∈ (.tuple [.int a, d]) :: zipD as ds := h
    rcases List.mem_cons.mp h with rfl | h
    · exact shp_two (.int a) (k d List.mem_cons_self)
    · exact zip_shp as ds (fun e he => k e (List.mem_cons_of_mem _ he)) e h
theorem ints_shp {n : Nat} (ns : List Int) : ∀ e ∈ ns.map PyData.int, Shp n e := fun e he => by
  obtain ⟨k, _, rfl⟩ := List.mem_map.mp he
  exact .int _
/-- what the law keeps: the feed, what was due -/
structure OkS (K : PySem.W.Frag) (L : Addr) (vd : V) (du : PyData) (H : Hp) : Prop where
  fd : FdAt H L
  due : Dp K H vd du
theorem OkS.lx {K : PySem.W.Frag} {L : Addr} {vd : V} {du : PyData} {H H' : Hp} (fl : Flat 3 du) (o : OkS K L vd du H) (g : Lx L H H') (f : FdAt H' L) : OkS K L vd du H' := by
  obtain ⟨p, r, _, _, e⟩ := o.fd
  refine ⟨f, fl.keep ⟨fun b xs q => g b _ (fun z => ?_) q, fun b ob u q => g b _ (fun z => ?_) q⟩ vd o.due⟩
  all_goals
    rw [z, e] at q
    cases q
theorem OkS.same {K : PySem.W.Frag} {L : Addr} {vd : V} {du : PyData} {H H' : Hp} (o : OkS K L vd du H) (g : Same H H') : OkS K L vd du H' := ⟨o.fd.keep g, dp_keep g o.due⟩
theorem lst_dp {K : PySem.W.Frag} {H : Hp} {a : Addr} {ns : List Int} (h : H a = some (.lst (ns.map V.int))) : Dp K H (.ref a) (.list (ns.map PyData.int)) := .lst (SqL.of h) (ints_dp ns)
theorem sml_ints {ns : List Int} (h : ns.length ≤ 1000) : Sml8 (.list (ns.map PyData.int)) := fun ds e => by
  cases e
  rw [List.length_map]
  exact h
section
variable {P : Program} {w : World} {K : PySem.W.Frag} {mg : Str → Option Value} {base : Heap} {tk : Tok × Tok × Tok}
theorem flat_x : ∀ n : Nat, (List.replicate n ([.str "x"] : List V)).flatten = List.replicate n (.str "x")
  | 0 => rfl
  | n + 1 => by
    rw [List.replicate_succ, List.replicate_succ, List.flatten_cons, flat_x n]
    rfl
theorem x_dp {K : PySem.W.Frag} {H : Hp} : ∀ n : Nat, DpAll K H (List.replicate n (.str "x")) (List.replicate n (.str "x"))
  | 0 => .nil
  | n + 1 => .cons (.str _) (x_dp n)
theorem sc_law : FnScope ["_law_script", "_law_feed_here", "_law_many", "_law_value", "_law_due_here", "_law_sizes", "_law_turn", "_law_spot", "_law_length", "_law_wide", "_law_fit", "_law_row", "_law_look", "_law_size"] ["_law_script"] (defScope (topH 53)) := ⟨rfl, rfl, rfl, by decide +kernel, rfl, by decide +kernel, by decide +kernel⟩
theorem ok_law {f : Addr} {fd : FuncData} (F : Fun K "law" "law" (topH 53) f fd) (T : Tx K mg tk) {fLfeed : Addr} {fdLfeed : FuncData} (GLfeed : FnOk P w K mg base CX0 1 fLfeed fdLfeed ["_law_script"] (spFeed K)) (KLfeed : PySem.W.keepIn K (.ref fLfeed) = true) (BLfeed : Binds K fdLfeed ["_law_script"] []) (MLfeed : mg "_law_feed" = some (.ref fLfeed)) {fLpick : Addr} {fdLpick : FuncData} (GLpick : FnOk P w K mg base CX0 1 fLpick fdLpick ["_law_feed_here", "_law_many"] spPick) (KLpick : PySem.W.keepIn K (.ref fLpick) = true) (BLpick : Binds K fdLpick ["_law_feed_here", "_law_many"] []) (MLpick : mg "_law_pick" = some (.ref fLpick)) {fLlist : Addr} {fdLlist : FuncData} (GLlist : FnOk P w K mg base CX0 3 fLlist fdLlist ["_law_feed_here", "_law_many", "_law_length"] (fun vs H Q _ => ∃ (L : Addr) (m n : Int), vs = [.ref L, .int m, .int n] ∧ 0 ≤ m ∧ m ≤ 20 ∧ 0 ≤ n ∧ n ≤ 10 ∧ FdAt H L ∧ ∀ v H' d, Lx L H H' → FdAt H' L → Dp K (newH H H') v d → Vald n d → (∀ ds, d = .list ds → ∃ a xs, v = .ref a ∧ H a = none ∧ H' a = some (.lst xs) ∧ xs.length ≤ 10) → Q v H')) (KLlist : PySem.W.keepIn K (.ref fLlist) = true) (BLlist : Binds K fdLlist ["_law_feed_here", "_law_many", "_law_length"] []) (MLlist : mg "_law_list" = some (.ref fLlist)) {fLlot_told : Addr} {fdLlot_told : FuncData} (GLlot_told : FnOk P w K mg base CX0 5 fLlot_told fdLlot_told ["_law_value", "_law_many"] (fun vs H Q _ => ∃ v d m, vs = [v, .int m] ∧ Dp K H v d ∧ Dat K Q H (due m 1 d))) (KLlot_told : PySem.W.keepIn K (.ref fLlot_told) = true) (BLlot_told : Binds K fdLlot_told ["_law_value", "_law_many"] []) (MLlot_told : mg "_law_lot_told" = some (.ref fLlot_told)) {fLdue : Addr} {fdLdue : FuncData} (GLdue : FnOk P w K mg base CX0 2 fLdue fdLdue ["_law_value", "_law_many", "_law_step"] (fun vs H Q _ => ∃ v d m st, vs = [v, .int m, .int st] ∧ 0 ≤ st ∧ Dp K H v d ∧ Sml8 d ∧ Dat K Q H (due m st d))) (KLdue : PySem.W.keepIn K (.ref fLdue) = true) (BLdue : Binds K fdLdue ["_law_value", "_law_many", "_law_step"] []) (MLdue : mg "_law_due" = some (.ref fLdue)) {fLasking_told : Addr} {fdLasking_told : FuncData} (GLasking_told : FnOk P w K mg base CX0 5 fLasking_told fdLasking_told ["_law_value", "_law_many"] (fun vs H Q _ => ∃ v d m, vs = [v, .int m] ∧ Dp K H v d ∧ Dat K Q H (due m 0 d))) (KLasking_told : PySem.W.keepIn K (.ref fLasking_told) = true) (BLasking_told : Binds K fdLasking_told ["_law_value", "_law_many"] []) (MLasking_told : mg "_law_asking_told" = some (.ref fLasking_told)) {fLkept : Addr} {fdLkept : FuncData} (GLkept : FnOk P w K mg base CX0 6 fLkept fdLkept ["_law_value", "_law_many"] (fun vs H Q _ => ∃ v d m, vs = [v, .int m] ∧ Dp K H v d ∧ (∀ ds, d = .list ds → ∃ a xs, v = .ref a ∧ H a = some (.lst xs) ∧ xs.length ≤ 10) ∧ ∀ v1 H1 H', Same H H1 → Dp K H1 v1 (due m 0 d) → (H' = H1 ∨ ∃ ds a xs o, d = .list ds ∧ v = .ref a ∧ H a = some (.lst xs) ∧ H' = upd H1 a (.lst o)) → Q v1 H')) (KLkept : PySem.W.keepIn K (.ref fLkept) = true) (BLkept : Binds K fdLkept ["_law_value", "_law_many"] []) (MLkept : mg "_law_kept" = some (.ref fLkept)) {fLspot_right : Addr} {fdLspot_right : FuncData} (GLspot_right : FnOk P w K mg base CX0 4 fLspot_right fdLspot_right ["_law_value", "_law_sizes"] (fun vs H Q _ => ∃ v d b ns, vs = [v, .ref b] ∧ Dp K H v d ∧ SqA K H b ((ns : List Int).map V.int) ∧ ∀ H', Same H H' → Q (.bl true) H')) (KLspot_right : PySem.W.keepIn K (.ref fLspot_right) = true) (BLspot_right : Binds K fdLspot_right ["_law_value", "_law_sizes"] []) (MLspot_right : mg "_law_spot_right" = some (.ref fLspot_right)) {fLspots : Addr} {fdLspots : FuncData} (GLspots : FnOk P w K mg base CX0 1 fLspots fdLspots ["_law_looks", "_law_sizes"] (fun vs H Q _ => ∃ (a b : Addr) (k n : Int) (ns : List Int), vs = [.ref a, .ref b] ∧ H a = some (.lst [.int k]) ∧ SqL K H b (ns.map V.int) ∧ atI (ns.map V.int) k = some (.int n) ∧ 0 ≤ n ∧ n ≤ 100 ∧ ∀ (l : Addr) (ts : List Addr) (H' : Hp), Same H H' → H l = none → H' l = some (.lst (ts.map V.ref)) → ts.length ≤ 100 → (∀ t ∈ ts, ∃ j : Int, H' t = some (.tup [.int k, .int j])) → Q (.ref l) H')) (KLspots : PySem.W.keepIn K (.ref fLspots) = true) (BLspots : Binds K fdLspots ["_law_looks", "_law_sizes"] []) (MLspots : mg "_law_spots" = some (.ref fLspots)) {fLsizes_right : Addr} {fdLsizes_right : FuncData} (GLsizes_right : FnOk P w K mg base CX0 3 fLsizes_right fdLsizes_right ["_law_value"] (fun vs H Q _ => ∃ v d, vs = [v] ∧ Dp K H v d ∧ Sml8 d ∧ ∀ H', Same H H' → Q (.bl true) H')) (KLsizes_right : PySem.W.keepIn K (.ref fLsizes_right) = true) (BLsizes_right : Binds K fdLsizes_right ["_law_value"] []) (MLsizes_right : mg "_law_sizes_right" = some (.ref fLsizes_right)) {fLnumbers_judged : Addr} {fdLnumbers_judged : FuncData} (GLnumbers_judged : FnOk P w K mg base CX0 7 fLnumbers_judged fdLnumbers_judged ["_law_good"] (fun vs H Q _ => ∃ g, vs = [.int g] ∧ 1 ≤ g ∧ g ≤ 30 ∧ ∀ H', Same H H' → Q (.bl true) H')) (KLnumbers_judged : PySem.W.keepIn K (.ref fLnumbers_judged) = true) (BLnumbers_judged : Binds K fdLnumbers_judged ["_law_good"] []) (MLnumbers_judged : mg "_law_numbers_judged" = some (.ref fLnumbers_judged)) {fLrow_right : Addr} {fdLrow_right : FuncData} (GLrow_right : FnOk P w K mg base CX0 3 fLrow_right fdLrow_right ["_law_asking", "_law_row"] (fun vs H Q _ => ∃ v d b as, vs = [.ref b, v] ∧ Dp K H v d ∧ SqA K H b ((as : List Int).map V.int) ∧ as.length ≤ 1000 ∧ (∀ ds, seqD d = some ds → ds.length = as.length → Shp 6 (.tuple (zipD as ds))) ∧ ∀ H', Same H H' → Q (.bl true) H')) (KLrow_right : PySem.W.keepIn K (.ref fLrow_right) = true) (BLrow_right : Binds K fdLrow_right ["_law_asking", "_law_row"] []) (MLrow_right : mg "_law_row_right" = some (.ref fLrow_right)) :
    FnOk P w K mg base CX0 8 f fd ["_law_script"] (spLaw K) := by
  refine F.ok sc_law (fun vs H Q E h => ?_) (fun cdv A outer s H vs Q E hr h => ?_)
  · obtain ⟨a, ns, rfl, _⟩ := h
    rfl
  obtain ⟨sc, ns, rfl, hS, h63, q⟩ := h
  refine ⟨_, (pss_cons (ps_set (i := 1) sc_law.nd rfl (Or.inr rfl) (pe_call GLfeed (hr.mono (by decide)) (by rfl) MLfeed KLfeed BLfeed .nil pass0 (pa_cons (pv 0) pa_nil)))
 (pss_cons (ps_set (i := 2) sc_law.nd rfl (Or.inl rfl) (pe_op op_add pe_int (pe_op op_mod (pe_callTy call_int1 (by rfl) T.int (by decide +kernel) (pa_cons (pe_op op_add (pe_call GLpick (hr.mono (by decide)) (by rfl) MLpick KLpick BLpick .nil pass0 (pa_cons (pv 1) (pa_cons pe_int pa_nil))) pe_int) pa_nil)) pe_int)))
 (pss_cons (ps_set (i := 3) sc_law.nd rfl (Or.inl rfl) (pe_call GLlist (hr.mono (by decide)) (by rfl) MLlist KLlist BLlist .nil pass0 (pa_cons (pv 1) (pa_cons (pv 2) (pa_cons (pe_ix (r := rIx K) ix_seq (pe_lst (pa_cons pe_int (pa_cons pe_int (pa_cons pe_int (pa_cons pe_int (pa_cons pe_int (pa_cons pe_int pa_nil))))))) (pe_call GLpick (hr.mono (by decide)) (by rfl) MLpick KLpick BLpick .nil pass0 (pa_cons (pv 1) (pa_cons pe_int pa_nil))) (fun _ _ => rfl)) pa_nil)))))
 (pss_cons (ps_if (pt_cmpR (op_neD hr.units) (pe_call GLlot_told (hr.mono (by decide)) (by rfl) MLlot_told KLlot_told BLlot_told .nil pass0 (pa_cons (pv 3) (pa_cons (pv 2) pa_nil))) (pe_call GLdue (hr.mono (by decide)) (by rfl) MLdue KLdue BLdue .nil pass0 (pa_cons (pv 3) (pa_cons (pv 2) (pa_cons pe_int pa_nil)))) (nomark _)) (pss_one (ps_ret pe_bl)) pss_nil)
 (pss_cons (ps_set (i := 4) sc_law.nd rfl (Or.inl rfl) (pe_call GLdue (hr.mono (by decide)) (by rfl) MLdue KLdue BLdue .nil pass0 (pa_cons (pv 3) (pa_cons (pv 2) (pa_cons pe_int pa_nil)))))
 (pss_cut (ps_if (PW.pt (pw_or (pt_cmpR (op_neD hr.units) (pe_call GLasking_told (hr.mono (by decide)) (by rfl) MLasking_told KLasking_told BLasking_told .nil pass0 (pa_cons (pv 3) (pa_cons (pv 2) pa_nil))) (pv 4) (nomark _)) (pw_or1 (pt_cmpR (op_neD hr.units) (pe_call GLkept (hr.mono (by decide)) (by rfl) MLkept KLkept BLkept .nil pass0 (pa_cons (pv 3) (pa_cons (pv 2) pa_nil))) (pv 4) (nomark _))))) (pss_one (ps_ret pe_bl)) pss_nil)
 (pss_cons (ps_setLc (i := 5) (own := [("_law_look", 12)]) (g := gName 12) (tt := tYes)  (by rfl) sc_law.nd rfl rfl (sw_true rfl rfl rfl (by decide +kernel)) (pi_range1 (by rfl) T.range (pa_cons (pv 2) pa_nil)) (blkOk_by (own := [("_law_look", 12)]) (N := ["_law_script", "_law_feed_here", "_law_many", "_law_value", "_law_due_here", "_law_sizes", "_law_turn", "_law_spot", "_law_length", "_law_wide", "_law_fit", "_law_row", "_law_look", "_law_size"]) (sc := defScope (topH 53)) (by decide +kernel)) (fun _ _ _ _ _ => pg_name (i := 12) sc_law.nd rfl (Or.inl rfl)) (fun _ _ _ _ _ => pts_nil) (fun _ _ _ _ _ => (pe_op op_add pe_int (pe_call GLpick (hr.mono (by decide)) (by rfl) MLpick KLpick BLpick .nil pass0 (pa_cons (pv 1) (pa_cons pe_int pa_nil))))))
 (pss_cons (ps_for PassesOwn.never rfl (pi_range1 (by rfl) T.range (pa_cons pe_int pa_nil)) (pg_name (i := 6) sc_law.nd rfl (Or.inl rfl))
 (pss_one (ps_if (pt_not (pt_val (pe_call GLspot_right (hr.mono (by decide)) (by rfl) MLspot_right KLspot_right BLspot_right .nil pass0 (pa_cons (pe_call GLlist (hr.mono (by decide)) (by rfl) MLlist KLlist BLlist .nil pass0 (pa_cons (pv 1) (pa_cons (pv 2) (pa_cons (pe_ix (r := rIx K) ix_seq (pe_lst (pa_cons pe_int (pa_cons pe_int (pa_cons pe_int (pa_cons pe_int pa_nil))))) (pe_call GLpick (hr.mono (by decide)) (by rfl) MLpick KLpick BLpick .nil pass0 (pa_cons (pv 1) (pa_cons pe_int pa_nil))) (fun _ _ => rfl)) pa_nil)))) (pa_cons (pv 5) pa_nil))))) (pss_one (ps_ret pe_bl)) pss_nil)))
 (pss_cons (ps_for PassesOwn.never rfl (pi_or (pi_list (pe_call GLspots (hr.mono (by decide)) (by rfl) MLspots KLspots BLspots .nil pass0 (pa_cons (pe_lst (pa_cons (pe_op op_sub (pv 2) pe_int) pa_nil)) (pa_cons (pv 5) pa_nil)))) (pi_tup (pe_call GLspots (hr.mono (by decide)) (by rfl) MLspots KLspots BLspots .nil pass0 (pa_cons (pe_lst (pa_cons (pe_op op_sub (pv 2) pe_int) pa_nil)) (pa_cons (pv 5) pa_nil))))) (pg_name (i := 7) sc_law.nd rfl (Or.inl rfl))
 (pss_one (ps_if (pt_not (pt_val (pe_call GLspot_right (hr.mono (by decide)) (by rfl) MLspot_right KLspot_right BLspot_right .nil pass0 (pa_cons (pe_callTy call_list_of (by rfl) T.list list_b (pa_cons (pv 7) pa_nil)) (pa_cons (pe_callTy call_tuple_of (by rfl) T.tuple tuple_b (pa_cons (pv 5) pa_nil)) pa_nil))))) (pss_one (ps_ret pe_bl)) pss_nil)))
 (pss_cons (ps_set (i := 8) sc_law.nd rfl (Or.inl rfl) (pe_ix (r := rIx K) ix_seq (pe_lst (pa_cons pe_int (pa_cons pe_int (pa_cons pe_int (pa_cons pe_int (pa_cons pe_int pa_nil)))))) (pe_call GLpick (hr.mono (by decide)) (by rfl) MLpick KLpick BLpick .nil pass0 (pa_cons (pv 1) (pa_cons pe_int pa_nil))) (fun _ _ => rfl)))
 (pss_cons (ps_setLc (i := 9) (own := [("_law_look", 12)]) (g := gName 12) (tt := tYes)  (by rfl) sc_law.nd rfl rfl (sw_true rfl rfl rfl (by decide +kernel)) (pi_range1 (by rfl) T.range (pa_cons (pv 8) pa_nil)) (blkOk_by (own := [("_law_look", 12)]) (N := ["_law_script", "_law_feed_here", "_law_many", "_law_value", "_law_due_here", "_law_sizes", "_law_turn", "_law_spot", "_law_length", "_law_wide", "_law_fit", "_law_row", "_law_look", "_law_size"]) (sc := defScope (topH 53)) (by decide +kernel)) (fun _ _ _ _ _ => pg_name (i := 12) sc_law.nd rfl (Or.inl rfl)) (fun _ _ _ _ _ => pts_nil) (fun _ _ _ _ _ => (pe_op op_add pe_int (pe_op op_mod (pe_callTy call_int1 (by rfl) T.int (by decide +kernel) (pa_cons (pe_op op_add (pe_call GLpick (hr.mono (by decide)) (by rfl) MLpick KLpick BLpick .nil pass0 (pa_cons (pv 1) (pa_cons pe_int pa_nil))) pe_int) pa_nil)) pe_int))))
 (pss_cons (ps_setLc (i := 10) (own := [("_law_size", 13)]) (g := gName 13) (tt := tYes)  (by rfl) sc_law.nd rfl rfl (sw_true rfl rfl rfl (by decide +kernel)) (pi_or (pi_list (pv 9)) (pi_tup (pv 9))) (blkOk_by (own := [("_law_size", 13)]) (N := ["_law_script", "_law_feed_here", "_law_many", "_law_value", "_law_due_here", "_law_sizes", "_law_turn", "_law_spot", "_law_length", "_law_wide", "_law_fit", "_law_row", "_law_look", "_law_size"]) (sc := defScope (topH 53)) (by decide +kernel)) (fun _ _ _ _ _ => pg_name (i := 13) sc_law.nd rfl (Or.inl rfl)) (fun _ _ _ _ _ => pts_nil) (fun _ _ _ _ _ => (pe_op op_add pe_int (pe_op op_mod (pe_callTy call_int1 (by rfl) T.int (by decide +kernel) (pa_cons (pv 13) pa_nil)) pe_int))))
 (pss_cons (ps_if (PW.pt (pw_or (pt_not (pt_val (pe_call GLsizes_right (hr.mono (by decide)) (by rfl) MLsizes_right KLsizes_right BLsizes_right .nil pass0 (pa_cons (pv 9) pa_nil)))) (pw_or (pt_not (pt_val (pe_call GLsizes_right (hr.mono (by decide)) (by rfl) MLsizes_right KLsizes_right BLsizes_right .nil pass0 (pa_cons (pe_callTy call_tuple_of (by rfl) T.tuple tuple_b (pa_cons (pv 10) pa_nil)) pa_nil)))) (pw_or1 (pt_not (pt_val (pe_call GLsizes_right (hr.mono (by decide)) (by rfl) MLsizes_right KLsizes_right BLsizes_right .nil pass0 (pa_cons (pe_op op_cat (pv 10) (pe_lst (pa_cons pe_bl pa_nil))) pa_nil)))))))) (pss_one (ps_ret pe_bl)) pss_nil)
 (pss_cons (ps_if (pt_not (pt_val (pe_call GLnumbers_judged (hr.mono (by decide)) (by rfl) MLnumbers_judged KLnumbers_judged BLnumbers_judged .nil pass0 (pa_cons (pe_op op_add pe_int (pe_call GLpick (hr.mono (by decide)) (by rfl) MLpick KLpick BLpick .nil pass0 (pa_cons (pv 1) (pa_cons pe_int pa_nil)))) pa_nil)))) (pss_one (ps_ret pe_bl)) pss_nil)
 (pss_cons (ps_if (pt_cmpR op_eq (pe_ix (r := rIx K) ix_seq (pv 4) pe_int (fun _ _ => rfl)) pe_str (nomark _)) (pss_cons (ps_set (i := 11) sc_law.nd rfl (Or.inl rfl) (pe_call GLlist (hr.mono (by decide)) (by rfl) MLlist KLlist BLlist .nil pass0 (pa_cons (pv 1) (pa_cons pe_int (pa_cons (pe_op op_add (pe_callB call_len_seq (by rfl) T.len PySem.boot_len (pa_cons (pe_ix (r := rIx K) ix_seq (pv 4) pe_int (fun _ _ => rfl)) pa_nil)) (pe_ix (r := rIx K) ix_seq (pe_lst (pa_cons pe_int (pa_cons pe_int (pa_cons pe_int pa_nil)))) (pe_call GLpick (hr.mono (by decide)) (by rfl) MLpick KLpick BLpick .nil pass0 (pa_cons (pv 1) (pa_cons pe_int pa_nil))) (fun _ _ => rfl))) pa_nil)))))
 (pss_one (ps_ret (pe_andT (pe_call GLrow_right (hr.mono (by decide)) (by rfl) MLrow_right KLrow_right BLrow_right .nil pass0 (pa_cons (pe_ix (r := rIx K) ix_seq (pv 4) pe_int (fun _ _ => rfl)) (pa_cons (pv 11) pa_nil))) (pe_one (pe_call GLrow_right (hr.mono (by decide)) (by rfl) MLrow_right KLrow_right BLrow_right .nil pass0 (pa_cons (pe_ix (r := rIx K) ix_seq (pv 4) pe_int (fun _ _ => rfl)) (pa_cons (pe_op op_rep (pe_lst (pa_cons pe_str pa_nil)) (pe_callB call_len_seq (by rfl) T.len PySem.boot_len (pa_cons (pe_ix (r := rIx K) ix_seq (pv 4) pe_int (fun _ _ => rfl)) pa_nil))) pa_nil)))))))) pss_nil)
 (pss_one (ps_ret (pe_andT (pe_call GLsizes_right (hr.mono (by decide)) (by rfl) MLsizes_right KLsizes_right BLsizes_right .nil pass0 (pa_cons pe_int pa_nil)) (pe_one (pe_call GLsizes_right (hr.mono (by decide)) (by rfl) MLsizes_right KLsizes_right BLsizes_right .nil pass0 (pa_cons pe_str pa_nil))))))))))))))))))))), ?_⟩
  refine ⟨_, rfl, sc, ns, rfl, hS, h63, fun L H1 r s1 hL0 hL hlen => ?_⟩
  have fd1 : FdAt H1 L := ⟨1, r, by decide, hlen, hL⟩
  obtain ⟨p_v1, r_v1, hp_v1, hr_v1, e_v1⟩ := id fd1
  refine ⟨_, rfl, L, p_v1, _, r_v1, rfl, by decide, hp_v1, hr_v1, e_v1, fun v1 k_v1 a0 a1 kk_v1 => ?_⟩
  have x2 : Lx L H1 (upd H1 L (.lst ((k_v1 :: r_v1).map V.int))) := Lx.upd L H1 _
  have fd2 : FdAt (upd H1 L (.lst ((k_v1 :: r_v1).map V.int))) L := ⟨k_v1, r_v1, kk_v1, hr_v1, upd_same⟩
  generalize upd H1 L (.lst ((k_v1 :: r_v1).map V.int)) = H2 at *
  refine ⟨_, _, rfl, rfl, .inl ⟨_, rfl, _, _, rfl, rfl, (by show (0 : Int) < 8; decide), _, _, rfl, rfl, ?_⟩⟩
  have M0 : 1 ≤ 1 + (v1 + 4) % 8 ∧ 1 + (v1 + 4) % 8 ≤ 8 := by omega
  -- the value
  refine ⟨_, rfl, _, rfl, by show 6 ≤ sizeLine; decide, fun l1 h_l1 => ?_⟩
  have n_l1 : l1 ≠ L := fd_ne fd2 h_l1
  have g3 := same_new (Same.refl H2) h_l1 (.lst [.int 3, .int 0, .int 1, .int 2, .int 4, .int 5])
  have el1 : (upd H2 l1 (.lst [.int 3, .int 0, .int 1, .int 2, .int 4, .int 5])) l1 = some (.lst [.int 3, .int 0, .int 1, .int 2, .int 4, .int 5]) := upd_same
  have fd3 := fd2.keep g3
  generalize upd H2 l1 (.lst [.int 3, .int 0, .int 1, .int 2, .int 4, .int 5]) = H3 at *
  obtain ⟨p_v2, r_v2, hp_v2, hr_v2, e_v2⟩ := id fd3
  refine ⟨_, rfl, L, p_v2, _, r_v2, rfl, by decide, hp_v2, hr_v2, e_v2, fun v2 k_v2 a0 a1 kk_v2 => ?_⟩
  have x4 : Lx L H3 (upd H3 L (.lst ((k_v2 :: r_v2).map V.int))) := Lx.upd L H3 _
  have fd4 : FdAt (upd H3 L (.lst ((k_v2 :: r_v2).map V.int))) L := ⟨k_v2, r_v2, kk_v2, hr_v2, upd_same⟩
  generalize upd H3 L (.lst ((k_v2 :: r_v2).map V.int)) = H4 at *
  have c2 : ∃ n : Int, ([.int 3, .int 0, .int 1, .int 2, .int 4, .int 5] : List V)[v2.toNat]? = some (.int n) ∧ 0 ≤ n ∧ n ≤ 5 := by
    have cs : v2 = 0 ∨ v2 = 1 ∨ v2 = 2 ∨ v2 = 3 ∨ v2 = 4 ∨ v2 = 5 := by omega
    rcases cs with rfl | rfl | rfl | rfl | rfl | rfl
    · exact ⟨_, rfl, by decide, by decide⟩
    · exact ⟨_, rfl, by decide, by decide⟩
    · exact ⟨_, rfl, by decide, by decide⟩
    · exact ⟨_, rfl, by decide, by decide⟩
    · exact ⟨_, rfl, by decide, by decide⟩
    · exact ⟨_, rfl, by decide, by decide⟩
  obtain ⟨n2, en2, n20, n25⟩ := c2
  refine ix_of (.inl (SqL.of (x4 _ _ n_l1 el1))) (at_of (j := v2.toNat) (by omega) en2) ?_
  refine ⟨L, (1 + (v1 + 4) % 8), n2, rfl, by omega, by omega, n20, by omega, fd4, fun v H5 d x5 fd5 hv vd hl5 => ?_⟩
  have hv5 := dp_keep (newH_same H4 H5) hv
  have sm : Sml8 d := fun ds e => by
    have z := (vd.2 ds e).1
    omega
  have fl0 := due_flat (1 + (v1 + 4) % 8) 0 d sm
  have fl1 := due_flat (1 + (v1 + 4) % 8) 1 d sm
  -- told and due
  refine ⟨_, rfl, _, rfl, v, d, (1 + (v1 + 4) % 8), rfl, hv5, fun w1 H6 s6 h6 => ?_⟩
  refine ⟨_, rfl, _, rfl, v, d, (1 + (v1 + 4) % 8), 1, rfl, by decide, dp_keep s6 hv5, sm, fun w2 H7 s7 h7 => ?_⟩
  refine ⟨_, _, dp_keep s7 h6, h7, fl1.2.ok, fl1.2.ok, _, rfl, ?_⟩
  rw [fl1.2.refl]
  have s57 := s6.trans s7
  refine iteF ⟨_, rfl, _, rfl, v, d, (1 + (v1 + 4) % 8), 0, rfl, by decide, dp_keep s57 hv5, sm, fun vdue H8 s8 h8 => ?_⟩
  have s58 := s57.trans s8
  have ok8 : OkS K L vdue (due (1 + (v1 + 4) % 8) 0 d) H8 := ⟨fd5.keep s58, h8⟩
  refine ⟨fun σ H' => ∃ vv, σ = [some (.ref sc), some (.ref L), some (.int (1 + (v1 + 4) % 8)), some vv, some vdue, none, none, none, none, none, none, none, none, none] ∧ OkS K L vdue (due (1 + (v1 + 4) % 8) 0 d) H', ?_, ?_⟩
  · refine ⟨_, rfl, _, rfl, v, d, (1 + (v1 + 4) % 8), rfl, dp_keep s58 hv5, fun w3 H9 s9 h9 => ?_⟩
    have ok9 := ok8.same s9
    refine ⟨_, rfl, _, _, h9, ok9.due, fl0.2.ok, fl0.2.ok, _, rfl, ?_⟩
    rw [fl0.2.refl]
    refine iteF ⟨_, rfl, _, rfl, v, d, (1 + (v1 + 4) % 8), rfl, dp_keep (s58.trans s9) hv5, fun ds e => ?_, fun w4 Ha Hb sa ha hc => ?_⟩
    · obtain ⟨a, xs, e1, e2, e3, e4⟩ := hl5 ds e
      exact ⟨a, xs, e1, s9 _ _ (s58 _ _ e3), by omega⟩
    have oka := ok9.same sa
    have okb : OkS K L vdue (due (1 + (v1 + 4) % 8) 0 d) Hb ∧ Dp K Hb w4 (due (1 + (v1 + 4) % 8) 0 d) := by
      rcases hc with rfl | ⟨ds, a, xs, oo, e1, e2, e3, rfl⟩
      · exact ⟨oka, ha⟩
      · obtain ⟨a2, xs2, f1, f2, f3, _⟩ := hl5 ds e1
        rw [e2] at f1
        cases f1
        have aL := fd_ne fd4 f2
        have kt : KeepsT Ha (upd Ha a (.lst oo)) := KeepsT.at_lst (sa _ _ e3) _
        obtain ⟨p, r, b1, b2, b3⟩ := oka.fd
        exact ⟨⟨⟨p, r, b1, b2, by rw [upd_ne aL.symm]; exact b3⟩, fl0.1.keep kt _ oka.due⟩, fl0.1.keep kt _ ha⟩
    obtain ⟨okb, hb⟩ := okb
    refine ⟨_, rfl, _, _, hb, okb.due, fl0.2.ok, fl0.2.ok, _, rfl, ?_⟩
    rw [fl0.2.refl]
    exact iteF ⟨v, rfl, okb⟩
  rintro σ Hs ⟨vv, rfl, ok⟩
  have Fl := fl0.1
  have cases0 := due_cases (1 + (v1 + 4) % 8) 0 d sm
  clear fl0 fl1 ok8 h8 h7 h6
  generalize due (1 + (v1 + 4) % 8) 0 d = du at ok Fl cases0
  -- the sizes
  refine ⟨_, rfl, (1 + (v1 + 4) % 8), rfl, by omega, by omega, fun Z hZ => ?_⟩
  have nZ := fd_ne ok.fd hZ
  refine lc_range (n := (1 + (v1 + 4) % 8).toNat) (fun i H2 => Lx L Hs H2 ∧ FdAt H2 L ∧ ∃ zs : List Int, H2 Z = some (.lst (zs.map V.int)) ∧ zs.length = i ∧ ∀ z ∈ zs, 2 ≤ z ∧ z ≤ 6) ⟨Lx.of (same_new (Same.refl _) hZ _), ok.fd.keep (same_new (Same.refl _) hZ _), [], upd_same, rfl, fun z h => absurd h List.not_mem_nil⟩ ?_ ?_
  · rintro i H2 hi ⟨gx, f2, zs, hz, hzl, hzz⟩
    refine ⟨rfl, ?_⟩
    obtain ⟨p_u1, r_u1, hp_u1, hr_u1, e_u1⟩ := id f2
    refine ⟨_, rfl, L, p_u1, _, r_u1, rfl, by decide, hp_u1, hr_u1, e_u1, fun u1 k_u1 a0 a1 kk_u1 => ?_⟩
    have y3 : Lx L H2 (upd H2 L (.lst ((k_u1 :: r_u1).map V.int))) := Lx.upd L H2 _
    have f3 : FdAt (upd H2 L (.lst ((k_u1 :: r_u1).map V.int))) L := ⟨k_u1, r_u1, kk_u1, hr_u1, upd_same⟩
    generalize upd H2 L (.lst ((k_u1 :: r_u1).map V.int)) = H3' at *
    refine ⟨_, _, rfl, rfl, zs.map V.int, y3 _ _ nZ hz, by rw [List.length_map, hzl]; exact Nat.lt_of_lt_of_le hi (Nat.le_trans (by omega : (1 + (v1 + 4) % 8).toNat ≤ 9) (by decide)), fun b u nb e => ?_, ?_, zs ++ [2 + u1], ?_, by rw [List.length_append, hzl]; rfl, fun z h => ?_⟩
    · rw [upd_ne (ne_of_none e hZ)]
      exact y3 b u nb (gx b u nb e)
    · obtain ⟨p, r, b1, b2, b3⟩ := f3
      exact ⟨p, r, b1, b2, by rw [upd_ne nZ.symm]; exact b3⟩
    · rw [upd_same, List.map_append]
      rfl
    · rcases List.mem_append.mp h with h | h
      · exact hzz z h
      · obtain rfl : z = 2 + u1 := by simpa using h
        omega
  rintro Ht ⟨gxt, ft, zs, hz, hzl, hzz⟩
  have okt := ok.lx Fl gxt ft
  -- three spots
  refine ⟨3, rfl, by decide, by decide, for_range (n := 3) (fun i σ H' => ∃ x6, σ = [some (.ref sc), some (.ref L), some (.int (1 + (v1 + 4) % 8)), some vv, some vdue, some (.ref Z), x6, none, none, none, none, none, none, none] ∧ OkS K L vdue du H' ∧ H' Z = some (.lst (zs.map V.int))) ⟨_, rfl, okt, hz⟩ ?_ ?_⟩
  · rintro i σ H2 hi ⟨x6, rfl, ok2, hz2⟩
    refine ⟨_, rfl, _, rfl, by show 4 ≤ sizeLine; decide, fun l2 h_l2 => ?_⟩
    have n_l2 : l2 ≠ L := fd_ne ok2.fd h_l2
    have g3' := same_new (Same.refl H2) h_l2 (.lst [.int 2, .int 2, .int 1, .int 3])
    have el2 : (upd H2 l2 (.lst [.int 2, .int 2, .int 1, .int 3])) l2 = some (.lst [.int 2, .int 2, .int 1, .int 3]) := upd_same
    have fd3' := ok2.fd.keep g3'
    have ok3 := ok2.same g3'
    have hz3 := g3' _ _ hz2
    generalize upd H2 l2 (.lst [.int 2, .int 2, .int 1, .int 3]) = H3' at *
    obtain ⟨p_u2, r_u2, hp_u2, hr_u2, e_u2⟩ := id fd3'
    refine ⟨_, rfl, L, p_u2, _, r_u2, rfl, by decide, hp_u2, hr_u2, e_u2, fun u2 k_u2 a0 a1 kk_u2 => ?_⟩
    have x4' : Lx L H3' (upd H3' L (.lst ((k_u2 :: r_u2).map V.int))) := Lx.upd L H3' _
    have fd4' : FdAt (upd H3' L (.lst ((k_u2 :: r_u2).map V.int))) L := ⟨k_u2, r_u2, kk_u2, hr_u2, upd_same⟩
    have ok4 := ok3.lx Fl x4' fd4'
    have hz4 := x4' _ _ nZ hz3
    generalize upd H3' L (.lst ((k_u2 :: r_u2).map V.int)) = H4' at *
    have c3 : ∃ n : Int, ([.int 2, .int 2, .int 1, .int 3] : List V)[u2.toNat]? = some (.int n) ∧ 0 ≤ n ∧ n ≤ 3 := by
      have cs : u2 = 0 ∨ u2 = 1 ∨ u2 = 2 ∨ u2 = 3 := by omega
      rcases cs with rfl | rfl | rfl | rfl
      · exact ⟨_, rfl, by decide, by decide⟩
      · exact ⟨_, rfl, by decide, by decide⟩
      · exact ⟨_, rfl, by decide, by decide⟩
      · exact ⟨_, rfl, by decide, by decide⟩
    obtain ⟨n3, en3, n30, n35⟩ := c3
    refine ix_of (.inl (SqL.of (x4' _ _ n_l2 el2))) (at_of (j := u2.toNat) (by omega) en3) ?_
    refine ⟨L, (1 + (v1 + 4) % 8), n3, rfl, by omega, by omega, n30, by omega, fd4', fun v' H5' d' x5' fd5' hv' vd' _ => ?_⟩
    have ok5 := ok4.lx Fl x5' fd5'
    have hz5 := x5' _ _ nZ hz4
    refine ⟨_, rfl, v', d', Z, zs, rfl, dp_keep (newH_same _ _) hv', .inl (SqL.of hz5), fun H6' s6' => ⟨true, rfl, iteF ⟨_, rfl, ok5.same s6', s6' _ _ hz5⟩⟩⟩
  rintro σ Hu ⟨x6, rfl, oku, hzu⟩
  -- the spots of the last look
  refine .inl ⟨_, rfl, _, _, rfl, rfl, by show 1 ≤ sizeLine; decide, fun l3 h_l3 => ?_⟩
  have n_l3 : l3 ≠ L := fd_ne oku.fd h_l3
  have gu := same_new (Same.refl Hu) h_l3 (.lst [.int ((1 + (v1 + 4) % 8) - 1)])
  have el3 : (upd Hu l3 (.lst [.int ((1 + (v1 + 4) % 8) - 1)])) l3 = some (.lst [.int ((1 + (v1 + 4) % 8) - 1)]) := upd_same
  have fdu := oku.fd.keep gu
  have oku2 := oku.same gu
  have hzu2 := gu _ _ hzu
  generalize upd Hu l3 (.lst [.int ((1 + (v1 + 4) % 8) - 1)]) = Hu2 at *
  obtain ⟨zn, ezn, zn2, zn6⟩ : ∃ z, zs[((1 + (v1 + 4) % 8) - 1).toNat]? = some z ∧ 2 ≤ z ∧ z ≤ 6 := by
    have lt : ((1 + (v1 + 4) % 8) - 1).toNat < zs.length := by omega
    exact ⟨_, List.getElem?_eq_getElem lt, hzz _ (List.getElem_mem lt)⟩
  refine ⟨_, rfl, l3, Z, (1 + (v1 + 4) % 8) - 1, zn, zs, rfl, el3, SqL.of hzu2, at_of (j := ((1 + (v1 + 4) % 8) - 1).toNat) (by omega) (by rw [List.getElem?_map, ezn]; rfl), by omega, by omega, fun sl ts Hv sv nsl esl lts pts => ?_⟩
  have okv := oku2.same sv
  have hzv := sv _ _ hzu2
  refine ⟨sl, rfl, ⟨_, SqL.of esl⟩, for_list (K := K) (a := sl) (xs := ts.map V.ref) (fun i σ H' => ∃ x7, σ = [some (.ref sc), some (.ref L), some (.int (1 + (v1 + 4) % 8)), some vv, some vdue, some (.ref Z), x6, x7, none, none, none, none, none, none] ∧ Same Hv H') ⟨_, rfl, Same.refl _⟩ (fun i σ H' _ ⟨_, _, z⟩ => SqL.of (z _ _ esl)) ?_ ?_⟩
  · rintro i x σ H2 hi ⟨x7, rfl, g2⟩
    rw [List.getElem?_map] at hi
    obtain ⟨tt, ett, rfl⟩ := Option.map_eq_some_iff.mp hi
    obtain ⟨j, htt⟩ := pts tt (List.mem_of_getElem? ett)
    refine ⟨_, rfl, tt, _, rfl, .inr (SqT.of (g2 _ _ htt)), fun l hl => ?_⟩
    have ga := same_new (Same.refl H2) hl (.lst [.int ((1 + (v1 + 4) % 8) - 1), .int j])
    have ea : (upd H2 l (.lst [.int ((1 + (v1 + 4) % 8) - 1), .int j])) l = some (.lst (([(1 + (v1 + 4) % 8) - 1, j] : List Int).map V.int)) := upd_same
    generalize upd H2 l (.lst [.int ((1 + (v1 + 4) % 8) - 1), .int j]) = H3' at *
    refine ⟨_, rfl, Z, _, rfl, .inl ⟨SqL.of (ga _ _ (g2 _ _ hzv)), fun tp htp => ?_⟩⟩
    have gb := same_new (Same.refl H3') htp (.tup (zs.map V.int))
    refine ⟨.ref l, .list ([(1 + (v1 + 4) % 8) - 1, j].map PyData.int), tp, zs, rfl, lst_dp (gb _ _ ea), .inr (SqT.of upd_same), fun H4' s4 => ⟨true, rfl, iteF ⟨_, rfl, ((g2.trans ga).trans gb).trans s4⟩⟩⟩
  rintro σ Hw ⟨x7, rfl, gw⟩
  have okw := okv.same gw
  -- wide, fit
  refine ⟨by show 5 ≤ sizeLine; decide, fun l4 h_l4 => ?_⟩
  have n_l4 : l4 ≠ L := fd_ne okw.fd h_l4
  have g4 := same_new (Same.refl Hw) h_l4 (.lst [.int 3, .int 8, .int 0, .int 9, .int 1])
  have el4 : (upd Hw l4 (.lst [.int 3, .int 8, .int 0, .int 9, .int 1])) l4 = some (.lst [.int 3, .int 8, .int 0, .int 9, .int 1]) := upd_same
  have fdw := okw.fd.keep g4
  have okw2 := okw.same g4
  generalize upd Hw l4 (.lst [.int 3, .int 8, .int 0, .int 9, .int 1]) = Hw2 at *
  obtain ⟨p_u3, r_u3, hp_u3, hr_u3, e_u3⟩ := id fdw
  refine ⟨_, rfl, L, p_u3, _, r_u3, rfl, by decide, hp_u3, hr_u3, e_u3, fun u3 k_u3 a0 a1 kk_u3 => ?_⟩
  have xw3 : Lx L Hw2 (upd Hw2 L (.lst ((k_u3 :: r_u3).map V.int))) := Lx.upd L Hw2 _
  have fdw3 : FdAt (upd Hw2 L (.lst ((k_u3 :: r_u3).map V.int))) L := ⟨k_u3, r_u3, kk_u3, hr_u3, upd_same⟩
  have okw3 := okw2.lx Fl xw3 fdw3
  generalize upd Hw2 L (.lst ((k_u3 :: r_u3).map V.int)) = Hw3 at *
  have c4 : ∃ n : Int, ([.int 3, .int 8, .int 0, .int 9, .int 1] : List V)[u3.toNat]? = some (.int n) ∧ 0 ≤ n ∧ n ≤ 9 := by
    have cs : u3 = 0 ∨ u3 = 1 ∨ u3 = 2 ∨ u3 = 3 ∨ u3 = 4 := by omega
    rcases cs with rfl | rfl | rfl | rfl | rfl
    · exact ⟨_, rfl, by decide, by decide⟩
    · exact ⟨_, rfl, by decide, by decide⟩
    · exact ⟨_, rfl, by decide, by decide⟩
    · exact ⟨_, rfl, by decide, by decide⟩
    · exact ⟨_, rfl, by decide, by decide⟩
  obtain ⟨n4, en4, n40, n49⟩ := c4
  refine ix_of (.inl (SqL.of (xw3 _ _ n_l4 el4))) (at_of (j := u3.toNat) (by omega) en4) ?_
  refine ⟨_, rfl, n4, rfl, by omega, by omega, fun W1 hZ => ?_⟩
  have nZ := fd_ne fdw3 hZ
  refine lc_range (n := n4.toNat) (fun i H2 => Lx L Hw3 H2 ∧ FdAt H2 L ∧ ∃ zs : List Int, H2 W1 = some (.lst (zs.map V.int)) ∧ zs.length = i ∧ ∀ z ∈ zs, 0 ≤ z) ⟨Lx.of (same_new (Same.refl _) hZ _), fdw3.keep (same_new (Same.refl _) hZ _), [], upd_same, rfl, fun z h => absurd h List.not_mem_nil⟩ ?_ ?_
  · rintro i H2 hi ⟨gx, f2, zs, hz, hzl, hzz⟩
    refine ⟨rfl, ?_⟩
    obtain ⟨p_u4, r_u4, hp_u4, hr_u4, e_u4⟩ := id f2
    refine ⟨_, rfl, L, p_u4, _, r_u4, rfl, by decide, hp_u4, hr_u4, e_u4, fun u4 k_u4 a0 a1 kk_u4 => ?_⟩
    have y3 : Lx L H2 (upd H2 L (.lst ((k_u4 :: r_u4).map V.int))) := Lx.upd L H2 _
    have f3 : FdAt (upd H2 L (.lst ((k_u4 :: r_u4).map V.int))) L := ⟨k_u4, r_u4, kk_u4, hr_u4, upd_same⟩
    generalize upd H2 L (.lst ((k_u4 :: r_u4).map V.int)) = H3' at *
    refine ⟨_, _, rfl, rfl, .inl ⟨_, rfl, _, _, rfl, rfl, (by show (0 : Int) < 6; decide), _, _, rfl, rfl, zs.map V.int, y3 _ _ nZ hz, by rw [List.length_map, hzl]; exact Nat.lt_of_lt_of_le hi (Nat.le_trans (by omega : n4.toNat ≤ 9) (by decide)), fun b u nb e => ?_, ?_, zs ++ [2 + (u4 + 5) % 6], ?_, by rw [List.length_append, hzl]; rfl, fun z h => ?_⟩⟩
    · rw [upd_ne (ne_of_none e hZ)]
      exact y3 b u nb (gx b u nb e)
    · obtain ⟨p, r, b1, b2, b3⟩ := f3
      exact ⟨p, r, b1, b2, by rw [upd_ne nZ.symm]; exact b3⟩
    · rw [upd_same, List.map_append]
      rfl
    · rcases List.mem_append.mp h with h | h
      · exact hzz z h
      · obtain rfl : z = 2 + (u4 + 5) % 6 := by simpa using h
        omega
  rintro Hx ⟨gxx, fx, wz, hwz, hwl, _⟩
  have okx := okw3.lx Fl gxx fx
  refine .inl ⟨_, rfl, W1, rfl, ⟨_, SqL.of hwz⟩, fun F1 hF => ?_⟩
  refine lc_list (K := K) (a := W1) (xs := wz.map V.int) (fun i H2 => Same Hx H2 ∧ ∃ fs : List Int, H2 F1 = some (.lst (fs.map V.int)) ∧ fs.length = i) ⟨same_new (Same.refl _) hF _, [], upd_same, rfl⟩ (fun i H2 _ z => SqL.of (z.1 _ _ hwz)) ?_ ?_
  · rintro i x H2 hi ⟨g2, fs, hfs, hfl⟩
    have il : i < wz.length := by
      have z := (List.getElem?_eq_some_iff.mp hi).1
      rw [List.length_map] at z
      exact z
    rw [List.getElem?_map] at hi
    obtain ⟨z1, ez1, rfl⟩ := Option.map_eq_some_iff.mp hi
    refine ⟨rfl, _, rfl, .inl ⟨_, rfl, _, _, rfl, rfl, (by show (0 : Int) < 5; decide), _, _, rfl, rfl, fs.map V.int, hfs, by rw [List.length_map, hfl]; exact Nat.lt_of_lt_of_le il (Nat.le_trans (by omega : wz.length ≤ 9) (by decide)), same_lst g2 hF (Same.refl _) _, fs ++ [2 + z1 % 5], ?_, by rw [List.length_append, hfl]; rfl⟩⟩
    rw [upd_same, List.map_append]
    rfl
  rintro Hy ⟨gy, fs, hfs, hfl⟩
  rw [List.length_map] at hfl
  have oky := okx.same gy
  have hwy := gy _ _ hwz
  -- sizes judged
  refine ⟨_, rfl, .ref W1, _, rfl, lst_dp hwy, sml_ints (by omega), fun Ha sa => ⟨true, rfl, iteF ?_⟩⟩
  refine ⟨_, rfl, F1, _, rfl, .inl ⟨SqL.of (sa _ _ hfs), fun tp htp => ?_⟩⟩
  have gb := same_new (Same.refl Ha) htp (.tup (fs.map V.int))
  have eb : (upd Ha tp (.tup (fs.map V.int))) tp = some (.tup (fs.map V.int)) := upd_same
  generalize upd Ha tp (.tup (fs.map V.int)) = Hb at *
  refine ⟨.ref tp, .tuple (fs.map PyData.int), rfl, .tup (SqT.of eb) (ints_dp fs), (fun ds e => by cases e; rw [List.length_map]; omega), fun Hc sc2 => ⟨true, rfl, iteF ?_⟩⟩
  have okc := ((oky.same sa).same gb).same sc2
  have hfc := sc2 _ _ (gb _ _ (sa _ _ hfs))
  refine ⟨_, rfl, by show 1 ≤ sizeLine; decide, fun l5 h_l5 => ?_⟩
  have n_l5 : l5 ≠ L := fd_ne okc.fd h_l5
  have g6 := same_new (Same.refl Hc) h_l5 (.lst [.bl true])
  have el5 : (upd Hc l5 (.lst [.bl true])) l5 = some (.lst [.bl true]) := upd_same
  have fdd := okc.fd.keep g6
  have okd := okc.same g6
  have hfd := g6 _ _ hfc
  generalize upd Hc l5 (.lst [.bl true]) = Hd at *
  refine ⟨F1, l5, _, _, rfl, rfl, hfd, el5, by rw [List.length_map]; show fs.length + 1 ≤ sizeLine; exact Nat.le_trans (by omega : fs.length + 1 ≤ 10) (by decide), fun cc hcc => ?_⟩
  have g7 := same_new (Same.refl Hd) hcc (.lst (fs.map V.int ++ [.bl true]))
  have ec : (upd Hd cc (.lst (fs.map V.int ++ [.bl true]))) cc = some (.lst (fs.map V.int ++ [.bl true])) := upd_same
  have oke := okd.same g7
  generalize upd Hd cc (.lst (fs.map V.int ++ [.bl true])) = He at *
  refine ⟨.ref cc, .list (fs.map PyData.int ++ [.bool true]), rfl, .lst (SqL.of ec) (DpAll.snoc (ints_dp fs) (.bl true)), (fun ds e => by cases e; rw [List.length_append, List.length_map]; show fs.length + 1 ≤ 1000; omega), fun Hf sf => ⟨true, rfl, iteF ?_⟩⟩
  have okf := oke.same sf
  -- numbers
  obtain ⟨p_u5, r_u5, hp_u5, hr_u5, e_u5⟩ := id okf.fd
  refine ⟨_, rfl, L, p_u5, _, r_u5, rfl, by decide, hp_u5, hr_u5, e_u5, fun u5 k_u5 a0 a1 kk_u5 => ?_⟩
  have xg : Lx L Hf (upd Hf L (.lst ((k_u5 :: r_u5).map V.int))) := Lx.upd L Hf _
  have fg : FdAt (upd Hf L (.lst ((k_u5 :: r_u5).map V.int))) L := ⟨k_u5, r_u5, kk_u5, hr_u5, upd_same⟩
  have okg := okf.lx Fl xg fg
  generalize upd Hf L (.lst ((k_u5 :: r_u5).map V.int)) = Hg at *
  refine ⟨_, _, rfl, rfl, 1 + u5, rfl, by omega, by omega, fun Hh sh2 => ⟨true, rfl, iteF ?_⟩⟩
  have okh := okg.same sh2
  rcases cases0 with ⟨i0, rfl⟩ | ⟨gs, rfl, _, egs⟩
  · -- nothing good
    obtain ⟨T0, hT0, rfl⟩ : ∃ T, SqT K Hh T [.str "bad", .int i0] ∧ vdue = .ref T := by
      have hd0 := okh.due
      cases hd0 with
      | tup a b =>
        cases b with
        | cons b1 b2 =>
          cases b2 with
          | cons b3 b4 =>
            cases b4
            cases b1
            cases b3
            exact ⟨_, a, rfl⟩
    refine ⟨_, rfl, ix_of (.inr hT0) (atI_nat (j := 0) rfl) ⟨rfl, _, rfl, iteF ?_⟩⟩
    refine ⟨.int 5, .int 5, rfl, .int 5, fun ds e => (by cases e), fun Hi si => ⟨_, rfl, iteT ?_⟩⟩
    exact ⟨.str "22", .str "22", rfl, .str "22", fun ds e => (by cases e), fun Hj sj => q Hj⟩
  · obtain ⟨T0, T1, hT0, hT1, rfl⟩ : ∃ T T1, SqT K Hh T [.str "good", .ref T1] ∧ SqT K Hh T1 (gs.map V.int) ∧ vdue = .ref T := by
      have hd0 := okh.due
      cases hd0 with
      | tup a b =>
        cases b with
        | cons b1 b2 =>
          cases b2 with
          | cons b3 b4 =>
            cases b4
            cases b1
            cases b3 with
            | tup c1 c2 =>
              rw [ints_of c2] at c1
              exact ⟨_, _, a, c1, rfl⟩
    have g5 : gs.length ≤ 5 := by
      have z := (vd.2 _ egs).1
      rw [List.length_map] at z
      omega
    refine ⟨_, rfl, ix_of (.inr hT0) (atI_nat (j := 0) rfl) ⟨rfl, _, rfl, iteT ?_⟩⟩
    refine ⟨_, rfl, _, rfl, ix_of (.inr hT0) (atI_nat (j := 1) rfl) ⟨T1, _, rfl, .inr hT1, ?_⟩⟩
    refine ⟨by show 3 ≤ sizeLine; decide, fun l6 h_l6 => ?_⟩
    have n_l6 : l6 ≠ L := fd_ne okh.fd h_l6
    have g8 := same_new (Same.refl Hh) h_l6 (.lst [.int 0, .int 0, .int 1])
    have el6 : (upd Hh l6 (.lst [.int 0, .int 0, .int 1])) l6 = some (.lst [.int 0, .int 0, .int 1]) := upd_same
    have fdi := okh.fd.keep g8
    have oki := okh.same g8
    have hT0i := (Keeps.of g8).sqT hT0
    have hT1i := (Keeps.of g8).sqT hT1
    generalize upd Hh l6 (.lst [.int 0, .int 0, .int 1]) = Hi at *
    obtain ⟨p_u6, r_u6, hp_u6, hr_u6, e_u6⟩ := id fdi
    refine ⟨_, rfl, L, p_u6, _, r_u6, rfl, by decide, hp_u6, hr_u6, e_u6, fun u6 k_u6 a0 a1 kk_u6 => ?_⟩
    have xj : Lx L Hi (upd Hi L (.lst ((k_u6 :: r_u6).map V.int))) := Lx.upd L Hi _
    have fj : FdAt (upd Hi L (.lst ((k_u6 :: r_u6).map V.int))) L := ⟨k_u6, r_u6, kk_u6, hr_u6, upd_same⟩
    have kj : KeepsT Hi (upd Hi L (.lst ((k_u6 :: r_u6).map V.int))) := KeepsT.at_lst e_u6 _
    have hT0j := kj.sqT hT0i
    have hT1j := kj.sqT hT1i
    generalize upd Hi L (.lst ((k_u6 :: r_u6).map V.int)) = Hj at *
    have c6 : ∃ n : Int, ([.int 0, .int 0, .int 1] : List V)[u6.toNat]? = some (.int n) ∧ 0 ≤ n ∧ n ≤ 1 := by
      have cs : u6 = 0 ∨ u6 = 1 ∨ u6 = 2 := by omega
      rcases cs with rfl | rfl | rfl
      · exact ⟨_, rfl, by decide, by decide⟩
      · exact ⟨_, rfl, by decide, by decide⟩
      · exact ⟨_, rfl, by decide, by decide⟩
    obtain ⟨n6, en6, n60, n61⟩ := c6
    refine ix_of (.inl (SqL.of (xj _ _ n_l6 el6))) (at_of (j := u6.toNat) (by omega) en6) ?_
    refine ⟨_, _, rfl, rfl, L, 6, _, rfl, by decide, by decide, by omega, by rw [List.length_map]; omega, fj, fun vr Hk dr xk fk hvr vdr _ => ?_⟩
    have kk : KeepsT Hj Hk := by
      obtain ⟨p, r, _, _, e⟩ := fj
      exact ⟨fun b xs q => xk b _ (fun z => by rw [z, e] at q; cases q) q, fun b ob u q => xk b _ (fun z => by rw [z, e] at q; cases q) q⟩
    have hT0k := kk.sqT hT0j
    have hT1k := kk.sqT hT1j
    have shp : ∀ ds, seqD dr = some ds → ds.length = gs.length → Shp 6 (.tuple (zipD gs ds)) := fun ds e _ => (Shp.tup (n := 4) (zip_shp gs ds (vdr.2 ds e).2)).mono (by decide)
    refine ⟨_, rfl, ix_of (.inr hT0k) (atI_nat (j := 1) rfl) ⟨_, rfl, vr, dr, T1, gs, rfl, dp_keep (newH_same _ _) hvr, .inr hT1k, by omega, shp, fun Hl sl2 => ⟨_, rfl, iteT ?_⟩⟩⟩
    have hT0l := (Keeps.of sl2).sqT hT0k
    have hT1l := (Keeps.of sl2).sqT hT1k
    refine ⟨_, rfl, ix_of (.inr hT0l) (atI_nat (j := 1) rfl) ⟨by show 1 ≤ sizeLine; decide, fun lx hlx => ?_⟩⟩
    have g9 := same_new (Same.refl Hl) hlx (.lst [.str "x"])
    have elx : (upd Hl lx (.lst [.str "x"])) lx = some (.lst [.str "x"]) := upd_same
    have hT0m := (Keeps.of g9).sqT hT0l
    have hT1m := (Keeps.of g9).sqT hT1l
    generalize upd Hl lx (.lst [.str "x"]) = Hm at *
    refine ⟨_, rfl, ix_of (.inr hT0m) (atI_nat (j := 1) rfl) ⟨T1, _, rfl, .inr hT1m, ?_⟩⟩
    rw [List.length_map]
    refine ⟨lx, _, _, rfl, rfl, elx, by omega, by omega, by show 1 * _ ≤ _; exact Nat.le_trans (by omega : 1 * ((gs.length : Int)).toNat ≤ 5) (by decide), fun px hpx => ?_⟩
    have ge : (List.replicate ((gs.length : Int)).toNat ([.str "x"] : List V)).flatten = List.replicate gs.length (.str "x") := by
      rw [show ((gs.length : Int)).toNat = gs.length by omega]
      exact flat_x gs.length
    rw [ge]
    have g10 := same_new (Same.refl Hm) hpx (.lst (List.replicate gs.length (.str "x")))
    refine ⟨.ref px, .list (List.replicate gs.length (.str "x")), T1, gs, rfl, .lst (SqL.of upd_same) (x_dp _), .inr ((Keeps.of g10).sqT hT1m), by omega, fun ds e _ => ?_, fun Hn sn => q Hn⟩
    cases e
    refine (Shp.tup (n := 4) (zip_shp gs _ fun e he => ?_)).mono (by decide)
    obtain ⟨_, rfl⟩ := List.mem_replicate.mp he
    exact .str (by decide +kernel)

end
end Hs
set_option maxHeartbeats 8000000
namespace Hs
open PySem PySem.Spec PyProof.Rows L2
/-! ## from the head's facts -/
theorem fun_of {K : PySem.W.Frag} {x qual : Str} {st : Stmt} {f : Addr} {fd : FuncData} (F : FunD K x qual (defArgs st) (defBody st) (defScope st) [] [] f fd) : Fun K x qual st f fd := by
  obtain ⟨oc, od, dV, kV, doc, pm, an, cdv, ct, osl, rfl, lk, hcd, hD, _⟩ := F.ex
  rcases hD with ⟨_, rfl⟩ | ⟨e, _⟩
  · exact ⟨⟨oc, od, kV, doc, pm, an, cdv, ct, osl, rfl, lk, hcd⟩, F.kp⟩
  · exact absurd rfl e
theorem facts {P : Program} {w : World} {K : PySem.W.Frag} {h : Heap} {mg : Str → Option Value} {f : Addr} (X : K.In h) (G : h.Ns mainGlobals mg) (hfa : mg ("law" : Str) = some (.ref f)) (c : He.SaysX fa fn [] [] exB w h K) :
    ∃ fd : FuncData, (∀ (s : Shared) (v : Value), BindsTo s fd ⟨[v], []⟩ [("_law_script", v)]) ∧ ∀ base : Heap, K.In base → base.Ns mainGlobals mg → FnOk P w K mg base CX0 8 f fd ["_law_script"] (spLaw K) := by
  have d : He.SaysD fa fn K := c.t.d
  obtain ⟨a1, z⟩ := two c.more
  obtain ⟨a2, z⟩ := two z
  obtain ⟨a3, z⟩ := two z
  obtain ⟨a4, z⟩ := two z
  obtain ⟨a5, z⟩ := two z
  obtain ⟨a6, z⟩ := two z
  obtain ⟨a7, z⟩ := two z
  obtain ⟨_, a9⟩ := two z
  obtain ⟨b1, z⟩ := two a3
  obtain ⟨b2, b3⟩ := two z
  obtain ⟨t_MOST_LOOKS, i_MOST_LOOKS⟩ := He.int_ok X G (d.fact 59 (f := .int "MOST_LOOKS" 8) rfl)
  obtain ⟨t_LEAST_ANSWERS, i_LEAST_ANSWERS⟩ := He.int_ok X G (d.fact 60 (f := .int "LEAST_ANSWERS" 2) rfl)
  obtain ⟨t_MOST_ANSWERS, i_MOST_ANSWERS⟩ := He.int_ok X G (d.fact 61 (f := .int "MOST_ANSWERS" 6) rfl)
  have xm : ∀ x ∈ clsN, PySem.W.exmOne K (.ref (He.ga K x)) (.ref (He.ga K x)) = some true := fun x m => eq_of_beq (two (List.all_eq_true.mp a6 x m)).1
  have T : Tx K mg (t_MOST_LOOKS, t_LEAST_ANSWERS, t_MOST_ANSWERS) := ⟨He.free_ok X G (d.fact 46 (f := .free "isinstance") rfl),
    He.free_ok X G (d.fact 49 (f := .free "len") rfl),
    He.free_ok X G (d.fact 50 (f := .free "int") rfl),
    He.free_ok X G (d.fact 53 (f := .free "bool") rfl),
    He.free_ok X G (d.fact 47 (f := .free "list") rfl),
    He.free_ok X G (d.fact 48 (f := .free "tuple") rfl),
    He.free_ok X G (d.fact 52 (f := .free "range") rfl),
    He.free_ok X G (d.fact 54 (f := .free "enumerate") rfl),
    He.free_ok X G (d.fact 55 (f := .free "zip") rfl),
    He.free_ok X G (d.fact 56 (f := .free "sum") rfl),
    He.free_ok X G (d.fact 57 (f := .free "sorted") rfl),
    He.free_ok X G (d.fact 51 (f := .free "abs") rfl),
    He.free_ok X G (d.fact 58 (f := .free "str") rfl),
    PySem.W.mg_of X G (of_decide_eq_true a7),
    PySem.W.mg_of X G (of_decide_eq_true a9),
    i_MOST_LOOKS,
    i_LEAST_ANSWERS,
    i_MOST_ANSWERS,
    exnB_ok (List.all_eq_true.mp a1 "BadNumber" (by decide +kernel)),
    of_decide_eq_true (List.all_eq_true.mp a5 "BadNumber" (by decide +kernel)),
    He.glo_ok X G (d.fact 41 (f := .glo "BadNumber") rfl),
    xm "BadNumber" (by decide +kernel),
    exnB_ok (List.all_eq_true.mp a1 "ByZero" (by decide +kernel)),
    of_decide_eq_true (List.all_eq_true.mp a5 "ByZero" (by decide +kernel)),
    He.glo_ok X G (d.fact 42 (f := .glo "ByZero") rfl),
    xm "ByZero" (by decide +kernel),
    exnB_ok (List.all_eq_true.mp a1 "BadSize" (by decide +kernel)),
    of_decide_eq_true (List.all_eq_true.mp a5 "BadSize" (by decide +kernel)),
    He.glo_ok X G (d.fact 43 (f := .glo "BadSize") rfl),
    xm "BadSize" (by decide +kernel),
    exnB_ok (List.all_eq_true.mp a1 "BadSpot" (by decide +kernel)),
    of_decide_eq_true (List.all_eq_true.mp a5 "BadSpot" (by decide +kernel)),
    He.glo_ok X G (d.fact 45 (f := .glo "BadSpot") rfl),
    xm "BadSpot" (by decide +kernel),
    exnB_ok (List.all_eq_true.mp a1 "BadLot" (by decide +kernel)),
    of_decide_eq_true (List.all_eq_true.mp a5 "BadLot" (by decide +kernel)),
    He.glo_ok X G (d.fact 44 (f := .glo "BadLot") rfl),
    xm "BadLot" (by decide +kernel),
    List.all_eq_true.mp a2 "BadNumber" (by decide +kernel),
    List.all_eq_true.mp a2 "ByZero" (by decide +kernel),
    List.all_eq_true.mp a2 "BadSize" (by decide +kernel),
    List.all_eq_true.mp a2 "BadSpot" (by decide +kernel),
    b1,
    of_decide_eq_true b2,
    of_decide_eq_true b3,
    of_decide_eq_true a4⟩
  obtain ⟨fd0, FF0⟩ := d.def_ 0 (d := dD0) rfl
  have F0 : Fun K "is_int" "is_int" (topH 9) (He.ga K "is_int") fd0 := fun_of FF0
  have b0 : Binds K fd0 ["value"] [] := F0.binds (fun _ _ _ _ _ _ us hl => match us, hl with | [_], _ => rfl)
  have m0 : mg "is_int" = some (.ref (He.ga K "is_int")) := He.glo_ok X G (d.fact 0 (f := .glo "is_int") rfl)
  obtain ⟨fd1, FF1⟩ := d.def_ 1 (d := dD1) rfl
  have F1 : Fun K "is_list" "is_list" (topH 10) (He.ga K "is_list") fd1 := fun_of FF1
  have b1 : Binds K fd1 ["value"] [] := F1.binds (fun _ _ _ _ _ _ us hl => match us, hl with | [_], _ => rfl)
  have m1 : mg "is_list" = some (.ref (He.ga K "is_list")) := He.glo_ok X G (d.fact 1 (f := .glo "is_list") rfl)
  obtain ⟨fd2, FF2⟩ := d.def_ 2 (d := dD2) rfl
  have F2 : Fun K "is_number" "is_number" (topH 11) (He.ga K "is_number") fd2 := fun_of FF2
  have b2 : Binds K fd2 ["value"] [] := F2.binds (fun _ _ _ _ _ _ us hl => match us, hl with | [_], _ => rfl)
  have m2 : mg "is_number" = some (.ref (He.ga K "is_number")) := He.glo_ok X G (d.fact 2 (f := .glo "is_number") rfl)
  obtain ⟨fd3, FF3⟩ := d.def_ 3 (d := dD3) rfl
  have F3 : Fun K "as_ratio" "as_ratio" (topH 12) (He.ga K "as_ratio") fd3 := fun_of FF3
  have b3 : Binds K fd3 ["value"] [] := F3.binds (fun _ _ _ _ _ _ us hl => match us, hl with | [_], _ => rfl)
  have m3 : mg "as_ratio" = some (.ref (He.ga K "as_ratio")) := He.glo_ok X G (d.fact 3 (f := .glo "as_ratio") rfl)
  obtain ⟨fd4, FF4⟩ := d.def_ 4 (d := dD4) rfl
  have F4 : Fun K "as_ratios" "as_ratios" (topH 13) (He.ga K "as_ratios") fd4 := fun_of FF4
  have b4 : Binds K fd4 ["numbers"] [] := F4.binds (fun _ _ _ _ _ _ us hl => match us, hl with | [_], _ => rfl)
  have m4 : mg "as_ratios" = some (.ref (He.ga K "as_ratios")) := He.glo_ok X G (d.fact 4 (f := .glo "as_ratios") rfl)
  obtain ⟨fd5, FF5⟩ := d.def_ 5 (d := dD5) rfl
  have F5 : Fun K "plus" "plus" (topH 14) (He.ga K "plus") fd5 := fun_of FF5
  have b5 : Binds K fd5 ["a", "b"] [] := F5.binds (fun _ _ _ _ _ _ us hl => match us, hl with | [_, _], _ => rfl)
  have m5 : mg "plus" = some (.ref (He.ga K "plus")) := He.glo_ok X G (d.fact 5 (f := .glo "plus") rfl)
  obtain ⟨fd6, FF6⟩ := d.def_ 6 (d := dD6) rfl
  have F6 : Fun K "minus" "minus" (topH 15) (He.ga K "minus") fd6 := fun_of FF6
  have b6 : Binds K fd6 ["a", "b"] [] := F6.binds (fun _ _ _ _ _ _ us hl => match us, hl with | [_, _], _ => rfl)
  have m6 : mg "minus" = some (.ref (He.ga K "minus")) := He.glo_ok X G (d.fact 6 (f := .glo "minus") rfl)
  obtain ⟨fd7, FF7⟩ := d.def_ 7 (d := dD7) rfl
  have F7 : Fun K "times" "times" (topH 16) (He.ga K "times") fd7 := fun_of FF7
  have b7 : Binds K fd7 ["a", "b"] [] := F7.binds (fun _ _ _ _ _ _ us hl => match us, hl with | [_, _], _ => rfl)
  have m7 : mg "times" = some (.ref (He.ga K "times")) := He.glo_ok X G (d.fact 7 (f := .glo "times") rfl)
  obtain ⟨fd8, FF8⟩ := d.def_ 8 (d := dD8) rfl
  have F8 : Fun K "negative" "negative" (topH 17) (He.ga K "negative") fd8 := fun_of FF8
  have b8 : Binds K fd8 ["a"] [] := F8.binds (fun _ _ _ _ _ _ us hl => match us, hl with | [_], _ => rfl)
  have m8 : mg "negative" = some (.ref (He.ga K "negative")) := He.glo_ok X G (d.fact 8 (f := .glo "negative") rfl)
  obtain ⟨fd9, FF9⟩ := d.def_ 9 (d := dD9) rfl
  have F9 : Fun K "over" "over" (topH 18) (He.ga K "over") fd9 := fun_of FF9
  have b9 : Binds K fd9 ["a", "b"] [] := F9.binds (fun _ _ _ _ _ _ us hl => match us, hl with | [_, _], _ => rfl)
  have m9 : mg "over" = some (.ref (He.ga K "over")) := He.glo_ok X G (d.fact 9 (f := .glo "over") rfl)
  obtain ⟨fd10, FF10⟩ := d.def_ 10 (d := dD10) rfl
  have F10 : Fun K "sign_of" "sign_of" (topH 19) (He.ga K "sign_of") fd10 := fun_of FF10
  have b10 : Binds K fd10 ["a"] [] := F10.binds (fun _ _ _ _ _ _ us hl => match us, hl with | [_], _ => rfl)
  have m10 : mg "sign_of" = some (.ref (He.ga K "sign_of")) := He.glo_ok X G (d.fact 10 (f := .glo "sign_of") rfl)
  obtain ⟨fd11, FF11⟩ := d.def_ 11 (d := dD11) rfl
  have F11 : Fun K "below" "below" (topH 20) (He.ga K "below") fd11 := fun_of FF11
  have b11 : Binds K fd11 ["a", "b"] [] := F11.binds (fun _ _ _ _ _ _ us hl => match us, hl with | [_, _], _ => rfl)
  have m11 : mg "below" = some (.ref (He.ga K "below")) := He.glo_ok X G (d.fact 11 (f := .glo "below") rfl)
  obtain ⟨fd12, FF12⟩ := d.def_ 12 (d := dD12) rfl
  have F12 : Fun K "shared_bottom" "shared_bottom" (topH 21) (He.ga K "shared_bottom") fd12 := fun_of FF12
  have b12 : Binds K fd12 ["ratios"] [] := F12.binds (fun _ _ _ _ _ _ us hl => match us, hl with | [_], _ => rfl)
  have m12 : mg "shared_bottom" = some (.ref (He.ga K "shared_bottom")) := He.glo_ok X G (d.fact 12 (f := .glo "shared_bottom") rfl)
  obtain ⟨fd13, FF13⟩ := d.def_ 13 (d := dD13) rfl
  have F13 : Fun K "total" "total" (topH 22) (He.ga K "total") fd13 := fun_of FF13
  have b13 : Binds K fd13 ["numbers"] [] := F13.binds (fun _ _ _ _ _ _ us hl => match us, hl with | [_], _ => rfl)
  have m13 : mg "total" = some (.ref (He.ga K "total")) := He.glo_ok X G (d.fact 13 (f := .glo "total") rfl)
  obtain ⟨fd14, FF14⟩ := d.def_ 14 (d := dD14) rfl
  have F14 : Fun K "least" "least" (topH 23) (He.ga K "least") fd14 := fun_of FF14
  have b14 : Binds K fd14 ["numbers"] [] := F14.binds (fun _ _ _ _ _ _ us hl => match us, hl with | [_], _ => rfl)
  have m14 : mg "least" = some (.ref (He.ga K "least")) := He.glo_ok X G (d.fact 14 (f := .glo "least") rfl)
  obtain ⟨fd15, FF15⟩ := d.def_ 15 (d := dD15) rfl
  have F15 : Fun K "root_of" "root_of" (topH 24) (He.ga K "root_of") fd15 := fun_of FF15
  have b15 : Binds K fd15 ["a"] [] := F15.binds (fun _ _ _ _ _ _ us hl => match us, hl with | [_], _ => rfl)
  have m15 : mg "root_of" = some (.ref (He.ga K "root_of")) := He.glo_ok X G (d.fact 15 (f := .glo "root_of") rfl)
  obtain ⟨fd16, FF16⟩ := d.def_ 16 (d := dD16) rfl
  have F16 : Fun K "shown" "shown" (topH 25) (He.ga K "shown") fd16 := fun_of FF16
  have b16 : Binds K fd16 ["a"] [] := F16.binds (fun _ _ _ _ _ _ us hl => match us, hl with | [_], _ => rfl)
  have m16 : mg "shown" = some (.ref (He.ga K "shown")) := He.glo_ok X G (d.fact 16 (f := .glo "shown") rfl)
  obtain ⟨fd17, FF17⟩ := d.def_ 17 (d := dD17) rfl
  have F17 : Fun K "is_below" "is_below" (topH 30) (He.ga K "is_below") fd17 := fun_of FF17
  have b17 : Binds K fd17 ["value", "many"] [] := F17.binds (fun _ _ _ _ _ _ us hl => match us, hl with | [_, _], _ => rfl)
  have m17 : mg "is_below" = some (.ref (He.ga K "is_below")) := He.glo_ok X G (d.fact 17 (f := .glo "is_below") rfl)
  obtain ⟨fd18, FF18⟩ := d.def_ 18 (d := dD18) rfl
  have F18 : Fun K "sizes_of" "sizes_of" (topH 31) (He.ga K "sizes_of") fd18 := fun_of FF18
  have b18 : Binds K fd18 ["value"] [] := F18.binds (fun _ _ _ _ _ _ us hl => match us, hl with | [_], _ => rfl)
  have m18 : mg "sizes_of" = some (.ref (He.ga K "sizes_of")) := He.glo_ok X G (d.fact 18 (f := .glo "sizes_of") rfl)
  obtain ⟨fd19, FF19⟩ := d.def_ 19 (d := dD19) rfl
  have F19 : Fun K "rising_looks" "rising_looks" (topH 32) (He.ga K "rising_looks") fd19 := fun_of FF19
  have b19 : Binds K fd19 ["value", "many", "step"] [] := F19.binds (fun _ _ _ _ _ _ us hl => match us, hl with | [_, _, _], _ => rfl)
  have m19 : mg "rising_looks" = some (.ref (He.ga K "rising_looks")) := He.glo_ok X G (d.fact 19 (f := .glo "rising_looks") rfl)
  obtain ⟨fd20, FF20⟩ := d.def_ 20 (d := dD20) rfl
  have F20 : Fun K "lot_of" "lot_of" (topH 33) (He.ga K "lot_of") fd20 := fun_of FF20
  have b20 : Binds K fd20 ["value", "many"] [] := F20.binds (fun _ _ _ _ _ _ us hl => match us, hl with | [_, _], _ => rfl)
  have m20 : mg "lot_of" = some (.ref (He.ga K "lot_of")) := He.glo_ok X G (d.fact 20 (f := .glo "lot_of") rfl)
  obtain ⟨fd21, FF21⟩ := d.def_ 21 (d := dD21) rfl
  have F21 : Fun K "asking_of" "asking_of" (topH 34) (He.ga K "asking_of") fd21 := fun_of FF21
  have b21 : Binds K fd21 ["value", "many"] [] := F21.binds (fun _ _ _ _ _ _ us hl => match us, hl with | [_, _], _ => rfl)
  have m21 : mg "asking_of" = some (.ref (He.ga K "asking_of")) := He.glo_ok X G (d.fact 21 (f := .glo "asking_of") rfl)
  obtain ⟨fd22, FF22⟩ := d.def_ 22 (d := dD22) rfl
  have F22 : Fun K "spot_of" "spot_of" (topH 35) (He.ga K "spot_of") fd22 := fun_of FF22
  have b22 : Binds K fd22 ["value", "sizes"] [] := F22.binds (fun _ _ _ _ _ _ us hl => match us, hl with | [_, _], _ => rfl)
  have m22 : mg "spot_of" = some (.ref (He.ga K "spot_of")) := He.glo_ok X G (d.fact 22 (f := .glo "spot_of") rfl)
  obtain ⟨fd23, FF23⟩ := d.def_ 23 (d := dD23) rfl
  have F23 : Fun K "row_spots" "row_spots" (topH 36) (He.ga K "row_spots") fd23 := fun_of FF23
  have b23 : Binds K fd23 ["asking", "row"] [] := F23.binds (fun _ _ _ _ _ _ us hl => match us, hl with | [_, _], _ => rfl)
  have m23 : mg "row_spots" = some (.ref (He.ga K "row_spots")) := He.glo_ok X G (d.fact 23 (f := .glo "row_spots") rfl)
  obtain ⟨fd24, FF24⟩ := d.def_ 24 (d := dD24) rfl
  have F24 : Fun K "_law_feed" "_law_feed" (topH 38) (He.ga K "_law_feed") fd24 := fun_of FF24
  have b24 : Binds K fd24 ["_law_script"] [] := F24.binds (fun _ _ _ _ _ _ us hl => match us, hl with | [_], _ => rfl)
  have m24 : mg "_law_feed" = some (.ref (He.ga K "_law_feed")) := He.glo_ok X G (d.fact 24 (f := .glo "_law_feed") rfl)
  obtain ⟨fd25, FF25⟩ := d.def_ 25 (d := dD25) rfl
  have F25 : Fun K "_law_pick" "_law_pick" (topH 39) (He.ga K "_law_pick") fd25 := fun_of FF25
  have b25 : Binds K fd25 ["_law_feed_here", "_law_many"] [] := F25.binds (fun _ _ _ _ _ _ us hl => match us, hl with | [_, _], _ => rfl)
  have m25 : mg "_law_pick" = some (.ref (He.ga K "_law_pick")) := He.glo_ok X G (d.fact 25 (f := .glo "_law_pick") rfl)
  obtain ⟨fd26, FF26⟩ := d.def_ 26 (d := dD26) rfl
  have F26 : Fun K "_law_whole" "_law_whole" (topH 40) (He.ga K "_law_whole") fd26 := fun_of FF26
  have b26 : Binds K fd26 ["_law_value"] [] := F26.binds (fun _ _ _ _ _ _ us hl => match us, hl with | [_], _ => rfl)
  have m26 : mg "_law_whole" = some (.ref (He.ga K "_law_whole")) := He.glo_ok X G (d.fact 26 (f := .glo "_law_whole") rfl)
  obtain ⟨fd27, FF27⟩ := d.def_ 27 (d := dD27) rfl
  have F27 : Fun K "_law_spots" "_law_spots" (topH 41) (He.ga K "_law_spots") fd27 := fun_of FF27
  have b27 : Binds K fd27 ["_law_looks", "_law_sizes"] [] := F27.binds (fun _ _ _ _ _ _ us hl => match us, hl with | [_, _], _ => rfl)
  have m27 : mg "_law_spots" = some (.ref (He.ga K "_law_spots")) := He.glo_ok X G (d.fact 27 (f := .glo "_law_spots") rfl)
  obtain ⟨fd28, FF28⟩ := d.def_ 28 (d := dD28) rfl
  have F28 : Fun K "_law_thing" "_law_thing" (topH 42) (He.ga K "_law_thing") fd28 := fun_of FF28
  have b28 : Binds K fd28 ["_law_feed_here", "_law_many"] [] := F28.binds (fun _ _ _ _ _ _ us hl => match us, hl with | [_, _], _ => rfl)
  have m28 : mg "_law_thing" = some (.ref (He.ga K "_law_thing")) := He.glo_ok X G (d.fact 28 (f := .glo "_law_thing") rfl)
  obtain ⟨fd29, FF29⟩ := d.def_ 29 (d := dD29) rfl
  have F29 : Fun K "_law_list" "_law_list" (topH 43) (He.ga K "_law_list") fd29 := fun_of FF29
  have b29 : Binds K fd29 ["_law_feed_here", "_law_many", "_law_length"] [] := F29.binds (fun _ _ _ _ _ _ us hl => match us, hl with | [_, _, _], _ => rfl)
  have m29 : mg "_law_list" = some (.ref (He.ga K "_law_list")) := He.glo_ok X G (d.fact 29 (f := .glo "_law_list") rfl)
  obtain ⟨fd30, FF30⟩ := d.def_ 30 (d := dD30) rfl
  have F30 : Fun K "_law_due" "_law_due" (topH 44) (He.ga K "_law_due") fd30 := fun_of FF30
  have b30 : Binds K fd30 ["_law_value", "_law_many", "_law_step"] [] := F30.binds (fun _ _ _ _ _ _ us hl => match us, hl with | [_, _, _], _ => rfl)
  have m30 : mg "_law_due" = some (.ref (He.ga K "_law_due")) := He.glo_ok X G (d.fact 30 (f := .glo "_law_due") rfl)
  obtain ⟨fd31, FF31⟩ := d.def_ 31 (d := dD31) rfl
  have F31 : Fun K "_law_lot_told" "_law_lot_told" (topH 45) (He.ga K "_law_lot_told") fd31 := fun_of FF31
  have b31 : Binds K fd31 ["_law_value", "_law_many"] [] := F31.binds (fun _ _ _ _ _ _ us hl => match us, hl with | [_, _], _ => rfl)
  have m31 : mg "_law_lot_told" = some (.ref (He.ga K "_law_lot_told")) := He.glo_ok X G (d.fact 31 (f := .glo "_law_lot_told") rfl)
  obtain ⟨fd32, FF32⟩ := d.def_ 32 (d := dD32) rfl
  have F32 : Fun K "_law_asking_told" "_law_asking_told" (topH 46) (He.ga K "_law_asking_told") fd32 := fun_of FF32
  have b32 : Binds K fd32 ["_law_value", "_law_many"] [] := F32.binds (fun _ _ _ _ _ _ us hl => match us, hl with | [_, _], _ => rfl)
  have m32 : mg "_law_asking_told" = some (.ref (He.ga K "_law_asking_told")) := He.glo_ok X G (d.fact 32 (f := .glo "_law_asking_told") rfl)
  obtain ⟨fd33, FF33⟩ := d.def_ 33 (d := dD33) rfl
  have F33 : Fun K "_law_spot_right" "_law_spot_right" (topH 47) (He.ga K "_law_spot_right") fd33 := fun_of FF33
  have b33 : Binds K fd33 ["_law_value", "_law_sizes"] [] := F33.binds (fun _ _ _ _ _ _ us hl => match us, hl with | [_, _], _ => rfl)
  have m33 : mg "_law_spot_right" = some (.ref (He.ga K "_law_spot_right")) := He.glo_ok X G (d.fact 33 (f := .glo "_law_spot_right") rfl)
  obtain ⟨fd34, FF34⟩ := d.def_ 34 (d := dD34) rfl
  have F34 : Fun K "_law_sizes_right" "_law_sizes_right" (topH 48) (He.ga K "_law_sizes_right") fd34 := fun_of FF34
  have b34 : Binds K fd34 ["_law_value"] [] := F34.binds (fun _ _ _ _ _ _ us hl => match us, hl with | [_], _ => rfl)
  have m34 : mg "_law_sizes_right" = some (.ref (He.ga K "_law_sizes_right")) := He.glo_ok X G (d.fact 34 (f := .glo "_law_sizes_right") rfl)
  obtain ⟨fd35, FF35⟩ := d.def_ 35 (d := dD35) rfl
  have F35 : Fun K "_law_row_right" "_law_row_right" (topH 49) (He.ga K "_law_row_right") fd35 := fun_of FF35
  have b35 : Binds K fd35 ["_law_asking", "_law_row"] [] := F35.binds (fun _ _ _ _ _ _ us hl => match us, hl with | [_, _], _ => rfl)
  have m35 : mg "_law_row_right" = some (.ref (He.ga K "_law_row_right")) := He.glo_ok X G (d.fact 35 (f := .glo "_law_row_right") rfl)
  obtain ⟨fd36, FF36⟩ := d.def_ 36 (d := dD36) rfl
  have F36 : Fun K "_law_door" "_law_door" (topH 50) (He.ga K "_law_door") fd36 := fun_of FF36
  have b36 : Binds K fd36 ["_law_door_here", "_law_value"] [] := F36.binds (fun _ _ _ _ _ _ us hl => match us, hl with | [_, _], _ => rfl)
  have m36 : mg "_law_door" = some (.ref (He.ga K "_law_door")) := He.glo_ok X G (d.fact 36 (f := .glo "_law_door") rfl)
  obtain ⟨fd37, FF37⟩ := d.def_ 37 (d := dD37) rfl
  have F37 : Fun K "_law_numbers_judged" "_law_numbers_judged" (topH 51) (He.ga K "_law_numbers_judged") fd37 := fun_of FF37
  have b37 : Binds K fd37 ["_law_good"] [] := F37.binds (fun _ _ _ _ _ _ us hl => match us, hl with | [_], _ => rfl)
  have m37 : mg "_law_numbers_judged" = some (.ref (He.ga K "_law_numbers_judged")) := He.glo_ok X G (d.fact 37 (f := .glo "_law_numbers_judged") rfl)
  obtain ⟨fd38, FF38⟩ := d.def_ 38 (d := dD38) rfl
  have F38 : Fun K "_law_kept" "_law_kept" (topH 52) (He.ga K "_law_kept") fd38 := fun_of FF38
  have b38 : Binds K fd38 ["_law_value", "_law_many"] [] := F38.binds (fun _ _ _ _ _ _ us hl => match us, hl with | [_, _], _ => rfl)
  have m38 : mg "_law_kept" = some (.ref (He.ga K "_law_kept")) := He.glo_ok X G (d.fact 38 (f := .glo "_law_kept") rfl)
  obtain ⟨fd39, FF39⟩ := d.def_ 39 (d := dD39) rfl
  have F39 : Fun K "law" "law" (topH 53) (He.ga K "law") fd39 := fun_of FF39
  obtain ⟨fd40, FF40⟩ := d.def_ 40 (d := dD40) rfl
  have F40 : Fun K "__init__" "BadLot.__init__" (inClass (topH 6) 0) (He.ma K (He.ga K "BadLot") "__init__") fd40 := fun_of FF40
  have b40 : Binds K fd40 ["self", "place"] [] := F40.binds (fun _ _ _ _ _ _ us hl => match us, hl with | [_, _], _ => rfl)
  have e := hfa.symm.trans (He.glo_ok X G (d.fact 39 (f := .glo "law") rfl))
  cases e
  have bL := FunD.bindsA (ps := ["_law_script"]) FF39 fun _ _ _ _ _ _ us hl => match us, hl with | [_], _ => rfl
  refine ⟨fd39, fun s v => bL s [v] rfl, fun base _ _ => ?_⟩
  have GI := in_BadLot (P := P) (w := w) (base := base) F40 T
  have g0 := ok_is_int (P := P) (w := w) (base := base) F0 T 
  have g1 := ok_is_list (P := P) (w := w) (base := base) F1 T 
  have g2 := ok_is_number (P := P) (w := w) (base := base) F2 T g1 F1.kp b1 m1 g0 F0.kp b0 m0
  have g3 := ok_as_ratio (P := P) (w := w) (base := base) F3 T g2 F2.kp b2 m2 g0 F0.kp b0 m0
  have g5 := ok_plus (P := P) (w := w) (base := base) F5 T g3 F3.kp b3 m3
  have g6 := ok_minus (P := P) (w := w) (base := base) F6 T g3 F3.kp b3 m3
  have g7 := ok_times (P := P) (w := w) (base := base) F7 T g3 F3.kp b3 m3
  have g9 := ok_over (P := P) (w := w) (base := base) F9 T g3 F3.kp b3 m3
  have g11 := ok_below (P := P) (w := w) (base := base) F11 T g3 F3.kp b3 m3
  have g8 := ok_negative (P := P) (w := w) (base := base) F8 T g3 F3.kp b3 m3
  have g10 := ok_sign_of (P := P) (w := w) (base := base) F10 T g3 F3.kp b3 m3
  have g15 := ok_root_of (P := P) (w := w) (base := base) F15 T g3 F3.kp b3 m3
  have g16 := ok_shown (P := P) (w := w) (base := base) F16 T g3 F3.kp b3 m3
  have g4 := ok_as_ratios (P := P) (w := w) (base := base) F4 T g1 F1.kp b1 m1 g3 F3.kp b3 m3
  have g12 := ok_shared_bottom (P := P) (w := w) (base := base) F12 T 
  have g13 := ok_total (P := P) (w := w) (base := base) F13 T g4 F4.kp b4 m4 g12 F12.kp b12 m12 g3 F3.kp b3 m3
  have g14 := ok_least (P := P) (w := w) (base := base) F14 T g4 F4.kp b4 m4
  have g17 := ok_is_below (P := P) (w := w) (base := base) F17 T g0 F0.kp b0 m0
  have g18 := ok_sizes_of (P := P) (w := w) (base := base) F18 T g1 F1.kp b1 m1 g0 F0.kp b0 m0
  have g19 := ok_rising_looks (P := P) (w := w) (base := base) (fI := 0) F19 T g1 F1.kp b1 m1 g17 F17.kp b17 m17 GI b40
  have g20 := ok_lot_of (P := P) (w := w) (base := base) F20 T g19 F19.kp b19 m19
  have g21 := ok_asking_of (P := P) (w := w) (base := base) F21 T g19 F19.kp b19 m19
  have g22 := ok_spot_of (P := P) (w := w) (base := base) F22 T g1 F1.kp b1 m1 g17 F17.kp b17 m17
  have g23 := ok_row_spots (P := P) (w := w) (base := base) F23 T g1 F1.kp b1 m1
  have g24 := ok_feed (P := P) (w := w) (base := base) F24 T.abs T.range T.int
  have g25 := ok_pick (P := P) (w := w) (base := base) F25 T.len T.int
  have g26 := ok__law_whole (P := P) (w := w) (base := base) F26 T 
  have g30 := ok__law_due (P := P) (w := w) (base := base) F30 T g26 F26.kp b26 m26
  have g31 := ok__law_lot_told (P := P) (w := w) (base := base) F31 T g20 F20.kp b20 m20
  have g32 := ok__law_asking_told (P := P) (w := w) (base := base) F32 T g21 F21.kp b21 m21
  have g33 := ok__law_spot_right (P := P) (w := w) (base := base) F33 T g26 F26.kp b26 m26 g22 F22.kp b22 m22
  have g34 := ok__law_sizes_right (P := P) (w := w) (base := base) F34 T g26 F26.kp b26 m26 g18 F18.kp b18 m18
  have g35 := ok__law_row_right (P := P) (w := w) (base := base) F35 T g23 F23.kp b23 m23
  have g36 := ok__law_door (P := P) (w := w) (base := base) F36 T g5 F5.kp b5 m5 g6 F6.kp b6 m6 g7 F7.kp b7 m7 g9 F9.kp b9 m9 g8 F8.kp b8 m8 g10 F10.kp b10 m10 g11 F11.kp b11 m11 g13 F13.kp b13 m13 g14 F14.kp b14 m14 g15 F15.kp b15 m15 g16 F16.kp b16 m16
  have g37 := ok__law_numbers_judged (P := P) (w := w) (base := base) F37 T g36 F36.kp b36 m36
  have g38 := ok__law_kept (P := P) (w := w) (base := base) F38 T g32 F32.kp b32 m32
  have g27 := ok__law_spots (P := P) (w := w) (base := base) F27 T 
  have g28 := ok__law_thing (P := P) (w := w) (base := base) F28 T g25 F25.kp b25 m25
  have g29 := ok__law_list (P := P) (w := w) (base := base) F29 T g28 F28.kp b28 m28 g26 F26.kp b26 m26 g25 F25.kp b25 m25
  exact ok_law F39 T g24 F24.kp b24 m24 g25 F25.kp b25 m25 g29 F29.kp b29 m29 g31 F31.kp b31 m31 g30 F30.kp b30 m30 g32 F32.kp b32 m32 g38 F38.kp b38 m38 g33 F33.kp b33 m33 g27 F27.kp b27 m27 g34 F34.kp b34 m34 g37 F37.kp b37 m37 g35 F35.kp b35 m35
end Hs
open PySem PySem.W PySem.Calls PyProof.Rows
theorem PySem.Challenge.cw_hiddensorts_k80_lots_and_spots_judged_holds : PySem.Challenge.rw_hiddensorts_k80_lots_and_spots_judged.Holds := by
  w_on; o_law
  refine HandSHeadRun.head_imp (r := OpenLaw.row PySem.Challenge.rw_hiddensorts_k80_lots_and_spots_judged) (q := view (OpenLaw.row PySem.Challenge.rw_hiddensorts_k80_lots_and_spots_judged).prog [0, 53]) (H := Hs.hk) (ob := Hs.ob) (M := 40000) (loose := Hs.loose) (d := HandSHeadRun.topDef (OpenLaw.row PySem.Challenge.rw_hiddensorts_k80_lots_and_spots_judged).prog 53) (kwd := []) Hs.ob_eq
    Hs.run (by kernel_rfl) (by kernel_rfl) (by kernel_rfl) (by rfl) (by first | assumption | decide +kernel) (by decide +kernel) ⟨rfl, rfl, rfl, rfl, rfl, by decide +kernel⟩ ?hw ?hc
  case hw => w_witness2
  case hc =>
    refine L2.walk_ofE (l := PySem.Challenge.rw_hiddensorts_k80_lots_and_spots_judged) (n := 63) (k := 8) (x := "_law_script") (CX := L2.CX0) rfl (by decide) (by kernel_rfl) ⟨rfl, by decide, by decide⟩ ?F (fun _ _ _ _ z => z)
    intro w mg fa h Y G hmg0
    obtain ⟨K, KX, c⟩ := Y
    have hmg : mg ("law" : PySem.Str) = some (.ref fa) := by
      have e : (HandSHeadRun.topDef (OpenLaw.row PySem.Challenge.rw_hiddensorts_k80_lots_and_spots_judged).prog 53).name = ("law" : PySem.Str) := by kernel_rfl
      rw [← e]
      exact hmg0
    obtain ⟨fd, hb, hF⟩ := Hs.facts (P := (PySem.Challenge.rw_hiddensorts_k80_lots_and_spots_judged).prog) (w := w) KX G hmg c
    exact ⟨K, fd, Hs.spLaw K, KX, hb, fun H a ns hl _ hS => ⟨a, ns, rfl, hS, hl, fun _ => rfl⟩, hF⟩
