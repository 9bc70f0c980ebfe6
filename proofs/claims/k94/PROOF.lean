import PyProof.Rows.All
import Wide.All
import OpenK.AllK
import Wide.FinOn
import KE.KExcInit
import KE.KExcIs
import HandS.ForMost
import HandS.Flow
import HandS.ExcInit
import HandS.ExcValue
import HandS.ExcField
import HandS.IsInst
import HandS.Conv
import HandS.Comp
import HandS.Defaults
import HandS.HeadHook2
import KE.KStateDown
import HandS.Head0
import HandS.Head1
import HandS.Head2
import HandS.HeadEnd
import HandS.HeadHook1
import HandS.HeadHook3
import HandS.HeadHook4
import PySem.Challenge.RW_hiddensorts_k94_errors_of_one_class
set_option Elab.async false
set_option linter.all false
set_option maxRecDepth 100000
set_option maxHeartbeats 4000000
namespace Hs
open PySem PySem.Spec PyProof.Rows L2
/-! ## exception objects that are held as values: own classes over Exception -/
abbrev excB : List Value := [.type "Exception", .type "BaseException", .type "object"]
/-- the class at C, an exception class of the text's own -/
structure Exn (K : PySem.W.Frag) (C : Addr) : Prop where
  keep : PySem.W.keepIn K (.ref C) = true
  isCls : (PySem.W.clsIn K C).isSome = true
  base : PySem.W.subIn K (.ref C) (.type "BaseException") = some true
  dct : PySem.W.hasDictIn K C = true
  get : PySem.W.findIn K (.ref C) "__getattribute__" = some (some (.builtin "BaseException.__getattribute__"))
  noGet : PySem.W.findIn K (.ref C) "__getattr__" = some none
  clsAt : PySem.W.findIn K (.ref C) "__class__" = some (some (.builtin "object.__class__"))
  objM : PySem.W.mroIn K C (.type "object") = some true
  set : PySem.W.findIn K (.ref C) "__setattr__" = some (some (.builtin "object.__setattr__"))
  over : PySem.W.excOver K C excB = true
def eqF (a b : Option (Option Value)) : Bool := decide (a = b)
def exnB (K : PySem.W.Frag) (C : Addr) : Bool :=
  PySem.W.keepIn K (.ref C) && ((PySem.W.clsIn K C).isSome && (decide (PySem.W.subIn K (.ref C) (.type "BaseException") = some true) && (PySem.W.hasDictIn K C &&
    (eqF (PySem.W.findIn K (.ref C) "__getattribute__") (some (some (.builtin "BaseException.__getattribute__"))) && (eqF (PySem.W.findIn K (.ref C) "__getattr__") (some none) &&
      (eqF (PySem.W.findIn K (.ref C) "__class__") (some (some (.builtin "object.__class__"))) && (decide (PySem.W.mroIn K C (.type "object") = some true) &&
        (eqF (PySem.W.findIn K (.ref C) "__setattr__") (some (some (.builtin "object.__setattr__"))) && PySem.W.excOver K C excB))))))))
theorem two {a b : Bool} (h : (a && b) = true) : a = true ∧ b = true := Bool.and_eq_true_iff.mp h
theorem exnB_ok {K : PySem.W.Frag} {C : Addr} (h : exnB K C = true) : Exn K C := by
  obtain ⟨a1, h⟩ := two h
  obtain ⟨a2, h⟩ := two h
  obtain ⟨a3, h⟩ := two h
  obtain ⟨a4, h⟩ := two h
  obtain ⟨a5, h⟩ := two h
  obtain ⟨a6, h⟩ := two h
  obtain ⟨a7, h⟩ := two h
  obtain ⟨a8, h⟩ := two h
  obtain ⟨a9, h⟩ := two h
  exact ⟨a1, a2, of_decide_eq_true a3, a4, of_decide_eq_true a5, of_decide_eq_true a6, of_decide_eq_true a7, of_decide_eq_true a8, of_decide_eq_true a9, h⟩
section
open PySem.W PySem.Calls Builtin.ObjectAttr
variable {prog : Program} {w : World} {A : Around} {E : Value → Shared → Prop} {R : Result → Shared → Prop} {hp : Heap} {g : Array GenState} {d : Drawn} {t : Nat} {os : OsState} {K : Frag} {name : Str} {tk : Tok} {v : Value} {x C : Addr} {fv : Array Value}
theorem takes_none (ha : findIn K (.ref C) name = some none) : takerIn K C name = some none := by
  unfold takerIn
  rw [ha]
  rfl
/-- the first field: the object's own dict is laid -/
theorem put_first (T : Exn K C) (X : K.In hp) (hx : hp.get? x = some ⟨.ref C, none, .fields fv, #[]⟩) (ha : findIn K (.ref C) name = some none)
    (done : ∀ h2 tk2 dx, (∀ b o, b ≠ x → hp.get? b = some o → h2.get? b = some o) → hp.objs.size ≤ dx → dx ≠ x → h2.get? x = some ⟨.ref C, some dx, .fields fv, #[]⟩ →
      h2.Ns1 dx (fun y => if y = name then some v else none) → R (.ok (.ret .none)) ⟨h2, g, d, tk2, os⟩) :
    codeAny (model prog w) A (.call (.builtin "object.__setattr__") ⟨[.ref x, .str name tk, v], []⟩) R ⟨hp, g, d, t, os⟩ := by
  obtain ⟨cd, hcd, hh⟩ := any_some T.dct
  have far : x ≠ hp.objs.size := Nat.ne_of_lt (Heap.lt_size hx)
  refine osa_openX F.store_Exception X (od := none) ⟨hx, rfl, rfl, trivial⟩ T.over (takes_none ha) fun b => ?_
  have look : W.Looks (model prog w) hp (classData C) cd := W.looks_clsIn X hcd
  obtain ⟨n1, n2, n3, n4, n5, n6, n7, n8, n9, n10, n11⟩ := cd
  dsimp only at hh
  subst hh
  unfold storeInOwnDict
  unfold ownDictForStores
  repeat (first
    | with_reducible refine HandSPX.store_in_new ?_ ?_
    | with_reducible refine wpAny_loadPart_at hx ?_
    | with_reducible refine look.at ?_
    | wp_step)
  · refine ⟨_, #[], _, (Heap.get?_update_ne _ _ _ _ far.symm).trans (Heap.get?_push_at rfl rfl), rfl, ?_, ?_⟩
    · exact fun e he => absurd he (by simp)
    · exact fun _ => rfl
  · intro h2 tk2 hn2 same
    refine done h2 tk2 hp.objs.size (fun b o hb ho => ?_) (Nat.le_refl _) far.symm ?_ hn2
    · rw [same.2 b (Nat.ne_of_lt (Heap.lt_size ho)), Heap.get?_update_ne _ _ _ _ hb]
      exact Heap.get?_push_of_some _ ho
    · rw [same.2 x far]
      exact Heap.get?_update_self _ (Heap.get?_push_of_some _ hx) rfl
/-- a further field -/
theorem put_more {dx : Addr} {m0 : Str → Option Value} {nl : List Str} (T : Exn K C) (X : K.In hp) (hx : hp.get? x = some ⟨.ref C, some dx, .fields fv, #[]⟩) (hn : hp.Ns1 dx m0) (hw : Within m0 nl) (hz : nl.length ≤ 1000) (ha : findIn K (.ref C) name = some none)
    (done : ∀ h2 tk2, (∀ b o, b ≠ dx → hp.get? b = some o → h2.get? b = some o) → h2.Ns1 dx (fun y => if y = name then some v else m0 y) → R (.ok (.ret .none)) ⟨h2, g, d, tk2, os⟩) :
    codeAny (model prog w) A (.call (.builtin "object.__setattr__") ⟨[.ref x, .str name tk, v], []⟩) R ⟨hp, g, d, t, os⟩ := by
  obtain ⟨cd, hcd, hh⟩ := any_some T.dct
  obtain ⟨oD, _, _, hoD, _, _⟩ := hn.count hw
  refine osa_openX F.store_Exception X (od := some oD) ⟨hx, rfl, rfl, hoD⟩ T.over (takes_none ha) fun b => ?_
  have look : W.Looks (model prog w) hp (classData C) cd := W.looks_clsIn X hcd
  obtain ⟨n1, n2, n3, n4, n5, n6, n7, n8, n9, n10, n11⟩ := cd
  dsimp only at hh
  subst hh
  unfold storeInOwnDict
  unfold ownDictForStores
  repeat (first
    | with_reducible refine OEX.store_in_old hn hw hz ?_
    | with_reducible refine wpAny_loadPart_at hx ?_
    | with_reducible refine look.at ?_
    | wp_step)
  intro h2 tk2 hn2 same
  exact done h2 tk2 (fun b o hb ho => (same.2 b hb).trans ho) hn2
end
section
variable {X : Cx} {pins : List (Addr × Obj)} {σ : L2.St} {H : Hp} {s : Shared} {a C dx : Addr} {f : Str} {y : V} {u : Value} {fs : List (Str × V)} {Q : Unit → Shared → Prop} {E : Value → Shared → Prop} {A : Around}
/-- a.f = y, the first one: two steps on the abstract heap (a new dict; the object names it) -/
theorem put1_ok (T : Exn X.K C) (I : Inv X pins σ H s) (e : H a = some (exo a C none)) (no : PySem.W.findIn X.K (.ref C) f = some none) (ry : RelV y u)
    (h : ∀ dx s2, H dx = none → dx ≠ a → Inv X pins σ (upd (upd H dx (exd dx [(f, y)])) a (exo a C (some dx))) s2 → Q () s2) : wpAny (model X.prog X.w) A (setAttr (.ref a) f u) Q E s := by
  obtain ⟨t1, ho⟩ := exo_at I.hok e
  obtain ⟨hp, g, d, t, os⟩ := s
  refine PySem.W.set_plain I.kIn (ox := ⟨.ref C, none, .fields #[.ref t1, .none, .none, .none, .bool false, .none], #[]⟩) (od := none) ⟨ho, rfl, rfl, trivial⟩ T.set ?_
  refine put_first T I.kIn ho no fun h2 tk2 dx k big ne hx hn => ?_
  have free : H dx = none := I.hok.fresh big
  have off : ∀ {b : Addr} {o : Obj}, b ≠ a → (h2.update a fun _ => ⟨.ref C, none, .fields #[.ref t1, .none, .none, .none, .bool false, .none], #[]⟩).get? b = some o → h2.get? b = some o := fun {b o} hb q => by
    rw [Heap.get?_update_ne _ _ _ _ hb] at q
    exact q
  have on : ∀ {b : Addr} {o : Obj}, b ≠ a → h2.get? b = some o → (h2.update a fun _ => ⟨.ref C, none, .fields #[.ref t1, .none, .none, .none, .bool false, .none], #[]⟩).get? b = some o := fun {b o} hb q => by
    rw [Heap.get?_update_ne _ _ _ _ hb]
    exact q
  have J1 := I.laid (t' := tk2) (a := dx) (o := exd dx [(f, y)]) (h' := h2.update a fun _ => ⟨.ref C, none, .fields #[.ref t1, .none, .none, .none, .bool false, .none], #[]⟩) (fun b o q => by
    by_cases hb : b = a
    · subst hb
      rw [show hp.get? b = _ from ho] at q
      cases q
      exact Heap.get?_update_self _ hx rfl
    · exact on hb (k b o hb q)) big (exd_ok (hn.at fun o q => on ne q) (relO_put (fs := []) ry fun _ => True.intro))
  have ea : upd H dx (exd dx [(f, y)]) a = some (exo a C none) := by
    rw [upd_ne ne.symm]
    exact e
  exact h dx _ free ne (J1.write (t' := tk2) (x := a) (e := a) (o := exo a C (some dx)) (h' := h2) (by rw [ea]; exact True.intro) (.inl rfl) (fun b o hb q => off hb q) ⟨_, hx⟩ (exo_ok hx))
/-- a.f = y, a further one -/
theorem put2_ok (T : Exn X.K C) (I : Inv X pins σ H s) (e : H a = some (exo a C (some dx))) (ed : H dx = some (exd dx fs)) (hl : fs.length ≤ 900) (no : PySem.W.findIn X.K (.ref C) f = some none) (ry : RelV y u)
    (h : ∀ s2, Inv X pins σ (upd H dx (exd dx ((f, y) :: fs))) s2 → Q () s2) : wpAny (model X.prog X.w) A (setAttr (.ref a) f u) Q E s := by
  obtain ⟨t1, ho⟩ := exo_at I.hok e
  obtain ⟨mA, hns, rel⟩ := exd_at I.hok ed
  obtain ⟨hp, g, d, t, os⟩ := s
  have hin := within_of rel
  obtain ⟨oD, _, _, hoD, _, _⟩ := hns.count hin
  refine PySem.W.set_plain I.kIn (ox := ⟨.ref C, some dx, .fields #[.ref t1, .none, .none, .none, .bool false, .none], #[]⟩) (od := some oD) ⟨ho, rfl, rfl, hoD⟩ T.set ?_
  refine put_more T I.kIn ho hns hin (by rw [List.length_map]; omega) no fun h2 tk2 k hn => ?_
  obtain ⟨oN, _, _, there, _⟩ := id hn
  exact h _ (I.write (t' := tk2) (x := dx) (e := dx) (o := exd dx ((f, y) :: fs)) (by rw [ed]; exact True.intro) (.inl rfl) k ⟨oN, there⟩ (exd_ok hn (relO_put ry rel)))
end
/-- o.f = e, o an exception object -/
def tPut (K : PySem.W.Frag) (f : Str) (to te : TE) : TS := fun D σ H => te σ H fun y H1 => to σ H1 fun x H2 => ∃ a C : Addr, x = .ref a ∧ Exn K C ∧ PySem.W.findIn K (.ref C) f = some none ∧
  ((H2 a = some (exo a C none) ∧ ∀ dx, H2 dx = none → dx ≠ a → D.nx σ (upd (upd H2 dx (exd dx [(f, y)])) a (exo a C (some dx)))) ∨
    ∃ (dx : Addr) (fs : List (Str × V)), H2 a = some (exo a C (some dx)) ∧ H2 dx = some (exd dx fs) ∧ fs.length ≤ 900 ∧ D.nx σ (upd H2 dx (exd dx ((f, y) :: fs))))
/-- C(e, ..) as a value, C's own __init__ keeping sp -/
def tNew (C : Addr) (sp : Sp) (ta : TA) : TE := fun σ H Q => ta σ H fun vs H1 => vs.length ≤ 1000 ∧ ∀ a, H1 a = none → sp (.ref a :: vs) (upd H1 a (exo a C none)) (fun v H2 => v = .non ∧ Q (.ref a) H2) (fun _ _ _ => False)
/-- C() as a value, C without an __init__ -/
def tNew0 (C : Addr) : TE := fun _ H Q => ∀ a, H a = none → Q (.ref a) (upd H a (exo a C none))
/-- e.f of an exception object -/
def tAttr (K : PySem.W.Frag) (f : Str) (te : TE) : TE := fun σ H Q => te σ H fun x H1 => ∃ (a C dx : Addr) (fs : List (Str × V)) (v : V), x = .ref a ∧ Exn K C ∧ PySem.W.findIn K (.ref C) f = some none ∧ H1 a = some (exo a C (some dx)) ∧ H1 dx = some (exd dx fs) ∧ fs.lookup f = some v ∧ Q v H1
/-- isinstance(e, D) of an exception object -/
def rIsX (K : PySem.W.Frag) : List V → Hp → VK → Prop := fun xs H Q => ∃ (a C D : Addr) (b : Bool), xs = [.ref a, .ref D] ∧ Exn K C ∧ (H a = some (exo a C none) ∨ ∃ dx fs, H a = some (exo a C (some dx)) ∧ H dx = some (exd dx fs)) ∧ PySem.W.kitOne K (.ref C) (.ref D) = some b ∧ Q (.bl b) H
section
variable {X : Cx} {o e : Expr} {es : List Expr} {to te : TE} {ta : TA} {f x : Str} {p p' pos : Pos} {C : Addr}
theorem ps_put (ho : PE X o to) (he : PE X e te) (hs : swapsWith e (some (.Attribute o f p')) pos.line X.env = pure false := by rfl) : PS X (.Assign [.Attribute o f p'] e pos) (tPut X.K f to te) := by
  refine ⟨fun pins s σ H D I h => plainObj_wpAny_Assign_Attribute (thn (he.run pins s σ H _ I h) fun v s1 ⟨y, H1, I1, r1, q1⟩ => thn (ho.run pins s1 σ H1 _ I1 q1) fun u s2 ⟨z, H2, I2, r2, a, C, ez, T, no, q⟩ => ?_) hs⟩
  subst ez
  obtain rfl : u = Value.ref a := r2
  rcases q with ⟨ea, q⟩ | ⟨dx, fs, ea, ed, hl, q⟩
  · exact put1_ok T I2 ea no r1 fun dx s3 n ne J => ⟨σ, _, J, q dx n ne⟩
  · exact put2_ok T I2 ea ed hl no r1 fun s3 J => ⟨σ, _, J, q⟩
theorem pe_new0 (T : Exn X.K C) (q : PySem.W.excIn X.K C excB "Exception.__new__" = true) (hm : X.mg x = some (.ref C)) (hg : Gl X x) (hdb : (x == ("__debug__" : Str)) = false := by decide) : PE X (.Call (.Name x p) [] [] pos) (tNew0 C) := by
  refine ⟨fun pins s σ H Q I h => wpAny_Call_Name_kw (ld_glob I hg hm ?_ hdb)⟩
  refine PySem.W.callWith_K0 I.kIn T.keep ?_
  show wpAny _ _ (call (.ref C) []) _ _ _
  obtain ⟨_, _, _, _, _, _, _, _, _, _, _, _, _, _, _, _, _, hC, hN, hni, tail⟩ := exc_obj I.kIn q
  refine wpAny_call_exc_subT F.excBase_Exception tail hC hN hni (fun h2 a made => ?_) (Nat.zero_le _)
  have free : H a = none := I.hok.gone made.new
  obtain ⟨t1, there, _, _⟩ := made.there
  exact ⟨.ref a, upd H a (exo a C none), I.laidN made.keeps made.new free (exo_ok there), rfl, h a free⟩
theorem pe_new {CX : CXT} {fI : Addr} {k : Nat} {fd : FuncData} {ps : List Str} {sp : Sp} (T : Exn X.K C) (q : PySem.W.excInitIn X.K C excB "Exception.__new__" = true) (iC : PySem.W.findIn X.K (.ref C) "__init__" = some (some (.ref fI))) (tI : PySem.W.typeIn X.K (.ref fI) = some (.type "function"))
    (F1 : FnOk X.prog X.w X.K X.mg X.base CX k fI fd ps sp) (hr : Room (k + 1) X.A) (hb : Binds X.K fd ps []) (hx : Passes CX X (fun _ _ _ => False)) (hg : Gl X x) (hm : X.mg x = some (.ref C)) (ha : PA X (e :: es) ta)
    (hdb : (x == ("__debug__" : Str)) = false := by decide) (he : starEach (e :: es) X.env = (false, eval e X.env) :: starEach es X.env := by rfl) (hpl : (backTo pos (starEach es X.env)).any (·.1) = false := by rfl) :
    PE X (.Call (.Name x p) (e :: es) [] pos) (tNew C sp ta) := by
  refine ⟨fun pins s σ H Q I h => wpAny_Call_Name_kw (ld_glob I hg hm ?_ hdb)⟩
  refine PySem.W.callWith_K (h₀ := X.base) I.ok.mod.kin T.keep (thn (ha.run pos pins s σ H _ I h) fun us s1 ⟨vs, H1, I1, r1, hz, q1⟩ => ⟨I1.kIn, ?_⟩) he hpl
  show wpAny _ _ (call (.ref C) us) _ _ _
  obtain ⟨_, _, _, _, _, _, _, _, _, _, _, _, _, _, _, _, hC, hT⟩ := PySem.W.excInit_of I1.kIn q
  obtain ⟨hp, g, dr, tk, os⟩ := s1
  have big : hp.objs.size ≤ hp.objs.size + 1 := Nat.le_succ _
  have free : H1 (hp.objs.size + 1) = none := I1.hok.fresh big
  have ask := q1 (hp.objs.size + 1) free
  have keeps : ∀ b o, hp.get? b = some o → ((hp.push (PySem.W.kdv_tup us)).push (PySem.HandSPX.excO C hp.objs.size)).get? b = some o :=
    fun b o z => Heap.get?_push_of_some _ (Heap.get?_push_of_some _ z)
  have there : ((hp.push (PySem.W.kdv_tup us)).push (PySem.HandSPX.excO C hp.objs.size)).get? (hp.objs.size + 1) = some (PySem.HandSPX.excO C hp.objs.size) := by heap_get
  have I2 := I1.laid (t' := tk) (a := hp.objs.size + 1) (o := exo (hp.objs.size + 1) C none) keeps big (exo_ok there)
  have r2 : Vals (V.ref (hp.objs.size + 1) :: vs) (Value.ref (hp.objs.size + 1) :: us) := .cons rfl r1
  have len2 : (Value.ref (hp.objs.size + 1) :: us).length = ps.length := by
    rw [← r2.length]
    exact F1.len _ _ _ _ ask
  have small : us.length ≤ sizeLine := by
    rw [← Paired.length r1]
    exact Nat.le_trans hz (by decide)
  refine wpAny_call (PySem.HandSPX.call_own F.excBase_Exception hT hC (PySem.W.looks_findIn I1.kIn iC) (fun self => PySem.W.bind_fn I1.kIn self tI) small
    (codeAny_mono (F1.run _ X.stack _ _ ⟨Value.ref (hp.objs.size + 1) :: us, []⟩ (Value.ref (hp.objs.size + 1) :: us) _ _ (fun _ _ _ => False) (hr.make C us []) (I2.env0.make C us []) ?_ r2 ask) fun r s2 back => ?_))
  · have z := hb ⟨(hp.push (PySem.W.kdv_tup us)).push (PySem.HandSPX.excO C hp.objs.size), g, dr, tk, os⟩ (Value.ref (hp.objs.size + 1) :: us) I2.kIn (by rw [List.append_nil]; exact len2)
    rw [List.append_nil] at z
    exact z
  · cases r with
    | error er => exact hx pins σ _ _ er s2 I2 back
    | ok fl =>
      cases fl with
      | ret u =>
        obtain ⟨v, H2, J, rv, ev, q2⟩ := I2.after back
        subst ev
        exact ⟨rv, .ref _, H2, J, rfl, q2⟩
      | next => exact back.elim
      | brk => exact back.elim
      | cont => exact back.elim
theorem pe_attr (he : PE X e te) (hb : attributeBase e f X.env (eval e X.env) = eval e X.env := by rfl) : PE X (.Attribute e f pos) (tAttr X.K f te) := by
  refine ⟨fun pins s σ H Q I h => attr_of hb (thn (he.run pins s σ H _ I h) fun u s1 hh => ?_)⟩
  obtain ⟨z, H1, I1, rz, a, C, dx, fs, v, ez, T, no, ea, ed, l, q⟩ := hh
  subst ez
  obtain rfl : u = Value.ref a := rz
  obtain ⟨t1, ho⟩ := exo_at I1.hok ea
  obtain ⟨mA, hns, rel⟩ := exd_at I1.hok ed
  obtain ⟨od, hod, lk⟩ := lookIn_ns hns
  obtain ⟨w, hw, rw'⟩ := RelO.some_of (v := v) (o := mA f) (by rw [← l]; exact rel f)
  have J : PySem.W.InstAt s1.heap a _ C (some od) := ⟨ho, rfl, rfl, hod⟩
  exact HandSPX.exc_get I1.kIn J T.get T.noGet T.base (PySem.W.findObj_own T.dct no rfl (by rw [lk, hw])) (handed_of rw') ⟨v, H1, I1.tok _, rw', q⟩
theorem call_isX (hn : PySem.W.specialIn X.K (.builtin "object.__class__") "__get__" = some (some (.builtin "getset_descriptor.__get__"))) (htk : PySem.W.takesIn X.K (.builtin "object.__class__") = some true) : CallR X (.builtin "isinstance") (rIsX X.K) := by
  intro pins s σ H xs us Q I r h
  obtain ⟨a, C, D, b, rfl, T, at_, k, q⟩ := h
  obtain ⟨u1, u2, rfl, r1, r2⟩ := vals2 r
  cases (show u1 = Value.ref a from r1)
  cases (show u2 = Value.ref D from r2)
  rcases at_ with ea | ⟨dx, fs, ea, ed⟩
  · obtain ⟨t1, ho⟩ := exo_at I.hok ea
    exact PySem.W.kia_one (PySem.W.kitx_exc (od := none) T.isCls T.get T.noGet T.base T.clsAt hn htk T.objM) I.kIn ⟨ho, rfl, rfl, trivial⟩ k (fun z => nomatch z) fun tk => ⟨.bl b, H, I.tok tk, rfl, q⟩
  · obtain ⟨t1, ho⟩ := exo_at I.hok ea
    obtain ⟨mA, hns, rel⟩ := exd_at I.hok ed
    obtain ⟨od, hod, lk⟩ := lookIn_ns hns
    exact PySem.W.kia_one (PySem.W.kitx_exc (od := some od) T.isCls T.get T.noGet T.base T.clsAt hn htk T.objM) I.kIn ⟨ho, rfl, rfl, hod⟩ k (fun z => nomatch z) fun tk => ⟨.bl b, H, I.tok tk, rfl, q⟩
end
end Hs
set_option maxHeartbeats 4000000
namespace Hs
open PySem L2
def topS (i : Nat) : Stmt := PySem.Challenge.pw_hiddensorts_k94_errors_of_one_class.main.body.getD i (.Pass ⟨0, 0, 0, 0⟩)
abbrev sFeed : Stmt := topS 55
abbrev sPick : Stmt := topS 56
/-! what the feed hands back: a new list of ints whose first one is the place of the next -/
def spFeed (K : PySem.W.Frag) : Sp := fun vs H Q _ => ∃ (a : Addr) (ns : List Int), vs = [.ref a] ∧ SqL K H a (ns.map V.int) ∧ ns.length ≤ 63 ∧
  ∀ (l : Addr) (H' : Hp) (r : List Int), Same H H' → H l = none → H' l = some (.lst ((1 :: r).map V.int)) → r.length ≤ 6048 → Q (.ref l) H'
/-- a drawn number: below `many`; the feed's place moves, all else stays -/
def spPick : Sp := fun vs H Q _ => ∃ (l : Addr) (p m : Int) (r : List Int), vs = [.ref l, .int m] ∧ 0 < m ∧ 1 ≤ p ∧ r.length ≤ 6048 ∧ H l = some (.lst ((p :: r).map V.int)) ∧
  ∀ (v q : Int), 0 ≤ v → v < m → 1 ≤ q → Q (.int v) (upd H l (.lst ((q :: r).map V.int)))
theorem same_at {H H' : Hp} {l : Addr} (s : Same H H') (n : H l = none) (o : HO) : Same H (upd H' l o) := fun b u q => by
  rw [upd_ne (ne_of_none q n)]
  exact s b u q
theorem upd_id {H : Hp} {l : Addr} {o : HO} (h : H l = some o) : upd H l o = H := by
  funext b
  by_cases e : b = l
  · rw [e, upd_same, h]
  · rw [upd_ne e]
theorem six_k {n : Nat} (h : n ≤ 6048) : (n + 1) < sizeLine := Nat.lt_of_le_of_lt (Nat.succ_le_succ h) (by decide)
theorem cut_int {ns : List Int} {lo hi : Option Int} {i : Nat} {y : V} (h : (cutV (ns.map V.int) lo hi)[i]? = some y) : ∃ u, y = V.int u := by
  have m : y ∈ cutV (ns.map V.int) lo hi := List.mem_of_getElem? h
  have m2 : y ∈ ns.map V.int := List.mem_of_mem_drop (List.mem_of_mem_take m)
  obtain ⟨u, _, e⟩ := List.mem_map.mp m2
  exact ⟨u, e.symm⟩
theorem app_int (p : Int) (r : List Int) (v : Int) : ((p :: r).map V.int) ++ [V.int v] = ((p :: (r ++ [v])).map V.int) := by
  simp
theorem first_ix {p : Int} {r : List Int} : ixN ((p :: r).map V.int).length 0 = some 0 := by
  unfold ixN
  rw [if_pos (Int.le_refl 0), if_pos (by rw [List.length_map, List.length_cons]; omega)]
  rfl
theorem mod_lt {a m : Int} (h : 0 < m) : 0 ≤ a % m ∧ a % m < m := ⟨Int.emod_nonneg _ (by omega), Int.emod_lt_of_pos _ h⟩
section
variable {P : Program} {w : World} {K : PySem.W.Frag} {mg : Str → Option Value} {base : Heap}
theorem scFeed : FnScope ["_law_script", "_law_feed_here", "_law_seat", "_law_cell", "_law_size", "_law_heap", "_law_turn", "_law_high", "_law_low"] ["_law_script"] (defScope sFeed) :=
  ⟨rfl, rfl, rfl, by decide +kernel, rfl, by decide +kernel, by decide +kernel⟩
theorem ok_feed {f : Addr} {fd : FuncData} (F : Fun K "_law_feed" "_law_feed" sFeed f fd) (mAbs : mg "abs" = none) (mRange : mg "range" = none) (mInt : mg "int" = none) :
    FnOk P w K mg base CX0 1 f fd ["_law_script"] (spFeed K) := by
  refine F.ok scFeed (fun vs H Q E h => ?_) (fun cdv A outer s H vs Q E hr h => ?_)
  · obtain ⟨a, ns, rfl, _⟩ := h
    rfl
  obtain ⟨a, ns, rfl, hS, h63, q⟩ := h
  refine ⟨_, (pss_cons (ps_set (i := 1) scFeed.nd rfl (Or.inl rfl) (pe_lst (pa_cons pe_int pa_nil)))
 (pss_cons (ps_set (i := 2) scFeed.nd rfl (Or.inl rfl) pe_int)
 (pss_cons (ps_for PassesOwn.never rfl (pi_list (pe_slice sl_list (pv 0) po_none (po_some pe_int))) (pg_name (i := 3) scFeed.nd rfl (Or.inl rfl))
 (pss_cons (ps_set (i := 2) scFeed.nd rfl (Or.inl rfl) (pe_op op_add (pv 2) pe_int))
 (pss_cons (ps_set (i := 4) scFeed.nd rfl (Or.inl rfl) (pe_callB call_abs (by rfl) mAbs (by decide +kernel) (pa_cons (pv 3) pa_nil)))
 (pss_one (ps_if (pt_cmpR op_ge (pv 4) (pe_op op_pow pe_int pe_int) (nomark _)) (pss_cons (ps_set (i := 5) scFeed.nd rfl (Or.inl rfl) (pe_op op_sub (pv 4) (pe_op op_pow pe_int pe_int)))
 (pss_one (ps_for PassesOwn.never rfl (pi_range1 rfl mRange (pa_cons pe_int pa_nil)) (pg_name (i := 6) scFeed.nd rfl (Or.inl rfl))
 (pss_one (ps_if (pt_cmpR op_gt (pv 5) pe_int (nomark _)) (pss_cons (ps_expr (pe_bm PySem.F.plainAttrs_list PySem.F.slot_list_append PySem.F.type_list_append mt_append (pv 1) (pa_cons (pe_op op_mod (pe_callTy call_int1 (by rfl) mInt (by decide +kernel) (pa_cons (pv 5) pa_nil)) pe_int) pa_nil)))
 (pss_one (ps_set (i := 5) scFeed.nd rfl (Or.inl rfl) (pe_op op_fdiv (pv 5) pe_int)))) pss_nil))))) (pss_cons (ps_set (i := 7) scFeed.nd rfl (Or.inl rfl) (pe_op op_mod (pe_callTy call_int1 (by rfl) mInt (by decide +kernel) (pa_cons (pe_op op_add (pe_op op_mul (pv 4) pe_int) (pe_op op_mul (pv 2) pe_int)) pa_nil)) pe_int))
 (pss_cons (ps_set (i := 8) scFeed.nd rfl (Or.inl rfl) (pe_op op_mod (pe_callTy call_int1 (by rfl) mInt (by decide +kernel) (pa_cons (pe_op op_add (pe_op op_add (pv 4) (pe_op op_mul (pv 2) (pv 2))) pe_int) pa_nil)) pe_int))
 (pss_cons (ps_if (pt_cmpR op_lt (pv 3) pe_int (nomark _)) (pss_one (ps_set (i := 8) scFeed.nd rfl (Or.inl rfl) (pe_op op_add (pv 8) pe_int))) pss_nil)
 (pss_one (ps_for PassesOwn.never rfl (pi_range1 rfl mRange (pa_cons pe_int pa_nil)) (pg_name (i := 6) scFeed.nd rfl (Or.inl rfl))
 (pss_cons (ps_set (i := 7) scFeed.nd rfl (Or.inl rfl) (pe_op op_mod (pe_callTy call_int1 (by rfl) mInt (by decide +kernel) (pa_cons (pe_op op_add (pe_op op_mul (pv 7) pe_int) (pv 8)) pa_nil)) pe_int))
 (pss_cons (ps_set (i := 8) scFeed.nd rfl (Or.inl rfl) (pe_op op_mod (pe_callTy call_int1 (by rfl) mInt (by decide +kernel) (pa_cons (pe_op op_add (pe_op op_add (pe_op op_mul (pv 8) pe_int) (pe_op op_mul (pv 7) (pv 7))) (pv 6)) pa_nil)) pe_int))
 (pss_one (ps_expr (pe_bm PySem.F.plainAttrs_list PySem.F.slot_list_append PySem.F.type_list_append mt_append (pv 1) (pa_cons (pe_op op_add (pv 7) (pv 8)) pa_nil))))))))))))))))
 (pss_one (ps_ret (pv 1)))))), ?_⟩
  refine ⟨by show 1 ≤ sizeLine; decide, fun l hl => ?_⟩
  have g1 : Same H (upd H l (.lst [.int 1])) := same_at (Same.refl H) hl _
  refine ⟨_, rfl, 63, rfl, a, _, rfl, g1.seq hS, fun p hp => ?_⟩
  have hp0 : H p = none := g1.free hp
  have npl : p ≠ l := fun e => by
    rw [e, upd_same] at hp
    cases hp
  have g2 : Same H (upd (upd H l (.lst [.int 1])) p (.lst (cutV (ns.map V.int) none (some 63)))) := same_at g1 hp0 _
  have hcl : (cutV (ns.map V.int) none (some 63)).length ≤ 63 := by
    have z := cutV_length (ns.map V.int) none (some 63)
    rw [List.length_map] at z
    omega
  refine ⟨p, rfl, ⟨_, SqL.of upd_same⟩, for_list (K := K) (a := p) (xs := cutV (ns.map V.int) none (some 63)) (fun i σ H' => ∃ (r : List Int) (v3 v4 v5 v6 v7 v8 : Option V),
      σ = [some (.ref a), some (.ref l), some (.int (i : Int)), v3, v4, v5, v6, v7, v8] ∧ Same H H' ∧ H' p = some (.lst (cutV (ns.map V.int) none (some 63))) ∧ H' l = some (.lst ((1 :: r).map V.int)) ∧ r.length ≤ 96 * i)
      ⟨[], none, none, none, none, none, none, rfl, g2, upd_same, by rw [upd_ne npl.symm, upd_same]; rfl, Nat.le_refl _⟩ (fun i σ H' _ ⟨_, _, _, _, _, _, _, _, _, hP, _⟩ => SqL.of hP) ?_ ?_⟩
  · rintro i y σ H' hi ⟨r, v3, v4, v5, v6, v7, v8, rfl, gs, hP, hL, hlen⟩
    have hi63 : i < 63 := Nat.lt_of_lt_of_le (List.getElem?_eq_some_iff.mp hi).1 hcl
    obtain ⟨u, rfl⟩ := cut_int hi
    refine ⟨_, rfl, _, _, rfl, rfl, ?_⟩
    refine ⟨_, rfl, u, rfl, ?_⟩
    refine ⟨_, rfl, _, _, rfl, rfl, ⟨by decide, by decide, by decide⟩, _, _, rfl, rfl, _, rfl, ?_⟩
    refine ite2 (fun _ => ?_) (fun hsm => ?_)
    · refine ⟨_, rfl, _, _, rfl, rfl, ⟨by decide, by decide, by decide⟩, _, _, rfl, rfl, ?_⟩
      refine ⟨96, rfl, by decide, by decide, for_range (n := 96) (fun j σ H2 => ∃ (r2 : List Int) (hp : Int) (v6' : Option V),
        σ = [some (.ref a), some (.ref l), some (.int ((i : Int) + 1)), some (.int u), some (.int (if u < 0 then -u else u)), some (.int hp), v6', v7, v8] ∧ Same H H2 ∧ H2 p = some (.lst (cutV (ns.map V.int) none (some 63))) ∧ H2 l = some (.lst ((1 :: r2).map V.int)) ∧ r2.length ≤ 96 * i + j)
        ⟨r, _, v6, rfl, gs, hP, hL, hlen⟩ ?_ ?_⟩
      · rintro j σ H2 hj ⟨r2, hp, v6', rfl, gs2, hP2, hL2, hlen2⟩
        refine ⟨_, rfl, _, _, rfl, rfl, _, rfl, ?_⟩
        refine ite2 (fun _ => ?_) (fun _ => ?_)
        · refine ⟨_, rfl, .inl ⟨rfl, _, SqL.of hL2⟩, _, rfl, .inl ⟨_, rfl, _, _, rfl, rfl, (by show (0 : Int) < 840; decide), ?_⟩⟩
          refine ⟨l, _, _, rfl, rfl, hL2, ?_, ?_⟩
          · rw [List.length_map, List.length_cons]
            exact six_k (by omega)
          · refine ⟨_, rfl, _, _, rfl, rfl, ⟨by decide, by decide⟩, ?_⟩
            refine ⟨r2 ++ [hp % 840], _, _, rfl, same_at gs2 hl _, by rw [upd_ne npl]; exact hP2, by rw [upd_same, app_int], ?_⟩
            rw [List.length_append, List.length_singleton]
            omega
        · exact ⟨r2, hp, _, rfl, gs2, hP2, hL2, by omega⟩
      · rintro σ H2 ⟨r2, hp, v6', rfl, gs2, hP2, hL2, hlen2⟩
        exact ⟨r2, _, _, _, _, _, _, rfl, gs2, hP2, hL2, by omega⟩
    · refine ⟨_, rfl, _, _, rfl, rfl, .inr ⟨by decide, by decide⟩, _, rfl, _, _, rfl, rfl, .inr ⟨by decide, by decide⟩, _, _, rfl, rfl, .inl ⟨_, rfl, _, _, rfl, rfl, (by show (0 : Int) < 90001; decide), ?_⟩⟩
      refine ⟨_, rfl, _, rfl, _, rfl, _, _, rfl, rfl, .inl ⟨by omega, by omega⟩, _, _, rfl, rfl, _, _, rfl, rfl, .inl ⟨_, rfl, _, _, rfl, rfl, (by show (0 : Int) < 100003; decide), ?_⟩⟩
      refine ⟨_, rfl, _, _, rfl, rfl, _, rfl, ?_⟩
      refine ite2 (fun _ => ⟨_, rfl, _, _, rfl, rfl, ?_⟩) (fun _ => ?_)
      all_goals
        refine ⟨9, rfl, by decide, by decide, for_range (n := 9) (fun j σ H2 => ∃ (r2 : List Int) (hg lw : Int) (v6' : Option V),
          σ = [some (.ref a), some (.ref l), some (.int ((i : Int) + 1)), some (.int u), some (.int (if u < 0 then -u else u)), v5, v6', some (.int hg), some (.int lw)] ∧ 0 ≤ hg ∧ hg < 90001 ∧ Same H H2 ∧ H2 p = some (.lst (cutV (ns.map V.int) none (some 63))) ∧ H2 l = some (.lst ((1 :: r2).map V.int)) ∧ r2.length ≤ 96 * i + j)
          ⟨r, _, _, v6, rfl, (mod_lt (by decide)).1, (mod_lt (by decide)).2, gs, hP, hL, hlen⟩ ?_ ?_⟩
        · rintro j σ H2 hj ⟨r2, hg, lw, v6', rfl, hg0, hg1, gs2, hP2, hL2, hlen2⟩
          refine ⟨_, rfl, _, _, rfl, rfl, .inr ⟨by decide, by decide⟩, _, rfl, _, _, rfl, rfl, .inl ⟨_, rfl, _, _, rfl, rfl, (by show (0 : Int) < 90001; decide), ?_⟩⟩
          have m1 := mod_lt (a := hg * 331 + lw) (m := 90001) (by decide)
          refine ⟨_, rfl, _, _, rfl, rfl, .inr ⟨by decide, by decide⟩, _, rfl, _, rfl, _, _, rfl, rfl, .inl ⟨by omega, by omega⟩, _, _, rfl, rfl, _, rfl, _, _, rfl, rfl, .inl ⟨_, rfl, _, _, rfl, rfl, (by show (0 : Int) < 100003; decide), ?_⟩⟩
          refine ⟨_, rfl, .inl ⟨rfl, _, SqL.of hL2⟩, _, rfl, _, rfl, _, _, rfl, rfl, l, _, _, rfl, rfl, hL2, ?_, ?_⟩
          · rw [List.length_map, List.length_cons]
            exact six_k (by omega)
          · refine ⟨r2 ++ [_], _, _, _, rfl, m1.1, m1.2, same_at gs2 hl _, by rw [upd_ne npl]; exact hP2, by rw [upd_same, app_int], ?_⟩
            rw [List.length_append, List.length_singleton]
            omega
        · rintro σ H2 ⟨r2, hg, lw, v6', rfl, hg0, hg1, gs2, hP2, hL2, hlen2⟩
          exact ⟨r2, _, _, _, _, _, _, rfl, gs2, hP2, hL2, by omega⟩
  · rintro σ H' ⟨r, v3, v4, v5, v6, v7, v8, rfl, gs, hP, hL, hlen⟩
    exact ⟨_, rfl, q l H' r gs hl hL (by omega)⟩
theorem scPick : FnScope ["_law_feed_here", "_law_many", "_law_place"] ["_law_feed_here", "_law_many"] (defScope sPick) :=
  ⟨rfl, rfl, rfl, by decide +kernel, rfl, by decide +kernel, by decide +kernel⟩
theorem ok_pick {f : Addr} {fd : FuncData} (F : Fun K "_law_pick" "_law_pick" sPick f fd) (mLen : mg "len" = none) (mInt : mg "int" = none) :
    FnOk P w K mg base CX0 1 f fd ["_law_feed_here", "_law_many"] spPick := by
  refine F.ok scPick (fun vs H Q E h => ?_) (fun cdv A outer s H vs Q E hr h => ?_)
  · obtain ⟨l, p, m, r, rfl, _⟩ := h
    rfl
  obtain ⟨l, p, m, r, rfl, hm, hp, hlen, hL, q⟩ := h
  refine ⟨_, (pss_cons (ps_set (i := 2) scPick.nd rfl (Or.inl rfl) (pe_ix ix_list (pv 0) pe_int (fun _ _ => rfl)))
 (pss_cons (ps_if (pt_cmpR op_ge (pv 2) (pe_callB call_len_seq (by rfl) mLen PySem.boot_len (pa_cons (pv 0) pa_nil)) (nomark _)) (pss_one (ps_ret pe_int)) pss_nil)
 (pss_cons (ps_asg (pe_op op_add (pv 2) pe_int) (pg_sub (pv 0) pe_int set_list))
 (pss_one (ps_ret (pe_op op_mod (pe_callTy call_int1 (by rfl) mInt (by decide +kernel) (pa_cons (pe_ix ix_list (pv 0) (pv 2) (fun _ _ => rfl)) pa_nil)) (pv 1))))))), ?_⟩
  refine ⟨_, rfl, l, _, _, _, rfl, rfl, SqL.of hL, atI_nat (j := 0) rfl, ?_⟩
  refine ⟨_, rfl, _, rfl, l, _, rfl, .inl (SqL.of hL), _, _, rfl, rfl, _, rfl, ?_⟩
  refine ite2 (fun _ => ?_) (fun c => ?_)
  · have z := q 0 p (Int.le_refl 0) hm hp
    rw [upd_id hL] at z
    exact z
  · have c' : ¬ p ≥ ((((p :: r).map V.int).length : Nat) : Int) := of_decide_eq_false (Bool.eq_false_iff.mpr c)
    rw [List.length_map, List.length_cons] at c'
    have hp2 : p.toNat < (p :: r).length := by
      rw [List.length_cons]
      omega
    obtain ⟨x, hx⟩ : ∃ x, (p :: r)[p.toNat]? = some x := ⟨_, List.getElem?_eq_getElem hp2⟩
    have hx2 : atI (((p + 1) :: r).map V.int) p = some (V.int x) := by
      have e : p = ((p.toNat : Nat) : Int) := by omega
      rw [e]
      refine atI_nat ?_
      have k : ∃ k, p.toNat = k + 1 := ⟨p.toNat - 1, by omega⟩
      obtain ⟨k, ek⟩ := k
      rw [ek] at hx ⊢
      simp only [List.getElem?_cons_succ, List.map_cons, List.getElem?_map] at hx ⊢
      rw [hx]
      rfl
    refine ⟨_, rfl, _, _, rfl, rfl, _, rfl, l, _, 0, 0, rfl, rfl, hL, first_ix, ?_⟩
    refine ⟨_, rfl, _, rfl, l, _, _, _, rfl, rfl, SqL.of upd_same, hx2, .inl ⟨_, rfl, _, rfl, _, _, rfl, rfl, hm, ?_⟩⟩
    exact q (x % m) (p + 1) (mod_lt hm).1 (mod_lt hm).2 (by omega)
end
end Hs
set_option maxHeartbeats 4000000
namespace Hs
open PySem L2
/-! ## data without lists; what stands while exceptions are filled -/
def Keeps (H H' : Hp) : Prop := ∀ b o, H b = some o → (∀ φ, o ≠ .ext φ) → H' b = some o
theorem Keeps.of {H H' : Hp} (s : Same H H') : Keeps H H' := fun b o e _ => s b o e
theorem Keeps.trans {H H1 H2 : Hp} (a : Keeps H H1) (b : Keeps H1 H2) : Keeps H H2 := fun c o e n => b c o (a c o e n) n
theorem lst_ext {xs : List V} : ∀ φ, HO.lst xs ≠ .ext φ := fun _ z => nomatch z
theorem tup_ext {xs : List V} : ∀ φ, HO.tup xs ≠ .ext φ := fun _ z => nomatch z
theorem frz_ext {o : Obj} {u : HO} : ∀ φ, HO.frz o u ≠ .ext φ := fun _ z => nomatch z
theorem Keeps.sqT {K : PySem.W.Frag} {H H' : Hp} {a : Addr} {xs : List V} (g : Keeps H H') (h : SqT K H a xs) : SqT K H' a xs := by
  rcases h with (e | ⟨o, e⟩) | k
  · exact .inl (.inl (g _ _ e tup_ext))
  · exact .inl (.inr ⟨o, g _ _ e frz_ext⟩)
  · exact .inr k
theorem Keeps.sqL {K : PySem.W.Frag} {H H' : Hp} {a : Addr} {xs : List V} (g : Keeps H H') (h : SqL K H a xs) : SqL K H' a xs := by
  rcases h with (e | ⟨o, e⟩) | k
  · exact .inl (.inl (g _ _ e lst_ext))
  · exact .inl (.inr ⟨o, g _ _ e frz_ext⟩)
  · exact .inr k
mutual
theorem Dp.keep {K : PySem.W.Frag} {H H' : Hp} (g : Keeps H H') : ∀ (d : PyData) (v : V), Dp K H v d → Dp K H' v d
  | .none, _, h => by
    cases h
    exact .non
  | .bool b, _, h => by
    cases h
    exact .bl b
  | .int i, _, h => by
    cases h
    exact .int i
  | .str x, _, h => by
    cases h
    exact .str x
  | .list ds, _, h => by
    cases h with
    | lst hs ha => exact .lst (g.sqL hs) (DpAll.keep g ds _ ha)
  | .tuple ds, _, h => by
    cases h with
    | tup hs ha => exact .tup (g.sqT hs) (DpAll.keep g ds _ ha)
  | .dict _, _, h => nomatch h
theorem DpAll.keep {K : PySem.W.Frag} {H H' : Hp} (g : Keeps H H') : ∀ (ds : List PyData) (vs : List V), DpAll K H vs ds → DpAll K H' vs ds
  | [], _, h => by
    cases h
    exact .nil
  | d :: ds, _, h => by
    cases h with
    | cons h1 h2 => exact .cons (Dp.keep g d _ h1) (DpAll.keep g ds _ h2)
end
theorem DpAll.snoc {K : PySem.W.Frag} {H : Hp} {d : PyData} {v : V} : ∀ {ds : List PyData} {vs : List V}, DpAll K H vs ds → Dp K H v d → DpAll K H (vs ++ [v]) (ds ++ [d])
  | [], _, h, k => by
    cases h
    exact .cons k .nil
  | _ :: _, _, h, k => by
    cases h with
    | cons h1 h2 => exact .cons h1 (DpAll.snoc h2 k)
theorem DpAll.at {K : PySem.W.Frag} {H : Hp} : ∀ {ds : List PyData} {vs : List V} {i : Nat} {v : V}, DpAll K H vs ds → vs[i]? = some v → ∃ d, ds[i]? = some d ∧ Dp K H v d
  | _, _, i, _, .nil, e => by simp at e
  | _, _, 0, _, .cons h _, e => by
    simp at e
    subst e
    exact ⟨_, rfl, h⟩
  | _, _, i + 1, _, .cons _ t, e => by
    obtain ⟨d, e1, e2⟩ := DpAll.at (i := i) t (by simpa using e)
    exact ⟨d, by simpa using e1, e2⟩
theorem DpAll.len {K : PySem.W.Frag} {H : Hp} : ∀ {ds : List PyData} {vs : List V}, DpAll K H vs ds → vs.length = ds.length
  | _, _, .nil => rfl
  | _, _, .cons _ t => congrArg (· + 1) (DpAll.len t)
/-- ints, texts, and tuples of such, nested below n -/
inductive Flat : Nat → PyData → Prop where
  | int (n : Nat) (i : Int) : Flat n (.int i)
  | str (n : Nat) (x : Str) : Flat n (.str x)
  | tup (n : Nat) (ds : List PyData) (s : ds.length ≤ 1000) (h : ∀ d ∈ ds, Flat n d) : Flat (n + 1) (.tuple ds)
/-- tuples and locked things stay -/
def KeepsT (H H' : Hp) : Prop := (∀ b xs, H b = some (.tup xs) → H' b = some (.tup xs)) ∧ ∀ b o u, H b = some (.frz o u) → H' b = some (.frz o u)
theorem KeepsT.of {H H' : Hp} (s : Same H H') : KeepsT H H' := ⟨fun b xs e => s b _ e, fun b o u e => s b _ e⟩
theorem KeepsT.trans {H H1 H2 : Hp} (a : KeepsT H H1) (b : KeepsT H1 H2) : KeepsT H H2 := ⟨fun c xs e => b.1 c xs (a.1 c xs e), fun c o u e => b.2 c o u (a.2 c o u e)⟩
theorem KeepsT.at_lst {H : Hp} {D : Addr} {ys : List V} (e : H D = some (.lst ys)) (o : HO) : KeepsT H (upd H D o) :=
  ⟨fun b xs q => by rw [upd_ne (ne_of q e (fun z => nomatch z))]; exact q, fun b o' u q => by rw [upd_ne (ne_of q e (fun z => nomatch z))]; exact q⟩
theorem KeepsT.at_ext {H : Hp} {D : Addr} {φ : Heap → Prop} (e : H D = some (.ext φ)) (o : HO) : KeepsT H (upd H D o) :=
  ⟨fun b xs q => by rw [upd_ne (ne_of q e (fun z => nomatch z))]; exact q, fun b o' u q => by rw [upd_ne (ne_of q e (fun z => nomatch z))]; exact q⟩
theorem KeepsT.at_new {H : Hp} {D : Addr} (e : H D = none) (o : HO) : KeepsT H (upd H D o) :=
  ⟨fun b xs q => by rw [upd_ne (ne_of_none q e)]; exact q, fun b o' u q => by rw [upd_ne (ne_of_none q e)]; exact q⟩
theorem KeepsT.sqT {K : PySem.W.Frag} {H H' : Hp} {a : Addr} {xs : List V} (g : KeepsT H H') (h : SqT K H a xs) : SqT K H' a xs := by
  rcases h with (e | ⟨o, e⟩) | k
  · exact .inl (.inl (g.1 _ _ e))
  · exact .inl (.inr ⟨o, g.2 _ _ _ e⟩)
  · exact .inr k
theorem DpAll.map {K : PySem.W.Frag} {H H' : Hp} : ∀ {ds : List PyData} {vs : List V}, (∀ d ∈ ds, ∀ v, Dp K H v d → Dp K H' v d) → DpAll K H vs ds → DpAll K H' vs ds
  | _, _, _, .nil => .nil
  | _, _, f, .cons h t => .cons (f _ List.mem_cons_self _ h) (DpAll.map (fun d m => f d (List.mem_cons_of_mem _ m)) t)
theorem Flat.keep {K : PySem.W.Frag} {H H' : Hp} (g : KeepsT H H') {n : Nat} {d : PyData} (f : Flat n d) : ∀ v, Dp K H v d → Dp K H' v d := by
  induction f with
  | int n i =>
    intro v h
    cases h
    exact .int i
  | str n x =>
    intro v h
    cases h
    exact .str x
  | tup n ds s _ ih =>
    intro v h
    cases h with
    | tup hs ha => exact .tup (g.sqT hs) (DpAll.map ih ha)
/-- kept(value), n calls deep: the same data -/
def spKept (K : PySem.W.Frag) (n : Nat) : Sp := fun vs H Q _ => ∃ (v : V) (d : PyData) (m : Nat), n = m + 1 ∧ vs = [v] ∧ Dp K H v d ∧ Flat m d ∧ ∀ (v2 : V) (H2 : Hp), Same H H2 → Dp K H2 v2 d → Q v2 H2
def topK (i : Nat) : Stmt := PySem.Challenge.pw_hiddensorts_k94_errors_of_one_class.main.body.getD i (.Pass ⟨0, 0, 0, 0⟩)
abbrev sKept : Stmt := topK 1
theorem same_new {H H' : Hp} {p : Addr} (s : Same H H') (h : H' p = none) (o : HO) : Same H (upd H' p o) := fun b u q => by
  rw [upd_ne (ne_of_none (s b u q) h)]
  exact s b u q
theorem kit_no {K : PySem.W.Frag} {T : String} (h1 : kitB T "list" = some false) (h2 : kitB T "tuple" = some false) : PySem.W.kitAny K (.type T) [.type "list", .type "tuple"] = some false :=
  kitAny_cons (b := false) (kit_ty h1) (fun _ => kitAny_cons (b := false) (kit_ty h2) (fun _ => rfl) (fun z => nomatch z)) (fun z => nomatch z)
theorem kit_yes {K : PySem.W.Frag} : PySem.W.kitAny K (.type "tuple") [.type "list", .type "tuple"] = some true :=
  kitAny_cons (b := false) (kit_ty (by decide +kernel)) (fun _ => kitAny_cons (b := true) (kit_ty (by decide +kernel)) (fun z => nomatch z) (fun _ => rfl)) (fun z => nomatch z)
theorem tyT {K : PySem.W.Frag} {H : Hp} {a : Addr} {xs : List V} (h : SqT K H a xs) : TyX K H (.ref a) (.type "tuple") := by
  rcases h with (e | ⟨o, e⟩) | ⟨o, its, n, e, c, _⟩
  · exact .base (.tup e)
  · exact .fTuple e
  · exact .kTuple e c
theorem list_b : bootBuiltins "list" = some (.type "list") := by decide +kernel
theorem tuple_b : bootBuiltins "tuple" = some (.type "tuple") := by decide +kernel
theorem isi_b : bootBuiltins "isinstance" = some (.builtin "isinstance") := by decide +kernel
section
variable {P : Program} {w : World} {K : PySem.W.Frag} {mg : Str → Option Value} {base : Heap}
theorem scKept : FnScope ["value", "entry"] ["value"] (defScope sKept) := ⟨rfl, rfl, rfl, by decide +kernel, rfl, by decide +kernel, by decide +kernel⟩
theorem kept_none {f : Addr} {fd : FuncData} : FnOk P w K mg base CX0 0 f fd ["value"] (spKept K 0) := by
  have no : ∀ vs H Q E, ¬ spKept K 0 vs H Q E := fun vs H Q E h => by
    obtain ⟨_, _, _, e, _⟩ := h
    cases e
  exact ⟨fun vs H Q E h => absurd h (no vs H Q E), fun A outer s H args us vs Q E _ _ _ _ h => absurd h (no vs H Q E)⟩
theorem kept_more {f : Addr} {fd : FuncData} {n : Nat} (F : Fun K "kept" "kept" sKept f fd) (G : FnOk P w K mg base CX0 n f fd ["value"] (spKept K n)) (b : Binds K fd ["value"] []) (mF : mg "kept" = some (.ref f)) (mIsi : mg "isinstance" = none) (mList : mg "list" = none) (mTuple : mg "tuple" = none) :
    FnOk P w K mg base CX0 (n + 1) f fd ["value"] (spKept K (n + 1)) := by
  refine F.ok scKept (fun vs H Q E h => ?_) (fun cdv A outer s H vs Q E hr h => ?_)
  · obtain ⟨v, d, m, _, rfl, _⟩ := h
    rfl
  obtain ⟨v, d, m, em, rfl, hv, hd, q⟩ := h
  obtain rfl : n = m := Nat.succ.inj em
  refine ⟨_, pss_cons (ps_if (pt_val (pe_callB call_isiT (by rfl) mIsi isi_b (pa_cons (pv 0) (pa_cons (pe_tup (pa_cons (pe_bltn (v := .ty "list") rfl mList list_b rfl) (pa_cons (pe_bltn (v := .ty "tuple") rfl mTuple tuple_b rfl) pa_nil))) pa_nil))))
      (pss_one (ps_ret (pe_tupleOf rfl mTuple (pe_lc (own := [("entry", 1)]) (g := gName 1) (tt := tYes) rfl scKept.nd (pi_tup (pv 0)) (blkOk_by (N := ["value", "entry"]) (sc := defScope sKept) (by decide +kernel)) (fun _ _ _ _ _ => pg_name (i := 1) scKept.nd rfl (Or.inl rfl)) (fun _ _ _ _ _ => pts_nil)
        (fun _ _ _ _ _ => pe_call G hr rfl mF F.kp b .nil pass0 (pa_cons (pv 1) pa_nil)))))) pss_nil)
    (pss_one (ps_ret (pv 0))), ?_⟩
  cases hd with
  | int _ i =>
    cases hv
    refine ⟨_, rfl, by show 2 ≤ sizeLine; decide, fun T hT => ⟨_, T, _, _, _, false, rfl, upd_same, .cons (.ty _) (.cons (.ty _) .nil), .base (.int i), kit_no (by decide +kernel) (by decide +kernel), _, rfl, ?_⟩⟩
    exact ⟨_, rfl, q _ _ (same_new (Same.refl H) hT _) (.int i)⟩
  | str _ x =>
    cases hv
    refine ⟨_, rfl, by show 2 ≤ sizeLine; decide, fun T hT => ⟨_, T, _, _, _, false, rfl, upd_same, .cons (.ty _) (.cons (.ty _) .nil), .base (.str x), kit_no (by decide +kernel) (by decide +kernel), _, rfl, ?_⟩⟩
    exact ⟨_, rfl, q _ _ (same_new (Same.refl H) hT _) (.str x)⟩
  | tup k ds small each =>
    cases hv with
    | @tup a xs _ hS hA =>
      refine ⟨_, rfl, by show 2 ≤ sizeLine; decide, fun T hT => ?_⟩
      have g1 : Same H (upd H T (.tup [.ty "list", .ty "tuple"])) := same_new (Same.refl H) hT _
      have hS1 := (Keeps.of g1).sqT hS
      refine ⟨_, T, _, _, _, true, rfl, upd_same, .cons (.ty _) (.cons (.ty _) .nil), tyT hS1, kit_yes, _, rfl, ?_⟩
      refine ⟨_, rfl, a, rfl, ⟨_, hS1⟩, fun D hD => ?_⟩
      have g2 : Same H (upd (upd H T (.tup [.ty "list", .ty "tuple"])) D (.lst [])) := same_new g1 hD _
      have hlen := DpAll.len hA
      refine lc_tup (xs := xs) (fun i H2 => ∃ acc, H2 D = some (.lst acc) ∧ acc.length = i ∧ Same H H2 ∧ DpAll K H2 acc (ds.take i)) ⟨[], upd_same, rfl, g2, .nil⟩ (fun i H2 _ ⟨_, _, _, g, _⟩ => (Keeps.of g).sqT hS) ?_ ?_
      · rintro i x H2 hi ⟨acc, hacc, hl, g, hda⟩
        obtain ⟨di, hdi, hdp⟩ := DpAll.at (DpAll.keep (Keeps.of g) ds xs hA) hi
        refine ⟨rfl, ?_⟩
        refine ⟨_, rfl, x, di, k, rfl, rfl, hdp, each di (List.mem_of_getElem? hdi), fun v2 H3 g3 hv2 => ?_⟩
        have hi2 : i < xs.length := (List.getElem?_eq_some_iff.mp hi).1
        refine ⟨acc, g3 _ _ hacc, Nat.lt_of_lt_of_le (by rw [hl]; exact Nat.lt_of_lt_of_le hi2 (by rw [hlen]; exact small)) (by decide), acc ++ [v2], upd_same, by rw [List.length_append, hl]; rfl, ?_, ?_⟩
        · have n0 : H D = none := g1.free hD
          exact fun b o e => by
            rw [upd_ne (ne_of_none e n0)]
            exact (g.trans g3) b o e
        · have et : ds.take (i + 1) = ds.take i ++ [di] := by
            rw [List.take_add_one, hdi]
            rfl
          have e3 := g3 _ _ hacc
          rw [et]
          refine DpAll.snoc (DpAll.map (fun d m v h => (each d (List.mem_of_mem_take m)).keep ((KeepsT.of g3).trans (KeepsT.at_lst e3 _)) v h) hda) ?_
          exact (each di (List.mem_of_getElem? hdi)).keep (KeepsT.at_lst e3 _) v2 hv2
      · rintro H2 ⟨acc, hacc, hl, g, hda⟩
        refine .inl ⟨D, acc, rfl, SqL.of hacc, fun p hp => ?_⟩
        refine q _ _ (same_new g hp _) (.tup (SqT.of upd_same) ?_)
        rw [List.take_of_length_le (by omega)] at hda
        exact DpAll.keep (Keeps.of (same_new (Same.refl H2) hp _)) ds acc hda
end
end Hs
set_option maxHeartbeats 4000000
namespace Hs
open PySem L2
/-- an __init__ that keeps its arguments under their own names: fs the names -/
def spIn (K : PySem.W.Frag) (C : Addr) (fs : List Str) : Sp := fun vs H Q _ => ∃ (a : Addr) (ws : List V) (ds : List PyData), vs = .ref a :: ws ∧ ws.length = fs.length ∧ H a = some (exo a C none) ∧ DpAll K H ws ds ∧ (∀ d ∈ ds, Flat 3 d) ∧
  ∀ (H2 : Hp) (dx : Addr) (kvs : List (Str × V)), (∀ b o, b ≠ a → H b = some o → H2 b = some o) → H2 a = some (exo a C (some dx)) → H2 dx = some (exd dx kvs) → (∀ f d, (fs.zip ds).lookup f = some d → ∃ v, kvs.lookup f = some v ∧ Dp K H2 v d) → Q .non H2
theorem look1 {α : Type} (f g : Str) (y : α) (r : List (Str × α)) : ((f, y) :: r).lookup g = if g = f then some y else r.lookup g := by
  by_cases h : g = f
  · subst h
    simp [List.lookup]
  · have e : (g == f) = false := by simpa using h
    rw [if_neg h]
    simp [List.lookup, e]
theorem fin1 {K : PySem.W.Frag} {H H1 : Hp} {a dx C : Addr} {f : Str} {v : V} {d : PyData} {Q : Hp → Prop} (g : Same H H1) (ha : H a = some (exo a C none)) (hn : H1 dx = none) (ne : dx ≠ a) (hv : Dp K H1 v d) (fl : Flat 3 d)
    (q : ∀ (H2 : Hp) (dx : Addr) (kvs : List (Str × V)), (∀ b o, b ≠ a → H b = some o → H2 b = some o) → H2 a = some (exo a C (some dx)) → H2 dx = some (exd dx kvs) → (∀ f' d', ([f].zip [d]).lookup f' = some d' → ∃ v, kvs.lookup f' = some v ∧ Dp K H2 v d') → Q H2) :
    Q (upd (upd H1 dx (exd dx [(f, v)])) a (exo a C (some dx))) := by
  refine q _ dx [(f, v)] (fun b o hb e => ?_) upd_same (by rw [upd_ne ne, upd_same]) fun f2 d2 e => ?_
  · rw [upd_ne hb, upd_ne (ne_of_none (g b o e) hn)]
    exact g b o e
  · have e1 : ([(f, d)] : List (Str × PyData)).lookup f2 = some d2 := e
    rw [look1] at e1
    by_cases h : f2 = f
    · rw [if_pos h] at e1
      cases e1
      refine ⟨v, by rw [look1, if_pos h], fl.keep ((KeepsT.at_new hn _).trans (KeepsT.at_ext (H := upd H1 dx (exd dx [(f, v)])) (D := a) (by rw [upd_ne ne.symm]; exact g _ _ ha) _)) v hv⟩
    · rw [if_neg h] at e1
      cases e1
theorem fin2 {K : PySem.W.Frag} {H H1 H3 : Hp} {a dx C : Addr} {f1 f2 : Str} {v1 v2 : V} {d1 d2 : PyData} {Q : Hp → Prop} (nf : ¬ f2 = f1) (g : Same H H1) (ha : H a = some (exo a C none)) (hn : H1 dx = none) (ne : dx ≠ a) (hv1 : Dp K H1 v1 d1) (fl1 : Flat 3 d1)
    (g3 : Same (upd (upd H1 dx (exd dx [(f1, v1)])) a (exo a C (some dx))) H3) (hv2 : Dp K H3 v2 d2) (fl2 : Flat 3 d2)
    (q : ∀ (H2 : Hp) (dx : Addr) (kvs : List (Str × V)), (∀ b o, b ≠ a → H b = some o → H2 b = some o) → H2 a = some (exo a C (some dx)) → H2 dx = some (exd dx kvs) → (∀ f' d', ([f1, f2].zip [d1, d2]).lookup f' = some d' → ∃ v, kvs.lookup f' = some v ∧ Dp K H2 v d') → Q H2) :
    Q (upd H3 dx (exd dx [(f2, v2), (f1, v1)])) := by
  have at_dx : H3 dx = some (exd dx [(f1, v1)]) := g3 _ _ (by rw [upd_ne ne, upd_same])
  have at_a : H3 a = some (exo a C (some dx)) := g3 _ _ upd_same
  refine q _ dx [(f2, v2), (f1, v1)] (fun b o hb e => ?_) (by rw [upd_ne ne.symm]; exact at_a) upd_same fun f3 d3 e => ?_
  · have nb : b ≠ dx := ne_of_none (g b o e) hn
    rw [upd_ne nb]
    refine g3 _ _ ?_
    rw [upd_ne hb, upd_ne nb]
    exact g b o e
  · have e1 : ([(f1, d1), (f2, d2)] : List (Str × PyData)).lookup f3 = some d3 := e
    rw [look1, look1] at e1
    by_cases h : f3 = f1
    · rw [if_pos h] at e1
      cases e1
      refine ⟨v1, by rw [look1, if_neg (fun z => nf (z.symm.trans h)), look1, if_pos h], fl1.keep ((KeepsT.at_new hn _).trans ((KeepsT.at_ext (H := upd H1 dx (exd dx [(f1, v1)])) (D := a) (by rw [upd_ne ne.symm]; exact g _ _ ha) (exo a C (some dx))).trans ((KeepsT.of g3).trans (KeepsT.at_ext at_dx _)))) v1 hv1⟩
    · rw [if_neg h] at e1
      by_cases h2 : f3 = f2
      · rw [if_pos h2] at e1
        cases e1
        exact ⟨v2, by rw [look1, if_pos h2], fl2.keep (KeepsT.at_ext at_dx _) v2 hv2⟩
      · rw [if_neg h2] at e1
        cases e1
section
variable {P : Program} {w : World} {K : PySem.W.Frag} {mg : Str → Option Value} {base : Heap}
theorem scI_BadLot : FnScope ["self", "place"] ["self", "place"] (defScope (inClass (topK 7) 0)) := ⟨rfl, rfl, rfl, by decide +kernel, rfl, by decide +kernel, by decide +kernel⟩
theorem in_BadLot {f C : Addr} {fd : FuncData} (F : Fun K "__init__" "BadLot.__init__" (inClass (topK 7) 0) f fd) (T : Exn K C) (n1 : PySem.W.findIn K (.ref C) "place" = some none) : FnOk P w K mg base CX0 5 f fd ["self", "place"] (spIn K C ["place"]) := by
  refine F.ok scI_BadLot (fun vs H Q E h => ?_) (fun cdv A outer s H vs Q E hr h => ?_)
  · obtain ⟨a, ws, ds, rfl, hl, _⟩ := h
    exact congrArg (· + 1) hl
  obtain ⟨a, ws, ds, rfl, hl, ha, hda, fl, q⟩ := h
  refine ⟨_, pss_one (ps_put (pv 0) (pv 1)), ?_⟩
  match ws, hl with
  | [v1], _ =>
    cases hda with
    | @cons _ _ d1 _ h1 t1 =>
      cases t1
      refine ⟨_, rfl, _, rfl, a, C, rfl, T, n1, .inl ⟨ha, fun dx hn ne => ?_⟩⟩
      exact fin1 (Q := fun H2 => Q .non H2) (Same.refl H) ha hn ne h1 (fl d1 List.mem_cons_self) q
theorem scI_BadTable : FnScope ["self", "place"] ["self", "place"] (defScope (inClass (topK 9) 0)) := ⟨rfl, rfl, rfl, by decide +kernel, rfl, by decide +kernel, by decide +kernel⟩
theorem in_BadTable {f C : Addr} {fd : FuncData} (F : Fun K "__init__" "BadTable.__init__" (inClass (topK 9) 0) f fd) (T : Exn K C) (n1 : PySem.W.findIn K (.ref C) "place" = some none) : FnOk P w K mg base CX0 5 f fd ["self", "place"] (spIn K C ["place"]) := by
  refine F.ok scI_BadTable (fun vs H Q E h => ?_) (fun cdv A outer s H vs Q E hr h => ?_)
  · obtain ⟨a, ws, ds, rfl, hl, _⟩ := h
    exact congrArg (· + 1) hl
  obtain ⟨a, ws, ds, rfl, hl, ha, hda, fl, q⟩ := h
  refine ⟨_, pss_one (ps_put (pv 0) (pv 1)), ?_⟩
  match ws, hl with
  | [v1], _ =>
    cases hda with
    | @cons _ _ d1 _ h1 t1 =>
      cases t1
      refine ⟨_, rfl, _, rfl, a, C, rfl, T, n1, .inl ⟨ha, fun dx hn ne => ?_⟩⟩
      exact fin1 (Q := fun H2 => Q .non H2) (Same.refl H) ha hn ne h1 (fl d1 List.mem_cons_self) q
theorem scI_BadSingle : FnScope ["self", "look"] ["self", "look"] (defScope (inClass (topK 10) 0)) := ⟨rfl, rfl, rfl, by decide +kernel, rfl, by decide +kernel, by decide +kernel⟩
theorem in_BadSingle {f C : Addr} {fd : FuncData} (F : Fun K "__init__" "BadSingle.__init__" (inClass (topK 10) 0) f fd) (T : Exn K C) (n1 : PySem.W.findIn K (.ref C) "look" = some none) : FnOk P w K mg base CX0 5 f fd ["self", "look"] (spIn K C ["look"]) := by
  refine F.ok scI_BadSingle (fun vs H Q E h => ?_) (fun cdv A outer s H vs Q E hr h => ?_)
  · obtain ⟨a, ws, ds, rfl, hl, _⟩ := h
    exact congrArg (· + 1) hl
  obtain ⟨a, ws, ds, rfl, hl, ha, hda, fl, q⟩ := h
  refine ⟨_, pss_one (ps_put (pv 0) (pv 1)), ?_⟩
  match ws, hl with
  | [v1], _ =>
    cases hda with
    | @cons _ _ d1 _ h1 t1 =>
      cases t1
      refine ⟨_, rfl, _, rfl, a, C, rfl, T, n1, .inl ⟨ha, fun dx hn ne => ?_⟩⟩
      exact fin1 (Q := fun H2 => Q .non H2) (Same.refl H) ha hn ne h1 (fl d1 List.mem_cons_self) q
theorem scI_Disagrees : FnScope ["self", "lot", "other"] ["self", "lot", "other"] (defScope (inClass (topK 11) 0)) := ⟨rfl, rfl, rfl, by decide +kernel, rfl, by decide +kernel, by decide +kernel⟩
theorem in_Disagrees {f C : Addr} {fd : FuncData} (F : Fun K "__init__" "Disagrees.__init__" (inClass (topK 11) 0) f fd) (T : Exn K C) (n1 : PySem.W.findIn K (.ref C) "lot" = some none) (n2 : PySem.W.findIn K (.ref C) "other" = some none) {fK : Addr} {fdK : FuncData} (GK : FnOk P w K mg base CX0 4 fK fdK ["value"] (spKept K 4)) (kK : PySem.W.keepIn K (.ref fK) = true) (bK : Binds K fdK ["value"] []) (mK : mg "kept" = some (.ref fK)) : FnOk P w K mg base CX0 5 f fd ["self", "lot", "other"] (spIn K C ["lot", "other"]) := by
  refine F.ok scI_Disagrees (fun vs H Q E h => ?_) (fun cdv A outer s H vs Q E hr h => ?_)
  · obtain ⟨a, ws, ds, rfl, hl, _⟩ := h
    exact congrArg (· + 1) hl
  obtain ⟨a, ws, ds, rfl, hl, ha, hda, fl, q⟩ := h
  refine ⟨_, pss_cons (ps_put (pv 0) (pe_call GK hr rfl mK kK bK .nil pass0 (pa_cons (pv 1) pa_nil))) (pss_one (ps_put (pv 0) (pe_call GK hr rfl mK kK bK .nil pass0 (pa_cons (pv 2) pa_nil)))), ?_⟩
  match ws, hl with
  | [v1, v2], _ =>
    cases hda with
    | @cons _ _ d1 _ h1 t1 =>
      cases t1 with
      | @cons _ _ d2 _ h2 t2 =>
        cases t2
        refine ⟨_, rfl, v1, d1, 3, rfl, rfl, h1, fl d1 List.mem_cons_self, fun y1 H1 g1 hy1 => ?_⟩
        refine ⟨_, rfl, a, C, rfl, T, n1, .inl ⟨g1 _ _ ha, fun dx hn ne => ?_⟩⟩
        have f2 := fl d2 (List.mem_cons_of_mem _ List.mem_cons_self)
        have h2' := f2.keep ((KeepsT.of g1).trans ((KeepsT.at_new hn (exd dx [("lot", y1)])).trans (KeepsT.at_ext (H := upd H1 dx (exd dx [("lot", y1)])) (D := a) (by rw [upd_ne ne.symm]; exact g1 _ _ ha) (exo a C (some dx))))) v2 h2
        refine ⟨_, rfl, v2, d2, 3, rfl, rfl, h2', f2, fun y2 H3 g3 hy2 => ?_⟩
        refine ⟨_, rfl, a, C, rfl, T, n2, .inr ⟨dx, _, g3 _ _ upd_same, g3 _ _ (by rw [upd_ne ne, upd_same]), (by show 1 ≤ 900; decide), ?_⟩⟩
        exact fin2 (Q := fun H2 => Q .non H2) (by decide +kernel) g1 ha hn ne hy1 (fl d1 List.mem_cons_self) g3 hy2 f2 q
theorem scI_NotSeen : FnScope ["self", "lot"] ["self", "lot"] (defScope (inClass (topK 12) 0)) := ⟨rfl, rfl, rfl, by decide +kernel, rfl, by decide +kernel, by decide +kernel⟩
theorem in_NotSeen {f C : Addr} {fd : FuncData} (F : Fun K "__init__" "NotSeen.__init__" (inClass (topK 12) 0) f fd) (T : Exn K C) (n1 : PySem.W.findIn K (.ref C) "lot" = some none) {fK : Addr} {fdK : FuncData} (GK : FnOk P w K mg base CX0 4 fK fdK ["value"] (spKept K 4)) (kK : PySem.W.keepIn K (.ref fK) = true) (bK : Binds K fdK ["value"] []) (mK : mg "kept" = some (.ref fK)) : FnOk P w K mg base CX0 5 f fd ["self", "lot"] (spIn K C ["lot"]) := by
  refine F.ok scI_NotSeen (fun vs H Q E h => ?_) (fun cdv A outer s H vs Q E hr h => ?_)
  · obtain ⟨a, ws, ds, rfl, hl, _⟩ := h
    exact congrArg (· + 1) hl
  obtain ⟨a, ws, ds, rfl, hl, ha, hda, fl, q⟩ := h
  refine ⟨_, pss_one (ps_put (pv 0) (pe_call GK hr rfl mK kK bK .nil pass0 (pa_cons (pv 1) pa_nil))), ?_⟩
  match ws, hl with
  | [v1], _ =>
    cases hda with
    | @cons _ _ d1 _ h1 t1 =>
      cases t1
      refine ⟨_, rfl, v1, d1, 3, rfl, rfl, h1, fl d1 List.mem_cons_self, fun v2 H1 g1 hv2 => ?_⟩
      refine ⟨_, rfl, a, C, rfl, T, n1, .inl ⟨g1 _ _ ha, fun dx hn ne => ?_⟩⟩
      exact fin1 (Q := fun H2 => Q .non H2) g1 ha hn ne hv2 (fl d1 List.mem_cons_self) q
theorem scI_NeverMet : FnScope ["self", "spot"] ["self", "spot"] (defScope (inClass (topK 13) 0)) := ⟨rfl, rfl, rfl, by decide +kernel, rfl, by decide +kernel, by decide +kernel⟩
theorem in_NeverMet {f C : Addr} {fd : FuncData} (F : Fun K "__init__" "NeverMet.__init__" (inClass (topK 13) 0) f fd) (T : Exn K C) (n1 : PySem.W.findIn K (.ref C) "spot" = some none) {fK : Addr} {fdK : FuncData} (GK : FnOk P w K mg base CX0 4 fK fdK ["value"] (spKept K 4)) (kK : PySem.W.keepIn K (.ref fK) = true) (bK : Binds K fdK ["value"] []) (mK : mg "kept" = some (.ref fK)) : FnOk P w K mg base CX0 5 f fd ["self", "spot"] (spIn K C ["spot"]) := by
  refine F.ok scI_NeverMet (fun vs H Q E h => ?_) (fun cdv A outer s H vs Q E hr h => ?_)
  · obtain ⟨a, ws, ds, rfl, hl, _⟩ := h
    exact congrArg (· + 1) hl
  obtain ⟨a, ws, ds, rfl, hl, ha, hda, fl, q⟩ := h
  refine ⟨_, pss_one (ps_put (pv 0) (pe_call GK hr rfl mK kK bK .nil pass0 (pa_cons (pv 1) pa_nil))), ?_⟩
  match ws, hl with
  | [v1], _ =>
    cases hda with
    | @cons _ _ d1 _ h1 t1 =>
      cases t1
      refine ⟨_, rfl, v1, d1, 3, rfl, rfl, h1, fl d1 List.mem_cons_self, fun v2 H1 g1 hv2 => ?_⟩
      refine ⟨_, rfl, a, C, rfl, T, n1, .inl ⟨g1 _ _ ha, fun dx hn ne => ?_⟩⟩
      exact fin1 (Q := fun H2 => Q .non H2) g1 ha hn ne hv2 (fl d1 List.mem_cons_self) q
theorem scI_BadText : FnScope ["self", "line"] ["self", "line"] (defScope (inClass (topK 15) 0)) := ⟨rfl, rfl, rfl, by decide +kernel, rfl, by decide +kernel, by decide +kernel⟩
theorem in_BadText {f C : Addr} {fd : FuncData} (F : Fun K "__init__" "BadText.__init__" (inClass (topK 15) 0) f fd) (T : Exn K C) (n1 : PySem.W.findIn K (.ref C) "line" = some none) : FnOk P w K mg base CX0 5 f fd ["self", "line"] (spIn K C ["line"]) := by
  refine F.ok scI_BadText (fun vs H Q E h => ?_) (fun cdv A outer s H vs Q E hr h => ?_)
  · obtain ⟨a, ws, ds, rfl, hl, _⟩ := h
    exact congrArg (· + 1) hl
  obtain ⟨a, ws, ds, rfl, hl, ha, hda, fl, q⟩ := h
  refine ⟨_, pss_one (ps_put (pv 0) (pv 1)), ?_⟩
  match ws, hl with
  | [v1], _ =>
    cases hda with
    | @cons _ _ d1 _ h1 t1 =>
      cases t1
      refine ⟨_, rfl, _, rfl, a, C, rfl, T, n1, .inl ⟨ha, fun dx hn ne => ?_⟩⟩
      exact fin1 (Q := fun H2 => Q .non H2) (Same.refl H) ha hn ne h1 (fl d1 List.mem_cons_self) q
theorem scI_BadWorld : FnScope ["self", "which", "look"] ["self", "which", "look"] (defScope (inClass (topK 18) 0)) := ⟨rfl, rfl, rfl, by decide +kernel, rfl, by decide +kernel, by decide +kernel⟩
theorem in_BadWorld {f C : Addr} {fd : FuncData} (F : Fun K "__init__" "BadWorld.__init__" (inClass (topK 18) 0) f fd) (T : Exn K C) (n1 : PySem.W.findIn K (.ref C) "which" = some none) (n2 : PySem.W.findIn K (.ref C) "look" = some none) : FnOk P w K mg base CX0 5 f fd ["self", "which", "look"] (spIn K C ["which", "look"]) := by
  refine F.ok scI_BadWorld (fun vs H Q E h => ?_) (fun cdv A outer s H vs Q E hr h => ?_)
  · obtain ⟨a, ws, ds, rfl, hl, _⟩ := h
    exact congrArg (· + 1) hl
  obtain ⟨a, ws, ds, rfl, hl, ha, hda, fl, q⟩ := h
  refine ⟨_, pss_cons (ps_put (pv 0) (pv 1)) (pss_one (ps_put (pv 0) (pv 2))), ?_⟩
  match ws, hl with
  | [v1, v2], _ =>
    cases hda with
    | @cons _ _ d1 _ h1 t1 =>
      cases t1 with
      | @cons _ _ d2 _ h2 t2 =>
        cases t2
        refine ⟨_, rfl, _, rfl, a, C, rfl, T, n1, .inl ⟨ha, fun dx hn ne => ?_⟩⟩
        have f2 := fl d2 (List.mem_cons_of_mem _ List.mem_cons_self)
        have h2' := f2.keep ((KeepsT.at_new hn (exd dx [("which", v1)])).trans (KeepsT.at_ext (H := upd H dx (exd dx [("which", v1)])) (D := a) (by rw [upd_ne ne.symm]; exact ha) (exo a C (some dx)))) v2 h2
        refine ⟨_, rfl, _, rfl, a, C, rfl, T, n2, .inr ⟨dx, _, upd_same, (by rw [upd_ne ne, upd_same]), (by show 1 ≤ 900; decide), ?_⟩⟩
        exact fin2 (Q := fun H2 => Q .non H2) (by decide +kernel) (Same.refl H) ha hn ne h1 (fl d1 List.mem_cons_self) (Same.refl _) h2' f2 q
theorem scI_BadWalk : FnScope ["self", "place"] ["self", "place"] (defScope (inClass (topK 23) 0)) := ⟨rfl, rfl, rfl, by decide +kernel, rfl, by decide +kernel, by decide +kernel⟩
theorem in_BadWalk {f C : Addr} {fd : FuncData} (F : Fun K "__init__" "BadWalk.__init__" (inClass (topK 23) 0) f fd) (T : Exn K C) (n1 : PySem.W.findIn K (.ref C) "place" = some none) : FnOk P w K mg base CX0 5 f fd ["self", "place"] (spIn K C ["place"]) := by
  refine F.ok scI_BadWalk (fun vs H Q E h => ?_) (fun cdv A outer s H vs Q E hr h => ?_)
  · obtain ⟨a, ws, ds, rfl, hl, _⟩ := h
    exact congrArg (· + 1) hl
  obtain ⟨a, ws, ds, rfl, hl, ha, hda, fl, q⟩ := h
  refine ⟨_, pss_one (ps_put (pv 0) (pv 1)), ?_⟩
  match ws, hl with
  | [v1], _ =>
    cases hda with
    | @cons _ _ d1 _ h1 t1 =>
      cases t1
      refine ⟨_, rfl, _, rfl, a, C, rfl, T, n1, .inl ⟨ha, fun dx hn ne => ?_⟩⟩
      exact fin1 (Q := fun H2 => Q .non H2) (Same.refl H) ha hn ne h1 (fl d1 List.mem_cons_self) q
theorem scI_Clash : FnScope ["self", "reason"] ["self", "reason"] (defScope (inClass (topK 24) 0)) := ⟨rfl, rfl, rfl, by decide +kernel, rfl, by decide +kernel, by decide +kernel⟩
theorem in_Clash {f C : Addr} {fd : FuncData} (F : Fun K "__init__" "Clash.__init__" (inClass (topK 24) 0) f fd) (T : Exn K C) (n1 : PySem.W.findIn K (.ref C) "reason" = some none) {fK : Addr} {fdK : FuncData} (GK : FnOk P w K mg base CX0 4 fK fdK ["value"] (spKept K 4)) (kK : PySem.W.keepIn K (.ref fK) = true) (bK : Binds K fdK ["value"] []) (mK : mg "kept" = some (.ref fK)) : FnOk P w K mg base CX0 5 f fd ["self", "reason"] (spIn K C ["reason"]) := by
  refine F.ok scI_Clash (fun vs H Q E h => ?_) (fun cdv A outer s H vs Q E hr h => ?_)
  · obtain ⟨a, ws, ds, rfl, hl, _⟩ := h
    exact congrArg (· + 1) hl
  obtain ⟨a, ws, ds, rfl, hl, ha, hda, fl, q⟩ := h
  refine ⟨_, pss_one (ps_put (pv 0) (pe_call GK hr rfl mK kK bK .nil pass0 (pa_cons (pv 1) pa_nil))), ?_⟩
  match ws, hl with
  | [v1], _ =>
    cases hda with
    | @cons _ _ d1 _ h1 t1 =>
      cases t1
      refine ⟨_, rfl, v1, d1, 3, rfl, rfl, h1, fl d1 List.mem_cons_self, fun v2 H1 g1 hv2 => ?_⟩
      refine ⟨_, rfl, a, C, rfl, T, n1, .inl ⟨g1 _ _ ha, fun dx hn ne => ?_⟩⟩
      exact fin1 (Q := fun H2 => Q .non H2) g1 ha hn ne hv2 (fl d1 List.mem_cons_self) q
theorem scI_NeedsRoot : FnScope ["self", "number"] ["self", "number"] (defScope (inClass (topK 28) 0)) := ⟨rfl, rfl, rfl, by decide +kernel, rfl, by decide +kernel, by decide +kernel⟩
theorem in_NeedsRoot {f C : Addr} {fd : FuncData} (F : Fun K "__init__" "NeedsRoot.__init__" (inClass (topK 28) 0) f fd) (T : Exn K C) (n1 : PySem.W.findIn K (.ref C) "number" = some none) {fK : Addr} {fdK : FuncData} (GK : FnOk P w K mg base CX0 4 fK fdK ["value"] (spKept K 4)) (kK : PySem.W.keepIn K (.ref fK) = true) (bK : Binds K fdK ["value"] []) (mK : mg "kept" = some (.ref fK)) : FnOk P w K mg base CX0 5 f fd ["self", "number"] (spIn K C ["number"]) := by
  refine F.ok scI_NeedsRoot (fun vs H Q E h => ?_) (fun cdv A outer s H vs Q E hr h => ?_)
  · obtain ⟨a, ws, ds, rfl, hl, _⟩ := h
    exact congrArg (· + 1) hl
  obtain ⟨a, ws, ds, rfl, hl, ha, hda, fl, q⟩ := h
  refine ⟨_, pss_one (ps_put (pv 0) (pe_call GK hr rfl mK kK bK .nil pass0 (pa_cons (pv 1) pa_nil))), ?_⟩
  match ws, hl with
  | [v1], _ =>
    cases hda with
    | @cons _ _ d1 _ h1 t1 =>
      cases t1
      refine ⟨_, rfl, v1, d1, 3, rfl, rfl, h1, fl d1 List.mem_cons_self, fun v2 H1 g1 hv2 => ?_⟩
      refine ⟨_, rfl, a, C, rfl, T, n1, .inl ⟨g1 _ _ ha, fun dx hn ne => ?_⟩⟩
      exact fin1 (Q := fun H2 => Q .non H2) g1 ha hn ne hv2 (fl d1 List.mem_cons_self) q
theorem scI_NeedsRoots : FnScope ["self", "x", "y"] ["self", "x", "y"] (defScope (inClass (topK 29) 0)) := ⟨rfl, rfl, rfl, by decide +kernel, rfl, by decide +kernel, by decide +kernel⟩
theorem in_NeedsRoots {f C : Addr} {fd : FuncData} (F : Fun K "__init__" "NeedsRoots.__init__" (inClass (topK 29) 0) f fd) (T : Exn K C) (n1 : PySem.W.findIn K (.ref C) "x" = some none) (n2 : PySem.W.findIn K (.ref C) "y" = some none) {fK : Addr} {fdK : FuncData} (GK : FnOk P w K mg base CX0 4 fK fdK ["value"] (spKept K 4)) (kK : PySem.W.keepIn K (.ref fK) = true) (bK : Binds K fdK ["value"] []) (mK : mg "kept" = some (.ref fK)) : FnOk P w K mg base CX0 5 f fd ["self", "x", "y"] (spIn K C ["x", "y"]) := by
  refine F.ok scI_NeedsRoots (fun vs H Q E h => ?_) (fun cdv A outer s H vs Q E hr h => ?_)
  · obtain ⟨a, ws, ds, rfl, hl, _⟩ := h
    exact congrArg (· + 1) hl
  obtain ⟨a, ws, ds, rfl, hl, ha, hda, fl, q⟩ := h
  refine ⟨_, pss_cons (ps_put (pv 0) (pe_call GK hr rfl mK kK bK .nil pass0 (pa_cons (pv 1) pa_nil))) (pss_one (ps_put (pv 0) (pe_call GK hr rfl mK kK bK .nil pass0 (pa_cons (pv 2) pa_nil)))), ?_⟩
  match ws, hl with
  | [v1, v2], _ =>
    cases hda with
    | @cons _ _ d1 _ h1 t1 =>
      cases t1 with
      | @cons _ _ d2 _ h2 t2 =>
        cases t2
        refine ⟨_, rfl, v1, d1, 3, rfl, rfl, h1, fl d1 List.mem_cons_self, fun y1 H1 g1 hy1 => ?_⟩
        refine ⟨_, rfl, a, C, rfl, T, n1, .inl ⟨g1 _ _ ha, fun dx hn ne => ?_⟩⟩
        have f2 := fl d2 (List.mem_cons_of_mem _ List.mem_cons_self)
        have h2' := f2.keep ((KeepsT.of g1).trans ((KeepsT.at_new hn (exd dx [("x", y1)])).trans (KeepsT.at_ext (H := upd H1 dx (exd dx [("x", y1)])) (D := a) (by rw [upd_ne ne.symm]; exact g1 _ _ ha) (exo a C (some dx))))) v2 h2
        refine ⟨_, rfl, v2, d2, 3, rfl, rfl, h2', f2, fun y2 H3 g3 hy2 => ?_⟩
        refine ⟨_, rfl, a, C, rfl, T, n2, .inr ⟨dx, _, g3 _ _ upd_same, g3 _ _ (by rw [upd_ne ne, upd_same]), (by show 1 ≤ 900; decide), ?_⟩⟩
        exact fin2 (Q := fun H2 => Q .non H2) (by decide +kernel) g1 ha hn ne hy1 (fl d1 List.mem_cons_self) g3 hy2 f2 q
theorem scI_NoFair : FnScope ["self", "x", "y"] ["self", "x", "y"] (defScope (inClass (topK 31) 0)) := ⟨rfl, rfl, rfl, by decide +kernel, rfl, by decide +kernel, by decide +kernel⟩
theorem in_NoFair {f C : Addr} {fd : FuncData} (F : Fun K "__init__" "NoFair.__init__" (inClass (topK 31) 0) f fd) (T : Exn K C) (n1 : PySem.W.findIn K (.ref C) "x" = some none) (n2 : PySem.W.findIn K (.ref C) "y" = some none) {fK : Addr} {fdK : FuncData} (GK : FnOk P w K mg base CX0 4 fK fdK ["value"] (spKept K 4)) (kK : PySem.W.keepIn K (.ref fK) = true) (bK : Binds K fdK ["value"] []) (mK : mg "kept" = some (.ref fK)) : FnOk P w K mg base CX0 5 f fd ["self", "x", "y"] (spIn K C ["x", "y"]) := by
  refine F.ok scI_NoFair (fun vs H Q E h => ?_) (fun cdv A outer s H vs Q E hr h => ?_)
  · obtain ⟨a, ws, ds, rfl, hl, _⟩ := h
    exact congrArg (· + 1) hl
  obtain ⟨a, ws, ds, rfl, hl, ha, hda, fl, q⟩ := h
  refine ⟨_, pss_cons (ps_put (pv 0) (pe_call GK hr rfl mK kK bK .nil pass0 (pa_cons (pv 1) pa_nil))) (pss_one (ps_put (pv 0) (pe_call GK hr rfl mK kK bK .nil pass0 (pa_cons (pv 2) pa_nil)))), ?_⟩
  match ws, hl with
  | [v1, v2], _ =>
    cases hda with
    | @cons _ _ d1 _ h1 t1 =>
      cases t1 with
      | @cons _ _ d2 _ h2 t2 =>
        cases t2
        refine ⟨_, rfl, v1, d1, 3, rfl, rfl, h1, fl d1 List.mem_cons_self, fun y1 H1 g1 hy1 => ?_⟩
        refine ⟨_, rfl, a, C, rfl, T, n1, .inl ⟨g1 _ _ ha, fun dx hn ne => ?_⟩⟩
        have f2 := fl d2 (List.mem_cons_of_mem _ List.mem_cons_self)
        have h2' := f2.keep ((KeepsT.of g1).trans ((KeepsT.at_new hn (exd dx [("x", y1)])).trans (KeepsT.at_ext (H := upd H1 dx (exd dx [("x", y1)])) (D := a) (by rw [upd_ne ne.symm]; exact g1 _ _ ha) (exo a C (some dx))))) v2 h2
        refine ⟨_, rfl, v2, d2, 3, rfl, rfl, h2', f2, fun y2 H3 g3 hy2 => ?_⟩
        refine ⟨_, rfl, a, C, rfl, T, n2, .inr ⟨dx, _, g3 _ _ upd_same, g3 _ _ (by rw [upd_ne ne, upd_same]), (by show 1 ≤ 900; decide), ?_⟩⟩
        exact fin2 (Q := fun H2 => Q .non H2) (by decide +kernel) g1 ha hn ne hy1 (fl d1 List.mem_cons_self) g3 hy2 f2 q
theorem scI_Turned : FnScope ["self", "x"] ["self", "x"] (defScope (inClass (topK 38) 0)) := ⟨rfl, rfl, rfl, by decide +kernel, rfl, by decide +kernel, by decide +kernel⟩
theorem in_Turned {f C : Addr} {fd : FuncData} (F : Fun K "__init__" "Turned.__init__" (inClass (topK 38) 0) f fd) (T : Exn K C) (n1 : PySem.W.findIn K (.ref C) "x" = some none) {fK : Addr} {fdK : FuncData} (GK : FnOk P w K mg base CX0 4 fK fdK ["value"] (spKept K 4)) (kK : PySem.W.keepIn K (.ref fK) = true) (bK : Binds K fdK ["value"] []) (mK : mg "kept" = some (.ref fK)) : FnOk P w K mg base CX0 5 f fd ["self", "x"] (spIn K C ["x"]) := by
  refine F.ok scI_Turned (fun vs H Q E h => ?_) (fun cdv A outer s H vs Q E hr h => ?_)
  · obtain ⟨a, ws, ds, rfl, hl, _⟩ := h
    exact congrArg (· + 1) hl
  obtain ⟨a, ws, ds, rfl, hl, ha, hda, fl, q⟩ := h
  refine ⟨_, pss_one (ps_put (pv 0) (pe_call GK hr rfl mK kK bK .nil pass0 (pa_cons (pv 1) pa_nil))), ?_⟩
  match ws, hl with
  | [v1], _ =>
    cases hda with
    | @cons _ _ d1 _ h1 t1 =>
      cases t1
      refine ⟨_, rfl, v1, d1, 3, rfl, rfl, h1, fl d1 List.mem_cons_self, fun v2 H1 g1 hv2 => ?_⟩
      refine ⟨_, rfl, a, C, rfl, T, n1, .inl ⟨g1 _ _ ha, fun dx hn ne => ?_⟩⟩
      exact fin1 (Q := fun H2 => Q .non H2) g1 ha hn ne hv2 (fl d1 List.mem_cons_self) q
theorem scI_BadDrawing : FnScope ["self", "column"] ["self", "column"] (defScope (inClass (topK 40) 0)) := ⟨rfl, rfl, rfl, by decide +kernel, rfl, by decide +kernel, by decide +kernel⟩
theorem in_BadDrawing {f C : Addr} {fd : FuncData} (F : Fun K "__init__" "BadDrawing.__init__" (inClass (topK 40) 0) f fd) (T : Exn K C) (n1 : PySem.W.findIn K (.ref C) "column" = some none) : FnOk P w K mg base CX0 5 f fd ["self", "column"] (spIn K C ["column"]) := by
  refine F.ok scI_BadDrawing (fun vs H Q E h => ?_) (fun cdv A outer s H vs Q E hr h => ?_)
  · obtain ⟨a, ws, ds, rfl, hl, _⟩ := h
    exact congrArg (· + 1) hl
  obtain ⟨a, ws, ds, rfl, hl, ha, hda, fl, q⟩ := h
  refine ⟨_, pss_one (ps_put (pv 0) (pv 1)), ?_⟩
  match ws, hl with
  | [v1], _ =>
    cases hda with
    | @cons _ _ d1 _ h1 t1 =>
      cases t1
      refine ⟨_, rfl, _, rfl, a, C, rfl, T, n1, .inl ⟨ha, fun dx hn ne => ?_⟩⟩
      exact fin1 (Q := fun H2 => Q .non H2) (Same.refl H) ha hn ne h1 (fl d1 List.mem_cons_self) q
theorem scI_NotJoined : FnScope ["self", "look"] ["self", "look"] (defScope (inClass (topK 44) 0)) := ⟨rfl, rfl, rfl, by decide +kernel, rfl, by decide +kernel, by decide +kernel⟩
theorem in_NotJoined {f C : Addr} {fd : FuncData} (F : Fun K "__init__" "NotJoined.__init__" (inClass (topK 44) 0) f fd) (T : Exn K C) (n1 : PySem.W.findIn K (.ref C) "look" = some none) : FnOk P w K mg base CX0 5 f fd ["self", "look"] (spIn K C ["look"]) := by
  refine F.ok scI_NotJoined (fun vs H Q E h => ?_) (fun cdv A outer s H vs Q E hr h => ?_)
  · obtain ⟨a, ws, ds, rfl, hl, _⟩ := h
    exact congrArg (· + 1) hl
  obtain ⟨a, ws, ds, rfl, hl, ha, hda, fl, q⟩ := h
  refine ⟨_, pss_one (ps_put (pv 0) (pv 1)), ?_⟩
  match ws, hl with
  | [v1], _ =>
    cases hda with
    | @cons _ _ d1 _ h1 t1 =>
      cases t1
      refine ⟨_, rfl, _, rfl, a, C, rfl, T, n1, .inl ⟨ha, fun dx hn ne => ?_⟩⟩
      exact fin1 (Q := fun H2 => Q .non H2) (Same.refl H) ha hn ne h1 (fl d1 List.mem_cons_self) q
theorem scI_NotEven : FnScope ["self", "pair"] ["self", "pair"] (defScope (inClass (topK 45) 0)) := ⟨rfl, rfl, rfl, by decide +kernel, rfl, by decide +kernel, by decide +kernel⟩
theorem in_NotEven {f C : Addr} {fd : FuncData} (F : Fun K "__init__" "NotEven.__init__" (inClass (topK 45) 0) f fd) (T : Exn K C) (n1 : PySem.W.findIn K (.ref C) "pair" = some none) {fK : Addr} {fdK : FuncData} (GK : FnOk P w K mg base CX0 4 fK fdK ["value"] (spKept K 4)) (kK : PySem.W.keepIn K (.ref fK) = true) (bK : Binds K fdK ["value"] []) (mK : mg "kept" = some (.ref fK)) : FnOk P w K mg base CX0 5 f fd ["self", "pair"] (spIn K C ["pair"]) := by
  refine F.ok scI_NotEven (fun vs H Q E h => ?_) (fun cdv A outer s H vs Q E hr h => ?_)
  · obtain ⟨a, ws, ds, rfl, hl, _⟩ := h
    exact congrArg (· + 1) hl
  obtain ⟨a, ws, ds, rfl, hl, ha, hda, fl, q⟩ := h
  refine ⟨_, pss_one (ps_put (pv 0) (pe_call GK hr rfl mK kK bK .nil pass0 (pa_cons (pv 1) pa_nil))), ?_⟩
  match ws, hl with
  | [v1], _ =>
    cases hda with
    | @cons _ _ d1 _ h1 t1 =>
      cases t1
      refine ⟨_, rfl, v1, d1, 3, rfl, rfl, h1, fl d1 List.mem_cons_self, fun v2 H1 g1 hv2 => ?_⟩
      refine ⟨_, rfl, a, C, rfl, T, n1, .inl ⟨g1 _ _ ha, fun dx hn ne => ?_⟩⟩
      exact fin1 (Q := fun H2 => Q .non H2) g1 ha hn ne hv2 (fl d1 List.mem_cons_self) q
theorem scI_Unfounded : FnScope ["self", "reason"] ["self", "reason"] (defScope (inClass (topK 46) 0)) := ⟨rfl, rfl, rfl, by decide +kernel, rfl, by decide +kernel, by decide +kernel⟩
theorem in_Unfounded {f C : Addr} {fd : FuncData} (F : Fun K "__init__" "Unfounded.__init__" (inClass (topK 46) 0) f fd) (T : Exn K C) (n1 : PySem.W.findIn K (.ref C) "reason" = some none) {fK : Addr} {fdK : FuncData} (GK : FnOk P w K mg base CX0 4 fK fdK ["value"] (spKept K 4)) (kK : PySem.W.keepIn K (.ref fK) = true) (bK : Binds K fdK ["value"] []) (mK : mg "kept" = some (.ref fK)) : FnOk P w K mg base CX0 5 f fd ["self", "reason"] (spIn K C ["reason"]) := by
  refine F.ok scI_Unfounded (fun vs H Q E h => ?_) (fun cdv A outer s H vs Q E hr h => ?_)
  · obtain ⟨a, ws, ds, rfl, hl, _⟩ := h
    exact congrArg (· + 1) hl
  obtain ⟨a, ws, ds, rfl, hl, ha, hda, fl, q⟩ := h
  refine ⟨_, pss_one (ps_put (pv 0) (pe_call GK hr rfl mK kK bK .nil pass0 (pa_cons (pv 1) pa_nil))), ?_⟩
  match ws, hl with
  | [v1], _ =>
    cases hda with
    | @cons _ _ d1 _ h1 t1 =>
      cases t1
      refine ⟨_, rfl, v1, d1, 3, rfl, rfl, h1, fl d1 List.mem_cons_self, fun v2 H1 g1 hv2 => ?_⟩
      refine ⟨_, rfl, a, C, rfl, T, n1, .inl ⟨g1 _ _ ha, fun dx hn ne => ?_⟩⟩
      exact fin1 (Q := fun H2 => Q .non H2) g1 ha hn ne hv2 (fl d1 List.mem_cons_self) q
end
end Hs
set_option maxHeartbeats 0
namespace Hs
open PySem PySem.Spec PyProof.Rows L2
def topH (i : Nat) : Stmt := PySem.Challenge.pw_hiddensorts_k94_errors_of_one_class.main.body.getD i (.Pass ⟨0, 0, 0, 0⟩)
/-! ### the classes -/
def clsN : List Str := (["BadNumber", "ByZero", "BadMatrix", "BadSize", "BadLot", "BadSpot", "BadTable", "BadSingle", "Disagrees", "NotSeen", "NeverMet", "OtherSizes", "BadText", "BadSort", "BadChances", "BadWorld", "NotTwo", "NotFair", "BadLook", "BadPiece", "BadWalk", "Clash", "OtherPiece", "IsRinged", "IsTold", "NeedsRoot", "NeedsRoots", "NotLinked", "NoFair", "Outside"] : List PySem.Str) ++ (["NotBehind", "OtherSide", "OneSide", "NotRinged", "NoThree", "Turned", "Unlike", "BadDrawing", "BadCurve", "BadStakes", "NotFull", "NotJoined", "NotEven", "Unfounded", "BadChange", "NotOf", "NoDeed", "IsSeen", "HasThree", "ManyPieces", "NoPlan"] : List PySem.Str)
def plainN : List Str := (["SortsError", "BadNumber", "ByZero", "BadMatrix", "BadSize", "BadSpot", "OtherSizes", "BadSort", "BadChances", "NotTwo", "NotFair", "BadLook", "BadPiece", "OtherPiece", "IsRinged", "IsTold", "NotLinked", "Outside", "NotBehind", "OtherSide", "OneSide", "NotRinged", "NoThree", "Unlike", "BadCurve", "BadStakes", "NotFull", "BadChange", "NotOf", "NoDeed"] : List PySem.Str) ++ (["IsSeen", "HasThree", "ManyPieces", "NoPlan"] : List PySem.Str)
def initN : List Str := (["BadLot", "BadTable", "BadSingle", "Disagrees", "NotSeen", "NeverMet", "BadText", "BadWorld", "BadWalk", "Clash", "NeedsRoot", "NeedsRoots", "NoFair", "Turned", "BadDrawing", "NotJoined", "NotEven", "Unfounded"] : List PySem.Str)
def fieldN : List (Str × Str) := ([("BadLot", "place"), ("BadTable", "place"), ("BadSingle", "look"), ("Disagrees", "lot"), ("Disagrees", "other"), ("NotSeen", "lot"), ("NeverMet", "spot"), ("BadText", "line"), ("BadWorld", "which"), ("BadWorld", "look"), ("BadWalk", "place"), ("Clash", "reason"), ("NeedsRoot", "number"), ("NeedsRoots", "x"), ("NeedsRoots", "y")] : List (PySem.Str × PySem.Str)) ++ ([("NoFair", "x"), ("NoFair", "y"), ("Turned", "x"), ("BadDrawing", "column"), ("NotJoined", "look"), ("NotEven", "pair"), ("Unfounded", "reason")] : List (PySem.Str × PySem.Str))
abbrev gaS (K : PySem.W.Frag) : Addr := He.ga K "SortsError"
def mroB (K : PySem.W.Frag) (C : Addr) (l : List Value) : Bool := match PySem.W.clsIn K C with
  | some cd => decide (cd.mro = l)
  | none => false
def initB (K : PySem.W.Frag) (x : Str) : Bool := PySem.W.excInitIn K (He.ga K x) excB "Exception.__new__" && (eqF (PySem.W.findIn K (.ref (He.ga K x)) "__init__") (some (some (.ref (He.ma K (He.ga K x) "__init__")))) && decide (PySem.W.typeIn K (.ref (He.ma K (He.ga K x) "__init__")) = some (.type "function")))
def exB (K : PySem.W.Frag) : Bool :=
  (clsN.all fun x => exnB K (He.ga K x)) && ((exnB K (gaS K)) && ((plainN.all fun x => PySem.W.excIn K (He.ga K x) excB "Exception.__new__") && ((initN.all fun x => initB K x) &&
    ((fieldN.all fun p => eqF (PySem.W.findIn K (.ref (He.ga K p.1)) p.2) (some none)) && ((clsN.all fun x => mroB K (He.ga K x) [.ref (He.ga K x), .ref (gaS K), .type "Exception", .type "BaseException", .type "object"]) &&
      ((mroB K (gaS K) [.ref (gaS K), .type "Exception", .type "BaseException", .type "object"]) && (((gaS K :: clsN.map (He.ga K)).all fun C => decide (PySem.W.typeIn K (.ref C) = some (.type "type"))) &&
        (decide (gaS K :: clsN.map (He.ga K)).Nodup && (eqF (PySem.W.specialIn K (.builtin "object.__class__") "__get__") (some (some (.builtin "getset_descriptor.__get__"))) && decide (PySem.W.takesIn K (.builtin "object.__class__") = some true))))))))))
/-! ### the head: facts by names, the run -/
def dD0 : He.DefD := ⟨("kept", none), "kept", "kept", defArgs (topH 1), defBody (topH 1), defScope (topH 1), [], []⟩
def dD1 : He.DefD := ⟨("_law_feed", none), "_law_feed", "_law_feed", defArgs (topH 55), defBody (topH 55), defScope (topH 55), [], []⟩
def dD2 : He.DefD := ⟨("_law_pick", none), "_law_pick", "_law_pick", defArgs (topH 56), defBody (topH 56), defScope (topH 56), [], []⟩
def dD3 : He.DefD := ⟨("_law_of_first", none), "_law_of_first", "_law_of_first", defArgs (topH 57), defBody (topH 57), defScope (topH 57), [], []⟩
def dD4 : He.DefD := ⟨("_law_of_middle", none), "_law_of_middle", "_law_of_middle", defArgs (topH 58), defBody (topH 58), defScope (topH 58), [], []⟩
def dD5 : He.DefD := ⟨("_law_of_last", none), "_law_of_last", "_law_of_last", defArgs (topH 59), defBody (topH 59), defScope (topH 59), [], []⟩
def dD6 : He.DefD := ⟨("_law_first_made", none), "_law_first_made", "_law_first_made", defArgs (topH 60), defBody (topH 60), defScope (topH 60), [], []⟩
def dD7 : He.DefD := ⟨("_law_middle_made", none), "_law_middle_made", "_law_middle_made", defArgs (topH 61), defBody (topH 61), defScope (topH 61), [], []⟩
def dD8 : He.DefD := ⟨("_law_last_made", none), "_law_last_made", "_law_last_made", defArgs (topH 62), defBody (topH 62), defScope (topH 62), [], []⟩
def dD9 : He.DefD := ⟨("_law_first_kept", none), "_law_first_kept", "_law_first_kept", defArgs (topH 63), defBody (topH 63), defScope (topH 63), [], []⟩
def dD10 : He.DefD := ⟨("_law_middle_kept", none), "_law_middle_kept", "_law_middle_kept", defArgs (topH 64), defBody (topH 64), defScope (topH 64), [], []⟩
def dD11 : He.DefD := ⟨("_law_last_kept", none), "_law_last_kept", "_law_last_kept", defArgs (topH 65), defBody (topH 65), defScope (topH 65), [], []⟩
def dD12 : He.DefD := ⟨("law", none), "law", "law", defArgs (topH 66), defBody (topH 66), defScope (topH 66), [], []⟩
def dD13 : He.DefD := ⟨("BadLot", some "__init__"), "__init__", "BadLot.__init__", defArgs (inClass (topH 7) 0), defBody (inClass (topH 7) 0), defScope (inClass (topH 7) 0), [], []⟩
def dD14 : He.DefD := ⟨("BadTable", some "__init__"), "__init__", "BadTable.__init__", defArgs (inClass (topH 9) 0), defBody (inClass (topH 9) 0), defScope (inClass (topH 9) 0), [], []⟩
def dD15 : He.DefD := ⟨("BadSingle", some "__init__"), "__init__", "BadSingle.__init__", defArgs (inClass (topH 10) 0), defBody (inClass (topH 10) 0), defScope (inClass (topH 10) 0), [], []⟩
def dD16 : He.DefD := ⟨("Disagrees", some "__init__"), "__init__", "Disagrees.__init__", defArgs (inClass (topH 11) 0), defBody (inClass (topH 11) 0), defScope (inClass (topH 11) 0), [], []⟩
def dD17 : He.DefD := ⟨("NotSeen", some "__init__"), "__init__", "NotSeen.__init__", defArgs (inClass (topH 12) 0), defBody (inClass (topH 12) 0), defScope (inClass (topH 12) 0), [], []⟩
def dD18 : He.DefD := ⟨("NeverMet", some "__init__"), "__init__", "NeverMet.__init__", defArgs (inClass (topH 13) 0), defBody (inClass (topH 13) 0), defScope (inClass (topH 13) 0), [], []⟩
def dD19 : He.DefD := ⟨("BadText", some "__init__"), "__init__", "BadText.__init__", defArgs (inClass (topH 15) 0), defBody (inClass (topH 15) 0), defScope (inClass (topH 15) 0), [], []⟩
def dD20 : He.DefD := ⟨("BadWorld", some "__init__"), "__init__", "BadWorld.__init__", defArgs (inClass (topH 18) 0), defBody (inClass (topH 18) 0), defScope (inClass (topH 18) 0), [], []⟩
def dD21 : He.DefD := ⟨("BadWalk", some "__init__"), "__init__", "BadWalk.__init__", defArgs (inClass (topH 23) 0), defBody (inClass (topH 23) 0), defScope (inClass (topH 23) 0), [], []⟩
def dD22 : He.DefD := ⟨("Clash", some "__init__"), "__init__", "Clash.__init__", defArgs (inClass (topH 24) 0), defBody (inClass (topH 24) 0), defScope (inClass (topH 24) 0), [], []⟩
def dD23 : He.DefD := ⟨("NeedsRoot", some "__init__"), "__init__", "NeedsRoot.__init__", defArgs (inClass (topH 28) 0), defBody (inClass (topH 28) 0), defScope (inClass (topH 28) 0), [], []⟩
def dD24 : He.DefD := ⟨("NeedsRoots", some "__init__"), "__init__", "NeedsRoots.__init__", defArgs (inClass (topH 29) 0), defBody (inClass (topH 29) 0), defScope (inClass (topH 29) 0), [], []⟩
def dD25 : He.DefD := ⟨("NoFair", some "__init__"), "__init__", "NoFair.__init__", defArgs (inClass (topH 31) 0), defBody (inClass (topH 31) 0), defScope (inClass (topH 31) 0), [], []⟩
def dD26 : He.DefD := ⟨("Turned", some "__init__"), "__init__", "Turned.__init__", defArgs (inClass (topH 38) 0), defBody (inClass (topH 38) 0), defScope (inClass (topH 38) 0), [], []⟩
def dD27 : He.DefD := ⟨("BadDrawing", some "__init__"), "__init__", "BadDrawing.__init__", defArgs (inClass (topH 40) 0), defBody (inClass (topH 40) 0), defScope (inClass (topH 40) 0), [], []⟩
def dD28 : He.DefD := ⟨("NotJoined", some "__init__"), "__init__", "NotJoined.__init__", defArgs (inClass (topH 44) 0), defBody (inClass (topH 44) 0), defScope (inClass (topH 44) 0), [], []⟩
def dD29 : He.DefD := ⟨("NotEven", some "__init__"), "__init__", "NotEven.__init__", defArgs (inClass (topH 45) 0), defBody (inClass (topH 45) 0), defScope (inClass (topH 45) 0), [], []⟩
def dD30 : He.DefD := ⟨("Unfounded", some "__init__"), "__init__", "Unfounded.__init__", defArgs (inClass (topH 46) 0), defBody (inClass (topH 46) 0), defScope (inClass (topH 46) 0), [], []⟩
def fn : List He.DefD := ([dD0, dD1, dD2, dD3, dD4, dD5, dD6, dD7, dD8, dD9, dD10, dD11, dD12, dD13, dD14, dD15, dD16, dD17, dD18, dD19, dD20, dD21, dD22, dD23, dD24, dD25, dD26, dD27, dD28, dD29] : List _) ++ ([dD30] : List _)
def fa : List He.Fa := ([.glo "kept", .glo "_law_feed", .glo "_law_pick", .glo "_law_of_first", .glo "_law_of_middle", .glo "_law_of_last", .glo "_law_first_made", .glo "_law_middle_made", .glo "_law_last_made", .glo "_law_first_kept", .glo "_law_middle_kept", .glo "_law_last_kept", .glo "law", .glo "SortsError", .glo "BadNumber", .glo "ByZero", .glo "BadMatrix", .glo "BadSize", .glo "BadLot", .glo "BadSpot", .glo "BadTable", .glo "BadSingle", .glo "Disagrees", .glo "NotSeen", .glo "NeverMet", .glo "OtherSizes", .glo "BadText", .glo "BadSort", .glo "BadChances", .glo "BadWorld"] : List He.Fa) ++ ([.glo "NotTwo", .glo "NotFair", .glo "BadLook", .glo "BadPiece", .glo "BadWalk", .glo "Clash", .glo "OtherPiece", .glo "IsRinged", .glo "IsTold", .glo "NeedsRoot", .glo "NeedsRoots", .glo "NotLinked", .glo "NoFair", .glo "Outside", .glo "NotBehind", .glo "OtherSide", .glo "OneSide", .glo "NotRinged", .glo "NoThree", .glo "Turned", .glo "Unlike", .glo "BadDrawing", .glo "BadCurve", .glo "BadStakes", .glo "NotFull", .glo "NotJoined", .glo "NotEven", .glo "Unfounded", .glo "BadChange", .glo "NotOf"] : List He.Fa) ++ ([.glo "NoDeed", .glo "IsSeen", .glo "HasThree", .glo "ManyPieces", .glo "NoPlan", .free "isinstance", .free "list", .free "tuple", .free "len", .free "int", .free "abs", .free "range"] : List He.Fa)
abbrev R : PySem.W.OpenRow := PySem.W.OpenLaw.row PySem.Challenge.rw_hiddensorts_k94_errors_of_one_class
abbrev hk : PySem.W.Hook := He.hookX 5 fa fn [] [] exB
def ob (s : PySem.W.SharedT) : He.AlX := He.obsX 5 fa fn [] [] exB (HandSHeadRun.getT s)
theorem ob_eq (s : PySem.W.SharedT) : ob s = hk.obs s.abs := He.obsX_eq (HandSHeadRun.getT_eq s)
def loose : List PySem.Str := (["kept", "_law_feed", "_law_pick", "_law_of_first", "_law_of_middle", "_law_of_last", "_law_first_made", "_law_middle_made", "_law_last_made", "_law_first_kept", "_law_middle_kept", "_law_last_kept", "SortsError", "BadNumber", "ByZero", "BadMatrix", "BadSize", "BadLot", "BadSpot", "BadTable", "BadSingle", "Disagrees", "NotSeen", "NeverMet", "OtherSizes", "BadText", "BadSort", "BadChances", "BadWorld", "NotTwo"] : List PySem.Str) ++ (["NotFair", "BadLook", "BadPiece", "BadWalk", "Clash", "OtherPiece", "IsRinged", "IsTold", "NeedsRoot", "NeedsRoots", "NotLinked", "NoFair", "Outside", "NotBehind", "OtherSide", "OneSide", "NotRinged", "NoThree", "Turned", "Unlike", "BadDrawing", "BadCurve", "BadStakes", "NotFull", "NotJoined", "NotEven", "Unfounded", "BadChange", "NotOf", "NoDeed"] : List PySem.Str) ++ (["IsSeen", "HasThree", "ManyPieces", "NoPlan"] : List PySem.Str)
theorem run (w : World) : HandSHeadRun.RunEq R (PySem.W.view R.prog [66]) hk ob 12200 loose w := by
  intro os
  kernel_rfl
end Hs
set_option maxHeartbeats 4000000
namespace Hs
open PySem L2
/-! ## making things one behind another -/
theorem peI {X : Cx} {e : Expr} {t t2 : TE} (h : PE X e t) (i : ∀ σ H Q, t2 σ H Q → t σ H Q) : PE X e t2 := ⟨fun pins s σ H Q I k => h.run pins s σ H Q I (i σ H Q k)⟩
theorem paI {X : Cx} {es : List Expr} {t t2 : TA} (h : PA X es t) (i : ∀ σ H Q, t2 σ H Q → t σ H Q) : PA X es t2 := ⟨fun pos pins s σ H Q I k => h.run pos pins s σ H Q I (i σ H Q k)⟩
abbrev Pst : Type := Hp → V → Prop
/-- e makes a thing of which P holds, where G holds; nothing else is changed -/
def Mk1 (X : Cx) (G : St → Hp → Prop) (e : Expr) (P : Pst) : Prop := PE X e (fun σ H Q => G σ H ∧ ∀ v H2, Same H H2 → P H2 v → Q v H2)
inductive Ps (H : Hp) : List V → List Pst → Prop where
  | nil : Ps H [] []
  | cons {v : V} {vs : List V} {P : Pst} {Rs : List Pst} (h : P H v) (t : Ps H vs Rs) : Ps H (v :: vs) (P :: Rs)
def MkL (X : Cx) (G : St → Hp → Prop) (es : List Expr) (Rs : List Pst) : Prop := PA X es (fun σ H Q => G σ H ∧ ∀ vs H2, Same H H2 → Ps H2 vs Rs → Q vs H2)
def Steady1 (G : St → Hp → Prop) : Prop := ∀ σ H H2, Same H H2 → G σ H → G σ H2
def SteadyP (P : Pst) : Prop := ∀ H H2 v, Same H H2 → P H v → P H2 v
theorem mkl_nil {X : Cx} {G : St → Hp → Prop} : MkL X G [] [] := paI pa_nil fun σ H Q h => h.2 [] H (Same.refl H) .nil
theorem mkl_cons {X : Cx} {G : St → Hp → Prop} {e : Expr} {es : List Expr} {P : Pst} {Rs : List Pst} (sG : Steady1 G) (sP : SteadyP P) (h : Mk1 X G e P) (t : MkL X G es Rs) (hs : starEach (e :: es) X.env = (false, eval e X.env) :: starEach es X.env := by rfl) : MkL X G (e :: es) (P :: Rs) :=
  paI (pa_cons h t hs) fun σ H Q k => ⟨k.1, fun v H1 s1 p1 => ⟨sG σ H H1 s1 k.1, fun vs H2 s2 ps => k.2 (v :: vs) H2 (s1.trans s2) (.cons (sP H1 H2 v s2 p1) ps)⟩⟩
/-- data -/
def PD (K : PySem.W.Frag) (d : PyData) : Pst := fun H v => Dp K H v d
theorem pd_steady {K : PySem.W.Frag} {d : PyData} : SteadyP (PD K d) := fun H H2 v s h => Dp.keep (Keeps.of s) d v h
theorem ps_data {K : PySem.W.Frag} {H : Hp} : ∀ {ds : List PyData} {vs : List V}, Ps H vs (ds.map (PD K)) → DpAll K H vs ds
  | [], _, h => by
    cases h
    exact .nil
  | _ :: _, _, h => by
    cases h with
    | cons h1 h2 => exact .cons h1 (ps_data h2)
/-- an exception of the class at C with such fields -/
def ExR (K : PySem.W.Frag) (H : Hp) (a C : Addr) (fs : List (Str × PyData)) : Prop := (fs = [] ∧ H a = some (exo a C none)) ∨ ∃ dx kvs, H a = some (exo a C (some dx)) ∧ H dx = some (exd dx kvs) ∧ ∀ f d, fs.lookup f = some d → ∃ v, kvs.lookup f = some v ∧ Dp K H v d
theorem ExR.keep {K : PySem.W.Frag} {H H2 : Hp} {a C : Addr} {fs : List (Str × PyData)} (s : Same H H2) (h : ExR K H a C fs) : ExR K H2 a C fs := by
  rcases h with ⟨e, h⟩ | ⟨dx, kvs, h1, h2, h3⟩
  · exact .inl ⟨e, s _ _ h⟩
  · refine .inr ⟨dx, kvs, s _ _ h1, s _ _ h2, fun f d q => ?_⟩
    obtain ⟨v, q1, q2⟩ := h3 f d q
    exact ⟨v, q1, Dp.keep (Keeps.of s) d v q2⟩
def PX (K : PySem.W.Frag) (x : Str) (fs : List (Str × PyData)) : Pst := fun H v => ∃ a, v = .ref a ∧ ExR K H a (He.ga K x) fs
theorem px_steady {K : PySem.W.Frag} {x : Str} {fs : List (Str × PyData)} : SteadyP (PX K x fs) := fun H H2 v s ⟨a, e, h⟩ => ⟨a, e, h.keep s⟩
theorem mk_tup {X : Cx} {G : St → Hp → Prop} {es : List Expr} {k : Nat} {pos : Pos} {K : PySem.W.Frag} {ds : List PyData} (hl : ds.length ≤ 1000) (h : MkL X G es (ds.map (PD K))) : Mk1 X G (.Tuple es k pos) (PD K (.tuple ds)) :=
  peI (pe_tup h) fun σ H Q k => ⟨k.1, fun vs H1 s1 ps => by
    have da := ps_data ps
    refine ⟨Nat.le_trans (by rw [DpAll.len da]; exact hl) (by decide), fun p hp => ?_⟩
    have s2 := same_new (Same.refl H1) hp (.tup vs)
    exact k.2 _ _ (s1.trans s2) (.tup (SqT.of upd_same) (DpAll.keep (Keeps.of s2) ds vs da))⟩
theorem mk_list {X : Cx} {G : St → Hp → Prop} {es : List Expr} {pos : Pos} {Rs : List Pst} (st : ∀ R ∈ Rs, SteadyP R) (hl : Rs.length ≤ 1000) (h : MkL X G es Rs) : PE X (.List es pos) (fun σ H Q => G σ H ∧ ∀ l vs H2, Same H H2 → H2 l = some (.lst vs) → Ps H2 vs Rs → Q (.ref l) H2) :=
  peI (pe_lst h) fun σ H Q k => ⟨k.1, fun vs H1 s1 ps => by
    have go : ∀ {vs : List V} {Rs : List Pst}, Ps H1 vs Rs → vs.length = Rs.length := fun {vs Rs} q => by
      induction q with
      | nil => rfl
      | cons _ _ ih => exact congrArg (· + 1) ih
    refine ⟨Nat.le_trans (by rw [go ps]; exact hl) (by decide), fun p hp => ?_⟩
    have s2 := same_new (Same.refl H1) hp (.lst vs)
    have up : ∀ {vs : List V} {Rs : List Pst}, (∀ R ∈ Rs, SteadyP R) → Ps H1 vs Rs → Ps (upd H1 p (.lst vs)) vs Rs → True := fun _ _ _ => trivial
    have up2 : ∀ (H2 : Hp), Same H1 H2 → ∀ {vs : List V} {Rs : List Pst}, (∀ R ∈ Rs, SteadyP R) → Ps H1 vs Rs → Ps H2 vs Rs := fun H2 s {vs Rs} f q => by
      induction q with
      | nil => exact .nil
      | cons h _ ih => exact .cons (f _ List.mem_cons_self _ _ _ s h) (ih fun R m => f R (List.mem_cons_of_mem _ m))
    exact k.2 p vs _ (s1.trans s2) upd_same (up2 _ s2 st ps)⟩
/-! ## what the written part says -/
structure Txt (K : PySem.W.Frag) (mg : Str → Option Value) : Prop where
  exn : ∀ x ∈ clsN, Exn K (He.ga K x)
  exnS : Exn K (gaS K)
  plain : ∀ x ∈ plainN, PySem.W.excIn K (He.ga K x) excB "Exception.__new__" = true
  init : ∀ x ∈ initN, initB K x = true
  fld : ∀ p ∈ fieldN, PySem.W.findIn K (.ref (He.ga K p.1)) p.2 = some none
  glo : ∀ x ∈ clsN, mg x = some (.ref (He.ga K x))
  gloS : mg "SortsError" = some (.ref (gaS K))
  sp1 : PySem.W.specialIn K (.builtin "object.__class__") "__get__" = some (some (.builtin "getset_descriptor.__get__"))
  sp2 : PySem.W.takesIn K (.builtin "object.__class__") = some true
  kit : ∀ x ∈ ("SortsError" : Str) :: clsN, ∀ y ∈ clsN, PySem.W.kitOne K (.ref (He.ga K x)) (.ref (He.ga K y)) = some (decide (x = y))
  kitS : ∀ x ∈ clsN, PySem.W.kitOne K (.ref (He.ga K x)) (.ref (gaS K)) = some true
  isi : mg "isinstance" = none
  len : mg "len" = none
  range : mg "range" = none
theorem mk_new0 {X : Cx} {G : St → Hp → Prop} {x : Str} {p pos : Pos} (T : Txt X.K X.mg) (hx : x ∈ clsN) (hp : x ∈ plainN) (hg : Gl X x) (hdb : (x == ("__debug__" : Str)) = false) : Mk1 X G (.Call (.Name x p) [] [] pos) (PX X.K x []) :=
  peI (pe_new0 (T.exn x hx) (T.plain x hp) (T.glo x hx) hg hdb) fun σ H Q k => fun a na => k.2 _ _ (same_new (Same.refl H) na _) ⟨a, rfl, .inl ⟨rfl, upd_same⟩⟩
/-- a class whose __init__ keeps its promise -/
structure InD (P : Program) (w : World) (K : PySem.W.Frag) (mg : Str → Option Value) (base : Heap) (x : Str) (fs : List Str) : Prop where
  ok : ∃ fd, FnOk P w K mg base CX0 5 (He.ma K (He.ga K x) "__init__") fd ("self" :: fs) (spIn K (He.ga K x) fs) ∧ Binds K fd ("self" :: fs) []
theorem mk_new {X : Cx} {G : St → Hp → Prop} {x : Str} {p pos : Pos} {e : Expr} {es : List Expr} {fs : List Str} {ds : List PyData} (T : Txt X.K X.mg) (I : InD X.prog X.w X.K X.mg X.base x fs) (hx : x ∈ clsN) (hi : x ∈ initN) (hg : Gl X x) (hdb : (x == ("__debug__" : Str)) = false) (hr : Room 6 X.A)
    (hl : fs.length = ds.length) (hl2 : ds.length ≤ 1000) (fl : ∀ d ∈ ds, Flat 3 d) (ha : MkL X G (e :: es) (ds.map (PD X.K))) (he : starEach (e :: es) X.env = (false, eval e X.env) :: starEach es X.env := by rfl) (hpl : (backTo pos (starEach es X.env)).any (·.1) = false := by rfl) :
    Mk1 X G (.Call (.Name x p) (e :: es) [] pos) (PX X.K x (fs.zip ds)) := by
  obtain ⟨fd, F1, hb⟩ := I.ok
  obtain ⟨q1, q2⟩ := two (T.init x hi)
  obtain ⟨q2, q3⟩ := two q2
  refine peI (pe_new (T.exn x hx) q1 (of_decide_eq_true q2) (of_decide_eq_true q3) F1 hr hb pass0 hg (T.glo x hx) ha hdb he hpl) fun σ H Q k => ⟨k.1, fun vs H1 s1 ps => ?_⟩
  have da := ps_data ps
  have ln := DpAll.len da
  refine ⟨by rw [ln]; exact hl2, fun a na => ⟨a, vs, ds, rfl, ln.trans hl.symm, upd_same, DpAll.keep (Keeps.of (same_new (Same.refl H1) na _)) ds vs da, fl, fun H2 dx kvs fr h2 hd lk => ⟨rfl, k.2 _ _ (fun b o e1 => ?_) ⟨a, rfl, .inr ⟨dx, kvs, h2, hd, lk⟩⟩⟩⟩⟩
  have e2 := s1 b o e1
  have nb : b ≠ a := ne_of_none e2 na
  exact fr b o nb (by rw [upd_ne nb]; exact e2)
/-! ## the three that make -/
abbrev dSpot (s0 s1 : Int) : PyData := .tuple [.int s0, .int s1]
def GM (n s0 s1 l0 l1 : Int) : St → Hp → Prop := fun σ H => ∃ s l, σ = [some (.int n), some (.ref s), some (.ref l)] ∧ H s = some (.tup [.int s0, .int s1]) ∧ H l = some (.tup [.int l0, .int l1])
theorem gm_steady {n s0 s1 l0 l1 : Int} : Steady1 (GM n s0 s1 l0 l1) := fun σ H H2 st ⟨s, l, e, h1, h2⟩ => ⟨s, l, e, st _ _ h1, st _ _ h2⟩
section
variable {X : Cx} {e : Expr} {n s0 s1 l0 l1 : Int}
theorem mk_v0 (h : PE X e (tVar 0)) : Mk1 X (GM n s0 s1 l0 l1) e (PD X.K (.int n)) := peI h fun σ H Q ⟨⟨s, l, e, h1, h2⟩, k⟩ => by
  subst e
  exact ⟨_, rfl, k _ _ (Same.refl H) (.int n)⟩
theorem mk_v1 (h : PE X e (tVar 1)) : Mk1 X (GM n s0 s1 l0 l1) e (PD X.K (dSpot s0 s1)) := peI h fun σ H Q ⟨⟨s, l, e, h1, h2⟩, k⟩ => by
  subst e
  exact ⟨_, rfl, k _ _ (Same.refl H) (.tup (SqT.of h1) (.cons (.int _) (.cons (.int _) .nil)))⟩
theorem mk_v2 (h : PE X e (tVar 2)) : Mk1 X (GM n s0 s1 l0 l1) e (PD X.K (dSpot l0 l1)) := peI h fun σ H Q ⟨⟨s, l, e, h1, h2⟩, k⟩ => by
  subst e
  exact ⟨_, rfl, k _ _ (Same.refl H) (.tup (SqT.of h2) (.cons (.int _) (.cons (.int _) .nil)))⟩
theorem mk_int {i : Int} (h : PE X e (tC (.int i))) : Mk1 X (GM n s0 s1 l0 l1) e (PD X.K (.int i)) := peI h fun σ H Q k => k.2 _ _ (Same.refl H) (.int i)
theorem mk_str {x : Str} (h : PE X e (tC (.str x))) : Mk1 X (GM n s0 s1 l0 l1) e (PD X.K (.str x)) := peI h fun σ H Q k => k.2 _ _ (Same.refl H) (.str x)
theorem mk_s0 (h : PE X e (tOp (rIxT X.K) (tVar 1) (tC (.int 0)))) : Mk1 X (GM n s0 s1 l0 l1) e (PD X.K (.int s0)) := peI h fun σ H Q ⟨⟨s, l, e, h1, h2⟩, k⟩ => by
  subst e
  exact ⟨_, rfl, s, _, 0, _, rfl, rfl, SqT.of h1, atI_nat (j := 0) rfl, k _ _ (Same.refl H) (.int s0)⟩
end
/-- what each is to hold -/
abbrev Spec : Type := List (Str × List (Str × PyData))
theorem flat_all {n : Nat} {d : PyData} {ds : List PyData} (h : Flat n d) (t : ∀ d ∈ ds, Flat n d) : ∀ e ∈ d :: ds, Flat n e := fun e m => by
  rcases List.mem_cons.mp m with rfl | m
  · exact h
  · exact t e m
theorem flat_nil {n : Nat} : ∀ e ∈ ([] : List PyData), Flat n e := fun e m => nomatch m
def spFirst (n s0 s1 l0 l1 : Int) : Spec := [("BadNumber", []), ("ByZero", []), ("BadMatrix", []), ("BadSize", []), ("BadLot", [("place", (.int n))]), ("BadSpot", []), ("BadTable", [("place", (.int n))]), ("BadSingle", [("look", (.int n))]), ("Disagrees", [("lot", (dSpot l0 l1)), ("other", (.tuple [(.int n)]))]), ("NotSeen", [("lot", (dSpot l0 l1))]), ("NeverMet", [("spot", (dSpot s0 s1))]), ("OtherSizes", []), ("BadText", [("line", (.int n))]), ("BadSort", []), ("BadChances", []), ("BadWorld", [("which", (.int n)), ("look", (.int s0))]), ("NotTwo", []), ("NotFair", [])]
theorem scFirst : FnScope ["_law_number", "_law_spot", "_law_lot"] ["_law_number", "_law_spot", "_law_lot"] (defScope (topH 60)) := ⟨rfl, rfl, rfl, by decide +kernel, rfl, by decide +kernel, by decide +kernel⟩
/-- a list of such exceptions -/
def spMade (K : PySem.W.Frag) (sp : Int → Int → Int → Int → Int → Spec) : Sp := fun vs H Q _ => ∃ (n s0 s1 l0 l1 : Int) (s l : Addr), vs = [.int n, .ref s, .ref l] ∧ H s = some (.tup [.int s0, .int s1]) ∧ H l = some (.tup [.int l0, .int l1]) ∧
  ∀ (r : Addr) (ws : List V) (H2 : Hp), Same H H2 → H2 r = some (.lst ws) → Ps H2 ws ((sp n s0 s1 l0 l1).map fun p => PX K p.1 p.2) → Q (.ref r) H2
theorem spec_steady {K : PySem.W.Frag} (sp : Spec) : ∀ R ∈ sp.map (fun p => PX K p.1 p.2), SteadyP R := fun R m => by
  obtain ⟨p, _, rfl⟩ := List.mem_map.mp m
  exact px_steady
theorem ok_first {P : Program} {w : World} {K : PySem.W.Frag} {mg : Str → Option Value} {base : Heap} {f : Addr} {fd : FuncData} (F : Fun K "_law_first_made" "_law_first_made" (topH 60) f fd) (T : Txt K mg) (IBadLot : InD P w K mg base "BadLot" ["place"]) (IBadTable : InD P w K mg base "BadTable" ["place"]) (IBadSingle : InD P w K mg base "BadSingle" ["look"]) (IDisagrees : InD P w K mg base "Disagrees" ["lot", "other"]) (INotSeen : InD P w K mg base "NotSeen" ["lot"]) (INeverMet : InD P w K mg base "NeverMet" ["spot"]) (IBadText : InD P w K mg base "BadText" ["line"]) (IBadWorld : InD P w K mg base "BadWorld" ["which", "look"]) :
    FnOk P w K mg base CX0 7 f fd ["_law_number", "_law_spot", "_law_lot"] (spMade K spFirst) := by
  refine F.ok scFirst (fun vs H Q E h => ?_) (fun cdv A outer s H vs Q E hr h => ?_)
  · obtain ⟨n, s0, s1, l0, l1, s, l, rfl, _⟩ := h
    rfl
  obtain ⟨n, s0, s1, l0, l1, s, l, rfl, hs, hl, q⟩ := h
  have hr6 := hr
  refine ⟨_, pss_one (ps_ret (mk_list (G := GM n s0 s1 l0 l1) (Rs := (spFirst n s0 s1 l0 l1).map fun p => PX K p.1 p.2) (spec_steady _) (by show 18 ≤ 1000; decide) (mkl_cons gm_steady px_steady (mk_new0 T (by decide +kernel) (by decide +kernel) (by rfl) (by decide +kernel))
    (mkl_cons gm_steady px_steady (mk_new0 T (by decide +kernel) (by decide +kernel) (by rfl) (by decide +kernel))
    (mkl_cons gm_steady px_steady (mk_new0 T (by decide +kernel) (by decide +kernel) (by rfl) (by decide +kernel))
    (mkl_cons gm_steady px_steady (mk_new0 T (by decide +kernel) (by decide +kernel) (by rfl) (by decide +kernel))
    (mkl_cons gm_steady px_steady (mk_new (fs := ["place"]) (ds := [(.int n)]) T IBadLot (by decide +kernel) (by decide +kernel) (by rfl) (by decide +kernel) hr6 rfl (by show 1 ≤ 1000; decide) (flat_all (.int _ _) flat_nil) (mkl_cons gm_steady pd_steady (mk_v0 (pv 0)) mkl_nil))
    (mkl_cons gm_steady px_steady (mk_new0 T (by decide +kernel) (by decide +kernel) (by rfl) (by decide +kernel))
    (mkl_cons gm_steady px_steady (mk_new (fs := ["place"]) (ds := [(.int n)]) T IBadTable (by decide +kernel) (by decide +kernel) (by rfl) (by decide +kernel) hr6 rfl (by show 1 ≤ 1000; decide) (flat_all (.int _ _) flat_nil) (mkl_cons gm_steady pd_steady (mk_v0 (pv 0)) mkl_nil))
    (mkl_cons gm_steady px_steady (mk_new (fs := ["look"]) (ds := [(.int n)]) T IBadSingle (by decide +kernel) (by decide +kernel) (by rfl) (by decide +kernel) hr6 rfl (by show 1 ≤ 1000; decide) (flat_all (.int _ _) flat_nil) (mkl_cons gm_steady pd_steady (mk_v0 (pv 0)) mkl_nil))
    (mkl_cons gm_steady px_steady (mk_new (fs := ["lot", "other"]) (ds := [(dSpot l0 l1), (.tuple [(.int n)])]) T IDisagrees (by decide +kernel) (by decide +kernel) (by rfl) (by decide +kernel) hr6 rfl (by show 2 ≤ 1000; decide) (flat_all (.tup 2 _ (by show 2 ≤ 1000; decide) (flat_all (.int _ _) (flat_all (.int _ _) flat_nil))) (flat_all (.tup 2 _ (by show 1 ≤ 1000; decide) (flat_all (.int _ _) flat_nil)) flat_nil)) (mkl_cons gm_steady pd_steady (mk_v2 (pv 2)) (mkl_cons gm_steady pd_steady (mk_tup (ds := [(.int n)]) (by show 1 ≤ 1000; decide) (mkl_cons gm_steady pd_steady (mk_v0 (pv 0)) mkl_nil)) mkl_nil)))
    (mkl_cons gm_steady px_steady (mk_new (fs := ["lot"]) (ds := [(dSpot l0 l1)]) T INotSeen (by decide +kernel) (by decide +kernel) (by rfl) (by decide +kernel) hr6 rfl (by show 1 ≤ 1000; decide) (flat_all (.tup 2 _ (by show 2 ≤ 1000; decide) (flat_all (.int _ _) (flat_all (.int _ _) flat_nil))) flat_nil) (mkl_cons gm_steady pd_steady (mk_v2 (pv 2)) mkl_nil))
    (mkl_cons gm_steady px_steady (mk_new (fs := ["spot"]) (ds := [(dSpot s0 s1)]) T INeverMet (by decide +kernel) (by decide +kernel) (by rfl) (by decide +kernel) hr6 rfl (by show 1 ≤ 1000; decide) (flat_all (.tup 2 _ (by show 2 ≤ 1000; decide) (flat_all (.int _ _) (flat_all (.int _ _) flat_nil))) flat_nil) (mkl_cons gm_steady pd_steady (mk_v1 (pv 1)) mkl_nil))
    (mkl_cons gm_steady px_steady (mk_new0 T (by decide +kernel) (by decide +kernel) (by rfl) (by decide +kernel))
    (mkl_cons gm_steady px_steady (mk_new (fs := ["line"]) (ds := [(.int n)]) T IBadText (by decide +kernel) (by decide +kernel) (by rfl) (by decide +kernel) hr6 rfl (by show 1 ≤ 1000; decide) (flat_all (.int _ _) flat_nil) (mkl_cons gm_steady pd_steady (mk_v0 (pv 0)) mkl_nil))
    (mkl_cons gm_steady px_steady (mk_new0 T (by decide +kernel) (by decide +kernel) (by rfl) (by decide +kernel))
    (mkl_cons gm_steady px_steady (mk_new0 T (by decide +kernel) (by decide +kernel) (by rfl) (by decide +kernel))
    (mkl_cons gm_steady px_steady (mk_new (fs := ["which", "look"]) (ds := [(.int n), (.int s0)]) T IBadWorld (by decide +kernel) (by decide +kernel) (by rfl) (by decide +kernel) hr6 rfl (by show 2 ≤ 1000; decide) (flat_all (.int _ _) (flat_all (.int _ _) flat_nil)) (mkl_cons gm_steady pd_steady (mk_v0 (pv 0)) (mkl_cons gm_steady pd_steady (mk_s0 (pe_ix ix_tup (pv 1) pe_int (fun _ _ => rfl))) mkl_nil)))
    (mkl_cons gm_steady px_steady (mk_new0 T (by decide +kernel) (by decide +kernel) (by rfl) (by decide +kernel))
    (mkl_cons gm_steady px_steady (mk_new0 T (by decide +kernel) (by decide +kernel) (by rfl) (by decide +kernel))
    mkl_nil)))))))))))))))))))), ?_⟩
  exact ⟨⟨s, l, rfl, hs, hl⟩, fun r ws H2 st hr ps => q r ws H2 st hr ps⟩
def spMiddle (n s0 s1 l0 l1 : Int) : Spec := [("BadLook", []), ("BadPiece", []), ("BadWalk", [("place", (.int n))]), ("Clash", [("reason", (.tuple [(.str "apart"), (.int n), (.int s0)]))]), ("OtherPiece", []), ("IsRinged", []), ("IsTold", []), ("NeedsRoot", [("number", (.tuple [(.int n), (.int 3)]))]), ("NeedsRoots", [("x", (dSpot s0 s1)), ("y", (.tuple [(.int n), (.int 1)]))]), ("NotLinked", []), ("NoFair", [("x", (dSpot s0 s1)), ("y", (.tuple [(.int n), (.int 0)]))]), ("Outside", []), ("NotBehind", []), ("OtherSide", []), ("OneSide", []), ("NotRinged", [])]
theorem scMiddle : FnScope ["_law_number", "_law_spot", "_law_lot"] ["_law_number", "_law_spot", "_law_lot"] (defScope (topH 61)) := ⟨rfl, rfl, rfl, by decide +kernel, rfl, by decide +kernel, by decide +kernel⟩
theorem ok_middle {P : Program} {w : World} {K : PySem.W.Frag} {mg : Str → Option Value} {base : Heap} {f : Addr} {fd : FuncData} (F : Fun K "_law_middle_made" "_law_middle_made" (topH 61) f fd) (T : Txt K mg) (IBadWalk : InD P w K mg base "BadWalk" ["place"]) (IClash : InD P w K mg base "Clash" ["reason"]) (INeedsRoot : InD P w K mg base "NeedsRoot" ["number"]) (INeedsRoots : InD P w K mg base "NeedsRoots" ["x", "y"]) (INoFair : InD P w K mg base "NoFair" ["x", "y"]) :
    FnOk P w K mg base CX0 7 f fd ["_law_number", "_law_spot", "_law_lot"] (spMade K spMiddle) := by
  refine F.ok scMiddle (fun vs H Q E h => ?_) (fun cdv A outer s H vs Q E hr h => ?_)
  · obtain ⟨n, s0, s1, l0, l1, s, l, rfl, _⟩ := h
    rfl
  obtain ⟨n, s0, s1, l0, l1, s, l, rfl, hs, hl, q⟩ := h
  have hr6 := hr
  refine ⟨_, pss_one (ps_ret (mk_list (G := GM n s0 s1 l0 l1) (Rs := (spMiddle n s0 s1 l0 l1).map fun p => PX K p.1 p.2) (spec_steady _) (by show 16 ≤ 1000; decide) (mkl_cons gm_steady px_steady (mk_new0 T (by decide +kernel) (by decide +kernel) (by rfl) (by decide +kernel))
    (mkl_cons gm_steady px_steady (mk_new0 T (by decide +kernel) (by decide +kernel) (by rfl) (by decide +kernel))
    (mkl_cons gm_steady px_steady (mk_new (fs := ["place"]) (ds := [(.int n)]) T IBadWalk (by decide +kernel) (by decide +kernel) (by rfl) (by decide +kernel) hr6 rfl (by show 1 ≤ 1000; decide) (flat_all (.int _ _) flat_nil) (mkl_cons gm_steady pd_steady (mk_v0 (pv 0)) mkl_nil))
    (mkl_cons gm_steady px_steady (mk_new (fs := ["reason"]) (ds := [(.tuple [(.str "apart"), (.int n), (.int s0)])]) T IClash (by decide +kernel) (by decide +kernel) (by rfl) (by decide +kernel) hr6 rfl (by show 1 ≤ 1000; decide) (flat_all (.tup 2 _ (by show 3 ≤ 1000; decide) (flat_all (.str _ _) (flat_all (.int _ _) (flat_all (.int _ _) flat_nil)))) flat_nil) (mkl_cons gm_steady pd_steady (mk_tup (ds := [(.str "apart"), (.int n), (.int s0)]) (by show 3 ≤ 1000; decide) (mkl_cons gm_steady pd_steady (mk_str pe_str) (mkl_cons gm_steady pd_steady (mk_v0 (pv 0)) (mkl_cons gm_steady pd_steady (mk_s0 (pe_ix ix_tup (pv 1) pe_int (fun _ _ => rfl))) mkl_nil)))) mkl_nil))
    (mkl_cons gm_steady px_steady (mk_new0 T (by decide +kernel) (by decide +kernel) (by rfl) (by decide +kernel))
    (mkl_cons gm_steady px_steady (mk_new0 T (by decide +kernel) (by decide +kernel) (by rfl) (by decide +kernel))
    (mkl_cons gm_steady px_steady (mk_new0 T (by decide +kernel) (by decide +kernel) (by rfl) (by decide +kernel))
    (mkl_cons gm_steady px_steady (mk_new (fs := ["number"]) (ds := [(.tuple [(.int n), (.int 3)])]) T INeedsRoot (by decide +kernel) (by decide +kernel) (by rfl) (by decide +kernel) hr6 rfl (by show 1 ≤ 1000; decide) (flat_all (.tup 2 _ (by show 2 ≤ 1000; decide) (flat_all (.int _ _) (flat_all (.int _ _) flat_nil))) flat_nil) (mkl_cons gm_steady pd_steady (mk_tup (ds := [(.int n), (.int 3)]) (by show 2 ≤ 1000; decide) (mkl_cons gm_steady pd_steady (mk_v0 (pv 0)) (mkl_cons gm_steady pd_steady (mk_int pe_int) mkl_nil))) mkl_nil))
    (mkl_cons gm_steady px_steady (mk_new (fs := ["x", "y"]) (ds := [(dSpot s0 s1), (.tuple [(.int n), (.int 1)])]) T INeedsRoots (by decide +kernel) (by decide +kernel) (by rfl) (by decide +kernel) hr6 rfl (by show 2 ≤ 1000; decide) (flat_all (.tup 2 _ (by show 2 ≤ 1000; decide) (flat_all (.int _ _) (flat_all (.int _ _) flat_nil))) (flat_all (.tup 2 _ (by show 2 ≤ 1000; decide) (flat_all (.int _ _) (flat_all (.int _ _) flat_nil))) flat_nil)) (mkl_cons gm_steady pd_steady (mk_v1 (pv 1)) (mkl_cons gm_steady pd_steady (mk_tup (ds := [(.int n), (.int 1)]) (by show 2 ≤ 1000; decide) (mkl_cons gm_steady pd_steady (mk_v0 (pv 0)) (mkl_cons gm_steady pd_steady (mk_int pe_int) mkl_nil))) mkl_nil)))
    (mkl_cons gm_steady px_steady (mk_new0 T (by decide +kernel) (by decide +kernel) (by rfl) (by decide +kernel))
    (mkl_cons gm_steady px_steady (mk_new (fs := ["x", "y"]) (ds := [(dSpot s0 s1), (.tuple [(.int n), (.int 0)])]) T INoFair (by decide +kernel) (by decide +kernel) (by rfl) (by decide +kernel) hr6 rfl (by show 2 ≤ 1000; decide) (flat_all (.tup 2 _ (by show 2 ≤ 1000; decide) (flat_all (.int _ _) (flat_all (.int _ _) flat_nil))) (flat_all (.tup 2 _ (by show 2 ≤ 1000; decide) (flat_all (.int _ _) (flat_all (.int _ _) flat_nil))) flat_nil)) (mkl_cons gm_steady pd_steady (mk_v1 (pv 1)) (mkl_cons gm_steady pd_steady (mk_tup (ds := [(.int n), (.int 0)]) (by show 2 ≤ 1000; decide) (mkl_cons gm_steady pd_steady (mk_v0 (pv 0)) (mkl_cons gm_steady pd_steady (mk_int pe_int) mkl_nil))) mkl_nil)))
    (mkl_cons gm_steady px_steady (mk_new0 T (by decide +kernel) (by decide +kernel) (by rfl) (by decide +kernel))
    (mkl_cons gm_steady px_steady (mk_new0 T (by decide +kernel) (by decide +kernel) (by rfl) (by decide +kernel))
    (mkl_cons gm_steady px_steady (mk_new0 T (by decide +kernel) (by decide +kernel) (by rfl) (by decide +kernel))
    (mkl_cons gm_steady px_steady (mk_new0 T (by decide +kernel) (by decide +kernel) (by rfl) (by decide +kernel))
    (mkl_cons gm_steady px_steady (mk_new0 T (by decide +kernel) (by decide +kernel) (by rfl) (by decide +kernel))
    mkl_nil)))))))))))))))))), ?_⟩
  exact ⟨⟨s, l, rfl, hs, hl⟩, fun r ws H2 st hr ps => q r ws H2 st hr ps⟩
def spLast (n s0 s1 l0 l1 : Int) : Spec := [("NoThree", []), ("Turned", [("x", (dSpot s0 s1))]), ("Unlike", []), ("BadDrawing", [("column", (.int n))]), ("BadCurve", []), ("BadStakes", []), ("NotFull", []), ("NotJoined", [("look", (.int n))]), ("NotEven", [("pair", (dSpot l0 l1))]), ("Unfounded", [("reason", (.tuple [(.str "sewn"), (dSpot l0 l1)]))]), ("BadChange", []), ("NotOf", []), ("NoDeed", []), ("IsSeen", []), ("HasThree", []), ("ManyPieces", []), ("NoPlan", [])]
theorem scLast : FnScope ["_law_number", "_law_spot", "_law_lot"] ["_law_number", "_law_spot", "_law_lot"] (defScope (topH 62)) := ⟨rfl, rfl, rfl, by decide +kernel, rfl, by decide +kernel, by decide +kernel⟩
theorem ok_last {P : Program} {w : World} {K : PySem.W.Frag} {mg : Str → Option Value} {base : Heap} {f : Addr} {fd : FuncData} (F : Fun K "_law_last_made" "_law_last_made" (topH 62) f fd) (T : Txt K mg) (ITurned : InD P w K mg base "Turned" ["x"]) (IBadDrawing : InD P w K mg base "BadDrawing" ["column"]) (INotJoined : InD P w K mg base "NotJoined" ["look"]) (INotEven : InD P w K mg base "NotEven" ["pair"]) (IUnfounded : InD P w K mg base "Unfounded" ["reason"]) :
    FnOk P w K mg base CX0 7 f fd ["_law_number", "_law_spot", "_law_lot"] (spMade K spLast) := by
  refine F.ok scLast (fun vs H Q E h => ?_) (fun cdv A outer s H vs Q E hr h => ?_)
  · obtain ⟨n, s0, s1, l0, l1, s, l, rfl, _⟩ := h
    rfl
  obtain ⟨n, s0, s1, l0, l1, s, l, rfl, hs, hl, q⟩ := h
  have hr6 := hr
  refine ⟨_, pss_one (ps_ret (mk_list (G := GM n s0 s1 l0 l1) (Rs := (spLast n s0 s1 l0 l1).map fun p => PX K p.1 p.2) (spec_steady _) (by show 17 ≤ 1000; decide) (mkl_cons gm_steady px_steady (mk_new0 T (by decide +kernel) (by decide +kernel) (by rfl) (by decide +kernel))
    (mkl_cons gm_steady px_steady (mk_new (fs := ["x"]) (ds := [(dSpot s0 s1)]) T ITurned (by decide +kernel) (by decide +kernel) (by rfl) (by decide +kernel) hr6 rfl (by show 1 ≤ 1000; decide) (flat_all (.tup 2 _ (by show 2 ≤ 1000; decide) (flat_all (.int _ _) (flat_all (.int _ _) flat_nil))) flat_nil) (mkl_cons gm_steady pd_steady (mk_v1 (pv 1)) mkl_nil))
    (mkl_cons gm_steady px_steady (mk_new0 T (by decide +kernel) (by decide +kernel) (by rfl) (by decide +kernel))
    (mkl_cons gm_steady px_steady (mk_new (fs := ["column"]) (ds := [(.int n)]) T IBadDrawing (by decide +kernel) (by decide +kernel) (by rfl) (by decide +kernel) hr6 rfl (by show 1 ≤ 1000; decide) (flat_all (.int _ _) flat_nil) (mkl_cons gm_steady pd_steady (mk_v0 (pv 0)) mkl_nil))
    (mkl_cons gm_steady px_steady (mk_new0 T (by decide +kernel) (by decide +kernel) (by rfl) (by decide +kernel))
    (mkl_cons gm_steady px_steady (mk_new0 T (by decide +kernel) (by decide +kernel) (by rfl) (by decide +kernel))
    (mkl_cons gm_steady px_steady (mk_new0 T (by decide +kernel) (by decide +kernel) (by rfl) (by decide +kernel))
    (mkl_cons gm_steady px_steady (mk_new (fs := ["look"]) (ds := [(.int n)]) T INotJoined (by decide +kernel) (by decide +kernel) (by rfl) (by decide +kernel) hr6 rfl (by show 1 ≤ 1000; decide) (flat_all (.int _ _) flat_nil) (mkl_cons gm_steady pd_steady (mk_v0 (pv 0)) mkl_nil))
    (mkl_cons gm_steady px_steady (mk_new (fs := ["pair"]) (ds := [(dSpot l0 l1)]) T INotEven (by decide +kernel) (by decide +kernel) (by rfl) (by decide +kernel) hr6 rfl (by show 1 ≤ 1000; decide) (flat_all (.tup 2 _ (by show 2 ≤ 1000; decide) (flat_all (.int _ _) (flat_all (.int _ _) flat_nil))) flat_nil) (mkl_cons gm_steady pd_steady (mk_v2 (pv 2)) mkl_nil))
    (mkl_cons gm_steady px_steady (mk_new (fs := ["reason"]) (ds := [(.tuple [(.str "sewn"), (dSpot l0 l1)])]) T IUnfounded (by decide +kernel) (by decide +kernel) (by rfl) (by decide +kernel) hr6 rfl (by show 1 ≤ 1000; decide) (flat_all (.tup 2 _ (by show 2 ≤ 1000; decide) (flat_all (.str _ _) (flat_all (.tup 1 _ (by show 2 ≤ 1000; decide) (flat_all (.int _ _) (flat_all (.int _ _) flat_nil))) flat_nil))) flat_nil) (mkl_cons gm_steady pd_steady (mk_tup (ds := [(.str "sewn"), (dSpot l0 l1)]) (by show 2 ≤ 1000; decide) (mkl_cons gm_steady pd_steady (mk_str pe_str) (mkl_cons gm_steady pd_steady (mk_v2 (pv 2)) mkl_nil))) mkl_nil))
    (mkl_cons gm_steady px_steady (mk_new0 T (by decide +kernel) (by decide +kernel) (by rfl) (by decide +kernel))
    (mkl_cons gm_steady px_steady (mk_new0 T (by decide +kernel) (by decide +kernel) (by rfl) (by decide +kernel))
    (mkl_cons gm_steady px_steady (mk_new0 T (by decide +kernel) (by decide +kernel) (by rfl) (by decide +kernel))
    (mkl_cons gm_steady px_steady (mk_new0 T (by decide +kernel) (by decide +kernel) (by rfl) (by decide +kernel))
    (mkl_cons gm_steady px_steady (mk_new0 T (by decide +kernel) (by decide +kernel) (by rfl) (by decide +kernel))
    (mkl_cons gm_steady px_steady (mk_new0 T (by decide +kernel) (by decide +kernel) (by rfl) (by decide +kernel))
    (mkl_cons gm_steady px_steady (mk_new0 T (by decide +kernel) (by decide +kernel) (by rfl) (by decide +kernel))
    mkl_nil))))))))))))))))))), ?_⟩
  exact ⟨⟨s, l, rfl, hs, hl⟩, fun r ws H2 st hr ps => q r ws H2 st hr ps⟩
end Hs
set_option maxHeartbeats 4000000
namespace Hs
open PySem L2
/-! ## which class: one mark a class -/
abbrev allN : List Str := ("SortsError" : Str) :: clsN
def IsE (H : Hp) (a C : Addr) : Prop := H a = some (exo a C none) ∨ ∃ dx fs, H a = some (exo a C (some dx)) ∧ H dx = some (exd dx fs)
theorem IsE.keep {H H2 : Hp} {a C : Addr} (s : Same H H2) (h : IsE H a C) : IsE H2 a C := by
  rcases h with h | ⟨dx, fs, h1, h2⟩
  · exact .inl (s _ _ h)
  · exact .inr ⟨dx, fs, s _ _ h1, s _ _ h2⟩
theorem ExR.isE {K : PySem.W.Frag} {H : Hp} {a C : Addr} {fs : List (Str × PyData)} (h : ExR K H a C fs) : IsE H a C := by
  rcases h with ⟨_, h⟩ | ⟨dx, kvs, h1, h2, _⟩
  · exact .inl h
  · exact .inr ⟨dx, kvs, h1, h2⟩
theorem Txt.exn2 {K : PySem.W.Frag} {mg : Str → Option Value} (T : Txt K mg) : ∀ x ∈ allN, Exn K (He.ga K x) := fun x m => by
  rcases List.mem_cons.mp m with rfl | m
  · exact T.exnS
  · exact T.exn x m
def marks (x : Str) (ys : List Str) : List V := ys.map fun y => V.bl (decide (x = y))
def tMarks (K : PySem.W.Frag) (ys : List Str) : TA := fun σ H Q => ∃ a x, σ = [some (.ref a)] ∧ x ∈ allN ∧ IsE H a (He.ga K x) ∧ Q (marks x ys) H
def tMark (K : PySem.W.Frag) (y : Str) : TE := fun σ H Q => ∃ a x, σ = [some (.ref a)] ∧ x ∈ allN ∧ IsE H a (He.ga K x) ∧ Q (.bl (decide (x = y))) H
section
variable {X : Cx} {e : Expr} {es : List Expr} {y : Str} {ys : List Str}
theorem marks_nil : PA X [] (tMarks X.K []) := paI pa_nil fun σ H Q ⟨_, _, _, _, _, q⟩ => q
theorem marks_cons (h : PE X e (tMark X.K y)) (t : PA X es (tMarks X.K ys)) (hs : starEach (e :: es) X.env = (false, eval e X.env) :: starEach es X.env := by rfl) : PA X (e :: es) (tMarks X.K (y :: ys)) :=
  paI (pa_cons h t hs) fun σ H Q ⟨a, x, e1, m, i, k⟩ => ⟨a, x, e1, m, i, a, x, e1, m, i, k⟩
theorem mark (T : Txt X.K X.mg) (hy : y ∈ clsN) (h : PE X e (tCB (rIsX X.K) (tCons (tVar 0) (tCons (tC (.ref (He.ga X.K y))) tNil)))) : PE X e (tMark X.K y) := peI h fun σ H Q ⟨a, x, e1, m, i, k⟩ => by
  subst e1
  exact ⟨_, rfl, a, He.ga X.K x, He.ga X.K y, _, rfl, T.exn2 x m, i, T.kit x m y hy, k⟩
end
def spOf (K : PySem.W.Frag) (ys : List Str) : Sp := fun vs H Q _ => ∃ (a : Addr) (x : Str), vs = [.ref a] ∧ x ∈ allN ∧ IsE H a (He.ga K x) ∧ ∀ r H2, Same H H2 → H2 r = some (.lst (marks x ys)) → Q (.ref r) H2
def ysFirst : List Str := ["BadNumber", "ByZero", "BadMatrix", "BadSize", "BadLot", "BadSpot", "BadTable", "BadSingle", "Disagrees", "NotSeen", "NeverMet", "OtherSizes", "BadText", "BadSort", "BadChances", "BadWorld", "NotTwo", "NotFair"]
theorem scOFirst : FnScope ["_law_one"] ["_law_one"] (defScope (topH 57)) := ⟨rfl, rfl, rfl, by decide +kernel, rfl, by decide +kernel, by decide +kernel⟩
theorem of_first {P : Program} {w : World} {K : PySem.W.Frag} {mg : Str → Option Value} {base : Heap} {f : Addr} {fd : FuncData} (F : Fun K "_law_of_first" "_law_of_first" (topH 57) f fd) (T : Txt K mg) : FnOk P w K mg base CX0 1 f fd ["_law_one"] (spOf K ysFirst) := by
  refine F.ok scOFirst (fun vs H Q E h => ?_) (fun cdv A outer s H vs Q E hr h => ?_)
  · obtain ⟨a, x, rfl, _⟩ := h
    rfl
  obtain ⟨a, x, rfl, hx, hi, q⟩ := h
  refine ⟨_, pss_one (ps_ret (pe_lst (t := tMarks K ysFirst) (marks_cons (mark T (by decide +kernel) (pe_callB (call_isX T.sp1 T.sp2) (by rfl) T.isi isi_b (pa_cons (pv 0) (pa_cons (pe_glob (by rfl) (T.glo _ (by decide +kernel)) rfl) pa_nil))))
    (marks_cons (mark T (by decide +kernel) (pe_callB (call_isX T.sp1 T.sp2) (by rfl) T.isi isi_b (pa_cons (pv 0) (pa_cons (pe_glob (by rfl) (T.glo _ (by decide +kernel)) rfl) pa_nil))))
    (marks_cons (mark T (by decide +kernel) (pe_callB (call_isX T.sp1 T.sp2) (by rfl) T.isi isi_b (pa_cons (pv 0) (pa_cons (pe_glob (by rfl) (T.glo _ (by decide +kernel)) rfl) pa_nil))))
    (marks_cons (mark T (by decide +kernel) (pe_callB (call_isX T.sp1 T.sp2) (by rfl) T.isi isi_b (pa_cons (pv 0) (pa_cons (pe_glob (by rfl) (T.glo _ (by decide +kernel)) rfl) pa_nil))))
    (marks_cons (mark T (by decide +kernel) (pe_callB (call_isX T.sp1 T.sp2) (by rfl) T.isi isi_b (pa_cons (pv 0) (pa_cons (pe_glob (by rfl) (T.glo _ (by decide +kernel)) rfl) pa_nil))))
    (marks_cons (mark T (by decide +kernel) (pe_callB (call_isX T.sp1 T.sp2) (by rfl) T.isi isi_b (pa_cons (pv 0) (pa_cons (pe_glob (by rfl) (T.glo _ (by decide +kernel)) rfl) pa_nil))))
    (marks_cons (mark T (by decide +kernel) (pe_callB (call_isX T.sp1 T.sp2) (by rfl) T.isi isi_b (pa_cons (pv 0) (pa_cons (pe_glob (by rfl) (T.glo _ (by decide +kernel)) rfl) pa_nil))))
    (marks_cons (mark T (by decide +kernel) (pe_callB (call_isX T.sp1 T.sp2) (by rfl) T.isi isi_b (pa_cons (pv 0) (pa_cons (pe_glob (by rfl) (T.glo _ (by decide +kernel)) rfl) pa_nil))))
    (marks_cons (mark T (by decide +kernel) (pe_callB (call_isX T.sp1 T.sp2) (by rfl) T.isi isi_b (pa_cons (pv 0) (pa_cons (pe_glob (by rfl) (T.glo _ (by decide +kernel)) rfl) pa_nil))))
    (marks_cons (mark T (by decide +kernel) (pe_callB (call_isX T.sp1 T.sp2) (by rfl) T.isi isi_b (pa_cons (pv 0) (pa_cons (pe_glob (by rfl) (T.glo _ (by decide +kernel)) rfl) pa_nil))))
    (marks_cons (mark T (by decide +kernel) (pe_callB (call_isX T.sp1 T.sp2) (by rfl) T.isi isi_b (pa_cons (pv 0) (pa_cons (pe_glob (by rfl) (T.glo _ (by decide +kernel)) rfl) pa_nil))))
    (marks_cons (mark T (by decide +kernel) (pe_callB (call_isX T.sp1 T.sp2) (by rfl) T.isi isi_b (pa_cons (pv 0) (pa_cons (pe_glob (by rfl) (T.glo _ (by decide +kernel)) rfl) pa_nil))))
    (marks_cons (mark T (by decide +kernel) (pe_callB (call_isX T.sp1 T.sp2) (by rfl) T.isi isi_b (pa_cons (pv 0) (pa_cons (pe_glob (by rfl) (T.glo _ (by decide +kernel)) rfl) pa_nil))))
    (marks_cons (mark T (by decide +kernel) (pe_callB (call_isX T.sp1 T.sp2) (by rfl) T.isi isi_b (pa_cons (pv 0) (pa_cons (pe_glob (by rfl) (T.glo _ (by decide +kernel)) rfl) pa_nil))))
    (marks_cons (mark T (by decide +kernel) (pe_callB (call_isX T.sp1 T.sp2) (by rfl) T.isi isi_b (pa_cons (pv 0) (pa_cons (pe_glob (by rfl) (T.glo _ (by decide +kernel)) rfl) pa_nil))))
    (marks_cons (mark T (by decide +kernel) (pe_callB (call_isX T.sp1 T.sp2) (by rfl) T.isi isi_b (pa_cons (pv 0) (pa_cons (pe_glob (by rfl) (T.glo _ (by decide +kernel)) rfl) pa_nil))))
    (marks_cons (mark T (by decide +kernel) (pe_callB (call_isX T.sp1 T.sp2) (by rfl) T.isi isi_b (pa_cons (pv 0) (pa_cons (pe_glob (by rfl) (T.glo _ (by decide +kernel)) rfl) pa_nil))))
    (marks_cons (mark T (by decide +kernel) (pe_callB (call_isX T.sp1 T.sp2) (by rfl) T.isi isi_b (pa_cons (pv 0) (pa_cons (pe_glob (by rfl) (T.glo _ (by decide +kernel)) rfl) pa_nil))))
    marks_nil)))))))))))))))))))), ?_⟩
  refine ⟨a, x, rfl, hx, hi, by show 18 ≤ sizeLine; decide, fun r hr' => ?_⟩
  exact q r _ (same_new (Same.refl H) hr' _) upd_same
def ysMiddle : List Str := ["BadLook", "BadPiece", "BadWalk", "Clash", "OtherPiece", "IsRinged", "IsTold", "NeedsRoot", "NeedsRoots", "NotLinked", "NoFair", "Outside", "NotBehind", "OtherSide", "OneSide", "NotRinged"]
theorem scOMiddle : FnScope ["_law_one"] ["_law_one"] (defScope (topH 58)) := ⟨rfl, rfl, rfl, by decide +kernel, rfl, by decide +kernel, by decide +kernel⟩
theorem of_middle {P : Program} {w : World} {K : PySem.W.Frag} {mg : Str → Option Value} {base : Heap} {f : Addr} {fd : FuncData} (F : Fun K "_law_of_middle" "_law_of_middle" (topH 58) f fd) (T : Txt K mg) : FnOk P w K mg base CX0 1 f fd ["_law_one"] (spOf K ysMiddle) := by
  refine F.ok scOMiddle (fun vs H Q E h => ?_) (fun cdv A outer s H vs Q E hr h => ?_)
  · obtain ⟨a, x, rfl, _⟩ := h
    rfl
  obtain ⟨a, x, rfl, hx, hi, q⟩ := h
  refine ⟨_, pss_one (ps_ret (pe_lst (t := tMarks K ysMiddle) (marks_cons (mark T (by decide +kernel) (pe_callB (call_isX T.sp1 T.sp2) (by rfl) T.isi isi_b (pa_cons (pv 0) (pa_cons (pe_glob (by rfl) (T.glo _ (by decide +kernel)) rfl) pa_nil))))
    (marks_cons (mark T (by decide +kernel) (pe_callB (call_isX T.sp1 T.sp2) (by rfl) T.isi isi_b (pa_cons (pv 0) (pa_cons (pe_glob (by rfl) (T.glo _ (by decide +kernel)) rfl) pa_nil))))
    (marks_cons (mark T (by decide +kernel) (pe_callB (call_isX T.sp1 T.sp2) (by rfl) T.isi isi_b (pa_cons (pv 0) (pa_cons (pe_glob (by rfl) (T.glo _ (by decide +kernel)) rfl) pa_nil))))
    (marks_cons (mark T (by decide +kernel) (pe_callB (call_isX T.sp1 T.sp2) (by rfl) T.isi isi_b (pa_cons (pv 0) (pa_cons (pe_glob (by rfl) (T.glo _ (by decide +kernel)) rfl) pa_nil))))
    (marks_cons (mark T (by decide +kernel) (pe_callB (call_isX T.sp1 T.sp2) (by rfl) T.isi isi_b (pa_cons (pv 0) (pa_cons (pe_glob (by rfl) (T.glo _ (by decide +kernel)) rfl) pa_nil))))
    (marks_cons (mark T (by decide +kernel) (pe_callB (call_isX T.sp1 T.sp2) (by rfl) T.isi isi_b (pa_cons (pv 0) (pa_cons (pe_glob (by rfl) (T.glo _ (by decide +kernel)) rfl) pa_nil))))
    (marks_cons (mark T (by decide +kernel) (pe_callB (call_isX T.sp1 T.sp2) (by rfl) T.isi isi_b (pa_cons (pv 0) (pa_cons (pe_glob (by rfl) (T.glo _ (by decide +kernel)) rfl) pa_nil))))
    (marks_cons (mark T (by decide +kernel) (pe_callB (call_isX T.sp1 T.sp2) (by rfl) T.isi isi_b (pa_cons (pv 0) (pa_cons (pe_glob (by rfl) (T.glo _ (by decide +kernel)) rfl) pa_nil))))
    (marks_cons (mark T (by decide +kernel) (pe_callB (call_isX T.sp1 T.sp2) (by rfl) T.isi isi_b (pa_cons (pv 0) (pa_cons (pe_glob (by rfl) (T.glo _ (by decide +kernel)) rfl) pa_nil))))
    (marks_cons (mark T (by decide +kernel) (pe_callB (call_isX T.sp1 T.sp2) (by rfl) T.isi isi_b (pa_cons (pv 0) (pa_cons (pe_glob (by rfl) (T.glo _ (by decide +kernel)) rfl) pa_nil))))
    (marks_cons (mark T (by decide +kernel) (pe_callB (call_isX T.sp1 T.sp2) (by rfl) T.isi isi_b (pa_cons (pv 0) (pa_cons (pe_glob (by rfl) (T.glo _ (by decide +kernel)) rfl) pa_nil))))
    (marks_cons (mark T (by decide +kernel) (pe_callB (call_isX T.sp1 T.sp2) (by rfl) T.isi isi_b (pa_cons (pv 0) (pa_cons (pe_glob (by rfl) (T.glo _ (by decide +kernel)) rfl) pa_nil))))
    (marks_cons (mark T (by decide +kernel) (pe_callB (call_isX T.sp1 T.sp2) (by rfl) T.isi isi_b (pa_cons (pv 0) (pa_cons (pe_glob (by rfl) (T.glo _ (by decide +kernel)) rfl) pa_nil))))
    (marks_cons (mark T (by decide +kernel) (pe_callB (call_isX T.sp1 T.sp2) (by rfl) T.isi isi_b (pa_cons (pv 0) (pa_cons (pe_glob (by rfl) (T.glo _ (by decide +kernel)) rfl) pa_nil))))
    (marks_cons (mark T (by decide +kernel) (pe_callB (call_isX T.sp1 T.sp2) (by rfl) T.isi isi_b (pa_cons (pv 0) (pa_cons (pe_glob (by rfl) (T.glo _ (by decide +kernel)) rfl) pa_nil))))
    (marks_cons (mark T (by decide +kernel) (pe_callB (call_isX T.sp1 T.sp2) (by rfl) T.isi isi_b (pa_cons (pv 0) (pa_cons (pe_glob (by rfl) (T.glo _ (by decide +kernel)) rfl) pa_nil))))
    marks_nil)))))))))))))))))), ?_⟩
  refine ⟨a, x, rfl, hx, hi, by show 16 ≤ sizeLine; decide, fun r hr' => ?_⟩
  exact q r _ (same_new (Same.refl H) hr' _) upd_same
def ysLast : List Str := ["NoThree", "Turned", "Unlike", "BadDrawing", "BadCurve", "BadStakes", "NotFull", "NotJoined", "NotEven", "Unfounded", "BadChange", "NotOf", "NoDeed", "IsSeen", "HasThree", "ManyPieces", "NoPlan"]
theorem scOLast : FnScope ["_law_one"] ["_law_one"] (defScope (topH 59)) := ⟨rfl, rfl, rfl, by decide +kernel, rfl, by decide +kernel, by decide +kernel⟩
theorem of_last {P : Program} {w : World} {K : PySem.W.Frag} {mg : Str → Option Value} {base : Heap} {f : Addr} {fd : FuncData} (F : Fun K "_law_of_last" "_law_of_last" (topH 59) f fd) (T : Txt K mg) : FnOk P w K mg base CX0 1 f fd ["_law_one"] (spOf K ysLast) := by
  refine F.ok scOLast (fun vs H Q E h => ?_) (fun cdv A outer s H vs Q E hr h => ?_)
  · obtain ⟨a, x, rfl, _⟩ := h
    rfl
  obtain ⟨a, x, rfl, hx, hi, q⟩ := h
  refine ⟨_, pss_one (ps_ret (pe_lst (t := tMarks K ysLast) (marks_cons (mark T (by decide +kernel) (pe_callB (call_isX T.sp1 T.sp2) (by rfl) T.isi isi_b (pa_cons (pv 0) (pa_cons (pe_glob (by rfl) (T.glo _ (by decide +kernel)) rfl) pa_nil))))
    (marks_cons (mark T (by decide +kernel) (pe_callB (call_isX T.sp1 T.sp2) (by rfl) T.isi isi_b (pa_cons (pv 0) (pa_cons (pe_glob (by rfl) (T.glo _ (by decide +kernel)) rfl) pa_nil))))
    (marks_cons (mark T (by decide +kernel) (pe_callB (call_isX T.sp1 T.sp2) (by rfl) T.isi isi_b (pa_cons (pv 0) (pa_cons (pe_glob (by rfl) (T.glo _ (by decide +kernel)) rfl) pa_nil))))
    (marks_cons (mark T (by decide +kernel) (pe_callB (call_isX T.sp1 T.sp2) (by rfl) T.isi isi_b (pa_cons (pv 0) (pa_cons (pe_glob (by rfl) (T.glo _ (by decide +kernel)) rfl) pa_nil))))
    (marks_cons (mark T (by decide +kernel) (pe_callB (call_isX T.sp1 T.sp2) (by rfl) T.isi isi_b (pa_cons (pv 0) (pa_cons (pe_glob (by rfl) (T.glo _ (by decide +kernel)) rfl) pa_nil))))
    (marks_cons (mark T (by decide +kernel) (pe_callB (call_isX T.sp1 T.sp2) (by rfl) T.isi isi_b (pa_cons (pv 0) (pa_cons (pe_glob (by rfl) (T.glo _ (by decide +kernel)) rfl) pa_nil))))
    (marks_cons (mark T (by decide +kernel) (pe_callB (call_isX T.sp1 T.sp2) (by rfl) T.isi isi_b (pa_cons (pv 0) (pa_cons (pe_glob (by rfl) (T.glo _ (by decide +kernel)) rfl) pa_nil))))
    (marks_cons (mark T (by decide +kernel) (pe_callB (call_isX T.sp1 T.sp2) (by rfl) T.isi isi_b (pa_cons (pv 0) (pa_cons (pe_glob (by rfl) (T.glo _ (by decide +kernel)) rfl) pa_nil))))
    (marks_cons (mark T (by decide +kernel) (pe_callB (call_isX T.sp1 T.sp2) (by rfl) T.isi isi_b (pa_cons (pv 0) (pa_cons (pe_glob (by rfl) (T.glo _ (by decide +kernel)) rfl) pa_nil))))
    (marks_cons (mark T (by decide +kernel) (pe_callB (call_isX T.sp1 T.sp2) (by rfl) T.isi isi_b (pa_cons (pv 0) (pa_cons (pe_glob (by rfl) (T.glo _ (by decide +kernel)) rfl) pa_nil))))
    (marks_cons (mark T (by decide +kernel) (pe_callB (call_isX T.sp1 T.sp2) (by rfl) T.isi isi_b (pa_cons (pv 0) (pa_cons (pe_glob (by rfl) (T.glo _ (by decide +kernel)) rfl) pa_nil))))
    (marks_cons (mark T (by decide +kernel) (pe_callB (call_isX T.sp1 T.sp2) (by rfl) T.isi isi_b (pa_cons (pv 0) (pa_cons (pe_glob (by rfl) (T.glo _ (by decide +kernel)) rfl) pa_nil))))
    (marks_cons (mark T (by decide +kernel) (pe_callB (call_isX T.sp1 T.sp2) (by rfl) T.isi isi_b (pa_cons (pv 0) (pa_cons (pe_glob (by rfl) (T.glo _ (by decide +kernel)) rfl) pa_nil))))
    (marks_cons (mark T (by decide +kernel) (pe_callB (call_isX T.sp1 T.sp2) (by rfl) T.isi isi_b (pa_cons (pv 0) (pa_cons (pe_glob (by rfl) (T.glo _ (by decide +kernel)) rfl) pa_nil))))
    (marks_cons (mark T (by decide +kernel) (pe_callB (call_isX T.sp1 T.sp2) (by rfl) T.isi isi_b (pa_cons (pv 0) (pa_cons (pe_glob (by rfl) (T.glo _ (by decide +kernel)) rfl) pa_nil))))
    (marks_cons (mark T (by decide +kernel) (pe_callB (call_isX T.sp1 T.sp2) (by rfl) T.isi isi_b (pa_cons (pv 0) (pa_cons (pe_glob (by rfl) (T.glo _ (by decide +kernel)) rfl) pa_nil))))
    (marks_cons (mark T (by decide +kernel) (pe_callB (call_isX T.sp1 T.sp2) (by rfl) T.isi isi_b (pa_cons (pv 0) (pa_cons (pe_glob (by rfl) (T.glo _ (by decide +kernel)) rfl) pa_nil))))
    marks_nil))))))))))))))))))), ?_⟩
  refine ⟨a, x, rfl, hx, hi, by show 17 ≤ sizeLine; decide, fun r hr' => ?_⟩
  exact q r _ (same_new (Same.refl H) hr' _) upd_same
/-! ## the three that look whether all is kept -/
def tNo (G : St → Hp → Prop) : TT := fun σ H Q => G σ H ∧ ∀ H2, Same H H2 → Q false H2
section
variable {X : Cx} {G : St → Hp → Prop} {a b : Expr} {rest : List Expr} {pos : Pos} {d : PyData}
theorem ptI {e : Expr} {t t2 : TT} (h : PT X e t) (i : ∀ σ H Q, t2 σ H Q → t σ H Q) : PT X e t2 := ⟨fun pins s σ H Q I k => h.run pins s σ H Q I (i σ H Q k)⟩
theorem pwI {e : Expr} {t t2 : TT} (h : PW X e t) (i : ∀ σ H Q, t2 σ H Q → t σ H Q) : PW X e t2 := ⟨fun wh pins s σ H Q I k => h.run wh pins s σ H Q I (i σ H Q k)⟩
theorem ne_no (sG : Steady1 G) (hu : X.A.units + 64 < cLine) (sh : SeqAt.shaped d = true) (ev : PyData.eqv d d = true) (h1 : Mk1 X G a (PD X.K d)) (h2 : Mk1 X G b (PD X.K d)) : PT X (.Compare a [.NotEq] [b] pos) (tNo G) :=
  ptI (pt_cmpR (op_neD hu) h1 h2 (nomark _)) fun σ H Q k => ⟨k.1, fun v H1 s1 p1 => ⟨sG σ H H1 s1 k.1, fun u H2 s2 p2 => ⟨d, d, Dp.keep (Keeps.of s2) d v p1, p2, sh, sh, _, rfl, by
    rw [ev]
    exact k.2 H2 (s1.trans s2)⟩⟩⟩
theorem or_no (sG : Steady1 G) (h1 : PT X a (tNo G)) (h2 : PW X (.BoolOp .Or (b :: rest) pos) (tNo G)) : PW X (.BoolOp .Or (a :: b :: rest) pos) (tNo G) :=
  pwI (pw_or h1 h2) fun σ H Q k => ⟨k.1, fun H1 s1 => iteF ⟨sG σ H H1 s1 k.1, fun H2 s2 => k.2 H2 (s1.trans s2)⟩⟩
theorem eq_yes (sG : Steady1 G) (hu : X.A.units + 64 < cLine) (sh : SeqAt.shaped d = true) (ev : PyData.eqv d d = true) (h1 : Mk1 X G a (PD X.K d)) (h2 : Mk1 X G b (PD X.K d)) : PE X (.Compare a [.Eq] [b] pos) (fun σ H Q => G σ H ∧ ∀ H2, Same H H2 → Q (.bl true) H2) :=
  peI (pe_cmpR (op_eqD hu) h1 h2 (nomark _)) fun σ H Q k => ⟨k.1, fun v H1 s1 p1 => ⟨sG σ H H1 s1 k.1, fun u H2 s2 p2 => ⟨d, d, Dp.keep (Keeps.of s2) d v p1, p2, sh, sh, by
    rw [ev]
    exact k.2 H2 (s1.trans s2)⟩⟩⟩
theorem and_yes (sG : Steady1 G) (h1 : PE X a (fun σ H Q => G σ H ∧ ∀ H2, Same H H2 → Q (.bl true) H2)) (h2 : PE X (.BoolOp .And (b :: rest) pos) (fun σ H Q => G σ H ∧ ∀ H2, Same H H2 → Q (.bl true) H2)) :
    PE X (.BoolOp .And (a :: b :: rest) pos) (fun σ H Q => G σ H ∧ ∀ H2, Same H H2 → Q (.bl true) H2) :=
  peI (pe_and h1 h2) fun σ H Q k => ⟨k.1, fun H1 s1 => ⟨true, rfl, iteT ⟨sG σ H H1 s1 k.1, fun H2 s2 => k.2 H2 (s1.trans s2)⟩⟩⟩
end
theorem Ps.keep {H H2 : Hp} (s : Same H H2) : ∀ {vs : List V} {Rs : List Pst}, (∀ R ∈ Rs, SteadyP R) → Ps H vs Rs → Ps H2 vs Rs
  | _, _, _, .nil => .nil
  | _, _, f, .cons h t => .cons (f _ List.mem_cons_self _ _ _ s h) (Ps.keep s (fun R m => f R (List.mem_cons_of_mem _ m)) t)
theorem Ps.at {H : Hp} : ∀ {vs : List V} {Rs : List Pst} {i : Nat} {R : Pst}, Ps H vs Rs → Rs[i]? = some R → ∃ v, vs[i]? = some v ∧ R H v
  | _, _, _, _, .nil, e => by simp at e
  | _, _, 0, _, .cons h _, e => by
    simp at e
    subst e
    exact ⟨_, rfl, h⟩
  | _, _, i + 1, _, .cons _ t, e => by
    obtain ⟨v, e1, e2⟩ := Ps.at (i := i) t (by simpa using e)
    exact ⟨v, by simpa using e1, e2⟩
theorem Ps.len {H : Hp} : ∀ {vs : List V} {Rs : List Pst}, Ps H vs Rs → vs.length = Rs.length
  | _, _, .nil => rfl
  | _, _, .cons _ t => congrArg (· + 1) (Ps.len t)
theorem Ps.app {H : Hp} : ∀ {vs us : List V} {Rs Ts : List Pst}, Ps H vs Rs → Ps H us Ts → Ps H (vs ++ us) (Rs ++ Ts)
  | _, _, _, _, .nil, k => k
  | _, _, _, _, .cons h t, k => .cons h (Ps.app t k)
def GK (K : PySem.W.Frag) (sp : Spec) (n s0 s1 l0 l1 : Int) (tl : Addr → St) : St → Hp → Prop := fun σ H => ∃ r ws s l, σ = some (.ref r) :: some (.int n) :: some (.ref s) :: tl l ∧ H r = some (.lst ws) ∧ Ps H ws (sp.map fun p => PX K p.1 p.2) ∧ H s = some (.tup [.int s0, .int s1]) ∧ H l = some (.tup [.int l0, .int l1])
section
variable {X : Cx} {e : Expr} {n s0 s1 l0 l1 : Int} {sp : Spec} {tl : Addr → St}
theorem gk_steady {K : PySem.W.Frag} : Steady1 (GK K sp n s0 s1 l0 l1 tl) := fun σ H H2 st ⟨r, ws, s, l, e, h1, h2, h3, h4⟩ => ⟨r, ws, s, l, e, st _ _ h1, h2.keep st (spec_steady sp), st _ _ h3, st _ _ h4⟩
theorem gk_n (h : PE X e (tVar 1)) : Mk1 X (GK X.K sp n s0 s1 l0 l1 tl) e (PD X.K (.int n)) := peI h fun σ H Q ⟨⟨r, ws, s, l, e, _⟩, k⟩ => by
  subst e
  exact ⟨_, rfl, k _ _ (Same.refl H) (.int n)⟩
theorem gk_s (h : PE X e (tVar 2)) : Mk1 X (GK X.K sp n s0 s1 l0 l1 tl) e (PD X.K (dSpot s0 s1)) := peI h fun σ H Q ⟨⟨r, ws, s, l, e, _, _, h1, h2⟩, k⟩ => by
  subst e
  exact ⟨_, rfl, k _ _ (Same.refl H) (.tup (SqT.of h1) (.cons (.int _) (.cons (.int _) .nil)))⟩
theorem gk_l (h : PE X e (tVar 3)) : Mk1 X (GK X.K sp n s0 s1 l0 l1 fun l => [some (.ref l)]) e (PD X.K (dSpot l0 l1)) := peI h fun σ H Q ⟨⟨r, ws, s, l, e, _, _, h1, h2⟩, k⟩ => by
  subst e
  exact ⟨_, rfl, k _ _ (Same.refl H) (.tup (SqT.of h2) (.cons (.int _) (.cons (.int _) .nil)))⟩
theorem gk_s0 (h : PE X e (tOp (rIxT X.K) (tVar 2) (tC (.int 0)))) : Mk1 X (GK X.K sp n s0 s1 l0 l1 tl) e (PD X.K (.int s0)) := peI h fun σ H Q ⟨⟨r, ws, s, l, e, _, _, h1, h2⟩, k⟩ => by
  subst e
  exact ⟨_, rfl, s, _, 0, _, rfl, rfl, SqT.of h1, atI_nat (j := 0) rfl, k _ _ (Same.refl H) (.int s0)⟩
theorem gk_int {i : Int} (h : PE X e (tC (.int i))) : Mk1 X (GK X.K sp n s0 s1 l0 l1 tl) e (PD X.K (.int i)) := peI h fun σ H Q k => k.2 _ _ (Same.refl H) (.int i)
theorem gk_str {x : Str} (h : PE X e (tC (.str x))) : Mk1 X (GK X.K sp n s0 s1 l0 l1 tl) e (PD X.K (.str x)) := peI h fun σ H Q k => k.2 _ _ (Same.refl H) (.str x)
/-- errors[i].f -/
theorem gk_fld (T : Txt X.K X.mg) (i : Nat) (x f : Str) {fs : List (Str × PyData)} {d : PyData} (hsp : sp[i]? = some (x, fs)) (hlk : fs.lookup f = some d) (hx : x ∈ clsN) (hf : (x, f) ∈ fieldN) (h : PE X e (tAttr X.K f (tOp (rIxL X.K) (tVar 0) (tC (.int (i : Int)))))) :
    Mk1 X (GK X.K sp n s0 s1 l0 l1 tl) e (PD X.K d) := peI h fun σ H Q ⟨⟨r, ws, s, l, e, hr, hp, _⟩, k⟩ => by
  subst e
  obtain ⟨v, hv, a, ea, hE⟩ := hp.at (i := i) (R := PX X.K x fs) (by rw [List.getElem?_map, hsp]; rfl)
  subst ea
  rcases hE with ⟨e0, _⟩ | ⟨dx, kvs, h1, h2, lk⟩
  · rw [e0] at hlk
    cases hlk
  · obtain ⟨u, hu, du⟩ := lk f d hlk
    exact ⟨_, rfl, r, ws, i, _, rfl, rfl, SqL.of hr, atI_nat hv, a, _, dx, kvs, u, rfl, T.exn x hx, T.fld (x, f) hf, h1, h2, hu, k _ _ (Same.refl H) du⟩
end
theorem scKFirst : FnScope ["_law_errors", "_law_number", "_law_spot", "_law_lot"] ["_law_errors", "_law_number", "_law_spot", "_law_lot"] (defScope (topH 63)) := ⟨rfl, rfl, rfl, by decide +kernel, rfl, by decide +kernel, by decide +kernel⟩
/-- all is kept: True -/
def spAll (K : PySem.W.Frag) (sp : Int → Int → Int → Int → Int → Spec) (more : Addr → List V) : Sp := fun vs H Q _ => ∃ (n s0 s1 l0 l1 : Int) (r s l : Addr) (ws : List V), vs = .ref r :: .int n :: .ref s :: more l ∧ H r = some (.lst ws) ∧ Ps H ws ((sp n s0 s1 l0 l1).map fun p => PX K p.1 p.2) ∧ H s = some (.tup [.int s0, .int s1]) ∧ H l = some (.tup [.int l0, .int l1]) ∧
  ∀ H2, Same H H2 → Q (.bl true) H2
theorem kept_first {P : Program} {w : World} {K : PySem.W.Frag} {mg : Str → Option Value} {base : Heap} {f : Addr} {fd : FuncData} (F : Fun K "_law_first_kept" "_law_first_kept" (topH 63) f fd) (T : Txt K mg) : FnOk P w K mg base CX0 1 f fd ["_law_errors", "_law_number", "_law_spot", "_law_lot"] (spAll K spFirst (fun l => [.ref l])) := by
  refine F.ok scKFirst (fun vs H Q E h => ?_) (fun cdv A outer s H vs Q E hr h => ?_)
  · obtain ⟨n, s0, s1, l0, l1, r, s, l, ws, rfl, _⟩ := h
    rfl
  obtain ⟨n, s0, s1, l0, l1, r, s, l, ws, rfl, h1, h2, h3, h4, q⟩ := h
  have hu := hr.units
  have sg : Steady1 (GK K (spFirst n s0 s1 l0 l1) n s0 s1 l0 l1 (fun l => [some (.ref l)])) := gk_steady
  refine ⟨_, (pss_cons (ps_if (PW.pt (or_no sg (ne_no (d := (.int n)) sg hu (by simp [SeqAt.shaped, PyData.canLay0, PyData.canLayAll0, PyData.depth, PyData.depthAll, dSpot] <;> decide +kernel) (by simp [PyData.eqv, PyData.eqvAll, dSpot]) (gk_fld T 4 "BadLot" "place" (sp := spFirst n s0 s1 l0 l1) (fs := [("place", (.int n))]) (by rfl) (by rfl) (by decide +kernel) (by decide +kernel) (pe_attr (pe_ix ix_list (pv 0) pe_int (fun _ _ => rfl)))) (gk_n (pv 1)))
      (or_no sg (ne_no (d := (.int n)) sg hu (by simp [SeqAt.shaped, PyData.canLay0, PyData.canLayAll0, PyData.depth, PyData.depthAll, dSpot] <;> decide +kernel) (by simp [PyData.eqv, PyData.eqvAll, dSpot]) (gk_fld T 6 "BadTable" "place" (sp := spFirst n s0 s1 l0 l1) (fs := [("place", (.int n))]) (by rfl) (by rfl) (by decide +kernel) (by decide +kernel) (pe_attr (pe_ix ix_list (pv 0) pe_int (fun _ _ => rfl)))) (gk_n (pv 1)))
      (pw_or1 (ne_no (d := (.int n)) sg hu (by simp [SeqAt.shaped, PyData.canLay0, PyData.canLayAll0, PyData.depth, PyData.depthAll, dSpot] <;> decide +kernel) (by simp [PyData.eqv, PyData.eqvAll, dSpot]) (gk_fld T 7 "BadSingle" "look" (sp := spFirst n s0 s1 l0 l1) (fs := [("look", (.int n))]) (by rfl) (by rfl) (by decide +kernel) (by decide +kernel) (pe_attr (pe_ix ix_list (pv 0) pe_int (fun _ _ => rfl)))) (gk_n (pv 1))))))) (pss_one (ps_ret pe_bl)) pss_nil)
    (pss_cons (ps_if (PW.pt (or_no sg (ne_no (d := (dSpot l0 l1)) sg hu (by simp [SeqAt.shaped, PyData.canLay0, PyData.canLayAll0, PyData.depth, PyData.depthAll, dSpot] <;> decide +kernel) (by simp [PyData.eqv, PyData.eqvAll, dSpot]) (gk_fld T 8 "Disagrees" "lot" (sp := spFirst n s0 s1 l0 l1) (fs := [("lot", (dSpot l0 l1)), ("other", (.tuple [(.int n)]))]) (by rfl) (by rfl) (by decide +kernel) (by decide +kernel) (pe_attr (pe_ix ix_list (pv 0) pe_int (fun _ _ => rfl)))) (gk_l (pv 3)))
      (or_no sg (ne_no (d := (.tuple [(.int n)])) sg hu (by simp [SeqAt.shaped, PyData.canLay0, PyData.canLayAll0, PyData.depth, PyData.depthAll, dSpot] <;> decide +kernel) (by simp [PyData.eqv, PyData.eqvAll, dSpot]) (gk_fld T 8 "Disagrees" "other" (sp := spFirst n s0 s1 l0 l1) (fs := [("lot", (dSpot l0 l1)), ("other", (.tuple [(.int n)]))]) (by rfl) (by rfl) (by decide +kernel) (by decide +kernel) (pe_attr (pe_ix ix_list (pv 0) pe_int (fun _ _ => rfl)))) (mk_tup (ds := [(.int n)]) (by show 1 ≤ 1000; decide) (mkl_cons sg pd_steady (gk_n (pv 1)) mkl_nil)))
      (pw_or1 (ne_no (d := (dSpot l0 l1)) sg hu (by simp [SeqAt.shaped, PyData.canLay0, PyData.canLayAll0, PyData.depth, PyData.depthAll, dSpot] <;> decide +kernel) (by simp [PyData.eqv, PyData.eqvAll, dSpot]) (gk_fld T 9 "NotSeen" "lot" (sp := spFirst n s0 s1 l0 l1) (fs := [("lot", (dSpot l0 l1))]) (by rfl) (by rfl) (by decide +kernel) (by decide +kernel) (pe_attr (pe_ix ix_list (pv 0) pe_int (fun _ _ => rfl)))) (gk_l (pv 3))))))) (pss_one (ps_ret pe_bl)) pss_nil)
    (pss_cons (ps_if (PW.pt (or_no sg (ne_no (d := (dSpot s0 s1)) sg hu (by simp [SeqAt.shaped, PyData.canLay0, PyData.canLayAll0, PyData.depth, PyData.depthAll, dSpot] <;> decide +kernel) (by simp [PyData.eqv, PyData.eqvAll, dSpot]) (gk_fld T 10 "NeverMet" "spot" (sp := spFirst n s0 s1 l0 l1) (fs := [("spot", (dSpot s0 s1))]) (by rfl) (by rfl) (by decide +kernel) (by decide +kernel) (pe_attr (pe_ix ix_list (pv 0) pe_int (fun _ _ => rfl)))) (gk_s (pv 2)))
      (pw_or1 (ne_no (d := (.int n)) sg hu (by simp [SeqAt.shaped, PyData.canLay0, PyData.canLayAll0, PyData.depth, PyData.depthAll, dSpot] <;> decide +kernel) (by simp [PyData.eqv, PyData.eqvAll, dSpot]) (gk_fld T 12 "BadText" "line" (sp := spFirst n s0 s1 l0 l1) (fs := [("line", (.int n))]) (by rfl) (by rfl) (by decide +kernel) (by decide +kernel) (pe_attr (pe_ix ix_list (pv 0) pe_int (fun _ _ => rfl)))) (gk_n (pv 1)))))) (pss_one (ps_ret pe_bl)) pss_nil)
    (pss_one (ps_ret (and_yes sg (eq_yes (d := (.int n)) sg hu (by simp [SeqAt.shaped, PyData.canLay0, PyData.canLayAll0, PyData.depth, PyData.depthAll, dSpot] <;> decide +kernel) (by simp [PyData.eqv, PyData.eqvAll, dSpot]) (gk_fld T 15 "BadWorld" "which" (sp := spFirst n s0 s1 l0 l1) (fs := [("which", (.int n)), ("look", (.int s0))]) (by rfl) (by rfl) (by decide +kernel) (by decide +kernel) (pe_attr (pe_ix ix_list (pv 0) pe_int (fun _ _ => rfl)))) (gk_n (pv 1)))
      (pe_one (eq_yes (d := (.int s0)) sg hu (by simp [SeqAt.shaped, PyData.canLay0, PyData.canLayAll0, PyData.depth, PyData.depthAll, dSpot] <;> decide +kernel) (by simp [PyData.eqv, PyData.eqvAll, dSpot]) (gk_fld T 15 "BadWorld" "look" (sp := spFirst n s0 s1 l0 l1) (fs := [("which", (.int n)), ("look", (.int s0))]) (by rfl) (by rfl) (by decide +kernel) (by decide +kernel) (pe_attr (pe_ix ix_list (pv 0) pe_int (fun _ _ => rfl)))) (gk_s0 (pe_ix ix_tup (pv 2) pe_int (fun _ _ => rfl))))))))))), ?_⟩
  have g : GK K (spFirst n s0 s1 l0 l1) n s0 s1 l0 l1 (fun l => [some (.ref l)]) (start ["_law_errors", "_law_number", "_law_spot", "_law_lot"] (.ref r :: .int n :: .ref s :: [.ref l])) H := ⟨r, ws, s, l, rfl, h1, h2, h3, h4⟩
  exact ⟨g, fun H1 st1 => iteF ⟨gk_steady _ _ _ st1 g, fun H2 st2 => iteF ⟨gk_steady _ _ _ (st1.trans st2) g, fun H3 st3 => iteF ⟨gk_steady _ _ _ ((st1.trans st2).trans st3) g, fun H4 st4 => q H4 (((st1.trans st2).trans st3).trans st4)⟩⟩⟩⟩
theorem scKMiddle : FnScope ["_law_errors", "_law_number", "_law_spot"] ["_law_errors", "_law_number", "_law_spot"] (defScope (topH 64)) := ⟨rfl, rfl, rfl, by decide +kernel, rfl, by decide +kernel, by decide +kernel⟩
theorem kept_middle {P : Program} {w : World} {K : PySem.W.Frag} {mg : Str → Option Value} {base : Heap} {f : Addr} {fd : FuncData} (F : Fun K "_law_middle_kept" "_law_middle_kept" (topH 64) f fd) (T : Txt K mg) : FnOk P w K mg base CX0 1 f fd ["_law_errors", "_law_number", "_law_spot"] (spAll K spMiddle (fun _ => [])) := by
  refine F.ok scKMiddle (fun vs H Q E h => ?_) (fun cdv A outer s H vs Q E hr h => ?_)
  · obtain ⟨n, s0, s1, l0, l1, r, s, l, ws, rfl, _⟩ := h
    rfl
  obtain ⟨n, s0, s1, l0, l1, r, s, l, ws, rfl, h1, h2, h3, h4, q⟩ := h
  have hu := hr.units
  have sg : Steady1 (GK K (spMiddle n s0 s1 l0 l1) n s0 s1 l0 l1 (fun _ => [])) := gk_steady
  refine ⟨_, (pss_cons (ps_if (PW.pt (or_no sg (ne_no (d := (.int n)) sg hu (by simp [SeqAt.shaped, PyData.canLay0, PyData.canLayAll0, PyData.depth, PyData.depthAll, dSpot] <;> decide +kernel) (by simp [PyData.eqv, PyData.eqvAll, dSpot]) (gk_fld T 2 "BadWalk" "place" (sp := spMiddle n s0 s1 l0 l1) (fs := [("place", (.int n))]) (by rfl) (by rfl) (by decide +kernel) (by decide +kernel) (pe_attr (pe_ix ix_list (pv 0) pe_int (fun _ _ => rfl)))) (gk_n (pv 1)))
      (pw_or1 (ne_no (d := (.tuple [(.str "apart"), (.int n), (.int s0)])) sg hu (by simp [SeqAt.shaped, PyData.canLay0, PyData.canLayAll0, PyData.depth, PyData.depthAll, dSpot] <;> decide +kernel) (by simp [PyData.eqv, PyData.eqvAll, dSpot]) (gk_fld T 3 "Clash" "reason" (sp := spMiddle n s0 s1 l0 l1) (fs := [("reason", (.tuple [(.str "apart"), (.int n), (.int s0)]))]) (by rfl) (by rfl) (by decide +kernel) (by decide +kernel) (pe_attr (pe_ix ix_list (pv 0) pe_int (fun _ _ => rfl)))) (mk_tup (ds := [(.str "apart"), (.int n), (.int s0)]) (by show 3 ≤ 1000; decide) (mkl_cons sg pd_steady (gk_str pe_str) (mkl_cons sg pd_steady (gk_n (pv 1)) (mkl_cons sg pd_steady (gk_s0 (pe_ix ix_tup (pv 2) pe_int (fun _ _ => rfl))) mkl_nil)))))))) (pss_one (ps_ret pe_bl)) pss_nil)
    (pss_cons (ps_if (PW.pt (or_no sg (ne_no (d := (.tuple [(.int n), (.int 3)])) sg hu (by simp [SeqAt.shaped, PyData.canLay0, PyData.canLayAll0, PyData.depth, PyData.depthAll, dSpot] <;> decide +kernel) (by simp [PyData.eqv, PyData.eqvAll, dSpot]) (gk_fld T 7 "NeedsRoot" "number" (sp := spMiddle n s0 s1 l0 l1) (fs := [("number", (.tuple [(.int n), (.int 3)]))]) (by rfl) (by rfl) (by decide +kernel) (by decide +kernel) (pe_attr (pe_ix ix_list (pv 0) pe_int (fun _ _ => rfl)))) (mk_tup (ds := [(.int n), (.int 3)]) (by show 2 ≤ 1000; decide) (mkl_cons sg pd_steady (gk_n (pv 1)) (mkl_cons sg pd_steady (gk_int pe_int) mkl_nil))))
      (or_no sg (ne_no (d := (dSpot s0 s1)) sg hu (by simp [SeqAt.shaped, PyData.canLay0, PyData.canLayAll0, PyData.depth, PyData.depthAll, dSpot] <;> decide +kernel) (by simp [PyData.eqv, PyData.eqvAll, dSpot]) (gk_fld T 8 "NeedsRoots" "x" (sp := spMiddle n s0 s1 l0 l1) (fs := [("x", (dSpot s0 s1)), ("y", (.tuple [(.int n), (.int 1)]))]) (by rfl) (by rfl) (by decide +kernel) (by decide +kernel) (pe_attr (pe_ix ix_list (pv 0) pe_int (fun _ _ => rfl)))) (gk_s (pv 2)))
      (pw_or1 (ne_no (d := (.tuple [(.int n), (.int 1)])) sg hu (by simp [SeqAt.shaped, PyData.canLay0, PyData.canLayAll0, PyData.depth, PyData.depthAll, dSpot] <;> decide +kernel) (by simp [PyData.eqv, PyData.eqvAll, dSpot]) (gk_fld T 8 "NeedsRoots" "y" (sp := spMiddle n s0 s1 l0 l1) (fs := [("x", (dSpot s0 s1)), ("y", (.tuple [(.int n), (.int 1)]))]) (by rfl) (by rfl) (by decide +kernel) (by decide +kernel) (pe_attr (pe_ix ix_list (pv 0) pe_int (fun _ _ => rfl)))) (mk_tup (ds := [(.int n), (.int 1)]) (by show 2 ≤ 1000; decide) (mkl_cons sg pd_steady (gk_n (pv 1)) (mkl_cons sg pd_steady (gk_int pe_int) mkl_nil)))))))) (pss_one (ps_ret pe_bl)) pss_nil)
    (pss_one (ps_ret (and_yes sg (eq_yes (d := (dSpot s0 s1)) sg hu (by simp [SeqAt.shaped, PyData.canLay0, PyData.canLayAll0, PyData.depth, PyData.depthAll, dSpot] <;> decide +kernel) (by simp [PyData.eqv, PyData.eqvAll, dSpot]) (gk_fld T 10 "NoFair" "x" (sp := spMiddle n s0 s1 l0 l1) (fs := [("x", (dSpot s0 s1)), ("y", (.tuple [(.int n), (.int 0)]))]) (by rfl) (by rfl) (by decide +kernel) (by decide +kernel) (pe_attr (pe_ix ix_list (pv 0) pe_int (fun _ _ => rfl)))) (gk_s (pv 2)))
      (pe_one (eq_yes (d := (.tuple [(.int n), (.int 0)])) sg hu (by simp [SeqAt.shaped, PyData.canLay0, PyData.canLayAll0, PyData.depth, PyData.depthAll, dSpot] <;> decide +kernel) (by simp [PyData.eqv, PyData.eqvAll, dSpot]) (gk_fld T 10 "NoFair" "y" (sp := spMiddle n s0 s1 l0 l1) (fs := [("x", (dSpot s0 s1)), ("y", (.tuple [(.int n), (.int 0)]))]) (by rfl) (by rfl) (by decide +kernel) (by decide +kernel) (pe_attr (pe_ix ix_list (pv 0) pe_int (fun _ _ => rfl)))) (mk_tup (ds := [(.int n), (.int 0)]) (by show 2 ≤ 1000; decide) (mkl_cons sg pd_steady (gk_n (pv 1)) (mkl_cons sg pd_steady (gk_int pe_int) mkl_nil)))))))))), ?_⟩
  have g : GK K (spMiddle n s0 s1 l0 l1) n s0 s1 l0 l1 (fun _ => []) (start ["_law_errors", "_law_number", "_law_spot"] (.ref r :: .int n :: .ref s :: [])) H := ⟨r, ws, s, l, rfl, h1, h2, h3, h4⟩
  exact ⟨g, fun H1 st1 => iteF ⟨gk_steady _ _ _ st1 g, fun H2 st2 => iteF ⟨gk_steady _ _ _ (st1.trans st2) g, fun H3 st3 => q H3 ((st1.trans st2).trans st3)⟩⟩⟩
theorem scKLast : FnScope ["_law_errors", "_law_number", "_law_spot", "_law_lot"] ["_law_errors", "_law_number", "_law_spot", "_law_lot"] (defScope (topH 65)) := ⟨rfl, rfl, rfl, by decide +kernel, rfl, by decide +kernel, by decide +kernel⟩
theorem kept_last {P : Program} {w : World} {K : PySem.W.Frag} {mg : Str → Option Value} {base : Heap} {f : Addr} {fd : FuncData} (F : Fun K "_law_last_kept" "_law_last_kept" (topH 65) f fd) (T : Txt K mg) : FnOk P w K mg base CX0 1 f fd ["_law_errors", "_law_number", "_law_spot", "_law_lot"] (spAll K spLast (fun l => [.ref l])) := by
  refine F.ok scKLast (fun vs H Q E h => ?_) (fun cdv A outer s H vs Q E hr h => ?_)
  · obtain ⟨n, s0, s1, l0, l1, r, s, l, ws, rfl, _⟩ := h
    rfl
  obtain ⟨n, s0, s1, l0, l1, r, s, l, ws, rfl, h1, h2, h3, h4, q⟩ := h
  have hu := hr.units
  have sg : Steady1 (GK K (spLast n s0 s1 l0 l1) n s0 s1 l0 l1 (fun l => [some (.ref l)])) := gk_steady
  refine ⟨_, (pss_cons (ps_if (PW.pt (or_no sg (ne_no (d := (dSpot s0 s1)) sg hu (by simp [SeqAt.shaped, PyData.canLay0, PyData.canLayAll0, PyData.depth, PyData.depthAll, dSpot] <;> decide +kernel) (by simp [PyData.eqv, PyData.eqvAll, dSpot]) (gk_fld T 1 "Turned" "x" (sp := spLast n s0 s1 l0 l1) (fs := [("x", (dSpot s0 s1))]) (by rfl) (by rfl) (by decide +kernel) (by decide +kernel) (pe_attr (pe_ix ix_list (pv 0) pe_int (fun _ _ => rfl)))) (gk_s (pv 2)))
      (or_no sg (ne_no (d := (.int n)) sg hu (by simp [SeqAt.shaped, PyData.canLay0, PyData.canLayAll0, PyData.depth, PyData.depthAll, dSpot] <;> decide +kernel) (by simp [PyData.eqv, PyData.eqvAll, dSpot]) (gk_fld T 3 "BadDrawing" "column" (sp := spLast n s0 s1 l0 l1) (fs := [("column", (.int n))]) (by rfl) (by rfl) (by decide +kernel) (by decide +kernel) (pe_attr (pe_ix ix_list (pv 0) pe_int (fun _ _ => rfl)))) (gk_n (pv 1)))
      (pw_or1 (ne_no (d := (.int n)) sg hu (by simp [SeqAt.shaped, PyData.canLay0, PyData.canLayAll0, PyData.depth, PyData.depthAll, dSpot] <;> decide +kernel) (by simp [PyData.eqv, PyData.eqvAll, dSpot]) (gk_fld T 7 "NotJoined" "look" (sp := spLast n s0 s1 l0 l1) (fs := [("look", (.int n))]) (by rfl) (by rfl) (by decide +kernel) (by decide +kernel) (pe_attr (pe_ix ix_list (pv 0) pe_int (fun _ _ => rfl)))) (gk_n (pv 1))))))) (pss_one (ps_ret pe_bl)) pss_nil)
    (pss_one (ps_ret (and_yes sg (eq_yes (d := (dSpot l0 l1)) sg hu (by simp [SeqAt.shaped, PyData.canLay0, PyData.canLayAll0, PyData.depth, PyData.depthAll, dSpot] <;> decide +kernel) (by simp [PyData.eqv, PyData.eqvAll, dSpot]) (gk_fld T 8 "NotEven" "pair" (sp := spLast n s0 s1 l0 l1) (fs := [("pair", (dSpot l0 l1))]) (by rfl) (by rfl) (by decide +kernel) (by decide +kernel) (pe_attr (pe_ix ix_list (pv 0) pe_int (fun _ _ => rfl)))) (gk_l (pv 3)))
      (pe_one (eq_yes (d := (.tuple [(.str "sewn"), (dSpot l0 l1)])) sg hu (by simp [SeqAt.shaped, PyData.canLay0, PyData.canLayAll0, PyData.depth, PyData.depthAll, dSpot] <;> decide +kernel) (by simp [PyData.eqv, PyData.eqvAll, dSpot]) (gk_fld T 9 "Unfounded" "reason" (sp := spLast n s0 s1 l0 l1) (fs := [("reason", (.tuple [(.str "sewn"), (dSpot l0 l1)]))]) (by rfl) (by rfl) (by decide +kernel) (by decide +kernel) (pe_attr (pe_ix ix_list (pv 0) pe_int (fun _ _ => rfl)))) (mk_tup (ds := [(.str "sewn"), (dSpot l0 l1)]) (by show 2 ≤ 1000; decide) (mkl_cons sg pd_steady (gk_str pe_str) (mkl_cons sg pd_steady (gk_l (pv 3)) mkl_nil))))))))), ?_⟩
  have g : GK K (spLast n s0 s1 l0 l1) n s0 s1 l0 l1 (fun l => [some (.ref l)]) (start ["_law_errors", "_law_number", "_law_spot", "_law_lot"] (.ref r :: .int n :: .ref s :: [.ref l])) H := ⟨r, ws, s, l, rfl, h1, h2, h3, h4⟩
  exact ⟨g, fun H1 st1 => iteF ⟨gk_steady _ _ _ st1 g, fun H2 st2 => q H2 (st1.trans st2)⟩⟩
end Hs
set_option maxHeartbeats 8000000
namespace Hs
open PySem L2
/-! ## the law -/
theorem scLaw : FnScope ["_law_script", "_law_feed_here", "_law_number", "_law_spot", "_law_lot", "_law_first", "_law_middle", "_law_last", "_law_errors", "_law_at", "_law_one", "_law_marks", "_law_place", "_law_bare"] ["_law_script"] (defScope (topH 66)) := ⟨rfl, rfl, rfl, by decide +kernel, rfl, by decide +kernel, by decide +kernel⟩
def spLaw (K : PySem.W.Frag) : Sp := fun vs H Q _ => ∃ (a : Addr) (ns : List Int), vs = [.ref a] ∧ SqL K H a (ns.map V.int) ∧ ns.length ≤ 63 ∧ ∀ H', Q (.bl true) H'
theorem ys_all : ysFirst ++ ysMiddle ++ ysLast = clsN := by decide +kernel
theorem cls_nodup : clsN.Nodup := by decide +kernel
theorem cls_len : clsN.length = 51 := by decide +kernel
theorem sp_names (n s0 s1 l0 l1 : Int) : ((spFirst n s0 s1 l0 l1 ++ spMiddle n s0 s1 l0 l1) ++ spLast n s0 s1 l0 l1).map (·.1) = clsN := by rfl
theorem marks_app (x : Str) (a b c : List Str) : marks x a ++ marks x b ++ marks x c = marks x (a ++ b ++ c) := by
  unfold marks
  rw [List.map_append, List.map_append]
theorem mark_same {i j : Nat} {x y : Str} (hi : clsN[i]? = some x) (hj : clsN[j]? = some y) : (decide (x = y)) = decide (V.int (0 + (j : Int)) = V.int (0 + (i : Int))) := by
  have e : (x = y) ↔ (V.int (0 + (j : Int)) = V.int (0 + (i : Int))) := by
    constructor
    · intro h
      subst h
      have := nd_ix cls_nodup hi hj
      rw [this]
    · intro h
      have k := V.int.inj h
      have k2 : j = i := by omega
      rw [k2, hi] at hj
      exact Option.some.inj hj
  exact decide_eq_decide.mpr e
theorem no_true (ys : List Str) (h : ∀ y ∈ ys, ¬ ("SortsError" : Str) = y) : inV (.bl true) (marks "SortsError" ys) = false := by
  unfold inV marks
  rw [List.any_eq_false]
  intro v hv
  obtain ⟨y, hy, rfl⟩ := List.mem_map.mp hv
  rw [decide_eq_false (h y hy)]
  decide
theorem flat_marks (x : Str) (ys : List Str) : (marks x ys).all flatV = true := by
  rw [List.all_eq_true]
  intro v hv
  obtain ⟨y, hy, rfl⟩ := List.mem_map.mp hv
  rfl

section
variable {P : Program} {w : World} {K : PySem.W.Frag} {mg : Str → Option Value} {base : Heap}
theorem ok_law {f : Addr} {fd : FuncData} (F : Fun K "law" "law" (topH 66) f fd) (T : Txt K mg) {ffeed : Addr} {fdfeed : FuncData} (Gfeed : FnOk P w K mg base CX0 1 ffeed fdfeed ["_law_script"] (spFeed K)) (Kfeed : PySem.W.keepIn K (.ref ffeed) = true) (Bfeed : Binds K fdfeed ["_law_script"] []) (Mfeed : mg "_law_feed" = some (.ref ffeed)) {fpick : Addr} {fdpick : FuncData} (Gpick : FnOk P w K mg base CX0 1 fpick fdpick ["_law_feed_here", "_law_many"] spPick) (Kpick : PySem.W.keepIn K (.ref fpick) = true) (Bpick : Binds K fdpick ["_law_feed_here", "_law_many"] []) (Mpick : mg "_law_pick" = some (.ref fpick)) {fmF : Addr} {fdmF : FuncData} (GmF : FnOk P w K mg base CX0 7 fmF fdmF ["_law_number", "_law_spot", "_law_lot"] (spMade K spFirst)) (KmF : PySem.W.keepIn K (.ref fmF) = true) (BmF : Binds K fdmF ["_law_number", "_law_spot", "_law_lot"] []) (MmF : mg "_law_first_made" = some (.ref fmF)) {fmM : Addr} {fdmM : FuncData} (GmM : FnOk P w K mg base CX0 7 fmM fdmM ["_law_number", "_law_spot", "_law_lot"] (spMade K spMiddle)) (KmM : PySem.W.keepIn K (.ref fmM) = true) (BmM : Binds K fdmM ["_law_number", "_law_spot", "_law_lot"] []) (MmM : mg "_law_middle_made" = some (.ref fmM)) {fmL : Addr} {fdmL : FuncData} (GmL : FnOk P w K mg base CX0 7 fmL fdmL ["_law_number", "_law_spot", "_law_lot"] (spMade K spLast)) (KmL : PySem.W.keepIn K (.ref fmL) = true) (BmL : Binds K fdmL ["_law_number", "_law_spot", "_law_lot"] []) (MmL : mg "_law_last_made" = some (.ref fmL)) {fkF : Addr} {fdkF : FuncData} (GkF : FnOk P w K mg base CX0 1 fkF fdkF ["_law_errors", "_law_number", "_law_spot", "_law_lot"] (spAll K spFirst (fun l => [.ref l]))) (KkF : PySem.W.keepIn K (.ref fkF) = true) (BkF : Binds K fdkF ["_law_errors", "_law_number", "_law_spot", "_law_lot"] []) (MkF : mg "_law_first_kept" = some (.ref fkF)) {fkM : Addr} {fdkM : FuncData} (GkM : FnOk P w K mg base CX0 1 fkM fdkM ["_law_errors", "_law_number", "_law_spot"] (spAll K spMiddle (fun _ => []))) (KkM : PySem.W.keepIn K (.ref fkM) = true) (BkM : Binds K fdkM ["_law_errors", "_law_number", "_law_spot"] []) (MkM : mg "_law_middle_kept" = some (.ref fkM)) {fkL : Addr} {fdkL : FuncData} (GkL : FnOk P w K mg base CX0 1 fkL fdkL ["_law_errors", "_law_number", "_law_spot", "_law_lot"] (spAll K spLast (fun l => [.ref l]))) (KkL : PySem.W.keepIn K (.ref fkL) = true) (BkL : Binds K fdkL ["_law_errors", "_law_number", "_law_spot", "_law_lot"] []) (MkL : mg "_law_last_kept" = some (.ref fkL)) {foF : Addr} {fdoF : FuncData} (GoF : FnOk P w K mg base CX0 1 foF fdoF ["_law_one"] (spOf K ysFirst)) (KoF : PySem.W.keepIn K (.ref foF) = true) (BoF : Binds K fdoF ["_law_one"] []) (MoF : mg "_law_of_first" = some (.ref foF)) {foM : Addr} {fdoM : FuncData} (GoM : FnOk P w K mg base CX0 1 foM fdoM ["_law_one"] (spOf K ysMiddle)) (KoM : PySem.W.keepIn K (.ref foM) = true) (BoM : Binds K fdoM ["_law_one"] []) (MoM : mg "_law_of_middle" = some (.ref foM)) {foL : Addr} {fdoL : FuncData} (GoL : FnOk P w K mg base CX0 1 foL fdoL ["_law_one"] (spOf K ysLast)) (KoL : PySem.W.keepIn K (.ref foL) = true) (BoL : Binds K fdoL ["_law_one"] []) (MoL : mg "_law_of_last" = some (.ref foL)) :
    FnOk P w K mg base CX0 8 f fd ["_law_script"] (spLaw K) := by
  have mLen := T.len
  have mRange := T.range
  refine F.ok scLaw (fun vs H Q E h => ?_) (fun cdv A outer s H vs Q E hr h => ?_)
  · obtain ⟨a, ns, rfl, _⟩ := h
    rfl
  obtain ⟨a, ns, rfl, hS, h63, q⟩ := h
  refine ⟨_, (pss_cons (ps_set (i := 1) scLaw.nd rfl (Or.inl rfl) (pe_call Gfeed (hr.mono (by decide)) (by rfl) Mfeed Kfeed Bfeed .nil pass0 (pa_cons (pv 0) pa_nil)))
 (pss_cons (ps_set (i := 2) scLaw.nd rfl (Or.inl rfl) (pe_op op_sub (pe_call Gpick (hr.mono (by decide)) (by rfl) Mpick Kpick Bpick .nil pass0 (pa_cons (pv 1) (pa_cons pe_int pa_nil))) pe_int))
 (pss_cons (ps_set (i := 3) scLaw.nd rfl (Or.inl rfl) (pe_tup (pa_cons (pe_call Gpick (hr.mono (by decide)) (by rfl) Mpick Kpick Bpick .nil pass0 (pa_cons (pv 1) (pa_cons pe_int pa_nil))) (pa_cons (pe_call Gpick (hr.mono (by decide)) (by rfl) Mpick Kpick Bpick .nil pass0 (pa_cons (pv 1) (pa_cons pe_int pa_nil))) pa_nil))))
 (pss_cons (ps_set (i := 4) scLaw.nd rfl (Or.inl rfl) (pe_tup (pa_cons (pe_call Gpick (hr.mono (by decide)) (by rfl) Mpick Kpick Bpick .nil pass0 (pa_cons (pv 1) (pa_cons pe_int pa_nil))) (pa_cons (pe_op op_add pe_int (pe_call Gpick (hr.mono (by decide)) (by rfl) Mpick Kpick Bpick .nil pass0 (pa_cons (pv 1) (pa_cons pe_int pa_nil)))) pa_nil))))
 (pss_cons (ps_set (i := 5) scLaw.nd rfl (Or.inl rfl) (pe_call GmF (hr.mono (by decide)) (by rfl) MmF KmF BmF .nil pass0 (pa_cons (pv 2) (pa_cons (pv 3) (pa_cons (pv 4) pa_nil)))))
 (pss_cons (ps_set (i := 6) scLaw.nd rfl (Or.inl rfl) (pe_call GmM (hr.mono (by decide)) (by rfl) MmM KmM BmM .nil pass0 (pa_cons (pv 2) (pa_cons (pv 3) (pa_cons (pv 4) pa_nil)))))
 (pss_cons (ps_set (i := 7) scLaw.nd rfl (Or.inl rfl) (pe_call GmL (hr.mono (by decide)) (by rfl) MmL KmL BmL .nil pass0 (pa_cons (pv 2) (pa_cons (pv 3) (pa_cons (pv 4) pa_nil)))))
 (pss_cons (ps_if (PW.pt (pw_or (pt_not (pt_val (pe_call GkF (hr.mono (by decide)) (by rfl) MkF KkF BkF .nil pass0 (pa_cons (pv 5) (pa_cons (pv 2) (pa_cons (pv 3) (pa_cons (pv 4) pa_nil))))))) (pw_or1 (pt_not (pt_val (pe_call GkM (hr.mono (by decide)) (by rfl) MkM KkM BkM .nil pass0 (pa_cons (pv 6) (pa_cons (pv 2) (pa_cons (pv 3) pa_nil))))))))) (pss_one (ps_ret pe_bl)) pss_nil)
 (pss_cons (ps_if (pt_not (pt_val (pe_call GkL (hr.mono (by decide)) (by rfl) MkL KkL BkL .nil pass0 (pa_cons (pv 7) (pa_cons (pv 2) (pa_cons (pv 3) (pa_cons (pv 4) pa_nil))))))) (pss_one (ps_ret pe_bl)) pss_nil)
 (pss_cons (ps_set (i := 8) scLaw.nd rfl (Or.inl rfl) (pe_op op_cat (pe_op op_cat (pv 5) (pv 6)) (pv 7)))
 (pss_cons (ps_for PassesOwn.never rfl (pi_range1 (by rfl) mRange (pa_cons (pe_callB call_len_seq (by rfl) mLen PySem.boot_len (pa_cons (pv 8) pa_nil)) pa_nil)) (pg_name (i := 9) scLaw.nd rfl (Or.inl rfl))
 (pss_cons (ps_set (i := 10) scLaw.nd rfl (Or.inl rfl) (pe_ix ix_list (pv 8) (pv 9) (fun _ _ => rfl)))
 (pss_cons (ps_set (i := 11) scLaw.nd rfl (Or.inl rfl) (pe_op op_cat (pe_op op_cat (pe_call GoF (hr.mono (by decide)) (by rfl) MoF KoF BoF .nil pass0 (pa_cons (pv 10) pa_nil)) (pe_call GoM (hr.mono (by decide)) (by rfl) MoM KoM BoM .nil pass0 (pa_cons (pv 10) pa_nil))) (pe_call GoL (hr.mono (by decide)) (by rfl) MoL KoL BoL .nil pass0 (pa_cons (pv 10) pa_nil))))
 (pss_cons (ps_if (PW.pt (pw_or (pt_cmpR op_ne (pe_callB call_len_seq (by rfl) mLen PySem.boot_len (pa_cons (pv 11) pa_nil)) (pe_callB call_len_seq (by rfl) mLen PySem.boot_len (pa_cons (pv 8) pa_nil)) (nomark _)) (pw_or1 (pt_not (pt_val (pe_callB (call_isX T.sp1 T.sp2) (by rfl) T.isi isi_b (pa_cons (pv 10) (pa_cons (pe_glob (v := .ref (gaS K)) (by rfl) T.gloS rfl) pa_nil)))))))) (pss_one (ps_ret pe_bl)) pss_nil)
 (pss_one (ps_for PassesOwn.never rfl (pi_range1 (by rfl) mRange (pa_cons (pe_callB call_len_seq (by rfl) mLen PySem.boot_len (pa_cons (pv 11) pa_nil)) pa_nil)) (pg_name (i := 12) scLaw.nd rfl (Or.inl rfl))
 (pss_one (ps_if (pt_cmpR op_ne (pe_ix ix_list (pv 11) (pv 12) (fun _ _ => rfl)) (pe_cmpR op_eq (pv 12) (pv 9) (nomark _)) (nomark _)) (pss_one (ps_ret pe_bl)) pss_nil))))))))
 (pss_cons (ps_set (i := 13) scLaw.nd rfl (Or.inl rfl) (pe_new0 T.exnS (T.plain _ (by decide +kernel)) T.gloS (by rfl)))
 (pss_one (ps_ret (pe_cmpR op_notIn_seq pe_bl (pe_op op_cat (pe_op op_cat (pe_call GoF (hr.mono (by decide)) (by rfl) MoF KoF BoF .nil pass0 (pa_cons (pv 13) pa_nil)) (pe_call GoM (hr.mono (by decide)) (by rfl) MoM KoM BoM .nil pass0 (pa_cons (pv 13) pa_nil))) (pe_call GoL (hr.mono (by decide)) (by rfl) MoL KoL BoL .nil pass0 (pa_cons (pv 13) pa_nil))) (by rfl)))))))))))))))), ?_⟩
  -- the drawn numbers
  refine ⟨_, rfl, a, ns, rfl, hS, h63, fun L H1 r s1 hL0 hL hlen => ?_⟩
  refine ⟨_, rfl, L, 1, 8, r, rfl, by decide, by decide, hlen, hL, fun v1 q1 _ _ g1 => ⟨_, _, rfl, rfl, ?_⟩⟩
  refine ⟨_, rfl, L, q1, 8, r, rfl, by decide, g1, hlen, upd_same, fun v2 q2 _ _ g2 => ⟨_, rfl, L, q2, 6, r, rfl, by decide, g2, hlen, upd_same, fun v3 q3 _ _ g3 => ⟨by show 2 ≤ sizeLine; decide, fun S hSn => ?_⟩⟩⟩
  have nSL : S ≠ L := fun e => by
    rw [e, upd_same] at hSn
    cases hSn
  refine ⟨_, rfl, L, q3, 4, r, rfl, by decide, g3, hlen, by rw [upd_ne nSL.symm, upd_same], fun v4 q4 _ _ g4 => ⟨_, rfl, L, q4, 4, r, rfl, by decide, g4, hlen, upd_same, fun v5 q5 _ _ g5 => ⟨_, _, rfl, rfl, by show 2 ≤ sizeLine; decide, fun U hUn => ?_⟩⟩⟩
  have nSU : S ≠ U := fun e => by
    rw [← e, upd_ne nSL, upd_ne nSL, upd_same] at hUn
    cases hUn
  generalize hH : upd (upd (upd (upd (upd (upd (upd H1 L _) L _) L _) S _) L _) L _) U _ = H9
  have hs : H9 S = some (.tup [.int v2, .int v3]) := by
    rw [← hH, upd_ne nSU, upd_ne nSL, upd_ne nSL, upd_same]
  have hu : H9 U = some (.tup [.int v4, .int (4 + v5)]) := by
    rw [← hH, upd_same]
  -- the errors
  refine ⟨_, rfl, _, rfl, _, rfl, v1 - 1, v2, v3, v4, 4 + v5, S, U, rfl, hs, hu, fun R1 w1 Ha ta ea pa => ?_⟩
  refine ⟨_, rfl, _, rfl, _, rfl, v1 - 1, v2, v3, v4, 4 + v5, S, U, rfl, ta _ _ hs, ta _ _ hu, fun R2 w2 Hb tb eb pb => ?_⟩
  have tab := ta.trans tb
  refine ⟨_, rfl, _, rfl, _, rfl, v1 - 1, v2, v3, v4, 4 + v5, S, U, rfl, tab _ _ hs, tab _ _ hu, fun R3 w3 Hc tc ec pc => ?_⟩
  have tac := tab.trans tc
  have ea3 := tc _ _ (tb _ _ ea)
  have pa3 := pa.keep (tb.trans tc) (spec_steady _)
  have eb3 := tc _ _ eb
  have pb3 := pb.keep tc (spec_steady _)
  -- all is kept
  refine ⟨_, rfl, _, rfl, _, rfl, _, rfl, v1 - 1, v2, v3, v4, 4 + v5, R1, S, U, w1, rfl, ea3, pa3, tac _ _ hs, tac _ _ hu, fun Hd td => ⟨true, rfl, iteF ?_⟩⟩
  refine ⟨_, rfl, _, rfl, _, rfl, v1 - 1, v2, v3, v4, 4 + v5, R2, S, U, w2, rfl, td _ _ eb3, pb3.keep td (spec_steady _), td _ _ (tac _ _ hs), td _ _ (tac _ _ hu), fun H7 te => ⟨true, rfl, iteF ?_⟩⟩
  have tde := td.trans te
  refine ⟨_, rfl, _, rfl, _, rfl, _, rfl, v1 - 1, v2, v3, v4, 4 + v5, R3, S, U, w3, rfl, tde _ _ ec, pc.keep tde (spec_steady _), tde _ _ (tac _ _ hs), tde _ _ (tac _ _ hu), fun Hf tf => ⟨true, rfl, iteF ?_⟩⟩
  have tdf := tde.trans tf
  have l1 := pa.len
  have l2 := pb.len
  have l3 := pc.len
  rw [List.length_map] at l1 l2 l3
  have k1 : w1.length = 18 := l1
  have k2 : w2.length = 16 := l2
  have k3 : w3.length = 17 := l3
  refine ⟨_, rfl, _, rfl, R1, R2, w1, w2, rfl, rfl, tdf _ _ ea3, tdf _ _ eb3, by rw [k1, k2]; decide, fun p hp => ⟨_, rfl, p, R3, w1 ++ w2, w3, rfl, rfl, upd_same, (same_new (Same.refl Hf) hp _) _ _ (tdf _ _ ec), by rw [List.length_append, k1, k2, k3]; decide, fun e he => ?_⟩⟩
  have tp : Same Hf (upd Hf p (.lst (w1 ++ w2))) := same_new (Same.refl Hf) hp _
  have tg : Same Hc (upd (upd Hf p (.lst (w1 ++ w2))) e (.lst (w1 ++ w2 ++ w3))) := same_new (tdf.trans tp) he _
  generalize hHg : upd (upd Hf p (.lst (w1 ++ w2))) e (.lst (w1 ++ w2 ++ w3)) = Hg at tg
  have hW : Hg e = some (.lst (w1 ++ w2 ++ w3)) := by rw [← hHg, upd_same]
  have pall : Ps Hg (w1 ++ w2 ++ w3) (((spFirst (v1 - 1) v2 v3 v4 (4 + v5) ++ spMiddle (v1 - 1) v2 v3 v4 (4 + v5)) ++ spLast (v1 - 1) v2 v3 v4 (4 + v5)).map fun p => PX K p.1 p.2) := by
    rw [List.map_append, List.map_append]
    exact ((pa3.keep tg (spec_steady _)).app (pb3.keep tg (spec_steady _))).app (pc.keep tg (spec_steady _))
  have hWl : (w1 ++ w2 ++ w3).length = 51 := by
    rw [List.length_append, List.length_append, k1, k2, k3]
  have names := sp_names (v1 - 1) v2 v3 v4 (4 + v5)
  generalize (spFirst (v1 - 1) v2 v3 v4 (4 + v5) ++ spMiddle (v1 - 1) v2 v3 v4 (4 + v5)) ++ spLast (v1 - 1) v2 v3 v4 (4 + v5) = SP at pall names
  generalize w1 ++ w2 ++ w3 = W at hW pall hWl
  -- each error against all classes
  refine ⟨_, rfl, e, W, rfl, .inl (SqL.of hW), (W.length : Int), rfl, by omega, by omega, for_range (n := W.length) (fun i σ H' => ∃ v9 v10 v11 v12 : Option V,
    σ = [some (.ref a), some (.ref L), some (.int (v1 - 1)), some (.ref S), some (.ref U), some (.ref R1), some (.ref R2), some (.ref R3), some (.ref e), v9, v10, v11, v12, none] ∧ Same Hg H') ⟨none, none, none, none, rfl, Same.refl Hg⟩ ?_ ?_⟩
  · rintro i σ H' hi ⟨v9, v10, v11, v12, rfl, t0⟩
    obtain ⟨⟨x, fs⟩, hx⟩ : ∃ p, SP[i]? = some p := by
      have z := pall.len
      rw [List.length_map] at z
      exact ⟨_, List.getElem?_eq_getElem (by omega)⟩
    have hxi : clsN[i]? = some x := by
      rw [← names, List.getElem?_map, hx]
      rfl
    have hxm : x ∈ clsN := List.mem_of_getElem? hxi
    have hxa : x ∈ allN := List.mem_cons_of_mem _ hxm
    obtain ⟨wv, hw, aa, ew, hE⟩ := pall.at (i := i) (R := PX K x fs) (by rw [List.getElem?_map, hx]; rfl)
    subst ew
    have ie := hE.isE
    refine ⟨_, rfl, _, rfl, e, W, _, _, rfl, rfl, SqL.of (t0 _ _ hW), at_of (j := i) (by omega) hw, ?_⟩
    refine ⟨_, rfl, aa, x, rfl, hxa, ie.keep t0, fun r1 Hh u1 m1 => ⟨_, rfl, aa, x, rfl, hxa, ie.keep (t0.trans u1), fun r2 Hi u2 m2 => ⟨r1, r2, _, _, rfl, rfl, u2 _ _ m1, m2, by show 34 ≤ sizeLine; decide, fun p2 hp2 => ?_⟩⟩⟩
    have t1 := same_new ((t0.trans u1).trans u2) hp2 (.lst (marks x ysFirst ++ marks x ysMiddle))
    refine ⟨_, rfl, aa, x, rfl, hxa, ie.keep t1, fun r3 Hj u3 m3 => ⟨p2, r3, _, _, rfl, rfl, u3 _ _ upd_same, m3, by show 51 ≤ sizeLine; decide, fun M hM => ?_⟩⟩
    have t2 := same_new (t1.trans u3) hM (.lst (marks x ysFirst ++ marks x ysMiddle ++ marks x ysLast))
    have hMl : upd Hj M (.lst (marks x ysFirst ++ marks x ysMiddle ++ marks x ysLast)) M = some (.lst (marks x clsN)) := by
      rw [upd_same, marks_app, ys_all]
    generalize upd Hj M (.lst (marks x ysFirst ++ marks x ysMiddle ++ marks x ysLast)) = Hk at t2 hMl
    have ml : (marks x clsN).length = 51 := by
      unfold marks
      rw [List.length_map, cls_len]
    refine ⟨_, rfl, M, _, rfl, .inl (SqL.of hMl), _, rfl, e, W, rfl, .inl (SqL.of (t2 _ _ hW)), rfl, _, rfl, iteNS (by rw [ml, hWl]) ?_⟩
    refine ⟨_, rfl, aa, _, _, true, rfl, T.exn x hxm, ie.keep t2, T.kitS x hxm, _, rfl, iteF ?_⟩
    refine ⟨_, rfl, M, _, rfl, .inl (SqL.of hMl), ((marks x clsN).length : Int), rfl, by omega, by omega, for_range (n := (marks x clsN).length) (fun j σ H2 => ∃ v12 : Option V,
      σ = [some (.ref a), some (.ref L), some (.int (v1 - 1)), some (.ref S), some (.ref U), some (.ref R1), some (.ref R2), some (.ref R3), some (.ref e), some (.int (0 + (i : Int))), some (.ref aa), some (.ref M), v12, none] ∧ H2 = Hk) ⟨v12, rfl, rfl⟩ ?_ ?_⟩
    · rintro j σ H2 hj ⟨v12', rfl, rfl⟩
      have hj2 : j < clsN.length := by rw [cls_len, ← ml]; exact hj
      have hyj : clsN[j]? = some clsN[j] := List.getElem?_eq_getElem hj2
      have hmj : (marks x clsN)[j]? = some (.bl (decide (x = clsN[j]))) := by
        unfold marks
        rw [List.getElem?_map, hyj]
        rfl
      refine ⟨_, rfl, _, rfl, M, _, _, _, rfl, rfl, SqL.of hMl, at_of (j := j) (by omega) hmj, ?_⟩
      refine ⟨_, rfl, _, rfl, rfl, rfl, _, rfl, iteNS (congrArg V.bl (mark_same hxi hyj)) ?_⟩
      exact ⟨_, rfl, rfl⟩
    · rintro σ H2 ⟨v12', rfl, rfl⟩
      exact ⟨_, _, _, _, rfl, t2⟩
  · rintro σ H' ⟨v9, v10, v11, v12, rfl, t0⟩
    -- the bare one
    intro aB nB
    have b0 : IsE (upd H' aB (exo aB (gaS K) none)) aB (He.ga K "SortsError") := .inl upd_same
    have hm : ("SortsError" : Str) ∈ allN := List.mem_cons_self
    refine ⟨_, rfl, aB, "SortsError", rfl, hm, b0, fun r1 Hh u1 m1 => ⟨_, rfl, aB, "SortsError", rfl, hm, b0.keep u1, fun r2 Hi u2 m2 => ⟨r1, r2, _, _, rfl, rfl, u2 _ _ m1, m2, by show 34 ≤ sizeLine; decide, fun p2 hp2 => ?_⟩⟩⟩
    have t1 := same_new (u1.trans u2) hp2 (.lst (marks "SortsError" ysFirst ++ marks "SortsError" ysMiddle))
    refine ⟨_, rfl, aB, "SortsError", rfl, hm, b0.keep t1, fun r3 Hj u3 m3 => ⟨p2, r3, _, _, rfl, rfl, u3 _ _ upd_same, m3, by show 51 ≤ sizeLine; decide, fun M hM => ?_⟩⟩
    refine ⟨M, _, rfl, .inl (SqL.of upd_same), rfl, by rw [marks_app]; exact flat_marks _ _, ?_⟩
    have e1 : (!inV (.bl true) (marks "SortsError" ysFirst ++ marks "SortsError" ysMiddle ++ marks "SortsError" ysLast)) = true := by
      rw [marks_app, no_true _ (by decide +kernel)]
      rfl
    show Q (.bl (!inV (.bl true) (marks "SortsError" ysFirst ++ marks "SortsError" ysMiddle ++ marks "SortsError" ysLast))) _
    rw [e1]
    exact q _
end
end Hs
set_option maxHeartbeats 8000000
namespace Hs
open PySem PySem.Spec PyProof.Rows L2
/-! ## from the head's facts -/
theorem fun_of {K : PySem.W.Frag} {x qual : Str} {st : Stmt} {f : Addr} {fd : FuncData} (F : FunD K x qual (defArgs st) (defBody st) (defScope st) [] [] f fd) : Fun K x qual st f fd := by
  obtain ⟨oc, od, dV, kV, doc, pm, an, cdv, ct, osl, rfl, lk, hcd, hD, _⟩ := F.ex
  rcases hD with ⟨_, rfl⟩ | ⟨e, _⟩
  · exact ⟨⟨oc, od, kV, doc, pm, an, cdv, ct, osl, rfl, lk, hcd⟩, F.kp⟩
  · exact absurd rfl e
theorem mro_of {K : PySem.W.Frag} {C : Addr} {l : List Value} (h : mroB K C l = true) : ∃ cd, PySem.W.clsIn K C = some cd ∧ cd.mro = l := by
  unfold mroB at h
  split at h
  · rename_i cd e
    exact ⟨cd, e, of_decide_eq_true h⟩
  · cases h
theorem ga_inj {K : PySem.W.Frag} (nd : (gaS K :: clsN.map (He.ga K)).Nodup) {x y : Str} (hx : x ∈ allN) (hy : y ∈ allN) (e : He.ga K x = He.ga K y) : x = y := by
  have nd2 : (allN.map (He.ga K)).Nodup := nd
  obtain ⟨i, hi, ex⟩ := List.mem_iff_getElem.mp hx
  obtain ⟨j, hj, ey⟩ := List.mem_iff_getElem.mp hy
  have a : (allN.map (He.ga K))[i]? = some (He.ga K x) := by
    rw [List.getElem?_map, List.getElem?_eq_getElem hi, ex]
    rfl
  have b : (allN.map (He.ga K))[j]? = some (He.ga K x) := by
    rw [List.getElem?_map, List.getElem?_eq_getElem hj, ey, e]
    rfl
  have ij := nd_ix nd2 a b
  subst ij
  rw [← ex, ← ey]
theorem not_beq {a b : Addr} (h : a ≠ b) : (Value.ref a == Value.ref b) = false := Bool.eq_false_iff.mpr fun q => h (Value.ref.inj (beq_iff_eq.mp q))
theorem kit_ref {K : PySem.W.Frag} {C D : Addr} {l : List Value} {b : Bool} (ne : C ≠ D) (hm : mroB K C l = true) (hD : (PySem.W.clsIn K D).isSome = true) (tD : PySem.W.typeIn K (.ref D) = some (.type "type")) (hl : l ≠ []) (hb : l.contains (.ref D) = b) : PySem.W.kitOne K (.ref C) (.ref D) = some b := by
  obtain ⟨cd, e1, e2⟩ := mro_of hm
  unfold PySem.W.kitOne
  rw [if_neg (by rw [not_beq ne]; decide)]
  show (if ((PySem.W.clsIn K D).isSome && PySem.W.typeIn K (.ref D) == some (.type "type")) = true then PySem.W.mroIn K C (.ref D) else none) = some b
  rw [if_pos (by rw [hD, tD]; decide)]
  unfold PySem.W.mroIn
  rw [e1, Option.bind_some, e2, hb, if_neg]
  intro z
  exact hl (List.isEmpty_iff.mp z)
theorem txt_of {K : PySem.W.Frag} {mg : Str → Option Value} (h : exB K = true) (glo : ∀ x ∈ clsN, mg x = some (.ref (He.ga K x))) (gloS : mg "SortsError" = some (.ref (gaS K))) (isi : mg "isinstance" = none) (len : mg "len" = none) (range : mg "range" = none) : Txt K mg := by
  obtain ⟨a1, h⟩ := two h
  obtain ⟨a2, h⟩ := two h
  obtain ⟨a3, h⟩ := two h
  obtain ⟨a4, h⟩ := two h
  obtain ⟨a5, h⟩ := two h
  obtain ⟨a6, h⟩ := two h
  obtain ⟨a7, h⟩ := two h
  obtain ⟨a8, h⟩ := two h
  obtain ⟨a9, h⟩ := two h
  obtain ⟨a10, a11⟩ := two h
  have nd := of_decide_eq_true a9
  have ex : ∀ x ∈ clsN, Exn K (He.ga K x) := fun x m => exnB_ok (List.all_eq_true.mp a1 x m)
  have exS := exnB_ok a2
  have ty : ∀ C ∈ gaS K :: clsN.map (He.ga K), PySem.W.typeIn K (.ref C) = some (.type "type") := fun C m => of_decide_eq_true (List.all_eq_true.mp a8 C m)
  have inS : ("SortsError" : Str) ∈ allN := List.mem_cons_self
  have notS : ∀ x ∈ clsN, ¬ x = ("SortsError" : Str) := by decide +kernel
  have far : ∀ x ∈ clsN, He.ga K x ≠ gaS K := fun x m e => notS x m (ga_inj nd (List.mem_cons_of_mem _ m) inS e)
  refine ⟨ex, exS, fun x m => List.all_eq_true.mp a3 x m, fun x m => List.all_eq_true.mp a4 x m, fun p m => of_decide_eq_true (List.all_eq_true.mp a5 p m), glo, gloS, of_decide_eq_true a10, of_decide_eq_true a11, fun x mx y my => ?_, fun x mx => ?_, isi, len, range⟩
  · have tyy := ty _ (List.mem_cons_of_mem _ (List.mem_map_of_mem my))
    by_cases e : x = y
    · subst e
      rw [decide_eq_true rfl]
      unfold PySem.W.kitOne
      rw [if_pos (beq_self_eq_true _)]
    · have ne : He.ga K x ≠ He.ga K y := fun q => e (ga_inj nd mx (List.mem_cons_of_mem _ my) q)
      rw [decide_eq_false e]
      rcases List.mem_cons.mp mx with rfl | mx
      · refine kit_ref ne a7 (ex y my).isCls tyy (List.cons_ne_nil _ _) ?_
        rw [List.contains_cons, not_beq (far y my)]
        rfl
      · refine kit_ref ne (List.all_eq_true.mp a6 x mx) (ex y my).isCls tyy (List.cons_ne_nil _ _) ?_
        rw [List.contains_cons, List.contains_cons, not_beq ne.symm, not_beq (far y my)]
        rfl
  · refine kit_ref (far x mx) (List.all_eq_true.mp a6 x mx) exS.isCls (ty _ List.mem_cons_self) (List.cons_ne_nil _ _) ?_
    rw [List.contains_cons, List.contains_cons, beq_self_eq_true]
    simp
theorem fa_eq : fa = fa.take 14 ++ (clsN.map He.Fa.glo ++ fa.drop 65) := by rfl
theorem glo_in : ∀ x ∈ clsN, He.Fa.glo x ∈ fa := fun x m => by
  rw [fa_eq]
  exact List.mem_append_right _ (List.mem_append_left _ (List.mem_map_of_mem m))
theorem facts {P : Program} {w : World} {K : PySem.W.Frag} {h : Heap} {mg : Str → Option Value} {f : Addr} (X : K.In h) (G : h.Ns mainGlobals mg) (hfa : mg ("law" : Str) = some (.ref f)) (c : He.SaysX fa fn [] [] exB w h K) :
    ∃ fd : FuncData, (∀ (s : Shared) (v : Value), BindsTo s fd ⟨[v], []⟩ [("_law_script", v)]) ∧ ∀ base : Heap, K.In base → base.Ns mainGlobals mg → FnOk P w K mg base CX0 8 f fd ["_law_script"] (spLaw K) := by
  have d : He.SaysD fa fn K := c.t.d
  have gl : ∀ x ∈ clsN, mg x = some (.ref (He.ga K x)) := fun x m => He.glo_ok X G (d.facts (f := .glo x) (by
    exact glo_in x m))
  have T : Txt K mg := txt_of c.more gl (He.glo_ok X G (d.fact 13 (f := .glo "SortsError") rfl)) (He.free_ok X G (d.fact 65 (f := .free "isinstance") rfl)) (He.free_ok X G (d.fact 68 (f := .free "len") rfl)) (He.free_ok X G (d.fact 71 (f := .free "range") rfl))
  have mList := He.free_ok X G (d.fact 66 (f := .free "list") rfl)
  have mTuple := He.free_ok X G (d.fact 67 (f := .free "tuple") rfl)
  have mInt := He.free_ok X G (d.fact 69 (f := .free "int") rfl)
  have mAbs := He.free_ok X G (d.fact 70 (f := .free "abs") rfl)
  obtain ⟨fd0, FF0⟩ := d.def_ 0 (d := dD0) rfl
  have F0 : Fun K "kept" "kept" (topH 1) (He.ga K "kept") fd0 := fun_of FF0
  have b0 : Binds K fd0 ["value"] [] := F0.binds (fun _ _ _ _ _ _ us hl => match us, hl with | [_], _ => rfl)
  have m0 : mg "kept" = some (.ref (He.ga K "kept")) := He.glo_ok X G (d.fact 0 (f := .glo "kept") rfl)
  obtain ⟨fd1, FF1⟩ := d.def_ 1 (d := dD1) rfl
  have F1 : Fun K "_law_feed" "_law_feed" (topH 55) (He.ga K "_law_feed") fd1 := fun_of FF1
  have b1 : Binds K fd1 ["_law_script"] [] := F1.binds (fun _ _ _ _ _ _ us hl => match us, hl with | [_], _ => rfl)
  have m1 : mg "_law_feed" = some (.ref (He.ga K "_law_feed")) := He.glo_ok X G (d.fact 1 (f := .glo "_law_feed") rfl)
  obtain ⟨fd2, FF2⟩ := d.def_ 2 (d := dD2) rfl
  have F2 : Fun K "_law_pick" "_law_pick" (topH 56) (He.ga K "_law_pick") fd2 := fun_of FF2
  have b2 : Binds K fd2 ["_law_feed_here", "_law_many"] [] := F2.binds (fun _ _ _ _ _ _ us hl => match us, hl with | [_, _], _ => rfl)
  have m2 : mg "_law_pick" = some (.ref (He.ga K "_law_pick")) := He.glo_ok X G (d.fact 2 (f := .glo "_law_pick") rfl)
  obtain ⟨fd3, FF3⟩ := d.def_ 3 (d := dD3) rfl
  have F3 : Fun K "_law_of_first" "_law_of_first" (topH 57) (He.ga K "_law_of_first") fd3 := fun_of FF3
  have b3 : Binds K fd3 ["_law_one"] [] := F3.binds (fun _ _ _ _ _ _ us hl => match us, hl with | [_], _ => rfl)
  have m3 : mg "_law_of_first" = some (.ref (He.ga K "_law_of_first")) := He.glo_ok X G (d.fact 3 (f := .glo "_law_of_first") rfl)
  obtain ⟨fd4, FF4⟩ := d.def_ 4 (d := dD4) rfl
  have F4 : Fun K "_law_of_middle" "_law_of_middle" (topH 58) (He.ga K "_law_of_middle") fd4 := fun_of FF4
  have b4 : Binds K fd4 ["_law_one"] [] := F4.binds (fun _ _ _ _ _ _ us hl => match us, hl with | [_], _ => rfl)
  have m4 : mg "_law_of_middle" = some (.ref (He.ga K "_law_of_middle")) := He.glo_ok X G (d.fact 4 (f := .glo "_law_of_middle") rfl)
  obtain ⟨fd5, FF5⟩ := d.def_ 5 (d := dD5) rfl
  have F5 : Fun K "_law_of_last" "_law_of_last" (topH 59) (He.ga K "_law_of_last") fd5 := fun_of FF5
  have b5 : Binds K fd5 ["_law_one"] [] := F5.binds (fun _ _ _ _ _ _ us hl => match us, hl with | [_], _ => rfl)
  have m5 : mg "_law_of_last" = some (.ref (He.ga K "_law_of_last")) := He.glo_ok X G (d.fact 5 (f := .glo "_law_of_last") rfl)
  obtain ⟨fd6, FF6⟩ := d.def_ 6 (d := dD6) rfl
  have F6 : Fun K "_law_first_made" "_law_first_made" (topH 60) (He.ga K "_law_first_made") fd6 := fun_of FF6
  have b6 : Binds K fd6 ["_law_number", "_law_spot", "_law_lot"] [] := F6.binds (fun _ _ _ _ _ _ us hl => match us, hl with | [_, _, _], _ => rfl)
  have m6 : mg "_law_first_made" = some (.ref (He.ga K "_law_first_made")) := He.glo_ok X G (d.fact 6 (f := .glo "_law_first_made") rfl)
  obtain ⟨fd7, FF7⟩ := d.def_ 7 (d := dD7) rfl
  have F7 : Fun K "_law_middle_made" "_law_middle_made" (topH 61) (He.ga K "_law_middle_made") fd7 := fun_of FF7
  have b7 : Binds K fd7 ["_law_number", "_law_spot", "_law_lot"] [] := F7.binds (fun _ _ _ _ _ _ us hl => match us, hl with | [_, _, _], _ => rfl)
  have m7 : mg "_law_middle_made" = some (.ref (He.ga K "_law_middle_made")) := He.glo_ok X G (d.fact 7 (f := .glo "_law_middle_made") rfl)
  obtain ⟨fd8, FF8⟩ := d.def_ 8 (d := dD8) rfl
  have F8 : Fun K "_law_last_made" "_law_last_made" (topH 62) (He.ga K "_law_last_made") fd8 := fun_of FF8
  have b8 : Binds K fd8 ["_law_number", "_law_spot", "_law_lot"] [] := F8.binds (fun _ _ _ _ _ _ us hl => match us, hl with | [_, _, _], _ => rfl)
  have m8 : mg "_law_last_made" = some (.ref (He.ga K "_law_last_made")) := He.glo_ok X G (d.fact 8 (f := .glo "_law_last_made") rfl)
  obtain ⟨fd9, FF9⟩ := d.def_ 9 (d := dD9) rfl
  have F9 : Fun K "_law_first_kept" "_law_first_kept" (topH 63) (He.ga K "_law_first_kept") fd9 := fun_of FF9
  have b9 : Binds K fd9 ["_law_errors", "_law_number", "_law_spot", "_law_lot"] [] := F9.binds (fun _ _ _ _ _ _ us hl => match us, hl with | [_, _, _, _], _ => rfl)
  have m9 : mg "_law_first_kept" = some (.ref (He.ga K "_law_first_kept")) := He.glo_ok X G (d.fact 9 (f := .glo "_law_first_kept") rfl)
  obtain ⟨fd10, FF10⟩ := d.def_ 10 (d := dD10) rfl
  have F10 : Fun K "_law_middle_kept" "_law_middle_kept" (topH 64) (He.ga K "_law_middle_kept") fd10 := fun_of FF10
  have b10 : Binds K fd10 ["_law_errors", "_law_number", "_law_spot"] [] := F10.binds (fun _ _ _ _ _ _ us hl => match us, hl with | [_, _, _], _ => rfl)
  have m10 : mg "_law_middle_kept" = some (.ref (He.ga K "_law_middle_kept")) := He.glo_ok X G (d.fact 10 (f := .glo "_law_middle_kept") rfl)
  obtain ⟨fd11, FF11⟩ := d.def_ 11 (d := dD11) rfl
  have F11 : Fun K "_law_last_kept" "_law_last_kept" (topH 65) (He.ga K "_law_last_kept") fd11 := fun_of FF11
  have b11 : Binds K fd11 ["_law_errors", "_law_number", "_law_spot", "_law_lot"] [] := F11.binds (fun _ _ _ _ _ _ us hl => match us, hl with | [_, _, _, _], _ => rfl)
  have m11 : mg "_law_last_kept" = some (.ref (He.ga K "_law_last_kept")) := He.glo_ok X G (d.fact 11 (f := .glo "_law_last_kept") rfl)
  obtain ⟨fd12, FF12⟩ := d.def_ 12 (d := dD12) rfl
  have F12 : Fun K "law" "law" (topH 66) (He.ga K "law") fd12 := fun_of FF12
  obtain ⟨fd13, FF13⟩ := d.def_ 13 (d := dD13) rfl
  have F13 : Fun K "__init__" "BadLot.__init__" (inClass (topH 7) 0) (He.ma K (He.ga K "BadLot") "__init__") fd13 := fun_of FF13
  have b13 : Binds K fd13 ["self", "place"] [] := F13.binds (fun _ _ _ _ _ _ us hl => match us, hl with | [_, _], _ => rfl)
  obtain ⟨fd14, FF14⟩ := d.def_ 14 (d := dD14) rfl
  have F14 : Fun K "__init__" "BadTable.__init__" (inClass (topH 9) 0) (He.ma K (He.ga K "BadTable") "__init__") fd14 := fun_of FF14
  have b14 : Binds K fd14 ["self", "place"] [] := F14.binds (fun _ _ _ _ _ _ us hl => match us, hl with | [_, _], _ => rfl)
  obtain ⟨fd15, FF15⟩ := d.def_ 15 (d := dD15) rfl
  have F15 : Fun K "__init__" "BadSingle.__init__" (inClass (topH 10) 0) (He.ma K (He.ga K "BadSingle") "__init__") fd15 := fun_of FF15
  have b15 : Binds K fd15 ["self", "look"] [] := F15.binds (fun _ _ _ _ _ _ us hl => match us, hl with | [_, _], _ => rfl)
  obtain ⟨fd16, FF16⟩ := d.def_ 16 (d := dD16) rfl
  have F16 : Fun K "__init__" "Disagrees.__init__" (inClass (topH 11) 0) (He.ma K (He.ga K "Disagrees") "__init__") fd16 := fun_of FF16
  have b16 : Binds K fd16 ["self", "lot", "other"] [] := F16.binds (fun _ _ _ _ _ _ us hl => match us, hl with | [_, _, _], _ => rfl)
  obtain ⟨fd17, FF17⟩ := d.def_ 17 (d := dD17) rfl
  have F17 : Fun K "__init__" "NotSeen.__init__" (inClass (topH 12) 0) (He.ma K (He.ga K "NotSeen") "__init__") fd17 := fun_of FF17
  have b17 : Binds K fd17 ["self", "lot"] [] := F17.binds (fun _ _ _ _ _ _ us hl => match us, hl with | [_, _], _ => rfl)
  obtain ⟨fd18, FF18⟩ := d.def_ 18 (d := dD18) rfl
  have F18 : Fun K "__init__" "NeverMet.__init__" (inClass (topH 13) 0) (He.ma K (He.ga K "NeverMet") "__init__") fd18 := fun_of FF18
  have b18 : Binds K fd18 ["self", "spot"] [] := F18.binds (fun _ _ _ _ _ _ us hl => match us, hl with | [_, _], _ => rfl)
  obtain ⟨fd19, FF19⟩ := d.def_ 19 (d := dD19) rfl
  have F19 : Fun K "__init__" "BadText.__init__" (inClass (topH 15) 0) (He.ma K (He.ga K "BadText") "__init__") fd19 := fun_of FF19
  have b19 : Binds K fd19 ["self", "line"] [] := F19.binds (fun _ _ _ _ _ _ us hl => match us, hl with | [_, _], _ => rfl)
  obtain ⟨fd20, FF20⟩ := d.def_ 20 (d := dD20) rfl
  have F20 : Fun K "__init__" "BadWorld.__init__" (inClass (topH 18) 0) (He.ma K (He.ga K "BadWorld") "__init__") fd20 := fun_of FF20
  have b20 : Binds K fd20 ["self", "which", "look"] [] := F20.binds (fun _ _ _ _ _ _ us hl => match us, hl with | [_, _, _], _ => rfl)
  obtain ⟨fd21, FF21⟩ := d.def_ 21 (d := dD21) rfl
  have F21 : Fun K "__init__" "BadWalk.__init__" (inClass (topH 23) 0) (He.ma K (He.ga K "BadWalk") "__init__") fd21 := fun_of FF21
  have b21 : Binds K fd21 ["self", "place"] [] := F21.binds (fun _ _ _ _ _ _ us hl => match us, hl with | [_, _], _ => rfl)
  obtain ⟨fd22, FF22⟩ := d.def_ 22 (d := dD22) rfl
  have F22 : Fun K "__init__" "Clash.__init__" (inClass (topH 24) 0) (He.ma K (He.ga K "Clash") "__init__") fd22 := fun_of FF22
  have b22 : Binds K fd22 ["self", "reason"] [] := F22.binds (fun _ _ _ _ _ _ us hl => match us, hl with | [_, _], _ => rfl)
  obtain ⟨fd23, FF23⟩ := d.def_ 23 (d := dD23) rfl
  have F23 : Fun K "__init__" "NeedsRoot.__init__" (inClass (topH 28) 0) (He.ma K (He.ga K "NeedsRoot") "__init__") fd23 := fun_of FF23
  have b23 : Binds K fd23 ["self", "number"] [] := F23.binds (fun _ _ _ _ _ _ us hl => match us, hl with | [_, _], _ => rfl)
  obtain ⟨fd24, FF24⟩ := d.def_ 24 (d := dD24) rfl
  have F24 : Fun K "__init__" "NeedsRoots.__init__" (inClass (topH 29) 0) (He.ma K (He.ga K "NeedsRoots") "__init__") fd24 := fun_of FF24
  have b24 : Binds K fd24 ["self", "x", "y"] [] := F24.binds (fun _ _ _ _ _ _ us hl => match us, hl with | [_, _, _], _ => rfl)
  obtain ⟨fd25, FF25⟩ := d.def_ 25 (d := dD25) rfl
  have F25 : Fun K "__init__" "NoFair.__init__" (inClass (topH 31) 0) (He.ma K (He.ga K "NoFair") "__init__") fd25 := fun_of FF25
  have b25 : Binds K fd25 ["self", "x", "y"] [] := F25.binds (fun _ _ _ _ _ _ us hl => match us, hl with | [_, _, _], _ => rfl)
  obtain ⟨fd26, FF26⟩ := d.def_ 26 (d := dD26) rfl
  have F26 : Fun K "__init__" "Turned.__init__" (inClass (topH 38) 0) (He.ma K (He.ga K "Turned") "__init__") fd26 := fun_of FF26
  have b26 : Binds K fd26 ["self", "x"] [] := F26.binds (fun _ _ _ _ _ _ us hl => match us, hl with | [_, _], _ => rfl)
  obtain ⟨fd27, FF27⟩ := d.def_ 27 (d := dD27) rfl
  have F27 : Fun K "__init__" "BadDrawing.__init__" (inClass (topH 40) 0) (He.ma K (He.ga K "BadDrawing") "__init__") fd27 := fun_of FF27
  have b27 : Binds K fd27 ["self", "column"] [] := F27.binds (fun _ _ _ _ _ _ us hl => match us, hl with | [_, _], _ => rfl)
  obtain ⟨fd28, FF28⟩ := d.def_ 28 (d := dD28) rfl
  have F28 : Fun K "__init__" "NotJoined.__init__" (inClass (topH 44) 0) (He.ma K (He.ga K "NotJoined") "__init__") fd28 := fun_of FF28
  have b28 : Binds K fd28 ["self", "look"] [] := F28.binds (fun _ _ _ _ _ _ us hl => match us, hl with | [_, _], _ => rfl)
  obtain ⟨fd29, FF29⟩ := d.def_ 29 (d := dD29) rfl
  have F29 : Fun K "__init__" "NotEven.__init__" (inClass (topH 45) 0) (He.ma K (He.ga K "NotEven") "__init__") fd29 := fun_of FF29
  have b29 : Binds K fd29 ["self", "pair"] [] := F29.binds (fun _ _ _ _ _ _ us hl => match us, hl with | [_, _], _ => rfl)
  obtain ⟨fd30, FF30⟩ := d.def_ 30 (d := dD30) rfl
  have F30 : Fun K "__init__" "Unfounded.__init__" (inClass (topH 46) 0) (He.ma K (He.ga K "Unfounded") "__init__") fd30 := fun_of FF30
  have b30 : Binds K fd30 ["self", "reason"] [] := F30.binds (fun _ _ _ _ _ _ us hl => match us, hl with | [_, _], _ => rfl)
  have e := hfa.symm.trans (He.glo_ok X G (d.fact 12 (f := .glo "law") rfl))
  cases e
  have bL := FunD.bindsA (ps := ["_law_script"]) FF12 fun _ _ _ _ _ _ us hl => match us, hl with | [_], _ => rfl
  refine ⟨fd12, fun s v => bL s [v] rfl, fun base _ _ => ?_⟩
  have k1 : FnOk P w K mg base CX0 1 (He.ga K "kept") fd0 ["value"] (spKept K 1) := kept_more F0 kept_none b0 m0 T.isi mList mTuple
  have k2 : FnOk P w K mg base CX0 2 (He.ga K "kept") fd0 ["value"] (spKept K 2) := kept_more F0 k1 b0 m0 T.isi mList mTuple
  have k3 : FnOk P w K mg base CX0 3 (He.ga K "kept") fd0 ["value"] (spKept K 3) := kept_more F0 k2 b0 m0 T.isi mList mTuple
  have k4 : FnOk P w K mg base CX0 4 (He.ga K "kept") fd0 ["value"] (spKept K 4) := kept_more F0 k3 b0 m0 T.isi mList mTuple
  have IBadLot : InD P w K mg base "BadLot" ["place"] := ⟨fd13, in_BadLot F13 (T.exn "BadLot" (by decide +kernel)) (T.fld ("BadLot", "place") (by decide +kernel)), b13⟩
  have IBadTable : InD P w K mg base "BadTable" ["place"] := ⟨fd14, in_BadTable F14 (T.exn "BadTable" (by decide +kernel)) (T.fld ("BadTable", "place") (by decide +kernel)), b14⟩
  have IBadSingle : InD P w K mg base "BadSingle" ["look"] := ⟨fd15, in_BadSingle F15 (T.exn "BadSingle" (by decide +kernel)) (T.fld ("BadSingle", "look") (by decide +kernel)), b15⟩
  have IDisagrees : InD P w K mg base "Disagrees" ["lot", "other"] := ⟨fd16, in_Disagrees F16 (T.exn "Disagrees" (by decide +kernel)) (T.fld ("Disagrees", "lot") (by decide +kernel)) (T.fld ("Disagrees", "other") (by decide +kernel)) k4 F0.kp b0 m0, b16⟩
  have INotSeen : InD P w K mg base "NotSeen" ["lot"] := ⟨fd17, in_NotSeen F17 (T.exn "NotSeen" (by decide +kernel)) (T.fld ("NotSeen", "lot") (by decide +kernel)) k4 F0.kp b0 m0, b17⟩
  have INeverMet : InD P w K mg base "NeverMet" ["spot"] := ⟨fd18, in_NeverMet F18 (T.exn "NeverMet" (by decide +kernel)) (T.fld ("NeverMet", "spot") (by decide +kernel)) k4 F0.kp b0 m0, b18⟩
  have IBadText : InD P w K mg base "BadText" ["line"] := ⟨fd19, in_BadText F19 (T.exn "BadText" (by decide +kernel)) (T.fld ("BadText", "line") (by decide +kernel)), b19⟩
  have IBadWorld : InD P w K mg base "BadWorld" ["which", "look"] := ⟨fd20, in_BadWorld F20 (T.exn "BadWorld" (by decide +kernel)) (T.fld ("BadWorld", "which") (by decide +kernel)) (T.fld ("BadWorld", "look") (by decide +kernel)), b20⟩
  have IBadWalk : InD P w K mg base "BadWalk" ["place"] := ⟨fd21, in_BadWalk F21 (T.exn "BadWalk" (by decide +kernel)) (T.fld ("BadWalk", "place") (by decide +kernel)), b21⟩
  have IClash : InD P w K mg base "Clash" ["reason"] := ⟨fd22, in_Clash F22 (T.exn "Clash" (by decide +kernel)) (T.fld ("Clash", "reason") (by decide +kernel)) k4 F0.kp b0 m0, b22⟩
  have INeedsRoot : InD P w K mg base "NeedsRoot" ["number"] := ⟨fd23, in_NeedsRoot F23 (T.exn "NeedsRoot" (by decide +kernel)) (T.fld ("NeedsRoot", "number") (by decide +kernel)) k4 F0.kp b0 m0, b23⟩
  have INeedsRoots : InD P w K mg base "NeedsRoots" ["x", "y"] := ⟨fd24, in_NeedsRoots F24 (T.exn "NeedsRoots" (by decide +kernel)) (T.fld ("NeedsRoots", "x") (by decide +kernel)) (T.fld ("NeedsRoots", "y") (by decide +kernel)) k4 F0.kp b0 m0, b24⟩
  have INoFair : InD P w K mg base "NoFair" ["x", "y"] := ⟨fd25, in_NoFair F25 (T.exn "NoFair" (by decide +kernel)) (T.fld ("NoFair", "x") (by decide +kernel)) (T.fld ("NoFair", "y") (by decide +kernel)) k4 F0.kp b0 m0, b25⟩
  have ITurned : InD P w K mg base "Turned" ["x"] := ⟨fd26, in_Turned F26 (T.exn "Turned" (by decide +kernel)) (T.fld ("Turned", "x") (by decide +kernel)) k4 F0.kp b0 m0, b26⟩
  have IBadDrawing : InD P w K mg base "BadDrawing" ["column"] := ⟨fd27, in_BadDrawing F27 (T.exn "BadDrawing" (by decide +kernel)) (T.fld ("BadDrawing", "column") (by decide +kernel)), b27⟩
  have INotJoined : InD P w K mg base "NotJoined" ["look"] := ⟨fd28, in_NotJoined F28 (T.exn "NotJoined" (by decide +kernel)) (T.fld ("NotJoined", "look") (by decide +kernel)), b28⟩
  have INotEven : InD P w K mg base "NotEven" ["pair"] := ⟨fd29, in_NotEven F29 (T.exn "NotEven" (by decide +kernel)) (T.fld ("NotEven", "pair") (by decide +kernel)) k4 F0.kp b0 m0, b29⟩
  have IUnfounded : InD P w K mg base "Unfounded" ["reason"] := ⟨fd30, in_Unfounded F30 (T.exn "Unfounded" (by decide +kernel)) (T.fld ("Unfounded", "reason") (by decide +kernel)) k4 F0.kp b0 m0, b30⟩
  exact ok_law F12 T (ok_feed F1 mAbs T.range mInt) F1.kp b1 m1 (ok_pick F2 T.len mInt) F2.kp b2 m2 (ok_first F6 T IBadLot IBadTable IBadSingle IDisagrees INotSeen INeverMet IBadText IBadWorld) F6.kp b6 m6 (ok_middle F7 T IBadWalk IClash INeedsRoot INeedsRoots INoFair) F7.kp b7 m7 (ok_last F8 T ITurned IBadDrawing INotJoined INotEven IUnfounded) F8.kp b8 m8 (kept_first F9 T) F9.kp b9 m9 (kept_middle F10 T) F10.kp b10 m10 (kept_last F11 T) F11.kp b11 m11 (of_first F3 T) F3.kp b3 m3 (of_middle F4 T) F4.kp b4 m4 (of_last F5 T) F5.kp b5 m5
end Hs
open PySem PySem.W PySem.Calls PyProof.Rows
theorem PySem.Challenge.cw_hiddensorts_k94_errors_of_one_class_holds : PySem.Challenge.rw_hiddensorts_k94_errors_of_one_class.Holds := by
  w_on; o_law
  refine HandSHeadRun.head_any (r := OpenLaw.row PySem.Challenge.rw_hiddensorts_k94_errors_of_one_class) (q := view (OpenLaw.row PySem.Challenge.rw_hiddensorts_k94_errors_of_one_class).prog [66]) (H := Hs.hk) (ob := Hs.ob) (M := 12200) (loose := Hs.loose) (d := HandSHeadRun.topDef (OpenLaw.row PySem.Challenge.rw_hiddensorts_k94_errors_of_one_class).prog 66) (kwd := []) Hs.ob_eq
    (by kernel_rfl) (fun s => by kernel_rfl) Hs.run (by kernel_rfl) (by kernel_rfl) (by kernel_rfl) (by rfl) (by first | assumption | decide +kernel) (by decide +kernel) ⟨rfl, rfl, rfl, rfl, rfl, by decide +kernel⟩ ?hw ?hc
  case hw => w_witness2
  case hc =>
    refine L2.walk_ofE (l := PySem.Challenge.rw_hiddensorts_k94_errors_of_one_class) (n := 63) (k := 8) (x := "_law_script") (CX := L2.CX0) rfl (by decide) (by kernel_rfl) ⟨rfl, by decide, by decide⟩ ?F (fun _ _ _ _ z => z)
    intro w mg fa h Y G hmg0
    obtain ⟨K, KX, c⟩ := Y
    have hmg : mg ("law" : PySem.Str) = some (.ref fa) := by
      have e : (HandSHeadRun.topDef (OpenLaw.row PySem.Challenge.rw_hiddensorts_k94_errors_of_one_class).prog 66).name = ("law" : PySem.Str) := by kernel_rfl
      rw [← e]
      exact hmg0
    obtain ⟨fd, hb, hF⟩ := Hs.facts (P := (PySem.Challenge.rw_hiddensorts_k94_errors_of_one_class).prog) (w := w) KX G hmg c
    exact ⟨K, fd, Hs.spLaw K, KX, hb, fun H a ns hl _ hS => ⟨a, ns, rfl, hS, hl, fun _ => rfl⟩, hF⟩
