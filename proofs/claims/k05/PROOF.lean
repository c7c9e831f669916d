import PyProof.Rows.All
import Wide.All
import OpenK.AllK
import Wide.FinOn
import KE.KTypeName
import KE.KExcIs
import HandS.Base
import HandS.Call
import HandS.Exc
import HandS.ExcInit
import HandS.ExcField
import KE.KTryMore
import HandS.HotCalls
import HandS.Lambda
import HandS.Words
import HandS.WordsExc
import PyProof.EqAt
import PyProof.EqKinds
import PyProof.TupleCall
import KE.KUnpack
import HandS.List
import HandS.Comp
import HandS.Iter
import HandS.Text
import HandS.WordsList
import KE.GoesMore
import HandS.Walk
import HandS.IsInst
import HandS.Ends
import HandS.Zip
import HandS.Codes
import HandS.Style
import KE.KRevSl
import KE.GoesEnum
import HandS.Star
import HandS.SlotsOwn
import PyProof.InstEq
import HandS.More
import HandS.Conv
import HandS.FStr
import HandS.ClsMeth
import HandS.EndTab
import HandS.HeadHook4
import HandS.Nested
import HandS.SortRule
import KE.KSortTupAny
import PyProof.Rows.SortShellAny
import PyProof.StrBlock2
import HandS.TupMul
import HandS.NoneIn
import PyProof.Rows.Range3
import PyProof.Conv_bool
import HandS.MethStar
import KE.KNestM
import PySem.Challenge.RW_fourwalls_k05_books_refused
set_option Elab.async false
set_option linter.all false
set_option maxRecDepth 100000
set_option maxHeartbeats 16000000
namespace FW
open PySem PySem.Spec PyProof.Rows L2 Builtin Builtin.Getset_descriptor PySem.W
/-! ### the name of a class of the program -/
theorem own_dga (d tp : Value) (C : Addr) : descrGetArgs ⟨[d, .ref C, tp], []⟩ = pure (d, some (.ref C), given tp) := by kernel_rfl
section
variable {prog : Program} {w : World} {A : Around} {E : Value → Shared → Prop} {s : Shared} {K : PySem.W.Frag}
theorem own_get {C : Addr} {tp : Value} {R : Result → Shared → Prop} {o : Obj} {z : Str} {tk : Tok} (X : K.In s.heap) (ht : PySem.W.typeIn K (.ref C) = some (.type "type")) (ho : s.heap.get? C = some o) (hs : o.slots[2]? = some (some (.str z tk)))
    (h : R (.ok (.ret (.str z tk))) s) :
    codeAny (model prog w) A (.call (.builtin "getset_descriptor.__get__") ⟨[.builtin "type.__name__", .ref C, tp], []⟩) R s := by
  obtain ⟨hh, g, dr, t, os⟩ := s
  have t1 : Looks (model prog w) hh (typeOf (.ref C)) (.type "type") := looks_typeIn X ht
  have t2 : Looks (model prog w) hh (isSubtype (.type "type") (.type "type")) true := .of_pure (by
    rw [isSubtype_type]
    kernel_rfl)
  refine codeAny_call_builtin KF.slot_gs.plain KF.entry_gs
    (KF.slot_gs.check _ _ _ _ _ _ _ _
      ktyn_type (KF.args_gs _ _ _) ?_)
  unfold Builtin.«getset_descriptor.__get__» descrGet
  rw [own_dga]
  refine wpAny_bind (wpAny_pure ?_)
  unfold descrGetter descrCheckInstance descrNameAndClass isInstance
  simp only [ktyn_owner]
  repeat lk
  refine ⟨Code.quiet_builtin _ (by decide +kernel), codeAny_builtin
    ktyn_entry ?_⟩
  unfold Builtin.«type.__name__»
  dsimp only
  unfold keptObject PySem.slotAt
  dsimp only
  refine wpAny_bind (wpAny_bind (wpAny_loadPart ho (wpAny_pure ?_)))
  rw [hs]
  exact wpAny_pure h
/-- the name that a class of the program was made with -/
structure NameC (K : PySem.W.Frag) (C : Addr) (z : Str) : Prop where
  ob : ∃ (o : Obj) (tk : Tok), K.lookup C = some o ∧ o.slots[2]? = some (some (.str z tk))
  ty : PySem.W.typeIn K (.ref C) = some (.type "type")
  rd : readsIn K C (.type "type") = true
  fd : findCls K (.ref C) (.type "type") "__name__" = some (.get (.builtin "getset_descriptor.__get__") (.builtin "type.__name__") (.ref C) (.type "type"))
theorem name_get {C : Addr} {z : Str} {ex : Bool} {Q : Value → Shared → Prop} (X : K.In s.heap) (N : NameC K C z) (h : ∀ tk u, Q (.str z tk) { s with toks := u }) : wpAny (model prog w) A (getAttr (.ref C) "__name__" ex) Q E s := by
  obtain ⟨o, tk, ho, hs⟩ := N.ob
  refine cls_bind X N.rd N.fd (wpAny_call ?_)
  exact own_get (s := { s with toks := s.toks + 1 }) X N.ty (X _ _ ho) hs (handed_on rfl (h tk _))
/-- what an exception class has for the reading of e.__class__ -/
structure ClsE (K : PySem.W.Frag) (C : Addr) : Prop where
  cl : (clsIn K C).isSome = true
  ga : PySem.W.findIn K (.ref C) "__getattribute__" = some (some (.builtin "BaseException.__getattribute__"))
  gg : PySem.W.findIn K (.ref C) "__getattr__" = some none
  ex : PySem.W.subIn K (.ref C) (.type "BaseException") = some true
  fc : PySem.W.findIn K (.ref C) "__class__" = some (some (.builtin "object.__class__"))
  ob : PySem.W.mroIn K C (.type "object") = some true
structure GsK (K : PySem.W.Frag) : Prop where
  sp : specialIn K (.builtin "object.__class__") "__get__" = some (some (.builtin "getset_descriptor.__get__"))
  tk : takesIn K (.builtin "object.__class__") = some true
theorem cls_get {x C : Addr} {ox : Obj} {od : Option Obj} {ex : Bool} {Q : Value → Shared → Prop} (X : K.In s.heap) (I : InstAt s.heap x ox C od) (T : ClsE K C) (G : GsK K) (h : ∀ u, Q (.ref C) { s with toks := u }) : wpAny (model prog w) A (getAttr (.ref x) "__class__" ex) Q E s := by
  obtain ⟨hp, g, d, t, os⟩ := s
  have hf : findObj K C od "__class__" = some (.bind (.builtin "getset_descriptor.__get__") (.builtin "object.__class__")) := findObj_dataE T.cl T.fc G.sp G.tk
  have l0 := I.type (M := model prog w)
  have l1 := looks_findIn (M := model prog w) X T.ga
  have l2 := looks_findIn (M := model prog w) X T.gg
  have l3 := looks_find (M := model prog w) X I hf
  have sub : Looks (model prog w) hp (isInstance (.ref x) (.type "BaseException")) true := l0.andThen (looks_subIn X T.ex)
  have n0 : (ex && onTheHeap (Value.builtin "BaseException.__getattribute__")) = false := by cases ex <;> rfl
  have n2 : (Value.builtin "BaseException.__getattribute__" == Value.builtin "object.__getattribute__") = false := by
    decide +kernel
  have n1 : (onTheHeap (.ref C) && Value.builtin "BaseException.__getattribute__" == Value.builtin "object.__getattribute__") = false := (congrArg (onTheHeap (.ref C) && ·) n2).trans (Bool.and_false _)
  unfold getAttr getAttrBy
  refine wpAny_bind (wpAny_mkText (wpAny_holding (wpAny_bind (l0.at (wpAny_bind (l1.at ?_))))))
  dsimp only
  rw [n1, if_neg Bool.false_ne_true]
  unfold getAttrByItsOwn hookBefore
  refine wpAny_bind ?_
  rw [if_pos (by rfl)]
  refine l2.at ?_
  refine wpAny_bind (wpAny_attempt (wpAny_holding ?_))
  unfold callGetattribute
  rw [n0, if_neg Bool.false_ne_true]
  unfold boundAndCalled
  rw [PySem.F.excAttr_ValueError.ga.bind (.ref x)]
  refine wpAny_bind (wpAny_pure ?_)
  refine wpAny_call (codeAny_call_builtin PySem.F.excAttr_ValueError.ga.plain
    PySem.F.entry_bexc_ga ?_)
  refine @PySem.W.check_slot (model prog w) _ _ ⟨hp, g, d, t + 1, os⟩ "BaseException.__getattribute__" "BaseException" "__getattribute__" (.ref x)
    [.str "__class__" t] [] _ (by decide +kernel) (by decide +kernel) sub (PySem.F.args_bexc_ga (.ref x) (.str "__class__" t)) ?_
  unfold Builtin.«object.__getattribute__»
  refine wpAny_bind (wpAny_of_eq (a := ((Value.ref x : Value), [Value.str "__class__" t]))
    (by first | rfl | (simp only [slotArgs]; rfl)) ?_)
  refine wpAny_bind (wpAny_pure (wpAny_bind (l0.at (wpAny_bind (l3.at ?_)))))
  refine wpAny_bind (wpAny_holding (wpAny_call
    (class_get (s := ⟨hp, g, d, t + 1, os⟩) (ox := ox) (od := od) X I T.ob ?_)))
  refine wpAny_pure ?_
  exact handed_on rfl (h _)
end
/-! ### the readings -/
section
variable {X : Cx} {e : Expr} {te : TE} {p : Pos}
/-- the object at a is an exception that is being made -/
def Exo (H : Hp) (a C : Addr) : Prop := H a = some (exo a C none) ∨ ∃ (d : Addr) (fs : List (Str × V)), H a = some (exo a C (some d)) ∧ H d = some (exd d fs)
theorem Exo.inst {P : Program} {w : World} {H : Hp} {h : Heap} {a C : Addr} (x : Exo H a C) (hok : HOk P w H h) : ∃ (ox : Obj) (od : Option Obj), InstAt h a ox C od := by
  rcases x with q | ⟨d, fs, q, q2⟩
  · obtain ⟨t1, ho⟩ := exo_at hok q
    exact ⟨_, none, ho, rfl, rfl, True.intro⟩
  · obtain ⟨t1, ho⟩ := exo_at hok q
    obtain ⟨mA, ⟨od, es, ep, h1, _⟩, _⟩ := exd_at hok q2
    exact ⟨_, some od, ho, rfl, rfl, h1⟩
theorem pe_cls (G : GsK X.K) (he : PE X e te) (hb : attributeBase e "__class__" X.env (eval e X.env) = eval e X.env := by rfl) : PE X (.Attribute e "__class__" p) (fun σ H Q => te σ H fun x H1 => ∃ a C : Addr, x = .ref a ∧ Exo H1 a C ∧ ClsE X.K C ∧ Q (.ref C) H1) := by
  refine ⟨fun pins s σ H Q I h => attr_of hb (thn (he.run pins s σ H _ I h) fun u s1 hh => ?_)⟩
  obtain ⟨x, H1, I1, rx, a, C, ex, xo, T, q⟩ := hh
  subst ex
  obtain rfl : u = Value.ref a := rx
  obtain ⟨ox, od, J⟩ := xo.inst I1.hok
  exact cls_get I1.kIn J T G fun u => ⟨.ref C, H1, I1.tok _, rfl, q⟩
theorem pe_name (he : PE X e te) (hb : attributeBase e "__name__" X.env (eval e X.env) = eval e X.env := by rfl) : PE X (.Attribute e "__name__" p) (fun σ H Q => te σ H fun x H1 => ∃ (C : Addr) (z : Str), x = .ref C ∧ NameC X.K C z ∧ Q (.str z) H1) := by
  refine ⟨fun pins s σ H Q I h => attr_of hb (thn (he.run pins s σ H _ I h) fun u s1 hh => ?_)⟩
  obtain ⟨x, H1, I1, rx, C, z, ex, N, q⟩ := hh
  subst ex
  obtain rfl : u = Value.ref C := rx
  exact name_get I1.kIn N fun tk u => ⟨.str z, H1, I1.tok _, ⟨tk, rfl⟩, q⟩
end
end FW
namespace FW
open PySem PySem.Spec PyProof.Rows L2
/-! ### a caught exception as one of the things that the heap is known to hold -/
def ExK (cls : Value) (d : Option Addr) (a : Addr) : HO := .ext fun h => ∃ (oe : Obj) (vs : Array Value), h.get? a = some oe ∧ Zc cls d oe ∧ oe.data = .fields vs
theorem exk_ok {P : Program} {w : World} {H : Hp} {h : Heap} {a : Addr} {cls : Value} {d : Option Addr} {oe : Obj} {vs : Array Value} (ha : h.get? a = some oe) (hz : Zc cls d oe) (hd : oe.data = .fields vs) : ObjOk P w H h a (ExK cls d a) :=
  ⟨⟨oe, vs, ha, hz, hd⟩, ⟨oe, ha⟩, fun _ _ ⟨o, v, q1, q2, q3⟩ st => ⟨o, v, st _ q1, q2, q3⟩⟩
theorem exk_at {P : Program} {w : World} {H : Hp} {h : Heap} {a : Addr} {cls : Value} {d : Option Addr} (ok : HOk P w H h) (e : H a = some (ExK cls d a)) : ∃ (oe : Obj) (vs : Array Value), h.get? a = some oe ∧ Zc cls d oe ∧ oe.data = .fields vs := by
  have z : ObjOk P w H h a (.ext fun h => ∃ (oe : Obj) (vs : Array Value), h.get? a = some oe ∧ Zc cls d oe ∧ oe.data = .fields vs) := ok a _ e
  exact z.1
section
variable {X : Cx} {pins : List (Addr × Obj)} {σ : L2.St} {H : Hp} {s : Shared}
theorem adopt {a : Addr} {cls : Value} {d : Option Addr} {oe : Obj} {vs : Array Value} (I : Inv X pins σ H s) (ha : s.heap.get? a = some oe) (hz : Zc cls d oe) (hd : oe.data = .fields vs) (na : H a = none) (nL : a ≠ X.env.locals)
    (n0 : X.s_0.heap.get? a = none) (np : ∀ p ∈ X.pn ++ pins, p.1 ≠ a) : Inv X pins σ (upd H a (ExK cls d a)) s where
  ok := I.ok
  os := I.os
  bare := I.bare
  base :=
    { keep := I.base.keep
      slot := I.base.slot
      free := fun b o e n hx => (upd_ne (fun z => by rw [z, n0] at e; cases e)).trans (I.base.free b o e n hx)
      there := I.base.there
      tups := fun b xs q => (upd_ne (ne_of_none (I.base.tups b xs q) na)).trans (I.base.tups b xs q)
      frzs := fun b o u q => (upd_ne (ne_of_none (I.base.frzs b o u q) na)).trans (I.base.frzs b o u q)
      tbls := fun b ps q => by
        obtain ⟨more, e⟩ := I.base.tbls b ps q
        exact ⟨more, (upd_ne (ne_of_none e na)).trans e⟩ }
  loc := I.loc
  cell := I.cell
  free := (upd_ne (Ne.symm nL)).trans I.free
  freeC := fun x c e => (upd_ne (fun z => by
    obtain ⟨v, o, ho, hc⟩ := I.cell x c e
    rw [z, ha] at ho
    cases ho
    rw [hd] at hc
    cases hc)).trans (I.freeC x c e)
  pin := fun p hp => by
    obtain ⟨q1, q2, q3, q4, q5⟩ := I.pin p hp
    exact ⟨q1, (upd_ne (np p hp)).trans q2, q3, q4, q5⟩
  hok := fun b o e => by
    by_cases hb : b = a
    · subst hb
      rw [upd_same] at e
      cases e
      exact exk_ok ha hz hd
    · rw [upd_ne hb] at e
      exact (I.hok b o e).stay (fun _ _ _ q => q) (fun c q => (upd_ne (ne_of_none q na)).trans q) fun c xs q => (upd_ne (ne_of_none q na)).trans q
  len := I.len
theorem in_suite {a : Addr} (I : Inv X pins σ H s) : Inv (X.suite a (X.pn ++ pins)) [] σ H s :=
  ⟨I.ok.suite _ _, I.os, I.bare, I.base, I.loc, I.cell, I.free, I.freeC, fun p hp => I.pin p ((List.append_nil (X.pn ++ pins)) ▸ hp), I.hok, I.len⟩
theorem of_suite {a : Addr} {pn' : List (Addr × Obj)} (I : Inv (X.suite a (X.pn ++ pins)) pn' σ H s) (ok : X.Ok) : Inv X pins σ H s :=
  ⟨ok, I.os, I.bare, I.base, I.loc, I.cell, I.free, I.freeC, fun p hp => I.pin p (List.mem_append_left _ hp), I.hok, I.len⟩
end
theorem flying_kept {B h h' : Heap} {l : List Env} {a : Addr} {Z : Obj → Prop} (x : HandSPX.FlyingZ B l a Z h) (k : ∀ b o, h.get? b = some o → h'.get? b = some o) : HandSPX.FlyingZ B l a Z h' := by
  obtain ⟨k1, k2, k3, oe, vs, T, oT, ts, h1, h2, h3, h4, h5, h6, h7, h8, h9⟩ := x
  exact ⟨fun b o e => k b o (k1 b o e), k2, k3.of_keeps fun b o e _ => ⟨o, k b o e, rfl⟩, oe, vs, T, oT, ts, k a _ h1, h2, h3, h4, h5, h6, k T _ h7, h8, h9⟩
/-- what 'except (x1, x2, x3) as n' wishes: it takes the exception; slot i is n's -/
def wIn (K : PySem.W.Frag) (m : Nat) (cs : List Value) (i : Nat) (ts : TS) (D : Ends) : WX := fun cls d σ H =>
  PySem.W.exmAny K cls cs = some true ∧ ∀ a, H a = none → σ.length = m → ts { nx := fun σ' H' => D.nx (σ'.set i none) H', rt := D.rt, bk := fun σ' H' => D.bk (σ'.set i none) H', ct := fun σ' H' => D.ct (σ'.set i none) H' } (σ.set i (some (.ref a))) (upd H a (ExK cls d a))
section
variable {X : Cx} {x1 x2 x3 n : Str} {C1 C2 C3 : Addr} {i : Nat} {body suite : List Stmt} {b₀ : Stmt} {q1 q2 q3 qt pos pos' : Pos} {tb : WX → TS} {ts : TS}
theorem ps_try3 {cx} (hs : X.stack = X.env :: X.outer) (hf : X.env.frame = some X.env.locals) (hex : X.ex = []) (hN : X.N.Nodup) (hi : X.N[i]? = some n) (hln : X.env.kindOf n = some .local)
    (g1 : Gl X x1) (m1 : X.mg x1 = some (.ref C1)) (g2 : Gl X x2) (m2 : X.mg x2 = some (.ref C2)) (g3 : Gl X x3) (m3 : X.mg x3 = some (.ref C3))
    (hb : ∀ (W : WX) (pn : List (Addr × Obj)) (xe : Value → Shared → Prop), Takes (X.tr pn xe) W → PassesOwn (model X.prog X.w) X.A X.env xe → PSs (X.tr pn xe) body (tb W))
    (hsu : ∀ (a : Addr) (pn : List (Addr × Obj)), PSs (X.suite a pn) (b₀ :: suite) ts)
    (d1 : (x1 == ("__debug__" : Str)) = false := by decide) (d2 : (x2 == ("__debug__" : Str)) = false := by decide) (d3 : (x3 == ("__debug__" : Str)) = false := by decide) :
    PS X (.Try body [.ExceptHandler (some (.Tuple [.Name x1 q1, .Name x2 q2, .Name x3 q3] cx qt)) (some n) (b₀ :: suite) pos'] [] [] pos) (fun D σ H => tb (wIn X.K X.N.length [.ref C1, .ref C2, .ref C3] i ts D) D σ H) := by
  refine ⟨fun pins s σ H D I h => wpAny_Try_except ?_⟩
  have ok := I.ok
  have fr : X.A.frames = some (X.env :: X.outer) := ok.frames.trans (congrArg some hs)
  have hl : Loc X.env.scope n := .inl hln
  generalize hhd : [ExceptHandler.ExceptHandler (some (.Tuple [.Name x1 q1, .Name x2 q2, .Name x3 q3] cx qt)) (some n) (b₀ :: suite) pos'] = hd
  let xe' : Value → Shared → Prop := fun e s1 => wpAny (model X.prog X.w) X.A (noteFrame e X.env)
    (fun _ s2 => wpAny (model X.prog X.w) X.A (setFlight e none)
      (fun _ s3 => wpAny (model X.prog X.w) X.A (handleBy e X.env hd) (SP X pins D) X.xe s3) X.xe s2) X.xe s1
  have caught : Takes (X.tr (X.pn ++ pins) xe') (wIn X.K X.N.length [.ref C1, .ref C2, .ref C3] i ts D) := by
    rintro u s' ⟨a, B, sI, pins', σ', H', cls, d, rfl, J', nb, up, sky, na, os, ag, w1, w2⟩
    have J : Inv X pins σ' H' sI := J'.ofTry ok
    have sk : Sky B (X.env :: X.outer) a (Zc cls d) X.env.locals s'.heap := hs ▸ sky
    show wpAny (model X.prog X.w) X.A (noteFrame (.ref a) X.env) _ _ _
    refine Sky.land Zc.steady fr hf sk fun h3 fl up3 => ?_
    have J3 : Inv X pins σ' H' { s' with heap := h3 } := J.landed nb fl.1 (up.trans up3) os ag
    obtain ⟨oe, vs, he, hz, hdt⟩ := fl.there
    have out : a ∉ frs (X.env :: X.outer) := fun hm => by
      obtain ⟨_, o, e', hn⟩ := fl.2.2.1.mem hm
      rw [he] at e'
      cases e'
      exact hn _ hdt
    have nL : a ≠ X.env.locals := fun z => out (List.mem_filterMap.mpr ⟨X.env, List.mem_cons_self, hf.trans (congrArg some z.symm)⟩)
    have nB : B.get? a = none := fl.2.1
    have notI : ∀ o, sI.heap.get? a ≠ some o := fun o e => by
      rw [nb a o e (hs ▸ out)] at nB
      cases nB
    have n0 : X.s_0.heap.get? a = none := by
      cases e : X.s_0.heap.get? a with
      | none => rfl
      | some o =>
        obtain ⟨o', e'⟩ := J.base.there a o e (by rw [hex]; exact List.not_mem_nil)
        exact absurd e' (notI o')
    have np : ∀ p ∈ X.pn ++ pins, p.1 ≠ a := fun p hp z => notI p.2 (z ▸ (J.pin p hp).1)
    subst hhd
    refine wpAny_handleBy_cons (codeAny_handlers_test ?_) (fun q => by cases q)
    have S3 : Inv (X.suite a (X.pn ++ pins)) [] σ' H' { s' with heap := h3 } := in_suite J3
    refine wpAny_Tuple_spliced (Calls.spliced_cons (ld_glob (X := X.suite a (X.pn ++ pins)) S3 g1 m1 ?_ d1))
    refine Calls.spliced_cons (ld_glob (X := X.suite a (X.pn ++ pins)) S3 g2 m2 ?_ d2)
    refine Calls.spliced_cons (ld_glob (X := X.suite a (X.pn ++ pins)) S3 g3 m3 ?_ d3)
    refine Calls.spliced_nil ⟨(show 3 ≤ sizeLine by decide), ?_⟩
    have kp : ∀ b o, h3.get? b = some o → (h3.push { cls := .type "tuple", data := .seq [Value.ref C1, .ref C2, .ref C3].toArray }).get? b = some o := fun b o e => Heap.get?_push_of_some _ e
    have tp := Heap.get?_push_size h3 (o := { cls := .type "tuple", data := .seq [Value.ref C1, .ref C2, .ref C3].toArray }) rfl
    have fl2 := flying_kept fl kp
    generalize (h3.push { cls := .type "tuple", data := .seq [Value.ref C1, .ref C2, .ref C3].toArray }) = h4 at kp tp fl2
    have up4 : h3.UpToSlots h4 := .of_keeps kp
    have ty : PySem.W.Looks (model X.prog X.w) h4 (typeOf (.ref a)) cls := fun _ _ _ _ k q => wpAny_typeOf_ref (k _ _ (kp _ _ he)) (by rw [hz.1]; exact q)
    refine (PySem.W.exm_tup3 (M := model X.prog X.w) (J3.kIn.keeps kp) ty tp w1).here ?_
    refine codeAny_handlers_suite_as ?_
    refine HandSPX.lands_againZ fl2 fun h5 fl5 up5 => ?_
    have J5 : Inv X pins σ' H' { s' with heap := h5 } := J.landed nb fl5.1 (((up.trans up3).trans up4).trans up5) os ag
    obtain ⟨oe5, vs5, he5, hz5, hd5⟩ := fl5.there
    have S5 : Inv (X.suite a (X.pn ++ pins)) [] σ' (upd H' a (ExK cls d a)) { s' with heap := h5 } := in_suite (adopt J5 he5 hz5 hd5 na nL n0 np)
    refine store_ok (X := X.suite a (X.pn ++ pins)) (v := .ref a) S5 hN hi hl rfl (fun s6 S6 => ?_) (.inr hln)
    refine wpAny_mono ((hsu a (X.pn ++ pins)).run [] s6 _ _ _ S6 (w2 a na J.len)) (fun f s7 hsp => ?_) (fun _ _ z => False.elim z)
    have gone : ∀ {σ7 : L2.St} {H7 : Hp} {Q : Shared → Prop}, Inv (X.suite a (X.pn ++ pins)) [] σ7 H7 s7 → (∀ s8, Inv X pins (σ7.set i none) H7 s8 → Q s8) →
        wpAny (model X.prog X.w) X.A (do bindName X.env n .none; unbindBehindTheSuite X.env n pos') (fun _ s8 => Q s8) X.xe s7 := fun S7 hq => gone_ok (of_suite S7 ok) hN hi hln hq
    cases f with
    | next =>
      obtain ⟨σ7, H7, S7, q7⟩ := hsp
      exact gone S7 fun _ J8 => ⟨_, _, J8, q7⟩
    | brk =>
      obtain ⟨σ7, H7, S7, q7⟩ := hsp
      exact gone S7 fun _ J8 => ⟨_, _, J8, q7⟩
    | cont =>
      obtain ⟨σ7, H7, S7, q7⟩ := hsp
      exact gone S7 fun _ J8 => ⟨_, _, J8, q7⟩
    | ret u =>
      obtain ⟨v7, σ7, H7, S7, r7, q7⟩ := hsp
      exact gone S7 fun _ J8 => ⟨_, _, _, J8, r7, q7⟩
  refine wpAny_mono ((hb _ (X.pn ++ pins) xe' caught PassesOwn.looking).run [] s σ H D (I.toTry _) h) (fun f s1 hsp => ?_) (fun _ _ z => z)
  cases f with
  | next =>
    obtain ⟨σ2, H2, J2, q⟩ := hsp
    exact wpAny_execs_nil ⟨σ2, H2, J2.ofTry ok, q⟩
  | brk =>
    obtain ⟨σ2, H2, J2, q⟩ := hsp
    exact ⟨σ2, H2, J2.ofTry ok, q⟩
  | cont =>
    obtain ⟨σ2, H2, J2, q⟩ := hsp
    exact ⟨σ2, H2, J2.ofTry ok, q⟩
  | ret u =>
    obtain ⟨v, σ2, H2, J2, r, q⟩ := hsp
    exact ⟨v, σ2, H2, J2.ofTry ok, r, q⟩
end
/-! ### a field of such a thing -/
def tXk (K : PySem.W.Frag) (f : Str) (te : TE) : TE := fun σ H Q => te σ H fun x H1 => ∃ (a C dd : Addr) (fs : List (Str × V)) (v : V), x = .ref a ∧ H1 a = some (ExK (.ref C) (some dd) a) ∧ H1 dd = some (.xd fs) ∧
  XfC K C ∧ PySem.W.findIn K (.ref C) f = some none ∧ fs.lookup f = some v ∧ Q v H1
theorem pe_xk {X : Cx} {e : Expr} {te : TE} {pos : Pos} {f : Str} (he : PE X e te) (hb : attributeBase e f X.env (eval e X.env) = eval e X.env := by rfl) : PE X (.Attribute e f pos) (tXk X.K f te) := by
  refine ⟨fun pins s σ H Q I h => attr_of hb (thn (he.run pins s σ H _ I h) fun u s1 hh => ?_)⟩
  obtain ⟨x, H1, I1, rx, a, C, dd, fs, v, ex, ea, ed, T, hno, l, q⟩ := hh
  subst ex
  obtain rfl : u = Value.ref a := rx
  obtain ⟨oe, vs, ha, hz, hd⟩ := exk_at I1.hok ea
  have hx : ObjOk X.prog X.w H1 s1.heap dd (.xd fs) := I1.hok dd _ ed
  obtain ⟨mA, hns, hr⟩ := hx
  obtain ⟨od, ho, hl⟩ := lookIn_ns hns
  obtain ⟨u, hu, ru⟩ := RelO.some_of (v := v) (o := mA f) (by rw [← l]; exact hr f)
  have J : PySem.W.InstAt s1.heap a oe C (some od) := ⟨ha, hz.1, (by unfold PySem.W.notCls; rw [hd] <;> rfl), (by rw [hz.2]; exact ho)⟩
  exact HandSPX.exc_get I1.kIn J T.ga T.gg T.exC (PySem.W.findObj_own T.hdC hno rfl ((hl f).trans (congrArg some hu))) (handed_of ru)
    ⟨v, H1, I1.tok _, ru, q⟩
end FW
namespace FW
open PySem PySem.Spec PyProof.Rows L2
/-! ### defs that are called while an exception is handled; they raise nothing -/
structure FnW (P : Program) (w : World) (K : PySem.W.Frag) (mg : Str → Option Value) (base : Heap) (k : Nat) (f : Addr) (fd : FuncData) (ps : List Str) (sp : Sp) : Prop where
  len : ∀ vs H Q E, sp vs H Q E → vs.length = ps.length
  run : ∀ (A : Around) (outer : List Env) (s : Shared) (H : Hp) (args : Args) (us : List Value) (vs : List V) (Q : VK), L2H.RoomH k A → Env0 P w K mg base A outer s H → BindsTo s fd args (ps.zip us) → Vals vs us → sp vs H Q E0 →
    codeAny (model P w) A (.call (.ref f) args) (CR L2.CX0 outer P w H s Q E0) s
section
variable {P : Program} {w : World} {K : PySem.W.Frag} {mg : Str → Option Value} {base : Heap}
theorem okW {x qual : Str} {st : Stmt} {f : Addr} {fd : FuncData} {N ps : List Str} {k : Nat} {sp : Sp} (F : Fun K x qual st f fd) (S : FnScope N ps (defScope st)) (len : ∀ vs H Q E, sp vs H Q E → vs.length = ps.length)
    (hbody : ∀ (cdv : Value) (A : Around) (outer : List Env) (s : Shared) (H : Hp) (vs : List V) (Q : VK) (p : Addr × Obj), L2H.RoomH k (A.deeper (envOfC qual (defScope st) s.heap.objs.size f cdv)) → sp vs H Q E0 →
      ∃ t, PSs (L2H.cxH L2.CX0 P w K mg base N qual (defScope st) f cdv A outer s H E0 p).nox (defBody st) t ∧ t { nx := fun _ H' => Q .non H', rt := Q } (L2.start N vs) H) : FnW P w K mg base (k + 1) f fd ps sp := by
  obtain ⟨oc, od, kV, doc, pm, an, cdv, ct, osl, rfl, lk, hcd⟩ := F.ex
  refine ⟨len, fun A outer s H args us vs Q hr e0 hb r hsp => ?_⟩
  have there : ∀ b o, K.lookup b = some o → s.heap.get? b = some o ∧ H b = none := fun b o e => e0.bs b o (e0.mod.kin b o e)
  obtain ⟨fat, fnn⟩ := there _ _ lk
  have nfr : f ∉ frs outer := fun hm => by
    have z := (e0.funs.mem hm).1
    rw [e0.mod.kin _ _ lk] at z
    cases z
  have pin : L2H.PinOk outer H s (f, _) := ⟨fat, fnn, nfr, fun v z => by cases z⟩
  have KX : K.In s.heap := fun b o e => (there b o e).1
  have ks : ∀ y ∈ ps.zip us, (defScope st).names.lookup y.1 = some .local ∨ ((defScope st).names.lookup y.1 = some .cell ∧ ((cellsFrom (s.heap.objs.size + 1) (defScope st).names []).lookup y.1).isSome = true) := by
    rintro ⟨n, v⟩ hy
    exact (S.par n (List.of_mem_zip hy).1).imp id fun q => ⟨q, PySem.W.cellsFrom_some _ _ _ (.inl q)⟩
  refine codeAny_call_function hr.depth fat rfl S.co S.gen rfl (PySem.W.codeRec_of KX hcd) (hb _ _ _ _ ?_)
  refine wpAny_newFunctionEnv_cells S.kind ks fun env he s1 x => ?_
  subst he
  refine ⟨(e0.mod.nolimit.keeps fun b o e => (e0.bs b o e).1).keeps x.toInCall.keep, codeAny_func ?_⟩
  obtain ⟨t, ht, hq⟩ := hbody cdv A outer s H vs Q _ (hr.deeper _) hsp
  have I := L2H.inv_startH (CX := L2.CX0) (E := E0) (base := base) (mg := mg) (w := w) (P := P) S pin e0 (len _ _ _ _ hsp) r x
  refine wpAny_mono (ht.nox.run [] s1 _ H _ I hq) (fun fl s' hs => ?_) (fun _ _ hs => hs)
  cases fl with
  | ret u =>
    obtain ⟨v, σ', H', J, rv, q⟩ := hs
    exact ⟨v, H', J.os, J.bare, J.base, J.hok, rv, q⟩
  | next =>
    obtain ⟨σ', H', J, q⟩ := hs
    exact ⟨V.non, H', J.os, J.bare, J.base, J.hok, rfl, q⟩
  | brk =>
    obtain ⟨_, _, _, q⟩ := hs
    exact q.elim
  | cont =>
    obtain ⟨_, _, _, q⟩ := hs
    exact q.elim
end
section
variable {X : Cx} {k : Nat} {f : Addr} {fd : FuncData} {ps : List Str} {sp : Sp} {x : Str} {p pos : Pos} {e : Expr} {es : List Expr} {t : TA}
theorem pe_callW (F : FnW X.prog X.w X.K X.mg X.base k f fd ps sp) (hr : L2H.RoomH k X.A) (hg : Gl X x) (hm : X.mg x = some (.ref f)) (hk : PySem.W.keepIn X.K (.ref f) = true) (hb : Binds X.K fd ps [])
    (ha : PA X (e :: es) t) (hdb : (x == ("__debug__" : Str)) = false := by decide) (he : starEach (e :: es) X.env = (false, eval e X.env) :: starEach es X.env := by rfl)
    (hpl : (backTo pos (starEach es X.env)).any (·.1) = false := by rfl) : PE X (.Call (.Name x p) (e :: es) [] pos) (fun σ H Q => t σ H fun vs H1 => sp vs H1 Q E0) := by
  refine ⟨fun pins s σ H Q I h => wpAny_Call_Name_kw (ld_glob I hg hm ?_ hdb)⟩
  refine PySem.W.callWith_K (h₀ := X.base) I.ok.mod.kin hk (thn (ha.run pos pins s σ H _ I h) ?_) he hpl
  rintro us s1 ⟨vs, H1, I1, r, q⟩
  have hl : us.length = ps.length := r.length.symm.trans (F.len _ _ _ _ q)
  have hb' : BindsTo s1 fd ⟨us, []⟩ (ps.zip us) := by
    have z := hb s1 us I1.kIn (by rw [List.append_nil]; exact hl)
    rwa [List.append_nil] at z
  refine ⟨I1.kIn, wpAny_call (codeAny_mono (F.run X.A X.stack s1 H1 ⟨us, []⟩ us vs Q hr I1.env0 hb' r q) fun r s' hq => ?_)⟩
  cases r with
  | error e => exact hq.elim
  | ok fl =>
    cases fl with
    | ret u => exact I1.after hq
    | next => exact hq.elim
    | brk => exact hq.elim
    | cont => exact hq.elim
end
end FW
namespace L2
open PySem PySem.Spec PySem.Calls PyProof.Rows
/-! ### a text unpacked into names -/
abbrev sgn (c : Nat) : V := .str ⟨#[c]⟩
section
variable {prog : Program} {w : World} {A : Around} {E : Value → Shared → Prop}
theorem draw_str {it : Addr} {x : Str} {t : Tok} {ty : String} (hty : ty = "str_ascii_iterator" ∨ ty = "str_iterator") : ∀ (n i : Nat) (s : Shared) (Q : List Value → Shared → Prop), s.heap.IsStrIter it ty x t i → i + n ≤ x.cps.size →
    (∀ h' tk us, h'.IsStrIter it ty x t (i + n) → Heap.SameBut it s.heap h' → Vals (((x.cps.toList.drop i).take n).map sgn) us → Q us { s with heap := h', toks := tk }) → wpAny (model prog w) A (draw (.ref it) n) Q E s
  | 0, i, s, Q, hit, _, hQ => by
    show wpAny _ _ (pure []) Q E s
    exact wpAny_pure (hQ s.heap s.toks [] hit (Heap.SameBut.refl ..) .nil)
  | n + 1, i, s, Q, hit, hle, hQ => by
    have hlt : i < x.cps.size := by omega
    show wpAny _ _ (pyNext (.ref it) >>= _) Q E s
    have hx : x.cps[i]? = some x.cps[i] := Array.getElem?_eq_getElem hlt
    have hd : x.cps.toList.drop i = x.cps[i] :: x.cps.toList.drop (i + 1) := by
      rw [List.drop_eq_getElem_cons (by simpa using hlt)]
      simp
    have go : ∀ h₁, h₁.IsStrIter it ty x t (i + 1) → Heap.SameBut it s.heap h₁ → wpAny (model prog w) A (match (some (.str ⟨#[x.cps[i]]⟩ s.toks) : Option Value) with
        | none => pure []
        | some v => do return v :: (← holding [v] (draw (.ref it) n))) Q E { s with heap := h₁, toks := s.toks + 1 } := fun h₁ hit₁ hs₁ => by
      refine wpAny_bind (wpAny_holding (draw_str hty n (i + 1) _ _ hit₁ (by omega) fun h₂ tk us hit₂ hs₂ r => wpAny_pure ?_))
      refine hQ h₂ tk _ (by rw [show i + (n + 1) = i + 1 + n by omega]; exact hit₂) (hs₁.trans hs₂) ?_
      rw [hd, List.take_succ_cons, List.map_cons]
      exact .cons ⟨_, rfl⟩ r
    rcases hty with e | e
    · subst e
      exact wpAny_bind (wpAny_pyNext_ascii_item hit hx fun h₁ hit₁ hs₁ => go h₁ hit₁ hs₁)
    · subst e
      exact wpAny_bind (wpAny_pyNext_wide_item hit hx fun h₁ hit₁ hs₁ => go h₁ hit₁ hs₁)
theorem items_str {x : Str} {t : Tok} {s : Shared} {Q : List Value → Shared → Prop} (hh : A.handled = none)
    (hQ : ∀ h' tk us, Heap.ExtBut s.heap.objs.size s.heap h' → Vals (x.cps.toList.map sgn) us → Q us { s with heap := h', toks := tk }) : wpAny (model prog w) A (unpackItems (.str x t) x.cps.size none) Q E s := by
  unfold unpackItems
  refine wpAny_bind ?_
  unfold notIterableAtAll
  refine wpAny_bind (wpAny_specialOf (typeIs_str s x t) F.slot_str_iter.lookup ?_)
  refine wpAny_pure ?_
  simp only [Bool.false_eq_true, if_false]
  have go : ∀ (ty : String), ty = "str_ascii_iterator" ∨ ty = "str_iterator" → ∀ s₁ : Shared, s₁ = { s with heap := s.heap.push { cls := .type ty, data := .fields #[.str x t, .int 0 0] } } → 
      wpAny (model prog w) A (do
        let items ← holding [.ref s.heap.objs.size] (draw (.ref s.heap.objs.size) x.cps.size)
        if items.length < x.cps.size then
          rule "unpack.too-few"; raiseError "ValueError" s!"not enough values to unpack (expected {x.cps.size}, got {items.length})"
        if (← holding items (pyNext (.ref s.heap.objs.size))).isSome then
          rule "unpack.too-many"; raiseError "ValueError" s!"too many values to unpack (expected {x.cps.size})"
        return items) Q E s₁ := fun ty hty s₁ hs => by
    subst hs
    have hit0 : (s.heap.push { cls := .type ty, data := .fields #[.str x t, .int 0 0] }).IsStrIter s.heap.objs.size ty x t 0 := ⟨_, Heap.get?_push_size _ rfl, rfl, rfl⟩
    refine wpAny_bind (wpAny_holding (draw_str hty x.cps.size 0 _ _ hit0 (by omega) fun h₁ tk us hit₁ hs₁ r => ?_))
    have hall : (x.cps.toList.drop 0).take x.cps.size = x.cps.toList := by
      rw [List.drop_zero]; exact List.take_of_length_le (by simp)
    rw [hall] at r
    have hl : us.length = x.cps.size := by rw [← r.length, List.length_map]; simp
    rw [if_neg (by omega)]
    have fin : ∀ h₂, Heap.ExtBut s.heap.objs.size h₁ h₂ → Heap.ExtBut s.heap.objs.size s.heap h₂ := fun h₂ he₂ b o hb e => he₂ b o hb (hs₁.extBut b o hb (Heap.get?_push_of_some _ e))
    have hend : x.cps[0 + x.cps.size]? = none := Array.getElem?_eq_none (by omega)
    rcases hty with e | e
    · subst e
      refine wpAny_bind (wpAny_holding (wpAny_pyNext_ascii_end (s := { s with heap := h₁, toks := tk }) hh hit₁ hend fun h₂ he₂ => ?_))
      simp only [Option.isSome_none, Bool.false_eq_true, if_false]
      exact wpAny_pure (hQ h₂ tk us (fin h₂ he₂) r)
    · subst e
      refine wpAny_bind (wpAny_holding (wpAny_pyNext_wide_end (s := { s with heap := h₁, toks := tk }) hh hit₁ hend fun h₂ he₂ => ?_))
      simp only [Option.isSome_none, Bool.false_eq_true, if_false]
      exact wpAny_pure (hQ h₂ tk us (fin h₂ he₂) r)
  cases ha : x.cps.all (· < 128)
  · exact wpAny_bind (wpAny_holding (wpAny_pyIter_wide ha (go _ (.inr rfl) _ rfl)))
  · exact wpAny_bind (wpAny_holding (wpAny_pyIter_ascii ha (go _ (.inl rfl) _ rfl)))
end
section
variable {X : Cx} {pos : Pos}
/-- (a, b, ..) = a text of that many signs -/
def gUstr (n : Nat) (t : TGs) : TG := fun v σ H Q => ∃ z : Str, v = .str z ∧ z.cps.size = n ∧ t (z.cps.toList.map sgn) σ H Q
theorem pg_ustr {es : List Expr} {k : Nat} {t : TGs} {n : Nat} (hc : X.calm = true) (h : PGs X es t)
    (hn : (assignEach es X.env).length = n := by rfl) (hst : (assignEach es X.env).findIdx? (·.1) = none := by rfl) : PG X (.Tuple es k pos) (gUstr n t) := by
  refine ⟨fun pins s σ H v u Q I r hw => ?_⟩
  obtain ⟨z, e1, hz, hw⟩ := hw
  subst e1
  obtain ⟨tk0, rfl⟩ := r
  have hn' : (assignEach es X.env).length = z.cps.size := hn.trans hz.symm
  rw [PyProof.Rows.assign_Tuple]
  refine wpAny_bind (wpAny_standAt ?_)
  unfold unpack
  rw [hn', hst]
  refine wpAny_bind (wpAny_holding (items_str (I.ok.hd hc) fun h' tk us hx r => ?_))
  have I1 : Inv X pins σ H { s with heap := h', toks := tk } := I.kept (t' := tk) fun b o e => hx b o (Nat.ne_of_lt (Heap.lt_size e)) e
  exact h.run pins _ σ H _ us Q I1 r hw
end
/-! ### a call by keywords alone -/
section
variable {X : Cx} {CX : CXT} {k : Nat} {f : Addr} {fd : FuncData} {ps ks : List Str} {sp : Sp} {E : XK} {x : Str} {p pos kpos : Pos} {e : Expr} {kws : List Keyword} {tk : TA} {nm : Option Str} {g : List Value → List Value → List Value} {gV : List V → List V → List V}
theorem pe_callK0 (F : FnOk X.prog X.w X.K X.mg X.base CX k f fd ps sp) (hr : Room k X.A) (hg : Gl X x) (hm : X.mg x = some (.ref f)) (hk : PySem.W.keepIn X.K (.ref f) = true) (hb : KBinds X.K fd ps ks g gV) (hx : Passes CX X E)
    (hkw : PK X kws tk) (hall : (backToKw pos (keywordEach kws X.env)).all (·.1.isSome) = true := by rfl) (hks : (backToKw pos (keywordEach kws X.env)).filterMap (·.1) = ks := by rfl)
    (hdb : (x == ("__debug__" : Str)) = false := by decide)
    (hpl : ((backTo pos (starEach [] X.env)).any (·.1) || (backToKw pos (keywordEach kws X.env)).any (·.1.isNone)) = false := by rfl) :
    PE X (.Call (.Name x p) [] kws pos) (tCallK sp gV E tNil tk) := by
  refine ⟨fun pins s σ H Q I h => ?_⟩
  refine wpAny_Call_Name_kw (ld_glob I hg hm ?_ hdb)
  refine PySem.W.callWith_KW0 (h₀ := X.base) I.ok.mod.kin hk hall (thn (hkw.run pos pins s σ H _ I h) fun ws s2 ⟨zs, H2, I2, rz, q2⟩ => ⟨I2.kIn, ?_⟩) hpl
  rw [hks]
  exact run_fnk F hr hb hx I2 .nil rz q2
end
/-! ### a def of the module, by its name -/
structure Cal (P : Program) (w : World) (K : PySem.W.Frag) (mg : Str → Option Value) (base : Heap) (CX : CXT) (k : Nat) (x : Str) (st : Stmt) (ps : List Str) (sp : Sp) : Prop where
  ex : ∃ (f : Addr) (fd : FuncData), FnOk P w K mg base CX k f fd ps sp ∧ mg x = some (.ref f) ∧ Fun K x x st f fd ∧ Binds K fd ps []
/-- how a call with keywords binds, for every such def's data -/
def KB (K : PySem.W.Frag) (x : Str) (st : Stmt) (ps ks : List Str) (g : List Value → List Value → List Value) (gV : List V → List V → List V) : Prop := ∀ (f : Addr) (fd : FuncData), Fun K x x st f fd → KBinds K fd ps ks g gV
section
variable {X : Cx} {CX : CXT} {k j : Nat} {x : Str} {st : Stmt} {ps ks : List Str} {sp : Sp} {E : XK} {p pos : Pos} {e : Expr} {es : List Expr} {kws : List Keyword} {t tk : TA} {g : List Value → List Value → List Value} {gV : List V → List V → List V}
theorem pe_cx (c : Cal X.prog X.w X.K X.mg X.base CX k x st ps sp) (hr : Room j X.A) (hk : k ≤ j) (hg : Gl X x) (hx : Passes CX X E) (ha : PA X (e :: es) t)
    (hdb : (x == ("__debug__" : Str)) = false := by decide) (he : starEach (e :: es) X.env = (false, eval e X.env) :: starEach es X.env := by rfl) (hpl : (backTo pos (starEach es X.env)).any (·.1) = false := by rfl) :
    PE X (.Call (.Name x p) (e :: es) [] pos) (tCall sp [] E t) := by
  obtain ⟨f, fd, F, hm, fn, b⟩ := c.ex
  exact pe_call F (hr.mono hk) hg hm fn.kp b .nil hx ha hdb he hpl
theorem pe_cx0 (c : Cal X.prog X.w X.K X.mg X.base CX k x st ps sp) (hr : Room j X.A) (hk : k ≤ j) (hg : Gl X x) (hx : Passes CX X E)
    (hdb : (x == ("__debug__" : Str)) = false := by decide) : PE X (.Call (.Name x p) [] [] pos) (tCall sp [] E tNil) := by
  obtain ⟨f, fd, F, hm, fn, b⟩ := c.ex
  exact pe_call0 F (hr.mono hk) hg hm fn.kp b .nil hx hdb
theorem pe_c (c : Cal X.prog X.w X.K X.mg X.base CX0 k x st ps sp) (hr : Room j X.A) (hk : k ≤ j) (hg : Gl X x) (ha : PA X (e :: es) t)
    (hdb : (x == ("__debug__" : Str)) = false := by decide) (he : starEach (e :: es) X.env = (false, eval e X.env) :: starEach es X.env := by rfl) (hpl : (backTo pos (starEach es X.env)).any (·.1) = false := by rfl) :
    PE X (.Call (.Name x p) (e :: es) [] pos) (tCall sp [] E0 t) := pe_cx c hr hk hg pass0 ha hdb he hpl
theorem pe_ck (c : Cal X.prog X.w X.K X.mg X.base CX0 k x st ps sp) (b : KB X.K x st ps ks g gV) (hr : Room j X.A) (hk : k ≤ j) (hg : Gl X x) (ha : PA X (e :: es) t) (hkw : PK X kws tk)
    (hall : (backToKw pos (keywordEach kws X.env)).all (·.1.isSome) = true := by rfl) (hks : (backToKw pos (keywordEach kws X.env)).filterMap (·.1) = ks := by rfl)
    (hdb : (x == ("__debug__" : Str)) = false := by decide) (he : starEach (e :: es) X.env = (false, eval e X.env) :: starEach es X.env := by rfl)
    (hpl : ((backTo pos (starEach (e :: es) X.env)).any (·.1) || (backToKw pos (keywordEach kws X.env)).any (·.1.isNone)) = false := by rfl) :
    PE X (.Call (.Name x p) (e :: es) kws pos) (tCallK sp gV E0 t tk) := by
  obtain ⟨f, fd, F, hm, fn, _⟩ := c.ex
  exact pe_callK F (hr.mono hk) hg hm fn.kp (b f fd fn) pass0 ha hkw hall hks hdb he hpl
theorem pe_ck0 (c : Cal X.prog X.w X.K X.mg X.base CX0 k x st ps sp) (b : KB X.K x st ps ks g gV) (hr : Room j X.A) (hk : k ≤ j) (hg : Gl X x) (hkw : PK X kws tk)
    (hall : (backToKw pos (keywordEach kws X.env)).all (·.1.isSome) = true := by rfl) (hks : (backToKw pos (keywordEach kws X.env)).filterMap (·.1) = ks := by rfl)
    (hdb : (x == ("__debug__" : Str)) = false := by decide) 
    (hpl : ((backTo pos (starEach [] X.env)).any (·.1) || (backToKw pos (keywordEach kws X.env)).any (·.1.isNone)) = false := by rfl) :
    PE X (.Call (.Name x p) [] kws pos) (tCallK sp gV E0 tNil tk) := by
  obtain ⟨f, fd, F, hm, fn, _⟩ := c.ex
  exact pe_callK0 F (hr.mono hk) hg hm fn.kp (b f fd fn) pass0 hkw hall hks hdb hpl
end
/-! ### heaps -/
theorem same_upd {H : Hp} {p : Addr} {o : HO} (h : H p = none) : Same H (upd H p o) := fun b x e => by
  rw [upd_ne (ne_of_none e h)]
  exact e
/-- all that was tracked but what stands at b -/
def But (b : Addr) (H H' : Hp) : Prop := ∀ a o, a ≠ b → H a = some o → H' a = some o
theorem But.refl (b : Addr) (H : Hp) : But b H H := fun _ _ _ h => h
theorem But.trans {b : Addr} {H H1 H2 : Hp} (x : But b H H1) (y : But b H1 H2) : But b H H2 := fun a o n h => y a o n (x a o n h)
theorem Same.but {b : Addr} {H H' : Hp} (x : Same H H') : But b H H' := fun a o _ h => x a o h
theorem But.seq {K : PySem.W.Frag} {b a : Addr} {H H' : Hp} {xs : List V} (e : But b H H') (n : a ≠ b) (h : SqL K H a xs) : SqL K H' a xs := by
  rcases h with (h | ⟨o, h⟩) | h
  · exact .inl (.inl (e _ _ n h))
  · exact .inl (.inr ⟨o, e _ _ n h⟩)
  · exact .inr h
theorem But.upd {b : Addr} {H0 H : Hp} {o : HO} (s : But b H0 H) : But b H0 (upd H b o) := fun a x n e => by
  rw [upd_ne n]
  exact s a x n e
theorem Same.tup {K : PySem.W.Frag} {a : Addr} {H H' : Hp} {xs : List V} (e : Same H H') (h : SqT K H a xs) : SqT K H' a xs := by
  rcases h with (h | ⟨o, h⟩) | h
  · exact .inl (.inl (e _ _ h))
  · exact .inl (.inr ⟨o, e _ _ h⟩)
  · exact .inr h
theorem But.tup {K : PySem.W.Frag} {b a : Addr} {H H' : Hp} {xs : List V} (e : But b H H') (n : a ≠ b) (h : SqT K H a xs) : SqT K H' a xs := by
  rcases h with (h | ⟨o, h⟩) | h
  · exact .inl (.inl (e _ _ n h))
  · exact .inl (.inr ⟨o, e _ _ n h⟩)
  · exact .inr h
end L2
namespace L2
open PySem PySem.Spec PySem.Calls PyProof.Rows
/-! ### zip of lists, tuples and texts in any mix -/
/-- what such a thing is: a list or a tuple at an address, a text -/
inductive SK where
  | l (a : Addr) | t (a : Addr) | s (x : Str) (k : Tok)
def SK.iter : SK → Addr → Nat → Heap → Prop
  | .l a, it, i, h => h.IsListIter it a i
  | .t a, it, i, h => h.IsTupleIter it a i
  | .s x k, it, i, h => h.IsStrIter it (strIterType x) x k i
def SK.at : SK → Addr → Prop
  | .l a, c => c = a
  | .t a, c => c = a
  | .s _ _, _ => False
def SK.val : SK → V
  | .l a => .ref a
  | .t a => .ref a
  | .s x _ => .str x
/-- its items, by the abstract heap -/
inductive Src (K : PySem.W.Frag) (H : Hp) : V → List V → Prop where
  | l {a : Addr} {xs : List V} (h : SqL K H a xs) : Src K H (.ref a) xs
  | t {a : Addr} {xs : List V} (h : SqT K H a xs) : Src K H (.ref a) xs
  | s {x : Str} {xs : List V} (h : xs = x.cps.toList.map sgn) : Src K H (.str x) xs
/-- .. of a known kind -/
def SK.src (K : PySem.W.Frag) (H : Hp) : SK → List V → Prop
  | .l a, xs => SqL K H a xs
  | .t a, xs => SqT K H a xs
  | .s x _, xs => xs = x.cps.toList.map sgn
def SK.obj : SK → Obj
  | .l a => { cls := .type "list_iterator", data := .fields #[.ref a, .int 0 0] }
  | .t a => { cls := .type "tuple_iterator", data := .fields #[.ref a, .int 0 0] }
  | .s x k => { cls := .type (strIterType x), data := .fields #[.str x k, .int 0 0] }
def SK.raw : SK → Value
  | .l a => .ref a
  | .t a => .ref a
  | .s x k => .str x k
theorem SK.iter_keep {k : SK} {it : Addr} {i : Nat} {h h' : Heap} (s : k.iter it i h) (q : ∀ o, h.get? it = some o → h'.get? it = some o) : k.iter it i h' := by
  cases k with
  | l a => exact Heap.IsListIter.at s q
  | t a => exact Heap.IsTupleIter.at s q
  | s x k => exact let ⟨o, ho, r⟩ := s; ⟨o, q o ho, r⟩
theorem SK.iter_obj {k : SK} {it : Addr} {i : Nat} {h : Heap} (s : k.iter it i h) : ∃ o, h.get? it = some o ∧ ∀ v, o.data ≠ .cell v := by
  cases k with
  | l a => obtain ⟨o, e, _, d⟩ := s; exact ⟨o, e, fun v q => by rw [d] at q; cases q⟩
  | t a => obtain ⟨o, e, _, d⟩ := s; exact ⟨o, e, fun v q => by rw [d] at q; cases q⟩
  | s x k => obtain ⟨o, e, _, d⟩ := s; exact ⟨o, e, fun v q => by rw [d] at q; cases q⟩
/-- what the iterator draws while the thing stands so -/
theorem SK.draws {X : Cx} {pins : List (Addr × Obj)} {σ : St} {H : Hp} {s : Shared} {k : SK} {it : Addr} {xs : List V} (I : Inv X pins σ H s) (hc : X.calm = true) (hs : k.src X.K H xs) (hn : ∀ c, k.at c → c ≠ it) :
    ∃ (fp : List Addr) (P : Nat → Value → Prop) (S : Nat → Heap → Prop), Draws X.prog X.w X.A.in1 it fp xs.length P S ∧ (∀ i, k.iter it i s.heap → S i s.heap) ∧ (∀ i h', S i h' → k.iter it i h') ∧
      (∀ i u, P i u → ∃ v, xs[i]? = some v ∧ RelV v u) ∧ it ∈ fp ∧ ∀ c ∈ fp, c = it ∨ k.at c := by
  have hh : X.A.in1.handled = none := I.ok.hd hc
  cases k with
  | l a =>
    obtain ⟨its, rv, p, _⟩ := I.list hs
    refine ⟨[it, a], fun i v => its.toArray[i]? = some v, fun i h => h.IsListIter it a i ∧ h.IsList a its.toArray, by rw [show xs.length = its.toArray.size from rv.length.trans (by simp)]; exact Draws.list hh it a (hn a rfl) its.toArray, fun i q => ⟨q, p.isList⟩, fun i h' q => q.1, fun i u q => ?_, by simp, fun c hc => by
      rcases List.mem_cons.mp hc with e | e
      · exact .inl e
      · exact .inr (List.mem_singleton.mp e)⟩
    have q : its.toArray[i]? = some u := q
    cases e : xs[i]? with
    | none =>
      have := rv.none_of e
      rw [List.getElem?_toArray, this] at q
      cases q
    | some v =>
      obtain ⟨w', h1, h2⟩ := rv.get e
      rw [List.getElem?_toArray, h1] at q
      cases q
      exact ⟨v, rfl, h2⟩
  | t a =>
    obtain ⟨its, rv, p, _⟩ := I.tuple hs
    refine ⟨[it, a], fun i v => its.toArray[i]? = some v, fun i h => h.IsTupleIter it a i ∧ h.IsTuple a its.toArray, by rw [show xs.length = its.toArray.size from rv.length.trans (by simp)]; exact Draws.tuple hh it a (hn a rfl) its.toArray, fun i q => ⟨q, show s.heap.IsTuple a its.toArray from p⟩, fun i h' q => q.1, fun i u q => ?_, by simp, fun c hc => by
      rcases List.mem_cons.mp hc with e | e
      · exact .inl e
      · exact .inr (List.mem_singleton.mp e)⟩
    have q : its.toArray[i]? = some u := q
    cases e : xs[i]? with
    | none =>
      have := rv.none_of e
      rw [List.getElem?_toArray, this] at q
      cases q
    | some v =>
      obtain ⟨w', h1, h2⟩ := rv.get e
      rw [List.getElem?_toArray, h1] at q
      cases q
      exact ⟨v, rfl, h2⟩
  | s x tk =>
    have hs' : xs = x.cps.toList.map sgn := hs
    subst hs'
    refine ⟨[it], fun i v => ∃ c u, x.cps[i]? = some c ∧ v = .str ⟨#[c]⟩ u, fun i h => h.IsStrIter it (strIterType x) x tk i, by rw [show (x.cps.toList.map sgn).length = x.cps.size by simp]; exact Draws.text hh it x tk, fun i q => q, fun i h' q => q, fun i u q => ?_, by simp, fun c hc => .inl (List.mem_singleton.mp hc)⟩
    obtain ⟨c, t, h1, rfl⟩ := q
    refine ⟨sgn c, ?_, ⟨t, rfl⟩⟩
    rw [List.getElem?_map, Array.getElem?_toList, h1]
    rfl
/-- the items as they stand at each turn, in new pairs -/
def ItzG (K : PySem.W.Frag) (k1 k2 : SK) : It :=
  ⟨fun i H => ∃ (xs ys : List V) (x y : V), k1.src K H xs ∧ k2.src K H ys ∧ xs[i]? = some x ∧ ys[i]? = some y,
    fun i H v H' => ∃ T x y, v = .ref T ∧ H T = none ∧ H' = upd H T (.tup [x, y]) ∧ (∀ xs, k1.src K H xs → xs[i]? = some x) ∧ ∀ ys, k2.src K H ys → ys[i]? = some y,
    fun i H => ∃ xs ys : List V, k1.src K H xs ∧ k2.src K H ys ∧ i ≤ xs.length ∧ i ≤ ys.length ∧ (i = xs.length ∨ i = ys.length)⟩
theorem SK.inj {X : Cx} {pins : List (Addr × Obj)} {σ : St} {H : Hp} {s : Shared} {k : SK} {xs ys : List V} (I : Inv X pins σ H s) (h1 : k.src X.K H xs) (h2 : k.src X.K H ys) : xs = ys := by
  cases k with
  | l a => exact I.list_inj h1 h2
  | t a => exact I.tuple_inj h1 h2
  | s x t => exact (show xs = _ from h1).trans (show ys = _ from h2).symm
theorem turn_zipG {P : Program} {w : World} {K : PySem.W.Frag} {elts : List Expr} {kk : Nat} {tpos : Pos} {z TI TO i1 i2 : Addr} {k1 k2 : SK}
    (d1 : TI ≠ z) (d2 : TO ≠ z) (d3 : TI ≠ TO) (d4 : TI ≠ i1) (d5 : TI ≠ i2) (d6 : z ≠ i1) (d7 : z ≠ i2) (d8 : TO ≠ i1) (d9 : TO ≠ i2) (d10 : i1 ≠ i2)
    (a1 : ∀ c, k1.at c → c ≠ z ∧ c ≠ TO ∧ c ≠ i1 ∧ c ≠ i2) (a2 : ∀ c, k2.at c → c ≠ z ∧ c ≠ TO ∧ c ≠ i1 ∧ c ≠ i2) :
    Turn P w K (.Tuple elts kk tpos) (ItzG K k1 k2) [z, TI, TO, i1, i2] z (fun i h => IsZip h z TI TO .none ∧ IsTupOf2 h TI (.ref i1) (.ref i2) ∧ (∃ x y, IsTupOf2 h TO x y) ∧ k1.iter i1 i h ∧ k2.iter i2 i h) where
  mem := by simp
  obj := fun i h st c hc => by
    obtain ⟨hz, hTI, ⟨x, y, hTO⟩, s1, s2⟩ := st
    have e' : c = z ∨ c = TI ∨ c = TO ∨ c = i1 ∨ c = i2 := by simpa using hc
    rcases e' with q | q | q | q | q
    · rw [q]; exact ⟨_, hz, fun v q => nomatch q⟩
    · rw [q]; exact ⟨_, hTI, fun v q => nomatch q⟩
    · rw [q]; exact ⟨_, hTO, fun v q => nomatch q⟩
    · rw [q]; exact SK.iter_obj s1
    · rw [q]; exact SK.iter_obj s2
  keep := fun i h h' st k => by
    obtain ⟨hz, hTI, ⟨x, y, hTO⟩, s1, s2⟩ := st
    exact ⟨k z (by simp) _ hz, k TI (by simp) _ hTI, ⟨x, y, k TO (by simp) _ hTO⟩, SK.iter_keep s1 fun o q => k i1 (by simp) o q, SK.iter_keep s2 fun o q => k i2 (by simp) o q⟩
  item := by
    intro X hP hw hK hc i pins s σ H E I hf st hg
    subst hP hw hK
    obtain ⟨hz, hTI, ⟨x0, y0, hTO⟩, s1, s2⟩ := st
    obtain ⟨xs, ys, x, y, hqx, hqy, hx, hy⟩ := hg
    obtain ⟨fp1, P1, S1, D1, g1, b1, r1, m1, f1⟩ := SK.draws I hc hqx fun c q => (a1 c q).2.2.1
    obtain ⟨fp2, P2, S2, D2, g2, b2, r2, m2, f2⟩ := SK.draws I hc hqy fun c q => (a2 c q).2.2.2
    have Z : ZipSep2 z TI TO i1 i2 fp1 fp2 :=
      { TIz := d1, TOz := d2, TITO := d3, TIi1 := d4, mem1 := m1, TIi2 := d5, mem2 := m2,
        zf1 := fun q => by rcases f1 z q with e | e; exact d6 e; exact (a1 z e).1 rfl
        Tf1 := fun q => by rcases f1 TO q with e | e; exact d8 e; exact (a1 TO e).2.1 rfl
        zf2 := fun q => by rcases f2 z q with e | e; exact d7 e; exact (a2 z e).1 rfl
        Tf2 := fun q => by rcases f2 TO q with e | e; exact d9 e; exact (a2 TO e).2.1 rfl
        sep1_2 := fun q => by rcases f2 i1 q with e | e; exact d10 e; exact (a2 i1 e).2.2.1 rfl
        sep2_1 := fun q => by rcases f1 i2 q with e | e; exact d10 e.symm; exact (a1 i2 e).2.2.2 rfl }
    have lx : i < xs.length := (List.getElem?_eq_some_iff.mp hx).1
    have ly : i < ys.length := (List.getElem?_eq_some_iff.mp hy).1
    have hzl : z < s.heap.objs.size := Heap.lt_size hz
    refine wpAny_pyNext_zipD2_item Z D1 D2 hz hTI hTO (g1 i s1) (g2 i s2) lx ly fun u1 u2 h' tk p1 p2 z' TO' s1' s2' hT hsz hk => ?_
    obtain ⟨v1, e1, ru⟩ := r1 i u1 p1
    obtain ⟨v2, e2, ru2⟩ := r2 i u2 p2
    have ev1 : v1 = x := Option.some.inj (e1.symm.trans hx)
    have ev2 : v2 = y := Option.some.inj (e2.symm.trans hy)
    subst ev1 ev2
    refine ⟨_, rfl, wpAny_letOwnedTupleGo_zip (s := { s with heap := h', toks := tk }) z' fun h'' z'' sb => ?_⟩
    have hT2 : h''.get? s.heap.objs.size = some { cls := .type "tuple", data := .seq #[u1, u2] } := (sb.2 _ (Nat.ne_of_gt hzl)).trans hT
    have new : ObjOk X.prog X.w (upd H s.heap.objs.size (.tup [v1, v2])) h'' s.heap.objs.size (.tup [v1, v2]) :=
      ⟨by show 2 ≤ sizeLine; decide, [u1, u2], .cons ru (.cons ru2 .nil), ⟨_, hT2, rfl, _, rfl⟩⟩
    have I1 : Inv X pins σ (upd H s.heap.objs.size (.tup [v1, v2])) { s with heap := h'', toks := tk } :=
      I.turnedNew (t' := tk) (ch := [z, TI, TO, i1, i2]) (fun c o hb q => (sb.2 c (fun q' => hb (by simp [q']))).trans (hk c o (fun q' => hb (by simp [q'])) (fun q' => hb (by simp [q'])) (fun q' => hb (by simp [q'])) (fun q' => hb (by simp [q'])) q)) hf (Nat.le_refl _) new
    refine ⟨.ref s.heap.objs.size, _, I1, rfl, ⟨_, v1, v2, rfl, I.hok.fresh (Nat.le_refl _), rfl, fun l hl => by rw [SK.inj I hl hqx]; exact hx, fun l hl => by rw [SK.inj I hl hqy]; exact hy⟩, ⟨z'', ?_, ⟨u1, u2, ?_⟩, ?_, ?_⟩, fun c hcm => ?_⟩
    · exact (sb.2 _ d1).trans (hk _ _ d1 d3 d4 d5 hTI)
    · exact (sb.2 _ d2).trans TO'
    · exact SK.iter_keep (b1 _ _ s1') fun o q => (sb.2 _ d6.symm).trans q
    · exact SK.iter_keep (b2 _ _ s2') fun o q => (sb.2 _ d7.symm).trans q
    · have hlt : c < s.heap.objs.size := by
        have e' : c = z ∨ c = TI ∨ c = TO ∨ c = i1 ∨ c = i2 := by simpa using hcm
        rcases e' with q | q | q | q | q
        · rw [q]; exact hzl
        · rw [q]; exact Heap.lt_size hTI
        · rw [q]; exact Heap.lt_size hTO
        · rw [q]; obtain ⟨_, e, _⟩ := SK.iter_obj s1; exact Heap.lt_size e
        · rw [q]; obtain ⟨_, e, _⟩ := SK.iter_obj s2; exact Heap.lt_size e
      rw [upd_ne (Nat.ne_of_lt hlt)]
      exact (hf c hcm).1
  done := by
    intro X hP hw hK hc i pins s σ H E I hf st hg
    subst hP hw hK
    obtain ⟨hz, hTI, ⟨x0, y0, hTO⟩, s1, s2⟩ := st
    obtain ⟨xs, ys, hqx, hqy, hlx, hly, hend⟩ := hg
    obtain ⟨fp1, P1, S1, D1, g1, b1, r1, m1, f1⟩ := SK.draws I hc hqx fun c q => (a1 c q).2.2.1
    obtain ⟨fp2, P2, S2, D2, g2, b2, r2, m2, f2⟩ := SK.draws I hc hqy fun c q => (a2 c q).2.2.2
    have Z : ZipSep2 z TI TO i1 i2 fp1 fp2 :=
      { TIz := d1, TOz := d2, TITO := d3, TIi1 := d4, mem1 := m1, TIi2 := d5, mem2 := m2,
        zf1 := fun q => by rcases f1 z q with e | e; exact d6 e; exact (a1 z e).1 rfl
        Tf1 := fun q => by rcases f1 TO q with e | e; exact d8 e; exact (a1 TO e).2.1 rfl
        zf2 := fun q => by rcases f2 z q with e | e; exact d7 e; exact (a2 z e).1 rfl
        Tf2 := fun q => by rcases f2 TO q with e | e; exact d9 e; exact (a2 TO e).2.1 rfl
        sep1_2 := fun q => by rcases f2 i1 q with e | e; exact d10 e; exact (a2 i1 e).2.2.1 rfl
        sep2_1 := fun q => by rcases f1 i2 q with e | e; exact d10 e.symm; exact (a1 i2 e).2.2.2 rfl }
    exact wpAny_pyNext_zipD2_end Z D1 D2 hz hTI hTO (g1 i s1) (g2 i s2) hlx hly hend fun h' tk hk => ⟨rfl, I.turnedL (t' := tk) (ch := [z, TI, TO, i1, i2]) (fun c o hb q =>
      hk c o (fun q' => hb (by simp [q'])) (fun q' => hb (by simp [q'])) (fun q' => hb (by simp [q'])) (fun q' => hb (by simp [q'])) q) hf⟩
  self := fun A i s Q E st h => wpAny_pyIter_zip st.1 h
def iZipG (K : PySem.W.Frag) (ta : TA) : TI := fun σ H R => ta σ H fun vs H1 => ∃ (x y : V) (xs ys : List V), vs = [x, y] ∧ Src K H1 x xs ∧ Src K H1 y ys ∧
  ∀ k1 k2 : SK, k1.val = x → k2.val = y → k1.src K H1 xs → k2.src K H1 ys → R (ItzG K k1 k2) H1
/-- the kind of a value with items -/
theorem Src.kind {X : Cx} {pins : List (Addr × Obj)} {σ : St} {H : Hp} {s : Shared} {x : V} {u : Value} {xs : List V} (I : Inv X pins σ H s) (h : Src X.K H x xs) (r : RelV x u) :
    ∃ k : SK, k.val = x ∧ k.raw = u ∧ k.src X.K H xs ∧ (∀ c, k.at c → c < s.heap.objs.size) ∧ ∃ B : Heap → Prop, Begins u k.obj B ∧ B s.heap := by
  cases h with
  | @l a xs h =>
    cases (show u = Value.ref a from r)
    obtain ⟨its, rv, p, _⟩ := I.list h
    exact ⟨.l a, rfl, rfl, h, fun c e => by rw [show c = a from e]; exact p.lt, _, begins_list a its.toArray, p.isList⟩
  | @t a xs h =>
    cases (show u = Value.ref a from r)
    obtain ⟨its, rv, p, _⟩ := I.tuple h
    have p' : s.heap.IsTuple a its.toArray := p
    exact ⟨.t a, rfl, rfl, h, fun c e => by rw [show c = a from e]; obtain ⟨o, e, _⟩ := p'; exact Heap.lt_size e, _, begins_tuple a its.toArray, p'⟩
  | @s z xs h =>
    obtain ⟨t, rfl⟩ := (show ∃ t, u = Value.str z t from r)
    exact ⟨.s z t, rfl, rfl, h, fun c e => False.elim e, _, begins_text z t, trivial⟩
theorem SK.begun {k : SK} {it : Addr} {h : Heap} (e : h.get? it = some k.obj) : k.iter it 0 h := by
  cases k with
  | l a => exact ⟨_, e, rfl, rfl⟩
  | t a => exact ⟨_, e, rfl, rfl⟩
  | s x t => exact ⟨_, e, rfl, rfl⟩
theorem neN {a b : Nat} (h : a < b ∨ b < a) : a ≠ b := by omega
theorem pi_zipG {X : Cx} {e e2 : Expr} {ta : TA} {p pos tpos : Pos} {elts : List Expr} {kk : Nat} (hg : Gl X "zip") (hm : X.mg "zip" = none) (ha : PA X [e, e2] ta)
    (hs : starEach [e, e2] X.env = (false, eval e X.env) :: starEach [e2] X.env := by rfl) (hpl : (backTo pos (starEach [e2] X.env)).any (·.1) = false := by rfl) :
    PI X (.Tuple elts kk tpos) (.Call (.Name "zip" p) [e, e2] [] pos) (iZipG X.K ta) := by
  refine ⟨fun pins s σ H R I h => ?_⟩
  refine Call_ (ld_blt I hg hm PyProof.Rows.boot_zip (PyProof.Rows.callWith_type1 (thn (ha.run pos pins s σ H _ I h) fun us s1 ⟨vs, H1, I1, r1, q1⟩ => ?_) hs hpl))
  obtain ⟨x, y, xs, ys, ex, sx, sy, q⟩ := q1
  subst ex
  cases r1 with
  | cons r rr =>
    cases rr with
    | cons r' rr =>
      cases rr
      obtain ⟨k1, ev1, _, src1, lt1, B1, b1, hb1⟩ := sx.kind I1 r
      obtain ⟨k2, ev2, _, src2, lt2, B2, b2, hb2⟩ := sy.kind I1 r'
      have fresh5 : ∀ c, c ∈ [s1.heap.objs.size + 4, s1.heap.objs.size + 2, s1.heap.objs.size + 3, s1.heap.objs.size, s1.heap.objs.size + 1] → FpOk X pins H1 c := fun c hcm => by
        have e' : c = s1.heap.objs.size + 4 ∨ c = s1.heap.objs.size + 2 ∨ c = s1.heap.objs.size + 3 ∨ c = s1.heap.objs.size ∨ c = s1.heap.objs.size + 1 := by simpa using hcm
        have hle : s1.heap.objs.size ≤ c := by omega
        exact I1.fpOk hle (I1.hok.fresh hle)
      refine zip_begins2 b1 b2 hb1 hb2 fun h' hz hTI hTO h1 h2 hsz hk => wpAny_pyIter_zip hz ?_
      have I2 : Inv X pins σ H1 { s1 with heap := h' } := I1.kept (t' := s1.toks) hk
      have TT := turn_zipG (P := X.prog) (w := X.w) (K := X.K) (elts := elts) (kk := kk) (tpos := tpos) (z := s1.heap.objs.size + 4) (TI := s1.heap.objs.size + 2) (TO := s1.heap.objs.size + 3) (i1 := s1.heap.objs.size) (i2 := s1.heap.objs.size + 1) (k1 := k1) (k2 := k2)
        (neN (by omega)) (neN (by omega)) (neN (by omega)) (neN (by omega)) (neN (by omega)) (neN (by omega)) (neN (by omega)) (neN (by omega)) (neN (by omega)) (neN (by omega))
        (fun c hc => have h : c < s1.heap.objs.size := lt1 c hc; ⟨Nat.ne_of_lt (Nat.lt_of_lt_of_le h (Nat.le_add_right _ _)), Nat.ne_of_lt (Nat.lt_of_lt_of_le h (Nat.le_add_right _ _)), Nat.ne_of_lt h, Nat.ne_of_lt (Nat.lt_of_lt_of_le h (Nat.le_add_right _ _))⟩) (fun c hc => have h : c < s1.heap.objs.size := lt2 c hc; ⟨Nat.ne_of_lt (Nat.lt_of_lt_of_le h (Nat.le_add_right _ _)), Nat.ne_of_lt (Nat.lt_of_lt_of_le h (Nat.le_add_right _ _)), Nat.ne_of_lt h, Nat.ne_of_lt (Nat.lt_of_lt_of_le h (Nat.le_add_right _ _))⟩)
      exact ⟨s1.heap.objs.size + 4, [s1.heap.objs.size + 4, s1.heap.objs.size + 2, s1.heap.objs.size + 3, s1.heap.objs.size, s1.heap.objs.size + 1], _, _, H1, rfl, I2, TT, ⟨hz, hTI, ⟨_, _, hTO⟩, SK.begun h1, SK.begun h2⟩, fresh5, q k1 k2 ev1 ev2 src1 src2⟩
theorem walk_zipG {K : PySem.W.Frag} {k1 k2 : SK} {xs ys : List V} {n : Nat} (hn : n = min xs.length ys.length) : Walk (ItzG K k1 k2) n (fun H => k1.src K H xs ∧ k2.src K H ys) (YPair (fun i => xs[i]?) (fun i => ys[i]?)) := by
  subst hn
  refine ⟨fun i _ hi q => ?_, fun _ q => ⟨xs, ys, q.1, q.2, by omega, by omega, by omega⟩, fun i H v H' _ q y => ?_⟩
  · have h1 : i < xs.length := by omega
    have h2 : i < ys.length := by omega
    exact ⟨xs, ys, xs[i], ys[i], q.1, q.2, by simp [h1], by simp [h2]⟩
  · obtain ⟨T, x, z, h1, h2, h3, h4, h5⟩ := y
    exact ⟨T, x, z, h1, h2, h3, h4 xs q.1, h5 ys q.2⟩
end L2
namespace FW
open PySem PySem.Spec PyProof.Rows L2
/-- the built-in names that stand as they were -/
structure Z (mg : Str → Option Value) : Prop where
  z_isinstance : mg "isinstance" = none
  z_str : mg "str" = none
  z_all : mg "all" = none
  z_any : mg "any" = none
  z_len : mg "len" = none
  z_int : mg "int" = none
  z_list : mg "list" = none
  z_abs : mg "abs" = none
  z_bool : mg "bool" = none
  z_tuple : mg "tuple" = none
  z_zip : mg "zip" = none
  z_range : mg "range" = none
  z_enumerate : mg "enumerate" = none
  z_sorted : mg "sorted" = none
  z_dict : mg "dict" = none
  z_set : mg "set" = none
  z_sum : mg "sum" = none
  z_min : mg "min" = none
  z_max : mg "max" = none
  z_reversed : mg "reversed" = none
  z_repr : mg "repr" = none
  z_ord : mg "ord" = none
section
variable {P : Program} {w : World} {K : PySem.W.Frag} {mg : Str → Option Value} {base : Heap}
/-- a value that is no text -/
def NotS (K : PySem.W.Frag) (H : Hp) (v : V) : Prop := ∃ T : String, TyX K H v (.type T) ∧ kitB T "str" = some false
def isStr : V → Bool
  | .str _ => true
  | _ => false
def strOf : V → Str
  | .str z => z
  | _ => ⟨#[]⟩
theorem str_of {v : V} (h : isStr v = true) : ∃ z, v = .str z := by
  cases v with
  | str z => exact ⟨z, rfl⟩
  | _ => exact absurd (show false = true from h) Bool.false_ne_true
theorem sz {n : Nat} (h : n ≤ 100000) : n ≤ sizeLine := Nat.le_trans h (by decide)
theorem sz1 {n : Nat} (h : n ≤ 100000) : n < sizeLine := Nat.lt_of_le_of_lt h (by decide)
def bString (v : V) (fs : Str) : Bool := isStr v && (strOf v).cps.toList.all fun c => decide (c ∈ fs.cps.toList)
def sp_is_string (K : PySem.W.Frag) : Sp := fun vs H Q _ => ∃ (v : V) (fs : Str), vs = [v, .str fs] ∧ ((isStr v = true ∧ (strOf v).cps.size ≤ 100000) ∨ (isStr v = false ∧ NotS K H v)) ∧ ∀ H', Same H H' → Q (.bl (bString v fs)) H'
theorem NotS.same {H H' : Hp} {v : V} (n : NotS K H v) (q : ∀ T, TyX K H v T → TyX K H' v T) : NotS K H' v := let ⟨T, t, k⟩ := n; ⟨T, q _ t, k⟩
def bRoom (v : V) (fs : Str) : Bool := bString v fs && decide ((strOf v).cps.size = 4)
def sp_is_room (K : PySem.W.Frag) : Sp := fun vs H Q _ => ∃ (v : V) (fs : Str), vs = [v, .str fs] ∧ ((isStr v = true ∧ (strOf v).cps.size ≤ 100000) ∨ (isStr v = false ∧ NotS K H v)) ∧ ∀ H', Same H H' → Q (.bl (bRoom v fs)) H'
def bCut (v : V) (fs : Str) : Bool := isStr v && decide ((strOf v).cps.size = 3) && decide ((strOf v).cps.toList.getD 0 0 ∈ ("|-" : Str).cps.toList) && ((strOf v).cps.toList.drop 1).all fun c => decide (c ∈ fs.cps.toList)
def sp_is_cut (K : PySem.W.Frag) : Sp := fun vs H Q _ => ∃ (v : V) (fs : Str), vs = [v, .str fs] ∧ ((isStr v = true ∧ (strOf v).cps.size ≤ 100000) ∨ (isStr v = false ∧ NotS K H v)) ∧ ∀ H', Same H H' → Q (.bl (bCut v fs)) H'
theorem cutS_from {z : Str} (h : 1 ≤ z.cps.size) : cutS z (some 1) none = ⟨(z.cps.toList.drop 1).toArray⟩ := by
  unfold cutS
  rw [HT.sIx_none, show HT.sIx z.length 0 (some 1) = min 1 z.length from HT.sIx_nat z.length 0 1]
  have e : min 1 z.length = 1 := Nat.min_eq_left h
  rw [e, List.take_of_length_le]
  simp [Str.length]
def S4 (a b c d : Nat) : Str := ⟨#[a, b, c, d]⟩
def S3 (a b c : Nat) : Str := ⟨#[a, b, c]⟩
/-- both parts of a room by a cut; the codes of the signs: 124 upright -/
def partsC (n e s w sg x y : Nat) : List Str := if sg = 124 then [S4 n x s w, S4 n e s y] else [S4 n e x w, S4 y e s w]
def sp_parts_of (K : PySem.W.Frag) : Sp := fun vs H Q _ => ∃ (n e s w : Nat) (cut : Str), vs = [.str (S4 n e s w), .str cut] ∧
  ((cut = ("" : Str) ∧ ∀ p, H p = none → Q (.ref p) (upd H p (.lst [.str (S4 n e s w)]))) ∨ ∃ sg x y, cut = S3 sg x y ∧ ∀ p, H p = none → Q (.ref p) (upd H p (.lst ((partsC n e s w sg x y).map V.str))))
def Bag (H : Hp) (b l : Addr) : Prop := ∃ (ns : List Int) (i r m c : Int), H b = some (.lst [.ref l, .int i, .int r, .int m, .int c]) ∧ H l = some (.lst (ns.map V.int)) ∧ ns.length ≤ 1000 ∧ 0 ≤ i ∧ 0 ≤ m ∧ m < 2147483648
theorem bag_ne {l : Addr} {ns : List Int} {i r m c : Int} : HO.lst (ns.map V.int) ≠ HO.lst [.ref l, .int i, .int r, .int m, .int c] := by
  intro e
  have e1 := HO.lst.inj e
  cases ns with
  | nil => cases e1
  | cons n ns =>
    have e2 := List.head_eq_of_cons_eq e1
    cases e2
theorem Bag.same {H H' : Hp} {b l : Addr} (B : Bag H b l) (s : Same H H') : Bag H' b l := by
  obtain ⟨ns, i, r, m, c, h1, h2, q⟩ := B
  exact ⟨ns, i, r, m, c, s _ _ h1, s _ _ h2, q⟩
theorem Bag.la {H : Hp} {b l : Addr} (B : Bag H b l) : ∃ xs, H b = some (.lst xs) := let ⟨_, _, _, _, _, h, _⟩ := B; ⟨_, h⟩
theorem Bag.lb {H : Hp} {b l : Addr} (B : Bag H b l) : ∃ xs, H l = some (.lst xs) := let ⟨_, _, _, _, _, _, h, _⟩ := B; ⟨_, h⟩
/-- what is new is not the bag -/
theorem Bag.ne {H : Hp} {b l p : Addr} (B : Bag H b l) (h : H p = none) : p ≠ b := fun e => by
  obtain ⟨xs, h1⟩ := B.la
  rw [e, h1] at h
  cases h
theorem Bag.ne2 {H : Hp} {b l p : Addr} (B : Bag H b l) (h : H p = none) : p ≠ l := fun e => by
  obtain ⟨xs, h1⟩ := B.lb
  rw [e, h1] at h
  cases h
/-- another object changes -/
theorem Bag.upd {H : Hp} {b l p : Addr} {o : HO} (B : Bag H b l) (h1 : p ≠ b) (h2 : p ≠ l) : Bag (L2.upd H p o) b l := by
  obtain ⟨ns, i, r, m, c, g1, g2, q⟩ := B
  exact ⟨ns, i, r, m, c, by rw [upd_ne h1.symm]; exact g1, by rw [upd_ne h2.symm]; exact g2, q⟩
def sp__law_open (K : PySem.W.Frag) : Sp := fun vs H Q _ => ∃ (a : Addr) (ns : List Int), vs = [.ref a] ∧ SqL K H a (ns.map V.int) ∧ ns.length ≤ 63 ∧ ∀ H' b l, H b = none → H l = none → Same H H' → Bag H' b l → Q (.ref b) H'
theorem cutV_to {xs : List V} {k : Nat} : cutV xs none (some (k : Int)) = xs.take k := by
  unfold cutV
  rw [HT.sIx_none, HT.sIx_nat]
  show List.take (min k xs.length - 0) (List.drop 0 xs) = _
  rw [List.drop_zero, Nat.sub_zero, List.take_eq_take_iff]
  omega
def sp__law_draw (K : PySem.W.Frag) : Sp := fun vs H Q _ => ∃ (b l : Addr) (k : Int), vs = [.ref b, .int k] ∧ Bag H b l ∧ 0 < k ∧ k < 1073741824 ∧ ∀ H' z, 0 ≤ z → z < k → But b H H' → Bag H' b l → Q (.int z) H'
/-- behind the first part of a draw -/
def BagAt (H0 H : Hp) (b l : Addr) (ns : List Int) : Prop := But b H0 H ∧ H l = some (.lst (ns.map V.int)) ∧ ∃ i r m c : Int, H b = some (.lst [.ref l, .int i, .int r, .int m, .int c]) ∧ 0 ≤ i ∧ 0 ≤ m ∧ m < 2147483648
abbrev S (l : List Nat) : Str := ⟨l.toArray⟩
theorem S_cat (a b : List Nat) : S a ++ S b = S (a ++ b) := SX.S_cat a b
theorem S_len (a : List Nat) : (S a).length = a.length := SX.S_len a
theorem S_tl (x : Str) : S x.cps.toList = x := SX.S_tl x
theorem atI_of {α : Type} {xs : List α} {z : Int} {j : Nat} {v : α} (e : z = (j : Int)) (h : xs[j]? = some v) : atI xs z = some v := by
  rw [e]
  exact atI_nat h
theorem S_sub (l : List Nat) (i : Nat) : cutS (S l) (some (i : Int)) none = S (l.drop i) := by
  unfold cutS
  rw [HT.sIx_none, HT.sIx_nat]
  show (⟨(List.take ((S l).length - min i (S l).length) (List.drop (min i (S l).length) l)).toArray⟩ : Str) = ⟨(l.drop i).toArray⟩
  rw [S_len]
  have e : List.take (l.length - min i l.length) (List.drop (min i l.length) l) = l.drop i := by
    by_cases h : i ≤ l.length
    · rw [Nat.min_eq_left h]
      exact List.take_of_length_le (by rw [List.length_drop]; exact Nat.le_refl _)
    · rw [Nat.min_eq_right (by omega), List.drop_eq_nil_of_le (as := l) (i := i) (by omega)]
      simp
  rw [e]
theorem S_to (l : List Nat) (i : Nat) : cutS (S l) none (some (i : Int)) = S (l.take i) := by
  unfold cutS
  rw [HT.sIx_none, HT.sIx_nat]
  show (⟨(List.take (min i (S l).length - 0) (List.drop 0 l)).toArray⟩ : Str) = ⟨(l.take i).toArray⟩
  rw [S_len, List.drop_zero, Nat.sub_zero]
  have e : List.take (min i l.length) l = l.take i := by
    rw [List.take_eq_take_iff]
    omega
  rw [e]
def Items (K : PySem.W.Frag) (H : Hp) (b : Addr) (x : V) (xs : List V) : Prop := (∃ a, a ≠ b ∧ x = .ref a ∧ SqL K H a xs) ∨ (∃ a, a ≠ b ∧ x = .ref a ∧ SqT K H a xs) ∨ ∃ l, x = .str (S l) ∧ xs = l.map sgn
def sp__law_of (K : PySem.W.Frag) : Sp := fun vs H Q _ => ∃ (b l : Addr) (x : V) (xs : List V), vs = [.ref b, x] ∧ Bag H b l ∧ Items K H b x xs ∧ 0 < xs.length ∧ xs.length ≤ 100000 ∧ ∀ H' v, v ∈ xs → But b H H' → Bag H' b l → Q v H'
mutual
/-- data that nest at most so deep -/
def Deep : Nat → PyData → Prop
  | _, .none => True
  | _, .bool _ => True
  | _, .int _ => True
  | _, .str _ => True
  | 0, .list _ => False
  | 0, .tuple _ => False
  | n + 1, .list ds => ds.length ≤ 1000 ∧ ∀ d ∈ ds, Deep n d
  | n + 1, .tuple ds => ds.length ≤ 1000 ∧ ∀ d ∈ ds, Deep n d
  | _, .dict _ => False
end
def sp__law_same (K : PySem.W.Frag) (n : Nat) : Sp := fun vs H Q _ => ∃ (x y : V) (d : PyData), vs = [x, y] ∧ Dp K H x d ∧ Dp K H y d ∧ Deep n d ∧ ∀ H', Same H H' → Q (.bl true) H'
theorem tyL {H : Hp} {a : Addr} {xs : List V} (h : SqL K H a xs) : TyX K H (.ref a) (.type "list") := by
  rcases h with (h | ⟨o, h⟩) | ⟨o, its, n, h, c, _⟩
  · exact .base (.lst h)
  · exact .base (.frz h)
  · exact .kList h c
theorem tyT {H : Hp} {a : Addr} {xs : List V} (h : SqT K H a xs) : TyX K H (.ref a) (.type "tuple") := by
  rcases h with (h | ⟨o, h⟩) | ⟨o, its, n, h, c, _⟩
  · exact .base (.tup h)
  · exact .fTuple h
  · exact .kTuple h c
theorem Dp.same {H H' : Hp} (s : Same H H') : ∀ {v : V} {d : PyData}, Dp K H v d → Dp K H' v d := by
  intro v d h
  exact @Dp.rec K H (fun v d _ => Dp K H' v d) (fun vs ds _ => DpAll K H' vs ds) .non (fun b => .bl b) (fun i => .int i) (fun x => .str x) (fun h _ ih => .lst (s.seq h) ih) (fun h _ ih => .tup (s.tup h) ih) .nil (fun _ _ i1 i2 => .cons i1 i2) v d h
theorem DpAll.same {H H' : Hp} (s : Same H H') : ∀ {vs : List V} {ds : List PyData}, DpAll K H vs ds → DpAll K H' vs ds
  | _, _, .nil => .nil
  | _, _, .cons h t => .cons (Dp.same s h) (DpAll.same s t)
theorem DpAll.len {H : Hp} : ∀ {vs : List V} {ds : List PyData}, DpAll K H vs ds → vs.length = ds.length
  | _, _, .nil => rfl
  | _, _, .cons _ t => congrArg (· + 1) (DpAll.len t)
theorem DpAll.at {H : Hp} : ∀ {vs : List V} {ds : List PyData} {i : Nat} {v : V}, DpAll K H vs ds → vs[i]? = some v → ∃ d, ds[i]? = some d ∧ Dp K H v d
  | _, _, _, _, .nil, e => by simp at e
  | _, _, 0, v, .cons h _, e => by
    have e1 := Option.some.inj (show some _ = some v from e)
    exact ⟨_, rfl, e1 ▸ h⟩
  | _, _, i + 1, v, .cons _ t, e => DpAll.at (i := i) t e
theorem walk_zipT {a b : Addr} {xs ys : List V} {n : Nat} (hn : n = min xs.length ys.length) : Walk (RZ.ItzT K a b) n (fun H => SqT K H a xs ∧ SqT K H b ys) (YPair (fun i => xs[i]?) (fun i => ys[i]?)) := by
  subst hn
  refine ⟨fun i _ hi q => ?_, fun _ q => ⟨xs, ys, q.1, q.2, by omega⟩, fun i H v H' _ q y => ?_⟩
  · have h1 : i < xs.length := by omega
    have h2 : i < ys.length := by omega
    exact ⟨xs, ys, xs[i], ys[i], q.1, q.2, by simp [h1], by simp [h2]⟩
  · obtain ⟨T, x, z, h1, h2, h3, h4, h5⟩ := y
    exact ⟨T, x, z, h1, h2, h3, h4 xs q.1, h5 ys q.2⟩
/-- the answers of isinstance(x, (list, tuple)) -/
theorem kitAny_lt {T : String} {r1 r2 : Bool} (h1 : kitB T "list" = some r1) (h2 : kitB T "tuple" = some r2) : PySem.W.kitAny K (.type T) [.type "list", .type "tuple"] = some (r1 || r2) := by
  refine kitAny_cons (kit_ty h1) (fun e => ?_) (fun e => by rw [e]; rfl)
  subst e
  refine kitAny_cons (kit_ty h2) (fun e => ?_) (fun e => by rw [e]; rfl)
  subst e
  rfl
theorem seq_but {H H' : Hp} {D a : Addr} {xs : List V} (nD : ∀ c u, H c = some u → c ≠ D) (bt : But D H H') (h : SqL K H a xs) : SqL K H' a xs := by
  rcases h with (h | ⟨o, h⟩) | h
  · exact .inl (.inl (bt _ _ (nD _ _ h) h))
  · exact .inl (.inr ⟨o, bt _ _ (nD _ _ h) h⟩)
  · exact .inr h
theorem tup_but {H H' : Hp} {D a : Addr} {xs : List V} (nD : ∀ c u, H c = some u → c ≠ D) (bt : But D H H') (h : SqT K H a xs) : SqT K H' a xs := by
  rcases h with (h | ⟨o, h⟩) | h
  · exact .inl (.inl (bt _ _ (nD _ _ h) h))
  · exact .inl (.inr ⟨o, bt _ _ (nD _ _ h) h⟩)
  · exact .inr h
theorem nk_false {k : Nat} {f : Addr} {fd : FuncData} {ps : List Str} : FnOk P w K mg base CX0 k f fd ps (fun _ _ _ _ => False) := ⟨fun _ _ _ _ h => h.elim, fun _ _ _ _ _ _ _ _ _ _ _ _ _ h => h.elim⟩
def sp__law_letters (K : PySem.W.Frag) : Sp := fun vs H Q _ => ∃ (b lb : Addr) (L : List Nat) (k : Nat), vs = [.ref b, .str (S L), .int k] ∧ Bag H b lb ∧ k ≤ L.length ∧ L.length ≤ 1000 ∧ ∀ H' r, List.Sublist r L → r.length = k → But b H H' → Bag H' b lb → Q (.str (S r)) H'
theorem sub_next {L r : List Nat} {low z : Nat} (h : List.Sublist r (L.take low)) (hl : low ≤ z) (hz : z < L.length) : List.Sublist (r ++ [L[z]]) (L.take (z + 1)) := by
  rw [List.take_add_one, List.getElem?_eq_getElem hz]
  refine List.Sublist.append ?_ (List.Sublist.refl _)
  exact h.trans (List.take_sublist_take_left hl)
def lower : List Nat := ("abcdefghijklmnopqrstuvwxyz" : Str).cps.toList
def sp__law_some_faces (K : PySem.W.Frag) : Sp := fun vs H Q _ => ∃ (b lb : Addr) (m : Nat), vs = [.ref b, .int m] ∧ Bag H b lb ∧ 0 < m ∧ m ≤ 26 ∧ ∀ H' r, List.Sublist r lower → 0 < r.length → r.length ≤ m → But b H H' → Bag H' b lb → Q (.str (S r)) H'
theorem lower_len : lower.length = 26 := by decide +kernel
/-- a sign of a text -/
theorem of_str {H : Hp} {b : Addr} {l : List Nat} {v : V} (h : v ∈ l.map sgn) : ∃ c ∈ l, v = sgn c := by
  obtain ⟨c, hc, e⟩ := List.mem_map.mp h
  exact ⟨c, hc, e.symm⟩
def sp__law_some_room (K : PySem.W.Frag) : Sp := fun vs H Q _ => ∃ (b lb : Addr) (fs : List Nat), vs = [.ref b, .str (S fs)] ∧ Bag H b lb ∧ 0 < fs.length ∧ fs.length ≤ 100 ∧ ∀ H' n e s w, n ∈ fs → e ∈ fs → s ∈ fs → w ∈ fs → But b H H' → Bag H' b lb → Q (.str (S4 n e s w)) H'
def sp__law_some_cut (K : PySem.W.Frag) : Sp := fun vs H Q _ => ∃ (b lb : Addr) (fs : List Nat), vs = [.ref b, .str (S fs)] ∧ Bag H b lb ∧ 0 < fs.length ∧ fs.length ≤ 100 ∧ ∀ H' g x y, (g = 124 ∨ g = 45) → x ∈ fs → y ∈ fs → But b H H' → Bag H' b lb → Q (.str (S3 g x y)) H'
def sp__law_string (K : PySem.W.Frag) : Sp := fun vs H Q _ => ∃ (b lb : Addr) (fs : List Nat) (m : Nat), vs = [.ref b, .str (S fs), .int m] ∧ Bag H b lb ∧ 0 < fs.length ∧ fs.length ≤ 100 ∧ m ≤ 1000 ∧ ∀ H' r, (∀ c ∈ r, c ∈ fs) → r.length ≤ m → But b H H' → Bag H' b lb → Q (.str (S r)) H'
theorem joinL_ones : ∀ r : List Nat, TL.joinL [] (r.map fun c => [c]) = r
  | [] => rfl
  | [c] => rfl
  | c :: d :: r => by
    show [c] ++ ([] ++ TL.joinL [] ((d :: r).map fun c => [c])) = c :: d :: r
    rw [joinL_ones (d :: r)]
    rfl
theorem join_ones (r : List Nat) : Txt.join (S []) ((r.map fun c => [c]).map S) = S r := by
  rw [SX.join_S, joinL_ones]
theorem lens_ones (r : List Nat) : (((r.map fun c => [c]).map S).map (·.length)).sum = r.length := by
  induction r with
  | nil => rfl
  | cons c r ih =>
    rw [List.map_cons, List.map_cons, List.map_cons, List.sum_cons, ih, List.length_cons]
    show 1 + r.length = r.length + 1
    omega
def sp__law_split (K : PySem.W.Frag) : Sp := fun vs H Q _ => ∃ (n e s w sg x y : Nat), vs = [.str (S4 n e s w), .str (S3 sg x y)] ∧ ∀ p, H p = none → Q (.ref p) (upd H p (.lst ((partsC n e s w sg x y).map V.str)))
theorem sub4_1 {a b c d : Nat} : cutS (S4 a b c d) (some 1) none = S [b, c, d] := S_sub [a, b, c, d] 1
theorem sub4_2 {a b c d : Nat} : cutS (S4 a b c d) (some 2) none = S [c, d] := S_sub [a, b, c, d] 2
theorem to4_2 {a b c d : Nat} : cutS (S4 a b c d) none (some 2) = S [a, b] := S_to [a, b, c, d] 2
theorem to4_3 {a b c d : Nat} : cutS (S4 a b c d) none (some 3) = S [a, b, c] := S_to [a, b, c, d] 3
def swp {α : Type} : List α → List α → List α
  | [], [a, b] => [b, a]
  | _, _ => []
theorem swp_vals {vs : List V} {us : List Value} {zs : List V} {ws : List Value} (r : Vals vs us) (q : Vals zs ws) : Vals (swp vs zs) (swp us ws) := by
  cases r with
  | cons _ _ => exact .nil
  | nil =>
    cases q with
    | nil => exact .nil
    | cons q1 t =>
      cases t with
      | nil => exact .nil
      | cons q2 t =>
        cases t with
        | nil => exact .cons q2 (.cons q1 .nil)
        | cons _ _ => exact .nil
theorem kb_swap {K : PySem.W.Frag} {x : Str} {st : Stmt} {p1 p2 : Str}
    (h : ∀ (kV doc pm : Value) (an : Option Addr) (cdv ct : Value) (u v : Value), bindArgs (PySem.W.fnOf x x (defArgs st) (defBody st) (defScope st) .none kV doc pm an cdv ct) ⟨[], [(p2, u), (p1, v)]⟩ = pure [(p1, v), (p2, u)]) :
    KB K x st [p1, p2] [p2, p1] swp swp := by
  intro f fd F
  obtain ⟨oc, od, kV, doc, pm, an, cdv, ct, osl, rfl, lk, hcd⟩ := F.ex
  refine ⟨fun s us ws _ hl => ?_, fun r q => swp_vals r q⟩
  match us, ws, hl with
  | [], [u, v], _ => exact .of_eq (h kV doc pm an cdv ct u v)
  | [], [], hl => exact absurd (show 0 = 2 from hl) (by decide)
  | [], [_], hl => exact absurd (show 0 = 2 from hl) (by decide)
  | [], _ :: _ :: _ :: _, hl => exact absurd (show 0 = 2 from hl) (by decide)
  | _ :: _, ws, hl => exact absurd (show 0 = 2 from hl) (by decide)
structure St3 (H : Hp) (b l g : Addr) (gl : List Nat) : Prop where
  bag : Bag H b l
  gn : H g = some (.lst (gl.map sgn))
  gb : g ≠ b
  gz : g ≠ l
theorem St3.same (s : St3 H b l g gl) (q : Same H H') : St3 H' b l g gl := ⟨s.bag.same q, q _ _ s.gn, s.gb, s.gz⟩
theorem St3.new (s : St3 H b l g gl) (n : H p = none) : St3 (upd H p o) b l g gl := s.same (same_upd n)
theorem St3.drawn (s : St3 H b l g gl) (q : But b H H') (B : Bag H' b l) : St3 H' b l g gl := ⟨B, q _ _ s.gb s.gn, s.gb, s.gz⟩
/-- a value that is no text, by the heap -/
def NS (H : Hp) (v : V) : Prop := v = .non ∨ (∃ i, v = .int i) ∨ (∃ c, v = .bl c) ∨ (∃ p xs, v = .ref p ∧ H p = some (.lst xs)) ∨ ∃ p xs, v = .ref p ∧ H p = some (.tup xs)
theorem NS.same {H H' : Hp} {v : V} (n : NS H v) (q : Same H H') : NS H' v := by
  rcases n with e | e | e | ⟨p, xs, e, h⟩ | ⟨p, xs, e, h⟩
  · exact .inl e
  · exact .inr (.inl e)
  · exact .inr (.inr (.inl e))
  · exact .inr (.inr (.inr (.inl ⟨p, xs, e, q _ _ h⟩)))
  · exact .inr (.inr (.inr (.inr ⟨p, xs, e, q _ _ h⟩)))
theorem NS.not {K : PySem.W.Frag} {H : Hp} {v : V} (n : NS H v) : isStr v = false ∧ NotS K H v := by
  rcases n with rfl | ⟨i, rfl⟩ | ⟨c, rfl⟩ | ⟨p, xs, rfl, h⟩ | ⟨p, xs, rfl, h⟩
  · exact ⟨rfl, "NoneType", .base .non, by decide +kernel⟩
  · exact ⟨rfl, "int", .base (.int i), by decide +kernel⟩
  · exact ⟨rfl, "bool", .base (.bl c), by decide +kernel⟩
  · exact ⟨rfl, "list", .base (.lst h), by decide +kernel⟩
  · exact ⟨rfl, "tuple", .base (.tup h), by decide +kernel⟩
theorem NS.b {H : Hp} {v : V} (n : NS H v) (fs : Str) : bString v fs = false ∧ bRoom v fs = false ∧ bCut v fs = false := by
  have e := (n.not (K := default)).1
  refine ⟨?_, ?_, ?_⟩
  · unfold bString
    rw [e]
    rfl
  · unfold bRoom bString
    rw [e]
    rfl
  · unfold bCut
    rw [e]
    rfl
theorem mem_all {l fs : List Nat} (h : ∀ c ∈ l, c ∈ fs) : (l.all fun c => decide (c ∈ fs)) = true := by
  rw [List.all_eq_true]
  intro c hc
  exact decide_eq_true (h c hc)
theorem not_all {l fs : List Nat} {c : Nat} (hc : c ∈ l) (h : c ∉ fs) : (l.all fun c => decide (c ∈ fs)) = false := by
  rw [List.all_eq_false]
  exact ⟨c, hc, by rw [decide_eq_false h]; exact Bool.false_ne_true⟩
theorem bString_yes {l fs : List Nat} (h : ∀ c ∈ l, c ∈ fs) : bString (.str (S l)) (S fs) = true := mem_all h
theorem bString_no {l fs : List Nat} {c : Nat} (hc : c ∈ l) (h : c ∉ fs) : bString (.str (S l)) (S fs) = false := not_all hc h
theorem bRoom_no {l fs : List Nat} {c : Nat} (hc : c ∈ l) (h : c ∉ fs) : bRoom (.str (S l)) (S fs) = false := by
  unfold bRoom
  rw [bString_no hc h]
  rfl
theorem bRoom_len {l fs : List Nat} (h : l.length ≠ 4) : bRoom (.str (S l)) (S fs) = false := by
  unfold bRoom
  rw [show decide ((strOf (.str (S l))).cps.size = 4) = false from decide_eq_false h, Bool.and_false]
theorem bRoom_is {l fs : List Nat} (h : ∀ c ∈ l, c ∈ fs) : bRoom (.str (S l)) (S fs) = decide (l.length = 4) := by
  unfold bRoom
  rw [bString_yes h]
  rfl
theorem bCut_S (l fs : List Nat) : bCut (.str (S l)) (S fs) = (decide (l.length = 3) && decide (l.getD 0 0 ∈ [124, 45]) && (l.drop 1).all fun c => decide (c ∈ fs)) := rfl
theorem bCut_yes {g x y : Nat} {fs : List Nat} (hg : g = 124 ∨ g = 45) (hx : x ∈ fs) (hy : y ∈ fs) : bCut (.str (S3 g x y)) (S fs) = true := by
  show bCut (.str (S [g, x, y])) (S fs) = true
  rw [bCut_S, show ([g, x, y].drop 1) = [x, y] from rfl, mem_all (by
    intro c hc
    rcases List.mem_cons.mp hc with e | e
    · rw [e]
      exact hx
    · rw [List.mem_singleton.mp e]
      exact hy)]
  rcases hg with rfl | rfl <;> rfl
theorem bCut_len {l fs : List Nat} (h : l.length ≠ 3) : bCut (.str (S l)) (S fs) = false := by
  rw [bCut_S, decide_eq_false h]
  rfl
theorem bCut_sign {g x y : Nat} {fs : List Nat} (h1 : g ≠ 124) (h2 : g ≠ 45) : bCut (.str (S [g, x, y])) (S fs) = false := by
  rw [bCut_S, show decide (([g, x, y] : List Nat).getD 0 0 ∈ [124, 45]) = false from decide_eq_false (by
    intro q
    rcases List.mem_cons.mp q with e | e
    · exact h1 e
    · exact h2 (List.mem_singleton.mp e)), Bool.and_false]
  rfl
theorem bCut_face {g x y c : Nat} {fs : List Nat} (hc : c = x ∨ c = y) (h : c ∉ fs) : bCut (.str (S [g, x, y])) (S fs) = false := by
  rw [bCut_S, show ([g, x, y].drop 1) = [x, y] from rfl, not_all (c := c) (by
    rcases hc with rfl | rfl
    · exact List.mem_cons_self
    · exact List.mem_cons_of_mem _ List.mem_cons_self) h, Bool.and_false]
/-- the letters that are none of few letters -/
theorem gone_pos : ∀ (L fs : List Nat), L.Nodup → L.length ≤ (L.filter fun c => !decide (c ∈ fs)).length + fs.length
  | L, [], _ => by
    rw [List.filter_eq_self.mpr (fun c _ => by simp)]
    exact Nat.le_add_right _ _
  | L, f :: fs, nd => by
    have ih := gone_pos L fs nd
    have h : (L.filter fun c => !decide (c ∈ fs)).length ≤ (L.filter fun c => !decide (c ∈ f :: fs)).length + 1 := by
      have e : (L.filter fun c => !decide (c ∈ f :: fs)) = (L.filter fun c => !decide (c ∈ fs)).filter fun c => !decide (c = f) := by
        rw [List.filter_filter]
        refine List.filter_congr fun c _ => ?_
        by_cases h1 : c = f
        · subst h1
          simp
        · by_cases h2 : c ∈ fs <;> simp [h1, h2]
      rw [e]
      have nd2 : (L.filter fun c => !decide (c ∈ fs)).Nodup := nd.filter _
      generalize (L.filter fun c => !decide (c ∈ fs)) = M at nd2
      clear e ih
      induction M with
      | nil => exact Nat.zero_le _
      | cons m M ihM =>
        have nd3 := List.nodup_cons.mp nd2
        rw [List.filter_cons]
        by_cases hm : m = f
        · subst hm
          have e2 : (M.filter fun c => !decide (c = m)) = M := List.filter_eq_self.mpr fun c hc => by
            have : c ≠ m := fun q => nd3.1 (q ▸ hc)
            simp [this]
          rw [if_neg (by simp), e2, List.length_cons]
          exact Nat.le_refl _
        · rw [if_pos (by simp [hm]), List.length_cons, List.length_cons]
          have := ihM nd3.2
          omega
    rw [List.length_cons]
    omega
theorem lower_nd : lower.Nodup := by decide +kernel
theorem low_range {c : Nat} (h : c ∈ lower) : 97 ≤ c ∧ c ≤ 122 := by
  have : ∀ c ∈ lower, 97 ≤ c ∧ c ≤ 122 := by decide +kernel
  exact this c h
/-- lists of truth values as data -/
theorem dp_bls {K : PySem.W.Frag} {H : Hp} : ∀ bs : List Bool, DpAll K H (bs.map V.bl) (bs.map PyData.bool)
  | [] => .nil
  | b :: bs => .cons (.bl b) (dp_bls bs)
theorem deep_bls {bs : List Bool} (h : bs.length ≤ 1000) : Deep 3 (.list (bs.map PyData.bool)) := by
  unfold Deep
  refine ⟨by rw [List.length_map]; exact h, fun d hd => ?_⟩
  obtain ⟨c, _, rfl⟩ := List.mem_map.mp hd
  unfold Deep
  trivial
theorem dp_strs {K : PySem.W.Frag} {H : Hp} : ∀ zs : List Str, DpAll K H (zs.map V.str) (zs.map PyData.str)
  | [] => .nil
  | b :: bs => .cons (.str b) (dp_strs bs)
theorem deep_list {n : Nat} {ds : List PyData} (h : ds.length ≤ 1000) (q : ∀ d ∈ ds, Deep n d) : Deep (n + 1) (.list ds) := by
  unfold Deep
  exact ⟨h, q⟩
theorem deep_strs {n : Nat} {zs : List Str} (h : zs.length ≤ 1000) : Deep (n + 1) (.list (zs.map PyData.str)) := by
  unfold Deep
  refine ⟨by rw [List.length_map]; exact h, fun d hd => ?_⟩
  obtain ⟨c, _, rfl⟩ := List.mem_map.mp hd
  unfold Deep
  trivial
theorem parts_len {n e s w g x y : Nat} : (partsC n e s w g x y).length = 2 := by
  unfold partsC
  split <;> rfl
theorem same_bls {H : Hp} {p p' : Addr} {bs : List Bool} {Q : VK} {E : XK} (h : H p = some (.lst (bs.map V.bl))) (h' : H p' = some (.lst (bs.map V.bl))) (hl : bs.length ≤ 1000) (q : ∀ H', Same H H' → Q (.bl true) H') : sp__law_same K 3 [.ref p, .ref p'] H Q E :=
  ⟨_, _, .list (bs.map PyData.bool), rfl, .lst (SqL.of h) (dp_bls bs), .lst (SqL.of h') (dp_bls bs), deep_bls hl, q⟩
end
end FW
namespace L2
open PySem PySem.Spec PySem.Calls PyProof.Rows
section
variable {X : Cx}
/-! ### a text backwards -/
def tRevS (te : TE) : TE := fun σ H Q => te σ H fun x H1 => ∃ z : Str, x = .str z ∧ z.length ≤ sizeLine ∧ Q (.str ⟨z.cps.toList.reverse.toArray⟩) H1
theorem rev_pick (z : Str) : (Builtin.Str.strSliceIndices none none (-1) z.length).filterMap (z.cps[·]?) = z.cps.toList.reverse := by
  have e : Builtin.Str.strSliceIndices none none (-1) z.length = (List.range z.cps.size).reverse := by
    unfold Builtin.Str.strSliceIndices
    show sliceRange ((z.cps.size : Int) - 1) (-1) (-1) = _
    rw [PySem.W.krv_sliceRange, PySem.W.krv_range]
  rw [e, List.filterMap_reverse]
  have h := PySem.W.krv_all z.cps
  rw [h]
theorem pe_revS {e : Expr} {te : TE} {k : Nat} {p1 p2 p3 pos : Pos} (he : PE X e te) : PE X (.Subscript e (.Slice none none (some (.UnaryOp .USub (.Constant (.int 1) k p1) p2)) p3) pos) (tRevS te) := by
  refine ⟨fun pins s σ H Q I h => ?_⟩
  refine Subscript_ (thn (he.run pins s σ H _ I h) fun v s1 ⟨x, H1, I1, r1, q1⟩ => ?_)
  obtain ⟨z, ex, hz, q⟩ := q1
  subst ex
  obtain ⟨t, rfl⟩ := r1
  have hst : PO X (some (.UnaryOp .USub (.Constant (.int 1) k p1) p2)) (tPart (tUn (rU fun i => .int (-i)) (tC (.int 1)))) := po_some (pe_un un_neg pe_int)
  refine wpAny_Slice (thn (po_none.run pins s1 σ H1 (fun o H2 => o = none ∧ H2 = H1) I1 ⟨rfl, rfl⟩) fun vl s2 ⟨l, H2, I2, pl, el, e2⟩ => ?_)
  subst el e2
  refine thn (po_none.run pins s2 σ H2 (fun o H3 => o = none ∧ H3 = H2) I2 ⟨rfl, rfl⟩) fun vu s3 ⟨u, H3, I3, pu, eu, e3⟩ => ?_
  subst eu e3
  refine thn (hst.run pins s3 σ H3 (fun o H4 => o = some (-1) ∧ H4 = H3) I3 ⟨1, rfl, -1, rfl, rfl, rfl⟩) fun vs s4 ⟨o, H4, I4, ps, eo, e4⟩ => ?_
  subst eo e4
  obtain ⟨lo, rfl, el⟩ := IsPart.raw pl
  obtain ⟨up, rfl, eu⟩ := IsPart.raw pu
  obtain ⟨st, rfl, es⟩ := IsPart.raw ps
  have I5 : Inv X pins σ H4 { s4 with heap := s4.heap.push { cls := .type "slice", data := .fields #[partValue lo, partValue up, partValue st] } } := I4.kept (t' := s4.toks) fun b ob q => Heap.get?_push_of_some _ q
  show wpAny (model X.prog X.w) X.A (subscriptTail e (.Slice none none (some (.UnaryOp .USub (.Constant (.int 1) k p1) p2)) p3) (.str z t) (.ref s4.heap.objs.size)) (EP X pins σ Q) X.xe { s4 with heap := s4.heap.push { cls := .type "slice", data := .fields #[partValue lo, partValue up, partValue st] } }
  refine tail_any (ops := [.str z t, .ref s4.heap.objs.size]) (typeIs_str _ z t) (PySem.F.slot_str_getitem.lookup) ?_ (by with_unfolding_all rfl)
  refine wpAny_getItem_str_slice (l := lo) (u := up) (st := st) ⟨_, Heap.get?_push_size _ rfl, rfl, rfl⟩ (by rw [es]; rfl) ?_
  have hl : z.cps.toList.reverse.length ≤ sizeLine := by
    rw [List.length_reverse, Array.length_toList]
    exact hz
  have em : PySem.sliceMade z t lo up st = Made.str ⟨z.cps.toList.reverse.toArray⟩ := by
    unfold PySem.sliceMade PySem.slicePicked
    rw [el, eu, es]
    show (if (((-1 : Int) == 1) && _) = true then _ else Made.str ⟨((Builtin.Str.strSliceIndices none none (-1) z.length).filterMap (z.cps[·]?)).toArray⟩) = _
    rw [rev_pick]
    rfl
  rw [em]
  exact ⟨by show z.cps.toList.reverse.toArray.size ≤ sizeLine; rw [List.size_toArray]; exact hl, .str _, H4, I5.tok _, ⟨_, rfl⟩, q⟩
end
end L2
namespace FW
open PySem PySem.Spec PyProof.Rows L2
section
variable {P : Program} {w : World} {K : PySem.W.Frag} {mg : Str → Option Value} {base : Heap}
/-! ### ascending choices of letters -/
def ascB : List Nat → Bool
  | [] => true
  | [_] => true
  | a :: b :: r => decide (a < b) && ascB (b :: r)
theorem asc_next : ∀ (l : List Nat) (i : Nat) (h : i + 1 < l.length), ascB (l.take (i + 1 + 1)) = (ascB (l.take (i + 1)) && decide (l[i] < l[i + 1]))
  | [], _, h => absurd h (Nat.not_lt_zero _)
  | [_], i, h => absurd h (by simp)
  | a :: b :: r, 0, h => by
    show (decide (a < b) && ascB [b]) = (true && decide (a < b))
    show (decide (a < b) && true) = (true && decide (a < b))
    rw [Bool.and_true, Bool.true_and]
  | a :: b :: r, i + 1, h => by
    have ih := asc_next (b :: r) i (by simpa using h)
    show (decide (a < b) && ascB ((b :: r).take (i + 1 + 1))) = ((decide (a < b) && ascB ((b :: r).take (i + 1))) && _)
    rw [ih, Bool.and_assoc]
    rfl
theorem asc_sorted : ∀ {l : List Nat}, l.Pairwise (· < ·) → ascB l = true
  | [], _ => rfl
  | [_], _ => rfl
  | a :: b :: r, h => by
    have h1 := List.pairwise_cons.mp h
    show (decide (a < b) && ascB (b :: r)) = true
    rw [decide_eq_true (h1.1 b List.mem_cons_self), asc_sorted h1.2]
    rfl
theorem lt_sgn (x y : Nat) : decide (([x] : List Nat) < [y]) = decide (x < y) := by
  by_cases h : x < y
  · rw [decide_eq_true h]
    exact decide_eq_true (List.Lex.rel h)
  · rw [decide_eq_false h]
    refine decide_eq_false fun q => h ?_
    cases q with
    | rel r => exact r
    | cons r => cases r
def bChoice (v : V) (L : List Nat) (m : Int) : Bool := isStr v && (decide ((1 : Int) ≤ ((strOf v).cps.size : Int)) && decide (((strOf v).cps.size : Int) ≤ m)) && ((strOf v).cps.toList.all fun c => decide (c ∈ L)) && ascB (strOf v).cps.toList
theorem bChoice_1 {z : Str} {L : List Nat} {m : Int} (h : decide ((1 : Int) ≤ (z.length : Int)) = false) : bChoice (.str z) L m = false := by
  unfold bChoice
  rw [show decide ((1 : Int) ≤ ((strOf (V.str z)).cps.size : Int)) = false from h, Bool.false_and, Bool.and_false, Bool.false_and, Bool.false_and]
theorem bChoice_2 {z : Str} {L : List Nat} {m : Int} (h : decide ((z.length : Int) ≤ m) = false) : bChoice (.str z) L m = false := by
  unfold bChoice
  rw [show decide (((strOf (V.str z)).cps.size : Int) ≤ m) = false from h, Bool.and_false, Bool.and_false, Bool.false_and, Bool.false_and]
theorem bChoice_3 {z : Str} {L : List Nat} {m : Int} (h : decide ((1 : Int) ≤ (z.length : Int)) = true) (h2 : decide ((z.length : Int) ≤ m) = true) : bChoice (.str z) L m = (bString (.str z) (S L) && ascB z.cps.toList) := by
  unfold bChoice
  rw [show decide ((1 : Int) ≤ ((strOf (V.str z)).cps.size : Int)) = true from h, show decide (((strOf (V.str z)).cps.size : Int) ≤ m) = true from h2]
  rfl
/-- a value that may be asked: a text that is not too long, or another thing of known kind -/
def Askd (K : PySem.W.Frag) (H : Hp) (v : V) : Prop := (isStr v = true ∧ (strOf v).cps.size ≤ 100000) ∨ (isStr v = false ∧ NotS K H v)
def upper : List Nat := ("ABCDEFGHIJKLMNOPQRSTUVWXYZ" : Str).cps.toList
abbrev bFaces (v : V) : Bool := bChoice v lower 6
abbrev bCutters (v : V) : Bool := bChoice v upper 4
def bAddress (v : V) : Bool := bString v (S [48, 49])
def sp_is_ascending (K : PySem.W.Frag) : Sp := fun vs H Q _ => ∃ l : List Nat, vs = [.str (S l)] ∧ l.length ≤ 100000 ∧ ∀ H', Same H H' → Q (.bl (ascB l)) H'
def sp_is_choice (K : PySem.W.Frag) : Sp := fun vs H Q _ => ∃ (v : V) (L : List Nat) (m : Int), vs = [v, .str (S L), .int m] ∧ Askd K H v ∧ ∀ H', Same H H' → Q (.bl (bChoice v L m)) H'
def sp_is_faces (K : PySem.W.Frag) : Sp := fun vs H Q _ => ∃ v : V, vs = [v] ∧ Askd K H v ∧ ∀ H', Same H H' → Q (.bl (bFaces v)) H'
def sp_is_cutters (K : PySem.W.Frag) : Sp := fun vs H Q _ => ∃ v : V, vs = [v] ∧ Askd K H v ∧ ∀ H', Same H H' → Q (.bl (bCutters v)) H'
def sp_is_address (K : PySem.W.Frag) : Sp := fun vs H Q _ => ∃ v : V, vs = [v] ∧ Askd K H v ∧ ∀ H', Same H H' → Q (.bl (bAddress v)) H'
/-- numbers -/
def bNumber (v : V) (lo hi : Int) : Bool := match v with
  | .int i => decide (lo ≤ i) && decide (i ≤ hi)
  | _ => false
def isNum : V → Bool
  | .int _ => true
  | .bl _ => true
  | _ => false
def NotI (K : PySem.W.Frag) (H : Hp) (v : V) : Prop := ∃ T : String, TyX K H v (.type T) ∧ kitB T "int" = some false
def sp_is_number (K : PySem.W.Frag) : Sp := fun vs H Q _ => ∃ (v : V) (lo hi : Int), vs = [v, .int lo, .int hi] ∧ (isNum v = true ∨ (isNum v = false ∧ NotI K H v)) ∧ Q (.bl (bNumber v lo hi)) H
def sp__law_rising (K : PySem.W.Frag) : Sp := fun vs H Q _ => ∃ (l L : List Nat) (m : Int), vs = [.str (S l), .str (S L), .int m] ∧ l.length ≤ 100000 ∧ ∀ H', Same H H' → Q (.bl (bChoice (.str (S l)) L m)) H'
/-- one keyword; three keywords backwards -/
def one1 {α : Type} : List α → List α → List α
  | [], [a] => [a]
  | _, _ => []
def rev3 {α : Type} : List α → List α → List α
  | [], [a, b, c] => [c, b, a]
  | _, _ => []
theorem one1_vals {vs : List V} {us : List Value} {zs : List V} {ws : List Value} (r : Vals vs us) (q : Vals zs ws) : Vals (one1 vs zs) (one1 us ws) := by
  cases r with
  | cons _ _ => exact .nil
  | nil =>
    cases q with
    | nil => exact .nil
    | cons q1 t =>
      cases t with
      | nil => exact .cons q1 .nil
      | cons _ _ => exact .nil
theorem rev3_vals {vs : List V} {us : List Value} {zs : List V} {ws : List Value} (r : Vals vs us) (q : Vals zs ws) : Vals (rev3 vs zs) (rev3 us ws) := by
  cases r with
  | cons _ _ => exact .nil
  | nil =>
    cases q with
    | nil => exact .nil
    | cons q1 t =>
      cases t with
      | nil => exact .nil
      | cons q2 t =>
        cases t with
        | nil => exact .nil
        | cons q3 t =>
          cases t with
          | nil => exact .cons q3 (.cons q2 (.cons q1 .nil))
          | cons _ _ => exact .nil
theorem kb_one {K : PySem.W.Frag} {x : Str} {st : Stmt} {p1 : Str}
    (h : ∀ (kV doc pm : Value) (an : Option Addr) (cdv ct : Value) (u : Value), bindArgs (PySem.W.fnOf x x (defArgs st) (defBody st) (defScope st) .none kV doc pm an cdv ct) ⟨[], [(p1, u)]⟩ = pure [(p1, u)]) :
    KB K x st [p1] [p1] one1 one1 := by
  intro f fd F
  obtain ⟨oc, od, kV, doc, pm, an, cdv, ct, osl, rfl, lk, hcd⟩ := F.ex
  refine ⟨fun s us ws _ hl => ?_, fun r q => one1_vals r q⟩
  match us, ws, hl with
  | [], [u], _ => exact .of_eq (h kV doc pm an cdv ct u)
  | [], [], hl => exact absurd (show 0 = 1 from hl) (by decide)
  | [], _ :: _ :: _, hl => exact absurd (show 0 = 1 from hl) (by decide)
  | _ :: _, ws, hl => exact absurd (show 0 = 1 from hl) (by decide)
theorem kb_rev3 {K : PySem.W.Frag} {x : Str} {st : Stmt} {p1 p2 p3 : Str}
    (h : ∀ (kV doc pm : Value) (an : Option Addr) (cdv ct : Value) (u v t : Value), bindArgs (PySem.W.fnOf x x (defArgs st) (defBody st) (defScope st) .none kV doc pm an cdv ct) ⟨[], [(p3, u), (p2, v), (p1, t)]⟩ = pure [(p1, t), (p2, v), (p3, u)]) :
    KB K x st [p1, p2, p3] [p3, p2, p1] rev3 rev3 := by
  intro f fd F
  obtain ⟨oc, od, kV, doc, pm, an, cdv, ct, osl, rfl, lk, hcd⟩ := F.ex
  refine ⟨fun s us ws _ hl => ?_, fun r q => rev3_vals r q⟩
  match us, ws, hl with
  | [], [u, v, t], _ => exact .of_eq (h kV doc pm an cdv ct u v t)
  | [], [], hl => exact absurd (show 0 = 3 from hl) (by decide)
  | [], [_], hl => exact absurd (show 0 = 3 from hl) (by decide)
  | [], [_, _], hl => exact absurd (show 0 = 3 from hl) (by decide)
  | [], _ :: _ :: _ :: _ :: _, hl => exact absurd (show 0 = 3 from hl) (by decide)
  | _ :: _, ws, hl => exact absurd (show 0 = 3 from hl) (by decide)
theorem but_fresh {H H1 H' : Hp} {D : Addr} (s : Same H H1) (n : H1 D = none) (b : But D H1 H') : Same H H' := fun c u e => b c u (ne_of_none (s _ _ e) n) (s _ _ e)
end
end FW
namespace FW
open PySem PySem.Spec PyProof.Rows L2
def inCls (c : Stmt) (j : Nat) : Stmt := match c with
  | .ClassDef _ _ _ b _ _ _ _ _ _ _ => b.getD j (.Pass ⟨0, 0, 0, 0⟩)
  | s => s
def bLetter (v : V) (L : List Nat) : Bool := isStr v && decide ((strOf v).cps.size = 1) && decide ((strOf v).cps.toList.getD 0 0 ∈ L)
section
variable {P : Program} {w : World} {K : PySem.W.Frag} {mg : Str → Option Value} {base : Heap}
def sp_is_letter (K : PySem.W.Frag) : Sp := fun vs H Q _ => ∃ (v : V) (L : List Nat), vs = [v, .str (S L)] ∧ Askd K H v ∧ ∀ H', Same H H' → Q (.bl (bLetter v L)) H'
/-- what is told of an error class of the program: its name, its __init__ at fI -/
structure Kls (K : PySem.W.Frag) (mg : Str → Option Value) (C fI : Addr) (z : String) : Prop where
  g : mg (Str.ofString z) = some (.ref C)
  oex : OexC K C
  cle : ClsE K C
  nam : NameC K C (Str.ofString z)
  xf : XfC K C
  ncode : PySem.W.findIn K (.ref C) "code" = some none
  init : PySem.W.findIn K (.ref C) "__init__" = some (some (.ref fI))
  tI : PySem.W.typeIn K (.ref fI) = some (.type "function")
/-- __init__(self, f): self.f = f; self.code = the class's name -/
def sp_init (K : PySem.W.Frag) (f : String) : Sp := fun vs H Q _ => ∃ (a C : Addr) (v : V) (z : Str), vs = [.ref a, v] ∧ H a = some (exo a C none) ∧ OexC K C ∧ ClsE K C ∧ NameC K C z ∧ PySem.W.findIn K (.ref C) (Str.ofString f) = some none ∧ PySem.W.findIn K (.ref C) "code" = some none ∧
  ∀ dx, H dx = none → dx ≠ a → Q .non (upd (upd (upd H dx (exd dx [(Str.ofString f, v)])) a (exo a C (some dx))) dx (exd dx [("code", .str z), (Str.ofString f, v)]))
/-- the dict of an error that bears one value -/
def Err1 (f : String) (z : String) (v : V) : HO := .xd [("code", .str (Str.ofString z)), (Str.ofString f, v)]
theorem err_heap {H : Hp} {a d : Addr} {o1 o2 o3 o4 u : HO} (na : H a = none) (hda : d ≠ a) : upd (del (upd (upd (upd (upd H a o1) d o2) a o3) d o4) a) d u = upd H d u := by
  funext b
  by_cases hb : b = d
  · rw [hb, upd_same, upd_same]
  · rw [upd_ne hb, upd_ne hb]
    by_cases ha : b = a
    · rw [ha, del_same, na]
    · rw [del_ne ha, upd_ne hb, upd_ne ha, upd_ne hb, upd_ne ha]
/-- C(e): the error that its __init__ leaves -/
theorem mk1 {x f : String} {C fI : Addr} {H1 : Hp} {v : V} {Q : XK} {E : XK} (T : Kls K mg C fI x) (nf : PySem.W.findIn K (.ref C) (Str.ofString f) = some none) (h : ∀ d, H1 d = none → Q (.ref C) (some d) (upd H1 d (Err1 f x v))) :
    [v].length ≤ 1000 ∧ ∀ a, H1 a = none → sp_init K f (.ref a :: ([v] ++ [])) (upd H1 a (exo a C none)) (fun v H2 => v = .non ∧ ∃ (d : Addr) (fs : List (Str × V)), H2 a = some (exo a C (some d)) ∧ H2 d = some (exd d fs) ∧ H1 d = none ∧ Q (.ref C) (some d) (upd (del H2 a) d (.xd fs))) E := by
  refine ⟨(show 1 ≤ 1000 by decide), fun a na => ⟨a, C, v, Str.ofString x, rfl, upd_same, T.oex, T.cle, T.nam, nf, T.ncode, fun d hd hda => ⟨rfl, d, _, ?_, upd_same, ?_, ?_⟩⟩⟩
  · rw [upd_ne (Ne.symm hda), upd_same]
  · rwa [upd_ne hda] at hd
  · rw [upd_ne hda] at hd
    rw [err_heap na hda]
    exact h d hd
/-- the promise of a def that checks its first argument -/
def FieldIs (K : PySem.W.Frag) (C : Addr) (fs : List (Str × V)) (z : Str) (v : V) : Prop :=
  if z ∈ (["InvalidLine", "InvalidStep", "InvalidTable", "InvalidBad", "InvalidPlan", "UnknownRoom"] : List Str) then PySem.W.findIn K (.ref C) "at" = some none ∧ fs.lookup (Str.ofString "at") = some v
  else if z ∈ (["TooMany", "Full"] : List Str) then PySem.W.findIn K (.ref C) "most" = some none ∧ fs.lookup (Str.ofString "most") = some v
  else if z ∈ (["InvalidText", "InvalidPage"] : List Str) then PySem.W.findIn K (.ref C) "line" = some none ∧ fs.lookup (Str.ofString "line") = some v
  else if z = "UnknownState" then PySem.W.findIn K (.ref C) "state" = some none ∧ fs.lookup (Str.ofString "state") = some v
  else if z ∈ (["InvalidPaper", "OtherFaces", "OtherCutters", "NothingLeft"] : List Str) then v = .non
  else PySem.W.findIn K (.ref C) "given" = some none ∧ fs.lookup (Str.ofString "given") = some v
/-- a caught error of the program: its class, its dict, its code, what it bears -/
def Caught (K : PySem.W.Frag) (H : Hp) (a : Addr) (z : Str) (v : V) : Prop := ∃ (C dd : Addr) (fs : List (Str × V)), H a = some (ExK (.ref C) (some dd) a) ∧ H dd = some (.xd fs) ∧ XfC K C ∧ PySem.W.findIn K (.ref C) "code" = some none ∧ fs.lookup (Str.ofString "code") = some (.str z) ∧ FieldIs K C fs z v
theorem Caught.same {H H' : Hp} {a : Addr} {z : Str} {v : V} (h : Same H H') : Caught K H a z v → Caught K H' a z v := fun ⟨C, dd, fs, h1, h2, r⟩ => ⟨C, dd, fs, h _ _ h1, h _ _ h2, r⟩
def sp__law_field (K : PySem.W.Frag) : Sp := fun vs H Q _ => ∃ (a : Addr) (z : Str) (v : V), vs = [.ref a] ∧ Caught K H a z v ∧ ∀ H', Same H H' → Q v H'
/-- what _law_try makes of what it asks -/
def TTry (K : PySem.W.Frag) (cs : List Value) : (XK → Hp → VK → Prop) → Hp → VK → Prop := fun tl H Q =>
  tl (fun cls d H1 => PySem.W.exmAny K cls cs = some true ∧ ∀ a, H1 a = none → ∃ (z : Str) (v : V), Caught K (upd H1 a (ExK cls d a)) a z v ∧ ∀ H2, Same (upd H1 a (ExK cls d a)) H2 → ∀ p, H2 p = none → Q (.ref p) (upd H2 p (.tup [.str z, v])))
    H (fun v H1 => [V.str "", v].length ≤ sizeLine ∧ ∀ p, H1 p = none → Q (.ref p) (upd H1 p (.tup [.str "", v])))
end
end FW
namespace FW
open PySem PySem.Spec PyProof.Rows L2
section
variable {X : Cx} {k j : Nat} {x : Str} {st : Stmt} {ps ks : List Str} {sp : Sp} {p pos : Pos} {e : Expr} {es : List Expr} {kws : List Keyword} {t tk : TA} {g : List Value → List Value → List Value} {gV : List V → List V → List V}
/-- a def that may raise, called where it raises nothing -/
theorem pe_cE (c : Cal X.prog X.w X.K X.mg X.base (L2.CX X.prog X.w) k x st ps sp) (hr : Room j X.A) (hk : k ≤ j) (hg : Gl X x) (ha : PA X (e :: es) t)
    (hdb : (x == ("__debug__" : Str)) = false := by decide) (he : starEach (e :: es) X.env = (false, eval e X.env) :: starEach es X.env := by rfl) (hpl : (backTo pos (starEach es X.env)).any (·.1) = false := by rfl) :
    PE X (.Call (.Name x p) (e :: es) [] pos) (tCall sp [] E0 t) := pe_cx c hr hk hg passL ha hdb he hpl
theorem pe_ck0E (c : Cal X.prog X.w X.K X.mg X.base (L2.CX X.prog X.w) k x st ps sp) (b : KB X.K x st ps ks g gV) (hr : Room j X.A) (hk : k ≤ j) (hg : Gl X x) (hkw : PK X kws tk)
    (hall : (backToKw pos (keywordEach kws X.env)).all (·.1.isSome) = true := by rfl) (hks : (backToKw pos (keywordEach kws X.env)).filterMap (·.1) = ks := by rfl)
    (hdb : (x == ("__debug__" : Str)) = false := by decide)
    (hpl : ((backTo pos (starEach [] X.env)).any (·.1) || (backToKw pos (keywordEach kws X.env)).any (·.1.isNone)) = false := by rfl) :
    PE X (.Call (.Name x p) [] kws pos) (tCallK sp gV E0 tNil tk) := by
  obtain ⟨f, fd, F, hm, fn, _⟩ := c.ex
  exact pe_callK0 F (hr.mono hk) hg hm fn.kp (b f fd fn) passL hkw hall hks hdb hpl
end
/-! ### what stands when only tables grow -/
section
variable {K : PySem.W.Frag} {H H' : Hp}
theorem ext_seq {a : Addr} {xs : List V} (e : LamX.ExtN H H') (h : SqL K H a xs) : SqL K H' a xs := by
  rcases h with (h | ⟨o, h⟩) | h
  · exact .inl (.inl (e _ _ h (fun _ z => by cases z)))
  · exact .inl (.inr ⟨o, e _ _ h (fun _ z => by cases z)⟩)
  · exact .inr h
theorem ext_tup {a : Addr} {xs : List V} (e : LamX.ExtN H H') (h : SqT K H a xs) : SqT K H' a xs := by
  rcases h with (h | ⟨o, h⟩) | h
  · exact .inl (.inl (e _ _ h (fun _ z => by cases z)))
  · exact .inl (.inr ⟨o, e _ _ h (fun _ z => by cases z)⟩)
  · exact .inr h
theorem dp_ext (e : LamX.ExtN H H') {v : V} {d : PyData} (h : Dp K H v d) : Dp K H' v d :=
  @Dp.rec K H (fun v d _ => Dp K H' v d) (fun vs ds _ => DpAll K H' vs ds) .non (fun b => .bl b) (fun i => .int i) (fun x => .str x) (fun h _ ih => .lst (ext_seq e h) ih) (fun h _ ih => .tup (ext_tup e h) ih) .nil (fun _ _ i1 i2 => .cons i1 i2) v d h
theorem ns_ext (e : LamX.ExtN H H') {v : V} (n : NS H v) : NS H' v := by
  rcases n with n | n | n | ⟨p, xs, z, h⟩ | ⟨p, xs, z, h⟩
  · exact .inl n
  · exact .inr (.inl n)
  · exact .inr (.inr (.inl n))
  · exact .inr (.inr (.inr (.inl ⟨p, xs, z, e _ _ h (fun _ q => by cases q)⟩)))
  · exact .inr (.inr (.inr (.inr ⟨p, xs, z, e _ _ h (fun _ q => by cases q)⟩)))
end
end FW
namespace FW
open PySem PySem.Spec PyProof.Rows L2
/-! ### a walk over a list or a tuple -/
def iSeq (K : PySem.W.Frag) (tl : TE) : TI := fun σ H R => tl σ H fun x H1 => ∃ a, x = .ref a ∧ (((∃ xs, SqL K H1 a xs) ∧ R (Itl K a) H1) ∨ ((∃ xs, SqT K H1 a xs) ∧ R (Itt K a) H1))
theorem pi_seq {X : Cx} {tg l : Expr} {tl : TE} (hl : PE X l tl) : PI X tg l (iSeq X.K tl) := by
  refine ⟨fun pins s σ H R I h => thn (hl.run pins s σ H _ I h) ?_⟩
  rintro v s1 ⟨x, H1, I1, r1, a, e, q1⟩
  subst e
  obtain rfl : v = Value.ref a := r1
  have fp : ∀ b ∈ [s1.heap.objs.size], FpOk X pins H1 b := fun b hb => by
    rw [List.mem_singleton.mp hb]
    exact I1.fpOk (Nat.le_refl _) (I1.hok.fresh (Nat.le_refl _))
  rcases q1 with ⟨⟨xs, hq⟩, q⟩ | ⟨⟨xs, hq⟩, q⟩
  · obtain ⟨its, rv, p, hz⟩ := I1.list hq
    exact wpAny_pyIter_list p.isList ⟨s1.heap.objs.size, [s1.heap.objs.size], _, _, H1, rfl, I1.kept (t' := s1.toks) fun b o e => Heap.get?_push_of_some _ e, turn_list a _,
      ⟨_, Heap.get?_push_size _ rfl, rfl, rfl⟩, fp, q⟩
  · obtain ⟨its, rv, p, hz⟩ := I1.tuple hq
    exact wpAny_pyIter_tuple (show s1.heap.IsTuple a its.toArray from p) ⟨s1.heap.objs.size, [s1.heap.objs.size], _, _, H1, rfl, I1.kept (t' := s1.toks) fun b o e => Heap.get?_push_of_some _ e, turn_tuple a _,
      ⟨_, Heap.get?_push_size _ rfl, rfl, rfl⟩, fp, q⟩
end FW
namespace FW
open PySem PySem.Spec PyProof.Rows L2
/-! ### enumerate(x): a list, a tuple or a text -/
theorem meets_enum1 {v : Value} {o : Obj} {B0 : Heap → Prop} (B : Begins v o B0) :
    Meets (Builtin.«enumerate.__new__» ⟨[.type "enumerate", v], []⟩) (fun _ R s => B0 s.heap ∧
      R (.ok (.ret (.ref (s.heap.push o).objs.size))) { s with heap := (s.heap.push o).push { cls := .type "enumerate", data := .fields #[.none, .bool false, .ref s.heap.objs.size, rawInt 0, .none, .none] } }) :=
  .of_wp fun prog w A R s hh => by
    obtain ⟨hp, gg, dd, tk, os⟩ := s
    obtain ⟨hb, hr⟩ := hh
    have hsub := sub_enumerate
    have go : ∀ {A' : Around} {E : Value → Shared → Prop} {Q : Value → Shared → Prop}, Q (.ref hp.objs.size) ⟨hp.push o, gg, dd, tk, os⟩ → wpAny (model prog w) A' (pyIter v) Q E ⟨hp, gg, dd, tk, os⟩ := fun q => B.iter prog w _ _ ⟨hp, gg, dd, tk, os⟩ _ hb q
    wp_walk using go
    refine wpAny_stack_any fun st => wpAny_pure ?_
    split
    · rename_i c _ _ _ _ _
      cases (c == Value.type "enumerate")
      · wp_walk using go
        exact ⟨_, rfl, hr⟩
      · wp_walk using go
        exact ⟨_, rfl, hr⟩
    · wp_walk using go
      exact ⟨_, rfl, hr⟩
section
variable {prog : Program} {w : World} {A : Around} {E : Value → Shared → Prop} {s : Shared}
theorem enum_begin1 {v : Value} {o : Obj} {B0 : Heap → Prop} {Q : Value → Shared → Prop} (B : Begins v o B0) (hb : B0 s.heap)
    (h : ∀ h', IsEnum h' (s.heap.objs.size + 1) s.heap.objs.size 0 .none → h'.get? s.heap.objs.size = some o → (∀ b u, s.heap.get? b = some u → h'.get? b = some u) → Q (.ref (s.heap.objs.size + 1)) { s with heap := h' }) :
    wpAny (model prog w) A (call (.type "enumerate") [v]) Q E s := by
  refine callType_new F.called_enumerate (by decide) (F.typeCall_enumerate_1 _) (F.newCall_enumerate_1 _) (fun obj => F.args_object_init_2 obj _)
    F.entry_enumerate_new (meets_enum1 B) ⟨hb, ?_⟩
  have sz1 : (s.heap.push o).objs.size = s.heap.objs.size + 1 := Heap.size_push ..
  show _ ∧ _
  rw [sz1]
  have en : IsEnum ((s.heap.push o).push { cls := .type "enumerate", data := .fields #[.none, .bool false, .ref s.heap.objs.size, rawInt 0, .none, .none] }) (s.heap.objs.size + 1) s.heap.objs.size 0 .none := by
    have z := Heap.get?_push_size (s.heap.push o) (o := { cls := .type "enumerate", data := .fields #[.none, .bool false, .ref s.heap.objs.size, rawInt 0, .none, .none] }) rfl
    rwa [sz1] at z
  exact ⟨⟨_, en, rfl⟩, h _ en (Heap.get?_push_of_some _ (Heap.get?_push_size _ B.free)) fun b u x => Heap.get?_push_of_some _ (Heap.get?_push_of_some _ x)⟩
end
def IteG (K : PySem.W.Frag) (k : SK) : It :=
  ⟨fun i H => ∃ (xs : List V) (x : V), k.src K H xs ∧ xs[i]? = some x, fun i H v H' => ∃ T x, v = .ref T ∧ H T = none ∧ H' = upd H T (.tup [.int (i : Nat), x]) ∧ ∀ xs, k.src K H xs → xs[i]? = some x, fun i H => ∃ xs : List V, k.src K H xs ∧ i = xs.length⟩
theorem turn_enumG {P : Program} {w : World} {K : PySem.W.Frag} {elts : List Expr} {kk : Nat} {tpos : Pos} {e it : Addr} {k : SK} (hne : e ≠ it) (ha : ∀ c, k.at c → c ≠ e ∧ c ≠ it) :
    Turn P w K (.Tuple elts kk tpos) (IteG K k) [e, it] e (fun i h => (∃ old, IsEnum h e it ((i : Nat) : Int) old) ∧ k.iter it i h) where
  mem := List.mem_cons_self
  obj := fun i h st b hb => by
    obtain ⟨⟨old, he⟩, hi⟩ := st
    have e' : b = e ∨ b = it := by simpa using hb
    rcases e' with z | z
    · rw [z]
      exact ⟨_, he, fun v q => nomatch q⟩
    · rw [z]
      exact SK.iter_obj hi
  keep := fun i h h' st k => by
    obtain ⟨⟨old, he⟩, hi⟩ := st
    exact ⟨⟨old, k e (by simp) _ he⟩, SK.iter_keep hi fun o q => k it (by simp) o q⟩
  item := by
    intro X hP hw hK hc i pins s σ H E I hf st hg
    subst hP hw hK
    obtain ⟨⟨old, he⟩, hi⟩ := st
    obtain ⟨xs, x, hq, hx⟩ := hg
    obtain ⟨fp, Pp, Sp, D, g1, b1, r1, m1, f1⟩ := SK.draws I hc hq fun c q => (ha c q).2
    have lx : i < xs.length := (List.getElem?_eq_some_iff.mp hx).1
    have hel : e < s.heap.objs.size := Heap.lt_size he
    have hil : it < s.heap.objs.size := by
      obtain ⟨_, q, _⟩ := SK.iter_obj hi
      exact Heap.lt_size q
    have hef : e ∉ fp := fun q => by
      rcases f1 e q with z | z
      · exact hne z
      · exact (ha e z).1 rfl
    refine wpAny_pyNext_enum_itemD D he (g1 i hi) lx hne hef fun u h' tk p ho hs hT hsz hk => ?_
    obtain ⟨v1, e1, ru⟩ := r1 i u p
    obtain rfl : v1 = x := Option.some.inj (e1.symm.trans hx)
    refine ⟨_, rfl, wpAny_letOwnedTupleGo_enum (s := { s with heap := h', toks := tk + 1 }) ho fun h'' he' sb => ?_⟩
    have hT2 : h''.get? s.heap.objs.size = some { cls := .type "tuple", data := .seq #[.int i tk, u] } := (sb.2 _ (Nat.ne_of_gt hel)).trans hT
    have new : ObjOk X.prog X.w (upd H s.heap.objs.size (.tup [.int (i : Nat), v1])) h'' s.heap.objs.size (.tup [.int (i : Nat), v1]) :=
      ⟨(show 2 ≤ sizeLine by decide), [.int i tk, u], .cons ⟨_, rfl⟩ (.cons ru .nil), ⟨_, hT2, rfl, _, rfl⟩⟩
    have I1 : Inv X pins σ (upd H s.heap.objs.size (.tup [.int (i : Nat), v1])) { s with heap := h'', toks := tk + 1 } :=
      I.turnedNew (ch := [e, it]) (fun b ob hb q => (sb.2 b (fun z => hb (by simp [z]))).trans (hk b ob (fun z => hb (by simp [z])) (fun z => hb (by simp [z])) q)) hf (Nat.le_refl _) new
    refine ⟨.ref s.heap.objs.size, _, I1, rfl, ⟨_, v1, rfl, I.hok.fresh (Nat.le_refl _), rfl, fun ys hy => by rw [SK.inj I hy hq]; exact hx⟩, ⟨⟨u, ?_⟩, SK.iter_keep (b1 _ _ hs) fun o q => (sb.2 it (Ne.symm hne)).trans q⟩, fun b hb => ?_⟩
    · rw [show ((i + 1 : Nat) : Int) = (i : Int) + 1 by omega]
      exact he'
    · have e' : b = e ∨ b = it := by simpa using hb
      have hb' : b < s.heap.objs.size := by
        rcases e' with z | z
        · rw [z]
          exact hel
        · rw [z]
          exact hil
      rw [upd_ne (Nat.ne_of_lt hb')]
      exact (hf b hb).1
  done := by
    intro X hP hw hK hc i pins s σ H E I hf st hg
    subst hP hw hK
    obtain ⟨⟨old, he⟩, hi⟩ := st
    obtain ⟨xs, hq, rfl⟩ := hg
    obtain ⟨fp, Pp, Sp, D, g1, b1, r1, m1, f1⟩ := SK.draws I hc hq fun c q => (ha c q).2
    obtain ⟨f0, f1', f2, f3, f4, f5⟩ := hf it (by simp)
    exact wpAny_pyNext_enum_endD D he (g1 _ hi) fun h' eb => ⟨rfl, I.turned (t' := s.toks) (fun b o hb q => eb b o hb q) f0 f1' f3 f4 f5⟩
  self := fun A i s Q E st h => by
    obtain ⟨⟨old, he⟩, _⟩ := st
    exact wpAny_pyIter_enum he h
def iEnumG (K : PySem.W.Frag) (ta : TA) : TI := fun σ H R => ta σ H fun vs H1 => ∃ (x : V) (xs : List V), vs = [x] ∧ Src K H1 x xs ∧ ∀ k : SK, k.val = x → k.src K H1 xs → R (IteG K k) H1
theorem pi_enumG {X : Cx} {e : Expr} {ta : TA} {p pos tpos : Pos} {elts : List Expr} {kk : Nat} (hg : Gl X "enumerate") (hm : X.mg "enumerate" = none) (ha : PA X [e] ta) (hs : starEach [e] X.env = [(false, eval e X.env)] := by rfl) :
    PI X (.Tuple elts kk tpos) (.Call (.Name "enumerate" p) [e] [] pos) (iEnumG X.K ta) := by
  refine ⟨fun pins s σ H R I h => ?_⟩
  refine Call_ (ld_blt I hg hm boot_enumerate (PyProof.Rows.callWith_type1 (thn (ha.run pos pins s σ H _ I h) ?_) hs rfl))
  rintro us s1 ⟨vs, H1, I1, r1, x, xs, ex, sx, q⟩
  subst ex
  cases r1 with
  | cons r rr =>
    cases rr
    obtain ⟨k, ev, _, src, lt, B0, b0, hb0⟩ := sx.kind I1 r
    refine enum_begin1 b0 hb0 fun h' he hi hk => wpAny_pyIter_enum he ?_
    have I2 : Inv X pins σ H1 { s1 with heap := h' } := I1.kept (t' := s1.toks) hk
    refine ⟨s1.heap.objs.size + 1, [s1.heap.objs.size + 1, s1.heap.objs.size], _, _, H1, rfl, I2, turn_enumG (k := k) (Nat.succ_ne_self _) (fun c hc => ?_), ⟨⟨.none, he⟩, SK.begun hi⟩, fun b hb => ?_, q k ev src⟩
    · have hlt := lt c hc
      exact ⟨Nat.ne_of_lt (Nat.lt_succ_of_lt hlt), Nat.ne_of_lt hlt⟩
    · have e' : b = s1.heap.objs.size + 1 ∨ b = s1.heap.objs.size := by simpa using hb
      have hle : s1.heap.objs.size ≤ b := by
        rcases e' with z | z
        · rw [z]
          exact Nat.le_add_right _ _
        · rw [z]
          exact Nat.le_refl _
      exact I1.fpOk hle (I1.hok.fresh hle)
theorem walk_enumG {K : PySem.W.Frag} {k : SK} {xs : List V} : Walk (IteG K k) xs.length (fun H => k.src K H xs) (YPair (fun i => some (.int (i : Nat))) (fun i => xs[i]?)) := by
  refine ⟨fun i _ hi q => ⟨xs, xs[i], q, by simp [hi]⟩, fun _ q => ⟨xs, q, rfl⟩, fun i H v H' _ q y => ?_⟩
  obtain ⟨T, x, h1, h2, h3, h4⟩ := y
  exact ⟨T, .int (i : Nat), x, h1, h2, h3, rfl, h4 xs q⟩
end FW
namespace FW
open PySem PySem.Spec PyProof.Rows L2
/-! ### C.m(..), m a static method of the class at C over the function at f -/
structure Sta (K : PySem.W.Frag) (C : Addr) (m : Str) (f : Addr) : Prop where
  rd : PySem.W.readsIn K C (.type "type") = true
  fd : ∃ (p : Addr) (rest : List Value), PySem.W.findCls K (.ref C) (.type "type") m = some (.get (.builtin "staticmethod.__get__") (.ref p) .none (.ref C)) ∧ PySem.W.recIn K p "staticmethod" = some (.ref f :: rest)
  sg : PySem.W.specialIn K (.ref C) "__getattribute__" = some (some (.builtin "type.__getattribute__"))
  kp : PySem.W.keepIn K (.ref f) = true
theorem static_get {prog : Program} {w : World} {A : Around} {E : Value → Shared → Prop} {s : Shared} {K : PySem.W.Frag} {C f : Addr} {m : Str} {pl : Sem Bool} {Q : Value × List Value → Shared → Prop} (X : K.In s.heap) (S : Sta K C m f)
    (h : ∀ u, Q (.ref f, []) { s with toks := u }) : wpAny (model prog w) A (getMethod (.ref C) m pl) Q E s := by
  obtain ⟨p, rest, fd, rc⟩ := S.fd
  exact PySem.W.method_cls X S.sg (PySem.W.cls_bind X S.rd fd (wpAny_call (PySem.W.sm_get (s := { s with toks := s.toks + 1 }) X rc (PySem.W.handed_on rfl (h _)))))
section
variable {X : Cx} {CX : CXT} {k : Nat} {f C : Addr} {fd : FuncData} {ps : List Str} {sp : Sp} {dvs : List V} {ds : List Value} {E : XK} {x m : Str} {p1 pos apos : Pos} {e : Expr} {es : List Expr} {t : TA}
theorem pe_static {pl : Sem Bool} (hg : Gl X x) (hm : X.mg x = some (.ref C)) (S : Sta X.K C m f) (F : FnOk X.prog X.w X.K X.mg X.base CX k f fd ps sp) (hr : Room k X.A) (hb : L2.Binds X.K fd ps ds) (hd : Vals dvs ds) (hx : Passes CX X E) (ha : PA X (e :: es) t)
    (hdb : (x == ("__debug__" : Str)) = false := by decide)
    (hc : eval (.Call (.Attribute (.Name x p1) m apos) (e :: es) [] pos) X.env = (do
      let oc ← eval (.Name x p1) X.env
      standAt apos.atName
      let (fc, fst) ← holding [oc] (getMethod oc m pl)
      callWith pos fc fst (backTo pos (starEach (e :: es) X.env)) (backToKw pos (keywordEach [] X.env))) := by rfl)
    (he : starEach (e :: es) X.env = (false, eval e X.env) :: starEach es X.env := by rfl) (hpl : (backTo pos (starEach es X.env)).any (·.1) = false := by rfl) :
    PE X (.Call (.Attribute (.Name x p1) m apos) (e :: es) [] pos) (tCall sp dvs E t) := by
  refine ⟨fun pins s σ H Q I h => PySem.W.methodCall_KW (pl := pl) (ld_glob I hg hm ?_ hdb) hc⟩
  refine static_get I.kIn S fun u => ?_
  have I1 : Inv X pins σ H { s with toks := u } := I.tok _
  refine PySem.W.callWith_K (first := []) (h₀ := X.base) I.ok.mod.kin S.kp (thn (ha.run pos pins _ σ H _ I1 h) ?_) he hpl
  rintro us s2 ⟨vs, H2, I2, r, q2⟩
  exact ⟨I2.kIn, run_fn F hr hb hd hx I2 r q2⟩
end
end FW
namespace FW
open PySem PySem.Spec PyProof.Rows L2 StX
/-- three parameters ahead of the starred one -/
theorem bind_star3 {B : List Value → Sem (List (Str × Value))} {p1 p2 p3 pv : Str} (h0 : ∀ a b c, B [a, b, c] = (newTuple [] >>= fun t => pure [(p1, a), (p2, b), (p3, c), (pv, t)]))
    (h1 : ∀ a b c r rs, B (a :: b :: c :: r :: rs) = (newTuple (r :: rs) >>= fun t => pure [(p1, a), (p2, b), (p3, c), (pv, t)])) :
    ∀ us rest : List Value, us.length = [p1, p2, p3].length → B (us ++ rest) = (newTuple rest >>= fun t => pure ([p1, p2, p3].zip us ++ [(pv, t)]))
  | [a, b, c], [], _ => h0 a b c
  | [a, b, c], r :: rs, _ => h1 a b c r rs
section
variable {X : Cx} {CX : CXT} {k : Nat} {f C : Addr} {sp : Sp} {E : XK} {x : Str} {e : Expr} {es : List Expr} {t : TA} {p pos : Pos}
/-- C(e, .., *y) -/
theorem pe_makeS (M : Mk X.K C f) (F : FnR X.prog X.w X.K X.mg X.base CX k f sp) (hr : Room (k + 1) X.A) (hg : Gl X x) (hm : X.mg x = some (.ref C)) (hx : Passes CX X E) (ha : PA X (e :: es) t) (hd : (x == ("__debug__" : Str)) = false := by decide)
    (he : starEach (e :: es) X.env = (false, eval e X.env) :: starEach es X.env := by rfl) (hst : (backTo pos (starEach es X.env)).any (·.1) = true := by rfl) :
    PE X (.Call (.Name x p) (e :: es) [] pos) (tMakeR C sp E t) := by
  refine ⟨fun pins s σ H Q I h => wpAny_Call_Name_kw (ld_glob I hg hm ?_ hd)⟩
  refine PySem.W.callWith_S2 (h₀ := X.base) I.ok.mod.kin M.kp (thn (ha.run pos pins s σ H _ I h) ?_) he hst
  rintro us s1 ⟨vs, H1, I1, r, q⟩
  exact ⟨I1.kIn, run_makeR M F hr hx I1 r q⟩
end
end FW
namespace FW
open PySem PySem.Spec PyProof.Rows L2
/-! ### tests, and what may be forgotten behind an expression -/
theorem ite_dec {p : Prop} [d : Decidable p] {A B : Prop} (h1 : p → A) (h2 : ¬ p → B) : if decide p = true then A else B := by
  by_cases h : p
  · rw [decide_eq_true h]
    exact iteT (h1 h)
  · rw [decide_eq_false h]
    exact iteF (h2 h)
theorem ite_ndec {p : Prop} [d : Decidable p] {A B : Prop} (h1 : ¬ p → A) (h2 : p → B) : if (!decide p) = true then A else B := by
  by_cases h : p
  · rw [decide_eq_true h]
    exact iteF (h2 h)
  · rw [decide_eq_false h]
    exact iteT (h1 h)
theorem ite_bl {c : Bool} {A B : Prop} (h1 : c = true → A) (h2 : c = false → B) : if c = true then A else B := by
  cases c with
  | true => exact iteT (h1 rfl)
  | false => exact iteF (h2 rfl)
theorem ite_nbl {c : Bool} {A B : Prop} (h1 : c = false → A) (h2 : c = true → B) : if (!c) = true then A else B := by
  cases c with
  | true => exact iteF (h2 rfl)
  | false => exact iteT (h1 rfl)
section
variable {X : Cx}
/-- an expression, and what is kept of its value and the heap -/
def tAs (t : TE) : TE := fun σ H Q => ∃ R : V → Hp → Prop, t σ H R ∧ ∀ v H', R v H' → Q v H'
theorem pe_as {e : Expr} {t : TE} (h : PE X e t) : PE X e (tAs t) := ⟨fun pins s σ H Q I hw => by
  obtain ⟨R, hR, hq⟩ := hw
  exact thn (h.run pins s σ H R I hR) fun v s1 ⟨x, H1, I1, r1, q1⟩ => ⟨x, H1, I1, r1, hq _ _ q1⟩⟩
/-- a test, and what is kept -/
def tAsT (t : TT) : TT := fun σ H Q => ∃ R : Bool → Hp → Prop, t σ H R ∧ ∀ v H', R v H' → Q v H'
theorem pt_as {e : Expr} {t : TT} (h : PT X e t) : PT X e (tAsT t) := ⟨fun pins s σ H Q I hw => by
  obtain ⟨R, hR, hq⟩ := hw
  exact thn (h.run pins s σ H R I hR) fun v s1 ⟨H1, I1, q1⟩ => ⟨H1, I1, hq _ _ q1⟩⟩
/-- a statement, and what is kept behind it where it goes on -/
def tAsS (t : TS) : TS := fun D σ H => ∃ R : L2.St → Hp → Prop, t { D with nx := R } σ H ∧ ∀ σ' H', R σ' H' → D.nx σ' H'
theorem ps_as {st : Stmt} {t : TS} (h : PS X st t) : PS X st (tAsS t) := ⟨fun pins s σ H D I hw => by
  obtain ⟨R, hR, hq⟩ := hw
  refine thn (h.run pins s σ H _ I hR) fun f s1 z => ?_
  cases f with
  | next => exact (let ⟨σ', H1, I1, q1⟩ := z; ⟨σ', H1, I1, hq _ _ q1⟩)
  | _ => exact z⟩
end
end FW
namespace FW
open PySem PySem.Spec PyProof.Rows L2
/-! ### == and != by an own __eq__ -/
/-- what the type of a value is -/
inductive Kd (H : Hp) : V → Value → Prop
  | ins {b C dy : Addr} {gs : List (Str × V)} (e : H b = some (.ins C dy gs)) : Kd H (.ref b) (.ref C)
  | non : Kd H .non (.type "NoneType")
  | str (z : Str) : Kd H (.str z) (.type "str")
  | int (i : Int) : Kd H (.int i) (.type "int")
  | lst {b : Addr} {xs : List V} (e : H b = some (.lst xs)) : Kd H (.ref b) (.type "list")
  | tup {b : Addr} {xs : List V} (e : H b = some (.tup xs)) : Kd H (.ref b) (.type "tuple")
section
variable {X : Cx} {CX : CXT} {pins : List (Addr × Obj)} {σ : L2.St} {H : Hp} {s : Shared} {C f : Addr} {n : Nat} {sp : Sp} {E : XK}
theorem looks_kd {y : V} {u t : Value} (I : Inv X pins σ H s) (r : RelV y u) (k : Kd H y t) : PySem.W.Looks (model X.prog X.w) s.heap (typeOf u) t := by
  cases k with
  | ins e =>
    cases r
    obtain ⟨mA, J, _⟩ := ins_get I.hok e
    obtain ⟨od, J, _⟩ := J.look
    exact J.type
  | non => cases r; exact .of_pure rfl
  | str z => obtain ⟨t, rfl⟩ := r; exact .of_pure rfl
  | int z => obtain ⟨t, rfl⟩ := r; exact .of_pure rfl
  | lst e =>
    cases r
    obtain ⟨z, its, k, r, e⟩ := I.hok _ _ e
    exact (PySem.W.Looks.ld e).andThen .now
  | tup e =>
    cases r
    obtain ⟨its, k, r, p⟩ := I.hok _ _ e
    obtain ⟨⟨cls, dd, data, sl⟩, ho, hc, _⟩ := id p
    simp only at hc
    subst hc
    exact (PySem.W.Looks.ld ho).andThen .now
/-- a op y, a an instance of the class at C with its own __eq__ -/
def rOwnI (K : PySem.W.Frag) (C : Addr) (sp : Sp) (E : XK) (neg : Bool) : R2 := fun x y H Q => ∃ a dx fs t, x = .ref a ∧ H a = some (.ins C dx fs) ∧ Kd H y t ∧ PySem.W.notFirst K C t = true ∧ sp [x, y] H (fun v H' => ∃ c : Bool, v = .bl c ∧ Q (.bl (c != neg)) H') E
theorem op_eqI (hs : PySem.W.findIn X.K (.ref C) "__eq__" = some (some (.ref f))) (hf : PySem.W.isFn X.K (.ref f) = true) (F : FnR X.prog X.w X.K X.mg X.base CX n f sp)
    (hr : Room n X.A) (hx : Passes CX X E) : OpR X (compareOp .Eq) (rOwnI X.K C sp E false) := by
  intro pins s σ H x y v u Q I rx ry h
  obtain ⟨a, dx, fs, t, rfl, ha, k, hn, q⟩ := h
  cases (show v = Value.ref a from rx)
  obtain ⟨mA, J, _⟩ := ins_get I.hok ha
  obtain ⟨od, J, _⟩ := J.look
  obtain ⟨m, hF⟩ := I.fr
  show wpAny _ _ (richCompare .Eq _ _) _ _ s
  refine PySem.W.cmp_K (op := .Eq) (tb := t) hr.units0 hF I.ok.mod.kin J (looks_kd I ry k) hn hs hf ?_
  refine wpAny_mono (wpAny_call (run_fnR (us := [.ref a, u]) (vs := [.ref a, y]) F hr hx I (.cons rfl (.cons ry .nil)) q)) (fun w s' z => ?_) fun _ _ x => x
  obtain ⟨z', H', I', rz, c, rfl, qz⟩ := z
  refine SlX.cmpback rz ⟨.bl c, H', I', rz, ?_⟩
  cases c <;> exact qz
theorem ne_K {prog : Program} {w : World} {A : Around} {E : Value → Shared → Prop} {s : Shared} {K : PySem.W.Frag} {x C L : Addr} {h₀ : Heap} {m : Str → Option Value} {ox : Obj} {od : Option Obj} {tb b : Value} {Q : Value → Shared → Prop} (hu : A.units + 1 < cLine)
    (F : Fr h₀ L s.heap m) (X₀ : K.In h₀) (I : PySem.W.InstAt s.heap x ox C od) (hb : PySem.W.Looks (model prog w) s.heap (typeOf b) tb) (hn : PySem.W.notFirst K C tb = true)
    (hs : PySem.W.findIn K (.ref C) "__eq__" = some (some (.ref f))) (hf : PySem.W.isFn K (.ref f) = true) (hne : PySem.W.findIn K (.ref C) "__ne__" = some (some (.builtin "object.__ne__"))) (hob : PySem.W.mroIn K C (.type "object") = some true)
    (h : wpAny (model prog w) A.in1 (call (.ref f) [.ref x, b]) (fun v s' => ∃ c : Bool, v = .bool c ∧ Q (.bool (!c)) s') E s) : wpAny (model prog w) A (richCompare .NotEq (.ref x) b) Q E s := by
  have X := X₀.keeps F.keep
  have S := (PySem.F.cmp_object).ne
  have bi : wpAny (model prog w) A (call (.builtin "object.__ne__") [.ref x, b]) (fun v s' => ∃ c : Bool, v = .bool (!c) ∧ Q (.bool (!c)) s') E s := by
    refine wpAny_call (codeAny_call_builtin S.plain PySem.F.cmpEntry_ne (PySem.W.check_slot PySem.F.cmpKind_ne PySem.F.cmpSplit_ne ?_ (PySem.F.cmpArgs_ne _ _) ?_))
    · exact fun A E Q s' k q => by
        unfold isInstance
        exact wpAny_bind ((I.type.keeps k).here ((PySem.W.looks_mroIn (X.keeps k) hob).here q))
    unfold Builtin.«object.__ne__»
    have fin2 : wpAny (model prog w) A.in1 (callSpecialIfBound? (.ref x) "__eq__" [b]) (fun r s' => ∃ c : Bool, r = some (.bool c) ∧ Q (.bool (!c)) s') E s :=
      PySem.W.ifBound_K X I hs hf (wpAny_mono h (fun v s' ⟨c, e, q⟩ => ⟨c, by rw [e], q⟩) fun _ _ e => e)
    repeat (first
      | with_reducible refine wpAny_cRoomFor (Nat.lt_of_le_of_lt (Nat.le_refl _) hu) ?_
      | (refine wpAny_bind (m := callSpecialIfBound? (.ref x) (Str.ofString "__eq__") [b]) (wpAny_mono fin2 (fun r s' hr => by
          obtain ⟨c, rfl, hq⟩ := hr
          repeat (first | exact ⟨c, rfl, hq⟩ | exact wpAny_pure ⟨c, rfl, hq⟩ | (refine wpAny_bind (m := truthy (.bool _)) (wpAny_truthy_bool ?_)) | wp_step)) fun _ _ e => e))
      | wp_step)
  have one : wpAny (model prog w) A (tryCompare (.ref x) "__ne__" b) (fun r s' => ∃ v, r = some v ∧ Q v s') E s := by
    unfold tryCompare
    refine wpAny_bind ?_
    simp only [callSpecialIfBound?, bindSpecialIfBound?]
    refine wpAny_holding (wpAny_bind (wpAny_bind (wpAny_bind (I.type.here ((PySem.W.looks_findIn X hne).here ?_)))))
    refine wpAny_bind (wpAny_askSetting (wpAny_ite ?_))
    simp only [S.bind]
    have fin : wpAny (model prog w) A (call (.builtin "object.__ne__") ([.ref x] ++ [b]) >>= fun v => pure (some v)) (fun r s' => wpAny (model prog w) A (match r with | some .notImplemented | none => pure none | some v => pure (some v)) (fun r s' => ∃ v, r = some v ∧ Q v s') E s') E s := by
      refine wpAny_bind (wpAny_mono bi (fun v s' hv => ?_) fun _ _ e => e)
      obtain ⟨c, rfl, hq⟩ := hv
      exact wpAny_pure (wpAny_pure ⟨_, rfl, hq⟩)
    split
    · exact wpAny_bind (wpAny_pure (wpAny_pure fin))
    · exact wpAny_tryCatch (wpAny_bind (wpAny_pure (wpAny_pure fin)))
  unfold richCompare
  simp only [oneThing_ref]
  refine wpAny_holding (wpAny_bind (wpAny_cRoomFor (Nat.lt_of_succ_lt hu) ?_))
  refine wpAny_bind (I.type.here (wpAny_bind (hb.here ?_)))
  split
  · rename_i q
    have e : PySem.W.subIn K tb (.ref C) = some false := by
      rcases Bool.or_eq_true_iff.mp hn with e | e
      · rw [beq_iff_eq.mp e] at q; simp at q
      · exact beq_iff_eq.mp e
    refine wpAny_bind ((PySem.W.looks_subIn X e).here ?_)
    simp only [Bool.false_eq_true, if_false]
    refine wpAny_bind (wpAny_mono one (fun r s' z => ?_) fun _ _ e => e)
    obtain ⟨v, rfl, hq⟩ := z
    exact wpAny_pure hq
  · refine wpAny_bind (wpAny_pure ?_)
    simp only [Bool.false_eq_true, if_false]
    refine wpAny_bind (wpAny_mono one (fun r s' z => ?_) fun _ _ e => e)
    obtain ⟨v, rfl, hq⟩ := z
    exact wpAny_pure hq
theorem op_neI (hs : PySem.W.findIn X.K (.ref C) "__eq__" = some (some (.ref f))) (hf : PySem.W.isFn X.K (.ref f) = true) (hne : PySem.W.findIn X.K (.ref C) "__ne__" = some (some (.builtin "object.__ne__"))) (hob : PySem.W.mroIn X.K C (.type "object") = some true)
    (F : FnR X.prog X.w X.K X.mg X.base CX n f sp) (hr : Room (n + 1) X.A) (hx : Passes CX X E) : OpR X (compareOp .NotEq) (rOwnI X.K C sp E true) := by
  intro pins s σ H x y v u Q I rx ry h
  obtain ⟨a, dx, fs, t, rfl, ha, k, hn, q⟩ := h
  cases (show v = Value.ref a from rx)
  obtain ⟨mA, J, _⟩ := ins_get I.hok ha
  obtain ⟨od, J, _⟩ := J.look
  obtain ⟨m, hF⟩ := I.fr
  show wpAny _ _ (richCompare .NotEq _ _) _ _ s
  refine ne_K (by have := hr.un; omega) hF I.ok.mod.kin J (looks_kd I ry k) hn hs hf hne hob ?_
  refine wpAny_mono (wpAny_call (SlX.run_at (us := [.ref a, u]) (ws := [.ref a, y]) F hr.in1 I.env0.in1 hx I (.cons rfl (.cons ry .nil)) q)) (fun w s' z => ?_) fun _ _ x => x
  obtain ⟨z', H', I', rz, c, rfl, qz⟩ := z
  cases (show w = Value.bool c from rz)
  refine ⟨c, rfl, .bl (!c), H', I', rfl, ?_⟩
  cases c <;> exact qz
end
end FW
namespace FW
open PySem PySem.Spec PyProof.Rows L2
section
variable {X : Cx} {CX : CXT} {k : Nat} {f C : Addr} {fd : FuncData} {ps ks : List Str} {sp : Sp} {E : XK} {x m : Str} {p1 pos apos : Pos} {kws : List Keyword} {tk : TA} {g : List Value → List Value → List Value} {gV : List V → List V → List V}
/-- C.m(k=e, ..), m a static method -/
theorem pe_staticK0 {pl : Sem Bool} (hg : Gl X x) (hm : X.mg x = some (.ref C)) (S : Sta X.K C m f) (F : FnOk X.prog X.w X.K X.mg X.base CX k f fd ps sp) (hr : Room k X.A) (hb : KBinds X.K fd ps ks g gV) (hx : Passes CX X E) (hkw : PK X kws tk)
    (hall : (backToKw pos (keywordEach kws X.env)).all (·.1.isSome) = true := by rfl) (hks : (backToKw pos (keywordEach kws X.env)).filterMap (·.1) = ks := by rfl)
    (hdb : (x == ("__debug__" : Str)) = false := by decide)
    (hc : eval (.Call (.Attribute (.Name x p1) m apos) [] kws pos) X.env = (do
      let oc ← eval (.Name x p1) X.env
      standAt apos.atName
      let (fc, fst) ← holding [oc] (getMethod oc m pl)
      callWith pos fc fst (backTo pos (starEach [] X.env)) (backToKw pos (keywordEach kws X.env))) := by rfl)
    (hpl : ((backTo pos (starEach [] X.env)).any (·.1) || (backToKw pos (keywordEach kws X.env)).any (·.1.isNone)) = false := by rfl) :
    PE X (.Call (.Attribute (.Name x p1) m apos) [] kws pos) (tCallK sp gV E tNil tk) := by
  refine ⟨fun pins s σ H Q I h => PySem.W.methodCall_KW (pl := pl) (ld_glob I hg hm ?_ hdb) hc⟩
  refine static_get I.kIn S fun u => ?_
  have I1 : Inv X pins σ H { s with toks := u } := I.tok _
  refine PySem.W.callWith_KW0 (h₀ := X.base) I.ok.mod.kin S.kp hall (thn (hkw.run pos pins _ σ H _ I1 h) fun ws s2 ⟨zs, H2, I2, rz, q2⟩ => ⟨I2.kIn, ?_⟩) hpl
  rw [hks]
  exact run_fnk F hr hb hx I2 .nil rz q2
end
end FW
namespace FW
open PySem PySem.Spec PyProof.Rows L2
/-! ### data that may be compared -/
/-- data that nest at most so deep, all of whose texts may be laid -/
inductive Lay : Nat → PyData → Prop
  | non {n : Nat} : Lay n .none
  | bl {n : Nat} (b : Bool) : Lay n (.bool b)
  | int {n : Nat} (i : Int) : Lay n (.int i)
  | str {n : Nat} {x : Str} (h : PyData.strOk x = true) : Lay n (.str x)
  | lst {n : Nat} {ds : List PyData} (h : ∀ d ∈ ds, Lay n d) : Lay (n + 1) (.list ds)
  | tup {n : Nat} {ds : List PyData} (h : ∀ d ∈ ds, Lay n d) : Lay (n + 1) (.tuple ds)
theorem lay_all {n : Nat} : ∀ {ds : List PyData}, (∀ d ∈ ds, d.canLay0 = true ∧ d.depth ≤ n) → PyData.canLayAll0 ds = true ∧ PyData.depthAll ds ≤ n
  | [], _ => ⟨rfl, Nat.zero_le _⟩
  | d :: ds, h => by
    have h1 := h d List.mem_cons_self
    have h2 := lay_all (ds := ds) fun x hx => h x (List.mem_cons_of_mem _ hx)
    refine ⟨?_, ?_⟩
    · show (d.canLay0 && PyData.canLayAll0 ds) = true
      rw [h1.1, h2.1]
      rfl
    · show max d.depth (PyData.depthAll ds) ≤ n
      exact Nat.max_le.mpr ⟨h1.2, h2.2⟩
theorem Lay.ok {n : Nat} {d : PyData} (h : Lay n d) : d.canLay0 = true ∧ d.depth ≤ n := by
  induction h with
  | non => exact ⟨rfl, Nat.zero_le _⟩
  | bl b => exact ⟨rfl, Nat.zero_le _⟩
  | int i => exact ⟨rfl, Nat.zero_le _⟩
  | str h => exact ⟨h, Nat.zero_le _⟩
  | lst h ih => exact ⟨(lay_all ih).1, Nat.succ_le_succ (lay_all ih).2⟩
  | tup h ih => exact ⟨(lay_all ih).1, Nat.succ_le_succ (lay_all ih).2⟩
theorem Lay.shaped {n : Nat} {d : PyData} (h : Lay n d) (hn : n ≤ 64) : SeqAt.shaped d = true := by
  unfold SeqAt.shaped
  rw [h.ok.1, decide_eq_true (Nat.le_trans h.ok.2 hn)]
  rfl
theorem eqvAll_map {α : Type} [DecidableEq α] {f : α → PyData} (h : ∀ x y, PyData.eqv (f x) (f y) = decide (x = y)) : ∀ xs ys : List α, PyData.eqvAll (xs.map f) (ys.map f) = decide (xs = ys)
  | [], [] => by
    rw [decide_eq_true rfl]
    rfl
  | [], y :: ys => by
    rw [decide_eq_false (by simp)]
    rfl
  | x :: xs, [] => by
    rw [decide_eq_false (by simp)]
    rfl
  | x :: xs, y :: ys => by
    show (PyData.eqv (f x) (f y) && PyData.eqvAll (xs.map f) (ys.map f)) = _
    rw [h, eqvAll_map h xs ys, ← Bool.decide_and]
    exact decide_eq_decide.mpr (by simp)
theorem eqv_S (a b : List Nat) : PyData.eqv (.str (S a)) (.str (S b)) = decide (a = b) := by
  show (S a == S b) = _
  by_cases h : a = b
  · subst h
    rw [decide_eq_true rfl]
    exact beq_self_eq_true _
  · rw [decide_eq_false h]
    refine beq_eq_false_iff_ne.mpr fun e => h ?_
    have := congrArg (fun z : Str => z.cps.toList) e
    exact this
theorem eqv_tupS (a b : List (List Nat)) : PyData.eqv (.tuple (a.map fun p => .str (S p))) (.tuple (b.map fun p => .str (S p))) = decide (a = b) := by
  show PyData.eqvAll _ _ = _
  exact eqvAll_map eqv_S a b
end FW
namespace FW
open PySem PySem.Spec PyProof.Rows L2
def topS (i : Nat) : Stmt := PySem.Challenge.pw_fourwalls_k05_books_refused.main.body.getD i (.Pass ⟨0, 0, 0, 0⟩)
section
variable {P : Program} {w : World} {K : PySem.W.Frag} {mg : Str → Option Value} {base : Heap}
abbrev s__law_open : Stmt := topS 33
theorem sc__law_open : FnScope ["_law_script", "_law_mixed", "_law_cell"] ["_law_script"] (defScope s__law_open) := ⟨rfl, rfl, rfl, by decide +kernel, rfl, by decide +kernel, by decide +kernel⟩
theorem ok__law_open {f : Addr} {fd : FuncData} (F : Fun K "_law_open" "_law_open" s__law_open f fd) (T : Z mg) : FnOk P w K mg base CX0 1 f fd ["_law_script"] (sp__law_open K) := by
  refine F.ok sc__law_open (fun vs H Q E h => ?_) (fun cdv A outer s H vs Q E hr h => ?_)
  · obtain ⟨a, ns, rfl, _⟩ := h
    rfl
  · obtain ⟨a, ns, rfl, hS, hlen, q⟩ := h
    refine ⟨_, (pss_cons (ps_set (i := 1) sc__law_open.nd rfl (.inl rfl) pe_int)
      (pss_cons (ps_for PassesOwn.never rfl (pi_list (pe_slice sl_list (pv 0) po_none (po_some pe_int))) (pg_name (i := 2) sc__law_open.nd rfl (.inl rfl))
        (pss_one (ps_set (i := 1) sc__law_open.nd rfl (.inl rfl) (pe_op op_mod (pe_callTy call_int1 (by rfl) T.z_int (by decide +kernel) (pa_cons (pe_op op_add (pe_op op_add (pe_op op_mul (pv 1) pe_int) (pe_op op_mul (pe_op op_mod (pe_callTy call_int1 (by rfl) T.z_int (by decide +kernel) (pa_cons (pv 2) pa_nil)) pe_int) pe_int)) pe_int) pa_nil)) pe_int))))
      (pss_one (ps_ret (pe_lst (pa_cons (pe_callTy call_list_of (by rfl) T.z_list (by decide +kernel) (pa_cons (pe_slice sl_list (pv 0) po_none (po_some pe_int)) pa_nil)) (pa_cons pe_int (pa_cons pe_int (pa_cons (pv 1) (pa_cons pe_int pa_nil)))))))))), ?_⟩
    have ecut : cutV (ns.map V.int) none (some 63) = ns.map V.int := by
      rw [show (63 : Int) = ((63 : Nat) : Int) from rfl, cutV_to]
      exact List.take_of_length_le (by rw [List.length_map]; exact hlen)
    refine ⟨_, rfl, 63, rfl, a, _, rfl, hS, fun p np => ?_⟩
    rw [ecut]
    have s1 : Same H (upd H p (.lst (ns.map V.int))) := same_upd np
    refine ⟨p, rfl, ⟨_, SqL.of upd_same⟩, for_it (walk_list (xs := ns.map V.int)) (fun i σ H' => ∃ m y, σ = [some (.ref a), some (.int m), y] ∧ 0 ≤ m ∧ m < 2147483648 ∧ H' = upd H p (.lst (ns.map V.int)))
      ⟨10042, none, rfl, by decide, by decide, rfl⟩ (fun i σ H' _ ⟨_, _, _, _, _, e⟩ => by rw [e]; exact SqL.of upd_same) ?_ ?_⟩
    · rintro i x σ _ _ hi ⟨m, y, rfl, h0, h1, rfl⟩ ⟨rfl, hx⟩
      obtain ⟨z, rfl⟩ : ∃ z, x = V.int z := by
        rw [List.getElem?_map] at hx
        cases e : ns[i]? with
        | none => rw [e] at hx; cases hx
        | some u => rw [e] at hx; exact ⟨u, (Option.some.inj hx).symm⟩
      refine ⟨_, rfl, _, _, rfl, rfl, .inr ⟨by decide, by decide⟩, _, rfl, .inl ⟨_, rfl, _, _, rfl, rfl, (show (0 : Int) < 1000033 by decide), _, _, rfl, rfl, .inr ⟨by decide, by decide⟩, _, _, rfl, rfl, _, _, rfl, rfl, .inl ⟨_, rfl, _, _, rfl, rfl, (show (0 : Int) < 2147483549 by decide), ?_⟩⟩⟩
      refine ⟨_, _, rfl, Int.emod_nonneg _ (by decide), ?_, rfl⟩
      exact Int.lt_trans (Int.emod_lt_of_pos _ (by decide)) (by decide)
    · rintro σ _ ⟨m, y, rfl, h0, h1, rfl⟩
      refine ⟨_, rfl, 63, rfl, a, _, rfl, s1.seq hS, fun p2 np2 => ?_⟩
      rw [ecut]
      have s2 := same_upd (o := HO.lst (ns.map V.int)) np2
      refine ⟨p2, _, rfl, .inl (SqL.of upd_same), fun l nl => ?_⟩
      have s3 := same_upd (o := HO.lst (ns.map V.int)) nl
      refine ⟨_, rfl, (show 5 ≤ sizeLine by decide), fun b nb => ?_⟩
      have s4 := same_upd (o := HO.lst [V.ref l, V.int 0, V.int 0, V.int m, V.int 0]) nb
      have s5 := (s1.trans s2).trans s3
      refine q _ b l (s5.free nb) ((s1.trans s2).free nl) (s5.trans s4) ⟨ns, 0, 0, m, 0, upd_same, s4 _ _ upd_same, by omega, by decide, h0, h1⟩
abbrev s__law_draw : Stmt := topS 34
theorem sc__law_draw : FnScope ["_law_bag", "_law_many", "_law_cell", "_law_digit", "_law_twice"] ["_law_bag", "_law_many"] (defScope s__law_draw) := ⟨rfl, rfl, rfl, by decide +kernel, rfl, by decide +kernel, by decide +kernel⟩
theorem ok__law_draw {f : Addr} {fd : FuncData} (F : Fun K "_law_draw" "_law_draw" s__law_draw f fd) (T : Z mg) : FnOk P w K mg base CX0 1 f fd ["_law_bag", "_law_many"] (sp__law_draw K) := by
  refine F.ok sc__law_draw (fun vs H Q E h => ?_) (fun cdv A outer s H vs Q E hr h => ?_)
  · obtain ⟨b, l, k, rfl, _⟩ := h
    rfl
  · obtain ⟨b, l, k, rfl, ⟨ns, i, r, m, c, hb, hL, hlen, hi, hm0, hm1⟩, hk, hk2, q⟩ := h
    have nlb : l ≠ b := ne_of hL hb bag_ne
    refine ⟨_, (pss_cons (ps_asg (pe_op op_add (pe_ix ix_list (pv 0) pe_int (fun _ _ => rfl)) pe_int) (pg_sub (pv 0) pe_int set_list))
      (C8.pss_cut (ps_if (PW.pt (pw_and (pt_cmpR op_eq (pe_ix ix_list (pv 0) pe_int (fun _ _ => rfl)) pe_int (nomark _)) (pw_and1 (pt_cmpR op_lt (pe_ix ix_list (pv 0) pe_int (fun _ _ => rfl)) (pe_callB call_len (by rfl) T.z_len (by decide +kernel) (pa_cons (pe_ix ix_list (pv 0) pe_int (fun _ _ => rfl)) pa_nil)) (nomark _))))) (pss_cons (ps_set (i := 2) sc__law_draw.nd rfl (.inl rfl) (pe_ix ix_list (pe_ix ix_list (pv 0) pe_int (fun _ _ => rfl)) (pe_ix ix_list (pv 0) pe_int (fun _ _ => rfl)) (fun _ _ => rfl)))
      (pss_cons (ps_asg (pe_op op_add (pe_ix ix_list (pv 0) pe_int (fun _ _ => rfl)) pe_int) (pg_sub (pv 0) pe_int set_list))
      (pss_one (ps_if (pt_cmpR op_ge (pe_callB call_abs (by rfl) T.z_abs (by decide +kernel) (pa_cons (pv 2) pa_nil)) (pe_op op_pow pe_int pe_int) (nomark _)) (pss_one (ps_asg (pe_callB call_abs (by rfl) T.z_abs (by decide +kernel) (pa_cons (pv 2) pa_nil)) (pg_sub (pv 0) pe_int set_list))) (pss_one (ps_asg (pe_op op_mod (pe_callTy call_int1 (by rfl) T.z_int (by decide +kernel) (pa_cons (pe_op op_add (pe_op op_add (pe_op op_mul (pe_ix ix_list (pv 0) pe_int (fun _ _ => rfl)) pe_int) (pe_op op_mul (pe_op op_mod (pe_callTy call_int1 (by rfl) T.z_int (by decide +kernel) (pa_cons (pv 2) pa_nil)) pe_int) pe_int)) pe_int) pa_nil)) pe_int) (pg_sub (pv 0) pe_int set_list))))))) pss_nil)
      (pss_cons (ps_if (pt_cmpR op_gt (pe_ix ix_list (pv 0) pe_int (fun _ _ => rfl)) pe_int (nomark _)) (pss_cons (ps_set (i := 3) sc__law_draw.nd rfl (.inl rfl) (pe_op op_mod (pe_callTy call_int1 (by rfl) T.z_int (by decide +kernel) (pa_cons (pe_ix ix_list (pv 0) pe_int (fun _ _ => rfl)) pa_nil)) (pv 1)))
      (pss_cons (ps_asg (pe_op op_fdivN (pe_ix ix_list (pv 0) pe_int (fun _ _ => rfl)) (pv 1)) (pg_sub (pv 0) pe_int set_list))
      (pss_one (ps_ret (pv 3))))) pss_nil)
      (pss_cons (ps_set (i := 4) sc__law_draw.nd rfl (.inl rfl) (pe_op op_mod (pe_callTy call_int1 (by rfl) T.z_int (by decide +kernel) (pa_cons (pe_op op_add (pe_op op_mul (pe_ix ix_list (pv 0) pe_int (fun _ _ => rfl)) (pe_ix ix_list (pv 0) pe_int (fun _ _ => rfl))) (pe_op op_mul (pe_ix ix_list (pv 0) pe_int (fun _ _ => rfl)) pe_int)) pa_nil)) pe_int))
      (pss_cons (ps_asg (pe_op op_mod (pe_callTy call_int1 (by rfl) T.z_int (by decide +kernel) (pa_cons (pe_op op_add (pe_op op_add (pe_op op_mul (pv 4) pe_int) (pe_op op_mul (pe_ix ix_list (pv 0) pe_int (fun _ _ => rfl)) pe_int)) pe_int) pa_nil)) pe_int) (pg_sub (pv 0) pe_int set_list))
      (pss_one (ps_ret (pe_op op_mod (pe_callTy call_int1 (by rfl) T.z_int (by decide +kernel) (pa_cons (pe_op op_fdivN (pe_ix ix_list (pv 0) pe_int (fun _ _ => rfl)) pe_int) pa_nil)) (pv 1))))))))), ?_⟩
    -- bag[4] += 1
    refine ⟨_, rfl, b, _, 4, _, rfl, rfl, SqL.of hb, rfl, _, _, rfl, rfl, _, rfl, b, _, 4, 4, rfl, rfl, hb, rfl, ?_⟩
    have B1 : BagAt H (upd H b (.lst [.ref l, .int i, .int r, .int m, .int (c + 1)])) b l ns := ⟨(But.refl b H).upd, by rw [upd_ne nlb]; exact hL, i, r, m, c + 1, upd_same, hi, hm0, hm1⟩
    refine ⟨fun σ' H1 => ∃ x2 x3 x4, σ' = [some (.ref b), some (.int k), x2, x3, x4] ∧ BagAt H H1 b l ns, ?_, ?_⟩
    · have hL1 : (upd H b (.lst [.ref l, .int i, .int r, .int m, .int (c + 1)])) l = some (.lst (ns.map V.int)) := by rw [upd_ne nlb]; exact hL
      refine ⟨_, rfl, b, _, 2, _, rfl, rfl, SqL.of upd_same, rfl, rfl, _, rfl, ite2 (fun _ => ?_) (fun _ => ?_)⟩
      · refine ⟨_, rfl, b, _, 1, _, rfl, rfl, SqL.of upd_same, rfl, _, rfl, b, _, 0, _, rfl, rfl, SqL.of upd_same, rfl, _, _, rfl, .inl ⟨_, SqL.of hL1, rfl⟩, _, _, rfl, rfl, _, rfl, ite2 (fun hlt => ?_) (fun _ => ?_)⟩
        · have hlt : i < ((ns.map V.int).length : Int) := of_decide_eq_true hlt
          rw [List.length_map] at hlt
          have hin : i.toNat < ns.length := by omega
          have hat : atI (ns.map V.int) i = some (.int ns[i.toNat]) := by
            have e : i = ((i.toNat : Nat) : Int) := by omega
            refine at_of e ?_
            rw [List.getElem?_map, List.getElem?_eq_getElem hin]
            rfl
          refine ⟨_, rfl, b, _, 0, _, rfl, rfl, SqL.of upd_same, rfl, _, rfl, b, _, 1, _, rfl, rfl, SqL.of upd_same, rfl, l, _, i, _, rfl, rfl, SqL.of hL1, hat, ?_⟩
          refine ⟨_, rfl, b, _, 1, _, rfl, rfl, SqL.of upd_same, rfl, _, _, rfl, rfl, _, rfl, b, _, 1, 1, rfl, rfl, upd_same, rfl, ?_⟩
          refine ⟨_, rfl, _, rfl, _, _, rfl, rfl, ⟨by decide, by decide, by decide⟩, _, _, rfl, rfl, _, rfl, ite2 (fun _ => ?_) (fun _ => ?_)⟩
          · refine ⟨_, rfl, _, rfl, _, rfl, b, _, 2, 2, rfl, rfl, upd_same, rfl, _, _, _, rfl, (((But.refl b H).upd).upd).upd, ?_, _, _, _, _, upd_same, ?_, hm0, hm1⟩
            · rw [upd_ne nlb, upd_ne nlb]
              exact hL1
            · omega
          · refine ⟨_, rfl, b, _, 3, _, rfl, rfl, SqL.of upd_same, rfl, _, _, rfl, rfl, .inr ⟨by decide, by decide⟩, _, rfl, .inl ⟨_, rfl, _, _, rfl, rfl, (show (0 : Int) < 1000033 by decide), _, _, rfl, rfl, .inr ⟨by decide, by decide⟩, _, _, rfl, rfl, _, _, rfl, rfl, .inl ⟨_, rfl, _, _, rfl, rfl, (show (0 : Int) < 2147483587 by decide), ?_⟩⟩⟩
            refine ⟨_, rfl, b, _, 3, 3, rfl, rfl, upd_same, rfl, _, _, _, rfl, (((But.refl b H).upd).upd).upd, ?_, _, _, _, _, upd_same, ?_, Int.emod_nonneg _ (by decide), Int.lt_trans (Int.emod_lt_of_pos _ (by decide)) (by decide)⟩
            · rw [upd_ne nlb, upd_ne nlb]
              exact hL1
            · omega
        · exact ⟨_, _, _, rfl, B1⟩
      · exact ⟨_, _, _, rfl, B1⟩
    · rintro σ' H1 ⟨x2, x3, x4, rfl, hbut, hL1, i1, r1, m1, c1, hb1, hi1, hm01, hm11⟩
      have fin : ∀ H2, But b H H2 → H2 l = some (.lst (ns.map V.int)) → ∀ i2 r2 m2 c2 : Int, H2 b = some (.lst [.ref l, .int i2, .int r2, .int m2, .int c2]) → 0 ≤ i2 → 0 ≤ m2 → m2 < 2147483648 → Bag H2 b l := fun H2 _ h2 i2 r2 m2 c2 h3 h4 h5 h6 => ⟨ns, i2, r2, m2, c2, h3, h2, hlen, h4, h5, h6⟩
      refine ⟨_, rfl, b, _, 2, _, rfl, rfl, SqL.of hb1, rfl, _, _, rfl, rfl, _, rfl, ite2 (fun _ => ?_) (fun _ => ?_)⟩
      · refine ⟨_, rfl, b, _, 2, _, rfl, rfl, SqL.of hb1, rfl, .inl ⟨_, rfl, _, rfl, _, _, rfl, rfl, hk, ?_⟩⟩
        refine ⟨_, rfl, b, _, 2, _, rfl, rfl, SqL.of hb1, rfl, _, rfl, _, _, rfl, rfl, ⟨by omega, by omega⟩, _, rfl, b, _, 2, 2, rfl, rfl, hb1, rfl, _, rfl, ?_⟩
        refine q _ _ (Int.emod_nonneg _ (by omega)) (Int.emod_lt_of_pos _ hk) hbut.upd (fin _ hbut.upd (by rw [upd_ne nlb]; exact hL1) _ _ _ _ upd_same hi1 hm01 hm11)
      · refine ⟨_, rfl, b, _, 3, _, rfl, rfl, SqL.of hb1, rfl, _, rfl, b, _, 3, _, rfl, rfl, SqL.of hb1, rfl, _, _, rfl, rfl, .inl ⟨by omega, by omega⟩, _, rfl, b, _, 4, _, rfl, rfl, SqL.of hb1, rfl, _, _, rfl, rfl, .inr ⟨by decide, by decide⟩, _, _, rfl, rfl, .inl ⟨_, rfl, _, _, rfl, rfl, (show (0 : Int) < 2147483629 by decide), ?_⟩⟩
        refine ⟨_, rfl, _, _, rfl, rfl, .inr ⟨by decide, by decide⟩, _, rfl, b, _, 3, _, rfl, rfl, SqL.of hb1, rfl, _, _, rfl, rfl, .inr ⟨by decide, by decide⟩, _, _, rfl, rfl, _, _, rfl, rfl, .inl ⟨_, rfl, _, _, rfl, rfl, (show (0 : Int) < 2147483587 by decide), ?_⟩⟩
        refine ⟨_, rfl, b, _, 3, 3, rfl, rfl, hb1, rfl, ?_⟩
        refine ⟨_, rfl, b, _, 3, _, rfl, rfl, SqL.of upd_same, rfl, _, _, rfl, rfl, ⟨by decide, by decide⟩, .inl ⟨_, rfl, _, rfl, _, _, rfl, rfl, hk, ?_⟩⟩
        refine q _ _ (Int.emod_nonneg _ (by omega)) (Int.emod_lt_of_pos _ hk) hbut.upd (fin _ hbut.upd (by rw [upd_ne nlb]; exact hL1) _ _ _ _ upd_same hi1 (Int.emod_nonneg _ (by decide)) (Int.lt_trans (Int.emod_lt_of_pos _ (by decide)) (by decide)))
abbrev s__law_of : Stmt := topS 35
theorem sc__law_of : FnScope ["_law_bag", "_law_things"] ["_law_bag", "_law_things"] (defScope s__law_of) := ⟨rfl, rfl, rfl, by decide +kernel, rfl, by decide +kernel, by decide +kernel⟩
theorem ok__law_of {f : Addr} {fd : FuncData} (F : Fun K "_law_of" "_law_of" s__law_of f fd) (T : Z mg) (c__law_draw : Cal P w K mg base CX0 1 "_law_draw" s__law_draw ["_law_bag", "_law_many"] (sp__law_draw K)) : FnOk P w K mg base CX0 2 f fd ["_law_bag", "_law_things"] (sp__law_of K) := by
  refine F.ok sc__law_of (fun vs H Q E h => ?_) (fun cdv A outer s H vs Q E hr h => ?_)
  · obtain ⟨b, lb, x, xs, rfl, _⟩ := h
    rfl
  · obtain ⟨b, lb, x, xs, rfl, B, hI, h0, h1, q⟩ := h
    refine ⟨_, (pss_one (ps_ret (pe_ix ix_seq (pv 1) (pe_c c__law_draw hr (by decide) (by rfl) (pa_cons (pv 0) (pa_cons (pe_callB call_len (by rfl) T.z_len (by decide +kernel) (pa_cons (pv 1) pa_nil)) pa_nil))) (fun _ _ => rfl)))), ?_⟩
    have pick : ∀ z : Int, 0 ≤ z → z < (xs.length : Int) → ∃ v, atI xs z = some v ∧ v ∈ xs := fun z z0 z1 => by
      have hin : z.toNat < xs.length := by omega
      exact ⟨xs[z.toNat], at_of (show z = ((z.toNat : Nat) : Int) by omega) (List.getElem?_eq_getElem hin), List.getElem_mem hin⟩
    refine ⟨_, rfl, _, rfl, _, rfl, x, xs.length, rfl, ?_, ?_⟩
    · rcases hI with ⟨a, _, rfl, hS⟩ | ⟨a, _, rfl, hS⟩ | ⟨l, rfl, rfl⟩
      · exact .inl ⟨_, hS, rfl⟩
      · exact .inr ⟨_, hS, rfl⟩
      · rw [List.length_map] at h1 ⊢
        exact ⟨by rw [S_len]; exact sz h1, (S_len l).symm⟩
    · refine ⟨b, lb, xs.length, rfl, B, by omega, by omega, fun H' z z0 z1 hb B' => ?_⟩
      obtain ⟨v, ha, hm⟩ := pick z z0 z1
      rcases hI with ⟨a, na, rfl, hS⟩ | ⟨a, na, rfl, hS⟩ | ⟨l, rfl, rfl⟩
      · exact .inl ⟨a, xs, z, v, rfl, rfl, hb.seq na hS, ha, q _ _ hm hb B'⟩
      · exact .inr (.inl ⟨a, xs, z, v, rfl, rfl, hb.tup na hS, ha, q _ _ hm hb B'⟩)
      · refine .inr (.inr ?_)
        obtain ⟨c, hc⟩ : ∃ c, atI l z = some c := by
          have hin : z.toNat < l.length := by
            rw [List.length_map] at z1
            omega
          exact ⟨l[z.toNat], atI_of (show z = ((z.toNat : Nat) : Int) by omega) (List.getElem?_eq_getElem hin)⟩
        have ev : v = sgn c := by
          have z2 : z < (l.length : Int) := by
            rw [List.length_map] at z1
            exact z1
          have e1 : ixN l.length z = some z.toNat := by
            unfold ixN
            rw [if_pos z0, if_pos z2]
          unfold atI at ha hc
          rw [List.length_map, e1] at ha
          rw [e1] at hc
          have hc' : l[z.toNat]? = some c := hc
          have ha' : (l.map sgn)[z.toNat]? = some v := ha
          rw [List.getElem?_map, hc'] at ha'
          exact (Option.some.inj ha').symm
        rw [List.length_map] at h1
        exact ⟨S l, z, c, rfl, rfl, by rw [S_len]; exact sz h1, hc, by rw [ev] at hm; exact q _ _ hm hb B'⟩
abbrev s__law_same : Stmt := topS 36
theorem sc__law_same : FnScope ["_law_found", "_law_due", "_law_a", "_law_b"] ["_law_found", "_law_due"] (defScope s__law_same) := ⟨rfl, rfl, rfl, by decide +kernel, rfl, by decide +kernel, by decide +kernel⟩
theorem ok__law_same_step {f : Addr} {fd : FuncData} {n : Nat} {sp : Sp} (F : Fun K "_law_same" "_law_same" s__law_same f fd) (T : Z mg)
    (c__law_same : Cal P w K mg base CX0 (n + 1) "_law_same" s__law_same ["_law_found", "_law_due"] sp) (hsp : ∀ m vs H Q E, n = m + 1 → sp__law_same K m vs H Q E → sp vs H Q E) : FnOk P w K mg base CX0 (n + 2) f fd ["_law_found", "_law_due"] (sp__law_same K n) := by
  refine F.ok sc__law_same (fun vs H Q E h => ?_) (fun cdv A outer s H vs Q E hr h => ?_)
  · obtain ⟨x, y, d, rfl, _⟩ := h
    rfl
  · obtain ⟨x, y, d, rfl, hx, hy, hd, q⟩ := h
    refine ⟨_, (pss_cons (ps_if (PW.pt (pw_or (pt_cmpR op_isN (pv 1) pe_non (nomark _)) (pw_or1 (pt_cmpR op_isN (pv 0) pe_non (nomark _))))) (pss_one (ps_ret (pe_and (pe_cmpR op_isN (pv 1) pe_non (nomark _)) (pe_one (pe_cmpR op_isN (pv 0) pe_non (nomark _)))))) pss_nil)
      (pss_cons (ps_if (pt_val (pe_callB call_isiT (by rfl) T.z_isinstance (by decide +kernel) (pa_cons (pv 1) (pa_cons (pe_tup (pa_cons (pe_bltn (v := .ty "list") (u := .type "list") (by rfl) T.z_list (by decide +kernel) rfl) (pa_cons (pe_bltn (v := .ty "tuple") (u := .type "tuple") (by rfl) T.z_tuple (by decide +kernel) rfl) pa_nil))) pa_nil)))) (pss_cons (ps_if (pt_cmpR op_ne (pe_callB call_isi (by rfl) T.z_isinstance (by decide +kernel) (pa_cons (pv 0) (pa_cons (pe_bltn (v := .ty "list") (u := .type "list") (by rfl) T.z_list (by decide +kernel) rfl) pa_nil))) (pe_callB call_isi (by rfl) T.z_isinstance (by decide +kernel) (pa_cons (pv 1) (pa_cons (pe_bltn (v := .ty "list") (u := .type "list") (by rfl) T.z_list (by decide +kernel) rfl) pa_nil))) (nomark _)) (pss_one (ps_ret pe_bl)) pss_nil)
      (pss_cons (ps_if (PW.pt (pw_or (pt_cmpR op_ne (pe_callB call_isi (by rfl) T.z_isinstance (by decide +kernel) (pa_cons (pv 0) (pa_cons (pe_bltn (v := .ty "tuple") (u := .type "tuple") (by rfl) T.z_tuple (by decide +kernel) rfl) pa_nil))) (pe_callB call_isi (by rfl) T.z_isinstance (by decide +kernel) (pa_cons (pv 1) (pa_cons (pe_bltn (v := .ty "tuple") (u := .type "tuple") (by rfl) T.z_tuple (by decide +kernel) rfl) pa_nil))) (nomark _)) (pw_or1 (pt_cmpR op_ne (pe_callB call_len (by rfl) T.z_len (by decide +kernel) (pa_cons (pv 0) pa_nil)) (pe_callB call_len (by rfl) T.z_len (by decide +kernel) (pa_cons (pv 1) pa_nil)) (nomark _))))) (pss_one (ps_ret pe_bl)) pss_nil)
      (pss_one (ps_ret (pe_callB (cr_all rfl) (by rfl) T.z_all (by decide +kernel) (pa_cons (pe_lc (own := [("_law_a", 2), ("_law_b", 3)]) (g := (gTup K 2 (gCons (gName 2) (gCons (gName 3) gNil)))) (by rfl) sc__law_same.nd (RZ.pi_zipA (by rfl) T.z_zip (pa_cons (pv 0) (pa_cons (pv 1) pa_nil))) (blkOk_by (N := ["_law_found", "_law_due", "_law_a", "_law_b"]) (sc := defScope s__law_same) (by decide +kernel)) (fun _ _ _ _ _ => (pg_tup rfl (pgs_cons (pg_name (i := 2) sc__law_same.nd rfl (.inl rfl)) (pgs_cons (pg_name (i := 3) sc__law_same.nd rfl (.inl rfl)) pgs_nil)))) (fun _ _ _ _ _ => pts_nil) (fun _ _ _ _ _ => (pe_c c__law_same hr (Nat.le_refl _) (by rfl) (pa_cons (pv 2) (pa_cons (pv 3) pa_nil))))) pa_nil)))))) pss_nil)
      (pss_cons (ps_if (pt_val (pe_callB call_isiT (by rfl) T.z_isinstance (by decide +kernel) (pa_cons (pv 0) (pa_cons (pe_tup (pa_cons (pe_bltn (v := .ty "list") (u := .type "list") (by rfl) T.z_list (by decide +kernel) rfl) (pa_cons (pe_bltn (v := .ty "tuple") (u := .type "tuple") (by rfl) T.z_tuple (by decide +kernel) rfl) pa_nil))) pa_nil)))) (pss_one (ps_ret pe_bl)) pss_nil)
      (pss_cons (ps_if (pt_cmpR op_ne (pe_callB call_isi (by rfl) T.z_isinstance (by decide +kernel) (pa_cons (pv 0) (pa_cons (pe_bltn (v := .ty "bool") (u := .type "bool") (by rfl) T.z_bool (by decide +kernel) rfl) pa_nil))) (pe_callB call_isi (by rfl) T.z_isinstance (by decide +kernel) (pa_cons (pv 1) (pa_cons (pe_bltn (v := .ty "bool") (u := .type "bool") (by rfl) T.z_bool (by decide +kernel) rfl) pa_nil))) (nomark _)) (pss_one (ps_ret pe_bl)) pss_nil)
      (pss_cons (ps_if (pt_cmpR op_ne (pe_callB call_isi (by rfl) T.z_isinstance (by decide +kernel) (pa_cons (pv 0) (pa_cons (pe_bltn (v := .ty "int") (u := .type "int") (by rfl) T.z_int (by decide +kernel) rfl) pa_nil))) (pe_callB call_isi (by rfl) T.z_isinstance (by decide +kernel) (pa_cons (pv 1) (pa_cons (pe_bltn (v := .ty "int") (u := .type "int") (by rfl) T.z_int (by decide +kernel) rfl) pa_nil))) (nomark _)) (pss_one (ps_ret pe_bl)) pss_nil)
      (pss_one (ps_ret (pe_and (pe_cmpR op_eq (pe_callB call_isi (by rfl) T.z_isinstance (by decide +kernel) (pa_cons (pv 0) (pa_cons (pe_bltn (v := .ty "str") (u := .type "str") (by rfl) T.z_str (by decide +kernel) rfl) pa_nil))) (pe_callB call_isi (by rfl) T.z_isinstance (by decide +kernel) (pa_cons (pv 1) (pa_cons (pe_bltn (v := .ty "str") (u := .type "str") (by rfl) T.z_str (by decide +kernel) rfl) pa_nil))) (nomark _)) (pe_one (pe_cmpR op_eq (pv 0) (pv 1) (nomark _))))))))))), ?_⟩
    have kinds : (x = .non ∧ y = .non) ∨ (∃ (Ty : String) (r1 r2 r3 : Bool), x = y ∧ x ≠ .non ∧ (∀ H', TyX K H' x (.type Ty)) ∧ kitB Ty "list" = some false ∧ kitB Ty "tuple" = some false ∧ kitB Ty "bool" = some r1 ∧ kitB Ty "int" = some r2 ∧ kitB Ty "str" = some r3 ∧ scal x x = true) ∨
        (∃ (m : Nat) (a b : Addr) (xs ys : List V) (ds : List PyData), n = m + 1 ∧ x = .ref a ∧ y = .ref b ∧ SqL K H a xs ∧ SqL K H b ys ∧ DpAll K H xs ds ∧ DpAll K H ys ds ∧ ds.length ≤ 1000 ∧ ∀ d ∈ ds, Deep m d) ∨
        (∃ (m : Nat) (a b : Addr) (xs ys : List V) (ds : List PyData), n = m + 1 ∧ x = .ref a ∧ y = .ref b ∧ SqT K H a xs ∧ SqT K H b ys ∧ DpAll K H xs ds ∧ DpAll K H ys ds ∧ ds.length ≤ 1000 ∧ ∀ d ∈ ds, Deep m d) := by
      cases hx with
      | non =>
        cases hy
        exact .inl ⟨rfl, rfl⟩
      | bl b =>
        cases hy
        exact .inr (.inl ⟨"bool", true, true, false, rfl, (fun e => by cases e), fun _ => .base (.bl b), by decide +kernel, by decide +kernel, by decide +kernel, by decide +kernel, by decide +kernel, rfl⟩)
      | int b =>
        cases hy
        exact .inr (.inl ⟨"int", false, true, false, rfl, (fun e => by cases e), fun _ => .base (.int b), by decide +kernel, by decide +kernel, by decide +kernel, by decide +kernel, by decide +kernel, rfl⟩)
      | str b =>
        cases hy
        exact .inr (.inl ⟨"str", false, false, true, rfl, (fun e => by cases e), fun _ => .base (.str b), by decide +kernel, by decide +kernel, by decide +kernel, by decide +kernel, by decide +kernel, rfl⟩)
      | lst h1 h2 =>
        cases hy with
        | lst h3 h4 =>
          cases n with
          | zero =>
            unfold Deep at hd
            exact hd.elim
          | succ m =>
            unfold Deep at hd
            exact .inr (.inr (.inl ⟨m, _, _, _, _, _, rfl, rfl, rfl, h1, h3, h2, h4, hd.1, hd.2⟩))
      | tup h1 h2 =>
        cases hy with
        | tup h3 h4 =>
          cases n with
          | zero =>
            unfold Deep at hd
            exact hd.elim
          | succ m =>
            unfold Deep at hd
            exact .inr (.inr (.inr ⟨m, _, _, _, _, _, rfl, rfl, rfl, h1, h3, h2, h4, hd.1, hd.2⟩))
    rcases kinds with ⟨rfl, rfl⟩ | ⟨Ty, r1, r2, r3, rfl, hn, ht, k1, k2, k3, k4, k5, hs⟩ | ⟨m, a, b, xs, ys, ds, hm, rfl, rfl, hSx, hSy, hDx, hDy, hdl, hdd⟩ | ⟨m, a, b, xs, ys, ds, hm, rfl, rfl, hSx, hSy, hDx, hDy, hdl, hdd⟩
    · refine ⟨_, rfl, rfl, _, rfl, ite2 (fun _ => ?_) (fun h => absurd (decide_eq_true rfl) h)⟩
      refine iteT ?_
      refine ⟨_, rfl, rfl, _, rfl, ite2 (fun _ => ?_) (fun h => absurd (decide_eq_true rfl) h)⟩
      refine ⟨_, rfl, rfl, ?_⟩
      rw [decide_eq_true rfl]
      exact q _ (Same.refl H)
    · refine ⟨_, rfl, rfl, _, rfl, ite2 (fun h => absurd (of_decide_eq_true h) hn) (fun _ => ?_)⟩
      refine ⟨_, rfl, rfl, _, rfl, ite2 (fun h => absurd (of_decide_eq_true h) hn) (fun _ => ?_)⟩
      refine ⟨_, rfl, (show 2 ≤ sizeLine by decide), fun p np => ⟨_, p, _, _, _, false, rfl, upd_same, .cons (.ty _) (.cons (.ty _) .nil), ht _, kitAny_lt k1 k2, _, rfl, iteF ?_⟩⟩
      have s1 := same_upd (o := HO.tup [V.ty "list", V.ty "tuple"]) np
      refine ⟨_, rfl, (show 2 ≤ sizeLine by decide), fun p2 np2 => ⟨_, p2, _, _, _, false, rfl, upd_same, .cons (.ty _) (.cons (.ty _) .nil), ht _, kitAny_lt k1 k2, _, rfl, iteF ?_⟩⟩
      have s2 := s1.trans (same_upd (o := HO.tup [V.ty "list", V.ty "tuple"]) np2)
      refine ⟨_, rfl, _, _, _, _, r1, rfl, .ty _, ht _, kit_ty k3, _, rfl, _, _, _, _, r1, rfl, .ty _, ht _, kit_ty k3, rfl, _, rfl, iteNS rfl ?_⟩
      refine ⟨_, rfl, _, _, _, _, r2, rfl, .ty _, ht _, kit_ty k4, _, rfl, _, _, _, _, r2, rfl, .ty _, ht _, kit_ty k4, rfl, _, rfl, iteNS rfl ?_⟩
      refine ⟨_, rfl, _, _, _, _, r3, rfl, .ty _, ht _, kit_ty k5, _, rfl, _, _, _, _, r3, rfl, .ty _, ht _, kit_ty k5, rfl, _, rfl, ite2 (fun _ => ?_) (fun h => absurd (decide_eq_true rfl) h)⟩
      refine ⟨_, rfl, _, rfl, hs, ?_⟩
      rw [decide_eq_true rfl]
      exact q _ s2
    · refine ⟨_, rfl, rfl, _, rfl, ite2 (fun h => absurd (of_decide_eq_true h) (fun e => by cases e)) (fun _ => ?_)⟩
      refine ⟨_, rfl, rfl, _, rfl, ite2 (fun h => absurd (of_decide_eq_true h) (fun e => by cases e)) (fun _ => ?_)⟩
      refine ⟨_, rfl, (show 2 ≤ sizeLine by decide), fun p np => ?_⟩
      have s1 := same_upd (o := HO.tup [V.ty "list", V.ty "tuple"]) np
      have hSx1 := s1.seq hSx
      have hSy1 := s1.seq hSy
      refine ⟨_, p, _, _, _, true, rfl, upd_same, .cons (.ty _) (.cons (.ty _) .nil), tyL hSy1, kitAny_lt (r1 := true) (r2 := false) (by decide +kernel) (by decide +kernel), _, rfl, iteT ?_⟩
      refine ⟨_, rfl, _, _, _, _, true, rfl, .ty _, tyL hSx1, kit_ty (by decide +kernel), _, rfl, _, _, _, _, true, rfl, .ty _, tyL hSy1, kit_ty (by decide +kernel), rfl, _, rfl, iteNS rfl ?_⟩
      refine ⟨_, rfl, _, _, _, _, false, rfl, .ty _, tyL hSx1, kit_ty (by decide +kernel), _, rfl, _, _, _, _, false, rfl, .ty _, tyL hSy1, kit_ty (by decide +kernel), rfl, _, rfl, iteNS rfl ?_⟩
      refine ⟨_, rfl, _, _, rfl, .inl ⟨_, hSx1, rfl⟩, _, rfl, _, _, rfl, .inl ⟨_, hSy1, rfl⟩, rfl, _, rfl, iteNS (by rw [DpAll.len hDx, DpAll.len hDy]) ?_⟩
      refine ⟨_, rfl, _, rfl, a, b, xs, ys, rfl, .inl ⟨hSx1, hSy1, fun D hD => ?_⟩⟩
      refine lc_it (walk_zip (xs := xs) (ys := ys) (n := ds.length) (by rw [DpAll.len hDx, DpAll.len hDy, Nat.min_self])) (fun i H' => But D (upd H p (.tup [.ty "list", .ty "tuple"])) H' ∧ H' D = some (.lst (List.replicate i (.bl true)))) ⟨(same_upd hD).but, upd_same⟩ (fun i H' _ pv => ?_) ?_ ?_
      · have nD : ∀ c u, (upd H p (.tup [.ty "list", .ty "tuple"])) c = some u → c ≠ D := fun c u e => ne_of_none e hD
        exact ⟨seq_but nD pv.1 hSx1, seq_but nD pv.1 hSy1⟩
      · rintro i _ H' _ hi ⟨bt, hDD⟩ ⟨T', x1, y1, rfl, nT, rfl, hx1, hy1⟩
        obtain ⟨d1, e1, g1⟩ := DpAll.at hDx hx1
        obtain ⟨d2, e2, g2⟩ := DpAll.at hDy hy1
        have ed : d1 = d2 := Option.some.inj (e1.symm.trans e2)
        subst ed
        have nDT : D ≠ T' := ne_of_none hDD nT
        have sT := same_upd (o := HO.tup [x1, y1]) nT
        have nD : ∀ c u, H c = some u → c ≠ D := fun c u e => ne_of_none (s1 _ _ e) hD
        have sH : Same H (upd H' T' (.tup [x1, y1])) := fun c u e => sT _ _ (bt c u (nD c u e) (s1 _ _ e))
        refine ⟨T', [x1, y1], rfl, SqT.of upd_same, rfl, x1, [y1], rfl, y1, [], rfl, rfl, rfl, ?_⟩
        refine ⟨_, rfl, _, rfl, hsp m _ _ _ _ hm ⟨x1, y1, d1, rfl, Dp.same sH g1, Dp.same sH g2, hdd d1 (List.mem_of_getElem? e1), fun H2 s2 => ?_⟩⟩
        refine ⟨_, s2 _ _ (sT _ _ hDD), ?_, fun c u n e => ?_, ?_⟩
        · rw [List.length_replicate]
          exact sz1 (by omega)
        · rw [upd_ne n]
          exact s2 _ _ (sT _ _ (bt c u n e))
        · rw [upd_same, ← List.replicate_succ']
      · rintro H' ⟨bt, hDD⟩
        refine ⟨D, List.replicate ds.length true, rfl, SqL.of (by rw [hDD, List.map_replicate]), ?_⟩
        rw [show (List.replicate ds.length true).all id = true from by rw [List.all_eq_true]; intro z hz; rw [List.eq_of_mem_replicate hz]; rfl]
        exact q _ fun c u e => bt c u (ne_of_none (s1 _ _ e) hD) (s1 _ _ e)
    · refine ⟨_, rfl, rfl, _, rfl, ite2 (fun h => absurd (of_decide_eq_true h) (fun e => by cases e)) (fun _ => ?_)⟩
      refine ⟨_, rfl, rfl, _, rfl, ite2 (fun h => absurd (of_decide_eq_true h) (fun e => by cases e)) (fun _ => ?_)⟩
      refine ⟨_, rfl, (show 2 ≤ sizeLine by decide), fun p np => ?_⟩
      have s1 := same_upd (o := HO.tup [V.ty "list", V.ty "tuple"]) np
      have hSx1 := s1.tup hSx
      have hSy1 := s1.tup hSy
      refine ⟨_, p, _, _, _, true, rfl, upd_same, .cons (.ty _) (.cons (.ty _) .nil), tyT hSy1, kitAny_lt (r1 := false) (r2 := true) (by decide +kernel) (by decide +kernel), _, rfl, iteT ?_⟩
      refine ⟨_, rfl, _, _, _, _, false, rfl, .ty _, tyT hSx1, kit_ty (by decide +kernel), _, rfl, _, _, _, _, false, rfl, .ty _, tyT hSy1, kit_ty (by decide +kernel), rfl, _, rfl, iteNS rfl ?_⟩
      refine ⟨_, rfl, _, _, _, _, true, rfl, .ty _, tyT hSx1, kit_ty (by decide +kernel), _, rfl, _, _, _, _, true, rfl, .ty _, tyT hSy1, kit_ty (by decide +kernel), rfl, _, rfl, iteNS rfl ?_⟩
      refine ⟨_, rfl, _, _, rfl, .inr ⟨_, hSx1, rfl⟩, _, rfl, _, _, rfl, .inr ⟨_, hSy1, rfl⟩, rfl, _, rfl, iteNS (by rw [DpAll.len hDx, DpAll.len hDy]) ?_⟩
      refine ⟨_, rfl, _, rfl, a, b, xs, ys, rfl, .inr ⟨hSx1, hSy1, fun D hD => ?_⟩⟩
      refine lc_it (walk_zipT (xs := xs) (ys := ys) (n := ds.length) (by rw [DpAll.len hDx, DpAll.len hDy, Nat.min_self])) (fun i H' => But D (upd H p (.tup [.ty "list", .ty "tuple"])) H' ∧ H' D = some (.lst (List.replicate i (.bl true)))) ⟨(same_upd hD).but, upd_same⟩ (fun i H' _ pv => ?_) ?_ ?_
      · have nD : ∀ c u, (upd H p (.tup [.ty "list", .ty "tuple"])) c = some u → c ≠ D := fun c u e => ne_of_none e hD
        exact ⟨tup_but nD pv.1 hSx1, tup_but nD pv.1 hSy1⟩
      · rintro i _ H' _ hi ⟨bt, hDD⟩ ⟨T', x1, y1, rfl, nT, rfl, hx1, hy1⟩
        obtain ⟨d1, e1, g1⟩ := DpAll.at hDx hx1
        obtain ⟨d2, e2, g2⟩ := DpAll.at hDy hy1
        have ed : d1 = d2 := Option.some.inj (e1.symm.trans e2)
        subst ed
        have nDT : D ≠ T' := ne_of_none hDD nT
        have sT := same_upd (o := HO.tup [x1, y1]) nT
        have nD : ∀ c u, H c = some u → c ≠ D := fun c u e => ne_of_none (s1 _ _ e) hD
        have sH : Same H (upd H' T' (.tup [x1, y1])) := fun c u e => sT _ _ (bt c u (nD c u e) (s1 _ _ e))
        refine ⟨T', [x1, y1], rfl, SqT.of upd_same, rfl, x1, [y1], rfl, y1, [], rfl, rfl, rfl, ?_⟩
        refine ⟨_, rfl, _, rfl, hsp m _ _ _ _ hm ⟨x1, y1, d1, rfl, Dp.same sH g1, Dp.same sH g2, hdd d1 (List.mem_of_getElem? e1), fun H2 s2 => ?_⟩⟩
        refine ⟨_, s2 _ _ (sT _ _ hDD), ?_, fun c u n e => ?_, ?_⟩
        · rw [List.length_replicate]
          exact sz1 (by omega)
        · rw [upd_ne n]
          exact s2 _ _ (sT _ _ (bt c u n e))
        · rw [upd_same, ← List.replicate_succ']
      · rintro H' ⟨bt, hDD⟩
        refine ⟨D, List.replicate ds.length true, rfl, SqL.of (by rw [hDD, List.map_replicate]), ?_⟩
        rw [show (List.replicate ds.length true).all id = true from by rw [List.all_eq_true]; intro z hz; rw [List.eq_of_mem_replicate hz]; rfl]
        exact q _ fun c u e => bt c u (ne_of_none (s1 _ _ e) hD) (s1 _ _ e)
abbrev s__law_letters : Stmt := topS 40
theorem sc__law_letters : FnScope ["_law_bag", "_law_letters_here", "_law_many", "_law_found", "_law_low", "_law_k", "_law_at"] ["_law_bag", "_law_letters_here", "_law_many"] (defScope s__law_letters) := ⟨rfl, rfl, rfl, by decide +kernel, rfl, by decide +kernel, by decide +kernel⟩
theorem ok__law_letters {f : Addr} {fd : FuncData} (F : Fun K "_law_letters" "_law_letters" s__law_letters f fd) (T : Z mg) (c__law_draw : Cal P w K mg base CX0 1 "_law_draw" s__law_draw ["_law_bag", "_law_many"] (sp__law_draw K)) : FnOk P w K mg base CX0 2 f fd ["_law_bag", "_law_letters_here", "_law_many"] (sp__law_letters K) := by
  refine F.ok sc__law_letters (fun vs H Q E h => ?_) (fun cdv A outer s H vs Q E hr h => ?_)
  · obtain ⟨b, lb, L, k, rfl, _⟩ := h
    rfl
  · obtain ⟨b, lb, L, k, rfl, B, hk, hL, q⟩ := h
    refine ⟨_, (pss_cons (ps_asg (pe_tup (pa_cons pe_str (pa_cons pe_int pa_nil))) (pg_tup rfl (pgs_cons (pg_name (i := 3) sc__law_letters.nd rfl (.inl rfl)) (pgs_cons (pg_name (i := 4) sc__law_letters.nd rfl (.inl rfl)) pgs_nil))))
      (pss_cons (ps_for PassesOwn.never rfl (pi_range1 (by rfl) T.z_range (pa_cons (pv 2) pa_nil)) (pg_name (i := 5) sc__law_letters.nd rfl (.inl rfl))
        (pss_cons (ps_set (i := 6) sc__law_letters.nd rfl (.inl rfl) (pe_op op_add (pv 4) (pe_c c__law_draw hr (by decide) (by rfl) (pa_cons (pv 0) (pa_cons (pe_op op_sub (pe_op op_sub (pe_callB call_len_str (by rfl) T.z_len (by decide +kernel) (pa_cons (pv 1) pa_nil)) (pv 4)) (pe_op op_sub (pe_op op_sub (pv 2) pe_int) (pv 5))) pa_nil)))))
      (pss_one (ps_par (i := 3) (j := 4) (by rfl) sc__law_letters.nd rfl rfl (by decide) rfl rfl (pa_cons (pe_op op_add_str (pv 3) (pe_ix ix_str (pv 1) (pv 6) (fun _ _ => rfl))) (pa_cons (pe_op op_add (pv 6) pe_int) pa_nil)) (by rfl)))))
      (pss_one (ps_ret (pv 3))))), ?_⟩
    refine ⟨(show 2 ≤ sizeLine by decide), fun p np => ⟨p, _, rfl, SqT.of upd_same, rfl, _, _, rfl, _, _, rfl, rfl, _, rfl, k, rfl, by omega, by omega, ?_⟩⟩
    have s0 := same_upd (o := HO.tup [V.str "", V.int 0]) np
    refine for_range (n := ((k : Nat) : Int).toNat) (fun i σ H' => ∃ (r : List Nat) (low : Nat) (y5 y6 : Option V), σ = [some (.ref b), some (.str (S L)), some (.int k), some (.str (S r)), some (.int low), y5, y6] ∧ But b H H' ∧ Bag H' b lb ∧ List.Sublist r (L.take low) ∧ r.length = i ∧ low + (k - i) ≤ L.length)
      ⟨[], 0, none, none, rfl, s0.but, B.same s0, List.nil_sublist _, rfl, by omega⟩ ?_ ?_
    · rintro i σ H' hi ⟨r, low, y5, y6, rfl, hb, B', hs, hr', hlow⟩
      have hi : i < k := by omega
      refine ⟨_, rfl, _, rfl, _, rfl, _, rfl, by rw [S_len]; exact sz (by omega), _, rfl, _, _, rfl, rfl, _, rfl, _, _, rfl, rfl, _, rfl, _, _, rfl, rfl, _, _, rfl, rfl, ?_⟩
      rw [S_len]
      refine ⟨b, lb, _, rfl, B', by omega, by omega, fun H2 z z0 z1 hb2 B2 => ?_⟩
      refine ⟨_, _, rfl, rfl, ?_⟩
      have hz : low + z.toNat < L.length := by omega
      refine ⟨_, rfl, _, rfl, _, rfl, S L, _, L[low + z.toNat], rfl, rfl, by rw [S_len]; exact sz (by omega), atI_of (show (low : Int) + z = ((low + z.toNat : Nat) : Int) by omega) (List.getElem?_eq_getElem hz), _, _, rfl, rfl, ?_, _, rfl, _, _, rfl, rfl, _, _, rfl, ?_⟩
      · rw [S_len]
        exact sz (by show r.length + 1 ≤ 100000; omega)
      · refine ⟨r ++ [L[low + z.toNat]], low + z.toNat + 1, some (.int (0 + (i : Int))), some (.int ((low : Int) + z)), ?_, hb.trans hb2, B2, sub_next hs (by omega) hz, by rw [List.length_append, hr']; rfl, by omega⟩
        rw [← S_cat]
        have e : ((low : Int) + z + 1) = (((low + z.toNat + 1 : Nat)) : Int) := by omega
        rw [← e]
        rfl
    · rintro σ H' ⟨r, low, y5, y6, rfl, hb, B', hs, hr', hlow⟩
      exact ⟨_, rfl, q _ _ (hs.trans (List.take_sublist _ _)) (by omega) hb B'⟩
abbrev s__law_some_faces : Stmt := topS 41
theorem sc__law_some_faces : FnScope ["_law_bag", "_law_most"] ["_law_bag", "_law_most"] (defScope s__law_some_faces) := ⟨rfl, rfl, rfl, by decide +kernel, rfl, by decide +kernel, by decide +kernel⟩
theorem ok__law_some_faces {f : Addr} {fd : FuncData} (F : Fun K "_law_some_faces" "_law_some_faces" s__law_some_faces f fd) (T : Z mg) (c__law_draw : Cal P w K mg base CX0 1 "_law_draw" s__law_draw ["_law_bag", "_law_many"] (sp__law_draw K))
    (c__law_letters : Cal P w K mg base CX0 2 "_law_letters" s__law_letters ["_law_bag", "_law_letters_here", "_law_many"] (sp__law_letters K)) : FnOk P w K mg base CX0 3 f fd ["_law_bag", "_law_most"] (sp__law_some_faces K) := by
  refine F.ok sc__law_some_faces (fun vs H Q E h => ?_) (fun cdv A outer s H vs Q E hr h => ?_)
  · obtain ⟨b, lb, m, rfl, _⟩ := h
    rfl
  · obtain ⟨b, lb, m, rfl, B, h0, h1, q⟩ := h
    refine ⟨_, (pss_one (ps_ret (pe_c c__law_letters hr (by decide) (by rfl) (pa_cons (pv 0) (pa_cons pe_str (pa_cons (pe_op op_add pe_int (pe_c c__law_draw hr (by decide) (by rfl) (pa_cons (pv 0) (pa_cons (pv 1) pa_nil)))) pa_nil)))))), ?_⟩
    refine ⟨_, rfl, _, rfl, _, rfl, b, lb, _, rfl, B, by omega, by omega, fun H1 z z0 z1 hb B1 => ?_⟩
    refine ⟨_, _, rfl, rfl, b, lb, lower, 1 + z.toNat, ?_, B1, by rw [lower_len]; omega, by rw [lower_len]; omega, fun H2 r hs hr' hb2 B2 => ?_⟩
    · have e : (1 : Int) + z = ((1 + z.toNat : Nat) : Int) := by omega
      rw [← e]
      rfl
    · exact q _ r hs (by omega) (by omega) (hb.trans hb2) B2
abbrev s__law_some_cutters : Stmt := topS 42
theorem sc__law_some_cutters : FnScope ["_law_bag", "_law_most"] ["_law_bag", "_law_most"] (defScope s__law_some_cutters) := ⟨rfl, rfl, rfl, by decide +kernel, rfl, by decide +kernel, by decide +kernel⟩
theorem upper_len : upper.length = 26 := by decide +kernel
def sp__law_some_cutters (K : PySem.W.Frag) : Sp := fun vs H Q _ => ∃ (b lb : Addr) (m : Nat), vs = [.ref b, .int m] ∧ Bag H b lb ∧ 0 < m ∧ m ≤ 26 ∧ ∀ H' r, List.Sublist r upper → 0 < r.length → r.length ≤ m → But b H H' → Bag H' b lb → Q (.str (S r)) H'
theorem ok__law_some_cutters {f : Addr} {fd : FuncData} (F : Fun K "_law_some_cutters" "_law_some_cutters" s__law_some_cutters f fd) (T : Z mg) (c__law_draw : Cal P w K mg base CX0 1 "_law_draw" s__law_draw ["_law_bag", "_law_many"] (sp__law_draw K))
    (c__law_letters : Cal P w K mg base CX0 2 "_law_letters" s__law_letters ["_law_bag", "_law_letters_here", "_law_many"] (sp__law_letters K)) : FnOk P w K mg base CX0 3 f fd ["_law_bag", "_law_most"] (sp__law_some_cutters K) := by
  refine F.ok sc__law_some_cutters (fun vs H Q E h => ?_) (fun cdv A outer s H vs Q E hr h => ?_)
  · obtain ⟨b, lb, m, rfl, _⟩ := h
    rfl
  · obtain ⟨b, lb, m, rfl, B, h0, h1, q⟩ := h
    refine ⟨_, (pss_one (ps_ret (pe_c c__law_letters hr (by decide) (by rfl) (pa_cons (pv 0) (pa_cons pe_str (pa_cons (pe_op op_add pe_int (pe_c c__law_draw hr (by decide) (by rfl) (pa_cons (pv 0) (pa_cons (pv 1) pa_nil)))) pa_nil)))))), ?_⟩
    refine ⟨_, rfl, _, rfl, _, rfl, b, lb, _, rfl, B, by omega, by omega, fun H1 z z0 z1 hb B1 => ?_⟩
    refine ⟨_, _, rfl, rfl, b, lb, upper, 1 + z.toNat, ?_, B1, by rw [upper_len]; omega, by rw [upper_len]; omega, fun H2 r hs hr' hb2 B2 => ?_⟩
    · have e : (1 : Int) + z = ((1 + z.toNat : Nat) : Int) := by omega
      rw [← e]
      rfl
    · exact q _ r hs (by omega) (by omega) (hb.trans hb2) B2
abbrev s__law_part : Stmt := topS 43
theorem sc__law_part : FnScope ["_law_bag", "_law_letters_here", "_law_chosen", "_law_letter"] ["_law_bag", "_law_letters_here"] (defScope s__law_part) := ⟨rfl, rfl, rfl, by decide +kernel, rfl, by decide +kernel, by decide +kernel⟩
/-- a part of a drawn line -/
def PartR (r L : List Nat) : Prop := r = [46] ∨ (List.Sublist r L ∧ 0 < r.length)
def sp__law_part (K : PySem.W.Frag) : Sp := fun vs H Q _ => ∃ (b lb : Addr) (L : List Nat), vs = [.ref b, .str (S L)] ∧ Bag H b lb ∧ L.length ≤ 100 ∧ ∀ H' r, PartR r L → But b H H' → Bag H' b lb → Q (.str (S r)) H'
theorem ok__law_part {f : Addr} {fd : FuncData} (F : Fun K "_law_part" "_law_part" s__law_part f fd) (T : Z mg) (c__law_draw : Cal P w K mg base CX0 1 "_law_draw" s__law_draw ["_law_bag", "_law_many"] (sp__law_draw K)) : FnOk P w K mg base CX0 2 f fd ["_law_bag", "_law_letters_here"] (sp__law_part K) := by
  refine F.ok sc__law_part (fun vs H Q E h => ?_) (fun cdv A outer s H vs Q E hr h => ?_)
  · obtain ⟨b, lb, L, rfl, _⟩ := h
    rfl
  obtain ⟨b, lb, L, rfl, B, hL, q⟩ := h
  refine ⟨_, (pss_cons (ps_set (i := 2) sc__law_part.nd rfl (.inl rfl) (pe_join pe_str (pe_lc (own := [("_law_letter", 3)]) (g := (gName 3)) (by rfl) sc__law_part.nd (pi_str (pv 1)) (blkOk_by (N := ["_law_bag", "_law_letters_here", "_law_chosen", "_law_letter"]) (sc := defScope s__law_part) (by decide +kernel)) (fun _ _ _ _ _ => (pg_name (i := 3) sc__law_part.nd rfl (.inl rfl))) (fun _ _ _ _ _ => (pts_one (pt_cmpR op_eq (pe_c c__law_draw hr (by decide) (by rfl) (pa_cons (pv 0) (pa_cons pe_int pa_nil))) pe_int (nomark _)))) (fun _ _ _ _ _ => (pv 3)))))
      (pss_one (ps_ret (pe_ifExp (PW.pt (pw_and (pt_cmpR op_ne (pv 2) pe_str (nomark _)) (pw_and1 (pt_cmpR op_gt (pe_c c__law_draw hr (by decide) (by rfl) (pa_cons (pv 0) (pa_cons pe_int pa_nil))) pe_int (nomark _))))) (pv 2) pe_str)))), ?_⟩
  refine ⟨⟨_, rfl⟩, _, rfl, S L, rfl, fun D hD => ?_⟩
  have nDb : D ≠ b := B.ne hD
  have nDl : D ≠ lb := B.ne2 hD
  have nD : ∀ a o, H a = some o → a ≠ D := fun a o e => ne_of_none e hD
  refine lc_it walk_str (fun i H' => ∃ r : List Nat, List.Sublist r (L.take i) ∧ H' D = some (.lst (r.map sgn)) ∧ Bag H' b lb ∧ But b H H') ⟨[], List.nil_sublist _, upd_same, B.same (same_upd hD), (same_upd hD).but⟩ (fun _ _ _ _ => trivial) ?_ ?_
  · rintro i x H' _ hi ⟨r, hr', hDD, B', ho⟩ ⟨rfl, c, hc, rfl⟩
    have hi' : i < L.length := hi
    have hci : L[i]? = some c := by
      have : L.toArray[i]? = some c := hc
      rwa [List.getElem?_toArray] at this
    refine ⟨rfl, _, rfl, b, lb, _, rfl, B', by decide, by decide, fun H2 z z0 z1 b2 B2 => ?_⟩
    have hsub : ∀ s, List.Sublist r s → List.Sublist (r ++ [c]) (s ++ [c]) := fun s h => h.append (List.Sublist.refl _)
    have htk : L.take (i + 1) = L.take i ++ [c] := by rw [List.take_add_one, hci]; rfl
    have hl : r.length ≤ 100 := Nat.le_trans hr'.length_le (Nat.le_trans (List.length_take_le _ _) (by omega))
    refine ⟨rfl, _, rfl, ite_dec (fun _ => ?_) (fun _ => ?_)⟩
    · refine ⟨_, rfl, _, b2 _ _ nDb hDD, by rw [List.length_map]; exact sz1 (by omega), r ++ [c], by rw [htk]; exact hsub _ hr', ?_, ?_, fun a o n e => ?_⟩
      · rw [upd_same, List.map_append]
        rfl
      · exact B2.upd nDb nDl
      · rw [upd_ne (nD a o e)]
        exact b2 _ _ n (ho a o n e)
    · exact ⟨r, by rw [htk]; exact hr'.trans (List.sublist_append_left _ _), b2 _ _ nDb hDD, B2, ho.trans b2⟩
  · rintro H' ⟨r, hr', hDD, B', ho⟩
    have hrl : r.length ≤ 100 := Nat.le_trans hr'.length_le (Nat.le_trans (List.length_take_le _ _) (by omega))
    have hrs : List.Sublist r L := hr'.trans (List.take_sublist _ _)
    refine ⟨S [], D, (r.map fun c => [c]).map S, rfl, rfl, .inl (SqL.of ?_), ?_, ?_⟩
    · rw [hDD, List.map_map, List.map_map]
      rfl
    · rw [lens_ones]
      show r.length + _ * 0 ≤ _
      omega
    rw [join_ones]
    refine ⟨_, rfl, rfl, _, rfl, ite_ndec (fun e => ?_) (fun e => iteF (q _ [46] (.inl rfl) ho B'))⟩
    have h0 : 0 < r.length := Nat.pos_of_ne_zero fun h0 => e (by rw [List.eq_nil_of_length_eq_zero h0]; rfl)
    exact ⟨_, rfl, b, lb, _, rfl, B', by decide, by decide, fun H2 z z0 z1 b2 B2 => ⟨_, _, rfl, rfl, _, rfl, ite_dec (fun _ => ⟨_, rfl, q _ r (.inr ⟨hrs, h0⟩) (ho.trans b2) B2⟩) (fun _ => q _ [46] (.inl rfl) (ho.trans b2) B2)⟩⟩
abbrev s__law_some_cut : Stmt := topS 44
theorem sc__law_some_cut : FnScope ["_law_bag", "_law_faces"] ["_law_bag", "_law_faces"] (defScope s__law_some_cut) := ⟨rfl, rfl, rfl, by decide +kernel, rfl, by decide +kernel, by decide +kernel⟩
theorem ok__law_some_cut {f : Addr} {fd : FuncData} (F : Fun K "_law_some_cut" "_law_some_cut" s__law_some_cut f fd) (c__law_of : Cal P w K mg base CX0 2 "_law_of" s__law_of ["_law_bag", "_law_things"] (sp__law_of K)) : FnOk P w K mg base CX0 3 f fd ["_law_bag", "_law_faces"] (sp__law_some_cut K) := by
  refine F.ok sc__law_some_cut (fun vs H Q E h => ?_) (fun cdv A outer s H vs Q E hr h => ?_)
  · obtain ⟨b, lb, m, rfl, _⟩ := h
    rfl
  · obtain ⟨b, lb, fs, rfl, B, h0, h1, q⟩ := h
    refine ⟨_, (pss_one (ps_ret (pe_op op_add_str (pe_op op_add_str (pe_c c__law_of hr (by decide) (by rfl) (pa_cons (pv 0) (pa_cons pe_str pa_nil))) (pe_c c__law_of hr (by decide) (by rfl) (pa_cons (pv 0) (pa_cons (pv 1) pa_nil)))) (pe_c c__law_of hr (by decide) (by rfl) (pa_cons (pv 0) (pa_cons (pv 1) pa_nil)))))), ?_⟩
    have ln : 0 < (fs.map sgn).length := by rw [List.length_map]; exact h0
    have lm : (fs.map sgn).length ≤ 100000 := by rw [List.length_map]; omega
    refine ⟨_, rfl, b, lb, _, [124, 45].map sgn, rfl, B, .inr (.inr ⟨[124, 45], rfl, rfl⟩), by decide, by decide, fun H1 v1 m1 b1 B1 => ?_⟩
    obtain ⟨c1, n1, rfl⟩ := of_str (H := H) (b := b) m1
    refine ⟨_, rfl, _, rfl, b, lb, _, fs.map sgn, rfl, B1, .inr (.inr ⟨fs, rfl, rfl⟩), ln, lm, fun H2 v2 m2 b2 B2 => ?_⟩
    obtain ⟨c2, n2, rfl⟩ := of_str (H := H) (b := b) m2
    refine ⟨_, _, rfl, rfl, (show 2 ≤ sizeLine by decide), _, rfl, _, rfl, b, lb, _, fs.map sgn, rfl, B2, .inr (.inr ⟨fs, rfl, rfl⟩), ln, lm, fun H3 v3 m3 b3 B3 => ?_⟩
    obtain ⟨c3, n3, rfl⟩ := of_str (H := H) (b := b) m3
    refine ⟨_, _, rfl, rfl, (show 3 ≤ sizeLine by decide), ?_⟩
    refine q H3 c1 c2 c3 ?_ n2 n3 ((b1.trans b2).trans b3) B3
    rcases List.mem_cons.mp n1 with e | e
    · exact .inl e
    · exact .inr (List.mem_singleton.mp e)
abbrev s_is_string : Stmt := topS 20
theorem sc_is_string : FnScope ["value", "faces", "face"] ["value", "faces"] (defScope s_is_string) := ⟨rfl, rfl, rfl, by decide +kernel, rfl, by decide +kernel, by decide +kernel⟩
theorem ok_is_string {f : Addr} {fd : FuncData} (F : Fun K "is_string" "is_string" s_is_string f fd) (T : Z mg) : FnOk P w K mg base CX0 1 f fd ["value", "faces"] (sp_is_string K) := by
  refine F.ok sc_is_string (fun vs H Q E h => ?_) (fun cdv A outer s H vs Q E hr h => ?_)
  · obtain ⟨v, fs, rfl, _⟩ := h
    rfl
  · obtain ⟨v, fs, rfl, hv, q⟩ := h
    refine ⟨_, (pss_one (ps_ret (pe_and (pe_callB call_isi (by rfl) T.z_isinstance (by decide +kernel) (pa_cons (pv 0) (pa_cons (pe_bltn (v := .ty "str") (u := .type "str") (by rfl) T.z_str (by decide +kernel) rfl) pa_nil))) (pe_one (pe_callB (cr_all rfl) (by rfl) T.z_all (by decide +kernel) (pa_cons (pe_lc (own := [("face", 2)]) (g := (gName 2)) (by rfl) sc_is_string.nd (pi_str (pv 0)) (blkOk_by (N := ["value", "faces", "face"]) (sc := defScope s_is_string) (by decide +kernel)) (fun _ _ _ _ _ => (pg_name (i := 2) sc_is_string.nd rfl (.inl rfl))) (fun _ _ _ _ _ => pts_nil) (fun _ _ _ _ _ => (pe_cmpR op_in_sign (pv 2) (pv 1) rfl))) pa_nil)))))), ?_⟩
    rcases hv with ⟨hs, hl⟩ | ⟨hs, T, ht, hk⟩
    · obtain ⟨z, rfl⟩ := str_of hs
      refine ⟨_, rfl, _, _, _, _, true, rfl, .ty _, .base (.str z), kit_ty (by decide +kernel), true, rfl, iteT ?_⟩
      refine ⟨_, rfl, z, rfl, fun D hD => lc_it walk_str (fun i H' => H' = upd H D (.lst ((z.cps.toList.take i).map fun c => V.bl (decide (c ∈ fs.cps.toList))))) rfl (fun _ _ _ _ => trivial) ?_ ?_⟩
      · rintro i x _ _ hi rfl ⟨rfl, c, hc, rfl⟩
        refine ⟨rfl, ?_⟩
        refine ⟨_, rfl, _, rfl, c, fs, rfl, rfl, _, upd_same, ?_, ?_⟩
        · rw [List.length_map, List.length_take]
          have hl : z.cps.size ≤ 100000 := hl
          exact sz1 (Nat.le_trans (Nat.min_le_left _ _) (by omega))
        · rw [upd_upd]
          have e : z.cps.toList.take (i + 1) = z.cps.toList.take i ++ [c] := by
            rw [List.take_add_one]
            have : z.cps.toList[i]? = some c := by rw [Array.getElem?_toList]; exact hc
            rw [this]
            rfl
          rw [e, List.map_append]
          rfl
      · rintro H' rfl
        refine ⟨D, z.cps.toList.map fun c => decide (c ∈ fs.cps.toList), rfl, SqL.of ?_, ?_⟩
        · rw [upd_same, List.take_of_length_le (by simp), List.map_map]
          rfl
        · have e : (z.cps.toList.map fun c => decide (c ∈ fs.cps.toList)).all id = bString (.str z) fs := by
            unfold bString isStr strOf
            rw [List.all_map]
            rfl
          rw [e]
          exact q _ (same_upd hD)
    · refine ⟨_, rfl, _, _, _, _, false, rfl, .ty _, ht, kit_ty hk, false, rfl, iteF ?_⟩
      have e : bString v fs = false := by
        unfold bString
        rw [hs]
        rfl
      rw [e] at q
      exact q _ (Same.refl H)
theorem kb_is_string_0_faces_value : KB K "is_string" s_is_string ["value", "faces"] ["faces", "value"] swp swp := kb_swap fun _ _ _ _ _ _ _ _ => rfl
abbrev s_is_ascending : Stmt := topS 16
theorem sc_is_ascending : FnScope ["text", "one", "other"] ["text"] (defScope s_is_ascending) := ⟨rfl, rfl, rfl, by decide +kernel, rfl, by decide +kernel, by decide +kernel⟩
theorem ok_is_ascending {f : Addr} {fd : FuncData} (F : Fun K "is_ascending" "is_ascending" s_is_ascending f fd) (T : Z mg) : FnOk P w K mg base CX0 1 f fd ["text"] (sp_is_ascending K) := by
  refine F.ok sc_is_ascending (fun vs H Q E h => ?_) (fun cdv A outer s H vs Q E hr h => ?_)
  · obtain ⟨l, rfl, _⟩ := h
    rfl
  · obtain ⟨l, rfl, hl, q⟩ := h
    refine ⟨_, (pss_one (ps_ret (pe_callB (cr_all rfl) (by rfl) T.z_all (by decide +kernel) (pa_cons (pe_lc (own := [("one", 1), ("other", 2)]) (g := (gTup K 2 (gCons (gName 1) (gCons (gName 2) gNil)))) (by rfl) sc_is_ascending.nd (pi_zipG (by rfl) T.z_zip (pa_cons (pv 0) (pa_cons (pe_slice sl_str (pv 0) (po_some pe_int) po_none) pa_nil))) (blkOk_by (N := ["text", "one", "other"]) (sc := defScope s_is_ascending) (by decide +kernel)) (fun _ _ _ _ _ => (pg_tup rfl (pgs_cons (pg_name (i := 1) sc_is_ascending.nd rfl (.inl rfl)) (pgs_cons (pg_name (i := 2) sc_is_ascending.nd rfl (.inl rfl)) pgs_nil)))) (fun _ _ _ _ _ => pts_nil) (fun _ _ _ _ _ => (pe_cmpR op_lt_str (pv 1) (pv 2) (nomark _)))) pa_nil)))), ?_⟩
    refine ⟨_, rfl, _, rfl, 1, rfl, _, rfl, by rw [S_len]; exact sz hl, ?_⟩
    rw [show cutS (S l) (some 1) none = S (l.drop 1) from S_sub l 1]
    refine ⟨_, _, l.map sgn, (l.drop 1).map sgn, rfl, .s rfl, .s rfl, fun k1 k2 _ _ g1 g2 D hD => ?_⟩
    have stay : ∀ (k : SK) (H' : Hp) (xs : List V), (k.val = .str (S l) ∨ k.val = .str (S (l.drop 1))) → k.src K H xs → k.src K H' xs := fun k H' xs h q => by
      cases k with
      | l a => rcases h with h | h <;> cases h
      | t a => rcases h with h | h <;> cases h
      | s x t => exact q
    have hk1 : ∀ H', k1.src K H' (l.map sgn) := fun H' => stay k1 H' _ (.inl (by assumption)) g1
    have hk2 : ∀ H', k2.src K H' ((l.drop 1).map sgn) := fun H' => stay k2 H' _ (.inr (by assumption)) g2
    refine lc_it (walk_zipG (xs := l.map sgn) (ys := (l.drop 1).map sgn) (n := l.length - 1) (by rw [List.length_map, List.length_map, List.length_drop]; omega)) (fun i H' => But D H H' ∧ ∃ bs : List Bool, H' D = some (.lst (bs.map V.bl)) ∧ bs.length = i ∧ bs.all id = ascB (l.take (i + 1)))
      ⟨(same_upd hD).but, [], upd_same, rfl, ?_⟩ (fun i H' _ _ => ⟨hk1 H', hk2 H'⟩) ?_ ?_
    · cases l with
      | nil => rfl
      | cons a r => rfl
    · rintro i _ H' _ hi ⟨bt, bs, hDD, hbl, hba⟩ ⟨T', x1, y1, rfl, nT, rfl, hx1, hy1⟩
      have h1 : i + 1 < l.length := by omega
      have ex : x1 = sgn l[i] := by
        have : (l.map sgn)[i]? = some x1 := hx1
        rw [List.getElem?_map, List.getElem?_eq_getElem (by omega)] at this
        exact (Option.some.inj this).symm
      have ey : y1 = sgn l[i + 1] := by
        have : ((l.drop 1).map sgn)[i]? = some y1 := hy1
        rw [List.getElem?_map, List.getElem?_drop, Nat.add_comm 1 i, List.getElem?_eq_getElem h1] at this
        exact (Option.some.inj this).symm
      subst ex ey
      have nDT : D ≠ T' := ne_of_none hDD nT
      refine ⟨T', _, rfl, SqT.of upd_same, rfl, _, _, rfl, _, [], rfl, rfl, rfl, ?_⟩
      refine ⟨_, rfl, _, rfl, _, _, rfl, rfl, _, (same_upd nT) _ _ hDD, by rw [List.length_map]; exact sz1 (by omega), fun a o n e => ?_, bs ++ [decide (l[i] < l[i + 1])], ?_, by rw [List.length_append, hbl]; rfl, ?_⟩
      · rw [upd_ne n]
        exact (same_upd nT) _ _ (bt a o n e)
      · rw [upd_same, List.map_append]
        exact congrArg (fun z => some (HO.lst (bs.map V.bl ++ [V.bl z]))) (lt_sgn _ _)
      · rw [List.all_append, hba, asc_next l i h1]
        show (_ && (_ && true)) = _
        rw [Bool.and_true]
        rfl
    · rintro H' ⟨bt, bs, hDD, hbl, hba⟩
      refine ⟨D, bs, rfl, SqL.of hDD, ?_⟩
      rw [hba, List.take_of_length_le (by omega)]
      exact q _ (but_fresh (Same.refl H) hD bt)
abbrev s_is_choice : Stmt := topS 17
theorem sc_is_choice : FnScope ["value", "letters", "most"] ["value", "letters", "most"] (defScope s_is_choice) := ⟨rfl, rfl, rfl, by decide +kernel, rfl, by decide +kernel, by decide +kernel⟩
theorem ok_is_choice {f : Addr} {fd : FuncData} (F : Fun K "is_choice" "is_choice" s_is_choice f fd) (T : Z mg) (c_is_string : Cal P w K mg base CX0 1 "is_string" s_is_string ["value", "faces"] (sp_is_string K))
    (c_is_ascending : Cal P w K mg base CX0 1 "is_ascending" s_is_ascending ["text"] (sp_is_ascending K)) : FnOk P w K mg base CX0 2 f fd ["value", "letters", "most"] (sp_is_choice K) := by
  refine F.ok sc_is_choice (fun vs H Q E h => ?_) (fun cdv A outer s H vs Q E hr h => ?_)
  · obtain ⟨v, L, m, rfl, _⟩ := h
    rfl
  · obtain ⟨v, L, m, rfl, hv, q⟩ := h
    refine ⟨_, (pss_cons (ps_if (PW.pt (pw_or (pt_not (pt_val (pe_callB call_isi (by rfl) T.z_isinstance (by decide +kernel) (pa_cons (pv 0) (pa_cons (pe_bltn (v := .ty "str") (u := .type "str") (by rfl) T.z_str (by decide +kernel) rfl) pa_nil))))) (pw_or1 (pt_not (pt_chain op_le op_le pe_int (pe_callB call_len_str (by rfl) T.z_len (by decide +kernel) (pa_cons (pv 0) pa_nil)) (pv 2)))))) (pss_one (ps_ret pe_bl)) pss_nil)
      (pss_one (ps_ret (pe_and (pe_c c_is_string hr (by decide) (by rfl) (pa_cons (pv 0) (pa_cons (pv 1) pa_nil))) (pe_one (pe_c c_is_ascending hr (by decide) (by rfl) (pa_cons (pv 0) pa_nil))))))), ?_⟩
    rcases hv with ⟨hs, hl⟩ | ⟨hs, Ty, ht, hk⟩
    · obtain ⟨z, rfl⟩ := str_of hs
      have hl : z.cps.size ≤ 100000 := hl
      refine ⟨_, rfl, _, _, _, _, true, rfl, .ty _, .base (.str z), kit_ty (by decide +kernel), true, rfl, iteF ?_⟩
      refine ⟨_, rfl, z, rfl, sz hl, _, _, rfl, rfl, _, rfl, ?_⟩
      cases h1 : decide ((1 : Int) ≤ (z.length : Int)) with
      | false =>
        refine iteF ⟨_, rfl, iteT ?_⟩
        have e : bChoice (.str z) L m = false := bChoice_1 h1
        rw [e] at q
        exact q _ (Same.refl H)
      | true =>
        refine iteT ⟨_, rfl, _, _, rfl, rfl, _, rfl, ?_⟩
        cases h2 : decide ((z.length : Int) ≤ m) with
        | false =>
          refine iteT ?_
          have e : bChoice (.str z) L m = false := bChoice_2 h2
          rw [e] at q
          exact q _ (Same.refl H)
        | true =>
          refine iteF ?_
          refine ⟨_, rfl, _, rfl, _, _, rfl, .inl ⟨rfl, hl⟩, fun H1 s1 => ⟨_, rfl, ?_⟩⟩
          have e : bChoice (.str z) L m = (bString (.str z) (S L) && ascB z.cps.toList) := bChoice_3 h1 h2
          cases h3 : bString (.str z) (S L) with
          | false =>
            rw [h3] at e
            rw [e] at q
            exact iteF (q _ s1)
          | true =>
            rw [h3] at e
            refine iteT ⟨_, rfl, z.cps.toList, by rw [S_tl z]; rfl, by simpa using hl, fun H2 s2 => ?_⟩
            rw [e] at q
            exact q _ (s1.trans s2)
    · refine ⟨_, rfl, _, _, _, _, false, rfl, .ty _, ht, kit_ty hk, false, rfl, iteT (iteT ?_)⟩
      have e : bChoice v L m = false := by
        unfold bChoice
        rw [hs]
        rfl
      rw [e] at q
      exact q _ (Same.refl H)
abbrev s_is_faces : Stmt := topS 18
theorem sc_is_faces : FnScope ["value"] ["value"] (defScope s_is_faces) := ⟨rfl, rfl, rfl, by decide +kernel, rfl, by decide +kernel, by decide +kernel⟩
theorem ok_is_faces {f : Addr} {fd : FuncData} (F : Fun K "is_faces" "is_faces" s_is_faces f fd) {t1 t2 : Tok} (g__LOWER : mg "_LOWER" = some (.str "abcdefghijklmnopqrstuvwxyz" t1)) (g__MOST_FACES : mg "_MOST_FACES" = some (.int 6 t2))
    (c_is_choice : Cal P w K mg base CX0 2 "is_choice" s_is_choice ["value", "letters", "most"] (sp_is_choice K)) : FnOk P w K mg base CX0 3 f fd ["value"] (sp_is_faces K) := by
  refine F.ok sc_is_faces (fun vs H Q E h => ?_) (fun cdv A outer s H vs Q E hr h => ?_)
  · obtain ⟨v, rfl, _⟩ := h
    rfl
  · obtain ⟨v, rfl, hv, q⟩ := h
    refine ⟨_, (pss_one (ps_ret (pe_c c_is_choice hr (by decide) (by rfl) (pa_cons (pv 0) (pa_cons (pe_glob (v := .str "abcdefghijklmnopqrstuvwxyz") rfl g__LOWER ⟨_, rfl⟩) (pa_cons (pe_glob (v := .int 6) rfl g__MOST_FACES ⟨_, rfl⟩) pa_nil)))))), ?_⟩
    exact ⟨_, rfl, v, lower, 6, rfl, hv, q⟩
abbrev s_is_cutters : Stmt := topS 19
theorem sc_is_cutters : FnScope ["value"] ["value"] (defScope s_is_cutters) := ⟨rfl, rfl, rfl, by decide +kernel, rfl, by decide +kernel, by decide +kernel⟩
theorem ok_is_cutters {f : Addr} {fd : FuncData} (F : Fun K "is_cutters" "is_cutters" s_is_cutters f fd) {t1 t2 : Tok} (g__UPPER : mg "_UPPER" = some (.str "ABCDEFGHIJKLMNOPQRSTUVWXYZ" t1)) (g__MOST_CUTTERS : mg "_MOST_CUTTERS" = some (.int 4 t2))
    (c_is_choice : Cal P w K mg base CX0 2 "is_choice" s_is_choice ["value", "letters", "most"] (sp_is_choice K)) : FnOk P w K mg base CX0 3 f fd ["value"] (sp_is_cutters K) := by
  refine F.ok sc_is_cutters (fun vs H Q E h => ?_) (fun cdv A outer s H vs Q E hr h => ?_)
  · obtain ⟨v, rfl, _⟩ := h
    rfl
  · obtain ⟨v, rfl, hv, q⟩ := h
    refine ⟨_, (pss_one (ps_ret (pe_c c_is_choice hr (by decide) (by rfl) (pa_cons (pv 0) (pa_cons (pe_glob (v := .str "ABCDEFGHIJKLMNOPQRSTUVWXYZ") rfl g__UPPER ⟨_, rfl⟩) (pa_cons (pe_glob (v := .int 4) rfl g__MOST_CUTTERS ⟨_, rfl⟩) pa_nil)))))), ?_⟩
    exact ⟨_, rfl, v, upper, 4, rfl, hv, q⟩
theorem kb_is_cutters_0_value : KB K "is_cutters" s_is_cutters ["value"] ["value"] one1 one1 := kb_one fun _ _ _ _ _ _ _ => rfl
abbrev s_is_letter : Stmt := topS 21
theorem sc_is_letter : FnScope ["value", "letters"] ["value", "letters"] (defScope s_is_letter) := ⟨rfl, rfl, rfl, by decide +kernel, rfl, by decide +kernel, by decide +kernel⟩
theorem ok_is_letter {f : Addr} {fd : FuncData} (F : Fun K "is_letter" "is_letter" s_is_letter f fd) (T : Z mg) : FnOk P w K mg base CX0 1 f fd ["value", "letters"] (sp_is_letter K) := by
  refine F.ok sc_is_letter (fun vs H Q E h => ?_) (fun cdv A outer s H vs Q E hr h => ?_)
  · obtain ⟨v, L, rfl, _⟩ := h
    rfl
  · obtain ⟨v, L, rfl, hv, q⟩ := h
    refine ⟨_, (pss_one (ps_ret (pe_and (pe_callB call_isi (by rfl) T.z_isinstance (by decide +kernel) (pa_cons (pv 0) (pa_cons (pe_bltn (v := .ty "str") (u := .type "str") (by rfl) T.z_str (by decide +kernel) rfl) pa_nil))) (pe_and (pe_cmpR op_eq (pe_callB call_len_str (by rfl) T.z_len (by decide +kernel) (pa_cons (pv 0) pa_nil)) pe_int (nomark _)) (pe_one (pe_cmpR op_in_sign (pv 0) (pv 1) rfl)))))), ?_⟩
    have q1 := q _ (Same.refl H)
    rcases hv with ⟨hs, hl⟩ | ⟨hs, Ty, ht, hk⟩
    · obtain ⟨z, rfl⟩ := str_of hs
      refine ⟨_, rfl, _, _, _, _, true, rfl, .ty _, .base (.str z), kit_ty (by decide +kernel), true, rfl, iteT ?_⟩
      refine ⟨_, rfl, z, rfl, sz hl, rfl, _, rfl, ?_⟩
      by_cases h1 : z.cps.size = 1
      · rw [show decide (V.int (z.length : Int) = V.int 1) = true from decide_eq_true (by rw [show z.length = 1 from h1]; rfl)]
        refine iteT ?_
        obtain ⟨c, rfl⟩ : ∃ c, z = S [c] := by
          obtain ⟨⟨l⟩⟩ := z
          match l, h1 with
          | [c], _ => exact ⟨c, rfl⟩
        refine ⟨_, rfl, _, rfl, c, _, rfl, rfl, ?_⟩
        exact q1
      · rw [show decide (V.int (z.length : Int) = V.int 1) = false from decide_eq_false fun e => h1 (by
          have e1 := V.int.inj e
          show z.length = 1
          omega)]
        refine iteF ?_
        have e : bLetter (.str z) L = false := by
          unfold bLetter
          rw [show decide ((strOf (V.str z)).cps.size = 1) = false from decide_eq_false h1, Bool.and_false, Bool.false_and]
        rw [e] at q1
        exact q1
    · refine ⟨_, rfl, _, _, _, _, false, rfl, .ty _, ht, kit_ty hk, false, rfl, iteF ?_⟩
      have e : bLetter v L = false := by
        unfold bLetter
        rw [hs, Bool.false_and, Bool.false_and]
      rw [e] at q1
      exact q1
abbrev s_is_cut : Stmt := topS 23
theorem sc_is_cut : FnScope ["value", "faces"] ["value", "faces"] (defScope s_is_cut) := ⟨rfl, rfl, rfl, by decide +kernel, rfl, by decide +kernel, by decide +kernel⟩
theorem ok_is_cut {f : Addr} {fd : FuncData} (F : Fun K "is_cut" "is_cut" s_is_cut f fd) (T : Z mg) (c_is_string : Cal P w K mg base CX0 1 "is_string" s_is_string ["value", "faces"] (sp_is_string K)) : FnOk P w K mg base CX0 2 f fd ["value", "faces"] (sp_is_cut K) := by
  refine F.ok sc_is_cut (fun vs H Q E h => ?_) (fun cdv A outer s H vs Q E hr h => ?_)
  · obtain ⟨v, fs, rfl, _⟩ := h
    rfl
  · obtain ⟨v, fs, rfl, hv, q⟩ := h
    refine ⟨_, (pss_cons (ps_if (PW.pt (pw_or (pt_not (pt_val (pe_callB call_isi (by rfl) T.z_isinstance (by decide +kernel) (pa_cons (pv 0) (pa_cons (pe_bltn (v := .ty "str") (u := .type "str") (by rfl) T.z_str (by decide +kernel) rfl) pa_nil))))) (pw_or1 (pt_cmpR op_ne (pe_callB call_len_str (by rfl) T.z_len (by decide +kernel) (pa_cons (pv 0) pa_nil)) pe_int (nomark _))))) (pss_one (ps_ret pe_bl)) pss_nil)
      (pss_one (ps_ret (pe_and (pe_cmpR op_in_sign (pe_ix ix_str (pv 0) pe_int (fun _ _ => rfl)) pe_str rfl) (pe_one (pe_c c_is_string hr (by decide) (by rfl) (pa_cons (pe_slice sl_str (pv 0) (po_some pe_int) po_none) (pa_cons (pv 1) pa_nil)))))))), ?_⟩
    rcases hv with ⟨hs, hl⟩ | ⟨hs, Ty, ht, hk⟩
    · obtain ⟨z, rfl⟩ := str_of hs
      refine ⟨_, rfl, _, _, _, _, true, rfl, .ty _, .base (.str z), kit_ty (by decide +kernel), true, rfl, iteF ?_⟩
      refine ⟨_, rfl, z, rfl, sz hl, rfl, _, rfl, ?_⟩
      by_cases h3 : z.cps.size = 3
      · have e3 : decide (V.int (z.length : Int) = V.int 3) = true := decide_eq_true (by rw [show z.length = 3 from h3]; rfl)
        rw [e3]
        refine iteF ?_
        have h0 : atI z.cps.toList 0 = some (z.cps.toList.getD 0 0) := by
          refine atI_nat (j := 0) ?_
          rw [List.getD_eq_getElem?_getD]
          have : 0 < z.cps.toList.length := by simp; omega
          rw [List.getElem?_eq_getElem this]
          rfl
        refine ⟨_, rfl, z, 0, _, rfl, rfl, sz hl, h0, _, _, rfl, rfl, _, rfl, ?_⟩
        cases hb : decide (z.cps.toList.getD 0 0 ∈ ("|-" : Str).cps.toList) with
        | false =>
          refine iteF ?_
          have e : bCut (.str z) fs = false := by
            unfold bCut
            show ((true && decide (z.cps.size = 3)) && decide (z.cps.toList.getD 0 0 ∈ ("|-" : Str).cps.toList) && _) = false
            rw [hb, Bool.and_false, Bool.false_and]
          rw [e] at q
          exact q _ (Same.refl H)
        | true =>
          refine iteT ?_
          refine ⟨_, rfl, 1, rfl, z, rfl, sz hl, _, rfl, _, fs, rfl, .inl ⟨rfl, ?_⟩, fun H' sm => ?_⟩
          · rw [cutS_from (by omega)]
            show (z.cps.toList.drop 1).toArray.size ≤ 100000
            simp
            omega
          · have e : bCut (.str z) fs = bString (.str (cutS z (some 1) none)) fs := by
              rw [cutS_from (by omega)]
              unfold bCut bString
              show ((true && decide (z.cps.size = 3)) && decide (z.cps.toList.getD 0 0 ∈ ("|-" : Str).cps.toList) && _) = _
              rw [hb, decide_eq_true h3]
              rfl
            rw [e] at q
            exact q _ sm
      · have e3 : decide (V.int (z.length : Int) = V.int 3) = false := decide_eq_false fun q => h3 (by
          have q1 := V.int.inj q
          show z.length = 3
          omega)
        rw [e3]
        refine iteT ?_
        have e : bCut (.str z) fs = false := by
          unfold bCut
          show ((true && decide (z.cps.size = 3)) && _ && _) = false
          rw [decide_eq_false h3]
          rfl
        rw [e] at q
        exact q _ (Same.refl H)
    · refine ⟨_, rfl, _, _, _, _, false, rfl, .ty _, ht, kit_ty hk, false, rfl, iteT ?_⟩
      refine iteT ?_
      have e : bCut v fs = false := by
        unfold bCut
        rw [hs]
        rfl
      rw [e] at q
      exact q _ (Same.refl H)
theorem kb_is_cut_0_faces_value : KB K "is_cut" s_is_cut ["value", "faces"] ["faces", "value"] swp swp := kb_swap fun _ _ _ _ _ _ _ _ => rfl
abbrev s_is_part : Stmt := topS 25
theorem sc_is_part : FnScope ["value", "letters"] ["value", "letters"] (defScope s_is_part) := ⟨rfl, rfl, rfl, by decide +kernel, rfl, by decide +kernel, by decide +kernel⟩
def bPart (v : V) (L : List Nat) : Bool := bLetter v [46] || bChoice v L (L.length : Int)
def sp_is_part (K : PySem.W.Frag) : Sp := fun vs H Q _ => ∃ (z : Str) (L : List Nat), vs = [.str z, .str (S L)] ∧ z.cps.size ≤ 100000 ∧ L.length ≤ 1000 ∧ ∀ H', Same H H' → Q (.bl (bPart (.str z) L)) H'
theorem ok_is_part {f : Addr} {fd : FuncData} (F : Fun K "is_part" "is_part" s_is_part f fd) (T : Z mg) (c_is_letter : Cal P w K mg base CX0 1 "is_letter" s_is_letter ["value", "letters"] (sp_is_letter K))
    (c_is_choice : Cal P w K mg base CX0 2 "is_choice" s_is_choice ["value", "letters", "most"] (sp_is_choice K)) : FnOk P w K mg base CX0 3 f fd ["value", "letters"] (sp_is_part K) := by
  refine F.ok sc_is_part (fun vs H Q E h => ?_) (fun cdv A outer s H vs Q E hr h => ?_)
  · obtain ⟨z, L, rfl, _⟩ := h
    rfl
  · obtain ⟨z, L, rfl, hz, hL, q⟩ := h
    refine ⟨_, (pss_one (ps_ret (pe_or (pe_c c_is_letter hr (by decide) (by rfl) (pa_cons (pv 0) (pa_cons pe_str pa_nil))) (pe_one (pe_c c_is_choice hr (by decide) (by rfl) (pa_cons (pv 0) (pa_cons (pv 1) (pa_cons (pe_callB call_len_str (by rfl) T.z_len (by decide +kernel) (pa_cons (pv 1) pa_nil)) pa_nil)))))))), ?_⟩
    refine ⟨_, rfl, .str z, [46], rfl, .inl ⟨rfl, hz⟩, fun H1 s1 => ⟨_, rfl, ?_⟩⟩
    cases e : bLetter (.str z) [46] with
    | true =>
      refine iteT ?_
      have q1 := q _ s1
      unfold bPart at q1
      rw [e] at q1
      exact q1
    | false =>
      refine iteF ⟨_, rfl, _, rfl, _, rfl, S L, rfl, by rw [S_len]; exact sz (by omega), .str z, L, _, congrArg (fun n : Nat => [V.str z, V.str (S L), V.int n]) (S_len L), .inl ⟨rfl, hz⟩, fun H2 s2 => ?_⟩
      have q1 := q _ (s1.trans s2)
      unfold bPart at q1
      rw [e] at q1
      exact q1
abbrev s_is_line : Stmt := topS 26
theorem sc_is_line : FnScope ["value", "faces", "cutters", "part"] ["value", "faces", "cutters"] (defScope s_is_line) := ⟨rfl, rfl, rfl, by decide +kernel, rfl, by decide +kernel, by decide +kernel⟩
/-- six texts that are a line -/
def bLine (a b c d e u F C : List Nat) : Bool := ([a, b, c, d].all fun p => bPart (.str (S p)) F) && bPart (.str (S e)) C && (decide (V.str (S u) = V.str "") || bCut (.str (S u)) (S F))
def sp_is_line (K : PySem.W.Frag) : Sp := fun vs H Q _ => ∃ (t : Addr) (a b c d e u F C : List Nat), vs = [.ref t, .str (S F), .str (S C)] ∧ SqT K H t [.str (S a), .str (S b), .str (S c), .str (S d), .str (S e), .str (S u)] ∧
  (∀ p ∈ [a, b, c, d, e, u, F, C], p.length ≤ 1000) ∧ ∀ H', Same H H' → Q (.bl (bLine a b c d e u F C)) H'
theorem ok_is_line {f : Addr} {fd : FuncData} (F : Fun K "is_line" "is_line" s_is_line f fd) (T : Z mg) (c_is_part : Cal P w K mg base CX0 3 "is_part" s_is_part ["value", "letters"] (sp_is_part K))
    (c_is_cut : Cal P w K mg base CX0 2 "is_cut" s_is_cut ["value", "faces"] (sp_is_cut K)) : FnOk P w K mg base CX0 4 f fd ["value", "faces", "cutters"] (sp_is_line K) := by
  refine F.ok sc_is_line (fun vs H Q E h => ?_) (fun cdv A outer s H vs Q E hr h => ?_)
  · obtain ⟨t, a, b, c, d, e, u, F, C, rfl, _⟩ := h
    rfl
  · obtain ⟨t, a, b, c, d, e, u, fs, cs, rfl, hS, hl, q⟩ := h
    have la : ∀ p ∈ [a, b, c, d, e, u], (S p).cps.size ≤ 100000 := fun p hp => Nat.le_trans (hl p (List.mem_append_left [fs, cs] hp)) (by decide)
    refine ⟨_, (pss_cons (ps_if (PW.pt (pw_or (pt_not (pt_val (pe_callB call_isi (by rfl) T.z_isinstance (by decide +kernel) (pa_cons (pv 0) (pa_cons (pe_bltn (v := .ty "tuple") (u := .type "tuple") (by rfl) T.z_tuple (by decide +kernel) rfl) pa_nil))))) (pw_or1 (pt_cmpR op_ne (pe_callB call_len_seq (by rfl) T.z_len (by decide +kernel) (pa_cons (pv 0) pa_nil)) pe_int (nomark _))))) (pss_one (ps_ret pe_bl)) pss_nil)
      (pss_cons (ps_if (PW.pt (pw_or (pt_not (pt_val (pe_callB (cr_all rfl) (by rfl) T.z_all (by decide +kernel) (pa_cons (pe_lc (own := [("part", 3)]) (g := (gName 3)) (by rfl) sc_is_line.nd (pi_tup (pe_slice sl_tup (pv 0) po_none (po_some pe_int))) (blkOk_by (N := ["value", "faces", "cutters", "part"]) (sc := defScope s_is_line) (by decide +kernel)) (fun _ _ _ _ _ => (pg_name (i := 3) sc_is_line.nd rfl (.inl rfl))) (fun _ _ _ _ _ => pts_nil) (fun _ _ _ _ _ => (pe_c c_is_part hr (by decide) (by rfl) (pa_cons (pv 3) (pa_cons (pv 1) pa_nil))))) pa_nil)))) (pw_or1 (pt_not (pt_val (pe_c c_is_part hr (by decide) (by rfl) (pa_cons (pe_ix ix_tup (pv 0) pe_int (fun _ _ => rfl)) (pa_cons (pv 2) pa_nil)))))))) (pss_one (ps_ret pe_bl)) pss_nil)
      (pss_one (ps_ret (pe_or (pe_cmpR op_eq (pe_ix ix_tup (pv 0) pe_int (fun _ _ => rfl)) pe_str (nomark _)) (pe_one (pe_c c_is_cut hr (by decide) (by rfl) (pa_cons (pe_ix ix_tup (pv 0) pe_int (fun _ _ => rfl)) (pa_cons (pv 1) pa_nil))))))))), ?_⟩
    refine ⟨_, rfl, _, _, _, _, true, rfl, .ty _, tyT hS, kit_ty (by decide +kernel), true, rfl, iteF ?_⟩
    refine ⟨_, rfl, t, _, rfl, .inr hS, rfl, _, rfl, ?_⟩
    refine iteF ?_
    refine ⟨_, rfl, 4, rfl, t, _, rfl, hS, (show ¬ (HT.sIx 6 0 none = 0 ∧ HT.sIx 6 6 (some 4) = 6) by decide), fun p np => ?_⟩
    have s1 := same_upd (o := HO.tup [V.str (S a), V.str (S b), V.str (S c), V.str (S d)]) np
    have hP : SqT K (upd H p (HO.tup [V.str (S a), V.str (S b), V.str (S c), V.str (S d)])) p ([a, b, c, d].map fun x => V.str (S x)) := SqT.of upd_same
    refine ⟨p, rfl, ⟨_, hP⟩, fun D hD => ?_⟩
    have hpD : p ≠ D := fun z => by
      rw [← z, upd_same] at hD
      cases hD
    refine lc_it (walk_tup (xs := [a, b, c, d].map fun x => V.str (S x))) (fun i H' => But D (upd H p (HO.tup [V.str (S a), V.str (S b), V.str (S c), V.str (S d)])) H' ∧ H' D = some (.lst (([a, b, c, d].take i).map fun x => V.bl (bPart (.str (S x)) fs))))
      ⟨(same_upd hD).but, upd_same⟩ (fun i H' _ pv => pv.1.tup hpD hP) ?_ ?_
    · rintro i x H' _ hi ⟨bt, hDD⟩ ⟨rfl, hx⟩
      rw [List.getElem?_map] at hx
      obtain ⟨y, hy, rfl⟩ := Option.map_eq_some_iff.mp hx
      have hm : y ∈ [a, b, c, d] := List.mem_of_getElem? hy
      refine ⟨rfl, ?_⟩
      refine ⟨_, rfl, _, rfl, S y, fs, rfl, la y (List.mem_append_left [e, u] hm), hl fs (by simp), fun H2 s2 => ?_⟩
      refine ⟨_, s2 _ _ hDD, by rw [List.length_map, List.length_take]; exact sz1 (Nat.le_trans (Nat.min_le_right _ _) (show 4 ≤ 100000 by decide)), fun z o n e => ?_, ?_⟩
      · rw [upd_ne n]
        exact s2 _ _ (bt z o n e)
      · rw [upd_same, List.take_add_one, hy, List.map_append]
        rfl
    rintro H1 ⟨bt, hDD⟩
    have sH : Same H H1 := s1.trans (but_fresh (Same.refl _) hD bt)
    refine ⟨D, [a, b, c, d].map fun x => bPart (.str (S x)) fs, rfl, SqL.of (hDD.trans ?_), _, rfl, ?_⟩
    · rw [List.map_map]
      rfl
    rw [List.all_map]
    have q0 : ∀ v, bLine a b c d e u fs cs = v → ∀ H', Same H H' → Q (.bl v) H' := fun v e => e ▸ q
    unfold bLine at q0
    cases e1 : ([a, b, c, d].all (id ∘ fun x => bPart (V.str (S x)) fs)) with
    | false => exact iteT (iteT (q0 _ (by rw [show ([a, b, c, d].all fun p => bPart (.str (S p)) fs) = false from e1]; rfl) _ sH))
    | true =>
      refine iteF ?_
      refine ⟨_, rfl, t, _, 4, _, rfl, rfl, sH.tup hS, rfl, _, rfl, S e, cs, rfl, la e (by simp), hl cs (by simp), fun H2 s2 => ⟨_, rfl, ?_⟩⟩
      cases e2 : bPart (.str (S e)) cs with
      | false => exact iteT (q0 _ (by rw [show ([a, b, c, d].all fun p => bPart (.str (S p)) fs) = true from e1, e2]; rfl) _ (sH.trans s2))
      | true =>
        refine iteF ?_
        have s3 := sH.trans s2
        refine ⟨_, rfl, t, _, 5, _, rfl, rfl, s3.tup hS, rfl, rfl, _, rfl, ?_⟩
        have eu : (([a, b, c, d].all fun p => bPart (.str (S p)) fs) && bPart (.str (S e)) cs && (decide (V.str (S u) = V.str "") || bCut (.str (S u)) (S fs))) = (decide (V.str (S u) = V.str "") || bCut (.str (S u)) (S fs)) := by
          rw [show ([a, b, c, d].all fun p => bPart (.str (S p)) fs) = true from e1, e2]
          rfl
        cases e3 : decide (V.str (S u) = V.str "") with
        | true => exact iteT (q0 _ (by rw [eu, e3]; rfl) _ s3)
        | false => exact iteF ⟨_, rfl, t, _, 5, _, rfl, rfl, s3.tup hS, rfl, _, rfl, .str (S u), S fs, rfl, .inl ⟨rfl, la u (by simp)⟩, fun H3 s4 => q0 _ (by rw [eu, e3]; rfl) _ (s3.trans s4)⟩
abbrev s_line_of : Stmt := topS 29
theorem sc_line_of : FnScope ["row", "faces", "cutters", "words", "line"] ["row", "faces", "cutters"] (defScope s_line_of) := ⟨rfl, rfl, rfl, by decide +kernel, rfl, by decide +kernel, by decide +kernel⟩
def noneL : List Nat := [110, 111, 110, 101]
/-- the last word of a line's text -/
def wordU (u : List Nat) : List Nat := if u = [] then noneL else u
def rowT (a b c d e u : List Nat) : Str := Txt.join " " ([a, b, c, d, e, wordU u].map S)
theorem rowT_len {a b c d e u : List Nat} (h : ∀ p ∈ [a, b, c, d, e, u], p.length ≤ 1000) : (rowT a b c d e u).length ≤ 7000 := by
  unfold rowT
  rw [show (" " : Str) = S [32] from rfl, SX.join_S, S_len]
  have hw : (wordU u).length ≤ 1004 := by
    unfold wordU
    split
    · exact (show 4 ≤ 1004 by decide)
    · exact Nat.le_trans (h u (by simp)) (by decide)
  have h1 := h a (by simp)
  have h2 := h b (by simp)
  have h3 := h c (by simp)
  have h4 := h d (by simp)
  have h5 := h e (by simp)
  show (a ++ ([32] ++ (b ++ ([32] ++ (c ++ ([32] ++ (d ++ ([32] ++ (e ++ ([32] ++ wordU u)))))))))).length ≤ 7000
  simp only [List.length_append, List.length_cons, List.length_nil]
  omega
def sp_line_of (K : PySem.W.Frag) : Sp := fun vs H Q _ => ∃ (a b c d e u F C : List Nat), vs = [.str (rowT a b c d e u), .str (S F), .str (S C)] ∧ (∀ p ∈ [a, b, c, d, e, u, F, C], p.length ≤ 1000) ∧ (∀ p ∈ [a, b, c, d, e, u], 32 ∉ p) ∧ u ≠ noneL ∧ bLine a b c d e u F C = true ∧
  ∀ H' p, Same H H' → H p = none → H' p = some (.tup [.str (S a), .str (S b), .str (S c), .str (S d), .str (S e), .str (S u)]) → Q (.ref p) H'
theorem ok_line_of {f : Addr} {fd : FuncData} (F : Fun K "line_of" "line_of" s_line_of f fd) (T : Z mg)
    (c_is_line : Cal P w K mg base CX0 4 "is_line" s_is_line ["value", "faces", "cutters"] (sp_is_line K)) : FnOk P w K mg base CX0 5 f fd ["row", "faces", "cutters"] (sp_line_of K) := by
  refine F.ok sc_line_of (fun vs H Q E h => ?_) (fun cdv A outer s H vs Q E hr h => ?_)
  · obtain ⟨a, b, c, d, e, u, F, C, rfl, _⟩ := h
    rfl
  · obtain ⟨a, b, c, d, e, u, fs, cs, rfl, hl, hs, hn, hb, q⟩ := h
    refine ⟨_, (pss_cons (ps_set (i := 3) sc_line_of.nd rfl (.inl rfl) (pe_split (pv 0) pe_str))
      (pss_cons (ps_if (PW.pt (pw_or (pt_cmpR op_ne (pe_callB call_len_seq (by rfl) T.z_len (by decide +kernel) (pa_cons (pv 3) pa_nil)) pe_int (nomark _)) (pw_or1 (pt_cmpR op_eq (pe_ix ix_list (pv 3) pe_int (fun _ _ => rfl)) pe_str (nomark _))))) (pss_one (ps_ret pe_non)) pss_nil)
      (pss_cons (ps_if (pt_cmpR op_eq (pe_ix ix_list (pv 3) pe_int (fun _ _ => rfl)) pe_str (nomark _)) (pss_one (ps_asg pe_str (pg_sub (pv 3) pe_int set_list))) pss_nil)
      (pss_cons (ps_set (i := 4) sc_line_of.nd rfl (.inl rfl) (pe_tupleOf (by rfl) T.z_tuple (pv 3)))
      (pss_one (ps_ret (pe_ifExp (pt_val (pe_c c_is_line hr (by decide) (by rfl) (pa_cons (pv 4) (pa_cons (pv 1) (pa_cons (pv 2) pa_nil))))) (pv 4) pe_non))))))), ?_⟩
    have hl6 : ∀ p ∈ [a, b, c, d, e, u], p.length ≤ 1000 := fun p hp => hl p (List.mem_append_left [fs, cs] hp)
    have hw32 : 32 ∉ wordU u := by
      unfold wordU
      split
      · decide
      · exact hs u (by simp)
    have hsp : Txt.split (rowT a b c d e u) " " = [a, b, c, d, e, wordU u].map S := TL.split_join (s := 32) (S := []) rfl (by decide +kernel) (by simp) (fun p hp => by
      obtain ⟨x, hx, rfl⟩ := List.mem_map.mp hp
      show 32 ∉ x
      simp only [List.mem_cons, List.not_mem_nil, or_false] at hx
      rcases hx with rfl | rfl | rfl | rfl | rfl | rfl
      · exact hs _ (by simp)
      · exact hs _ (by simp)
      · exact hs _ (by simp)
      · exact hs _ (by simp)
      · exact hs _ (by simp)
      · exact hw32)
    refine ⟨_, rfl, ⟨_, rfl⟩, _, _, rfl, rfl, rfl, Nat.le_trans (Nat.add_le_add_right (rowT_len hl6) 2) (by decide), fun p np => ?_⟩
    rw [hsp]
    have hu0 : wordU u ≠ [] := by
      unfold wordU
      split
      · decide
      · assumption
    have g5 : (upd H p (.lst (([a, b, c, d, e, wordU u].map S).map V.str))) p = some (.lst [V.str (S a), V.str (S b), V.str (S c), V.str (S d), V.str (S e), V.str (S (wordU u))]) := upd_same
    have sp := same_upd (o := HO.lst (([a, b, c, d, e, wordU u].map S).map V.str)) np
    generalize upd H p (.lst (([a, b, c, d, e, wordU u].map S).map V.str)) = H1 at g5 sp
    refine ⟨_, rfl, p, _, rfl, .inl (SqL.of g5), rfl, _, rfl, ?_⟩
    refine iteF ⟨_, rfl, p, _, 5, _, rfl, rfl, SqL.of g5, rfl, rfl, _, rfl, ?_⟩
    rw [show decide (V.str (S (wordU u)) = V.str "") = false from decide_eq_false fun z => hu0 (congrArg (fun x : Str => x.cps.toList) (V.str.inj z))]
    refine iteF ?_
    refine ⟨_, rfl, p, _, 5, _, rfl, rfl, SqL.of g5, rfl, rfl, _, rfl, ?_⟩
    -- behind the last word
    have fin : ∀ H2, (∀ b o, b ≠ p → H1 b = some o → H2 b = some o) → ∀ t, H2 t = none → ∀ H', Same (upd H2 t (.tup [V.str (S a), V.str (S b), V.str (S c), V.str (S d), V.str (S e), V.str (S u)])) H' → Q (.ref t) H' := fun H2 kp t nt H' s' => by
      have s2 : Same H H2 := fun z o hz => kp z o (ne_of_none hz np) (sp z o hz)
      have nt0 : H t = none := by
        cases z : H t with
        | none => rfl
        | some o => rw [s2 _ _ z] at nt; cases nt
      exact q _ t ((s2.trans (same_upd nt)).trans s') nt0 (s' _ _ upd_same)
    by_cases hu : u = []
    · have ew : wordU u = noneL := if_pos hu
      rw [show decide (V.str (S (wordU u)) = V.str "none") = true from decide_eq_true (by rw [ew]; rfl)]
      refine iteT ?_
      refine ⟨_, rfl, p, _, 5, 5, rfl, rfl, g5, rfl, ?_⟩
      have g6 : (upd H1 p (.lst [V.str (S a), V.str (S b), V.str (S c), V.str (S d), V.str (S e), V.str ""])) p = some (.lst [V.str (S a), V.str (S b), V.str (S c), V.str (S d), V.str (S e), V.str (S u)]) := by
        rw [upd_same, hu]
        rfl
      have kp : ∀ z o, z ≠ p → H1 z = some o → (upd H1 p (.lst [V.str (S a), V.str (S b), V.str (S c), V.str (S d), V.str (S e), V.str ""])) z = some o := fun z o n h => (upd_ne n).trans h
      refine ⟨_, rfl, .inl ⟨p, _, rfl, SqL.of g6, fun t nt => ?_⟩⟩
      refine ⟨_, rfl, _, rfl, _, rfl, t, a, b, c, d, e, u, fs, cs, rfl, SqT.of upd_same, hl, fun H' s' => ⟨_, rfl, ?_⟩⟩
      rw [hb]
      exact iteT ⟨_, rfl, fin _ kp t nt H' s'⟩
    · have ew : wordU u = u := if_neg hu
      rw [ew] at g5
      rw [show decide (V.str (S (wordU u)) = V.str "none") = false from decide_eq_false fun z => hn (by
        rw [ew] at z
        exact congrArg (fun x : Str => x.cps.toList) (V.str.inj z))]
      refine iteF ?_
      refine ⟨_, rfl, .inl ⟨p, _, rfl, SqL.of g5, fun t nt => ?_⟩⟩
      refine ⟨_, rfl, _, rfl, _, rfl, t, a, b, c, d, e, u, fs, cs, rfl, SqT.of upd_same, hl, fun H' s' => ⟨_, rfl, ?_⟩⟩
      rw [hb]
      exact iteT ⟨_, rfl, fin H1 (fun _ _ _ h => h) t nt H' s'⟩
abbrev s_head_of : Stmt := topS 28
theorem sc_head_of : FnScope ["row", "words"] ["row"] (defScope s_head_of) := ⟨rfl, rfl, rfl, by decide +kernel, rfl, by decide +kernel, by decide +kernel⟩
def headT (F C : List Nat) : Str := Txt.join " " ([F, C].map S)
def sp_head_of (K : PySem.W.Frag) : Sp := fun vs H Q _ => ∃ (F C : List Nat), vs = [.str (headT F C)] ∧ F.length ≤ 1000 ∧ C.length ≤ 1000 ∧ 32 ∉ F ∧ 32 ∉ C ∧ bFaces (.str (S F)) = true ∧ bCutters (.str (S C)) = true ∧
  ∀ H' p, Same H H' → H p = none → H' p = some (.tup [.str (S F), .str (S C)]) → Q (.ref p) H'
theorem ok_head_of {f : Addr} {fd : FuncData} (F : Fun K "head_of" "head_of" s_head_of f fd) (T : Z mg) (c_is_faces : Cal P w K mg base CX0 3 "is_faces" s_is_faces ["value"] (sp_is_faces K))
    (c_is_cutters : Cal P w K mg base CX0 3 "is_cutters" s_is_cutters ["value"] (sp_is_cutters K)) : FnOk P w K mg base CX0 4 f fd ["row"] (sp_head_of K) := by
  refine F.ok sc_head_of (fun vs H Q E h => ?_) (fun cdv A outer s H vs Q E hr h => ?_)
  · obtain ⟨F, C, rfl, _⟩ := h
    rfl
  · obtain ⟨fs, cs, rfl, l1, l2, h1, h2, b1, b2, q⟩ := h
    refine ⟨_, (pss_cons (ps_set (i := 1) sc_head_of.nd rfl (.inl rfl) (pe_split (pv 0) pe_str))
      (pss_cons (ps_if (PW.pt (pw_or (pt_cmpR op_ne (pe_callB call_len_seq (by rfl) T.z_len (by decide +kernel) (pa_cons (pv 1) pa_nil)) pe_int (nomark _)) (pw_or (pt_not (pt_val (pe_c c_is_faces hr (by decide) (by rfl) (pa_cons (pe_ix ix_list (pv 1) pe_int (fun _ _ => rfl)) pa_nil)))) (pw_or1 (pt_not (pt_val (pe_c c_is_cutters hr (by decide) (by rfl) (pa_cons (pe_ix ix_list (pv 1) pe_int (fun _ _ => rfl)) pa_nil)))))))) (pss_one (ps_ret pe_non)) pss_nil)
      (pss_one (ps_ret (pe_tup (pa_cons (pe_ix ix_list (pv 1) pe_int (fun _ _ => rfl)) (pa_cons (pe_ix ix_list (pv 1) pe_int (fun _ _ => rfl)) pa_nil))))))), ?_⟩
    have hlen : (headT fs cs).length ≤ 3000 := by
      unfold headT
      rw [show (" " : Str) = S [32] from rfl, SX.join_S, S_len]
      show (fs ++ ([32] ++ cs)).length ≤ 3000
      simp only [List.length_append, List.length_cons, List.length_nil]
      omega
    have hsp : Txt.split (headT fs cs) " " = [fs, cs].map S := TL.split_join (s := 32) (S := []) rfl (by decide +kernel) (by simp) (fun p hp => by
      obtain ⟨x, hx, rfl⟩ := List.mem_map.mp hp
      show 32 ∉ x
      simp only [List.mem_cons, List.not_mem_nil, or_false] at hx
      rcases hx with rfl | rfl
      · exact h1
      · exact h2)
    refine ⟨_, rfl, ⟨_, rfl⟩, _, _, rfl, rfl, rfl, Nat.le_trans (Nat.add_le_add_right hlen 2) (by decide), fun p np => ?_⟩
    rw [hsp]
    have g5 : (upd H p (.lst (([fs, cs].map S).map V.str))) p = some (.lst [V.str (S fs), V.str (S cs)]) := upd_same
    have sp := same_upd (o := HO.lst (([fs, cs].map S).map V.str)) np
    generalize upd H p (.lst (([fs, cs].map S).map V.str)) = H1 at g5 sp
    refine ⟨_, rfl, p, _, rfl, .inl (SqL.of g5), rfl, _, rfl, ?_⟩
    refine iteF ⟨_, rfl, p, _, 0, _, rfl, rfl, SqL.of g5, rfl, .str (S fs), rfl, .inl ⟨rfl, (show fs.length ≤ 100000 by omega)⟩, fun H2 s2 => ⟨_, rfl, ?_⟩⟩
    rw [b1]
    refine iteF ⟨_, rfl, p, _, 1, _, rfl, rfl, SqL.of (s2 _ _ g5), rfl, .str (S cs), rfl, .inl ⟨rfl, (show cs.length ≤ 100000 by omega)⟩, fun H3 s3 => ⟨_, rfl, ?_⟩⟩
    rw [b2]
    refine iteF ?_
    have s4 := s2.trans s3
    refine ⟨_, rfl, p, _, 0, _, rfl, rfl, SqL.of (s4 _ _ g5), rfl, _, rfl, p, _, 1, _, rfl, rfl, SqL.of (s4 _ _ g5), rfl, (show 2 ≤ sizeLine by decide), fun t nt => ?_⟩
    have s5 := sp.trans s4
    have nt0 : H t = none := by
      cases z : H t with
      | none => rfl
      | some o =>
        rw [s5 _ _ z] at nt
        cases nt
    exact q _ t (s5.trans (same_upd nt)) nt0 upd_same
abbrev s_Book_init : Stmt := inCls (topS 31) 1
theorem sc_Book_init : FnScope ["self", "faces", "cutters", "lines", "at", "line"] ["self", "faces", "cutters", "lines"] (defScope s_Book_init) := ⟨rfl, rfl, rfl, by decide +kernel, rfl, by decide +kernel, by decide +kernel⟩
/-- one line of a book: where its tuple stands, its six texts -/
abbrev LineV : Type := Addr × List Nat × List Nat × List Nat × List Nat × List Nat × List Nat
def LineV.tup (r : LineV) : HO := .tup [.str (S r.2.1), .str (S r.2.2.1), .str (S r.2.2.2.1), .str (S r.2.2.2.2.1), .str (S r.2.2.2.2.2.1), .str (S r.2.2.2.2.2.2)]
structure LineOk (r : LineV) (F C : List Nat) : Prop where
  ln : ∀ p ∈ [r.2.1, r.2.2.1, r.2.2.2.1, r.2.2.2.2.1, r.2.2.2.2.2.1, r.2.2.2.2.2.2], p.length ≤ 1000
  ok : bLine r.2.1 r.2.2.1 r.2.2.2.1 r.2.2.2.2.1 r.2.2.2.2.2.1 r.2.2.2.2.2.2 F C = true
/-- the lines as they stand -/
structure LinesAt (H : Hp) (ls : List LineV) (F C : List Nat) : Prop where
  at_ : ∀ r ∈ ls, H r.1 = some r.tup
  ok : ∀ r ∈ ls, LineOk r F C
  few : ls.length ≤ 8
theorem LinesAt.same {H H' : Hp} {ls : List LineV} {F C : List Nat} (h : LinesAt H ls F C) (s : Same H H') : LinesAt H' ls F C := ⟨fun r hr => s _ _ (h.at_ r hr), h.ok, h.few⟩
def bookF (F C : List Nat) (tl : Addr) : List (Str × V) := [("faces", .str (S F)), ("cutters", .str (S C)), ("_lines", .ref tl)]
def sp_Book_init (K : PySem.W.Frag) : Sp := fun vs H Q _ => ∃ (x CB dx tl : Addr) (F C : List Nat) (ls : List LineV), vs = [.ref x, .str (S F), .str (S C), .ref tl] ∧ H x = some (.ins CB dx []) ∧ Cls K CB ∧ NoAttr K CB "faces" ∧ NoAttr K CB "cutters" ∧ NoAttr K CB "_lines" ∧
  bFaces (.str (S F)) = true ∧ bCutters (.str (S C)) = true ∧ F.length ≤ 1000 ∧ C.length ≤ 1000 ∧ H tl = some (.tup (ls.map fun r => V.ref r.1)) ∧ LinesAt H ls F C ∧ ∀ H', Same H H' → Q .non (upd H' x (.ins CB dx (bookF F C tl)))
theorem fn_Book_init {f CB : Addr} {fd : FuncData} {t8 : Tok} {mc : Value} (F : Fun K "__init__" "Book.__init__" s_Book_init f fd) (T : Z mg) (gB : mg "Book" = some (.ref CB)) (rC : ClX.CRead K CB mc) (vM : ClX.CVal K CB mc "MOST" (.int 8) (.int 8 t8))
    (c_is_faces : Cal P w K mg base CX0 3 "is_faces" s_is_faces ["value"] (sp_is_faces K)) (c_is_cutters : Cal P w K mg base CX0 3 "is_cutters" s_is_cutters ["value"] (sp_is_cutters K))
    (c_is_line : Cal P w K mg base CX0 4 "is_line" s_is_line ["value", "faces", "cutters"] (sp_is_line K)) :
    FnR P w K mg base CX0 6 f (fun vs H Q E => ∃ ws rest, vs = ws ++ rest ∧ ws.length = ["self", "faces", "cutters"].length ∧ rest.length ≤ sizeLine ∧ ∀ p, H p = none → sp_Book_init K (ws ++ [V.ref p]) (upd H p (.tup rest)) Q E) := by
  obtain ⟨oc, od, kV, doc, pm, an, cdv, ct, osl, rfl, lk, hcd⟩ := F.ex
  refine StX.fn_star (ps := ["self", "faces", "cutters"]) (pv := "lines") lk hcd sc_Book_init StX.cxUp_none (bind_star3 (B := fun us => bindArgs (PySem.W.fnOf "__init__" "Book.__init__" (defArgs s_Book_init) (defBody s_Book_init) (defScope s_Book_init) .none kV doc pm an cdv ct) ⟨us, []⟩) (p1 := "self") (p2 := "faces") (p3 := "cutters") (pv := "lines") (fun _ _ _ => rfl) (fun _ _ _ _ _ => rfl)) (fun A outer s H vs Q E hr h => ?_)
  obtain ⟨x, CB', dx, tl, fs, cs, ls, rfl, hx, hC, nf, nc, nl, b1, b2, l1, l2, ht, hL, q⟩ := h
  refine ⟨_, PSs.nox (pss_cons (ps_if (pt_not (pt_val (pe_c c_is_faces hr (by decide) (by rfl) (pa_cons (pv 1) pa_nil)))) pss_never pss_nil)
    (pss_cons (ps_if (pt_not (pt_val (pe_c c_is_cutters hr (by decide) (by rfl) (pa_cons (pv 2) pa_nil)))) pss_never pss_nil)
    (pss_cons (ps_for PassesOwn.never rfl (pi_enumG (by rfl) T.z_enumerate (pa_cons (pv 3) pa_nil)) (pg_tup rfl (pgs_cons (pg_name (i := 4) sc_Book_init.nd rfl (.inl rfl)) (pgs_cons (pg_name (i := 5) sc_Book_init.nd rfl (.inl rfl)) pgs_nil)))
      (pss_one (ps_if (PW.pt (pw_or (pt_cmpR op_ge (pv 4) (ClX.pe_cval (pe_glob (v := .ref CB) rfl gB rfl)) (nomark _)) (pw_or1 (pt_not (pt_val (pe_c c_is_line hr (by decide) (by rfl) (pa_cons (pv 5) (pa_cons (pv 1) (pa_cons (pv 2) pa_nil))))))))) pss_never pss_nil)))
    (pss_cons (ps_fld (pv 0) (pv 1) rfl)
    (pss_cons (ps_fld (pv 0) (pv 2) rfl)
    (pss_one (ps_fld (pv 0) (pv 3) rfl))))))), ?_⟩
  refine ⟨_, rfl, .str (S fs), rfl, .inl ⟨rfl, (show fs.length ≤ 100000 by omega)⟩, fun H1 s1 => ⟨_, rfl, ?_⟩⟩
  rw [b1]
  refine iteF ⟨_, rfl, .str (S cs), rfl, .inl ⟨rfl, (show cs.length ≤ 100000 by omega)⟩, fun H2 s2 => ⟨_, rfl, ?_⟩⟩
  rw [b2]
  refine iteF ?_
  have s12 := s1.trans s2
  refine ⟨_, rfl, .ref tl, ls.map fun r => V.ref r.1, rfl, .t (SqT.of (s12 _ _ ht)), fun k ev src => ?_⟩
  have stay : ∀ H', Same H2 H' → k.src K H' (ls.map fun r => V.ref r.1) := fun H' s => by
    cases k with
    | l a => exact s.seq src
    | t a => exact s.tup src
    | s z t => cases ev
  refine for_it walk_enumG (fun i σ H' => ∃ y4 y5 : Option V, σ = [some (.ref x), some (.str (S fs)), some (.str (S cs)), some (.ref tl), y4, y5] ∧ Same H2 H') ⟨_, _, rfl, Same.refl _⟩ (fun i σ H' _ ⟨_, _, _, s⟩ => stay H' s) ?_ ?_
  · rintro i v σ H3 H4 hi ⟨y4, y5, rfl, s3⟩ ⟨T', a1, b1', rfl, nT, rfl, hx1, hy1⟩
    obtain rfl : V.int (i : Nat) = a1 := Option.some.inj hx1
    have hy2 : (ls.map fun r => V.ref r.1)[i]? = some b1' := hy1
    rw [List.getElem?_map] at hy2
    obtain ⟨r, hr1, rfl⟩ := Option.map_eq_some_iff.mp hy2
    have hm := List.mem_of_getElem? hr1
    have hi8 : i < 8 := Nat.lt_of_lt_of_le (by simpa using hi) hL.few
    have s4 := (s12.trans s3).trans (same_upd (o := HO.tup [V.int (i : Nat), V.ref r.1]) nT)
    have hok := hL.ok r hm
    refine ⟨T', _, rfl, SqT.of upd_same, rfl, _, _, rfl, _, [], rfl, rfl, ?_⟩
    refine ⟨_, rfl, CB, mc, .int 8, _, rfl, rC, vM, _, _, rfl, rfl, _, rfl, ?_⟩
    rw [show decide ((8 : Int) ≤ ((i : Nat) : Int)) = false from decide_eq_false (by omega)]
    refine iteF ?_
    have hat := s4 _ _ (hL.at_ r hm)
    refine ⟨_, rfl, _, rfl, _, rfl, r.1, _, _, _, _, _, _, fs, cs, rfl, SqT.of hat, fun p hp => ?_, fun H5 s5 => ⟨_, rfl, ?_⟩⟩
    · have hp' : p ∈ [r.2.1, r.2.2.1, r.2.2.2.1, r.2.2.2.2.1, r.2.2.2.2.2.1, r.2.2.2.2.2.2] ++ [fs, cs] := hp
      rcases List.mem_append.mp hp' with h | h
      · exact hok.ln p h
      · simp only [List.mem_cons, List.not_mem_nil, or_false] at h
        rcases h with rfl | rfl
        · exact l1
        · exact l2
    · rw [hok.ok]
      exact iteF ⟨_, _, rfl, (s3.trans (same_upd nT)).trans s5⟩
  · rintro σ H3 ⟨y4, y5, rfl, s3⟩
    have s4 := s12.trans s3
    refine ⟨_, rfl, _, rfl, x, CB', dx, [], rfl, s4 _ _ hx, hC, nf, by decide, ?_⟩
    refine ⟨_, rfl, _, rfl, x, CB', dx, _, rfl, upd_same, hC, nc, (show 1 < 1000 by decide), ?_⟩
    refine ⟨_, rfl, _, rfl, x, CB', dx, _, rfl, upd_same, hC, nl, (show 2 < 1000 by decide), ?_⟩
    rw [upd_upd, upd_upd]
    exact q _ s4
end
end FW
namespace FW
open PySem PySem.Spec PyProof.Rows L2
/-! ### a lambda as a thing of the heap; with defaults or without -/
/-- its names, cells and code object; what it answers; its defaults' tuple -/
structure LF where
  F : NdefX.NF
  e : Expr
  dV : Value
abbrev LF.fd (l : LF) (doc pm ctv : Value) : FuncData := PySem.W.kdv_fn l.F.name l.F.qual l.F.params (.expr l.e) l.F.scope l.F.cl l.dV doc pm (.ref l.F.c) ctv
abbrev LF.ob (l : LF) (doc pm ctv : Value) : Obj := { cls := .type "function", data := .func (l.fd doc pm ctv) }
def LamO (f : Addr) (l : LF) : HO := .ext fun h => ∃ doc pm ctv : Value, h.get? f = some (l.ob doc pm ctv)
theorem lamO_ne {f : Addr} {l : LF} (ps : Array Value) : LamO f l ≠ .tbl ps := by
  intro z
  unfold LamO at z
  cases z
theorem lamO_at {P : Program} {w : World} {H : Hp} {h : Heap} {f : Addr} {l : LF} (ok : HOk P w H h) (e : H f = some (LamO f l)) : ∃ doc pm ctv : Value, h.get? f = some (l.ob doc pm ctv) := (ok f _ e).1
/-- the lambda l stands at f, its code object too, its defaults are dvs -/
structure LamAt (H : Hp) (f : Addr) (l : LF) (dvs : List V) : Prop where
  fn : H f = some (LamO f l)
  co : H l.F.c = some (LamX.CodeO l.F.c l.F.qual)
  df : (dvs = [] ∧ l.dV = .none) ∨ (dvs ≠ [] ∧ ∃ T, l.dV = .ref T ∧ H T = some (.tup dvs))
theorem LamAt.ext {H H' : Hp} {f : Addr} {l : LF} {dvs : List V} (a : LamAt H f l dvs) (e : LamX.ExtN H H') : LamAt H' f l dvs :=
  ⟨e _ _ a.fn lamO_ne, e _ _ a.co LamX.codeO_ne, a.df.imp id fun ⟨n, T, h1, h2⟩ => ⟨n, T, h1, e _ _ h2 (fun _ z => by cases z)⟩⟩
theorem LamAt.same {H H' : Hp} {f : Addr} {l : LF} {dvs : List V} (a : LamAt H f l dvs) (e : Same H H') : LamAt H' f l dvs := a.ext fun b o h _ => e b o h
section
variable {X : Cx} {pins : List (Addr × Obj)} {σ : L2.St} {H : Hp} {s : Shared}
theorem inv_lam {l : LF} {t' : Nat} {doc pm ctv : Value} (I : Inv X pins σ H s) : Inv X pins σ (upd H s.heap.objs.size (LamO s.heap.objs.size l)) { s with heap := s.heap.push (l.ob doc pm ctv), toks := t' } := by
  have e : (s.heap.push (l.ob doc pm ctv)).get? s.heap.objs.size = some (l.ob doc pm ctv) := Heap.get?_push_size _ rfl
  exact I.laid (a := s.heap.objs.size) (fun _ _ q => Heap.get?_push_of_some _ q) (Nat.le_refl _) ⟨⟨doc, pm, ctv, e⟩, ⟨_, e⟩, fun h1 h2 ⟨d, p, t, z⟩ st => ⟨d, p, t, st _ z⟩⟩
/-- a lambda's object is made; its code object is new, or stands in the table -/
theorem lamD_make {T : List (Addr × Str)} {c P : Addr} {params : Arguments} {body : Expr} {scope : Scope} {pos : Pos} {dV : Value} {E Q : Value → Shared → Prop} (I : Inv X pins σ H s) (TB : LamX.TabB X.base X.mg c P)
    (hcode : X.env.code = .ref c) (hm : (P, X.env.qual ++ "<lambda>") ∈ T) (hu : ∀ p ∈ T, p.1 = P → p.2 = X.env.qual ++ "<lambda>")
    (hT : LamX.Tabs T H) (hfree : ∀ y ∈ scope.names, y.2 = .free → ∃ c, X.env.cells.lookup y.1 = some c)
    (h : ∀ (f c' : Addr) (H1 : Hp) (s' : Shared), Inv X pins σ H1 s' → LamX.ExtN H H1 → LamX.Tabs T H1 → H f = none →
      H1 f = some (LamO f ⟨⟨"<lambda>", X.env.qual ++ "<lambda>", params, [], scope, cloFrom X.env.cells scope.names [], c'⟩, body, dV⟩) → H1 c' = some (LamX.CodeO c' (X.env.qual ++ "<lambda>")) → Q (.ref f) s') :
    wpAny (model X.prog X.w) X.A (makeTail "<lambda>" (X.env.qual ++ "<lambda>") params (.expr body) scope X.env dV .none none pos pos.line) Q E s := by
  obtain ⟨ps, atP, tri, among⟩ := (show LamX.TabS H P (X.env.qual ++ "<lambda>") from hT _ hm)
  have bP := TB.bm.keeps I.bk
  have obP : s.heap.get? P = some { cls := .none, data := .fields ps } := I.hok P _ atP
  have tabStep : ∀ {H1 : Hp} {f : Addr} {l : LF}, LamX.Tabs T H1 → H1 f = none → LamX.Tabs T (upd H1 f (LamO f l)) := fun t n => t.ext fun b o e => by rw [upd_ne (ne_of_none e n)]; exact e
  have extStep : ∀ {H1 : Hp} {f : Addr} {l : LF}, LamX.ExtN H H1 → H1 f = none → LamX.ExtN H (upd H1 f (LamO f l)) := fun t n b o e q => by
    have z := t b o e q
    rw [upd_ne (ne_of_none z n)]
    exact z
  cases hc : codeAmong pos ps.toList with
  | some cv =>
    obtain ⟨c', rfl, hco⟩ := among pos cv hc
    refine PySem.W.kdv_makeTailHit (mg := X.mg) (c := c) (P := P) (ps := ps) (closure_ok hfree) I.ok.glob (I.mod.glob.keeps I.bk) hcode (TB.code.keeps I.bk) obP tri hc bP fun ctv doc h' tk hx hsz => ?_
    have I1 : Inv X pins σ H { s with heap := h', toks := tk } := I.kept hx
    have nF : H h'.objs.size = none := I1.hok.fresh (Nat.le_refl _)
    refine h h'.objs.size c' _ _ (inv_lam (t' := tk) I1) (extStep (LamX.ExtN.refl H) nF) (tabStep hT nF) nF upd_same ?_
    rw [upd_ne (ne_of_none hco nF)]
    exact hco
  | none =>
    refine PySem.W.kdv_makeTail (mg := X.mg) (c := c) (P := P) (ps := ps) (closure_ok hfree) I.ok.glob (I.mod.glob.keeps I.bk) hcode (TB.code.keeps I.bk) obP tri hc TB.gP bP fun c' ctv doc h' tk hx hge hlt hrec htb => ?_
    obtain ⟨c2, oc, vs, t, e2, hoc, hd, hv⟩ := hrec
    cases e2
    have nC : H c' = none := I.hok.fresh hge
    have I1 := LamX.inv_table (t' := tk) (more := #[rawInt pos.line, rawInt pos.col, .ref c']) I atP hx htb hge ⟨oc, vs, t, hoc, hd, hv⟩
    generalize hH1 : upd (upd H P (.tbl (ps ++ #[rawInt pos.line, rawInt pos.col, .ref c']))) c' (LamX.CodeO c' (X.env.qual ++ "<lambda>")) = H1 at I1
    have at1 : H1 c' = some (LamX.CodeO c' (X.env.qual ++ "<lambda>")) := by
      rw [← hH1]
      exact upd_same
    have hE : LamX.ExtN H H1 := fun b o e n => by
      rw [← hH1, upd_ne (ne_of_none e nC), upd_ne (fun z => n ps (by rw [z, atP] at e; exact (Option.some.inj e).symm))]
      exact e
    have T1 : LamX.Tabs T H1 := by
      intro p hp
      by_cases hb : p.1 = P
      · rw [hu p hp hb, hb]
        refine ⟨ps ++ #[rawInt pos.line, rawInt pos.col, .ref c'], ?_, ?_, fun p' cv hcv => ?_⟩
        · rw [← hH1, upd_ne (ne_of_none atP nC), upd_same]
        · rw [Array.toList_append]
          exact PySem.TriplesOk_snoc _ _ _ _ tri
        · rw [Array.toList_append] at hcv
          rcases LamX.among_app _ tri hcv with z | z
          · obtain ⟨c0, e1, e2⟩ := among p' cv z
            exact ⟨c0, e1, hE _ _ e2 LamX.codeO_ne⟩
          · exact ⟨c', z, at1⟩
      · obtain ⟨ps', a1, a2, a3⟩ := hT p hp
        refine ⟨ps', ?_, a2, fun p' cv hcv => ?_⟩
        · rw [← hH1, upd_ne (ne_of_none a1 nC), upd_ne hb]
          exact a1
        · obtain ⟨c0, e1, e2⟩ := a3 p' cv hcv
          exact ⟨c0, e1, hE _ _ e2 LamX.codeO_ne⟩
    have nF : H1 h'.objs.size = none := I1.hok.fresh (Nat.le_refl _)
    refine h h'.objs.size c' _ _ (inv_lam (t' := tk) I1) (extStep hE nF) (tabStep T1 nF) (I.hok.fresh (Nat.le_trans hge (Nat.le_of_lt hlt))) upd_same ?_
    rw [upd_ne (ne_of_none at1 nF)]
    exact at1
end
/-- the reading of a lambda as a value -/
def tLamV (T : List (Addr × Str)) (mk : Addr → Value → LF) (dvs : List V) : TE := fun σ H Q => LamX.Tabs T H ∧ ∀ (f c' : Addr) (dV : Value) (H1 : Hp), LamX.ExtN H H1 → LamX.Tabs T H1 → H f = none → LamAt H1 f (mk c' dV) dvs → Q (.ref f) H1
abbrev lamF (X : Cx) (params : Arguments) (body : Expr) (scope : Scope) (c' : Addr) (dV : Value) : LF := ⟨⟨"<lambda>", X.env.qual ++ "<lambda>", params, [], scope, cloFrom X.env.cells scope.names [], c'⟩, body, dV⟩
def lamFree (sc scope : Scope) : Bool := scope.names.all fun y => !decide (y.2 = .free) || decide (sc.names.lookup y.1 = some .cell) || decide (sc.names.lookup y.1 = some .free)
theorem lam_free {X : Cx} {scope : Scope} (h : lamFree X.env.scope scope = true) (ok : X.Ok) : ∀ y ∈ scope.names, y.2 = .free → ∃ c, X.env.cells.lookup y.1 = some c := by
  unfold lamFree at h
  rw [List.all_eq_true] at h
  intro y hy e
  have z := h y hy
  simp only [e, decide_true, Bool.not_true, Bool.false_or, Bool.or_eq_true, decide_eq_true_eq] at z
  exact ok.has _ z
section
variable {X : Cx}
/-- lambda: body -/
theorem pe_lam0 {T : List (Addr × Str)} {c P : Addr} {params : Arguments} {body : Expr} {scope : Scope} {pos : Pos} (TB : LamX.TabB X.base X.mg c P) (hcode : X.env.code = .ref c) (hm : (P, X.env.qual ++ "<lambda>") ∈ T)
    (hu : ∀ p ∈ T, p.1 = P → p.2 = X.env.qual ++ "<lambda>") (hdef : defaultsOf params X.env = ([], [])) (hfree : lamFree X.env.scope scope = true) :
    PE X (.Lambda params body scope pos) (tLamV T (lamF X params body scope) []) := by
  refine ⟨fun pins s σ H Q I h => ?_⟩
  obtain ⟨hT, h⟩ := h
  refine PySem.W.kla_eval hdef ?_
  rw [makeFunction_eq]
  simp only [List.zip_nil_right, List.filterMap_nil, List.isEmpty_nil, if_true, pure_bind]
  exact lamD_make I TB hcode hm hu hT (lam_free hfree I.ok) fun f c' H1 s' I1 e1 t1 n1 f1 c1 => ⟨.ref f, H1, I1, rfl, h f c' .none H1 e1 t1 n1 ⟨f1, c1, .inl ⟨rfl, rfl⟩⟩⟩
/-- lambda name=n: body -/
theorem pe_lam1 {T : List (Addr × Str)} {c P : Addr} {params : Arguments} {body : Expr} {scope : Scope} {pos : Pos} {n : Int} {j : Nat} {dp : Pos} (TB : LamX.TabB X.base X.mg c P) (hcode : X.env.code = .ref c) (hm : (P, X.env.qual ++ "<lambda>") ∈ T)
    (hu : ∀ p ∈ T, p.1 = P → p.2 = X.env.qual ++ "<lambda>") (hd : params.defaults = [.Constant (.int n) j dp]) (hk : params.kw_defaults = []) (hfree : lamFree X.env.scope scope = true) :
    PE X (.Lambda params body scope pos) (tLamV T (lamF X params body scope) [.int n]) := by
  refine ⟨fun pins s σ H Q I h => ?_⟩
  obtain ⟨hT, h⟩ := h
  refine PySem.W.kdv_lam (by rw [hd]; rfl) hk ?_
  rw [hd]
  refine PySem.W.kdv_all1 (thn ((pe_int (X := X)).run pins s σ H (fun v H1 => v = .int n ∧ H1 = H) I ⟨rfl, rfl⟩) fun u s1 ⟨v, H1, I1, r, e1, e2⟩ => PySem.W.kdv_all0 ?_)
  subst e1
  subst e2
  rw [makeFunction_eq]
  simp only [List.zip_nil_right, List.filterMap_nil, List.isEmpty_nil, List.isEmpty_cons, if_true, pure_bind, Bool.false_eq_true, if_false]
  refine wpAny_bind (wpAny_newTextTuple ?_)
  have nT : H1 s1.heap.objs.size = none := I1.hok.fresh (Nat.le_refl _)
  have I2 : Inv X pins σ (upd H1 s1.heap.objs.size (.tup [.int n])) { s1 with heap := s1.heap.push { cls := .type "tuple", data := .seq [u].toArray }, toks := s1.toks } :=
    I1.laid (fun _ _ q => Heap.get?_push_of_some _ q) (Nat.le_refl _) ⟨sz1 (by decide), [u], .cons r .nil, ⟨_, Heap.get?_push_size _ rfl, rfl, _, rfl⟩⟩
  have ex : ∀ b o, H1 b = some o → upd H1 s1.heap.objs.size (.tup [.int n]) b = some o := fun b o q => by
    rw [upd_ne (ne_of_none q nT)]
    exact q
  refine lamD_make I2 TB hcode hm hu (hT.ext ex) (lam_free hfree I.ok) fun f c' H3 s' I3 e3 t3 n3 f3 c3 => ⟨.ref f, H3, I3, rfl, ?_⟩
  refine h f c' (.ref s1.heap.objs.size) H3 ((LamX.ExtN.of ex).trans e3) t3 ?_ ⟨f3, c3, .inr ⟨by simp, _, rfl, e3 _ _ upd_same (fun _ z => by cases z)⟩⟩
  exact NdefX.upd_none n3
end
end FW
namespace FW
open PySem PySem.Spec PyProof.Rows L2
/-! ### lambdas in a list, each called two frames below the def that made them -/
theorem mod_more {K : PySem.W.Frag} {mg : Str → Option Value} {base b2 : Heap} (m : Mod K mg base) (k : ∀ b o, base.get? b = some o → b2.get? b = some o) : Mod K mg b2 := by
  obtain ⟨m1, m2, ⟨mb, m3, m4⟩, m5⟩ := m
  exact ⟨m1.keeps k, m2.keeps k, ⟨mb, m3.keeps k, m4⟩, m5.keeps k⟩
theorem funs_more {h base b2 : Heap} : ∀ {l : List Env}, h.FunFrames base l → (∀ b ∈ frs l, b2.get? b = none) → h.FunFrames b2 l
  | [], _, _ => trivial
  | env :: r, ⟨h1, ⟨L, o, hf, hn, ho, hd⟩, h3⟩, n => by
    have e : frs (env :: r) = L :: frs r := by
      unfold frs
      rw [List.filterMap_cons, hf]
    rw [e] at n
    exact ⟨h1, ⟨L, o, hf, n L (List.mem_cons_self), ho, hd⟩, funs_more h3 fun b hb => n b (List.mem_cons_of_mem _ hb)⟩
/-- a ground that holds less -/
theorem env0_less {P : Program} {w : World} {K : PySem.W.Frag} {mg : Str → Option Value} {base b2 : Heap} {A : Around} {outer : List Env} {s : Shared} {H : Hp} (e0 : Env0 P w K mg b2 A outer s H) (m : Mod K mg base) (sub : ∀ b o, base.get? b = some o → b2.get? b = some o)
    (sz : base.objs.size ≤ b2.objs.size) : Env0 P w K mg base A outer s H := by
  refine ⟨e0.frames, m, fun b o e => e0.bs b o (sub b o e), Nat.le_trans sz e0.bsz, ?_, e0.frf, e0.hok, e0.bare⟩
  refine funs_more e0.funs fun b hb => ?_
  cases e : base.get? b with
  | none => rfl
  | some o =>
    have z := (e0.funs.mem hb).1
    rw [sub b o e] at z
    cases z
/-- the ground, with the cells of the def that runs -/
theorem ground_cells {X : Cx} {pins : List (Addr × Obj)} {σ : L2.St} {H : Hp} {s : Shared} (I : Inv X pins σ H s) (hfn : ∀ x, X.fn x = true) (hst : X.stack = X.env :: X.outer) (hf : X.env.frame = some X.env.locals) :
    ∃ b2 : Heap, (∀ b o, X.base.get? b = some o → b2.get? b = some o) ∧ X.base.objs.size ≤ b2.objs.size ∧ Env0 X.prog X.w X.K X.mg b2 X.A X.stack s H ∧ ∀ y c, X.env.cells.lookup y = some c → ∀ v, s.heap.IsCell c v → b2.IsCell c v := by
  let isC : Addr → Bool := fun b => X.env.cells.any fun p => decide (X.env.cells.lookup p.1 = some b)
  have hC1 : ∀ b, isC b = true → ∃ y, X.env.cells.lookup y = some b := fun b e => by
    obtain ⟨p, _, hp⟩ := List.any_eq_true.mp e
    exact ⟨p.1, of_decide_eq_true hp⟩
  have hC2 : ∀ y b, X.env.cells.lookup y = some b → isC b = true := fun y b e => List.any_eq_true.mpr ⟨(y, b), PySem.mem_of_lookup e, decide_eq_true e⟩
  let hid : List Addr := (List.range s.heap.objs.size).filter fun b => (X.base.get? b).isNone && !isC b
  have up : ∀ b o, X.base.get? b = some o → (PySem.W.hideAll s.heap hid).get? b = some o := fun b o e => by
    refine PySem.W.hideAll_get hid (I.bk b o e) fun hm => ?_
    have z := (List.mem_filter.mp hm).2
    rw [e] at z
    simp at z
  have dn : ∀ b o, (PySem.W.hideAll s.heap hid).get? b = some o → s.heap.get? b = some o ∧ ((∃ u, X.base.get? b = some u) ∨ ∃ y, X.env.cells.lookup y = some b) := fun b o e => by
    have e1 := PySem.W.of_hideAll hid e
    refine ⟨e1, ?_⟩
    cases q : X.base.get? b with
    | some u => exact .inl ⟨u, rfl⟩
    | none =>
      cases q2 : isC b with
      | true => exact .inr (hC1 b q2)
      | false =>
        have hm : b ∈ hid := List.mem_filter.mpr ⟨List.mem_range.mpr (Heap.lt_size e1), by rw [q, q2]; rfl⟩
        have z := PySem.W.hideAll_none hid (h := s.heap) hm
        rw [e] at z
        cases z
  have sz : (PySem.W.hideAll s.heap hid).objs.size = s.heap.objs.size := PySem.W.hideAll_size hid s.heap
  have e0 := I.env0
  refine ⟨PySem.W.hideAll s.heap hid, up, by rw [sz]; exact e0.bsz, ⟨e0.frames, mod_more e0.mod up, fun b o e => ?_, Nat.le_of_eq sz, ?_, e0.frf, e0.hok, e0.bare⟩, fun y c e v ⟨o, ho, hd⟩ => ?_⟩
  · obtain ⟨e1, z⟩ := dn b o e
    refine ⟨e1, ?_⟩
    rcases z with ⟨u, z⟩ | ⟨y, z⟩
    · exact (e0.bs b u z).2
    · exact I.freeC y b z
  · refine funs_more e0.funs fun b hb => ?_
    cases q : (PySem.W.hideAll s.heap hid).get? b with
    | none => rfl
    | some o =>
      exfalso
      rcases (dn b o q).2 with ⟨u, z⟩ | ⟨y, z⟩
      · have z2 := (e0.funs.mem hb).1
        rw [z] at z2
        cases z2
      · rcases List.mem_cons.mp (I.stkSub b hb) with e | e
        · exact I.cne y b z e
        · obtain ⟨_, o2, ho2, _⟩ := I.ok.funs.mem e
          exact absurd (Nat.lt_of_lt_of_le (Heap.lt_size ho2) (I.ok.cab y b (hfn y) z)) (Nat.lt_irrefl _)
  · refine ⟨o, PySem.W.hideAll_get hid ho fun hm => ?_, hd⟩
    have z := (List.mem_filter.mp hm).2
    rw [hC2 y c e] at z
    simp at z
/-- what the cells hold, told of the ground -/
abbrev CellsIn (cl : List (Str × Addr)) (fr : List Str) (ws : List (Option V)) (g : Heap) : Prop := NdefX.CellsAt cl fr ws g fun _ => none
theorem cells_in {X : Cx} {b2 : Heap} {H : Hp} {s : Shared} {cl : List (Str × Addr)} {fr : List Str} {ws : List (Option V)} (C : NdefX.CellsAt cl fr ws s.heap H) (hs : ∀ y c, cl.lookup y = some c → ∃ y', X.env.cells.lookup y' = some c)
    (k : ∀ y c, X.env.cells.lookup y = some c → ∀ v, s.heap.IsCell c v → b2.IsCell c v) : CellsIn cl fr ws b2 := by
  have k2 : ∀ y c, cl.lookup y = some c → ∀ v, s.heap.IsCell c v → b2.IsCell c v := fun y c e v z => by
    obtain ⟨y', e'⟩ := hs y c e
    exact k y' c e' v z
  refine ⟨C.len, fun y c e => ?_, C.inj, fun i y e => ?_⟩
  · obtain ⟨_, v, z⟩ := C.all y c e
    exact ⟨rfl, v, k2 y c e v z⟩
  · obtain ⟨c, hc, hv⟩ := C.has i y e
    refine ⟨c, hc, fun v ev => ?_⟩
    obtain ⟨u, r, z⟩ := hv v ev
    exact ⟨u, r, k2 y c hc _ z⟩
theorem cells_out {b2 : Heap} {H : Hp} {h : Heap} {cl : List (Str × Addr)} {fr : List Str} {ws : List (Option V)} (C : CellsIn cl fr ws b2) (bs : ∀ b o, b2.get? b = some o → h.get? b = some o ∧ H b = none) : NdefX.CellsAt cl fr ws h H := by
  have k : ∀ c v, b2.IsCell c v → h.IsCell c v ∧ H c = none := fun c v ⟨o, ho, hd⟩ => ⟨⟨o, (bs c o ho).1, hd⟩, (bs c o ho).2⟩
  refine ⟨C.len, fun y c e => ?_, C.inj, fun i y e => ?_⟩
  · obtain ⟨_, v, z⟩ := C.all y c e
    exact ⟨(k c _ z).2, v, (k c _ z).1⟩
  · obtain ⟨c, hc, hv⟩ := C.has i y e
    refine ⟨c, hc, fun v ev => ?_⟩
    obtain ⟨u, r, z⟩ := hv v ev
    exact ⟨u, r, (k c _ z).1⟩
/-- what a call of the lambda does, by what its cells hold -/
def LamRun (P : Program) (w : World) (K : PySem.W.Frag) (mg : Str → Option Value) (base : Heap) (k : Nat) (l : LF) (dvs : List V) (fr : List Str) (tb : List (Option V) → XK → Hp → VK → Prop) : Prop :=
  ∀ (A : Around) (outer : List Env) (s : Shared) (H : Hp) (f : Addr) (ws : List (Option V)) (Q : VK) (E : XK), Room k A → Env0 P w K mg base A outer s H → LamAt H f l dvs → NdefX.CellsAt l.F.cl fr ws s.heap H → tb ws E H Q →
    codeAny (model P w) A (.call (.ref f) ⟨[], []⟩) (CR (L2.CX P w) outer P w H s Q E) s
/-- what its parameters are bound to -/
def LamBinds (P : Program) (w : World) (l : LF) (dvs : List V) (ps : List Str) : Prop :=
  ∀ (s : Shared) (H : Hp) (f : Addr), HOk P w H s.heap → LamAt H f l dvs → ∀ doc pm ctv : Value, ∃ us, Vals dvs us ∧ BindsTo s (l.fd doc pm ctv) ⟨[], []⟩ (ps.zip us)
theorem lam_run {P : Program} {w : World} {K : PySem.W.Frag} {mg : Str → Option Value} {base : Heap} {k : Nat} {l : LF} {dvs : List V} {N ps fr : List Str} {tb : XK → TE} (S : NdefX.NScope N ps fr l.F.scope) (hl : dvs.length = ps.length) (hb : LamBinds P w l dvs ps)
    (hbody : ∀ (A : Around) (outer : List Env) (s : Shared) (H : Hp) (E : XK) (f : Addr), Room k (A.deeper (NdefX.envF l.F f s.heap.objs.size)) → PE (NdefX.ncx (L2.CX P w) P w K mg base N l.F f A outer s H E) l.e (tb E)) :
    LamRun P w K mg base (k + 1) l dvs fr fun ws E H Q => tb E (NdefX.startF N dvs ws) H Q := by
  intro A outer s H f ws Q E hr e0 la C h
  obtain ⟨doc, pm, ctv, ho⟩ := lamO_at e0.hok la.fn
  obtain ⟨us, r, hbd⟩ := hb s H f e0.hok la doc pm ctv
  have lim : s.heap.NoLimit := e0.mod.nolimit.keeps fun b o e => (e0.bs b o e).1
  refine PySem.W.kla_callFunE hr.depth ho rfl S.co S.gen rfl (NdefX.codeO_at e0.hok la.co) ?_
  refine hbd _ _ _ _ (wpAny_newFunctionEnv S.nocell (fun ⟨n, _⟩ hy => S.par n (List.of_mem_zip hy).1) (fun h₁ hns hsb => ⟨lim.fresh _ hsb, ?_⟩) S.kind)
  show codeAny _ _ (.expr l.e (NdefX.envF l.F f s.heap.objs.size)) _ _
  have kp : ∀ b o, s.heap.get? b = some o → h₁.get? b = some o := fun b o e => hsb.extBut b o (Nat.ne_of_lt (Heap.lt_size e)) (Heap.get?_push_of_some _ e)
  have I : Inv (NdefX.ncx (L2.CX P w) P w K mg base N l.F f A outer s H E) [] (NdefX.startF N dvs ws) H { s with heap := h₁, toks := s.toks + (ps.zip us).length } := NdefX.inv_startN S hr.hd e0 hl r C hns kp
  refine PySem.W.kla_codeExpr (wpAny_mono ((hbody A outer s H E f (hr.deeper _)).run [] _ _ H Q I h) (fun v s' hq => ?_) fun e s' hq => hq)
  obtain ⟨w', H', J', rv, q⟩ := hq
  exact ⟨w', H', J'.os, J'.bare, J'.base, J'.hok, rv, q⟩
theorem binds_0 {P : Program} {w : World} {l : LF} (h : l.dV = .none → ∀ doc pm ctv : Value, bindArgs (l.fd doc pm ctv) ⟨[], []⟩ = pure []) : LamBinds P w l [] [] := fun s H f _ la doc pm ctv => by
  rcases la.df with ⟨_, e⟩ | ⟨n, _⟩
  · exact ⟨[], .nil, BindsTo.of_eq (h e doc pm ctv)⟩
  · exact absurd rfl n
theorem binds_1 {P : Program} {w : World} {l : LF} {x : V} {p : Str} (h : ∀ doc pm ctv : Value, ∃ k : Option (Array Value) → Sem (List (Str × Value)), bindArgs (l.fd doc pm ctv) ⟨[], []⟩ = seqItems? l.dV >>= k ∧ ∀ u : Value, k (some #[u]) = pure [(p, u)]) : LamBinds P w l [x] [p] := by
  intro s H f ok la doc pm ctv
  rcases la.df with ⟨z, _⟩ | ⟨_, T, e1, e2⟩
  · cases z
  · obtain ⟨_, its, r, ob, hob, _, n, hd⟩ := ok T _ e2
    cases r with
    | cons r rr =>
      cases rr
      obtain ⟨k, h1, h2⟩ := h doc pm ctv
      exact ⟨[_], .cons r .nil, BindsTo.of_defaults (T := T) (o := ob) (n := n) (k := k) e1 hob hd h1 (h2 _)⟩
section
variable {Z : Cx}
/-- a(), a a local that holds the lambda; the ground tells what its cells hold -/
theorem pe_ask {base : Heap} {k : Nat} {f : Addr} {l : LF} {dvs : List V} {fr : List Str} {ws : List (Option V)} {tb : List (Option V) → XK → Hp → VK → Prop} {a : Str} {E : XK} {p1 p2 : Pos} (lr : LamRun Z.prog Z.w Z.K Z.mg base k l dvs fr tb) (C : CellsIn l.F.cl fr ws Z.base)
    (m : Mod Z.K Z.mg base) (sub : ∀ b o, base.get? b = some o → Z.base.get? b = some o) (sz : base.objs.size ≤ Z.base.objs.size) (hr : Room k Z.A) (hx : Passes (L2.CX Z.prog Z.w) Z E) (hN : Z.N[0]? = some a) (hv : Vis Z.env.scope a) (hd : (a == ("__debug__" : Str)) = false) (hcd : (a == ("__classdict__" : Str)) = false) :
    PE Z (.Call (.Name a p1) [] [] p2) (fun σ H Q => σ[0]? = some (some (.ref f)) ∧ H l.F.c = some (LamX.CodeO l.F.c l.F.qual) ∧ LamAt H f l dvs ∧ tb ws E H Q) := by
  refine ⟨fun pins s σ H Q I h => ?_⟩
  obtain ⟨hs, hc, la, ht⟩ := h
  refine wpAny_Call_Name_kw (thn ((pe_var (pos := p1) (i := 0) hN hv hd hcd).run pins s σ H (fun v H1 => v = .ref f ∧ H1 = H) I ⟨.ref f, hs, rfl, rfl⟩) fun u s1 ⟨v, H1, I1, r1, q1⟩ => ?_)
  obtain ⟨ev, eH⟩ := q1
  subst ev
  rw [eH] at I1
  obtain rfl : u = Value.ref f := r1
  obtain ⟨doc, pm, ctv, ho⟩ := lamO_at I1.hok la.fn
  refine PySem.W.callWith_F0 (first := []) ⟨_, _, _, _, ho⟩ ?_
  show wpAny _ _ (call (.ref f) []) _ _ _
  refine wpAny_call (codeAny_mono (lr Z.A Z.stack s1 H f ws Q E hr (env0_less I1.env0 m sub sz) la (cells_out C I1.bs) ht) fun r s' hq => ?_)
  cases r with
  | error e => exact hx pins σ H s1 e s' I1 hq
  | ok fl =>
    cases fl with
    | ret u => exact I1.after hq
    | next => exact False.elim hq
    | brk => exact False.elim hq
    | cont => exact False.elim hq
end
/-- x(y) where y holds a lambda that x calls and whose errors it takes -/
def LamIt (P : Program) (w : World) (K : PySem.W.Frag) (mg : Str → Option Value) (base b2 : Heap) (k : Nat) (cs : List Value) (f : Addr) (H : Hp) (Q : VK) : Prop := ∃ (l : LF) (dvs : List V) (fr : List Str) (ws : List (Option V)) (tb : List (Option V) → XK → Hp → VK → Prop),
  LamAt H f l dvs ∧ LamRun P w K mg base k l dvs fr tb ∧ CellsIn l.F.cl fr ws b2 ∧ ∃ Q0 : VK, TTry K cs (tb ws) H Q0 ∧ ∀ v H', Q0 v H' → Q v H'
def tItem (P : Program) (w : World) (K : PySem.W.Frag) (mg : Str → Option Value) (base b2 : Heap) (k : Nat) (cs : List Value) (i : Nat) : TE := fun σ H Q => ∃ f : Addr, σ[i]? = some (some (.ref f)) ∧ LamIt P w K mg base b2 k cs f H Q
section
variable {X : Cx}
theorem pe_item {base : Heap} {k i : Nat} {cs : List Value} {x a y : Str} {g : Addr} {pg : Arguments} {bg : List Stmt} {sg : Scope} {dV kV doc pm cdv ct oc : Value} {an od : Option Addr} {osl : Array (Option Value)} {Ng : List Str} {p py pos : Pos}
    (m : Mod X.K X.mg base) (sub : ∀ b o, base.get? b = some o → X.base.get? b = some o) (sz : base.objs.size ≤ X.base.objs.size)
    (hg : Gl X x) (hm : X.mg x = some (.ref g)) (hk : PySem.W.keepIn X.K (.ref g) = true) (lk : X.K.lookup g = some ⟨oc, od, .func (PySem.W.fnOf x x pg bg sg dV kV doc pm an cdv ct), osl⟩) (hcg : PySem.W.codeIn X.K cdv x = true)
    (hb : L2.Binds X.K (PySem.W.fnOf x x pg bg sg dV kV doc pm an cdv ct) [a] []) (Sg : FnScope Ng [a] sg) (hNg : Ng[0]? = some a) (hva : Vis sg a) (hG : ∀ q : Str, LamX.GivesTo X Ng x sg g cdv bg a q (TTry X.K cs)) (hr : Room (k + 1) X.A)
    (hN : X.N[i]? = some y) (hv : Vis X.env.scope y)
    (hdb : (x == ("__debug__" : Str)) = false := by decide) (hd : (a == ("__debug__" : Str)) = false := by decide) (hcd : (a == ("__classdict__" : Str)) = false := by decide) (hyd : (y == ("__debug__" : Str)) = false := by decide) (hyc : (y == ("__classdict__" : Str)) = false := by decide) :
    PE X (.Call (.Name x p) [.Name y py] [] pos) (tItem X.prog X.w X.K X.mg base X.base k cs i) := by
  refine ⟨fun pins s σ H Q I h => ?_⟩
  obtain ⟨f, hs, l, dvs, fr, ws, tb, la, lr, C, Q0, ht, hQ⟩ := h
  refine wpAny_Call_Name_kw (ld_glob I hg hm ?_ hdb)
  refine PySem.W.callWith_K (h₀ := X.base) I.ok.mod.kin hk ?_ (by rfl) (by rfl)
  show wpAny _ _ (spliced ((false, eval (.Name y py) X.env) :: backTo pos (starEach [] X.env))) _ _ s
  refine Calls.spliced_cons (thn ((pe_var (pos := py) (i := i) hN hv hyd hyc).run pins s σ H (fun v H1 => v = .ref f ∧ H1 = H) I ⟨.ref f, hs, rfl, rfl⟩) fun u s1 ⟨v, H1, I1, r1, q1⟩ => ?_)
  obtain ⟨ev, eH⟩ := q1
  subst ev
  rw [eH] at I1
  obtain rfl : u = Value.ref f := r1
  refine Calls.spliced_nil ⟨I1.kIn, ?_⟩
  have rc : codeAny (model X.prog X.w) X.A (.call (.ref g) ⟨[.ref f], []⟩) (CR C8.CX0 X.stack X.prog X.w H s1 Q0 C8.E0) s1 := by
    refine LamX.run_ofS (N := Ng) (ps := [a]) (us := [.ref f]) (vs := [.ref f]) lk hcg Sg hr I1.env0 (hb s1 [.ref f] I1.kIn rfl) (.cons rfl .nil) rfl fun hr' => ?_
    obtain ⟨t', ht', hq'⟩ := hG l.F.qual f l.F.c s1 H Q0 (fun E H' Q' => LamAt H' f l dvs ∧ tb ws E H' Q') (fun W pn xe E p1 p2 tk hW => pe_ask (Z := (cxOf C8.CX0 X.prog X.w X.K X.mg X.base Ng x sg g cdv X.A X.stack s1 H C8.E0).tr pn xe) (base := base) lr C m sub sz hr' (passes_call tk hW) hNg hva hd hcd)
      la.co ⟨la, ht⟩
    exact ⟨t', ht'.nox, hq'⟩
  refine wpAny_call (codeAny_mono rc fun r s2 hq => ?_)
  cases r with
  | error e => exact (show False from hq).elim
  | ok fl =>
    cases fl with
    | ret u =>
      obtain ⟨v, H', I', rv, q⟩ := I1.after hq
      exact ⟨v, H', I', rv, hQ v H' q⟩
    | next => exact False.elim hq
    | brk => exact False.elim hq
    | cont => exact False.elim hq
end
/-- the list l of the lambdas fs, walked; D the new list -/
def ChainI (it : Addr → Hp → VK → Prop) (l D : Addr) (all : List V) (Q : VK) : List Addr → List V → Hp → Prop
  | [], _, H => Q (.ref D) H
  | f :: r, acc, H => it f H fun v H1 => H1 l = some (.lst all) ∧ H1 D = some (.lst acc) ∧ ChainI it l D all Q r (acc ++ [v]) (upd H1 D (.lst (acc ++ [v])))
def sp_tries (P : Program) (w : World) (K : PySem.W.Frag) (mg : Str → Option Value) (base b2 : Heap) (k : Nat) (cs : List Value) : Sp := fun vs H Q _ => ∃ (l : Addr) (fs : List Addr), vs = [.ref l] ∧ fs.length < sizeLine ∧ H l = some (.lst (fs.map V.ref)) ∧
  ∀ D, H D = none → ChainI (LamIt P w K mg base b2 k cs) l D (fs.map V.ref) Q fs [] (upd H D (.lst []))
/-- [x(y) for y in l], the list's items by turns -/
theorem chain_walk {P : Program} {w : World} {K : PySem.W.Frag} {mg : Str → Option Value} {base b2 : Heap} {k : Nat} {cs : List Value} {σ : L2.St} {H1 : Hp} {l D : Addr} {fs : List Addr} {vs : List Nat} {i : Nat} {Q : VK} (hi : ∀ x : V, wipe ((wipe σ vs).set i (some x)) vs = wipe σ vs) (hl2 : i < (wipe σ vs).length)
    (sz : fs.length < sizeLine) (nD : H1 D = none) (hl : H1 l = some (.lst (fs.map V.ref))) (h : ChainI (LamIt P w K mg base b2 k cs) l D (fs.map V.ref) Q fs [] (upd H1 D (.lst []))) :
    ∃ W : Nat → Nat → Hp → Prop, (∃ m, W 0 m (upd H1 D (.lst []))) ∧ ∀ j m H, W j m H →
      ((Itl K l).stop j H ∧ Q (.ref D) H) ∨ ((Itl K l).go j H ∧ ∃ Nx : Hp → Prop, (∀ H', Nx H' → ∃ m', m' < m ∧ W (j + 1) m' H') ∧ ∀ x H', (Itl K l).yld j H x H' → gName i x (wipe σ vs) H' fun σ2 H2 => wipe σ2 vs = wipe σ vs ∧ tYes σ2 H2 fun b H3 =>
        if b = true then tItem P w K mg base b2 k cs i σ2 H3 fun y H4 => ∃ acc, H4 D = some (.lst acc) ∧ acc.length < sizeLine ∧ Nx (upd H4 D (.lst (acc ++ [y]))) else Nx H3) := by
  have nl : l ≠ D := ne_of_none hl nD
  refine lc_list (K := K) (a := l) (xs := fs.map V.ref) (fun j H => ∃ acc : List V, acc.length = j ∧ H l = some (.lst (fs.map V.ref)) ∧ H D = some (.lst acc) ∧ ChainI (LamIt P w K mg base b2 k cs) l D (fs.map V.ref) Q (fs.drop j) acc H) ⟨[], rfl, by rw [upd_ne nl]; exact hl, upd_same, h⟩
    (fun j H _ pv => .inl (.inl (by obtain ⟨_, _, z, _⟩ := pv; exact z))) (fun j x H ex pv => ?_) fun H pv => ?_
  · obtain ⟨acc, ha, h1, h2, hc⟩ := pv
    have hj : j < fs.length := by
      have z := (List.getElem?_eq_some_iff.mp ex).1
      rw [List.length_map] at z
      exact z
    have ex2 : x = V.ref fs[j] := by
      rw [List.getElem?_map, List.getElem?_eq_getElem hj] at ex
      exact (Option.some.inj ex).symm
    subst ex2
    rw [List.drop_eq_getElem_cons hj] at hc
    refine ⟨hi _, ?_⟩
    show tItem P w K mg base b2 k cs i _ H _
    refine ⟨fs[j], List.getElem?_set_self hl2, ?_⟩
    obtain ⟨lf, dvs, fr, ws, tb, la, lr, C, ht⟩ := hc
    refine ⟨lf, dvs, fr, ws, tb, la, lr, C, ?_⟩
    obtain ⟨Q0, ht, hQ⟩ := ht
    refine ⟨Q0, ht, fun v H4 q => ?_⟩
    obtain ⟨c1, c2, c3⟩ := hQ v H4 q
    have hlen : acc.length < sizeLine := by omega
    refine ⟨acc, c2, hlen, acc ++ [v], ?_, ?_, upd_same, c3⟩
    · rw [List.length_append, ha]
      rfl
    · rw [upd_ne nl]
      exact c1
  · obtain ⟨acc, ha, h1, h2, hc⟩ := pv
    rw [List.length_map, List.drop_length] at hc
    exact hc
/-- a lambda of the law's list: how it is made, what its call does -/
structure AskS (X : Cx) (k : Nat) where
  lam : Addr → Value → LF
  dvs : List V
  fr : List Str
  js : List Nat
  tb : List (Option V) → XK → Hp → VK → Prop
  run : ∀ c' dV, LamRun X.prog X.w X.K X.mg X.base k (lam c' dV) dvs fr tb
  caps : X.Ok → ∀ c' dV, NdefX.Caps X (lam c' dV).F.cl fr js
/-- told at the law: each lambda of the list l tried, D the new list -/
def ChainL (X : Cx) (k : Nat) (cs : List Value) (σ : L2.St) (l D : Addr) (all : List V) (Q : VK) : List (Addr × AskS X k) → List V → Hp → Prop
  | [], _, H => Q (.ref D) H
  | (f, a) :: r, acc, H => (∃ c' dV, LamAt H f (a.lam c' dV) a.dvs) ∧ TTry X.K cs (a.tb (a.js.map (NdefX.slotAt σ))) H fun v H1 => H1 l = some (.lst all) ∧ H1 D = some (.lst acc) ∧ ChainL X k cs σ l D all Q r (acc ++ [v]) (upd H1 D (.lst (acc ++ [v])))
def tTries {X : Cx} {k : Nat} (cs : List Value) (asks : List (AskS X k)) (t : TA) : TE := fun σ H Q => t σ H fun vs H1 => ∃ (l : Addr) (fs : List Addr), vs = [.ref l] ∧ fs.length = asks.length ∧ H1 l = some (.lst (fs.map V.ref)) ∧
  ∀ D, H1 D = none → ChainL X k cs σ l D (fs.map V.ref) Q (fs.zip asks) [] (upd H1 D (.lst []))
section
variable {X : Cx} {pins : List (Addr × Obj)} {σ : L2.St} {H0 : Hp} {s : Shared} {k : Nat} {cs : List Value} {b2 : Heap}
theorem chain_in (I : Inv X pins σ H0 s) (kc : ∀ y c, X.env.cells.lookup y = some c → ∀ v, s.heap.IsCell c v → b2.IsCell c v) {l D : Addr} {all : List V} {Q : VK} : ∀ (r : List (Addr × AskS X k)) (acc : List V) (H : Hp),
    ChainL X k cs σ l D all Q r acc H → ChainI (LamIt X.prog X.w X.K X.mg X.base b2 k cs) l D all Q (r.map (·.1)) acc H
  | [], _, _, h => h
  | (f, a) :: r, acc, H, ⟨⟨c', dV, la⟩, ht⟩ => by
    have cp := a.caps I.ok c' dV
    refine ⟨a.lam c' dV, a.dvs, a.fr, a.js.map (NdefX.slotAt σ), a.tb, la, a.run c' dV, cells_in (NdefX.cells_of I cp) (fun y c e => ⟨y, cp.sub y c e⟩) kc, _, ht, fun v H1 ⟨q1, q2, q3⟩ => ⟨q1, q2, chain_in I kc r _ _ q3⟩⟩
end
section
variable {X : Cx}
/-- x(e): the lambdas of the list e tried, one by one -/
theorem pe_tries {k kk : Nat} {cs : List Value} {x a : Str} {g : Addr} {fd : FuncData} {e : Expr} {t : TA} {p pos : Pos} (asks : List (AskS X k)) (hn : asks.length < sizeLine) (hfn : ∀ x, X.fn x = true) (hst : X.stack = X.env :: X.outer) (hf : X.env.frame = some X.env.locals)
    (F : ∀ b2 : Heap, Mod X.K X.mg X.base → (∀ b o, X.base.get? b = some o → b2.get? b = some o) → X.base.objs.size ≤ b2.objs.size → FnOk X.prog X.w X.K X.mg b2 C8.CX0 kk g fd [a] (sp_tries X.prog X.w X.K X.mg X.base b2 k cs))
    (hr : Room kk X.A) (hg : Gl X x) (hm : X.mg x = some (.ref g)) (hk : PySem.W.keepIn X.K (.ref g) = true) (hb : L2.Binds X.K fd [a] []) (ha : PA X [e] t)
    (hdb : (x == ("__debug__" : Str)) = false := by decide) (he : starEach [e] X.env = [(false, eval e X.env)] := by rfl) : PE X (.Call (.Name x p) [e] [] pos) (tTries cs asks t) := by
  refine ⟨fun pins s σ H Q I h => ?_⟩
  refine wpAny_Call_Name_kw (ld_glob I hg hm ?_ hdb)
  refine PySem.W.callWith_K (h₀ := X.base) I.ok.mod.kin hk (thn (ha.run pos pins s σ H _ I h) fun us s1 ⟨vs, H1, I1, r, q⟩ => ⟨I1.kIn, ?_⟩) he (by rfl)
  obtain ⟨l, fs, rfl, hl, hH, hc⟩ := q
  obtain ⟨b2, sub, sz, e0, kc⟩ := ground_cells I1 hfn hst hf
  have hlen : us.length = [a].length := by
    rw [← r.length]
    rfl
  have hz : (fs.zip asks).map (·.1) = fs := by
    rw [List.map_fst_zip]
    omega
  have hsp : sp_tries X.prog X.w X.K X.mg X.base b2 k cs [.ref l] H1 Q C8.E0 := ⟨l, fs, rfl, by omega, hH, fun D nD => by
    have z := chain_in (b2 := b2) I1 kc _ _ _ (hc D nD)
    rw [hz] at z
    exact z⟩
  refine wpAny_call (codeAny_mono ((F b2 I1.ok.mod sub sz).run X.A X.stack s1 H1 ⟨us, []⟩ us [.ref l] Q C8.E0 hr e0 (by have z := hb s1 us I1.kIn (by rw [List.append_nil]; exact hlen); rw [List.append_nil] at z; exact z) r hsp) fun r s' hq => ?_)
  cases r with
  | error e => exact (show False from hq).elim
  | ok fl =>
    cases fl with
    | ret u => exact I1.after hq
    | next => exact False.elim hq
    | brk => exact False.elim hq
    | cont => exact False.elim hq
end
end FW
namespace FW
open PySem PySem.Spec PyProof.Rows L2
/-! ### methods and static methods by their names -/
structure MCal (P : Program) (w : World) (K : PySem.W.Frag) (mg : Str → Option Value) (base : Heap) (CX : CXT) (C : Addr) (k : Nat) (m : Str) (ps : List Str) (sp : Sp) : Prop where
  ex : ∃ (f : Addr) (fd : FuncData), Meth K C m f ∧ FnOk P w K mg base CX k f fd ps sp ∧ L2.Binds K fd ps []
structure SCal (P : Program) (w : World) (K : PySem.W.Frag) (mg : Str → Option Value) (base : Heap) (CX : CXT) (x : Str) (C : Addr) (k : Nat) (m : Str) (st : Stmt) (ps : List Str) (sp : Sp) : Prop where
  g : mg x = some (.ref C)
  ex : ∃ (f : Addr) (fd : FuncData) (q : Str), Sta K C m f ∧ FnOk P w K mg base CX k f fd ps sp ∧ L2.Binds K fd ps [] ∧ Fun K m q st f fd
section
variable {X : Cx} {k j : Nat} {C : Addr} {x m : Str} {st : Stmt} {ps ks : List Str} {sp : Sp} {o e : Expr} {es : List Expr} {kws : List Keyword} {apos pos p1 : Pos} {ta : TE} {t tk : TA} {CX : CXT} {E : XK} {g : List Value → List Value → List Value} {gV : List V → List V → List V}
theorem pe_mx {pl : Sem Bool} (c : MCal X.prog X.w X.K X.mg X.base CX C k m ps sp) (hC : Cls X.K C) (hr : Room j X.A) (hk : k ≤ j) (hx : Passes CX X E) (he : PE X o ta) (ha : PA X (e :: es) t)
    (hst : starEach (e :: es) X.env = (false, eval e X.env) :: starEach es X.env := by rfl) (hpl : (backTo pos (starEach es X.env)).any (·.1) = false := by rfl)
    (ht : eval (.Call (.Attribute o m apos) (e :: es) [] pos) X.env = (do
      let ov ← eval o X.env
      standAt apos.atName
      let (f, first) ← holding [ov] (getMethod ov m pl)
      callWith pos f first (backTo pos (starEach (e :: es) X.env)) (backToKw pos (keywordEach [] X.env))) := by rfl) :
    PE X (.Call (.Attribute o m apos) (e :: es) [] pos) (tMeth C m sp [] E ta t) := by
  obtain ⟨f, fd, M, F, b⟩ := c.ex
  exact pe_meth he hC M F (hr.mono hk) b .nil hx ha hst hpl ht
theorem pe_mx0 {pl : Sem Bool} (c : MCal X.prog X.w X.K X.mg X.base CX C k m ps sp) (hC : Cls X.K C) (hr : Room j X.A) (hk : k ≤ j) (hx : Passes CX X E) (he : PE X o ta)
    (ht : eval (.Call (.Attribute o m apos) [] [] pos) X.env = (do
      let ov ← eval o X.env
      standAt apos.atName
      let (f, first) ← holding [ov] (getMethod ov m pl)
      callWith pos f first (backTo pos (starEach [] X.env)) (backToKw pos (keywordEach [] X.env))) := by rfl) :
    PE X (.Call (.Attribute o m apos) [] [] pos) (tMeth C m sp [] E ta tNil) := by
  obtain ⟨f, fd, M, F, b⟩ := c.ex
  exact pe_meth0 he hC M F (hr.mono hk) b .nil hx ht
theorem pe_m {pl : Sem Bool} (c : MCal X.prog X.w X.K X.mg X.base CX0 C k m ps sp) (hC : Cls X.K C) (hr : Room j X.A) (hk : k ≤ j) (he : PE X o ta) (ha : PA X (e :: es) t)
    (hst : starEach (e :: es) X.env = (false, eval e X.env) :: starEach es X.env := by rfl) (hpl : (backTo pos (starEach es X.env)).any (·.1) = false := by rfl)
    (ht : eval (.Call (.Attribute o m apos) (e :: es) [] pos) X.env = (do
      let ov ← eval o X.env
      standAt apos.atName
      let (f, first) ← holding [ov] (getMethod ov m pl)
      callWith pos f first (backTo pos (starEach (e :: es) X.env)) (backToKw pos (keywordEach [] X.env))) := by rfl) :
    PE X (.Call (.Attribute o m apos) (e :: es) [] pos) (tMeth C m sp [] E0 ta t) := pe_mx c hC hr hk pass0 he ha hst hpl ht
theorem pe_m0 {pl : Sem Bool} (c : MCal X.prog X.w X.K X.mg X.base CX0 C k m ps sp) (hC : Cls X.K C) (hr : Room j X.A) (hk : k ≤ j) (he : PE X o ta)
    (ht : eval (.Call (.Attribute o m apos) [] [] pos) X.env = (do
      let ov ← eval o X.env
      standAt apos.atName
      let (f, first) ← holding [ov] (getMethod ov m pl)
      callWith pos f first (backTo pos (starEach [] X.env)) (backToKw pos (keywordEach [] X.env))) := by rfl) :
    PE X (.Call (.Attribute o m apos) [] [] pos) (tMeth C m sp [] E0 ta tNil) := pe_mx0 c hC hr hk pass0 he ht
theorem pe_s {pl : Sem Bool} (c : SCal X.prog X.w X.K X.mg X.base CX0 x C k m st ps sp) (hr : Room j X.A) (hk : k ≤ j) (hg : Gl X x) (ha : PA X (e :: es) t)
    (hdb : (x == ("__debug__" : Str)) = false := by decide)
    (hc : eval (.Call (.Attribute (.Name x p1) m apos) (e :: es) [] pos) X.env = (do
      let oc ← eval (.Name x p1) X.env
      standAt apos.atName
      let (fc, fst) ← holding [oc] (getMethod oc m pl)
      callWith pos fc fst (backTo pos (starEach (e :: es) X.env)) (backToKw pos (keywordEach [] X.env))) := by rfl)
    (he : starEach (e :: es) X.env = (false, eval e X.env) :: starEach es X.env := by rfl) (hpl : (backTo pos (starEach es X.env)).any (·.1) = false := by rfl) :
    PE X (.Call (.Attribute (.Name x p1) m apos) (e :: es) [] pos) (tCall sp [] E0 t) := by
  obtain ⟨f, fd, q, S, F, b, _⟩ := c.ex
  exact pe_static hg c.g S F (hr.mono hk) b .nil pass0 ha hdb hc he hpl
theorem pe_sk0 {pl : Sem Bool} (c : SCal X.prog X.w X.K X.mg X.base CX0 x C k m st ps sp) (hb : ∀ f fd q, Fun X.K m q st f fd → KBinds X.K fd ps ks g gV) (hr : Room j X.A) (hk : k ≤ j) (hg : Gl X x) (hkw : PK X kws tk)
    (hall : (backToKw pos (keywordEach kws X.env)).all (·.1.isSome) = true := by rfl) (hks : (backToKw pos (keywordEach kws X.env)).filterMap (·.1) = ks := by rfl)
    (hdb : (x == ("__debug__" : Str)) = false := by decide)
    (hc : eval (.Call (.Attribute (.Name x p1) m apos) [] kws pos) X.env = (do
      let oc ← eval (.Name x p1) X.env
      standAt apos.atName
      let (fc, fst) ← holding [oc] (getMethod oc m pl)
      callWith pos fc fst (backTo pos (starEach [] X.env)) (backToKw pos (keywordEach kws X.env))) := by rfl)
    (hpl : ((backTo pos (starEach [] X.env)).any (·.1) || (backToKw pos (keywordEach kws X.env)).any (·.1.isNone)) = false := by rfl) :
    PE X (.Call (.Attribute (.Name x p1) m apos) [] kws pos) (tCallK sp gV E0 tNil tk) := by
  obtain ⟨f, fd, q, S, F, b, fn⟩ := c.ex
  exact pe_staticK0 hg c.g S F (hr.mono hk) (hb f fd q fn) pass0 hkw hall hks hdb hc hpl
theorem kbs_one {K : PySem.W.Frag} {x p1 : Str} {st : Stmt}
    (h : ∀ (q : Str) (kV doc pm : Value) (an : Option Addr) (cdv ct : Value) (u : Value), bindArgs (PySem.W.fnOf x q (defArgs st) (defBody st) (defScope st) .none kV doc pm an cdv ct) ⟨[], [(p1, u)]⟩ = pure [(p1, u)]) :
    ∀ f fd q, Fun K x q st f fd → KBinds K fd [p1] [p1] one1 one1 := by
  intro f fd q F
  obtain ⟨oc, od, kV, doc, pm, an, cdv, ct, osl, rfl, lk, hcd⟩ := F.ex
  refine ⟨fun s us ws _ hl => ?_, fun r q => one1_vals r q⟩
  match us, ws, hl with
  | [], [u], _ => exact .of_eq (h q kV doc pm an cdv ct u)
  | [], [], hl => exact absurd (show 0 = 1 from hl) (by decide)
  | [], _ :: _ :: _, hl => exact absurd (show 0 = 1 from hl) (by decide)
  | _ :: _, ws, hl => exact absurd (show 0 = 1 from hl) (by decide)
structure OwnE (P : Program) (w : World) (K : PySem.W.Frag) (mg : Str → Option Value) (base : Heap) (C : Addr) (k : Nat) (sp : Sp) : Prop where
  ex : ∃ f : Addr, PySem.W.findIn K (.ref C) "__eq__" = some (some (.ref f)) ∧ PySem.W.isFn K (.ref f) = true ∧ FnR P w K mg base CX0 k f sp
  ne : PySem.W.findIn K (.ref C) "__ne__" = some (some (.builtin "object.__ne__"))
  ob : PySem.W.mroIn K C (.type "object") = some true
  nf : PySem.W.notFirst K C (.ref C) = true
theorem op_eqO (o : OwnE X.prog X.w X.K X.mg X.base C k sp) (hr : Room j X.A) (hk : k ≤ j) : OpR X (compareOp .Eq) (rOwnI X.K C sp E0 false) := by
  obtain ⟨f, h1, h2, F⟩ := o.ex
  exact op_eqI h1 h2 F (hr.mono hk) pass0
theorem op_neO (o : OwnE X.prog X.w X.K X.mg X.base C k sp) (hr : Room j X.A) (hk : k + 1 ≤ j) : OpR X (compareOp .NotEq) (rOwnI X.K C sp E0 true) := by
  obtain ⟨f, h1, h2, F⟩ := o.ex
  exact op_neI h1 h2 o.ne o.ob F (hr.mono hk) pass0
end
end FW
namespace FW
open PySem PySem.Spec PyProof.Rows L2
/-! ### the lambdas of a list, by their texts -/
def lamParts : Expr → Arguments × Expr × Scope
  | .Lambda p b s _ => (p, b, s)
  | e => (⟨[], [], none, [], [], none, []⟩, e, default)
def listOf : Stmt → List Expr
  | .Assign _ (.List es _) _ => es
  | _ => []
section
variable {X : Cx} {k : Nat}
def ask0 (params : Arguments) (body : Expr) (scope : Scope) (N fr : List Str) (js : List Nat) {tb : XK → TE} (hS : NdefX.nscB N [] fr scope = true) (hB : NdefX.ndefB X.env.scope scope fr = true) (hjs : js.map (fun j => X.N[j]?) = fr.map some)
    (hb : ∀ (q : Str) (cl : List (Str × Addr)) (doc pm cv ctv : Value), bindArgs (PySem.W.kdv_fn "<lambda>" q params (.expr body) scope cl .none doc pm cv ctv) ⟨[], []⟩ = pure [])
    (hbody : ∀ (c' : Addr) (dV : Value) (A : Around) (outer : List Env) (s : Shared) (H : Hp) (E : XK) (f : Addr), Room k (A.deeper (NdefX.envF (lamF X params body scope c' dV).F f s.heap.objs.size)) →
      PE (NdefX.ncx (L2.CX X.prog X.w) X.prog X.w X.K X.mg X.base N (lamF X params body scope c' dV).F f A outer s H E) body (tb E)) : AskS X (k + 1) where
  lam := lamF X params body scope
  dvs := []
  fr := fr
  js := js
  tb := fun ws E H Q => tb E (NdefX.startF N [] ws) H Q
  run := fun c' dV => lam_run (tb := tb) (NdefX.nscope_by hS) rfl (binds_0 fun e doc pm ctv => by
    have e : dV = .none := e
    subst e
    exact hb _ _ _ _ _ _) (hbody c' dV)
  caps := fun ok c' dV => NdefX.Caps.made ok (NdefX.ndef_free hB) (NdefX.ndef_fr hB) hjs
def ask1 (params : Arguments) (body : Expr) (scope : Scope) (p : Str) (n : Int) (N fr : List Str) (js : List Nat) {tb : XK → TE} (hS : NdefX.nscB N [p] fr scope = true) (hB : NdefX.ndefB X.env.scope scope fr = true) (hjs : js.map (fun j => X.N[j]?) = fr.map some)
    (hb : ∀ (q : Str) (cl : List (Str × Addr)) (dV doc pm cv ctv : Value), ∃ k : Option (Array Value) → Sem (List (Str × Value)), bindArgs (PySem.W.kdv_fn "<lambda>" q params (.expr body) scope cl dV doc pm cv ctv) ⟨[], []⟩ = seqItems? dV >>= k ∧ ∀ u : Value, k (some #[u]) = pure [(p, u)])
    (hbody : ∀ (c' : Addr) (dV : Value) (A : Around) (outer : List Env) (s : Shared) (H : Hp) (E : XK) (f : Addr), Room k (A.deeper (NdefX.envF (lamF X params body scope c' dV).F f s.heap.objs.size)) →
      PE (NdefX.ncx (L2.CX X.prog X.w) X.prog X.w X.K X.mg X.base N (lamF X params body scope c' dV).F f A outer s H E) body (tb E)) : AskS X (k + 1) where
  lam := lamF X params body scope
  dvs := [.int n]
  fr := fr
  js := js
  tb := fun ws E H Q => tb E (NdefX.startF N [.int n] ws) H Q
  run := fun c' dV => lam_run (tb := tb) (NdefX.nscope_by hS) rfl (binds_1 fun doc pm ctv => hb _ _ _ _ _ _ _) (hbody c' dV)
  caps := fun ok c' dV => NdefX.Caps.made ok (NdefX.ndef_free hB) (NdefX.ndef_fr hB) hjs
end
/-! ### o.m(k = e, ..) -/
section
variable {X : Cx} {CX : CXT} {k j : Nat} {f C : Addr} {fd : FuncData} {ps ks : List Str} {sp : Sp} {E : XK} {m : Str} {pos apos : Pos} {o : Expr} {kws : List Keyword} {ta : TE} {tk : TA} {g : List Value → List Value → List Value} {gV : List V → List V → List V}
def tMethK (C : Addr) (m : Str) (sp : Sp) (gV : List V → List V → List V) (E : XK) (ta : TE) (tk : TA) : TE := fun σ H Q => ta σ H fun x H1 => ∃ a dx fs, x = .ref a ∧ H1 a = some (.ins C dx fs) ∧ fs.lookup m = none ∧ tk σ H1 fun zs H2 => sp (gV [x] zs) H2 Q E
theorem pe_methK0 {pl : Sem Bool} (he : PE X o ta) (c : Cls X.K C) (hm : Meth X.K C m f) (F : FnOk X.prog X.w X.K X.mg X.base CX k f fd ps sp) (hr : Room k X.A) (hb : KBinds X.K fd ps ks g gV) (hx : Passes CX X E) (hkw : PK X kws tk)
    (hall : (backToKw pos (keywordEach kws X.env)).all (·.1.isSome) = true := by rfl) (hks : (backToKw pos (keywordEach kws X.env)).filterMap (·.1) = ks := by rfl) (hpl : ((backTo pos (starEach [] X.env)).any (·.1) || (backToKw pos (keywordEach kws X.env)).any (·.1.isNone)) = false := by rfl)
    (ht : eval (.Call (.Attribute o m apos) [] kws pos) X.env = (do
      let ov ← eval o X.env
      standAt apos.atName
      let (f, first) ← holding [ov] (getMethod ov m pl)
      callWith pos f first (backTo pos (starEach [] X.env)) (backToKw pos (keywordEach kws X.env))) := by rfl) :
    PE X (.Call (.Attribute o m apos) [] kws pos) (tMethK C m sp gV E ta tk) := by
  refine ⟨fun pins s σ H Q I h => ?_⟩
  refine PySem.W.methodCall_KW (pl := pl) (thn (he.run pins s σ H _ I h) fun u s1 ⟨x, H1, I1, rx, a, dx, fs, ex, ea, l, q⟩ => ?_) ht
  subst ex
  obtain rfl : u = Value.ref a := rx
  refine getmeth_ok I1 ea c hm l ?_
  refine PySem.W.callWith_KW0 (first := [.ref a]) (h₀ := X.base) I1.ok.mod.kin hm.kp hall (thn (hkw.run pos pins s1 σ H1 _ I1 q) fun ws s2 ⟨zs, H2, I2, rz, q2⟩ => ⟨I2.kIn, ?_⟩) hpl
  rw [hks]
  exact run_fnk (us := [.ref a]) (vs := [.ref a]) F hr hb hx I2 (.cons rfl .nil) rz q2
structure MCalK (P : Program) (w : World) (K : PySem.W.Frag) (mg : Str → Option Value) (base : Heap) (CX : CXT) (C : Addr) (k : Nat) (m : Str) (ps ks : List Str) (g : List Value → List Value → List Value) (gV : List V → List V → List V) (sp : Sp) : Prop where
  ex : ∃ (f : Addr) (fd : FuncData), Meth K C m f ∧ FnOk P w K mg base CX k f fd ps sp ∧ KBinds K fd ps ks g gV
theorem pe_mk0 {pl : Sem Bool} (c : MCalK X.prog X.w X.K X.mg X.base CX0 C k m ps ks g gV sp) (hC : Cls X.K C) (hr : Room j X.A) (hk : k ≤ j) (he : PE X o ta) (hkw : PK X kws tk)
    (hall : (backToKw pos (keywordEach kws X.env)).all (·.1.isSome) = true := by rfl) (hks : (backToKw pos (keywordEach kws X.env)).filterMap (·.1) = ks := by rfl) (hpl : ((backTo pos (starEach [] X.env)).any (·.1) || (backToKw pos (keywordEach kws X.env)).any (·.1.isNone)) = false := by rfl)
    (ht : eval (.Call (.Attribute o m apos) [] kws pos) X.env = (do
      let ov ← eval o X.env
      standAt apos.atName
      let (f, first) ← holding [ov] (getMethod ov m pl)
      callWith pos f first (backTo pos (starEach [] X.env)) (backToKw pos (keywordEach kws X.env))) := by rfl) :
    PE X (.Call (.Attribute o m apos) [] kws pos) (tMethK C m sp gV E0 ta tk) := by
  obtain ⟨f, fd, hm, F, b⟩ := c.ex
  exact pe_methK0 he hC hm F (hr.mono hk) b pass0 hkw hall hks hpl ht
end
def swp1 {α : Type} : List α → List α → List α
  | [a], [u, v] => [a, v, u]
  | _, _ => []
theorem swp1_vals {vs : List V} {us : List Value} {zs : List V} {ws : List Value} (r : Vals vs us) (q : Vals zs ws) : Vals (swp1 vs zs) (swp1 us ws) := by
  cases r with
  | nil => exact .nil
  | cons r0 rr =>
    cases rr with
    | cons _ _ => exact .nil
    | nil =>
      cases q with
      | nil => exact .nil
      | cons q0 qq =>
        cases qq with
        | nil => exact .nil
        | cons q1 qqq =>
          cases qqq with
          | nil => exact .cons r0 (.cons q1 (.cons q0 .nil))
          | cons _ _ => exact .nil
theorem kbm_swap {K : PySem.W.Frag} {x qual : Str} {st : Stmt} {f : Addr} {fd : FuncData} {p0 p1 p2 : Str} (F : Fun K x qual st f fd)
    (h : ∀ (kV doc pm : Value) (an : Option Addr) (cdv ct : Value) (a u v : Value), bindArgs (PySem.W.fnOf x qual (defArgs st) (defBody st) (defScope st) .none kV doc pm an cdv ct) ⟨[a], [(p2, u), (p1, v)]⟩ = pure [(p0, a), (p1, v), (p2, u)]) :
    KBinds K fd [p0, p1, p2] [p2, p1] swp1 swp1 := by
  obtain ⟨oc, od, kV, doc, pm, an, cdv, ct, osl, rfl, lk, hcd⟩ := F.ex
  refine ⟨fun s us ws _ hl => ?_, fun r q => swp1_vals r q⟩
  match us, ws, hl with
  | [a], [u, v], _ => exact .of_eq (h kV doc pm an cdv ct a u v)
  | [], ws, hl => exact absurd (show 0 = 3 from hl) (by decide)
  | [_], [], hl => exact absurd (show 0 = 3 from hl) (by decide)
  | [_], [_], hl => exact absurd (show 0 = 3 from hl) (by decide)
  | [_], _ :: _ :: _ :: _, hl => exact absurd (show 0 = 3 from hl) (by decide)
  | _ :: _ :: _, ws, hl => exact absurd (show 0 = 3 from hl) (by decide)
/-- an error class of the program that the law's own try takes; f: what its error bears -/
structure ErrF (K : PySem.W.Frag) (mg : Str → Option Value) (C : Addr) (f z : String) (cs : List Value) : Prop where
  kls : ∃ fI, Kls K mg C fI z
  nf : PySem.W.findIn K (.ref C) (Str.ofString f) = some none
  hex : PySem.W.exmAny K (.ref C) cs = some true
  fi : ∀ v, FieldIs K C [("code", .str (Str.ofString z)), (Str.ofString f, v)] (Str.ofString z) v
abbrev ErrK (K : PySem.W.Frag) (mg : Str → Option Value) (C : Addr) (z : String) (cs : List Value) : Prop := ErrF K mg C "given" z cs
def givenB (z : Str) : Bool := !decide (z ∈ (["InvalidLine", "InvalidStep", "InvalidTable", "InvalidBad", "InvalidPlan", "UnknownRoom"] : List Str)) && !decide (z ∈ (["TooMany", "Full"] : List Str)) && !decide (z ∈ (["InvalidText", "InvalidPage"] : List Str)) && !decide (z = "UnknownState") && !decide (z ∈ (["InvalidPaper", "OtherFaces", "OtherCutters", "NothingLeft"] : List Str))
theorem fi_given {K : PySem.W.Frag} {C : Addr} {z : Str} (h : givenB z = true) (nf : PySem.W.findIn K (.ref C) (Str.ofString "given") = some none) (v : V) : FieldIs K C [("code", .str z), (Str.ofString "given", v)] z v := by
  unfold givenB at h
  simp only [Bool.and_eq_true, Bool.not_eq_true', decide_eq_false_iff_not] at h
  obtain ⟨⟨⟨⟨h1, h2⟩, h3⟩, h4⟩, h5⟩ := h
  unfold FieldIs
  rw [if_neg h1, if_neg h2, if_neg h3, if_neg h4, if_neg h5]
  exact ⟨nf, rfl⟩
theorem fi_at {K : PySem.W.Frag} {C : Addr} {z : Str} (h : decide (z ∈ (["InvalidLine", "InvalidStep", "InvalidTable", "InvalidBad", "InvalidPlan", "UnknownRoom"] : List Str)) = true) (nf : PySem.W.findIn K (.ref C) (Str.ofString "at") = some none) (v : V) : FieldIs K C [("code", .str z), (Str.ofString "at", v)] z v := by
  unfold FieldIs
  rw [if_pos (of_decide_eq_true h)]
  exact ⟨nf, rfl⟩
/-- what the law's try makes of such an error -/
theorem ErrF.tried {K : PySem.W.Frag} {mg : Str → Option Value} {C : Addr} {f z : String} {cs : List Value} {Q : VK} {H1 : Hp} {v : V} {d : Addr} (T : ErrF K mg C f z cs) (nd : H1 d = none) (h : ∀ H2 p, Same H1 H2 → H2 p = none → Q (.ref p) (upd H2 p (.tup [.str (Str.ofString z), v]))) :
    PySem.W.exmAny K (.ref C) cs = some true ∧ ∀ a, (upd H1 d (Err1 f z v)) a = none → ∃ (z' : Str) (v' : V), Caught K (upd (upd H1 d (Err1 f z v)) a (ExK (.ref C) (some d) a)) a z' v' ∧ ∀ H2, Same (upd (upd H1 d (Err1 f z v)) a (ExK (.ref C) (some d) a)) H2 → ∀ p, H2 p = none → Q (.ref p) (upd H2 p (.tup [.str z', v'])) := by
  obtain ⟨fI, k⟩ := T.kls
  refine ⟨T.hex, fun a na => ⟨Str.ofString z, v, ?_, fun H2 s2 p np => h H2 p (((same_upd nd).trans (same_upd na)).trans s2) np⟩⟩
  have hne : d ≠ a := fun e => by
    rw [← e, upd_same] at na
    cases na
  exact ⟨C, d, _, upd_same, (upd_ne hne).trans upd_same, k.xf, k.ncode, rfl, T.fi v⟩
end FW
namespace FW
open PySem PySem.Spec PyProof.Rows L2
/-! ### sorted: pairs of texts -/
abbrev cl (x : Str) : List Nat := x.cps.toList
def lexS (p q : Str × Str) : Bool := if p.1 = q.1 then decide (cl p.2 < cl q.2) else decide (cl p.1 < cl q.1)
theorem cl_inj {x y : Str} (h : cl x = cl y) : x = y := by
  obtain ⟨⟨a⟩⟩ := x
  obtain ⟨⟨b⟩⟩ := y
  have : a = b := h
  rw [this]
theorem lexS_iff {p q : Str × Str} : lexS p q = true ↔ cl p.1 < cl q.1 ∨ (cl p.1 = cl q.1 ∧ cl p.2 < cl q.2) := by
  unfold lexS
  by_cases e : p.1 = q.1
  · rw [if_pos e, decide_eq_true_eq, e]
    exact ⟨fun h => .inr ⟨rfl, h⟩, fun h => h.elim (fun z => absurd z (List.lt_irrefl _)) (·.2)⟩
  · rw [if_neg e, decide_eq_true_eq]
    exact ⟨.inl, fun h => h.elim id fun z => absurd (cl_inj z.1) e⟩
theorem lexS_no {p q : Str × Str} : lexS p q = false ↔ ¬ (cl p.1 < cl q.1 ∨ (cl p.1 = cl q.1 ∧ cl p.2 < cl q.2)) := by
  rw [← lexS_iff]
  cases lexS p q <;> simp
theorem lt_or {a b : List Nat} (h : ¬ a < b) : b < a ∨ a = b := by
  by_cases e : a = b
  · exact .inr e
  · refine .inl ?_
    have h1 : b ≤ a := h
    rcases Classical.em (b < a) with z | z
    · exact z
    · exact absurd (List.le_antisymm (show a ≤ b from z) h1) e
theorem swo_S {α : Type} (k : α → Str × Str) : SrtO.Swo fun v u => lexS (k v) (k u) := by
  refine ⟨fun x y h => ?_, fun x y z h1 h2 => ?_⟩
  · have a := lexS_iff.mp h
    refine lexS_no.mpr fun b => ?_
    rcases a with a | ⟨e, a⟩
    · rcases b with b | ⟨e, b⟩
      · exact List.lt_irrefl _ (List.lt_trans a b)
      · rw [e] at a
        exact List.lt_irrefl _ a
    · rcases b with b | ⟨_, b⟩
      · rw [e] at b
        exact List.lt_irrefl _ b
      · exact List.lt_irrefl _ (List.lt_trans a b)
  · have a := lexS_no.mp h1
    have b := lexS_no.mp h2
    refine lexS_no.mpr fun c => ?_
    simp only [not_or, not_and] at a b
    rcases c with c | ⟨e, c⟩
    · rcases lt_or a.1 with a1 | a1
      · rcases lt_or b.1 with b1 | b1
        · exact List.lt_irrefl _ (List.lt_trans (List.lt_trans c a1) b1)
        · have c2 := List.lt_trans c a1
          rw [b1] at c2
          exact List.lt_irrefl _ c2
      · rw [← a1] at c
        exact b.1 c
    · rcases lt_or a.1 with a1 | a1
      · rcases lt_or b.1 with b1 | b1
        · rw [e] at b1
          exact List.lt_irrefl _ (List.lt_trans a1 b1)
        · rw [← b1, e] at a1
          exact List.lt_irrefl _ a1
      · have b0 : cl (k z).1 = cl (k y).1 := e.trans a1.symm
        rcases lt_or (a.2 a1) with a2 | a2
        · rcases lt_or (b.2 b0) with b2 | b2
          · exact List.lt_irrefl _ (List.lt_trans (List.lt_trans c a2) b2)
          · rw [b2] at c
            exact List.lt_irrefl _ (List.lt_trans a2 c)
        · rw [← a2] at c
          exact b.2 b0 c
def IsPairS (h : Heap) (v : Value) (x y : Str) : Prop := ∃ a o t u n, v = .ref a ∧ h.get? a = some o ∧ o.cls = .type "tuple" ∧ o.data = .seq #[.str x t, .str y u] n
theorem IsPairS.keeps {h h' : Heap} {v : Value} {x y : Str} (p : IsPairS h v x y) (k : ∀ b o, h.get? b = some o → o.cls = .type "tuple" → h'.get? b = some o) : IsPairS h' v x y := by
  obtain ⟨a, o, t, u, n, e, ho, hc, hd⟩ := p
  exact ⟨a, o, t, u, n, e, k _ _ ho hc, hc, hd⟩
theorem firsts_S {h : Heap} : ∀ {vs : List Value}, (∀ v ∈ vs, ∃ x y, IsPairS h v x y) → ∃ fs : List Value, PySem.W.KatTups h vs fs ∧ fs.length = vs.length ∧ ∀ f ∈ fs, ∃ x t, f = Value.str x t
  | [], _ => ⟨[], PySem.W.KatTups.nil, rfl, fun _ hm => by simp at hm⟩
  | v :: vs, x => by
    obtain ⟨fs, k, hl, hi⟩ := firsts_S (vs := vs) fun u hu => x u (List.mem_cons_of_mem _ hu)
    obtain ⟨z, y, a, o, t, u, n, rfl, ho, hc, hd⟩ := x v (List.mem_cons_self ..)
    refine ⟨.str z t :: fs, PySem.W.KatTups.cons ho hc hd rfl k, by rw [List.length_cons, List.length_cons, hl], fun f hf => ?_⟩
    rcases List.mem_cons.mp hf with rfl | hf
    · exact ⟨z, t, rfl⟩
    · exact hi f hf
section
variable {prog : Program} {w : World} {A : Around} {E : Value → Shared → Prop} {s : Shared}
open SrtO
theorem pair_cmpS {vs : List Value} {k : Value → Str × Str} (hp : ∀ v ∈ vs, IsPairS s.heap v (k v).1 (k v).2) : Cmp prog w A s (tuples' true) (fun p => p.1 ∈ vs) (lt2 fun v u => lexS (k v) (k u)) := by
  intro p q hm hm'
  have h1 := hp _ hm
  have h2 := hp _ hm'
  show wpAny (model prog w) A (keyLt' (tuples' true) p.1 q.1) (fun r s' => s' = s ∧ r = lexS (k p.1) (k q.1)) (fun _ _ => False) s
  unfold lexS
  generalize (k p.1).1 = x at h1 ⊢
  generalize (k p.1).2 = y at h1 ⊢
  generalize (k q.1).1 = x' at h2 ⊢
  generalize (k q.1).2 = y' at h2 ⊢
  obtain ⟨a, o, t, u, n, e, ho, hc, hd⟩ := h1
  obtain ⟨a', o', t', u', n', e', ho', hc', hd'⟩ := h2
  rw [e, e']
  refine PySem.W.kat_lt ho hd ho' hd' ?_
  show PySem.W.KatLex prog w A true (decide (2 < 2)) _ [(.str x t, .str x' t'), (.str y u, .str y' u')] 0 s
  refine PySem.W.kat_cons (SeqAt.EqAt.str_str x t x' t' prog w _ _ ?_)
  refine PySem.W.kat_go (fun e1 => ?_) (fun e1 => ?_)
  · have ex : x = x' := by simpa using e1
    refine PySem.W.kat_yes (PySem.W.kat_cons (SeqAt.EqAt.str_str y u y' u' prog w _ _ ?_))
    refine PySem.W.kat_go (fun e2 => ?_) (fun e2 => ?_)
    · have ey : y = y' := by simpa using e2
      have e3 : (if x = x' then decide (cl y < cl y') else decide (cl x < cl x')) = false := by
        rw [if_pos ex, ey]
        exact decide_eq_false (List.lt_irrefl _)
      exact PySem.W.kat_yes (PySem.W.kat_nil ⟨rfl, e3.symm⟩)
    · have e3 : (if x = x' then decide (cl y < cl y') else decide (cl x < cl x')) = decide (cl y < cl y') := if_pos ex
      exact PySem.W.kat_no (PyProof.Rows.oneLt_any_str ⟨rfl, e3.symm⟩)
  · have ex : ¬ x = x' := by simpa using e1
    have e3 : (if x = x' then decide (cl y < cl y') else decide (cl x < cl x')) = decide (cl x < cl x') := if_neg ex
    exact PySem.W.kat_no (PyProof.Rows.oneLt_any_str ⟨rfl, e3.symm⟩)
theorem pairs_sortableS {a : Addr} {vs : List Value} {k : Value → Str × Str} (h0 : 0 < vs.length) (hp : ∀ v ∈ vs, IsPairS s.heap v (k v).1 (k v).2) (ha : ∀ o, s.heap.get? a = some o → o.cls ≠ .type "tuple") : SortableO prog w A s a vs fun v u => lexS (k v) (k u) := by
  intro h' keep
  have hp' : ∀ v ∈ vs, IsPairS h' v (k v).1 (k v).2 := fun v hm => (hp v hm).keeps fun b o e c => keep b o (fun z => by subst z; exact ha o e c) e
  obtain ⟨fs, h1, h2, h3⟩ := firsts_S fun v hm => ⟨_, _, hp' v hm⟩
  refine ⟨tuples' true, fun Q E hq => ?_, pair_cmpS hp'⟩
  refine PySem.W.kat_kind (T := .type "str") h1 (by omega) (fun f hm => ?_) (by rfl) ?_
  · obtain ⟨x, t, rfl⟩ := h3 f hm
    exact PySem.W.Looks.now
  · have e : (Value.type "str" != Value.type "tuple") = true := by first | decide +kernel | rfl | decide
    rw [e]
    exact hq
theorem sorted_pairsS {l : Addr} {vs : List Value} {k : Value → Str × Str} {Q : Value → Shared → Prop} (hl : s.heap.IsList l vs.toArray) (hz : vs.length ≤ sizeLine) (hp : ∀ v ∈ vs, IsPairS s.heap v (k v).1 (k v).2)
    (h : ∀ (h' : Heap) (d : Addr) (out : List Value), Srtd (fun v u => lexS (k v) (k u)) out → Stb (fun v u => lexS (k v) (k u)) out vs → (∀ b o, s.heap.get? b = some o → h'.get? b = some o) → s.heap.objs.size ≤ d → (∃ n, h'.get? d = some (seqObj "list" out.toArray n)) → Q (.ref d) { s with heap := h' }) :
    wpAny (model prog w) A (call (.builtin "sorted") [.ref l]) Q E s := by
  refine sorted_ord (swo_S k) hl hz (fun h2 h₁ a ha kk => ?_) fun out hs hb => ?_
  · refine pairs_sortableS (s := { s with heap := h₁ }) (by omega) (fun v hm => (hp v hm).keeps fun b o e _ => (kk b o e).2) fun o e => ?_
    have e' : some o = some (seqObj "list" vs.toArray 0) := e.symm.trans ha
    cases e'
    intro c
    exact absurd (Value.type.inj c) (by decide)
  · exact h _ _ out hs hb (fun b o e => sortedAll_old e) (Nat.le_succ _) (sortedAll_at s.heap vs out.toArray)
end
/-- sorted(xs), xs a list of pairs of texts (k says which) -/
def rSortedSS (K : PySem.W.Frag) : List V → Hp → VK → Prop := fun vs H Q => ∃ (a : Addr) (xs : List V) (k : V → Str × Str), vs = [V.ref a] ∧ SqL K H a xs ∧ (∀ x ∈ xs, ∃ t, x = V.ref t ∧ H t = some (.tup [.str (k x).1, .str (k x).2])) ∧
  ∀ ys p, ys.Pairwise (fun x y => lexS (k y) (k x) = false) → ys.Perm xs → H p = none → Q (.ref p) (upd H p (.lst ys))
section
variable {X : Cx}
theorem cr_sortedSS : CallR X (.builtin "sorted") (rSortedSS X.K) := by
  intro pins s σ H vs us Q I r h
  obtain ⟨a, xs, k, rfl, hs, hx, q⟩ := h
  obtain ⟨its, rv, hl, hz⟩ := I.list hs
  obtain ⟨u, rfl, ru⟩ := vals1 r
  obtain rfl : u = Value.ref a := ru
  obtain ⟨e1, e2⟩ := refs_back rv fun x m => by
    obtain ⟨t, e, _⟩ := hx x m
    exact ⟨t, e⟩
  refine sorted_pairsS (k := fun u => k (backV u)) hl.isList (by rw [← rv.length]; exact hz) (fun v hv => ?_) fun h' d out h1 h2 kp hd hn => ?_
  · obtain ⟨t, rfl⟩ := e2 v hv
    have hm : V.ref t ∈ xs := by rw [e1]; exact List.mem_map.mpr ⟨_, hv, rfl⟩
    obtain ⟨t', e, ht⟩ := hx _ hm
    cases e
    obtain ⟨_, its2, r2, o, ho, hc, n, hd⟩ := I.hok _ _ ht
    obtain ⟨u1, u2, rfl, ri, rj⟩ := vals2 r2
    obtain ⟨t1, rfl⟩ := ri
    obtain ⟨t2, rfl⟩ := rj
    exact ⟨t, o, t1, t2, n, rfl, ho, hc, hd⟩
  · have h3 : ∀ u ∈ out, ∃ a, u = Value.ref a := fun u hu => e2 u (h2.perm.mem_iff.mp hu)
    obtain ⟨n, hn⟩ := hn
    have hb : SrtO.Stb (fun x y => lexS (k x) (k y)) (out.map backV) xs := by
      rw [e1]
      exact SrtO.Stb.map (swo_S k) backV h2
    refine ⟨.ref d, upd H d (.lst (out.map backV)), I.laid (t' := s.toks) kp hd ⟨?_, out, n, vals_back h3, hn⟩, rfl, q _ d (SrtO.srtd_map (lt := fun x y => lexS (k x) (k y)) h1) hb.perm (I.hok.fresh hd)⟩
    rw [hb.len]
    exact hz
end
end FW
namespace FW
open PySem PySem.Spec PyProof.Rows L2
/-! ### sorted: texts, as many as there are -/
theorem strs_vals : ∀ {xs : List Str} {us : List Value}, Vals (xs.map V.str) us → StrsAre us xs
  | [], [], _ => .nil
  | [], _ :: _, h => by cases h
  | _ :: _, [], h => by cases h
  | x :: xs, u :: us, h => by
    have h1 : L2.RelV (.str x) u ∧ Vals (xs.map V.str) us := by
      cases h with
      | cons a b => exact ⟨a, b⟩
    obtain ⟨t, rfl⟩ := h1.1
    exact .cons x t (strs_vals h1.2)
theorem vals_strs {xs : List Str} {us : List Value} (h : StrsAre us xs) : Vals (xs.map V.str) us := by
  induction h with
  | nil => exact .nil
  | cons y t h ih => exact .cons ⟨t, rfl⟩ ih
def rSortedSA (K : PySem.W.Frag) : List V → Hp → VK → Prop := fun vs H Q => ∃ (a : Addr) (xs : List Str), vs = [V.ref a] ∧ SqL K H a (xs.map V.str) ∧ ∀ (ys : List Str) (p : Addr), ys.Perm xs → PyProof.Rows.sortedS ys = true → H p = none → Q (.ref p) (upd H p (.lst (ys.map V.str)))
section
variable {X : Cx}
theorem cr_sortedSA : CallR X (.builtin "sorted") (rSortedSA X.K) := by
  intro pins s σ H vs us Q I r h
  obtain ⟨a, xs, rfl, hs, q⟩ := h
  obtain ⟨its, rv, hl, hz⟩ := I.list hs
  obtain ⟨u, rfl, ru⟩ := L2.vals1 r
  obtain rfl : u = Value.ref a := ru
  have hst := strs_vals rv
  refine sorted_strsAny hl.isList hst (by rw [← rv.length]; exact hz) fun out ss' ho hp hso => ?_
  obtain ⟨n, hn⟩ := sortedAll_at s.heap its out
  refine ⟨.ref (s.heap.objs.size + 1), upd H (s.heap.objs.size + 1) (.lst (ss'.map V.str)), I.laid (t' := s.toks) (fun b o e => sortedAll_old e) (Nat.le_succ _) ⟨?_, out.toList, n, vals_strs ho, ?_⟩, rfl, q _ _ hp hso (I.hok.fresh (Nat.le_succ _))⟩
  · rw [List.length_map, hp.length_eq]
    rwa [List.length_map] at hz
  · rw [Array.toArray_toList]
    exact hn
end
end FW
namespace FW
open PySem PySem.Spec PyProof.Rows L2
/-! ### a text so many times -/
def rMulS : R2 := fun x y H Q => ∃ (z : Str) (n : Int), x = .str z ∧ y = .int n ∧ MulOk z n ∧ Q (.str (Txt.mul z n)) H
theorem op_mulS {X : Cx} : OpR X (binaryOp .Mult) rMulS := by
  intro pins s σ H x y v u Q I rx ry h
  obtain ⟨z, n, rfl, rfl, ok, q⟩ := h
  obtain ⟨t, rfl⟩ := rx
  obtain ⟨t', rfl⟩ := ry
  exact SB.mul ok fun t'' k => ⟨.str _, H, I.tok _, ⟨_, rfl⟩, q⟩
theorem mulOk1 (c : Nat) {n : Int} (h : n = 3 ∨ n = 4 ∨ n = 5) : MulOk (S [c]) n := by
  rcases h with rfl | rfl | rfl
  · exact ⟨by decide, fun _ _ => (by decide : ¬ ((1 : Nat) : Int) > (2 ^ 63 - 1) / 3), fun _ _ => (by decide : Builtin.Str.tooLong (1 * 3) = false)⟩
  · exact ⟨by decide, fun _ _ => (by decide : ¬ ((1 : Nat) : Int) > (2 ^ 63 - 1) / 4), fun _ _ => (by decide : Builtin.Str.tooLong (1 * 4) = false)⟩
  · exact ⟨by decide, fun _ _ => (by decide : ¬ ((1 : Nat) : Int) > (2 ^ 63 - 1) / 5), fun _ _ => (by decide : Builtin.Str.tooLong (1 * 5) = false)⟩
theorem mul3 (c : Nat) : Txt.mul (S [c]) 3 = S [c, c, c] := rfl
theorem mul4 (c : Nat) : Txt.mul (S [c]) 4 = S [c, c, c, c] := rfl
theorem mul5 (c : Nat) : Txt.mul (S [c]) 5 = S [c, c, c, c, c] := rfl
end FW
namespace FW
open PySem PySem.Spec PyProof.Rows L2
/-! ### helpers of many laws -/
theorem lastOf {α : Type} {l : List α} (h : 0 < l.length) : ∃ i z, l = i ++ [z] := ⟨l.dropLast, l.getLast (List.ne_nil_of_length_pos h), (List.dropLast_concat_getLast _).symm⟩
theorem atI_lst {α : Type} {i : List α} {z : α} : atI (i ++ [z]) (-1) = some z := by
  have h : ixN (i ++ [z]).length (-1) = some i.length := by
    unfold ixN
    rw [List.length_append]
    show (if (0 : Int) ≤ -1 then _ else _) = _
    rw [if_neg (by omega), if_pos (by show -((i.length + 1 : Nat) : Int) ≤ -1; omega)]
    congr 1
    show ((-1 : Int) + ((i.length + 1 : Nat) : Int)).toNat = i.length
    omega
  unfold atI
  rw [h]
  show (i ++ [z])[i.length]? = some z
  rw [List.getElem?_append_right (Nat.le_refl _), Nat.sub_self]
  rfl
theorem rep_flat {α : Type} (x : α) (k : Nat) : (List.replicate (k : Int).toNat [x]).flatten = List.replicate k x := by
  rw [Int.toNat_natCast]
  induction k with
  | zero => rfl
  | succ k ih => rw [List.replicate_succ, List.replicate_succ, List.flatten_cons, ih]; rfl
/-- a comprehension over the signs of a text: tests and items that leave the heap -/
theorem lc_strP {z : Str} {σ : L2.St} {vs : List Nat} {H1 : Hp} {D : Addr} {Qd : Hp → Prop} {i : Nat} {tt : TT} {te : TE} (t : Nat → Bool) (v : Nat → V) (nD : H1 D = none) (hz : z.cps.size < sizeLine) (hw : ∀ x : V, wipe ((wipe σ vs).set i (some x)) vs = wipe σ vs)
    (hT : ∀ c ∈ z.cps.toList, ∀ H, Same H1 H → ∀ R : Bool → Hp → Prop, R (t c) H → tt ((wipe σ vs).set i (some (sgn c))) H R)
    (hE : ∀ c ∈ z.cps.toList, t c = true → ∀ H, Same H1 H → ∀ R : VK, R (v c) H → te ((wipe σ vs).set i (some (sgn c))) H R)
    (q : Qd (upd H1 D (.lst ((z.cps.toList.filter t).map v)))) :
    ∃ W : Nat → Nat → Hp → Prop, (∃ m, W 0 m (upd H1 D (.lst []))) ∧ ∀ j m H, W j m H →
      ((Its z).stop j H ∧ Qd H) ∨ ((Its z).go j H ∧ ∃ Nx : Hp → Prop, (∀ H', Nx H' → ∃ m', m' < m ∧ W (j + 1) m' H') ∧ ∀ x H', (Its z).yld j H x H' → gName i x (wipe σ vs) H' fun σ2 H2 => wipe σ2 vs = wipe σ vs ∧ tt σ2 H2 fun b H3 =>
        if b = true then te σ2 H3 fun y H4 => ∃ acc, H4 D = some (.lst acc) ∧ acc.length < sizeLine ∧ Nx (upd H4 D (.lst (acc ++ [y]))) else Nx H3) := by
  refine lc_it walk_str (fun i H' => H' = upd H1 D (.lst (((z.cps.toList.take i).filter t).map v))) rfl (fun _ _ _ _ => trivial) ?_ ?_
  · rintro j x _ _ hj rfl ⟨rfl, c, hc, rfl⟩
    have hc1 : z.cps.toList[j]? = some c := by rw [Array.getElem?_toList]; exact hc
    have e : z.cps.toList.take (j + 1) = z.cps.toList.take j ++ [c] := by
      rw [List.take_add_one, hc1]
      rfl
    have hm := List.mem_of_getElem? hc1
    refine ⟨hw _, hT c hm _ (same_upd nD) _ ?_⟩
    rw [e, List.filter_append, List.filter_cons]
    cases h : t c with
    | true =>
      rw [if_pos rfl]
      refine hE c hm h _ (same_upd nD) _ ⟨_, upd_same, ?_, ?_⟩
      · rw [List.length_map]
        refine Nat.lt_of_le_of_lt (List.length_filter_le _ _) (Nat.lt_of_le_of_lt (List.length_take_le' _ _) hz)
      · rw [upd_upd, if_pos rfl, List.map_append]
        rfl
    | false =>
      rw [if_neg Bool.false_ne_true, if_neg Bool.false_ne_true, List.filter_nil, List.append_nil]
  · rintro _ rfl
    rw [List.take_of_length_le (show z.cps.toList.length ≤ z.cps.size from Nat.le_refl _)]
    exact q
/-- the same over a list -/
theorem lc_listP {K : PySem.W.Frag} {a : Addr} {xs : List V} {σ : L2.St} {vs : List Nat} {H1 : Hp} {D : Addr} {Qd : Hp → Prop} {i : Nat} {tt : TT} {te : TE} (t : V → Bool) (v : V → V) (ha : SqL K H1 a xs) (nD : H1 D = none) (hz : xs.length < sizeLine) (hw : ∀ x : V, wipe ((wipe σ vs).set i (some x)) vs = wipe σ vs)
    (hT : ∀ x ∈ xs, ∀ H, Same H1 H → ∀ R : Bool → Hp → Prop, R (t x) H → tt ((wipe σ vs).set i (some x)) H R)
    (hE : ∀ x ∈ xs, t x = true → ∀ H, Same H1 H → ∀ R : VK, R (v x) H → te ((wipe σ vs).set i (some x)) H R)
    (q : Qd (upd H1 D (.lst ((xs.filter t).map v)))) :
    ∃ W : Nat → Nat → Hp → Prop, (∃ m, W 0 m (upd H1 D (.lst []))) ∧ ∀ j m H, W j m H →
      ((Itl K a).stop j H ∧ Qd H) ∨ ((Itl K a).go j H ∧ ∃ Nx : Hp → Prop, (∀ H', Nx H' → ∃ m', m' < m ∧ W (j + 1) m' H') ∧ ∀ x H', (Itl K a).yld j H x H' → gName i x (wipe σ vs) H' fun σ2 H2 => wipe σ2 vs = wipe σ vs ∧ tt σ2 H2 fun b H3 =>
        if b = true then te σ2 H3 fun y H4 => ∃ acc, H4 D = some (.lst acc) ∧ acc.length < sizeLine ∧ Nx (upd H4 D (.lst (acc ++ [y]))) else Nx H3) := by
  refine lc_it (walk_list (xs := xs)) (fun i H' => H' = upd H1 D (.lst (((xs.take i).filter t).map v))) rfl (fun j H' _ e => by rw [e]; exact (same_upd nD).seq ha) ?_ ?_
  · rintro j x _ H' hj rfl ⟨rfl, hc1⟩
    have e : xs.take (j + 1) = xs.take j ++ [x] := by
      rw [List.take_add_one, hc1]
      rfl
    have hm := List.mem_of_getElem? hc1
    refine ⟨hw _, hT x hm _ (same_upd nD) _ ?_⟩
    rw [e, List.filter_append, List.filter_cons]
    cases h : t x with
    | true =>
      rw [if_pos rfl]
      refine hE x hm h _ (same_upd nD) _ ⟨_, upd_same, ?_, ?_⟩
      · rw [List.length_map]
        refine Nat.lt_of_le_of_lt (List.length_filter_le _ _) (Nat.lt_of_le_of_lt (List.length_take_le' _ _) hz)
      · rw [upd_upd, if_pos rfl, List.map_append]
        rfl
    | false =>
      rw [if_neg Bool.false_ne_true, if_neg Bool.false_ne_true, List.filter_nil, List.append_nil]
  · rintro _ rfl
    rw [List.take_of_length_le (Nat.le_refl _)]
    exact q
section
variable {K : PySem.W.Frag}
/-- a value of some kind, no error's own -/
structure OddX (K : PySem.W.Frag) (H : Hp) (v : V) (d : PyData) : Prop where
  kind : (isStr v = true ∧ (strOf v).cps.size ≤ 100) ∨ NS H v
  dp : Dp K H v d
  deep : ∀ n, Deep (n + 1) d
theorem OddX.same {H H' : Hp} {v : V} {d : PyData} (o : OddX K H v d) (s : Same H H') : OddX K H' v d := ⟨o.kind.imp id fun n => n.same s, Dp.same s o.dp, o.deep⟩
theorem OddX.ext {H H' : Hp} {v : V} {d : PyData} (o : OddX K H v d) (e : LamX.ExtN H H') : OddX K H' v d := ⟨o.kind.imp id fun n => ns_ext e n, dp_ext e o.dp, o.deep⟩
theorem OddX.askd {H : Hp} {v : V} {d : PyData} (o : OddX K H v d) : Askd K H v := o.kind.elim (fun h => .inl ⟨h.1, Nat.le_trans h.2 (by decide)⟩) fun n => .inr n.not
theorem oddX_str {H : Hp} {z : Str} (h : z.cps.size ≤ 100) : OddX K H (.str z) (.str z) := ⟨.inl ⟨rfl, h⟩, .str z, fun _ => by unfold Deep; trivial⟩
theorem oddX_non {H : Hp} : OddX K H .non .none := ⟨.inr (.inl rfl), .non, fun _ => by unfold Deep; trivial⟩
theorem oddX_int {H : Hp} (n : Int) : OddX K H (.int n) (.int n) := ⟨.inr (.inr (.inl ⟨_, rfl⟩)), .int n, fun _ => by unfold Deep; trivial⟩
theorem oddX_bl {H : Hp} (c : Bool) : OddX K H (.bl c) (.bool c) := ⟨.inr (.inr (.inr (.inl ⟨_, rfl⟩))), .bl c, fun _ => by unfold Deep; trivial⟩
theorem oddX_lst {H : Hp} {p : Addr} (zs : List Str) (h : H p = some (.lst (zs.map V.str))) (hl : zs.length ≤ 100) : OddX K H (.ref p) (.list (zs.map PyData.str)) :=
  ⟨.inr (.inr (.inr (.inr (.inl ⟨p, _, rfl, h⟩)))), .lst (SqL.of h) (dp_strs zs), fun n => deep_strs (by omega)⟩
theorem oddX_tup {H : Hp} {p : Addr} (zs : List Str) (h : H p = some (.tup (zs.map V.str))) (hl : zs.length ≤ 100) : OddX K H (.ref p) (.tuple (zs.map PyData.str)) :=
  ⟨.inr (.inr (.inr (.inr (.inr ⟨p, _, rfl, h⟩)))), .tup (SqT.of h) (dp_strs zs), fun n => by
    unfold Deep
    refine ⟨by rw [List.length_map]; omega, fun d hd => ?_⟩
    obtain ⟨c, _, rfl⟩ := List.mem_map.mp hd
    unfold Deep
    trivial⟩
/-- the same, and it stays while the bag alone changes -/
def OddD (K : PySem.W.Frag) (b : Addr) (H : Hp) (v : V) (d : PyData) : Prop := ∀ H', But b H H' → OddX K H' v d
theorem OddD.now {H : Hp} {b : Addr} {v : V} {d : PyData} (o : OddD K b H v d) : OddX K H v d := o H (Same.refl H).but
theorem OddD.drawn {H H' : Hp} {b : Addr} {v : V} {d : PyData} (o : OddD K b H v d) (s : But b H H') : OddD K b H' v d := fun H2 s2 => o H2 (s.trans s2)
theorem OddD.same {H H' : Hp} {b : Addr} {v : V} {d : PyData} (o : OddD K b H v d) (s : Same H H') : OddD K b H' v d := o.drawn s.but
theorem oddD_of {H : Hp} {b : Addr} {v : V} {d : PyData} (h : ∀ H', OddX K H' v d) : OddD K b H v d := fun H' _ => h H'
theorem oddD_lst {H : Hp} {b p : Addr} (zs : List Str) (n : p ≠ b) (h : H p = some (.lst (zs.map V.str))) (hl : zs.length ≤ 100) : OddD K b H (.ref p) (.list (zs.map PyData.str)) := fun H' s => oddX_lst zs (s _ _ n h) hl
theorem oddD_tup {H : Hp} {b p : Addr} (zs : List Str) (n : p ≠ b) (h : H p = some (.tup (zs.map V.str))) (hl : zs.length ≤ 100) : OddD K b H (.ref p) (.tuple (zs.map PyData.str)) := fun H' s => oddX_tup zs (s _ _ n h) hl
theorem ns_letter {H : Hp} {v : V} (n : NS H v) (L : List Nat) : bLetter v L = false := by
  unfold bLetter
  rw [(n.not (K := default)).1]
  rfl
theorem str_room {l F : List Nat} (h : l.length ≠ 4 ∨ ∃ c ∈ l, c ∉ F) : bRoom (.str (S l)) (S F) = false := by
  unfold bRoom
  rcases h with h | ⟨c, hc, hF⟩
  · rw [show decide ((strOf (V.str (S l))).cps.size = 4) = false from decide_eq_false h, Bool.and_false]
  · rw [show bString (.str (S l)) (S F) = false from by
      unfold bString
      rw [show ((strOf (V.str (S l))).cps.toList.all fun c => decide (c ∈ (S F).cps.toList)) = false from by
        rw [List.all_eq_false]
        exact ⟨c, hc, by simpa using hF⟩]
      rfl, Bool.false_and]
theorem str_letter {l L : List Nat} (h : l.length ≠ 1 ∨ ∃ c, l = [c] ∧ c ∉ L) : bLetter (.str (S l)) L = false := by
  unfold bLetter
  rcases h with h | ⟨c, rfl, hc⟩
  · rw [show decide ((strOf (V.str (S l))).cps.size = 1) = false from decide_eq_false h]
    rfl
  · rw [show decide ((strOf (V.str (S [c]))).cps.toList.getD 0 0 ∈ L) = false from decide_eq_false hc, Bool.and_false]
/-- a number or None as data -/
def dOptN : Option Nat → PyData
  | some i => .int (i : Nat)
  | none => .none
theorem deep_non {n : Nat} : Deep n .none := by unfold Deep; trivial
theorem deep_bool {n : Nat} {b : Bool} : Deep n (.bool b) := by unfold Deep; trivial
theorem deep_int {n : Nat} {i : Int} : Deep n (.int i) := by unfold Deep; trivial
theorem deep_str {n : Nat} {z : Str} : Deep n (.str z) := by unfold Deep; trivial
theorem deep_tup {n : Nat} {ds : List PyData} (h : ds.length ≤ 1000) (q : ∀ d ∈ ds, Deep n d) : Deep (n + 1) (.tuple ds) := by
  unfold Deep
  exact ⟨h, q⟩
theorem deep_optN {n : Nat} (o : Option Nat) : Deep n (dOptN o) := by
  cases o
  · exact deep_non
  · exact deep_int
theorem deep_mono : ∀ (n : Nat) {d : PyData}, Deep n d → Deep (n + 1) d
  | n, .none, _ => deep_non
  | n, .bool _, _ => deep_bool
  | n, .int _, _ => deep_int
  | n, .str _, _ => deep_str
  | 0, .list _, h => by unfold Deep at h; exact h.elim
  | 0, .tuple _, h => by unfold Deep at h; exact h.elim
  | n + 1, .list ds, h => by
    unfold Deep at h
    exact deep_list h.1 fun d hd => deep_mono n (h.2 d hd)
  | n + 1, .tuple ds, h => by
    unfold Deep at h
    exact deep_tup h.1 fun d hd => deep_mono n (h.2 d hd)
  | 0, .dict _, h => by unfold Deep at h; exact h.elim
  | n + 1, .dict _, h => by unfold Deep at h; exact h.elim
end
end FW
namespace FW
open PySem PySem.Spec PyProof.Rows L2
/-! ### the lambdas of a list, tried one by one: what is told of each -/
section
variable {X : Cx} {k : Nat} {cs : List Value} {σ : L2.St}
/-- one lambda of the list: D is the list that is filled -/
def OneAsk (cs : List Value) (σ : L2.St) (Hn : Hp) (D : Addr) (fa : Addr × AskS X k) (d : PyData) : Prop :=
  ∀ H, Same Hn H → (∃ acc, H D = some (.lst acc)) → (∃ c' dV, LamAt H fa.1 (fa.2.lam c' dV) fa.2.dvs) ∧
    ∀ Q' : VK, (∀ H' v, Same H H' → (∀ Hx, But D H' Hx → Dp X.K Hx v d) → Q' v H') → TTry X.K cs (fa.2.tb (fa.2.js.map (NdefX.slotAt σ))) H Q'
def AllAsk (cs : List Value) (σ : L2.St) (Hn : Hp) (D : Addr) : List (Addr × AskS X k) → List PyData → Prop
  | [], [] => True
  | fa :: r, d :: ds => OneAsk cs σ Hn D fa d ∧ AllAsk cs σ Hn D r ds
  | _, _ => False
theorem dpAll_snoc {K : PySem.W.Frag} {H : Hp} : ∀ {vs : List V} {ds : List PyData} {v : V} {d : PyData}, DpAll K H vs ds → Dp K H v d → DpAll K H (vs ++ [v]) (ds ++ [d])
  | _, _, _, _, .nil, h => .cons h .nil
  | _, _, _, _, .cons a t, h => .cons a (dpAll_snoc t h)
theorem chain_run {Hn : Hp} {l D : Addr} {all : List V} {Q : VK} (nD : Hn D = none) (hl : Hn l = some (.lst all)) : ∀ (r : List (Addr × AskS X k)) (ds : List PyData) (acc : List V) (dacc : List PyData) (H : Hp), Same Hn H → H D = some (.lst acc) →
    (∀ Hx, But D H Hx → DpAll X.K Hx acc dacc) → AllAsk cs σ Hn D r ds → (∀ H' vs, Same Hn H' → H' D = some (.lst vs) → DpAll X.K H' vs (dacc ++ ds) → Q (.ref D) H') → ChainL X k cs σ l D all Q r acc H
  | [], [], acc, dacc, H, s, hD, hd, _, q => q H acc s hD (by rw [List.append_nil]; exact hd H fun _ _ _ e => e)
  | [], _ :: _, _, _, _, _, _, _, a, _ => a.elim
  | _ :: _, [], _, _, _, _, _, _, a, _ => a.elim
  | (f, a) :: r, d :: ds, acc, dacc, H, s, hD, hd, ⟨h1, h2⟩, q => by
    obtain ⟨la, ht⟩ := h1 H s ⟨acc, hD⟩
    refine ⟨la, ht _ fun H' v s' hv => ⟨s' _ _ (s _ _ hl), s' _ _ hD, ?_⟩⟩
    have sn : Same Hn (upd H' D (.lst (acc ++ [v]))) := fun c o e => (upd_ne (ne_of_none e nD)).trans (s' _ _ (s _ _ e))
    refine chain_run nD hl r ds (acc ++ [v]) (dacc ++ [d]) _ sn upd_same (fun Hx bx => ?_) h2 (fun H2 vs s2 h2 hd2 => q H2 vs s2 h2 (by rw [List.append_assoc] at hd2; exact hd2))
    have b1 : But D H' Hx := fun c o n e => bx c o n ((upd_ne n).trans e)
    exact dpAll_snoc (hd Hx fun c o n e => b1 c o n (s' _ _ e)) (hv Hx b1)
theorem tries_run {H1 : Hp} {l : Addr} {fs : List Addr} {asks : List (AskS X k)} {Q : VK} (ds : List PyData) (hl : H1 l = some (.lst (fs.map V.ref))) (one : ∀ D, H1 D = none → AllAsk cs σ H1 D (fs.zip asks) ds) (q : ∀ H' D, Same H1 H' → H1 D = none → Dp X.K H' (.ref D) (.list ds) → Q (.ref D) H') :
    ∀ D, H1 D = none → ChainL X k cs σ l D (fs.map V.ref) Q (fs.zip asks) [] (upd H1 D (.lst [])) := fun D nD =>
  chain_run nD hl _ ds [] [] _ (same_upd nD) upd_same (fun _ _ => .nil) (one D nD) fun H' vs s hD hd => q H' D s nD (.lst (SqL.of hD) hd)
/-- an ask that raises -/
theorem oneAsk_err {Hn : Hp} {D f : Addr} {a : AskS X k} {mg : Str → Option Value} {C : Addr} {fld z : String} {v : V} {dv : PyData} {c' : Addr} {dV : Value} (T : ErrF X.K mg C fld z cs) (nD : Hn D = none) (la : LamAt Hn f (a.lam c' dV) a.dvs) (hv : Dp X.K Hn v dv)
    (h : ∀ H, Same Hn H → ∀ (E : XK) (Q : VK), (∀ H' d, Same H H' → H' d = none → E (.ref C) (some d) (upd H' d (Err1 fld z v))) → a.tb (a.js.map (NdefX.slotAt σ)) E H Q) : OneAsk cs σ Hn D (f, a) (.tuple [.str (Str.ofString z), dv]) := by
  refine fun H s hD => ⟨⟨c', dV, la.same s⟩, fun Q' q => h H s _ _ fun H' d s' nd => T.tried nd fun H2 p s2 np => ?_⟩
  have st := same_upd (o := HO.tup [.str (Str.ofString z), v]) np
  refine q _ _ (s'.trans (s2.trans st)) fun Hx bx => ?_
  obtain ⟨acc, hD⟩ := hD
  have hpD : p ≠ D := fun e => by
    rw [e, s2 _ _ (s' _ _ hD)] at np
    cases np
  have sx : Same Hn Hx := fun c o e => bx c o (ne_of_none e nD) (st _ _ (s2 _ _ (s' _ _ (s _ _ e))))
  exact .tup (SqT.of (bx _ _ hpD upd_same)) (.cons (.str _) (.cons (Dp.same sx hv) .nil))
/-- an ask that answers -/
theorem oneAsk_ok {Hn : Hp} {D f : Addr} {a : AskS X k} {dv : PyData} {c' : Addr} {dV : Value} (nD : Hn D = none) (la : LamAt Hn f (a.lam c' dV) a.dvs)
    (h : ∀ H, Same Hn H → (∃ acc, H D = some (.lst acc)) → ∀ (E : XK) (Q : VK), (∀ H' v, Same H H' → (∀ Hx, But D H' Hx → Dp X.K Hx v dv) → Q v H') → a.tb (a.js.map (NdefX.slotAt σ)) E H Q) : OneAsk cs σ Hn D (f, a) (.tuple [.str "", dv]) := by
  refine fun H s hD => ⟨⟨c', dV, la.same s⟩, fun Q' q => h H s hD _ _ fun H' v s' hv => ⟨(show 2 ≤ sizeLine by decide), fun p np => ?_⟩⟩
  have st := same_upd (o := HO.tup [.str "", v]) np
  refine q _ _ (s'.trans st) fun Hx bx => ?_
  obtain ⟨acc, hD⟩ := hD
  have hpD : p ≠ D := fun e => by
    rw [e, s' _ _ hD] at np
    cases np
  have b1 : But D H' Hx := fun c o n e => bx c o n (st _ _ e)
  exact .tup (SqT.of (bx _ _ hpD upd_same)) (.cons (.str _) (.cons (hv Hx b1) .nil))
end
end FW
namespace FW
open PySem PySem.Spec PyProof.Rows L2
/-! ### len, repr and bool of own objects -/
section
variable {X : Cx} {CX : CXT} {C f : Addr} {n : Nat} {sp : Sp} {E : XK}
def rOwn1 (C : Addr) (sp : Sp) (E : XK) (ok : V → Prop) : List V → Hp → VK → Prop := fun xs H Q => ∃ a dx fs, xs = [V.ref a] ∧ H a = some (.ins C dx fs) ∧ sp [.ref a] H (fun v H' => ok v ∧ Q v H') E
theorem cr_lenO (hs : PySem.W.findIn X.K (.ref C) "__len__" = some (some (.ref f))) (hf : PySem.W.isFn X.K (.ref f) = true) (F : FnR X.prog X.w X.K X.mg X.base CX n f sp) (hr : Room (n + 1) X.A) (hx : Passes CX X E) :
    CallR X (.builtin "len") (rOwn1 C sp E fun v => ∃ i : Int, v = .int i ∧ 0 ≤ i ∧ i < 2 ^ 63) := by
  intro pins s σ H vs us Q I r h
  obtain ⟨a, dx, fs, rfl, ha, q⟩ := h
  obtain ⟨u, rfl, ru⟩ := L2.vals1 r
  obtain rfl : u = Value.ref a := ru
  obtain ⟨mA, J, _⟩ := ins_get I.hok ha
  obtain ⟨od, J, _⟩ := J.look
  obtain ⟨m, hF⟩ := I.fr
  refine PySem.W.len_K hF I.ok.mod.kin J hs hf ?_
  refine wpAny_mono (wpAny_call (SlX.run_at (us := [.ref a]) (ws := [.ref a]) F hr.in1 I.env0.in1 hx I (.cons rfl .nil) q)) (fun w s' z => ?_) fun _ _ x => x
  obtain ⟨z', H', I', rz, ⟨i, rfl, h0, h1⟩, qz⟩ := z
  obtain ⟨t, rfl⟩ := rz
  exact ⟨⟨h0, h1⟩, .int i, H', I'.tok _, ⟨_, rfl⟩, qz⟩
theorem cr_reprO (hs : PySem.W.findIn X.K (.ref C) "__repr__" = some (some (.ref f))) (hf : PySem.W.isFn X.K (.ref f) = true) (F : FnR X.prog X.w X.K X.mg X.base CX n f sp) (hr : Room (n + 1) X.A) (hx : Passes CX X E) :
    CallR X (.builtin "repr") (rOwn1 C sp E fun v => ∃ z : Str, v = .str z) := by
  intro pins s σ H vs us Q I r h
  obtain ⟨a, dx, fs, rfl, ha, q⟩ := h
  obtain ⟨u, rfl, ru⟩ := L2.vals1 r
  obtain rfl : u = Value.ref a := ru
  obtain ⟨mA, J, _⟩ := ins_get I.hok ha
  obtain ⟨od, J, _⟩ := J.look
  obtain ⟨m, hF⟩ := I.fr
  refine PySem.W.repr_K (by have := hr.in1.un; omega) hF I.ok.mod.kin J hs hf ?_
  refine wpAny_mono (wpAny_call (SlX.run_at (us := [.ref a]) (ws := [.ref a]) F hr.in1 I.env0.in1 hx I (.cons rfl .nil) q)) (fun w s' z => ?_) fun _ _ x => x
  obtain ⟨z', H', I', rz, ⟨z, rfl⟩, qz⟩ := z
  obtain ⟨t, rfl⟩ := rz
  exact ⟨.str z, H', I', ⟨_, rfl⟩, qz⟩
theorem cr_boolO (hs : PySem.W.findIn X.K (.ref C) "__bool__" = some (some (.ref f))) (hf : PySem.W.isFn X.K (.ref f) = true) (F : FnR X.prog X.w X.K X.mg X.base CX n f sp) (hr : Room (n + 2) X.A) (hx : Passes CX X E) :
    CallR X (.type "bool") (rOwn1 C sp E fun v => ∃ b : Bool, v = .bl b) := by
  intro pins s σ H vs us Q I r h
  obtain ⟨a, dx, fs, rfl, ha, q⟩ := h
  obtain ⟨u, rfl, ru⟩ := L2.vals1 r
  obtain rfl : u = Value.ref a := ru
  obtain ⟨mA, J, _⟩ := ins_get I.hok ha
  obtain ⟨od, J, _⟩ := J.look
  obtain ⟨m, hF⟩ := I.fr
  refine callType_newIn PySem.F.called_bool (by decide) (PySem.F.typeCall_bool_1 _) (PySem.F.newCall_bool_1 _) (fun obj => PySem.F.args_object_init_2 obj _) PySem.F.entry_bool_new
    (S := fun A R s => wpAny (model X.prog X.w) A.in1 (truthy (.ref a)) (fun b s' => R (.ok (.ret (.bool b))) s') (fun e s' => R (.error e) s') s) ?_ ?_
  · intro A R s h
    unfold Builtin.«bool.__new__»
    repeat (first | (refine wpAny_bind (m := truthy _) (wpAny_mono h (fun b s' hb => ?_) fun _ _ e => e)) | wp_step)
    exact hb
  · refine PySem.W.truthy_K hF I.ok.mod.kin J hs hf ?_
    refine wpAny_mono (wpAny_call (SlX.run_at (us := [.ref a]) (ws := [.ref a]) F hr.in1.in1 I.env0.in1.in1 hx I (.cons rfl .nil) q)) (fun w s' z => ?_) fun _ _ x => x
    obtain ⟨z', H', I', rz, ⟨b, rfl⟩, qz⟩ := z
    obtain rfl : w = Value.bool b := rz
    exact ⟨PySem.typeIs_bool _ b, .bl b, H', I', rfl, qz⟩
end
end FW
namespace FW
open PySem PySem.Spec PyProof.Rows L2
/-! ### rules with the frag given; methods that take any number of values -/
theorem ix_listE {X : Cx} {K : PySem.W.Frag} (h : X.K = K) : IxR X (rIxL K) := by
  subst h
  exact ix_list
theorem ix_tupE {X : Cx} {K : PySem.W.Frag} (h : X.K = K) : IxR X (rIxT K) := by
  subst h
  exact ix_tup
theorem op_inE {X : Cx} {K : PySem.W.Frag} (h : X.K = K) : OpR X (compareOp .In) (rIn K false) := by
  subst h
  exact op_in_seq
theorem op_notInE {X : Cx} {K : PySem.W.Frag} (h : X.K = K) : OpR X (compareOp .NotIn) (rIn K true) := by
  subst h
  exact op_notIn_seq
theorem sl_tupE {X : Cx} {K : PySem.W.Frag} (h : X.K = K) : SlR X (rSlT K) := by
  subst h
  exact sl_tup
theorem op_catTE {X : Cx} {K : PySem.W.Frag} (h : X.K = K) : OpR X (binaryOp .Add) (rCatT K) := by
  subst h
  exact op_catT
theorem noneS {H H' : Hp} {p : Addr} (s : Same H H') (n : H' p = none) : H p = none := by
  cases z : H p with
  | none => rfl
  | some o =>
    rw [s _ _ z] at n
    cases n
/-- flat values as data -/
def flD : V → PyData
  | .bl b => .bool b
  | .int i => .int i
  | .str z => .str z
  | _ => .none
theorem dp_fl {K : PySem.W.Frag} {H : Hp} {v : V} (h : flatV v = true) : Dp K H v (flD v) := by
  cases v with
  | non => exact .non
  | bl b => exact .bl b
  | int i => exact .int i
  | str z => exact .str z
  | _ => exact absurd (show false = true from h) Bool.false_ne_true
theorem dp_flat {K : PySem.W.Frag} {H : Hp} : ∀ {xs : List V}, xs.all flatV = true → DpAll K H xs (xs.map flD)
  | [], _ => .nil
  | x :: r, h => by
    have h' : (flatV x && r.all flatV) = true := h
    obtain ⟨h1, h2⟩ := Bool.and_eq_true_iff.mp h'
    exact .cons (dp_fl h1) (dp_flat h2)
theorem deep_fl {n : Nat} (v : V) : Deep n (flD v) := by
  cases v <;> first | exact deep_non | exact deep_bool | exact deep_int | exact deep_str
theorem deep_flat {n : Nat} {xs : List V} (h : xs.length ≤ 1000) : Deep (n + 1) (.list (xs.map flD)) := deep_list (by rw [List.length_map]; exact h) fun d hd => by
  obtain ⟨v, _, rfl⟩ := List.mem_map.mp hd
  exact deep_fl v
theorem deep_flatT {n : Nat} {xs : List V} (h : xs.length ≤ 1000) : Deep (n + 1) (.tuple (xs.map flD)) := deep_tup (by rw [List.length_map]; exact h) fun d hd => by
  obtain ⟨v, _, rfl⟩ := List.mem_map.mp hd
  exact deep_fl v
theorem oddX_lstF {K : PySem.W.Frag} {H : Hp} {p : Addr} (xs : List V) (hf : xs.all flatV = true) (h : H p = some (.lst xs)) (hl : xs.length ≤ 100) : OddX K H (.ref p) (.list (xs.map flD)) :=
  ⟨.inr (.inr (.inr (.inr (.inl ⟨p, _, rfl, h⟩)))), .lst (SqL.of h) (dp_flat hf), fun _ => deep_flat (by omega)⟩
theorem oddX_tupF {K : PySem.W.Frag} {H : Hp} {p : Addr} (xs : List V) (hf : xs.all flatV = true) (h : H p = some (.tup xs)) (hl : xs.length ≤ 100) : OddX K H (.ref p) (.tuple (xs.map flD)) :=
  ⟨.inr (.inr (.inr (.inr (.inr ⟨p, _, rfl, h⟩)))), .tup (SqT.of h) (dp_flat hf), fun _ => deep_flatT (by omega)⟩
theorem oddD_lstF {K : PySem.W.Frag} {H : Hp} {b p : Addr} (xs : List V) (hf : xs.all flatV = true) (n : p ≠ b) (h : H p = some (.lst xs)) (hl : xs.length ≤ 100) : OddD K b H (.ref p) (.list (xs.map flD)) := fun H' s => oddX_lstF xs hf (s _ _ n h) hl
theorem oddD_tupF {K : PySem.W.Frag} {H : Hp} {b p : Addr} (xs : List V) (hf : xs.all flatV = true) (n : p ≠ b) (h : H p = some (.tup xs)) (hl : xs.length ≤ 100) : OddD K b H (.ref p) (.tuple (xs.map flD)) := fun H' s => oddX_tupF xs hf (s _ _ n h) hl
/-- asked whether it is a number -/
def AskN (K : PySem.W.Frag) (H : Hp) (v : V) : Prop := isNum v = true ∨ (isNum v = false ∧ NotI K H v)
theorem OddX.askn {K : PySem.W.Frag} {H : Hp} {v : V} {d : PyData} (o : OddX K H v d) : AskN K H v := by
  rcases o.kind with ⟨h, _⟩ | rfl | ⟨i, rfl⟩ | ⟨c, rfl⟩ | ⟨p, xs, rfl, h⟩ | ⟨p, xs, rfl, h⟩
  · obtain ⟨z, rfl⟩ := str_of h
    exact .inr ⟨rfl, "str", .base (.str z), by decide +kernel⟩
  · exact .inr ⟨rfl, "NoneType", .base .non, by decide +kernel⟩
  · exact .inl rfl
  · exact .inl rfl
  · exact .inr ⟨rfl, "list", .base (.lst h), by decide +kernel⟩
  · exact .inr ⟨rfl, "tuple", .base (.tup h), by decide +kernel⟩
section
variable {X : Cx} {CX : CXT} {k j : Nat} {f C : Addr} {sp : Sp} {E : XK} {m : Str} {o e : Expr} {es : List Expr} {ta : TE} {t : TA} {pos apos : Pos}
def tMethR (C : Addr) (m : Str) (sp : Sp) (E : XK) (ta : TE) (t : TA) : TE := fun σ H Q => ta σ H fun x H1 => ∃ a dx fs, x = .ref a ∧ H1 a = some (.ins C dx fs) ∧ fs.lookup m = none ∧ t σ H1 fun vs H2 => sp (V.ref a :: vs) H2 Q E
/-- o.m(e, ..), m told of by what it is called with -/
theorem pe_methR {pl : Sem Bool} (he : PE X o ta) (c : Cls X.K C) (hm : Meth X.K C m f) (F : FnR X.prog X.w X.K X.mg X.base CX k f sp) (hr : Room k X.A) (hx : Passes CX X E) (ha : PA X (e :: es) t)
    (hst : starEach (e :: es) X.env = (false, eval e X.env) :: starEach es X.env := by rfl) (hpl : (backTo pos (starEach es X.env)).any (·.1) = false := by rfl)
    (ht : eval (.Call (.Attribute o m apos) (e :: es) [] pos) X.env = (do
      let ov ← eval o X.env
      standAt apos.atName
      let (f, first) ← holding [ov] (getMethod ov m pl)
      callWith pos f first (backTo pos (starEach (e :: es) X.env)) (backToKw pos (keywordEach [] X.env))) := by rfl) :
    PE X (.Call (.Attribute o m apos) (e :: es) [] pos) (tMethR C m sp E ta t) := by
  refine ⟨fun pins s σ H Q I h => ?_⟩
  refine PySem.W.methodCall_KW (pl := pl) (thn (he.run pins s σ H _ I h) fun u s1 ⟨x, H1, I1, rx, a, dx, fs, ex, ea, l, q⟩ => ?_) ht
  subst ex
  obtain rfl : u = Value.ref a := rx
  refine getmeth_ok I1 ea c hm l ?_
  refine PySem.W.callWith_K (first := [.ref a]) (h₀ := X.base) I.ok.mod.kin hm.kp (thn (ha.run pos pins s1 σ H1 _ I1 q) fun us s2 ⟨vs, H2, I2, r, q2⟩ => ⟨I2.kIn, ?_⟩) hst hpl
  exact wpAny_call (L2.run_fnR (us := .ref a :: us) (vs := .ref a :: vs) F hr hx I2 (.cons rfl r) q2)
/-- o.m() -/
theorem pe_methR0 {pl : Sem Bool} (he : PE X o ta) (c : Cls X.K C) (hm : Meth X.K C m f) (F : FnR X.prog X.w X.K X.mg X.base CX k f sp) (hr : Room k X.A) (hx : Passes CX X E)
    (ht : eval (.Call (.Attribute o m apos) [] [] pos) X.env = (do
      let ov ← eval o X.env
      standAt apos.atName
      let (f, first) ← holding [ov] (getMethod ov m pl)
      callWith pos f first (backTo pos (starEach [] X.env)) (backToKw pos (keywordEach [] X.env))) := by rfl) :
    PE X (.Call (.Attribute o m apos) [] [] pos) (tMethR C m sp E ta tNil) := by
  refine ⟨fun pins s σ H Q I h => ?_⟩
  refine PySem.W.methodCall_KW (pl := pl) (thn (he.run pins s σ H _ I h) fun u s1 ⟨x, H1, I1, rx, a, dx, fs, ex, ea, l, q⟩ => ?_) ht
  subst ex
  obtain rfl : u = Value.ref a := rx
  refine getmeth_ok I1 ea c hm l ?_
  exact PySem.W.callWith_K0 (first := [.ref a]) I1.kIn hm.kp (wpAny_call (L2.run_fnR (us := [.ref a]) (vs := [.ref a]) F hr hx I1 (.cons rfl .nil) q))
structure MCalR (P : Program) (w : World) (K : PySem.W.Frag) (mg : Str → Option Value) (base : Heap) (CX : CXT) (C : Addr) (k : Nat) (m : Str) (sp : Sp) : Prop where
  ex : ∃ f : Addr, Meth K C m f ∧ FnR P w K mg base CX k f sp
theorem pe_mR {pl : Sem Bool} (c : MCalR X.prog X.w X.K X.mg X.base CX0 C k m sp) (hC : Cls X.K C) (hr : Room j X.A) (hk : k ≤ j) (he : PE X o ta) (ha : PA X (e :: es) t)
    (hst : starEach (e :: es) X.env = (false, eval e X.env) :: starEach es X.env := by rfl) (hpl : (backTo pos (starEach es X.env)).any (·.1) = false := by rfl)
    (ht : eval (.Call (.Attribute o m apos) (e :: es) [] pos) X.env = (do
      let ov ← eval o X.env
      standAt apos.atName
      let (f, first) ← holding [ov] (getMethod ov m pl)
      callWith pos f first (backTo pos (starEach (e :: es) X.env)) (backToKw pos (keywordEach [] X.env))) := by rfl) :
    PE X (.Call (.Attribute o m apos) (e :: es) [] pos) (tMethR C m sp E0 ta t) := by
  obtain ⟨f, hm, F⟩ := c.ex
  exact pe_methR he hC hm F (hr.mono hk) pass0 ha hst hpl ht
theorem pe_mR0 {pl : Sem Bool} (c : MCalR X.prog X.w X.K X.mg X.base CX0 C k m sp) (hC : Cls X.K C) (hr : Room j X.A) (hk : k ≤ j) (he : PE X o ta)
    (ht : eval (.Call (.Attribute o m apos) [] [] pos) X.env = (do
      let ov ← eval o X.env
      standAt apos.atName
      let (f, first) ← holding [ov] (getMethod ov m pl)
      callWith pos f first (backTo pos (starEach [] X.env)) (backToKw pos (keywordEach [] X.env))) := by rfl) :
    PE X (.Call (.Attribute o m apos) [] [] pos) (tMethR C m sp E0 ta tNil) := by
  obtain ⟨f, hm, F⟩ := c.ex
  exact pe_methR0 he hC hm F (hr.mono hk) pass0 ht
theorem pe_mRx {pl : Sem Bool} (c : MCalR X.prog X.w X.K X.mg X.base CX C k m sp) (hC : Cls X.K C) (hr : Room j X.A) (hk : k ≤ j) (hx : Passes CX X E) (he : PE X o ta) (ha : PA X (e :: es) t)
    (hst : starEach (e :: es) X.env = (false, eval e X.env) :: starEach es X.env := by rfl) (hpl : (backTo pos (starEach es X.env)).any (·.1) = false := by rfl)
    (ht : eval (.Call (.Attribute o m apos) (e :: es) [] pos) X.env = (do
      let ov ← eval o X.env
      standAt apos.atName
      let (f, first) ← holding [ov] (getMethod ov m pl)
      callWith pos f first (backTo pos (starEach (e :: es) X.env)) (backToKw pos (keywordEach [] X.env))) := by rfl) :
    PE X (.Call (.Attribute o m apos) (e :: es) [] pos) (tMethR C m sp E ta t) := by
  obtain ⟨f, hm, F⟩ := c.ex
  exact pe_methR he hC hm F (hr.mono hk) hx ha hst hpl ht
end
end FW
namespace FW
open PySem PySem.Spec PyProof.Rows L2
-- more
section
variable {P : Program} {w : World} {K : PySem.W.Frag} {mg : Str → Option Value} {base : Heap}
abbrev s_InvalidFaces_init : Stmt := inCls (topS 4) 0
theorem sc_InvalidFaces_init : FnScope ["self", "given"] ["self", "given"] (defScope s_InvalidFaces_init) := ⟨rfl, rfl, rfl, by decide +kernel, rfl, by decide +kernel, by decide +kernel⟩
theorem ok_InvalidFaces_init {f : Addr} {fd : FuncData} (F : Fun K "__init__" "InvalidFaces.__init__" s_InvalidFaces_init f fd) (G : GsK K) : FnOk P w K mg base CX0 1 f fd ["self", "given"] (sp_init K "given") := by
  refine F.ok sc_InvalidFaces_init (fun vs H Q E h => ?_) (fun cdv A outer s H vs Q E hr h => ?_)
  · obtain ⟨a, C, v, z, rfl, _⟩ := h
    rfl
  · obtain ⟨a, C, v, z, rfl, ha, T, Te, Tn, nf, nc, q⟩ := h
    refine ⟨_, (pss_cons (ps_ost (pv 0) (pv 1)) (pss_one (ps_ost (pv 0) (pe_name (pe_cls G (pv 0)))))), ?_⟩
    refine ⟨_, rfl, _, rfl, a, C, rfl, T, nf, .inl ⟨ha, fun dx hd hda => ?_⟩⟩
    have e1 : (upd (upd H dx (exd dx [(Str.ofString "given", v)])) a (exo a C (some dx))) a = some (exo a C (some dx)) := upd_same
    have e2 : (upd (upd H dx (exd dx [(Str.ofString "given", v)])) a (exo a C (some dx))) dx = some (exd dx [(Str.ofString "given", v)]) := by
      rw [upd_ne hda, upd_same]
    refine ⟨_, rfl, a, C, rfl, .inr ⟨dx, _, e1, e2⟩, Te, C, z, rfl, Tn, _, rfl, a, C, rfl, T, nc, .inr ⟨dx, _, e1, e2, (show 1 ≤ 900 by decide), ?_⟩⟩
    exact q dx hd hda
abbrev s_InvalidCutters_init : Stmt := inCls (topS 5) 0
theorem sc_InvalidCutters_init : FnScope ["self", "given"] ["self", "given"] (defScope s_InvalidCutters_init) := ⟨rfl, rfl, rfl, by decide +kernel, rfl, by decide +kernel, by decide +kernel⟩
theorem ok_InvalidCutters_init {f : Addr} {fd : FuncData} (F : Fun K "__init__" "InvalidCutters.__init__" s_InvalidCutters_init f fd) (G : GsK K) : FnOk P w K mg base CX0 1 f fd ["self", "given"] (sp_init K "given") := by
  refine F.ok sc_InvalidCutters_init (fun vs H Q E h => ?_) (fun cdv A outer s H vs Q E hr h => ?_)
  · obtain ⟨a, C, v, z, rfl, _⟩ := h
    rfl
  · obtain ⟨a, C, v, z, rfl, ha, T, Te, Tn, nf, nc, q⟩ := h
    refine ⟨_, (pss_cons (ps_ost (pv 0) (pv 1)) (pss_one (ps_ost (pv 0) (pe_name (pe_cls G (pv 0)))))), ?_⟩
    refine ⟨_, rfl, _, rfl, a, C, rfl, T, nf, .inl ⟨ha, fun dx hd hda => ?_⟩⟩
    have e1 : (upd (upd H dx (exd dx [(Str.ofString "given", v)])) a (exo a C (some dx))) a = some (exo a C (some dx)) := upd_same
    have e2 : (upd (upd H dx (exd dx [(Str.ofString "given", v)])) a (exo a C (some dx))) dx = some (exd dx [(Str.ofString "given", v)]) := by
      rw [upd_ne hda, upd_same]
    refine ⟨_, rfl, a, C, rfl, .inr ⟨dx, _, e1, e2⟩, Te, C, z, rfl, Tn, _, rfl, a, C, rfl, T, nc, .inr ⟨dx, _, e1, e2, (show 1 ≤ 900 by decide), ?_⟩⟩
    exact q dx hd hda
abbrev s_InvalidLine_init : Stmt := inCls (topS 6) 0
theorem sc_InvalidLine_init : FnScope ["self", "at"] ["self", "at"] (defScope s_InvalidLine_init) := ⟨rfl, rfl, rfl, by decide +kernel, rfl, by decide +kernel, by decide +kernel⟩
theorem ok_InvalidLine_init {f : Addr} {fd : FuncData} (F : Fun K "__init__" "InvalidLine.__init__" s_InvalidLine_init f fd) (G : GsK K) : FnOk P w K mg base CX0 1 f fd ["self", "at"] (sp_init K "at") := by
  refine F.ok sc_InvalidLine_init (fun vs H Q E h => ?_) (fun cdv A outer s H vs Q E hr h => ?_)
  · obtain ⟨a, C, v, z, rfl, _⟩ := h
    rfl
  · obtain ⟨a, C, v, z, rfl, ha, T, Te, Tn, nf, nc, q⟩ := h
    refine ⟨_, (pss_cons (ps_ost (pv 0) (pv 1)) (pss_one (ps_ost (pv 0) (pe_name (pe_cls G (pv 0)))))), ?_⟩
    refine ⟨_, rfl, _, rfl, a, C, rfl, T, nf, .inl ⟨ha, fun dx hd hda => ?_⟩⟩
    have e1 : (upd (upd H dx (exd dx [(Str.ofString "at", v)])) a (exo a C (some dx))) a = some (exo a C (some dx)) := upd_same
    have e2 : (upd (upd H dx (exd dx [(Str.ofString "at", v)])) a (exo a C (some dx))) dx = some (exd dx [(Str.ofString "at", v)]) := by
      rw [upd_ne hda, upd_same]
    refine ⟨_, rfl, a, C, rfl, .inr ⟨dx, _, e1, e2⟩, Te, C, z, rfl, Tn, _, rfl, a, C, rfl, T, nc, .inr ⟨dx, _, e1, e2, (show 1 ≤ 900 by decide), ?_⟩⟩
    exact q dx hd hda
/-- is_part of what may be no text -/
def sp_is_partX (K : PySem.W.Frag) : Sp := fun vs H Q _ => ∃ (v : V) (L : List Nat), vs = [v, .str (S L)] ∧ (∀ H', Same H H' → Askd K H' v) ∧ L.length ≤ 1000 ∧ ∀ H', Same H H' → Q (.bl (bPart v L)) H'
theorem ok2_is_part {f : Addr} {fd : FuncData} (F : Fun K "is_part" "is_part" s_is_part f fd) (T : Z mg) (c_is_letter : Cal P w K mg base CX0 1 "is_letter" s_is_letter ["value", "letters"] (sp_is_letter K))
    (c_is_choice : Cal P w K mg base CX0 2 "is_choice" s_is_choice ["value", "letters", "most"] (sp_is_choice K)) : FnOk P w K mg base CX0 3 f fd ["value", "letters"] (sp_is_partX K) := by
  refine F.ok sc_is_part (fun vs H Q E h => ?_) (fun cdv A outer s H vs Q E hr h => ?_)
  · obtain ⟨z, L, rfl, _⟩ := h
    rfl
  · obtain ⟨z, L, rfl, hz, hL, q⟩ := h
    refine ⟨_, (pss_one (ps_ret (pe_or (pe_c c_is_letter hr (by decide) (by rfl) (pa_cons (pv 0) (pa_cons pe_str pa_nil))) (pe_one (pe_c c_is_choice hr (by decide) (by rfl) (pa_cons (pv 0) (pa_cons (pv 1) (pa_cons (pe_callB call_len_str (by rfl) T.z_len (by decide +kernel) (pa_cons (pv 1) pa_nil)) pa_nil)))))))), ?_⟩
    refine ⟨_, rfl, z, [46], rfl, hz _ (Same.refl _), fun H1 s1 => ⟨_, rfl, ?_⟩⟩
    cases e : bLetter z [46] with
    | true =>
      refine iteT ?_
      have q1 := q _ s1
      unfold bPart at q1
      rw [e] at q1
      exact q1
    | false =>
      refine iteF ⟨_, rfl, _, rfl, _, rfl, S L, rfl, by rw [S_len]; exact sz (by omega), z, L, _, congrArg (fun n : Nat => [z, V.str (S L), V.int n]) (S_len L), hz _ s1, fun H2 s2 => ?_⟩
      have q1 := q _ (s1.trans s2)
      unfold bPart at q1
      rw [e] at q1
      exact q1
/-- six values as a line -/
def bLineV (a b c d e u : V) (F C : List Nat) : Bool := ([a, b, c, d].all fun p => bPart p F) && bPart e C && (decide (u = V.str "") || bCut u (S F))
/-- what is no line of a book with such faces and cutters -/
def BadL (K : PySem.W.Frag) (H : Hp) (v : V) (F C : List Nat) : Prop := (∃ T : String, TyX K H v (.type T) ∧ kitB T "tuple" = some false) ∨ (∃ t xs, v = .ref t ∧ H t = some (.tup xs) ∧ xs.length ≠ 6 ∧ xs.length ≤ 1000) ∨
  ∃ t a b c d e u, v = .ref t ∧ H t = some (.tup [a, b, c, d, e, u]) ∧ (∀ x ∈ [a, b, c, d, e, u], ∀ H', Same H H' → Askd K H' x) ∧ scal u (V.str "") = true ∧ bLineV a b c d e u F C = false
def sp_is_lineX (K : PySem.W.Frag) : Sp := fun vs H Q _ => ∃ (v : V) (F C : List Nat), vs = [v, .str (S F), .str (S C)] ∧ F.length ≤ 1000 ∧ C.length ≤ 1000 ∧ BadL K H v F C ∧ ∀ H', Same H H' → Q (.bl false) H'
theorem ok2_is_line {f : Addr} {fd : FuncData} (F : Fun K "is_line" "is_line" s_is_line f fd) (T : Z mg) (c2_is_part : Cal P w K mg base CX0 3 "is_part" s_is_part ["value", "letters"] (sp_is_partX K))
    (c_is_cut : Cal P w K mg base CX0 2 "is_cut" s_is_cut ["value", "faces"] (sp_is_cut K)) : FnOk P w K mg base CX0 4 f fd ["value", "faces", "cutters"] (sp_is_lineX K) := by
  refine F.ok sc_is_line (fun vs H Q E h => ?_) (fun cdv A outer s H vs Q E hr h => ?_)
  · obtain ⟨v, F, C, rfl, _⟩ := h
    rfl
  · obtain ⟨v, fs, cs, rfl, hlf, hlc, hbad, q⟩ := h
    refine ⟨_, (pss_cons (ps_if (PW.pt (pw_or (pt_not (pt_val (pe_callB call_isi (by rfl) T.z_isinstance (by decide +kernel) (pa_cons (pv 0) (pa_cons (pe_bltn (v := .ty "tuple") (u := .type "tuple") (by rfl) T.z_tuple (by decide +kernel) rfl) pa_nil))))) (pw_or1 (pt_cmpR op_ne (pe_callB call_len_seq (by rfl) T.z_len (by decide +kernel) (pa_cons (pv 0) pa_nil)) pe_int (nomark _))))) (pss_one (ps_ret pe_bl)) pss_nil)
      (pss_cons (ps_if (PW.pt (pw_or (pt_not (pt_val (pe_callB (cr_all rfl) (by rfl) T.z_all (by decide +kernel) (pa_cons (pe_lc (own := [("part", 3)]) (g := (gName 3)) (by rfl) sc_is_line.nd (pi_tup (pe_slice sl_tup (pv 0) po_none (po_some pe_int))) (blkOk_by (N := ["value", "faces", "cutters", "part"]) (sc := defScope s_is_line) (by decide +kernel)) (fun _ _ _ _ _ => (pg_name (i := 3) sc_is_line.nd rfl (.inl rfl))) (fun _ _ _ _ _ => pts_nil) (fun _ _ _ _ _ => (pe_c c2_is_part hr (by decide) (by rfl) (pa_cons (pv 3) (pa_cons (pv 1) pa_nil))))) pa_nil)))) (pw_or1 (pt_not (pt_val (pe_c c2_is_part hr (by decide) (by rfl) (pa_cons (pe_ix ix_tup (pv 0) pe_int (fun _ _ => rfl)) (pa_cons (pv 2) pa_nil)))))))) (pss_one (ps_ret pe_bl)) pss_nil)
      (pss_one (ps_ret (pe_or (pe_cmpR op_eq (pe_ix ix_tup (pv 0) pe_int (fun _ _ => rfl)) pe_str (nomark _)) (pe_one (pe_c c_is_cut hr (by decide) (by rfl) (pa_cons (pe_ix ix_tup (pv 0) pe_int (fun _ _ => rfl)) (pa_cons (pv 1) pa_nil))))))))), ?_⟩
    rcases hbad with ⟨Ty, hty, hk⟩ | ⟨t, xs, rfl, ht, hne, hlx⟩ | ⟨t, a, b, c, d, e, u, rfl, ht, hask, hu, hno⟩
    · exact ⟨_, rfl, _, _, _, _, false, rfl, .ty _, hty, kit_ty hk, false, rfl, iteT (iteT (q _ (Same.refl _)))⟩
    · have hS := SqT.of (K := K) ht
      refine ⟨_, rfl, _, _, _, _, true, rfl, .ty _, tyT hS, kit_ty (by decide +kernel), true, rfl, iteF ?_⟩
      refine ⟨_, rfl, t, _, rfl, .inr hS, rfl, _, rfl, ?_⟩
      rw [show (!decide (V.int (xs.length : Int) = V.int 6)) = true from by
        rw [decide_eq_false (fun z => hne (by have := V.int.inj z; omega))]
        rfl]
      exact iteT (q _ (Same.refl _))
    · have hS := SqT.of (K := K) ht
      refine ⟨_, rfl, _, _, _, _, true, rfl, .ty _, tyT hS, kit_ty (by decide +kernel), true, rfl, iteF ?_⟩
      refine ⟨_, rfl, t, _, rfl, .inr hS, rfl, _, rfl, ?_⟩
      refine iteF ?_
      refine ⟨_, rfl, 4, rfl, t, _, rfl, hS, (show ¬ (HT.sIx 6 0 none = 0 ∧ HT.sIx 6 6 (some 4) = 6) by decide), fun p np => ?_⟩
      have s1 := same_upd (o := HO.tup [a, b, c, d]) np
      have hP : SqT K (upd H p (HO.tup [a, b, c, d])) p [a, b, c, d] := SqT.of upd_same
      refine ⟨p, rfl, ⟨_, hP⟩, fun D hD => ?_⟩
      have hpD : p ≠ D := fun z => by
        rw [← z, upd_same] at hD
        cases hD
      refine lc_it (walk_tup (xs := [a, b, c, d])) (fun i H' => But D (upd H p (HO.tup [a, b, c, d])) H' ∧ H' D = some (.lst (([a, b, c, d].take i).map fun x => V.bl (bPart x fs))))
        ⟨(same_upd hD).but, upd_same⟩ (fun i H' _ pv => pv.1.tup hpD hP) ?_ ?_
      · rintro i x _ H' hi ⟨bt, hDD⟩ ⟨rfl, hy⟩
        have hm : x ∈ [a, b, c, d] := List.mem_of_getElem? hy
        have sH : Same H H' := s1.trans (but_fresh (Same.refl _) hD bt)
        refine ⟨rfl, ?_⟩
        refine ⟨_, rfl, _, rfl, x, fs, rfl, fun H'' s'' => hask x (List.mem_append_left [e, u] hm) _ (sH.trans s''), hlf, fun H2 s2 => ?_⟩
        refine ⟨_, s2 _ _ hDD, by rw [List.length_map, List.length_take]; exact sz1 (Nat.le_trans (Nat.min_le_right _ _) (show 4 ≤ 100000 by decide)), fun z o n e => ?_, ?_⟩
        · rw [upd_ne n]
          exact s2 _ _ (bt z o n e)
        · rw [upd_same, List.take_add_one, hy, List.map_append]
          rfl
      rintro H1 ⟨bt, hDD⟩
      have sH : Same H H1 := s1.trans (but_fresh (Same.refl _) hD bt)
      refine ⟨D, [a, b, c, d].map fun x => bPart x fs, rfl, SqL.of (hDD.trans ?_), _, rfl, ?_⟩
      · rw [List.map_map]
        rfl
      rw [List.all_map]
      unfold bLineV at hno
      cases e1 : ([a, b, c, d].all (id ∘ fun x => bPart x fs)) with
      | false => exact iteT (iteT (q _ sH))
      | true =>
        refine iteF ?_
        refine ⟨_, rfl, t, _, 4, _, rfl, rfl, sH.tup hS, rfl, _, rfl, e, cs, rfl, fun H'' s'' => hask e (by simp) _ (sH.trans s''), hlc, fun H2 s2 => ⟨_, rfl, ?_⟩⟩
        cases e2 : bPart e cs with
        | false => exact iteT (q _ (sH.trans s2))
        | true =>
          refine iteF ?_
          have s3 := sH.trans s2
          rw [show ([a, b, c, d].all fun p => bPart p fs) = true from e1, e2] at hno
          have hno' : (decide (u = V.str "") || bCut u (S fs)) = false := hno
          obtain ⟨h1, h2⟩ := Bool.or_eq_false_iff.mp hno'
          refine ⟨_, rfl, t, _, 5, _, rfl, rfl, s3.tup hS, rfl, hu, _, rfl, ?_⟩
          rw [h1]
          refine iteF ⟨_, rfl, t, _, 5, _, rfl, rfl, s3.tup hS, rfl, _, rfl, u, S fs, rfl, hask u (by simp) _ s3, fun H3 s4 => ?_⟩
          rw [h2]
          exact q _ (s3.trans s4)
theorem fnok_or {CX : CXT} {k : Nat} {f : Addr} {fd : FuncData} {ps : List Str} {sp sp' : Sp} (F1 : FnOk P w K mg base CX k f fd ps sp) (F2 : FnOk P w K mg base CX k f fd ps sp') : FnOk P w K mg base CX k f fd ps (fun vs H Q E => sp vs H Q E ∨ sp' vs H Q E) :=
  ⟨fun vs H Q E h => h.elim (F1.len vs H Q E) (F2.len vs H Q E), fun A outer s H args us vs Q E hr e0 hb r h => h.elim (F1.run A outer s H args us vs Q E hr e0 hb r) (F2.run A outer s H args us vs Q E hr e0 hb r)⟩
theorem ok3_is_line {f : Addr} {fd : FuncData} (F : Fun K "is_line" "is_line" s_is_line f fd) (T : Z mg) (c_is_part : Cal P w K mg base CX0 3 "is_part" s_is_part ["value", "letters"] (sp_is_part K)) (c2_is_part : Cal P w K mg base CX0 3 "is_part" s_is_part ["value", "letters"] (sp_is_partX K))
    (c_is_cut : Cal P w K mg base CX0 2 "is_cut" s_is_cut ["value", "faces"] (sp_is_cut K)) : FnOk P w K mg base CX0 4 f fd ["value", "faces", "cutters"] (fun vs H Q E => sp_is_line K vs H Q E ∨ sp_is_lineX K vs H Q E) := by
  exact fnok_or (ok_is_line F T c_is_part c_is_cut) (ok2_is_line F T c2_is_part c_is_cut)
/-- a book that is refused -/
def sp_Book_initX (K : PySem.W.Frag) (CF CC CL : Addr) : Sp := fun vs H _ E => ∃ (x tl : Addr) (fv cv : V) (xs : List V), vs = [.ref x, fv, cv, .ref tl] ∧ H tl = some (.tup xs) ∧
  (((∀ H', Same H H' → Askd K H' fv) ∧ bFaces fv = false ∧ ∀ H' d, Same H H' → H' d = none → E (.ref CF) (some d) (upd H' d (Err1 "given" "InvalidFaces" fv))) ∨
   ((∀ H', Same H H' → Askd K H' fv) ∧ bFaces fv = true ∧ (∀ H', Same H H' → Askd K H' cv) ∧ bCutters cv = false ∧ ∀ H' d, Same H H' → H' d = none → E (.ref CC) (some d) (upd H' d (Err1 "given" "InvalidCutters" cv))) ∨
   ∃ (F C : List Nat) (ls : List LineV) (v : V) (rest : List V), fv = .str (S F) ∧ cv = .str (S C) ∧ F.length ≤ 1000 ∧ C.length ≤ 1000 ∧ bFaces fv = true ∧ bCutters cv = true ∧ xs = (ls.map fun r => V.ref r.1) ++ v :: rest ∧ (∀ r ∈ ls, H r.1 = some r.tup) ∧ (∀ r ∈ ls, LineOk r F C) ∧ ls.length ≤ 8 ∧
    (ls.length = 8 ∨ ∀ H', Same H H' → BadL K H' v F C) ∧ ∀ H' d, Same H H' → H' d = none → E (.ref CL) (some d) (upd H' d (Err1 "at" "InvalidLine" (.int (ls.length : Nat)))))
theorem fnx_Book_init {f CB CF CC CL fF fC fL : Addr} {fd fdF fdC fdL : FuncData} {t8 : Tok} {mc : Value} (F : Fun K "__init__" "Book.__init__" s_Book_init f fd) (T : Z mg) (gB : mg "Book" = some (.ref CB)) (rC : ClX.CRead K CB mc) (vM : ClX.CVal K CB mc "MOST" (.int 8) (.int 8 t8))
    (TF : Kls K mg CF fF "InvalidFaces") (nF : PySem.W.findIn K (.ref CF) (Str.ofString "given") = some none) (FF : FnOk P w K mg base CX0 1 fF fdF ["self", "given"] (sp_init K "given")) (bF : Binds K fdF ["self", "given"] [])
    (TC : Kls K mg CC fC "InvalidCutters") (nC : PySem.W.findIn K (.ref CC) (Str.ofString "given") = some none) (FC : FnOk P w K mg base CX0 1 fC fdC ["self", "given"] (sp_init K "given")) (bC : Binds K fdC ["self", "given"] [])
    (TL : Kls K mg CL fL "InvalidLine") (nL : PySem.W.findIn K (.ref CL) (Str.ofString "at") = some none) (FL : FnOk P w K mg base CX0 1 fL fdL ["self", "at"] (sp_init K "at")) (bL : Binds K fdL ["self", "at"] [])
    (c_is_faces : Cal P w K mg base CX0 3 "is_faces" s_is_faces ["value"] (sp_is_faces K)) (c_is_cutters : Cal P w K mg base CX0 3 "is_cutters" s_is_cutters ["value"] (sp_is_cutters K))
    (c3_is_line : Cal P w K mg base CX0 4 "is_line" s_is_line ["value", "faces", "cutters"] (fun vs H Q E => sp_is_line K vs H Q E ∨ sp_is_lineX K vs H Q E)) :
    FnR P w K mg base (L2.CX P w) 6 f (fun vs H Q E => ∃ ws rest, vs = ws ++ rest ∧ ws.length = ["self", "faces", "cutters"].length ∧ rest.length ≤ sizeLine ∧ ∀ p, H p = none → sp_Book_initX K CF CC CL (ws ++ [V.ref p]) (upd H p (.tup rest)) Q E) := by
  obtain ⟨oc, od, kV, doc, pm, an, cdv, ct, osl, rfl, lk, hcd⟩ := F.ex
  refine StX.fn_star (ps := ["self", "faces", "cutters"]) (pv := "lines") lk hcd sc_Book_init StX.cxUp (bind_star3 (B := fun us => bindArgs (PySem.W.fnOf "__init__" "Book.__init__" (defArgs s_Book_init) (defBody s_Book_init) (defScope s_Book_init) .none kV doc pm an cdv ct) ⟨us, []⟩) (p1 := "self") (p2 := "faces") (p3 := "cutters") (pv := "lines") (fun _ _ _ => rfl) (fun _ _ _ _ _ => rfl)) (fun A outer s H vs Q E hr h => ?_)
  obtain ⟨x, tl, fv, cv, xs, rfl, ht, h⟩ := h
  refine ⟨_, (pss_cons (ps_if (pt_not (pt_val (pe_c c_is_faces hr (by decide) (by rfl) (pa_cons (pv 1) pa_nil)))) (pss_one (ps_raise rfl (takes_of rfl rfl rfl rfl) (pmk_oex TF.oex TF.init TF.tI FF (hr.mono (by decide)) bF .nil pass0 (by rfl) TF.g (pa_cons (pv 1) pa_nil)))) pss_nil)
    (pss_cons (ps_if (pt_not (pt_val (pe_c c_is_cutters hr (by decide) (by rfl) (pa_cons (pv 2) pa_nil)))) (pss_one (ps_raise rfl (takes_of rfl rfl rfl rfl) (pmk_oex TC.oex TC.init TC.tI FC (hr.mono (by decide)) bC .nil pass0 (by rfl) TC.g (pa_cons (pv 2) pa_nil)))) pss_nil)
    (pss_cons (ps_for (passes_of rfl) rfl (pi_enumG (by rfl) T.z_enumerate (pa_cons (pv 3) pa_nil)) (pg_tup rfl (pgs_cons (pg_name (i := 4) sc_Book_init.nd rfl (.inl rfl)) (pgs_cons (pg_name (i := 5) sc_Book_init.nd rfl (.inl rfl)) pgs_nil)))
      (pss_one (ps_if (PW.pt (pw_or (pt_cmpR op_ge (pv 4) (ClX.pe_cval (pe_glob (v := .ref CB) rfl gB rfl)) (nomark _)) (pw_or1 (pt_not (pt_val (pe_c c3_is_line hr (by decide) (by rfl) (pa_cons (pv 5) (pa_cons (pv 1) (pa_cons (pv 2) pa_nil)))))))))
        (pss_one (ps_raise rfl (takes_of rfl rfl rfl rfl) (pmk_oex TL.oex TL.init TL.tI FL (hr.mono (by decide)) bL .nil pass0 (by rfl) TL.g (pa_cons (pv 4) pa_nil)))) pss_nil)))
    (pss_cons (ps_fld (pv 0) (pv 1) rfl)
    (pss_cons (ps_fld (pv 0) (pv 2) rfl)
    (pss_one (ps_fld (pv 0) (pv 3) rfl))))))), ?_⟩
  rcases h with ⟨ha, hno, q⟩ | ⟨ha, hyes, hc, hno, q⟩ | ⟨fs, cs, ls, v, rest, rfl, rfl, l1, l2, b1, b2, rfl, hat, hok, h8, hbad, q⟩
  · refine ⟨_, rfl, fv, rfl, ha _ (Same.refl _), fun H1 s1 => ⟨_, rfl, ?_⟩⟩
    rw [hno]
    exact iteT ⟨_, rfl, mk1 TF nF fun d hd => q _ d s1 hd⟩
  · refine ⟨_, rfl, fv, rfl, ha _ (Same.refl _), fun H1 s1 => ⟨_, rfl, ?_⟩⟩
    rw [hyes]
    refine iteF ⟨_, rfl, cv, rfl, hc _ s1, fun H2 s2 => ⟨_, rfl, ?_⟩⟩
    rw [hno]
    exact iteT ⟨_, rfl, mk1 TC nC fun d hd => q _ d (s1.trans s2) hd⟩
  refine ⟨_, rfl, .str (S fs), rfl, .inl ⟨rfl, (show fs.length ≤ 100000 by omega)⟩, fun H1 s1 => ⟨_, rfl, ?_⟩⟩
  rw [b1]
  refine iteF ⟨_, rfl, .str (S cs), rfl, .inl ⟨rfl, (show cs.length ≤ 100000 by omega)⟩, fun H2 s2 => ⟨_, rfl, ?_⟩⟩
  rw [b2]
  refine iteF ?_
  have s12 := s1.trans s2
  refine ⟨_, rfl, .ref tl, (ls.map fun r => V.ref r.1) ++ v :: rest, rfl, .t (SqT.of (s12 _ _ ht)), fun k ev src => ?_⟩
  have stay : ∀ H', Same H2 H' → k.src K H' ((ls.map fun r => V.ref r.1) ++ v :: rest) := fun H' s => by
    cases k with
    | l a => exact s.seq src
    | t a => exact s.tup src
    | s z t => cases ev
  refine for_it walk_enumG (fun i σ H' => i ≤ ls.length ∧ ∃ y4 y5 : Option V, σ = [some (.ref x), some (.str (S fs)), some (.str (S cs)), some (.ref tl), y4, y5] ∧ Same H2 H') ⟨Nat.zero_le _, _, _, rfl, Same.refl _⟩ (fun i σ H' _ ⟨_, _, _, _, s⟩ => stay H' s) ?_ ?_
  · rintro i u σ H3 H4 hi ⟨hil, y4, y5, rfl, s3⟩ ⟨T', a1, b1', rfl, nT, rfl, hx1, hy1⟩
    obtain rfl : V.int (i : Nat) = a1 := Option.some.inj hx1
    have hy2 : ((ls.map fun r => V.ref r.1) ++ v :: rest)[i]? = some b1' := hy1
    have s4 := (s12.trans s3).trans (same_upd (o := HO.tup [V.int (i : Nat), b1']) nT)
    refine ⟨T', _, rfl, SqT.of upd_same, rfl, _, _, rfl, _, [], rfl, rfl, ?_⟩
    refine ⟨_, rfl, CB, mc, .int 8, _, rfl, rC, vM, _, _, rfl, rfl, _, rfl, ?_⟩
    by_cases hlt : i < ls.length
    · rw [List.getElem?_append_left (by rw [List.length_map]; exact hlt), List.getElem?_map] at hy2
      obtain ⟨r, hr1, rfl⟩ := Option.map_eq_some_iff.mp hy2
      have hm := List.mem_of_getElem? hr1
      have hokr := hok r hm
      rw [show decide ((8 : Int) ≤ ((i : Nat) : Int)) = false from decide_eq_false (by omega)]
      refine iteF ?_
      refine ⟨_, rfl, _, rfl, _, rfl, .inl ⟨r.1, _, _, _, _, _, _, fs, cs, rfl, SqT.of (s4 _ _ (hat r hm)), fun p hp => ?_, fun H5 s5 => ⟨_, rfl, ?_⟩⟩⟩
      · have hp' : p ∈ [r.2.1, r.2.2.1, r.2.2.2.1, r.2.2.2.2.1, r.2.2.2.2.2.1, r.2.2.2.2.2.2] ++ [fs, cs] := hp
        rcases List.mem_append.mp hp' with h | h
        · exact hokr.ln p h
        · simp only [List.mem_cons, List.not_mem_nil, or_false] at h
          rcases h with rfl | rfl
          · exact l1
          · exact l2
      · rw [hokr.ok]
        exact iteF ⟨hlt, _, _, rfl, (s3.trans (same_upd nT)).trans s5⟩
    · have hie : i = ls.length := by omega
      rw [List.getElem?_append_right (by rw [List.length_map]; omega), List.length_map, hie, Nat.sub_self] at hy2
      obtain rfl : v = b1' := Option.some.inj hy2
      rcases hbad with h | h
      · rw [show decide ((8 : Int) ≤ ((i : Nat) : Int)) = true from decide_eq_true (by omega)]
        refine iteT (iteT ⟨_, rfl, mk1 TL nL fun d hd => ?_⟩)
        rw [hie]
        exact q _ d (by rw [hie] at s4; exact s4) (by rw [hie] at hd; exact hd)
      · by_cases h8' : ls.length = 8
        · rw [show decide ((8 : Int) ≤ ((i : Nat) : Int)) = true from decide_eq_true (by omega)]
          refine iteT (iteT ⟨_, rfl, mk1 TL nL fun d hd => ?_⟩)
          rw [hie]
          exact q _ d (by rw [hie] at s4; exact s4) (by rw [hie] at hd; exact hd)
        · rw [show decide ((8 : Int) ≤ ((i : Nat) : Int)) = false from decide_eq_false (by omega)]
          refine iteF ?_
          refine ⟨_, rfl, _, rfl, _, rfl, .inr ⟨v, fs, cs, rfl, l1, l2, h _ s4, fun H5 s5 => ⟨_, rfl, ?_⟩⟩⟩
          refine iteT ⟨_, rfl, mk1 TL nL fun d hd => ?_⟩
          rw [hie]
          exact q _ d (by rw [hie] at s4 s5; exact s4.trans s5) hd
  · rintro σ H3 ⟨hil, _⟩
    rw [List.length_append, List.length_map, List.length_cons] at hil
    omega
end
end FW
namespace FW
open PySem PySem.Spec PyProof.Rows L2
-- more
section
variable {P : Program} {w : World} {K : PySem.W.Frag} {mg : Str → Option Value} {base : Heap}
abbrev W6 : Type := List Nat × List Nat × List Nat × List Nat × List Nat × List Nat
def w6L (w : W6) : List (List Nat) := [w.1, w.2.1, w.2.2.1, w.2.2.2.1, w.2.2.2.2.1, w.2.2.2.2.2]
structure W6Ok (w : W6) (F C : List Nat) : Prop where
  ln : ∀ p ∈ w6L w, p.length ≤ 1000
  sp : ∀ p ∈ w6L w, 32 ∉ p ∧ 10 ∉ p
  nn : w.2.2.2.2.2 ≠ noneL
  ok : bLine w.1 w.2.1 w.2.2.1 w.2.2.2.1 w.2.2.2.2.1 w.2.2.2.2.2 F C = true
/-- a book as it stands -/
structure BookAt (K : PySem.W.Frag) (CB : Addr) (H : Hp) (x : Addr) (F C : List Nat) (ls : List LineV) : Prop where
  at_ : ∃ dx tl : Addr, H x = some (.ins CB dx (bookF F C tl)) ∧ H tl = some (.tup (ls.map fun r => V.ref r.1))
  lines : LinesAt H ls F C
  lens : F.length ≤ 1000 ∧ C.length ≤ 1000
  chr : (∀ c ∈ F, c < 128) ∧ ∀ c ∈ C, c < 128
theorem BookAt.same {CB : Addr} {H H' : Hp} {x : Addr} {F C : List Nat} {ls : List LineV} (s : Same H H') (b : BookAt K CB H x F C ls) : BookAt K CB H' x F C ls := by
  obtain ⟨dx, tl, h1, h2⟩ := b.at_
  exact ⟨⟨dx, tl, s _ _ h1, s _ _ h2⟩, b.lines.same s, b.lens, b.chr⟩
/-- what a class of books has -/
structure BookC (K : PySem.W.Frag) (CB : Addr) : Prop where
  c : Cls K CB
  nf : NoAttr K CB "faces"
  nc : NoAttr K CB "cutters"
  nl : NoAttr K CB "_lines"
theorem part_chr {p L : List Nat} (h : bPart (.str (S p)) L = true) (hL : ∀ c ∈ L, c < 128) : ∀ c ∈ p, c < 128 := by
  unfold bPart at h
  rcases Bool.or_eq_true_iff.mp h with h | h
  · have h' : (true && decide (p.length = 1) && decide (p.getD 0 0 ∈ [46])) = true := h
    simp only [Bool.true_and, Bool.and_eq_true, decide_eq_true_eq] at h'
    match p, h'.1 with
    | [x], _ =>
      intro c hc
      have e : x = 46 := List.mem_singleton.mp h'.2
      rw [List.mem_singleton.mp hc, e]
      decide
  · have h' : (true && (decide ((1 : Int) ≤ (p.length : Int)) && decide ((p.length : Int) ≤ (L.length : Int))) && (p.all fun c => decide (c ∈ L)) && ascB p) = true := h
    simp only [Bool.true_and, Bool.and_eq_true] at h'
    intro c hc
    exact hL c (of_decide_eq_true (List.all_eq_true.mp h'.1.2 c hc))
theorem cut_chr {u F : List Nat} (h : (decide (V.str (S u) = V.str "") || bCut (.str (S u)) (S F)) = true) (hF : ∀ c ∈ F, c < 128) : ∀ c ∈ u, c < 128 := by
  rcases Bool.or_eq_true_iff.mp h with h | h
  · have z2 := congrArg (fun z : Str => z.cps.toList) (V.str.inj (of_decide_eq_true h))
    have z3 : u = [] := z2
    rw [z3]
    intro c hc
    cases hc
  · rw [bCut_S] at h
    simp only [Bool.and_eq_true, decide_eq_true_eq] at h
    obtain ⟨⟨h1, h2⟩, h3⟩ := h
    match u, h1 with
    | [g, x, y], _ =>
      intro c hc
      rcases List.mem_cons.mp hc with rfl | hc
      · have : c ∈ [124, 45] := h2
        simp only [List.mem_cons, List.not_mem_nil, or_false] at this
        omega
      · exact hF c (of_decide_eq_true (List.all_eq_true.mp h3 c hc))
theorem LineOk.chr {r : LineV} {F C : List Nat} (h : LineOk r F C) (hF : ∀ c ∈ F, c < 128) (hC : ∀ c ∈ C, c < 128) : ∀ p ∈ w6L r.2, ∀ c ∈ p, c < 128 := by
  have ok := h.ok
  unfold bLine at ok
  simp only [Bool.and_eq_true, List.all_eq_true] at ok
  obtain ⟨⟨h1, h2⟩, h3⟩ := ok
  intro p hp
  simp only [w6L, List.mem_cons, List.not_mem_nil, or_false] at hp
  rcases hp with rfl | rfl | rfl | rfl | rfl | rfl
  · exact part_chr (h1 _ (by simp)) hF
  · exact part_chr (h1 _ (by simp)) hF
  · exact part_chr (h1 _ (by simp)) hF
  · exact part_chr (h1 _ (by simp)) hF
  · exact part_chr h2 hC
  · exact cut_chr h3 hF
def decL : DecidableEq (List Nat) := inferInstance
def decP {α : Type} (d : DecidableEq α) : DecidableEq (List Nat × α) := @instDecidableEqProd _ _ decL d
instance instW6 : DecidableEq W6 := decP (decP (decP (decP (decP decL))))
/-- what stands in lines, without where -/
def wsOf (ls : List LineV) : List W6 := ls.map (·.2)
/-- a line as data -/
def dLine (w : W6) : PyData := .tuple ((w6L w).map fun p => .str (S p))
theorem chr_ok {p : List Nat} (h : ∀ c ∈ p, c < 128) : PyData.strOk (S p) = true := by
  show (p.toArray.all fun c => decide (c < 0x110000)) = true
  rw [Array.all_eq_true_iff_forall_mem]
  intro c hc
  have := h c (by simpa using hc)
  exact decide_eq_true (by omega)
theorem lay_line {r : LineV} {F C : List Nat} (h : LineOk r F C) (hF : ∀ c ∈ F, c < 128) (hC : ∀ c ∈ C, c < 128) : Lay 1 (dLine r.2) := by
  refine .tup fun d hd => ?_
  obtain ⟨p, hp, rfl⟩ := List.mem_map.mp hd
  exact .str (chr_ok (h.chr hF hC p hp))
theorem eqv_line (a b : W6) : PyData.eqv (dLine a) (dLine b) = decide (a = b) := by
  unfold dLine
  rw [eqv_tupS]
  refine decide_eq_decide.mpr ⟨fun e => ?_, fun e => by rw [e]⟩
  obtain ⟨a1, a2, a3, a4, a5, a6⟩ := a
  obtain ⟨b1, b2, b3, b4, b5, b6⟩ := b
  simp only [w6L, List.cons.injEq, and_true] at e
  obtain ⟨rfl, rfl, rfl, rfl, rfl, rfl⟩ := e
  rfl
theorem dp_line {H : Hp} {r : LineV} (h : H r.1 = some r.tup) : Dp K H (.ref r.1) (dLine r.2) := .tup (SqT.of h) (.cons (.str _) (.cons (.str _) (.cons (.str _) (.cons (.str _) (.cons (.str _) (.cons (.str _) .nil))))))
theorem dp_lines {H : Hp} : ∀ {ls : List LineV}, (∀ r ∈ ls, H r.1 = some r.tup) → DpAll K H (ls.map fun r => V.ref r.1) (ls.map fun r => dLine r.2)
  | [], _ => .nil
  | r :: ls, h => .cons (dp_line (h r List.mem_cons_self)) (dp_lines fun x hx => h x (List.mem_cons_of_mem _ hx))
theorem deep_line (n : Nat) (w : W6) : Deep (n + 1) (dLine w) := by
  unfold dLine Deep
  refine ⟨by simp [w6L], fun d hd => ?_⟩
  obtain ⟨p, hp, rfl⟩ := List.mem_map.mp hd
  unfold Deep
  trivial
theorem deep_lines {n : Nat} {ls : List LineV} (h : ls.length ≤ 1000) : ∀ d ∈ ls.map fun r => dLine r.2, Deep (n + 1) d := fun d hd => by
  obtain ⟨r, _, rfl⟩ := List.mem_map.mp hd
  exact deep_line n r.2
abbrev s__law_some_line : Stmt := topS 45
theorem sc__law_some_line : FnScope ["_law_bag", "_law_faces", "_law_cutters", "_law_cut", "_law_parts", "_law_k"] ["_law_bag", "_law_faces", "_law_cutters"] (defScope s__law_some_line) := ⟨rfl, rfl, rfl, by decide +kernel, rfl, by decide +kernel, by decide +kernel⟩
/-- a drawn cut, or none -/
def CutR (u F : List Nat) : Prop := u = [] ∨ ∃ g x y, u = [g, x, y] ∧ (g = 124 ∨ g = 45) ∧ x ∈ F ∧ y ∈ F
/-- a drawn line -/
structure LineR (w : W6) (F C : List Nat) : Prop where
  a : PartR w.1 F
  b : PartR w.2.1 F
  c : PartR w.2.2.1 F
  d : PartR w.2.2.2.1 F
  e : PartR w.2.2.2.2.1 C
  u : CutR w.2.2.2.2.2 F
def w6T (w : W6) : HO := .tup ((w6L w).map fun p => V.str (S p))
def sp__law_some_line (K : PySem.W.Frag) : Sp := fun vs H Q _ => ∃ (b lb : Addr) (F C : List Nat), vs = [.ref b, .str (S F), .str (S C)] ∧ Bag H b lb ∧ 0 < F.length ∧ F.length ≤ 100 ∧ C.length ≤ 100 ∧
  ∀ H' p w, LineR w F C → But b H H' → Bag H' b lb → H p = none → H' p = some (w6T w) → Q (.ref p) H'
theorem ok__law_some_line {f : Addr} {fd : FuncData} (F : Fun K "_law_some_line" "_law_some_line" s__law_some_line f fd) (T : Z mg) (c__law_draw : Cal P w K mg base CX0 1 "_law_draw" s__law_draw ["_law_bag", "_law_many"] (sp__law_draw K))
    (c__law_part : Cal P w K mg base CX0 2 "_law_part" s__law_part ["_law_bag", "_law_letters_here"] (sp__law_part K)) (c__law_some_cut : Cal P w K mg base CX0 3 "_law_some_cut" s__law_some_cut ["_law_bag", "_law_faces"] (sp__law_some_cut K)) : FnOk P w K mg base CX0 4 f fd ["_law_bag", "_law_faces", "_law_cutters"] (sp__law_some_line K) := by
  refine F.ok sc__law_some_line (fun vs H Q E h => ?_) (fun cdv A outer s H vs Q E hr h => ?_)
  · obtain ⟨b, lb, F, C, rfl, _⟩ := h
    rfl
  obtain ⟨b, lb, F, C, rfl, B, hF0, hF, hC, q⟩ := h
  refine ⟨_, (pss_cons (ps_set (i := 3) sc__law_some_line.nd rfl (.inl rfl) (pe_as (pe_ifExp (pt_cmpR op_gt (pe_c c__law_draw hr (by decide) (by rfl) (pa_cons (pv 0) (pa_cons pe_int pa_nil))) pe_int (nomark _)) (pe_c c__law_some_cut hr (by decide) (by rfl) (pa_cons (pv 0) (pa_cons (pv 1) pa_nil))) pe_str)))
      (pss_cons (ps_setLc (i := 4) (own := [("_law_k", 5)]) (g := (gName 5)) (by rfl) sc__law_some_line.nd rfl rfl (sw_true rfl rfl rfl (by decide +kernel)) (pi_range1 (by rfl) T.z_range (pa_cons pe_int pa_nil)) (blkOk_by (N := ["_law_bag", "_law_faces", "_law_cutters", "_law_cut", "_law_parts", "_law_k"]) (sc := defScope s__law_some_line) (by decide +kernel)) (fun _ _ _ _ _ => (pg_name (i := 5) sc__law_some_line.nd rfl (.inl rfl))) (fun _ _ _ _ _ => pts_nil) (fun _ _ _ _ _ => (pe_as (pe_ifExp (pt_cmpR op_eq (pe_c c__law_draw hr (by decide) (by rfl) (pa_cons (pv 0) (pa_cons pe_int pa_nil))) pe_int (nomark _)) (pe_c c__law_part hr (by decide) (by rfl) (pa_cons (pv 0) (pa_cons (pv 1) pa_nil))) pe_str))))
      (pss_one (ps_ret (pe_tup (pa_cons (pe_ix ix_list (pv 4) pe_int (fun _ _ => rfl)) (pa_cons (pe_ix ix_list (pv 4) pe_int (fun _ _ => rfl)) (pa_cons (pe_ix ix_list (pv 4) pe_int (fun _ _ => rfl)) (pa_cons (pe_ix ix_list (pv 4) pe_int (fun _ _ => rfl)) (pa_cons (pe_c c__law_part hr (by decide) (by rfl) (pa_cons (pv 0) (pa_cons (pv 2) pa_nil))) (pa_cons (pv 3) pa_nil))))))))))), ?_⟩
  refine ⟨fun v H1 => ∃ u, v = .str (S u) ∧ CutR u F ∧ But b H H1 ∧ Bag H1 b lb, ?_, ?_⟩
  · refine ⟨_, rfl, b, lb, _, rfl, B, by decide, by decide, fun H1 z z0 z1 b1 B1 => ⟨_, _, rfl, rfl, _, rfl, ite_dec (fun _ => ?_) (fun _ => ⟨[], rfl, .inl rfl, b1, B1⟩)⟩⟩
    exact ⟨_, rfl, _, rfl, b, lb, F, rfl, B1, hF0, hF, fun H2 g x y hg hx hy b2 B2 => ⟨[g, x, y], rfl, .inr ⟨g, x, y, rfl, hg, hx, hy⟩, b1.trans b2, B2⟩⟩
  rintro _ H1 ⟨u, rfl, hu, b1, B1⟩
  refine ⟨_, rfl, by decide, by decide, fun D hD => ?_⟩
  have nDb : D ≠ b := B1.ne hD
  have nDl : D ≠ lb := B1.ne2 hD
  have nD : ∀ a o, H1 a = some o → a ≠ D := fun a o e => ne_of_none e hD
  refine lc_range (n := 4) (fun i H' => ∃ rs : List (List Nat), rs.length = i ∧ (∀ r ∈ rs, PartR r F) ∧ H' D = some (.lst (rs.map fun r => V.str (S r))) ∧ Bag H' b lb ∧ But b H1 H') ⟨[], rfl, (by simp), upd_same, B1.same (same_upd hD), (same_upd hD).but⟩ ?_ ?_
  · rintro i H' hi ⟨rs, hl, hr', hDD, B', ho⟩
    refine ⟨rfl, ?_⟩
    refine ⟨fun v H2 => ∃ r, v = .str (S r) ∧ PartR r F ∧ But b H' H2 ∧ Bag H2 b lb, ?_, ?_⟩
    · refine ⟨_, rfl, b, lb, _, rfl, B', by decide, by decide, fun H2 z z0 z1 b2 B2 => ⟨rfl, _, rfl, ite_dec (fun _ => ?_) (fun _ => ⟨[46], rfl, .inl rfl, b2, B2⟩)⟩⟩
      exact ⟨_, rfl, _, rfl, b, lb, F, rfl, B2, hF, fun H3 r hr3 b3 B3 => ⟨r, rfl, hr3, b2.trans b3, B3⟩⟩
    rintro _ H2 ⟨r, rfl, hr3, b2, B2⟩
    refine ⟨_, b2 _ _ nDb hDD, by rw [List.length_map]; exact sz1 (by omega), rs ++ [r], by rw [List.length_append, hl]; rfl, ?_, ?_, B2.upd nDb nDl, fun a o n e => ?_⟩
    · intro x hx
      rcases List.mem_append.mp hx with e | e
      · exact hr' x e
      · rw [List.mem_singleton.mp e]
        exact hr3
    · rw [upd_same, List.map_append]
      rfl
    · rw [upd_ne (nD a o e)]
      exact b2 _ _ n (ho a o n e)
  · rintro H' ⟨rs, hl, hr', hDD, B', ho⟩
    obtain ⟨r1, r2, r3, r4, rfl⟩ : ∃ a b c d, rs = [a, b, c, d] := by
      match rs, hl with
      | [a, b, c, d], _ => exact ⟨a, b, c, d, rfl⟩
    have hS := SqL.of (K := K) hDD
    refine ⟨_, rfl, D, _, _, _, rfl, rfl, hS, rfl, _, rfl, D, _, _, _, rfl, rfl, hS, rfl, _, rfl, D, _, _, _, rfl, rfl, hS, rfl, _, rfl, D, _, _, _, rfl, rfl, hS, rfl, _, rfl, _, rfl, b, lb, C, rfl, B', hC, fun H2 r5 hr5 b2 B2 => ?_⟩
    refine ⟨_, rfl, (show 6 ≤ sizeLine by decide), fun p np => ?_⟩
    have s2 := same_upd (o := w6T (r1, r2, r3, r4, r5, u)) np
    exact q _ p (r1, r2, r3, r4, r5, u) ⟨hr' _ (by simp), hr' _ (by simp), hr' _ (by simp), hr' _ (by simp), hr5, hu⟩ ((b1.trans (ho.trans b2)).trans s2.but) (B2.same s2) (by
      cases e : H p with
      | none => rfl
      | some o =>
        have n : p ≠ b := B2.ne np
        have := b2 _ _ n (ho _ _ n (b1 _ _ n e))
        rw [np] at this
        cases this) upd_same
abbrev s__law_some_book : Stmt := topS 46
theorem sc__law_some_book : FnScope ["_law_bag", "_law_sizes", "_law_faces", "_law_cutters", "_law_lines", "_law_k"] ["_law_bag", "_law_sizes"] (defScope s__law_some_book) := ⟨rfl, rfl, rfl, by decide +kernel, rfl, by decide +kernel, by decide +kernel⟩
/-- a told book: faces, cutters, lines; the list of them is at p, that of the lines at lp -/
structure SpecAt (H : Hp) (b p lp : Addr) (F C : List Nat) (ls : List LineV) : Prop where
  top : H p = some (.lst [.str (S F), .str (S C), .ref lp])
  rows : H lp = some (.lst (ls.map fun r => V.ref r.1))
  at_ : ∀ r ∈ ls, H r.1 = some r.tup
  pb : p ≠ b
  lb : lp ≠ b
  rb : ∀ r ∈ ls, r.1 ≠ b
theorem SpecAt.drawn {H H' : Hp} {b p lp : Addr} {F C : List Nat} {ls : List LineV} (s : SpecAt H b p lp F C ls) (q : But b H H') : SpecAt H' b p lp F C ls :=
  ⟨q _ _ s.pb s.top, q _ _ s.lb s.rows, fun r hr => q _ _ (s.rb r hr) (s.at_ r hr), s.pb, s.lb, s.rb⟩
theorem SpecAt.same {H H' : Hp} {b p lp : Addr} {F C : List Nat} {ls : List LineV} (s : SpecAt H b p lp F C ls) (q : Same H H') : SpecAt H' b p lp F C ls := s.drawn q.but
structure SpecOk (F C : List Nat) (ls : List LineV) : Prop where
  f : List.Sublist F lower
  c : List.Sublist C upper
  f0 : 0 < F.length
  c0 : 0 < C.length
  f6 : F.length ≤ 6
  c4 : C.length ≤ 4
  ls : ∀ r ∈ ls, LineR r.2 F C
theorem none_but {b p : Addr} {H H' : Hp} (n : p ≠ b) (q : But b H H') (e : H' p = none) : H p = none := by
  cases z : H p with
  | none => rfl
  | some o =>
    rw [q _ _ n z] at e
    cases e
def sp__law_some_book (K : PySem.W.Frag) : Sp := fun vs H Q _ => ∃ (b lb a : Addr) (x y z : Nat), vs = [.ref b, .ref a] ∧ Bag H b lb ∧ a ≠ b ∧ SqL K H a [.int x, .int y, .int z] ∧ 0 < x ∧ x ≤ 6 ∧ 0 < y ∧ y ≤ 4 ∧ z ≤ 1000 ∧
  ∀ H' p lp F C ls, SpecOk F C ls → F.length ≤ x → C.length ≤ y → ls.length ≤ z → But b H H' → Bag H' b lb → H p = none → H lp = none → SpecAt H' b p lp F C ls → Q (.ref p) H'
theorem ok__law_some_book {f : Addr} {fd : FuncData} (F : Fun K "_law_some_book" "_law_some_book" s__law_some_book f fd) (T : Z mg) (c__law_draw : Cal P w K mg base CX0 1 "_law_draw" s__law_draw ["_law_bag", "_law_many"] (sp__law_draw K))
    (c__law_part : Cal P w K mg base CX0 2 "_law_part" s__law_part ["_law_bag", "_law_letters_here"] (sp__law_part K)) (c__law_some_cut : Cal P w K mg base CX0 3 "_law_some_cut" s__law_some_cut ["_law_bag", "_law_faces"] (sp__law_some_cut K))
    (c__law_some_faces : Cal P w K mg base CX0 3 "_law_some_faces" s__law_some_faces ["_law_bag", "_law_most"] (sp__law_some_faces K)) (c__law_some_cutters : Cal P w K mg base CX0 3 "_law_some_cutters" s__law_some_cutters ["_law_bag", "_law_most"] (sp__law_some_cutters K))
    (c__law_some_line : Cal P w K mg base CX0 4 "_law_some_line" s__law_some_line ["_law_bag", "_law_faces", "_law_cutters"] (sp__law_some_line K)) : FnOk P w K mg base CX0 5 f fd ["_law_bag", "_law_sizes"] (sp__law_some_book K) := by
  refine F.ok sc__law_some_book (fun vs H Q E h => ?_) (fun cdv A outer s H vs Q E hr h => ?_)
  · obtain ⟨b, lb, a, x, y, z, rfl, _⟩ := h
    rfl
  obtain ⟨b, lb, a, x, y, z, rfl, B, nab, hS, x0, x6, y0, y4, z8, q⟩ := h
  refine ⟨_, (pss_cons (ps_asg (pe_tup (pa_cons (pe_c c__law_some_faces hr (by decide) (by rfl) (pa_cons (pv 0) (pa_cons (pe_ix ix_list (pv 1) pe_int (fun _ _ => rfl)) pa_nil))) (pa_cons (pe_c c__law_some_cutters hr (by decide) (by rfl) (pa_cons (pv 0) (pa_cons (pe_ix ix_list (pv 1) pe_int (fun _ _ => rfl)) pa_nil))) pa_nil))) (pg_tup rfl (pgs_cons (pg_name (i := 2) sc__law_some_book.nd rfl (.inr rfl)) (pgs_cons (pg_name (i := 3) sc__law_some_book.nd rfl (.inr rfl)) pgs_nil))))
      (pss_cons (ps_setLc (i := 4) (own := [("_law_k", 5)]) (g := (gName 5)) (by rfl) sc__law_some_book.nd rfl rfl (sw_true rfl rfl rfl (by decide +kernel)) (pi_range1 (by rfl) T.z_range (pa_cons (pe_c c__law_draw hr (by decide) (by rfl) (pa_cons (pv 0) (pa_cons (pe_op op_add (pe_ix ix_list (pv 1) pe_int (fun _ _ => rfl)) pe_int) pa_nil))) pa_nil)) (blkOk_by (N := ["_law_bag", "_law_sizes", "_law_faces", "_law_cutters", "_law_lines", "_law_k"]) (sc := defScope s__law_some_book) (by decide +kernel)) (fun _ _ _ _ _ => (pg_name (i := 5) sc__law_some_book.nd rfl (.inl rfl))) (fun _ _ _ _ _ => pts_nil) (fun _ _ _ _ _ => (pe_c c__law_some_line hr (by decide) (by rfl) (pa_cons (pv 0) (pa_cons (pv 2) (pa_cons (pv 3) pa_nil))))))
      (pss_cons (ps_as (ps_if (PW.pt (pw_and (pt_cmpR op_gt (pe_c c__law_draw hr (by decide) (by rfl) (pa_cons (pv 0) (pa_cons pe_int pa_nil))) pe_int (nomark _)) (pw_and1 (pt_cmpR op_lt (pe_callB call_len_seq (by rfl) T.z_len (by decide +kernel) (pa_cons (pv 4) pa_nil)) (pe_ix ix_list (pv 1) pe_int (fun _ _ => rfl)) (nomark _))))) (pss_one (ps_expr (pe_bm PySem.F.plainAttrs_list PySem.F.slot_list_append PySem.F.type_list_append mt_append (pv 4) (pa_cons (pe_tup (pa_cons pe_str (pa_cons pe_str (pa_cons pe_str (pa_cons pe_str (pa_cons (pe_c c__law_part hr (by decide) (by rfl) (pa_cons (pv 0) (pa_cons (pv 3) pa_nil))) (pa_cons (pe_c c__law_some_cut hr (by decide) (by rfl) (pa_cons (pv 0) (pa_cons (pv 2) pa_nil))) pa_nil))))))) pa_nil)))) pss_nil))
      (pss_one (ps_ret (pe_lst (pa_cons (pv 2) (pa_cons (pv 3) (pa_cons (pv 4) pa_nil))))))))), ?_⟩
  -- faces and cutters
  refine ⟨_, rfl, _, rfl, a, _, _, _, rfl, rfl, hS, rfl, b, lb, x, rfl, B, x0, by omega, fun H1 fs hfs hf0 hf1 b1 B1 => ?_⟩
  have hS1 := b1.seq nab hS
  refine ⟨_, rfl, _, rfl, a, _, _, _, rfl, rfl, hS1, rfl, b, lb, y, rfl, B1, y0, by omega, fun H2 cs hcs hc0 hc1 b2 B2 => ?_⟩
  refine ⟨(show 2 ≤ sizeLine by decide), fun pt npt => ⟨pt, _, rfl, SqT.of upd_same, rfl, _, _, rfl, _, _, rfl, rfl, ?_⟩⟩
  have b3 : But b H _ := (b1.trans b2).trans (same_upd (o := HO.tup [V.str (S fs), V.str (S cs)]) npt).but
  have B3 := B2.same (same_upd (o := HO.tup [V.str (S fs), V.str (S cs)]) npt)
  generalize upd H2 pt (HO.tup [V.str (S fs), V.str (S cs)]) = H3 at b3 B3
  clear b1 b2 B1 B2 npt hS1
  have hS3 := b3.seq nab hS
  -- the lines
  refine ⟨_, rfl, _, rfl, a, _, _, _, rfl, rfl, hS3, rfl, _, _, rfl, rfl, b, lb, _, rfl, B3, by omega, by omega, fun H4 n n0 n1 b4 B4 => ⟨_, rfl, by omega, by omega, fun D hD => ?_⟩⟩
  have nDb : D ≠ b := B4.ne hD
  have nDl : D ≠ lb := B4.ne2 hD
  have nD : ∀ a o, H4 a = some o → a ≠ D := fun a o e => ne_of_none e hD
  have hD0 : H D = none := none_but nDb (b3.trans b4) hD
  refine lc_range (n := n.toNat) (fun i H' => ∃ ls : List LineV, ls.length = i ∧ (∀ r ∈ ls, LineR r.2 fs cs ∧ H' r.1 = some r.tup ∧ r.1 ≠ b ∧ r.1 ≠ D) ∧ H' D = some (.lst (ls.map fun r => V.ref r.1)) ∧ Bag H' b lb ∧ But b H4 H') ⟨[], rfl, (by simp), upd_same, B4.same (same_upd hD), (same_upd hD).but⟩ ?_ ?_
  · rintro i H' hi ⟨ls, hl, hls, hDD, B', ho⟩
    refine ⟨rfl, ?_⟩
    refine ⟨_, rfl, _, rfl, _, rfl, b, lb, fs, cs, rfl, B', hf0, by omega, by omega, fun H5 p w hw b5 B5 np h5 => ?_⟩
    have hD5 := b5 _ _ nDb hDD
    have npD : p ≠ D := fun e => by
      rw [e, hDD] at np
      cases np
    have npb : p ≠ b := B'.ne np
    refine ⟨_, hD5, by rw [List.length_map]; exact sz1 (by omega), ls ++ [(p, w)], by rw [List.length_append, hl]; rfl, ?_, ?_, B5.upd nDb nDl, fun a o n e => ?_⟩
    · intro r hr5
      rcases List.mem_append.mp hr5 with e | e
      · obtain ⟨h1, h2, h3, h4⟩ := hls r e
        exact ⟨h1, by rw [upd_ne h4]; exact b5 _ _ h3 h2, h3, h4⟩
      · rw [List.mem_singleton.mp e]
        exact ⟨hw, by rw [upd_ne npD]; exact h5, npb, npD⟩
    · rw [upd_same, List.map_append]
      rfl
    · rw [upd_ne (nD a o e)]
      exact b5 _ _ n (ho a o n e)
  rintro H5 ⟨ls, hl, hls, hDD, B5, b5⟩
  have hS5 := (b4.trans b5).seq nab hS3
  -- one more
  refine ⟨fun σ H6 => ∃ ls' : List LineV, σ = [some (.ref b), some (.ref a), some (.str (S fs)), some (.str (S cs)), some (.ref D), none] ∧ ls'.length ≤ z ∧ (∀ r ∈ ls', LineR r.2 fs cs ∧ H6 r.1 = some r.tup ∧ r.1 ≠ b ∧ r.1 ≠ D) ∧ H6 D = some (.lst (ls'.map fun r => V.ref r.1)) ∧ Bag H6 b lb ∧ But b H H6, ?_, ?_⟩
  · have bH5 := b3.trans (b4.trans b5)
    refine ⟨_, rfl, b, lb, _, rfl, B5, by decide, by decide, fun H6 k k0 k1 b6 B6 => ?_⟩
    have hls6 : ∀ r ∈ ls, LineR r.2 fs cs ∧ H6 r.1 = some r.tup ∧ r.1 ≠ b ∧ r.1 ≠ D := fun r hr6 => let ⟨h1, h2, h3, h4⟩ := hls r hr6; ⟨h1, b6 _ _ h3 h2, h3, h4⟩
    have hD6 := b6 _ _ nDb hDD
    have hlz : ls.length ≤ z := by omega
    refine ⟨_, _, rfl, rfl, _, rfl, ite_dec (fun _ => ?_) (fun _ => iteF ⟨ls, rfl, hlz, hls6, hD6, B6, bH5.trans b6⟩)⟩
    refine ⟨_, rfl, D, _, rfl, .inl (SqL.of hD6), _, rfl, a, _, _, _, rfl, rfl, b6.seq nab hS5, rfl, _, _, rfl, rfl, _, rfl, ite_dec (fun hlt => ?_) (fun _ => ⟨ls, rfl, hlz, hls6, hD6, B6, bH5.trans b6⟩)⟩
    rw [List.length_map] at hlt
    refine ⟨_, rfl, .inl ⟨rfl, _, SqL.of hD6⟩, _, rfl, _, rfl, b, lb, cs, rfl, B6, by omega, fun H7 r5 hr5 b7 B7 => ?_⟩
    refine ⟨_, rfl, _, rfl, b, lb, fs, rfl, B7, hf0, by omega, fun H8 g gx gy hg hgx hgy b8 B8 => ?_⟩
    refine ⟨(show 6 ≤ sizeLine by decide), fun p np => ?_⟩
    have s9 := same_upd (o := w6T ([46], [46], [46], [46], r5, [g, gx, gy])) np
    have hD8 := (b7.trans b8) _ _ nDb hD6
    have npD : p ≠ D := fun e => by
      rw [e, hD8] at np
      cases np
    have npb : p ≠ b := B8.ne np
    refine ⟨D, _, _, rfl, rfl, s9 _ _ hD8, by rw [List.length_map]; exact sz1 (by omega), ls ++ [(p, [46], [46], [46], [46], r5, [g, gx, gy])], rfl, by rw [List.length_append, List.length_singleton]; omega, ?_, ?_, (B8.same s9).upd nDb nDl, fun a' o n e => ?_⟩
    · intro r hr9
      rcases List.mem_append.mp hr9 with e | e
      · obtain ⟨h1, h2, h3, h4⟩ := hls6 r e
        exact ⟨h1, by rw [upd_ne h4]; exact s9 _ _ (b8 _ _ h3 (b7 _ _ h3 h2)), h3, h4⟩
      · rw [List.mem_singleton.mp e]
        exact ⟨⟨.inl rfl, .inl rfl, .inl rfl, .inl rfl, hr5, .inr ⟨g, gx, gy, rfl, hg, hgx, hgy⟩⟩, by rw [upd_ne npD]; exact upd_same, npb, npD⟩
    · rw [upd_same, List.map_append]
      rfl
    · have naD : a' ≠ D := fun e' => by
        rw [e', hD0] at e
        cases e
      rw [upd_ne naD]
      exact s9 _ _ (b8 _ _ n (b7 _ _ n ((bH5.trans b6) _ _ n e)))
  rintro σ H6 ⟨ls', rfl, hl', hls', hD6, B6, b6⟩
  refine ⟨_, rfl, _, rfl, _, rfl, (show 3 ≤ sizeLine by decide), fun p np => ?_⟩
  have s7 := same_upd (o := HO.lst [V.str (S fs), V.str (S cs), V.ref D]) np
  have npb : p ≠ b := B6.ne np
  exact q _ p D fs cs ls' ⟨hfs, hcs, hf0, hc0, by omega, by omega, fun r hr7 => (hls' r hr7).1⟩ (by omega) (by omega) hl' (b6.trans s7.but) (B6.same s7) (none_but npb b6 np) hD0
    ⟨upd_same, s7 _ _ hD6, fun r hr7 => s7 _ _ (hls' r hr7).2.1, npb, nDb, fun r hr7 => (hls' r hr7).2.2.1⟩
/-! what is drawn is right -/
theorem lower_asc : lower.Pairwise (· < ·) := by decide +kernel
theorem upper_asc : upper.Pairwise (· < ·) := by decide +kernel
theorem lower_range : ∀ c ∈ lower, 97 ≤ c ∧ c ≤ 122 := by decide +kernel
theorem upper_range : ∀ c ∈ upper, 65 ≤ c ∧ c ≤ 90 := by decide +kernel
theorem choice_sub {r L : List Nat} {m : Int} (hL : L.Pairwise (· < ·)) (s : List.Sublist r L) (h0 : 0 < r.length) (hm : (r.length : Int) ≤ m) : bChoice (.str (S r)) L m = true := by
  show (true && (decide ((1 : Int) ≤ (r.length : Int)) && decide ((r.length : Int) ≤ m)) && (r.all fun c => decide (c ∈ L)) && ascB r) = true
  rw [decide_eq_true (by omega), decide_eq_true hm, mem_all (fun c hc => s.subset hc), asc_sorted (hL.sublist s)]
  rfl
theorem PartR.ok {r L : List Nat} (hL : L.Pairwise (· < ·)) (h : PartR r L) : bPart (.str (S r)) L = true := by
  unfold bPart
  rcases h with rfl | ⟨s, h0⟩
  · rfl
  · rw [choice_sub hL s h0 (by have := s.length_le; omega), Bool.or_true]
theorem PartR.len {r L : List Nat} {m : Nat} (h : PartR r L) (hm : L.length ≤ m) (h1 : 1 ≤ m) : r.length ≤ m := by
  rcases h with rfl | ⟨s, h0⟩
  · exact h1
  · exact Nat.le_trans s.length_le hm
theorem PartR.no {r L : List Nat} {x : Nat} (h : PartR r L) (hx : x ∉ L) (h1 : x ≠ 46) : x ∉ r := by
  rcases h with rfl | ⟨s, h0⟩
  · simpa using h1
  · exact fun e => hx (s.subset e)
theorem CutR.ok {u F : List Nat} (h : CutR u F) : (decide (V.str (S u) = V.str "") || bCut (.str (S u)) (S F)) = true := by
  rcases h with rfl | ⟨g, x, y, rfl, hg, hx, hy⟩
  · have e : decide (V.str (S []) = V.str "") = true := decide_eq_true rfl
    rw [e]
    rfl
  · rw [show bCut (.str (S [g, x, y])) (S F) = true from bCut_yes hg hx hy, Bool.or_true]
theorem CutR.len {u F : List Nat} (h : CutR u F) : u.length ≤ 3 := by
  rcases h with rfl | ⟨g, x, y, rfl, _⟩
  · exact Nat.zero_le _
  · exact Nat.le_refl _
theorem CutR.no {u F : List Nat} {z : Nat} (h : CutR u F) (hz : z ∉ F) (h1 : z ≠ 124) (h2 : z ≠ 45) : z ∉ u := by
  rcases h with rfl | ⟨g, x, y, rfl, hg, hx, hy⟩
  · simp
  · intro e
    simp only [List.mem_cons, List.not_mem_nil, or_false] at e
    rcases e with rfl | rfl | rfl
    · exact hg.elim h1 h2
    · exact hz hx
    · exact hz hy
theorem LineR.line {w : W6} {F C : List Nat} (h : LineR w F C) (hF : F.Pairwise (· < ·)) (hC : C.Pairwise (· < ·)) : bLine w.1 w.2.1 w.2.2.1 w.2.2.2.1 w.2.2.2.2.1 w.2.2.2.2.2 F C = true := by
  unfold bLine
  rw [h.u.ok, h.e.ok hC]
  show (bPart (.str (S w.1)) F && (bPart (.str (S w.2.1)) F && (bPart (.str (S w.2.2.1)) F && (bPart (.str (S w.2.2.2.1)) F && true))) && true && true) = true
  rw [h.a.ok hF, h.b.ok hF, h.c.ok hF, h.d.ok hF]
  rfl
theorem w6_all {P : List Nat → Prop} {w : W6} (a : P w.1) (b : P w.2.1) (c : P w.2.2.1) (d : P w.2.2.2.1) (e : P w.2.2.2.2.1) (u : P w.2.2.2.2.2) : ∀ p ∈ w6L w, P p := by
  intro p hp
  simp only [w6L, List.mem_cons, List.not_mem_nil, or_false] at hp
  rcases hp with rfl | rfl | rfl | rfl | rfl | rfl
  · exact a
  · exact b
  · exact c
  · exact d
  · exact e
  · exact u
theorem LineR.len {w : W6} {F C : List Nat} (h : LineR w F C) (lf : F.length ≤ 100) (lc : C.length ≤ 100) : ∀ p ∈ w6L w, p.length ≤ 100 :=
  w6_all (P := fun p => p.length ≤ 100) (h.a.len lf (by decide)) (h.b.len lf (by decide)) (h.c.len lf (by decide)) (h.d.len lf (by decide)) (h.e.len lc (by decide)) (Nat.le_trans h.u.len (by decide))
theorem LineR.no {w : W6} {F C : List Nat} {x : Nat} (h : LineR w F C) (hf : x ∉ F) (hc : x ∉ C) (h1 : x ≠ 46) (h2 : x ≠ 124) (h3 : x ≠ 45) : ∀ p ∈ w6L w, x ∉ p :=
  w6_all (P := fun p => x ∉ p) (h.a.no hf h1) (h.b.no hf h1) (h.c.no hf h1) (h.d.no hf h1) (h.e.no hc h1) (h.u.no hf h2 h3)
theorem LineR.w6 {w : W6} {F C : List Nat} (h : LineR w F C) (hF : List.Sublist F lower) (hC : List.Sublist C upper) (lf : F.length ≤ 100) (lc : C.length ≤ 100) : W6Ok w F C := by
  have f1 : ∀ x, x < 65 → x ∉ F := fun x hx e => by
    have := (lower_range x (hF.subset e)).1
    omega
  have c1 : ∀ x, x < 65 → x ∉ C := fun x hx e => by
    have := (upper_range x (hC.subset e)).1
    omega
  refine ⟨fun p hp => Nat.le_trans (h.len lf lc p hp) (by decide), fun p hp => ⟨h.no (f1 32 (by decide)) (c1 32 (by decide)) (by decide) (by decide) (by decide) p hp, h.no (f1 10 (by decide)) (c1 10 (by decide)) (by decide) (by decide) (by decide) p hp⟩, fun e => ?_, h.line (lower_asc.sublist hF) (upper_asc.sublist hC)⟩
  have := h.u.len
  rw [e] at this
  exact absurd this (by decide)
theorem SpecOk.w6 {F C : List Nat} {ls : List LineV} (s : SpecOk F C ls) : ∀ r ∈ ls, W6Ok r.2 F C := fun r hr => (s.ls r hr).w6 s.f s.c (by have := s.f6; omega) (by have := s.c4; omega)
theorem SpecOk.bf {F C : List Nat} {ls : List LineV} (s : SpecOk F C ls) : bFaces (.str (S F)) = true := choice_sub lower_asc s.f s.f0 (by have := s.f6; omega)
theorem SpecOk.bc {F C : List Nat} {ls : List LineV} (s : SpecOk F C ls) : bCutters (.str (S C)) = true := choice_sub upper_asc s.c s.c0 (by have := s.c4; omega)
theorem SpecOk.nf {F C : List Nat} {ls : List LineV} (s : SpecOk F C ls) {x : Nat} (hx : x < 65) : x ∉ F := fun e => by
  have := (lower_range x (s.f.subset e)).1
  omega
theorem SpecOk.nc {F C : List Nat} {ls : List LineV} (s : SpecOk F C ls) {x : Nat} (hx : x < 65) : x ∉ C := fun e => by
  have := (upper_range x (s.c.subset e)).1
  omega
theorem SpecOk.chr {F C : List Nat} {ls : List LineV} (s : SpecOk F C ls) : (∀ c ∈ F, c < 128) ∧ ∀ c ∈ C, c < 128 := ⟨fun c hc => by have := (lower_range c (s.f.subset hc)).2; omega, fun c hc => by have := (upper_range c (s.c.subset hc)).2; omega⟩
theorem BookAt.drawn {CB : Addr} {H H' : Hp} {b l x : Addr} {F C : List Nat} {ls : List LineV} (k : BookAt K CB H x F C ls) (B : Bag H b l) (q : But b H H') : BookAt K CB H' x F C ls := by
  obtain ⟨xs, hb⟩ := B.la
  have ne : ∀ (a : Addr) (o : HO), H a = some o → (∀ ys, o ≠ .lst ys) → a ≠ b := fun a o e n z => by
    rw [z, hb] at e
    exact n xs (Option.some.inj e).symm
  obtain ⟨dx, tl, h1, h2⟩ := k.at_
  exact ⟨⟨dx, tl, q _ _ (ne _ _ h1 fun _ z => by cases z) h1, q _ _ (ne _ _ h2 fun _ z => by cases z) h2⟩, ⟨fun r hr => q _ _ (ne _ _ (k.lines.at_ r hr) fun _ z => by cases z) (k.lines.at_ r hr), k.lines.ok, k.lines.few⟩, k.lens, k.chr⟩
theorem map_dl {ls ls' : List LineV} (e : ls'.map (·.2) = ls.map (·.2)) : (ls'.map fun r => dLine r.2) = ls.map fun r => dLine r.2 := by
  have := congrArg (List.map dLine) e
  rwa [List.map_map, List.map_map] at this
theorem BookAt.butL {CB : Addr} {H H' : Hp} {x q : Addr} {F C : List Nat} {ls : List LineV} {ws : List V} (b : BookAt K CB H x F C ls) (e : H q = some (.lst ws)) (s : But q H H') : BookAt K CB H' x F C ls := by
  obtain ⟨dx, tl, h1, h2⟩ := b.at_
  exact ⟨⟨dx, tl, s _ _ (fun z => by rw [z, e] at h1; cases h1) h1, s _ _ (fun z => by rw [z, e] at h2; cases h2) h2⟩, ⟨fun r hr => s _ _ (fun z => by have h := b.lines.at_ r hr; rw [z, e] at h; cases h) (b.lines.at_ r hr), b.lines.ok, b.lines.few⟩, b.lens, b.chr⟩
theorem SpecAt.butL {H H' : Hp} {b p lp q : Addr} {F C : List Nat} {ls : List LineV} {ws : List V} (k : SpecAt H b p lp F C ls) (e : H q = some (.lst ws)) (hp : p ≠ q) (hl : lp ≠ q) (s : But q H H') : SpecAt H' b p lp F C ls :=
  ⟨s _ _ hp k.top, s _ _ hl k.rows, fun r hr => s _ _ (fun z => by have h := k.at_ r hr; rw [z, e] at h; cases h) (k.at_ r hr), k.pb, k.lb, k.rb⟩
theorem BookAt.ext {CB : Addr} {H H' : Hp} {x : Addr} {F C : List Nat} {ls : List LineV} (k : BookAt K CB H x F C ls) (e : LamX.ExtN H H') : BookAt K CB H' x F C ls := by
  obtain ⟨dx, tl, h1, h2⟩ := k.at_
  exact ⟨⟨dx, tl, e _ _ h1 (fun _ z => by cases z), e _ _ h2 (fun _ z => by cases z)⟩, ⟨fun r hr => e _ _ (k.lines.at_ r hr) (fun _ z => by cases z), k.lines.ok, k.lines.few⟩, k.lens, k.chr⟩
theorem SpecAt.ext {H H' : Hp} {b p lp : Addr} {F C : List Nat} {ls : List LineV} (s : SpecAt H b p lp F C ls) (e : LamX.ExtN H H') : SpecAt H' b p lp F C ls :=
  ⟨e _ _ s.top (fun _ z => by cases z), e _ _ s.rows (fun _ z => by cases z), fun r hr => e _ _ (s.at_ r hr) (fun _ z => by cases z), s.pb, s.lb, s.rb⟩
theorem upper_nd : upper.Nodup := by decide +kernel
abbrev s__law_bad_lines : Stmt := topS 47
theorem sc__law_bad_lines : FnScope ["_law_spec", "_law_faces", "_law_cutters", "_law_gone", "_law_cold", "_law_face", "_law_cut", "_law_found", "_law_letter"] ["_law_spec"] (defScope s__law_bad_lines) := ⟨rfl, rfl, rfl, by decide +kernel, rfl, by decide +kernel, by decide +kernel⟩
theorem bl_a {a b c d e u : V} {F C : List Nat} (h : bPart a F = false) : bLineV a b c d e u F C = false := by
  unfold bLineV
  rw [show ([a, b, c, d].all fun p => bPart p F) = false from by rw [List.all_cons, h]; rfl]
  rfl
theorem bl_b {a b c d e u : V} {F C : List Nat} (h : bPart b F = false) : bLineV a b c d e u F C = false := by
  unfold bLineV
  rw [show ([a, b, c, d].all fun p => bPart p F) = false from by rw [List.all_cons, List.all_cons, h, Bool.false_and, Bool.and_false]]
  rfl
theorem bl_c {a b c d e u : V} {F C : List Nat} (h : bPart c F = false) : bLineV a b c d e u F C = false := by
  unfold bLineV
  rw [show ([a, b, c, d].all fun p => bPart p F) = false from by rw [List.all_cons, List.all_cons, List.all_cons, h, Bool.false_and, Bool.and_false, Bool.and_false]]
  rfl
theorem bl_d {a b c d e u : V} {F C : List Nat} (h : bPart d F = false) : bLineV a b c d e u F C = false := by
  unfold bLineV
  rw [show ([a, b, c, d].all fun p => bPart p F) = false from by rw [List.all_cons, List.all_cons, List.all_cons, List.all_cons, h, Bool.false_and, Bool.and_false, Bool.and_false, Bool.and_false]]
  rfl
theorem bl_e {a b c d e u : V} {F C : List Nat} (h : bPart e C = false) : bLineV a b c d e u F C = false := by
  unfold bLineV
  rw [h, Bool.and_false]
  rfl
theorem bl_u {a b c d e u : V} {F C : List Nat} (h1 : decide (u = V.str "") = false) (h2 : bCut u (S F) = false) : bLineV a b c d e u F C = false := by
  unfold bLineV
  rw [h1, h2, Bool.or_false, Bool.and_false]
theorem bp_ns {v : V} {L : List Nat} (h : isStr v = false) : bPart v L = false := by
  unfold bPart bLetter bChoice
  rw [h]
  rfl
theorem bp_mem {l L : List Nat} (h : ∃ c ∈ l, c ∉ L) (h1 : l ≠ [46]) : bPart (.str (S l)) L = false := by
  unfold bPart
  obtain ⟨c, hc, hn⟩ := h
  rw [show bLetter (.str (S l)) [46] = false from str_letter (by
    by_cases hl : l.length = 1
    · obtain ⟨c0, rfl⟩ := List.length_eq_one_iff.mp hl
      exact .inr ⟨c0, rfl, fun z => h1 (by rw [List.mem_singleton.mp z])⟩
    · exact .inl hl)]
  show (false || (isStr (.str (S l)) && (decide ((1 : Int) ≤ (l.length : Int)) && decide ((l.length : Int) ≤ (L.length : Int))) && (l.all fun c => decide (c ∈ L)) && ascB l)) = false
  rw [not_all hc hn, Bool.and_false, Bool.false_and]
  rfl
theorem bp_nil {L : List Nat} : bPart (.str (S [])) L = false := rfl
theorem bp_two {c : Nat} {L : List Nat} : bPart (.str (S [c, c])) L = false := by
  unfold bPart
  rw [show bLetter (.str (S [c, c])) [46] = false from str_letter (.inl (show 2 ≠ 1 by decide))]
  show (false || (isStr (.str (S [c, c])) && (decide ((1 : Int) ≤ ((2 : Nat) : Int)) && decide (((2 : Nat) : Int) ≤ (L.length : Int))) && ([c, c].all fun c => decide (c ∈ L)) && ascB [c, c])) = false
  rw [show ascB [c, c] = false from by
    show (decide _ && true) = false
    rw [Bool.and_true]
    exact decide_eq_false (fun h => absurd h (Nat.lt_irrefl _)), Bool.and_false]
  rfl
theorem cut_not {l : List Nat} (h : l ≠ []) : decide (V.str (S l) = V.str "") = false := decide_eq_false fun z => h (congrArg (fun z : Str => z.cps.toList) (V.str.inj z))
/-- but what is named and the tables all stays -/
def ButX (ex : Addr → Prop) (H H' : Hp) : Prop := ∀ c o, ¬ ex c → H c = some o → (∀ ps, o ≠ .tbl ps) → H' c = some o
theorem ButX.but {ex : Addr → Prop} {b : Addr} {H H' : Hp} (hb : ex b) (s : But b H H') : ButX ex H H' := fun c o n e _ => s c o (fun z => n (z ▸ hb)) e
theorem ButX.same {ex : Addr → Prop} {H H' : Hp} (s : Same H H') : ButX ex H H' := fun c o _ e _ => s c o e
theorem ButX.ext {ex : Addr → Prop} {H H' : Hp} (s : LamX.ExtN H H') : ButX ex H H' := fun c o _ e n => s c o e n
theorem ButX.trans {ex : Addr → Prop} {H H' H2 : Hp} (s : ButX ex H H') (s2 : ButX ex H' H2) : ButX ex H H2 := fun c o n e t => s2 c o n (s c o n e t) t
/-- it stays no line while what is named alone changes -/
def BadD (K : PySem.W.Frag) (ex : Addr → Prop) (H : Hp) (v : V) (F C : List Nat) : Prop := ∀ H', ButX ex H H' → BadL K H' v F C
theorem BadD.butX {ex : Addr → Prop} {H H' : Hp} {v : V} {F C : List Nat} (h : BadD K ex H v F C) (s : ButX ex H H') : BadD K ex H' v F C := fun H2 s2 => h H2 (s.trans s2)
theorem BadD.same {ex : Addr → Prop} {H H' : Hp} {v : V} {F C : List Nat} (h : BadD K ex H v F C) (s : Same H H') : BadD K ex H' v F C := h.butX (.same s)
theorem BadD.drawn {ex : Addr → Prop} {b : Addr} {H H' : Hp} {v : V} {F C : List Nat} (h : BadD K ex H v F C) (hb : ex b) (s : But b H H') : BadD K ex H' v F C := h.butX (.but hb s)
theorem BadD.ext {ex : Addr → Prop} {H H' : Hp} {v : V} {F C : List Nat} (h : BadD K ex H v F C) (s : LamX.ExtN H H') : BadD K ex H' v F C := h.butX (.ext s)
theorem BadD.mono {ex ex' : Addr → Prop} {H : Hp} {v : V} {F C : List Nat} (h : BadD K ex H v F C) (m : ∀ c, ex' c → ex c) : BadD K ex' H v F C := fun H2 s2 => h H2 fun c o n e t => s2 c o (fun z => n (m c z)) e t
theorem BadD.now {ex : Addr → Prop} {H : Hp} {v : V} {F C : List Nat} (h : BadD K ex H v F C) : ∀ H', Same H H' → BadL K H' v F C := fun H' s => h H' (.same s)
/-- what is named stands already -/
def ExAt (ex : Addr → Prop) (H : Hp) : Prop := ∀ c, ex c → ∃ o, H c = some o
theorem ExAt.same {ex : Addr → Prop} {H H' : Hp} (h : ExAt ex H) (s : Same H H') : ExAt ex H' := fun c e => let ⟨o, ho⟩ := h c e; ⟨o, s _ _ ho⟩
theorem ExAt.ne {ex : Addr → Prop} {H : Hp} {t : Addr} (h : ExAt ex H) (n : H t = none) : ¬ ex t := fun e => by
  obtain ⟨o, ho⟩ := h t e
  rw [n] at ho
  cases ho
theorem ask6 {xs : List V} (h : (xs.all fun x => isStr x && decide ((strOf x).cps.size ≤ 1000)) = true) : ∀ x ∈ xs, ∀ H' : Hp, Askd K H' x := fun x hx H' => by
  obtain ⟨h1, h2⟩ := Bool.and_eq_true_iff.mp (List.all_eq_true.mp h x hx)
  exact .inl ⟨h1, Nat.le_trans (of_decide_eq_true h2) (by decide)⟩
theorem bad6N {ex : Addr → Prop} {t t2 : Addr} {H : Hp} {a b' c d e u : V} {F C : List Nat} (n2 : (upd H t (.tup [a, b', c, d, e, u])) t2 = none) (tb : ¬ ex t) (hask : ∀ x ∈ [a, b', c, d, e, u], ∀ H', ButX ex (upd H t (.tup [a, b', c, d, e, u])) H' → Askd K H' x) (hu : scal u (V.str "") = true) (hno : bLineV a b' c d e u F C = false) :
    BadD K ex (upd H t (.tup [a, b', c, d, e, u])) (.ref t) F C := fun H' s => .inr (.inr ⟨t, a, b', c, d, e, u, rfl, s _ _ tb upd_same (fun _ z => by cases z), fun x hx H2 s2 => hask x hx H2 (s.trans (.same s2)), hu, hno⟩)
theorem badLenN {ex : Addr → Prop} {t t2 : Addr} {H : Hp} {xs : List V} {F C : List Nat} (n2 : (upd H t (.tup xs)) t2 = none) (tb : ¬ ex t) (h : xs.length ≠ 6) (hl : xs.length ≤ 1000) : BadD K ex (upd H t (.tup xs)) (.ref t) F C := fun H' s => .inr (.inl ⟨t, xs, rfl, s _ _ tb upd_same (fun _ z => by cases z), h, hl⟩)
theorem badLstN {ex : Addr → Prop} {t t2 : Addr} {H : Hp} {xs : List V} {F C : List Nat} (n2 : (upd H t (.lst xs)) t2 = none) (tb : ¬ ex t) : BadD K ex (upd H t (.lst xs)) (.ref t) F C := fun H' s => .inl ⟨"list", .base (.lst (s _ _ tb upd_same (fun _ z => by cases z))), by decide +kernel⟩
theorem bad_non {ex : Addr → Prop} {H : Hp} {F C : List Nat} : BadD K ex H .non F C := fun H' _ => .inl ⟨"NoneType", .base .non, by decide +kernel⟩
theorem bad_int {ex : Addr → Prop} {H : Hp} {F C : List Nat} (i : Int) : BadD K ex H (.int i) F C := fun H' _ => .inl ⟨"int", .base (.int i), by decide +kernel⟩
theorem bad_str {ex : Addr → Prop} {H : Hp} {F C : List Nat} (z : Str) : BadD K ex H (.str z) F C := fun H' _ => .inl ⟨"str", .base (.str z), by decide +kernel⟩
theorem sN {H : Hp} {t t2 : Addr} {o : HO} (n : H t = none) (n2 : (upd H t o) t2 = none) : Same H (upd H t o) := same_upd n
theorem latN {H : Hp} {t t2 : Addr} {o : HO} (n2 : (upd H t o) t2 = none) : (upd H t o) t = some o := upd_same
def AllBad (K : PySem.W.Frag) (ex : Addr → Prop) (H : Hp) (F C : List Nat) (xs : List V) : Prop := ∀ v ∈ xs, BadD K ex H v F C
theorem AllBad.same {ex : Addr → Prop} {H H' : Hp} {F C : List Nat} {xs : List V} (h : AllBad K ex H F C xs) (s : Same H H') : AllBad K ex H' F C xs := fun v hv => (h v hv).same s
theorem AllBad.nil {ex : Addr → Prop} {H : Hp} {F C : List Nat} : AllBad K ex H F C [] := fun _ h => nomatch h
theorem AllBad.cons {ex : Addr → Prop} {H : Hp} {F C : List Nat} {v : V} {xs : List V} (h : BadD K ex H v F C) (r : AllBad K ex H F C xs) : AllBad K ex H F C (v :: xs) := fun w hw => (List.mem_cons.mp hw).elim (fun e => e ▸ h) (r w)
theorem AllBad.cat {ex : Addr → Prop} {H : Hp} {F C : List Nat} {xs ys : List V} (h : AllBad K ex H F C xs) (r : AllBad K ex H F C ys) : AllBad K ex H F C (xs ++ ys) := fun w hw => (List.mem_append.mp hw).elim (h w) (r w)
theorem mulOkB (c : Nat) (n : Int) (h : n = 2 ∨ n = 3) : MulOk (S [c]) n := by
  rcases h with rfl | rfl
  · exact ⟨by decide, fun _ _ => (by decide : ¬ ((1 : Nat) : Int) > (2 ^ 63 - 1) / 2), fun _ _ => (by decide : Builtin.Str.tooLong (1 * 2) = false)⟩
  · exact ⟨by decide, fun _ _ => (by decide : ¬ ((1 : Nat) : Int) > (2 ^ 63 - 1) / 3), fun _ _ => (by decide : Builtin.Str.tooLong (1 * 3) = false)⟩
def sp__law_bad_lines (K : PySem.W.Frag) : Sp := fun vs H Q _ => ∃ (p lp b : Addr) (F C : List Nat) (ls : List LineV) (ex : Addr → Prop), vs = [.ref p] ∧ SpecAt H b p lp F C ls ∧ SpecOk F C ls ∧ ExAt ex H ∧
  ∀ H' bl xs, Same H H' → H bl = none → H' bl = some (.lst xs) → 0 < xs.length → xs.length ≤ 100 → AllBad K ex H' F C xs → Q (.ref bl) H'
theorem ok__law_bad_lines {f : Addr} {fd : FuncData} (F : Fun K "_law_bad_lines" "_law_bad_lines" s__law_bad_lines f fd) (T : Z mg) : FnOk P w K mg base CX0 1 f fd ["_law_spec"] (sp__law_bad_lines K) := by
  refine F.ok sc__law_bad_lines (fun vs H Q E h => ?_) (fun cdv A outer s H vs Q E hr h => ?_)
  · obtain ⟨p, lp, b, F, C, ls, ex, rfl, _⟩ := h
    rfl
  obtain ⟨p, lp, b, F, C, ls, ex, rfl, hs, ok, B, q⟩ := h
  refine ⟨_, (pss_cons (ps_asg (pe_tup (pa_cons (pe_ix ix_list (pv 0) pe_int (fun _ _ => rfl)) (pa_cons (pe_ix ix_list (pv 0) pe_int (fun _ _ => rfl)) pa_nil))) (pg_tup rfl (pgs_cons (pg_name (i := 1) sc__law_bad_lines.nd rfl (.inr rfl)) (pgs_cons (pg_name (i := 2) sc__law_bad_lines.nd rfl (.inr rfl)) pgs_nil))))
      (pss_cons (ps_set (i := 3) sc__law_bad_lines.nd rfl (.inl rfl) (pe_ix ix_list (pe_lc (own := [("_law_letter", 8)]) (g := (gName 8)) (by rfl) sc__law_bad_lines.nd (pi_str pe_str) (blkOk_by (N := ["_law_spec", "_law_faces", "_law_cutters", "_law_gone", "_law_cold", "_law_face", "_law_cut", "_law_found", "_law_letter"]) (sc := defScope s__law_bad_lines) (by decide +kernel)) (fun _ _ _ _ _ => (pg_name (i := 8) sc__law_bad_lines.nd rfl (.inl rfl))) (fun _ _ _ _ _ => (pts_one (pt_cmpR op_notIn_sign (pv 8) (pv 1) rfl))) (fun _ _ _ _ _ => (pv 8))) pe_int (fun _ _ => rfl)))
      (pss_cons (ps_set (i := 4) sc__law_bad_lines.nd rfl (.inl rfl) (pe_ix ix_list (pe_lc (own := [("_law_letter", 8)]) (g := (gName 8)) (by rfl) sc__law_bad_lines.nd (pi_str pe_str) (blkOk_by (N := ["_law_spec", "_law_faces", "_law_cutters", "_law_gone", "_law_cold", "_law_face", "_law_cut", "_law_found", "_law_letter"]) (sc := defScope s__law_bad_lines) (by decide +kernel)) (fun _ _ _ _ _ => (pg_name (i := 8) sc__law_bad_lines.nd rfl (.inl rfl))) (fun _ _ _ _ _ => (pts_one (pt_cmpR op_notIn_sign (pv 8) (pv 2) rfl))) (fun _ _ _ _ _ => (pv 8))) pe_int (fun _ _ => rfl)))
      (pss_cons (ps_par (i := 5) (j := 6) (by rfl) sc__law_bad_lines.nd rfl rfl (by decide) rfl rfl (pa_cons (pe_ix ix_str (pv 1) pe_int (fun _ _ => rfl)) (pa_cons (pe_op op_add_str pe_str (pe_op op_mulS (pe_ix ix_str (pv 1) pe_int (fun _ _ => rfl)) pe_int)) pa_nil)) (by rfl))
      (pss_cons (ps_set (i := 7) sc__law_bad_lines.nd rfl (.inl rfl) (pe_lst (pa_cons (pe_tup (pa_cons (pv 3) (pa_cons pe_str (pa_cons pe_str (pa_cons pe_str (pa_cons pe_str (pa_cons (pv 6) pa_nil))))))) (pa_cons (pe_tup (pa_cons pe_str (pa_cons (pv 3) (pa_cons pe_str (pa_cons pe_str (pa_cons pe_str (pa_cons (pv 6) pa_nil))))))) (pa_cons (pe_tup (pa_cons pe_str (pa_cons pe_str (pa_cons (pv 3) (pa_cons pe_str (pa_cons pe_str (pa_cons pe_str pa_nil))))))) (pa_cons (pe_tup (pa_cons pe_str (pa_cons pe_str (pa_cons pe_str (pa_cons (pv 3) (pa_cons pe_str (pa_cons pe_str pa_nil))))))) pa_nil))))))
      (pss_cons (ps_set (i := 7) sc__law_bad_lines.nd rfl (.inl rfl) (pe_op op_cat (pv 7) (pe_lst (pa_cons (pe_tup (pa_cons pe_str (pa_cons pe_str (pa_cons pe_str (pa_cons pe_str (pa_cons (pv 4) (pa_cons pe_str pa_nil))))))) (pa_cons (pe_tup (pa_cons pe_str (pa_cons pe_str (pa_cons pe_str (pa_cons pe_str (pa_cons (pv 5) (pa_cons pe_str pa_nil))))))) (pa_cons (pe_tup (pa_cons pe_str (pa_cons pe_str (pa_cons pe_str (pa_cons pe_str (pa_cons pe_str (pa_cons pe_str pa_nil))))))) (pa_cons (pe_tup (pa_cons pe_str (pa_cons pe_str (pa_cons pe_str (pa_cons pe_str (pa_cons pe_str (pa_cons pe_str pa_nil))))))) pa_nil)))))))
      (pss_cons (ps_set (i := 7) sc__law_bad_lines.nd rfl (.inl rfl) (pe_op op_cat (pv 7) (pe_lst (pa_cons (pe_tup (pa_cons pe_str (pa_cons (pe_op op_add_str (pv 5) (pv 5)) (pa_cons pe_str (pa_cons pe_str (pa_cons pe_str (pa_cons (pv 6) pa_nil))))))) (pa_cons (pe_tup (pa_cons pe_str (pa_cons pe_str (pa_cons (pe_ix ix_str (pv 2) pe_int (fun _ _ => rfl)) (pa_cons pe_str (pa_cons pe_str (pa_cons pe_str pa_nil))))))) (pa_cons (pe_tup (pa_cons pe_str (pa_cons pe_str (pa_cons pe_str (pa_cons pe_str (pa_cons pe_str (pa_cons pe_str pa_nil))))))) pa_nil))))))
      (pss_cons (ps_set (i := 7) sc__law_bad_lines.nd rfl (.inl rfl) (pe_op op_cat (pv 7) (pe_lst (pa_cons (pe_tup (pa_cons pe_str (pa_cons pe_str (pa_cons pe_str (pa_cons pe_str (pa_cons pe_str (pa_cons (pe_op op_add_str pe_str (pv 5)) pa_nil))))))) (pa_cons (pe_tup (pa_cons pe_str (pa_cons pe_str (pa_cons pe_str (pa_cons pe_str (pa_cons pe_str (pa_cons (pe_op op_add_str (pe_op op_add_str pe_str (pv 3)) (pv 5)) pa_nil))))))) (pa_cons (pe_tup (pa_cons pe_str (pa_cons pe_str (pa_cons pe_str (pa_cons pe_str (pa_cons pe_str (pa_cons pe_str pa_nil))))))) pa_nil))))))
      (pss_cons (ps_set (i := 7) sc__law_bad_lines.nd rfl (.inl rfl) (pe_op op_cat (pv 7) (pe_lst (pa_cons (pe_tup (pa_cons pe_str (pa_cons pe_str (pa_cons pe_str (pa_cons pe_str (pa_cons pe_str (pa_cons (pe_op op_mulS (pv 5) pe_int) pa_nil))))))) (pa_cons (pe_tup (pa_cons pe_str (pa_cons pe_str (pa_cons pe_str (pa_cons pe_str (pa_cons pe_str (pa_cons (pe_op op_add_str (pv 6) (pv 5)) pa_nil))))))) (pa_cons (pe_tup (pa_cons pe_str (pa_cons pe_str (pa_cons pe_str (pa_cons pe_str (pa_cons pe_str (pa_cons pe_non pa_nil))))))) (pa_cons (pe_tup pa_nil) pa_nil)))))))
      (pss_cons (ps_set (i := 7) sc__law_bad_lines.nd rfl (.inl rfl) (pe_op op_cat (pv 7) (pe_lst (pa_cons (pe_lst (pa_cons pe_str (pa_cons pe_str (pa_cons pe_str (pa_cons pe_str (pa_cons pe_str (pa_cons (pv 6) pa_nil))))))) (pa_cons (pe_tup (pa_cons pe_str (pa_cons pe_str (pa_cons pe_str (pa_cons pe_str (pa_cons (pv 6) pa_nil)))))) (pa_cons (pe_tup (pa_cons pe_str (pa_cons pe_str (pa_cons pe_str (pa_cons pe_str (pa_cons pe_str (pa_cons (pv 6) (pa_cons (pv 6) pa_nil)))))))) (pa_cons pe_non (pa_cons pe_int (pa_cons pe_str pa_nil)))))))))
      (pss_one (ps_ret (pe_op op_cat (pv 7) (pe_lst (pa_cons (pe_tup (pa_cons pe_non (pa_cons pe_str (pa_cons pe_str (pa_cons pe_str (pa_cons pe_str (pa_cons pe_str pa_nil))))))) (pa_cons (pe_tup (pa_cons pe_str (pa_cons pe_str (pa_cons pe_str (pa_cons (pe_lst (pa_cons pe_str pa_nil)) (pa_cons pe_str (pa_cons pe_str pa_nil))))))) (pa_cons (pe_tup (pa_cons pe_str (pa_cons pe_str (pa_cons pe_str (pa_cons pe_str (pa_cons pe_int (pa_cons pe_str pa_nil))))))) (pa_cons (pe_tup (pa_cons pe_str (pa_cons pe_str (pa_cons pe_str (pa_cons pe_str (pa_cons pe_str (pa_cons pe_str pa_nil))))))) (pa_cons (pe_tup (pa_cons (pe_op op_add_str (pv 5) pe_str) (pa_cons pe_str (pa_cons pe_str (pa_cons pe_str (pa_cons pe_str (pa_cons (pv 6) pa_nil))))))) (pa_cons (pe_tup (pa_cons pe_str (pa_cons pe_str (pa_cons pe_str (pa_cons pe_str (pa_cons (pe_op op_add_str (pe_ix ix_str (pv 2) pe_int (fun _ _ => rfl)) pe_str) (pa_cons pe_str pa_nil))))))) (pa_cons (pe_tup (pa_cons pe_str (pa_cons pe_str (pa_cons pe_str (pa_cons pe_str (pa_cons pe_str (pa_cons (pe_op op_add_str (pv 6) pe_str) pa_nil))))))) (pa_cons (pe_tup (pa_cons pe_str (pa_cons pe_str (pa_cons pe_str (pa_cons pe_str (pa_cons pe_str (pa_cons pe_str pa_nil))))))) pa_nil)))))))))))))))))))))), ?_⟩
  have hT := SqL.of (K := K) hs.top
  have lF6 := ok.f6
  have lC4 := ok.c4
  obtain ⟨f0, fr, hFe⟩ : ∃ f0 fr, F = f0 :: fr := by
    cases hF : F with
    | nil => exact absurd ok.f0 (by rw [hF]; decide)
    | cons f0 fr => exact ⟨f0, fr, rfl⟩
  obtain ⟨c0, cr, hCe⟩ : ∃ c0 cr, C = c0 :: cr := by
    cases hC : C with
    | nil => exact absurd ok.c0 (by rw [hC]; decide)
    | cons c0 cr => exact ⟨c0, cr, rfl⟩
  have hf0 : f0 ∈ F := by rw [hFe]; exact List.mem_cons_self
  have hc0 : c0 ∈ C := by rw [hCe]; exact List.mem_cons_self
  have at0 : atI (S F).cps.toList 0 = some f0 := by rw [hFe]; exact atI_of (j := 0) rfl rfl
  have atc : atI (S C).cps.toList 0 = some c0 := by rw [hCe]; exact atI_of (j := 0) rfl rfl
  have hFl : (S F).length ≤ sizeLine := Nat.le_of_lt (sz1 (show F.length ≤ 100000 by omega))
  have hCl : (S C).length ≤ sizeLine := Nat.le_of_lt (sz1 (show C.length ≤ 100000 by omega))
  have nF : ∀ c, (c < 97 ∨ 122 < c) → c ∉ F := fun c h hm => by
    have := lower_range _ (ok.f.subset hm)
    omega
  have nC : ∀ c, (c < 65 ∨ 90 < c) → c ∉ C := fun c h hm => by
    have := upper_range _ (ok.c.subset hm)
    omega
  have rf0 := lower_range _ (ok.f.subset hf0)
  have rc0 := upper_range _ (ok.c.subset hc0)
  refine ⟨_, rfl, p, _, _, _, rfl, rfl, hT, rfl, _, rfl, p, _, _, _, rfl, rfl, hT, rfl, (show 2 ≤ sizeLine by decide), fun pt npt => ⟨pt, _, rfl, SqT.of upd_same, rfl, _, _, rfl, _, _, rfl, rfl, ?_⟩⟩
  refine ⟨_, rfl, fun g ng => ?_⟩
  have S0 := sN npt ng
  refine lc_strP (fun c => !decide (c ∈ F)) sgn ng (by decide) (fun _ => rfl) (fun c hc H' s' R h => ⟨_, rfl, _, rfl, c, S F, rfl, rfl, _, rfl, h⟩) (fun c hc _ H' s' R h => ⟨_, rfl, h⟩) ?_
  rw [show ("abcdefghijklmnopqrstuvwxyz" : Str).cps.toList = lower from rfl]
  have hg1 : 20 ≤ (lower.filter fun c => !decide (c ∈ F)).length := by
    have := gone_pos lower F lower_nd
    rw [lower_len] at this
    omega
  have hg3 : ∀ c ∈ (lower.filter fun c => !decide (c ∈ F)), c ∉ F ∧ 97 ≤ c ∧ c ≤ 122 := fun c hc => by
    have h := List.mem_filter.mp hc
    refine ⟨fun z => ?_, lower_range _ h.1⟩
    have h2 := h.2
    rw [decide_eq_true z] at h2
    cases h2
  generalize (lower.filter fun c => !decide (c ∈ F)) = gl at hg1 hg3 ⊢
  obtain ⟨gz, gr, rfl⟩ : ∃ gz gr, gl = gz :: gr := by
    cases gl with
    | nil => exact absurd hg1 (by decide)
    | cons a r => exact ⟨a, r, rfl⟩
  obtain ⟨hgz, rgz⟩ := hg3 gz List.mem_cons_self
  refine ⟨g, _, 0, _, rfl, rfl, SqL.of upd_same, atI_nat (j := 0) rfl, ?_⟩
  refine ⟨_, rfl, fun g2 ng2 => ?_⟩
  replace S0 := S0.trans (sN ng ng2)
  refine lc_strP (fun c => !decide (c ∈ C)) sgn ng2 (by decide) (fun _ => rfl) (fun c hc H' s' R h => ⟨_, rfl, _, rfl, c, S C, rfl, rfl, _, rfl, h⟩) (fun c hc _ H' s' R h => ⟨_, rfl, h⟩) ?_
  rw [show ("ABCDEFGHIJKLMNOPQRSTUVWXYZ" : Str).cps.toList = upper from rfl]
  have hg1' : 20 ≤ (upper.filter fun c => !decide (c ∈ C)).length := by
    have := gone_pos upper C upper_nd
    rw [upper_len] at this
    omega
  have hg3' : ∀ c ∈ (upper.filter fun c => !decide (c ∈ C)), c ∉ C ∧ 65 ≤ c ∧ c ≤ 90 := fun c hc => by
    have h := List.mem_filter.mp hc
    refine ⟨fun z => ?_, upper_range _ h.1⟩
    have h2 := h.2
    rw [decide_eq_true z] at h2
    cases h2
  generalize (upper.filter fun c => !decide (c ∈ C)) = gl2 at hg1' hg3' ⊢
  obtain ⟨kz, kr, rfl⟩ : ∃ gz gr, gl2 = gz :: gr := by
    cases gl2 with
    | nil => exact absurd hg1' (by decide)
    | cons a r => exact ⟨a, r, rfl⟩
  obtain ⟨hkz, rkz⟩ := hg3' kz List.mem_cons_self
  refine ⟨g2, _, 0, _, rfl, rfl, SqL.of upd_same, atI_nat (j := 0) rfl, ?_⟩
  refine ⟨_, rfl, S F, 0, f0, rfl, rfl, hFl, at0, _, rfl, S F, 0, f0, rfl, rfl, hFl, at0, S [f0], 2, rfl, rfl, mulOkB f0 2 (.inl rfl), S [124], S [f0, f0], rfl, rfl, (show 3 ≤ sizeLine by decide), _, _, rfl, ?_⟩
  rw [S_cat [124] [f0, f0]]
  replace B := B.same S0
  refine ⟨_, rfl, _, rfl, (show 6 ≤ sizeLine by decide), fun t1 n1 => ?_⟩
  replace S0 := S0.trans (sN ng2 n1)
  replace B := B.same (sN ng2 n1)
  have t1b := B.ne n1
  refine ⟨_, rfl, _, rfl, (show 6 ≤ sizeLine by decide), fun t2 n2 => ?_⟩
  replace S0 := S0.trans (sN n1 n2)
  replace B := B.same (sN n1 n2)
  have kt1 := bad6N (K := K) (F := F) (C := C) n2 t1b (fun x hx H2 _ => ask6 (K := K) rfl x hx H2) rfl (bl_a (bp_mem (l := [gz]) ⟨gz, List.mem_cons_self, hgz⟩ (fun z => by cases z; omega)))
  have t2b := B.ne n2
  refine ⟨_, rfl, (show 6 ≤ sizeLine by decide), fun t3 n3 => ?_⟩
  replace S0 := S0.trans (sN n2 n3)
  replace B := B.same (sN n2 n3)
  replace kt1 := kt1.same (sN n2 n3)
  have kt2 := bad6N (K := K) (F := F) (C := C) n3 t2b (fun x hx H2 _ => ask6 (K := K) rfl x hx H2) rfl (bl_b (bp_mem (l := [gz]) ⟨gz, List.mem_cons_self, hgz⟩ (fun z => by cases z; omega)))
  have t3b := B.ne n3
  refine ⟨_, rfl, (show 6 ≤ sizeLine by decide), fun t4 n4 => ?_⟩
  replace S0 := S0.trans (sN n3 n4)
  replace B := B.same (sN n3 n4)
  replace kt1 := kt1.same (sN n3 n4)
  replace kt2 := kt2.same (sN n3 n4)
  have kt3 := bad6N (K := K) (F := F) (C := C) n4 t3b (fun x hx H2 _ => ask6 (K := K) rfl x hx H2) rfl (bl_c (bp_mem (l := [gz]) ⟨gz, List.mem_cons_self, hgz⟩ (fun z => by cases z; omega)))
  have t4b := B.ne n4
  refine ⟨(show 4 ≤ sizeLine by decide), fun m0 nm0 => ?_⟩
  replace S0 := S0.trans (sN n4 nm0)
  replace B := B.same (sN n4 nm0)
  replace kt1 := kt1.same (sN n4 nm0)
  replace kt2 := kt2.same (sN n4 nm0)
  replace kt3 := kt3.same (sN n4 nm0)
  have kt4 := bad6N (K := K) (F := F) (C := C) nm0 t4b (fun x hx H2 _ => ask6 (K := K) rfl x hx H2) rfl (bl_d (bp_mem (l := [gz]) ⟨gz, List.mem_cons_self, hgz⟩ (fun z => by cases z; omega)))
  have A0 : AllBad K ex _ F C _ := (.cons kt1 (.cons kt2 (.cons kt3 (.cons kt4 .nil))))
  have A := A0
  refine ⟨_, rfl, _, rfl, (show 6 ≤ sizeLine by decide), fun t5 n5 => ?_⟩
  replace S0 := S0.trans (sN nm0 n5)
  replace B := B.same (sN nm0 n5)
  replace A := A.same (sN nm0 n5)
  have hf := latN n5
  have t5b := B.ne n5
  refine ⟨_, rfl, (show 6 ≤ sizeLine by decide), fun t6 n6 => ?_⟩
  replace S0 := S0.trans (sN n5 n6)
  replace B := B.same (sN n5 n6)
  replace A := A.same (sN n5 n6)
  replace hf := (sN n5 n6) _ _ hf
  have kt5 := bad6N (K := K) (F := F) (C := C) n6 t5b (fun x hx H2 _ => ask6 (K := K) rfl x hx H2) rfl (bl_e (bp_mem (l := [kz]) ⟨kz, List.mem_cons_self, hkz⟩ (fun z => by cases z; omega)))
  have t6b := B.ne n6
  refine ⟨(show 6 ≤ sizeLine by decide), fun t7 n7 => ?_⟩
  replace S0 := S0.trans (sN n6 n7)
  replace B := B.same (sN n6 n7)
  replace A := A.same (sN n6 n7)
  replace hf := (sN n6 n7) _ _ hf
  replace kt5 := kt5.same (sN n6 n7)
  have kt6 := bad6N (K := K) (F := F) (C := C) n7 t6b (fun x hx H2 _ => ask6 (K := K) rfl x hx H2) rfl (bl_e (bp_mem (l := [f0]) ⟨f0, List.mem_cons_self, nC _ (.inr (by omega))⟩ (fun z => by cases z; omega)))
  have t7b := B.ne n7
  refine ⟨(show 6 ≤ sizeLine by decide), fun t8 n8 => ?_⟩
  replace S0 := S0.trans (sN n7 n8)
  replace B := B.same (sN n7 n8)
  replace A := A.same (sN n7 n8)
  replace hf := (sN n7 n8) _ _ hf
  replace kt5 := kt5.same (sN n7 n8)
  replace kt6 := kt6.same (sN n7 n8)
  have kt7 := bad6N (K := K) (F := F) (C := C) n8 t7b (fun x hx H2 _ => ask6 (K := K) rfl x hx H2) rfl (bl_a bp_nil)
  have t8b := B.ne n8
  refine ⟨(show 4 ≤ sizeLine by decide), fun m1 nm1 => ?_⟩
  replace S0 := S0.trans (sN n8 nm1)
  replace B := B.same (sN n8 nm1)
  replace A := A.same (sN n8 nm1)
  replace hf := (sN n8 nm1) _ _ hf
  replace kt5 := kt5.same (sN n8 nm1)
  replace kt6 := kt6.same (sN n8 nm1)
  replace kt7 := kt7.same (sN n8 nm1)
  have kt8 := bad6N (K := K) (F := F) (C := C) nm1 t8b (fun x hx H2 _ => ask6 (K := K) rfl x hx H2) rfl (bl_e bp_nil)
  have Ac : AllBad K ex _ F C _ := (.cons kt5 (.cons kt6 (.cons kt7 (.cons kt8 .nil))))
  refine ⟨m0, m1, _, _, rfl, rfl, (same_upd nm1 _ _ hf), upd_same, (show 8 ≤ sizeLine by decide), fun f1 nf1 => ?_⟩
  replace S0 := S0.trans (sN nm1 nf1)
  replace B := B.same (sN nm1 nf1)
  replace A := A.same (sN nm1 nf1)
  replace Ac := Ac.same (sN nm1 nf1)
  replace A := A.cat Ac
  refine ⟨_, rfl, _, rfl, _, rfl, S [f0], S [f0], rfl, rfl, (show 2 ≤ sizeLine by decide), _, rfl, (show 6 ≤ sizeLine by decide), fun t9 n9 => ?_⟩
  replace S0 := S0.trans (sN nf1 n9)
  replace B := B.same (sN nf1 n9)
  replace A := A.same (sN nf1 n9)
  have hf := latN n9
  have t9b := B.ne n9
  refine ⟨_, rfl, S C, 0, c0, rfl, rfl, hCl, atc, (show 6 ≤ sizeLine by decide), fun t10 n10 => ?_⟩
  replace S0 := S0.trans (sN n9 n10)
  replace B := B.same (sN n9 n10)
  replace A := A.same (sN n9 n10)
  replace hf := (sN n9 n10) _ _ hf
  have kt9 := bad6N (K := K) (F := F) (C := C) n10 t9b (fun x hx H2 _ => ask6 (K := K) rfl x hx H2) rfl (bl_b (bp_two (c := f0)))
  have t10b := B.ne n10
  refine ⟨(show 6 ≤ sizeLine by decide), fun t11 n11 => ?_⟩
  replace S0 := S0.trans (sN n10 n11)
  replace B := B.same (sN n10 n11)
  replace A := A.same (sN n10 n11)
  replace hf := (sN n10 n11) _ _ hf
  replace kt9 := kt9.same (sN n10 n11)
  have kt10 := bad6N (K := K) (F := F) (C := C) n11 t10b (fun x hx H2 _ => ask6 (K := K) rfl x hx H2) rfl (bl_c (bp_mem (l := [c0]) ⟨c0, List.mem_cons_self, nF _ (.inl (by omega))⟩ (fun z => by cases z; omega)))
  have t11b := B.ne n11
  refine ⟨(show 3 ≤ sizeLine by decide), fun m2 nm2 => ?_⟩
  replace S0 := S0.trans (sN n11 nm2)
  replace B := B.same (sN n11 nm2)
  replace A := A.same (sN n11 nm2)
  replace hf := (sN n11 nm2) _ _ hf
  replace kt9 := kt9.same (sN n11 nm2)
  replace kt10 := kt10.same (sN n11 nm2)
  have kt11 := bad6N (K := K) (F := F) (C := C) nm2 t11b (fun x hx H2 _ => ask6 (K := K) rfl x hx H2) rfl (bl_c (bp_mem (l := [46, 46]) ⟨46, List.mem_cons_self, nF _ (.inl (by decide))⟩ (fun z => by cases z)))
  have Ac : AllBad K ex _ F C _ := (.cons kt9 (.cons kt10 (.cons kt11 .nil)))
  refine ⟨f1, m2, _, _, rfl, rfl, (same_upd nm2 _ _ hf), upd_same, (show 11 ≤ sizeLine by decide), fun f2 nf2 => ?_⟩
  replace S0 := S0.trans (sN nm2 nf2)
  replace B := B.same (sN nm2 nf2)
  replace A := A.same (sN nm2 nf2)
  replace Ac := Ac.same (sN nm2 nf2)
  replace A := A.cat Ac
  refine ⟨_, rfl, _, rfl, S [124], S [f0], rfl, rfl, (show 2 ≤ sizeLine by decide), (show 6 ≤ sizeLine by decide), fun t12 n12 => ?_⟩
  replace S0 := S0.trans (sN nf2 n12)
  replace B := B.same (sN nf2 n12)
  replace A := A.same (sN nf2 n12)
  have hf := latN n12
  have t12b := B.ne n12
  refine ⟨_, rfl, S [45], S [gz], rfl, rfl, (show 2 ≤ sizeLine by decide), _, rfl, S [45, gz], S [f0], rfl, rfl, (show 3 ≤ sizeLine by decide), (show 6 ≤ sizeLine by decide), fun t13 n13 => ?_⟩
  replace S0 := S0.trans (sN n12 n13)
  replace B := B.same (sN n12 n13)
  replace A := A.same (sN n12 n13)
  replace hf := (sN n12 n13) _ _ hf
  have kt12 := bad6N (K := K) (F := F) (C := C) n13 t12b (fun x hx H2 _ => ask6 (K := K) rfl x hx H2) rfl (bl_u (cut_not (l := [124, f0]) (List.cons_ne_nil _ _)) (bCut_len (l := [124, f0]) (show 2 ≠ 3 by decide)))
  have t13b := B.ne n13
  refine ⟨(show 6 ≤ sizeLine by decide), fun t14 n14 => ?_⟩
  replace S0 := S0.trans (sN n13 n14)
  replace B := B.same (sN n13 n14)
  replace A := A.same (sN n13 n14)
  replace hf := (sN n13 n14) _ _ hf
  replace kt12 := kt12.same (sN n13 n14)
  have kt13 := bad6N (K := K) (F := F) (C := C) n14 t13b (fun x hx H2 _ => ask6 (K := K) rfl x hx H2) rfl (bl_u (cut_not (l := [45, gz, f0]) (List.cons_ne_nil _ _)) (bCut_face (g := 45) (x := gz) (y := f0) (c := gz) (.inl rfl) hgz))
  have t14b := B.ne n14
  refine ⟨(show 3 ≤ sizeLine by decide), fun m3 nm3 => ?_⟩
  replace S0 := S0.trans (sN n14 nm3)
  replace B := B.same (sN n14 nm3)
  replace A := A.same (sN n14 nm3)
  replace hf := (sN n14 nm3) _ _ hf
  replace kt12 := kt12.same (sN n14 nm3)
  replace kt13 := kt13.same (sN n14 nm3)
  have kt14 := bad6N (K := K) (F := F) (C := C) nm3 t14b (fun x hx H2 _ => ask6 (K := K) rfl x hx H2) rfl (bl_u (cut_not (l := [110, 111, 110, 101]) (List.cons_ne_nil _ _)) (bCut_len (l := [110, 111, 110, 101]) (show 4 ≠ 3 by decide)))
  have Ac : AllBad K ex _ F C _ := (.cons kt12 (.cons kt13 (.cons kt14 .nil)))
  refine ⟨f2, m3, _, _, rfl, rfl, (same_upd nm3 _ _ hf), upd_same, (show 14 ≤ sizeLine by decide), fun f3 nf3 => ?_⟩
  replace S0 := S0.trans (sN nm3 nf3)
  replace B := B.same (sN nm3 nf3)
  replace A := A.same (sN nm3 nf3)
  replace Ac := Ac.same (sN nm3 nf3)
  replace A := A.cat Ac
  refine ⟨_, rfl, _, rfl, S [f0], 3, rfl, rfl, mulOkB f0 3 (.inr rfl), (show 6 ≤ sizeLine by decide), fun t15 n15 => ?_⟩
  replace S0 := S0.trans (sN nf3 n15)
  replace B := B.same (sN nf3 n15)
  replace A := A.same (sN nf3 n15)
  have hf := latN n15
  have t15b := B.ne n15
  refine ⟨_, rfl, _, rfl, S [124, f0, f0], S [f0], rfl, rfl, (show 4 ≤ sizeLine by decide), (show 6 ≤ sizeLine by decide), fun t16 n16 => ?_⟩
  replace S0 := S0.trans (sN n15 n16)
  replace B := B.same (sN n15 n16)
  replace A := A.same (sN n15 n16)
  replace hf := (sN n15 n16) _ _ hf
  have kt15 := bad6N (K := K) (F := F) (C := C) n16 t15b (fun x hx H2 _ => ask6 (K := K) rfl x hx H2) rfl (bl_u (cut_not (l := [f0, f0, f0]) (List.cons_ne_nil _ _)) (bCut_sign (g := f0) (x := f0) (y := f0) (by omega) (by omega)))
  have t16b := B.ne n16
  refine ⟨(show 6 ≤ sizeLine by decide), fun t17 n17 => ?_⟩
  replace S0 := S0.trans (sN n16 n17)
  replace B := B.same (sN n16 n17)
  replace A := A.same (sN n16 n17)
  replace hf := (sN n16 n17) _ _ hf
  replace kt15 := kt15.same (sN n16 n17)
  have kt16 := bad6N (K := K) (F := F) (C := C) n17 t16b (fun x hx H2 _ => ask6 (K := K) rfl x hx H2) rfl (bl_u (cut_not (l := [124, f0, f0, f0]) (List.cons_ne_nil _ _)) (bCut_len (l := [124, f0, f0, f0]) (show 4 ≠ 3 by decide)))
  have t17b := B.ne n17
  refine ⟨(show 0 ≤ sizeLine by decide), fun t18 n18 => ?_⟩
  replace S0 := S0.trans (sN n17 n18)
  replace B := B.same (sN n17 n18)
  replace A := A.same (sN n17 n18)
  replace hf := (sN n17 n18) _ _ hf
  replace kt15 := kt15.same (sN n17 n18)
  replace kt16 := kt16.same (sN n17 n18)
  have kt17 := bad6N (K := K) (F := F) (C := C) n18 t17b (fun x hx H2 _ => by
    simp only [List.mem_cons, List.not_mem_nil, or_false] at hx
    rcases hx with rfl | rfl | rfl | rfl | rfl | rfl
    · exact .inl ⟨rfl, (show 1 ≤ 100000 by decide)⟩
    · exact .inl ⟨rfl, (show 1 ≤ 100000 by decide)⟩
    · exact .inl ⟨rfl, (show 1 ≤ 100000 by decide)⟩
    · exact .inl ⟨rfl, (show 1 ≤ 100000 by decide)⟩
    · exact .inl ⟨rfl, (show 1 ≤ 100000 by decide)⟩
    · exact .inr (NS.not (H := H2) (.inl rfl))) rfl (bl_u (decide_eq_false (fun z => by cases z)) rfl)
  have t18b := B.ne n18
  refine ⟨(show 4 ≤ sizeLine by decide), fun m4 nm4 => ?_⟩
  replace S0 := S0.trans (sN n18 nm4)
  replace B := B.same (sN n18 nm4)
  replace A := A.same (sN n18 nm4)
  replace hf := (sN n18 nm4) _ _ hf
  replace kt15 := kt15.same (sN n18 nm4)
  replace kt16 := kt16.same (sN n18 nm4)
  replace kt17 := kt17.same (sN n18 nm4)
  have kt18 := badLenN (K := K) (F := F) (C := C) nm4 t18b (show 0 ≠ 6 by decide) (show 0 ≤ 1000 by decide)
  have Ac : AllBad K ex _ F C _ := (.cons kt15 (.cons kt16 (.cons kt17 (.cons kt18 .nil))))
  refine ⟨f3, m4, _, _, rfl, rfl, (same_upd nm4 _ _ hf), upd_same, (show 18 ≤ sizeLine by decide), fun f4 nf4 => ?_⟩
  replace S0 := S0.trans (sN nm4 nf4)
  replace B := B.same (sN nm4 nf4)
  replace A := A.same (sN nm4 nf4)
  replace Ac := Ac.same (sN nm4 nf4)
  replace A := A.cat Ac
  refine ⟨_, rfl, _, rfl, (show 6 ≤ sizeLine by decide), fun t19 n19 => ?_⟩
  replace S0 := S0.trans (sN nf4 n19)
  replace B := B.same (sN nf4 n19)
  replace A := A.same (sN nf4 n19)
  have hf := latN n19
  have t19b := B.ne n19
  refine ⟨_, rfl, (show 5 ≤ sizeLine by decide), fun t20 n20 => ?_⟩
  replace S0 := S0.trans (sN n19 n20)
  replace B := B.same (sN n19 n20)
  replace A := A.same (sN n19 n20)
  replace hf := (sN n19 n20) _ _ hf
  have kt19 := badLstN (K := K) (F := F) (C := C) n20 t19b
  have t20b := B.ne n20
  refine ⟨_, rfl, _, rfl, (show 7 ≤ sizeLine by decide), fun t21 n21 => ?_⟩
  replace S0 := S0.trans (sN n20 n21)
  replace B := B.same (sN n20 n21)
  replace A := A.same (sN n20 n21)
  replace hf := (sN n20 n21) _ _ hf
  replace kt19 := kt19.same (sN n20 n21)
  have kt20 := badLenN (K := K) (F := F) (C := C) n21 t20b (show 5 ≠ 6 by decide) (show 5 ≤ 1000 by decide)
  have t21b := B.ne n21
  refine ⟨(show 6 ≤ sizeLine by decide), fun m5 nm5 => ?_⟩
  replace S0 := S0.trans (sN n21 nm5)
  replace B := B.same (sN n21 nm5)
  replace A := A.same (sN n21 nm5)
  replace hf := (sN n21 nm5) _ _ hf
  replace kt19 := kt19.same (sN n21 nm5)
  replace kt20 := kt20.same (sN n21 nm5)
  have kt21 := badLenN (K := K) (F := F) (C := C) nm5 t21b (show 7 ≠ 6 by decide) (show 7 ≤ 1000 by decide)
  have Ac : AllBad K ex _ F C _ := (.cons kt19 (.cons kt20 (.cons kt21 (.cons bad_non (.cons (bad_int 3) (.cons (bad_str "......") .nil))))))
  refine ⟨f4, m5, _, _, rfl, rfl, (same_upd nm5 _ _ hf), upd_same, (show 24 ≤ sizeLine by decide), fun f5 nf5 => ?_⟩
  replace S0 := S0.trans (sN nm5 nf5)
  replace B := B.same (sN nm5 nf5)
  replace A := A.same (sN nm5 nf5)
  replace Ac := Ac.same (sN nm5 nf5)
  replace A := A.cat Ac
  refine ⟨_, rfl, (show 6 ≤ sizeLine by decide), fun t22 n22 => ?_⟩
  replace S0 := S0.trans (sN nf5 n22)
  replace B := B.same (sN nf5 n22)
  replace A := A.same (sN nf5 n22)
  have hf := latN n22
  have t22b := B.ne n22
  refine ⟨(show 1 ≤ sizeLine by decide), fun ql nql => ?_⟩
  replace S0 := S0.trans (sN n22 nql)
  replace B := B.same (sN n22 nql)
  replace A := A.same (sN n22 nql)
  replace hf := (sN n22 nql) _ _ hf
  have kt22 := bad6N (K := K) (F := F) (C := C) nql t22b (fun x hx H2 _ => by
    simp only [List.mem_cons, List.not_mem_nil, or_false] at hx
    rcases hx with rfl | rfl | rfl | rfl | rfl | rfl
    · exact .inr (NS.not (H := H2) (.inl rfl))
    · exact .inl ⟨rfl, (show 1 ≤ 100000 by decide)⟩
    · exact .inl ⟨rfl, (show 1 ≤ 100000 by decide)⟩
    · exact .inl ⟨rfl, (show 1 ≤ 100000 by decide)⟩
    · exact .inl ⟨rfl, (show 1 ≤ 100000 by decide)⟩
    · exact .inl ⟨rfl, (show 0 ≤ 100000 by decide)⟩) rfl (bl_a (bp_ns rfl))
  have qlb := B.ne nql
  refine ⟨(show 6 ≤ sizeLine by decide), fun t23 n23 => ?_⟩
  replace S0 := S0.trans (sN nql n23)
  replace B := B.same (sN nql n23)
  replace A := A.same (sN nql n23)
  replace hf := (sN nql n23) _ _ hf
  replace kt22 := kt22.same (sN nql n23)
  have t23b := B.ne n23
  refine ⟨(show 6 ≤ sizeLine by decide), fun t24 n24 => ?_⟩
  replace S0 := S0.trans (sN n23 n24)
  replace B := B.same (sN n23 n24)
  replace A := A.same (sN n23 n24)
  replace hf := (sN n23 n24) _ _ hf
  replace kt22 := kt22.same (sN n23 n24)
  have kt23 := bad6N (K := K) (F := F) (C := C) n24 t23b (fun x hx H2 s2 => by
    simp only [List.mem_cons, List.not_mem_nil, or_false] at hx
    rcases hx with rfl | rfl | rfl | rfl | rfl | rfl
    · exact .inl ⟨rfl, (show 1 ≤ 100000 by decide)⟩
    · exact .inl ⟨rfl, (show 1 ≤ 100000 by decide)⟩
    · exact .inl ⟨rfl, (show 1 ≤ 100000 by decide)⟩
    · exact .inr (NS.not (H := H2) (.inr (.inr (.inr (.inl ⟨ql, _, rfl, s2 _ _ qlb ((upd_ne (ne_of_none upd_same n23)).trans upd_same) (fun _ z => by cases z)⟩)))))
    · exact .inl ⟨rfl, (show 1 ≤ 100000 by decide)⟩
    · exact .inl ⟨rfl, (show 0 ≤ 100000 by decide)⟩) rfl (bl_d (bp_ns rfl))
  have t24b := B.ne n24
  refine ⟨(show 6 ≤ sizeLine by decide), fun t25 n25 => ?_⟩
  replace S0 := S0.trans (sN n24 n25)
  replace B := B.same (sN n24 n25)
  replace A := A.same (sN n24 n25)
  replace hf := (sN n24 n25) _ _ hf
  replace kt22 := kt22.same (sN n24 n25)
  replace kt23 := kt23.same (sN n24 n25)
  have kt24 := bad6N (K := K) (F := F) (C := C) n25 t24b (fun x hx H2 _ => by
    simp only [List.mem_cons, List.not_mem_nil, or_false] at hx
    rcases hx with rfl | rfl | rfl | rfl | rfl | rfl
    · exact .inl ⟨rfl, (show 1 ≤ 100000 by decide)⟩
    · exact .inl ⟨rfl, (show 1 ≤ 100000 by decide)⟩
    · exact .inl ⟨rfl, (show 1 ≤ 100000 by decide)⟩
    · exact .inl ⟨rfl, (show 1 ≤ 100000 by decide)⟩
    · exact .inr (NS.not (H := H2) (.inr (.inl ⟨1, rfl⟩)))
    · exact .inl ⟨rfl, (show 0 ≤ 100000 by decide)⟩) rfl (bl_e (bp_ns rfl))
  have t25b := B.ne n25
  refine ⟨_, rfl, S [f0], S [10], rfl, rfl, (show 2 ≤ sizeLine by decide), _, rfl, (show 6 ≤ sizeLine by decide), fun t26 n26 => ?_⟩
  replace S0 := S0.trans (sN n25 n26)
  replace B := B.same (sN n25 n26)
  replace A := A.same (sN n25 n26)
  replace hf := (sN n25 n26) _ _ hf
  replace kt22 := kt22.same (sN n25 n26)
  replace kt23 := kt23.same (sN n25 n26)
  replace kt24 := kt24.same (sN n25 n26)
  have kt25 := bad6N (K := K) (F := F) (C := C) n26 t25b (fun x hx H2 _ => ask6 (K := K) rfl x hx H2) rfl (bl_u (cut_not (l := [46]) (List.cons_ne_nil _ _)) (bCut_len (l := [46]) (show 1 ≠ 3 by decide)))
  have t26b := B.ne n26
  refine ⟨_, rfl, S C, 0, c0, rfl, rfl, hCl, atc, S [c0], S [10], rfl, rfl, (show 2 ≤ sizeLine by decide), (show 6 ≤ sizeLine by decide), fun t27 n27 => ?_⟩
  replace S0 := S0.trans (sN n26 n27)
  replace B := B.same (sN n26 n27)
  replace A := A.same (sN n26 n27)
  replace hf := (sN n26 n27) _ _ hf
  replace kt22 := kt22.same (sN n26 n27)
  replace kt23 := kt23.same (sN n26 n27)
  replace kt24 := kt24.same (sN n26 n27)
  replace kt25 := kt25.same (sN n26 n27)
  have kt26 := bad6N (K := K) (F := F) (C := C) n27 t26b (fun x hx H2 _ => ask6 (K := K) rfl x hx H2) rfl (bl_a (bp_mem (l := [f0, 10]) ⟨10, by simp, nF _ (.inl (by decide))⟩ (fun z => by cases z)))
  have t27b := B.ne n27
  refine ⟨_, rfl, S [124, f0, f0], S [10], rfl, rfl, (show 4 ≤ sizeLine by decide), (show 6 ≤ sizeLine by decide), fun t28 n28 => ?_⟩
  replace S0 := S0.trans (sN n27 n28)
  replace B := B.same (sN n27 n28)
  replace A := A.same (sN n27 n28)
  replace hf := (sN n27 n28) _ _ hf
  replace kt22 := kt22.same (sN n27 n28)
  replace kt23 := kt23.same (sN n27 n28)
  replace kt24 := kt24.same (sN n27 n28)
  replace kt25 := kt25.same (sN n27 n28)
  replace kt26 := kt26.same (sN n27 n28)
  have kt27 := bad6N (K := K) (F := F) (C := C) n28 t27b (fun x hx H2 _ => ask6 (K := K) rfl x hx H2) rfl (bl_e (bp_mem (l := [c0, 10]) ⟨10, by simp, nC _ (.inl (by decide))⟩ (fun z => by cases z)))
  have t28b := B.ne n28
  refine ⟨(show 6 ≤ sizeLine by decide), fun t29 n29 => ?_⟩
  replace S0 := S0.trans (sN n28 n29)
  replace B := B.same (sN n28 n29)
  replace A := A.same (sN n28 n29)
  replace hf := (sN n28 n29) _ _ hf
  replace kt22 := kt22.same (sN n28 n29)
  replace kt23 := kt23.same (sN n28 n29)
  replace kt24 := kt24.same (sN n28 n29)
  replace kt25 := kt25.same (sN n28 n29)
  replace kt26 := kt26.same (sN n28 n29)
  replace kt27 := kt27.same (sN n28 n29)
  have kt28 := bad6N (K := K) (F := F) (C := C) n29 t28b (fun x hx H2 _ => ask6 (K := K) rfl x hx H2) rfl (bl_u (cut_not (l := [124, f0, f0, 10]) (List.cons_ne_nil _ _)) (bCut_len (l := [124, f0, f0, 10]) (show 4 ≠ 3 by decide)))
  have t29b := B.ne n29
  refine ⟨(show 8 ≤ sizeLine by decide), fun m6 nm6 => ?_⟩
  replace S0 := S0.trans (sN n29 nm6)
  replace B := B.same (sN n29 nm6)
  replace A := A.same (sN n29 nm6)
  replace hf := (sN n29 nm6) _ _ hf
  replace kt22 := kt22.same (sN n29 nm6)
  replace kt23 := kt23.same (sN n29 nm6)
  replace kt24 := kt24.same (sN n29 nm6)
  replace kt25 := kt25.same (sN n29 nm6)
  replace kt26 := kt26.same (sN n29 nm6)
  replace kt27 := kt27.same (sN n29 nm6)
  replace kt28 := kt28.same (sN n29 nm6)
  have kt29 := bad6N (K := K) (F := F) (C := C) nm6 t29b (fun x hx H2 _ => ask6 (K := K) rfl x hx H2) rfl (bl_c (bp_mem (l := [46, 10]) ⟨46, List.mem_cons_self, nF _ (.inl (by decide))⟩ (fun z => by cases z)))
  have Ac : AllBad K ex _ F C _ := (.cons kt22 (.cons kt23 (.cons kt24 (.cons kt25 (.cons kt26 (.cons kt27 (.cons kt28 (.cons kt29 .nil))))))))
  refine ⟨f5, m6, _, _, rfl, rfl, (same_upd nm6 _ _ hf), upd_same, (show 32 ≤ sizeLine by decide), fun f6 nf6 => ?_⟩
  replace S0 := S0.trans (sN nm6 nf6)
  replace B := B.same (sN nm6 nf6)
  replace A := A.same (sN nm6 nf6)
  replace Ac := Ac.same (sN nm6 nf6)
  replace A := A.cat Ac
  exact q _ f6 _ (S0.trans (same_upd nf6)) (noneS S0 nf6) upd_same (show 0 < 32 by decide) (show 32 ≤ 100 by decide) (A.same (same_upd nf6))
end
end FW
namespace FW
open PySem PySem.Spec PyProof.Rows L2
-- more
section
variable {P : Program} {w : World} {K : PySem.W.Frag} {mg : Str → Option Value} {base : Heap}
abbrev s_Book_eq : Stmt := inCls (topS 31) 10
theorem sc_Book_eq : FnScope ["self", "other"] ["self", "other"] (defScope s_Book_eq) := ⟨rfl, rfl, rfl, by decide +kernel, rfl, by decide +kernel, by decide +kernel⟩
/-- what isinstance asks of the class -/
structure BookE (K : PySem.W.Frag) (CB : Addr) : Prop where
  ca : PySem.W.findIn K (.ref CB) "__class__" = some (some (.builtin "object.__class__"))
  cn : PySem.W.specialIn K (.builtin "object.__class__") "__get__" = some (some (.builtin "getset_descriptor.__get__"))
  ct : PySem.W.takesIn K (.builtin "object.__class__") = some true
  cm : PySem.W.mroIn K CB (.type "object") = some true
  kit : PySem.W.kitOne K (.ref CB) (.ref CB) = some true
def sp_Book_eq (K : PySem.W.Frag) (CB : Addr) : Sp := fun vs H Q _ => ∃ (x : Addr) (yv : V) (F C : List Nat) (ls : List LineV), vs = [.ref x, yv] ∧ BookAt K CB H x F C ls ∧
  ((∃ (y : Addr) (F' C' : List Nat) (ls' : List LineV), yv = .ref y ∧ BookAt K CB H y F' C' ls' ∧ Q (.bl (decide (F = F' ∧ C = C' ∧ wsOf ls = wsOf ls'))) H) ∨ ∃ t : Value, TyX K H yv t ∧ PySem.W.kitOne K t (.ref CB) = some false ∧ Q (.bl false) H)
theorem ok_Book_eq {f CB : Addr} {fd : FuncData} (F : Fun K "__eq__" "Book.__eq__" s_Book_eq f fd) (T : Z mg) (gB : mg "Book" = some (.ref CB)) (BC : BookC K CB) (BE : BookE K CB) : FnOk P w K mg base CX0 1 f fd ["self", "other"] (sp_Book_eq K CB) := by
  refine F.ok sc_Book_eq (fun vs H Q E h => ?_) (fun cdv A outer s H vs Q E hr h => ?_)
  · obtain ⟨x, y, F, C, ls, rfl, _⟩ := h
    rfl
  obtain ⟨x, yv, F, C, ls, rfl, hB, h⟩ := h
  refine ⟨_, (pss_cons (ps_if (pt_not (pt_val (pe_callB call_isi (by rfl) T.z_isinstance (by decide +kernel) (pa_cons (pv 1) (pa_cons (pe_glob (v := .ref CB) rfl gB rfl) pa_nil))))) (pss_one (ps_ret pe_bl)) pss_nil)
   (pss_one (ps_ret (pe_and (pe_cmpR op_eq (pe_fld (pv 0) rfl) (pe_fld (pv 1) rfl) (nomark _)) (pe_and (pe_cmpR op_eq (pe_fld (pv 0) rfl) (pe_fld (pv 1) rfl) (nomark _)) (pe_one (pe_cmpR (op_eqD hr.units) (pe_fld (pv 0) rfl) (pe_fld (pv 1) rfl) (nomark _)))))))), ?_⟩
  rcases h with ⟨y, F', C', ls', rfl, hB', q⟩ | ⟨ty, hty, hk, q⟩
  case inr => exact ⟨_, rfl, _, _, _, _, false, rfl, .own _, hty, hk, false, rfl, iteT q⟩
  obtain ⟨dx, tl, hx, ht⟩ := hB.at_
  obtain ⟨dy, tl', hy, ht'⟩ := hB'.at_
  refine ⟨_, rfl, _, _, _, _, true, rfl, .own _, .base (.ins hy BC.c BE.ca BE.cn BE.ct BE.cm), BE.kit, true, rfl, iteF ?_⟩
  refine ⟨_, rfl, x, CB, dx, _, _, rfl, hx, BC.c, BC.nf, rfl, _, rfl, y, CB, dy, _, _, rfl, hy, BC.c, BC.nf, rfl, rfl, _, rfl, ite_dec (fun e1 => ?_) (fun ne => ?_)⟩
  · have e1' : F = F' := congrArg (fun z : Str => z.cps.toList) (V.str.inj e1)
    refine ⟨_, rfl, x, CB, dx, _, _, rfl, hx, BC.c, BC.nc, rfl, _, rfl, y, CB, dy, _, _, rfl, hy, BC.c, BC.nc, rfl, rfl, _, rfl, ite_dec (fun e2 => ?_) (fun ne => ?_)⟩
    · have e2' : C = C' := congrArg (fun z : Str => z.cps.toList) (V.str.inj e2)
      refine ⟨_, rfl, x, CB, dx, _, _, rfl, hx, BC.c, BC.nl, rfl, _, rfl, y, CB, dy, _, _, rfl, hy, BC.c, BC.nl, rfl, .tuple (ls.map fun r => dLine r.2), .tuple (ls'.map fun r => dLine r.2), .tup (SqT.of ht) (dp_lines hB.lines.at_), .tup (SqT.of ht') (dp_lines hB'.lines.at_), ?_, ?_, ?_⟩
      · refine Lay.shaped (n := 2) (.tup fun d hd => ?_) (by decide)
        obtain ⟨r, hr1, rfl⟩ := List.mem_map.mp hd
        exact lay_line (hB.lines.ok r hr1) hB.chr.1 hB.chr.2
      · refine Lay.shaped (n := 2) (.tup fun d hd => ?_) (by decide)
        obtain ⟨r, hr1, rfl⟩ := List.mem_map.mp hd
        exact lay_line (hB'.lines.ok r hr1) hB'.chr.1 hB'.chr.2
      · have e3 : PyData.eqv (.tuple (ls.map fun r => dLine r.2)) (.tuple (ls'.map fun r => dLine r.2)) = decide (wsOf ls = wsOf ls') := by
          show PyData.eqvAll _ _ = _
          have := eqvAll_map (f := dLine) eqv_line (wsOf ls) (wsOf ls')
          unfold wsOf at this ⊢
          rwa [List.map_map, List.map_map] at this
        rw [e3]
        rwa [show decide (F = F' ∧ C = C' ∧ wsOf ls = wsOf ls') = decide (wsOf ls = wsOf ls') from decide_eq_decide.mpr ⟨fun h => h.2.2, fun h => ⟨e1', e2', h⟩⟩] at q
    · rwa [decide_eq_false (fun h => ne (by rw [h.2.1]))] at q
  · rwa [decide_eq_false (fun h => ne (by rw [h.1]))] at q

abbrev s_Book_len : Stmt := inCls (topS 31) 11
theorem sc_Book_len : FnScope ["self"] ["self"] (defScope s_Book_len) := ⟨rfl, rfl, rfl, by decide +kernel, rfl, by decide +kernel, by decide +kernel⟩
def sp_Book_len (K : PySem.W.Frag) (CB : Addr) : Sp := fun vs H Q _ => ∃ (x : Addr) (F C : List Nat) (ls : List LineV), vs = [.ref x] ∧ BookAt K CB H x F C ls ∧ Q (.int (ls.length : Int)) H
theorem ok_Book_len {f CB : Addr} {fd : FuncData} (F : Fun K "__len__" "Book.__len__" s_Book_len f fd) (T : Z mg) (BC : BookC K CB) : FnOk P w K mg base CX0 1 f fd ["self"] (sp_Book_len K CB) := by
  refine F.ok sc_Book_len (fun vs H Q E h => ?_) (fun cdv A outer s H vs Q E hr h => ?_)
  · obtain ⟨x, F, C, ls, rfl, _⟩ := h
    rfl
  obtain ⟨x, F, C, ls, rfl, hB, q⟩ := h
  refine ⟨_, (pss_one (ps_ret (pe_callB call_len_seq (by rfl) T.z_len (by decide +kernel) (pa_cons (pe_fld (pv 0) rfl) pa_nil)))), ?_⟩
  obtain ⟨dx, tl, hx, ht⟩ := hB.at_
  refine ⟨_, rfl, x, CB, dx, _, _, rfl, hx, BC.c, BC.nl, rfl, tl, _, rfl, .inr (SqT.of ht), ?_⟩
  rwa [List.length_map]
abbrev s_Book_bool : Stmt := inCls (topS 31) 12
theorem sc_Book_bool : FnScope ["self"] ["self"] (defScope s_Book_bool) := ⟨rfl, rfl, rfl, by decide +kernel, rfl, by decide +kernel, by decide +kernel⟩
def sp_Book_bool : Sp := fun vs H Q _ => ∃ x : Addr, vs = [.ref x] ∧ Q (.bl true) H
theorem ok_Book_bool {f : Addr} {fd : FuncData} (F : Fun K "__bool__" "Book.__bool__" s_Book_bool f fd) : FnOk P w K mg base CX0 1 f fd ["self"] sp_Book_bool := by
  refine F.ok sc_Book_bool (fun vs H Q E h => ?_) (fun cdv A outer s H vs Q E hr h => ?_)
  · obtain ⟨x, rfl, _⟩ := h
    rfl
  obtain ⟨x, rfl, q⟩ := h
  exact ⟨_, pss_one (ps_ret pe_bl), q⟩
abbrev s_Book_repr : Stmt := inCls (topS 31) 13
theorem sc_Book_repr : FnScope ["self"] ["self"] (defScope s_Book_repr) := ⟨rfl, rfl, rfl, by decide +kernel, rfl, by decide +kernel, by decide +kernel⟩
def reprB (n : Nat) : Str := ((Str.empty ++ ("Book(" : Str)) ++ (Str.ofString (toString (n : Int)))) ++ (" lines)" : Str)
def sp_Book_repr (K : PySem.W.Frag) (CB : Addr) : Sp := fun vs H Q _ => ∃ (x : Addr) (F C : List Nat) (ls : List LineV), vs = [.ref x] ∧ BookAt K CB H x F C ls ∧ Q (.str (reprB ls.length)) H
theorem ok_Book_repr {f CB : Addr} {fd : FuncData} (F : Fun K "__repr__" "Book.__repr__" s_Book_repr f fd) (T : Z mg) (BC : BookC K CB) : FnOk P w K mg base CX0 1 f fd ["self"] (sp_Book_repr K CB) := by
  refine F.ok sc_Book_repr (fun vs H Q E h => ?_) (fun cdv A outer s H vs Q E hr h => ?_)
  · obtain ⟨x, F, C, ls, rfl, _⟩ := h
    rfl
  obtain ⟨x, F, C, ls, rfl, hB, q⟩ := h
  refine ⟨_, (pss_one (ps_ret (pe_joined (.cons pe_str (.cons (pe_fmt (pe_callB call_len_seq (by rfl) T.z_len (by decide +kernel) (pa_cons (pe_fld (pv 0) rfl) pa_nil))) (.cons pe_str .nil)))))), ?_⟩
  obtain ⟨dx, tl, hx, ht⟩ := hB.at_
  have h8 := hB.lines.few
  refine ⟨_, rfl, (show 5 ≤ sizeLine by decide), ?_⟩
  refine ⟨_, rfl, x, CB, dx, _, _, rfl, hx, BC.c, BC.nl, rfl, tl, _, rfl, .inr (SqT.of ht), ?_⟩
  have hsz : ∀ n : Nat, n < 9 → n.log2 < 1920 ∧ ((Str.empty ++ ("Book(" : Str)) ++ Str.ofString (toString (n : Int))).length ≤ 100 ∧ (reprB n).length ≤ 100 := by decide +kernel
  obtain ⟨g1, g2, g3⟩ := hsz ls.length (by omega)
  rw [List.length_map]
  refine .inr ⟨_, rfl, g1, _, rfl, Nat.le_trans g2 (by decide), _, rfl, Nat.le_trans g3 (by decide), q⟩
/-- a written line is right -/
def wOk (w : W6) (F C : List Nat) : Bool := ((w6L w).all fun p => decide (p.length ≤ 1000)) && bLine w.1 w.2.1 w.2.2.1 w.2.2.2.1 w.2.2.2.2.1 w.2.2.2.2.2 F C
theorem wOk.line {p : Addr} {w : W6} {F C : List Nat} (h : wOk w F C = true) : LineOk (p, w) F C := by
  obtain ⟨h1, h2⟩ := Bool.and_eq_true_iff.mp h
  exact ⟨fun x hx => of_decide_eq_true (List.all_eq_true.mp h1 x hx), h2⟩
/-- what a class of books is asked for when one is made -/
theorem book_made {H1 : Hp} {CB : Addr} {F C : List Nat} {ls : List LineV} {x dx : Addr} {vs : List V} {Qv : VK} {E : XK} (BC : BookC K CB) (b1 : bFaces (.str (S F)) = true) (b2 : bCutters (.str (S C)) = true) (l1 : F.length ≤ 1000) (l2 : C.length ≤ 1000) (hc : (∀ c ∈ F, c < 128) ∧ ∀ c ∈ C, c < 128)
    (at3 : ∀ r ∈ ls, H1 r.1 = some r.tup) (lat : ∀ r ∈ ls, LineOk r F C) (hls : ls.length ≤ 8) (nx : H1 x = none) (ndx : H1 dx = none) (hv : vs = V.ref x :: ([.str (S F), .str (S C)] ++ ls.map fun r => V.ref r.1)) (q : ∀ H', Same H1 H' → BookAt K CB H' x F C ls → Qv .non H') :
    ∃ ws rest, vs = ws ++ rest ∧ ws.length = ["self", "faces", "cutters"].length ∧ rest.length ≤ sizeLine ∧
      ∀ p, (upd (upd H1 dx (.own x)) x (.ins CB dx [])) p = none → sp_Book_init K (ws ++ [V.ref p]) (upd (upd (upd H1 dx (.own x)) x (.ins CB dx [])) p (.tup rest)) Qv E := by
  have hxm : (upd (upd H1 dx (.own x)) x (.ins CB dx [])) x = some (.ins CB dx []) := upd_same
  have sm : Same H1 (upd (upd H1 dx (.own x)) x (.ins CB dx [])) := fun z o hz => (upd_ne (ne_of_none hz nx)).trans ((upd_ne (ne_of_none hz ndx)).trans hz)
  refine ⟨[.ref x, .str (S F), .str (S C)], ls.map fun r => V.ref r.1, hv.trans rfl, rfl, by rw [List.length_map]; exact Nat.le_trans hls (by decide), fun tl ntl => ?_⟩
  have htx : tl ≠ x := fun z => by
    rw [z, hxm] at ntl
    cases ntl
  have st := same_upd (o := HO.tup (ls.map fun r => V.ref r.1)) ntl
  refine ⟨x, CB, dx, tl, F, C, ls, rfl, st _ _ hxm, BC.c, BC.nf, BC.nc, BC.nl, b1, b2, l1, l2, upd_same, ⟨fun r hr => st _ _ (sm _ _ (at3 r hr)), lat, hls⟩, fun H' s' => ?_⟩
  have far : ∀ z o, z ≠ x → (upd (upd (upd H1 dx (.own x)) x (.ins CB dx [])) tl (.tup (ls.map fun r => V.ref r.1))) z = some o → (upd H' x (.ins CB dx (bookF F C tl))) z = some o := fun z o n h => (upd_ne n).trans (s' _ _ h)
  refine q _ (fun z o hz => far z o (ne_of_none hz nx) (st _ _ (sm _ _ hz))) ⟨⟨dx, tl, upd_same, far _ _ htx upd_same⟩, ⟨fun r hr => far _ _ (fun z => ?_) (st _ _ (sm _ _ (at3 r hr))), lat, hls⟩, ⟨l1, l2⟩, hc⟩
  have h3 := at3 r hr
  rw [z, nx] at h3
  cases h3
abbrev s__law_field : Stmt := topS 37
theorem sc__law_field : FnScope ["_law_e"] ["_law_e"] (defScope s__law_field) := ⟨rfl, rfl, rfl, by decide +kernel, rfl, by decide +kernel, by decide +kernel⟩
theorem inV_strs (z : Str) : ∀ ts : List Str, inV (.str z) (ts.map V.str) = decide (z ∈ ts)
  | [] => rfl
  | t :: r => by
    have ih := inV_strs z r
    unfold inV at ih ⊢
    rw [List.map_cons, List.any_cons, ih]
    by_cases h : z = t
    · subst h
      rw [show eqV (.str z) (.str z) = true from beq_self_eq_true z, Bool.true_or]
      exact (decide_eq_true List.mem_cons_self).symm
    · rw [show eqV (.str t) (.str z) = false from beq_eq_false_iff_ne.mpr (Ne.symm h), Bool.false_or]
      by_cases h2 : z ∈ r
      · rw [decide_eq_true h2, decide_eq_true (List.mem_cons_of_mem _ h2)]
      · rw [decide_eq_false h2, decide_eq_false (fun q => (List.mem_cons.mp q).elim h h2)]
theorem all_strs : ∀ ts : List Str, (ts.map V.str).all flatV = true
  | [] => rfl
  | _ :: r => all_strs r
theorem ok__law_field {f : Addr} {fd : FuncData} (F : Fun K "_law_field" "_law_field" s__law_field f fd) : FnW P w K mg base 1 f fd ["_law_e"] (sp__law_field K) := by
  refine okW F sc__law_field (fun vs H Q E h => ?_) (fun cdv A outer s H vs Q p hr h => ?_)
  · obtain ⟨a, z, v, rfl, _⟩ := h
    rfl
  · obtain ⟨a, z, v, rfl, hc, q⟩ := h
    refine ⟨_, (pss_cons (ps_if (pt_cmpR op_in_seq (pe_xk (pv 0)) (pe_lst (pa_cons pe_str (pa_cons pe_str (pa_cons pe_str (pa_cons pe_str (pa_cons pe_str (pa_cons pe_str pa_nil))))))) (by rfl)) (pss_one (ps_ret (pe_xk (pv 0)))) pss_nil)
      (pss_cons (ps_if (pt_cmpR op_in_seq (pe_xk (pv 0)) (pe_lst (pa_cons pe_str (pa_cons pe_str pa_nil))) (by rfl)) (pss_one (ps_ret (pe_xk (pv 0)))) pss_nil)
      (pss_cons (ps_if (pt_cmpR op_in_seq (pe_xk (pv 0)) (pe_lst (pa_cons pe_str (pa_cons pe_str pa_nil))) (by rfl)) (pss_one (ps_ret (pe_xk (pv 0)))) pss_nil)
      (pss_cons (ps_if (pt_cmpR op_eq (pe_xk (pv 0)) pe_str (nomark _)) (pss_one (ps_ret (pe_xk (pv 0)))) pss_nil)
      (pss_one (ps_ret (pe_ifExp (pt_cmpR op_in_seq (pe_xk (pv 0)) (pe_lst (pa_cons pe_str (pa_cons pe_str (pa_cons pe_str (pa_cons pe_str pa_nil))))) (by rfl)) pe_non (pe_xk (pv 0))))))))), ?_⟩
    obtain ⟨C, dd, fs, h1, h2, h3, h4, h5, h6⟩ := hc
    unfold FieldIs at h6
    refine ⟨_, rfl, a, C, dd, fs, _, rfl, h1, h2, h3, h4, h5, ?_⟩
    refine ⟨(show 6 ≤ sizeLine by decide), fun p1 n1 => ?_⟩
    refine ⟨p1, (["InvalidLine", "InvalidStep", "InvalidTable", "InvalidBad", "InvalidPlan", "UnknownRoom"] : List Str).map V.str, rfl, .inl (SqL.of upd_same), rfl, all_strs _, _, rfl, ?_⟩
    have s1 : Same H _ := same_upd (o := HO.lst ((["InvalidLine", "InvalidStep", "InvalidTable", "InvalidBad", "InvalidPlan", "UnknownRoom"] : List Str).map V.str)) n1
    rw [if_neg Bool.false_ne_true, inV_strs]
    by_cases b1 : z ∈ (["InvalidLine", "InvalidStep", "InvalidTable", "InvalidBad", "InvalidPlan", "UnknownRoom"] : List Str)
    · rw [decide_eq_true b1]
      rw [if_pos b1] at h6
      exact iteT ⟨_, rfl, a, C, dd, fs, _, rfl, s1 _ _ h1, s1 _ _ h2, h3, h6.1, h6.2, q _ s1⟩
    rw [decide_eq_false b1]
    rw [if_neg b1] at h6
    refine iteF ?_
    refine ⟨_, rfl, a, C, dd, fs, _, rfl, s1 _ _ h1, s1 _ _ h2, h3, h4, h5, ?_⟩
    refine ⟨(show 2 ≤ sizeLine by decide), fun p2 n2 => ?_⟩
    refine ⟨p2, (["TooMany", "Full"] : List Str).map V.str, rfl, .inl (SqL.of upd_same), rfl, all_strs _, _, rfl, ?_⟩
    have s2 := s1.trans (same_upd (o := HO.lst ((["TooMany", "Full"] : List Str).map V.str)) n2)
    rw [if_neg Bool.false_ne_true, inV_strs]
    by_cases b2 : z ∈ (["TooMany", "Full"] : List Str)
    · rw [decide_eq_true b2]
      rw [if_pos b2] at h6
      exact iteT ⟨_, rfl, a, C, dd, fs, _, rfl, s2 _ _ h1, s2 _ _ h2, h3, h6.1, h6.2, q _ s2⟩
    rw [decide_eq_false b2]
    rw [if_neg b2] at h6
    refine iteF ?_
    refine ⟨_, rfl, a, C, dd, fs, _, rfl, s2 _ _ h1, s2 _ _ h2, h3, h4, h5, ?_⟩
    refine ⟨(show 2 ≤ sizeLine by decide), fun p3 n3 => ?_⟩
    refine ⟨p3, (["InvalidText", "InvalidPage"] : List Str).map V.str, rfl, .inl (SqL.of upd_same), rfl, all_strs _, _, rfl, ?_⟩
    have s3 := s2.trans (same_upd (o := HO.lst ((["InvalidText", "InvalidPage"] : List Str).map V.str)) n3)
    rw [if_neg Bool.false_ne_true, inV_strs]
    by_cases b3 : z ∈ (["InvalidText", "InvalidPage"] : List Str)
    · rw [decide_eq_true b3]
      rw [if_pos b3] at h6
      exact iteT ⟨_, rfl, a, C, dd, fs, _, rfl, s3 _ _ h1, s3 _ _ h2, h3, h6.1, h6.2, q _ s3⟩
    rw [decide_eq_false b3]
    rw [if_neg b3] at h6
    refine iteF ?_
    refine ⟨_, rfl, a, C, dd, fs, _, rfl, s3 _ _ h1, s3 _ _ h2, h3, h4, h5, rfl, _, rfl, ?_⟩
    by_cases b4 : z = "UnknownState"
    · rw [show decide (V.str z = V.str "UnknownState") = true from decide_eq_true (congrArg V.str b4)]
      rw [if_pos b4] at h6
      exact iteT ⟨_, rfl, a, C, dd, fs, _, rfl, s3 _ _ h1, s3 _ _ h2, h3, h6.1, h6.2, q _ s3⟩
    rw [show decide (V.str z = V.str "UnknownState") = false from decide_eq_false fun e => b4 (V.str.inj e)]
    rw [if_neg b4] at h6
    refine iteF ?_
    refine ⟨_, rfl, a, C, dd, fs, _, rfl, s3 _ _ h1, s3 _ _ h2, h3, h4, h5, ?_⟩
    refine ⟨(show 4 ≤ sizeLine by decide), fun p4 n4 => ?_⟩
    refine ⟨p4, (["InvalidPaper", "OtherFaces", "OtherCutters", "NothingLeft"] : List Str).map V.str, rfl, .inl (SqL.of upd_same), rfl, all_strs _, _, rfl, ?_⟩
    have s4 := s3.trans (same_upd (o := HO.lst ((["InvalidPaper", "OtherFaces", "OtherCutters", "NothingLeft"] : List Str).map V.str)) n4)
    rw [if_neg Bool.false_ne_true, inV_strs]
    by_cases b5 : z ∈ (["InvalidPaper", "OtherFaces", "OtherCutters", "NothingLeft"] : List Str)
    · rw [decide_eq_true b5]
      rw [if_pos b5] at h6
      subst h6
      exact iteT (q _ s4)
    rw [decide_eq_false b5]
    rw [if_neg b5] at h6
    exact iteF ⟨_, rfl, a, C, dd, fs, _, rfl, s4 _ _ h1, s4 _ _ h2, h3, h6.1, h6.2, q _ s4⟩
abbrev s__law_try : Stmt := topS 38
theorem sc__law_try : FnScope ["_law_ask", "_law_e"] ["_law_ask"] (defScope s__law_try) := ⟨rfl, rfl, rfl, by decide +kernel, rfl, by decide +kernel, by decide +kernel⟩
theorem gives__law_try {X : Cx} {g fF C1 C2 C3 : Addr} {fdF : FuncData} {cdg : Value} {q : Str} {k : Nat} (F : FnW X.prog X.w X.K X.mg X.base 1 fF fdF ["_law_e"] (sp__law_field X.K)) (mF : X.mg "_law_field" = some (.ref fF)) (kF : PySem.W.keepIn X.K (.ref fF) = true) (bF : Binds X.K fdF ["_law_e"] [])
    (g1 : X.mg "HouseError" = some (.ref C1)) (g2 : X.mg "Missing" = some (.ref C2)) (g3 : X.mg "NothingLeft" = some (.ref C3)) (hr : Room (k + 3) X.A) :
    LamX.GivesTo X ["_law_ask", "_law_e"] "_law_try" (defScope s__law_try) g cdg (defBody s__law_try) "_law_ask" q (TTry X.K [.ref C1, .ref C2, .ref C3]) := by
  intro f c' s H Q tl act hc h
  have hrm : ∀ (a : Addr) (env : Env), L2H.RoomH 1 ((X.A.deeper env).mark (some (.ref a))) := fun a env => ⟨by
    have z := hr.dp
    show X.A.depth + 1 + 3 * 1 + 5 < _
    omega, by
    have z := hr.un
    show X.A.units + 3 + 16 * 1 + 200 < _
    omega⟩
  refine ⟨_, pss_one (ps_try3 (X := (cxOf C8.CX0 X.prog X.w X.K X.mg X.base ["_law_ask", "_law_e"] "_law_try" (defScope s__law_try) g cdg X.A X.stack s H C8.E0).nox) (C1 := C1) (C2 := C2) (C3 := C3) (i := 1)
      (ts := tRet (tTup (tCons (tXk X.K "code" (tVar 1)) (tCons (fun σ H Q => tCons (tVar 1) tNil σ H fun vs H1 => sp__law_field X.K vs H1 Q E0) tNil))))
      (tb := fun W D σ H => ∃ Ech : XK, (∀ cls d σ' H', Ech cls d H' → W cls d σ' H') ∧ σ[0]? = some (some (.ref f)) ∧ H c' = some (LamX.CodeO c' q) ∧ tl Ech H fun v H1 => [V.str "", v].length ≤ sizeLine ∧ ∀ p, H1 p = none → D.rt (.ref p) (upd H1 p (.tup [.str "", v])))
      rfl rfl rfl sc__law_try.nd rfl rfl (by rfl) g1 (by rfl) g2 (by rfl) g3 (fun W pn xe tk _ => ?body) (fun a pn => ?suite)), ?read⟩
  case suite => exact pss_one (ps_ret (pe_tup (pa_cons (pe_xk (pv 1)) (pa_cons (pe_callW F (hrm a _) (by rfl) mF kF bF (pa_cons (pv 1) pa_nil)) pa_nil))))
  case body =>
    refine ⟨fun pins s' σ H' D I h' => ?_⟩
    obtain ⟨Ech, hW, h1, h2, h3⟩ := h'
    have hp := fun p1 p2 => act W pn xe Ech p1 p2 tk hW
    refine (pss_one (ps_ret (pe_tup (pa_cons pe_str (pa_cons (hp _ _) pa_nil))))).run pins s' σ H' D I ⟨h1, h2, h3⟩
  case read =>
    refine ⟨_, fun cls d σ' H' h' => ?_, rfl, hc, h⟩
    obtain ⟨he, ha⟩ := h'
    refine ⟨he, fun a na hl => ?_⟩
    obtain ⟨z, v, hcg, hq⟩ := ha a na
    have hlt : 1 < σ'.length := by
      rw [hl]
      exact (by decide : 1 < 2)
    have e1 : (σ'.set 1 (some (V.ref a)))[1]? = some (some (.ref a)) := List.getElem?_set_self hlt
    have hcg2 := hcg
    obtain ⟨C, dd, fs, h1, h2, h3, h4, h5, h6⟩ := hcg2
    refine ⟨_, e1, a, C, dd, fs, _, rfl, h1, h2, h3, h4, h5, _, e1, a, z, v, rfl, hcg, fun H2 sm => ?_⟩
    exact ⟨(show 2 ≤ sizeLine by decide), fun p np => hq H2 sm p np⟩
abbrev s__law_tries : Stmt := topS 39
theorem sc__law_tries : FnScope ["_law_asks", "_law_ask"] ["_law_asks"] (defScope s__law_tries) := ⟨rfl, rfl, rfl, by decide +kernel, rfl, by decide +kernel, by decide +kernel⟩
theorem ok__law_tries {b0 : Heap} {k : Nat} {f g fF C1 C2 C3 : Addr} {fd fdg fdF : FuncData} (F : Fun K "_law_tries" "_law_tries" s__law_tries f fd) (m : Mod K mg b0) (sub : ∀ b o, b0.get? b = some o → base.get? b = some o) (sz : b0.objs.size ≤ base.objs.size)
    (G : Fun K "_law_try" "_law_try" s__law_try g fdg) (mG : mg "_law_try" = some (.ref g)) (bG : Binds K fdg ["_law_ask"] [])
    (FF : FnW P w K mg base 1 fF fdF ["_law_e"] (sp__law_field K)) (mF : mg "_law_field" = some (.ref fF)) (kF : PySem.W.keepIn K (.ref fF) = true) (bF : Binds K fdF ["_law_e"] [])
    (g1 : mg "HouseError" = some (.ref C1)) (g2 : mg "Missing" = some (.ref C2)) (g3 : mg "NothingLeft" = some (.ref C3)) :
    FnOk P w K mg base CX0 (k + 4) f fd ["_law_asks"] (sp_tries P w K mg b0 base k [.ref C1, .ref C2, .ref C3]) := by
  obtain ⟨oc, od, kV, doc, pm, an, cdv, ct, osl, rfl, lk, hcd⟩ := G.ex
  refine F.ok sc__law_tries (fun vs H Q E h => ?_) (fun cdv A outer s H vs Q E hr h => ?_)
  · obtain ⟨l, fs, rfl, _⟩ := h
    rfl
  obtain ⟨l, fs, rfl, hn, hl, hc⟩ := h
  refine ⟨_, pss_one (ps_ret (pe_lc (own := [("_law_ask", 1)]) (g := gName 1) (te := tItem P w K mg b0 base k [.ref C1, .ref C2, .ref C3] 1) (by rfl) sc__law_tries.nd (pi_list (pv 0)) (blkOk_by (N := ["_law_asks", "_law_ask"]) (sc := defScope s__law_tries) (by decide +kernel)) (fun _ _ _ _ _ => pg_name (i := 1) sc__law_tries.nd rfl (.inl rfl)) (fun _ _ _ _ _ => pts_nil)
    (fun s1 H1 C cl fp => pe_item (a := "_law_ask") m sub sz (by rfl) mG G.kp lk hcd bG sc__law_try rfl (.inl rfl) (fun q => gives__law_try FF mF kF bF g1 g2 g3 hr) (hr.mono (by omega)) rfl (.inl rfl)))), ?_⟩
  refine ⟨.ref l, rfl, l, rfl, ⟨_, .inl (.inl hl)⟩, fun D nD => ?_⟩
  exact chain_walk (fun x => rfl) (show 1 < 2 by decide) hn nD hl (hc D nD)
end
end FW
namespace FW
open PySem PySem.Spec PyProof.Rows L2
-- more
section
variable {P : Program} {w : World} {K : PySem.W.Frag} {mg : Str → Option Value} {base : Heap}
abbrev s_law : Stmt := topS 48
theorem sc_law : FnScope ["_law_script", "_law_bag", "_law_spec", "_law_right", "_law_bad", "_law_at", "_law_rows", "_law_later", "_law_odd", "_law_cold", "_law_tries_here", "_law_due", "_law_p", "_law_q", "_law_r", "_law_nine", "_law_k", "_law_row"] ["_law_script"] (defScope s_law) := ⟨rfl, rfl, rfl, by decide +kernel, rfl, by decide +kernel, by decide +kernel⟩
abbrev lm (s : Stmt) (j : Nat) : Arguments × Expr × Scope := lamParts ((listOf s).getD j (.Constant .none 0 ⟨0, 0, 0, 0⟩))
abbrev XL (P : Program) (w : World) (K : PySem.W.Frag) (mg : Str → Option Value) (base : Heap) (f c : Addr) (A : Around) (outer : List Env) (s : Shared) (H : Hp) (E : XK) : Cx :=
  (cxOf CX0 P w K mg base ["_law_script", "_law_bag", "_law_spec", "_law_right", "_law_bad", "_law_at", "_law_rows", "_law_later", "_law_odd", "_law_cold", "_law_tries_here", "_law_due", "_law_p", "_law_q", "_law_r", "_law_nine", "_law_k", "_law_row"] "law" (defScope s_law) f (.ref c) A outer s H E).nox
def sp_law (K : PySem.W.Frag) (Pt : Addr) : Sp := fun vs H Q _ => ∃ (a : Addr) (ns : List Int), vs = [.ref a] ∧ SqL K H a (ns.map V.int) ∧ ns.length ≤ 63 ∧ H Pt = some (.tbl #[]) ∧ ∀ H', Q (.bl true) H'
theorem cutV_fromB {xs : List V} {k : Nat} (h : k ≤ xs.length) : cutV xs (some (k : Int)) none = xs.drop k := by
  unfold cutV
  rw [HT.sIx_none, show HT.sIx xs.length 0 (some (k : Int)) = min k xs.length from HT.sIx_nat xs.length 0 k, Nat.min_eq_left h, List.take_of_length_le]
  rw [List.length_drop]
  exact Nat.le_refl _
theorem Bag.ext {H H' : Hp} {b l : Addr} (B : Bag H b l) (e : LamX.ExtN H H') : Bag H' b l := by
  obtain ⟨ns, i, r, m, c, h1, h2, q⟩ := B
  exact ⟨ns, i, r, m, c, e _ _ h1 (fun _ z => by cases z), e _ _ h2 (fun _ z => by cases z), q⟩
theorem tabs_drawn {T : List (Addr × Str)} {H H' : Hp} {b l : Addr} (t : LamX.Tabs T H) (B : Bag H b l) (s : But b H H') : LamX.Tabs T H' := fun p hp => by
  obtain ⟨xs, hb⟩ := B.la
  obtain ⟨ps, h1, h2, h3⟩ := t p hp
  refine ⟨ps, s _ _ (fun z => ?_) h1, h2, fun pos cv hc => ?_⟩
  · rw [z, hb] at h1
    cases h1
  · obtain ⟨c, e1, e2⟩ := h3 pos cv hc
    refine ⟨c, e1, s _ _ (fun z => ?_) e2⟩
    rw [z, hb] at e2
    cases e2
theorem len3 {α : Type} {l : List α} (h : l.length = 3) : ∃ a b c, l = [a, b, c] := by
  match l, h with
  | [a, b, c], _ => exact ⟨a, b, c, rfl⟩
/-- right lines, where they stand -/
def RightAt (b : Addr) (H : Hp) (F C : List Nat) (R : List LineV) : Prop := ∀ r ∈ R, H r.1 = some r.tup ∧ r.1 ≠ b ∧ LineOk r F C
theorem RightAt.same {b : Addr} {H H' : Hp} {F C : List Nat} {R : List LineV} (h : RightAt b H F C R) (s : Same H H') : RightAt b H' F C R := fun r hr => ⟨s _ _ (h r hr).1, (h r hr).2⟩
theorem RightAt.drawn {b : Addr} {H H' : Hp} {F C : List Nat} {R : List LineV} (h : RightAt b H F C R) (s : But b H H') : RightAt b H' F C R := fun r hr => ⟨s _ _ (h r hr).2.1 (h r hr).1, (h r hr).2⟩
theorem RightAt.ext {b : Addr} {H H' : Hp} {F C : List Nat} {R : List LineV} (h : RightAt b H F C R) (s : LamX.ExtN H H') : RightAt b H' F C R := fun r hr => ⟨s _ _ (h r hr).1 (fun _ z => by cases z), (h r hr).2⟩
/-- what is asked of a refused book -/
theorem book_refused {K : PySem.W.Frag} {CF CC CL : Addr} {H : Hp} {b : Addr} {ex : Addr → Prop} {F C : List Nat} {R : List LineV} {v : V} {rest vs : List V} {x : Addr} {Q : VK} {E : XK} (b1 : bFaces (.str (S F)) = true) (b2 : bCutters (.str (S C)) = true) (l1 : F.length ≤ 1000) (l2 : C.length ≤ 1000)
    (hR : RightAt b H F C R) (h8 : R.length ≤ 8) (hv : R.length = 8 ∨ BadD K ex H v F C) (ev : vs = (R.map fun r => V.ref r.1) ++ v :: rest) (hl : vs.length ≤ 100) (q : ∀ H' d, Same H H' → H' d = none → E (.ref CL) (some d) (upd H' d (Err1 "at" "InvalidLine" (.int (R.length : Nat))))) :
    ∃ ws rest, V.ref x :: .str (S F) :: .str (S C) :: vs = ws ++ rest ∧ ws.length = ["self", "faces", "cutters"].length ∧ rest.length ≤ sizeLine ∧ ∀ p, H p = none → sp_Book_initX K CF CC CL (ws ++ [V.ref p]) (upd H p (.tup rest)) Q E :=
  ⟨[.ref x, .str (S F), .str (S C)], vs, rfl, rfl, Nat.le_of_lt (sz1 (by omega)), fun p np => ⟨x, p, _, _, vs, rfl, upd_same, .inr (.inr ⟨F, C, R, v, rest, rfl, rfl, l1, l2, b1, b2, ev, fun r hr => same_upd np _ _ (hR r hr).1, fun r hr => (hR r hr).2.2, h8, hv.imp id fun h => (h.same (same_upd np)).now, fun H' d s nd => q H' d ((same_upd np).trans s) nd⟩)⟩⟩
theorem made_keep {H : Hp} {x dx : Addr} {o1 o2 : HO} (nx : H x = none) (nd : H dx = none) : Same H (upd (upd H dx o1) x o2) := fun z o hz => (upd_ne (ne_of_none hz nx)).trans ((upd_ne (ne_of_none hz nd)).trans hz)
def wDotB : W6 := ([46], [46], [46], [46], [46], [])
theorem wDotB_ok {t : Addr} (F C : List Nat) : LineOk (t, wDotB) F C := by
  refine ⟨fun p hp => ?_, ?_⟩
  · simp only [wDotB, List.mem_cons, List.not_mem_nil, or_false] at hp
    rcases hp with rfl | rfl | rfl | rfl | rfl | rfl <;> decide
  · show (([[46], [46], [46], [46]].all fun p => bPart (.str (S p)) F) && bPart (.str (S [46])) C && (decide (V.str (S []) = V.str "") || bCut (.str (S [])) (S F))) = true
    have h : ∀ L, bPart (.str (S [46])) L = true := fun L => by
      unfold bPart
      rfl
    rw [show ([[46], [46], [46], [46]].all fun p => bPart (.str (S p)) F) = true from by simp [h], h, show decide (V.str (S []) = V.str "") = true from decide_eq_true rfl]
    rfl
theorem ErrF.caught {K : PySem.W.Frag} {mg : Str → Option Value} {C : Addr} {f z : String} {cs : List Value} {H1 : Hp} {v : V} {d a : Addr} (T : ErrF K mg C f z cs) (nd : H1 d = none) (na : (upd H1 d (Err1 f z v)) a = none) : Caught K (upd (upd H1 d (Err1 f z v)) a (ExK (.ref C) (some d) a)) a (Str.ofString z) v := by
  obtain ⟨fI, k⟩ := T.kls
  have hne : d ≠ a := fun e => by
    rw [← e, upd_same] at na
    cases na
  exact ⟨C, d, _, upd_same, (upd_ne hne).trans upd_same, k.xf, k.ncode, rfl, T.fi v⟩
theorem exAt_b {H : Hp} {b l : Addr} (B : Bag H b l) : ExAt (fun c => c = b) H := fun c e => by
  obtain ⟨xs, h⟩ := B.la
  exact ⟨_, e ▸ h⟩
theorem exAt_bD {H : Hp} {b l D : Addr} {o : HO} (B : Bag H b l) (h : H D = some o) : ExAt (fun c => c = b ∨ c = D) H := fun c e => by
  rcases e with e | e
  · exact exAt_b B c e
  · exact ⟨_, e ▸ h⟩
theorem upd_bad {K : PySem.W.Frag} {H : Hp} {b D : Addr} {o : HO} {v : V} {F C : List Nat} (h : BadD K (fun c => c = b ∨ c = D) H v F C) : BadD K (fun c => c = b ∨ c = D) (upd H D o) v F C := h.butX fun c o' n e _ => (upd_ne (fun z => n (.inr z))).trans e
theorem book_refF {K : PySem.W.Frag} {CF CC CL : Addr} {H : Hp} {fv cv : V} {vs : List V} {x : Addr} {Q : VK} {E : XK} (ha : ∀ H', Same H H' → Askd K H' fv) (hno : bFaces fv = false) (hl : vs.length ≤ 100) (q : ∀ H' d, Same H H' → H' d = none → E (.ref CF) (some d) (upd H' d (Err1 "given" "InvalidFaces" fv))) :
    ∃ ws rest, V.ref x :: fv :: cv :: vs = ws ++ rest ∧ ws.length = ["self", "faces", "cutters"].length ∧ rest.length ≤ sizeLine ∧ ∀ p, H p = none → sp_Book_initX K CF CC CL (ws ++ [V.ref p]) (upd H p (.tup rest)) Q E :=
  ⟨[.ref x, fv, cv], vs, rfl, rfl, Nat.le_of_lt (sz1 (by omega)), fun p np => ⟨x, p, _, _, vs, rfl, upd_same, .inl ⟨fun H' s => ha H' ((same_upd np).trans s), hno, fun H' d s nd => q H' d ((same_upd np).trans s) nd⟩⟩⟩
theorem book_refC {K : PySem.W.Frag} {CF CC CL : Addr} {H : Hp} {fv cv : V} {vs : List V} {x : Addr} {Q : VK} {E : XK} (ha : ∀ H', Same H H' → Askd K H' fv) (hy : bFaces fv = true) (hc : ∀ H', Same H H' → Askd K H' cv) (hno : bCutters cv = false) (hl : vs.length ≤ 100) (q : ∀ H' d, Same H H' → H' d = none → E (.ref CC) (some d) (upd H' d (Err1 "given" "InvalidCutters" cv))) :
    ∃ ws rest, V.ref x :: fv :: cv :: vs = ws ++ rest ∧ ws.length = ["self", "faces", "cutters"].length ∧ rest.length ≤ sizeLine ∧ ∀ p, H p = none → sp_Book_initX K CF CC CL (ws ++ [V.ref p]) (upd H p (.tup rest)) Q E :=
  ⟨[.ref x, fv, cv], vs, rfl, rfl, Nat.le_of_lt (sz1 (by omega)), fun p np => ⟨x, p, _, _, vs, rfl, upd_same, .inr (.inl ⟨fun H' s => ha H' ((same_upd np).trans s), hy, fun H' s => hc H' ((same_upd np).trans s), hno, fun H' d s nd => q H' d ((same_upd np).trans s) nd⟩)⟩⟩
theorem dTI {n : Nat} (z : Str) (d : PyData) (h : Deep (n + 1) d) : Deep (n + 2) (.tuple [.str z, d]) := deep_tup (show 2 ≤ 1000 by decide) fun d' hd => by
  simp only [List.mem_cons, List.not_mem_nil, or_false] at hd
  rcases hd with rfl | rfl
  · exact deep_str
  · exact h
theorem ok_law {f c Pt fT C1 C2 C3 CL CF CC CB fI f_len fT1 fF : Addr} {oc kV doc pm ct : Value} {od an : Option Addr} {osl : Array (Option Value)} {fdT : FuncData}  {ocT kVT docT pmT cdT ctT : Value} {odT anT : Option Addr} {oslT : Array (Option Value)} {fdF : FuncData} (T : Z mg)
    (lk : K.lookup f = some ⟨oc, od, .func (PySem.W.fnOf "law" "law" (defArgs s_law) (defBody s_law) (defScope s_law) .none kV doc pm an (.ref c) ct), osl⟩) (hcd : PySem.W.codeIn K (.ref c) "law" = true) (TB : LamX.TabB base mg c Pt)
    (TL : ErrF K mg CL "at" "InvalidLine" [.ref C1, .ref C2, .ref C3]) (TF : ErrK K mg CF "InvalidFaces" [.ref C1, .ref C2, .ref C3]) (TC : ErrK K mg CC "InvalidCutters" [.ref C1, .ref C2, .ref C3]) (BC : BookC K CB)
    (gB : mg "Book" = some (.ref CB)) (M : Mk K CB fI)
    (mT : mg "_law_tries" = some (.ref fT)) (kT : PySem.W.keepIn K (.ref fT) = true) (bT : L2.Binds K fdT ["_law_asks"] [])
    (FT : ∀ b2 : Heap, Mod K mg base → (∀ b o, base.get? b = some o → b2.get? b = some o) → base.objs.size ≤ b2.objs.size → FnOk P w K mg b2 CX0 12 fT fdT ["_law_asks"] (sp_tries P w K mg base b2 8 [.ref C1, .ref C2, .ref C3]))
    (c__law_same : Cal P w K mg base CX0 5 "_law_same" s__law_same ["_law_found", "_law_due"] (sp__law_same K 3))
    (FBX : FnR P w K mg base (L2.CX P w) 6 fI (fun vs H Q E => ∃ ws rest, vs = ws ++ rest ∧ ws.length = ["self", "faces", "cutters"].length ∧ rest.length ≤ sizeLine ∧ ∀ p, H p = none → sp_Book_initX K CF CC CL (ws ++ [V.ref p]) (upd H p (.tup rest)) Q E))
    (hLn : PySem.W.findIn K (.ref CB) "__len__" = some (some (.ref f_len))) (hLf : PySem.W.isFn K (.ref f_len) = true) (FL : FnR P w K mg base CX0 1 f_len (sp_Book_len K CB))
    (FB : FnR P w K mg base CX0 6 fI (fun vs H Q E => ∃ ws rest, vs = ws ++ rest ∧ ws.length = ["self", "faces", "cutters"].length ∧ rest.length ≤ sizeLine ∧ ∀ p, H p = none → sp_Book_init K (ws ++ [V.ref p]) (upd H p (.tup rest)) Q E))
    (c__law_of : Cal P w K mg base CX0 2 "_law_of" s__law_of ["_law_bag", "_law_things"] (sp__law_of K))
    (c__law_bad_lines : Cal P w K mg base CX0 1 "_law_bad_lines" s__law_bad_lines ["_law_spec"] (sp__law_bad_lines K))
    (mT1 : mg "_law_try" = some (.ref fT1)) (kT1 : PySem.W.keepIn K (.ref fT1) = true) (lkT1 : K.lookup fT1 = some ⟨ocT, odT, .func (PySem.W.fnOf "_law_try" "_law_try" (defArgs s__law_try) (defBody s__law_try) (defScope s__law_try) .none kVT docT pmT anT cdT ctT), oslT⟩) (hcT1 : PySem.W.codeIn K cdT "_law_try" = true)
    (bT1 : L2.Binds K (PySem.W.fnOf "_law_try" "_law_try" (defArgs s__law_try) (defBody s__law_try) (defScope s__law_try) .none kVT docT pmT anT cdT ctT) ["_law_ask"] [])
    (FF : FnW P w K mg base 1 fF fdF ["_law_e"] (sp__law_field K)) (mF : mg "_law_field" = some (.ref fF)) (kF : PySem.W.keepIn K (.ref fF) = true) (bF : L2.Binds K fdF ["_law_e"] [])
    (gH : mg "HouseError" = some (.ref C1)) (gM : mg "Missing" = some (.ref C2)) (gN : mg "NothingLeft" = some (.ref C3))
    (c__law_draw : Cal P w K mg base CX0 1 "_law_draw" s__law_draw ["_law_bag", "_law_many"] (sp__law_draw K))
    (c__law_some_book : Cal P w K mg base CX0 5 "_law_some_book" s__law_some_book ["_law_bag", "_law_sizes"] (sp__law_some_book K))
    (c__law_open : Cal P w K mg base CX0 1 "_law_open" s__law_open ["_law_script"] (sp__law_open K)) : FnOk P w K mg base CX0 15 f (PySem.W.fnOf "law" "law" (defArgs s_law) (defBody s_law) (defScope s_law) .none kV doc pm an (.ref c) ct) ["_law_script"] (sp_law K Pt) := by
  refine fn_of lk hcd sc_law (fun vs H Q E h => ?_) (fun A outer s H vs Q E hr h => ?_)
  · obtain ⟨a, ns, rfl, _⟩ := h
    rfl
  obtain ⟨a, ns, rfl, hS, hlen, hP, q⟩ := h
  refine ⟨_, PSs.nox (pss_cons (ps_set (i := 1) sc_law.nd rfl (.inr rfl) (pe_c c__law_open hr (by decide) (by rfl) (pa_cons (pv 0) pa_nil)))
      (pss_cons (ps_set (i := 2) sc_law.nd rfl (.inr rfl) (pe_c c__law_some_book hr (by decide) (by rfl) (pa_cons (pv 1) (pa_cons (pe_lst (pa_cons pe_int (pa_cons pe_int (pa_cons pe_int pa_nil)))) pa_nil))))
      (pss_cons (ps_set (i := 3) sc_law.nd rfl (.inl rfl) (pe_slice sl_list (pe_op op_cat (pe_ix ix_list (pv 2) pe_int (fun _ _ => rfl)) (pe_op op_rep (pe_lst (pa_cons (pe_tup (pa_cons pe_str (pa_cons pe_str (pa_cons pe_str (pa_cons pe_str (pa_cons pe_str (pa_cons pe_str pa_nil))))))) pa_nil)) pe_int)) po_none (po_some pe_int)))
      (pss_cons (ps_asg (pe_tup (pa_cons (pe_c c__law_of hr (by decide) (by rfl) (pa_cons (pv 1) (pa_cons (pe_c c__law_bad_lines hr (by decide) (by rfl) (pa_cons (pv 2) pa_nil)) pa_nil))) (pa_cons (pe_c c__law_draw hr (by decide) (by rfl) (pa_cons (pv 1) (pa_cons pe_int pa_nil))) pa_nil))) (pg_tup rfl (pgs_cons (pg_name (i := 4) sc_law.nd rfl (.inr rfl)) (pgs_cons (pg_name (i := 5) sc_law.nd rfl (.inr rfl)) pgs_nil))))
      (pss_cons (ps_set (i := 6) sc_law.nd rfl (.inr rfl) (pe_op op_cat (pe_op op_cat (pe_slice sl_list (pv 3) po_none (po_some (pv 5))) (pe_lst (pa_cons (pv 4) pa_nil))) (pe_slice sl_list (pv 3) (po_some (pe_op op_add (pv 5) pe_int)) po_none)))
      (pss_cons (ps_if (pt_not (pt_val (pe_c c__law_same hr (by decide) (by rfl) (pa_cons (LamX.pe_lamcall (T := [(Pt, (envOfC "law" (defScope s_law) 0 f (.ref c)).qual ++ "<lambda>")]) (k := 7) (by rfl) mT1 kT1 lkT1 hcT1 bT1 sc__law_try rfl (.inl rfl) (gives__law_try (k := 7) FF mF kF bF gH gM gN (hr.mono (by decide))) TB rfl (List.mem_singleton.mpr rfl) (fun p hp _ => congrArg Prod.snd (List.mem_singleton.mp hp)) (hr.mono (by decide)) (LamX.lamS_by (show LamX.lamSB (defScope s_law) _ = true by decide +kernel)) (by rfl) (fun _ _ _ _ _ => by rfl)
        (fun A outer s H E f c' hr => (StX.pe_makeR M FBX (hr.mono (by decide)) (by rfl) gB (passes_call (takes_of rfl rfl rfl rfl) (fun _ _ _ _ h => h)) (pa_cons (pe_ix (ix_listE (K := K) rfl) (pv 2) pe_int (fun _ _ => rfl)) (pa_cons (pe_ix (ix_listE (K := K) rfl) (pv 2) pe_int (fun _ _ => rfl)) (pa_cons (pe_ix (ix_listE (K := K) rfl) (pv 6) pe_int (fun _ _ => rfl)) (pa_cons (pe_ix (ix_listE (K := K) rfl) (pv 6) pe_int (fun _ _ => rfl)) (pa_cons (pe_ix (ix_listE (K := K) rfl) (pv 6) pe_int (fun _ _ => rfl)) pa_nil)))))))) (pa_cons (pe_tup (pa_cons pe_str (pa_cons (pv 5) pa_nil))) pa_nil))))) (pss_one (ps_ret pe_bl)) pss_nil)
      (pss_cons (ps_set (i := 7) sc_law.nd rfl (.inr rfl) (pe_lc (own := [("_law_k", 16), ("_law_row", 17)]) (g := (gTup K 2 (gCons (gName 16) (gCons (gName 17) gNil)))) (by rfl) sc_law.nd (pi_enumG (by rfl) T.z_enumerate (pa_cons (pv 6) pa_nil)) (blkOk_by (N := ["_law_script", "_law_bag", "_law_spec", "_law_right", "_law_bad", "_law_at", "_law_rows", "_law_later", "_law_odd", "_law_cold", "_law_tries_here", "_law_due", "_law_p", "_law_q", "_law_r", "_law_nine", "_law_k", "_law_row"]) (sc := defScope s_law) (by decide +kernel)) (fun _ _ _ _ _ => (pg_tup rfl (pgs_cons (pg_name (i := 16) sc_law.nd rfl (.inl rfl)) (pgs_cons (pg_name (i := 17) sc_law.nd rfl (.inl rfl)) pgs_nil)))) (fun _ _ _ _ _ => pts_nil) (fun _ _ _ _ _ => (pe_ifExp (pt_cmpR op_lt (pv 16) (pv 5) (nomark _)) (pv 17) (pe_c c__law_of hr (by decide) (by rfl) (pa_cons (pv 1) (pa_cons (pe_c c__law_bad_lines hr (by decide) (by rfl) (pa_cons (pv 2) pa_nil)) pa_nil)))))))
      (pss_cons (ps_set (i := 8) sc_law.nd rfl (.inr rfl) (pe_c c__law_of hr (by decide) (by rfl) (pa_cons (pv 1) (pa_cons (pe_lst (pa_cons pe_str (pa_cons pe_str (pa_cons pe_str (pa_cons pe_str (pa_cons pe_str (pa_cons pe_non (pa_cons pe_int (pa_cons pe_bl (pa_cons (pe_lst (pa_cons pe_str pa_nil)) (pa_cons (pe_tup (pa_cons pe_str pa_nil)) (pa_cons pe_str pa_nil)))))))))))) pa_nil))))
      (pss_cons (ps_set (i := 9) sc_law.nd rfl (.inr rfl) (pe_c c__law_of hr (by decide) (by rfl) (pa_cons (pv 1) (pa_cons (pe_lst (pa_cons pe_str (pa_cons pe_str (pa_cons pe_str (pa_cons pe_str (pa_cons pe_str (pa_cons pe_non (pa_cons pe_int (pa_cons pe_bl (pa_cons (pe_lst (pa_cons pe_str pa_nil)) (pa_cons (pe_tup (pa_cons pe_str pa_nil)) (pa_cons pe_str pa_nil)))))))))))) pa_nil))))
      (pss_cons (ps_set (i := 10) sc_law.nd rfl (.inl rfl) (pe_lst (pa_cons (pe_lam0 (T := [(Pt, (envOfC "law" (defScope s_law) 0 f (.ref c)).qual ++ "<lambda>")]) TB rfl (List.mem_singleton.mpr rfl) (fun p hp _ => congrArg Prod.snd (List.mem_singleton.mp hp)) (by rfl) (show lamFree (defScope s_law) _ = true by decide +kernel)) (pa_cons (pe_lam1 (T := [(Pt, (envOfC "law" (defScope s_law) 0 f (.ref c)).qual ++ "<lambda>")]) TB rfl (List.mem_singleton.mpr rfl) (fun p hp _ => congrArg Prod.snd (List.mem_singleton.mp hp)) rfl rfl (show lamFree (defScope s_law) _ = true by decide +kernel)) (pa_cons (pe_lam1 (T := [(Pt, (envOfC "law" (defScope s_law) 0 f (.ref c)).qual ++ "<lambda>")]) TB rfl (List.mem_singleton.mpr rfl) (fun p hp _ => congrArg Prod.snd (List.mem_singleton.mp hp)) rfl rfl (show lamFree (defScope s_law) _ = true by decide +kernel)) (pa_cons (pe_lam1 (T := [(Pt, (envOfC "law" (defScope s_law) 0 f (.ref c)).qual ++ "<lambda>")]) TB rfl (List.mem_singleton.mpr rfl) (fun p hp _ => congrArg Prod.snd (List.mem_singleton.mp hp)) rfl rfl (show lamFree (defScope s_law) _ = true by decide +kernel)) pa_nil))))))
      (pss_cons (ps_set (i := 11) sc_law.nd rfl (.inl rfl) (pe_lst (pa_cons (pe_tup (pa_cons pe_str (pa_cons (pv 5) pa_nil))) (pa_cons (pe_tup (pa_cons pe_str (pa_cons (pv 8) pa_nil))) (pa_cons (pe_tup (pa_cons pe_str (pa_cons (pv 9) pa_nil))) (pa_cons (pe_tup (pa_cons pe_str (pa_cons (pv 8) pa_nil))) pa_nil))))))
      (pss_cons (ps_as (ps_if (pt_not (pt_val (pe_c c__law_same hr (by decide) (by rfl) (pa_cons (pe_tries (cs := [.ref C1, .ref C2, .ref C3]) (k := 8) (kk := 12)
        [ask0 (X := XL P w K mg base f c A outer s H E) (k := 7) (lm ((defBody s_law).getD 9 (.Pass ⟨0, 0, 0, 0⟩)) 0).1 (lm ((defBody s_law).getD 9 (.Pass ⟨0, 0, 0, 0⟩)) 0).2.1 (lm ((defBody s_law).getD 9 (.Pass ⟨0, 0, 0, 0⟩)) 0).2.2 ["_law_spec", "_law_later"] ["_law_spec", "_law_later"] [2, 7] (by decide +kernel) (show NdefX.ndefB (defScope s_law) (lm ((defBody s_law).getD 9 (.Pass ⟨0, 0, 0, 0⟩)) 0).2.2 _ = true by decide +kernel) rfl (fun _ _ _ _ _ _ => by rfl)
            (fun c' dV A outer s H E f hr => (StX.pe_makeR M FBX (hr.mono (by decide)) (by rfl) gB (passes_call (takes_of rfl rfl rfl rfl) (fun _ _ _ _ h => h)) (pa_cons (pe_ix (ix_listE (K := K) rfl) (pv 0) pe_int (fun _ _ => rfl)) (pa_cons (pe_ix (ix_listE (K := K) rfl) (pv 0) pe_int (fun _ _ => rfl)) (pa_cons (pe_ix (ix_listE (K := K) rfl) (pv 1) pe_int (fun _ _ => rfl)) (pa_cons (pe_ix (ix_listE (K := K) rfl) (pv 1) pe_int (fun _ _ => rfl)) (pa_cons (pe_ix (ix_listE (K := K) rfl) (pv 1) pe_int (fun _ _ => rfl)) pa_nil))))))),
          ask1 (X := XL P w K mg base f c A outer s H E) (k := 7) (lm ((defBody s_law).getD 9 (.Pass ⟨0, 0, 0, 0⟩)) 1).1 (lm ((defBody s_law).getD 9 (.Pass ⟨0, 0, 0, 0⟩)) 1).2.1 (lm ((defBody s_law).getD 9 (.Pass ⟨0, 0, 0, 0⟩)) 1).2.2 "_law_one" 0 ["_law_one", "_law_odd", "_law_cold", "_law_later"] ["_law_odd", "_law_cold", "_law_later"] [8, 9, 7] (by decide +kernel) (show NdefX.ndefB (defScope s_law) (lm ((defBody s_law).getD 9 (.Pass ⟨0, 0, 0, 0⟩)) 1).2.2 _ = true by decide +kernel) rfl (fun _ _ _ _ _ _ _ => ⟨_, rfl, fun _ => rfl⟩)
            (fun c' dV A outer s H E f hr => (StX.pe_makeR M FBX (hr.mono (by decide)) (by rfl) gB (passes_call (takes_of rfl rfl rfl rfl) (fun _ _ _ _ h => h)) (pa_cons (pv 1) (pa_cons (pv 2) (pa_cons (pe_ix (ix_listE (K := K) rfl) (pv 3) pe_int (fun _ _ => rfl)) pa_nil))))),
          ask1 (X := XL P w K mg base f c A outer s H E) (k := 7) (lm ((defBody s_law).getD 9 (.Pass ⟨0, 0, 0, 0⟩)) 2).1 (lm ((defBody s_law).getD 9 (.Pass ⟨0, 0, 0, 0⟩)) 2).2.1 (lm ((defBody s_law).getD 9 (.Pass ⟨0, 0, 0, 0⟩)) 2).2.2 "_law_two" 0 ["_law_two", "_law_spec", "_law_cold", "_law_later"] ["_law_spec", "_law_cold", "_law_later"] [2, 9, 7] (by decide +kernel) (show NdefX.ndefB (defScope s_law) (lm ((defBody s_law).getD 9 (.Pass ⟨0, 0, 0, 0⟩)) 2).2.2 _ = true by decide +kernel) rfl (fun _ _ _ _ _ _ _ => ⟨_, rfl, fun _ => rfl⟩)
            (fun c' dV A outer s H E f hr => (StX.pe_makeR M FBX (hr.mono (by decide)) (by rfl) gB (passes_call (takes_of rfl rfl rfl rfl) (fun _ _ _ _ h => h)) (pa_cons (pe_ix (ix_listE (K := K) rfl) (pv 1) pe_int (fun _ _ => rfl)) (pa_cons (pv 2) (pa_cons (pe_ix (ix_listE (K := K) rfl) (pv 3) pe_int (fun _ _ => rfl)) pa_nil))))),
          ask1 (X := XL P w K mg base f c A outer s H E) (k := 7) (lm ((defBody s_law).getD 9 (.Pass ⟨0, 0, 0, 0⟩)) 3).1 (lm ((defBody s_law).getD 9 (.Pass ⟨0, 0, 0, 0⟩)) 3).2.1 (lm ((defBody s_law).getD 9 (.Pass ⟨0, 0, 0, 0⟩)) 3).2.2 "_law_three" 0 ["_law_three", "_law_odd", "_law_spec"] ["_law_odd", "_law_spec"] [8, 2] (by decide +kernel) (show NdefX.ndefB (defScope s_law) (lm ((defBody s_law).getD 9 (.Pass ⟨0, 0, 0, 0⟩)) 3).2.2 _ = true by decide +kernel) rfl (fun _ _ _ _ _ _ _ => ⟨_, rfl, fun _ => rfl⟩)
            (fun c' dV A outer s H E f hr => (StX.pe_makeR M FBX (hr.mono (by decide)) (by rfl) gB (passes_call (takes_of rfl rfl rfl rfl) (fun _ _ _ _ h => h)) (pa_cons (pv 1) (pa_cons (pe_ix (ix_listE (K := K) rfl) (pv 2) pe_int (fun _ _ => rfl)) pa_nil))))]
        (show 4 < sizeLine by decide) (fun _ => rfl) rfl rfl FT (hr.mono (by decide)) (by rfl) mT kT bT (pa_cons (pv 10) pa_nil)) (pa_cons (pv 11) pa_nil))))) (pss_one (ps_ret pe_bl)) pss_nil))
      (pss_cons (ps_asg (pe_tup (pa_cons (pe_ix ix_list (pv 3) pe_int (fun _ _ => rfl)) (pa_cons (pe_ix ix_list (pv 3) pe_int (fun _ _ => rfl)) (pa_cons (pe_ix ix_list (pv 3) pe_int (fun _ _ => rfl)) pa_nil)))) (pg_tup rfl (pgs_cons (pg_name (i := 12) sc_law.nd rfl (.inr rfl)) (pgs_cons (pg_name (i := 13) sc_law.nd rfl (.inr rfl)) (pgs_cons (pg_name (i := 14) sc_law.nd rfl (.inr rfl)) pgs_nil)))))
      (pss_cons (ps_if (pt_cmpR op_ne (pe_callB (cr_lenO hLn hLf FL (hr.mono (by decide)) pass0) (by rfl) T.z_len (by decide +kernel) (pa_cons (StX.pe_makeR M FB (hr.mono (by decide)) (by rfl) gB pass0 (pa_cons (pe_ix ix_list (pv 2) pe_int (fun _ _ => rfl)) (pa_cons (pe_ix ix_list (pv 2) pe_int (fun _ _ => rfl)) (pa_cons (pv 12) (pa_cons (pv 13) (pa_cons (pv 14) (pa_cons (pv 12) (pa_cons (pv 13) (pa_cons (pv 14) (pa_cons (pv 12) (pa_cons (pv 13) pa_nil))))))))))) pa_nil)) pe_int (nomark _)) (pss_one (ps_ret pe_bl)) pss_nil)
      (pss_cons (ps_set (i := 15) sc_law.nd rfl (.inl rfl) (pe_lst (pa_cons (pe_lam0 (T := [(Pt, (envOfC "law" (defScope s_law) 0 f (.ref c)).qual ++ "<lambda>")]) TB rfl (List.mem_singleton.mpr rfl) (fun p hp _ => congrArg Prod.snd (List.mem_singleton.mp hp)) (by rfl) (show lamFree (defScope s_law) _ = true by decide +kernel)) (pa_cons (pe_lam1 (T := [(Pt, (envOfC "law" (defScope s_law) 0 f (.ref c)).qual ++ "<lambda>")]) TB rfl (List.mem_singleton.mpr rfl) (fun p hp _ => congrArg Prod.snd (List.mem_singleton.mp hp)) rfl rfl (show lamFree (defScope s_law) _ = true by decide +kernel)) (pa_cons (pe_lam1 (T := [(Pt, (envOfC "law" (defScope s_law) 0 f (.ref c)).qual ++ "<lambda>")]) TB rfl (List.mem_singleton.mpr rfl) (fun p hp _ => congrArg Prod.snd (List.mem_singleton.mp hp)) rfl rfl (show lamFree (defScope s_law) _ = true by decide +kernel)) pa_nil)))))
      (pss_one (ps_ret (pe_c c__law_same hr (by decide) (by rfl) (pa_cons (pe_tries (cs := [.ref C1, .ref C2, .ref C3]) (k := 8) (kk := 12)
        [ask0 (X := XL P w K mg base f c A outer s H E) (k := 7) (lm ((defBody s_law).getD 14 (.Pass ⟨0, 0, 0, 0⟩)) 0).1 (lm ((defBody s_law).getD 14 (.Pass ⟨0, 0, 0, 0⟩)) 0).2.1 (lm ((defBody s_law).getD 14 (.Pass ⟨0, 0, 0, 0⟩)) 0).2.2 ["_law_spec", "_law_p", "_law_q", "_law_r"] ["_law_spec", "_law_p", "_law_q", "_law_r"] [2, 12, 13, 14] (by decide +kernel) (show NdefX.ndefB (defScope s_law) (lm ((defBody s_law).getD 14 (.Pass ⟨0, 0, 0, 0⟩)) 0).2.2 _ = true by decide +kernel) rfl (fun _ _ _ _ _ _ => by rfl)
            (fun c' dV A outer s H E f hr => (StX.pe_makeR M FBX (hr.mono (by decide)) (by rfl) gB (passes_call (takes_of rfl rfl rfl rfl) (fun _ _ _ _ h => h)) (pa_cons (pe_ix (ix_listE (K := K) rfl) (pv 0) pe_int (fun _ _ => rfl)) (pa_cons (pe_ix (ix_listE (K := K) rfl) (pv 0) pe_int (fun _ _ => rfl)) (pa_cons (pv 1) (pa_cons (pv 2) (pa_cons (pv 3) (pa_cons (pv 1) (pa_cons (pv 2) (pa_cons (pv 3) (pa_cons (pv 1) (pa_cons (pv 2) (pa_cons (pv 3) pa_nil))))))))))))),
          ask1 (X := XL P w K mg base f c A outer s H E) (k := 7) (lm ((defBody s_law).getD 14 (.Pass ⟨0, 0, 0, 0⟩)) 1).1 (lm ((defBody s_law).getD 14 (.Pass ⟨0, 0, 0, 0⟩)) 1).2.1 (lm ((defBody s_law).getD 14 (.Pass ⟨0, 0, 0, 0⟩)) 1).2.2 "_law_one" 0 ["_law_one", "_law_spec", "_law_p", "_law_q", "_law_r", "_law_bad"] ["_law_spec", "_law_p", "_law_q", "_law_r", "_law_bad"] [2, 12, 13, 14, 4] (by decide +kernel) (show NdefX.ndefB (defScope s_law) (lm ((defBody s_law).getD 14 (.Pass ⟨0, 0, 0, 0⟩)) 1).2.2 _ = true by decide +kernel) rfl (fun _ _ _ _ _ _ _ => ⟨_, rfl, fun _ => rfl⟩)
            (fun c' dV A outer s H E f hr => (StX.pe_makeR M FBX (hr.mono (by decide)) (by rfl) gB (passes_call (takes_of rfl rfl rfl rfl) (fun _ _ _ _ h => h)) (pa_cons (pe_ix (ix_listE (K := K) rfl) (pv 1) pe_int (fun _ _ => rfl)) (pa_cons (pe_ix (ix_listE (K := K) rfl) (pv 1) pe_int (fun _ _ => rfl)) (pa_cons (pv 2) (pa_cons (pv 3) (pa_cons (pv 4) (pa_cons (pv 2) (pa_cons (pv 3) (pa_cons (pv 4) (pa_cons (pv 2) (pa_cons (pv 3) (pa_cons (pv 5) pa_nil))))))))))))),
          ask1 (X := XL P w K mg base f c A outer s H E) (k := 7) (lm ((defBody s_law).getD 14 (.Pass ⟨0, 0, 0, 0⟩)) 2).1 (lm ((defBody s_law).getD 14 (.Pass ⟨0, 0, 0, 0⟩)) 2).2.1 (lm ((defBody s_law).getD 14 (.Pass ⟨0, 0, 0, 0⟩)) 2).2.2 "_law_two" 0 ["_law_two", "_law_spec", "_law_p", "_law_q", "_law_r", "_law_bad"] ["_law_spec", "_law_p", "_law_q", "_law_r", "_law_bad"] [2, 12, 13, 14, 4] (by decide +kernel) (show NdefX.ndefB (defScope s_law) (lm ((defBody s_law).getD 14 (.Pass ⟨0, 0, 0, 0⟩)) 2).2.2 _ = true by decide +kernel) rfl (fun _ _ _ _ _ _ _ => ⟨_, rfl, fun _ => rfl⟩)
            (fun c' dV A outer s H E f hr => (StX.pe_makeR M FBX (hr.mono (by decide)) (by rfl) gB (passes_call (takes_of rfl rfl rfl rfl) (fun _ _ _ _ h => h)) (pa_cons (pe_ix (ix_listE (K := K) rfl) (pv 1) pe_int (fun _ _ => rfl)) (pa_cons (pe_ix (ix_listE (K := K) rfl) (pv 1) pe_int (fun _ _ => rfl)) (pa_cons (pv 2) (pa_cons (pv 3) (pa_cons (pv 4) (pa_cons (pv 2) (pa_cons (pv 3) (pa_cons (pv 4) (pa_cons (pv 2) (pa_cons (pv 5) (pa_cons (pv 4) pa_nil)))))))))))))]
        (show 3 < sizeLine by decide) (fun _ => rfl) rfl rfl FT (hr.mono (by decide)) (by rfl) mT kT bT (pa_cons (pv 15) pa_nil)) (pa_cons (pe_lst (pa_cons (pe_tup (pa_cons pe_str (pa_cons pe_int pa_nil))) (pa_cons (pe_tup (pa_cons pe_str (pa_cons pe_int pa_nil))) (pa_cons (pe_tup (pa_cons pe_str (pa_cons pe_int pa_nil))) pa_nil)))) pa_nil)))))))))))))))))))), ?_⟩
  refine ⟨_, rfl, a, ns, rfl, hS, hlen, fun H1 b l nb nl s1 B1 => ?_⟩
  have hPb : Pt ≠ b := ne_of_none hP nb
  have hP1 := s1 _ _ hP
  refine ⟨_, rfl, (show 3 ≤ sizeLine by decide), fun p1 n1 => ⟨b, l, p1, 6, 4, 3, rfl, B1.same (same_upd n1), B1.ne n1, SqL.of upd_same, by decide, by decide, by decide, by decide, by decide, fun H2 p lp F C ls ok lF lC lz b2 B2 np nlp hs => ?_⟩⟩
  have hP2 := b2 _ _ hPb (same_upd n1 _ _ hP1)
  clear hP1 b2 B1 n1 s1 np nlp hS
  have lF6 := ok.f6
  have lC4 := ok.c4
  have bf := ok.bf
  have bc := ok.bc
  -- three right lines
  refine ⟨_, rfl, p, _, _, _, rfl, rfl, SqL.of hs.top, rfl, (show 6 ≤ sizeLine by decide), fun t nt => ?_⟩
  have y1 := same_upd (o := HO.tup [V.str ".", V.str ".", V.str ".", V.str ".", V.str ".", V.str ""]) nt
  refine ⟨(show 1 ≤ sizeLine by decide), fun m nm => ?_⟩
  have y2 := same_upd (o := HO.lst [V.ref t]) nm
  refine ⟨m, 3, [V.ref t], rfl, rfl, upd_same, by decide, by decide, (show 3 ≤ sizeLine by decide), fun m2 nm2 => ?_⟩
  rw [show (List.replicate (3 : Int).toNat [V.ref t]).flatten = [V.ref t, .ref t, .ref t] from rfl]
  have y3 := same_upd (o := HO.lst [V.ref t, .ref t, .ref t]) nm2
  have y13 := y1.trans (y2.trans y3)
  refine ⟨lp, m2, _, _, rfl, rfl, y13 _ _ hs.rows, upd_same, by rw [List.length_map]; exact Nat.le_of_lt (sz1 (by show ls.length + 3 ≤ 100000; omega)), fun m3 nm3 => ?_⟩
  have y4 := same_upd (o := HO.lst ((ls.map fun r => V.ref r.1) ++ [V.ref t, .ref t, .ref t])) nm3
  refine ⟨3, rfl, m3, _, rfl, SqL.of upd_same, fun rt nrt => ?_⟩
  obtain ⟨R, hR⟩ : ∃ R : List LineV, R = (ls ++ [(t, wDotB), (t, wDotB), (t, wDotB)]).take 3 := ⟨_, rfl⟩
  rw [show cutV ((ls.map fun r => V.ref r.1) ++ [V.ref t, .ref t, .ref t]) none (some 3) = R.map fun r => V.ref r.1 from by
    rw [hR, List.map_take, List.map_append]
    exact cutV_to (k := 3)]
  have y5 := same_upd (o := HO.lst (R.map fun r => V.ref r.1)) nrt
  have y45 := y13.trans (y4.trans y5)
  have tb : t ≠ b := B2.ne nt
  have hR3 : R.length = 3 := by
    rw [hR, List.length_take, List.length_append]
    show min 3 (ls.length + 3) = 3
    omega
  have hRA : RightAt b (upd (upd (upd (upd (upd H2 t (.tup [V.str ".", V.str ".", V.str ".", V.str ".", V.str ".", V.str ""])) m (.lst [V.ref t])) m2 (.lst [V.ref t, .ref t, .ref t])) m3 (.lst ((ls.map fun r => V.ref r.1) ++ [V.ref t, .ref t, .ref t]))) rt (.lst (R.map fun r => V.ref r.1))) F C R := by
    intro r hr
    rw [hR] at hr
    rcases List.mem_append.mp (List.mem_of_mem_take hr) with h | h
    · exact ⟨y45 _ _ (hs.at_ r h), hs.rb r h, (ok.w6 r h).ln, (ok.w6 r h).ok⟩
    · simp only [List.mem_cons, List.not_mem_nil, or_false, or_self] at h
      rw [h]
      exact ⟨(y2.trans (y3.trans (y4.trans y5))) _ _ upd_same, tb, wDotB_ok F C⟩
  have hrt : (upd (upd (upd (upd (upd H2 t (.tup [V.str ".", V.str ".", V.str ".", V.str ".", V.str ".", V.str ""])) m (.lst [V.ref t])) m2 (.lst [V.ref t, .ref t, .ref t])) m3 (.lst ((ls.map fun r => V.ref r.1) ++ [V.ref t, .ref t, .ref t]))) rt (.lst (R.map fun r => V.ref r.1))) rt = some (.lst (R.map fun r => V.ref r.1)) := upd_same
  have rtb : rt ≠ b := (B2.same (y13.trans y4)).ne nrt
  have hs3 := hs.same y45
  have B3 := B2.same y45
  have hP3 := y45 _ _ hP2
  refine (show gName 3 (V.ref rt) _ (upd (upd (upd (upd (upd H2 t (.tup [V.str ".", V.str ".", V.str ".", V.str ".", V.str ".", V.str ""])) m (.lst [V.ref t])) m2 (.lst [V.ref t, .ref t, .ref t])) m3 (.lst ((ls.map fun r => V.ref r.1) ++ [V.ref t, .ref t, .ref t]))) rt (.lst (R.map fun r => V.ref r.1))) _ from ?_)
  generalize upd (upd (upd (upd (upd H2 t (.tup [V.str ".", V.str ".", V.str ".", V.str ".", V.str ".", V.str ""])) m (.lst [V.ref t])) m2 (.lst [V.ref t, .ref t, .ref t])) m3 (.lst ((ls.map fun r => V.ref r.1) ++ [V.ref t, .ref t, .ref t]))) rt (.lst (R.map fun r => V.ref r.1)) = H3 at hRA hrt hs3 B3 hP3 ⊢
  clear y1 y2 y3 y13 y4 y5 y45 nt nm nm2 nm3 nrt tb hs B2 hP2 hR
  have hRl : ∀ r ∈ R, True := fun _ _ => trivial
  -- a wrong one
  refine ⟨_, rfl, _, rfl, p, lp, b, F, C, ls, (fun c => c = b), rfl, hs3, ok, exAt_b B3, fun H4 bl xs s4 nbl hbl x0 x100 hall => ?_⟩
  refine ⟨b, l, .ref bl, xs, rfl, B3.same s4, .inl ⟨bl, B3.ne nbl, rfl, SqL.of hbl⟩, x0, by omega, fun H5 bad hbad b5 B5 => ?_⟩
  have dbad := (hall bad hbad).drawn rfl b5
  have b35 := s4.but.trans b5
  refine ⟨_, rfl, b, l, 3, rfl, B5, by decide, by decide, fun H6 z z0 z1 b6 B6 => ?_⟩
  obtain ⟨k, rfl⟩ : ∃ k : Nat, z = k := ⟨z.toNat, by omega⟩
  have k3 : k < 3 := by omega
  have b36 := b35.trans b6
  refine ⟨(show 2 ≤ sizeLine by decide), fun pt npt => ⟨pt, _, rfl, SqT.of upd_same, rfl, _, _, rfl, _, _, rfl, rfl, ?_⟩⟩
  have st := same_upd (o := HO.tup [bad, V.int (k : Int)]) npt
  have hs7 := (hs3.drawn b36).same st
  have hRA7 := (hRA.drawn b36).same st
  have hrt7 := st _ _ (b36 _ _ rtb hrt)
  have hP7 := st _ _ (b36 _ _ hPb hP3)
  have B7 := B6.same st
  have dbad7 := (dbad.drawn rfl b6).same st
  generalize upd H6 pt (.tup [bad, V.int (k : Int)]) = H7 at hs7 hRA7 hrt7 hP7 B7 dbad7 ⊢
  clear st npt hs3 hRA hrt hP3 B3 B5 B6 dbad b35 b36 b5 b6 s4 nbl hbl hall hbad z0 z1 x0 x100
  -- the rows
  refine ⟨_, rfl, _, rfl, (k : Int), rfl, rt, _, rfl, SqL.of hrt7, fun m1 nm1 => ?_⟩
  rw [show cutV (R.map fun r => V.ref r.1) none (some (k : Int)) = (R.take k).map fun r => V.ref r.1 from by rw [cutV_to, List.map_take]]
  have y1 := same_upd (o := HO.lst ((R.take k).map fun r => V.ref r.1)) nm1
  refine ⟨_, rfl, (show 1 ≤ sizeLine by decide), fun m2 nm2 => ?_⟩
  have y2 := same_upd (o := HO.lst [bad]) nm2
  have ltk : (R.take k).length = k := by
    rw [List.length_take]
    omega
  refine ⟨m1, m2, _, _, rfl, rfl, y2 _ _ upd_same, upd_same, by rw [List.length_map, ltk]; exact Nat.le_of_lt (sz1 (by show k + 1 ≤ 100000; omega)), fun m3 nm3 => ?_⟩
  have y3 := same_upd (o := HO.lst (((R.take k).map fun r => V.ref r.1) ++ [bad])) nm3
  have y13 := y1.trans (y2.trans y3)
  refine ⟨_, rfl, _, rfl, _, _, rfl, rfl, (k : Int) + 1, rfl, rt, _, rfl, SqL.of (y13 _ _ hrt7), fun m4 nm4 => ?_⟩
  rw [show cutV (R.map fun r => V.ref r.1) (some ((k : Int) + 1)) none = (R.drop (k + 1)).map fun r => V.ref r.1 from by
    rw [show ((k : Int) + 1) = ((k + 1 : Nat) : Int) from rfl, cutV_fromB (by rw [List.length_map]; omega), List.map_drop]]
  have y4 := same_upd (o := HO.lst ((R.drop (k + 1)).map fun r => V.ref r.1)) nm4
  refine ⟨m3, m4, _, _, rfl, rfl, y4 _ _ upd_same, upd_same, by rw [List.length_append, List.length_map, List.length_map, ltk, List.length_drop]; exact Nat.le_of_lt (sz1 (by show k + 1 + (R.length - (k + 1)) ≤ 100000; omega)), fun rw_ nrw => ?_⟩
  rw [List.append_assoc]
  obtain ⟨xs3, hxs⟩ : ∃ xs3 : List V, xs3 = ((R.take k).map fun r => V.ref r.1) ++ ([bad] ++ (R.drop (k + 1)).map fun r => V.ref r.1) := ⟨_, rfl⟩
  have hx3 : xs3.length = 3 := by
    rw [hxs, List.length_append, List.length_append, List.length_map, List.length_map, ltk, List.length_drop]
    show k + (1 + (R.length - (k + 1))) = 3
    omega
  rw [← hxs]
  have y5 := same_upd (o := HO.lst xs3) nrw
  have y15 := y13.trans (y4.trans y5)
  have hs8 := hs7.same y15
  have hRA8 := hRA7.same y15
  have hrt8 := y15 _ _ hrt7
  have hP8 := y15 _ _ hP7
  have B8 := B7.same y15
  have dbad8 := dbad7.same y15
  have hrw8 : (upd (upd (upd (upd (upd H7 m1 (.lst ((R.take k).map fun r => V.ref r.1))) m2 (.lst [bad])) m3 (.lst (((R.take k).map fun r => V.ref r.1) ++ [bad]))) m4 (.lst ((R.drop (k + 1)).map fun r => V.ref r.1))) rw_ (.lst xs3)) rw_ = some (.lst xs3) := upd_same
  have rwb : rw_ ≠ b := (B7.same (y13.trans y4)).ne nrw
  generalize upd (upd (upd (upd (upd H7 m1 (.lst ((R.take k).map fun r => V.ref r.1))) m2 (.lst [bad])) m3 (.lst (((R.take k).map fun r => V.ref r.1) ++ [bad]))) m4 (.lst ((R.drop (k + 1)).map fun r => V.ref r.1))) rw_ (.lst xs3) = H8 at hs8 hRA8 hrt8 hP8 B8 dbad8 hrw8 ⊢
  clear y1 y2 y3 y13 y4 y5 y15 nm1 nm2 nm3 nm4 nrw hs7 hRA7 hrt7 hP7 B7 dbad7
  obtain ⟨v0, v1, v2, hv3⟩ := len3 hx3
  have exs : [v0, v1, v2] = ((R.take k).map fun r => V.ref r.1) ++ bad :: ((R.drop (k + 1)).map fun r => V.ref r.1) := hv3.symm.trans hxs
  -- the wrong one refused
  refine ⟨fun p' hp' => by rw [List.mem_singleton.mp hp']; exact LamX.TabS.nil hP8, fun H9 e9 T9 => ?_⟩
  have hs9 := hs8.ext e9
  have hRA9 := hRA8.ext e9
  have hrt9 := e9 _ _ hrt8 (fun _ z => by cases z)
  have hrw9 := e9 _ _ hrw8 (fun _ z => by cases z)
  have B9 := B8.ext e9
  have dbad9 := dbad8.ext e9
  clear hs8 hRA8 hrt8 hP8 B8 dbad8 hrw8 e9
  have hrv : H9 rw_ = some (.lst [v0, v1, v2]) := by rw [hrw9, hv3]
  have hTt : RightAt b H9 F C (R.take k) := fun r hr => hRA9 r (List.mem_of_mem_take hr)
  refine ⟨_, rfl, p, _, _, _, rfl, rfl, SqL.of hs9.top, rfl, _, rfl, p, _, _, _, rfl, rfl, SqL.of hs9.top, rfl, _, rfl, rw_, _, _, _, rfl, rfl, SqL.of hrv, rfl, _, rfl, rw_, _, _, _, rfl, rfl, SqL.of hrv, rfl, _, rfl, rw_, _, _, _, rfl, rfl, SqL.of hrv, rfl, fun x dx nx ndx _ => ?_⟩
  have kp := made_keep (o1 := HO.own x) (o2 := HO.ins CB dx []) nx ndx
  refine book_refused bf bc (by omega) (by omega) (hTt.same kp) (by omega) (.inr (dbad9.same kp)) exs (show 3 ≤ 100 by decide) fun H10 d10 s10 nd10 => ⟨TL.hex, fun a6 na6 => ⟨_, _, TL.caught nd10 na6, fun H11 s11' p11 np11 => ?_⟩⟩
  have s11 := (same_upd nd10).trans ((same_upd na6).trans s11')
  rw [ltk]
  have u1 := kp.trans (s10.trans s11)
  have st1 := same_upd (o := HO.tup [V.str "InvalidLine", V.int (k : Int)]) np11
  refine ⟨_, rfl, (show 2 ≤ sizeLine by decide), fun t2 nt2 => ?_⟩
  have st2 := same_upd (o := HO.tup [V.str "InvalidLine", V.int (k : Int)]) nt2
  refine ⟨_, _, .tuple [.str "InvalidLine", .int (k : Int)], rfl, .tup (SqT.of (st2 _ _ upd_same)) (.cons (.str _) (.cons (.int _) .nil)), .tup (SqT.of upd_same) (.cons (.str _) (.cons (.int _) .nil)), dTI _ _ deep_int, fun H12 s12 => ⟨_, rfl, iteF ?_⟩⟩
  have u12 := u1.trans (st1.trans (st2.trans s12))
  have hs12 := hs9.same u12
  have hRA12 := hRA9.same u12
  have hrt12 := u12 _ _ hrt9
  have hrw12 := u12 _ _ hrv
  have B12 := B9.same u12
  have T12 := T9.ext u12
  have dbad12 := dbad9.same u12
  clear u12 s12 st2 nt2 st1 u1 np11 s11 nd10 s10 kp nx ndx hs9 hRA9 hrt9 hrw9 hrv B9 T9 dbad9 hTt hxs hx3 hv3
  -- later ones wrong too
  have hms : ∀ {H' : Hp}, But b H12 H' → SqL K H' rw_ [v0, v1, v2] := fun s => SqL.of (s _ _ rwb hrw12)
  refine ⟨_, rfl, .ref rw_, [v0, v1, v2], rfl, .l (SqL.of hrw12), fun kk ev src => fun D nD => ?_⟩
  have Db : D ≠ b := B12.ne nD
  have Dl : D ≠ l := B12.ne2 nD
  have stay : ∀ H', But b H12 H' → kk.src K H' [v0, v1, v2] := fun H' s => by
    cases kk with
    | l a => cases ev; exact SqL.of (s _ _ rwb hrw12)
    | t a =>
      cases ev
      rcases src with (h | ⟨o, h⟩) | h
      · rw [hrw12] at h
        cases h
      · rw [hrw12] at h
        cases h
      · exact .inr h
    | s z t => cases ev
  refine lc_it walk_enumG (fun i H' => But b H12 H' ∧ Bag H' b l ∧ ∃ ws : List V, H' D = some (.lst ([v0, v1, v2].take (min i k) ++ ws)) ∧ ws.length = i - min i k ∧ ∀ w ∈ ws, BadD K (fun c => c = b ∨ c = D) H' w F C) ⟨(same_upd nD).but, B12.same (same_upd nD), [], upd_same, by simp, fun _ h => nomatch h⟩ (fun i H' _ pv => stay H' pv.1) ?_ ?_
  · rintro i v H2 H3 hi ⟨b2, B2, ws, hD', hws, hbw⟩ ⟨T', a1, b1', rfl, nT, rfl, hx1', hy1⟩
    obtain rfl : V.int (i : Nat) = a1 := Option.some.inj hx1'
    have hy2 : [v0, v1, v2][i]? = some b1' := hy1
    have hi3 : i < 3 := hi
    have sT := same_upd (o := HO.tup [V.int (i : Nat), b1']) nT
    have hD3 := sT _ _ hD'
    refine ⟨T', _, rfl, SqT.of upd_same, rfl, _, _, rfl, _, [], rfl, rfl, rfl, ?_⟩
    refine ⟨_, rfl, _, rfl, _, _, rfl, rfl, _, rfl, ite_dec (fun hlt => ?_) (fun hge => ?_)⟩
    · have hlt' : i < k := by
        have h : ((i : Nat) : Int) < (k : Int) := hlt
        omega
      have m1 : min i k = i := by omega
      have m2 : min (i + 1) k = i + 1 := by omega
      have hw0 : ws = [] := List.eq_nil_of_length_eq_zero (by omega)
      subst hw0
      refine ⟨_, rfl, _, hD3, by rw [List.length_append, List.length_take]; exact sz1 (Nat.le_trans (Nat.add_le_add (Nat.min_le_right _ _) (Nat.le_refl _)) (show 3 ≤ 100000 by decide)), (fun c o n e => (upd_ne (ne_of_none e nD)).trans (sT _ _ (b2 c o n e))), (B2.same sT).upd Db Dl, [], ?_, by rw [m2]; simp, fun _ h => nomatch h⟩
      rw [upd_same, m1, m2, List.append_nil, List.append_nil, List.take_add_one, hy2]
      rfl
    · have hge' : k ≤ i := by
        have h : ¬ ((i : Nat) : Int) < (k : Int) := hge
        omega
      have m1 : min i k = k := by omega
      have m2 : min (i + 1) k = k := by omega
      have b3 := b2.trans sT.but
      refine ⟨_, rfl, _, rfl, p, lp, b, F, C, ls, (fun c => c = b ∨ c = D), rfl, hs12.drawn b3, ok, exAt_bD (B2.same sT) hD3, fun H4 bl xs s4 nbl hbl x0 x100 hall => ?_⟩
      refine ⟨b, l, .ref bl, xs, rfl, (B2.same sT).same s4, .inl ⟨bl, (B2.same sT).ne nbl, rfl, SqL.of hbl⟩, x0, by omega, fun H5 w hw b5 B5 => ?_⟩
      have b45 := (sT.trans s4).but.trans b5
      refine ⟨_, b45 _ _ Db hD', by rw [List.length_append, List.length_take, hws]; exact sz1 (Nat.le_trans (Nat.add_le_add (Nat.min_le_right _ _) (Nat.sub_le _ _)) (show 3 + i ≤ 100000 by omega)), (fun c o n e => (upd_ne (ne_of_none e nD)).trans (b45 c o n (b2 c o n e))), B5.upd Db Dl, ws ++ [w], ?_, by rw [List.length_append, hws, m1, m2]; show i - k + 1 = i + 1 - k; omega, fun w' hw' => ?_⟩
      · rw [upd_same, m1, m2, List.append_assoc]
      · rcases List.mem_append.mp hw' with h | h
        · exact upd_bad ((hbw w' h).drawn (.inl rfl) b45)
        · rw [List.mem_singleton.mp h]
          exact upd_bad ((hall w hw).drawn (.inl rfl) b5)
  rintro H13 ⟨b13, B13, ws, hD13, hws, hbw⟩
  have mk : min [v0, v1, v2].length k = k := by
    show min 3 k = k
    omega
  rw [mk] at hD13 hws
  have etk : [v0, v1, v2].take k = (R.take k).map fun r => V.ref r.1 := by
    rw [exs]
    exact List.take_left' (by rw [List.length_map, ltk])
  rw [etk] at hD13
  obtain ⟨w0, wr, rfl⟩ : ∃ w0 wr, ws = w0 :: wr := by
    cases ws with
    | nil =>
      have h : 0 = 3 - k := hws
      omega
    | cons w0 wr => exact ⟨w0, wr, rfl⟩
  have dw0 : BadD K (fun c => c = b) H13 w0 F C := (hbw w0 List.mem_cons_self).mono fun c e => .inl e
  obtain ⟨l0, l1, l2, hl3⟩ := len3 (l := ((R.take k).map fun r => V.ref r.1) ++ w0 :: wr) (by
    have h : wr.length + 1 = 3 - k := hws
    rw [List.length_append, List.length_map, ltk, List.length_cons]
    omega)
  have exl : [l0, l1, l2] = ((R.take k).map fun r => V.ref r.1) ++ w0 :: wr := hl3.symm
  rw [hl3] at hD13
  have hs13 := hs12.drawn b13
  have hRA13 := hRA12.drawn b13
  have hrt13 := b13 _ _ rtb hrt12
  have T13 := tabs_drawn T12 B12 b13
  have dbad13 := dbad12.drawn rfl b13
  clear hs12 hRA12 hrt12 T12 B12 dbad12 b13 hbw hws stay src ev kk hms hrw12 nD etk mk hl3
  -- odd faces
  refine ⟨_, rfl, (show 1 ≤ sizeLine by decide), fun p1 n1 => ?_⟩
  have u1 := same_upd (o := HO.lst [V.str "a"]) n1
  refine ⟨(show 1 ≤ sizeLine by decide), fun p2 n2 => ?_⟩
  have u2 := same_upd (o := HO.tup [V.str "a"]) n2
  have u12 := u1.trans u2
  have D1 := B13.same u1
  have D2 := D1.same u2
  have p1b := B13.ne n1
  have p2b := D1.ne n2
  refine ⟨(show 11 ≤ sizeLine by decide), fun p3 n3 => ⟨b, l, .ref p3, _, rfl, D2.same (same_upd n3), .inl ⟨p3, D2.ne n3, rfl, SqL.of upd_same⟩, Nat.succ_pos _, (show 11 ≤ 100000 by decide), fun H14 odd hv b14 B14 => ?_⟩⟩
  obtain ⟨dodd, od, hodd⟩ : ∃ d, OddD K b H14 odd d ∧ bFaces odd = false := by
    have h1 : H14 p1 = some (.lst [V.str "a"]) := b14 _ _ p1b (same_upd n3 _ _ (u2 _ _ upd_same))
    have h2 : H14 p2 = some (.tup [V.str "a"]) := b14 _ _ p2b (same_upd n3 _ _ upd_same)
    simp only [List.mem_cons, List.not_mem_nil, or_false] at hv
    rcases hv with rfl | rfl | rfl | rfl | rfl | rfl | rfl | rfl | rfl | rfl | rfl
    · exact ⟨_, oddD_of fun _ => oddX_str (by decide), by decide +kernel⟩
    · exact ⟨_, oddD_of fun _ => oddX_str (by decide), by decide +kernel⟩
    · exact ⟨_, oddD_of fun _ => oddX_str (by decide), by decide +kernel⟩
    · exact ⟨_, oddD_of fun _ => oddX_str (by decide), by decide +kernel⟩
    · exact ⟨_, oddD_of fun _ => oddX_str (by decide), by decide +kernel⟩
    · exact ⟨_, oddD_of fun _ => oddX_non, rfl⟩
    · exact ⟨_, oddD_of fun _ => oddX_int _, rfl⟩
    · exact ⟨_, oddD_of fun _ => oddX_bl _, rfl⟩
    · exact ⟨_, oddD_lstF _ rfl p1b h1 (show 1 ≤ 100 by decide), rfl⟩
    · exact ⟨_, oddD_tupF _ rfl p2b h2 (show 1 ≤ 100 by decide), rfl⟩
    · exact ⟨_, oddD_of fun _ => oddX_str (by decide), by decide +kernel⟩
  have u13 := fun {o : HO} => u12.trans (same_upd (o := o) n3)
  have b1314 : But b H13 H14 := (u12.trans (same_upd n3)).but.trans b14
  have hs14 := hs13.drawn b1314
  have hRA14 := hRA13.drawn b1314
  have hrt14 := b1314 _ _ rtb hrt13
  have hD14 := b1314 _ _ Db hD13
  have T14 := tabs_drawn T13 B13 b1314
  have dbad14 := dbad13.drawn rfl b1314
  have dw14 := dw0.drawn rfl b1314
  clear hs13 hRA13 hrt13 hD13 T13 B13 dbad13 dw0 b1314 b14 u13 u1 u2 u12 D1 D2 p1b p2b n1 n2 n3 hv
  -- odd cutters
  refine ⟨_, rfl, (show 1 ≤ sizeLine by decide), fun p1 n1 => ?_⟩
  have u1 := same_upd (o := HO.lst [V.str "A"]) n1
  refine ⟨(show 1 ≤ sizeLine by decide), fun p2 n2 => ?_⟩
  have u2 := same_upd (o := HO.tup [V.str "A"]) n2
  have u12 := u1.trans u2
  have D1 := B14.same u1
  have D2 := D1.same u2
  have p1b := B14.ne n1
  have p2b := D1.ne n2
  refine ⟨(show 11 ≤ sizeLine by decide), fun p3 n3 => ⟨b, l, .ref p3, _, rfl, D2.same (same_upd n3), .inl ⟨p3, D2.ne n3, rfl, SqL.of upd_same⟩, Nat.succ_pos _, (show 11 ≤ 100000 by decide), fun H15 cold hv b15 B15 => ?_⟩⟩
  obtain ⟨dcold, oc, hcold⟩ : ∃ d, OddD K b H15 cold d ∧ bCutters cold = false := by
    have h1 : H15 p1 = some (.lst [V.str "A"]) := b15 _ _ p1b (same_upd n3 _ _ (u2 _ _ upd_same))
    have h2 : H15 p2 = some (.tup [V.str "A"]) := b15 _ _ p2b (same_upd n3 _ _ upd_same)
    simp only [List.mem_cons, List.not_mem_nil, or_false] at hv
    rcases hv with rfl | rfl | rfl | rfl | rfl | rfl | rfl | rfl | rfl | rfl | rfl
    · exact ⟨_, oddD_of fun _ => oddX_str (by decide), by decide +kernel⟩
    · exact ⟨_, oddD_of fun _ => oddX_str (by decide), by decide +kernel⟩
    · exact ⟨_, oddD_of fun _ => oddX_str (by decide), by decide +kernel⟩
    · exact ⟨_, oddD_of fun _ => oddX_str (by decide), by decide +kernel⟩
    · exact ⟨_, oddD_of fun _ => oddX_str (by decide), by decide +kernel⟩
    · exact ⟨_, oddD_of fun _ => oddX_non, rfl⟩
    · exact ⟨_, oddD_of fun _ => oddX_int _, rfl⟩
    · exact ⟨_, oddD_of fun _ => oddX_bl _, rfl⟩
    · exact ⟨_, oddD_lstF _ rfl p1b h1 (show 1 ≤ 100 by decide), rfl⟩
    · exact ⟨_, oddD_tupF _ rfl p2b h2 (show 1 ≤ 100 by decide), rfl⟩
    · exact ⟨_, oddD_of fun _ => oddX_str (by decide), by decide +kernel⟩
  have b1415 : But b H14 H15 := (u12.trans (same_upd n3)).but.trans b15
  have hs15 := hs14.drawn b1415
  have hRA15 := hRA14.drawn b1415
  have hrt15 := b1415 _ _ rtb hrt14
  have hD15 := b1415 _ _ Db hD14
  have T15 := tabs_drawn T14 B14 b1415
  have dbad15 := dbad14.drawn rfl b1415
  have dw15 := dw14.drawn rfl b1415
  have od15 := (od.drawn b1415).now
  replace oc := oc.now
  clear hs14 hRA14 hrt14 hD14 T14 B14 dbad14 dw14 b1415 b15 u1 u2 u12 D1 D2 p1b p2b n1 n2 n3 hv od
  -- four lambdas
  refine ⟨T15, fun f1 c1 v1 G1 e1 T1 m1 la1 => ?_⟩
  refine ⟨T1, fun f2 c2 v2 G2 e2 T2 m2 la2 => ?_⟩
  refine ⟨T2, fun f3 c3 v3 G3 e3 T3 m3 la3 => ?_⟩
  refine ⟨T3, fun f4 c4 v4 G4 e4 T4 m4 la4 => ?_⟩
  have ex := e1.trans (e2.trans (e3.trans e4))
  replace la1 := (((la1.ext e2).ext e3).ext e4)
  replace la2 := ((la2.ext e3).ext e4)
  replace la3 := (la3.ext e4)
  replace hs15 := hs15.ext ex
  replace hRA15 := hRA15.ext ex
  replace hrt15 := ex _ _ hrt15 (fun _ z => by cases z)
  replace hD15 := ex _ _ hD15 (fun _ z => by cases z)
  replace dbad15 := dbad15.ext ex
  replace dw15 := dw15.ext ex
  replace od15 := od15.ext ex
  replace oc := oc.ext ex
  clear ex e1 e2 e3 e4 T1 T2 T3 m1 m2 m3 m4 T15 B15
  refine ⟨(show 4 ≤ sizeLine by decide), fun l7 nl7 => ?_⟩
  have sl := same_upd (o := HO.lst [V.ref f1, .ref f2, .ref f3, .ref f4]) nl7
  have hl7 : (upd G4 l7 (.lst [V.ref f1, .ref f2, .ref f3, .ref f4])) l7 = some (.lst ([f1, f2, f3, f4].map V.ref)) := upd_same
  -- what is due
  refine ⟨_, rfl, (show 2 ≤ sizeLine by decide), fun t1 nt1 => ?_⟩
  have w1 := same_upd (o := HO.tup [V.str "InvalidLine", V.int (k : Int)]) nt1
  refine ⟨_, rfl, (show 2 ≤ sizeLine by decide), fun t2 nt2 => ?_⟩
  have w2 := same_upd (o := HO.tup [V.str "InvalidFaces", odd]) nt2
  refine ⟨_, rfl, (show 2 ≤ sizeLine by decide), fun t3 nt3 => ?_⟩
  have w3 := same_upd (o := HO.tup [V.str "InvalidCutters", cold]) nt3
  refine ⟨_, rfl, (show 2 ≤ sizeLine by decide), fun t4 nt4 => ?_⟩
  have w4 := same_upd (o := HO.tup [V.str "InvalidFaces", odd]) nt4
  refine ⟨(show 4 ≤ sizeLine by decide), fun dl ndl => ?_⟩
  have w5 := same_upd (o := HO.lst [V.ref t1, .ref t2, .ref t3, .ref t4]) ndl
  have w15 := sl.trans (w1.trans (w2.trans (w3.trans (w4.trans w5))))
  have hdue : Dp K (upd (upd (upd (upd (upd (upd G4 l7 (.lst [V.ref f1, .ref f2, .ref f3, .ref f4])) t1 (.tup [V.str "InvalidLine", V.int (k : Int)])) t2 (.tup [V.str "InvalidFaces", odd])) t3 (.tup [V.str "InvalidCutters", cold])) t4 (.tup [V.str "InvalidFaces", odd])) dl (.lst [V.ref t1, .ref t2, .ref t3, .ref t4])) (.ref dl)
      (.list [.tuple [.str "InvalidLine", .int (k : Int)], .tuple [.str "InvalidFaces", dodd], .tuple [.str "InvalidCutters", dcold], .tuple [.str "InvalidFaces", dodd]]) :=
    .lst (SqL.of upd_same) (.cons (.tup (SqT.of ((w2.trans (w3.trans (w4.trans w5))) _ _ upd_same)) (.cons (.str _) (.cons (.int _) .nil))) (.cons (.tup (SqT.of ((w3.trans (w4.trans w5)) _ _ upd_same)) (.cons (.str _) (.cons (od15.same w15).dp .nil))) (.cons (.tup (SqT.of ((w4.trans w5) _ _ upd_same)) (.cons (.str _) (.cons (oc.same w15).dp .nil))) (.cons (.tup (SqT.of (w5 _ _ upd_same)) (.cons (.str _) (.cons (od15.same w15).dp .nil))) .nil))))
  replace hl7 := (w1.trans (w2.trans (w3.trans (w4.trans w5)))) _ _ hl7
  replace la1 := la1.same w15
  replace la2 := la2.same w15
  replace la3 := la3.same w15
  replace la4 := la4.same w15
  replace hs15 := hs15.same w15
  replace hRA15 := hRA15.same w15
  replace hrt15 := w15 _ _ hrt15
  replace hD15 := w15 _ _ hD15
  replace dbad15 := dbad15.same w15
  replace dw15 := dw15.same w15
  replace od15 := od15.same w15
  replace oc := oc.same w15
  replace T4 := T4.ext w15
  generalize upd (upd (upd (upd (upd (upd G4 l7 (.lst [V.ref f1, .ref f2, .ref f3, .ref f4])) t1 (.tup [V.str "InvalidLine", V.int (k : Int)])) t2 (.tup [V.str "InvalidFaces", odd])) t3 (.tup [V.str "InvalidCutters", cold])) t4 (.tup [V.str "InvalidFaces", odd])) dl (.lst [V.ref t1, .ref t2, .ref t3, .ref t4]) = G5 at hdue hl7 la1 la2 la3 la4 hs15 hRA15 hrt15 hD15 dbad15 dw15 od15 oc T4 ⊢
  clear w1 w2 w3 w4 w5 w15 sl nl7 nt1 nt2 nt3 nt4 ndl
  have askF : ∀ {H : Hp}, ∀ H', Same H H' → Askd K H' (.str (S F)) := fun H' _ => .inl ⟨rfl, (show F.length ≤ 100000 by omega)⟩
  refine ⟨fun σ H' => σ = [some (.ref a), some (.ref b), some (.ref p), some (.ref rt), some bad, some (.int (k : Int)), some (.ref rw_), some (.ref D), some odd, some cold, some (.ref l7), some (.ref dl), none, none, none, none, none, none] ∧ Same G5 H', ?_, ?_⟩
  · refine ⟨_, rfl, l7, [f1, f2, f3, f4], rfl, rfl, hl7, tries_run [.tuple [.str "InvalidLine", .int (k : Int)], .tuple [.str "InvalidFaces", dodd], .tuple [.str "InvalidCutters", dcold], .tuple [.str "InvalidFaces", dodd]] hl7 (fun D' nD' => ?_) (fun H7 D' s7 nD' hD' => ?_)⟩
    · refine ⟨?_, ?_, ?_, ?_, trivial⟩
      · refine oneAsk_err (v := .int (k : Int)) TL nD' la1 (.int _) fun H s E Q h => ⟨_, rfl, p, _, _, _, rfl, rfl, SqL.of (s _ _ hs15.top), rfl, _, rfl, p, _, _, _, rfl, rfl, SqL.of (s _ _ hs15.top), rfl, _, rfl, D, _, _, _, rfl, rfl, SqL.of (s _ _ hD15), rfl, _, rfl, D, _, _, _, rfl, rfl, SqL.of (s _ _ hD15), rfl, _, rfl, D, _, _, _, rfl, rfl, SqL.of (s _ _ hD15), rfl, fun x dx nx ndx _ => ?_⟩
        have kp := made_keep (o1 := HO.own x) (o2 := HO.ins CB dx []) nx ndx
        have sk := s.trans kp
        have hTt : RightAt b _ F C (R.take k) := fun r hr => (hRA15.same sk) r (List.mem_of_mem_take hr)
        refine book_refused bf bc (by omega) (by omega) hTt (by omega) (.inr (dw15.same sk)) exl (show 3 ≤ 100 by decide) fun H' d s' nd => ?_
        rw [ltk]
        exact h H' d (kp.trans s') nd
      · refine oneAsk_err TF nD' la2 od15.dp fun H s E Q h => ⟨_, rfl, _, rfl, _, rfl, D, _, _, _, rfl, rfl, SqL.of (s _ _ hD15), rfl, fun x dx nx ndx _ => ?_⟩
        have kp := made_keep (o1 := HO.own x) (o2 := HO.ins CB dx []) nx ndx
        exact book_refF (fun H' s' => (od15.same (s.trans (kp.trans s'))).askd) hodd (show 1 ≤ 100 by decide) fun H' d s' nd => h H' d (kp.trans s') nd
      · refine oneAsk_err TC nD' la3 oc.dp fun H s E Q h => ⟨_, rfl, p, _, _, _, rfl, rfl, SqL.of (s _ _ hs15.top), rfl, _, rfl, _, rfl, D, _, _, _, rfl, rfl, SqL.of (s _ _ hD15), rfl, fun x dx nx ndx _ => ?_⟩
        have kp := made_keep (o1 := HO.own x) (o2 := HO.ins CB dx []) nx ndx
        exact book_refC askF bf (fun H' s' => (oc.same (s.trans (kp.trans s'))).askd) hcold (show 1 ≤ 100 by decide) fun H' d s' nd => h H' d (kp.trans s') nd
      · refine oneAsk_err TF nD' la4 od15.dp fun H s E Q h => ⟨_, rfl, _, rfl, p, _, _, _, rfl, rfl, SqL.of (s _ _ hs15.top), rfl, fun x dx nx ndx _ => ?_⟩
        have kp := made_keep (o1 := HO.own x) (o2 := HO.ins CB dx []) nx ndx
        exact book_refF (fun H' s' => (od15.same (s.trans (kp.trans s'))).askd) hodd (show 0 ≤ 100 by decide) fun H' d s' nd => h H' d (kp.trans s') nd
    refine ⟨_, rfl, _, _, _, rfl, hD', Dp.same s7 hdue, deep_list (show 4 ≤ 1000 by decide) (fun d hd => ?_), fun H8 s8 => ⟨_, rfl, iteF ⟨rfl, s7.trans s8⟩⟩⟩
    · simp only [List.mem_cons, List.not_mem_nil, or_false] at hd
      rcases hd with rfl | rfl | rfl | rfl
      · exact dTI _ _ deep_int
      · exact dTI _ _ (od15.deep 0)
      · exact dTI _ _ (oc.deep 0)
      · exact dTI _ _ (od15.deep 0)
  rintro σ H8 ⟨rfl, s78⟩
  have hs20 := hs15.same s78
  have hRA20 := hRA15.same s78
  have hrt20 := s78 _ _ hrt15
  have dbad20 := dbad15.same s78
  have T20 := T4.ext s78
  clear s78 hdue hl7 la1 la2 la3 la4 hs15 hRA15 hrt15 hD15 dbad15 dw15 od15 oc T4
  obtain ⟨r0, r1, r2, hRe⟩ := len3 hR3
  rw [hRe] at hrt20 hRA20
  have m0 : r0 ∈ [r0, r1, r2] := List.mem_cons_self
  have m1 : r1 ∈ [r0, r1, r2] := List.mem_cons_of_mem _ List.mem_cons_self
  have m2 : r2 ∈ [r0, r1, r2] := List.mem_cons_of_mem _ (List.mem_cons_of_mem _ List.mem_cons_self)
  refine ⟨_, rfl, rt, _, _, _, rfl, rfl, SqL.of hrt20, rfl, _, rfl, rt, _, _, _, rfl, rfl, SqL.of hrt20, rfl, _, rfl, rt, _, _, _, rfl, rfl, SqL.of hrt20, rfl, (show 3 ≤ sizeLine by decide), fun pu npu => ⟨pu, _, rfl, SqT.of upd_same, rfl, _, _, rfl, _, _, rfl, _, _, rfl, rfl, ?_⟩⟩
  have su := same_upd (o := HO.tup [V.ref r0.1, .ref r1.1, .ref r2.1]) npu
  have hs21 := hs20.same su
  have hRA21 := hRA20.same su
  have dbad21 := dbad20.same su
  have T21 := T20.ext su
  generalize upd H8 pu (.tup [V.ref r0.1, .ref r1.1, .ref r2.1]) = H21 at hs21 hRA21 dbad21 T21 ⊢
  clear su npu hs20 hRA20 hrt20 dbad20 T20
  have in8 : ∀ r ∈ [r0, r1, r2, r0, r1, r2, r0, r1], r ∈ [r0, r1, r2] := fun r hr => by
    simp only [List.mem_cons, List.not_mem_nil, or_false] at hr
    rcases hr with rfl | rfl | rfl | rfl | rfl | rfl | rfl | rfl <;> assumption
  have in7 : ∀ r ∈ [r0, r1, r2, r0, r1, r2, r0], r ∈ [r0, r1, r2] := fun r hr => by
    simp only [List.mem_cons, List.not_mem_nil, or_false] at hr
    rcases hr with rfl | rfl | rfl | rfl | rfl | rfl | rfl <;> assumption
  -- eight lines are let
  refine ⟨_, rfl, p, _, _, _, rfl, rfl, SqL.of hs21.top, rfl, _, rfl, p, _, _, _, rfl, rfl, SqL.of hs21.top, rfl, _, rfl, _, rfl, _, rfl, _, rfl, _, rfl, _, rfl, _, rfl, _, rfl, fun x dx nx ndx _ => ?_⟩
  obtain ⟨ls8, hls8⟩ : ∃ ls8 : List LineV, ls8 = [r0, r1, r2, r0, r1, r2, r0, r1] := ⟨_, rfl⟩
  have hl8 : ls8.length = 8 := by rw [hls8]; rfl
  refine book_made BC bf bc (by omega) (by omega) ok.chr (ls := ls8) (fun r hr => (hRA21 r (in8 r (hls8 ▸ hr))).1) (fun r hr => (hRA21 r (in8 r (hls8 ▸ hr))).2.2) (Nat.le_of_eq hl8) nx ndx (by rw [hls8]; rfl) fun H22 s22 hB22 => ⟨rfl, ?_⟩
  obtain ⟨dx2, tx2, hx22, _⟩ := hB22.at_
  refine ⟨x, dx2, _, rfl, hx22, x, F, C, ls8, rfl, hB22, ?_⟩
  rw [hl8]
  refine ⟨⟨8, rfl, by decide, by decide⟩, rfl, _, rfl, iteF ?_⟩
  have hs22 := hs21.same s22
  have hRA22 := hRA21.same s22
  have dbad22 := dbad21.same s22
  have T22 := T21.ext s22
  clear s22 hs21 hRA21 dbad21 T21 hB22 hx22 nx ndx
  -- nine are not
  refine ⟨T22, fun f1 c1 v1 G1 e1 T1 m1' la1 => ?_⟩
  refine ⟨T1, fun f2 c2 v2 G2 e2 T2 m2' la2 => ?_⟩
  refine ⟨T2, fun f3 c3 v3 G3 e3 T3 m3' la3 => ?_⟩
  have ex := e1.trans (e2.trans e3)
  replace la1 := ((la1.ext e2).ext e3)
  replace la2 := (la2.ext e3)
  replace hs22 := hs22.ext ex
  replace hRA22 := hRA22.ext ex
  replace dbad22 := dbad22.ext ex
  refine ⟨(show 3 ≤ sizeLine by decide), fun l8 nl8 => ?_⟩
  have sl := same_upd (o := HO.lst [V.ref f1, .ref f2, .ref f3]) nl8
  have hl8 : (upd G3 l8 (.lst [V.ref f1, .ref f2, .ref f3])) l8 = some (.lst ([f1, f2, f3].map V.ref)) := upd_same
  replace la1 := la1.same sl
  replace la2 := la2.same sl
  replace la3 := la3.same sl
  replace hs22 := hs22.same sl
  replace hRA22 := hRA22.same sl
  replace dbad22 := dbad22.same sl
  generalize upd G3 l8 (.lst [V.ref f1, .ref f2, .ref f3]) = G6 at hl8 la1 la2 la3 hs22 hRA22 dbad22 ⊢
  refine ⟨_, rfl, l8, [f1, f2, f3], rfl, rfl, hl8, tries_run [.tuple [.str "InvalidLine", .int 8], .tuple [.str "InvalidLine", .int 8], .tuple [.str "InvalidLine", .int 7]] hl8 (fun D' nD' => ?_) (fun H7 D' s7 nD' hD' => ?_)⟩
  · refine ⟨?_, ?_, ?_, trivial⟩
    · refine oneAsk_err (v := .int 8) TL nD' la1 (.int _) fun H s E Q h => ⟨_, rfl, p, _, _, _, rfl, rfl, SqL.of (s _ _ hs22.top), rfl, _, rfl, p, _, _, _, rfl, rfl, SqL.of (s _ _ hs22.top), rfl, _, rfl, _, rfl, _, rfl, _, rfl, _, rfl, _, rfl, _, rfl, _, rfl, _, rfl, fun x dx nx ndx _ => ?_⟩
      have kp := made_keep (o1 := HO.own x) (o2 := HO.ins CB dx []) nx ndx
      have sk := s.trans kp
      exact book_refused (ex := fun c => c = b) (R := [r0, r1, r2, r0, r1, r2, r0, r1]) (v := .ref r2.1) (rest := []) bf bc (by omega) (by omega) (fun r hr => (hRA22.same sk) r (in8 r hr)) (show 8 ≤ 8 by decide) (.inl rfl) rfl (show 9 ≤ 100 by decide) fun H' d s' nd => h H' d (kp.trans s') nd
    · refine oneAsk_err (v := .int 8) TL nD' la2 (.int _) fun H s E Q h => ⟨_, rfl, p, _, _, _, rfl, rfl, SqL.of (s _ _ hs22.top), rfl, _, rfl, p, _, _, _, rfl, rfl, SqL.of (s _ _ hs22.top), rfl, _, rfl, _, rfl, _, rfl, _, rfl, _, rfl, _, rfl, _, rfl, _, rfl, _, rfl, fun x dx nx ndx _ => ?_⟩
      have kp := made_keep (o1 := HO.own x) (o2 := HO.ins CB dx []) nx ndx
      have sk := s.trans kp
      exact book_refused (ex := fun c => c = b) (R := [r0, r1, r2, r0, r1, r2, r0, r1]) (v := bad) (rest := []) bf bc (by omega) (by omega) (fun r hr => (hRA22.same sk) r (in8 r hr)) (show 8 ≤ 8 by decide) (.inl rfl) rfl (show 9 ≤ 100 by decide) fun H' d s' nd => h H' d (kp.trans s') nd
    · refine oneAsk_err (v := .int 7) TL nD' la3 (.int _) fun H s E Q h => ⟨_, rfl, p, _, _, _, rfl, rfl, SqL.of (s _ _ hs22.top), rfl, _, rfl, p, _, _, _, rfl, rfl, SqL.of (s _ _ hs22.top), rfl, _, rfl, _, rfl, _, rfl, _, rfl, _, rfl, _, rfl, _, rfl, _, rfl, _, rfl, fun x dx nx ndx _ => ?_⟩
      have kp := made_keep (o1 := HO.own x) (o2 := HO.ins CB dx []) nx ndx
      have sk := s.trans kp
      exact book_refused (R := [r0, r1, r2, r0, r1, r2, r0]) (v := bad) (rest := [.ref r2.1]) bf bc (by omega) (by omega) (fun r hr => (hRA22.same sk) r (in7 r hr)) (show 7 ≤ 8 by decide) (.inr (dbad22.same sk)) rfl (show 9 ≤ 100 by decide) fun H' d s' nd => h H' d (kp.trans s') nd
  refine ⟨(show 2 ≤ sizeLine by decide), fun t1 nt1 => ?_⟩
  have w1 := same_upd (o := HO.tup [V.str "InvalidLine", V.int 8]) nt1
  refine ⟨(show 2 ≤ sizeLine by decide), fun t2 nt2 => ?_⟩
  have w2 := same_upd (o := HO.tup [V.str "InvalidLine", V.int 8]) nt2
  refine ⟨(show 2 ≤ sizeLine by decide), fun t3 nt3 => ?_⟩
  have w3 := same_upd (o := HO.tup [V.str "InvalidLine", V.int 7]) nt3
  refine ⟨(show 3 ≤ sizeLine by decide), fun t4 nt4 => ?_⟩
  have w4 := same_upd (o := HO.lst [V.ref t1, V.ref t2, V.ref t3]) nt4
  have w14 := w1.trans (w2.trans (w3.trans w4))
  refine ⟨_, _, _, rfl, Dp.same w14 hD', .lst (SqL.of upd_same) (.cons (.tup (SqT.of ((w2.trans (w3.trans w4)) _ _ upd_same)) (.cons (.str _) (.cons (.int _) .nil))) (.cons (.tup (SqT.of ((w3.trans w4) _ _ upd_same)) (.cons (.str _) (.cons (.int _) .nil))) (.cons (.tup (SqT.of (w4 _ _ upd_same)) (.cons (.str _) (.cons (.int _) .nil))) .nil))), deep_list (show 3 ≤ 1000 by decide) (fun d hd => ?_), fun H8 s8 => q _⟩
  simp only [List.mem_cons, List.not_mem_nil, or_false] at hd
  rcases hd with rfl | rfl | rfl
  · exact dTI _ _ deep_int
  · exact dTI _ _ deep_int
  · exact dTI _ _ deep_int
end
end FW
namespace FW
open PySem PySem.Spec PyProof.Rows L2
/-- the end of a law row whose law's own text holds a lambda: the law's table at P, its code object at c -/
theorem walk_tab {l : PySem.W.OpenLaw} {n k : Nat} {q : Program} {loose : List Str} {XP : (Str → Option Value) → Heap → Prop} {YP : World → Heap → Prop} {d : DefRec} {K : Params → PySem.W.Frag} {x : Str} {sp : PySem.W.Frag → Addr → Sp} {c P : Addr}
    (hn : l.most = some n) (hn2 : n ≤ sizeLine) (hdf : d.params.defaults = []) (hr : Room k callerA) (hY : ∀ (w : World) (h : Heap), YP w h → (K w.params).In h)
    (hT : ∀ (w : World) (h : Heap), YP w h → h.get? P = some (PySem.W.tabObj #[])) (hnP : ∀ pr : Params, (K pr).lookup P = none)
    (F : ∀ (w : World) (mg : Str → Option Value) (fa : Addr) (h : Heap), (K w.params).In h → h.Ns mainGlobals mg → mg d.name = some (.ref fa) →
      ∃ fd : FuncData, (∀ (s : Shared) (u : Value), BindsTo s fd ⟨[u], []⟩ [(x, u)]) ∧ ∀ base : Heap, (K w.params).In base → base.Ns mainGlobals mg → LamX.TabB base mg c P → FnOk l.prog w (K w.params) mg base L2.CX0 k fa fd [x] (sp (K w.params) P))
    (hc : ∀ pr : Params, PySem.W.codeHdIn (K pr) c P = true) (hsp : ∀ (pr : Params) (H : Hp) (a : Addr) (ns : List Int), ns.length ≤ n → H P = some (.tbl #[]) → SqL (K pr) H a (ns.map V.int) → sp (K pr) P [.ref a] H (fun v _ => v = .bl true) fun _ _ _ => False) :
    PySem.W.WalkO q loose XP YP l.row.toRowW d [] (fun f vs => PySem.call f vs) := by
  refine Att.attach_callB hn hdf fun w s₀ s₁ mg mb fa o pm cd doc a vs ns G Y ho hd hcd hmg hobj hints hlen hbits hg => ?_
  have X := hY w _ Y
  obtain ⟨fd, hb, hF⟩ := F w mg fa _ X G.T.g hmg
  have hP := hT w _ Y
  refine LamX.law_callTs (cs := [(c, P)]) X G.T.g G.T.b G.T.builtins G.T.nolimit hg (fun p hp => ?_) (fun p hp => ?_) (fun p hp => ?_) G.T.bmain hobj hints (Nat.le_trans hlen hn2) hr
    (fun base h1 h2 h3 => hF base h1 h2 (h3 _ List.mem_cons_self)) hb (fun H hH hS => hsp w.params H a ns hlen (hH _ List.mem_cons_self) hS) (fun _ _ _ z => z)
  · rw [List.mem_singleton.mp hp]
    exact hP
  · rw [List.mem_singleton.mp hp]
    exact hnP w.params
  · rw [List.mem_singleton.mp hp]
    exact PySem.W.codeHd_of_K X (hc w.params)
end FW
namespace FW
open PySem PySem.Spec PyProof.Rows L2
theorem all_mk {l : PySem.W.OpenLaw} {w : World} {K : PySem.W.Frag} {h : Heap} {mg : Str → Option Value} {fa : Addr} {C_InvalidLine fI_InvalidLine NC_InvalidLine C1 C2 C3 C_InvalidFaces fI_InvalidFaces NC_InvalidFaces C_InvalidCutters fI_InvalidCutters NC_InvalidCutters CB f_Bi f_is_string f_is_ascending f_is_choice f_is_faces f_is_cutters f_is_letter f_is_part f_is_cut f_is_line f__law_tries f__law_try f__law_field f__law_same f_B_len f__law_draw f__law_of f__law_bad_lines f__law_part f__law_some_cut f__law_letters f__law_some_faces f__law_some_cutters f__law_some_line f__law_some_book f__law_open f_law c Pt : Addr} {tk_InvalidLine tk_InvalidFaces tk_InvalidCutters t8 tk__LOWER tk__MOST_FACES tk__UPPER tk__MOST_CUTTERS : Tok} {nm_InvalidLine qn_InvalidLine nm_InvalidFaces qn_InvalidFaces nm_InvalidCutters qn_InvalidCutters : Str} {bs_InvalidLine bm_InvalidLine sub_InvalidLine bs_InvalidFaces bm_InvalidFaces sub_InvalidFaces bs_InvalidCutters bm_InvalidCutters sub_InvalidCutters : List Value} {sn_InvalidLine sn_InvalidFaces sn_InvalidCutters : List Str} {ab_InvalidLine ab_InvalidFaces ab_InvalidCutters : Bool} {col_InvalidLine col_InvalidFaces col_InvalidCutters : Option Bool} {k0_InvalidLine k1_InvalidLine k3_InvalidLine k5_InvalidLine k0_InvalidFaces k1_InvalidFaces k3_InvalidFaces k5_InvalidFaces k0_InvalidCutters k1_InvalidCutters k3_InvalidCutters k5_InvalidCutters : Option Value} {dd_InvalidLine odI_InvalidLine anI_InvalidLine dd_InvalidFaces odI_InvalidFaces anI_InvalidFaces dd_InvalidCutters odI_InvalidCutters anI_InvalidCutters od_Bi an_Bi od_is_string an_is_string od_is_ascending an_is_ascending od_is_choice an_is_choice od_is_faces an_is_faces od_is_cutters an_is_cutters od_is_letter an_is_letter od_is_part an_is_part od_is_cut an_is_cut od_is_line an_is_line od__law_tries an__law_tries od__law_try an__law_try od__law_field an__law_field od__law_same an__law_same od_B_len an_B_len od__law_draw an__law_draw od__law_of an__law_of od__law_bad_lines an__law_bad_lines od__law_part an__law_part od__law_some_cut an__law_some_cut od__law_letters an__law_letters od__law_some_faces an__law_some_faces od__law_some_cutters an__law_some_cutters od__law_some_line an__law_some_line od__law_some_book an__law_some_book od__law_open an__law_open od_law an_law : Option Addr} {slI_InvalidLine slI_InvalidFaces slI_InvalidCutters sl_Bi sl_is_string sl_is_ascending sl_is_choice sl_is_faces sl_is_cutters sl_is_letter sl_is_part sl_is_cut sl_is_line sl__law_tries sl__law_try sl__law_field sl__law_same sl_B_len sl__law_draw sl__law_of sl__law_bad_lines sl__law_part sl__law_some_cut sl__law_letters sl__law_some_faces sl__law_some_cutters sl__law_some_line sl__law_some_book sl__law_open sl_law : Array (Option Value)} {ocI_InvalidLine kVI_InvalidLine dcI_InvalidLine pmI_InvalidLine cdI_InvalidLine ctI_InvalidLine ocI_InvalidFaces kVI_InvalidFaces dcI_InvalidFaces pmI_InvalidFaces cdI_InvalidFaces ctI_InvalidFaces ocI_InvalidCutters kVI_InvalidCutters dcI_InvalidCutters pmI_InvalidCutters cdI_InvalidCutters ctI_InvalidCutters oc_Bi kV_Bi dc_Bi pm_Bi cd_Bi ct_Bi oc_is_string kV_is_string dc_is_string pm_is_string cd_is_string ct_is_string oc_is_ascending kV_is_ascending dc_is_ascending pm_is_ascending cd_is_ascending ct_is_ascending oc_is_choice kV_is_choice dc_is_choice pm_is_choice cd_is_choice ct_is_choice oc_is_faces kV_is_faces dc_is_faces pm_is_faces cd_is_faces ct_is_faces oc_is_cutters kV_is_cutters dc_is_cutters pm_is_cutters cd_is_cutters ct_is_cutters oc_is_letter kV_is_letter dc_is_letter pm_is_letter cd_is_letter ct_is_letter oc_is_part kV_is_part dc_is_part pm_is_part cd_is_part ct_is_part oc_is_cut kV_is_cut dc_is_cut pm_is_cut cd_is_cut ct_is_cut oc_is_line kV_is_line dc_is_line pm_is_line cd_is_line ct_is_line oc__law_tries kV__law_tries dc__law_tries pm__law_tries cd__law_tries ct__law_tries oc__law_try kV__law_try dc__law_try pm__law_try cd__law_try ct__law_try oc__law_field kV__law_field dc__law_field pm__law_field cd__law_field ct__law_field oc__law_same kV__law_same dc__law_same pm__law_same cd__law_same ct__law_same oc_B_len kV_B_len dc_B_len pm_B_len cd_B_len ct_B_len oc__law_draw kV__law_draw dc__law_draw pm__law_draw cd__law_draw ct__law_draw oc__law_of kV__law_of dc__law_of pm__law_of cd__law_of ct__law_of oc__law_bad_lines kV__law_bad_lines dc__law_bad_lines pm__law_bad_lines cd__law_bad_lines ct__law_bad_lines oc__law_part kV__law_part dc__law_part pm__law_part cd__law_part ct__law_part oc__law_some_cut kV__law_some_cut dc__law_some_cut pm__law_some_cut cd__law_some_cut ct__law_some_cut oc__law_letters kV__law_letters dc__law_letters pm__law_letters cd__law_letters ct__law_letters oc__law_some_faces kV__law_some_faces dc__law_some_faces pm__law_some_faces cd__law_some_faces ct__law_some_faces oc__law_some_cutters kV__law_some_cutters dc__law_some_cutters pm__law_some_cutters cd__law_some_cutters ct__law_some_cutters oc__law_some_line kV__law_some_line dc__law_some_line pm__law_some_line cd__law_some_line ct__law_some_line oc__law_some_book kV__law_some_book dc__law_some_book pm__law_some_book cd__law_some_book ct__law_some_book oc__law_open kV__law_open dc__law_open pm__law_open cd__law_open ct__law_open oc_law kV_law dc_law pm_law ct_law : Value} (X : K.In h) (G : h.Ns mainGlobals mg) (hfa : mg "law" = some (.ref fa))
    (gs1 : PySem.W.specialIn K (.builtin "object.__class__") "__get__" = some (some (.builtin "getset_descriptor.__get__")))
    (gs2 : PySem.W.takesIn K (.builtin "object.__class__") = some true)
    (eg_InvalidLine : PySem.W.nsIn K mainGlobals "InvalidLine" = some (some (.ref C_InvalidLine)))
    (el_InvalidLine : K.lookup C_InvalidLine = some (excClassObj nm_InvalidLine qn_InvalidLine C_InvalidLine NC_InvalidLine bs_InvalidLine bm_InvalidLine true sn_InvalidLine sub_InvalidLine ab_InvalidLine col_InvalidLine dd_InvalidLine k0_InvalidLine k1_InvalidLine (some (.str "InvalidLine" tk_InvalidLine)) k3_InvalidLine k5_InvalidLine "ValueError.__new__"))
    (eb_InvalidLine : PySem.HandSPX.refsVE bm_InvalidLine = true)
    (esa_InvalidLine : PySem.W.findIn K (.ref C_InvalidLine) "__setattr__" = some (some (.builtin "object.__setattr__")))
    (ex_InvalidLine : PySem.W.subIn K (.ref C_InvalidLine) (.type "BaseException") = some true)
    (ety_InvalidLine : PySem.W.typeIn K (.ref C_InvalidLine) = some (.type "type"))
    (ek_InvalidLine : PySem.W.keepIn K (.ref C_InvalidLine) = true)
    (ecl_InvalidLine : (PySem.W.clsIn K C_InvalidLine).isSome = true)
    (ega_InvalidLine : PySem.W.findIn K (.ref C_InvalidLine) "__getattribute__" = some (some (.builtin "BaseException.__getattribute__")))
    (egg_InvalidLine : PySem.W.findIn K (.ref C_InvalidLine) "__getattr__" = some none)
    (efc_InvalidLine : PySem.W.findIn K (.ref C_InvalidLine) "__class__" = some (some (.builtin "object.__class__")))
    (eob_InvalidLine : PySem.W.mroIn K C_InvalidLine (.type "object") = some true)
    (ehd_InvalidLine : PySem.W.hasDictIn K C_InvalidLine = true)
    (enc_InvalidLine : PySem.W.findIn K (.ref C_InvalidLine) "code" = some none)
    (enf_InvalidLine : PySem.W.findIn K (.ref C_InvalidLine) "at" = some none)
    (eini_InvalidLine : PySem.W.findIn K (.ref C_InvalidLine) "__init__" = some (some (.ref fI_InvalidLine)))
    (etI_InvalidLine : PySem.W.typeIn K (.ref fI_InvalidLine) = some (.type "function"))
    (elI_InvalidLine : K.lookup fI_InvalidLine = some ⟨ocI_InvalidLine, odI_InvalidLine, .func (PySem.W.fnOf "__init__" "InvalidLine.__init__" (defArgs s_InvalidLine_init) (defBody s_InvalidLine_init) (defScope s_InvalidLine_init) .none kVI_InvalidLine dcI_InvalidLine pmI_InvalidLine anI_InvalidLine cdI_InvalidLine ctI_InvalidLine), slI_InvalidLine⟩)
    (ecI_InvalidLine : PySem.W.codeIn K cdI_InvalidLine "InvalidLine.__init__" = true)
    (ekI_InvalidLine : PySem.W.keepIn K (.ref fI_InvalidLine) = true)
    (erd_InvalidLine : PySem.W.readsIn K C_InvalidLine (.type "type") = true)
    (efdn_InvalidLine : PySem.W.findCls K (.ref C_InvalidLine) (.type "type") "__name__" = some (.get (.builtin "getset_descriptor.__get__") (.builtin "type.__name__") (.ref C_InvalidLine) (.type "type")))
    (e_C1 : PySem.W.nsIn K mainGlobals "HouseError" = some (some (.ref C1)))
    (e_C2 : PySem.W.nsIn K mainGlobals "Missing" = some (some (.ref C2)))
    (e_C3 : PySem.W.nsIn K mainGlobals "NothingLeft" = some (some (.ref C3)))
    (hx_InvalidLine : PySem.W.exmAny K (.ref C_InvalidLine) [.ref C1, .ref C2, .ref C3] = some true)
    (eg_InvalidFaces : PySem.W.nsIn K mainGlobals "InvalidFaces" = some (some (.ref C_InvalidFaces)))
    (el_InvalidFaces : K.lookup C_InvalidFaces = some (excClassObj nm_InvalidFaces qn_InvalidFaces C_InvalidFaces NC_InvalidFaces bs_InvalidFaces bm_InvalidFaces true sn_InvalidFaces sub_InvalidFaces ab_InvalidFaces col_InvalidFaces dd_InvalidFaces k0_InvalidFaces k1_InvalidFaces (some (.str "InvalidFaces" tk_InvalidFaces)) k3_InvalidFaces k5_InvalidFaces "ValueError.__new__"))
    (eb_InvalidFaces : PySem.HandSPX.refsVE bm_InvalidFaces = true)
    (esa_InvalidFaces : PySem.W.findIn K (.ref C_InvalidFaces) "__setattr__" = some (some (.builtin "object.__setattr__")))
    (ex_InvalidFaces : PySem.W.subIn K (.ref C_InvalidFaces) (.type "BaseException") = some true)
    (ety_InvalidFaces : PySem.W.typeIn K (.ref C_InvalidFaces) = some (.type "type"))
    (ek_InvalidFaces : PySem.W.keepIn K (.ref C_InvalidFaces) = true)
    (ecl_InvalidFaces : (PySem.W.clsIn K C_InvalidFaces).isSome = true)
    (ega_InvalidFaces : PySem.W.findIn K (.ref C_InvalidFaces) "__getattribute__" = some (some (.builtin "BaseException.__getattribute__")))
    (egg_InvalidFaces : PySem.W.findIn K (.ref C_InvalidFaces) "__getattr__" = some none)
    (efc_InvalidFaces : PySem.W.findIn K (.ref C_InvalidFaces) "__class__" = some (some (.builtin "object.__class__")))
    (eob_InvalidFaces : PySem.W.mroIn K C_InvalidFaces (.type "object") = some true)
    (ehd_InvalidFaces : PySem.W.hasDictIn K C_InvalidFaces = true)
    (enc_InvalidFaces : PySem.W.findIn K (.ref C_InvalidFaces) "code" = some none)
    (enf_InvalidFaces : PySem.W.findIn K (.ref C_InvalidFaces) "given" = some none)
    (eini_InvalidFaces : PySem.W.findIn K (.ref C_InvalidFaces) "__init__" = some (some (.ref fI_InvalidFaces)))
    (etI_InvalidFaces : PySem.W.typeIn K (.ref fI_InvalidFaces) = some (.type "function"))
    (elI_InvalidFaces : K.lookup fI_InvalidFaces = some ⟨ocI_InvalidFaces, odI_InvalidFaces, .func (PySem.W.fnOf "__init__" "InvalidFaces.__init__" (defArgs s_InvalidFaces_init) (defBody s_InvalidFaces_init) (defScope s_InvalidFaces_init) .none kVI_InvalidFaces dcI_InvalidFaces pmI_InvalidFaces anI_InvalidFaces cdI_InvalidFaces ctI_InvalidFaces), slI_InvalidFaces⟩)
    (ecI_InvalidFaces : PySem.W.codeIn K cdI_InvalidFaces "InvalidFaces.__init__" = true)
    (ekI_InvalidFaces : PySem.W.keepIn K (.ref fI_InvalidFaces) = true)
    (erd_InvalidFaces : PySem.W.readsIn K C_InvalidFaces (.type "type") = true)
    (efdn_InvalidFaces : PySem.W.findCls K (.ref C_InvalidFaces) (.type "type") "__name__" = some (.get (.builtin "getset_descriptor.__get__") (.builtin "type.__name__") (.ref C_InvalidFaces) (.type "type")))
    (hx_InvalidFaces : PySem.W.exmAny K (.ref C_InvalidFaces) [.ref C1, .ref C2, .ref C3] = some true)
    (eg_InvalidCutters : PySem.W.nsIn K mainGlobals "InvalidCutters" = some (some (.ref C_InvalidCutters)))
    (el_InvalidCutters : K.lookup C_InvalidCutters = some (excClassObj nm_InvalidCutters qn_InvalidCutters C_InvalidCutters NC_InvalidCutters bs_InvalidCutters bm_InvalidCutters true sn_InvalidCutters sub_InvalidCutters ab_InvalidCutters col_InvalidCutters dd_InvalidCutters k0_InvalidCutters k1_InvalidCutters (some (.str "InvalidCutters" tk_InvalidCutters)) k3_InvalidCutters k5_InvalidCutters "ValueError.__new__"))
    (eb_InvalidCutters : PySem.HandSPX.refsVE bm_InvalidCutters = true)
    (esa_InvalidCutters : PySem.W.findIn K (.ref C_InvalidCutters) "__setattr__" = some (some (.builtin "object.__setattr__")))
    (ex_InvalidCutters : PySem.W.subIn K (.ref C_InvalidCutters) (.type "BaseException") = some true)
    (ety_InvalidCutters : PySem.W.typeIn K (.ref C_InvalidCutters) = some (.type "type"))
    (ek_InvalidCutters : PySem.W.keepIn K (.ref C_InvalidCutters) = true)
    (ecl_InvalidCutters : (PySem.W.clsIn K C_InvalidCutters).isSome = true)
    (ega_InvalidCutters : PySem.W.findIn K (.ref C_InvalidCutters) "__getattribute__" = some (some (.builtin "BaseException.__getattribute__")))
    (egg_InvalidCutters : PySem.W.findIn K (.ref C_InvalidCutters) "__getattr__" = some none)
    (efc_InvalidCutters : PySem.W.findIn K (.ref C_InvalidCutters) "__class__" = some (some (.builtin "object.__class__")))
    (eob_InvalidCutters : PySem.W.mroIn K C_InvalidCutters (.type "object") = some true)
    (ehd_InvalidCutters : PySem.W.hasDictIn K C_InvalidCutters = true)
    (enc_InvalidCutters : PySem.W.findIn K (.ref C_InvalidCutters) "code" = some none)
    (enf_InvalidCutters : PySem.W.findIn K (.ref C_InvalidCutters) "given" = some none)
    (eini_InvalidCutters : PySem.W.findIn K (.ref C_InvalidCutters) "__init__" = some (some (.ref fI_InvalidCutters)))
    (etI_InvalidCutters : PySem.W.typeIn K (.ref fI_InvalidCutters) = some (.type "function"))
    (elI_InvalidCutters : K.lookup fI_InvalidCutters = some ⟨ocI_InvalidCutters, odI_InvalidCutters, .func (PySem.W.fnOf "__init__" "InvalidCutters.__init__" (defArgs s_InvalidCutters_init) (defBody s_InvalidCutters_init) (defScope s_InvalidCutters_init) .none kVI_InvalidCutters dcI_InvalidCutters pmI_InvalidCutters anI_InvalidCutters cdI_InvalidCutters ctI_InvalidCutters), slI_InvalidCutters⟩)
    (ecI_InvalidCutters : PySem.W.codeIn K cdI_InvalidCutters "InvalidCutters.__init__" = true)
    (ekI_InvalidCutters : PySem.W.keepIn K (.ref fI_InvalidCutters) = true)
    (erd_InvalidCutters : PySem.W.readsIn K C_InvalidCutters (.type "type") = true)
    (efdn_InvalidCutters : PySem.W.findCls K (.ref C_InvalidCutters) (.type "type") "__name__" = some (.get (.builtin "getset_descriptor.__get__") (.builtin "type.__name__") (.ref C_InvalidCutters) (.type "type")))
    (hx_InvalidCutters : PySem.W.exmAny K (.ref C_InvalidCutters) [.ref C1, .ref C2, .ref C3] = some true)
    (B_g : PySem.W.nsIn K mainGlobals "Book" = some (some (.ref CB)))
    (B_pg : PySem.W.plainGet K CB Str.empty = true)
    (B_hd : PySem.W.hasDictIn K CB = true)
    (B_po : PySem.W.plainOver K CB = true)
    (B_sa : PySem.W.findIn K (.ref CB) "__setattr__" = some (some (.builtin "object.__setattr__")))
    (B_nf : PySem.W.findIn K (.ref CB) "faces" = some none)
    (B_nc : PySem.W.findIn K (.ref CB) "cutters" = some none)
    (B_nl : PySem.W.findIn K (.ref CB) "_lines" = some none)
    (B_mk : PySem.W.makesIn K CB = true)
    (B_kp : PySem.W.keepIn K (.ref CB) = true)
    (B_rd : PySem.W.readsIn K CB (.type "type") = true)
    (B_sg : PySem.W.specialIn K (.ref CB) "__getattribute__" = some (some (.builtin "type.__getattribute__")))
    (B_most : PySem.W.findCls K (.ref CB) (.type "type") "MOST" = some (.val (.int 8 t8)))
    (B_init : PySem.W.findIn K (.ref CB) "__init__" = some (some (.ref f_Bi)))
    (B_ifn : PySem.W.isFn K (.ref f_Bi) = true)
    (l_Bi : K.lookup f_Bi = some ⟨oc_Bi, od_Bi, .func (PySem.W.fnOf "__init__" "Book.__init__" (defArgs s_Book_init) (defBody s_Book_init) (defScope s_Book_init) .none kV_Bi dc_Bi pm_Bi an_Bi cd_Bi ct_Bi), sl_Bi⟩)
    (c_Bi : PySem.W.codeIn K cd_Bi "Book.__init__" = true)
    (k_Bi : PySem.W.keepIn K (.ref f_Bi) = true)
    (z__LOWER : PySem.W.nsIn K mainGlobals "_LOWER" = some (some (.str "abcdefghijklmnopqrstuvwxyz" tk__LOWER)))
    (z__MOST_FACES : PySem.W.nsIn K mainGlobals "_MOST_FACES" = some (some (.int 6 tk__MOST_FACES)))
    (a_is_string : PySem.W.nsIn K mainGlobals "is_string" = some (some (.ref f_is_string)))
    (l_is_string : K.lookup f_is_string = some ⟨oc_is_string, od_is_string, .func (PySem.W.fnOf "is_string" "is_string" (defArgs s_is_string) (defBody s_is_string) (defScope s_is_string) .none kV_is_string dc_is_string pm_is_string an_is_string cd_is_string ct_is_string), sl_is_string⟩)
    (c_is_string : PySem.W.codeIn K cd_is_string "is_string" = true)
    (k_is_string : PySem.W.keepIn K (.ref f_is_string) = true)
    (a_is_ascending : PySem.W.nsIn K mainGlobals "is_ascending" = some (some (.ref f_is_ascending)))
    (l_is_ascending : K.lookup f_is_ascending = some ⟨oc_is_ascending, od_is_ascending, .func (PySem.W.fnOf "is_ascending" "is_ascending" (defArgs s_is_ascending) (defBody s_is_ascending) (defScope s_is_ascending) .none kV_is_ascending dc_is_ascending pm_is_ascending an_is_ascending cd_is_ascending ct_is_ascending), sl_is_ascending⟩)
    (c_is_ascending : PySem.W.codeIn K cd_is_ascending "is_ascending" = true)
    (k_is_ascending : PySem.W.keepIn K (.ref f_is_ascending) = true)
    (a_is_choice : PySem.W.nsIn K mainGlobals "is_choice" = some (some (.ref f_is_choice)))
    (l_is_choice : K.lookup f_is_choice = some ⟨oc_is_choice, od_is_choice, .func (PySem.W.fnOf "is_choice" "is_choice" (defArgs s_is_choice) (defBody s_is_choice) (defScope s_is_choice) .none kV_is_choice dc_is_choice pm_is_choice an_is_choice cd_is_choice ct_is_choice), sl_is_choice⟩)
    (c_is_choice : PySem.W.codeIn K cd_is_choice "is_choice" = true)
    (k_is_choice : PySem.W.keepIn K (.ref f_is_choice) = true)
    (a_is_faces : PySem.W.nsIn K mainGlobals "is_faces" = some (some (.ref f_is_faces)))
    (l_is_faces : K.lookup f_is_faces = some ⟨oc_is_faces, od_is_faces, .func (PySem.W.fnOf "is_faces" "is_faces" (defArgs s_is_faces) (defBody s_is_faces) (defScope s_is_faces) .none kV_is_faces dc_is_faces pm_is_faces an_is_faces cd_is_faces ct_is_faces), sl_is_faces⟩)
    (c_is_faces : PySem.W.codeIn K cd_is_faces "is_faces" = true)
    (k_is_faces : PySem.W.keepIn K (.ref f_is_faces) = true)
    (z__UPPER : PySem.W.nsIn K mainGlobals "_UPPER" = some (some (.str "ABCDEFGHIJKLMNOPQRSTUVWXYZ" tk__UPPER)))
    (z__MOST_CUTTERS : PySem.W.nsIn K mainGlobals "_MOST_CUTTERS" = some (some (.int 4 tk__MOST_CUTTERS)))
    (a_is_cutters : PySem.W.nsIn K mainGlobals "is_cutters" = some (some (.ref f_is_cutters)))
    (l_is_cutters : K.lookup f_is_cutters = some ⟨oc_is_cutters, od_is_cutters, .func (PySem.W.fnOf "is_cutters" "is_cutters" (defArgs s_is_cutters) (defBody s_is_cutters) (defScope s_is_cutters) .none kV_is_cutters dc_is_cutters pm_is_cutters an_is_cutters cd_is_cutters ct_is_cutters), sl_is_cutters⟩)
    (c_is_cutters : PySem.W.codeIn K cd_is_cutters "is_cutters" = true)
    (k_is_cutters : PySem.W.keepIn K (.ref f_is_cutters) = true)
    (a_is_letter : PySem.W.nsIn K mainGlobals "is_letter" = some (some (.ref f_is_letter)))
    (l_is_letter : K.lookup f_is_letter = some ⟨oc_is_letter, od_is_letter, .func (PySem.W.fnOf "is_letter" "is_letter" (defArgs s_is_letter) (defBody s_is_letter) (defScope s_is_letter) .none kV_is_letter dc_is_letter pm_is_letter an_is_letter cd_is_letter ct_is_letter), sl_is_letter⟩)
    (c_is_letter : PySem.W.codeIn K cd_is_letter "is_letter" = true)
    (k_is_letter : PySem.W.keepIn K (.ref f_is_letter) = true)
    (a_is_part : PySem.W.nsIn K mainGlobals "is_part" = some (some (.ref f_is_part)))
    (l_is_part : K.lookup f_is_part = some ⟨oc_is_part, od_is_part, .func (PySem.W.fnOf "is_part" "is_part" (defArgs s_is_part) (defBody s_is_part) (defScope s_is_part) .none kV_is_part dc_is_part pm_is_part an_is_part cd_is_part ct_is_part), sl_is_part⟩)
    (c_is_part : PySem.W.codeIn K cd_is_part "is_part" = true)
    (k_is_part : PySem.W.keepIn K (.ref f_is_part) = true)
    (a_is_cut : PySem.W.nsIn K mainGlobals "is_cut" = some (some (.ref f_is_cut)))
    (l_is_cut : K.lookup f_is_cut = some ⟨oc_is_cut, od_is_cut, .func (PySem.W.fnOf "is_cut" "is_cut" (defArgs s_is_cut) (defBody s_is_cut) (defScope s_is_cut) .none kV_is_cut dc_is_cut pm_is_cut an_is_cut cd_is_cut ct_is_cut), sl_is_cut⟩)
    (c_is_cut : PySem.W.codeIn K cd_is_cut "is_cut" = true)
    (k_is_cut : PySem.W.keepIn K (.ref f_is_cut) = true)
    (a_is_line : PySem.W.nsIn K mainGlobals "is_line" = some (some (.ref f_is_line)))
    (l_is_line : K.lookup f_is_line = some ⟨oc_is_line, od_is_line, .func (PySem.W.fnOf "is_line" "is_line" (defArgs s_is_line) (defBody s_is_line) (defScope s_is_line) .none kV_is_line dc_is_line pm_is_line an_is_line cd_is_line ct_is_line), sl_is_line⟩)
    (c_is_line : PySem.W.codeIn K cd_is_line "is_line" = true)
    (k_is_line : PySem.W.keepIn K (.ref f_is_line) = true)
    (a__law_tries : PySem.W.nsIn K mainGlobals "_law_tries" = some (some (.ref f__law_tries)))
    (l__law_tries : K.lookup f__law_tries = some ⟨oc__law_tries, od__law_tries, .func (PySem.W.fnOf "_law_tries" "_law_tries" (defArgs s__law_tries) (defBody s__law_tries) (defScope s__law_tries) .none kV__law_tries dc__law_tries pm__law_tries an__law_tries cd__law_tries ct__law_tries), sl__law_tries⟩)
    (c__law_tries : PySem.W.codeIn K cd__law_tries "_law_tries" = true)
    (k__law_tries : PySem.W.keepIn K (.ref f__law_tries) = true)
    (a__law_try : PySem.W.nsIn K mainGlobals "_law_try" = some (some (.ref f__law_try)))
    (l__law_try : K.lookup f__law_try = some ⟨oc__law_try, od__law_try, .func (PySem.W.fnOf "_law_try" "_law_try" (defArgs s__law_try) (defBody s__law_try) (defScope s__law_try) .none kV__law_try dc__law_try pm__law_try an__law_try cd__law_try ct__law_try), sl__law_try⟩)
    (c__law_try : PySem.W.codeIn K cd__law_try "_law_try" = true)
    (k__law_try : PySem.W.keepIn K (.ref f__law_try) = true)
    (a__law_field : PySem.W.nsIn K mainGlobals "_law_field" = some (some (.ref f__law_field)))
    (l__law_field : K.lookup f__law_field = some ⟨oc__law_field, od__law_field, .func (PySem.W.fnOf "_law_field" "_law_field" (defArgs s__law_field) (defBody s__law_field) (defScope s__law_field) .none kV__law_field dc__law_field pm__law_field an__law_field cd__law_field ct__law_field), sl__law_field⟩)
    (c__law_field : PySem.W.codeIn K cd__law_field "_law_field" = true)
    (k__law_field : PySem.W.keepIn K (.ref f__law_field) = true)
    (a__law_same : PySem.W.nsIn K mainGlobals "_law_same" = some (some (.ref f__law_same)))
    (l__law_same : K.lookup f__law_same = some ⟨oc__law_same, od__law_same, .func (PySem.W.fnOf "_law_same" "_law_same" (defArgs s__law_same) (defBody s__law_same) (defScope s__law_same) .none kV__law_same dc__law_same pm__law_same an__law_same cd__law_same ct__law_same), sl__law_same⟩)
    (c__law_same : PySem.W.codeIn K cd__law_same "_law_same" = true)
    (k__law_same : PySem.W.keepIn K (.ref f__law_same) = true)
    (at_B_len : PySem.W.findIn K (.ref CB) "__len__" = some (some (.ref f_B_len)))
    (fn_B_len : PySem.W.isFn K (.ref f_B_len) = true)
    (l_B_len : K.lookup f_B_len = some ⟨oc_B_len, od_B_len, .func (PySem.W.fnOf "__len__" "Book.__len__" (defArgs s_Book_len) (defBody s_Book_len) (defScope s_Book_len) .none kV_B_len dc_B_len pm_B_len an_B_len cd_B_len ct_B_len), sl_B_len⟩)
    (c_B_len : PySem.W.codeIn K cd_B_len "Book.__len__" = true)
    (k_B_len : PySem.W.keepIn K (.ref f_B_len) = true)
    (a__law_draw : PySem.W.nsIn K mainGlobals "_law_draw" = some (some (.ref f__law_draw)))
    (l__law_draw : K.lookup f__law_draw = some ⟨oc__law_draw, od__law_draw, .func (PySem.W.fnOf "_law_draw" "_law_draw" (defArgs s__law_draw) (defBody s__law_draw) (defScope s__law_draw) .none kV__law_draw dc__law_draw pm__law_draw an__law_draw cd__law_draw ct__law_draw), sl__law_draw⟩)
    (c__law_draw : PySem.W.codeIn K cd__law_draw "_law_draw" = true)
    (k__law_draw : PySem.W.keepIn K (.ref f__law_draw) = true)
    (a__law_of : PySem.W.nsIn K mainGlobals "_law_of" = some (some (.ref f__law_of)))
    (l__law_of : K.lookup f__law_of = some ⟨oc__law_of, od__law_of, .func (PySem.W.fnOf "_law_of" "_law_of" (defArgs s__law_of) (defBody s__law_of) (defScope s__law_of) .none kV__law_of dc__law_of pm__law_of an__law_of cd__law_of ct__law_of), sl__law_of⟩)
    (c__law_of : PySem.W.codeIn K cd__law_of "_law_of" = true)
    (k__law_of : PySem.W.keepIn K (.ref f__law_of) = true)
    (a__law_bad_lines : PySem.W.nsIn K mainGlobals "_law_bad_lines" = some (some (.ref f__law_bad_lines)))
    (l__law_bad_lines : K.lookup f__law_bad_lines = some ⟨oc__law_bad_lines, od__law_bad_lines, .func (PySem.W.fnOf "_law_bad_lines" "_law_bad_lines" (defArgs s__law_bad_lines) (defBody s__law_bad_lines) (defScope s__law_bad_lines) .none kV__law_bad_lines dc__law_bad_lines pm__law_bad_lines an__law_bad_lines cd__law_bad_lines ct__law_bad_lines), sl__law_bad_lines⟩)
    (c__law_bad_lines : PySem.W.codeIn K cd__law_bad_lines "_law_bad_lines" = true)
    (k__law_bad_lines : PySem.W.keepIn K (.ref f__law_bad_lines) = true)
    (a__law_part : PySem.W.nsIn K mainGlobals "_law_part" = some (some (.ref f__law_part)))
    (l__law_part : K.lookup f__law_part = some ⟨oc__law_part, od__law_part, .func (PySem.W.fnOf "_law_part" "_law_part" (defArgs s__law_part) (defBody s__law_part) (defScope s__law_part) .none kV__law_part dc__law_part pm__law_part an__law_part cd__law_part ct__law_part), sl__law_part⟩)
    (c__law_part : PySem.W.codeIn K cd__law_part "_law_part" = true)
    (k__law_part : PySem.W.keepIn K (.ref f__law_part) = true)
    (a__law_some_cut : PySem.W.nsIn K mainGlobals "_law_some_cut" = some (some (.ref f__law_some_cut)))
    (l__law_some_cut : K.lookup f__law_some_cut = some ⟨oc__law_some_cut, od__law_some_cut, .func (PySem.W.fnOf "_law_some_cut" "_law_some_cut" (defArgs s__law_some_cut) (defBody s__law_some_cut) (defScope s__law_some_cut) .none kV__law_some_cut dc__law_some_cut pm__law_some_cut an__law_some_cut cd__law_some_cut ct__law_some_cut), sl__law_some_cut⟩)
    (c__law_some_cut : PySem.W.codeIn K cd__law_some_cut "_law_some_cut" = true)
    (k__law_some_cut : PySem.W.keepIn K (.ref f__law_some_cut) = true)
    (a__law_letters : PySem.W.nsIn K mainGlobals "_law_letters" = some (some (.ref f__law_letters)))
    (l__law_letters : K.lookup f__law_letters = some ⟨oc__law_letters, od__law_letters, .func (PySem.W.fnOf "_law_letters" "_law_letters" (defArgs s__law_letters) (defBody s__law_letters) (defScope s__law_letters) .none kV__law_letters dc__law_letters pm__law_letters an__law_letters cd__law_letters ct__law_letters), sl__law_letters⟩)
    (c__law_letters : PySem.W.codeIn K cd__law_letters "_law_letters" = true)
    (k__law_letters : PySem.W.keepIn K (.ref f__law_letters) = true)
    (a__law_some_faces : PySem.W.nsIn K mainGlobals "_law_some_faces" = some (some (.ref f__law_some_faces)))
    (l__law_some_faces : K.lookup f__law_some_faces = some ⟨oc__law_some_faces, od__law_some_faces, .func (PySem.W.fnOf "_law_some_faces" "_law_some_faces" (defArgs s__law_some_faces) (defBody s__law_some_faces) (defScope s__law_some_faces) .none kV__law_some_faces dc__law_some_faces pm__law_some_faces an__law_some_faces cd__law_some_faces ct__law_some_faces), sl__law_some_faces⟩)
    (c__law_some_faces : PySem.W.codeIn K cd__law_some_faces "_law_some_faces" = true)
    (k__law_some_faces : PySem.W.keepIn K (.ref f__law_some_faces) = true)
    (a__law_some_cutters : PySem.W.nsIn K mainGlobals "_law_some_cutters" = some (some (.ref f__law_some_cutters)))
    (l__law_some_cutters : K.lookup f__law_some_cutters = some ⟨oc__law_some_cutters, od__law_some_cutters, .func (PySem.W.fnOf "_law_some_cutters" "_law_some_cutters" (defArgs s__law_some_cutters) (defBody s__law_some_cutters) (defScope s__law_some_cutters) .none kV__law_some_cutters dc__law_some_cutters pm__law_some_cutters an__law_some_cutters cd__law_some_cutters ct__law_some_cutters), sl__law_some_cutters⟩)
    (c__law_some_cutters : PySem.W.codeIn K cd__law_some_cutters "_law_some_cutters" = true)
    (k__law_some_cutters : PySem.W.keepIn K (.ref f__law_some_cutters) = true)
    (a__law_some_line : PySem.W.nsIn K mainGlobals "_law_some_line" = some (some (.ref f__law_some_line)))
    (l__law_some_line : K.lookup f__law_some_line = some ⟨oc__law_some_line, od__law_some_line, .func (PySem.W.fnOf "_law_some_line" "_law_some_line" (defArgs s__law_some_line) (defBody s__law_some_line) (defScope s__law_some_line) .none kV__law_some_line dc__law_some_line pm__law_some_line an__law_some_line cd__law_some_line ct__law_some_line), sl__law_some_line⟩)
    (c__law_some_line : PySem.W.codeIn K cd__law_some_line "_law_some_line" = true)
    (k__law_some_line : PySem.W.keepIn K (.ref f__law_some_line) = true)
    (a__law_some_book : PySem.W.nsIn K mainGlobals "_law_some_book" = some (some (.ref f__law_some_book)))
    (l__law_some_book : K.lookup f__law_some_book = some ⟨oc__law_some_book, od__law_some_book, .func (PySem.W.fnOf "_law_some_book" "_law_some_book" (defArgs s__law_some_book) (defBody s__law_some_book) (defScope s__law_some_book) .none kV__law_some_book dc__law_some_book pm__law_some_book an__law_some_book cd__law_some_book ct__law_some_book), sl__law_some_book⟩)
    (c__law_some_book : PySem.W.codeIn K cd__law_some_book "_law_some_book" = true)
    (k__law_some_book : PySem.W.keepIn K (.ref f__law_some_book) = true)
    (a__law_open : PySem.W.nsIn K mainGlobals "_law_open" = some (some (.ref f__law_open)))
    (l__law_open : K.lookup f__law_open = some ⟨oc__law_open, od__law_open, .func (PySem.W.fnOf "_law_open" "_law_open" (defArgs s__law_open) (defBody s__law_open) (defScope s__law_open) .none kV__law_open dc__law_open pm__law_open an__law_open cd__law_open ct__law_open), sl__law_open⟩)
    (c__law_open : PySem.W.codeIn K cd__law_open "_law_open" = true)
    (k__law_open : PySem.W.keepIn K (.ref f__law_open) = true)
    (a_law : PySem.W.nsIn K mainGlobals "law" = some (some (.ref f_law)))
    (l_law : K.lookup f_law = some ⟨oc_law, od_law, .func (PySem.W.fnOf "law" "law" (defArgs s_law) (defBody s_law) (defScope s_law) .none kV_law dc_law pm_law an_law (.ref c) ct_law), sl_law⟩)
    (c_law : PySem.W.codeIn K (.ref c) "law" = true)
    (y_isinstance : PySem.W.nsIn K mainGlobals "isinstance" = some none)
    (y_str : PySem.W.nsIn K mainGlobals "str" = some none)
    (y_all : PySem.W.nsIn K mainGlobals "all" = some none)
    (y_any : PySem.W.nsIn K mainGlobals "any" = some none)
    (y_len : PySem.W.nsIn K mainGlobals "len" = some none)
    (y_int : PySem.W.nsIn K mainGlobals "int" = some none)
    (y_list : PySem.W.nsIn K mainGlobals "list" = some none)
    (y_abs : PySem.W.nsIn K mainGlobals "abs" = some none)
    (y_bool : PySem.W.nsIn K mainGlobals "bool" = some none)
    (y_tuple : PySem.W.nsIn K mainGlobals "tuple" = some none)
    (y_zip : PySem.W.nsIn K mainGlobals "zip" = some none)
    (y_range : PySem.W.nsIn K mainGlobals "range" = some none)
    (y_enumerate : PySem.W.nsIn K mainGlobals "enumerate" = some none)
    (y_sorted : PySem.W.nsIn K mainGlobals "sorted" = some none)
    (y_dict : PySem.W.nsIn K mainGlobals "dict" = some none)
    (y_set : PySem.W.nsIn K mainGlobals "set" = some none)
    (y_sum : PySem.W.nsIn K mainGlobals "sum" = some none)
    (y_min : PySem.W.nsIn K mainGlobals "min" = some none)
    (y_max : PySem.W.nsIn K mainGlobals "max" = some none)
    (y_reversed : PySem.W.nsIn K mainGlobals "reversed" = some none)
    (y_repr : PySem.W.nsIn K mainGlobals "repr" = some none)
    (y_ord : PySem.W.nsIn K mainGlobals "ord" = some none)
    : ∃ fd : FuncData, (∀ (s : Shared) (v : Value), BindsTo s fd ⟨[v], []⟩ [("_law_script", v)]) ∧ ∀ base : Heap, K.In base → base.Ns mainGlobals mg → LamX.TabB base mg c Pt → FnOk l.prog w K mg base L2.CX0 15 fa fd ["_law_script"] (sp_law K Pt) := by
  have e := hfa.symm.trans (PySem.W.mg_of X G a_law)
  cases e
  have T : Z mg := ⟨PySem.W.mg_none_of X G y_isinstance, PySem.W.mg_none_of X G y_str, PySem.W.mg_none_of X G y_all, PySem.W.mg_none_of X G y_any, PySem.W.mg_none_of X G y_len, PySem.W.mg_none_of X G y_int, PySem.W.mg_none_of X G y_list, PySem.W.mg_none_of X G y_abs, PySem.W.mg_none_of X G y_bool, PySem.W.mg_none_of X G y_tuple, PySem.W.mg_none_of X G y_zip, PySem.W.mg_none_of X G y_range, PySem.W.mg_none_of X G y_enumerate, PySem.W.mg_none_of X G y_sorted, PySem.W.mg_none_of X G y_dict, PySem.W.mg_none_of X G y_set, PySem.W.mg_none_of X G y_sum, PySem.W.mg_none_of X G y_min, PySem.W.mg_none_of X G y_max, PySem.W.mg_none_of X G y_reversed, PySem.W.mg_none_of X G y_repr, PySem.W.mg_none_of X G y_ord⟩
  have GS : GsK K := ⟨gs1, gs2⟩
  have Fi_InvalidLine := fun_mk (st := s_InvalidLine_init) elI_InvalidLine ecI_InvalidLine ekI_InvalidLine
  have bI_InvalidLine := Fi_InvalidLine.binds (ps := ["self", "at"]) fun _ _ _ _ _ _ us hl => match us, hl with | [_, _], _ => rfl
  have Kls_InvalidLine : Kls K mg C_InvalidLine fI_InvalidLine "InvalidLine" := ⟨PySem.W.mg_of X G eg_InvalidLine, ⟨⟨_, _, _, _, _, _, _, _, _, _, _, _, _, _, _, el_InvalidLine, eb_InvalidLine⟩, esa_InvalidLine, ex_InvalidLine, ety_InvalidLine, ek_InvalidLine⟩, ⟨ecl_InvalidLine, ega_InvalidLine, egg_InvalidLine, ex_InvalidLine, efc_InvalidLine, eob_InvalidLine⟩, ⟨⟨_, tk_InvalidLine, el_InvalidLine, rfl⟩, ety_InvalidLine, erd_InvalidLine, efdn_InvalidLine⟩, ⟨ega_InvalidLine, egg_InvalidLine, ex_InvalidLine, ehd_InvalidLine⟩, enc_InvalidLine, eini_InvalidLine, etI_InvalidLine⟩
  have nf_InvalidLine := enf_InvalidLine
  have g_C1 := PySem.W.mg_of X G e_C1
  have g_C2 := PySem.W.mg_of X G e_C2
  have g_C3 := PySem.W.mg_of X G e_C3
  have Err_InvalidLine : ErrF K mg C_InvalidLine "at" "InvalidLine" [.ref C1, .ref C2, .ref C3] := ⟨⟨_, Kls_InvalidLine⟩, nf_InvalidLine, hx_InvalidLine, fun v => fi_at (z := Str.ofString "InvalidLine") (by decide +kernel) nf_InvalidLine v⟩
  have Fi_InvalidFaces := fun_mk (st := s_InvalidFaces_init) elI_InvalidFaces ecI_InvalidFaces ekI_InvalidFaces
  have bI_InvalidFaces := Fi_InvalidFaces.binds (ps := ["self", "given"]) fun _ _ _ _ _ _ us hl => match us, hl with | [_, _], _ => rfl
  have Kls_InvalidFaces : Kls K mg C_InvalidFaces fI_InvalidFaces "InvalidFaces" := ⟨PySem.W.mg_of X G eg_InvalidFaces, ⟨⟨_, _, _, _, _, _, _, _, _, _, _, _, _, _, _, el_InvalidFaces, eb_InvalidFaces⟩, esa_InvalidFaces, ex_InvalidFaces, ety_InvalidFaces, ek_InvalidFaces⟩, ⟨ecl_InvalidFaces, ega_InvalidFaces, egg_InvalidFaces, ex_InvalidFaces, efc_InvalidFaces, eob_InvalidFaces⟩, ⟨⟨_, tk_InvalidFaces, el_InvalidFaces, rfl⟩, ety_InvalidFaces, erd_InvalidFaces, efdn_InvalidFaces⟩, ⟨ega_InvalidFaces, egg_InvalidFaces, ex_InvalidFaces, ehd_InvalidFaces⟩, enc_InvalidFaces, eini_InvalidFaces, etI_InvalidFaces⟩
  have nf_InvalidFaces := enf_InvalidFaces
  have Err_InvalidFaces : ErrF K mg C_InvalidFaces "given" "InvalidFaces" [.ref C1, .ref C2, .ref C3] := ⟨⟨_, Kls_InvalidFaces⟩, nf_InvalidFaces, hx_InvalidFaces, fun v => fi_given (z := Str.ofString "InvalidFaces") (by decide +kernel) nf_InvalidFaces v⟩
  have Fi_InvalidCutters := fun_mk (st := s_InvalidCutters_init) elI_InvalidCutters ecI_InvalidCutters ekI_InvalidCutters
  have bI_InvalidCutters := Fi_InvalidCutters.binds (ps := ["self", "given"]) fun _ _ _ _ _ _ us hl => match us, hl with | [_, _], _ => rfl
  have Kls_InvalidCutters : Kls K mg C_InvalidCutters fI_InvalidCutters "InvalidCutters" := ⟨PySem.W.mg_of X G eg_InvalidCutters, ⟨⟨_, _, _, _, _, _, _, _, _, _, _, _, _, _, _, el_InvalidCutters, eb_InvalidCutters⟩, esa_InvalidCutters, ex_InvalidCutters, ety_InvalidCutters, ek_InvalidCutters⟩, ⟨ecl_InvalidCutters, ega_InvalidCutters, egg_InvalidCutters, ex_InvalidCutters, efc_InvalidCutters, eob_InvalidCutters⟩, ⟨⟨_, tk_InvalidCutters, el_InvalidCutters, rfl⟩, ety_InvalidCutters, erd_InvalidCutters, efdn_InvalidCutters⟩, ⟨ega_InvalidCutters, egg_InvalidCutters, ex_InvalidCutters, ehd_InvalidCutters⟩, enc_InvalidCutters, eini_InvalidCutters, etI_InvalidCutters⟩
  have nf_InvalidCutters := enf_InvalidCutters
  have Err_InvalidCutters : ErrF K mg C_InvalidCutters "given" "InvalidCutters" [.ref C1, .ref C2, .ref C3] := ⟨⟨_, Kls_InvalidCutters⟩, nf_InvalidCutters, hx_InvalidCutters, fun v => fi_given (z := Str.ofString "InvalidCutters") (by decide +kernel) nf_InvalidCutters v⟩
  have gB := PySem.W.mg_of X G B_g
  have BC : BookC K CB := ⟨⟨B_pg, B_hd, B_po, B_sa⟩, B_nf, B_nc, B_nl⟩
  have rC : ClX.CRead K CB (.type "type") := ⟨B_rd, B_sg⟩
  have vM : ClX.CVal K CB (.type "type") "MOST" (.int 8) (.int 8 t8) := ⟨B_most, ⟨t8, rfl⟩⟩
  have hC := BC.c
  have nf := BC.nf
  have nc := BC.nc
  have nl := BC.nl
  have F_Bi := fun_mk (st := s_Book_init) l_Bi c_Bi k_Bi
  have M : Mk K CB f_Bi := ⟨B_mk, B_init, B_ifn, B_kp⟩
  have g__LOWER := PySem.W.mg_of X G z__LOWER
  have g__MOST_FACES := PySem.W.mg_of X G z__MOST_FACES
  have F_is_string := fun_mk (st := s_is_string) l_is_string c_is_string k_is_string
  have b_is_string := F_is_string.binds (ps := ["value", "faces"]) fun _ _ _ _ _ _ us hl => match us, hl with | [_, _], _ => rfl
  have m_is_string := PySem.W.mg_of X G a_is_string
  have F_is_ascending := fun_mk (st := s_is_ascending) l_is_ascending c_is_ascending k_is_ascending
  have b_is_ascending := F_is_ascending.binds (ps := ["text"]) fun _ _ _ _ _ _ us hl => match us, hl with | [_], _ => rfl
  have m_is_ascending := PySem.W.mg_of X G a_is_ascending
  have F_is_choice := fun_mk (st := s_is_choice) l_is_choice c_is_choice k_is_choice
  have b_is_choice := F_is_choice.binds (ps := ["value", "letters", "most"]) fun _ _ _ _ _ _ us hl => match us, hl with | [_, _, _], _ => rfl
  have m_is_choice := PySem.W.mg_of X G a_is_choice
  have F_is_faces := fun_mk (st := s_is_faces) l_is_faces c_is_faces k_is_faces
  have b_is_faces := F_is_faces.binds (ps := ["value"]) fun _ _ _ _ _ _ us hl => match us, hl with | [_], _ => rfl
  have m_is_faces := PySem.W.mg_of X G a_is_faces
  have g__UPPER := PySem.W.mg_of X G z__UPPER
  have g__MOST_CUTTERS := PySem.W.mg_of X G z__MOST_CUTTERS
  have F_is_cutters := fun_mk (st := s_is_cutters) l_is_cutters c_is_cutters k_is_cutters
  have b_is_cutters := F_is_cutters.binds (ps := ["value"]) fun _ _ _ _ _ _ us hl => match us, hl with | [_], _ => rfl
  have m_is_cutters := PySem.W.mg_of X G a_is_cutters
  have F_is_letter := fun_mk (st := s_is_letter) l_is_letter c_is_letter k_is_letter
  have b_is_letter := F_is_letter.binds (ps := ["value", "letters"]) fun _ _ _ _ _ _ us hl => match us, hl with | [_, _], _ => rfl
  have m_is_letter := PySem.W.mg_of X G a_is_letter
  have F_is_part := fun_mk (st := s_is_part) l_is_part c_is_part k_is_part
  have b_is_part := F_is_part.binds (ps := ["value", "letters"]) fun _ _ _ _ _ _ us hl => match us, hl with | [_, _], _ => rfl
  have m_is_part := PySem.W.mg_of X G a_is_part
  have F_is_cut := fun_mk (st := s_is_cut) l_is_cut c_is_cut k_is_cut
  have b_is_cut := F_is_cut.binds (ps := ["value", "faces"]) fun _ _ _ _ _ _ us hl => match us, hl with | [_, _], _ => rfl
  have m_is_cut := PySem.W.mg_of X G a_is_cut
  have F_is_line := fun_mk (st := s_is_line) l_is_line c_is_line k_is_line
  have b_is_line := F_is_line.binds (ps := ["value", "faces", "cutters"]) fun _ _ _ _ _ _ us hl => match us, hl with | [_, _, _], _ => rfl
  have m_is_line := PySem.W.mg_of X G a_is_line
  have F__law_tries := fun_mk (st := s__law_tries) l__law_tries c__law_tries k__law_tries
  have b__law_tries := F__law_tries.binds (ps := ["_law_asks"]) fun _ _ _ _ _ _ us hl => match us, hl with | [_], _ => rfl
  have m__law_tries := PySem.W.mg_of X G a__law_tries
  have F__law_try := fun_mk (st := s__law_try) l__law_try c__law_try k__law_try
  have b__law_try := F__law_try.binds (ps := ["_law_ask"]) fun _ _ _ _ _ _ us hl => match us, hl with | [_], _ => rfl
  have m__law_try := PySem.W.mg_of X G a__law_try
  have F__law_field := fun_mk (st := s__law_field) l__law_field c__law_field k__law_field
  have b__law_field := F__law_field.binds (ps := ["_law_e"]) fun _ _ _ _ _ _ us hl => match us, hl with | [_], _ => rfl
  have m__law_field := PySem.W.mg_of X G a__law_field
  have F__law_same := fun_mk (st := s__law_same) l__law_same c__law_same k__law_same
  have b__law_same := F__law_same.binds (ps := ["_law_found", "_law_due"]) fun _ _ _ _ _ _ us hl => match us, hl with | [_, _], _ => rfl
  have m__law_same := PySem.W.mg_of X G a__law_same
  have F_B_len := fun_mk (st := s_Book_len) l_B_len c_B_len k_B_len
  have b_B_len := F_B_len.binds (ps := ["self"]) fun _ _ _ _ _ _ us hl => match us, hl with | [_], _ => rfl
  have hLn := at_B_len
  have hLf := fn_B_len
  have F__law_draw := fun_mk (st := s__law_draw) l__law_draw c__law_draw k__law_draw
  have b__law_draw := F__law_draw.binds (ps := ["_law_bag", "_law_many"]) fun _ _ _ _ _ _ us hl => match us, hl with | [_, _], _ => rfl
  have m__law_draw := PySem.W.mg_of X G a__law_draw
  have F__law_of := fun_mk (st := s__law_of) l__law_of c__law_of k__law_of
  have b__law_of := F__law_of.binds (ps := ["_law_bag", "_law_things"]) fun _ _ _ _ _ _ us hl => match us, hl with | [_, _], _ => rfl
  have m__law_of := PySem.W.mg_of X G a__law_of
  have F__law_bad_lines := fun_mk (st := s__law_bad_lines) l__law_bad_lines c__law_bad_lines k__law_bad_lines
  have b__law_bad_lines := F__law_bad_lines.binds (ps := ["_law_spec"]) fun _ _ _ _ _ _ us hl => match us, hl with | [_], _ => rfl
  have m__law_bad_lines := PySem.W.mg_of X G a__law_bad_lines
  have F__law_part := fun_mk (st := s__law_part) l__law_part c__law_part k__law_part
  have b__law_part := F__law_part.binds (ps := ["_law_bag", "_law_letters_here"]) fun _ _ _ _ _ _ us hl => match us, hl with | [_, _], _ => rfl
  have m__law_part := PySem.W.mg_of X G a__law_part
  have F__law_some_cut := fun_mk (st := s__law_some_cut) l__law_some_cut c__law_some_cut k__law_some_cut
  have b__law_some_cut := F__law_some_cut.binds (ps := ["_law_bag", "_law_faces"]) fun _ _ _ _ _ _ us hl => match us, hl with | [_, _], _ => rfl
  have m__law_some_cut := PySem.W.mg_of X G a__law_some_cut
  have F__law_letters := fun_mk (st := s__law_letters) l__law_letters c__law_letters k__law_letters
  have b__law_letters := F__law_letters.binds (ps := ["_law_bag", "_law_letters_here", "_law_many"]) fun _ _ _ _ _ _ us hl => match us, hl with | [_, _, _], _ => rfl
  have m__law_letters := PySem.W.mg_of X G a__law_letters
  have F__law_some_faces := fun_mk (st := s__law_some_faces) l__law_some_faces c__law_some_faces k__law_some_faces
  have b__law_some_faces := F__law_some_faces.binds (ps := ["_law_bag", "_law_most"]) fun _ _ _ _ _ _ us hl => match us, hl with | [_, _], _ => rfl
  have m__law_some_faces := PySem.W.mg_of X G a__law_some_faces
  have F__law_some_cutters := fun_mk (st := s__law_some_cutters) l__law_some_cutters c__law_some_cutters k__law_some_cutters
  have b__law_some_cutters := F__law_some_cutters.binds (ps := ["_law_bag", "_law_most"]) fun _ _ _ _ _ _ us hl => match us, hl with | [_, _], _ => rfl
  have m__law_some_cutters := PySem.W.mg_of X G a__law_some_cutters
  have F__law_some_line := fun_mk (st := s__law_some_line) l__law_some_line c__law_some_line k__law_some_line
  have b__law_some_line := F__law_some_line.binds (ps := ["_law_bag", "_law_faces", "_law_cutters"]) fun _ _ _ _ _ _ us hl => match us, hl with | [_, _, _], _ => rfl
  have m__law_some_line := PySem.W.mg_of X G a__law_some_line
  have F__law_some_book := fun_mk (st := s__law_some_book) l__law_some_book c__law_some_book k__law_some_book
  have b__law_some_book := F__law_some_book.binds (ps := ["_law_bag", "_law_sizes"]) fun _ _ _ _ _ _ us hl => match us, hl with | [_, _], _ => rfl
  have m__law_some_book := PySem.W.mg_of X G a__law_some_book
  have F__law_open := fun_mk (st := s__law_open) l__law_open c__law_open k__law_open
  have b__law_open := F__law_open.binds (ps := ["_law_script"]) fun _ _ _ _ _ _ us hl => match us, hl with | [_], _ => rfl
  have m__law_open := PySem.W.mg_of X G a__law_open
  refine ⟨PySem.W.fnOf "law" "law" (defArgs s_law) (defBody s_law) (defScope s_law) .none kV_law dc_law pm_law an_law (.ref c) ct_law, fun s v => .of_eq rfl, fun base _ _ TB => ?_⟩
  have FI_InvalidLine := ok_InvalidLine_init (P := l.prog) (w := w) (mg := mg) (base := base) Fi_InvalidLine GS
  have FI_InvalidFaces := ok_InvalidFaces_init (P := l.prog) (w := w) (mg := mg) (base := base) Fi_InvalidFaces GS
  have FI_InvalidCutters := ok_InvalidCutters_init (P := l.prog) (w := w) (mg := mg) (base := base) Fi_InvalidCutters GS
  have c_is_string : Cal l.prog w K mg base CX0 1 "is_string" s_is_string _ _ := ⟨_, _, ok_is_string F_is_string T, m_is_string, F_is_string, b_is_string⟩
  have c_is_ascending : Cal l.prog w K mg base CX0 1 "is_ascending" s_is_ascending _ _ := ⟨_, _, ok_is_ascending F_is_ascending T, m_is_ascending, F_is_ascending, b_is_ascending⟩
  have c_is_choice : Cal l.prog w K mg base CX0 2 "is_choice" s_is_choice _ _ := ⟨_, _, ok_is_choice F_is_choice T c_is_string c_is_ascending, m_is_choice, F_is_choice, b_is_choice⟩
  have c_is_faces : Cal l.prog w K mg base CX0 3 "is_faces" s_is_faces _ _ := ⟨_, _, ok_is_faces F_is_faces g__LOWER g__MOST_FACES c_is_choice, m_is_faces, F_is_faces, b_is_faces⟩
  have c_is_cutters : Cal l.prog w K mg base CX0 3 "is_cutters" s_is_cutters _ _ := ⟨_, _, ok_is_cutters F_is_cutters g__UPPER g__MOST_CUTTERS c_is_choice, m_is_cutters, F_is_cutters, b_is_cutters⟩
  have c_is_letter : Cal l.prog w K mg base CX0 1 "is_letter" s_is_letter _ _ := ⟨_, _, ok_is_letter F_is_letter T, m_is_letter, F_is_letter, b_is_letter⟩
  have c_is_part : Cal l.prog w K mg base CX0 3 "is_part" s_is_part _ _ := ⟨_, _, ok_is_part F_is_part T c_is_letter c_is_choice, m_is_part, F_is_part, b_is_part⟩
  have c_is_cut : Cal l.prog w K mg base CX0 2 "is_cut" s_is_cut _ _ := ⟨_, _, ok_is_cut F_is_cut T c_is_string, m_is_cut, F_is_cut, b_is_cut⟩
  have c_is_line : Cal l.prog w K mg base CX0 4 "is_line" s_is_line _ _ := ⟨_, _, ok_is_line F_is_line T c_is_part c_is_cut, m_is_line, F_is_line, b_is_line⟩
  have FB := fn_Book_init (P := l.prog) (w := w) (base := base) F_Bi T gB rC vM c_is_faces c_is_cutters c_is_line
  have g0 : Cal l.prog w K mg base CX0 1 "_law_same" s__law_same ["_law_found", "_law_due"] (fun _ _ _ _ => False) := ⟨_, _, nk_false, m__law_same, F__law_same, b__law_same⟩
  have g1 : Cal l.prog w K mg base CX0 2 "_law_same" s__law_same ["_law_found", "_law_due"] (sp__law_same K 0) := ⟨_, _, ok__law_same_step (n := 0) F__law_same T g0 (fun m _ _ _ _ e => absurd e (Nat.succ_ne_zero m).symm), m__law_same, F__law_same, b__law_same⟩
  have g2 : Cal l.prog w K mg base CX0 3 "_law_same" s__law_same ["_law_found", "_law_due"] (sp__law_same K 1) := ⟨_, _, ok__law_same_step (n := 1) F__law_same T g1 (fun m _ _ _ _ e h => by cases e; exact h), m__law_same, F__law_same, b__law_same⟩
  have g3 : Cal l.prog w K mg base CX0 4 "_law_same" s__law_same ["_law_found", "_law_due"] (sp__law_same K 2) := ⟨_, _, ok__law_same_step (n := 2) F__law_same T g2 (fun m _ _ _ _ e h => by cases e; exact h), m__law_same, F__law_same, b__law_same⟩
  have c__law_same : Cal l.prog w K mg base CX0 5 "_law_same" s__law_same ["_law_found", "_law_due"] (sp__law_same K 3) := ⟨_, _, ok__law_same_step (n := 3) F__law_same T g3 (fun m _ _ _ _ e h => by cases e; exact h), m__law_same, F__law_same, b__law_same⟩
  have c2_is_part : Cal l.prog w K mg base CX0 3 "is_part" s_is_part _ _ := ⟨_, _, ok2_is_part F_is_part T c_is_letter c_is_choice, m_is_part, F_is_part, b_is_part⟩
  have c3_is_line : Cal l.prog w K mg base CX0 4 "is_line" s_is_line _ _ := ⟨_, _, ok3_is_line F_is_line T c_is_part c2_is_part c_is_cut, m_is_line, F_is_line, b_is_line⟩
  have FBX := fnx_Book_init (P := l.prog) (w := w) (base := base) F_Bi T gB rC vM Kls_InvalidFaces nf_InvalidFaces FI_InvalidFaces bI_InvalidFaces Kls_InvalidCutters nf_InvalidCutters FI_InvalidCutters bI_InvalidCutters Kls_InvalidLine nf_InvalidLine FI_InvalidLine bI_InvalidLine c_is_faces c_is_cutters c3_is_line
  have FL : FnR l.prog w K mg base CX0 1 f_B_len (sp_Book_len K CB) := ((ok_Book_len (P := l.prog) (w := w) (mg := mg) (base := base) F_B_len T BC).raw b_B_len .nil).imp fun vs H Q E h => by rw [List.append_nil]; exact h
  have c__law_draw : Cal l.prog w K mg base CX0 1 "_law_draw" s__law_draw _ _ := ⟨_, _, ok__law_draw F__law_draw T, m__law_draw, F__law_draw, b__law_draw⟩
  have c__law_of : Cal l.prog w K mg base CX0 2 "_law_of" s__law_of _ _ := ⟨_, _, ok__law_of F__law_of T c__law_draw, m__law_of, F__law_of, b__law_of⟩
  have c__law_bad_lines : Cal l.prog w K mg base CX0 1 "_law_bad_lines" s__law_bad_lines _ _ := ⟨_, _, ok__law_bad_lines F__law_bad_lines T, m__law_bad_lines, F__law_bad_lines, b__law_bad_lines⟩
  have FFW := ok__law_field (P := l.prog) (w := w) (mg := mg) (base := base) F__law_field
  have c__law_part : Cal l.prog w K mg base CX0 2 "_law_part" s__law_part _ _ := ⟨_, _, ok__law_part F__law_part T c__law_draw, m__law_part, F__law_part, b__law_part⟩
  have c__law_some_cut : Cal l.prog w K mg base CX0 3 "_law_some_cut" s__law_some_cut _ _ := ⟨_, _, ok__law_some_cut F__law_some_cut c__law_of, m__law_some_cut, F__law_some_cut, b__law_some_cut⟩
  have c__law_letters : Cal l.prog w K mg base CX0 2 "_law_letters" s__law_letters _ _ := ⟨_, _, ok__law_letters F__law_letters T c__law_draw, m__law_letters, F__law_letters, b__law_letters⟩
  have c__law_some_faces : Cal l.prog w K mg base CX0 3 "_law_some_faces" s__law_some_faces _ _ := ⟨_, _, ok__law_some_faces F__law_some_faces T c__law_draw c__law_letters, m__law_some_faces, F__law_some_faces, b__law_some_faces⟩
  have c__law_some_cutters : Cal l.prog w K mg base CX0 3 "_law_some_cutters" s__law_some_cutters _ _ := ⟨_, _, ok__law_some_cutters F__law_some_cutters T c__law_draw c__law_letters, m__law_some_cutters, F__law_some_cutters, b__law_some_cutters⟩
  have c__law_some_line : Cal l.prog w K mg base CX0 4 "_law_some_line" s__law_some_line _ _ := ⟨_, _, ok__law_some_line F__law_some_line T c__law_draw c__law_part c__law_some_cut, m__law_some_line, F__law_some_line, b__law_some_line⟩
  have c__law_some_book : Cal l.prog w K mg base CX0 5 "_law_some_book" s__law_some_book _ _ := ⟨_, _, ok__law_some_book F__law_some_book T c__law_draw c__law_part c__law_some_cut c__law_some_faces c__law_some_cutters c__law_some_line, m__law_some_book, F__law_some_book, b__law_some_book⟩
  have c__law_open : Cal l.prog w K mg base CX0 1 "_law_open" s__law_open _ _ := ⟨_, _, ok__law_open F__law_open T, m__law_open, F__law_open, b__law_open⟩
  exact ok_law T l_law c_law TB Err_InvalidLine Err_InvalidFaces Err_InvalidCutters BC gB M m__law_tries k__law_tries b__law_tries (fun b2 m sub sz => ok__law_tries (P := l.prog) (w := w) (base := b2) (k := 8) F__law_tries m sub sz F__law_try m__law_try b__law_try (ok__law_field (P := l.prog) (w := w) (mg := mg) (base := b2) F__law_field) m__law_field k__law_field b__law_field g_C1 g_C2 g_C3) c__law_same FBX hLn hLf FL FB c__law_of c__law_bad_lines m__law_try k__law_try l__law_try c__law_try b__law_try FFW m__law_field k__law_field b__law_field g_C1 g_C2 g_C3 c__law_draw c__law_some_book c__law_open
end FW
open PySem PySem.W PyProof.Rows
set_option maxHeartbeats 0 in
theorem PySem.Challenge.cw_fourwalls_k05_books_refused_holds : PySem.Challenge.rw_fourwalls_k05_books_refused.Holds := by
  w_on; o_law; k_head; (case hw => w_witness2)
  k_fill
  refine' FW.walk_tab (l := PySem.Challenge.rw_fourwalls_k05_books_refused) (n := 63) (k := 15) (x := "_law_script") (sp := FW.sp_law) rfl (by decide) rfl ⟨rfl, by decide, by decide⟩ (fun w h Y => PySem.W.km_in_of Y) (fun w h Y => PySem.W.km_tabs_of Y _ List.mem_cons_self) ?hnP ?F ?hcode ?hsp
  case hsp => exact fun pr H a ns hl hP hS => ⟨a, ns, rfl, hS, hl, hP, fun _ => rfl⟩
  case hnP => exact fun pr => by kernel_rfl
  case F =>
    intro w mg fa h KX G hmg
    refine' FW.all_mk KX G hmg ?gs1 ?gs2 ?eg_InvalidLine ?el_InvalidLine ?eb_InvalidLine ?esa_InvalidLine ?ex_InvalidLine ?ety_InvalidLine ?ek_InvalidLine ?ecl_InvalidLine ?ega_InvalidLine ?egg_InvalidLine ?efc_InvalidLine ?eob_InvalidLine ?ehd_InvalidLine ?enc_InvalidLine ?enf_InvalidLine ?eini_InvalidLine ?etI_InvalidLine ?elI_InvalidLine ?ecI_InvalidLine ?ekI_InvalidLine ?erd_InvalidLine ?efdn_InvalidLine ?e_C1 ?e_C2 ?e_C3 ?hx_InvalidLine ?eg_InvalidFaces ?el_InvalidFaces ?eb_InvalidFaces ?esa_InvalidFaces ?ex_InvalidFaces ?ety_InvalidFaces ?ek_InvalidFaces ?ecl_InvalidFaces ?ega_InvalidFaces ?egg_InvalidFaces ?efc_InvalidFaces ?eob_InvalidFaces ?ehd_InvalidFaces ?enc_InvalidFaces ?enf_InvalidFaces ?eini_InvalidFaces ?etI_InvalidFaces ?elI_InvalidFaces ?ecI_InvalidFaces ?ekI_InvalidFaces ?erd_InvalidFaces ?efdn_InvalidFaces ?hx_InvalidFaces ?eg_InvalidCutters ?el_InvalidCutters ?eb_InvalidCutters ?esa_InvalidCutters ?ex_InvalidCutters ?ety_InvalidCutters ?ek_InvalidCutters ?ecl_InvalidCutters ?ega_InvalidCutters ?egg_InvalidCutters ?efc_InvalidCutters ?eob_InvalidCutters ?ehd_InvalidCutters ?enc_InvalidCutters ?enf_InvalidCutters ?eini_InvalidCutters ?etI_InvalidCutters ?elI_InvalidCutters ?ecI_InvalidCutters ?ekI_InvalidCutters ?erd_InvalidCutters ?efdn_InvalidCutters ?hx_InvalidCutters ?B_g ?B_pg ?B_hd ?B_po ?B_sa ?B_nf ?B_nc ?B_nl ?B_mk ?B_kp ?B_rd ?B_sg ?B_most ?B_init ?B_ifn ?l_Bi ?c_Bi ?k_Bi ?z__LOWER ?z__MOST_FACES ?a_is_string ?l_is_string ?c_is_string ?k_is_string ?a_is_ascending ?l_is_ascending ?c_is_ascending ?k_is_ascending ?a_is_choice ?l_is_choice ?c_is_choice ?k_is_choice ?a_is_faces ?l_is_faces ?c_is_faces ?k_is_faces ?z__UPPER ?z__MOST_CUTTERS ?a_is_cutters ?l_is_cutters ?c_is_cutters ?k_is_cutters ?a_is_letter ?l_is_letter ?c_is_letter ?k_is_letter ?a_is_part ?l_is_part ?c_is_part ?k_is_part ?a_is_cut ?l_is_cut ?c_is_cut ?k_is_cut ?a_is_line ?l_is_line ?c_is_line ?k_is_line ?a__law_tries ?l__law_tries ?c__law_tries ?k__law_tries ?a__law_try ?l__law_try ?c__law_try ?k__law_try ?a__law_field ?l__law_field ?c__law_field ?k__law_field ?a__law_same ?l__law_same ?c__law_same ?k__law_same ?at_B_len ?fn_B_len ?l_B_len ?c_B_len ?k_B_len ?a__law_draw ?l__law_draw ?c__law_draw ?k__law_draw ?a__law_of ?l__law_of ?c__law_of ?k__law_of ?a__law_bad_lines ?l__law_bad_lines ?c__law_bad_lines ?k__law_bad_lines ?a__law_part ?l__law_part ?c__law_part ?k__law_part ?a__law_some_cut ?l__law_some_cut ?c__law_some_cut ?k__law_some_cut ?a__law_letters ?l__law_letters ?c__law_letters ?k__law_letters ?a__law_some_faces ?l__law_some_faces ?c__law_some_faces ?k__law_some_faces ?a__law_some_cutters ?l__law_some_cutters ?c__law_some_cutters ?k__law_some_cutters ?a__law_some_line ?l__law_some_line ?c__law_some_line ?k__law_some_line ?a__law_some_book ?l__law_some_book ?c__law_some_book ?k__law_some_book ?a__law_open ?l__law_open ?c__law_open ?k__law_open ?a_law ?l_law ?c_law ?y_isinstance ?y_str ?y_all ?y_any ?y_len ?y_int ?y_list ?y_abs ?y_bool ?y_tuple ?y_zip ?y_range ?y_enumerate ?y_sorted ?y_dict ?y_set ?y_sum ?y_min ?y_max ?y_reversed ?y_repr ?y_ord
    case gs1 => first | k_is | kernel_rfl
    case gs2 => first | k_is | kernel_rfl
    case eg_InvalidLine => first | k_is | kernel_rfl
    case el_InvalidLine => first | k_is | kernel_rfl
    case eb_InvalidLine => first | k_is | kernel_rfl
    case esa_InvalidLine => first | k_is | kernel_rfl
    case ex_InvalidLine => first | k_is | kernel_rfl
    case ety_InvalidLine => first | k_is | kernel_rfl
    case ek_InvalidLine => first | k_is | kernel_rfl
    case ecl_InvalidLine => first | k_is | kernel_rfl
    case ega_InvalidLine => first | k_is | kernel_rfl
    case egg_InvalidLine => first | k_is | kernel_rfl
    case efc_InvalidLine => first | k_is | kernel_rfl
    case eob_InvalidLine => first | k_is | kernel_rfl
    case ehd_InvalidLine => first | k_is | kernel_rfl
    case enc_InvalidLine => first | k_is | kernel_rfl
    case enf_InvalidLine => first | k_is | kernel_rfl
    case eini_InvalidLine => first | k_is | kernel_rfl
    case etI_InvalidLine => first | k_is | kernel_rfl
    case elI_InvalidLine => first | k_is | kernel_rfl
    case ecI_InvalidLine => first | k_is | kernel_rfl
    case ekI_InvalidLine => first | k_is | kernel_rfl
    case erd_InvalidLine => first | k_is | kernel_rfl
    case efdn_InvalidLine => first | k_is | kernel_rfl
    case e_C1 => first | k_is | kernel_rfl
    case e_C2 => first | k_is | kernel_rfl
    case e_C3 => first | k_is | kernel_rfl
    case hx_InvalidLine => first | k_is | kernel_rfl
    case eg_InvalidFaces => first | k_is | kernel_rfl
    case el_InvalidFaces => first | k_is | kernel_rfl
    case eb_InvalidFaces => first | k_is | kernel_rfl
    case esa_InvalidFaces => first | k_is | kernel_rfl
    case ex_InvalidFaces => first | k_is | kernel_rfl
    case ety_InvalidFaces => first | k_is | kernel_rfl
    case ek_InvalidFaces => first | k_is | kernel_rfl
    case ecl_InvalidFaces => first | k_is | kernel_rfl
    case ega_InvalidFaces => first | k_is | kernel_rfl
    case egg_InvalidFaces => first | k_is | kernel_rfl
    case efc_InvalidFaces => first | k_is | kernel_rfl
    case eob_InvalidFaces => first | k_is | kernel_rfl
    case ehd_InvalidFaces => first | k_is | kernel_rfl
    case enc_InvalidFaces => first | k_is | kernel_rfl
    case enf_InvalidFaces => first | k_is | kernel_rfl
    case eini_InvalidFaces => first | k_is | kernel_rfl
    case etI_InvalidFaces => first | k_is | kernel_rfl
    case elI_InvalidFaces => first | k_is | kernel_rfl
    case ecI_InvalidFaces => first | k_is | kernel_rfl
    case ekI_InvalidFaces => first | k_is | kernel_rfl
    case erd_InvalidFaces => first | k_is | kernel_rfl
    case efdn_InvalidFaces => first | k_is | kernel_rfl
    case hx_InvalidFaces => first | k_is | kernel_rfl
    case eg_InvalidCutters => first | k_is | kernel_rfl
    case el_InvalidCutters => first | k_is | kernel_rfl
    case eb_InvalidCutters => first | k_is | kernel_rfl
    case esa_InvalidCutters => first | k_is | kernel_rfl
    case ex_InvalidCutters => first | k_is | kernel_rfl
    case ety_InvalidCutters => first | k_is | kernel_rfl
    case ek_InvalidCutters => first | k_is | kernel_rfl
    case ecl_InvalidCutters => first | k_is | kernel_rfl
    case ega_InvalidCutters => first | k_is | kernel_rfl
    case egg_InvalidCutters => first | k_is | kernel_rfl
    case efc_InvalidCutters => first | k_is | kernel_rfl
    case eob_InvalidCutters => first | k_is | kernel_rfl
    case ehd_InvalidCutters => first | k_is | kernel_rfl
    case enc_InvalidCutters => first | k_is | kernel_rfl
    case enf_InvalidCutters => first | k_is | kernel_rfl
    case eini_InvalidCutters => first | k_is | kernel_rfl
    case etI_InvalidCutters => first | k_is | kernel_rfl
    case elI_InvalidCutters => first | k_is | kernel_rfl
    case ecI_InvalidCutters => first | k_is | kernel_rfl
    case ekI_InvalidCutters => first | k_is | kernel_rfl
    case erd_InvalidCutters => first | k_is | kernel_rfl
    case efdn_InvalidCutters => first | k_is | kernel_rfl
    case hx_InvalidCutters => first | k_is | kernel_rfl
    case B_g => first | k_is | kernel_rfl
    case B_pg => first | k_is | kernel_rfl
    case B_hd => first | k_is | kernel_rfl
    case B_po => first | k_is | kernel_rfl
    case B_sa => first | k_is | kernel_rfl
    case B_nf => first | k_is | kernel_rfl
    case B_nc => first | k_is | kernel_rfl
    case B_nl => first | k_is | kernel_rfl
    case B_mk => first | k_is | kernel_rfl
    case B_kp => first | k_is | kernel_rfl
    case B_rd => first | k_is | kernel_rfl
    case B_sg => first | k_is | kernel_rfl
    case B_most => first | k_is | kernel_rfl
    case B_init => first | k_is | kernel_rfl
    case B_ifn => first | k_is | kernel_rfl
    case l_Bi => first | k_is | kernel_rfl
    case c_Bi => first | k_is | kernel_rfl
    case k_Bi => first | k_is | kernel_rfl
    case z__LOWER => first | k_is | kernel_rfl
    case z__MOST_FACES => first | k_is | kernel_rfl
    case a_is_string => first | k_is | kernel_rfl
    case l_is_string => first | k_is | kernel_rfl
    case c_is_string => first | k_is | kernel_rfl
    case k_is_string => first | k_is | kernel_rfl
    case a_is_ascending => first | k_is | kernel_rfl
    case l_is_ascending => first | k_is | kernel_rfl
    case c_is_ascending => first | k_is | kernel_rfl
    case k_is_ascending => first | k_is | kernel_rfl
    case a_is_choice => first | k_is | kernel_rfl
    case l_is_choice => first | k_is | kernel_rfl
    case c_is_choice => first | k_is | kernel_rfl
    case k_is_choice => first | k_is | kernel_rfl
    case a_is_faces => first | k_is | kernel_rfl
    case l_is_faces => first | k_is | kernel_rfl
    case c_is_faces => first | k_is | kernel_rfl
    case k_is_faces => first | k_is | kernel_rfl
    case z__UPPER => first | k_is | kernel_rfl
    case z__MOST_CUTTERS => first | k_is | kernel_rfl
    case a_is_cutters => first | k_is | kernel_rfl
    case l_is_cutters => first | k_is | kernel_rfl
    case c_is_cutters => first | k_is | kernel_rfl
    case k_is_cutters => first | k_is | kernel_rfl
    case a_is_letter => first | k_is | kernel_rfl
    case l_is_letter => first | k_is | kernel_rfl
    case c_is_letter => first | k_is | kernel_rfl
    case k_is_letter => first | k_is | kernel_rfl
    case a_is_part => first | k_is | kernel_rfl
    case l_is_part => first | k_is | kernel_rfl
    case c_is_part => first | k_is | kernel_rfl
    case k_is_part => first | k_is | kernel_rfl
    case a_is_cut => first | k_is | kernel_rfl
    case l_is_cut => first | k_is | kernel_rfl
    case c_is_cut => first | k_is | kernel_rfl
    case k_is_cut => first | k_is | kernel_rfl
    case a_is_line => first | k_is | kernel_rfl
    case l_is_line => first | k_is | kernel_rfl
    case c_is_line => first | k_is | kernel_rfl
    case k_is_line => first | k_is | kernel_rfl
    case a__law_tries => first | k_is | kernel_rfl
    case l__law_tries => first | k_is | kernel_rfl
    case c__law_tries => first | k_is | kernel_rfl
    case k__law_tries => first | k_is | kernel_rfl
    case a__law_try => first | k_is | kernel_rfl
    case l__law_try => first | k_is | kernel_rfl
    case c__law_try => first | k_is | kernel_rfl
    case k__law_try => first | k_is | kernel_rfl
    case a__law_field => first | k_is | kernel_rfl
    case l__law_field => first | k_is | kernel_rfl
    case c__law_field => first | k_is | kernel_rfl
    case k__law_field => first | k_is | kernel_rfl
    case a__law_same => first | k_is | kernel_rfl
    case l__law_same => first | k_is | kernel_rfl
    case c__law_same => first | k_is | kernel_rfl
    case k__law_same => first | k_is | kernel_rfl
    case at_B_len => first | k_is | kernel_rfl
    case fn_B_len => first | k_is | kernel_rfl
    case l_B_len => first | k_is | kernel_rfl
    case c_B_len => first | k_is | kernel_rfl
    case k_B_len => first | k_is | kernel_rfl
    case a__law_draw => first | k_is | kernel_rfl
    case l__law_draw => first | k_is | kernel_rfl
    case c__law_draw => first | k_is | kernel_rfl
    case k__law_draw => first | k_is | kernel_rfl
    case a__law_of => first | k_is | kernel_rfl
    case l__law_of => first | k_is | kernel_rfl
    case c__law_of => first | k_is | kernel_rfl
    case k__law_of => first | k_is | kernel_rfl
    case a__law_bad_lines => first | k_is | kernel_rfl
    case l__law_bad_lines => first | k_is | kernel_rfl
    case c__law_bad_lines => first | k_is | kernel_rfl
    case k__law_bad_lines => first | k_is | kernel_rfl
    case a__law_part => first | k_is | kernel_rfl
    case l__law_part => first | k_is | kernel_rfl
    case c__law_part => first | k_is | kernel_rfl
    case k__law_part => first | k_is | kernel_rfl
    case a__law_some_cut => first | k_is | kernel_rfl
    case l__law_some_cut => first | k_is | kernel_rfl
    case c__law_some_cut => first | k_is | kernel_rfl
    case k__law_some_cut => first | k_is | kernel_rfl
    case a__law_letters => first | k_is | kernel_rfl
    case l__law_letters => first | k_is | kernel_rfl
    case c__law_letters => first | k_is | kernel_rfl
    case k__law_letters => first | k_is | kernel_rfl
    case a__law_some_faces => first | k_is | kernel_rfl
    case l__law_some_faces => first | k_is | kernel_rfl
    case c__law_some_faces => first | k_is | kernel_rfl
    case k__law_some_faces => first | k_is | kernel_rfl
    case a__law_some_cutters => first | k_is | kernel_rfl
    case l__law_some_cutters => first | k_is | kernel_rfl
    case c__law_some_cutters => first | k_is | kernel_rfl
    case k__law_some_cutters => first | k_is | kernel_rfl
    case a__law_some_line => first | k_is | kernel_rfl
    case l__law_some_line => first | k_is | kernel_rfl
    case c__law_some_line => first | k_is | kernel_rfl
    case k__law_some_line => first | k_is | kernel_rfl
    case a__law_some_book => first | k_is | kernel_rfl
    case l__law_some_book => first | k_is | kernel_rfl
    case c__law_some_book => first | k_is | kernel_rfl
    case k__law_some_book => first | k_is | kernel_rfl
    case a__law_open => first | k_is | kernel_rfl
    case l__law_open => first | k_is | kernel_rfl
    case c__law_open => first | k_is | kernel_rfl
    case k__law_open => first | k_is | kernel_rfl
    case a_law => first | k_is | kernel_rfl
    case l_law => first | k_is | kernel_rfl
    case c_law => first | k_is | kernel_rfl
    case y_isinstance => first | k_is | kernel_rfl
    case y_str => first | k_is | kernel_rfl
    case y_all => first | k_is | kernel_rfl
    case y_any => first | k_is | kernel_rfl
    case y_len => first | k_is | kernel_rfl
    case y_int => first | k_is | kernel_rfl
    case y_list => first | k_is | kernel_rfl
    case y_abs => first | k_is | kernel_rfl
    case y_bool => first | k_is | kernel_rfl
    case y_tuple => first | k_is | kernel_rfl
    case y_zip => first | k_is | kernel_rfl
    case y_range => first | k_is | kernel_rfl
    case y_enumerate => first | k_is | kernel_rfl
    case y_sorted => first | k_is | kernel_rfl
    case y_dict => first | k_is | kernel_rfl
    case y_set => first | k_is | kernel_rfl
    case y_sum => first | k_is | kernel_rfl
    case y_min => first | k_is | kernel_rfl
    case y_max => first | k_is | kernel_rfl
    case y_reversed => first | k_is | kernel_rfl
    case y_repr => first | k_is | kernel_rfl
    case y_ord => first | k_is | kernel_rfl
  case hcode => exact fun pr => by kernel_rfl
