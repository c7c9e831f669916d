import PyProof.Rows.All
import Wide.All
import OpenK.AllK
import Wide.FinOn
import PyProof.EqAt
import PyProof.EqKinds
import PyProof.TupleCall
import KE.KUnpack
import HandS.Base
import HandS.Call
import HandS.List
import HandS.Comp
import HandS.Iter
import HandS.Text
import HandS.Words
import HandS.WordsList
import KE.GoesMore
import HandS.Walk
import HandS.Style
import KE.KRevSl
import HandS.IsInst
import HandS.Ends
import HandS.Zip
import HandS.Codes
import KE.KTypeName
import KE.KExcIs
import HandS.Exc
import HandS.ExcInit
import HandS.ExcField
import KE.KTryMore
import HandS.HotCalls
import HandS.Lambda
import HandS.WordsExc
import KE.GoesEnum
import HandS.Star
import HandS.SlotsOwn
import PyProof.InstEq
import HandS.SortRule
import KE.KSortTupAny
import PyProof.Rows.SortShellAny
import PyProof.StrBlock2
import HandS.TupMul
import PyProof.Rows.Range3
import PyProof.Conv_bool
import HandS.Conv
import PyProof.ListStr
import HandS.Defaults
import HandS.More
import HandS.FStr
import HandS.ClsMeth
import HandS.EndTab
import HandS.HeadHook4
import PyProof.Rows.StrFin3
import HandS.Property
import HandS.NoneIn
import PySem.Challenge.RW_fourwalls_k11_machines_told
set_option Elab.async false
set_option linter.all false
set_option maxRecDepth 100000
set_option maxHeartbeats 16000000
namespace L2
open PySem PySem.Spec PySem.Calls PyProof.Rows
/-! ### a text unpacked into names -/
abbrev sgn (c : Nat) : V := .str ⟨#[c]⟩
section
variable {prog : Program} {w : World} {A : Around} {E : Value → Shared → Prop}
theorem draw_str {it : Addr} {x : Str} {t : Tok} {ty : String} (hty : ty = "str_ascii_iterator" ∨ ty = "str_iterator") : ∀ (n i : Nat) (s : Shared) (Q : List Value → Shared → Prop), s.heap.IsStrIter it ty x t i → i + n ≤ x.cps.size →
    (∀ h' tk us, h'.IsStrIter it ty x t (i + n) → Heap.SameBut it s.heap h' → Vals (((x.cps.toList.drop i).take n).map sgn) us → Q us { s with heap := h', toks := tk }) → wpAny (model prog w) A (draw (.ref it) n) Q E s
  | 0, i, s, Q, hit, _, hQ => by
    show wpAny _ _ (pure []) Q E s
    exact wpAny_pure (hQ s.heap s.toks [] hit (Heap.SameBut.refl ..) .nil)
  | n + 1, i, s, Q, hit, hle, hQ => by
    have hlt : i < x.cps.size := by omega
    show wpAny _ _ (pyNext (.ref it) >>= _) Q E s
    have hx : x.cps[i]? = some x.cps[i] := Array.getElem?_eq_getElem hlt
    have hd : x.cps.toList.drop i = x.cps[i] :: x.cps.toList.drop (i + 1) := by
      rw [List.drop_eq_getElem_cons (by simpa using hlt)]
      simp
    have go : ∀ h₁, h₁.IsStrIter it ty x t (i + 1) → Heap.SameBut it s.heap h₁ → wpAny (model prog w) A (match (some (.str ⟨#[x.cps[i]]⟩ s.toks) : Option Value) with
        | none => pure []
        | some v => do return v :: (← holding [v] (draw (.ref it) n))) Q E { s with heap := h₁, toks := s.toks + 1 } := fun h₁ hit₁ hs₁ => by
      refine wpAny_bind (wpAny_holding (draw_str hty n (i + 1) _ _ hit₁ (by omega) fun h₂ tk us hit₂ hs₂ r => wpAny_pure ?_))
      refine hQ h₂ tk _ (by rw [show i + (n + 1) = i + 1 + n by omega]; exact hit₂) (hs₁.trans hs₂) ?_
      rw [hd, List.take_succ_cons, List.map_cons]
      exact .cons ⟨_, rfl⟩ r
    rcases hty with e | e
    · subst e
      exact wpAny_bind (wpAny_pyNext_ascii_item hit hx fun h₁ hit₁ hs₁ => go h₁ hit₁ hs₁)
    · subst e
      exact wpAny_bind (wpAny_pyNext_wide_item hit hx fun h₁ hit₁ hs₁ => go h₁ hit₁ hs₁)
theorem items_str {x : Str} {t : Tok} {s : Shared} {Q : List Value → Shared → Prop} (hh : A.handled = none)
    (hQ : ∀ h' tk us, Heap.ExtBut s.heap.objs.size s.heap h' → Vals (x.cps.toList.map sgn) us → Q us { s with heap := h', toks := tk }) : wpAny (model prog w) A (unpackItems (.str x t) x.cps.size none) Q E s := by
  unfold unpackItems
  refine wpAny_bind ?_
  unfold notIterableAtAll
  refine wpAny_bind (wpAny_specialOf (typeIs_str s x t) F.slot_str_iter.lookup ?_)
  refine wpAny_pure ?_
  simp only [Bool.false_eq_true, if_false]
  have go : ∀ (ty : String), ty = "str_ascii_iterator" ∨ ty = "str_iterator" → ∀ s₁ : Shared, s₁ = { s with heap := s.heap.push { cls := .type ty, data := .fields #[.str x t, .int 0 0] } } → 
      wpAny (model prog w) A (do
        let items ← holding [.ref s.heap.objs.size] (draw (.ref s.heap.objs.size) x.cps.size)
        if items.length < x.cps.size then
          rule "unpack.too-few"; raiseError "ValueError" s!"not enough values to unpack (expected {x.cps.size}, got {items.length})"
        if (← holding items (pyNext (.ref s.heap.objs.size))).isSome then
          rule "unpack.too-many"; raiseError "ValueError" s!"too many values to unpack (expected {x.cps.size})"
        return items) Q E s₁ := fun ty hty s₁ hs => by
    subst hs
    have hit0 : (s.heap.push { cls := .type ty, data := .fields #[.str x t, .int 0 0] }).IsStrIter s.heap.objs.size ty x t 0 := ⟨_, Heap.get?_push_size _ rfl, rfl, rfl⟩
    refine wpAny_bind (wpAny_holding (draw_str hty x.cps.size 0 _ _ hit0 (by omega) fun h₁ tk us hit₁ hs₁ r => ?_))
    have hall : (x.cps.toList.drop 0).take x.cps.size = x.cps.toList := by
      rw [List.drop_zero]; exact List.take_of_length_le (by simp)
    rw [hall] at r
    have hl : us.length = x.cps.size := by rw [← r.length, List.length_map]; simp
    rw [if_neg (by omega)]
    have fin : ∀ h₂, Heap.ExtBut s.heap.objs.size h₁ h₂ → Heap.ExtBut s.heap.objs.size s.heap h₂ := fun h₂ he₂ b o hb e => he₂ b o hb (hs₁.extBut b o hb (Heap.get?_push_of_some _ e))
    have hend : x.cps[0 + x.cps.size]? = none := Array.getElem?_eq_none (by omega)
    rcases hty with e | e
    · subst e
      refine wpAny_bind (wpAny_holding (wpAny_pyNext_ascii_end (s := { s with heap := h₁, toks := tk }) hh hit₁ hend fun h₂ he₂ => ?_))
      simp only [Option.isSome_none, Bool.false_eq_true, if_false]
      exact wpAny_pure (hQ h₂ tk us (fin h₂ he₂) r)
    · subst e
      refine wpAny_bind (wpAny_holding (wpAny_pyNext_wide_end (s := { s with heap := h₁, toks := tk }) hh hit₁ hend fun h₂ he₂ => ?_))
      simp only [Option.isSome_none, Bool.false_eq_true, if_false]
      exact wpAny_pure (hQ h₂ tk us (fin h₂ he₂) r)
  cases ha : x.cps.all (· < 128)
  · exact wpAny_bind (wpAny_holding (wpAny_pyIter_wide ha (go _ (.inr rfl) _ rfl)))
  · exact wpAny_bind (wpAny_holding (wpAny_pyIter_ascii ha (go _ (.inl rfl) _ rfl)))
end
section
variable {X : Cx} {pos : Pos}
/-- (a, b, ..) = a text of that many signs -/
def gUstr (n : Nat) (t : TGs) : TG := fun v σ H Q => ∃ z : Str, v = .str z ∧ z.cps.size = n ∧ t (z.cps.toList.map sgn) σ H Q
theorem pg_ustr {es : List Expr} {k : Nat} {t : TGs} {n : Nat} (hc : X.calm = true) (h : PGs X es t)
    (hn : (assignEach es X.env).length = n := by rfl) (hst : (assignEach es X.env).findIdx? (·.1) = none := by rfl) : PG X (.Tuple es k pos) (gUstr n t) := by
  refine ⟨fun pins s σ H v u Q I r hw => ?_⟩
  obtain ⟨z, e1, hz, hw⟩ := hw
  subst e1
  obtain ⟨tk0, rfl⟩ := r
  have hn' : (assignEach es X.env).length = z.cps.size := hn.trans hz.symm
  rw [PyProof.Rows.assign_Tuple]
  refine wpAny_bind (wpAny_standAt ?_)
  unfold unpack
  rw [hn', hst]
  refine wpAny_bind (wpAny_holding (items_str (I.ok.hd hc) fun h' tk us hx r => ?_))
  have I1 : Inv X pins σ H { s with heap := h', toks := tk } := I.kept (t' := tk) fun b o e => hx b o (Nat.ne_of_lt (Heap.lt_size e)) e
  exact h.run pins _ σ H _ us Q I1 r hw
end
/-! ### a call by keywords alone -/
section
variable {X : Cx} {CX : CXT} {k : Nat} {f : Addr} {fd : FuncData} {ps ks : List Str} {sp : Sp} {E : XK} {x : Str} {p pos kpos : Pos} {e : Expr} {kws : List Keyword} {tk : TA} {nm : Option Str} {g : List Value → List Value → List Value} {gV : List V → List V → List V}
theorem pe_callK0 (F : FnOk X.prog X.w X.K X.mg X.base CX k f fd ps sp) (hr : Room k X.A) (hg : Gl X x) (hm : X.mg x = some (.ref f)) (hk : PySem.W.keepIn X.K (.ref f) = true) (hb : KBinds X.K fd ps ks g gV) (hx : Passes CX X E)
    (hkw : PK X kws tk) (hall : (backToKw pos (keywordEach kws X.env)).all (·.1.isSome) = true := by rfl) (hks : (backToKw pos (keywordEach kws X.env)).filterMap (·.1) = ks := by rfl)
    (hdb : (x == ("__debug__" : Str)) = false := by decide)
    (hpl : ((backTo pos (starEach [] X.env)).any (·.1) || (backToKw pos (keywordEach kws X.env)).any (·.1.isNone)) = false := by rfl) :
    PE X (.Call (.Name x p) [] kws pos) (tCallK sp gV E tNil tk) := by
  refine ⟨fun pins s σ H Q I h => ?_⟩
  refine wpAny_Call_Name_kw (ld_glob I hg hm ?_ hdb)
  refine PySem.W.callWith_KW0 (h₀ := X.base) I.ok.mod.kin hk hall (thn (hkw.run pos pins s σ H _ I h) fun ws s2 ⟨zs, H2, I2, rz, q2⟩ => ⟨I2.kIn, ?_⟩) hpl
  rw [hks]
  exact run_fnk F hr hb hx I2 .nil rz q2
end
/-! ### a def of the module, by its name -/
structure Cal (P : Program) (w : World) (K : PySem.W.Frag) (mg : Str → Option Value) (base : Heap) (CX : CXT) (k : Nat) (x : Str) (st : Stmt) (ps : List Str) (sp : Sp) : Prop where
  ex : ∃ (f : Addr) (fd : FuncData), FnOk P w K mg base CX k f fd ps sp ∧ mg x = some (.ref f) ∧ Fun K x x st f fd ∧ Binds K fd ps []
/-- how a call with keywords binds, for every such def's data -/
def KB (K : PySem.W.Frag) (x : Str) (st : Stmt) (ps ks : List Str) (g : List Value → List Value → List Value) (gV : List V → List V → List V) : Prop := ∀ (f : Addr) (fd : FuncData), Fun K x x st f fd → KBinds K fd ps ks g gV
section
variable {X : Cx} {CX : CXT} {k j : Nat} {x : Str} {st : Stmt} {ps ks : List Str} {sp : Sp} {E : XK} {p pos : Pos} {e : Expr} {es : List Expr} {kws : List Keyword} {t tk : TA} {g : List Value → List Value → List Value} {gV : List V → List V → List V}
theorem pe_cx (c : Cal X.prog X.w X.K X.mg X.base CX k x st ps sp) (hr : Room j X.A) (hk : k ≤ j) (hg : Gl X x) (hx : Passes CX X E) (ha : PA X (e :: es) t)
    (hdb : (x == ("__debug__" : Str)) = false := by decide) (he : starEach (e :: es) X.env = (false, eval e X.env) :: starEach es X.env := by rfl) (hpl : (backTo pos (starEach es X.env)).any (·.1) = false := by rfl) :
    PE X (.Call (.Name x p) (e :: es) [] pos) (tCall sp [] E t) := by
  obtain ⟨f, fd, F, hm, fn, b⟩ := c.ex
  exact pe_call F (hr.mono hk) hg hm fn.kp b .nil hx ha hdb he hpl
theorem pe_cx0 (c : Cal X.prog X.w X.K X.mg X.base CX k x st ps sp) (hr : Room j X.A) (hk : k ≤ j) (hg : Gl X x) (hx : Passes CX X E)
    (hdb : (x == ("__debug__" : Str)) = false := by decide) : PE X (.Call (.Name x p) [] [] pos) (tCall sp [] E tNil) := by
  obtain ⟨f, fd, F, hm, fn, b⟩ := c.ex
  exact pe_call0 F (hr.mono hk) hg hm fn.kp b .nil hx hdb
theorem pe_c (c : Cal X.prog X.w X.K X.mg X.base CX0 k x st ps sp) (hr : Room j X.A) (hk : k ≤ j) (hg : Gl X x) (ha : PA X (e :: es) t)
    (hdb : (x == ("__debug__" : Str)) = false := by decide) (he : starEach (e :: es) X.env = (false, eval e X.env) :: starEach es X.env := by rfl) (hpl : (backTo pos (starEach es X.env)).any (·.1) = false := by rfl) :
    PE X (.Call (.Name x p) (e :: es) [] pos) (tCall sp [] E0 t) := pe_cx c hr hk hg pass0 ha hdb he hpl
theorem pe_ck (c : Cal X.prog X.w X.K X.mg X.base CX0 k x st ps sp) (b : KB X.K x st ps ks g gV) (hr : Room j X.A) (hk : k ≤ j) (hg : Gl X x) (ha : PA X (e :: es) t) (hkw : PK X kws tk)
    (hall : (backToKw pos (keywordEach kws X.env)).all (·.1.isSome) = true := by rfl) (hks : (backToKw pos (keywordEach kws X.env)).filterMap (·.1) = ks := by rfl)
    (hdb : (x == ("__debug__" : Str)) = false := by decide) (he : starEach (e :: es) X.env = (false, eval e X.env) :: starEach es X.env := by rfl)
    (hpl : ((backTo pos (starEach (e :: es) X.env)).any (·.1) || (backToKw pos (keywordEach kws X.env)).any (·.1.isNone)) = false := by rfl) :
    PE X (.Call (.Name x p) (e :: es) kws pos) (tCallK sp gV E0 t tk) := by
  obtain ⟨f, fd, F, hm, fn, _⟩ := c.ex
  exact pe_callK F (hr.mono hk) hg hm fn.kp (b f fd fn) pass0 ha hkw hall hks hdb he hpl
theorem pe_ck0 (c : Cal X.prog X.w X.K X.mg X.base CX0 k x st ps sp) (b : KB X.K x st ps ks g gV) (hr : Room j X.A) (hk : k ≤ j) (hg : Gl X x) (hkw : PK X kws tk)
    (hall : (backToKw pos (keywordEach kws X.env)).all (·.1.isSome) = true := by rfl) (hks : (backToKw pos (keywordEach kws X.env)).filterMap (·.1) = ks := by rfl)
    (hdb : (x == ("__debug__" : Str)) = false := by decide) 
    (hpl : ((backTo pos (starEach [] X.env)).any (·.1) || (backToKw pos (keywordEach kws X.env)).any (·.1.isNone)) = false := by rfl) :
    PE X (.Call (.Name x p) [] kws pos) (tCallK sp gV E0 tNil tk) := by
  obtain ⟨f, fd, F, hm, fn, _⟩ := c.ex
  exact pe_callK0 F (hr.mono hk) hg hm fn.kp (b f fd fn) pass0 hkw hall hks hdb hpl
end
/-! ### heaps -/
theorem same_upd {H : Hp} {p : Addr} {o : HO} (h : H p = none) : Same H (upd H p o) := fun b x e => by
  rw [upd_ne (ne_of_none e h)]
  exact e
/-- all that was tracked but what stands at b -/
def But (b : Addr) (H H' : Hp) : Prop := ∀ a o, a ≠ b → H a = some o → H' a = some o
theorem But.refl (b : Addr) (H : Hp) : But b H H := fun _ _ _ h => h
theorem But.trans {b : Addr} {H H1 H2 : Hp} (x : But b H H1) (y : But b H1 H2) : But b H H2 := fun a o n h => y a o n (x a o n h)
theorem Same.but {b : Addr} {H H' : Hp} (x : Same H H') : But b H H' := fun a o _ h => x a o h
theorem But.seq {K : PySem.W.Frag} {b a : Addr} {H H' : Hp} {xs : List V} (e : But b H H') (n : a ≠ b) (h : SqL K H a xs) : SqL K H' a xs := by
  rcases h with (h | ⟨o, h⟩) | h
  · exact .inl (.inl (e _ _ n h))
  · exact .inl (.inr ⟨o, e _ _ n h⟩)
  · exact .inr h
theorem But.upd {b : Addr} {H0 H : Hp} {o : HO} (s : But b H0 H) : But b H0 (upd H b o) := fun a x n e => by
  rw [upd_ne n]
  exact s a x n e
theorem Same.tup {K : PySem.W.Frag} {a : Addr} {H H' : Hp} {xs : List V} (e : Same H H') (h : SqT K H a xs) : SqT K H' a xs := by
  rcases h with (h | ⟨o, h⟩) | h
  · exact .inl (.inl (e _ _ h))
  · exact .inl (.inr ⟨o, e _ _ h⟩)
  · exact .inr h
theorem But.tup {K : PySem.W.Frag} {b a : Addr} {H H' : Hp} {xs : List V} (e : But b H H') (n : a ≠ b) (h : SqT K H a xs) : SqT K H' a xs := by
  rcases h with (h | ⟨o, h⟩) | h
  · exact .inl (.inl (e _ _ n h))
  · exact .inl (.inr ⟨o, e _ _ n h⟩)
  · exact .inr h
end L2
namespace L2
open PySem PySem.Spec PySem.Calls PyProof.Rows
/-! ### zip of lists, tuples and texts in any mix -/
/-- what such a thing is: a list or a tuple at an address, a text -/
inductive SK where
  | l (a : Addr) | t (a : Addr) | s (x : Str) (k : Tok)
def SK.iter : SK → Addr → Nat → Heap → Prop
  | .l a, it, i, h => h.IsListIter it a i
  | .t a, it, i, h => h.IsTupleIter it a i
  | .s x k, it, i, h => h.IsStrIter it (strIterType x) x k i
def SK.at : SK → Addr → Prop
  | .l a, c => c = a
  | .t a, c => c = a
  | .s _ _, _ => False
def SK.val : SK → V
  | .l a => .ref a
  | .t a => .ref a
  | .s x _ => .str x
/-- its items, by the abstract heap -/
inductive Src (K : PySem.W.Frag) (H : Hp) : V → List V → Prop where
  | l {a : Addr} {xs : List V} (h : SqL K H a xs) : Src K H (.ref a) xs
  | t {a : Addr} {xs : List V} (h : SqT K H a xs) : Src K H (.ref a) xs
  | s {x : Str} {xs : List V} (h : xs = x.cps.toList.map sgn) : Src K H (.str x) xs
/-- .. of a known kind -/
def SK.src (K : PySem.W.Frag) (H : Hp) : SK → List V → Prop
  | .l a, xs => SqL K H a xs
  | .t a, xs => SqT K H a xs
  | .s x _, xs => xs = x.cps.toList.map sgn
def SK.obj : SK → Obj
  | .l a => { cls := .type "list_iterator", data := .fields #[.ref a, .int 0 0] }
  | .t a => { cls := .type "tuple_iterator", data := .fields #[.ref a, .int 0 0] }
  | .s x k => { cls := .type (strIterType x), data := .fields #[.str x k, .int 0 0] }
def SK.raw : SK → Value
  | .l a => .ref a
  | .t a => .ref a
  | .s x k => .str x k
theorem SK.iter_keep {k : SK} {it : Addr} {i : Nat} {h h' : Heap} (s : k.iter it i h) (q : ∀ o, h.get? it = some o → h'.get? it = some o) : k.iter it i h' := by
  cases k with
  | l a => exact Heap.IsListIter.at s q
  | t a => exact Heap.IsTupleIter.at s q
  | s x k => exact let ⟨o, ho, r⟩ := s; ⟨o, q o ho, r⟩
theorem SK.iter_obj {k : SK} {it : Addr} {i : Nat} {h : Heap} (s : k.iter it i h) : ∃ o, h.get? it = some o ∧ ∀ v, o.data ≠ .cell v := by
  cases k with
  | l a => obtain ⟨o, e, _, d⟩ := s; exact ⟨o, e, fun v q => by rw [d] at q; cases q⟩
  | t a => obtain ⟨o, e, _, d⟩ := s; exact ⟨o, e, fun v q => by rw [d] at q; cases q⟩
  | s x k => obtain ⟨o, e, _, d⟩ := s; exact ⟨o, e, fun v q => by rw [d] at q; cases q⟩
/-- what the iterator draws while the thing stands so -/
theorem SK.draws {X : Cx} {pins : List (Addr × Obj)} {σ : St} {H : Hp} {s : Shared} {k : SK} {it : Addr} {xs : List V} (I : Inv X pins σ H s) (hc : X.calm = true) (hs : k.src X.K H xs) (hn : ∀ c, k.at c → c ≠ it) :
    ∃ (fp : List Addr) (P : Nat → Value → Prop) (S : Nat → Heap → Prop), Draws X.prog X.w X.A.in1 it fp xs.length P S ∧ (∀ i, k.iter it i s.heap → S i s.heap) ∧ (∀ i h', S i h' → k.iter it i h') ∧
      (∀ i u, P i u → ∃ v, xs[i]? = some v ∧ RelV v u) ∧ it ∈ fp ∧ ∀ c ∈ fp, c = it ∨ k.at c := by
  have hh : X.A.in1.handled = none := I.ok.hd hc
  cases k with
  | l a =>
    obtain ⟨its, rv, p, _⟩ := I.list hs
    refine ⟨[it, a], fun i v => its.toArray[i]? = some v, fun i h => h.IsListIter it a i ∧ h.IsList a its.toArray, by rw [show xs.length = its.toArray.size from rv.length.trans (by simp)]; exact Draws.list hh it a (hn a rfl) its.toArray, fun i q => ⟨q, p.isList⟩, fun i h' q => q.1, fun i u q => ?_, by simp, fun c hc => by
      rcases List.mem_cons.mp hc with e | e
      · exact .inl e
      · exact .inr (List.mem_singleton.mp e)⟩
    have q : its.toArray[i]? = some u := q
    cases e : xs[i]? with
    | none =>
      have := rv.none_of e
      rw [List.getElem?_toArray, this] at q
      cases q
    | some v =>
      obtain ⟨w', h1, h2⟩ := rv.get e
      rw [List.getElem?_toArray, h1] at q
      cases q
      exact ⟨v, rfl, h2⟩
  | t a =>
    obtain ⟨its, rv, p, _⟩ := I.tuple hs
    refine ⟨[it, a], fun i v => its.toArray[i]? = some v, fun i h => h.IsTupleIter it a i ∧ h.IsTuple a its.toArray, by rw [show xs.length = its.toArray.size from rv.length.trans (by simp)]; exact Draws.tuple hh it a (hn a rfl) its.toArray, fun i q => ⟨q, show s.heap.IsTuple a its.toArray from p⟩, fun i h' q => q.1, fun i u q => ?_, by simp, fun c hc => by
      rcases List.mem_cons.mp hc with e | e
      · exact .inl e
      · exact .inr (List.mem_singleton.mp e)⟩
    have q : its.toArray[i]? = some u := q
    cases e : xs[i]? with
    | none =>
      have := rv.none_of e
      rw [List.getElem?_toArray, this] at q
      cases q
    | some v =>
      obtain ⟨w', h1, h2⟩ := rv.get e
      rw [List.getElem?_toArray, h1] at q
      cases q
      exact ⟨v, rfl, h2⟩
  | s x tk =>
    have hs' : xs = x.cps.toList.map sgn := hs
    subst hs'
    refine ⟨[it], fun i v => ∃ c u, x.cps[i]? = some c ∧ v = .str ⟨#[c]⟩ u, fun i h => h.IsStrIter it (strIterType x) x tk i, by rw [show (x.cps.toList.map sgn).length = x.cps.size by simp]; exact Draws.text hh it x tk, fun i q => q, fun i h' q => q, fun i u q => ?_, by simp, fun c hc => .inl (List.mem_singleton.mp hc)⟩
    obtain ⟨c, t, h1, rfl⟩ := q
    refine ⟨sgn c, ?_, ⟨t, rfl⟩⟩
    rw [List.getElem?_map, Array.getElem?_toList, h1]
    rfl
/-- the items as they stand at each turn, in new pairs -/
def ItzG (K : PySem.W.Frag) (k1 k2 : SK) : It :=
  ⟨fun i H => ∃ (xs ys : List V) (x y : V), k1.src K H xs ∧ k2.src K H ys ∧ xs[i]? = some x ∧ ys[i]? = some y,
    fun i H v H' => ∃ T x y, v = .ref T ∧ H T = none ∧ H' = upd H T (.tup [x, y]) ∧ (∀ xs, k1.src K H xs → xs[i]? = some x) ∧ ∀ ys, k2.src K H ys → ys[i]? = some y,
    fun i H => ∃ xs ys : List V, k1.src K H xs ∧ k2.src K H ys ∧ i ≤ xs.length ∧ i ≤ ys.length ∧ (i = xs.length ∨ i = ys.length)⟩
theorem SK.inj {X : Cx} {pins : List (Addr × Obj)} {σ : St} {H : Hp} {s : Shared} {k : SK} {xs ys : List V} (I : Inv X pins σ H s) (h1 : k.src X.K H xs) (h2 : k.src X.K H ys) : xs = ys := by
  cases k with
  | l a => exact I.list_inj h1 h2
  | t a => exact I.tuple_inj h1 h2
  | s x t => exact (show xs = _ from h1).trans (show ys = _ from h2).symm
theorem turn_zipG {P : Program} {w : World} {K : PySem.W.Frag} {elts : List Expr} {kk : Nat} {tpos : Pos} {z TI TO i1 i2 : Addr} {k1 k2 : SK}
    (d1 : TI ≠ z) (d2 : TO ≠ z) (d3 : TI ≠ TO) (d4 : TI ≠ i1) (d5 : TI ≠ i2) (d6 : z ≠ i1) (d7 : z ≠ i2) (d8 : TO ≠ i1) (d9 : TO ≠ i2) (d10 : i1 ≠ i2)
    (a1 : ∀ c, k1.at c → c ≠ z ∧ c ≠ TO ∧ c ≠ i1 ∧ c ≠ i2) (a2 : ∀ c, k2.at c → c ≠ z ∧ c ≠ TO ∧ c ≠ i1 ∧ c ≠ i2) :
    Turn P w K (.Tuple elts kk tpos) (ItzG K k1 k2) [z, TI, TO, i1, i2] z (fun i h => IsZip h z TI TO .none ∧ IsTupOf2 h TI (.ref i1) (.ref i2) ∧ (∃ x y, IsTupOf2 h TO x y) ∧ k1.iter i1 i h ∧ k2.iter i2 i h) where
  mem := by simp
  obj := fun i h st c hc => by
    obtain ⟨hz, hTI, ⟨x, y, hTO⟩, s1, s2⟩ := st
    have e' : c = z ∨ c = TI ∨ c = TO ∨ c = i1 ∨ c = i2 := by simpa using hc
    rcases e' with q | q | q | q | q
    · rw [q]; exact ⟨_, hz, fun v q => nomatch q⟩
    · rw [q]; exact ⟨_, hTI, fun v q => nomatch q⟩
    · rw [q]; exact ⟨_, hTO, fun v q => nomatch q⟩
    · rw [q]; exact SK.iter_obj s1
    · rw [q]; exact SK.iter_obj s2
  keep := fun i h h' st k => by
    obtain ⟨hz, hTI, ⟨x, y, hTO⟩, s1, s2⟩ := st
    exact ⟨k z (by simp) _ hz, k TI (by simp) _ hTI, ⟨x, y, k TO (by simp) _ hTO⟩, SK.iter_keep s1 fun o q => k i1 (by simp) o q, SK.iter_keep s2 fun o q => k i2 (by simp) o q⟩
  item := by
    intro X hP hw hK hc i pins s σ H E I hf st hg
    subst hP hw hK
    obtain ⟨hz, hTI, ⟨x0, y0, hTO⟩, s1, s2⟩ := st
    obtain ⟨xs, ys, x, y, hqx, hqy, hx, hy⟩ := hg
    obtain ⟨fp1, P1, S1, D1, g1, b1, r1, m1, f1⟩ := SK.draws I hc hqx fun c q => (a1 c q).2.2.1
    obtain ⟨fp2, P2, S2, D2, g2, b2, r2, m2, f2⟩ := SK.draws I hc hqy fun c q => (a2 c q).2.2.2
    have Z : ZipSep2 z TI TO i1 i2 fp1 fp2 :=
      { TIz := d1, TOz := d2, TITO := d3, TIi1 := d4, mem1 := m1, TIi2 := d5, mem2 := m2,
        zf1 := fun q => by rcases f1 z q with e | e; exact d6 e; exact (a1 z e).1 rfl
        Tf1 := fun q => by rcases f1 TO q with e | e; exact d8 e; exact (a1 TO e).2.1 rfl
        zf2 := fun q => by rcases f2 z q with e | e; exact d7 e; exact (a2 z e).1 rfl
        Tf2 := fun q => by rcases f2 TO q with e | e; exact d9 e; exact (a2 TO e).2.1 rfl
        sep1_2 := fun q => by rcases f2 i1 q with e | e; exact d10 e; exact (a2 i1 e).2.2.1 rfl
        sep2_1 := fun q => by rcases f1 i2 q with e | e; exact d10 e.symm; exact (a1 i2 e).2.2.2 rfl }
    have lx : i < xs.length := (List.getElem?_eq_some_iff.mp hx).1
    have ly : i < ys.length := (List.getElem?_eq_some_iff.mp hy).1
    have hzl : z < s.heap.objs.size := Heap.lt_size hz
    refine wpAny_pyNext_zipD2_item Z D1 D2 hz hTI hTO (g1 i s1) (g2 i s2) lx ly fun u1 u2 h' tk p1 p2 z' TO' s1' s2' hT hsz hk => ?_
    obtain ⟨v1, e1, ru⟩ := r1 i u1 p1
    obtain ⟨v2, e2, ru2⟩ := r2 i u2 p2
    have ev1 : v1 = x := Option.some.inj (e1.symm.trans hx)
    have ev2 : v2 = y := Option.some.inj (e2.symm.trans hy)
    subst ev1 ev2
    refine ⟨_, rfl, wpAny_letOwnedTupleGo_zip (s := { s with heap := h', toks := tk }) z' fun h'' z'' sb => ?_⟩
    have hT2 : h''.get? s.heap.objs.size = some { cls := .type "tuple", data := .seq #[u1, u2] } := (sb.2 _ (Nat.ne_of_gt hzl)).trans hT
    have new : ObjOk X.prog X.w (upd H s.heap.objs.size (.tup [v1, v2])) h'' s.heap.objs.size (.tup [v1, v2]) :=
      ⟨by show 2 ≤ sizeLine; decide, [u1, u2], .cons ru (.cons ru2 .nil), ⟨_, hT2, rfl, _, rfl⟩⟩
    have I1 : Inv X pins σ (upd H s.heap.objs.size (.tup [v1, v2])) { s with heap := h'', toks := tk } :=
      I.turnedNew (t' := tk) (ch := [z, TI, TO, i1, i2]) (fun c o hb q => (sb.2 c (fun q' => hb (by simp [q']))).trans (hk c o (fun q' => hb (by simp [q'])) (fun q' => hb (by simp [q'])) (fun q' => hb (by simp [q'])) (fun q' => hb (by simp [q'])) q)) hf (Nat.le_refl _) new
    refine ⟨.ref s.heap.objs.size, _, I1, rfl, ⟨_, v1, v2, rfl, I.hok.fresh (Nat.le_refl _), rfl, fun l hl => by rw [SK.inj I hl hqx]; exact hx, fun l hl => by rw [SK.inj I hl hqy]; exact hy⟩, ⟨z'', ?_, ⟨u1, u2, ?_⟩, ?_, ?_⟩, fun c hcm => ?_⟩
    · exact (sb.2 _ d1).trans (hk _ _ d1 d3 d4 d5 hTI)
    · exact (sb.2 _ d2).trans TO'
    · exact SK.iter_keep (b1 _ _ s1') fun o q => (sb.2 _ d6.symm).trans q
    · exact SK.iter_keep (b2 _ _ s2') fun o q => (sb.2 _ d7.symm).trans q
    · have hlt : c < s.heap.objs.size := by
        have e' : c = z ∨ c = TI ∨ c = TO ∨ c = i1 ∨ c = i2 := by simpa using hcm
        rcases e' with q | q | q | q | q
        · rw [q]; exact hzl
        · rw [q]; exact Heap.lt_size hTI
        · rw [q]; exact Heap.lt_size hTO
        · rw [q]; obtain ⟨_, e, _⟩ := SK.iter_obj s1; exact Heap.lt_size e
        · rw [q]; obtain ⟨_, e, _⟩ := SK.iter_obj s2; exact Heap.lt_size e
      rw [upd_ne (Nat.ne_of_lt hlt)]
      exact (hf c hcm).1
  done := by
    intro X hP hw hK hc i pins s σ H E I hf st hg
    subst hP hw hK
    obtain ⟨hz, hTI, ⟨x0, y0, hTO⟩, s1, s2⟩ := st
    obtain ⟨xs, ys, hqx, hqy, hlx, hly, hend⟩ := hg
    obtain ⟨fp1, P1, S1, D1, g1, b1, r1, m1, f1⟩ := SK.draws I hc hqx fun c q => (a1 c q).2.2.1
    obtain ⟨fp2, P2, S2, D2, g2, b2, r2, m2, f2⟩ := SK.draws I hc hqy fun c q => (a2 c q).2.2.2
    have Z : ZipSep2 z TI TO i1 i2 fp1 fp2 :=
      { TIz := d1, TOz := d2, TITO := d3, TIi1 := d4, mem1 := m1, TIi2 := d5, mem2 := m2,
        zf1 := fun q => by rcases f1 z q with e | e; exact d6 e; exact (a1 z e).1 rfl
        Tf1 := fun q => by rcases f1 TO q with e | e; exact d8 e; exact (a1 TO e).2.1 rfl
        zf2 := fun q => by rcases f2 z q with e | e; exact d7 e; exact (a2 z e).1 rfl
        Tf2 := fun q => by rcases f2 TO q with e | e; exact d9 e; exact (a2 TO e).2.1 rfl
        sep1_2 := fun q => by rcases f2 i1 q with e | e; exact d10 e; exact (a2 i1 e).2.2.1 rfl
        sep2_1 := fun q => by rcases f1 i2 q with e | e; exact d10 e.symm; exact (a1 i2 e).2.2.2 rfl }
    exact wpAny_pyNext_zipD2_end Z D1 D2 hz hTI hTO (g1 i s1) (g2 i s2) hlx hly hend fun h' tk hk => ⟨rfl, I.turnedL (t' := tk) (ch := [z, TI, TO, i1, i2]) (fun c o hb q =>
      hk c o (fun q' => hb (by simp [q'])) (fun q' => hb (by simp [q'])) (fun q' => hb (by simp [q'])) (fun q' => hb (by simp [q'])) q) hf⟩
  self := fun A i s Q E st h => wpAny_pyIter_zip st.1 h
def iZipG (K : PySem.W.Frag) (ta : TA) : TI := fun σ H R => ta σ H fun vs H1 => ∃ (x y : V) (xs ys : List V), vs = [x, y] ∧ Src K H1 x xs ∧ Src K H1 y ys ∧
  ∀ k1 k2 : SK, k1.val = x → k2.val = y → k1.src K H1 xs → k2.src K H1 ys → R (ItzG K k1 k2) H1
/-- the kind of a value with items -/
theorem Src.kind {X : Cx} {pins : List (Addr × Obj)} {σ : St} {H : Hp} {s : Shared} {x : V} {u : Value} {xs : List V} (I : Inv X pins σ H s) (h : Src X.K H x xs) (r : RelV x u) :
    ∃ k : SK, k.val = x ∧ k.raw = u ∧ k.src X.K H xs ∧ (∀ c, k.at c → c < s.heap.objs.size) ∧ ∃ B : Heap → Prop, Begins u k.obj B ∧ B s.heap := by
  cases h with
  | @l a xs h =>
    cases (show u = Value.ref a from r)
    obtain ⟨its, rv, p, _⟩ := I.list h
    exact ⟨.l a, rfl, rfl, h, fun c e => by rw [show c = a from e]; exact p.lt, _, begins_list a its.toArray, p.isList⟩
  | @t a xs h =>
    cases (show u = Value.ref a from r)
    obtain ⟨its, rv, p, _⟩ := I.tuple h
    have p' : s.heap.IsTuple a its.toArray := p
    exact ⟨.t a, rfl, rfl, h, fun c e => by rw [show c = a from e]; obtain ⟨o, e, _⟩ := p'; exact Heap.lt_size e, _, begins_tuple a its.toArray, p'⟩
  | @s z xs h =>
    obtain ⟨t, rfl⟩ := (show ∃ t, u = Value.str z t from r)
    exact ⟨.s z t, rfl, rfl, h, fun c e => False.elim e, _, begins_text z t, trivial⟩
theorem SK.begun {k : SK} {it : Addr} {h : Heap} (e : h.get? it = some k.obj) : k.iter it 0 h := by
  cases k with
  | l a => exact ⟨_, e, rfl, rfl⟩
  | t a => exact ⟨_, e, rfl, rfl⟩
  | s x t => exact ⟨_, e, rfl, rfl⟩
theorem neN {a b : Nat} (h : a < b ∨ b < a) : a ≠ b := by omega
theorem pi_zipG {X : Cx} {e e2 : Expr} {ta : TA} {p pos tpos : Pos} {elts : List Expr} {kk : Nat} (hg : Gl X "zip") (hm : X.mg "zip" = none) (ha : PA X [e, e2] ta)
    (hs : starEach [e, e2] X.env = (false, eval e X.env) :: starEach [e2] X.env := by rfl) (hpl : (backTo pos (starEach [e2] X.env)).any (·.1) = false := by rfl) :
    PI X (.Tuple elts kk tpos) (.Call (.Name "zip" p) [e, e2] [] pos) (iZipG X.K ta) := by
  refine ⟨fun pins s σ H R I h => ?_⟩
  refine Call_ (ld_blt I hg hm PyProof.Rows.boot_zip (PyProof.Rows.callWith_type1 (thn (ha.run pos pins s σ H _ I h) fun us s1 ⟨vs, H1, I1, r1, q1⟩ => ?_) hs hpl))
  obtain ⟨x, y, xs, ys, ex, sx, sy, q⟩ := q1
  subst ex
  cases r1 with
  | cons r rr =>
    cases rr with
    | cons r' rr =>
      cases rr
      obtain ⟨k1, ev1, _, src1, lt1, B1, b1, hb1⟩ := sx.kind I1 r
      obtain ⟨k2, ev2, _, src2, lt2, B2, b2, hb2⟩ := sy.kind I1 r'
      have fresh5 : ∀ c, c ∈ [s1.heap.objs.size + 4, s1.heap.objs.size + 2, s1.heap.objs.size + 3, s1.heap.objs.size, s1.heap.objs.size + 1] → FpOk X pins H1 c := fun c hcm => by
        have e' : c = s1.heap.objs.size + 4 ∨ c = s1.heap.objs.size + 2 ∨ c = s1.heap.objs.size + 3 ∨ c = s1.heap.objs.size ∨ c = s1.heap.objs.size + 1 := by simpa using hcm
        have hle : s1.heap.objs.size ≤ c := by omega
        exact I1.fpOk hle (I1.hok.fresh hle)
      refine zip_begins2 b1 b2 hb1 hb2 fun h' hz hTI hTO h1 h2 hsz hk => wpAny_pyIter_zip hz ?_
      have I2 : Inv X pins σ H1 { s1 with heap := h' } := I1.kept (t' := s1.toks) hk
      have TT := turn_zipG (P := X.prog) (w := X.w) (K := X.K) (elts := elts) (kk := kk) (tpos := tpos) (z := s1.heap.objs.size + 4) (TI := s1.heap.objs.size + 2) (TO := s1.heap.objs.size + 3) (i1 := s1.heap.objs.size) (i2 := s1.heap.objs.size + 1) (k1 := k1) (k2 := k2)
        (neN (by omega)) (neN (by omega)) (neN (by omega)) (neN (by omega)) (neN (by omega)) (neN (by omega)) (neN (by omega)) (neN (by omega)) (neN (by omega)) (neN (by omega))
        (fun c hc => have h : c < s1.heap.objs.size := lt1 c hc; ⟨Nat.ne_of_lt (Nat.lt_of_lt_of_le h (Nat.le_add_right _ _)), Nat.ne_of_lt (Nat.lt_of_lt_of_le h (Nat.le_add_right _ _)), Nat.ne_of_lt h, Nat.ne_of_lt (Nat.lt_of_lt_of_le h (Nat.le_add_right _ _))⟩) (fun c hc => have h : c < s1.heap.objs.size := lt2 c hc; ⟨Nat.ne_of_lt (Nat.lt_of_lt_of_le h (Nat.le_add_right _ _)), Nat.ne_of_lt (Nat.lt_of_lt_of_le h (Nat.le_add_right _ _)), Nat.ne_of_lt h, Nat.ne_of_lt (Nat.lt_of_lt_of_le h (Nat.le_add_right _ _))⟩)
      exact ⟨s1.heap.objs.size + 4, [s1.heap.objs.size + 4, s1.heap.objs.size + 2, s1.heap.objs.size + 3, s1.heap.objs.size, s1.heap.objs.size + 1], _, _, H1, rfl, I2, TT, ⟨hz, hTI, ⟨_, _, hTO⟩, SK.begun h1, SK.begun h2⟩, fresh5, q k1 k2 ev1 ev2 src1 src2⟩
theorem walk_zipG {K : PySem.W.Frag} {k1 k2 : SK} {xs ys : List V} {n : Nat} (hn : n = min xs.length ys.length) : Walk (ItzG K k1 k2) n (fun H => k1.src K H xs ∧ k2.src K H ys) (YPair (fun i => xs[i]?) (fun i => ys[i]?)) := by
  subst hn
  refine ⟨fun i _ hi q => ?_, fun _ q => ⟨xs, ys, q.1, q.2, by omega, by omega, by omega⟩, fun i H v H' _ q y => ?_⟩
  · have h1 : i < xs.length := by omega
    have h2 : i < ys.length := by omega
    exact ⟨xs, ys, xs[i], ys[i], q.1, q.2, by simp [h1], by simp [h2]⟩
  · obtain ⟨T, x, z, h1, h2, h3, h4, h5⟩ := y
    exact ⟨T, x, z, h1, h2, h3, h4 xs q.1, h5 ys q.2⟩
end L2
namespace L2
open PySem PySem.Spec PySem.Calls PyProof.Rows
section
variable {X : Cx}
/-! ### a text backwards -/
def tRevS (te : TE) : TE := fun σ H Q => te σ H fun x H1 => ∃ z : Str, x = .str z ∧ z.length ≤ sizeLine ∧ Q (.str ⟨z.cps.toList.reverse.toArray⟩) H1
theorem rev_pick (z : Str) : (Builtin.Str.strSliceIndices none none (-1) z.length).filterMap (z.cps[·]?) = z.cps.toList.reverse := by
  have e : Builtin.Str.strSliceIndices none none (-1) z.length = (List.range z.cps.size).reverse := by
    unfold Builtin.Str.strSliceIndices
    show sliceRange ((z.cps.size : Int) - 1) (-1) (-1) = _
    rw [PySem.W.krv_sliceRange, PySem.W.krv_range]
  rw [e, List.filterMap_reverse]
  have h := PySem.W.krv_all z.cps
  rw [h]
theorem pe_revS {e : Expr} {te : TE} {k : Nat} {p1 p2 p3 pos : Pos} (he : PE X e te) : PE X (.Subscript e (.Slice none none (some (.UnaryOp .USub (.Constant (.int 1) k p1) p2)) p3) pos) (tRevS te) := by
  refine ⟨fun pins s σ H Q I h => ?_⟩
  refine Subscript_ (thn (he.run pins s σ H _ I h) fun v s1 ⟨x, H1, I1, r1, q1⟩ => ?_)
  obtain ⟨z, ex, hz, q⟩ := q1
  subst ex
  obtain ⟨t, rfl⟩ := r1
  have hst : PO X (some (.UnaryOp .USub (.Constant (.int 1) k p1) p2)) (tPart (tUn (rU fun i => .int (-i)) (tC (.int 1)))) := po_some (pe_un un_neg pe_int)
  refine wpAny_Slice (thn (po_none.run pins s1 σ H1 (fun o H2 => o = none ∧ H2 = H1) I1 ⟨rfl, rfl⟩) fun vl s2 ⟨l, H2, I2, pl, el, e2⟩ => ?_)
  subst el e2
  refine thn (po_none.run pins s2 σ H2 (fun o H3 => o = none ∧ H3 = H2) I2 ⟨rfl, rfl⟩) fun vu s3 ⟨u, H3, I3, pu, eu, e3⟩ => ?_
  subst eu e3
  refine thn (hst.run pins s3 σ H3 (fun o H4 => o = some (-1) ∧ H4 = H3) I3 ⟨1, rfl, -1, rfl, rfl, rfl⟩) fun vs s4 ⟨o, H4, I4, ps, eo, e4⟩ => ?_
  subst eo e4
  obtain ⟨lo, rfl, el⟩ := IsPart.raw pl
  obtain ⟨up, rfl, eu⟩ := IsPart.raw pu
  obtain ⟨st, rfl, es⟩ := IsPart.raw ps
  have I5 : Inv X pins σ H4 { s4 with heap := s4.heap.push { cls := .type "slice", data := .fields #[partValue lo, partValue up, partValue st] } } := I4.kept (t' := s4.toks) fun b ob q => Heap.get?_push_of_some _ q
  show wpAny (model X.prog X.w) X.A (subscriptTail e (.Slice none none (some (.UnaryOp .USub (.Constant (.int 1) k p1) p2)) p3) (.str z t) (.ref s4.heap.objs.size)) (EP X pins σ Q) X.xe { s4 with heap := s4.heap.push { cls := .type "slice", data := .fields #[partValue lo, partValue up, partValue st] } }
  refine tail_any (ops := [.str z t, .ref s4.heap.objs.size]) (typeIs_str _ z t) (PySem.F.slot_str_getitem.lookup) ?_ (by with_unfolding_all rfl)
  refine wpAny_getItem_str_slice (l := lo) (u := up) (st := st) ⟨_, Heap.get?_push_size _ rfl, rfl, rfl⟩ (by rw [es]; rfl) ?_
  have hl : z.cps.toList.reverse.length ≤ sizeLine := by
    rw [List.length_reverse, Array.length_toList]
    exact hz
  have em : PySem.sliceMade z t lo up st = Made.str ⟨z.cps.toList.reverse.toArray⟩ := by
    unfold PySem.sliceMade PySem.slicePicked
    rw [el, eu, es]
    show (if (((-1 : Int) == 1) && _) = true then _ else Made.str ⟨((Builtin.Str.strSliceIndices none none (-1) z.length).filterMap (z.cps[·]?)).toArray⟩) = _
    rw [rev_pick]
    rfl
  rw [em]
  exact ⟨by show z.cps.toList.reverse.toArray.size ≤ sizeLine; rw [List.size_toArray]; exact hl, .str _, H4, I5.tok _, ⟨_, rfl⟩, q⟩
end
end L2
namespace FW
open PySem PySem.Spec PyProof.Rows L2
/-- the built-in names that stand as they were -/
structure Z (mg : Str → Option Value) : Prop where
  z_isinstance : mg "isinstance" = none
  z_str : mg "str" = none
  z_all : mg "all" = none
  z_any : mg "any" = none
  z_len : mg "len" = none
  z_int : mg "int" = none
  z_list : mg "list" = none
  z_abs : mg "abs" = none
  z_bool : mg "bool" = none
  z_tuple : mg "tuple" = none
  z_zip : mg "zip" = none
  z_range : mg "range" = none
  z_enumerate : mg "enumerate" = none
  z_sorted : mg "sorted" = none
  z_dict : mg "dict" = none
  z_set : mg "set" = none
  z_sum : mg "sum" = none
  z_min : mg "min" = none
  z_max : mg "max" = none
  z_reversed : mg "reversed" = none
  z_repr : mg "repr" = none
  z_ord : mg "ord" = none
section
variable {P : Program} {w : World} {K : PySem.W.Frag} {mg : Str → Option Value} {base : Heap}
/-- a value that is no text -/
def NotS (K : PySem.W.Frag) (H : Hp) (v : V) : Prop := ∃ T : String, TyX K H v (.type T) ∧ kitB T "str" = some false
def isStr : V → Bool
  | .str _ => true
  | _ => false
def strOf : V → Str
  | .str z => z
  | _ => ⟨#[]⟩
theorem str_of {v : V} (h : isStr v = true) : ∃ z, v = .str z := by
  cases v with
  | str z => exact ⟨z, rfl⟩
  | _ => exact absurd (show false = true from h) Bool.false_ne_true
theorem sz {n : Nat} (h : n ≤ 100000) : n ≤ sizeLine := Nat.le_trans h (by decide)
theorem sz1 {n : Nat} (h : n ≤ 100000) : n < sizeLine := Nat.lt_of_le_of_lt h (by decide)
def bString (v : V) (fs : Str) : Bool := isStr v && (strOf v).cps.toList.all fun c => decide (c ∈ fs.cps.toList)
def sp_is_string (K : PySem.W.Frag) : Sp := fun vs H Q _ => ∃ (v : V) (fs : Str), vs = [v, .str fs] ∧ ((isStr v = true ∧ (strOf v).cps.size ≤ 100000) ∨ (isStr v = false ∧ NotS K H v)) ∧ ∀ H', Same H H' → Q (.bl (bString v fs)) H'
theorem NotS.same {H H' : Hp} {v : V} (n : NotS K H v) (q : ∀ T, TyX K H v T → TyX K H' v T) : NotS K H' v := let ⟨T, t, k⟩ := n; ⟨T, q _ t, k⟩
def bRoom (v : V) (fs : Str) : Bool := bString v fs && decide ((strOf v).cps.size = 4)
def sp_is_room (K : PySem.W.Frag) : Sp := fun vs H Q _ => ∃ (v : V) (fs : Str), vs = [v, .str fs] ∧ ((isStr v = true ∧ (strOf v).cps.size ≤ 100000) ∨ (isStr v = false ∧ NotS K H v)) ∧ ∀ H', Same H H' → Q (.bl (bRoom v fs)) H'
def bCut (v : V) (fs : Str) : Bool := isStr v && decide ((strOf v).cps.size = 3) && decide ((strOf v).cps.toList.getD 0 0 ∈ ("|-" : Str).cps.toList) && ((strOf v).cps.toList.drop 1).all fun c => decide (c ∈ fs.cps.toList)
def sp_is_cut (K : PySem.W.Frag) : Sp := fun vs H Q _ => ∃ (v : V) (fs : Str), vs = [v, .str fs] ∧ ((isStr v = true ∧ (strOf v).cps.size ≤ 100000) ∨ (isStr v = false ∧ NotS K H v)) ∧ ∀ H', Same H H' → Q (.bl (bCut v fs)) H'
theorem cutS_from {z : Str} (h : 1 ≤ z.cps.size) : cutS z (some 1) none = ⟨(z.cps.toList.drop 1).toArray⟩ := by
  unfold cutS
  rw [HT.sIx_none, show HT.sIx z.length 0 (some 1) = min 1 z.length from HT.sIx_nat z.length 0 1]
  have e : min 1 z.length = 1 := Nat.min_eq_left h
  rw [e, List.take_of_length_le]
  simp [Str.length]
def S4 (a b c d : Nat) : Str := ⟨#[a, b, c, d]⟩
def S3 (a b c : Nat) : Str := ⟨#[a, b, c]⟩
/-- both parts of a room by a cut; the codes of the signs: 124 upright -/
def partsC (n e s w sg x y : Nat) : List Str := if sg = 124 then [S4 n x s w, S4 n e s y] else [S4 n e x w, S4 y e s w]
def sp_parts_of (K : PySem.W.Frag) : Sp := fun vs H Q _ => ∃ (n e s w : Nat) (cut : Str), vs = [.str (S4 n e s w), .str cut] ∧
  ((cut = ("" : Str) ∧ ∀ p, H p = none → Q (.ref p) (upd H p (.lst [.str (S4 n e s w)]))) ∨ ∃ sg x y, cut = S3 sg x y ∧ ∀ p, H p = none → Q (.ref p) (upd H p (.lst ((partsC n e s w sg x y).map V.str))))
def Bag (H : Hp) (b l : Addr) : Prop := ∃ (ns : List Int) (i r m c : Int), H b = some (.lst [.ref l, .int i, .int r, .int m, .int c]) ∧ H l = some (.lst (ns.map V.int)) ∧ ns.length ≤ 1000 ∧ 0 ≤ i ∧ 0 ≤ m ∧ m < 2147483648
theorem bag_ne {l : Addr} {ns : List Int} {i r m c : Int} : HO.lst (ns.map V.int) ≠ HO.lst [.ref l, .int i, .int r, .int m, .int c] := by
  intro e
  have e1 := HO.lst.inj e
  cases ns with
  | nil => cases e1
  | cons n ns =>
    have e2 := List.head_eq_of_cons_eq e1
    cases e2
theorem Bag.same {H H' : Hp} {b l : Addr} (B : Bag H b l) (s : Same H H') : Bag H' b l := by
  obtain ⟨ns, i, r, m, c, h1, h2, q⟩ := B
  exact ⟨ns, i, r, m, c, s _ _ h1, s _ _ h2, q⟩
theorem Bag.la {H : Hp} {b l : Addr} (B : Bag H b l) : ∃ xs, H b = some (.lst xs) := let ⟨_, _, _, _, _, h, _⟩ := B; ⟨_, h⟩
theorem Bag.lb {H : Hp} {b l : Addr} (B : Bag H b l) : ∃ xs, H l = some (.lst xs) := let ⟨_, _, _, _, _, _, h, _⟩ := B; ⟨_, h⟩
/-- what is new is not the bag -/
theorem Bag.ne {H : Hp} {b l p : Addr} (B : Bag H b l) (h : H p = none) : p ≠ b := fun e => by
  obtain ⟨xs, h1⟩ := B.la
  rw [e, h1] at h
  cases h
theorem Bag.ne2 {H : Hp} {b l p : Addr} (B : Bag H b l) (h : H p = none) : p ≠ l := fun e => by
  obtain ⟨xs, h1⟩ := B.lb
  rw [e, h1] at h
  cases h
/-- another object changes -/
theorem Bag.upd {H : Hp} {b l p : Addr} {o : HO} (B : Bag H b l) (h1 : p ≠ b) (h2 : p ≠ l) : Bag (L2.upd H p o) b l := by
  obtain ⟨ns, i, r, m, c, g1, g2, q⟩ := B
  exact ⟨ns, i, r, m, c, by rw [upd_ne h1.symm]; exact g1, by rw [upd_ne h2.symm]; exact g2, q⟩
def sp__law_open (K : PySem.W.Frag) : Sp := fun vs H Q _ => ∃ (a : Addr) (ns : List Int), vs = [.ref a] ∧ SqL K H a (ns.map V.int) ∧ ns.length ≤ 63 ∧ ∀ H' b l, H b = none → H l = none → Same H H' → Bag H' b l → Q (.ref b) H'
theorem cutV_to {xs : List V} {k : Nat} : cutV xs none (some (k : Int)) = xs.take k := by
  unfold cutV
  rw [HT.sIx_none, HT.sIx_nat]
  show List.take (min k xs.length - 0) (List.drop 0 xs) = _
  rw [List.drop_zero, Nat.sub_zero, List.take_eq_take_iff]
  omega
def sp__law_draw (K : PySem.W.Frag) : Sp := fun vs H Q _ => ∃ (b l : Addr) (k : Int), vs = [.ref b, .int k] ∧ Bag H b l ∧ 0 < k ∧ k < 1073741824 ∧ ∀ H' z, 0 ≤ z → z < k → But b H H' → Bag H' b l → Q (.int z) H'
/-- behind the first part of a draw -/
def BagAt (H0 H : Hp) (b l : Addr) (ns : List Int) : Prop := But b H0 H ∧ H l = some (.lst (ns.map V.int)) ∧ ∃ i r m c : Int, H b = some (.lst [.ref l, .int i, .int r, .int m, .int c]) ∧ 0 ≤ i ∧ 0 ≤ m ∧ m < 2147483648
abbrev S (l : List Nat) : Str := ⟨l.toArray⟩
theorem S_cat (a b : List Nat) : S a ++ S b = S (a ++ b) := SX.S_cat a b
theorem S_len (a : List Nat) : (S a).length = a.length := SX.S_len a
theorem S_tl (x : Str) : S x.cps.toList = x := SX.S_tl x
theorem atI_of {α : Type} {xs : List α} {z : Int} {j : Nat} {v : α} (e : z = (j : Int)) (h : xs[j]? = some v) : atI xs z = some v := by
  rw [e]
  exact atI_nat h
theorem S_sub (l : List Nat) (i : Nat) : cutS (S l) (some (i : Int)) none = S (l.drop i) := by
  unfold cutS
  rw [HT.sIx_none, HT.sIx_nat]
  show (⟨(List.take ((S l).length - min i (S l).length) (List.drop (min i (S l).length) l)).toArray⟩ : Str) = ⟨(l.drop i).toArray⟩
  rw [S_len]
  have e : List.take (l.length - min i l.length) (List.drop (min i l.length) l) = l.drop i := by
    by_cases h : i ≤ l.length
    · rw [Nat.min_eq_left h]
      exact List.take_of_length_le (by rw [List.length_drop]; exact Nat.le_refl _)
    · rw [Nat.min_eq_right (by omega), List.drop_eq_nil_of_le (as := l) (i := i) (by omega)]
      simp
  rw [e]
theorem S_to (l : List Nat) (i : Nat) : cutS (S l) none (some (i : Int)) = S (l.take i) := by
  unfold cutS
  rw [HT.sIx_none, HT.sIx_nat]
  show (⟨(List.take (min i (S l).length - 0) (List.drop 0 l)).toArray⟩ : Str) = ⟨(l.take i).toArray⟩
  rw [S_len, List.drop_zero, Nat.sub_zero]
  have e : List.take (min i l.length) l = l.take i := by
    rw [List.take_eq_take_iff]
    omega
  rw [e]
def Items (K : PySem.W.Frag) (H : Hp) (b : Addr) (x : V) (xs : List V) : Prop := (∃ a, a ≠ b ∧ x = .ref a ∧ SqL K H a xs) ∨ (∃ a, a ≠ b ∧ x = .ref a ∧ SqT K H a xs) ∨ ∃ l, x = .str (S l) ∧ xs = l.map sgn
def sp__law_of (K : PySem.W.Frag) : Sp := fun vs H Q _ => ∃ (b l : Addr) (x : V) (xs : List V), vs = [.ref b, x] ∧ Bag H b l ∧ Items K H b x xs ∧ 0 < xs.length ∧ xs.length ≤ 100000 ∧ ∀ H' v, v ∈ xs → But b H H' → Bag H' b l → Q v H'
mutual
/-- data that nest at most so deep -/
def Deep : Nat → PyData → Prop
  | _, .none => True
  | _, .bool _ => True
  | _, .int _ => True
  | _, .str _ => True
  | 0, .list _ => False
  | 0, .tuple _ => False
  | n + 1, .list ds => ds.length ≤ 1000 ∧ ∀ d ∈ ds, Deep n d
  | n + 1, .tuple ds => ds.length ≤ 1000 ∧ ∀ d ∈ ds, Deep n d
  | _, .dict _ => False
end
def sp__law_same (K : PySem.W.Frag) (n : Nat) : Sp := fun vs H Q _ => ∃ (x y : V) (d : PyData), vs = [x, y] ∧ Dp K H x d ∧ Dp K H y d ∧ Deep n d ∧ ∀ H', Same H H' → Q (.bl true) H'
theorem tyL {H : Hp} {a : Addr} {xs : List V} (h : SqL K H a xs) : TyX K H (.ref a) (.type "list") := by
  rcases h with (h | ⟨o, h⟩) | ⟨o, its, n, h, c, _⟩
  · exact .base (.lst h)
  · exact .base (.frz h)
  · exact .kList h c
theorem tyT {H : Hp} {a : Addr} {xs : List V} (h : SqT K H a xs) : TyX K H (.ref a) (.type "tuple") := by
  rcases h with (h | ⟨o, h⟩) | ⟨o, its, n, h, c, _⟩
  · exact .base (.tup h)
  · exact .fTuple h
  · exact .kTuple h c
theorem Dp.same {H H' : Hp} (s : Same H H') : ∀ {v : V} {d : PyData}, Dp K H v d → Dp K H' v d := by
  intro v d h
  exact @Dp.rec K H (fun v d _ => Dp K H' v d) (fun vs ds _ => DpAll K H' vs ds) .non (fun b => .bl b) (fun i => .int i) (fun x => .str x) (fun h _ ih => .lst (s.seq h) ih) (fun h _ ih => .tup (s.tup h) ih) .nil (fun _ _ i1 i2 => .cons i1 i2) v d h
theorem DpAll.same {H H' : Hp} (s : Same H H') : ∀ {vs : List V} {ds : List PyData}, DpAll K H vs ds → DpAll K H' vs ds
  | _, _, .nil => .nil
  | _, _, .cons h t => .cons (Dp.same s h) (DpAll.same s t)
theorem DpAll.len {H : Hp} : ∀ {vs : List V} {ds : List PyData}, DpAll K H vs ds → vs.length = ds.length
  | _, _, .nil => rfl
  | _, _, .cons _ t => congrArg (· + 1) (DpAll.len t)
theorem DpAll.at {H : Hp} : ∀ {vs : List V} {ds : List PyData} {i : Nat} {v : V}, DpAll K H vs ds → vs[i]? = some v → ∃ d, ds[i]? = some d ∧ Dp K H v d
  | _, _, _, _, .nil, e => by simp at e
  | _, _, 0, v, .cons h _, e => by
    have e1 := Option.some.inj (show some _ = some v from e)
    exact ⟨_, rfl, e1 ▸ h⟩
  | _, _, i + 1, v, .cons _ t, e => DpAll.at (i := i) t e
theorem walk_zipT {a b : Addr} {xs ys : List V} {n : Nat} (hn : n = min xs.length ys.length) : Walk (RZ.ItzT K a b) n (fun H => SqT K H a xs ∧ SqT K H b ys) (YPair (fun i => xs[i]?) (fun i => ys[i]?)) := by
  subst hn
  refine ⟨fun i _ hi q => ?_, fun _ q => ⟨xs, ys, q.1, q.2, by omega⟩, fun i H v H' _ q y => ?_⟩
  · have h1 : i < xs.length := by omega
    have h2 : i < ys.length := by omega
    exact ⟨xs, ys, xs[i], ys[i], q.1, q.2, by simp [h1], by simp [h2]⟩
  · obtain ⟨T, x, z, h1, h2, h3, h4, h5⟩ := y
    exact ⟨T, x, z, h1, h2, h3, h4 xs q.1, h5 ys q.2⟩
/-- the answers of isinstance(x, (list, tuple)) -/
theorem kitAny_lt {T : String} {r1 r2 : Bool} (h1 : kitB T "list" = some r1) (h2 : kitB T "tuple" = some r2) : PySem.W.kitAny K (.type T) [.type "list", .type "tuple"] = some (r1 || r2) := by
  refine kitAny_cons (kit_ty h1) (fun e => ?_) (fun e => by rw [e]; rfl)
  subst e
  refine kitAny_cons (kit_ty h2) (fun e => ?_) (fun e => by rw [e]; rfl)
  subst e
  rfl
theorem seq_but {H H' : Hp} {D a : Addr} {xs : List V} (nD : ∀ c u, H c = some u → c ≠ D) (bt : But D H H') (h : SqL K H a xs) : SqL K H' a xs := by
  rcases h with (h | ⟨o, h⟩) | h
  · exact .inl (.inl (bt _ _ (nD _ _ h) h))
  · exact .inl (.inr ⟨o, bt _ _ (nD _ _ h) h⟩)
  · exact .inr h
theorem tup_but {H H' : Hp} {D a : Addr} {xs : List V} (nD : ∀ c u, H c = some u → c ≠ D) (bt : But D H H') (h : SqT K H a xs) : SqT K H' a xs := by
  rcases h with (h | ⟨o, h⟩) | h
  · exact .inl (.inl (bt _ _ (nD _ _ h) h))
  · exact .inl (.inr ⟨o, bt _ _ (nD _ _ h) h⟩)
  · exact .inr h
theorem nk_false {k : Nat} {f : Addr} {fd : FuncData} {ps : List Str} : FnOk P w K mg base CX0 k f fd ps (fun _ _ _ _ => False) := ⟨fun _ _ _ _ h => h.elim, fun _ _ _ _ _ _ _ _ _ _ _ _ _ h => h.elim⟩
def sp__law_letters (K : PySem.W.Frag) : Sp := fun vs H Q _ => ∃ (b lb : Addr) (L : List Nat) (k : Nat), vs = [.ref b, .str (S L), .int k] ∧ Bag H b lb ∧ k ≤ L.length ∧ L.length ≤ 1000 ∧ ∀ H' r, List.Sublist r L → r.length = k → But b H H' → Bag H' b lb → Q (.str (S r)) H'
theorem sub_next {L r : List Nat} {low z : Nat} (h : List.Sublist r (L.take low)) (hl : low ≤ z) (hz : z < L.length) : List.Sublist (r ++ [L[z]]) (L.take (z + 1)) := by
  rw [List.take_add_one, List.getElem?_eq_getElem hz]
  refine List.Sublist.append ?_ (List.Sublist.refl _)
  exact h.trans (List.take_sublist_take_left hl)
def lower : List Nat := ("abcdefghijklmnopqrstuvwxyz" : Str).cps.toList
def sp__law_some_faces (K : PySem.W.Frag) : Sp := fun vs H Q _ => ∃ (b lb : Addr) (m : Nat), vs = [.ref b, .int m] ∧ Bag H b lb ∧ 0 < m ∧ m ≤ 26 ∧ ∀ H' r, List.Sublist r lower → 0 < r.length → r.length ≤ m → But b H H' → Bag H' b lb → Q (.str (S r)) H'
theorem lower_len : lower.length = 26 := by decide +kernel
/-- a sign of a text -/
theorem of_str {H : Hp} {b : Addr} {l : List Nat} {v : V} (h : v ∈ l.map sgn) : ∃ c ∈ l, v = sgn c := by
  obtain ⟨c, hc, e⟩ := List.mem_map.mp h
  exact ⟨c, hc, e.symm⟩
def sp__law_some_room (K : PySem.W.Frag) : Sp := fun vs H Q _ => ∃ (b lb : Addr) (fs : List Nat), vs = [.ref b, .str (S fs)] ∧ Bag H b lb ∧ 0 < fs.length ∧ fs.length ≤ 100 ∧ ∀ H' n e s w, n ∈ fs → e ∈ fs → s ∈ fs → w ∈ fs → But b H H' → Bag H' b lb → Q (.str (S4 n e s w)) H'
def sp__law_some_cut (K : PySem.W.Frag) : Sp := fun vs H Q _ => ∃ (b lb : Addr) (fs : List Nat), vs = [.ref b, .str (S fs)] ∧ Bag H b lb ∧ 0 < fs.length ∧ fs.length ≤ 100 ∧ ∀ H' g x y, (g = 124 ∨ g = 45) → x ∈ fs → y ∈ fs → But b H H' → Bag H' b lb → Q (.str (S3 g x y)) H'
def sp__law_string (K : PySem.W.Frag) : Sp := fun vs H Q _ => ∃ (b lb : Addr) (fs : List Nat) (m : Nat), vs = [.ref b, .str (S fs), .int m] ∧ Bag H b lb ∧ 0 < fs.length ∧ fs.length ≤ 100 ∧ m ≤ 1000 ∧ ∀ H' r, (∀ c ∈ r, c ∈ fs) → r.length ≤ m → But b H H' → Bag H' b lb → Q (.str (S r)) H'
theorem joinL_ones : ∀ r : List Nat, TL.joinL [] (r.map fun c => [c]) = r
  | [] => rfl
  | [c] => rfl
  | c :: d :: r => by
    show [c] ++ ([] ++ TL.joinL [] ((d :: r).map fun c => [c])) = c :: d :: r
    rw [joinL_ones (d :: r)]
    rfl
theorem join_ones (r : List Nat) : Txt.join (S []) ((r.map fun c => [c]).map S) = S r := by
  rw [SX.join_S, joinL_ones]
theorem lens_ones (r : List Nat) : (((r.map fun c => [c]).map S).map (·.length)).sum = r.length := by
  induction r with
  | nil => rfl
  | cons c r ih =>
    rw [List.map_cons, List.map_cons, List.map_cons, List.sum_cons, ih, List.length_cons]
    show 1 + r.length = r.length + 1
    omega
def sp__law_split (K : PySem.W.Frag) : Sp := fun vs H Q _ => ∃ (n e s w sg x y : Nat), vs = [.str (S4 n e s w), .str (S3 sg x y)] ∧ ∀ p, H p = none → Q (.ref p) (upd H p (.lst ((partsC n e s w sg x y).map V.str)))
theorem sub4_1 {a b c d : Nat} : cutS (S4 a b c d) (some 1) none = S [b, c, d] := S_sub [a, b, c, d] 1
theorem sub4_2 {a b c d : Nat} : cutS (S4 a b c d) (some 2) none = S [c, d] := S_sub [a, b, c, d] 2
theorem to4_2 {a b c d : Nat} : cutS (S4 a b c d) none (some 2) = S [a, b] := S_to [a, b, c, d] 2
theorem to4_3 {a b c d : Nat} : cutS (S4 a b c d) none (some 3) = S [a, b, c] := S_to [a, b, c, d] 3
def swp {α : Type} : List α → List α → List α
  | [], [a, b] => [b, a]
  | _, _ => []
theorem swp_vals {vs : List V} {us : List Value} {zs : List V} {ws : List Value} (r : Vals vs us) (q : Vals zs ws) : Vals (swp vs zs) (swp us ws) := by
  cases r with
  | cons _ _ => exact .nil
  | nil =>
    cases q with
    | nil => exact .nil
    | cons q1 t =>
      cases t with
      | nil => exact .nil
      | cons q2 t =>
        cases t with
        | nil => exact .cons q2 (.cons q1 .nil)
        | cons _ _ => exact .nil
theorem kb_swap {K : PySem.W.Frag} {x : Str} {st : Stmt} {p1 p2 : Str}
    (h : ∀ (kV doc pm : Value) (an : Option Addr) (cdv ct : Value) (u v : Value), bindArgs (PySem.W.fnOf x x (defArgs st) (defBody st) (defScope st) .none kV doc pm an cdv ct) ⟨[], [(p2, u), (p1, v)]⟩ = pure [(p1, v), (p2, u)]) :
    KB K x st [p1, p2] [p2, p1] swp swp := by
  intro f fd F
  obtain ⟨oc, od, kV, doc, pm, an, cdv, ct, osl, rfl, lk, hcd⟩ := F.ex
  refine ⟨fun s us ws _ hl => ?_, fun r q => swp_vals r q⟩
  match us, ws, hl with
  | [], [u, v], _ => exact .of_eq (h kV doc pm an cdv ct u v)
  | [], [], hl => exact absurd (show 0 = 2 from hl) (by decide)
  | [], [_], hl => exact absurd (show 0 = 2 from hl) (by decide)
  | [], _ :: _ :: _ :: _, hl => exact absurd (show 0 = 2 from hl) (by decide)
  | _ :: _, ws, hl => exact absurd (show 0 = 2 from hl) (by decide)
structure St3 (H : Hp) (b l g : Addr) (gl : List Nat) : Prop where
  bag : Bag H b l
  gn : H g = some (.lst (gl.map sgn))
  gb : g ≠ b
  gz : g ≠ l
theorem St3.same (s : St3 H b l g gl) (q : Same H H') : St3 H' b l g gl := ⟨s.bag.same q, q _ _ s.gn, s.gb, s.gz⟩
theorem St3.new (s : St3 H b l g gl) (n : H p = none) : St3 (upd H p o) b l g gl := s.same (same_upd n)
theorem St3.drawn (s : St3 H b l g gl) (q : But b H H') (B : Bag H' b l) : St3 H' b l g gl := ⟨B, q _ _ s.gb s.gn, s.gb, s.gz⟩
/-- a value that is no text, by the heap -/
def NS (H : Hp) (v : V) : Prop := v = .non ∨ (∃ i, v = .int i) ∨ (∃ c, v = .bl c) ∨ (∃ p xs, v = .ref p ∧ H p = some (.lst xs)) ∨ ∃ p xs, v = .ref p ∧ H p = some (.tup xs)
theorem NS.same {H H' : Hp} {v : V} (n : NS H v) (q : Same H H') : NS H' v := by
  rcases n with e | e | e | ⟨p, xs, e, h⟩ | ⟨p, xs, e, h⟩
  · exact .inl e
  · exact .inr (.inl e)
  · exact .inr (.inr (.inl e))
  · exact .inr (.inr (.inr (.inl ⟨p, xs, e, q _ _ h⟩)))
  · exact .inr (.inr (.inr (.inr ⟨p, xs, e, q _ _ h⟩)))
theorem NS.not {K : PySem.W.Frag} {H : Hp} {v : V} (n : NS H v) : isStr v = false ∧ NotS K H v := by
  rcases n with rfl | ⟨i, rfl⟩ | ⟨c, rfl⟩ | ⟨p, xs, rfl, h⟩ | ⟨p, xs, rfl, h⟩
  · exact ⟨rfl, "NoneType", .base .non, by decide +kernel⟩
  · exact ⟨rfl, "int", .base (.int i), by decide +kernel⟩
  · exact ⟨rfl, "bool", .base (.bl c), by decide +kernel⟩
  · exact ⟨rfl, "list", .base (.lst h), by decide +kernel⟩
  · exact ⟨rfl, "tuple", .base (.tup h), by decide +kernel⟩
theorem NS.b {H : Hp} {v : V} (n : NS H v) (fs : Str) : bString v fs = false ∧ bRoom v fs = false ∧ bCut v fs = false := by
  have e := (n.not (K := default)).1
  refine ⟨?_, ?_, ?_⟩
  · unfold bString
    rw [e]
    rfl
  · unfold bRoom bString
    rw [e]
    rfl
  · unfold bCut
    rw [e]
    rfl
theorem mem_all {l fs : List Nat} (h : ∀ c ∈ l, c ∈ fs) : (l.all fun c => decide (c ∈ fs)) = true := by
  rw [List.all_eq_true]
  intro c hc
  exact decide_eq_true (h c hc)
theorem not_all {l fs : List Nat} {c : Nat} (hc : c ∈ l) (h : c ∉ fs) : (l.all fun c => decide (c ∈ fs)) = false := by
  rw [List.all_eq_false]
  exact ⟨c, hc, by rw [decide_eq_false h]; exact Bool.false_ne_true⟩
theorem bString_yes {l fs : List Nat} (h : ∀ c ∈ l, c ∈ fs) : bString (.str (S l)) (S fs) = true := mem_all h
theorem bString_no {l fs : List Nat} {c : Nat} (hc : c ∈ l) (h : c ∉ fs) : bString (.str (S l)) (S fs) = false := not_all hc h
theorem bRoom_no {l fs : List Nat} {c : Nat} (hc : c ∈ l) (h : c ∉ fs) : bRoom (.str (S l)) (S fs) = false := by
  unfold bRoom
  rw [bString_no hc h]
  rfl
theorem bRoom_len {l fs : List Nat} (h : l.length ≠ 4) : bRoom (.str (S l)) (S fs) = false := by
  unfold bRoom
  rw [show decide ((strOf (.str (S l))).cps.size = 4) = false from decide_eq_false h, Bool.and_false]
theorem bRoom_is {l fs : List Nat} (h : ∀ c ∈ l, c ∈ fs) : bRoom (.str (S l)) (S fs) = decide (l.length = 4) := by
  unfold bRoom
  rw [bString_yes h]
  rfl
theorem bCut_S (l fs : List Nat) : bCut (.str (S l)) (S fs) = (decide (l.length = 3) && decide (l.getD 0 0 ∈ [124, 45]) && (l.drop 1).all fun c => decide (c ∈ fs)) := rfl
theorem bCut_yes {g x y : Nat} {fs : List Nat} (hg : g = 124 ∨ g = 45) (hx : x ∈ fs) (hy : y ∈ fs) : bCut (.str (S3 g x y)) (S fs) = true := by
  show bCut (.str (S [g, x, y])) (S fs) = true
  rw [bCut_S, show ([g, x, y].drop 1) = [x, y] from rfl, mem_all (by
    intro c hc
    rcases List.mem_cons.mp hc with e | e
    · rw [e]
      exact hx
    · rw [List.mem_singleton.mp e]
      exact hy)]
  rcases hg with rfl | rfl <;> rfl
theorem bCut_len {l fs : List Nat} (h : l.length ≠ 3) : bCut (.str (S l)) (S fs) = false := by
  rw [bCut_S, decide_eq_false h]
  rfl
theorem bCut_sign {g x y : Nat} {fs : List Nat} (h1 : g ≠ 124) (h2 : g ≠ 45) : bCut (.str (S [g, x, y])) (S fs) = false := by
  rw [bCut_S, show decide (([g, x, y] : List Nat).getD 0 0 ∈ [124, 45]) = false from decide_eq_false (by
    intro q
    rcases List.mem_cons.mp q with e | e
    · exact h1 e
    · exact h2 (List.mem_singleton.mp e)), Bool.and_false]
  rfl
theorem bCut_face {g x y c : Nat} {fs : List Nat} (hc : c = x ∨ c = y) (h : c ∉ fs) : bCut (.str (S [g, x, y])) (S fs) = false := by
  rw [bCut_S, show ([g, x, y].drop 1) = [x, y] from rfl, not_all (c := c) (by
    rcases hc with rfl | rfl
    · exact List.mem_cons_self
    · exact List.mem_cons_of_mem _ List.mem_cons_self) h, Bool.and_false]
/-- the letters that are none of few letters -/
theorem gone_pos : ∀ (L fs : List Nat), L.Nodup → L.length ≤ (L.filter fun c => !decide (c ∈ fs)).length + fs.length
  | L, [], _ => by
    rw [List.filter_eq_self.mpr (fun c _ => by simp)]
    exact Nat.le_add_right _ _
  | L, f :: fs, nd => by
    have ih := gone_pos L fs nd
    have h : (L.filter fun c => !decide (c ∈ fs)).length ≤ (L.filter fun c => !decide (c ∈ f :: fs)).length + 1 := by
      have e : (L.filter fun c => !decide (c ∈ f :: fs)) = (L.filter fun c => !decide (c ∈ fs)).filter fun c => !decide (c = f) := by
        rw [List.filter_filter]
        refine List.filter_congr fun c _ => ?_
        by_cases h1 : c = f
        · subst h1
          simp
        · by_cases h2 : c ∈ fs <;> simp [h1, h2]
      rw [e]
      have nd2 : (L.filter fun c => !decide (c ∈ fs)).Nodup := nd.filter _
      generalize (L.filter fun c => !decide (c ∈ fs)) = M at nd2
      clear e ih
      induction M with
      | nil => exact Nat.zero_le _
      | cons m M ihM =>
        have nd3 := List.nodup_cons.mp nd2
        rw [List.filter_cons]
        by_cases hm : m = f
        · subst hm
          have e2 : (M.filter fun c => !decide (c = m)) = M := List.filter_eq_self.mpr fun c hc => by
            have : c ≠ m := fun q => nd3.1 (q ▸ hc)
            simp [this]
          rw [if_neg (by simp), e2, List.length_cons]
          exact Nat.le_refl _
        · rw [if_pos (by simp [hm]), List.length_cons, List.length_cons]
          have := ihM nd3.2
          omega
    rw [List.length_cons]
    omega
theorem lower_nd : lower.Nodup := by decide +kernel
theorem low_range {c : Nat} (h : c ∈ lower) : 97 ≤ c ∧ c ≤ 122 := by
  have : ∀ c ∈ lower, 97 ≤ c ∧ c ≤ 122 := by decide +kernel
  exact this c h
/-- lists of truth values as data -/
theorem dp_bls {K : PySem.W.Frag} {H : Hp} : ∀ bs : List Bool, DpAll K H (bs.map V.bl) (bs.map PyData.bool)
  | [] => .nil
  | b :: bs => .cons (.bl b) (dp_bls bs)
theorem deep_bls {bs : List Bool} (h : bs.length ≤ 1000) : Deep 3 (.list (bs.map PyData.bool)) := by
  unfold Deep
  refine ⟨by rw [List.length_map]; exact h, fun d hd => ?_⟩
  obtain ⟨c, _, rfl⟩ := List.mem_map.mp hd
  unfold Deep
  trivial
theorem dp_strs {K : PySem.W.Frag} {H : Hp} : ∀ zs : List Str, DpAll K H (zs.map V.str) (zs.map PyData.str)
  | [] => .nil
  | b :: bs => .cons (.str b) (dp_strs bs)
theorem deep_list {n : Nat} {ds : List PyData} (h : ds.length ≤ 1000) (q : ∀ d ∈ ds, Deep n d) : Deep (n + 1) (.list ds) := by
  unfold Deep
  exact ⟨h, q⟩
theorem deep_strs {n : Nat} {zs : List Str} (h : zs.length ≤ 1000) : Deep (n + 1) (.list (zs.map PyData.str)) := by
  unfold Deep
  refine ⟨by rw [List.length_map]; exact h, fun d hd => ?_⟩
  obtain ⟨c, _, rfl⟩ := List.mem_map.mp hd
  unfold Deep
  trivial
theorem parts_len {n e s w g x y : Nat} : (partsC n e s w g x y).length = 2 := by
  unfold partsC
  split <;> rfl
theorem same_bls {H : Hp} {p p' : Addr} {bs : List Bool} {Q : VK} {E : XK} (h : H p = some (.lst (bs.map V.bl))) (h' : H p' = some (.lst (bs.map V.bl))) (hl : bs.length ≤ 1000) (q : ∀ H', Same H H' → Q (.bl true) H') : sp__law_same K 3 [.ref p, .ref p'] H Q E :=
  ⟨_, _, .list (bs.map PyData.bool), rfl, .lst (SqL.of h) (dp_bls bs), .lst (SqL.of h') (dp_bls bs), deep_bls hl, q⟩
end
end FW
namespace FW
open PySem PySem.Spec PyProof.Rows L2
section
variable {P : Program} {w : World} {K : PySem.W.Frag} {mg : Str → Option Value} {base : Heap}
/-! ### ascending choices of letters -/
def ascB : List Nat → Bool
  | [] => true
  | [_] => true
  | a :: b :: r => decide (a < b) && ascB (b :: r)
theorem asc_next : ∀ (l : List Nat) (i : Nat) (h : i + 1 < l.length), ascB (l.take (i + 1 + 1)) = (ascB (l.take (i + 1)) && decide (l[i] < l[i + 1]))
  | [], _, h => absurd h (Nat.not_lt_zero _)
  | [_], i, h => absurd h (by simp)
  | a :: b :: r, 0, h => by
    show (decide (a < b) && ascB [b]) = (true && decide (a < b))
    show (decide (a < b) && true) = (true && decide (a < b))
    rw [Bool.and_true, Bool.true_and]
  | a :: b :: r, i + 1, h => by
    have ih := asc_next (b :: r) i (by simpa using h)
    show (decide (a < b) && ascB ((b :: r).take (i + 1 + 1))) = ((decide (a < b) && ascB ((b :: r).take (i + 1))) && _)
    rw [ih, Bool.and_assoc]
    rfl
theorem asc_sorted : ∀ {l : List Nat}, l.Pairwise (· < ·) → ascB l = true
  | [], _ => rfl
  | [_], _ => rfl
  | a :: b :: r, h => by
    have h1 := List.pairwise_cons.mp h
    show (decide (a < b) && ascB (b :: r)) = true
    rw [decide_eq_true (h1.1 b List.mem_cons_self), asc_sorted h1.2]
    rfl
theorem lt_sgn (x y : Nat) : decide (([x] : List Nat) < [y]) = decide (x < y) := by
  by_cases h : x < y
  · rw [decide_eq_true h]
    exact decide_eq_true (List.Lex.rel h)
  · rw [decide_eq_false h]
    refine decide_eq_false fun q => h ?_
    cases q with
    | rel r => exact r
    | cons r => cases r
def bChoice (v : V) (L : List Nat) (m : Int) : Bool := isStr v && (decide ((1 : Int) ≤ ((strOf v).cps.size : Int)) && decide (((strOf v).cps.size : Int) ≤ m)) && ((strOf v).cps.toList.all fun c => decide (c ∈ L)) && ascB (strOf v).cps.toList
theorem bChoice_1 {z : Str} {L : List Nat} {m : Int} (h : decide ((1 : Int) ≤ (z.length : Int)) = false) : bChoice (.str z) L m = false := by
  unfold bChoice
  rw [show decide ((1 : Int) ≤ ((strOf (V.str z)).cps.size : Int)) = false from h, Bool.false_and, Bool.and_false, Bool.false_and, Bool.false_and]
theorem bChoice_2 {z : Str} {L : List Nat} {m : Int} (h : decide ((z.length : Int) ≤ m) = false) : bChoice (.str z) L m = false := by
  unfold bChoice
  rw [show decide (((strOf (V.str z)).cps.size : Int) ≤ m) = false from h, Bool.and_false, Bool.and_false, Bool.false_and, Bool.false_and]
theorem bChoice_3 {z : Str} {L : List Nat} {m : Int} (h : decide ((1 : Int) ≤ (z.length : Int)) = true) (h2 : decide ((z.length : Int) ≤ m) = true) : bChoice (.str z) L m = (bString (.str z) (S L) && ascB z.cps.toList) := by
  unfold bChoice
  rw [show decide ((1 : Int) ≤ ((strOf (V.str z)).cps.size : Int)) = true from h, show decide (((strOf (V.str z)).cps.size : Int) ≤ m) = true from h2]
  rfl
/-- a value that may be asked: a text that is not too long, or another thing of known kind -/
def Askd (K : PySem.W.Frag) (H : Hp) (v : V) : Prop := (isStr v = true ∧ (strOf v).cps.size ≤ 100000) ∨ (isStr v = false ∧ NotS K H v)
def upper : List Nat := ("ABCDEFGHIJKLMNOPQRSTUVWXYZ" : Str).cps.toList
abbrev bFaces (v : V) : Bool := bChoice v lower 6
abbrev bCutters (v : V) : Bool := bChoice v upper 4
def bAddress (v : V) : Bool := bString v (S [48, 49])
def sp_is_ascending (K : PySem.W.Frag) : Sp := fun vs H Q _ => ∃ l : List Nat, vs = [.str (S l)] ∧ l.length ≤ 100000 ∧ ∀ H', Same H H' → Q (.bl (ascB l)) H'
def sp_is_choice (K : PySem.W.Frag) : Sp := fun vs H Q _ => ∃ (v : V) (L : List Nat) (m : Int), vs = [v, .str (S L), .int m] ∧ Askd K H v ∧ ∀ H', Same H H' → Q (.bl (bChoice v L m)) H'
def sp_is_faces (K : PySem.W.Frag) : Sp := fun vs H Q _ => ∃ v : V, vs = [v] ∧ Askd K H v ∧ ∀ H', Same H H' → Q (.bl (bFaces v)) H'
def sp_is_cutters (K : PySem.W.Frag) : Sp := fun vs H Q _ => ∃ v : V, vs = [v] ∧ Askd K H v ∧ ∀ H', Same H H' → Q (.bl (bCutters v)) H'
def sp_is_address (K : PySem.W.Frag) : Sp := fun vs H Q _ => ∃ v : V, vs = [v] ∧ Askd K H v ∧ ∀ H', Same H H' → Q (.bl (bAddress v)) H'
/-- numbers -/
def bNumber (v : V) (lo hi : Int) : Bool := match v with
  | .int i => decide (lo ≤ i) && decide (i ≤ hi)
  | _ => false
def isNum : V → Bool
  | .int _ => true
  | .bl _ => true
  | _ => false
def NotI (K : PySem.W.Frag) (H : Hp) (v : V) : Prop := ∃ T : String, TyX K H v (.type T) ∧ kitB T "int" = some false
def sp_is_number (K : PySem.W.Frag) : Sp := fun vs H Q _ => ∃ (v : V) (lo hi : Int), vs = [v, .int lo, .int hi] ∧ (isNum v = true ∨ (isNum v = false ∧ NotI K H v)) ∧ Q (.bl (bNumber v lo hi)) H
def sp__law_rising (K : PySem.W.Frag) : Sp := fun vs H Q _ => ∃ (l L : List Nat) (m : Int), vs = [.str (S l), .str (S L), .int m] ∧ l.length ≤ 100000 ∧ ∀ H', Same H H' → Q (.bl (bChoice (.str (S l)) L m)) H'
/-- one keyword; three keywords backwards -/
def one1 {α : Type} : List α → List α → List α
  | [], [a] => [a]
  | _, _ => []
def rev3 {α : Type} : List α → List α → List α
  | [], [a, b, c] => [c, b, a]
  | _, _ => []
theorem one1_vals {vs : List V} {us : List Value} {zs : List V} {ws : List Value} (r : Vals vs us) (q : Vals zs ws) : Vals (one1 vs zs) (one1 us ws) := by
  cases r with
  | cons _ _ => exact .nil
  | nil =>
    cases q with
    | nil => exact .nil
    | cons q1 t =>
      cases t with
      | nil => exact .cons q1 .nil
      | cons _ _ => exact .nil
theorem rev3_vals {vs : List V} {us : List Value} {zs : List V} {ws : List Value} (r : Vals vs us) (q : Vals zs ws) : Vals (rev3 vs zs) (rev3 us ws) := by
  cases r with
  | cons _ _ => exact .nil
  | nil =>
    cases q with
    | nil => exact .nil
    | cons q1 t =>
      cases t with
      | nil => exact .nil
      | cons q2 t =>
        cases t with
        | nil => exact .nil
        | cons q3 t =>
          cases t with
          | nil => exact .cons q3 (.cons q2 (.cons q1 .nil))
          | cons _ _ => exact .nil
theorem kb_one {K : PySem.W.Frag} {x : Str} {st : Stmt} {p1 : Str}
    (h : ∀ (kV doc pm : Value) (an : Option Addr) (cdv ct : Value) (u : Value), bindArgs (PySem.W.fnOf x x (defArgs st) (defBody st) (defScope st) .none kV doc pm an cdv ct) ⟨[], [(p1, u)]⟩ = pure [(p1, u)]) :
    KB K x st [p1] [p1] one1 one1 := by
  intro f fd F
  obtain ⟨oc, od, kV, doc, pm, an, cdv, ct, osl, rfl, lk, hcd⟩ := F.ex
  refine ⟨fun s us ws _ hl => ?_, fun r q => one1_vals r q⟩
  match us, ws, hl with
  | [], [u], _ => exact .of_eq (h kV doc pm an cdv ct u)
  | [], [], hl => exact absurd (show 0 = 1 from hl) (by decide)
  | [], _ :: _ :: _, hl => exact absurd (show 0 = 1 from hl) (by decide)
  | _ :: _, ws, hl => exact absurd (show 0 = 1 from hl) (by decide)
theorem kb_rev3 {K : PySem.W.Frag} {x : Str} {st : Stmt} {p1 p2 p3 : Str}
    (h : ∀ (kV doc pm : Value) (an : Option Addr) (cdv ct : Value) (u v t : Value), bindArgs (PySem.W.fnOf x x (defArgs st) (defBody st) (defScope st) .none kV doc pm an cdv ct) ⟨[], [(p3, u), (p2, v), (p1, t)]⟩ = pure [(p1, t), (p2, v), (p3, u)]) :
    KB K x st [p1, p2, p3] [p3, p2, p1] rev3 rev3 := by
  intro f fd F
  obtain ⟨oc, od, kV, doc, pm, an, cdv, ct, osl, rfl, lk, hcd⟩ := F.ex
  refine ⟨fun s us ws _ hl => ?_, fun r q => rev3_vals r q⟩
  match us, ws, hl with
  | [], [u, v, t], _ => exact .of_eq (h kV doc pm an cdv ct u v t)
  | [], [], hl => exact absurd (show 0 = 3 from hl) (by decide)
  | [], [_], hl => exact absurd (show 0 = 3 from hl) (by decide)
  | [], [_, _], hl => exact absurd (show 0 = 3 from hl) (by decide)
  | [], _ :: _ :: _ :: _ :: _, hl => exact absurd (show 0 = 3 from hl) (by decide)
  | _ :: _, ws, hl => exact absurd (show 0 = 3 from hl) (by decide)
theorem but_fresh {H H1 H' : Hp} {D : Addr} (s : Same H H1) (n : H1 D = none) (b : But D H1 H') : Same H H' := fun c u e => b c u (ne_of_none (s _ _ e) n) (s _ _ e)
end
end FW
namespace FW
open PySem PySem.Spec PyProof.Rows L2 Builtin Builtin.Getset_descriptor PySem.W
/-! ### the name of a class of the program -/
theorem own_dga (d tp : Value) (C : Addr) : descrGetArgs ⟨[d, .ref C, tp], []⟩ = pure (d, some (.ref C), given tp) := by kernel_rfl
section
variable {prog : Program} {w : World} {A : Around} {E : Value → Shared → Prop} {s : Shared} {K : PySem.W.Frag}
theorem own_get {C : Addr} {tp : Value} {R : Result → Shared → Prop} {o : Obj} {z : Str} {tk : Tok} (X : K.In s.heap) (ht : PySem.W.typeIn K (.ref C) = some (.type "type")) (ho : s.heap.get? C = some o) (hs : o.slots[2]? = some (some (.str z tk)))
    (h : R (.ok (.ret (.str z tk))) s) :
    codeAny (model prog w) A (.call (.builtin "getset_descriptor.__get__") ⟨[.builtin "type.__name__", .ref C, tp], []⟩) R s := by
  obtain ⟨hh, g, dr, t, os⟩ := s
  have t1 : Looks (model prog w) hh (typeOf (.ref C)) (.type "type") := looks_typeIn X ht
  have t2 : Looks (model prog w) hh (isSubtype (.type "type") (.type "type")) true := .of_pure (by
    rw [isSubtype_type]
    kernel_rfl)
  refine codeAny_call_builtin KF.slot_gs.plain KF.entry_gs
    (KF.slot_gs.check _ _ _ _ _ _ _ _
      ktyn_type (KF.args_gs _ _ _) ?_)
  unfold Builtin.«getset_descriptor.__get__» descrGet
  rw [own_dga]
  refine wpAny_bind (wpAny_pure ?_)
  unfold descrGetter descrCheckInstance descrNameAndClass isInstance
  simp only [ktyn_owner]
  repeat lk
  refine ⟨Code.quiet_builtin _ (by decide +kernel), codeAny_builtin
    ktyn_entry ?_⟩
  unfold Builtin.«type.__name__»
  dsimp only
  unfold keptObject PySem.slotAt
  dsimp only
  refine wpAny_bind (wpAny_bind (wpAny_loadPart ho (wpAny_pure ?_)))
  rw [hs]
  exact wpAny_pure h
/-- the name that a class of the program was made with -/
structure NameC (K : PySem.W.Frag) (C : Addr) (z : Str) : Prop where
  ob : ∃ (o : Obj) (tk : Tok), K.lookup C = some o ∧ o.slots[2]? = some (some (.str z tk))
  ty : PySem.W.typeIn K (.ref C) = some (.type "type")
  rd : readsIn K C (.type "type") = true
  fd : findCls K (.ref C) (.type "type") "__name__" = some (.get (.builtin "getset_descriptor.__get__") (.builtin "type.__name__") (.ref C) (.type "type"))
theorem name_get {C : Addr} {z : Str} {ex : Bool} {Q : Value → Shared → Prop} (X : K.In s.heap) (N : NameC K C z) (h : ∀ tk u, Q (.str z tk) { s with toks := u }) : wpAny (model prog w) A (getAttr (.ref C) "__name__" ex) Q E s := by
  obtain ⟨o, tk, ho, hs⟩ := N.ob
  refine cls_bind X N.rd N.fd (wpAny_call ?_)
  exact own_get (s := { s with toks := s.toks + 1 }) X N.ty (X _ _ ho) hs (handed_on rfl (h tk _))
/-- what an exception class has for the reading of e.__class__ -/
structure ClsE (K : PySem.W.Frag) (C : Addr) : Prop where
  cl : (clsIn K C).isSome = true
  ga : PySem.W.findIn K (.ref C) "__getattribute__" = some (some (.builtin "BaseException.__getattribute__"))
  gg : PySem.W.findIn K (.ref C) "__getattr__" = some none
  ex : PySem.W.subIn K (.ref C) (.type "BaseException") = some true
  fc : PySem.W.findIn K (.ref C) "__class__" = some (some (.builtin "object.__class__"))
  ob : PySem.W.mroIn K C (.type "object") = some true
structure GsK (K : PySem.W.Frag) : Prop where
  sp : specialIn K (.builtin "object.__class__") "__get__" = some (some (.builtin "getset_descriptor.__get__"))
  tk : takesIn K (.builtin "object.__class__") = some true
theorem cls_get {x C : Addr} {ox : Obj} {od : Option Obj} {ex : Bool} {Q : Value → Shared → Prop} (X : K.In s.heap) (I : InstAt s.heap x ox C od) (T : ClsE K C) (G : GsK K) (h : ∀ u, Q (.ref C) { s with toks := u }) : wpAny (model prog w) A (getAttr (.ref x) "__class__" ex) Q E s := by
  obtain ⟨hp, g, d, t, os⟩ := s
  have hf : findObj K C od "__class__" = some (.bind (.builtin "getset_descriptor.__get__") (.builtin "object.__class__")) := findObj_dataE T.cl T.fc G.sp G.tk
  have l0 := I.type (M := model prog w)
  have l1 := looks_findIn (M := model prog w) X T.ga
  have l2 := looks_findIn (M := model prog w) X T.gg
  have l3 := looks_find (M := model prog w) X I hf
  have sub : Looks (model prog w) hp (isInstance (.ref x) (.type "BaseException")) true := l0.andThen (looks_subIn X T.ex)
  have n0 : (ex && onTheHeap (Value.builtin "BaseException.__getattribute__")) = false := by cases ex <;> rfl
  have n2 : (Value.builtin "BaseException.__getattribute__" == Value.builtin "object.__getattribute__") = false := by
    decide +kernel
  have n1 : (onTheHeap (.ref C) && Value.builtin "BaseException.__getattribute__" == Value.builtin "object.__getattribute__") = false := (congrArg (onTheHeap (.ref C) && ·) n2).trans (Bool.and_false _)
  unfold getAttr getAttrBy
  refine wpAny_bind (wpAny_mkText (wpAny_holding (wpAny_bind (l0.at (wpAny_bind (l1.at ?_))))))
  dsimp only
  rw [n1, if_neg Bool.false_ne_true]
  unfold getAttrByItsOwn hookBefore
  refine wpAny_bind ?_
  rw [if_pos (by rfl)]
  refine l2.at ?_
  refine wpAny_bind (wpAny_attempt (wpAny_holding ?_))
  unfold callGetattribute
  rw [n0, if_neg Bool.false_ne_true]
  unfold boundAndCalled
  rw [PySem.F.excAttr_ValueError.ga.bind (.ref x)]
  refine wpAny_bind (wpAny_pure ?_)
  refine wpAny_call (codeAny_call_builtin PySem.F.excAttr_ValueError.ga.plain
    PySem.F.entry_bexc_ga ?_)
  refine @PySem.W.check_slot (model prog w) _ _ ⟨hp, g, d, t + 1, os⟩ "BaseException.__getattribute__" "BaseException" "__getattribute__" (.ref x)
    [.str "__class__" t] [] _ (by decide +kernel) (by decide +kernel) sub (PySem.F.args_bexc_ga (.ref x) (.str "__class__" t)) ?_
  unfold Builtin.«object.__getattribute__»
  refine wpAny_bind (wpAny_of_eq (a := ((Value.ref x : Value), [Value.str "__class__" t]))
    (by first | rfl | (simp only [slotArgs]; rfl)) ?_)
  refine wpAny_bind (wpAny_pure (wpAny_bind (l0.at (wpAny_bind (l3.at ?_)))))
  refine wpAny_bind (wpAny_holding (wpAny_call
    (class_get (s := ⟨hp, g, d, t + 1, os⟩) (ox := ox) (od := od) X I T.ob ?_)))
  refine wpAny_pure ?_
  exact handed_on rfl (h _)
end
/-! ### the readings -/
section
variable {X : Cx} {e : Expr} {te : TE} {p : Pos}
/-- the object at a is an exception that is being made -/
def Exo (H : Hp) (a C : Addr) : Prop := H a = some (exo a C none) ∨ ∃ (d : Addr) (fs : List (Str × V)), H a = some (exo a C (some d)) ∧ H d = some (exd d fs)
theorem Exo.inst {P : Program} {w : World} {H : Hp} {h : Heap} {a C : Addr} (x : Exo H a C) (hok : HOk P w H h) : ∃ (ox : Obj) (od : Option Obj), InstAt h a ox C od := by
  rcases x with q | ⟨d, fs, q, q2⟩
  · obtain ⟨t1, ho⟩ := exo_at hok q
    exact ⟨_, none, ho, rfl, rfl, True.intro⟩
  · obtain ⟨t1, ho⟩ := exo_at hok q
    obtain ⟨mA, ⟨od, es, ep, h1, _⟩, _⟩ := exd_at hok q2
    exact ⟨_, some od, ho, rfl, rfl, h1⟩
theorem pe_cls (G : GsK X.K) (he : PE X e te) (hb : attributeBase e "__class__" X.env (eval e X.env) = eval e X.env := by rfl) : PE X (.Attribute e "__class__" p) (fun σ H Q => te σ H fun x H1 => ∃ a C : Addr, x = .ref a ∧ Exo H1 a C ∧ ClsE X.K C ∧ Q (.ref C) H1) := by
  refine ⟨fun pins s σ H Q I h => attr_of hb (thn (he.run pins s σ H _ I h) fun u s1 hh => ?_)⟩
  obtain ⟨x, H1, I1, rx, a, C, ex, xo, T, q⟩ := hh
  subst ex
  obtain rfl : u = Value.ref a := rx
  obtain ⟨ox, od, J⟩ := xo.inst I1.hok
  exact cls_get I1.kIn J T G fun u => ⟨.ref C, H1, I1.tok _, rfl, q⟩
theorem pe_name (he : PE X e te) (hb : attributeBase e "__name__" X.env (eval e X.env) = eval e X.env := by rfl) : PE X (.Attribute e "__name__" p) (fun σ H Q => te σ H fun x H1 => ∃ (C : Addr) (z : Str), x = .ref C ∧ NameC X.K C z ∧ Q (.str z) H1) := by
  refine ⟨fun pins s σ H Q I h => attr_of hb (thn (he.run pins s σ H _ I h) fun u s1 hh => ?_)⟩
  obtain ⟨x, H1, I1, rx, C, z, ex, N, q⟩ := hh
  subst ex
  obtain rfl : u = Value.ref C := rx
  exact name_get I1.kIn N fun tk u => ⟨.str z, H1, I1.tok _, ⟨tk, rfl⟩, q⟩
end
end FW
namespace FW
open PySem PySem.Spec PyProof.Rows L2
/-! ### a caught exception as one of the things that the heap is known to hold -/
def ExK (cls : Value) (d : Option Addr) (a : Addr) : HO := .ext fun h => ∃ (oe : Obj) (vs : Array Value), h.get? a = some oe ∧ Zc cls d oe ∧ oe.data = .fields vs
theorem exk_ok {P : Program} {w : World} {H : Hp} {h : Heap} {a : Addr} {cls : Value} {d : Option Addr} {oe : Obj} {vs : Array Value} (ha : h.get? a = some oe) (hz : Zc cls d oe) (hd : oe.data = .fields vs) : ObjOk P w H h a (ExK cls d a) :=
  ⟨⟨oe, vs, ha, hz, hd⟩, ⟨oe, ha⟩, fun _ _ ⟨o, v, q1, q2, q3⟩ st => ⟨o, v, st _ q1, q2, q3⟩⟩
theorem exk_at {P : Program} {w : World} {H : Hp} {h : Heap} {a : Addr} {cls : Value} {d : Option Addr} (ok : HOk P w H h) (e : H a = some (ExK cls d a)) : ∃ (oe : Obj) (vs : Array Value), h.get? a = some oe ∧ Zc cls d oe ∧ oe.data = .fields vs := by
  have z : ObjOk P w H h a (.ext fun h => ∃ (oe : Obj) (vs : Array Value), h.get? a = some oe ∧ Zc cls d oe ∧ oe.data = .fields vs) := ok a _ e
  exact z.1
section
variable {X : Cx} {pins : List (Addr × Obj)} {σ : L2.St} {H : Hp} {s : Shared}
theorem adopt {a : Addr} {cls : Value} {d : Option Addr} {oe : Obj} {vs : Array Value} (I : Inv X pins σ H s) (ha : s.heap.get? a = some oe) (hz : Zc cls d oe) (hd : oe.data = .fields vs) (na : H a = none) (nL : a ≠ X.env.locals)
    (n0 : X.s_0.heap.get? a = none) (np : ∀ p ∈ X.pn ++ pins, p.1 ≠ a) : Inv X pins σ (upd H a (ExK cls d a)) s where
  ok := I.ok
  os := I.os
  bare := I.bare
  base :=
    { keep := I.base.keep
      slot := I.base.slot
      free := fun b o e n hx => (upd_ne (fun z => by rw [z, n0] at e; cases e)).trans (I.base.free b o e n hx)
      there := I.base.there
      tups := fun b xs q => (upd_ne (ne_of_none (I.base.tups b xs q) na)).trans (I.base.tups b xs q)
      frzs := fun b o u q => (upd_ne (ne_of_none (I.base.frzs b o u q) na)).trans (I.base.frzs b o u q)
      tbls := fun b ps q => by
        obtain ⟨more, e⟩ := I.base.tbls b ps q
        exact ⟨more, (upd_ne (ne_of_none e na)).trans e⟩ }
  loc := I.loc
  cell := I.cell
  free := (upd_ne (Ne.symm nL)).trans I.free
  freeC := fun x c e => (upd_ne (fun z => by
    obtain ⟨v, o, ho, hc⟩ := I.cell x c e
    rw [z, ha] at ho
    cases ho
    rw [hd] at hc
    cases hc)).trans (I.freeC x c e)
  pin := fun p hp => by
    obtain ⟨q1, q2, q3, q4, q5⟩ := I.pin p hp
    exact ⟨q1, (upd_ne (np p hp)).trans q2, q3, q4, q5⟩
  hok := fun b o e => by
    by_cases hb : b = a
    · subst hb
      rw [upd_same] at e
      cases e
      exact exk_ok ha hz hd
    · rw [upd_ne hb] at e
      exact (I.hok b o e).stay (fun _ _ _ q => q) (fun c q => (upd_ne (ne_of_none q na)).trans q) fun c xs q => (upd_ne (ne_of_none q na)).trans q
  len := I.len
theorem in_suite {a : Addr} (I : Inv X pins σ H s) : Inv (X.suite a (X.pn ++ pins)) [] σ H s :=
  ⟨I.ok.suite _ _, I.os, I.bare, I.base, I.loc, I.cell, I.free, I.freeC, fun p hp => I.pin p ((List.append_nil (X.pn ++ pins)) ▸ hp), I.hok, I.len⟩
theorem of_suite {a : Addr} {pn' : List (Addr × Obj)} (I : Inv (X.suite a (X.pn ++ pins)) pn' σ H s) (ok : X.Ok) : Inv X pins σ H s :=
  ⟨ok, I.os, I.bare, I.base, I.loc, I.cell, I.free, I.freeC, fun p hp => I.pin p (List.mem_append_left _ hp), I.hok, I.len⟩
end
theorem flying_kept {B h h' : Heap} {l : List Env} {a : Addr} {Z : Obj → Prop} (x : HandSPX.FlyingZ B l a Z h) (k : ∀ b o, h.get? b = some o → h'.get? b = some o) : HandSPX.FlyingZ B l a Z h' := by
  obtain ⟨k1, k2, k3, oe, vs, T, oT, ts, h1, h2, h3, h4, h5, h6, h7, h8, h9⟩ := x
  exact ⟨fun b o e => k b o (k1 b o e), k2, k3.of_keeps fun b o e _ => ⟨o, k b o e, rfl⟩, oe, vs, T, oT, ts, k a _ h1, h2, h3, h4, h5, h6, k T _ h7, h8, h9⟩
/-- what 'except (x1, x2, x3) as n' wishes: it takes the exception; slot i is n's -/
def wIn (K : PySem.W.Frag) (m : Nat) (cs : List Value) (i : Nat) (ts : TS) (D : Ends) : WX := fun cls d σ H =>
  PySem.W.exmAny K cls cs = some true ∧ ∀ a, H a = none → σ.length = m → ts { nx := fun σ' H' => D.nx (σ'.set i none) H', rt := D.rt, bk := fun σ' H' => D.bk (σ'.set i none) H', ct := fun σ' H' => D.ct (σ'.set i none) H' } (σ.set i (some (.ref a))) (upd H a (ExK cls d a))
section
variable {X : Cx} {x1 x2 x3 n : Str} {C1 C2 C3 : Addr} {i : Nat} {body suite : List Stmt} {b₀ : Stmt} {q1 q2 q3 qt pos pos' : Pos} {tb : WX → TS} {ts : TS}
theorem ps_try3 {cx} (hs : X.stack = X.env :: X.outer) (hf : X.env.frame = some X.env.locals) (hex : X.ex = []) (hN : X.N.Nodup) (hi : X.N[i]? = some n) (hln : X.env.kindOf n = some .local)
    (g1 : Gl X x1) (m1 : X.mg x1 = some (.ref C1)) (g2 : Gl X x2) (m2 : X.mg x2 = some (.ref C2)) (g3 : Gl X x3) (m3 : X.mg x3 = some (.ref C3))
    (hb : ∀ (W : WX) (pn : List (Addr × Obj)) (xe : Value → Shared → Prop), Takes (X.tr pn xe) W → PassesOwn (model X.prog X.w) X.A X.env xe → PSs (X.tr pn xe) body (tb W))
    (hsu : ∀ (a : Addr) (pn : List (Addr × Obj)), PSs (X.suite a pn) (b₀ :: suite) ts)
    (d1 : (x1 == ("__debug__" : Str)) = false := by decide) (d2 : (x2 == ("__debug__" : Str)) = false := by decide) (d3 : (x3 == ("__debug__" : Str)) = false := by decide) :
    PS X (.Try body [.ExceptHandler (some (.Tuple [.Name x1 q1, .Name x2 q2, .Name x3 q3] cx qt)) (some n) (b₀ :: suite) pos'] [] [] pos) (fun D σ H => tb (wIn X.K X.N.length [.ref C1, .ref C2, .ref C3] i ts D) D σ H) := by
  refine ⟨fun pins s σ H D I h => wpAny_Try_except ?_⟩
  have ok := I.ok
  have fr : X.A.frames = some (X.env :: X.outer) := ok.frames.trans (congrArg some hs)
  have hl : Loc X.env.scope n := .inl hln
  generalize hhd : [ExceptHandler.ExceptHandler (some (.Tuple [.Name x1 q1, .Name x2 q2, .Name x3 q3] cx qt)) (some n) (b₀ :: suite) pos'] = hd
  let xe' : Value → Shared → Prop := fun e s1 => wpAny (model X.prog X.w) X.A (noteFrame e X.env)
    (fun _ s2 => wpAny (model X.prog X.w) X.A (setFlight e none)
      (fun _ s3 => wpAny (model X.prog X.w) X.A (handleBy e X.env hd) (SP X pins D) X.xe s3) X.xe s2) X.xe s1
  have caught : Takes (X.tr (X.pn ++ pins) xe') (wIn X.K X.N.length [.ref C1, .ref C2, .ref C3] i ts D) := by
    rintro u s' ⟨a, B, sI, pins', σ', H', cls, d, rfl, J', nb, up, sky, na, os, ag, w1, w2⟩
    have J : Inv X pins σ' H' sI := J'.ofTry ok
    have sk : Sky B (X.env :: X.outer) a (Zc cls d) X.env.locals s'.heap := hs ▸ sky
    show wpAny (model X.prog X.w) X.A (noteFrame (.ref a) X.env) _ _ _
    refine Sky.land Zc.steady fr hf sk fun h3 fl up3 => ?_
    have J3 : Inv X pins σ' H' { s' with heap := h3 } := J.landed nb fl.1 (up.trans up3) os ag
    obtain ⟨oe, vs, he, hz, hdt⟩ := fl.there
    have out : a ∉ frs (X.env :: X.outer) := fun hm => by
      obtain ⟨_, o, e', hn⟩ := fl.2.2.1.mem hm
      rw [he] at e'
      cases e'
      exact hn _ hdt
    have nL : a ≠ X.env.locals := fun z => out (List.mem_filterMap.mpr ⟨X.env, List.mem_cons_self, hf.trans (congrArg some z.symm)⟩)
    have nB : B.get? a = none := fl.2.1
    have notI : ∀ o, sI.heap.get? a ≠ some o := fun o e => by
      rw [nb a o e (hs ▸ out)] at nB
      cases nB
    have n0 : X.s_0.heap.get? a = none := by
      cases e : X.s_0.heap.get? a with
      | none => rfl
      | some o =>
        obtain ⟨o', e'⟩ := J.base.there a o e (by rw [hex]; exact List.not_mem_nil)
        exact absurd e' (notI o')
    have np : ∀ p ∈ X.pn ++ pins, p.1 ≠ a := fun p hp z => notI p.2 (z ▸ (J.pin p hp).1)
    subst hhd
    refine wpAny_handleBy_cons (codeAny_handlers_test ?_) (fun q => by cases q)
    have S3 : Inv (X.suite a (X.pn ++ pins)) [] σ' H' { s' with heap := h3 } := in_suite J3
    refine wpAny_Tuple_spliced (Calls.spliced_cons (ld_glob (X := X.suite a (X.pn ++ pins)) S3 g1 m1 ?_ d1))
    refine Calls.spliced_cons (ld_glob (X := X.suite a (X.pn ++ pins)) S3 g2 m2 ?_ d2)
    refine Calls.spliced_cons (ld_glob (X := X.suite a (X.pn ++ pins)) S3 g3 m3 ?_ d3)
    refine Calls.spliced_nil ⟨(show 3 ≤ sizeLine by decide), ?_⟩
    have kp : ∀ b o, h3.get? b = some o → (h3.push { cls := .type "tuple", data := .seq [Value.ref C1, .ref C2, .ref C3].toArray }).get? b = some o := fun b o e => Heap.get?_push_of_some _ e
    have tp := Heap.get?_push_size h3 (o := { cls := .type "tuple", data := .seq [Value.ref C1, .ref C2, .ref C3].toArray }) rfl
    have fl2 := flying_kept fl kp
    generalize (h3.push { cls := .type "tuple", data := .seq [Value.ref C1, .ref C2, .ref C3].toArray }) = h4 at kp tp fl2
    have up4 : h3.UpToSlots h4 := .of_keeps kp
    have ty : PySem.W.Looks (model X.prog X.w) h4 (typeOf (.ref a)) cls := fun _ _ _ _ k q => wpAny_typeOf_ref (k _ _ (kp _ _ he)) (by rw [hz.1]; exact q)
    refine (PySem.W.exm_tup3 (M := model X.prog X.w) (J3.kIn.keeps kp) ty tp w1).here ?_
    refine codeAny_handlers_suite_as ?_
    refine HandSPX.lands_againZ fl2 fun h5 fl5 up5 => ?_
    have J5 : Inv X pins σ' H' { s' with heap := h5 } := J.landed nb fl5.1 (((up.trans up3).trans up4).trans up5) os ag
    obtain ⟨oe5, vs5, he5, hz5, hd5⟩ := fl5.there
    have S5 : Inv (X.suite a (X.pn ++ pins)) [] σ' (upd H' a (ExK cls d a)) { s' with heap := h5 } := in_suite (adopt J5 he5 hz5 hd5 na nL n0 np)
    refine store_ok (X := X.suite a (X.pn ++ pins)) (v := .ref a) S5 hN hi hl rfl (fun s6 S6 => ?_) (.inr hln)
    refine wpAny_mono ((hsu a (X.pn ++ pins)).run [] s6 _ _ _ S6 (w2 a na J.len)) (fun f s7 hsp => ?_) (fun _ _ z => False.elim z)
    have gone : ∀ {σ7 : L2.St} {H7 : Hp} {Q : Shared → Prop}, Inv (X.suite a (X.pn ++ pins)) [] σ7 H7 s7 → (∀ s8, Inv X pins (σ7.set i none) H7 s8 → Q s8) →
        wpAny (model X.prog X.w) X.A (do bindName X.env n .none; unbindBehindTheSuite X.env n pos') (fun _ s8 => Q s8) X.xe s7 := fun S7 hq => gone_ok (of_suite S7 ok) hN hi hln hq
    cases f with
    | next =>
      obtain ⟨σ7, H7, S7, q7⟩ := hsp
      exact gone S7 fun _ J8 => ⟨_, _, J8, q7⟩
    | brk =>
      obtain ⟨σ7, H7, S7, q7⟩ := hsp
      exact gone S7 fun _ J8 => ⟨_, _, J8, q7⟩
    | cont =>
      obtain ⟨σ7, H7, S7, q7⟩ := hsp
      exact gone S7 fun _ J8 => ⟨_, _, J8, q7⟩
    | ret u =>
      obtain ⟨v7, σ7, H7, S7, r7, q7⟩ := hsp
      exact gone S7 fun _ J8 => ⟨_, _, _, J8, r7, q7⟩
  refine wpAny_mono ((hb _ (X.pn ++ pins) xe' caught PassesOwn.looking).run [] s σ H D (I.toTry _) h) (fun f s1 hsp => ?_) (fun _ _ z => z)
  cases f with
  | next =>
    obtain ⟨σ2, H2, J2, q⟩ := hsp
    exact wpAny_execs_nil ⟨σ2, H2, J2.ofTry ok, q⟩
  | brk =>
    obtain ⟨σ2, H2, J2, q⟩ := hsp
    exact ⟨σ2, H2, J2.ofTry ok, q⟩
  | cont =>
    obtain ⟨σ2, H2, J2, q⟩ := hsp
    exact ⟨σ2, H2, J2.ofTry ok, q⟩
  | ret u =>
    obtain ⟨v, σ2, H2, J2, r, q⟩ := hsp
    exact ⟨v, σ2, H2, J2.ofTry ok, r, q⟩
end
/-! ### a field of such a thing -/
def tXk (K : PySem.W.Frag) (f : Str) (te : TE) : TE := fun σ H Q => te σ H fun x H1 => ∃ (a C dd : Addr) (fs : List (Str × V)) (v : V), x = .ref a ∧ H1 a = some (ExK (.ref C) (some dd) a) ∧ H1 dd = some (.xd fs) ∧
  XfC K C ∧ PySem.W.findIn K (.ref C) f = some none ∧ fs.lookup f = some v ∧ Q v H1
theorem pe_xk {X : Cx} {e : Expr} {te : TE} {pos : Pos} {f : Str} (he : PE X e te) (hb : attributeBase e f X.env (eval e X.env) = eval e X.env := by rfl) : PE X (.Attribute e f pos) (tXk X.K f te) := by
  refine ⟨fun pins s σ H Q I h => attr_of hb (thn (he.run pins s σ H _ I h) fun u s1 hh => ?_)⟩
  obtain ⟨x, H1, I1, rx, a, C, dd, fs, v, ex, ea, ed, T, hno, l, q⟩ := hh
  subst ex
  obtain rfl : u = Value.ref a := rx
  obtain ⟨oe, vs, ha, hz, hd⟩ := exk_at I1.hok ea
  have hx : ObjOk X.prog X.w H1 s1.heap dd (.xd fs) := I1.hok dd _ ed
  obtain ⟨mA, hns, hr⟩ := hx
  obtain ⟨od, ho, hl⟩ := lookIn_ns hns
  obtain ⟨u, hu, ru⟩ := RelO.some_of (v := v) (o := mA f) (by rw [← l]; exact hr f)
  have J : PySem.W.InstAt s1.heap a oe C (some od) := ⟨ha, hz.1, (by unfold PySem.W.notCls; rw [hd] <;> rfl), (by rw [hz.2]; exact ho)⟩
  exact HandSPX.exc_get I1.kIn J T.ga T.gg T.exC (PySem.W.findObj_own T.hdC hno rfl ((hl f).trans (congrArg some hu))) (handed_of ru)
    ⟨v, H1, I1.tok _, ru, q⟩
end FW
namespace FW
open PySem PySem.Spec PyProof.Rows L2
/-! ### defs that are called while an exception is handled; they raise nothing -/
structure FnW (P : Program) (w : World) (K : PySem.W.Frag) (mg : Str → Option Value) (base : Heap) (k : Nat) (f : Addr) (fd : FuncData) (ps : List Str) (sp : Sp) : Prop where
  len : ∀ vs H Q E, sp vs H Q E → vs.length = ps.length
  run : ∀ (A : Around) (outer : List Env) (s : Shared) (H : Hp) (args : Args) (us : List Value) (vs : List V) (Q : VK), L2H.RoomH k A → Env0 P w K mg base A outer s H → BindsTo s fd args (ps.zip us) → Vals vs us → sp vs H Q E0 →
    codeAny (model P w) A (.call (.ref f) args) (CR L2.CX0 outer P w H s Q E0) s
section
variable {P : Program} {w : World} {K : PySem.W.Frag} {mg : Str → Option Value} {base : Heap}
theorem okW {x qual : Str} {st : Stmt} {f : Addr} {fd : FuncData} {N ps : List Str} {k : Nat} {sp : Sp} (F : Fun K x qual st f fd) (S : FnScope N ps (defScope st)) (len : ∀ vs H Q E, sp vs H Q E → vs.length = ps.length)
    (hbody : ∀ (cdv : Value) (A : Around) (outer : List Env) (s : Shared) (H : Hp) (vs : List V) (Q : VK) (p : Addr × Obj), L2H.RoomH k (A.deeper (envOfC qual (defScope st) s.heap.objs.size f cdv)) → sp vs H Q E0 →
      ∃ t, PSs (L2H.cxH L2.CX0 P w K mg base N qual (defScope st) f cdv A outer s H E0 p).nox (defBody st) t ∧ t { nx := fun _ H' => Q .non H', rt := Q } (L2.start N vs) H) : FnW P w K mg base (k + 1) f fd ps sp := by
  obtain ⟨oc, od, kV, doc, pm, an, cdv, ct, osl, rfl, lk, hcd⟩ := F.ex
  refine ⟨len, fun A outer s H args us vs Q hr e0 hb r hsp => ?_⟩
  have there : ∀ b o, K.lookup b = some o → s.heap.get? b = some o ∧ H b = none := fun b o e => e0.bs b o (e0.mod.kin b o e)
  obtain ⟨fat, fnn⟩ := there _ _ lk
  have nfr : f ∉ frs outer := fun hm => by
    have z := (e0.funs.mem hm).1
    rw [e0.mod.kin _ _ lk] at z
    cases z
  have pin : L2H.PinOk outer H s (f, _) := ⟨fat, fnn, nfr, fun v z => by cases z⟩
  have KX : K.In s.heap := fun b o e => (there b o e).1
  have ks : ∀ y ∈ ps.zip us, (defScope st).names.lookup y.1 = some .local ∨ ((defScope st).names.lookup y.1 = some .cell ∧ ((cellsFrom (s.heap.objs.size + 1) (defScope st).names []).lookup y.1).isSome = true) := by
    rintro ⟨n, v⟩ hy
    exact (S.par n (List.of_mem_zip hy).1).imp id fun q => ⟨q, PySem.W.cellsFrom_some _ _ _ (.inl q)⟩
  refine codeAny_call_function hr.depth fat rfl S.co S.gen rfl (PySem.W.codeRec_of KX hcd) (hb _ _ _ _ ?_)
  refine wpAny_newFunctionEnv_cells S.kind ks fun env he s1 x => ?_
  subst he
  refine ⟨(e0.mod.nolimit.keeps fun b o e => (e0.bs b o e).1).keeps x.toInCall.keep, codeAny_func ?_⟩
  obtain ⟨t, ht, hq⟩ := hbody cdv A outer s H vs Q _ (hr.deeper _) hsp
  have I := L2H.inv_startH (CX := L2.CX0) (E := E0) (base := base) (mg := mg) (w := w) (P := P) S pin e0 (len _ _ _ _ hsp) r x
  refine wpAny_mono (ht.nox.run [] s1 _ H _ I hq) (fun fl s' hs => ?_) (fun _ _ hs => hs)
  cases fl with
  | ret u =>
    obtain ⟨v, σ', H', J, rv, q⟩ := hs
    exact ⟨v, H', J.os, J.bare, J.base, J.hok, rv, q⟩
  | next =>
    obtain ⟨σ', H', J, q⟩ := hs
    exact ⟨V.non, H', J.os, J.bare, J.base, J.hok, rfl, q⟩
  | brk =>
    obtain ⟨_, _, _, q⟩ := hs
    exact q.elim
  | cont =>
    obtain ⟨_, _, _, q⟩ := hs
    exact q.elim
end
section
variable {X : Cx} {k : Nat} {f : Addr} {fd : FuncData} {ps : List Str} {sp : Sp} {x : Str} {p pos : Pos} {e : Expr} {es : List Expr} {t : TA}
theorem pe_callW (F : FnW X.prog X.w X.K X.mg X.base k f fd ps sp) (hr : L2H.RoomH k X.A) (hg : Gl X x) (hm : X.mg x = some (.ref f)) (hk : PySem.W.keepIn X.K (.ref f) = true) (hb : Binds X.K fd ps [])
    (ha : PA X (e :: es) t) (hdb : (x == ("__debug__" : Str)) = false := by decide) (he : starEach (e :: es) X.env = (false, eval e X.env) :: starEach es X.env := by rfl)
    (hpl : (backTo pos (starEach es X.env)).any (·.1) = false := by rfl) : PE X (.Call (.Name x p) (e :: es) [] pos) (fun σ H Q => t σ H fun vs H1 => sp vs H1 Q E0) := by
  refine ⟨fun pins s σ H Q I h => wpAny_Call_Name_kw (ld_glob I hg hm ?_ hdb)⟩
  refine PySem.W.callWith_K (h₀ := X.base) I.ok.mod.kin hk (thn (ha.run pos pins s σ H _ I h) ?_) he hpl
  rintro us s1 ⟨vs, H1, I1, r, q⟩
  have hl : us.length = ps.length := r.length.symm.trans (F.len _ _ _ _ q)
  have hb' : BindsTo s1 fd ⟨us, []⟩ (ps.zip us) := by
    have z := hb s1 us I1.kIn (by rw [List.append_nil]; exact hl)
    rwa [List.append_nil] at z
  refine ⟨I1.kIn, wpAny_call (codeAny_mono (F.run X.A X.stack s1 H1 ⟨us, []⟩ us vs Q hr I1.env0 hb' r q) fun r s' hq => ?_)⟩
  cases r with
  | error e => exact hq.elim
  | ok fl =>
    cases fl with
    | ret u => exact I1.after hq
    | next => exact hq.elim
    | brk => exact hq.elim
    | cont => exact hq.elim
end
end FW
namespace FW
open PySem PySem.Spec PyProof.Rows L2
def inCls (c : Stmt) (j : Nat) : Stmt := match c with
  | .ClassDef _ _ _ b _ _ _ _ _ _ _ => b.getD j (.Pass ⟨0, 0, 0, 0⟩)
  | s => s
def bLetter (v : V) (L : List Nat) : Bool := isStr v && decide ((strOf v).cps.size = 1) && decide ((strOf v).cps.toList.getD 0 0 ∈ L)
section
variable {P : Program} {w : World} {K : PySem.W.Frag} {mg : Str → Option Value} {base : Heap}
def sp_is_letter (K : PySem.W.Frag) : Sp := fun vs H Q _ => ∃ (v : V) (L : List Nat), vs = [v, .str (S L)] ∧ Askd K H v ∧ ∀ H', Same H H' → Q (.bl (bLetter v L)) H'
/-- what is told of an error class of the program: its name, its __init__ at fI -/
structure Kls (K : PySem.W.Frag) (mg : Str → Option Value) (C fI : Addr) (z : String) : Prop where
  g : mg (Str.ofString z) = some (.ref C)
  oex : OexC K C
  cle : ClsE K C
  nam : NameC K C (Str.ofString z)
  xf : XfC K C
  ncode : PySem.W.findIn K (.ref C) "code" = some none
  init : PySem.W.findIn K (.ref C) "__init__" = some (some (.ref fI))
  tI : PySem.W.typeIn K (.ref fI) = some (.type "function")
/-- __init__(self, f): self.f = f; self.code = the class's name -/
def sp_init (K : PySem.W.Frag) (f : String) : Sp := fun vs H Q _ => ∃ (a C : Addr) (v : V) (z : Str), vs = [.ref a, v] ∧ H a = some (exo a C none) ∧ OexC K C ∧ ClsE K C ∧ NameC K C z ∧ PySem.W.findIn K (.ref C) (Str.ofString f) = some none ∧ PySem.W.findIn K (.ref C) "code" = some none ∧
  ∀ dx, H dx = none → dx ≠ a → Q .non (upd (upd (upd H dx (exd dx [(Str.ofString f, v)])) a (exo a C (some dx))) dx (exd dx [("code", .str z), (Str.ofString f, v)]))
/-- the dict of an error that bears one value -/
def Err1 (f : String) (z : String) (v : V) : HO := .xd [("code", .str (Str.ofString z)), (Str.ofString f, v)]
theorem err_heap {H : Hp} {a d : Addr} {o1 o2 o3 o4 u : HO} (na : H a = none) (hda : d ≠ a) : upd (del (upd (upd (upd (upd H a o1) d o2) a o3) d o4) a) d u = upd H d u := by
  funext b
  by_cases hb : b = d
  · rw [hb, upd_same, upd_same]
  · rw [upd_ne hb, upd_ne hb]
    by_cases ha : b = a
    · rw [ha, del_same, na]
    · rw [del_ne ha, upd_ne hb, upd_ne ha, upd_ne hb, upd_ne ha]
/-- C(e): the error that its __init__ leaves -/
theorem mk1 {x f : String} {C fI : Addr} {H1 : Hp} {v : V} {Q : XK} {E : XK} (T : Kls K mg C fI x) (nf : PySem.W.findIn K (.ref C) (Str.ofString f) = some none) (h : ∀ d, H1 d = none → Q (.ref C) (some d) (upd H1 d (Err1 f x v))) :
    [v].length ≤ 1000 ∧ ∀ a, H1 a = none → sp_init K f (.ref a :: ([v] ++ [])) (upd H1 a (exo a C none)) (fun v H2 => v = .non ∧ ∃ (d : Addr) (fs : List (Str × V)), H2 a = some (exo a C (some d)) ∧ H2 d = some (exd d fs) ∧ H1 d = none ∧ Q (.ref C) (some d) (upd (del H2 a) d (.xd fs))) E := by
  refine ⟨(show 1 ≤ 1000 by decide), fun a na => ⟨a, C, v, Str.ofString x, rfl, upd_same, T.oex, T.cle, T.nam, nf, T.ncode, fun d hd hda => ⟨rfl, d, _, ?_, upd_same, ?_, ?_⟩⟩⟩
  · rw [upd_ne (Ne.symm hda), upd_same]
  · rwa [upd_ne hda] at hd
  · rw [upd_ne hda] at hd
    rw [err_heap na hda]
    exact h d hd
/-- the promise of a def that checks its first argument -/
def FieldIs (K : PySem.W.Frag) (C : Addr) (fs : List (Str × V)) (z : Str) (v : V) : Prop :=
  if z ∈ (["InvalidLine", "InvalidStep", "InvalidTable", "InvalidBad", "InvalidPlan", "UnknownRoom"] : List Str) then PySem.W.findIn K (.ref C) "at" = some none ∧ fs.lookup (Str.ofString "at") = some v
  else if z ∈ (["TooMany", "Full"] : List Str) then PySem.W.findIn K (.ref C) "most" = some none ∧ fs.lookup (Str.ofString "most") = some v
  else if z ∈ (["InvalidText", "InvalidPage"] : List Str) then PySem.W.findIn K (.ref C) "line" = some none ∧ fs.lookup (Str.ofString "line") = some v
  else if z = "UnknownState" then PySem.W.findIn K (.ref C) "state" = some none ∧ fs.lookup (Str.ofString "state") = some v
  else if z ∈ (["InvalidPaper", "OtherFaces", "OtherCutters", "NothingLeft"] : List Str) then v = .non
  else PySem.W.findIn K (.ref C) "given" = some none ∧ fs.lookup (Str.ofString "given") = some v
/-- a caught error of the program: its class, its dict, its code, what it bears -/
def Caught (K : PySem.W.Frag) (H : Hp) (a : Addr) (z : Str) (v : V) : Prop := ∃ (C dd : Addr) (fs : List (Str × V)), H a = some (ExK (.ref C) (some dd) a) ∧ H dd = some (.xd fs) ∧ XfC K C ∧ PySem.W.findIn K (.ref C) "code" = some none ∧ fs.lookup (Str.ofString "code") = some (.str z) ∧ FieldIs K C fs z v
theorem Caught.same {H H' : Hp} {a : Addr} {z : Str} {v : V} (h : Same H H') : Caught K H a z v → Caught K H' a z v := fun ⟨C, dd, fs, h1, h2, r⟩ => ⟨C, dd, fs, h _ _ h1, h _ _ h2, r⟩
def sp__law_field (K : PySem.W.Frag) : Sp := fun vs H Q _ => ∃ (a : Addr) (z : Str) (v : V), vs = [.ref a] ∧ Caught K H a z v ∧ ∀ H', Same H H' → Q v H'
/-- what _law_try makes of what it asks -/
def TTry (K : PySem.W.Frag) (cs : List Value) : (XK → Hp → VK → Prop) → Hp → VK → Prop := fun tl H Q =>
  tl (fun cls d H1 => PySem.W.exmAny K cls cs = some true ∧ ∀ a, H1 a = none → ∃ (z : Str) (v : V), Caught K (upd H1 a (ExK cls d a)) a z v ∧ ∀ H2, Same (upd H1 a (ExK cls d a)) H2 → ∀ p, H2 p = none → Q (.ref p) (upd H2 p (.tup [.str z, v])))
    H (fun v H1 => [V.str "", v].length ≤ sizeLine ∧ ∀ p, H1 p = none → Q (.ref p) (upd H1 p (.tup [.str "", v])))
end
end FW
namespace FW
open PySem PySem.Spec PyProof.Rows L2
section
variable {X : Cx} {k j : Nat} {x : Str} {st : Stmt} {ps ks : List Str} {sp : Sp} {p pos : Pos} {e : Expr} {es : List Expr} {kws : List Keyword} {t tk : TA} {g : List Value → List Value → List Value} {gV : List V → List V → List V}
/-- a def that may raise, called where it raises nothing -/
theorem pe_cE (c : Cal X.prog X.w X.K X.mg X.base (L2.CX X.prog X.w) k x st ps sp) (hr : Room j X.A) (hk : k ≤ j) (hg : Gl X x) (ha : PA X (e :: es) t)
    (hdb : (x == ("__debug__" : Str)) = false := by decide) (he : starEach (e :: es) X.env = (false, eval e X.env) :: starEach es X.env := by rfl) (hpl : (backTo pos (starEach es X.env)).any (·.1) = false := by rfl) :
    PE X (.Call (.Name x p) (e :: es) [] pos) (tCall sp [] E0 t) := pe_cx c hr hk hg passL ha hdb he hpl
theorem pe_ck0E (c : Cal X.prog X.w X.K X.mg X.base (L2.CX X.prog X.w) k x st ps sp) (b : KB X.K x st ps ks g gV) (hr : Room j X.A) (hk : k ≤ j) (hg : Gl X x) (hkw : PK X kws tk)
    (hall : (backToKw pos (keywordEach kws X.env)).all (·.1.isSome) = true := by rfl) (hks : (backToKw pos (keywordEach kws X.env)).filterMap (·.1) = ks := by rfl)
    (hdb : (x == ("__debug__" : Str)) = false := by decide)
    (hpl : ((backTo pos (starEach [] X.env)).any (·.1) || (backToKw pos (keywordEach kws X.env)).any (·.1.isNone)) = false := by rfl) :
    PE X (.Call (.Name x p) [] kws pos) (tCallK sp gV E0 tNil tk) := by
  obtain ⟨f, fd, F, hm, fn, _⟩ := c.ex
  exact pe_callK0 F (hr.mono hk) hg hm fn.kp (b f fd fn) passL hkw hall hks hdb hpl
end
/-! ### what stands when only tables grow -/
section
variable {K : PySem.W.Frag} {H H' : Hp}
theorem ext_seq {a : Addr} {xs : List V} (e : LamX.ExtN H H') (h : SqL K H a xs) : SqL K H' a xs := by
  rcases h with (h | ⟨o, h⟩) | h
  · exact .inl (.inl (e _ _ h (fun _ z => by cases z)))
  · exact .inl (.inr ⟨o, e _ _ h (fun _ z => by cases z)⟩)
  · exact .inr h
theorem ext_tup {a : Addr} {xs : List V} (e : LamX.ExtN H H') (h : SqT K H a xs) : SqT K H' a xs := by
  rcases h with (h | ⟨o, h⟩) | h
  · exact .inl (.inl (e _ _ h (fun _ z => by cases z)))
  · exact .inl (.inr ⟨o, e _ _ h (fun _ z => by cases z)⟩)
  · exact .inr h
theorem dp_ext (e : LamX.ExtN H H') {v : V} {d : PyData} (h : Dp K H v d) : Dp K H' v d :=
  @Dp.rec K H (fun v d _ => Dp K H' v d) (fun vs ds _ => DpAll K H' vs ds) .non (fun b => .bl b) (fun i => .int i) (fun x => .str x) (fun h _ ih => .lst (ext_seq e h) ih) (fun h _ ih => .tup (ext_tup e h) ih) .nil (fun _ _ i1 i2 => .cons i1 i2) v d h
theorem ns_ext (e : LamX.ExtN H H') {v : V} (n : NS H v) : NS H' v := by
  rcases n with n | n | n | ⟨p, xs, z, h⟩ | ⟨p, xs, z, h⟩
  · exact .inl n
  · exact .inr (.inl n)
  · exact .inr (.inr (.inl n))
  · exact .inr (.inr (.inr (.inl ⟨p, xs, z, e _ _ h (fun _ q => by cases q)⟩)))
  · exact .inr (.inr (.inr (.inr ⟨p, xs, z, e _ _ h (fun _ q => by cases q)⟩)))
end
end FW
namespace FW
open PySem PySem.Spec PyProof.Rows L2
/-! ### a walk over a list or a tuple -/
def iSeq (K : PySem.W.Frag) (tl : TE) : TI := fun σ H R => tl σ H fun x H1 => ∃ a, x = .ref a ∧ (((∃ xs, SqL K H1 a xs) ∧ R (Itl K a) H1) ∨ ((∃ xs, SqT K H1 a xs) ∧ R (Itt K a) H1))
theorem pi_seq {X : Cx} {tg l : Expr} {tl : TE} (hl : PE X l tl) : PI X tg l (iSeq X.K tl) := by
  refine ⟨fun pins s σ H R I h => thn (hl.run pins s σ H _ I h) ?_⟩
  rintro v s1 ⟨x, H1, I1, r1, a, e, q1⟩
  subst e
  obtain rfl : v = Value.ref a := r1
  have fp : ∀ b ∈ [s1.heap.objs.size], FpOk X pins H1 b := fun b hb => by
    rw [List.mem_singleton.mp hb]
    exact I1.fpOk (Nat.le_refl _) (I1.hok.fresh (Nat.le_refl _))
  rcases q1 with ⟨⟨xs, hq⟩, q⟩ | ⟨⟨xs, hq⟩, q⟩
  · obtain ⟨its, rv, p, hz⟩ := I1.list hq
    exact wpAny_pyIter_list p.isList ⟨s1.heap.objs.size, [s1.heap.objs.size], _, _, H1, rfl, I1.kept (t' := s1.toks) fun b o e => Heap.get?_push_of_some _ e, turn_list a _,
      ⟨_, Heap.get?_push_size _ rfl, rfl, rfl⟩, fp, q⟩
  · obtain ⟨its, rv, p, hz⟩ := I1.tuple hq
    exact wpAny_pyIter_tuple (show s1.heap.IsTuple a its.toArray from p) ⟨s1.heap.objs.size, [s1.heap.objs.size], _, _, H1, rfl, I1.kept (t' := s1.toks) fun b o e => Heap.get?_push_of_some _ e, turn_tuple a _,
      ⟨_, Heap.get?_push_size _ rfl, rfl, rfl⟩, fp, q⟩
end FW
namespace FW
open PySem PySem.Spec PyProof.Rows L2
/-! ### enumerate(x): a list, a tuple or a text -/
theorem meets_enum1 {v : Value} {o : Obj} {B0 : Heap → Prop} (B : Begins v o B0) :
    Meets (Builtin.«enumerate.__new__» ⟨[.type "enumerate", v], []⟩) (fun _ R s => B0 s.heap ∧
      R (.ok (.ret (.ref (s.heap.push o).objs.size))) { s with heap := (s.heap.push o).push { cls := .type "enumerate", data := .fields #[.none, .bool false, .ref s.heap.objs.size, rawInt 0, .none, .none] } }) :=
  .of_wp fun prog w A R s hh => by
    obtain ⟨hp, gg, dd, tk, os⟩ := s
    obtain ⟨hb, hr⟩ := hh
    have hsub := sub_enumerate
    have go : ∀ {A' : Around} {E : Value → Shared → Prop} {Q : Value → Shared → Prop}, Q (.ref hp.objs.size) ⟨hp.push o, gg, dd, tk, os⟩ → wpAny (model prog w) A' (pyIter v) Q E ⟨hp, gg, dd, tk, os⟩ := fun q => B.iter prog w _ _ ⟨hp, gg, dd, tk, os⟩ _ hb q
    wp_walk using go
    refine wpAny_stack_any fun st => wpAny_pure ?_
    split
    · rename_i c _ _ _ _ _
      cases (c == Value.type "enumerate")
      · wp_walk using go
        exact ⟨_, rfl, hr⟩
      · wp_walk using go
        exact ⟨_, rfl, hr⟩
    · wp_walk using go
      exact ⟨_, rfl, hr⟩
section
variable {prog : Program} {w : World} {A : Around} {E : Value → Shared → Prop} {s : Shared}
theorem enum_begin1 {v : Value} {o : Obj} {B0 : Heap → Prop} {Q : Value → Shared → Prop} (B : Begins v o B0) (hb : B0 s.heap)
    (h : ∀ h', IsEnum h' (s.heap.objs.size + 1) s.heap.objs.size 0 .none → h'.get? s.heap.objs.size = some o → (∀ b u, s.heap.get? b = some u → h'.get? b = some u) → Q (.ref (s.heap.objs.size + 1)) { s with heap := h' }) :
    wpAny (model prog w) A (call (.type "enumerate") [v]) Q E s := by
  refine callType_new F.called_enumerate (by decide) (F.typeCall_enumerate_1 _) (F.newCall_enumerate_1 _) (fun obj => F.args_object_init_2 obj _)
    F.entry_enumerate_new (meets_enum1 B) ⟨hb, ?_⟩
  have sz1 : (s.heap.push o).objs.size = s.heap.objs.size + 1 := Heap.size_push ..
  show _ ∧ _
  rw [sz1]
  have en : IsEnum ((s.heap.push o).push { cls := .type "enumerate", data := .fields #[.none, .bool false, .ref s.heap.objs.size, rawInt 0, .none, .none] }) (s.heap.objs.size + 1) s.heap.objs.size 0 .none := by
    have z := Heap.get?_push_size (s.heap.push o) (o := { cls := .type "enumerate", data := .fields #[.none, .bool false, .ref s.heap.objs.size, rawInt 0, .none, .none] }) rfl
    rwa [sz1] at z
  exact ⟨⟨_, en, rfl⟩, h _ en (Heap.get?_push_of_some _ (Heap.get?_push_size _ B.free)) fun b u x => Heap.get?_push_of_some _ (Heap.get?_push_of_some _ x)⟩
end
def IteG (K : PySem.W.Frag) (k : SK) : It :=
  ⟨fun i H => ∃ (xs : List V) (x : V), k.src K H xs ∧ xs[i]? = some x, fun i H v H' => ∃ T x, v = .ref T ∧ H T = none ∧ H' = upd H T (.tup [.int (i : Nat), x]) ∧ ∀ xs, k.src K H xs → xs[i]? = some x, fun i H => ∃ xs : List V, k.src K H xs ∧ i = xs.length⟩
theorem turn_enumG {P : Program} {w : World} {K : PySem.W.Frag} {elts : List Expr} {kk : Nat} {tpos : Pos} {e it : Addr} {k : SK} (hne : e ≠ it) (ha : ∀ c, k.at c → c ≠ e ∧ c ≠ it) :
    Turn P w K (.Tuple elts kk tpos) (IteG K k) [e, it] e (fun i h => (∃ old, IsEnum h e it ((i : Nat) : Int) old) ∧ k.iter it i h) where
  mem := List.mem_cons_self
  obj := fun i h st b hb => by
    obtain ⟨⟨old, he⟩, hi⟩ := st
    have e' : b = e ∨ b = it := by simpa using hb
    rcases e' with z | z
    · rw [z]
      exact ⟨_, he, fun v q => nomatch q⟩
    · rw [z]
      exact SK.iter_obj hi
  keep := fun i h h' st k => by
    obtain ⟨⟨old, he⟩, hi⟩ := st
    exact ⟨⟨old, k e (by simp) _ he⟩, SK.iter_keep hi fun o q => k it (by simp) o q⟩
  item := by
    intro X hP hw hK hc i pins s σ H E I hf st hg
    subst hP hw hK
    obtain ⟨⟨old, he⟩, hi⟩ := st
    obtain ⟨xs, x, hq, hx⟩ := hg
    obtain ⟨fp, Pp, Sp, D, g1, b1, r1, m1, f1⟩ := SK.draws I hc hq fun c q => (ha c q).2
    have lx : i < xs.length := (List.getElem?_eq_some_iff.mp hx).1
    have hel : e < s.heap.objs.size := Heap.lt_size he
    have hil : it < s.heap.objs.size := by
      obtain ⟨_, q, _⟩ := SK.iter_obj hi
      exact Heap.lt_size q
    have hef : e ∉ fp := fun q => by
      rcases f1 e q with z | z
      · exact hne z
      · exact (ha e z).1 rfl
    refine wpAny_pyNext_enum_itemD D he (g1 i hi) lx hne hef fun u h' tk p ho hs hT hsz hk => ?_
    obtain ⟨v1, e1, ru⟩ := r1 i u p
    obtain rfl : v1 = x := Option.some.inj (e1.symm.trans hx)
    refine ⟨_, rfl, wpAny_letOwnedTupleGo_enum (s := { s with heap := h', toks := tk + 1 }) ho fun h'' he' sb => ?_⟩
    have hT2 : h''.get? s.heap.objs.size = some { cls := .type "tuple", data := .seq #[.int i tk, u] } := (sb.2 _ (Nat.ne_of_gt hel)).trans hT
    have new : ObjOk X.prog X.w (upd H s.heap.objs.size (.tup [.int (i : Nat), v1])) h'' s.heap.objs.size (.tup [.int (i : Nat), v1]) :=
      ⟨(show 2 ≤ sizeLine by decide), [.int i tk, u], .cons ⟨_, rfl⟩ (.cons ru .nil), ⟨_, hT2, rfl, _, rfl⟩⟩
    have I1 : Inv X pins σ (upd H s.heap.objs.size (.tup [.int (i : Nat), v1])) { s with heap := h'', toks := tk + 1 } :=
      I.turnedNew (ch := [e, it]) (fun b ob hb q => (sb.2 b (fun z => hb (by simp [z]))).trans (hk b ob (fun z => hb (by simp [z])) (fun z => hb (by simp [z])) q)) hf (Nat.le_refl _) new
    refine ⟨.ref s.heap.objs.size, _, I1, rfl, ⟨_, v1, rfl, I.hok.fresh (Nat.le_refl _), rfl, fun ys hy => by rw [SK.inj I hy hq]; exact hx⟩, ⟨⟨u, ?_⟩, SK.iter_keep (b1 _ _ hs) fun o q => (sb.2 it (Ne.symm hne)).trans q⟩, fun b hb => ?_⟩
    · rw [show ((i + 1 : Nat) : Int) = (i : Int) + 1 by omega]
      exact he'
    · have e' : b = e ∨ b = it := by simpa using hb
      have hb' : b < s.heap.objs.size := by
        rcases e' with z | z
        · rw [z]
          exact hel
        · rw [z]
          exact hil
      rw [upd_ne (Nat.ne_of_lt hb')]
      exact (hf b hb).1
  done := by
    intro X hP hw hK hc i pins s σ H E I hf st hg
    subst hP hw hK
    obtain ⟨⟨old, he⟩, hi⟩ := st
    obtain ⟨xs, hq, rfl⟩ := hg
    obtain ⟨fp, Pp, Sp, D, g1, b1, r1, m1, f1⟩ := SK.draws I hc hq fun c q => (ha c q).2
    obtain ⟨f0, f1', f2, f3, f4, f5⟩ := hf it (by simp)
    exact wpAny_pyNext_enum_endD D he (g1 _ hi) fun h' eb => ⟨rfl, I.turned (t' := s.toks) (fun b o hb q => eb b o hb q) f0 f1' f3 f4 f5⟩
  self := fun A i s Q E st h => by
    obtain ⟨⟨old, he⟩, _⟩ := st
    exact wpAny_pyIter_enum he h
def iEnumG (K : PySem.W.Frag) (ta : TA) : TI := fun σ H R => ta σ H fun vs H1 => ∃ (x : V) (xs : List V), vs = [x] ∧ Src K H1 x xs ∧ ∀ k : SK, k.val = x → k.src K H1 xs → R (IteG K k) H1
theorem pi_enumG {X : Cx} {e : Expr} {ta : TA} {p pos tpos : Pos} {elts : List Expr} {kk : Nat} (hg : Gl X "enumerate") (hm : X.mg "enumerate" = none) (ha : PA X [e] ta) (hs : starEach [e] X.env = [(false, eval e X.env)] := by rfl) :
    PI X (.Tuple elts kk tpos) (.Call (.Name "enumerate" p) [e] [] pos) (iEnumG X.K ta) := by
  refine ⟨fun pins s σ H R I h => ?_⟩
  refine Call_ (ld_blt I hg hm boot_enumerate (PyProof.Rows.callWith_type1 (thn (ha.run pos pins s σ H _ I h) ?_) hs rfl))
  rintro us s1 ⟨vs, H1, I1, r1, x, xs, ex, sx, q⟩
  subst ex
  cases r1 with
  | cons r rr =>
    cases rr
    obtain ⟨k, ev, _, src, lt, B0, b0, hb0⟩ := sx.kind I1 r
    refine enum_begin1 b0 hb0 fun h' he hi hk => wpAny_pyIter_enum he ?_
    have I2 : Inv X pins σ H1 { s1 with heap := h' } := I1.kept (t' := s1.toks) hk
    refine ⟨s1.heap.objs.size + 1, [s1.heap.objs.size + 1, s1.heap.objs.size], _, _, H1, rfl, I2, turn_enumG (k := k) (Nat.succ_ne_self _) (fun c hc => ?_), ⟨⟨.none, he⟩, SK.begun hi⟩, fun b hb => ?_, q k ev src⟩
    · have hlt := lt c hc
      exact ⟨Nat.ne_of_lt (Nat.lt_succ_of_lt hlt), Nat.ne_of_lt hlt⟩
    · have e' : b = s1.heap.objs.size + 1 ∨ b = s1.heap.objs.size := by simpa using hb
      have hle : s1.heap.objs.size ≤ b := by
        rcases e' with z | z
        · rw [z]
          exact Nat.le_add_right _ _
        · rw [z]
          exact Nat.le_refl _
      exact I1.fpOk hle (I1.hok.fresh hle)
theorem walk_enumG {K : PySem.W.Frag} {k : SK} {xs : List V} : Walk (IteG K k) xs.length (fun H => k.src K H xs) (YPair (fun i => some (.int (i : Nat))) (fun i => xs[i]?)) := by
  refine ⟨fun i _ hi q => ⟨xs, xs[i], q, by simp [hi]⟩, fun _ q => ⟨xs, q, rfl⟩, fun i H v H' _ q y => ?_⟩
  obtain ⟨T, x, h1, h2, h3, h4⟩ := y
  exact ⟨T, .int (i : Nat), x, h1, h2, h3, rfl, h4 xs q⟩
end FW
namespace FW
open PySem PySem.Spec PyProof.Rows L2
/-! ### C.m(..), m a static method of the class at C over the function at f -/
structure Sta (K : PySem.W.Frag) (C : Addr) (m : Str) (f : Addr) : Prop where
  rd : PySem.W.readsIn K C (.type "type") = true
  fd : ∃ (p : Addr) (rest : List Value), PySem.W.findCls K (.ref C) (.type "type") m = some (.get (.builtin "staticmethod.__get__") (.ref p) .none (.ref C)) ∧ PySem.W.recIn K p "staticmethod" = some (.ref f :: rest)
  sg : PySem.W.specialIn K (.ref C) "__getattribute__" = some (some (.builtin "type.__getattribute__"))
  kp : PySem.W.keepIn K (.ref f) = true
theorem static_get {prog : Program} {w : World} {A : Around} {E : Value → Shared → Prop} {s : Shared} {K : PySem.W.Frag} {C f : Addr} {m : Str} {pl : Sem Bool} {Q : Value × List Value → Shared → Prop} (X : K.In s.heap) (S : Sta K C m f)
    (h : ∀ u, Q (.ref f, []) { s with toks := u }) : wpAny (model prog w) A (getMethod (.ref C) m pl) Q E s := by
  obtain ⟨p, rest, fd, rc⟩ := S.fd
  exact PySem.W.method_cls X S.sg (PySem.W.cls_bind X S.rd fd (wpAny_call (PySem.W.sm_get (s := { s with toks := s.toks + 1 }) X rc (PySem.W.handed_on rfl (h _)))))
section
variable {X : Cx} {CX : CXT} {k : Nat} {f C : Addr} {fd : FuncData} {ps : List Str} {sp : Sp} {dvs : List V} {ds : List Value} {E : XK} {x m : Str} {p1 pos apos : Pos} {e : Expr} {es : List Expr} {t : TA}
theorem pe_static {pl : Sem Bool} (hg : Gl X x) (hm : X.mg x = some (.ref C)) (S : Sta X.K C m f) (F : FnOk X.prog X.w X.K X.mg X.base CX k f fd ps sp) (hr : Room k X.A) (hb : L2.Binds X.K fd ps ds) (hd : Vals dvs ds) (hx : Passes CX X E) (ha : PA X (e :: es) t)
    (hdb : (x == ("__debug__" : Str)) = false := by decide)
    (hc : eval (.Call (.Attribute (.Name x p1) m apos) (e :: es) [] pos) X.env = (do
      let oc ← eval (.Name x p1) X.env
      standAt apos.atName
      let (fc, fst) ← holding [oc] (getMethod oc m pl)
      callWith pos fc fst (backTo pos (starEach (e :: es) X.env)) (backToKw pos (keywordEach [] X.env))) := by rfl)
    (he : starEach (e :: es) X.env = (false, eval e X.env) :: starEach es X.env := by rfl) (hpl : (backTo pos (starEach es X.env)).any (·.1) = false := by rfl) :
    PE X (.Call (.Attribute (.Name x p1) m apos) (e :: es) [] pos) (tCall sp dvs E t) := by
  refine ⟨fun pins s σ H Q I h => PySem.W.methodCall_KW (pl := pl) (ld_glob I hg hm ?_ hdb) hc⟩
  refine static_get I.kIn S fun u => ?_
  have I1 : Inv X pins σ H { s with toks := u } := I.tok _
  refine PySem.W.callWith_K (first := []) (h₀ := X.base) I.ok.mod.kin S.kp (thn (ha.run pos pins _ σ H _ I1 h) ?_) he hpl
  rintro us s2 ⟨vs, H2, I2, r, q2⟩
  exact ⟨I2.kIn, run_fn F hr hb hd hx I2 r q2⟩
end
end FW
namespace FW
open PySem PySem.Spec PyProof.Rows L2 StX
/-- three parameters ahead of the starred one -/
theorem bind_star3 {B : List Value → Sem (List (Str × Value))} {p1 p2 p3 pv : Str} (h0 : ∀ a b c, B [a, b, c] = (newTuple [] >>= fun t => pure [(p1, a), (p2, b), (p3, c), (pv, t)]))
    (h1 : ∀ a b c r rs, B (a :: b :: c :: r :: rs) = (newTuple (r :: rs) >>= fun t => pure [(p1, a), (p2, b), (p3, c), (pv, t)])) :
    ∀ us rest : List Value, us.length = [p1, p2, p3].length → B (us ++ rest) = (newTuple rest >>= fun t => pure ([p1, p2, p3].zip us ++ [(pv, t)]))
  | [a, b, c], [], _ => h0 a b c
  | [a, b, c], r :: rs, _ => h1 a b c r rs
section
variable {X : Cx} {CX : CXT} {k : Nat} {f C : Addr} {sp : Sp} {E : XK} {x : Str} {e : Expr} {es : List Expr} {t : TA} {p pos : Pos}
/-- C(e, .., *y) -/
theorem pe_makeS (M : Mk X.K C f) (F : FnR X.prog X.w X.K X.mg X.base CX k f sp) (hr : Room (k + 1) X.A) (hg : Gl X x) (hm : X.mg x = some (.ref C)) (hx : Passes CX X E) (ha : PA X (e :: es) t) (hd : (x == ("__debug__" : Str)) = false := by decide)
    (he : starEach (e :: es) X.env = (false, eval e X.env) :: starEach es X.env := by rfl) (hst : (backTo pos (starEach es X.env)).any (·.1) = true := by rfl) :
    PE X (.Call (.Name x p) (e :: es) [] pos) (tMakeR C sp E t) := by
  refine ⟨fun pins s σ H Q I h => wpAny_Call_Name_kw (ld_glob I hg hm ?_ hd)⟩
  refine PySem.W.callWith_S2 (h₀ := X.base) I.ok.mod.kin M.kp (thn (ha.run pos pins s σ H _ I h) ?_) he hst
  rintro us s1 ⟨vs, H1, I1, r, q⟩
  exact ⟨I1.kIn, run_makeR M F hr hx I1 r q⟩
end
end FW
namespace FW
open PySem PySem.Spec PyProof.Rows L2
/-! ### tests, and what may be forgotten behind an expression -/
theorem ite_dec {p : Prop} [d : Decidable p] {A B : Prop} (h1 : p → A) (h2 : ¬ p → B) : if decide p = true then A else B := by
  by_cases h : p
  · rw [decide_eq_true h]
    exact iteT (h1 h)
  · rw [decide_eq_false h]
    exact iteF (h2 h)
theorem ite_ndec {p : Prop} [d : Decidable p] {A B : Prop} (h1 : ¬ p → A) (h2 : p → B) : if (!decide p) = true then A else B := by
  by_cases h : p
  · rw [decide_eq_true h]
    exact iteF (h2 h)
  · rw [decide_eq_false h]
    exact iteT (h1 h)
theorem ite_bl {c : Bool} {A B : Prop} (h1 : c = true → A) (h2 : c = false → B) : if c = true then A else B := by
  cases c with
  | true => exact iteT (h1 rfl)
  | false => exact iteF (h2 rfl)
theorem ite_nbl {c : Bool} {A B : Prop} (h1 : c = false → A) (h2 : c = true → B) : if (!c) = true then A else B := by
  cases c with
  | true => exact iteF (h2 rfl)
  | false => exact iteT (h1 rfl)
section
variable {X : Cx}
/-- an expression, and what is kept of its value and the heap -/
def tAs (t : TE) : TE := fun σ H Q => ∃ R : V → Hp → Prop, t σ H R ∧ ∀ v H', R v H' → Q v H'
theorem pe_as {e : Expr} {t : TE} (h : PE X e t) : PE X e (tAs t) := ⟨fun pins s σ H Q I hw => by
  obtain ⟨R, hR, hq⟩ := hw
  exact thn (h.run pins s σ H R I hR) fun v s1 ⟨x, H1, I1, r1, q1⟩ => ⟨x, H1, I1, r1, hq _ _ q1⟩⟩
/-- a test, and what is kept -/
def tAsT (t : TT) : TT := fun σ H Q => ∃ R : Bool → Hp → Prop, t σ H R ∧ ∀ v H', R v H' → Q v H'
theorem pt_as {e : Expr} {t : TT} (h : PT X e t) : PT X e (tAsT t) := ⟨fun pins s σ H Q I hw => by
  obtain ⟨R, hR, hq⟩ := hw
  exact thn (h.run pins s σ H R I hR) fun v s1 ⟨H1, I1, q1⟩ => ⟨H1, I1, hq _ _ q1⟩⟩
/-- a statement, and what is kept behind it where it goes on -/
def tAsS (t : TS) : TS := fun D σ H => ∃ R : L2.St → Hp → Prop, t { D with nx := R } σ H ∧ ∀ σ' H', R σ' H' → D.nx σ' H'
theorem ps_as {st : Stmt} {t : TS} (h : PS X st t) : PS X st (tAsS t) := ⟨fun pins s σ H D I hw => by
  obtain ⟨R, hR, hq⟩ := hw
  refine thn (h.run pins s σ H _ I hR) fun f s1 z => ?_
  cases f with
  | next => exact (let ⟨σ', H1, I1, q1⟩ := z; ⟨σ', H1, I1, hq _ _ q1⟩)
  | _ => exact z⟩
end
end FW
namespace FW
open PySem PySem.Spec PyProof.Rows L2
/-! ### == and != by an own __eq__ -/
/-- what the type of a value is -/
inductive Kd (H : Hp) : V → Value → Prop
  | ins {b C dy : Addr} {gs : List (Str × V)} (e : H b = some (.ins C dy gs)) : Kd H (.ref b) (.ref C)
  | non : Kd H .non (.type "NoneType")
  | str (z : Str) : Kd H (.str z) (.type "str")
  | int (i : Int) : Kd H (.int i) (.type "int")
  | lst {b : Addr} {xs : List V} (e : H b = some (.lst xs)) : Kd H (.ref b) (.type "list")
  | tup {b : Addr} {xs : List V} (e : H b = some (.tup xs)) : Kd H (.ref b) (.type "tuple")
section
variable {X : Cx} {CX : CXT} {pins : List (Addr × Obj)} {σ : L2.St} {H : Hp} {s : Shared} {C f : Addr} {n : Nat} {sp : Sp} {E : XK}
theorem looks_kd {y : V} {u t : Value} (I : Inv X pins σ H s) (r : RelV y u) (k : Kd H y t) : PySem.W.Looks (model X.prog X.w) s.heap (typeOf u) t := by
  cases k with
  | ins e =>
    cases r
    obtain ⟨mA, J, _⟩ := ins_get I.hok e
    obtain ⟨od, J, _⟩ := J.look
    exact J.type
  | non => cases r; exact .of_pure rfl
  | str z => obtain ⟨t, rfl⟩ := r; exact .of_pure rfl
  | int z => obtain ⟨t, rfl⟩ := r; exact .of_pure rfl
  | lst e =>
    cases r
    obtain ⟨z, its, k, r, e⟩ := I.hok _ _ e
    exact (PySem.W.Looks.ld e).andThen .now
  | tup e =>
    cases r
    obtain ⟨its, k, r, p⟩ := I.hok _ _ e
    obtain ⟨⟨cls, dd, data, sl⟩, ho, hc, _⟩ := id p
    simp only at hc
    subst hc
    exact (PySem.W.Looks.ld ho).andThen .now
/-- a op y, a an instance of the class at C with its own __eq__ -/
def rOwnI (K : PySem.W.Frag) (C : Addr) (sp : Sp) (E : XK) (neg : Bool) : R2 := fun x y H Q => ∃ a dx fs t, x = .ref a ∧ H a = some (.ins C dx fs) ∧ Kd H y t ∧ PySem.W.notFirst K C t = true ∧ sp [x, y] H (fun v H' => ∃ c : Bool, v = .bl c ∧ Q (.bl (c != neg)) H') E
theorem op_eqI (hs : PySem.W.findIn X.K (.ref C) "__eq__" = some (some (.ref f))) (hf : PySem.W.isFn X.K (.ref f) = true) (F : FnR X.prog X.w X.K X.mg X.base CX n f sp)
    (hr : Room n X.A) (hx : Passes CX X E) : OpR X (compareOp .Eq) (rOwnI X.K C sp E false) := by
  intro pins s σ H x y v u Q I rx ry h
  obtain ⟨a, dx, fs, t, rfl, ha, k, hn, q⟩ := h
  cases (show v = Value.ref a from rx)
  obtain ⟨mA, J, _⟩ := ins_get I.hok ha
  obtain ⟨od, J, _⟩ := J.look
  obtain ⟨m, hF⟩ := I.fr
  show wpAny _ _ (richCompare .Eq _ _) _ _ s
  refine PySem.W.cmp_K (op := .Eq) (tb := t) hr.units0 hF I.ok.mod.kin J (looks_kd I ry k) hn hs hf ?_
  refine wpAny_mono (wpAny_call (run_fnR (us := [.ref a, u]) (vs := [.ref a, y]) F hr hx I (.cons rfl (.cons ry .nil)) q)) (fun w s' z => ?_) fun _ _ x => x
  obtain ⟨z', H', I', rz, c, rfl, qz⟩ := z
  refine SlX.cmpback rz ⟨.bl c, H', I', rz, ?_⟩
  cases c <;> exact qz
theorem ne_K {prog : Program} {w : World} {A : Around} {E : Value → Shared → Prop} {s : Shared} {K : PySem.W.Frag} {x C L : Addr} {h₀ : Heap} {m : Str → Option Value} {ox : Obj} {od : Option Obj} {tb b : Value} {Q : Value → Shared → Prop} (hu : A.units + 1 < cLine)
    (F : Fr h₀ L s.heap m) (X₀ : K.In h₀) (I : PySem.W.InstAt s.heap x ox C od) (hb : PySem.W.Looks (model prog w) s.heap (typeOf b) tb) (hn : PySem.W.notFirst K C tb = true)
    (hs : PySem.W.findIn K (.ref C) "__eq__" = some (some (.ref f))) (hf : PySem.W.isFn K (.ref f) = true) (hne : PySem.W.findIn K (.ref C) "__ne__" = some (some (.builtin "object.__ne__"))) (hob : PySem.W.mroIn K C (.type "object") = some true)
    (h : wpAny (model prog w) A.in1 (call (.ref f) [.ref x, b]) (fun v s' => ∃ c : Bool, v = .bool c ∧ Q (.bool (!c)) s') E s) : wpAny (model prog w) A (richCompare .NotEq (.ref x) b) Q E s := by
  have X := X₀.keeps F.keep
  have S := (PySem.F.cmp_object).ne
  have bi : wpAny (model prog w) A (call (.builtin "object.__ne__") [.ref x, b]) (fun v s' => ∃ c : Bool, v = .bool (!c) ∧ Q (.bool (!c)) s') E s := by
    refine wpAny_call (codeAny_call_builtin S.plain PySem.F.cmpEntry_ne (PySem.W.check_slot PySem.F.cmpKind_ne PySem.F.cmpSplit_ne ?_ (PySem.F.cmpArgs_ne _ _) ?_))
    · exact fun A E Q s' k q => by
        unfold isInstance
        exact wpAny_bind ((I.type.keeps k).here ((PySem.W.looks_mroIn (X.keeps k) hob).here q))
    unfold Builtin.«object.__ne__»
    have fin2 : wpAny (model prog w) A.in1 (callSpecialIfBound? (.ref x) "__eq__" [b]) (fun r s' => ∃ c : Bool, r = some (.bool c) ∧ Q (.bool (!c)) s') E s :=
      PySem.W.ifBound_K X I hs hf (wpAny_mono h (fun v s' ⟨c, e, q⟩ => ⟨c, by rw [e], q⟩) fun _ _ e => e)
    repeat (first
      | with_reducible refine wpAny_cRoomFor (Nat.lt_of_le_of_lt (Nat.le_refl _) hu) ?_
      | (refine wpAny_bind (m := callSpecialIfBound? (.ref x) (Str.ofString "__eq__") [b]) (wpAny_mono fin2 (fun r s' hr => by
          obtain ⟨c, rfl, hq⟩ := hr
          repeat (first | exact ⟨c, rfl, hq⟩ | exact wpAny_pure ⟨c, rfl, hq⟩ | (refine wpAny_bind (m := truthy (.bool _)) (wpAny_truthy_bool ?_)) | wp_step)) fun _ _ e => e))
      | wp_step)
  have one : wpAny (model prog w) A (tryCompare (.ref x) "__ne__" b) (fun r s' => ∃ v, r = some v ∧ Q v s') E s := by
    unfold tryCompare
    refine wpAny_bind ?_
    simp only [callSpecialIfBound?, bindSpecialIfBound?]
    refine wpAny_holding (wpAny_bind (wpAny_bind (wpAny_bind (I.type.here ((PySem.W.looks_findIn X hne).here ?_)))))
    refine wpAny_bind (wpAny_askSetting (wpAny_ite ?_))
    simp only [S.bind]
    have fin : wpAny (model prog w) A (call (.builtin "object.__ne__") ([.ref x] ++ [b]) >>= fun v => pure (some v)) (fun r s' => wpAny (model prog w) A (match r with | some .notImplemented | none => pure none | some v => pure (some v)) (fun r s' => ∃ v, r = some v ∧ Q v s') E s') E s := by
      refine wpAny_bind (wpAny_mono bi (fun v s' hv => ?_) fun _ _ e => e)
      obtain ⟨c, rfl, hq⟩ := hv
      exact wpAny_pure (wpAny_pure ⟨_, rfl, hq⟩)
    split
    · exact wpAny_bind (wpAny_pure (wpAny_pure fin))
    · exact wpAny_tryCatch (wpAny_bind (wpAny_pure (wpAny_pure fin)))
  unfold richCompare
  simp only [oneThing_ref]
  refine wpAny_holding (wpAny_bind (wpAny_cRoomFor (Nat.lt_of_succ_lt hu) ?_))
  refine wpAny_bind (I.type.here (wpAny_bind (hb.here ?_)))
  split
  · rename_i q
    have e : PySem.W.subIn K tb (.ref C) = some false := by
      rcases Bool.or_eq_true_iff.mp hn with e | e
      · rw [beq_iff_eq.mp e] at q; simp at q
      · exact beq_iff_eq.mp e
    refine wpAny_bind ((PySem.W.looks_subIn X e).here ?_)
    simp only [Bool.false_eq_true, if_false]
    refine wpAny_bind (wpAny_mono one (fun r s' z => ?_) fun _ _ e => e)
    obtain ⟨v, rfl, hq⟩ := z
    exact wpAny_pure hq
  · refine wpAny_bind (wpAny_pure ?_)
    simp only [Bool.false_eq_true, if_false]
    refine wpAny_bind (wpAny_mono one (fun r s' z => ?_) fun _ _ e => e)
    obtain ⟨v, rfl, hq⟩ := z
    exact wpAny_pure hq
theorem op_neI (hs : PySem.W.findIn X.K (.ref C) "__eq__" = some (some (.ref f))) (hf : PySem.W.isFn X.K (.ref f) = true) (hne : PySem.W.findIn X.K (.ref C) "__ne__" = some (some (.builtin "object.__ne__"))) (hob : PySem.W.mroIn X.K C (.type "object") = some true)
    (F : FnR X.prog X.w X.K X.mg X.base CX n f sp) (hr : Room (n + 1) X.A) (hx : Passes CX X E) : OpR X (compareOp .NotEq) (rOwnI X.K C sp E true) := by
  intro pins s σ H x y v u Q I rx ry h
  obtain ⟨a, dx, fs, t, rfl, ha, k, hn, q⟩ := h
  cases (show v = Value.ref a from rx)
  obtain ⟨mA, J, _⟩ := ins_get I.hok ha
  obtain ⟨od, J, _⟩ := J.look
  obtain ⟨m, hF⟩ := I.fr
  show wpAny _ _ (richCompare .NotEq _ _) _ _ s
  refine ne_K (by have := hr.un; omega) hF I.ok.mod.kin J (looks_kd I ry k) hn hs hf hne hob ?_
  refine wpAny_mono (wpAny_call (SlX.run_at (us := [.ref a, u]) (ws := [.ref a, y]) F hr.in1 I.env0.in1 hx I (.cons rfl (.cons ry .nil)) q)) (fun w s' z => ?_) fun _ _ x => x
  obtain ⟨z', H', I', rz, c, rfl, qz⟩ := z
  cases (show w = Value.bool c from rz)
  refine ⟨c, rfl, .bl (!c), H', I', rfl, ?_⟩
  cases c <;> exact qz
end
end FW
namespace FW
open PySem PySem.Spec PyProof.Rows L2
section
variable {X : Cx} {CX : CXT} {k : Nat} {f C : Addr} {fd : FuncData} {ps ks : List Str} {sp : Sp} {E : XK} {x m : Str} {p1 pos apos : Pos} {kws : List Keyword} {tk : TA} {g : List Value → List Value → List Value} {gV : List V → List V → List V}
/-- C.m(k=e, ..), m a static method -/
theorem pe_staticK0 {pl : Sem Bool} (hg : Gl X x) (hm : X.mg x = some (.ref C)) (S : Sta X.K C m f) (F : FnOk X.prog X.w X.K X.mg X.base CX k f fd ps sp) (hr : Room k X.A) (hb : KBinds X.K fd ps ks g gV) (hx : Passes CX X E) (hkw : PK X kws tk)
    (hall : (backToKw pos (keywordEach kws X.env)).all (·.1.isSome) = true := by rfl) (hks : (backToKw pos (keywordEach kws X.env)).filterMap (·.1) = ks := by rfl)
    (hdb : (x == ("__debug__" : Str)) = false := by decide)
    (hc : eval (.Call (.Attribute (.Name x p1) m apos) [] kws pos) X.env = (do
      let oc ← eval (.Name x p1) X.env
      standAt apos.atName
      let (fc, fst) ← holding [oc] (getMethod oc m pl)
      callWith pos fc fst (backTo pos (starEach [] X.env)) (backToKw pos (keywordEach kws X.env))) := by rfl)
    (hpl : ((backTo pos (starEach [] X.env)).any (·.1) || (backToKw pos (keywordEach kws X.env)).any (·.1.isNone)) = false := by rfl) :
    PE X (.Call (.Attribute (.Name x p1) m apos) [] kws pos) (tCallK sp gV E tNil tk) := by
  refine ⟨fun pins s σ H Q I h => PySem.W.methodCall_KW (pl := pl) (ld_glob I hg hm ?_ hdb) hc⟩
  refine static_get I.kIn S fun u => ?_
  have I1 : Inv X pins σ H { s with toks := u } := I.tok _
  refine PySem.W.callWith_KW0 (h₀ := X.base) I.ok.mod.kin S.kp hall (thn (hkw.run pos pins _ σ H _ I1 h) fun ws s2 ⟨zs, H2, I2, rz, q2⟩ => ⟨I2.kIn, ?_⟩) hpl
  rw [hks]
  exact run_fnk F hr hb hx I2 .nil rz q2
end
end FW
namespace FW
open PySem PySem.Spec PyProof.Rows L2
/-! ### data that may be compared -/
/-- data that nest at most so deep, all of whose texts may be laid -/
inductive Lay : Nat → PyData → Prop
  | non {n : Nat} : Lay n .none
  | bl {n : Nat} (b : Bool) : Lay n (.bool b)
  | int {n : Nat} (i : Int) : Lay n (.int i)
  | str {n : Nat} {x : Str} (h : PyData.strOk x = true) : Lay n (.str x)
  | lst {n : Nat} {ds : List PyData} (h : ∀ d ∈ ds, Lay n d) : Lay (n + 1) (.list ds)
  | tup {n : Nat} {ds : List PyData} (h : ∀ d ∈ ds, Lay n d) : Lay (n + 1) (.tuple ds)
theorem lay_all {n : Nat} : ∀ {ds : List PyData}, (∀ d ∈ ds, d.canLay0 = true ∧ d.depth ≤ n) → PyData.canLayAll0 ds = true ∧ PyData.depthAll ds ≤ n
  | [], _ => ⟨rfl, Nat.zero_le _⟩
  | d :: ds, h => by
    have h1 := h d List.mem_cons_self
    have h2 := lay_all (ds := ds) fun x hx => h x (List.mem_cons_of_mem _ hx)
    refine ⟨?_, ?_⟩
    · show (d.canLay0 && PyData.canLayAll0 ds) = true
      rw [h1.1, h2.1]
      rfl
    · show max d.depth (PyData.depthAll ds) ≤ n
      exact Nat.max_le.mpr ⟨h1.2, h2.2⟩
theorem Lay.ok {n : Nat} {d : PyData} (h : Lay n d) : d.canLay0 = true ∧ d.depth ≤ n := by
  induction h with
  | non => exact ⟨rfl, Nat.zero_le _⟩
  | bl b => exact ⟨rfl, Nat.zero_le _⟩
  | int i => exact ⟨rfl, Nat.zero_le _⟩
  | str h => exact ⟨h, Nat.zero_le _⟩
  | lst h ih => exact ⟨(lay_all ih).1, Nat.succ_le_succ (lay_all ih).2⟩
  | tup h ih => exact ⟨(lay_all ih).1, Nat.succ_le_succ (lay_all ih).2⟩
theorem Lay.shaped {n : Nat} {d : PyData} (h : Lay n d) (hn : n ≤ 64) : SeqAt.shaped d = true := by
  unfold SeqAt.shaped
  rw [h.ok.1, decide_eq_true (Nat.le_trans h.ok.2 hn)]
  rfl
theorem eqvAll_map {α : Type} [DecidableEq α] {f : α → PyData} (h : ∀ x y, PyData.eqv (f x) (f y) = decide (x = y)) : ∀ xs ys : List α, PyData.eqvAll (xs.map f) (ys.map f) = decide (xs = ys)
  | [], [] => by
    rw [decide_eq_true rfl]
    rfl
  | [], y :: ys => by
    rw [decide_eq_false (by simp)]
    rfl
  | x :: xs, [] => by
    rw [decide_eq_false (by simp)]
    rfl
  | x :: xs, y :: ys => by
    show (PyData.eqv (f x) (f y) && PyData.eqvAll (xs.map f) (ys.map f)) = _
    rw [h, eqvAll_map h xs ys, ← Bool.decide_and]
    exact decide_eq_decide.mpr (by simp)
theorem eqv_S (a b : List Nat) : PyData.eqv (.str (S a)) (.str (S b)) = decide (a = b) := by
  show (S a == S b) = _
  by_cases h : a = b
  · subst h
    rw [decide_eq_true rfl]
    exact beq_self_eq_true _
  · rw [decide_eq_false h]
    refine beq_eq_false_iff_ne.mpr fun e => h ?_
    have := congrArg (fun z : Str => z.cps.toList) e
    exact this
theorem eqv_tupS (a b : List (List Nat)) : PyData.eqv (.tuple (a.map fun p => .str (S p))) (.tuple (b.map fun p => .str (S p))) = decide (a = b) := by
  show PyData.eqvAll _ _ = _
  exact eqvAll_map eqv_S a b
end FW
namespace FW
open PySem PySem.Spec PyProof.Rows L2
/-! ### methods and static methods by their names -/
structure MCal (P : Program) (w : World) (K : PySem.W.Frag) (mg : Str → Option Value) (base : Heap) (CX : CXT) (C : Addr) (k : Nat) (m : Str) (ps : List Str) (sp : Sp) : Prop where
  ex : ∃ (f : Addr) (fd : FuncData), Meth K C m f ∧ FnOk P w K mg base CX k f fd ps sp ∧ L2.Binds K fd ps []
structure SCal (P : Program) (w : World) (K : PySem.W.Frag) (mg : Str → Option Value) (base : Heap) (CX : CXT) (x : Str) (C : Addr) (k : Nat) (m : Str) (st : Stmt) (ps : List Str) (sp : Sp) : Prop where
  g : mg x = some (.ref C)
  ex : ∃ (f : Addr) (fd : FuncData) (q : Str), Sta K C m f ∧ FnOk P w K mg base CX k f fd ps sp ∧ L2.Binds K fd ps [] ∧ Fun K m q st f fd
section
variable {X : Cx} {k j : Nat} {C : Addr} {x m : Str} {st : Stmt} {ps ks : List Str} {sp : Sp} {o e : Expr} {es : List Expr} {kws : List Keyword} {apos pos p1 : Pos} {ta : TE} {t tk : TA} {CX : CXT} {E : XK} {g : List Value → List Value → List Value} {gV : List V → List V → List V}
theorem pe_mx {pl : Sem Bool} (c : MCal X.prog X.w X.K X.mg X.base CX C k m ps sp) (hC : Cls X.K C) (hr : Room j X.A) (hk : k ≤ j) (hx : Passes CX X E) (he : PE X o ta) (ha : PA X (e :: es) t)
    (hst : starEach (e :: es) X.env = (false, eval e X.env) :: starEach es X.env := by rfl) (hpl : (backTo pos (starEach es X.env)).any (·.1) = false := by rfl)
    (ht : eval (.Call (.Attribute o m apos) (e :: es) [] pos) X.env = (do
      let ov ← eval o X.env
      standAt apos.atName
      let (f, first) ← holding [ov] (getMethod ov m pl)
      callWith pos f first (backTo pos (starEach (e :: es) X.env)) (backToKw pos (keywordEach [] X.env))) := by rfl) :
    PE X (.Call (.Attribute o m apos) (e :: es) [] pos) (tMeth C m sp [] E ta t) := by
  obtain ⟨f, fd, M, F, b⟩ := c.ex
  exact pe_meth he hC M F (hr.mono hk) b .nil hx ha hst hpl ht
theorem pe_mx0 {pl : Sem Bool} (c : MCal X.prog X.w X.K X.mg X.base CX C k m ps sp) (hC : Cls X.K C) (hr : Room j X.A) (hk : k ≤ j) (hx : Passes CX X E) (he : PE X o ta)
    (ht : eval (.Call (.Attribute o m apos) [] [] pos) X.env = (do
      let ov ← eval o X.env
      standAt apos.atName
      let (f, first) ← holding [ov] (getMethod ov m pl)
      callWith pos f first (backTo pos (starEach [] X.env)) (backToKw pos (keywordEach [] X.env))) := by rfl) :
    PE X (.Call (.Attribute o m apos) [] [] pos) (tMeth C m sp [] E ta tNil) := by
  obtain ⟨f, fd, M, F, b⟩ := c.ex
  exact pe_meth0 he hC M F (hr.mono hk) b .nil hx ht
theorem pe_m {pl : Sem Bool} (c : MCal X.prog X.w X.K X.mg X.base CX0 C k m ps sp) (hC : Cls X.K C) (hr : Room j X.A) (hk : k ≤ j) (he : PE X o ta) (ha : PA X (e :: es) t)
    (hst : starEach (e :: es) X.env = (false, eval e X.env) :: starEach es X.env := by rfl) (hpl : (backTo pos (starEach es X.env)).any (·.1) = false := by rfl)
    (ht : eval (.Call (.Attribute o m apos) (e :: es) [] pos) X.env = (do
      let ov ← eval o X.env
      standAt apos.atName
      let (f, first) ← holding [ov] (getMethod ov m pl)
      callWith pos f first (backTo pos (starEach (e :: es) X.env)) (backToKw pos (keywordEach [] X.env))) := by rfl) :
    PE X (.Call (.Attribute o m apos) (e :: es) [] pos) (tMeth C m sp [] E0 ta t) := pe_mx c hC hr hk pass0 he ha hst hpl ht
theorem pe_m0 {pl : Sem Bool} (c : MCal X.prog X.w X.K X.mg X.base CX0 C k m ps sp) (hC : Cls X.K C) (hr : Room j X.A) (hk : k ≤ j) (he : PE X o ta)
    (ht : eval (.Call (.Attribute o m apos) [] [] pos) X.env = (do
      let ov ← eval o X.env
      standAt apos.atName
      let (f, first) ← holding [ov] (getMethod ov m pl)
      callWith pos f first (backTo pos (starEach [] X.env)) (backToKw pos (keywordEach [] X.env))) := by rfl) :
    PE X (.Call (.Attribute o m apos) [] [] pos) (tMeth C m sp [] E0 ta tNil) := pe_mx0 c hC hr hk pass0 he ht
theorem pe_s {pl : Sem Bool} (c : SCal X.prog X.w X.K X.mg X.base CX0 x C k m st ps sp) (hr : Room j X.A) (hk : k ≤ j) (hg : Gl X x) (ha : PA X (e :: es) t)
    (hdb : (x == ("__debug__" : Str)) = false := by decide)
    (hc : eval (.Call (.Attribute (.Name x p1) m apos) (e :: es) [] pos) X.env = (do
      let oc ← eval (.Name x p1) X.env
      standAt apos.atName
      let (fc, fst) ← holding [oc] (getMethod oc m pl)
      callWith pos fc fst (backTo pos (starEach (e :: es) X.env)) (backToKw pos (keywordEach [] X.env))) := by rfl)
    (he : starEach (e :: es) X.env = (false, eval e X.env) :: starEach es X.env := by rfl) (hpl : (backTo pos (starEach es X.env)).any (·.1) = false := by rfl) :
    PE X (.Call (.Attribute (.Name x p1) m apos) (e :: es) [] pos) (tCall sp [] E0 t) := by
  obtain ⟨f, fd, q, S, F, b, _⟩ := c.ex
  exact pe_static hg c.g S F (hr.mono hk) b .nil pass0 ha hdb hc he hpl
theorem pe_sk0 {pl : Sem Bool} (c : SCal X.prog X.w X.K X.mg X.base CX0 x C k m st ps sp) (hb : ∀ f fd q, Fun X.K m q st f fd → KBinds X.K fd ps ks g gV) (hr : Room j X.A) (hk : k ≤ j) (hg : Gl X x) (hkw : PK X kws tk)
    (hall : (backToKw pos (keywordEach kws X.env)).all (·.1.isSome) = true := by rfl) (hks : (backToKw pos (keywordEach kws X.env)).filterMap (·.1) = ks := by rfl)
    (hdb : (x == ("__debug__" : Str)) = false := by decide)
    (hc : eval (.Call (.Attribute (.Name x p1) m apos) [] kws pos) X.env = (do
      let oc ← eval (.Name x p1) X.env
      standAt apos.atName
      let (fc, fst) ← holding [oc] (getMethod oc m pl)
      callWith pos fc fst (backTo pos (starEach [] X.env)) (backToKw pos (keywordEach kws X.env))) := by rfl)
    (hpl : ((backTo pos (starEach [] X.env)).any (·.1) || (backToKw pos (keywordEach kws X.env)).any (·.1.isNone)) = false := by rfl) :
    PE X (.Call (.Attribute (.Name x p1) m apos) [] kws pos) (tCallK sp gV E0 tNil tk) := by
  obtain ⟨f, fd, q, S, F, b, fn⟩ := c.ex
  exact pe_staticK0 hg c.g S F (hr.mono hk) (hb f fd q fn) pass0 hkw hall hks hdb hc hpl
theorem kbs_one {K : PySem.W.Frag} {x p1 : Str} {st : Stmt}
    (h : ∀ (q : Str) (kV doc pm : Value) (an : Option Addr) (cdv ct : Value) (u : Value), bindArgs (PySem.W.fnOf x q (defArgs st) (defBody st) (defScope st) .none kV doc pm an cdv ct) ⟨[], [(p1, u)]⟩ = pure [(p1, u)]) :
    ∀ f fd q, Fun K x q st f fd → KBinds K fd [p1] [p1] one1 one1 := by
  intro f fd q F
  obtain ⟨oc, od, kV, doc, pm, an, cdv, ct, osl, rfl, lk, hcd⟩ := F.ex
  refine ⟨fun s us ws _ hl => ?_, fun r q => one1_vals r q⟩
  match us, ws, hl with
  | [], [u], _ => exact .of_eq (h q kV doc pm an cdv ct u)
  | [], [], hl => exact absurd (show 0 = 1 from hl) (by decide)
  | [], _ :: _ :: _, hl => exact absurd (show 0 = 1 from hl) (by decide)
  | _ :: _, ws, hl => exact absurd (show 0 = 1 from hl) (by decide)
structure OwnE (P : Program) (w : World) (K : PySem.W.Frag) (mg : Str → Option Value) (base : Heap) (C : Addr) (k : Nat) (sp : Sp) : Prop where
  ex : ∃ f : Addr, PySem.W.findIn K (.ref C) "__eq__" = some (some (.ref f)) ∧ PySem.W.isFn K (.ref f) = true ∧ FnR P w K mg base CX0 k f sp
  ne : PySem.W.findIn K (.ref C) "__ne__" = some (some (.builtin "object.__ne__"))
  ob : PySem.W.mroIn K C (.type "object") = some true
  nf : PySem.W.notFirst K C (.ref C) = true
theorem op_eqO (o : OwnE X.prog X.w X.K X.mg X.base C k sp) (hr : Room j X.A) (hk : k ≤ j) : OpR X (compareOp .Eq) (rOwnI X.K C sp E0 false) := by
  obtain ⟨f, h1, h2, F⟩ := o.ex
  exact op_eqI h1 h2 F (hr.mono hk) pass0
theorem op_neO (o : OwnE X.prog X.w X.K X.mg X.base C k sp) (hr : Room j X.A) (hk : k + 1 ≤ j) : OpR X (compareOp .NotEq) (rOwnI X.K C sp E0 true) := by
  obtain ⟨f, h1, h2, F⟩ := o.ex
  exact op_neI h1 h2 o.ne o.ob F (hr.mono hk) pass0
end
end FW
namespace FW
open PySem PySem.Spec PyProof.Rows L2
/-! ### sorted: pairs of texts -/
abbrev cl (x : Str) : List Nat := x.cps.toList
def lexS (p q : Str × Str) : Bool := if p.1 = q.1 then decide (cl p.2 < cl q.2) else decide (cl p.1 < cl q.1)
theorem cl_inj {x y : Str} (h : cl x = cl y) : x = y := by
  obtain ⟨⟨a⟩⟩ := x
  obtain ⟨⟨b⟩⟩ := y
  have : a = b := h
  rw [this]
theorem lexS_iff {p q : Str × Str} : lexS p q = true ↔ cl p.1 < cl q.1 ∨ (cl p.1 = cl q.1 ∧ cl p.2 < cl q.2) := by
  unfold lexS
  by_cases e : p.1 = q.1
  · rw [if_pos e, decide_eq_true_eq, e]
    exact ⟨fun h => .inr ⟨rfl, h⟩, fun h => h.elim (fun z => absurd z (List.lt_irrefl _)) (·.2)⟩
  · rw [if_neg e, decide_eq_true_eq]
    exact ⟨.inl, fun h => h.elim id fun z => absurd (cl_inj z.1) e⟩
theorem lexS_no {p q : Str × Str} : lexS p q = false ↔ ¬ (cl p.1 < cl q.1 ∨ (cl p.1 = cl q.1 ∧ cl p.2 < cl q.2)) := by
  rw [← lexS_iff]
  cases lexS p q <;> simp
theorem lt_or {a b : List Nat} (h : ¬ a < b) : b < a ∨ a = b := by
  by_cases e : a = b
  · exact .inr e
  · refine .inl ?_
    have h1 : b ≤ a := h
    rcases Classical.em (b < a) with z | z
    · exact z
    · exact absurd (List.le_antisymm (show a ≤ b from z) h1) e
theorem swo_S {α : Type} (k : α → Str × Str) : SrtO.Swo fun v u => lexS (k v) (k u) := by
  refine ⟨fun x y h => ?_, fun x y z h1 h2 => ?_⟩
  · have a := lexS_iff.mp h
    refine lexS_no.mpr fun b => ?_
    rcases a with a | ⟨e, a⟩
    · rcases b with b | ⟨e, b⟩
      · exact List.lt_irrefl _ (List.lt_trans a b)
      · rw [e] at a
        exact List.lt_irrefl _ a
    · rcases b with b | ⟨_, b⟩
      · rw [e] at b
        exact List.lt_irrefl _ b
      · exact List.lt_irrefl _ (List.lt_trans a b)
  · have a := lexS_no.mp h1
    have b := lexS_no.mp h2
    refine lexS_no.mpr fun c => ?_
    simp only [not_or, not_and] at a b
    rcases c with c | ⟨e, c⟩
    · rcases lt_or a.1 with a1 | a1
      · rcases lt_or b.1 with b1 | b1
        · exact List.lt_irrefl _ (List.lt_trans (List.lt_trans c a1) b1)
        · have c2 := List.lt_trans c a1
          rw [b1] at c2
          exact List.lt_irrefl _ c2
      · rw [← a1] at c
        exact b.1 c
    · rcases lt_or a.1 with a1 | a1
      · rcases lt_or b.1 with b1 | b1
        · rw [e] at b1
          exact List.lt_irrefl _ (List.lt_trans a1 b1)
        · rw [← b1, e] at a1
          exact List.lt_irrefl _ a1
      · have b0 : cl (k z).1 = cl (k y).1 := e.trans a1.symm
        rcases lt_or (a.2 a1) with a2 | a2
        · rcases lt_or (b.2 b0) with b2 | b2
          · exact List.lt_irrefl _ (List.lt_trans (List.lt_trans c a2) b2)
          · rw [b2] at c
            exact List.lt_irrefl _ (List.lt_trans a2 c)
        · rw [← a2] at c
          exact b.2 b0 c
def IsPairS (h : Heap) (v : Value) (x y : Str) : Prop := ∃ a o t u n, v = .ref a ∧ h.get? a = some o ∧ o.cls = .type "tuple" ∧ o.data = .seq #[.str x t, .str y u] n
theorem IsPairS.keeps {h h' : Heap} {v : Value} {x y : Str} (p : IsPairS h v x y) (k : ∀ b o, h.get? b = some o → o.cls = .type "tuple" → h'.get? b = some o) : IsPairS h' v x y := by
  obtain ⟨a, o, t, u, n, e, ho, hc, hd⟩ := p
  exact ⟨a, o, t, u, n, e, k _ _ ho hc, hc, hd⟩
theorem firsts_S {h : Heap} : ∀ {vs : List Value}, (∀ v ∈ vs, ∃ x y, IsPairS h v x y) → ∃ fs : List Value, PySem.W.KatTups h vs fs ∧ fs.length = vs.length ∧ ∀ f ∈ fs, ∃ x t, f = Value.str x t
  | [], _ => ⟨[], PySem.W.KatTups.nil, rfl, fun _ hm => by simp at hm⟩
  | v :: vs, x => by
    obtain ⟨fs, k, hl, hi⟩ := firsts_S (vs := vs) fun u hu => x u (List.mem_cons_of_mem _ hu)
    obtain ⟨z, y, a, o, t, u, n, rfl, ho, hc, hd⟩ := x v (List.mem_cons_self ..)
    refine ⟨.str z t :: fs, PySem.W.KatTups.cons ho hc hd rfl k, by rw [List.length_cons, List.length_cons, hl], fun f hf => ?_⟩
    rcases List.mem_cons.mp hf with rfl | hf
    · exact ⟨z, t, rfl⟩
    · exact hi f hf
section
variable {prog : Program} {w : World} {A : Around} {E : Value → Shared → Prop} {s : Shared}
open SrtO
theorem pair_cmpS {vs : List Value} {k : Value → Str × Str} (hp : ∀ v ∈ vs, IsPairS s.heap v (k v).1 (k v).2) : Cmp prog w A s (tuples' true) (fun p => p.1 ∈ vs) (lt2 fun v u => lexS (k v) (k u)) := by
  intro p q hm hm'
  have h1 := hp _ hm
  have h2 := hp _ hm'
  show wpAny (model prog w) A (keyLt' (tuples' true) p.1 q.1) (fun r s' => s' = s ∧ r = lexS (k p.1) (k q.1)) (fun _ _ => False) s
  unfold lexS
  generalize (k p.1).1 = x at h1 ⊢
  generalize (k p.1).2 = y at h1 ⊢
  generalize (k q.1).1 = x' at h2 ⊢
  generalize (k q.1).2 = y' at h2 ⊢
  obtain ⟨a, o, t, u, n, e, ho, hc, hd⟩ := h1
  obtain ⟨a', o', t', u', n', e', ho', hc', hd'⟩ := h2
  rw [e, e']
  refine PySem.W.kat_lt ho hd ho' hd' ?_
  show PySem.W.KatLex prog w A true (decide (2 < 2)) _ [(.str x t, .str x' t'), (.str y u, .str y' u')] 0 s
  refine PySem.W.kat_cons (SeqAt.EqAt.str_str x t x' t' prog w _ _ ?_)
  refine PySem.W.kat_go (fun e1 => ?_) (fun e1 => ?_)
  · have ex : x = x' := by simpa using e1
    refine PySem.W.kat_yes (PySem.W.kat_cons (SeqAt.EqAt.str_str y u y' u' prog w _ _ ?_))
    refine PySem.W.kat_go (fun e2 => ?_) (fun e2 => ?_)
    · have ey : y = y' := by simpa using e2
      have e3 : (if x = x' then decide (cl y < cl y') else decide (cl x < cl x')) = false := by
        rw [if_pos ex, ey]
        exact decide_eq_false (List.lt_irrefl _)
      exact PySem.W.kat_yes (PySem.W.kat_nil ⟨rfl, e3.symm⟩)
    · have e3 : (if x = x' then decide (cl y < cl y') else decide (cl x < cl x')) = decide (cl y < cl y') := if_pos ex
      exact PySem.W.kat_no (PyProof.Rows.oneLt_any_str ⟨rfl, e3.symm⟩)
  · have ex : ¬ x = x' := by simpa using e1
    have e3 : (if x = x' then decide (cl y < cl y') else decide (cl x < cl x')) = decide (cl x < cl x') := if_neg ex
    exact PySem.W.kat_no (PyProof.Rows.oneLt_any_str ⟨rfl, e3.symm⟩)
theorem pairs_sortableS {a : Addr} {vs : List Value} {k : Value → Str × Str} (h0 : 0 < vs.length) (hp : ∀ v ∈ vs, IsPairS s.heap v (k v).1 (k v).2) (ha : ∀ o, s.heap.get? a = some o → o.cls ≠ .type "tuple") : SortableO prog w A s a vs fun v u => lexS (k v) (k u) := by
  intro h' keep
  have hp' : ∀ v ∈ vs, IsPairS h' v (k v).1 (k v).2 := fun v hm => (hp v hm).keeps fun b o e c => keep b o (fun z => by subst z; exact ha o e c) e
  obtain ⟨fs, h1, h2, h3⟩ := firsts_S fun v hm => ⟨_, _, hp' v hm⟩
  refine ⟨tuples' true, fun Q E hq => ?_, pair_cmpS hp'⟩
  refine PySem.W.kat_kind (T := .type "str") h1 (by omega) (fun f hm => ?_) (by rfl) ?_
  · obtain ⟨x, t, rfl⟩ := h3 f hm
    exact PySem.W.Looks.now
  · have e : (Value.type "str" != Value.type "tuple") = true := by first | decide +kernel | rfl | decide
    rw [e]
    exact hq
theorem sorted_pairsS {l : Addr} {vs : List Value} {k : Value → Str × Str} {Q : Value → Shared → Prop} (hl : s.heap.IsList l vs.toArray) (hz : vs.length ≤ sizeLine) (hp : ∀ v ∈ vs, IsPairS s.heap v (k v).1 (k v).2)
    (h : ∀ (h' : Heap) (d : Addr) (out : List Value), Srtd (fun v u => lexS (k v) (k u)) out → Stb (fun v u => lexS (k v) (k u)) out vs → (∀ b o, s.heap.get? b = some o → h'.get? b = some o) → s.heap.objs.size ≤ d → (∃ n, h'.get? d = some (seqObj "list" out.toArray n)) → Q (.ref d) { s with heap := h' }) :
    wpAny (model prog w) A (call (.builtin "sorted") [.ref l]) Q E s := by
  refine sorted_ord (swo_S k) hl hz (fun h2 h₁ a ha kk => ?_) fun out hs hb => ?_
  · refine pairs_sortableS (s := { s with heap := h₁ }) (by omega) (fun v hm => (hp v hm).keeps fun b o e _ => (kk b o e).2) fun o e => ?_
    have e' : some o = some (seqObj "list" vs.toArray 0) := e.symm.trans ha
    cases e'
    intro c
    exact absurd (Value.type.inj c) (by decide)
  · exact h _ _ out hs hb (fun b o e => sortedAll_old e) (Nat.le_succ _) (sortedAll_at s.heap vs out.toArray)
end
/-- sorted(xs), xs a list of pairs of texts (k says which) -/
def rSortedSS (K : PySem.W.Frag) : List V → Hp → VK → Prop := fun vs H Q => ∃ (a : Addr) (xs : List V) (k : V → Str × Str), vs = [V.ref a] ∧ SqL K H a xs ∧ (∀ x ∈ xs, ∃ t, x = V.ref t ∧ H t = some (.tup [.str (k x).1, .str (k x).2])) ∧
  ∀ ys p, ys.Pairwise (fun x y => lexS (k y) (k x) = false) → ys.Perm xs → H p = none → Q (.ref p) (upd H p (.lst ys))
section
variable {X : Cx}
theorem cr_sortedSS : CallR X (.builtin "sorted") (rSortedSS X.K) := by
  intro pins s σ H vs us Q I r h
  obtain ⟨a, xs, k, rfl, hs, hx, q⟩ := h
  obtain ⟨its, rv, hl, hz⟩ := I.list hs
  obtain ⟨u, rfl, ru⟩ := vals1 r
  obtain rfl : u = Value.ref a := ru
  obtain ⟨e1, e2⟩ := refs_back rv fun x m => by
    obtain ⟨t, e, _⟩ := hx x m
    exact ⟨t, e⟩
  refine sorted_pairsS (k := fun u => k (backV u)) hl.isList (by rw [← rv.length]; exact hz) (fun v hv => ?_) fun h' d out h1 h2 kp hd hn => ?_
  · obtain ⟨t, rfl⟩ := e2 v hv
    have hm : V.ref t ∈ xs := by rw [e1]; exact List.mem_map.mpr ⟨_, hv, rfl⟩
    obtain ⟨t', e, ht⟩ := hx _ hm
    cases e
    obtain ⟨_, its2, r2, o, ho, hc, n, hd⟩ := I.hok _ _ ht
    obtain ⟨u1, u2, rfl, ri, rj⟩ := vals2 r2
    obtain ⟨t1, rfl⟩ := ri
    obtain ⟨t2, rfl⟩ := rj
    exact ⟨t, o, t1, t2, n, rfl, ho, hc, hd⟩
  · have h3 : ∀ u ∈ out, ∃ a, u = Value.ref a := fun u hu => e2 u (h2.perm.mem_iff.mp hu)
    obtain ⟨n, hn⟩ := hn
    have hb : SrtO.Stb (fun x y => lexS (k x) (k y)) (out.map backV) xs := by
      rw [e1]
      exact SrtO.Stb.map (swo_S k) backV h2
    refine ⟨.ref d, upd H d (.lst (out.map backV)), I.laid (t' := s.toks) kp hd ⟨?_, out, n, vals_back h3, hn⟩, rfl, q _ d (SrtO.srtd_map (lt := fun x y => lexS (k x) (k y)) h1) hb.perm (I.hok.fresh hd)⟩
    rw [hb.len]
    exact hz
end
end FW
namespace FW
open PySem PySem.Spec PyProof.Rows L2
/-! ### sorted: texts, as many as there are -/
theorem strs_vals : ∀ {xs : List Str} {us : List Value}, Vals (xs.map V.str) us → StrsAre us xs
  | [], [], _ => .nil
  | [], _ :: _, h => by cases h
  | _ :: _, [], h => by cases h
  | x :: xs, u :: us, h => by
    have h1 : L2.RelV (.str x) u ∧ Vals (xs.map V.str) us := by
      cases h with
      | cons a b => exact ⟨a, b⟩
    obtain ⟨t, rfl⟩ := h1.1
    exact .cons x t (strs_vals h1.2)
theorem vals_strs {xs : List Str} {us : List Value} (h : StrsAre us xs) : Vals (xs.map V.str) us := by
  induction h with
  | nil => exact .nil
  | cons y t h ih => exact .cons ⟨t, rfl⟩ ih
def rSortedSA (K : PySem.W.Frag) : List V → Hp → VK → Prop := fun vs H Q => ∃ (a : Addr) (xs : List Str), vs = [V.ref a] ∧ SqL K H a (xs.map V.str) ∧ ∀ (ys : List Str) (p : Addr), ys.Perm xs → PyProof.Rows.sortedS ys = true → H p = none → Q (.ref p) (upd H p (.lst (ys.map V.str)))
section
variable {X : Cx}
theorem cr_sortedSA : CallR X (.builtin "sorted") (rSortedSA X.K) := by
  intro pins s σ H vs us Q I r h
  obtain ⟨a, xs, rfl, hs, q⟩ := h
  obtain ⟨its, rv, hl, hz⟩ := I.list hs
  obtain ⟨u, rfl, ru⟩ := L2.vals1 r
  obtain rfl : u = Value.ref a := ru
  have hst := strs_vals rv
  refine sorted_strsAny hl.isList hst (by rw [← rv.length]; exact hz) fun out ss' ho hp hso => ?_
  obtain ⟨n, hn⟩ := sortedAll_at s.heap its out
  refine ⟨.ref (s.heap.objs.size + 1), upd H (s.heap.objs.size + 1) (.lst (ss'.map V.str)), I.laid (t' := s.toks) (fun b o e => sortedAll_old e) (Nat.le_succ _) ⟨?_, out.toList, n, vals_strs ho, ?_⟩, rfl, q _ _ hp hso (I.hok.fresh (Nat.le_succ _))⟩
  · rw [List.length_map, hp.length_eq]
    rwa [List.length_map] at hz
  · rw [Array.toArray_toList]
    exact hn
end
end FW
namespace FW
open PySem PySem.Spec PyProof.Rows L2
/-! ### a text so many times -/
def rMulS : R2 := fun x y H Q => ∃ (z : Str) (n : Int), x = .str z ∧ y = .int n ∧ MulOk z n ∧ Q (.str (Txt.mul z n)) H
theorem op_mulS {X : Cx} : OpR X (binaryOp .Mult) rMulS := by
  intro pins s σ H x y v u Q I rx ry h
  obtain ⟨z, n, rfl, rfl, ok, q⟩ := h
  obtain ⟨t, rfl⟩ := rx
  obtain ⟨t', rfl⟩ := ry
  exact SB.mul ok fun t'' k => ⟨.str _, H, I.tok _, ⟨_, rfl⟩, q⟩
theorem mulOk1 (c : Nat) {n : Int} (h : n = 3 ∨ n = 4 ∨ n = 5) : MulOk (S [c]) n := by
  rcases h with rfl | rfl | rfl
  · exact ⟨by decide, fun _ _ => (by decide : ¬ ((1 : Nat) : Int) > (2 ^ 63 - 1) / 3), fun _ _ => (by decide : Builtin.Str.tooLong (1 * 3) = false)⟩
  · exact ⟨by decide, fun _ _ => (by decide : ¬ ((1 : Nat) : Int) > (2 ^ 63 - 1) / 4), fun _ _ => (by decide : Builtin.Str.tooLong (1 * 4) = false)⟩
  · exact ⟨by decide, fun _ _ => (by decide : ¬ ((1 : Nat) : Int) > (2 ^ 63 - 1) / 5), fun _ _ => (by decide : Builtin.Str.tooLong (1 * 5) = false)⟩
theorem mul3 (c : Nat) : Txt.mul (S [c]) 3 = S [c, c, c] := rfl
theorem mul4 (c : Nat) : Txt.mul (S [c]) 4 = S [c, c, c, c] := rfl
theorem mul5 (c : Nat) : Txt.mul (S [c]) 5 = S [c, c, c, c, c] := rfl
end FW
namespace FW
open PySem PySem.Spec PyProof.Rows L2
/-! ### len, repr and bool of own objects -/
section
variable {X : Cx} {CX : CXT} {C f : Addr} {n : Nat} {sp : Sp} {E : XK}
def rOwn1 (C : Addr) (sp : Sp) (E : XK) (ok : V → Prop) : List V → Hp → VK → Prop := fun xs H Q => ∃ a dx fs, xs = [V.ref a] ∧ H a = some (.ins C dx fs) ∧ sp [.ref a] H (fun v H' => ok v ∧ Q v H') E
theorem cr_lenO (hs : PySem.W.findIn X.K (.ref C) "__len__" = some (some (.ref f))) (hf : PySem.W.isFn X.K (.ref f) = true) (F : FnR X.prog X.w X.K X.mg X.base CX n f sp) (hr : Room (n + 1) X.A) (hx : Passes CX X E) :
    CallR X (.builtin "len") (rOwn1 C sp E fun v => ∃ i : Int, v = .int i ∧ 0 ≤ i ∧ i < 2 ^ 63) := by
  intro pins s σ H vs us Q I r h
  obtain ⟨a, dx, fs, rfl, ha, q⟩ := h
  obtain ⟨u, rfl, ru⟩ := L2.vals1 r
  obtain rfl : u = Value.ref a := ru
  obtain ⟨mA, J, _⟩ := ins_get I.hok ha
  obtain ⟨od, J, _⟩ := J.look
  obtain ⟨m, hF⟩ := I.fr
  refine PySem.W.len_K hF I.ok.mod.kin J hs hf ?_
  refine wpAny_mono (wpAny_call (SlX.run_at (us := [.ref a]) (ws := [.ref a]) F hr.in1 I.env0.in1 hx I (.cons rfl .nil) q)) (fun w s' z => ?_) fun _ _ x => x
  obtain ⟨z', H', I', rz, ⟨i, rfl, h0, h1⟩, qz⟩ := z
  obtain ⟨t, rfl⟩ := rz
  exact ⟨⟨h0, h1⟩, .int i, H', I'.tok _, ⟨_, rfl⟩, qz⟩
theorem cr_reprO (hs : PySem.W.findIn X.K (.ref C) "__repr__" = some (some (.ref f))) (hf : PySem.W.isFn X.K (.ref f) = true) (F : FnR X.prog X.w X.K X.mg X.base CX n f sp) (hr : Room (n + 1) X.A) (hx : Passes CX X E) :
    CallR X (.builtin "repr") (rOwn1 C sp E fun v => ∃ z : Str, v = .str z) := by
  intro pins s σ H vs us Q I r h
  obtain ⟨a, dx, fs, rfl, ha, q⟩ := h
  obtain ⟨u, rfl, ru⟩ := L2.vals1 r
  obtain rfl : u = Value.ref a := ru
  obtain ⟨mA, J, _⟩ := ins_get I.hok ha
  obtain ⟨od, J, _⟩ := J.look
  obtain ⟨m, hF⟩ := I.fr
  refine PySem.W.repr_K (by have := hr.in1.un; omega) hF I.ok.mod.kin J hs hf ?_
  refine wpAny_mono (wpAny_call (SlX.run_at (us := [.ref a]) (ws := [.ref a]) F hr.in1 I.env0.in1 hx I (.cons rfl .nil) q)) (fun w s' z => ?_) fun _ _ x => x
  obtain ⟨z', H', I', rz, ⟨z, rfl⟩, qz⟩ := z
  obtain ⟨t, rfl⟩ := rz
  exact ⟨.str z, H', I', ⟨_, rfl⟩, qz⟩
theorem cr_boolO (hs : PySem.W.findIn X.K (.ref C) "__bool__" = some (some (.ref f))) (hf : PySem.W.isFn X.K (.ref f) = true) (F : FnR X.prog X.w X.K X.mg X.base CX n f sp) (hr : Room (n + 2) X.A) (hx : Passes CX X E) :
    CallR X (.type "bool") (rOwn1 C sp E fun v => ∃ b : Bool, v = .bl b) := by
  intro pins s σ H vs us Q I r h
  obtain ⟨a, dx, fs, rfl, ha, q⟩ := h
  obtain ⟨u, rfl, ru⟩ := L2.vals1 r
  obtain rfl : u = Value.ref a := ru
  obtain ⟨mA, J, _⟩ := ins_get I.hok ha
  obtain ⟨od, J, _⟩ := J.look
  obtain ⟨m, hF⟩ := I.fr
  refine callType_newIn PySem.F.called_bool (by decide) (PySem.F.typeCall_bool_1 _) (PySem.F.newCall_bool_1 _) (fun obj => PySem.F.args_object_init_2 obj _) PySem.F.entry_bool_new
    (S := fun A R s => wpAny (model X.prog X.w) A.in1 (truthy (.ref a)) (fun b s' => R (.ok (.ret (.bool b))) s') (fun e s' => R (.error e) s') s) ?_ ?_
  · intro A R s h
    unfold Builtin.«bool.__new__»
    repeat (first | (refine wpAny_bind (m := truthy _) (wpAny_mono h (fun b s' hb => ?_) fun _ _ e => e)) | wp_step)
    exact hb
  · refine PySem.W.truthy_K hF I.ok.mod.kin J hs hf ?_
    refine wpAny_mono (wpAny_call (SlX.run_at (us := [.ref a]) (ws := [.ref a]) F hr.in1.in1 I.env0.in1.in1 hx I (.cons rfl .nil) q)) (fun w s' z => ?_) fun _ _ x => x
    obtain ⟨z', H', I', rz, ⟨b, rfl⟩, qz⟩ := z
    obtain rfl : w = Value.bool b := rz
    exact ⟨PySem.typeIs_bool _ b, .bl b, H', I', rfl, qz⟩
end
end FW
/-! list(text) -/
namespace FW
open PySem PySem.Spec PyProof.Rows L2
def rListS : List V → Hp → VK → Prop := fun xs H Q => ∃ z : Str, xs = [V.str z] ∧ z.cps.size ≤ sizeLine ∧ ∀ p, H p = none → Q (.ref p) (upd H p (.lst (z.cps.toList.map sgn)))
theorem call_listS {X : Cx} (hc : X.calm = true) : CallR X (.type "list") rListS := by
  intro pins s σ H xs us Q I r h
  obtain ⟨z, rfl, hz, q⟩ := h
  obtain ⟨u, rfl, t, rfl⟩ := vals1 r
  refine call_list_str (I.ok.hd hc) z t (hn := hz) fun h' tk acc' c' kp hS hacc => ?_
  refine ⟨.ref s.heap.objs.size, upd H s.heap.objs.size (.lst (z.cps.toList.map sgn)), I.laid kp (Nat.le_refl _) (show ObjOk X.prog X.w _ _ _ (.lst (z.cps.toList.map sgn)) from ⟨?_, acc'.toList, c', ?_, ?_⟩), rfl, q _ (I.hok.fresh (Nat.le_refl _))⟩
  · rw [List.length_map]
    exact hz
  · refine vals_of_at (by rw [List.length_map]; simp [hacc.1]) fun j x w h1 h2 => ?_
    obtain ⟨c, y, hc', rfl⟩ := hacc.2 j w (by rw [← Array.getElem?_toList]; exact h2)
    rw [List.getElem?_map, Array.getElem?_toList, hc'] at h1
    cases h1
    exact ⟨y, rfl⟩
  · rw [Array.toArray_toList]
    exact hS
end FW
/-! a def with one default that raises nothing -/
namespace FW
open PySem PySem.Spec PyProof.Rows L2
section
variable {P : Program} {w : World} {K : PySem.W.Frag} {mg : Str → Option Value} {base : Heap} {x qual : Str} {params : Arguments} {body : List Stmt} {scope : Scope} {dvs : List V} {kws : List (Str × V)} {f : Addr} {fd : FuncData}
theorem fund_ok0 {N ps : List Str} {k : Nat} {sp : Sp} (F : FunD K x qual params body scope dvs kws f fd) (S : FnScope N ps scope) (len : ∀ vs H Q E, sp vs H Q E → vs.length = ps.length)
    (hbody : ∀ (cdv : Value) (A : Around) (outer : List Env) (s : Shared) (H : Hp) (vs : List V) (Q : VK) (E : XK), Room k (A.deeper (envOfC qual scope s.heap.objs.size f cdv)) → sp vs H Q E →
      ∃ t, PSs (cxOf CX0 P w K mg base N qual scope f cdv A outer s H E).nox body t ∧ t { nx := fun _ H' => Q .non H', rt := Q } (start N vs) H) : FnOk P w K mg base CX0 (k + 1) f fd ps sp :=
  F.ok S len fun cdv A outer s H vs Q E hr hsp => by
    obtain ⟨t, h, q⟩ := hbody cdv A outer s H vs Q E hr hsp
    exact ⟨t, h.nox, q⟩
theorem fund_mk1 {oc kV doc pm cdv ct u oT : Value} {od an dT : Option Addr} {osl slT : Array (Option Value)} {T : Addr} {n : Nat} {v : V} (l : K.lookup f = some ⟨oc, od, .func (PySem.W.fnOf x qual params body scope (.ref T) kV doc pm an cdv ct), osl⟩) (c : PySem.W.codeIn K cdv qual = true) (k : PySem.W.keepIn K (.ref f) = true)
    (lT : K.lookup T = some ⟨oT, dT, .seq #[u] n, slT⟩) (r : RelV v u) : FunD K x qual params body scope [v] [] f (PySem.W.fnOf x qual params body scope (.ref T) kV doc pm an cdv ct) :=
  ⟨⟨oc, od, .ref T, kV, doc, pm, an, cdv, ct, osl, rfl, l, c, .inr ⟨List.cons_ne_nil _ _, T, _, [u], n, rfl, lT, rfl, .cons r .nil⟩, .inl rfl⟩, k⟩
end
/-- an empty tuple of the module -/
theorem sqT_nil {K : PySem.W.Frag} {ae : Addr} {od : Option Addr} {n : Nat} {sl : Array (Option Value)} (l : K.lookup ae = some ⟨.type "tuple", od, .seq #[] n, sl⟩) (H : Hp) : SqT K H ae [] := .inr ⟨_, #[], n, l, rfl, rfl, by decide, .nil⟩
theorem one_ref {ae : Addr} {ds : List Value} (h : Vals [V.ref ae] ds) : ds = [.ref ae] := by
  cases h with
  | cons a b =>
    cases b
    cases a
    rfl
end FW
namespace FW
open PySem PySem.Spec PyProof.Rows L2
def topS (i : Nat) : Stmt := PySem.Challenge.pw_fourwalls_k11_machines_told.main.body.getD i (.Pass ⟨0, 0, 0, 0⟩)
section
variable {P : Program} {w : World} {K : PySem.W.Frag} {mg : Str → Option Value} {base : Heap}
abbrev s__law_open : Stmt := topS 29
theorem sc__law_open : FnScope ["_law_script", "_law_mixed", "_law_cell"] ["_law_script"] (defScope s__law_open) := ⟨rfl, rfl, rfl, by decide +kernel, rfl, by decide +kernel, by decide +kernel⟩
theorem ok__law_open {f : Addr} {fd : FuncData} (F : Fun K "_law_open" "_law_open" s__law_open f fd) (T : Z mg) : FnOk P w K mg base CX0 1 f fd ["_law_script"] (sp__law_open K) := by
  refine F.ok sc__law_open (fun vs H Q E h => ?_) (fun cdv A outer s H vs Q E hr h => ?_)
  · obtain ⟨a, ns, rfl, _⟩ := h
    rfl
  · obtain ⟨a, ns, rfl, hS, hlen, q⟩ := h
    refine ⟨_, (pss_cons (ps_set (i := 1) sc__law_open.nd rfl (.inl rfl) pe_int)
      (pss_cons (ps_for PassesOwn.never rfl (pi_list (pe_slice sl_list (pv 0) po_none (po_some pe_int))) (pg_name (i := 2) sc__law_open.nd rfl (.inl rfl))
        (pss_one (ps_set (i := 1) sc__law_open.nd rfl (.inl rfl) (pe_op op_mod (pe_callTy call_int1 (by rfl) T.z_int (by decide +kernel) (pa_cons (pe_op op_add (pe_op op_add (pe_op op_mul (pv 1) pe_int) (pe_op op_mul (pe_op op_mod (pe_callTy call_int1 (by rfl) T.z_int (by decide +kernel) (pa_cons (pv 2) pa_nil)) pe_int) pe_int)) pe_int) pa_nil)) pe_int))))
      (pss_one (ps_ret (pe_lst (pa_cons (pe_callTy call_list_of (by rfl) T.z_list (by decide +kernel) (pa_cons (pe_slice sl_list (pv 0) po_none (po_some pe_int)) pa_nil)) (pa_cons pe_int (pa_cons pe_int (pa_cons (pv 1) (pa_cons pe_int pa_nil)))))))))), ?_⟩
    have ecut : cutV (ns.map V.int) none (some 63) = ns.map V.int := by
      rw [show (63 : Int) = ((63 : Nat) : Int) from rfl, cutV_to]
      exact List.take_of_length_le (by rw [List.length_map]; exact hlen)
    refine ⟨_, rfl, 63, rfl, a, _, rfl, hS, fun p np => ?_⟩
    rw [ecut]
    have s1 : Same H (upd H p (.lst (ns.map V.int))) := same_upd np
    refine ⟨p, rfl, ⟨_, SqL.of upd_same⟩, for_it (walk_list (xs := ns.map V.int)) (fun i σ H' => ∃ m y, σ = [some (.ref a), some (.int m), y] ∧ 0 ≤ m ∧ m < 2147483648 ∧ H' = upd H p (.lst (ns.map V.int)))
      ⟨10042, none, rfl, by decide, by decide, rfl⟩ (fun i σ H' _ ⟨_, _, _, _, _, e⟩ => by rw [e]; exact SqL.of upd_same) ?_ ?_⟩
    · rintro i x σ _ _ hi ⟨m, y, rfl, h0, h1, rfl⟩ ⟨rfl, hx⟩
      obtain ⟨z, rfl⟩ : ∃ z, x = V.int z := by
        rw [List.getElem?_map] at hx
        cases e : ns[i]? with
        | none => rw [e] at hx; cases hx
        | some u => rw [e] at hx; exact ⟨u, (Option.some.inj hx).symm⟩
      refine ⟨_, rfl, _, _, rfl, rfl, .inr ⟨by decide, by decide⟩, _, rfl, .inl ⟨_, rfl, _, _, rfl, rfl, (show (0 : Int) < 1000033 by decide), _, _, rfl, rfl, .inr ⟨by decide, by decide⟩, _, _, rfl, rfl, _, _, rfl, rfl, .inl ⟨_, rfl, _, _, rfl, rfl, (show (0 : Int) < 2147483549 by decide), ?_⟩⟩⟩
      refine ⟨_, _, rfl, Int.emod_nonneg _ (by decide), ?_, rfl⟩
      exact Int.lt_trans (Int.emod_lt_of_pos _ (by decide)) (by decide)
    · rintro σ _ ⟨m, y, rfl, h0, h1, rfl⟩
      refine ⟨_, rfl, 63, rfl, a, _, rfl, s1.seq hS, fun p2 np2 => ?_⟩
      rw [ecut]
      have s2 := same_upd (o := HO.lst (ns.map V.int)) np2
      refine ⟨p2, _, rfl, .inl (SqL.of upd_same), fun l nl => ?_⟩
      have s3 := same_upd (o := HO.lst (ns.map V.int)) nl
      refine ⟨_, rfl, (show 5 ≤ sizeLine by decide), fun b nb => ?_⟩
      have s4 := same_upd (o := HO.lst [V.ref l, V.int 0, V.int 0, V.int m, V.int 0]) nb
      have s5 := (s1.trans s2).trans s3
      refine q _ b l (s5.free nb) ((s1.trans s2).free nl) (s5.trans s4) ⟨ns, 0, 0, m, 0, upd_same, s4 _ _ upd_same, by omega, by decide, h0, h1⟩
abbrev s__law_draw : Stmt := topS 30
theorem sc__law_draw : FnScope ["_law_bag", "_law_many", "_law_cell", "_law_digit", "_law_twice"] ["_law_bag", "_law_many"] (defScope s__law_draw) := ⟨rfl, rfl, rfl, by decide +kernel, rfl, by decide +kernel, by decide +kernel⟩
theorem ok__law_draw {f : Addr} {fd : FuncData} (F : Fun K "_law_draw" "_law_draw" s__law_draw f fd) (T : Z mg) : FnOk P w K mg base CX0 1 f fd ["_law_bag", "_law_many"] (sp__law_draw K) := by
  refine F.ok sc__law_draw (fun vs H Q E h => ?_) (fun cdv A outer s H vs Q E hr h => ?_)
  · obtain ⟨b, l, k, rfl, _⟩ := h
    rfl
  · obtain ⟨b, l, k, rfl, ⟨ns, i, r, m, c, hb, hL, hlen, hi, hm0, hm1⟩, hk, hk2, q⟩ := h
    have nlb : l ≠ b := ne_of hL hb bag_ne
    refine ⟨_, (pss_cons (ps_asg (pe_op op_add (pe_ix ix_list (pv 0) pe_int (fun _ _ => rfl)) pe_int) (pg_sub (pv 0) pe_int set_list))
      (C8.pss_cut (ps_if (PW.pt (pw_and (pt_cmpR op_eq (pe_ix ix_list (pv 0) pe_int (fun _ _ => rfl)) pe_int (nomark _)) (pw_and1 (pt_cmpR op_lt (pe_ix ix_list (pv 0) pe_int (fun _ _ => rfl)) (pe_callB call_len (by rfl) T.z_len (by decide +kernel) (pa_cons (pe_ix ix_list (pv 0) pe_int (fun _ _ => rfl)) pa_nil)) (nomark _))))) (pss_cons (ps_set (i := 2) sc__law_draw.nd rfl (.inl rfl) (pe_ix ix_list (pe_ix ix_list (pv 0) pe_int (fun _ _ => rfl)) (pe_ix ix_list (pv 0) pe_int (fun _ _ => rfl)) (fun _ _ => rfl)))
      (pss_cons (ps_asg (pe_op op_add (pe_ix ix_list (pv 0) pe_int (fun _ _ => rfl)) pe_int) (pg_sub (pv 0) pe_int set_list))
      (pss_one (ps_if (pt_cmpR op_ge (pe_callB call_abs (by rfl) T.z_abs (by decide +kernel) (pa_cons (pv 2) pa_nil)) (pe_op op_pow pe_int pe_int) (nomark _)) (pss_one (ps_asg (pe_callB call_abs (by rfl) T.z_abs (by decide +kernel) (pa_cons (pv 2) pa_nil)) (pg_sub (pv 0) pe_int set_list))) (pss_one (ps_asg (pe_op op_mod (pe_callTy call_int1 (by rfl) T.z_int (by decide +kernel) (pa_cons (pe_op op_add (pe_op op_add (pe_op op_mul (pe_ix ix_list (pv 0) pe_int (fun _ _ => rfl)) pe_int) (pe_op op_mul (pe_op op_mod (pe_callTy call_int1 (by rfl) T.z_int (by decide +kernel) (pa_cons (pv 2) pa_nil)) pe_int) pe_int)) pe_int) pa_nil)) pe_int) (pg_sub (pv 0) pe_int set_list))))))) pss_nil)
      (pss_cons (ps_if (pt_cmpR op_gt (pe_ix ix_list (pv 0) pe_int (fun _ _ => rfl)) pe_int (nomark _)) (pss_cons (ps_set (i := 3) sc__law_draw.nd rfl (.inl rfl) (pe_op op_mod (pe_callTy call_int1 (by rfl) T.z_int (by decide +kernel) (pa_cons (pe_ix ix_list (pv 0) pe_int (fun _ _ => rfl)) pa_nil)) (pv 1)))
      (pss_cons (ps_asg (pe_op op_fdivN (pe_ix ix_list (pv 0) pe_int (fun _ _ => rfl)) (pv 1)) (pg_sub (pv 0) pe_int set_list))
      (pss_one (ps_ret (pv 3))))) pss_nil)
      (pss_cons (ps_set (i := 4) sc__law_draw.nd rfl (.inl rfl) (pe_op op_mod (pe_callTy call_int1 (by rfl) T.z_int (by decide +kernel) (pa_cons (pe_op op_add (pe_op op_mul (pe_ix ix_list (pv 0) pe_int (fun _ _ => rfl)) (pe_ix ix_list (pv 0) pe_int (fun _ _ => rfl))) (pe_op op_mul (pe_ix ix_list (pv 0) pe_int (fun _ _ => rfl)) pe_int)) pa_nil)) pe_int))
      (pss_cons (ps_asg (pe_op op_mod (pe_callTy call_int1 (by rfl) T.z_int (by decide +kernel) (pa_cons (pe_op op_add (pe_op op_add (pe_op op_mul (pv 4) pe_int) (pe_op op_mul (pe_ix ix_list (pv 0) pe_int (fun _ _ => rfl)) pe_int)) pe_int) pa_nil)) pe_int) (pg_sub (pv 0) pe_int set_list))
      (pss_one (ps_ret (pe_op op_mod (pe_callTy call_int1 (by rfl) T.z_int (by decide +kernel) (pa_cons (pe_op op_fdivN (pe_ix ix_list (pv 0) pe_int (fun _ _ => rfl)) pe_int) pa_nil)) (pv 1))))))))), ?_⟩
    -- bag[4] += 1
    refine ⟨_, rfl, b, _, 4, _, rfl, rfl, SqL.of hb, rfl, _, _, rfl, rfl, _, rfl, b, _, 4, 4, rfl, rfl, hb, rfl, ?_⟩
    have B1 : BagAt H (upd H b (.lst [.ref l, .int i, .int r, .int m, .int (c + 1)])) b l ns := ⟨(But.refl b H).upd, by rw [upd_ne nlb]; exact hL, i, r, m, c + 1, upd_same, hi, hm0, hm1⟩
    refine ⟨fun σ' H1 => ∃ x2 x3 x4, σ' = [some (.ref b), some (.int k), x2, x3, x4] ∧ BagAt H H1 b l ns, ?_, ?_⟩
    · have hL1 : (upd H b (.lst [.ref l, .int i, .int r, .int m, .int (c + 1)])) l = some (.lst (ns.map V.int)) := by rw [upd_ne nlb]; exact hL
      refine ⟨_, rfl, b, _, 2, _, rfl, rfl, SqL.of upd_same, rfl, rfl, _, rfl, ite2 (fun _ => ?_) (fun _ => ?_)⟩
      · refine ⟨_, rfl, b, _, 1, _, rfl, rfl, SqL.of upd_same, rfl, _, rfl, b, _, 0, _, rfl, rfl, SqL.of upd_same, rfl, _, _, rfl, .inl ⟨_, SqL.of hL1, rfl⟩, _, _, rfl, rfl, _, rfl, ite2 (fun hlt => ?_) (fun _ => ?_)⟩
        · have hlt : i < ((ns.map V.int).length : Int) := of_decide_eq_true hlt
          rw [List.length_map] at hlt
          have hin : i.toNat < ns.length := by omega
          have hat : atI (ns.map V.int) i = some (.int ns[i.toNat]) := by
            have e : i = ((i.toNat : Nat) : Int) := by omega
            refine at_of e ?_
            rw [List.getElem?_map, List.getElem?_eq_getElem hin]
            rfl
          refine ⟨_, rfl, b, _, 0, _, rfl, rfl, SqL.of upd_same, rfl, _, rfl, b, _, 1, _, rfl, rfl, SqL.of upd_same, rfl, l, _, i, _, rfl, rfl, SqL.of hL1, hat, ?_⟩
          refine ⟨_, rfl, b, _, 1, _, rfl, rfl, SqL.of upd_same, rfl, _, _, rfl, rfl, _, rfl, b, _, 1, 1, rfl, rfl, upd_same, rfl, ?_⟩
          refine ⟨_, rfl, _, rfl, _, _, rfl, rfl, ⟨by decide, by decide, by decide⟩, _, _, rfl, rfl, _, rfl, ite2 (fun _ => ?_) (fun _ => ?_)⟩
          · refine ⟨_, rfl, _, rfl, _, rfl, b, _, 2, 2, rfl, rfl, upd_same, rfl, _, _, _, rfl, (((But.refl b H).upd).upd).upd, ?_, _, _, _, _, upd_same, ?_, hm0, hm1⟩
            · rw [upd_ne nlb, upd_ne nlb]
              exact hL1
            · omega
          · refine ⟨_, rfl, b, _, 3, _, rfl, rfl, SqL.of upd_same, rfl, _, _, rfl, rfl, .inr ⟨by decide, by decide⟩, _, rfl, .inl ⟨_, rfl, _, _, rfl, rfl, (show (0 : Int) < 1000033 by decide), _, _, rfl, rfl, .inr ⟨by decide, by decide⟩, _, _, rfl, rfl, _, _, rfl, rfl, .inl ⟨_, rfl, _, _, rfl, rfl, (show (0 : Int) < 2147483587 by decide), ?_⟩⟩⟩
            refine ⟨_, rfl, b, _, 3, 3, rfl, rfl, upd_same, rfl, _, _, _, rfl, (((But.refl b H).upd).upd).upd, ?_, _, _, _, _, upd_same, ?_, Int.emod_nonneg _ (by decide), Int.lt_trans (Int.emod_lt_of_pos _ (by decide)) (by decide)⟩
            · rw [upd_ne nlb, upd_ne nlb]
              exact hL1
            · omega
        · exact ⟨_, _, _, rfl, B1⟩
      · exact ⟨_, _, _, rfl, B1⟩
    · rintro σ' H1 ⟨x2, x3, x4, rfl, hbut, hL1, i1, r1, m1, c1, hb1, hi1, hm01, hm11⟩
      have fin : ∀ H2, But b H H2 → H2 l = some (.lst (ns.map V.int)) → ∀ i2 r2 m2 c2 : Int, H2 b = some (.lst [.ref l, .int i2, .int r2, .int m2, .int c2]) → 0 ≤ i2 → 0 ≤ m2 → m2 < 2147483648 → Bag H2 b l := fun H2 _ h2 i2 r2 m2 c2 h3 h4 h5 h6 => ⟨ns, i2, r2, m2, c2, h3, h2, hlen, h4, h5, h6⟩
      refine ⟨_, rfl, b, _, 2, _, rfl, rfl, SqL.of hb1, rfl, _, _, rfl, rfl, _, rfl, ite2 (fun _ => ?_) (fun _ => ?_)⟩
      · refine ⟨_, rfl, b, _, 2, _, rfl, rfl, SqL.of hb1, rfl, .inl ⟨_, rfl, _, rfl, _, _, rfl, rfl, hk, ?_⟩⟩
        refine ⟨_, rfl, b, _, 2, _, rfl, rfl, SqL.of hb1, rfl, _, rfl, _, _, rfl, rfl, ⟨by omega, by omega⟩, _, rfl, b, _, 2, 2, rfl, rfl, hb1, rfl, _, rfl, ?_⟩
        refine q _ _ (Int.emod_nonneg _ (by omega)) (Int.emod_lt_of_pos _ hk) hbut.upd (fin _ hbut.upd (by rw [upd_ne nlb]; exact hL1) _ _ _ _ upd_same hi1 hm01 hm11)
      · refine ⟨_, rfl, b, _, 3, _, rfl, rfl, SqL.of hb1, rfl, _, rfl, b, _, 3, _, rfl, rfl, SqL.of hb1, rfl, _, _, rfl, rfl, .inl ⟨by omega, by omega⟩, _, rfl, b, _, 4, _, rfl, rfl, SqL.of hb1, rfl, _, _, rfl, rfl, .inr ⟨by decide, by decide⟩, _, _, rfl, rfl, .inl ⟨_, rfl, _, _, rfl, rfl, (show (0 : Int) < 2147483629 by decide), ?_⟩⟩
        refine ⟨_, rfl, _, _, rfl, rfl, .inr ⟨by decide, by decide⟩, _, rfl, b, _, 3, _, rfl, rfl, SqL.of hb1, rfl, _, _, rfl, rfl, .inr ⟨by decide, by decide⟩, _, _, rfl, rfl, _, _, rfl, rfl, .inl ⟨_, rfl, _, _, rfl, rfl, (show (0 : Int) < 2147483587 by decide), ?_⟩⟩
        refine ⟨_, rfl, b, _, 3, 3, rfl, rfl, hb1, rfl, ?_⟩
        refine ⟨_, rfl, b, _, 3, _, rfl, rfl, SqL.of upd_same, rfl, _, _, rfl, rfl, ⟨by decide, by decide⟩, .inl ⟨_, rfl, _, rfl, _, _, rfl, rfl, hk, ?_⟩⟩
        refine q _ _ (Int.emod_nonneg _ (by omega)) (Int.emod_lt_of_pos _ hk) hbut.upd (fin _ hbut.upd (by rw [upd_ne nlb]; exact hL1) _ _ _ _ upd_same hi1 (Int.emod_nonneg _ (by decide)) (Int.lt_trans (Int.emod_lt_of_pos _ (by decide)) (by decide)))
abbrev s__law_same : Stmt := topS 31
theorem sc__law_same : FnScope ["_law_found", "_law_due", "_law_a", "_law_b"] ["_law_found", "_law_due"] (defScope s__law_same) := ⟨rfl, rfl, rfl, by decide +kernel, rfl, by decide +kernel, by decide +kernel⟩
theorem ok__law_same_step {f : Addr} {fd : FuncData} {n : Nat} {sp : Sp} (F : Fun K "_law_same" "_law_same" s__law_same f fd) (T : Z mg)
    (c__law_same : Cal P w K mg base CX0 (n + 1) "_law_same" s__law_same ["_law_found", "_law_due"] sp) (hsp : ∀ m vs H Q E, n = m + 1 → sp__law_same K m vs H Q E → sp vs H Q E) : FnOk P w K mg base CX0 (n + 2) f fd ["_law_found", "_law_due"] (sp__law_same K n) := by
  refine F.ok sc__law_same (fun vs H Q E h => ?_) (fun cdv A outer s H vs Q E hr h => ?_)
  · obtain ⟨x, y, d, rfl, _⟩ := h
    rfl
  · obtain ⟨x, y, d, rfl, hx, hy, hd, q⟩ := h
    refine ⟨_, (pss_cons (ps_if (PW.pt (pw_or (pt_cmpR op_isN (pv 1) pe_non (nomark _)) (pw_or1 (pt_cmpR op_isN (pv 0) pe_non (nomark _))))) (pss_one (ps_ret (pe_and (pe_cmpR op_isN (pv 1) pe_non (nomark _)) (pe_one (pe_cmpR op_isN (pv 0) pe_non (nomark _)))))) pss_nil)
      (pss_cons (ps_if (pt_val (pe_callB call_isiT (by rfl) T.z_isinstance (by decide +kernel) (pa_cons (pv 1) (pa_cons (pe_tup (pa_cons (pe_bltn (v := .ty "list") (u := .type "list") (by rfl) T.z_list (by decide +kernel) rfl) (pa_cons (pe_bltn (v := .ty "tuple") (u := .type "tuple") (by rfl) T.z_tuple (by decide +kernel) rfl) pa_nil))) pa_nil)))) (pss_cons (ps_if (pt_cmpR op_ne (pe_callB call_isi (by rfl) T.z_isinstance (by decide +kernel) (pa_cons (pv 0) (pa_cons (pe_bltn (v := .ty "list") (u := .type "list") (by rfl) T.z_list (by decide +kernel) rfl) pa_nil))) (pe_callB call_isi (by rfl) T.z_isinstance (by decide +kernel) (pa_cons (pv 1) (pa_cons (pe_bltn (v := .ty "list") (u := .type "list") (by rfl) T.z_list (by decide +kernel) rfl) pa_nil))) (nomark _)) (pss_one (ps_ret pe_bl)) pss_nil)
      (pss_cons (ps_if (PW.pt (pw_or (pt_cmpR op_ne (pe_callB call_isi (by rfl) T.z_isinstance (by decide +kernel) (pa_cons (pv 0) (pa_cons (pe_bltn (v := .ty "tuple") (u := .type "tuple") (by rfl) T.z_tuple (by decide +kernel) rfl) pa_nil))) (pe_callB call_isi (by rfl) T.z_isinstance (by decide +kernel) (pa_cons (pv 1) (pa_cons (pe_bltn (v := .ty "tuple") (u := .type "tuple") (by rfl) T.z_tuple (by decide +kernel) rfl) pa_nil))) (nomark _)) (pw_or1 (pt_cmpR op_ne (pe_callB call_len (by rfl) T.z_len (by decide +kernel) (pa_cons (pv 0) pa_nil)) (pe_callB call_len (by rfl) T.z_len (by decide +kernel) (pa_cons (pv 1) pa_nil)) (nomark _))))) (pss_one (ps_ret pe_bl)) pss_nil)
      (pss_one (ps_ret (pe_callB (cr_all rfl) (by rfl) T.z_all (by decide +kernel) (pa_cons (pe_lc (own := [("_law_a", 2), ("_law_b", 3)]) (g := (gTup K 2 (gCons (gName 2) (gCons (gName 3) gNil)))) (by rfl) sc__law_same.nd (RZ.pi_zipA (by rfl) T.z_zip (pa_cons (pv 0) (pa_cons (pv 1) pa_nil))) (blkOk_by (N := ["_law_found", "_law_due", "_law_a", "_law_b"]) (sc := defScope s__law_same) (by decide +kernel)) (fun _ _ _ _ _ => (pg_tup rfl (pgs_cons (pg_name (i := 2) sc__law_same.nd rfl (.inl rfl)) (pgs_cons (pg_name (i := 3) sc__law_same.nd rfl (.inl rfl)) pgs_nil)))) (fun _ _ _ _ _ => pts_nil) (fun _ _ _ _ _ => (pe_c c__law_same hr (Nat.le_refl _) (by rfl) (pa_cons (pv 2) (pa_cons (pv 3) pa_nil))))) pa_nil)))))) pss_nil)
      (pss_cons (ps_if (pt_val (pe_callB call_isiT (by rfl) T.z_isinstance (by decide +kernel) (pa_cons (pv 0) (pa_cons (pe_tup (pa_cons (pe_bltn (v := .ty "list") (u := .type "list") (by rfl) T.z_list (by decide +kernel) rfl) (pa_cons (pe_bltn (v := .ty "tuple") (u := .type "tuple") (by rfl) T.z_tuple (by decide +kernel) rfl) pa_nil))) pa_nil)))) (pss_one (ps_ret pe_bl)) pss_nil)
      (pss_cons (ps_if (pt_cmpR op_ne (pe_callB call_isi (by rfl) T.z_isinstance (by decide +kernel) (pa_cons (pv 0) (pa_cons (pe_bltn (v := .ty "bool") (u := .type "bool") (by rfl) T.z_bool (by decide +kernel) rfl) pa_nil))) (pe_callB call_isi (by rfl) T.z_isinstance (by decide +kernel) (pa_cons (pv 1) (pa_cons (pe_bltn (v := .ty "bool") (u := .type "bool") (by rfl) T.z_bool (by decide +kernel) rfl) pa_nil))) (nomark _)) (pss_one (ps_ret pe_bl)) pss_nil)
      (pss_cons (ps_if (pt_cmpR op_ne (pe_callB call_isi (by rfl) T.z_isinstance (by decide +kernel) (pa_cons (pv 0) (pa_cons (pe_bltn (v := .ty "int") (u := .type "int") (by rfl) T.z_int (by decide +kernel) rfl) pa_nil))) (pe_callB call_isi (by rfl) T.z_isinstance (by decide +kernel) (pa_cons (pv 1) (pa_cons (pe_bltn (v := .ty "int") (u := .type "int") (by rfl) T.z_int (by decide +kernel) rfl) pa_nil))) (nomark _)) (pss_one (ps_ret pe_bl)) pss_nil)
      (pss_one (ps_ret (pe_and (pe_cmpR op_eq (pe_callB call_isi (by rfl) T.z_isinstance (by decide +kernel) (pa_cons (pv 0) (pa_cons (pe_bltn (v := .ty "str") (u := .type "str") (by rfl) T.z_str (by decide +kernel) rfl) pa_nil))) (pe_callB call_isi (by rfl) T.z_isinstance (by decide +kernel) (pa_cons (pv 1) (pa_cons (pe_bltn (v := .ty "str") (u := .type "str") (by rfl) T.z_str (by decide +kernel) rfl) pa_nil))) (nomark _)) (pe_one (pe_cmpR op_eq (pv 0) (pv 1) (nomark _))))))))))), ?_⟩
    have kinds : (x = .non ∧ y = .non) ∨ (∃ (Ty : String) (r1 r2 r3 : Bool), x = y ∧ x ≠ .non ∧ (∀ H', TyX K H' x (.type Ty)) ∧ kitB Ty "list" = some false ∧ kitB Ty "tuple" = some false ∧ kitB Ty "bool" = some r1 ∧ kitB Ty "int" = some r2 ∧ kitB Ty "str" = some r3 ∧ scal x x = true) ∨
        (∃ (m : Nat) (a b : Addr) (xs ys : List V) (ds : List PyData), n = m + 1 ∧ x = .ref a ∧ y = .ref b ∧ SqL K H a xs ∧ SqL K H b ys ∧ DpAll K H xs ds ∧ DpAll K H ys ds ∧ ds.length ≤ 1000 ∧ ∀ d ∈ ds, Deep m d) ∨
        (∃ (m : Nat) (a b : Addr) (xs ys : List V) (ds : List PyData), n = m + 1 ∧ x = .ref a ∧ y = .ref b ∧ SqT K H a xs ∧ SqT K H b ys ∧ DpAll K H xs ds ∧ DpAll K H ys ds ∧ ds.length ≤ 1000 ∧ ∀ d ∈ ds, Deep m d) := by
      cases hx with
      | non =>
        cases hy
        exact .inl ⟨rfl, rfl⟩
      | bl b =>
        cases hy
        exact .inr (.inl ⟨"bool", true, true, false, rfl, (fun e => by cases e), fun _ => .base (.bl b), by decide +kernel, by decide +kernel, by decide +kernel, by decide +kernel, by decide +kernel, rfl⟩)
      | int b =>
        cases hy
        exact .inr (.inl ⟨"int", false, true, false, rfl, (fun e => by cases e), fun _ => .base (.int b), by decide +kernel, by decide +kernel, by decide +kernel, by decide +kernel, by decide +kernel, rfl⟩)
      | str b =>
        cases hy
        exact .inr (.inl ⟨"str", false, false, true, rfl, (fun e => by cases e), fun _ => .base (.str b), by decide +kernel, by decide +kernel, by decide +kernel, by decide +kernel, by decide +kernel, rfl⟩)
      | lst h1 h2 =>
        cases hy with
        | lst h3 h4 =>
          cases n with
          | zero =>
            unfold Deep at hd
            exact hd.elim
          | succ m =>
            unfold Deep at hd
            exact .inr (.inr (.inl ⟨m, _, _, _, _, _, rfl, rfl, rfl, h1, h3, h2, h4, hd.1, hd.2⟩))
      | tup h1 h2 =>
        cases hy with
        | tup h3 h4 =>
          cases n with
          | zero =>
            unfold Deep at hd
            exact hd.elim
          | succ m =>
            unfold Deep at hd
            exact .inr (.inr (.inr ⟨m, _, _, _, _, _, rfl, rfl, rfl, h1, h3, h2, h4, hd.1, hd.2⟩))
    rcases kinds with ⟨rfl, rfl⟩ | ⟨Ty, r1, r2, r3, rfl, hn, ht, k1, k2, k3, k4, k5, hs⟩ | ⟨m, a, b, xs, ys, ds, hm, rfl, rfl, hSx, hSy, hDx, hDy, hdl, hdd⟩ | ⟨m, a, b, xs, ys, ds, hm, rfl, rfl, hSx, hSy, hDx, hDy, hdl, hdd⟩
    · refine ⟨_, rfl, rfl, _, rfl, ite2 (fun _ => ?_) (fun h => absurd (decide_eq_true rfl) h)⟩
      refine iteT ?_
      refine ⟨_, rfl, rfl, _, rfl, ite2 (fun _ => ?_) (fun h => absurd (decide_eq_true rfl) h)⟩
      refine ⟨_, rfl, rfl, ?_⟩
      rw [decide_eq_true rfl]
      exact q _ (Same.refl H)
    · refine ⟨_, rfl, rfl, _, rfl, ite2 (fun h => absurd (of_decide_eq_true h) hn) (fun _ => ?_)⟩
      refine ⟨_, rfl, rfl, _, rfl, ite2 (fun h => absurd (of_decide_eq_true h) hn) (fun _ => ?_)⟩
      refine ⟨_, rfl, (show 2 ≤ sizeLine by decide), fun p np => ⟨_, p, _, _, _, false, rfl, upd_same, .cons (.ty _) (.cons (.ty _) .nil), ht _, kitAny_lt k1 k2, _, rfl, iteF ?_⟩⟩
      have s1 := same_upd (o := HO.tup [V.ty "list", V.ty "tuple"]) np
      refine ⟨_, rfl, (show 2 ≤ sizeLine by decide), fun p2 np2 => ⟨_, p2, _, _, _, false, rfl, upd_same, .cons (.ty _) (.cons (.ty _) .nil), ht _, kitAny_lt k1 k2, _, rfl, iteF ?_⟩⟩
      have s2 := s1.trans (same_upd (o := HO.tup [V.ty "list", V.ty "tuple"]) np2)
      refine ⟨_, rfl, _, _, _, _, r1, rfl, .ty _, ht _, kit_ty k3, _, rfl, _, _, _, _, r1, rfl, .ty _, ht _, kit_ty k3, rfl, _, rfl, iteNS rfl ?_⟩
      refine ⟨_, rfl, _, _, _, _, r2, rfl, .ty _, ht _, kit_ty k4, _, rfl, _, _, _, _, r2, rfl, .ty _, ht _, kit_ty k4, rfl, _, rfl, iteNS rfl ?_⟩
      refine ⟨_, rfl, _, _, _, _, r3, rfl, .ty _, ht _, kit_ty k5, _, rfl, _, _, _, _, r3, rfl, .ty _, ht _, kit_ty k5, rfl, _, rfl, ite2 (fun _ => ?_) (fun h => absurd (decide_eq_true rfl) h)⟩
      refine ⟨_, rfl, _, rfl, hs, ?_⟩
      rw [decide_eq_true rfl]
      exact q _ s2
    · refine ⟨_, rfl, rfl, _, rfl, ite2 (fun h => absurd (of_decide_eq_true h) (fun e => by cases e)) (fun _ => ?_)⟩
      refine ⟨_, rfl, rfl, _, rfl, ite2 (fun h => absurd (of_decide_eq_true h) (fun e => by cases e)) (fun _ => ?_)⟩
      refine ⟨_, rfl, (show 2 ≤ sizeLine by decide), fun p np => ?_⟩
      have s1 := same_upd (o := HO.tup [V.ty "list", V.ty "tuple"]) np
      have hSx1 := s1.seq hSx
      have hSy1 := s1.seq hSy
      refine ⟨_, p, _, _, _, true, rfl, upd_same, .cons (.ty _) (.cons (.ty _) .nil), tyL hSy1, kitAny_lt (r1 := true) (r2 := false) (by decide +kernel) (by decide +kernel), _, rfl, iteT ?_⟩
      refine ⟨_, rfl, _, _, _, _, true, rfl, .ty _, tyL hSx1, kit_ty (by decide +kernel), _, rfl, _, _, _, _, true, rfl, .ty _, tyL hSy1, kit_ty (by decide +kernel), rfl, _, rfl, iteNS rfl ?_⟩
      refine ⟨_, rfl, _, _, _, _, false, rfl, .ty _, tyL hSx1, kit_ty (by decide +kernel), _, rfl, _, _, _, _, false, rfl, .ty _, tyL hSy1, kit_ty (by decide +kernel), rfl, _, rfl, iteNS rfl ?_⟩
      refine ⟨_, rfl, _, _, rfl, .inl ⟨_, hSx1, rfl⟩, _, rfl, _, _, rfl, .inl ⟨_, hSy1, rfl⟩, rfl, _, rfl, iteNS (by rw [DpAll.len hDx, DpAll.len hDy]) ?_⟩
      refine ⟨_, rfl, _, rfl, a, b, xs, ys, rfl, .inl ⟨hSx1, hSy1, fun D hD => ?_⟩⟩
      refine lc_it (walk_zip (xs := xs) (ys := ys) (n := ds.length) (by rw [DpAll.len hDx, DpAll.len hDy, Nat.min_self])) (fun i H' => But D (upd H p (.tup [.ty "list", .ty "tuple"])) H' ∧ H' D = some (.lst (List.replicate i (.bl true)))) ⟨(same_upd hD).but, upd_same⟩ (fun i H' _ pv => ?_) ?_ ?_
      · have nD : ∀ c u, (upd H p (.tup [.ty "list", .ty "tuple"])) c = some u → c ≠ D := fun c u e => ne_of_none e hD
        exact ⟨seq_but nD pv.1 hSx1, seq_but nD pv.1 hSy1⟩
      · rintro i _ H' _ hi ⟨bt, hDD⟩ ⟨T', x1, y1, rfl, nT, rfl, hx1, hy1⟩
        obtain ⟨d1, e1, g1⟩ := DpAll.at hDx hx1
        obtain ⟨d2, e2, g2⟩ := DpAll.at hDy hy1
        have ed : d1 = d2 := Option.some.inj (e1.symm.trans e2)
        subst ed
        have nDT : D ≠ T' := ne_of_none hDD nT
        have sT := same_upd (o := HO.tup [x1, y1]) nT
        have nD : ∀ c u, H c = some u → c ≠ D := fun c u e => ne_of_none (s1 _ _ e) hD
        have sH : Same H (upd H' T' (.tup [x1, y1])) := fun c u e => sT _ _ (bt c u (nD c u e) (s1 _ _ e))
        refine ⟨T', [x1, y1], rfl, SqT.of upd_same, rfl, x1, [y1], rfl, y1, [], rfl, rfl, rfl, ?_⟩
        refine ⟨_, rfl, _, rfl, hsp m _ _ _ _ hm ⟨x1, y1, d1, rfl, Dp.same sH g1, Dp.same sH g2, hdd d1 (List.mem_of_getElem? e1), fun H2 s2 => ?_⟩⟩
        refine ⟨_, s2 _ _ (sT _ _ hDD), ?_, fun c u n e => ?_, ?_⟩
        · rw [List.length_replicate]
          exact sz1 (by omega)
        · rw [upd_ne n]
          exact s2 _ _ (sT _ _ (bt c u n e))
        · rw [upd_same, ← List.replicate_succ']
      · rintro H' ⟨bt, hDD⟩
        refine ⟨D, List.replicate ds.length true, rfl, SqL.of (by rw [hDD, List.map_replicate]), ?_⟩
        rw [show (List.replicate ds.length true).all id = true from by rw [List.all_eq_true]; intro z hz; rw [List.eq_of_mem_replicate hz]; rfl]
        exact q _ fun c u e => bt c u (ne_of_none (s1 _ _ e) hD) (s1 _ _ e)
    · refine ⟨_, rfl, rfl, _, rfl, ite2 (fun h => absurd (of_decide_eq_true h) (fun e => by cases e)) (fun _ => ?_)⟩
      refine ⟨_, rfl, rfl, _, rfl, ite2 (fun h => absurd (of_decide_eq_true h) (fun e => by cases e)) (fun _ => ?_)⟩
      refine ⟨_, rfl, (show 2 ≤ sizeLine by decide), fun p np => ?_⟩
      have s1 := same_upd (o := HO.tup [V.ty "list", V.ty "tuple"]) np
      have hSx1 := s1.tup hSx
      have hSy1 := s1.tup hSy
      refine ⟨_, p, _, _, _, true, rfl, upd_same, .cons (.ty _) (.cons (.ty _) .nil), tyT hSy1, kitAny_lt (r1 := false) (r2 := true) (by decide +kernel) (by decide +kernel), _, rfl, iteT ?_⟩
      refine ⟨_, rfl, _, _, _, _, false, rfl, .ty _, tyT hSx1, kit_ty (by decide +kernel), _, rfl, _, _, _, _, false, rfl, .ty _, tyT hSy1, kit_ty (by decide +kernel), rfl, _, rfl, iteNS rfl ?_⟩
      refine ⟨_, rfl, _, _, _, _, true, rfl, .ty _, tyT hSx1, kit_ty (by decide +kernel), _, rfl, _, _, _, _, true, rfl, .ty _, tyT hSy1, kit_ty (by decide +kernel), rfl, _, rfl, iteNS rfl ?_⟩
      refine ⟨_, rfl, _, _, rfl, .inr ⟨_, hSx1, rfl⟩, _, rfl, _, _, rfl, .inr ⟨_, hSy1, rfl⟩, rfl, _, rfl, iteNS (by rw [DpAll.len hDx, DpAll.len hDy]) ?_⟩
      refine ⟨_, rfl, _, rfl, a, b, xs, ys, rfl, .inr ⟨hSx1, hSy1, fun D hD => ?_⟩⟩
      refine lc_it (walk_zipT (xs := xs) (ys := ys) (n := ds.length) (by rw [DpAll.len hDx, DpAll.len hDy, Nat.min_self])) (fun i H' => But D (upd H p (.tup [.ty "list", .ty "tuple"])) H' ∧ H' D = some (.lst (List.replicate i (.bl true)))) ⟨(same_upd hD).but, upd_same⟩ (fun i H' _ pv => ?_) ?_ ?_
      · have nD : ∀ c u, (upd H p (.tup [.ty "list", .ty "tuple"])) c = some u → c ≠ D := fun c u e => ne_of_none e hD
        exact ⟨tup_but nD pv.1 hSx1, tup_but nD pv.1 hSy1⟩
      · rintro i _ H' _ hi ⟨bt, hDD⟩ ⟨T', x1, y1, rfl, nT, rfl, hx1, hy1⟩
        obtain ⟨d1, e1, g1⟩ := DpAll.at hDx hx1
        obtain ⟨d2, e2, g2⟩ := DpAll.at hDy hy1
        have ed : d1 = d2 := Option.some.inj (e1.symm.trans e2)
        subst ed
        have nDT : D ≠ T' := ne_of_none hDD nT
        have sT := same_upd (o := HO.tup [x1, y1]) nT
        have nD : ∀ c u, H c = some u → c ≠ D := fun c u e => ne_of_none (s1 _ _ e) hD
        have sH : Same H (upd H' T' (.tup [x1, y1])) := fun c u e => sT _ _ (bt c u (nD c u e) (s1 _ _ e))
        refine ⟨T', [x1, y1], rfl, SqT.of upd_same, rfl, x1, [y1], rfl, y1, [], rfl, rfl, rfl, ?_⟩
        refine ⟨_, rfl, _, rfl, hsp m _ _ _ _ hm ⟨x1, y1, d1, rfl, Dp.same sH g1, Dp.same sH g2, hdd d1 (List.mem_of_getElem? e1), fun H2 s2 => ?_⟩⟩
        refine ⟨_, s2 _ _ (sT _ _ hDD), ?_, fun c u n e => ?_, ?_⟩
        · rw [List.length_replicate]
          exact sz1 (by omega)
        · rw [upd_ne n]
          exact s2 _ _ (sT _ _ (bt c u n e))
        · rw [upd_same, ← List.replicate_succ']
      · rintro H' ⟨bt, hDD⟩
        refine ⟨D, List.replicate ds.length true, rfl, SqL.of (by rw [hDD, List.map_replicate]), ?_⟩
        rw [show (List.replicate ds.length true).all id = true from by rw [List.all_eq_true]; intro z hz; rw [List.eq_of_mem_replicate hz]; rfl]
        exact q _ fun c u e => bt c u (ne_of_none (s1 _ _ e) hD) (s1 _ _ e)
abbrev s__law_letters : Stmt := topS 32
theorem sc__law_letters : FnScope ["_law_bag", "_law_letters_here", "_law_many", "_law_found", "_law_low", "_law_k", "_law_at"] ["_law_bag", "_law_letters_here", "_law_many"] (defScope s__law_letters) := ⟨rfl, rfl, rfl, by decide +kernel, rfl, by decide +kernel, by decide +kernel⟩
theorem ok__law_letters {f : Addr} {fd : FuncData} (F : Fun K "_law_letters" "_law_letters" s__law_letters f fd) (T : Z mg) (c__law_draw : Cal P w K mg base CX0 1 "_law_draw" s__law_draw ["_law_bag", "_law_many"] (sp__law_draw K)) : FnOk P w K mg base CX0 2 f fd ["_law_bag", "_law_letters_here", "_law_many"] (sp__law_letters K) := by
  refine F.ok sc__law_letters (fun vs H Q E h => ?_) (fun cdv A outer s H vs Q E hr h => ?_)
  · obtain ⟨b, lb, L, k, rfl, _⟩ := h
    rfl
  · obtain ⟨b, lb, L, k, rfl, B, hk, hL, q⟩ := h
    refine ⟨_, (pss_cons (ps_asg (pe_tup (pa_cons pe_str (pa_cons pe_int pa_nil))) (pg_tup rfl (pgs_cons (pg_name (i := 3) sc__law_letters.nd rfl (.inl rfl)) (pgs_cons (pg_name (i := 4) sc__law_letters.nd rfl (.inl rfl)) pgs_nil))))
      (pss_cons (ps_for PassesOwn.never rfl (pi_range1 (by rfl) T.z_range (pa_cons (pv 2) pa_nil)) (pg_name (i := 5) sc__law_letters.nd rfl (.inl rfl))
        (pss_cons (ps_set (i := 6) sc__law_letters.nd rfl (.inl rfl) (pe_op op_add (pv 4) (pe_c c__law_draw hr (by decide) (by rfl) (pa_cons (pv 0) (pa_cons (pe_op op_sub (pe_op op_sub (pe_callB call_len_str (by rfl) T.z_len (by decide +kernel) (pa_cons (pv 1) pa_nil)) (pv 4)) (pe_op op_sub (pe_op op_sub (pv 2) pe_int) (pv 5))) pa_nil)))))
      (pss_one (ps_par (i := 3) (j := 4) (by rfl) sc__law_letters.nd rfl rfl (by decide) rfl rfl (pa_cons (pe_op op_add_str (pv 3) (pe_ix ix_str (pv 1) (pv 6) (fun _ _ => rfl))) (pa_cons (pe_op op_add (pv 6) pe_int) pa_nil)) (by rfl)))))
      (pss_one (ps_ret (pv 3))))), ?_⟩
    refine ⟨(show 2 ≤ sizeLine by decide), fun p np => ⟨p, _, rfl, SqT.of upd_same, rfl, _, _, rfl, _, _, rfl, rfl, _, rfl, k, rfl, by omega, by omega, ?_⟩⟩
    have s0 := same_upd (o := HO.tup [V.str "", V.int 0]) np
    refine for_range (n := ((k : Nat) : Int).toNat) (fun i σ H' => ∃ (r : List Nat) (low : Nat) (y5 y6 : Option V), σ = [some (.ref b), some (.str (S L)), some (.int k), some (.str (S r)), some (.int low), y5, y6] ∧ But b H H' ∧ Bag H' b lb ∧ List.Sublist r (L.take low) ∧ r.length = i ∧ low + (k - i) ≤ L.length)
      ⟨[], 0, none, none, rfl, s0.but, B.same s0, List.nil_sublist _, rfl, by omega⟩ ?_ ?_
    · rintro i σ H' hi ⟨r, low, y5, y6, rfl, hb, B', hs, hr', hlow⟩
      have hi : i < k := by omega
      refine ⟨_, rfl, _, rfl, _, rfl, _, rfl, by rw [S_len]; exact sz (by omega), _, rfl, _, _, rfl, rfl, _, rfl, _, _, rfl, rfl, _, rfl, _, _, rfl, rfl, _, _, rfl, rfl, ?_⟩
      rw [S_len]
      refine ⟨b, lb, _, rfl, B', by omega, by omega, fun H2 z z0 z1 hb2 B2 => ?_⟩
      refine ⟨_, _, rfl, rfl, ?_⟩
      have hz : low + z.toNat < L.length := by omega
      refine ⟨_, rfl, _, rfl, _, rfl, S L, _, L[low + z.toNat], rfl, rfl, by rw [S_len]; exact sz (by omega), atI_of (show (low : Int) + z = ((low + z.toNat : Nat) : Int) by omega) (List.getElem?_eq_getElem hz), _, _, rfl, rfl, ?_, _, rfl, _, _, rfl, rfl, _, _, rfl, ?_⟩
      · rw [S_len]
        exact sz (by show r.length + 1 ≤ 100000; omega)
      · refine ⟨r ++ [L[low + z.toNat]], low + z.toNat + 1, some (.int (0 + (i : Int))), some (.int ((low : Int) + z)), ?_, hb.trans hb2, B2, sub_next hs (by omega) hz, by rw [List.length_append, hr']; rfl, by omega⟩
        rw [← S_cat]
        have e : ((low : Int) + z + 1) = (((low + z.toNat + 1 : Nat)) : Int) := by omega
        rw [← e]
        rfl
    · rintro σ H' ⟨r, low, y5, y6, rfl, hb, B', hs, hr', hlow⟩
      exact ⟨_, rfl, q _ _ (hs.trans (List.take_sublist _ _)) (by omega) hb B'⟩
abbrev s__law_some_faces : Stmt := topS 33
theorem sc__law_some_faces : FnScope ["_law_bag", "_law_most"] ["_law_bag", "_law_most"] (defScope s__law_some_faces) := ⟨rfl, rfl, rfl, by decide +kernel, rfl, by decide +kernel, by decide +kernel⟩
theorem ok__law_some_faces {f : Addr} {fd : FuncData} (F : Fun K "_law_some_faces" "_law_some_faces" s__law_some_faces f fd) (T : Z mg) (c__law_draw : Cal P w K mg base CX0 1 "_law_draw" s__law_draw ["_law_bag", "_law_many"] (sp__law_draw K))
    (c__law_letters : Cal P w K mg base CX0 2 "_law_letters" s__law_letters ["_law_bag", "_law_letters_here", "_law_many"] (sp__law_letters K)) : FnOk P w K mg base CX0 3 f fd ["_law_bag", "_law_most"] (sp__law_some_faces K) := by
  refine F.ok sc__law_some_faces (fun vs H Q E h => ?_) (fun cdv A outer s H vs Q E hr h => ?_)
  · obtain ⟨b, lb, m, rfl, _⟩ := h
    rfl
  · obtain ⟨b, lb, m, rfl, B, h0, h1, q⟩ := h
    refine ⟨_, (pss_one (ps_ret (pe_c c__law_letters hr (by decide) (by rfl) (pa_cons (pv 0) (pa_cons pe_str (pa_cons (pe_op op_add pe_int (pe_c c__law_draw hr (by decide) (by rfl) (pa_cons (pv 0) (pa_cons (pv 1) pa_nil)))) pa_nil)))))), ?_⟩
    refine ⟨_, rfl, _, rfl, _, rfl, b, lb, _, rfl, B, by omega, by omega, fun H1 z z0 z1 hb B1 => ?_⟩
    refine ⟨_, _, rfl, rfl, b, lb, lower, 1 + z.toNat, ?_, B1, by rw [lower_len]; omega, by rw [lower_len]; omega, fun H2 r hs hr' hb2 B2 => ?_⟩
    · have e : (1 : Int) + z = ((1 + z.toNat : Nat) : Int) := by omega
      rw [← e]
      rfl
    · exact q _ r hs (by omega) (by omega) (hb.trans hb2) B2
abbrev s_is_string : Stmt := topS 19
theorem sc_is_string : FnScope ["value", "faces", "face"] ["value", "faces"] (defScope s_is_string) := ⟨rfl, rfl, rfl, by decide +kernel, rfl, by decide +kernel, by decide +kernel⟩
theorem ok_is_string {f : Addr} {fd : FuncData} (F : Fun K "is_string" "is_string" s_is_string f fd) (T : Z mg) : FnOk P w K mg base CX0 1 f fd ["value", "faces"] (sp_is_string K) := by
  refine F.ok sc_is_string (fun vs H Q E h => ?_) (fun cdv A outer s H vs Q E hr h => ?_)
  · obtain ⟨v, fs, rfl, _⟩ := h
    rfl
  · obtain ⟨v, fs, rfl, hv, q⟩ := h
    refine ⟨_, (pss_one (ps_ret (pe_and (pe_callB call_isi (by rfl) T.z_isinstance (by decide +kernel) (pa_cons (pv 0) (pa_cons (pe_bltn (v := .ty "str") (u := .type "str") (by rfl) T.z_str (by decide +kernel) rfl) pa_nil))) (pe_one (pe_callB (cr_all rfl) (by rfl) T.z_all (by decide +kernel) (pa_cons (pe_lc (own := [("face", 2)]) (g := (gName 2)) (by rfl) sc_is_string.nd (pi_str (pv 0)) (blkOk_by (N := ["value", "faces", "face"]) (sc := defScope s_is_string) (by decide +kernel)) (fun _ _ _ _ _ => (pg_name (i := 2) sc_is_string.nd rfl (.inl rfl))) (fun _ _ _ _ _ => pts_nil) (fun _ _ _ _ _ => (pe_cmpR op_in_sign (pv 2) (pv 1) rfl))) pa_nil)))))), ?_⟩
    rcases hv with ⟨hs, hl⟩ | ⟨hs, T, ht, hk⟩
    · obtain ⟨z, rfl⟩ := str_of hs
      refine ⟨_, rfl, _, _, _, _, true, rfl, .ty _, .base (.str z), kit_ty (by decide +kernel), true, rfl, iteT ?_⟩
      refine ⟨_, rfl, z, rfl, fun D hD => lc_it walk_str (fun i H' => H' = upd H D (.lst ((z.cps.toList.take i).map fun c => V.bl (decide (c ∈ fs.cps.toList))))) rfl (fun _ _ _ _ => trivial) ?_ ?_⟩
      · rintro i x _ _ hi rfl ⟨rfl, c, hc, rfl⟩
        refine ⟨rfl, ?_⟩
        refine ⟨_, rfl, _, rfl, c, fs, rfl, rfl, _, upd_same, ?_, ?_⟩
        · rw [List.length_map, List.length_take]
          have hl : z.cps.size ≤ 100000 := hl
          exact sz1 (Nat.le_trans (Nat.min_le_left _ _) (by omega))
        · rw [upd_upd]
          have e : z.cps.toList.take (i + 1) = z.cps.toList.take i ++ [c] := by
            rw [List.take_add_one]
            have : z.cps.toList[i]? = some c := by rw [Array.getElem?_toList]; exact hc
            rw [this]
            rfl
          rw [e, List.map_append]
          rfl
      · rintro H' rfl
        refine ⟨D, z.cps.toList.map fun c => decide (c ∈ fs.cps.toList), rfl, SqL.of ?_, ?_⟩
        · rw [upd_same, List.take_of_length_le (by simp), List.map_map]
          rfl
        · have e : (z.cps.toList.map fun c => decide (c ∈ fs.cps.toList)).all id = bString (.str z) fs := by
            unfold bString isStr strOf
            rw [List.all_map]
            rfl
          rw [e]
          exact q _ (same_upd hD)
    · refine ⟨_, rfl, _, _, _, _, false, rfl, .ty _, ht, kit_ty hk, false, rfl, iteF ?_⟩
      have e : bString v fs = false := by
        unfold bString
        rw [hs]
        rfl
      rw [e] at q
      exact q _ (Same.refl H)
theorem kb_is_string_0_faces_value : KB K "is_string" s_is_string ["value", "faces"] ["faces", "value"] swp swp := kb_swap fun _ _ _ _ _ _ _ _ => rfl
abbrev s_is_ascending : Stmt := topS 14
theorem sc_is_ascending : FnScope ["text", "one", "other"] ["text"] (defScope s_is_ascending) := ⟨rfl, rfl, rfl, by decide +kernel, rfl, by decide +kernel, by decide +kernel⟩
theorem ok_is_ascending {f : Addr} {fd : FuncData} (F : Fun K "is_ascending" "is_ascending" s_is_ascending f fd) (T : Z mg) : FnOk P w K mg base CX0 1 f fd ["text"] (sp_is_ascending K) := by
  refine F.ok sc_is_ascending (fun vs H Q E h => ?_) (fun cdv A outer s H vs Q E hr h => ?_)
  · obtain ⟨l, rfl, _⟩ := h
    rfl
  · obtain ⟨l, rfl, hl, q⟩ := h
    refine ⟨_, (pss_one (ps_ret (pe_callB (cr_all rfl) (by rfl) T.z_all (by decide +kernel) (pa_cons (pe_lc (own := [("one", 1), ("other", 2)]) (g := (gTup K 2 (gCons (gName 1) (gCons (gName 2) gNil)))) (by rfl) sc_is_ascending.nd (pi_zipG (by rfl) T.z_zip (pa_cons (pv 0) (pa_cons (pe_slice sl_str (pv 0) (po_some pe_int) po_none) pa_nil))) (blkOk_by (N := ["text", "one", "other"]) (sc := defScope s_is_ascending) (by decide +kernel)) (fun _ _ _ _ _ => (pg_tup rfl (pgs_cons (pg_name (i := 1) sc_is_ascending.nd rfl (.inl rfl)) (pgs_cons (pg_name (i := 2) sc_is_ascending.nd rfl (.inl rfl)) pgs_nil)))) (fun _ _ _ _ _ => pts_nil) (fun _ _ _ _ _ => (pe_cmpR op_lt_str (pv 1) (pv 2) (nomark _)))) pa_nil)))), ?_⟩
    refine ⟨_, rfl, _, rfl, 1, rfl, _, rfl, by rw [S_len]; exact sz hl, ?_⟩
    rw [show cutS (S l) (some 1) none = S (l.drop 1) from S_sub l 1]
    refine ⟨_, _, l.map sgn, (l.drop 1).map sgn, rfl, .s rfl, .s rfl, fun k1 k2 _ _ g1 g2 D hD => ?_⟩
    have stay : ∀ (k : SK) (H' : Hp) (xs : List V), (k.val = .str (S l) ∨ k.val = .str (S (l.drop 1))) → k.src K H xs → k.src K H' xs := fun k H' xs h q => by
      cases k with
      | l a => rcases h with h | h <;> cases h
      | t a => rcases h with h | h <;> cases h
      | s x t => exact q
    have hk1 : ∀ H', k1.src K H' (l.map sgn) := fun H' => stay k1 H' _ (.inl (by assumption)) g1
    have hk2 : ∀ H', k2.src K H' ((l.drop 1).map sgn) := fun H' => stay k2 H' _ (.inr (by assumption)) g2
    refine lc_it (walk_zipG (xs := l.map sgn) (ys := (l.drop 1).map sgn) (n := l.length - 1) (by rw [List.length_map, List.length_map, List.length_drop]; omega)) (fun i H' => But D H H' ∧ ∃ bs : List Bool, H' D = some (.lst (bs.map V.bl)) ∧ bs.length = i ∧ bs.all id = ascB (l.take (i + 1)))
      ⟨(same_upd hD).but, [], upd_same, rfl, ?_⟩ (fun i H' _ _ => ⟨hk1 H', hk2 H'⟩) ?_ ?_
    · cases l with
      | nil => rfl
      | cons a r => rfl
    · rintro i _ H' _ hi ⟨bt, bs, hDD, hbl, hba⟩ ⟨T', x1, y1, rfl, nT, rfl, hx1, hy1⟩
      have h1 : i + 1 < l.length := by omega
      have ex : x1 = sgn l[i] := by
        have : (l.map sgn)[i]? = some x1 := hx1
        rw [List.getElem?_map, List.getElem?_eq_getElem (by omega)] at this
        exact (Option.some.inj this).symm
      have ey : y1 = sgn l[i + 1] := by
        have : ((l.drop 1).map sgn)[i]? = some y1 := hy1
        rw [List.getElem?_map, List.getElem?_drop, Nat.add_comm 1 i, List.getElem?_eq_getElem h1] at this
        exact (Option.some.inj this).symm
      subst ex ey
      have nDT : D ≠ T' := ne_of_none hDD nT
      refine ⟨T', _, rfl, SqT.of upd_same, rfl, _, _, rfl, _, [], rfl, rfl, rfl, ?_⟩
      refine ⟨_, rfl, _, rfl, _, _, rfl, rfl, _, (same_upd nT) _ _ hDD, by rw [List.length_map]; exact sz1 (by omega), fun a o n e => ?_, bs ++ [decide (l[i] < l[i + 1])], ?_, by rw [List.length_append, hbl]; rfl, ?_⟩
      · rw [upd_ne n]
        exact (same_upd nT) _ _ (bt a o n e)
      · rw [upd_same, List.map_append]
        exact congrArg (fun z => some (HO.lst (bs.map V.bl ++ [V.bl z]))) (lt_sgn _ _)
      · rw [List.all_append, hba, asc_next l i h1]
        show (_ && (_ && true)) = _
        rw [Bool.and_true]
        rfl
    · rintro H' ⟨bt, bs, hDD, hbl, hba⟩
      refine ⟨D, bs, rfl, SqL.of hDD, ?_⟩
      rw [hba, List.take_of_length_le (by omega)]
      exact q _ (but_fresh (Same.refl H) hD bt)
abbrev s_is_choice : Stmt := topS 15
theorem sc_is_choice : FnScope ["value", "letters", "most"] ["value", "letters", "most"] (defScope s_is_choice) := ⟨rfl, rfl, rfl, by decide +kernel, rfl, by decide +kernel, by decide +kernel⟩
theorem ok_is_choice {f : Addr} {fd : FuncData} (F : Fun K "is_choice" "is_choice" s_is_choice f fd) (T : Z mg) (c_is_string : Cal P w K mg base CX0 1 "is_string" s_is_string ["value", "faces"] (sp_is_string K))
    (c_is_ascending : Cal P w K mg base CX0 1 "is_ascending" s_is_ascending ["text"] (sp_is_ascending K)) : FnOk P w K mg base CX0 2 f fd ["value", "letters", "most"] (sp_is_choice K) := by
  refine F.ok sc_is_choice (fun vs H Q E h => ?_) (fun cdv A outer s H vs Q E hr h => ?_)
  · obtain ⟨v, L, m, rfl, _⟩ := h
    rfl
  · obtain ⟨v, L, m, rfl, hv, q⟩ := h
    refine ⟨_, (pss_cons (ps_if (PW.pt (pw_or (pt_not (pt_val (pe_callB call_isi (by rfl) T.z_isinstance (by decide +kernel) (pa_cons (pv 0) (pa_cons (pe_bltn (v := .ty "str") (u := .type "str") (by rfl) T.z_str (by decide +kernel) rfl) pa_nil))))) (pw_or1 (pt_not (pt_chain op_le op_le pe_int (pe_callB call_len_str (by rfl) T.z_len (by decide +kernel) (pa_cons (pv 0) pa_nil)) (pv 2)))))) (pss_one (ps_ret pe_bl)) pss_nil)
      (pss_one (ps_ret (pe_and (pe_c c_is_string hr (by decide) (by rfl) (pa_cons (pv 0) (pa_cons (pv 1) pa_nil))) (pe_one (pe_c c_is_ascending hr (by decide) (by rfl) (pa_cons (pv 0) pa_nil))))))), ?_⟩
    rcases hv with ⟨hs, hl⟩ | ⟨hs, Ty, ht, hk⟩
    · obtain ⟨z, rfl⟩ := str_of hs
      have hl : z.cps.size ≤ 100000 := hl
      refine ⟨_, rfl, _, _, _, _, true, rfl, .ty _, .base (.str z), kit_ty (by decide +kernel), true, rfl, iteF ?_⟩
      refine ⟨_, rfl, z, rfl, sz hl, _, _, rfl, rfl, _, rfl, ?_⟩
      cases h1 : decide ((1 : Int) ≤ (z.length : Int)) with
      | false =>
        refine iteF ⟨_, rfl, iteT ?_⟩
        have e : bChoice (.str z) L m = false := bChoice_1 h1
        rw [e] at q
        exact q _ (Same.refl H)
      | true =>
        refine iteT ⟨_, rfl, _, _, rfl, rfl, _, rfl, ?_⟩
        cases h2 : decide ((z.length : Int) ≤ m) with
        | false =>
          refine iteT ?_
          have e : bChoice (.str z) L m = false := bChoice_2 h2
          rw [e] at q
          exact q _ (Same.refl H)
        | true =>
          refine iteF ?_
          refine ⟨_, rfl, _, rfl, _, _, rfl, .inl ⟨rfl, hl⟩, fun H1 s1 => ⟨_, rfl, ?_⟩⟩
          have e : bChoice (.str z) L m = (bString (.str z) (S L) && ascB z.cps.toList) := bChoice_3 h1 h2
          cases h3 : bString (.str z) (S L) with
          | false =>
            rw [h3] at e
            rw [e] at q
            exact iteF (q _ s1)
          | true =>
            rw [h3] at e
            refine iteT ⟨_, rfl, z.cps.toList, by rw [S_tl z]; rfl, by simpa using hl, fun H2 s2 => ?_⟩
            rw [e] at q
            exact q _ (s1.trans s2)
    · refine ⟨_, rfl, _, _, _, _, false, rfl, .ty _, ht, kit_ty hk, false, rfl, iteT (iteT ?_)⟩
      have e : bChoice v L m = false := by
        unfold bChoice
        rw [hs]
        rfl
      rw [e] at q
      exact q _ (Same.refl H)
abbrev s_is_faces : Stmt := topS 16
theorem sc_is_faces : FnScope ["value"] ["value"] (defScope s_is_faces) := ⟨rfl, rfl, rfl, by decide +kernel, rfl, by decide +kernel, by decide +kernel⟩
theorem ok_is_faces {f : Addr} {fd : FuncData} (F : Fun K "is_faces" "is_faces" s_is_faces f fd) {t1 t2 : Tok} (g__LOWER : mg "_LOWER" = some (.str "abcdefghijklmnopqrstuvwxyz" t1)) (g__MOST_FACES : mg "_MOST_FACES" = some (.int 6 t2))
    (c_is_choice : Cal P w K mg base CX0 2 "is_choice" s_is_choice ["value", "letters", "most"] (sp_is_choice K)) : FnOk P w K mg base CX0 3 f fd ["value"] (sp_is_faces K) := by
  refine F.ok sc_is_faces (fun vs H Q E h => ?_) (fun cdv A outer s H vs Q E hr h => ?_)
  · obtain ⟨v, rfl, _⟩ := h
    rfl
  · obtain ⟨v, rfl, hv, q⟩ := h
    refine ⟨_, (pss_one (ps_ret (pe_c c_is_choice hr (by decide) (by rfl) (pa_cons (pv 0) (pa_cons (pe_glob (v := .str "abcdefghijklmnopqrstuvwxyz") rfl g__LOWER ⟨_, rfl⟩) (pa_cons (pe_glob (v := .int 6) rfl g__MOST_FACES ⟨_, rfl⟩) pa_nil)))))), ?_⟩
    exact ⟨_, rfl, v, lower, 6, rfl, hv, q⟩
abbrev s_is_integer : Stmt := topS 17
theorem sc_is_integer : FnScope ["value"] ["value"] (defScope s_is_integer) := ⟨rfl, rfl, rfl, by decide +kernel, rfl, by decide +kernel, by decide +kernel⟩
def bInt : V → Bool
  | .int _ => true
  | _ => false
def sp_is_integer (K : PySem.W.Frag) : Sp := fun vs H Q _ => ∃ v : V, vs = [v] ∧ (isNum v = true ∨ (isNum v = false ∧ NotI K H v)) ∧ Q (.bl (bInt v)) H
theorem ok_is_integer {f : Addr} {fd : FuncData} (F : Fun K "is_integer" "is_integer" s_is_integer f fd) (T : Z mg) : FnOk P w K mg base CX0 1 f fd ["value"] (sp_is_integer K) := by
  refine F.ok sc_is_integer (fun vs H Q E h => ?_) (fun cdv A outer s H vs Q E hr h => ?_)
  · obtain ⟨v, rfl, _⟩ := h
    rfl
  · obtain ⟨v, rfl, hv, q⟩ := h
    refine ⟨_, (pss_one (ps_ret (pe_and (pe_callB call_isi (by rfl) T.z_isinstance (by decide +kernel) (pa_cons (pv 0) (pa_cons (pe_bltn (v := .ty "int") (u := .type "int") (by rfl) T.z_int (by decide +kernel) rfl) pa_nil))) (pe_one (pe_not (pe_callB call_isi (by rfl) T.z_isinstance (by decide +kernel) (pa_cons (pv 0) (pa_cons (pe_bltn (v := .ty "bool") (u := .type "bool") (by rfl) T.z_bool (by decide +kernel) rfl) pa_nil)))))))), ?_⟩
    rcases hv with hn | ⟨hn, Ty, ht, hk⟩
    · cases v with
      | int i =>
        refine ⟨_, rfl, _, _, _, _, true, rfl, .ty _, .base (.int i), kit_ty (by decide +kernel), true, rfl, iteT ?_⟩
        exact ⟨_, rfl, _, _, _, _, false, rfl, .ty _, .base (.int i), kit_ty (by decide +kernel), false, rfl, q⟩
      | bl b =>
        refine ⟨_, rfl, _, _, _, _, true, rfl, .ty _, .base (.bl b), kit_ty (by decide +kernel), true, rfl, iteT ?_⟩
        exact ⟨_, rfl, _, _, _, _, true, rfl, .ty _, .base (.bl b), kit_ty (by decide +kernel), true, rfl, q⟩
      | _ => exact absurd (show false = true from hn) Bool.false_ne_true
    · refine ⟨_, rfl, _, _, _, _, false, rfl, .ty _, ht, kit_ty hk, false, rfl, iteF ?_⟩
      have e : bInt v = false := by
        cases v with
        | int i => exact absurd (show true = false from hn) Bool.true_eq_false.mp
        | _ => rfl
      rw [e] at q
      exact q
abbrev s_is_number : Stmt := topS 18
theorem sc_is_number : FnScope ["value", "least", "most"] ["value", "least", "most"] (defScope s_is_number) := ⟨rfl, rfl, rfl, by decide +kernel, rfl, by decide +kernel, by decide +kernel⟩
theorem ok_is_number {f : Addr} {fd : FuncData} (F : Fun K "is_number" "is_number" s_is_number f fd) (c_is_integer : Cal P w K mg base CX0 1 "is_integer" s_is_integer ["value"] (sp_is_integer K)) : FnOk P w K mg base CX0 2 f fd ["value", "least", "most"] (sp_is_number K) := by
  refine F.ok sc_is_number (fun vs H Q E h => ?_) (fun cdv A outer s H vs Q E hr h => ?_)
  · obtain ⟨v, lo, hi, rfl, _⟩ := h
    rfl
  · obtain ⟨v, lo, hi, rfl, hv, q⟩ := h
    refine ⟨_, (pss_one (ps_ret (pe_and (pe_c c_is_integer hr (by decide) (by rfl) (pa_cons (pv 0) pa_nil)) (pe_one (pe_chain op_le op_le (pv 1) (pv 0) (pv 2)))))), ?_⟩
    refine ⟨_, rfl, v, rfl, hv, _, rfl, ?_⟩
    cases v with
    | int i =>
      refine iteT ?_
      refine ⟨_, rfl, _, rfl, _, _, rfl, rfl, _, rfl, ?_⟩
      cases h1 : decide (lo ≤ i) with
      | false =>
        have e : bNumber (.int i) lo hi = false := by
          show (decide (lo ≤ i) && decide (i ≤ hi)) = false
          rw [h1]
          rfl
        rw [e] at q
        exact iteF q
      | true =>
        have e : bNumber (.int i) lo hi = decide (i ≤ hi) := by
          show (decide (lo ≤ i) && decide (i ≤ hi)) = _
          rw [h1]
          rfl
        rw [e] at q
        exact iteT ⟨_, rfl, _, _, rfl, rfl, q⟩
    | _ => exact iteF q
theorem kb_is_number_0_most_least_value : KB K "is_number" s_is_number ["value", "least", "most"] ["most", "least", "value"] rev3 rev3 := kb_rev3 fun _ _ _ _ _ _ _ _ _ => rfl
end
end FW
namespace FW
open PySem PySem.Spec PyProof.Rows L2
-- more
section
variable {P : Program} {w : World} {K : PySem.W.Frag} {mg : Str → Option Value} {base : Heap}
abbrev s_is_row : Stmt := topS 21
theorem sc_is_row : FnScope ["value", "faces", "size", "state"] ["value", "faces", "size"] (defScope s_is_row) := ⟨rfl, rfl, rfl, by decide +kernel, rfl, by decide +kernel, by decide +kernel⟩
/-- a list or a tuple -/
def Sq (K : PySem.W.Frag) (H : Hp) (v : V) (xs : List V) : Prop := (∃ a, v = .ref a ∧ SqL K H a xs) ∨ ∃ a, v = .ref a ∧ SqT K H a xs
theorem Sq.same {H H' : Hp} {v : V} {xs : List V} (h : Sq K H v xs) (s : Same H H') : Sq K H' v xs := by
  rcases h with ⟨a, e, h⟩ | ⟨a, e, h⟩
  · exact .inl ⟨a, e, s.seq h⟩
  · exact .inr ⟨a, e, s.tup h⟩
abbrev nI (n : Nat) : V := .int (n : Int)
theorem Sq.kit {H : Hp} {v : V} {xs : List V} (h : Sq K H v xs) : ∃ Ty : String, (∀ H', Same H H' → TyX K H' v (.type Ty)) ∧ ∃ r1 r2, kitB Ty "list" = some r1 ∧ kitB Ty "tuple" = some r2 ∧ (r1 || r2) = true := by
  rcases h with ⟨a, rfl, h⟩ | ⟨a, rfl, h⟩
  · exact ⟨"list", fun H' s => tyL (s.seq h), true, false, by decide +kernel, by decide +kernel, rfl⟩
  · exact ⟨"tuple", fun H' s => tyT (s.tup h), false, true, by decide +kernel, by decide +kernel, rfl⟩
theorem Sq.or {H : Hp} {v : V} {xs : List V} (h : Sq K H v xs) : ∃ a, v = .ref a ∧ (SqL K H a xs ∨ SqT K H a xs) := by
  rcases h with ⟨a, rfl, h⟩ | ⟨a, rfl, h⟩
  · exact ⟨a, rfl, .inl h⟩
  · exact ⟨a, rfl, .inr h⟩
/-- a right row -/
def sp_is_row (K : PySem.W.Frag) : Sp := fun vs H Q _ => ∃ (v : V) (r F : List Nat) (size : Nat), vs = [v, .str (S F), .int (size : Int)] ∧ Sq K H v (r.map nI) ∧ r.length = F.length ∧ F.length ≤ 1000 ∧ (∀ n ∈ r, n < size) ∧ ∀ H', Same H H' → Q (.bl true) H'
theorem ok_is_row {f : Addr} {fd : FuncData} (F : Fun K "is_row" "is_row" s_is_row f fd) (T : Z mg) (c_is_number : Cal P w K mg base CX0 2 "is_number" s_is_number ["value", "least", "most"] (sp_is_number K)) : FnOk P w K mg base CX0 3 f fd ["value", "faces", "size"] (sp_is_row K) := by
  refine F.ok sc_is_row (fun vs H Q E h => ?_) (fun cdv A outer s H vs Q E hr h => ?_)
  · obtain ⟨v, r, F, size, rfl, _⟩ := h
    rfl
  obtain ⟨v, r, fs, sz', rfl, hSq, hrl, hfl, hst, q⟩ := h
  refine ⟨_, (pss_cons (ps_if (PW.pt (pw_or (pt_not (pt_val (pe_callB call_isiT (by rfl) T.z_isinstance (by decide +kernel) (pa_cons (pv 0) (pa_cons (pe_tup (pa_cons (pe_bltn (v := .ty "list") (u := .type "list") (by rfl) T.z_list (by decide +kernel) rfl) (pa_cons (pe_bltn (v := .ty "tuple") (u := .type "tuple") (by rfl) T.z_tuple (by decide +kernel) rfl) pa_nil))) pa_nil))))) (pw_or1 (pt_cmpR op_ne (pe_callB call_len_seq (by rfl) T.z_len (by decide +kernel) (pa_cons (pv 0) pa_nil)) (pe_callB call_len_str (by rfl) T.z_len (by decide +kernel) (pa_cons (pv 1) pa_nil)) (nomark _))))) (pss_one (ps_ret pe_bl)) pss_nil)
      (pss_one (ps_ret (pe_callB (cr_all rfl) (by rfl) T.z_all (by decide +kernel) (pa_cons (pe_lc (own := [("state", 3)]) (g := (gName 3)) (by rfl) sc_is_row.nd (pi_seq (pv 0)) (blkOk_by (N := ["value", "faces", "size", "state"]) (sc := defScope s_is_row) (by decide +kernel)) (fun _ _ _ _ _ => (pg_name (i := 3) sc_is_row.nd rfl (.inl rfl))) (fun _ _ _ _ _ => pts_nil) (fun _ _ _ _ _ => (pe_c c_is_number hr (by decide) (by rfl) (pa_cons (pv 3) (pa_cons pe_int (pa_cons (pe_op op_sub (pv 2) pe_int) pa_nil)))))) pa_nil))))), ?_⟩
  obtain ⟨Ty, tyx, r1, r2, k1, k2, k12⟩ := hSq.kit
  refine ⟨_, rfl, (show 2 ≤ sizeLine by decide), fun p0 n0 => ⟨_, p0, _, _, _, true, rfl, upd_same, .cons (.ty _) (.cons (.ty _) .nil), tyx _ (same_upd n0), (kitAny_lt k1 k2).trans (by rw [k12]), _, rfl, iteF ?_⟩⟩
  have s2 := same_upd (o := HO.tup [V.ty "list", V.ty "tuple"]) n0
  generalize upd H p0 (HO.tup [V.ty "list", V.ty "tuple"]) = H2 at s2
  have hSq2 := hSq.same s2
  obtain ⟨a, rfl, hor⟩ := hSq2.or
  refine ⟨_, rfl, a, _, rfl, hor, ?_⟩
  refine ⟨_, rfl, S fs, rfl, by rw [S_len]; exact sz (by omega), rfl, _, rfl, iteNS (by rw [List.length_map, S_len, hrl]) ?_⟩
  have rlen : r.length ≤ 1000 := by omega
  rcases hor with h | h
  · refine ⟨_, rfl, a, rfl, .inl ⟨⟨_, h⟩, fun D nD => ?_⟩⟩
    have nD0 : ∀ c u, H2 c = some u → c ≠ D := fun c u e => ne_of_none e nD
    refine lc_it (walk_list (xs := r.map nI)) (fun j H' => But D H2 H' ∧ H' D = some (.lst (List.replicate j (.bl true)))) ⟨(same_upd nD).but, upd_same⟩ (fun j H' _ pv => seq_but nD0 pv.1 h) ?_ ?_
    · rintro j v _ H' hj ⟨bt, hDD⟩ ⟨rfl, hx⟩
      rw [List.getElem?_map] at hx
      obtain ⟨n, hn1, rfl⟩ := Option.map_eq_some_iff.mp hx
      have hnm := hst n (List.mem_of_getElem? hn1)
      rw [List.length_map] at hj
      refine ⟨rfl, ?_⟩
      refine ⟨_, rfl, _, rfl, _, _, rfl, rfl, .int (n : Int), 0, (sz' : Int) - 1, rfl, .inl rfl, ?_⟩
      rw [show bNumber (.int (n : Int)) 0 ((sz' : Int) - 1) = true from by
        show (decide ((0 : Int) ≤ (n : Int)) && decide ((n : Int) ≤ (sz' : Int) - 1)) = true
        rw [decide_eq_true (by omega), decide_eq_true (by omega)]
        rfl]
      refine ⟨_, hDD, by rw [List.length_replicate]; exact sz1 (by omega), fun c' o' n' e' => ?_, ?_⟩
      · rw [upd_ne n']
        exact bt _ _ n' e'
      · rw [upd_same, ← List.replicate_succ']
    · rintro H' ⟨bt, hDD⟩
      rw [List.length_map] at hDD
      refine ⟨D, List.replicate r.length true, rfl, SqL.of (by rw [hDD, List.map_replicate]), ?_⟩
      rw [show (List.replicate r.length true).all id = true from by rw [List.all_eq_true]; intro z hz; rw [List.eq_of_mem_replicate hz]; rfl]
      exact q _ (s2.trans fun c' o' e' => bt _ _ (ne_of_none e' nD) e')
  · refine ⟨_, rfl, a, rfl, .inr ⟨⟨_, h⟩, fun D nD => ?_⟩⟩
    have nD0 : ∀ c u, H2 c = some u → c ≠ D := fun c u e => ne_of_none e nD
    refine lc_it (walk_tup (xs := r.map nI)) (fun j H' => But D H2 H' ∧ H' D = some (.lst (List.replicate j (.bl true)))) ⟨(same_upd nD).but, upd_same⟩ (fun j H' _ pv => tup_but nD0 pv.1 h) ?_ ?_
    · rintro j v _ H' hj ⟨bt, hDD⟩ ⟨rfl, hx⟩
      rw [List.getElem?_map] at hx
      obtain ⟨n, hn1, rfl⟩ := Option.map_eq_some_iff.mp hx
      have hnm := hst n (List.mem_of_getElem? hn1)
      rw [List.length_map] at hj
      refine ⟨rfl, ?_⟩
      refine ⟨_, rfl, _, rfl, _, _, rfl, rfl, .int (n : Int), 0, (sz' : Int) - 1, rfl, .inl rfl, ?_⟩
      rw [show bNumber (.int (n : Int)) 0 ((sz' : Int) - 1) = true from by
        show (decide ((0 : Int) ≤ (n : Int)) && decide ((n : Int) ≤ (sz' : Int) - 1)) = true
        rw [decide_eq_true (by omega), decide_eq_true (by omega)]
        rfl]
      refine ⟨_, hDD, by rw [List.length_replicate]; exact sz1 (by omega), fun c' o' n' e' => ?_, ?_⟩
      · rw [upd_ne n']
        exact bt _ _ n' e'
      · rw [upd_same, ← List.replicate_succ']
    · rintro H' ⟨bt, hDD⟩
      rw [List.length_map] at hDD
      refine ⟨D, List.replicate r.length true, rfl, SqL.of (by rw [hDD, List.map_replicate]), ?_⟩
      rw [show (List.replicate r.length true).all id = true from by rw [List.all_eq_true]; intro z hz; rw [List.eq_of_mem_replicate hz]; rfl]
      exact q _ (s2.trans fun c' o' e' => bt _ _ (ne_of_none e' nD) e')
end
end FW
namespace FW
open PySem PySem.Spec PyProof.Rows L2
-- more
section
variable {P : Program} {w : World} {K : PySem.W.Frag} {mg : Str → Option Value} {base : Heap}
abbrev s_check_table : Stmt := topS 22
theorem sc_check_table : FnScope ["faces", "table", "at", "row"] ["faces", "table"] (defScope s_check_table) := ⟨rfl, rfl, rfl, by decide +kernel, rfl, by decide +kernel, by decide +kernel⟩
/-- a table as it stands: its rows' things, the numbers in them -/
structure TabIn (K : PySem.W.Frag) (H : Hp) (tv : V) (as : List V) (M : List (List Nat)) : Prop where
  sq : Sq K H tv as
  len : as.length = M.length
  rows : ∀ (i : Nat) (v : V) (r : List Nat), as[i]? = some v → M[i]? = some r → Sq K H v (r.map nI)
theorem TabIn.same {H H' : Hp} {tv : V} {as : List V} {M : List (List Nat)} (t : TabIn K H tv as M) (s : Same H H') : TabIn K H' tv as M := ⟨t.sq.same s, t.len, fun i v r h1 h2 => (t.rows i v r h1 h2).same s⟩
structure TabOk (k : Nat) (M : List (List Nat)) : Prop where
  l1 : 1 ≤ M.length
  l2 : M.length ≤ 200
  rows : ∀ r ∈ M, r.length = k ∧ ∀ n ∈ r, n < M.length
theorem stay_k {H2 H' : Hp} {k : SK} {xs : List V} (ev : ∃ a, k.val = .ref a) (src : k.src K H2 xs) (s : Same H2 H') : k.src K H' xs := by
  cases k with
  | l a => exact s.seq src
  | t a => exact s.tup src
  | s z t =>
    obtain ⟨a, e⟩ := ev
    cases e
def sp_check_table (K : PySem.W.Frag) : Sp := fun vs H Q _ => ∃ (tv : V) (as : List V) (F : List Nat) (M : List (List Nat)), vs = [.str (S F), tv] ∧ TabIn K H tv as M ∧ TabOk F.length M ∧ F.length ≤ 1000 ∧ ∀ H', Same H H' → Q .non H'
theorem ok_check_table {f CM : Addr} {fd : FuncData} {t8 : Tok} {mc : Value} (F : Fun K "check_table" "check_table" s_check_table f fd) (T : Z mg) (gM : mg "Machine" = some (.ref CM)) (rM : ClX.CRead K CM mc) (vM : ClX.CVal K CM mc "MOST" (.int 200) (.int 200 t8)) (c_is_row : Cal P w K mg base CX0 3 "is_row" s_is_row ["value", "faces", "size"] (sp_is_row K)) : FnOk P w K mg base CX0 4 f fd ["faces", "table"] (sp_check_table K) := by
  refine F.ok sc_check_table (fun vs H Q E h => ?_) (fun cdv A outer s H vs Q E hr h => ?_)
  · obtain ⟨tv, as, F, M, rfl, _⟩ := h
    rfl
  obtain ⟨tv, as, fs, M, rfl, hT, hM, hfl, q⟩ := h
  refine ⟨_, (pss_cons (ps_if (PW.pt (pw_or (pt_not (pt_val (pe_callB call_isiT (by rfl) T.z_isinstance (by decide +kernel) (pa_cons (pv 1) (pa_cons (pe_tup (pa_cons (pe_bltn (v := .ty "list") (u := .type "list") (by rfl) T.z_list (by decide +kernel) rfl) (pa_cons (pe_bltn (v := .ty "tuple") (u := .type "tuple") (by rfl) T.z_tuple (by decide +kernel) rfl) pa_nil))) pa_nil))))) (pw_or1 (pt_not (pt_chain op_le op_le pe_int (pe_callB call_len_seq (by rfl) T.z_len (by decide +kernel) (pa_cons (pv 1) pa_nil)) (ClX.pe_cval (pe_glob (v := .ref CM) rfl gM rfl))))))) pss_never pss_nil)
    (pss_one (ps_for PassesOwn.never rfl (pi_enumG (by rfl) T.z_enumerate (pa_cons (pv 1) pa_nil)) (pg_tup rfl (pgs_cons (pg_name (i := 2) sc_check_table.nd rfl (.inl rfl)) (pgs_cons (pg_name (i := 3) sc_check_table.nd rfl (.inl rfl)) pgs_nil)))
      (pss_one (ps_if (pt_not (pt_val (pe_c c_is_row hr (by decide) (by rfl) (pa_cons (pv 3) (pa_cons (pv 0) (pa_cons (pe_callB call_len_seq (by rfl) T.z_len (by decide +kernel) (pa_cons (pv 1) pa_nil)) pa_nil)))))) pss_never pss_nil))))), ?_⟩
  obtain ⟨Ty, tyx, r1, r2, k1, k2, k12⟩ := hT.sq.kit
  refine ⟨_, rfl, (show 2 ≤ sizeLine by decide), fun p0 n0 => ⟨_, p0, _, _, _, true, rfl, upd_same, .cons (.ty _) (.cons (.ty _) .nil), tyx _ (same_upd n0), (kitAny_lt k1 k2).trans (by rw [k12]), _, rfl, iteF ?_⟩⟩
  have s2 := same_upd (o := HO.tup [V.ty "list", V.ty "tuple"]) n0
  generalize upd H p0 (HO.tup [V.ty "list", V.ty "tuple"]) = H2 at s2
  have hT2 := hT.same s2
  obtain ⟨a, rfl, hor⟩ := hT2.sq.or
  refine ⟨_, rfl, a, _, rfl, hor, _, _, rfl, rfl, _, rfl, ?_⟩
  have hl := hT.len
  have h1 := hM.l1
  have h200 := hM.l2
  rw [show decide ((1 : Int) ≤ (as.length : Int)) = true from decide_eq_true (by omega)]
  refine iteT ⟨CM, mc, .int 200, _, rfl, rM, vM, _, _, rfl, rfl, _, rfl, ?_⟩
  rw [show decide ((as.length : Int) ≤ 200) = true from decide_eq_true (by omega)]
  refine iteF ?_
  have hsrc : Src K H2 (.ref a) as := by
    rcases hor with h | h
    · exact .l h
    · exact .t h
  refine ⟨_, rfl, .ref a, as, rfl, hsrc, fun k ev src => ?_⟩
  refine for_it walk_enumG (fun i σ H' => ∃ y2 y3 : Option V, σ = [some (.str (S fs)), some (.ref a), y2, y3] ∧ Same H2 H') ⟨_, _, rfl, Same.refl _⟩ (fun i σ H' _ ⟨_, _, _, s⟩ => stay_k ⟨a, ev⟩ src s) ?_ ?_
  · rintro i v σ H3 H4 hi ⟨y2, y3, rfl, s3⟩ ⟨T', a1, b1', rfl, nT, rfl, hx1, hy1⟩
    obtain rfl : V.int (i : Nat) = a1 := Option.some.inj hx1
    have hy2 : as[i]? = some b1' := hy1
    have hiM : i < M.length := by rw [← hl]; exact hi
    have hMi : M[i]? = some M[i] := List.getElem?_eq_getElem hiM
    obtain ⟨m1, m2⟩ := hM.rows _ (List.mem_of_getElem? hMi)
    have hrow := hT2.rows i b1' _ hy2 hMi
    generalize M[i] = r at hrow m1 m2
    have s4 := s3.trans (same_upd (o := HO.tup [V.int (i : Nat), b1']) nT)
    refine ⟨T', _, rfl, SqT.of upd_same, rfl, _, _, rfl, _, [], rfl, rfl, ?_⟩
    have hor4 : SqL K (upd H3 T' (HO.tup [V.int (i : Nat), b1'])) a as ∨ SqT K (upd H3 T' (HO.tup [V.int (i : Nat), b1'])) a as := by
      rcases hor with h | h
      · exact .inl (s4.seq h)
      · exact .inr (s4.tup h)
    refine ⟨_, rfl, _, rfl, _, rfl, a, _, rfl, hor4, b1', r, fs, M.length, by rw [hl]; rfl, hrow.same s4, m1, hfl, m2, fun H5 s5 => ⟨_, rfl, iteF ?_⟩⟩
    exact ⟨_, _, rfl, s4.trans s5⟩
  · rintro σ H3 ⟨y2, y3, rfl, s3⟩
    exact q _ (s2.trans s3)
end
end FW
namespace FW
open PySem PySem.Spec PyProof.Rows L2
-- more
section
variable {P : Program} {w : World} {K : PySem.W.Frag} {mg : Str → Option Value} {base : Heap}
abbrev s_check_bad : Stmt := topS 23
theorem sc_check_bad : FnScope ["size", "bad", "least", "at", "state"] ["size", "bad"] (defScope s_check_bad) := ⟨rfl, rfl, rfl, by decide +kernel, rfl, by decide +kernel, by decide +kernel⟩
structure BadOk (n : Nat) (B : List Nat) : Prop where
  asc : B.Pairwise (· < ·)
  lt : ∀ x ∈ B, x < n
def sp_check_bad (K : PySem.W.Frag) : Sp := fun vs H Q _ => ∃ (bv : V) (B : List Nat) (n : Nat), vs = [.int (n : Int), bv] ∧ Sq K H bv (B.map nI) ∧ BadOk n B ∧ n ≤ 1000 ∧ ∀ H', Same H H' → Q .non H'
theorem ok_check_bad {f : Addr} {fd : FuncData} (F : Fun K "check_bad" "check_bad" s_check_bad f fd) (T : Z mg) (c_is_number : Cal P w K mg base CX0 2 "is_number" s_is_number ["value", "least", "most"] (sp_is_number K)) : FnOk P w K mg base CX0 3 f fd ["size", "bad"] (sp_check_bad K) := by
  refine F.ok sc_check_bad (fun vs H Q E h => ?_) (fun cdv A outer s H vs Q E hr h => ?_)
  · obtain ⟨bv, B, n, rfl, _⟩ := h
    rfl
  obtain ⟨bv, B, n, rfl, hS, hB, hn, q⟩ := h
  refine ⟨_, (pss_cons (ps_if (pt_not (pt_val (pe_callB call_isiT (by rfl) T.z_isinstance (by decide +kernel) (pa_cons (pv 1) (pa_cons (pe_tup (pa_cons (pe_bltn (v := .ty "list") (u := .type "list") (by rfl) T.z_list (by decide +kernel) rfl) (pa_cons (pe_bltn (v := .ty "tuple") (u := .type "tuple") (by rfl) T.z_tuple (by decide +kernel) rfl) pa_nil))) pa_nil))))) pss_never pss_nil)
    (pss_cons (ps_set (i := 2) sc_check_bad.nd rfl (.inl rfl) pe_int)
    (pss_one (ps_for PassesOwn.never rfl (pi_enumG (by rfl) T.z_enumerate (pa_cons (pv 1) pa_nil)) (pg_tup rfl (pgs_cons (pg_name (i := 3) sc_check_bad.nd rfl (.inl rfl)) (pgs_cons (pg_name (i := 4) sc_check_bad.nd rfl (.inl rfl)) pgs_nil)))
      (pss_cons (ps_if (pt_not (pt_val (pe_c c_is_number hr (by decide) (by rfl) (pa_cons (pv 4) (pa_cons (pv 2) (pa_cons (pe_op op_sub (pv 0) pe_int) pa_nil)))))) pss_never pss_nil)
      (pss_one (ps_set (i := 2) sc_check_bad.nd rfl (.inl rfl) (pe_op op_add (pv 4) pe_int)))))))), ?_⟩
  obtain ⟨Ty, tyx, r1, r2, k1, k2, k12⟩ := hS.kit
  refine ⟨_, rfl, (show 2 ≤ sizeLine by decide), fun p0 n0 => ⟨_, p0, _, _, _, true, rfl, upd_same, .cons (.ty _) (.cons (.ty _) .nil), tyx _ (same_upd n0), (kitAny_lt k1 k2).trans (by rw [k12]), _, rfl, iteF ?_⟩⟩
  have s2 := same_upd (o := HO.tup [V.ty "list", V.ty "tuple"]) n0
  generalize upd H p0 (HO.tup [V.ty "list", V.ty "tuple"]) = H2 at s2
  obtain ⟨a, rfl, hor⟩ := (hS.same s2).or
  have hsrc : Src K H2 (.ref a) (B.map nI) := by
    rcases hor with h | h
    · exact .l h
    · exact .t h
  refine ⟨_, rfl, .ref a, _, rfl, hsrc, fun k ev src => ?_⟩
  refine for_it walk_enumG (fun i σ H' => ∃ (least : Nat) (y3 y4 : Option V), σ = [some (.int (n : Int)), some (.ref a), some (.int (least : Int)), y3, y4] ∧ Same H2 H' ∧ ∀ x ∈ B.drop i, least ≤ x) ⟨0, _, _, rfl, Same.refl _, fun _ _ => Nat.zero_le _⟩ (fun i σ H' _ ⟨_, _, _, _, s, _⟩ => stay_k ⟨a, ev⟩ src s) ?_ ?_
  · rintro i v σ H3 H4 hi ⟨least, y3, y4, rfl, s3, hge⟩ ⟨T', a1, b1', rfl, nT, rfl, hx1, hy1⟩
    obtain rfl : V.int (i : Nat) = a1 := Option.some.inj hx1
    have hy2 : (B.map nI)[i]? = some b1' := hy1
    rw [List.getElem?_map] at hy2
    obtain ⟨x, hx, rfl⟩ := Option.map_eq_some_iff.mp hy2
    have hxm := List.mem_of_getElem? hx
    have hil : i < B.length := (List.getElem?_eq_some_iff.mp hx).1
    have hdrop : B.drop i = x :: B.drop (i + 1) := by
      rw [List.drop_eq_getElem_cons hil]
      rw [(List.getElem?_eq_some_iff.mp hx).2]
    have hle := hge x (by rw [hdrop]; exact List.mem_cons_self)
    have hlt := hB.lt x hxm
    have s4 := s3.trans (same_upd (o := HO.tup [V.int (i : Nat), nI x]) nT)
    refine ⟨T', _, rfl, SqT.of upd_same, rfl, _, _, rfl, _, [], rfl, rfl, ?_⟩
    refine ⟨_, rfl, _, rfl, _, rfl, _, _, rfl, rfl, .int (x : Int), (least : Int), (n : Int) - 1, rfl, .inl rfl, _, rfl, ?_⟩
    rw [show bNumber (.int (x : Int)) (least : Int) ((n : Int) - 1) = true from by
      show (decide ((least : Int) ≤ (x : Int)) && decide ((x : Int) ≤ (n : Int) - 1)) = true
      rw [decide_eq_true (by omega), decide_eq_true (by omega)]
      rfl]
    refine iteF ⟨_, rfl, _, _, rfl, rfl, ?_⟩
    refine ⟨x + 1, _, _, rfl, s4, fun z hz => ?_⟩
    have pw : (x :: B.drop (i + 1)).Pairwise (· < ·) := by
      rw [← hdrop]
      exact hB.asc.sublist (List.drop_sublist _ _)
    exact List.rel_of_pairwise_cons pw hz
  · rintro σ H3 ⟨least, y3, y4, rfl, s3, _⟩
    exact q _ (s2.trans s3)
end
end FW
namespace FW
open PySem PySem.Spec PyProof.Rows L2
-- more
section
variable {P : Program} {w : World} {K : PySem.W.Frag} {mg : Str → Option Value} {base : Heap}
abbrev s_Machine_init : Stmt := inCls (topS 27) 1
theorem sc_Machine_init : FnScope ["self", "faces", "table", "bad", "row"] ["self", "faces", "table", "bad"] (defScope s_Machine_init) := ⟨rfl, rfl, rfl, by decide +kernel, rfl, by decide +kernel, by decide +kernel⟩
theorem call_tuple_ofE {X : Cx} {K : PySem.W.Frag} (h : X.K = K) : CallR X (.type "tuple") (fun xs H Q => ∃ p ys, xs = [V.ref p] ∧ ((SqL K H p ys ∧ ∀ l, H l = none → Q (.ref l) (upd H l (.tup ys))) ∨ (SqT K H p ys ∧ Q (.ref p) H))) := by
  subst h
  exact call_tuple_of
def machF (F : List Nat) (tt bt : Addr) : List (Str × V) := [("faces", .str (S F)), ("_table", .ref tt), ("_bad", .ref bt)]
/-- what a machine keeps -/
structure KeptAt (K : PySem.W.Frag) (H : Hp) (tt bt : Addr) (rs : List V) (M : List (List Nat)) (B : List Nat) : Prop where
  tab : H tt = some (.tup rs)
  len : rs.length = M.length
  rows : ∀ (i : Nat) (v : V) (r : List Nat), rs[i]? = some v → M[i]? = some r → ∃ a, v = .ref a ∧ SqT K H a (r.map nI)
  bad : SqT K H bt (B.map nI)
theorem KeptAt.same {H H' : Hp} {tt bt : Addr} {rs : List V} {M : List (List Nat)} {B : List Nat} (k : KeptAt K H tt bt rs M B) (s : Same H H') : KeptAt K H' tt bt rs M B :=
  ⟨s _ _ k.tab, k.len, fun i v r h1 h2 => let ⟨a, e, h⟩ := k.rows i v r h1 h2; ⟨a, e, s.tup h⟩, s.tup k.bad⟩
theorem sqL_insb {H H' : Hp} {x C d a : Addr} {fs : List (Str × V)} {xs : List V} (hx : H x = some (.ins C d fs)) (b : But x H H') (h : SqL K H a xs) : SqL K H' a xs := by
  rcases h with (h | ⟨o, h⟩) | h
  · exact .inl (.inl (b _ _ (fun z => by rw [z, hx] at h; cases h) h))
  · exact .inl (.inr ⟨o, b _ _ (fun z => by rw [z, hx] at h; cases h) h⟩)
  · exact .inr h
theorem sqT_insb {H H' : Hp} {x C d a : Addr} {fs : List (Str × V)} {xs : List V} (hx : H x = some (.ins C d fs)) (b : But x H H') (h : SqT K H a xs) : SqT K H' a xs := by
  rcases h with (h | ⟨o, h⟩) | h
  · exact .inl (.inl (b _ _ (fun z => by rw [z, hx] at h; cases h) h))
  · exact .inl (.inr ⟨o, b _ _ (fun z => by rw [z, hx] at h; cases h) h⟩)
  · exact .inr h
theorem Sq.insb {H H' : Hp} {x C d : Addr} {fs : List (Str × V)} {v : V} {xs : List V} (h : Sq K H v xs) (hx : H x = some (.ins C d fs)) (b : But x H H') : Sq K H' v xs := by
  rcases h with ⟨a, e, h⟩ | ⟨a, e, h⟩
  · exact .inl ⟨a, e, sqL_insb hx b h⟩
  · exact .inr ⟨a, e, sqT_insb hx b h⟩
theorem TabIn.insb {H H' : Hp} {x C d : Addr} {fs : List (Str × V)} {tv : V} {as : List V} {M : List (List Nat)} (t : TabIn K H tv as M) (hx : H x = some (.ins C d fs)) (b : But x H H') : TabIn K H' tv as M := ⟨t.sq.insb hx b, t.len, fun i v r h1 h2 => (t.rows i v r h1 h2).insb hx b⟩
def sp_Machine_init (K : PySem.W.Frag) : Sp := fun vs H Q _ => ∃ (x CM dx : Addr) (F : List Nat) (tv bv : V) (as : List V) (M : List (List Nat)) (B : List Nat), vs = [.ref x, .str (S F), tv, bv] ∧ H x = some (.ins CM dx []) ∧ Cls K CM ∧ NoAttr K CM "faces" ∧ NoAttr K CM "_table" ∧ NoAttr K CM "_bad" ∧
  bFaces (.str (S F)) = true ∧ F.length ≤ 1000 ∧ TabIn K H tv as M ∧ TabOk F.length M ∧ Sq K H bv (B.map nI) ∧ BadOk M.length B ∧ ∀ H' tt bt rs, Same H H' → KeptAt K H' tt bt rs M B → Q .non (upd H' x (.ins CM dx (machF F tt bt)))
theorem ok_Machine_init {f : Addr} {fd : FuncData} {ae : Addr} (F : FunD K "__init__" "Machine.__init__" (defArgs s_Machine_init) (defBody s_Machine_init) (defScope s_Machine_init) [.ref ae] [] f fd) (T : Z mg) (c_is_faces : Cal P w K mg base CX0 3 "is_faces" s_is_faces ["value"] (sp_is_faces K)) (c_check_table : Cal P w K mg base CX0 4 "check_table" s_check_table ["faces", "table"] (sp_check_table K))
    (c_check_bad : Cal P w K mg base CX0 3 "check_bad" s_check_bad ["size", "bad"] (sp_check_bad K)) : FnOk P w K mg base CX0 5 f fd ["self", "faces", "table", "bad"] (sp_Machine_init K) := by
  refine fund_ok0 F sc_Machine_init (fun vs H Q E h => ?_) (fun cdv A outer s H vs Q E hr h => ?_)
  · obtain ⟨x, CM, dx, F, tv, bv, as, M, B, rfl, _⟩ := h
    rfl
  obtain ⟨x, CM, dx, fs, tv, bv, as, M, B, rfl, hx, hC, nf, nt, nb, b1, l1, hT, hM, hS, hB, q⟩ := h
  refine ⟨_, (pss_cons (ps_if (pt_not (pt_val (pe_c c_is_faces hr (by decide) (by rfl) (pa_cons (pv 1) pa_nil)))) pss_never pss_nil)
    (pss_cons (ps_expr (pe_c c_check_table hr (by decide) (by rfl) (pa_cons (pv 1) (pa_cons (pv 2) pa_nil))))
    (pss_cons (ps_expr (pe_c c_check_bad hr (by decide) (by rfl) (pa_cons (pe_callB call_len_seq (by rfl) T.z_len (by decide +kernel) (pa_cons (pv 2) pa_nil)) (pa_cons (pv 3) pa_nil))))
    (pss_cons (ps_fld (pv 0) (pv 1) rfl)
    (pss_cons (ps_fld (pv 0) (pe_callTy call_tuple_of (by rfl) T.z_tuple (by decide +kernel) (pa_cons (pe_lc (own := [("row", 4)]) (g := (gName 4)) (by rfl) sc_Machine_init.nd (pi_seq (pv 2)) (blkOk_by (N := ["self", "faces", "table", "bad", "row"]) (sc := defScope s_Machine_init) (by decide +kernel)) (fun _ _ _ _ _ => (pg_name (i := 4) sc_Machine_init.nd rfl (.inl rfl))) (fun _ _ _ _ _ => pts_nil) (fun _ _ _ _ _ => (pe_callTy (call_tuple_ofE (K := K) rfl) (by rfl) T.z_tuple (by decide +kernel) (pa_cons (pv 4) pa_nil)))) pa_nil)) rfl)
    (pss_one (ps_fld (pv 0) (pe_callTy call_tuple_of (by rfl) T.z_tuple (by decide +kernel) (pa_cons (pv 3) pa_nil)) rfl))))))), ?_⟩
  refine ⟨_, rfl, .str (S fs), rfl, .inl ⟨rfl, (show fs.length ≤ 100000 by omega)⟩, fun H1 s1 => ⟨_, rfl, ?_⟩⟩
  rw [b1]
  refine iteF ?_
  have hT1 := hT.same s1
  refine ⟨_, rfl, _, rfl, tv, as, fs, M, rfl, hT1, hM, l1, fun H2 s2 => ?_⟩
  have hT2 := hT1.same s2
  have s02 := s1.trans s2
  obtain ⟨a, rfl, hor⟩ := hT2.sq.or
  have hM2 := hM.l2
  refine ⟨_, rfl, a, as, rfl, hor, _, rfl, bv, B, M.length, by rw [hT.len]; rfl, hS.same s02, hB, by omega, fun H3 s3 => ?_⟩
  have s03 := s02.trans s3
  have hT3 := hT2.same s3
  have hx3 := s03 _ _ hx
  -- the faces
  refine ⟨_, rfl, _, rfl, x, CM, dx, [], rfl, hx3, hC, nf, by decide, ?_⟩
  have ef : putF (Str.ofString "faces") (V.str (S fs)) ([] : List (Str × V)) = ([("faces", .str (S fs))] : List (Str × V)) := rfl
  rw [ef]
  have b34 : But x H3 (upd H3 x (.ins CM dx [("faces", .str (S fs))])) := fun c o n e => by
    rw [upd_ne n]
    exact e
  have hTB := hT3.insb hx3 b34
  have hSB : Sq K _ bv (B.map nI) := (hS.same s03).insb hx3 b34
  have hxB : (upd H3 x (.ins CM dx [("faces", .str (S fs))])) x = some (.ins CM dx [("faces", .str (S fs))]) := upd_same
  have bB : But x H (upd H3 x (.ins CM dx [("faces", .str (S fs))])) := fun c o n e => b34 _ _ n (s03 _ _ e)
  generalize upd H3 x (.ins CM dx [("faces", .str (S fs))]) = HB at hTB hSB hxB bB ⊢
  clear hT3 hx3 b34 s03 s3 hT2 hor s02 s2 hT1 s1
  have hT2 := hTB
  obtain ⟨a', ea, hor⟩ := hTB.sq.or
  obtain rfl : a = a' := V.ref.inj ea
  rcases hor with h | h
  · refine ⟨_, rfl, a, rfl, .inl ⟨⟨_, h⟩, fun D nD => ?_⟩⟩
    have nD0 : ∀ c u, HB c = some u → c ≠ D := fun c u e => ne_of_none e nD
    refine lc_it (walk_list (xs := as)) (fun j H' => ∃ rs : List V, H' D = some (.lst rs) ∧ rs.length = j ∧ (∀ (i : Nat) (v : V) (r : List Nat), rs[i]? = some v → M[i]? = some r → ∃ a, v = .ref a ∧ SqT K H' a (r.map nI)) ∧ But D HB H') ⟨[], upd_same, rfl, (fun i v r h => by cases h), (same_upd nD).but⟩ (fun j H' _ ⟨_, _, _, _, bt⟩ => seq_but nD0 bt h) ?_ ?_
    · rintro j v _ H' hj ⟨rs, hD, hlen, hrows, bt⟩ ⟨rfl, hx0⟩
      have hjM : j < M.length := by rw [← hT2.len]; exact hj
      have hMj : M[j]? = some M[j] := List.getElem?_eq_getElem hjM
      have sH : Same HB H' := fun c' o' e' => bt _ _ (ne_of_none e' nD) e'
      have hrow := (hTB.rows j v _ hx0 hMj).same sH
      generalize M[j] = r at hrow hMj
      have hM200 := hM.l2
      have done : ∀ (b : Addr) (H2' : Hp), Same H' H2' → SqT K H2' b (r.map nI) → ∃ acc, H2' D = some (.lst acc) ∧ acc.length < sizeLine ∧ ∃ rs', (upd H2' D (.lst (acc ++ [V.ref b]))) D = some (.lst rs') ∧ rs'.length = j + 1 ∧ (∀ (i : Nat) (v : V) (r : List Nat), rs'[i]? = some v → M[i]? = some r → ∃ a, v = .ref a ∧ SqT K (upd H2' D (.lst (acc ++ [V.ref b]))) a (r.map nI)) ∧ But D HB (upd H2' D (.lst (acc ++ [V.ref b]))) := fun b H2' s' hb => by
        have hD2 := s' _ _ hD
        refine ⟨rs, hD2, sz1 (by omega), rs ++ [V.ref b], upd_same, by rw [List.length_append, hlen]; rfl, fun i v' r' h1 h2 => ?_, fun c' o' n' e' => ?_⟩
        · have keepT : ∀ (a : Addr) (xs : List V), SqT K H2' a xs → SqT K (upd H2' D (.lst (rs ++ [V.ref b]))) a xs := fun a xs h => by
            rcases h with (h | ⟨o, h⟩) | h
            · exact .inl (.inl (by rw [upd_ne (fun z => by rw [z, hD2] at h; cases h)]; exact h))
            · exact .inl (.inr ⟨o, by rw [upd_ne (fun z => by rw [z, hD2] at h; cases h)]; exact h⟩)
            · exact .inr h
          by_cases hi : i < rs.length
          · rw [List.getElem?_append_left hi] at h1
            obtain ⟨a', e', h'⟩ := hrows i v' r' h1 h2
            exact ⟨a', e', keepT _ _ (s'.tup h')⟩
          · have hi2 : i < rs.length + 1 := by
              have := (List.getElem?_eq_some_iff.mp h1).1
              rwa [List.length_append] at this
            have hi3 : i = rs.length := by omega
            subst hi3
            rw [List.getElem?_append_right (Nat.le_refl _), Nat.sub_self] at h1
            cases h1
            rw [hlen, hMj] at h2
            cases h2
            exact ⟨b, rfl, keepT _ _ hb⟩
        · rw [upd_ne n']
          exact s' _ _ (bt _ _ n' e')
      rcases hrow with ⟨b, rfl, hb⟩ | ⟨b, rfl, hb⟩
      · refine ⟨rfl, ?_⟩
        refine ⟨_, rfl, b, _, rfl, .inl ⟨hb, fun t nt => ?_⟩⟩
        exact done t _ (same_upd nt) (SqT.of upd_same)
      · refine ⟨rfl, ?_⟩
        refine ⟨_, rfl, b, _, rfl, .inr ⟨hb, ?_⟩⟩
        exact done b _ (Same.refl _) hb
    · rintro H' ⟨rs, hD, hlen, hrows, bt⟩
      have hlen : rs.length = M.length := by rw [hlen, hTB.len]
      have s3' : Same HB H' := fun c o e => bt _ _ (ne_of_none e nD) e
      refine ⟨D, rs, rfl, .inl ⟨SqL.of hD, fun tt ntt => ?_⟩⟩
      have s4 := same_upd (o := HO.tup rs) ntt
      have htt : (upd H' tt (.tup rs)) tt = some (.tup rs) := upd_same
      have hrows4 : ∀ (i : Nat) (v : V) (r : List Nat), rs[i]? = some v → M[i]? = some r → ∃ a, v = .ref a ∧ SqT K (upd H' tt (.tup rs)) a (r.map nI) := fun i v r h1 h2 => let ⟨a, e, h⟩ := hrows i v r h1 h2; ⟨a, e, s4.tup h⟩
      generalize upd H' tt (.tup rs) = H4 at s4 htt hrows4 ⊢
      have s34 := s3'.trans s4
      have hx4 := s34 _ _ hxB
      refine ⟨_, rfl, x, CM, dx, _, rfl, hx4, hC, nt, (show 1 < 1000 by decide), ?_⟩
      have ef2 : putF (Str.ofString "_table") (V.ref tt) ([("faces", .str (S fs))] : List (Str × V)) = ([("faces", .str (S fs)), ("_table", .ref tt)] : List (Str × V)) := rfl
      rw [ef2]
      have b45 : But x H4 (upd H4 x (.ins CM dx [("faces", .str (S fs)), ("_table", .ref tt)])) := fun c o n e => by
        rw [upd_ne n]
        exact e
      have hx5 : (upd H4 x (.ins CM dx [("faces", .str (S fs)), ("_table", .ref tt)])) x = some (.ins CM dx [("faces", .str (S fs)), ("_table", .ref tt)]) := upd_same
      have hS5 := (hSB.same s34).insb hx4 b45
      have htt5 : (upd H4 x (.ins CM dx [("faces", .str (S fs)), ("_table", .ref tt)])) tt = some (.tup rs) := b45 _ _ (fun z => by rw [z, hx4] at htt; cases htt) htt
      have hrows5 : ∀ (i : Nat) (v : V) (r : List Nat), rs[i]? = some v → M[i]? = some r → ∃ a, v = .ref a ∧ SqT K (upd H4 x (.ins CM dx [("faces", .str (S fs)), ("_table", .ref tt)])) a (r.map nI) := fun i v r h1 h2 => let ⟨a, e, h⟩ := hrows4 i v r h1 h2; ⟨a, e, sqT_insb hx4 b45 h⟩
      have b05 : But x H (upd H4 x (.ins CM dx [("faces", .str (S fs)), ("_table", .ref tt)])) := fun c o n e => b45 _ _ n (s34 _ _ (bB _ _ n e))
      generalize upd H4 x (.ins CM dx [("faces", .str (S fs)), ("_table", .ref tt)]) = H5 at hx5 hS5 htt5 hrows5 b05 ⊢
      have last : ∀ (bt : Addr) (H6 : Hp), Same H5 H6 → SqT K H6 bt (B.map nI) → Q .non (upd H6 x (.ins CM dx (putF "_bad" (.ref bt) [("faces", .str (S fs)), ("_table", .ref tt)]))) := fun bt H6 s6 hbt => by
        have hx6 := s6 _ _ hx5
        have e : upd H6 x (.ins CM dx (putF "_bad" (.ref bt) [("faces", .str (S fs)), ("_table", .ref tt)])) = upd (upd H6 x (.ins CM dx [])) x (.ins CM dx (machF fs tt bt)) := by
          rw [upd_upd]
          rfl
        rw [e]
        have b67 : But x H6 (upd H6 x (.ins CM dx [])) := fun c o n e => by
          rw [upd_ne n]
          exact e
        refine q _ tt bt rs (fun c o e => ?_) ⟨b67 _ _ (fun z => by rw [z, hx5] at htt5; cases htt5) (s6 _ _ htt5), hlen, fun i v r h1 h2 => let ⟨a, e, h⟩ := hrows5 i v r h1 h2; ⟨a, e, sqT_insb hx6 b67 (s6.tup h)⟩, sqT_insb hx6 b67 hbt⟩
        by_cases hc : c = x
        · rw [hc, upd_same]
          rw [hc, hx] at e
          exact e
        · exact b67 _ _ hc (s6 _ _ (b05 _ _ hc e))
      rcases hS5 with ⟨b, rfl, hb⟩ | ⟨b, rfl, hb⟩
      · refine ⟨_, rfl, b, _, rfl, .inl ⟨hb, fun t nt' => ?_⟩⟩
        exact ⟨_, rfl, x, CM, dx, _, rfl, (same_upd nt') _ _ hx5, hC, nb, (show 2 < 1000 by decide), last t _ (same_upd nt') (SqT.of upd_same)⟩
      · refine ⟨_, rfl, b, _, rfl, .inr ⟨hb, ?_⟩⟩
        exact ⟨_, rfl, x, CM, dx, _, rfl, hx5, hC, nb, (show 2 < 1000 by decide), last b _ (Same.refl _) hb⟩
  · refine ⟨_, rfl, a, rfl, .inr ⟨⟨_, h⟩, fun D nD => ?_⟩⟩
    have nD0 : ∀ c u, HB c = some u → c ≠ D := fun c u e => ne_of_none e nD
    refine lc_it (walk_tup (xs := as)) (fun j H' => ∃ rs : List V, H' D = some (.lst rs) ∧ rs.length = j ∧ (∀ (i : Nat) (v : V) (r : List Nat), rs[i]? = some v → M[i]? = some r → ∃ a, v = .ref a ∧ SqT K H' a (r.map nI)) ∧ But D HB H') ⟨[], upd_same, rfl, (fun i v r h => by cases h), (same_upd nD).but⟩ (fun j H' _ ⟨_, _, _, _, bt⟩ => tup_but nD0 bt h) ?_ ?_
    · rintro j v _ H' hj ⟨rs, hD, hlen, hrows, bt⟩ ⟨rfl, hx0⟩
      have hjM : j < M.length := by rw [← hT2.len]; exact hj
      have hMj : M[j]? = some M[j] := List.getElem?_eq_getElem hjM
      have sH : Same HB H' := fun c' o' e' => bt _ _ (ne_of_none e' nD) e'
      have hrow := (hTB.rows j v _ hx0 hMj).same sH
      generalize M[j] = r at hrow hMj
      have hM200 := hM.l2
      have done : ∀ (b : Addr) (H2' : Hp), Same H' H2' → SqT K H2' b (r.map nI) → ∃ acc, H2' D = some (.lst acc) ∧ acc.length < sizeLine ∧ ∃ rs', (upd H2' D (.lst (acc ++ [V.ref b]))) D = some (.lst rs') ∧ rs'.length = j + 1 ∧ (∀ (i : Nat) (v : V) (r : List Nat), rs'[i]? = some v → M[i]? = some r → ∃ a, v = .ref a ∧ SqT K (upd H2' D (.lst (acc ++ [V.ref b]))) a (r.map nI)) ∧ But D HB (upd H2' D (.lst (acc ++ [V.ref b]))) := fun b H2' s' hb => by
        have hD2 := s' _ _ hD
        refine ⟨rs, hD2, sz1 (by omega), rs ++ [V.ref b], upd_same, by rw [List.length_append, hlen]; rfl, fun i v' r' h1 h2 => ?_, fun c' o' n' e' => ?_⟩
        · have keepT : ∀ (a : Addr) (xs : List V), SqT K H2' a xs → SqT K (upd H2' D (.lst (rs ++ [V.ref b]))) a xs := fun a xs h => by
            rcases h with (h | ⟨o, h⟩) | h
            · exact .inl (.inl (by rw [upd_ne (fun z => by rw [z, hD2] at h; cases h)]; exact h))
            · exact .inl (.inr ⟨o, by rw [upd_ne (fun z => by rw [z, hD2] at h; cases h)]; exact h⟩)
            · exact .inr h
          by_cases hi : i < rs.length
          · rw [List.getElem?_append_left hi] at h1
            obtain ⟨a', e', h'⟩ := hrows i v' r' h1 h2
            exact ⟨a', e', keepT _ _ (s'.tup h')⟩
          · have hi2 : i < rs.length + 1 := by
              have := (List.getElem?_eq_some_iff.mp h1).1
              rwa [List.length_append] at this
            have hi3 : i = rs.length := by omega
            subst hi3
            rw [List.getElem?_append_right (Nat.le_refl _), Nat.sub_self] at h1
            cases h1
            rw [hlen, hMj] at h2
            cases h2
            exact ⟨b, rfl, keepT _ _ hb⟩
        · rw [upd_ne n']
          exact s' _ _ (bt _ _ n' e')
      rcases hrow with ⟨b, rfl, hb⟩ | ⟨b, rfl, hb⟩
      · refine ⟨rfl, ?_⟩
        refine ⟨_, rfl, b, _, rfl, .inl ⟨hb, fun t nt => ?_⟩⟩
        exact done t _ (same_upd nt) (SqT.of upd_same)
      · refine ⟨rfl, ?_⟩
        refine ⟨_, rfl, b, _, rfl, .inr ⟨hb, ?_⟩⟩
        exact done b _ (Same.refl _) hb
    · rintro H' ⟨rs, hD, hlen, hrows, bt⟩
      have hlen : rs.length = M.length := by rw [hlen, hTB.len]
      have s3' : Same HB H' := fun c o e => bt _ _ (ne_of_none e nD) e
      refine ⟨D, rs, rfl, .inl ⟨SqL.of hD, fun tt ntt => ?_⟩⟩
      have s4 := same_upd (o := HO.tup rs) ntt
      have htt : (upd H' tt (.tup rs)) tt = some (.tup rs) := upd_same
      have hrows4 : ∀ (i : Nat) (v : V) (r : List Nat), rs[i]? = some v → M[i]? = some r → ∃ a, v = .ref a ∧ SqT K (upd H' tt (.tup rs)) a (r.map nI) := fun i v r h1 h2 => let ⟨a, e, h⟩ := hrows i v r h1 h2; ⟨a, e, s4.tup h⟩
      generalize upd H' tt (.tup rs) = H4 at s4 htt hrows4 ⊢
      have s34 := s3'.trans s4
      have hx4 := s34 _ _ hxB
      refine ⟨_, rfl, x, CM, dx, _, rfl, hx4, hC, nt, (show 1 < 1000 by decide), ?_⟩
      have ef2 : putF (Str.ofString "_table") (V.ref tt) ([("faces", .str (S fs))] : List (Str × V)) = ([("faces", .str (S fs)), ("_table", .ref tt)] : List (Str × V)) := rfl
      rw [ef2]
      have b45 : But x H4 (upd H4 x (.ins CM dx [("faces", .str (S fs)), ("_table", .ref tt)])) := fun c o n e => by
        rw [upd_ne n]
        exact e
      have hx5 : (upd H4 x (.ins CM dx [("faces", .str (S fs)), ("_table", .ref tt)])) x = some (.ins CM dx [("faces", .str (S fs)), ("_table", .ref tt)]) := upd_same
      have hS5 := (hSB.same s34).insb hx4 b45
      have htt5 : (upd H4 x (.ins CM dx [("faces", .str (S fs)), ("_table", .ref tt)])) tt = some (.tup rs) := b45 _ _ (fun z => by rw [z, hx4] at htt; cases htt) htt
      have hrows5 : ∀ (i : Nat) (v : V) (r : List Nat), rs[i]? = some v → M[i]? = some r → ∃ a, v = .ref a ∧ SqT K (upd H4 x (.ins CM dx [("faces", .str (S fs)), ("_table", .ref tt)])) a (r.map nI) := fun i v r h1 h2 => let ⟨a, e, h⟩ := hrows4 i v r h1 h2; ⟨a, e, sqT_insb hx4 b45 h⟩
      have b05 : But x H (upd H4 x (.ins CM dx [("faces", .str (S fs)), ("_table", .ref tt)])) := fun c o n e => b45 _ _ n (s34 _ _ (bB _ _ n e))
      generalize upd H4 x (.ins CM dx [("faces", .str (S fs)), ("_table", .ref tt)]) = H5 at hx5 hS5 htt5 hrows5 b05 ⊢
      have last : ∀ (bt : Addr) (H6 : Hp), Same H5 H6 → SqT K H6 bt (B.map nI) → Q .non (upd H6 x (.ins CM dx (putF "_bad" (.ref bt) [("faces", .str (S fs)), ("_table", .ref tt)]))) := fun bt H6 s6 hbt => by
        have hx6 := s6 _ _ hx5
        have e : upd H6 x (.ins CM dx (putF "_bad" (.ref bt) [("faces", .str (S fs)), ("_table", .ref tt)])) = upd (upd H6 x (.ins CM dx [])) x (.ins CM dx (machF fs tt bt)) := by
          rw [upd_upd]
          rfl
        rw [e]
        have b67 : But x H6 (upd H6 x (.ins CM dx [])) := fun c o n e => by
          rw [upd_ne n]
          exact e
        refine q _ tt bt rs (fun c o e => ?_) ⟨b67 _ _ (fun z => by rw [z, hx5] at htt5; cases htt5) (s6 _ _ htt5), hlen, fun i v r h1 h2 => let ⟨a, e, h⟩ := hrows5 i v r h1 h2; ⟨a, e, sqT_insb hx6 b67 (s6.tup h)⟩, sqT_insb hx6 b67 hbt⟩
        by_cases hc : c = x
        · rw [hc, upd_same]
          rw [hc, hx] at e
          exact e
        · exact b67 _ _ hc (s6 _ _ (b05 _ _ hc e))
      rcases hS5 with ⟨b, rfl, hb⟩ | ⟨b, rfl, hb⟩
      · refine ⟨_, rfl, b, _, rfl, .inl ⟨hb, fun t nt' => ?_⟩⟩
        exact ⟨_, rfl, x, CM, dx, _, rfl, (same_upd nt') _ _ hx5, hC, nb, (show 2 < 1000 by decide), last t _ (same_upd nt') (SqT.of upd_same)⟩
      · refine ⟨_, rfl, b, _, rfl, .inr ⟨hb, ?_⟩⟩
        exact ⟨_, rfl, x, CM, dx, _, rfl, hx5, hC, nb, (show 2 < 1000 by decide), last b _ (Same.refl _) hb⟩
end
end FW
namespace FW
open PySem PySem.Spec PyProof.Rows L2
-- more
section
variable {P : Program} {w : World} {K : PySem.W.Frag} {mg : Str → Option Value} {base : Heap}
structure BookE (K : PySem.W.Frag) (CB : Addr) : Prop where
  ca : PySem.W.findIn K (.ref CB) "__class__" = some (some (.builtin "object.__class__"))
  cn : PySem.W.specialIn K (.builtin "object.__class__") "__get__" = some (some (.builtin "getset_descriptor.__get__"))
  ct : PySem.W.takesIn K (.builtin "object.__class__") = some true
  cm : PySem.W.mroIn K CB (.type "object") = some true
  kit : PySem.W.kitOne K (.ref CB) (.ref CB) = some true
structure MachAt (K : PySem.W.Frag) (CM : Addr) (H : Hp) (x : Addr) (F : List Nat) (M : List (List Nat)) (B : List Nat) : Prop where
  at_ : ∃ dx tt bt rs, H x = some (.ins CM dx (machF F tt bt)) ∧ KeptAt K H tt bt rs M B
  fl : F.length ≤ 1000
  tab : TabOk F.length M
  bad : BadOk M.length B
theorem MachAt.same {CM : Addr} {H H' : Hp} {x : Addr} {F : List Nat} {M : List (List Nat)} {B : List Nat} (k : MachAt K CM H x F M B) (s : Same H H') : MachAt K CM H' x F M B := by
  obtain ⟨dx, tt, bt, rs, h, kk⟩ := k.at_
  exact ⟨⟨dx, tt, bt, rs, s _ _ h, kk.same s⟩, k.fl, k.tab, k.bad⟩
structure MachC (K : PySem.W.Frag) (CM : Addr) : Prop where
  c : Cls K CM
  nf : NoAttr K CM "faces"
  nt : NoAttr K CM "_table"
  nb : NoAttr K CM "_bad"
/-! numbers as data -/
def dN (n : Nat) : PyData := .int (n : Int)
def dR (r : List Nat) : PyData := .tuple (r.map dN)
theorem dp_nums {H : Hp} : ∀ r : List Nat, DpAll K H (r.map nI) (r.map dN)
  | [] => .nil
  | n :: r => .cons (.int (n : Int)) (dp_nums r)
theorem dp_row {H : Hp} {a : Addr} {r : List Nat} (h : SqT K H a (r.map nI)) : Dp K H (.ref a) (dR r) := .tup h (dp_nums r)
theorem dp_rowsM {H : Hp} : ∀ {rs : List V} {M : List (List Nat)}, rs.length = M.length → (∀ (i : Nat) (v : V) (r : List Nat), rs[i]? = some v → M[i]? = some r → ∃ a, v = .ref a ∧ SqT K H a (r.map nI)) → DpAll K H rs (M.map dR)
  | [], [], _, _ => .nil
  | [], _ :: _, h, _ => by cases h
  | _ :: _, [], h, _ => by cases h
  | v :: rs, r :: M, h, q => by
    obtain ⟨a, rfl, ha⟩ := q 0 v r rfl rfl
    exact .cons (dp_row ha) (dp_rowsM (by simpa using h) fun i v' r' h1 h2 => q (i + 1) v' r' h1 h2)
theorem eqv_N (a b : Nat) : PyData.eqv (dN a) (dN b) = decide (a = b) := by
  show ((a : Int) == (b : Int)) = _
  by_cases h : a = b
  · subst h
    rw [decide_eq_true rfl]
    exact beq_self_eq_true _
  · rw [decide_eq_false h]
    exact beq_eq_false_iff_ne.mpr fun e => h (Int.ofNat.inj e)
theorem eqv_R (a b : List Nat) : PyData.eqv (dR a) (dR b) = decide (a = b) := by
  show PyData.eqvAll _ _ = _
  exact eqvAll_map eqv_N a b
theorem lay_R (r : List Nat) : Lay 1 (dR r) := .tup fun d hd => by
  obtain ⟨n, _, rfl⟩ := List.mem_map.mp hd
  exact .int _
theorem shaped_M (M : List (List Nat)) : SeqAt.shaped (.tuple (M.map dR)) = true := Lay.shaped (n := 2) (.tup fun d hd => by
  obtain ⟨r, _, rfl⟩ := List.mem_map.mp hd
  exact lay_R r) (by decide)
theorem shaped_R (r : List Nat) : SeqAt.shaped (dR r) = true := Lay.shaped (n := 1) (lay_R r) (by decide)
abbrev s_Machine_table : Stmt := inCls (topS 27) 3
theorem sc_Machine_table : FnScope ["self"] ["self"] (defScope s_Machine_table) := ⟨rfl, rfl, rfl, by decide +kernel, rfl, by decide +kernel, by decide +kernel⟩
def sp_Machine_table (K : PySem.W.Frag) (CM : Addr) : Sp := fun vs H Q _ => ∃ (x : Addr) (F : List Nat) (M : List (List Nat)) (B : List Nat), vs = [.ref x] ∧ MachAt K CM H x F M B ∧ ∀ p rs, H p = none → rs.length = M.length → (∀ (i : Nat) (v : V) (r : List Nat), rs[i]? = some v → M[i]? = some r → ∃ a, v = .ref a ∧ SqT K H a (r.map nI)) → Q (.ref p) (upd H p (.lst rs))
theorem ok_Machine_table {f CM : Addr} {fd : FuncData} (F : Fun K "table" "Machine.table" s_Machine_table f fd) (T : Z mg) (MC : MachC K CM) : FnOk P w K mg base CX0 1 f fd ["self"] (sp_Machine_table K CM) := by
  refine F.ok sc_Machine_table (fun vs H Q E h => ?_) (fun cdv A outer s H vs Q E hr h => ?_)
  · obtain ⟨x, F, M, B, rfl, _⟩ := h
    rfl
  obtain ⟨x, F, M, B, rfl, hM, q⟩ := h
  refine ⟨_, (pss_one (ps_ret (pe_callTy call_list_of (by rfl) T.z_list (by decide +kernel) (pa_cons (pe_fld (pv 0) rfl) pa_nil)))), ?_⟩
  obtain ⟨dx, tt, bt, rs, hx, kk⟩ := hM.at_
  exact ⟨_, rfl, x, CM, dx, _, _, rfl, hx, MC.c, MC.nt, rfl, tt, _, rfl, .inr (SqT.of kk.tab), fun p np => q p rs np kk.len kk.rows⟩
abbrev s_Machine_bad : Stmt := inCls (topS 27) 4
theorem sc_Machine_bad : FnScope ["self"] ["self"] (defScope s_Machine_bad) := ⟨rfl, rfl, rfl, by decide +kernel, rfl, by decide +kernel, by decide +kernel⟩
def sp_Machine_bad (K : PySem.W.Frag) (CM : Addr) : Sp := fun vs H Q _ => ∃ (x : Addr) (F : List Nat) (M : List (List Nat)) (B : List Nat), vs = [.ref x] ∧ MachAt K CM H x F M B ∧ ∀ p, H p = none → Q (.ref p) (upd H p (.lst (B.map nI)))
theorem ok_Machine_bad {f CM : Addr} {fd : FuncData} (F : Fun K "bad" "Machine.bad" s_Machine_bad f fd) (T : Z mg) (MC : MachC K CM) : FnOk P w K mg base CX0 1 f fd ["self"] (sp_Machine_bad K CM) := by
  refine F.ok sc_Machine_bad (fun vs H Q E h => ?_) (fun cdv A outer s H vs Q E hr h => ?_)
  · obtain ⟨x, F, M, B, rfl, _⟩ := h
    rfl
  obtain ⟨x, F, M, B, rfl, hM, q⟩ := h
  refine ⟨_, (pss_one (ps_ret (pe_callTy call_list_of (by rfl) T.z_list (by decide +kernel) (pa_cons (pe_fld (pv 0) rfl) pa_nil)))), ?_⟩
  obtain ⟨dx, tt, bt, rs, hx, kk⟩ := hM.at_
  exact ⟨_, rfl, x, CM, dx, _, _, rfl, hx, MC.c, MC.nb, rfl, bt, _, rfl, .inr kk.bad, fun p np => q p np⟩
abbrev s_Machine_eq : Stmt := inCls (topS 27) 11
theorem sc_Machine_eq : FnScope ["self", "other"] ["self", "other"] (defScope s_Machine_eq) := ⟨rfl, rfl, rfl, by decide +kernel, rfl, by decide +kernel, by decide +kernel⟩
def sp_Machine_eq (K : PySem.W.Frag) (CM : Addr) : Sp := fun vs H Q _ => ∃ (x : Addr) (yv : V) (F : List Nat) (M : List (List Nat)) (B : List Nat), vs = [.ref x, yv] ∧ MachAt K CM H x F M B ∧
  ((∃ (y : Addr) (F' : List Nat) (M' : List (List Nat)) (B' : List Nat), yv = .ref y ∧ MachAt K CM H y F' M' B' ∧ Q (.bl (decide (F = F' ∧ M = M' ∧ B = B'))) H) ∨ ∃ t : Value, TyX K H yv t ∧ PySem.W.kitOne K t (.ref CM) = some false ∧ Q (.bl false) H)
theorem ok_Machine_eq {f CM : Addr} {fd : FuncData} (F : Fun K "__eq__" "Machine.__eq__" s_Machine_eq f fd) (T : Z mg) (gM : mg "Machine" = some (.ref CM)) (MC : MachC K CM) (ME : BookE K CM) : FnOk P w K mg base CX0 1 f fd ["self", "other"] (sp_Machine_eq K CM) := by
  refine F.ok sc_Machine_eq (fun vs H Q E h => ?_) (fun cdv A outer s H vs Q E hr h => ?_)
  · obtain ⟨x, y, F, M, B, rfl, _⟩ := h
    rfl
  obtain ⟨x, yv, F, M, B, rfl, hM, h⟩ := h
  refine ⟨_, (pss_cons (ps_if (pt_not (pt_val (pe_callB call_isi (by rfl) T.z_isinstance (by decide +kernel) (pa_cons (pv 1) (pa_cons (pe_glob (v := .ref CM) rfl gM rfl) pa_nil))))) (pss_one (ps_ret pe_bl)) pss_nil)
   (pss_one (ps_ret (pe_and (pe_cmpR op_eq (pe_fld (pv 0) rfl) (pe_fld (pv 1) rfl) (nomark _)) (pe_and (pe_cmpR (op_eqD hr.units) (pe_fld (pv 0) rfl) (pe_fld (pv 1) rfl) (nomark _)) (pe_one (pe_cmpR (op_eqD hr.units) (pe_fld (pv 0) rfl) (pe_fld (pv 1) rfl) (nomark _)))))))), ?_⟩
  rcases h with ⟨y, F', M', B', rfl, hM', q⟩ | ⟨ty, hty, hk, q⟩
  case inr => exact ⟨_, rfl, _, _, _, _, false, rfl, .own _, hty, hk, false, rfl, iteT q⟩
  obtain ⟨dx, tt, bt, rs, hx, kk⟩ := hM.at_
  obtain ⟨dy, tt', bt', rs', hy, kk'⟩ := hM'.at_
  refine ⟨_, rfl, _, _, _, _, true, rfl, .own _, .base (.ins hy MC.c ME.ca ME.cn ME.ct ME.cm), ME.kit, true, rfl, iteF ?_⟩
  refine ⟨_, rfl, x, CM, dx, _, _, rfl, hx, MC.c, MC.nf, rfl, _, rfl, y, CM, dy, _, _, rfl, hy, MC.c, MC.nf, rfl, rfl, _, rfl, ite_dec (fun e1 => ?_) (fun ne => ?_)⟩
  · have e1' : F = F' := congrArg (fun z : Str => z.cps.toList) (V.str.inj e1)
    refine ⟨_, rfl, x, CM, dx, _, _, rfl, hx, MC.c, MC.nt, rfl, _, rfl, y, CM, dy, _, _, rfl, hy, MC.c, MC.nt, rfl, .tuple (M.map dR), .tuple (M'.map dR), .tup (SqT.of kk.tab) (dp_rowsM kk.len kk.rows), .tup (SqT.of kk'.tab) (dp_rowsM kk'.len kk'.rows), shaped_M M, shaped_M M', decide (M = M'), congrArg V.bl (show PyData.eqvAll _ _ = _ from eqvAll_map eqv_R M M'), ite_dec (fun e2 => ?_) (fun ne => ?_)⟩
    · refine ⟨_, rfl, x, CM, dx, _, _, rfl, hx, MC.c, MC.nb, rfl, _, rfl, y, CM, dy, _, _, rfl, hy, MC.c, MC.nb, rfl, dR B, dR B', dp_row kk.bad, dp_row kk'.bad, shaped_R B, shaped_R B', ?_⟩
      rw [eqv_R]
      rwa [show decide (F = F' ∧ M = M' ∧ B = B') = decide (B = B') from decide_eq_decide.mpr ⟨fun h => h.2.2, fun h => ⟨e1', e2, h⟩⟩] at q
    · rwa [decide_eq_false (fun h => ne h.2.1)] at q
  · rwa [decide_eq_false (fun h => ne (by rw [h.1]))] at q
abbrev s_Machine_repr : Stmt := inCls (topS 27) 12
theorem sc_Machine_repr : FnScope ["self"] ["self"] (defScope s_Machine_repr) := ⟨rfl, rfl, rfl, by decide +kernel, rfl, by decide +kernel, by decide +kernel⟩
def reprM (n : Nat) : Str := ((Str.empty ++ ("Machine(" : Str)) ++ (Str.ofString (toString (n : Int)))) ++ (" states)" : Str)
def sp_Machine_repr (K : PySem.W.Frag) (CM : Addr) : Sp := fun vs H Q _ => ∃ (x : Addr) (F : List Nat) (M : List (List Nat)) (B : List Nat), vs = [.ref x] ∧ MachAt K CM H x F M B ∧ Q (.str (reprM M.length)) H
theorem ok_Machine_repr {f CM : Addr} {fd : FuncData} (F : Fun K "__repr__" "Machine.__repr__" s_Machine_repr f fd) (T : Z mg) (MC : MachC K CM) : FnOk P w K mg base CX0 1 f fd ["self"] (sp_Machine_repr K CM) := by
  refine F.ok sc_Machine_repr (fun vs H Q E h => ?_) (fun cdv A outer s H vs Q E hr h => ?_)
  · obtain ⟨x, F, M, B, rfl, _⟩ := h
    rfl
  obtain ⟨x, F, M, B, rfl, hM, q⟩ := h
  refine ⟨_, (pss_one (ps_ret (pe_joined (.cons pe_str (.cons (pe_fmt (pe_callB call_len_seq (by rfl) T.z_len (by decide +kernel) (pa_cons (pe_fld (pv 0) rfl) pa_nil))) (.cons pe_str .nil)))))), ?_⟩
  obtain ⟨dx, tt, bt, rs, hx, kk⟩ := hM.at_
  have h200 := hM.tab.l2
  refine ⟨_, rfl, (show 8 ≤ sizeLine by decide), ?_⟩
  refine ⟨_, rfl, x, CM, dx, _, _, rfl, hx, MC.c, MC.nt, rfl, tt, _, rfl, .inr (SqT.of kk.tab), ?_⟩
  have hsz : ∀ n : Nat, n < 201 → n.log2 < 1920 ∧ ((Str.empty ++ ("Machine(" : Str)) ++ Str.ofString (toString (n : Int))).length ≤ 100 ∧ (reprM n).length ≤ 100 := by decide +kernel
  obtain ⟨g1, g2, g3⟩ := hsz M.length (by omega)
  rw [show (rs.length : Int) = (M.length : Int) from by rw [kk.len]]
  refine .inr ⟨_, rfl, g1, _, rfl, Nat.le_trans g2 (by decide), _, rfl, Nat.le_trans g3 (by decide), q⟩
end
end FW
namespace FW
open PySem PySem.Spec PyProof.Rows L2
-- more
section
variable {P : Program} {w : World} {K : PySem.W.Frag} {mg : Str → Option Value} {base : Heap}
abbrev s_Machine_size : Stmt := inCls (topS 27) 2
theorem sc_Machine_size : FnScope ["self"] ["self"] (defScope s_Machine_size) := ⟨rfl, rfl, rfl, by decide +kernel, rfl, by decide +kernel, by decide +kernel⟩
def sp_Machine_size (K : PySem.W.Frag) (CM : Addr) : Sp := fun vs H Q _ => ∃ (x : Addr) (F : List Nat) (M : List (List Nat)) (B : List Nat), vs = [.ref x] ∧ MachAt K CM H x F M B ∧ Q (nI M.length) H
theorem ok_Machine_size {f CM : Addr} {fd : FuncData} (F : Fun K "size" "Machine.size" s_Machine_size f fd) (T : Z mg) (MC : MachC K CM) : FnOk P w K mg base CX0 1 f fd ["self"] (sp_Machine_size K CM) := by
  refine F.ok sc_Machine_size (fun vs H Q E h => ?_) (fun cdv A outer s H vs Q E hr h => ?_)
  · obtain ⟨x, F, M, B, rfl, _⟩ := h
    rfl
  obtain ⟨x, F, M, B, rfl, hM, q⟩ := h
  refine ⟨_, (pss_one (ps_ret (pe_callB call_len_seq (by rfl) T.z_len (by decide +kernel) (pa_cons (pe_fld (pv 0) rfl) pa_nil)))), ?_⟩
  obtain ⟨dx, tt, bt, rs, hx, kk⟩ := hM.at_
  refine ⟨_, rfl, x, CM, dx, _, _, rfl, hx, MC.c, MC.nt, rfl, tt, _, rfl, .inr (SqT.of kk.tab), ?_⟩
  rwa [kk.len]
abbrev s__law_some_machine : Stmt := topS 34
theorem sc__law_some_machine : FnScope ["_law_bag", "_law_faces", "_law_most", "_law_size", "_law_table", "_law_at", "_law_face"] ["_law_bag", "_law_faces", "_law_most"] (defScope s__law_some_machine) := ⟨rfl, rfl, rfl, by decide +kernel, rfl, by decide +kernel, by decide +kernel⟩
/-- the names of the block around the inner one -/
abbrev in_some_machine : Scope := { kind := .function, names := [(".0", .local), ("_law_at", .local), ("tuple", .globalImplicit), ("_law_bag", .cell), ("_law_faces", .cell), ("_law_size", .cell)], isGenerator := false, isCoroutine := false }
/-- the rows as they lie -/
def RowsAt (H : Hp) (rs : List V) (M : List (List Nat)) : Prop := rs.length = M.length ∧ ∀ (i : Nat) (v : V) (r : List Nat), rs[i]? = some v → M[i]? = some r → ∃ a, v = .ref a ∧ H a = some (.tup (r.map nI))
theorem RowsAt.same {H H' : Hp} {rs : List V} {M : List (List Nat)} (h : RowsAt H rs M) (s : Same H H') : RowsAt H' rs M := ⟨h.1, fun i v r h1 h2 => let ⟨a, e, ha⟩ := h.2 i v r h1 h2; ⟨a, e, s _ _ ha⟩⟩
theorem RowsAt.but {H H' : Hp} {rs : List V} {M : List (List Nat)} {b : Addr} {o : List V} (h : RowsAt H rs M) (e : H b = some (.lst o)) (s : But b H H') : RowsAt H' rs M := ⟨h.1, fun i v r h1 h2 => let ⟨a, ea, ha⟩ := h.2 i v r h1 h2; ⟨a, ea, s _ _ (fun z => by rw [z, e] at ha; cases ha) ha⟩⟩
theorem RowsAt.snoc {H : Hp} {rs : List V} {M : List (List Nat)} {t : Addr} {r : List Nat} (h : RowsAt H rs M) (e : H t = some (.tup (r.map nI))) : RowsAt H (rs ++ [.ref t]) (M ++ [r]) := by
  refine ⟨by rw [List.length_append, List.length_append, h.1]; rfl, fun i v r' h1 h2 => ?_⟩
  by_cases hi : i < rs.length
  · rw [List.getElem?_append_left hi] at h1
    rw [List.getElem?_append_left (by rw [← h.1]; exact hi)] at h2
    exact h.2 i v r' h1 h2
  · have hi2 : i = rs.length := by
      obtain ⟨hlt, _⟩ := List.getElem?_eq_some_iff.mp h1
      rw [List.length_append] at hlt
      simp at hlt
      omega
    subst hi2
    rw [List.getElem?_append_right (Nat.le_refl _), Nat.sub_self] at h1
    rw [h.1, List.getElem?_append_right (Nat.le_refl _), Nat.sub_self] at h2
    cases h1
    cases h2
    exact ⟨t, rfl, e⟩
theorem Bag.lst {H : Hp} {b lb : Addr} (B : Bag H b lb) : ∃ o, H b = some (.lst o) := by
  obtain ⟨ns, i, r, m, c, hb, _⟩ := B
  exact ⟨_, hb⟩
def sp__law_some_machine (K : PySem.W.Frag) : Sp := fun vs H Q _ => ∃ (b lb : Addr) (F : List Nat) (m : Nat), vs = [.ref b, .str (S F), .int (m : Int)] ∧ Bag H b lb ∧ 0 < F.length ∧ F.length ≤ 100 ∧ 0 < m ∧ m ≤ 100 ∧
  ∀ H' p t u rs M B, TabOk F.length M → M.length ≤ m → BadOk M.length B → RowsAt H' rs M → But b H H' → Bag H' b lb → H p = none → t ≠ b → u ≠ b → H' t = some (.lst rs) → H' u = some (.lst (B.map nI)) → H' p = some (.lst [.ref t, .ref u]) → Q (.ref p) H'
theorem ok__law_some_machine {f : Addr} {fd : FuncData} (F : Fun K "_law_some_machine" "_law_some_machine" s__law_some_machine f fd) (T : Z mg) (c__law_draw : Cal P w K mg base CX0 1 "_law_draw" s__law_draw ["_law_bag", "_law_many"] (sp__law_draw K)) : FnOk P w K mg base CX0 2 f fd ["_law_bag", "_law_faces", "_law_most"] (sp__law_some_machine K) := by
  refine F.ok sc__law_some_machine (fun vs H Q E h => ?_) (fun cdv A outer s H vs Q E hr h => ?_)
  · obtain ⟨b, lb, F, m, rfl, _⟩ := h
    rfl
  obtain ⟨b, lb, fs, m, rfl, B, hF0, hF, hm0, hm, q⟩ := h
  refine ⟨_, (pss_cons (ps_set (i := 3) sc__law_some_machine.nd rfl (.inr rfl) (pe_op op_add pe_int (pe_c c__law_draw hr (by decide) (by rfl) (pa_cons (pv 0) (pa_cons (pv 2) pa_nil)))))
      (pss_cons (ps_setLc (i := 4) (own := [("_law_at", 5)]) (g := (gName 5)) (by rfl) sc__law_some_machine.nd rfl rfl (sw_true rfl rfl rfl (by decide +kernel)) (pi_range1 (by rfl) T.z_range (pa_cons (pv 3) pa_nil)) (blkOk_by (N := ["_law_bag", "_law_faces", "_law_most", "_law_size", "_law_table", "_law_at", "_law_face"]) (sc := defScope s__law_some_machine) (by decide +kernel)) (fun _ _ _ _ _ => (pg_name (i := 5) sc__law_some_machine.nd rfl (.inl rfl))) (fun _ _ _ _ _ => pts_nil) (fun _ _ _ _ _ => (pe_callTy (call_tuple_ofE rfl) (by rfl) T.z_tuple (by decide +kernel) (pa_cons (pe_lc (own := [("_law_face", 6)]) (g := (gName 6)) (by rfl) sc__law_some_machine.nd (pi_str (pv 1)) (blkOk_by (N := ["_law_bag", "_law_faces", "_law_most", "_law_size", "_law_table", "_law_at", "_law_face"]) (sc := in_some_machine) (by decide +kernel)) (fun _ _ _ _ _ => (pg_name (i := 6) sc__law_some_machine.nd rfl (.inl rfl))) (fun _ _ _ _ _ => pts_nil) (fun _ _ _ _ _ => (pe_c c__law_draw hr (by decide) (by rfl) (pa_cons (pv 0) (pa_cons (pv 3) pa_nil))))) pa_nil))))
      (pss_one (ps_ret (pe_lst (pa_cons (pv 4) (pa_cons (pe_lc (own := [("_law_at", 5)]) (g := (gName 5)) (by rfl) sc__law_some_machine.nd (pi_range1 (by rfl) T.z_range (pa_cons (pv 3) pa_nil)) (blkOk_by (N := ["_law_bag", "_law_faces", "_law_most", "_law_size", "_law_table", "_law_at", "_law_face"]) (sc := defScope s__law_some_machine) (by decide +kernel)) (fun _ _ _ _ _ => (pg_name (i := 5) sc__law_some_machine.nd rfl (.inl rfl))) (fun _ _ _ _ _ => (pts_one (pt_cmpR op_eq (pe_c c__law_draw hr (by decide) (by rfl) (pa_cons (pv 0) (pa_cons pe_int pa_nil))) pe_int (nomark _)))) (fun _ _ _ _ _ => (pv 5))) pa_nil))))))), ?_⟩
  refine ⟨_, rfl, _, rfl, b, lb, _, rfl, B, by omega, by omega, fun H1 z z0 z1 b1 B1 => ?_⟩
  obtain ⟨k, rfl⟩ : ∃ k : Nat, z = (k : Int) := ⟨z.toNat, by omega⟩
  refine ⟨_, _, rfl, rfl, ?_⟩
  have e1 : (fun i j : Int => V.int (i + j)) 1 (k : Int) = V.int ((k + 1 : Nat) : Int) := congrArg V.int (by omega)
  rw [e1]
  have hk : k + 1 ≤ m := by omega
  have n0 : 0 < k + 1 := by omega
  generalize k + 1 = n at hk n0 ⊢
  refine ⟨_, rfl, _, rfl, by omega, by omega, fun D hD => ?_⟩
  have nDb : D ≠ b := B1.ne hD
  have nDl : D ≠ lb := B1.ne2 hD
  refine lc_range (n := n) (fun i H' => ∃ (M : List (List Nat)) (rs : List V), M.length = i ∧ (∀ r ∈ M, r.length = fs.length ∧ ∀ x ∈ r, x < n) ∧ RowsAt H' rs M ∧ H' D = some (.lst rs) ∧ Bag H' b lb ∧ But b H1 H') ⟨[], [], rfl, by simp, ⟨rfl, by simp⟩, upd_same, B1.same (same_upd hD), (same_upd hD).but⟩ ?_ ?_
  · rintro i H' hi ⟨M, rs, hl, hM, hR, hDD, B', ho⟩
    refine ⟨rfl, ?_⟩
    refine ⟨_, rfl, S fs, rfl, fun D2 hD2 => ?_⟩
    have n2b : D2 ≠ b := B'.ne hD2
    have n2l : D2 ≠ lb := B'.ne2 hD2
    have n2D : D2 ≠ D := (ne_of_none hDD hD2).symm
    have nD2 : ∀ a o, H' a = some o → a ≠ D2 := fun a o e => ne_of_none e hD2
    refine lc_it walk_str (fun j H2 => ∃ r : List Nat, r.length = j ∧ (∀ x ∈ r, x < n) ∧ H2 D2 = some (.lst (r.map nI)) ∧ Bag H2 b lb ∧ But b H' H2) ⟨[], rfl, by simp, upd_same, B'.same (same_upd hD2), (same_upd hD2).but⟩ (fun _ _ _ _ => trivial) ?_ ?_
    · rintro j x H2 _ hj ⟨r, hrl, hr', hd2, B2, o2⟩ ⟨rfl, _, _, rfl⟩
      have hj' : j < fs.length := hj
      refine ⟨rfl, ?_⟩
      refine ⟨_, rfl, _, rfl, b, lb, _, rfl, B2, by omega, by omega, fun H3 z z0 z1 b3 B3 => ?_⟩
      obtain ⟨y, rfl⟩ : ∃ y : Nat, z = (y : Int) := ⟨z.toNat, by omega⟩
      refine ⟨_, b3 _ _ n2b hd2, by rw [List.length_map]; exact sz1 (by omega), r ++ [y], by rw [List.length_append, hrl]; rfl, ?_, ?_, B3.upd n2b n2l, fun a o n e => ?_⟩
      · intro x hx
        rcases List.mem_append.mp hx with e | e
        · exact hr' x e
        · rw [List.mem_singleton.mp e]
          omega
      · rw [upd_same, List.map_append]
        rfl
      · rw [upd_ne (nD2 a o e)]
        exact b3 _ _ n (o2 a o n e)
    · rintro H2 ⟨r, hrl, hr', hd2, B2, o2⟩
      have hrl : r.length = fs.length := hrl
      refine ⟨D2, r.map nI, rfl, .inl ⟨SqL.of hd2, fun t nt => ?_⟩⟩
      have st := same_upd (o := HO.tup (r.map nI)) nt
      have tt := (upd_same : (upd H2 t (HO.tup (r.map nI))) t = _)
      have B3 := B2.same st
      have o3 := o2.trans st.but
      clear st
      generalize upd H2 t (HO.tup (r.map nI)) = H3 at tt B3 o3 ⊢
      have nDb' : D ≠ b := nDb
      refine ⟨_, o3 _ _ nDb hDD, by rw [hR.1]; exact sz1 (by omega), M ++ [r], rs ++ [.ref t], by rw [List.length_append, hl]; rfl, ?_, ?_, upd_same, B3.upd nDb nDl, ?_⟩
      · intro q hq
        rcases List.mem_append.mp hq with e | e
        · exact hM q e
        · rw [List.mem_singleton.mp e]
          exact ⟨hrl, hr'⟩
      · obtain ⟨ob, hob⟩ := B'.lst
        have R3 : RowsAt H3 rs M := hR.but hob o3
        exact (R3.but (b := D) (o3 _ _ nDb hDD) (fun c o n e => by rw [upd_ne n]; exact e)).snoc (by rw [upd_ne (fun z => by rw [z, o3 _ _ nDb hDD] at tt; cases tt)]; exact tt)
      · intro a o n e
        rw [upd_ne (fun z => by rw [z, hD] at e; cases e)]
        exact o3 _ _ n (ho a o n e)
  · rintro H2 ⟨M, rs, hl, hM, hR, hDD, B', ho⟩
    obtain ⟨ob, hob⟩ := B'.lst
    refine ⟨_, rfl, _, rfl, _, rfl, by omega, by omega, fun D2 hD2 => ?_⟩
    have n2b : D2 ≠ b := B'.ne hD2
    have n2l : D2 ≠ lb := B'.ne2 hD2
    have nD2 : ∀ a o, H2 a = some o → a ≠ D2 := fun a o e => ne_of_none e hD2
    refine lc_range (n := n) (fun i H' => ∃ B : List Nat, B.Pairwise (· < ·) ∧ (∀ x ∈ B, x < i) ∧ B.length ≤ i ∧ H' D2 = some (.lst (B.map nI)) ∧ Bag H' b lb ∧ But b H2 H') ⟨[], .nil, by simp, by simp, upd_same, B'.same (same_upd hD2), (same_upd hD2).but⟩ ?_ ?_
    · rintro i H3 hi ⟨C, hC, hC', hCl, hDC, B3, o3⟩
      refine ⟨rfl, ?_⟩
      refine ⟨_, rfl, b, lb, _, rfl, B3, by decide, by decide, fun H4 z z0 z1 b4 B4 => ?_⟩
      refine ⟨rfl, _, rfl, ite_dec (fun _ => ?_) (fun _ => ?_)⟩
      · refine ⟨_, rfl, _, b4 _ _ n2b hDC, by rw [List.length_map]; exact sz1 (by omega), C ++ [i], ?_, ?_, by rw [List.length_append]; exact Nat.succ_le_succ hCl, ?_, B4.upd n2b n2l, fun a o n e => ?_⟩
        · exact List.pairwise_append.mpr ⟨hC, List.pairwise_singleton _ _, fun x hx y hy => by rw [List.mem_singleton.mp hy]; exact hC' x hx⟩
        · intro x hx
          rcases List.mem_append.mp hx with e | e
          · exact Nat.lt_succ_of_lt (hC' x e)
          · rw [List.mem_singleton.mp e]
            exact Nat.lt_succ_self _
        · rw [upd_same, List.map_append]
          show some (HO.lst (C.map nI ++ [V.int (0 + (i : Int))])) = _
          rw [Int.zero_add]
          rfl
        · rw [upd_ne (nD2 a o e)]
          exact b4 _ _ n (o3 a o n e)
      · exact ⟨C, hC, fun x hx => Nat.lt_succ_of_lt (hC' x hx), Nat.le_succ_of_le hCl, b4 _ _ n2b hDC, B4, o3.trans b4⟩
    · rintro H3 ⟨C, hC, hC', hCl, hDC, B3, o3⟩
      refine ⟨(show 2 ≤ sizeLine by decide), fun p np => ?_⟩
      have sp := same_upd (o := HO.lst [V.ref D, V.ref D2]) np
      have b3 : But b H1 H3 := ho.trans o3
      refine q _ p D D2 rs M C ⟨by omega, by omega, fun r hr => ⟨(hM r hr).1, fun x hx => by rw [hl]; exact (hM r hr).2 x hx⟩⟩ (by omega) ⟨hC, fun x hx => by rw [hl]; exact hC' x hx⟩ ((hR.but hob o3).same sp) ((b1.trans b3).trans sp.but) (B3.same sp) ?_ nDb n2b (sp _ _ (o3 _ _ nDb hDD)) (sp _ _ hDC) upd_same
      cases e : H p with
      | none => rfl
      | some o =>
        have n : p ≠ b := B3.ne np
        have := b3 _ _ n (b1 _ _ n e)
        rw [np] at this
        cases this
end
end FW
namespace FW
open PySem PySem.Spec PyProof.Rows L2
-- more
section
variable {P : Program} {w : World} {K : PySem.W.Frag} {mg : Str → Option Value} {base : Heap}
/-- a machine that is made -/
theorem machine_made {H1 : Hp} {CM : Addr} {F : List Nat} {tv bv : V} {as : List V} {M : List (List Nat)} {B : List Nat} {x dx : Addr} {Qv : VK} {E : XK} (MC : MachC K CM) (b1 : bFaces (.str (S F)) = true) (l1 : F.length ≤ 1000)
    (hT : TabIn K H1 tv as M) (hM : TabOk F.length M) (hS : Sq K H1 bv (B.map nI)) (hB : BadOk M.length B) (nx : H1 x = none) (ndx : H1 dx = none) (q : ∀ H', Same H1 H' → MachAt K CM H' x F M B → Qv .non H') :
    sp_Machine_init K [.ref x, .str (S F), tv, bv] (upd (upd H1 dx (.own x)) x (.ins CM dx [])) Qv E := by
  have hxm : (upd (upd H1 dx (.own x)) x (.ins CM dx [])) x = some (.ins CM dx []) := upd_same
  have sm : Same H1 (upd (upd H1 dx (.own x)) x (.ins CM dx [])) := fun z o hz => (upd_ne (ne_of_none hz nx)).trans ((upd_ne (ne_of_none hz ndx)).trans hz)
  refine ⟨x, CM, dx, F, tv, bv, as, M, B, rfl, hxm, MC.c, MC.nf, MC.nt, MC.nb, b1, l1, hT.same sm, hM, hS.same sm, hB, fun H' tt bt rs s' kk => ?_⟩
  have hx' := s' _ _ hxm
  have b67 : But x H' (upd H' x (.ins CM dx (machF F tt bt))) := fun c o n e => by
    rw [upd_ne n]
    exact e
  refine q _ (fun z o hz => b67 _ _ (ne_of_none hz nx) (s' _ _ (sm _ _ hz))) ⟨⟨dx, tt, bt, rs, upd_same, ⟨b67 _ _ (fun z => by have h := kk.tab; rw [z, hx'] at h; cases h) kk.tab, kk.len, fun i v r h1 h2 => let ⟨a, e, h⟩ := kk.rows i v r h1 h2; ⟨a, e, sqT_insb hx' b67 h⟩, sqT_insb hx' b67 kk.bad⟩⟩, l1, hM, hB⟩
theorem lower_asc : lower.Pairwise (· < ·) := by decide +kernel
theorem choice_sub {r L : List Nat} {m : Int} (hL : L.Pairwise (· < ·)) (s : List.Sublist r L) (h0 : 0 < r.length) (hm : (r.length : Int) ≤ m) : bChoice (.str (S r)) L m = true := by
  show (true && (decide ((1 : Int) ≤ (r.length : Int)) && decide ((r.length : Int) ≤ m)) && (r.all fun c => decide (c ∈ L)) && ascB r) = true
  rw [decide_eq_true (by omega), decide_eq_true hm, mem_all (fun c hc => s.subset hc), asc_sorted (hL.sublist s)]
  rfl
/-- what is no list stays -/
def NL (H H' : Hp) : Prop := ∀ c o, H c = some o → (∀ ws, o ≠ HO.lst ws) → H' c = some o
theorem NL.refl {H : Hp} : NL H H := fun _ _ e _ => e
theorem NL.set {H H' : Hp} {a : Addr} {ws : List V} {o : HO} (h : NL H H') (e : H' a = some (.lst ws)) : NL H (upd H' a o) := fun c o' e' n => by
  have q := h _ _ e' n
  rw [upd_ne (fun z => by rw [z, e] at q; cases q; exact n _ rfl)]
  exact q
theorem NL.same {H H' H'' : Hp} (h : NL H H') (s : Same H' H'') : NL H H'' := fun c o e n => s _ _ (h _ _ e n)
theorem sqT_nl {H H' : Hp} {a : Addr} {xs : List V} (h : SqT K H a xs) (s : NL H H') : SqT K H' a xs := by
  rcases h with (h | ⟨o, h⟩) | h
  · exact .inl (.inl (s _ _ h (fun ws z => by cases z)))
  · exact .inl (.inr ⟨o, s _ _ h (fun ws z => by cases z)⟩)
  · exact .inr h
theorem MachAt.nl {CM : Addr} {H H' : Hp} {x : Addr} {F : List Nat} {M : List (List Nat)} {B : List Nat} (k : MachAt K CM H x F M B) (s : NL H H') : MachAt K CM H' x F M B := by
  obtain ⟨dx, tt, bt, rs, h, kk⟩ := k.at_
  exact ⟨⟨dx, tt, bt, rs, s _ _ h (fun ws z => by cases z), ⟨s _ _ kk.tab (fun ws z => by cases z), kk.len, fun i v r h1 h2 => let ⟨a, e, h⟩ := kk.rows i v r h1 h2; ⟨a, e, sqT_nl h s⟩, sqT_nl kk.bad s⟩⟩, k.fl, k.tab, k.bad⟩
theorem RowsAt.nl {H H' : Hp} {rs : List V} {M : List (List Nat)} (h : RowsAt H rs M) (s : NL H H') : RowsAt H' rs M := ⟨h.1, fun i v r h1 h2 => let ⟨a, e, ha⟩ := h.2 i v r h1 h2; ⟨a, e, s _ _ ha (fun ws z => by cases z)⟩⟩
end
end FW
namespace FW
open PySem PySem.Spec PyProof.Rows L2
-- more
section
variable {P : Program} {w : World} {K : PySem.W.Frag} {mg : Str → Option Value} {base : Heap}
/-! sorted signs -/
theorem lt_orN {a b : List Nat} (h : ¬ b < a) : a < b ∨ a = b := by
  rcases List.le_iff_lt_or_eq.mp (List.not_lt.mp h) with e | e
  · exact .inl e
  · exact .inr e
theorem sortedS_pwN : ∀ {ys : List Str}, PyProof.Rows.sortedS ys = true → ys.Pairwise (fun x y => ¬ y.cps.toList < x.cps.toList)
  | [], _ => .nil
  | [_], _ => List.pairwise_singleton _ _
  | x :: y :: r, h => by
    have h' : (!ltCps (y.cps.toList) (x.cps.toList) && PyProof.Rows.sortedS (y :: r)) = true := h
    simp only [Bool.and_eq_true, Bool.not_eq_true'] at h'
    have h1 : ¬ y.cps.toList < x.cps.toList := by
      have := h'.1
      rw [PyProof.Rows.ltCps_eq] at this
      exact of_decide_eq_false this
    have ih := sortedS_pwN (ys := y :: r) h'.2
    refine .cons (fun z hz => ?_) ih
    rcases List.mem_cons.mp hz with rfl | hz
    · exact h1
    · have h2 : ¬ z.cps.toList < y.cps.toList := List.rel_of_pairwise_cons ih hz
      intro q
      rcases lt_orN h1 with a | a
      · exact h2 (List.lt_trans q a)
      · rw [a] at q
        exact h2 q
def one1S (c : Nat) : Str := ⟨#[c]⟩
theorem join_signsP : ∀ cs : List Nat, PySem.Str.join "" (cs.map one1S) = S cs
  | [] => rfl
  | [_] => rfl
  | c :: d :: r => by
    have ih := join_signsP (d :: r)
    show S [c] ++ ("" : Str) ++ PySem.Str.join "" ((d :: r).map one1S) = _
    rw [ih, show ("" : Str) = S [] from rfl, S_cat, S_cat]
    rfl
theorem join_signs (cs : List Nat) : Txt.join "" (cs.map one1S) = S cs := (eq_of_beq (PyProof.Rows.join_plain_closes "" (cs.map one1S))).trans (join_signsP cs)
theorem odd_faces {gz : Nat} {F0 : List Nat} {ys : List Str} (hz : gz ∉ F0) (hg : gz ∈ lower) (hsub : List.Sublist F0 lower) (h0 : 0 < F0.length) (pm : ys.Perm ((gz :: F0.drop 1).map one1S)) (hs : PyProof.Rows.sortedS ys = true) :
    ∃ cs : List Nat, ys = cs.map one1S ∧ cs.length = F0.length ∧ cs.Pairwise (· < ·) ∧ (∀ c ∈ cs, c ∈ lower) ∧ gz ∈ cs := by
  have e1 : ys = (ys.map fun z => z.cps.toList.headD 0).map one1S := by
    rw [List.map_map]
    have : ys.map id = ys.map (one1S ∘ fun z => z.cps.toList.headD 0) := List.map_congr_left fun z h => by
      obtain ⟨c, _, rfl⟩ := List.mem_map.mp (pm.mem_iff.mp h)
      rfl
    rw [← this, List.map_id]
  have pm2 : (ys.map fun z => z.cps.toList.headD 0).Perm (gz :: F0.drop 1) := by
    have := pm.map fun z => z.cps.toList.headD 0
    rw [List.map_map] at this
    have e2 : (gz :: F0.drop 1).map ((fun z : Str => z.cps.toList.headD 0) ∘ one1S) = gz :: F0.drop 1 := by
      have : (gz :: F0.drop 1).map ((fun z : Str => z.cps.toList.headD 0) ∘ one1S) = (gz :: F0.drop 1).map id := List.map_congr_left fun c _ => rfl
      rw [this, List.map_id]
    rw [e2] at this
    exact this
  have hpw := sortedS_pwN hs
  rw [e1] at hpw
  generalize (ys.map fun z => z.cps.toList.headD 0) = cs at e1 pm2 hpw
  have nd : (gz :: F0.drop 1).Nodup := List.nodup_cons.mpr ⟨fun h => hz (List.mem_of_mem_drop h), (lower_nd.sublist hsub).sublist (List.drop_sublist _ _)⟩
  have hle : cs.Pairwise (fun a b => ¬ b < a) := (List.pairwise_map.mp hpw).imp fun {a b} h q => h (show [b] < [a] from List.cons_lt_cons_iff.mpr (.inl q))
  refine ⟨cs, e1, ?_, (hle.and (pm2.nodup_iff.mpr nd)).imp fun {a b} h => by have h1 := h.1; have h2 : a ≠ b := h.2; omega, fun c hc => ?_, pm2.mem_iff.mpr List.mem_cons_self⟩
  · rw [pm2.length_eq, List.length_cons, List.length_drop]
    omega
  · rcases List.mem_cons.mp (pm2.mem_iff.mp hc) with rfl | e
    · exact hg
    · exact hsub.subset (List.mem_of_mem_drop e)
theorem choice_asc {r L : List Nat} {m : Int} (ha : r.Pairwise (· < ·)) (s : ∀ c ∈ r, c ∈ L) (h0 : 0 < r.length) (hm : (r.length : Int) ≤ m) : bChoice (.str (S r)) L m = true := by
  show (true && (decide ((1 : Int) ≤ (r.length : Int)) && decide ((r.length : Int) ≤ m)) && (r.all fun c => decide (c ∈ L)) && ascB r) = true
  rw [decide_eq_true (by omega), decide_eq_true hm, mem_all s, asc_sorted ha]
  rfl
end
end FW
namespace FW
open PySem PySem.Spec PyProof.Rows L2
-- more
section
variable {P : Program} {w : World} {K : PySem.W.Frag} {mg : Str → Option Value} {base : Heap}
/-- the rows handed in: a row of the table, or a new list of its numbers -/
structure MineAt (D : Addr) (H0 H : Hp) (rs : List V) (M : List (List Nat)) (ms : List V) : Prop where
  le : ms.length ≤ M.length
  rows : ∀ (j : Nat) (v : V) (r : List Nat), ms[j]? = some v → M[j]? = some r → rs[j]? = some v ∨ ∃ a, v = .ref a ∧ H a = some (.lst (r.map nI)) ∧ H0 a = none ∧ a ≠ D
theorem MineAt.snoc {D : Addr} {H0 H H' : Hp} {rs : List V} {M : List (List Nat)} {ms : List V} {y : V} {r : List Nat} (h : MineAt D H0 H rs M ms) (keep : ∀ a, H0 a = none → a ≠ D → ∀ o, H a = some o → H' a = some o) (hr : M[ms.length]? = some r)
    (hy : rs[ms.length]? = some y ∨ ∃ a, y = .ref a ∧ H' a = some (.lst (r.map nI)) ∧ H0 a = none ∧ a ≠ D) : MineAt D H0 H' rs M (ms ++ [y]) := by
  refine ⟨?_, fun j v r' h1 h2 => ?_⟩
  · obtain ⟨hlt, _⟩ := List.getElem?_eq_some_iff.mp hr
    rw [List.length_append]
    exact hlt
  · by_cases hj : j < ms.length
    · rw [List.getElem?_append_left hj] at h1
      rcases h.rows j v r' h1 h2 with e | ⟨a, e1, e2, e3, e4⟩
      · exact .inl e
      · exact .inr ⟨a, e1, keep a e3 e4 _ e2, e3, e4⟩
    · have hj2 : j = ms.length := by
        obtain ⟨hlt, _⟩ := List.getElem?_eq_some_iff.mp h1
        rw [List.length_append] at hlt
        simp at hlt
        omega
      subst hj2
      rw [List.getElem?_append_right (Nat.le_refl _), Nat.sub_self] at h1
      cases h1
      rw [hr] at h2
      cases h2
      exact hy
theorem asc_len {n : Nat} : ∀ {B : List Nat} {lo : Nat}, B.Pairwise (· < ·) → (∀ x ∈ B, lo ≤ x) → (∀ x ∈ B, x < n) → lo ≤ n → lo + B.length ≤ n
  | [], _, _, _, _, h => h
  | b :: B, lo, h1, h2, h3, h4 => by
    have q := asc_len (n := n) (B := B) (lo := b + 1) (List.pairwise_cons.mp h1).2 (fun x hx => (List.pairwise_cons.mp h1).1 x hx) (fun x hx => h3 x (List.mem_cons_of_mem _ hx)) (h3 b List.mem_cons_self)
    have e := h2 b List.mem_cons_self
    rw [List.length_cons]
    omega
theorem none_same {H H' : Hp} {p : Addr} (s : Same H H') (e : H' p = none) : H p = none := by
  cases h : H p with
  | none => rfl
  | some o =>
    have := s _ _ h
    rw [e] at this
    cases this
theorem deep_Ns {n : Nat} {B : List Nat} (h : B.length ≤ 1000) : Deep (n + 1) (.list (B.map dN)) := by
  unfold Deep
  refine ⟨by rw [List.length_map]; exact h, fun d hd => ?_⟩
  obtain ⟨c, _, rfl⟩ := List.mem_map.mp hd
  show Deep n (.int _)
  unfold Deep
  trivial
theorem deep_Rw {n : Nat} {r : List Nat} (h : r.length ≤ 1000) : Deep (n + 1) (dR r) := by
  show Deep (n + 1) (.tuple (r.map dN))
  unfold Deep
  refine ⟨by rw [List.length_map]; exact h, fun d hd => ?_⟩
  obtain ⟨c, _, rfl⟩ := List.mem_map.mp hd
  show Deep n (.int _)
  unfold Deep
  trivial
theorem deep_Ms {n k : Nat} {M : List (List Nat)} (h : TabOk k M) (hk : k ≤ 1000) : Deep (n + 2) (.list (M.map dR)) := deep_list (by rw [List.length_map]; exact Nat.le_trans h.l2 (by decide)) fun d hd => by
  obtain ⟨r, hr, rfl⟩ := List.mem_map.mp hd
  exact deep_Rw (by rw [(h.rows r hr).1]; exact hk)
theorem inV_N (n : Nat) (l : List Nat) : inV (nI n) (l.map nI) = decide (n ∈ l) := by
  unfold inV
  rw [List.any_map, Bool.eq_iff_iff, List.any_eq_true, decide_eq_true_iff]
  have q : ∀ x : Nat, eqV (nI x) (nI n) = decide (x = n) := fun x => eqv_N x n
  constructor
  · rintro ⟨x, hx, e⟩
    have e' : eqV (nI x) (nI n) = true := e
    rw [q] at e'
    rw [← of_decide_eq_true e']
    exact hx
  · intro h
    exact ⟨n, h, (q n).trans (decide_eq_true rfl)⟩
theorem flat_N (l : List Nat) : (l.map nI).all flatV = true := by
  rw [List.all_map, List.all_eq_true]
  intro x _
  rfl
/-- the states that are not bad -/
def goodL (C : List Nat) (n : Nat) : List Nat := (List.range n).filter fun k => decide (k ∉ C)
theorem goodL_succ (C : List Nat) (n : Nat) : goodL C (n + 1) = goodL C n ++ if n ∈ C then [] else [n] := by
  unfold goodL
  rw [List.range_succ, List.filter_append]
  by_cases h : n ∈ C
  · rw [if_pos h]
    simp [h]
  · rw [if_neg h]
    simp [h]
theorem goodL_len (C : List Nat) (n : Nat) : (goodL C n).length ≤ n := by
  have := List.length_filter_le (fun k => decide (k ∉ C)) (List.range n)
  rw [List.length_range] at this
  exact this
theorem goodL_ok (C : List Nat) (n : Nat) : BadOk n (goodL C n) := ⟨List.Pairwise.filter _ List.pairwise_lt_range, fun x hx => List.mem_range.mp (List.mem_filter.mp hx).1⟩
theorem goodL_ne {C : List Nat} {n : Nat} (h : 0 < n) : goodL C n ≠ C := fun e => by
  by_cases z : 0 ∈ C
  · rw [← e] at z
    have := of_decide_eq_true (List.mem_filter.mp z).2
    rw [e] at z
    exact this z
  · have : 0 ∈ goodL C n := List.mem_filter.mpr ⟨List.mem_range.mpr h, decide_eq_true z⟩
    rw [e] at this
    exact z this
/-- machines that are not equal to a machine -/
def OthersAt (K : PySem.W.Frag) (CM : Addr) (F : List Nat) (M : List (List Nat)) (B : List Nat) (H : Hp) (l : List V) : Prop := ∀ v ∈ l, ∃ (y : Addr) (F' : List Nat) (M' : List (List Nat)) (B' : List Nat), v = .ref y ∧ MachAt K CM H y F' M' B' ∧ ¬ (F' = F ∧ M' = M ∧ B' = B)
theorem OthersAt.same {CM : Addr} {F : List Nat} {M : List (List Nat)} {B : List Nat} {H H' : Hp} {l : List V} (h : OthersAt K CM F M B H l) (s : Same H H') : OthersAt K CM F M B H' l := fun v hv => let ⟨y, F', M', B', e, k, n⟩ := h v hv; ⟨y, F', M', B', e, k.same s, n⟩
theorem OthersAt.nl {CM : Addr} {F : List Nat} {M : List (List Nat)} {B : List Nat} {H H' : Hp} {l : List V} (h : OthersAt K CM F M B H l) (s : NL H H') : OthersAt K CM F M B H' l := fun v hv => let ⟨y, F', M', B', e, k, n⟩ := h v hv; ⟨y, F', M', B', e, k.nl s, n⟩
theorem OthersAt.cons {CM : Addr} {F F' : List Nat} {M M' : List (List Nat)} {B B' : List Nat} {H : Hp} {l : List V} {y : Addr} (k : MachAt K CM H y F' M' B') (n : ¬ (F' = F ∧ M' = M ∧ B' = B)) (h : OthersAt K CM F M B H l) : OthersAt K CM F M B H (.ref y :: l) := fun v hv => by
  rcases List.mem_cons.mp hv with rfl | hv
  · exact ⟨y, F', M', B', rfl, k, n⟩
  · exact h v hv
theorem OthersAt.snoc {CM : Addr} {F F' : List Nat} {M M' : List (List Nat)} {B B' : List Nat} {H : Hp} {l : List V} {y : Addr} (h : OthersAt K CM F M B H l) (k : MachAt K CM H y F' M' B') (n : ¬ (F' = F ∧ M' = M ∧ B' = B)) : OthersAt K CM F M B H (l ++ [.ref y]) := fun v hv => by
  rcases List.mem_append.mp hv with hv | hv
  · exact h v hv
  · rw [List.mem_singleton.mp hv]
    exact ⟨y, F', M', B', rfl, k, n⟩
theorem tab_more {k : Nat} {M : List (List Nat)} {r : List Nat} (h : TabOk k M) (hr : r ∈ M) (l : M.length ≤ 100) : TabOk k (M ++ [r]) := by
  refine ⟨by rw [List.length_append]; have := h.l1; omega, by rw [List.length_append]; show M.length + 1 ≤ 200; omega, fun q hq => ?_⟩
  have hq' : q ∈ M := by
    rcases List.mem_append.mp hq with e | e
    · exact e
    · rw [List.mem_singleton.mp e]
      exact hr
  refine ⟨(h.rows q hq').1, fun n hn => ?_⟩
  rw [List.length_append]
  exact Nat.lt_add_right _ ((h.rows q hq').2 n hn)
theorem cutV_from {xs : List V} {k : Nat} (h : k ≤ xs.length) : cutV xs (some (k : Int)) none = xs.drop k := by
  unfold cutV
  rw [HT.sIx_none, HT.sIx_nat, Nat.min_eq_left h]
  exact List.take_of_length_le (by rw [List.length_drop]; exact Nat.le_refl _)
theorem set_split {α : Type} {xs : List α} {k : Nat} {x : α} (h : k < xs.length) : xs.take k ++ [x] ++ xs.drop (k + 1) = xs.set k x := by
  rw [List.set_eq_take_append_cons_drop, if_pos h, List.append_assoc]
  rfl
theorem tab_set {K' : Nat} {M : List (List Nat)} {k : Nat} {r : List Nat} (h : TabOk K' M) (hr : r.length = K' ∧ ∀ n ∈ r, n < M.length) : TabOk K' (M.set k r) := by
  refine ⟨by rw [List.length_set]; exact h.l1, by rw [List.length_set]; exact h.l2, fun q hq => ?_⟩
  rw [List.length_set]
  rcases List.mem_or_eq_of_mem_set hq with e | e
  · exact h.rows q e
  · rw [e]
    exact hr
theorem sum_ones : ∀ cs : List Nat, ((cs.map one1S).map fun x => x.length).sum = cs.length
  | [] => rfl
  | c :: r => by
    rw [List.map_cons, List.map_cons, List.sum_cons, sum_ones r, List.length_cons]
    show 1 + r.length = _
    omega
theorem op_notInE {X : Cx} {K : PySem.W.Frag} (h : X.K = K) : OpR X (compareOp .NotIn) (rIn K true) := by
  subst h
  exact op_notIn_seq
theorem op_eqOE {X : Cx} {P : Program} {w : World} {K : PySem.W.Frag} {mg : Str → Option Value} {base : Heap} {C : Addr} {k j : Nat} {sp : Sp} (h : X.prog = P ∧ X.w = w ∧ X.K = K ∧ X.mg = mg ∧ X.base = base) (o : OwnE P w K mg base C k sp) (hr : Room j X.A) (hk : k ≤ j) : OpR X (compareOp .Eq) (rOwnI K C sp E0 false) := by
  obtain ⟨rfl, rfl, rfl, rfl, rfl⟩ := h
  exact op_eqO o hr hk
theorem call_list_ofE {X : Cx} {K : PySem.W.Frag} (h : X.K = K) : CallR X (.type "list") (fun xs H Q => ∃ p ys, xs = [V.ref p] ∧ (SqL K H p ys ∨ SqT K H p ys) ∧ ∀ l, H l = none → Q (.ref l) (upd H l (.lst ys))) := by
  subst h
  exact call_list_of
abbrev s_law : Stmt := topS 35
theorem sc_law : FnScope ["_law_script", "_law_bag", "_law_faces", "_law_table", "_law_bad", "_law_mine", "_law_wrong", "_law_machine", "_law_size", "_law_due", "_law_row", "_law_turn", "_law_told", "_law_lost", "_law_twice", "_law_others", "_law_at", "_law_spot", "_law_odd", "_law_letter", "_law_other"] ["_law_script"] (defScope s_law) := ⟨rfl, rfl, rfl, by decide +kernel, rfl, by decide +kernel, by decide +kernel⟩
def sp_law (K : PySem.W.Frag) : Sp := fun vs H Q _ => ∃ (a : Addr) (ns : List Int), vs = [.ref a] ∧ SqL K H a (ns.map V.int) ∧ ns.length ≤ 63 ∧ ∀ H', Q (.bl true) H'
abbrev pM : List Str := ["self", "faces", "table", "bad"]
theorem ok_law {f CM fM ae p_size f_size f_repr : Addr} {fd fdM fdS : FuncData} {uM : Value} (F : Fun K "law" "law" s_law f fd) (T : Z mg) (gM : mg "Machine" = some (.ref CM)) (MC : MachC K CM) (MM : Mk K CM fM) (FM : FnOk P w K mg base CX0 5 fM fdM ["self", "faces", "table", "bad"] (sp_Machine_init K)) (bM3 : Binds K fdM ["self", "faces", "table", "bad"] []) (bM2 : Binds K fdM ["self", "faces", "table", "bad"] [.ref ae]) (hae : ∀ H, SqT K H ae [])
    (hp : PropOf K CM "size" p_size f_size) (FS : FnOk P w K mg base CX0 1 f_size fdS ["self"] (sp_Machine_size K CM)) (bS : Binds K fdS ["self"] []) (c_table : MCal P w K mg base CX0 CM 1 "table" ["self"] (sp_Machine_table K CM)) (c_bad : MCal P w K mg base CX0 CM 1 "bad" ["self"] (sp_Machine_bad K CM))
    (o_eq : OwnE P w K mg base CM 1 (sp_Machine_eq K CM)) (nfL : PySem.W.notFirst K CM (.type "list") = true) (nfN : PySem.W.notFirst K CM (.type "NoneType") = true) (kL : PySem.W.kitOne K (.type "list") (.ref CM) = some false) (kN : PySem.W.kitOne K (.type "NoneType") (.ref CM) = some false)
    (hR : PySem.W.findIn K (.ref CM) "__repr__" = some (some (.ref f_repr))) (hRf : PySem.W.isFn K (.ref f_repr) = true) (FR : FnR P w K mg base CX0 1 f_repr (sp_Machine_repr K CM)) (rC : ClX.CRead K CM (.type "type")) (vM : ClX.CVal K CM (.type "type") "MOST" (.int 200) uM)
    (c__law_open : Cal P w K mg base CX0 1 "_law_open" s__law_open ["_law_script"] (sp__law_open K)) (c__law_draw : Cal P w K mg base CX0 1 "_law_draw" s__law_draw ["_law_bag", "_law_many"] (sp__law_draw K)) (c__law_some_faces : Cal P w K mg base CX0 3 "_law_some_faces" s__law_some_faces ["_law_bag", "_law_most"] (sp__law_some_faces K))
    (c__law_some_machine : Cal P w K mg base CX0 2 "_law_some_machine" s__law_some_machine ["_law_bag", "_law_faces", "_law_most"] (sp__law_some_machine K)) (c__law_same : Cal P w K mg base CX0 5 "_law_same" s__law_same ["_law_found", "_law_due"] (sp__law_same K 3)) : FnOk P w K mg base CX0 8 f fd ["_law_script"] (sp_law K) := by
  refine F.ok sc_law (fun vs H Q E h => ?_) (fun cdv A outer s H vs Q E hr h => ?_)
  · obtain ⟨a, ns, rfl, _⟩ := h
    rfl
  obtain ⟨a, ns, rfl, hS, hlen, q⟩ := h
  refine ⟨_, (pss_cons (ps_set (i := 1) sc_law.nd rfl (.inr rfl) (pe_c c__law_open hr (by decide) (by rfl) (pa_cons (pv 0) pa_nil)))
      (pss_cons (ps_set (i := 2) sc_law.nd rfl (.inr rfl) (pe_c c__law_some_faces hr (by decide) (by rfl) (pa_cons (pv 1) (pa_cons pe_int pa_nil))))
      (pss_cons (ps_asg (pe_c c__law_some_machine hr (by decide) (by rfl) (pa_cons (pv 1) (pa_cons (pv 2) (pa_cons pe_int pa_nil)))) (pg_unl rfl (pgs_cons (pg_name (i := 3) sc_law.nd rfl (.inl rfl)) (pgs_cons (pg_name (i := 4) sc_law.nd rfl (.inr rfl)) pgs_nil))))
      (pss_cons (ps_par (i := 5) (j := 6) (by rfl) sc_law.nd rfl rfl (by decide) rfl rfl (pa_cons (pe_lc (own := [("_law_row", 10)]) (g := (gName 10)) (by rfl) sc_law.nd (pi_list (pv 3)) (blkOk_by (N := ["_law_script", "_law_bag", "_law_faces", "_law_table", "_law_bad", "_law_mine", "_law_wrong", "_law_machine", "_law_size", "_law_due", "_law_row", "_law_turn", "_law_told", "_law_lost", "_law_twice", "_law_others", "_law_at", "_law_spot", "_law_odd", "_law_letter", "_law_other"]) (sc := defScope s_law) (by decide +kernel)) (fun _ _ _ _ _ => (pg_name (i := 10) sc_law.nd rfl (.inl rfl))) (fun _ _ _ _ _ => pts_nil) (fun _ _ _ _ _ => (pe_ifExp (pt_cmpR op_eq (pe_c c__law_draw hr (by decide) (by rfl) (pa_cons (pv 1) (pa_cons pe_int pa_nil))) pe_int (nomark _)) (pe_callTy (call_list_ofE rfl) (by rfl) T.z_list (by decide +kernel) (pa_cons (pv 10) pa_nil)) (pv 10)))) (pa_cons (pe_callTy call_list_of (by rfl) T.z_list (by decide +kernel) (pa_cons (pv 4) pa_nil)) pa_nil)) (by rfl))
      (pss_cons (ps_set (i := 7) sc_law.nd rfl (.inr rfl) (pe_make MM FM (hr.mono (by decide)) (by rfl) gM bM3 .nil pass0 (pa_cons (pv 2) (pa_cons (pv 5) (pa_cons (pv 6) pa_nil)))))
      (pss_cons (ps_set (i := 8) sc_law.nd rfl (.inl rfl) (pe_callB call_len_seq (by rfl) T.z_len (by decide +kernel) (pa_cons (pv 3) pa_nil)))
      (pss_cons (ps_set (i := 9) sc_law.nd rfl (.inl rfl) (pe_lst (pa_cons (pv 2) (pa_cons (pv 8) (pa_cons (pv 3) (pa_cons (pv 4) (pa_cons (pe_op op_add_str (pe_op op_add_str pe_str (pe_callTy call_str_int (by rfl) T.z_str (by decide +kernel) (pa_cons (pv 8) pa_nil))) pe_str) (pa_cons pe_int pa_nil))))))))
      (pss_cons (ps_for PassesOwn.never rfl (pi_list (pv 5)) (pg_name (i := 10) sc_law.nd rfl (.inl rfl))
        (pss_one (ps_if (pt_val (pe_callB call_isi (by rfl) T.z_isinstance (by decide +kernel) (pa_cons (pv 10) (pa_cons (pe_bltn (v := .ty "list") (u := .type "list") (by rfl) T.z_list (by decide +kernel) rfl) pa_nil)))) (pss_one (ps_asg pe_non (pg_sub (pv 10) pe_int set_list))) pss_nil)))
      (pss_cons (ps_asg pe_non (pg_sub (pv 5) pe_int set_list))
      (pss_cons (ps_expr (pe_bm PySem.F.plainAttrs_list PySem.F.slot_list_append PySem.F.type_list_append mt_append (pv 6) (pa_cons pe_int pa_nil)))
      (pss_cons (ps_for PassesOwn.never rfl (pi_range1 (by rfl) T.z_range (pa_cons pe_int pa_nil)) (pg_name (i := 11) sc_law.nd rfl (.inl rfl))
        (pss_cons (ps_par (i := 12) (j := 13) (by rfl) sc_law.nd rfl rfl (by decide) rfl rfl (pa_cons (pe_m0 c_table MC.c hr (by decide) (pv 7)) (pa_cons (pe_m0 c_bad MC.c hr (by decide) (pv 7)) pa_nil)) (by rfl))
      (pss_cons (ps_if (pt_not (pt_val (pe_c c__law_same hr (by decide) (by rfl) (pa_cons (pe_lst (pa_cons (pe_fld (pv 7) rfl) (pa_cons (pe_prop (pv 7) MC.c hp FS (hr.mono (by decide)) bS .nil pass0 rfl) (pa_cons (pv 12) (pa_cons (pv 13) (pa_cons (pe_callB (cr_reprO hR hRf FR (hr.mono (by decide)) pass0) (by rfl) T.z_repr (by decide +kernel) (pa_cons (pv 7) pa_nil)) (pa_cons (ClX.pe_cval (pe_glob (v := .ref CM) rfl gM rfl)) pa_nil))))))) (pa_cons (pv 9) pa_nil))))) (pss_one (ps_ret pe_bl)) pss_nil)
      (pss_cons (ps_expr (pe_bm PySem.F.plainAttrs_list PySem.F.slot_list_append PySem.F.type_list_append mt_append (pv 12) (pa_cons pe_int pa_nil)))
      (pss_one (ps_expr (pe_bm PySem.F.plainAttrs_list PySem.F.slot_list_append PySem.F.type_list_append mt_append (pv 13) (pa_cons pe_int pa_nil))))))))
      (pss_cons (ps_set (i := 14) sc_law.nd rfl (.inl rfl) (pe_make MM FM (hr.mono (by decide)) (by rfl) gM bM3 .nil pass0 (pa_cons (pv 2) (pa_cons (pe_callTy call_tuple_of (by rfl) T.z_tuple (by decide +kernel) (pa_cons (pv 3) pa_nil)) (pa_cons (pe_callTy call_tuple_of (by rfl) T.z_tuple (by decide +kernel) (pa_cons (pv 4) pa_nil)) pa_nil)))))
      (pss_cons (ps_if (pt_cmpR (op_neO o_eq hr (by decide)) (pv 7) (pv 14) (nomark _)) (pss_one (ps_ret pe_bl)) pss_nil)
      (pss_cons (ps_if (pt_not (pt_cmpR (op_eqO o_eq hr (by decide)) (pv 7) (pv 14) (nomark _))) (pss_one (ps_ret pe_bl)) pss_nil)
      (pss_cons (ps_if (pt_not (pt_val (pe_c c__law_same hr (by decide) (by rfl) (pa_cons (pe_m0 c_bad MC.c hr (by decide) (pe_make MM FM (hr.mono (by decide)) (by rfl) gM bM2 (dvs := [V.ref ae]) (.cons rfl .nil) pass0 (pa_cons (pv 2) (pa_cons (pv 3) pa_nil)))) (pa_cons (pe_lst pa_nil) pa_nil))))) (pss_one (ps_ret pe_bl)) pss_nil)
      (pss_cons (ps_set (i := 15) sc_law.nd rfl (.inl rfl) (pe_lst (pa_cons (pe_make MM FM (hr.mono (by decide)) (by rfl) gM bM3 .nil pass0 (pa_cons (pv 2) (pa_cons (pv 3) (pa_cons (pe_lc (own := [("_law_at", 16)]) (g := (gName 16)) (by rfl) sc_law.nd (pi_range1 (by rfl) T.z_range (pa_cons (pv 8) pa_nil)) (blkOk_by (N := ["_law_script", "_law_bag", "_law_faces", "_law_table", "_law_bad", "_law_mine", "_law_wrong", "_law_machine", "_law_size", "_law_due", "_law_row", "_law_turn", "_law_told", "_law_lost", "_law_twice", "_law_others", "_law_at", "_law_spot", "_law_odd", "_law_letter", "_law_other"]) (sc := defScope s_law) (by decide +kernel)) (fun _ _ _ _ _ => (pg_name (i := 16) sc_law.nd rfl (.inl rfl))) (fun _ _ _ _ _ => (pts_one (pt_cmpR (op_notInE rfl) (pv 16) (pv 4) (by rfl)))) (fun _ _ _ _ _ => (pv 16))) pa_nil)))) (pa_cons (pe_make MM FM (hr.mono (by decide)) (by rfl) gM bM3 .nil pass0 (pa_cons (pv 2) (pa_cons (pe_op op_cat (pv 3) (pe_lst (pa_cons (pe_ix ix_list (pv 3) pe_int (fun _ _ => rfl)) pa_nil))) (pa_cons (pv 4) pa_nil)))) pa_nil))))
      (pss_cons (ps_as (ps_if (pt_cmpR op_gt (pv 8) pe_int (nomark _)) (pss_cons (ps_par (i := 16) (j := 17) (by rfl) sc_law.nd rfl rfl (by decide) rfl rfl (pa_cons (pe_c c__law_draw hr (by decide) (by rfl) (pa_cons (pv 1) (pa_cons (pv 8) pa_nil))) (pa_cons (pe_c c__law_draw hr (by decide) (by rfl) (pa_cons (pv 1) (pa_cons (pe_callB call_len_str (by rfl) T.z_len (by decide +kernel) (pa_cons (pv 2) pa_nil)) pa_nil))) pa_nil)) (by rfl))
      (pss_cons (ps_set (i := 10) sc_law.nd rfl (.inl rfl) (pe_callTy call_list_of (by rfl) T.z_list (by decide +kernel) (pa_cons (pe_ix ix_list (pv 3) (pv 16) (fun _ _ => rfl)) pa_nil)))
      (pss_cons (ps_asg (pe_op op_mod (pe_callTy call_int1 (by rfl) T.z_int (by decide +kernel) (pa_cons (pe_op op_add (pe_ix ix_list (pv 10) (pv 17) (fun _ _ => rfl)) pe_int) pa_nil)) (pv 8)) (pg_sub (pv 10) (pv 17) set_list))
      (pss_one (ps_expr (pe_bm PySem.F.plainAttrs_list PySem.F.slot_list_append PySem.F.type_list_append mt_append (pv 15) (pa_cons (pe_make MM FM (hr.mono (by decide)) (by rfl) gM bM3 .nil pass0 (pa_cons (pv 2) (pa_cons (pe_op op_cat (pe_op op_cat (pe_slice sl_list (pv 3) po_none (po_some (pv 16))) (pe_lst (pa_cons (pv 10) pa_nil))) (pe_slice sl_list (pv 3) (po_some (pe_op op_add (pv 16) pe_int)) po_none)) (pa_cons (pv 4) pa_nil)))) pa_nil))))))) pss_nil))
      (pss_cons (ps_set (i := 18) sc_law.nd rfl (.inl rfl) (pe_ix ix_list (pe_lc (own := [("_law_letter", 19)]) (g := (gName 19)) (by rfl) sc_law.nd (pi_str pe_str) (blkOk_by (N := ["_law_script", "_law_bag", "_law_faces", "_law_table", "_law_bad", "_law_mine", "_law_wrong", "_law_machine", "_law_size", "_law_due", "_law_row", "_law_turn", "_law_told", "_law_lost", "_law_twice", "_law_others", "_law_at", "_law_spot", "_law_odd", "_law_letter", "_law_other"]) (sc := defScope s_law) (by decide +kernel)) (fun _ _ _ _ _ => (pg_name (i := 19) sc_law.nd rfl (.inl rfl))) (fun _ _ _ _ _ => (pts_one (pt_cmpR op_notIn_sign (pv 19) (pv 2) rfl))) (fun _ _ _ _ _ => (pv 19))) pe_int (fun _ _ => rfl)))
      (pss_cons (ps_expr (pe_bm PySem.F.plainAttrs_list PySem.F.slot_list_append PySem.F.type_list_append mt_append (pv 15) (pa_cons (pe_make MM FM (hr.mono (by decide)) (by rfl) gM bM3 .nil pass0 (pa_cons (pe_join pe_str (pe_callB cr_sortedSA (by rfl) T.z_sorted (by decide +kernel) (pa_cons (pe_callTy (call_listS rfl) (by rfl) T.z_list (by decide +kernel) (pa_cons (pe_op op_add_str (pv 18) (pe_slice sl_str (pv 2) (po_some pe_int) po_none)) pa_nil)) pa_nil))) (pa_cons (pv 3) (pa_cons (pv 4) pa_nil)))) pa_nil)))
      (pss_one (ps_ret (pe_and (pe_not (pe_callB (cr_any rfl) (by rfl) T.z_any (by decide +kernel) (pa_cons (pe_lc (own := [("_law_other", 20)]) (g := (gName 20)) (by rfl) sc_law.nd (pi_list (pv 15)) (blkOk_by (N := ["_law_script", "_law_bag", "_law_faces", "_law_table", "_law_bad", "_law_mine", "_law_wrong", "_law_machine", "_law_size", "_law_due", "_law_row", "_law_turn", "_law_told", "_law_lost", "_law_twice", "_law_others", "_law_at", "_law_spot", "_law_odd", "_law_letter", "_law_other"]) (sc := defScope s_law) (by decide +kernel)) (fun _ _ _ _ _ => (pg_name (i := 20) sc_law.nd rfl (.inl rfl))) (fun _ _ _ _ _ => pts_nil) (fun _ _ _ _ _ => (pe_cmpR (op_eqOE ⟨rfl, rfl, rfl, rfl, rfl⟩ o_eq hr (show 1 ≤ 7 by decide)) (pv 20) (pv 7) (nomark _)))) pa_nil))) (pe_and (pe_cmpR (op_neO o_eq hr (by decide)) (pv 7) (pv 3) (nomark _)) (pe_one (pe_not (pe_cmpR (op_eqO o_eq hr (by decide)) (pv 7) pe_non (nomark _))))))))))))))))))))))))))), ?_⟩
  refine ⟨_, rfl, a, ns, rfl, hS, hlen, fun H1 b lb nb nl s1 B1 => ?_⟩
  refine ⟨_, rfl, b, lb, 4, rfl, B1, by decide, by decide, fun H2 F0 hsub hF0 hF b2 B2 => ?_⟩
  refine ⟨_, rfl, _, rfl, b, lb, F0, 6, rfl, B2, hF0, by omega, by decide, by decide, fun H3 p t u rs M C hM hM6 hC hR3 b3 B3 np ntb nub ht hu hp3 => ?_⟩
  refine ⟨p, _, rfl, SqL.of hp3, rfl, _, _, rfl, _, _, rfl, rfl, ?_⟩
  clear hp3 s1 B1 B2 b2 b3
  have hb1 : bFaces (.str (S F0)) = true := choice_sub lower_asc hsub hF0 (by omega)
  refine ⟨_, rfl, t, rfl, ⟨_, SqL.of ht⟩, fun D hD => ?_⟩
  obtain ⟨ob, hob⟩ := B3.lst
  have nDb : D ≠ b := B3.ne hD
  have nDl : D ≠ lb := B3.ne2 hD
  refine lc_list (xs := rs) (fun i H' => ∃ ms : List V, ms.length = i ∧ MineAt D H3 H' rs M ms ∧ H' D = some (.lst ms) ∧ Bag H' b lb ∧ But b H3 H') ⟨[], rfl, ⟨Nat.zero_le _, fun j v r h1 => by cases h1⟩, upd_same, B3.same (same_upd hD), (same_upd hD).but⟩ (fun i H' _ ⟨_, _, _, _, _, pv⟩ => SqL.of (pv _ _ ntb ht)) ?_ ?_
  · rintro j v H' hv ⟨ms, hl, hms, hDD, B', o'⟩
    have hjl : j < M.length := by
      obtain ⟨h, _⟩ := List.getElem?_eq_some_iff.mp hv
      rw [← hR3.1]
      exact h
    obtain ⟨r, hMj⟩ : ∃ r, M[j]? = some r := ⟨_, List.getElem?_eq_getElem hjl⟩
    refine ⟨rfl, ?_⟩
    refine ⟨_, rfl, b, lb, _, rfl, B', by decide, by decide, fun H4 z z0 z1 b4 B4 => ?_⟩
    refine ⟨rfl, _, rfl, ite_dec (fun _ => ?_) (fun _ => ?_)⟩
    · obtain ⟨a0, rfl, ha0⟩ := hR3.2 _ _ _ hv hMj
      have hne : a0 ≠ b := fun z => by rw [z, hob] at ha0; cases ha0
      have h0 := b4 _ _ hne (o' _ _ hne ha0)
      refine ⟨_, rfl, a0, _, rfl, .inr (SqT.of h0), fun g ng => ?_⟩
      have sg := same_upd (o := HO.lst (r.map nI)) ng
      have nDg : g ≠ D := fun z => by rw [z, b4 _ _ nDb hDD] at ng; cases ng
      have ngb : g ≠ b := B4.ne ng
      have ng3 : H3 g = none := by
        cases e : H3 g with
        | none => rfl
        | some o =>
          have := b4 _ _ ngb (o' _ _ ngb e)
          rw [ng] at this
          cases this
      refine ⟨_, sg _ _ (b4 _ _ nDb hDD), by rw [hl]; exact sz1 (by omega), ms ++ [.ref g], by rw [List.length_append, hl]; rfl, hms.snoc (fun a e0 nD o e => ?_) (hl ▸ hMj) (.inr ⟨g, rfl, ?_, ng3, nDg⟩), upd_same, (B4.same sg).upd nDb nDl, fun a o n e => ?_⟩
      · rw [upd_ne nD]
        exact sg _ _ (b4 _ _ (fun z => by rw [z, hob] at e0; cases e0) e)
      · rw [upd_ne nDg]
        exact upd_same
      · rw [upd_ne (fun z => by rw [z, hD] at e; cases e)]
        exact sg _ _ (b4 _ _ n (o' _ _ n e))
    · refine ⟨_, rfl, _, b4 _ _ nDb hDD, by rw [hl]; exact sz1 (by omega), ms ++ [v], by rw [List.length_append, hl]; rfl, hms.snoc (fun a e0 nD o e => ?_) (hl ▸ hMj) (.inl (hl ▸ hv)), upd_same, B4.upd nDb nDl, fun a o n e => ?_⟩
      · rw [upd_ne nD]
        exact b4 _ _ (fun z => by rw [z, hob] at e0; cases e0) e
      · rw [upd_ne (fun z => by rw [z, hD] at e; cases e)]
        exact b4 _ _ n (o' _ _ n e)
  · rintro H4 ⟨ms, hl, hms, hDD, B', o'⟩
    have hl : ms.length = M.length := by rw [hl, hR3.1]
    have ht4 := o' _ _ ntb ht
    have hu4 := o' _ _ nub hu
    have hR4 : RowsAt H4 rs M := hR3.but hob o'
    refine ⟨_, rfl, u, _, rfl, .inl (SqL.of hu4), fun g ng => ?_⟩
    have sg := same_upd (o := HO.lst (C.map nI)) ng
    have ngb : g ≠ b := B'.ne ng
    have ng3 : H3 g = none := by
      cases e : H3 g with
      | none => rfl
      | some o =>
        have := o' _ _ ngb e
        rw [ng] at this
        cases this
    refine ⟨_, _, rfl, ?_⟩
    have hgg : (upd H4 g (HO.lst (C.map nI))) g = some (.lst (C.map nI)) := upd_same
    have hms' : ∀ (j : Nat) (v : V) (r : List Nat), ms[j]? = some v → M[j]? = some r → rs[j]? = some v ∨ ∃ a, v = .ref a ∧ (upd H4 g (HO.lst (C.map nI))) a = some (.lst (r.map nI)) ∧ H3 a = none ∧ a ≠ D ∧ a ≠ g := fun j v r h1 h2 => by
      rcases hms.rows j v r h1 h2 with e | ⟨a, e1, e2, e3, e4⟩
      · exact .inl e
      · exact .inr ⟨a, e1, sg _ _ e2, e3, e4, fun z => by rw [z, ng] at e2; cases e2⟩
    have hDg : D ≠ g := fun z => by rw [← z, hDD] at ng; cases ng
    have hDD := sg _ _ hDD
    have B4 := B'.same sg
    have o4 := o'.trans sg.but
    have ht4 := sg _ _ ht4
    have hu4 := sg _ _ hu4
    have hR4 := hR4.same sg
    clear hms B' o' sg ng
    generalize upd H4 g (HO.lst (C.map nI)) = H4 at *
    have hT : TabIn K H4 (.ref D) ms M := ⟨.inl ⟨D, rfl, SqL.of hDD⟩, hl, fun i v r h1 h2 => by
      rcases hms' i v r h1 h2 with e | ⟨a, rfl, e2, _⟩
      · obtain ⟨a, rfl, ha⟩ := hR4.2 i v r e h2
        exact .inr ⟨a, rfl, SqT.of ha⟩
      · exact .inl ⟨a, rfl, SqL.of e2⟩⟩
    refine ⟨_, rfl, _, rfl, _, rfl, fun x dx nx ndx _ => machine_made MC hb1 (by omega) hT hM (.inl ⟨g, rfl, SqL.of hgg⟩) hC nx ndx fun H5 s5 hX => ⟨rfl, ?_⟩⟩
    refine ⟨_, rfl, t, _, rfl, .inl (SqL.of (s5 _ _ ht4)), ?_⟩
    have hMl : M.length < 201 := by omega
    have hsz : ∀ n : Nat, n < 201 → n.log2 < 1920 ∧ (("Machine(" : Str).length + (Str.ofString (toString (n : Int))).length) ≤ 100 ∧ ((("Machine(" : Str) ++ Str.ofString (toString (n : Int))).length + (" states)" : Str).length) ≤ 100 ∧ (("Machine(" : Str) ++ Str.ofString (toString (n : Int))) ++ (" states)" : Str) = reprM n := by decide +kernel
    obtain ⟨g1, g2, g3, g4⟩ := hsz M.length hMl
    rw [show (rs.length : Int) = (M.length : Int) from by rw [hR4.1]]
    refine ⟨_, rfl, _, rfl, _, rfl, _, rfl, ?_⟩
    refine ⟨_, rfl, _, rfl, g1, _, _, rfl, rfl, Nat.le_trans g2 (by decide), _, _, rfl, rfl, Nat.le_trans g3 (by decide), ?_⟩
    refine ⟨(show 6 ≤ sizeLine by decide), fun d nd => ?_⟩
    rw [g4]
    have sd := same_upd (o := HO.lst [V.str (S F0), V.int (M.length : Int), V.ref t, V.ref u, V.str (reprM M.length), V.int 200]) nd
    have hdd : (upd H5 d (HO.lst [V.str (S F0), V.int (M.length : Int), V.ref t, V.ref u, V.str (reprM M.length), V.int 200])) d = _ := upd_same
    have hnd : ∀ c o, H5 c = some o → c ≠ d := fun c o e z => by rw [z, nd] at e; cases e
    have hm6 : ∀ (j : Nat) (v : V) (r : List Nat), ms[j]? = some v → M[j]? = some r → rs[j]? = some v ∨ ∃ (a : Addr) (w : List V), v = .ref a ∧ (upd H5 d (HO.lst [V.str (S F0), V.int (M.length : Int), V.ref t, V.ref u, V.str (reprM M.length), V.int 200])) a = some (.lst w) ∧ 0 < w.length ∧ H3 a = none ∧ a ≠ D ∧ a ≠ g ∧ a ≠ d := fun j v r h1 h2 => by
      rcases hms' j v r h1 h2 with e | ⟨a, e1, e2, e3, e4, e5⟩
      · exact .inl e
      · refine .inr ⟨a, _, e1, sd _ _ (s5 _ _ e2), ?_, e3, e4, e5, hnd _ _ (s5 _ _ e2)⟩
        rw [List.length_map, (hM.rows r (List.mem_of_getElem? h2)).1]
        exact hF0
    have s6 := s5.trans sd
    have hX6 := hX.same sd
    have hDD6 := s6 _ _ hDD
    have ht6 := s6 _ _ ht4
    have hu6 := s6 _ _ hu4
    have hg6 := s6 _ _ hgg
    have B6 := B4.same s6
    have hR6 := hR4.same s6
    have hDd : D ≠ d := hnd _ _ (s5 _ _ hDD)
    have hgd : g ≠ d := hnd _ _ (s5 _ _ hgg)
    have ud : u ≠ d := hnd _ _ (s5 _ _ hu4)
    have td : t ≠ d := hnd _ _ (s5 _ _ ht4)
    generalize upd H5 d (HO.lst [V.str (S F0), V.int (M.length : Int), V.ref t, V.ref u, V.str (reprM M.length), V.int 200]) = H6 at *
    clear sd s5 hX s6 hDD ht4 hu4 hgg B4 hR4 hnd hms' hT o4 nd
    refine ⟨_, rfl, D, rfl, ⟨_, SqL.of hDD6⟩, for_it (walk_list (xs := ms)) (fun i σ H' => ∃ y10 : Option V, σ = [some (.ref a), some (.ref b), some (.str (S F0)), some (.ref t), some (.ref u), some (.ref D), some (.ref g), some (.ref x), some (.int (M.length : Int)), some (.ref d), y10, none, none, none, none, none, none, none, none, none, none] ∧
      NL H6 H' ∧ H' D = some (.lst ms) ∧ H' t = some (.lst rs) ∧ H' u = some (.lst (C.map nI)) ∧ H' g = some (.lst (C.map nI)) ∧ H' d = some (HO.lst [V.str (S F0), V.int (M.length : Int), V.ref t, V.ref u, V.str (reprM M.length), V.int 200]) ∧ Bag H' b lb ∧
      ∀ (j : Nat) (v : V) (r : List Nat), ms[j]? = some v → M[j]? = some r → rs[j]? = some v ∨ ∃ (a : Addr) (w : List V), v = .ref a ∧ H' a = some (.lst w) ∧ 0 < w.length ∧ H3 a = none ∧ a ≠ D ∧ a ≠ g ∧ a ≠ d)
      ⟨none, rfl, NL.refl, hDD6, ht6, hu6, hg6, hdd, B6, hm6⟩ (fun i σ H' _ ⟨_, _, _, h, _⟩ => SqL.of h) ?_ ?_⟩
    · rintro i v σ H0 H' hi ⟨y10, rfl, kn, kD, kt, ku, kg, kd, kB, km⟩ ⟨rfl, hv⟩
      have hil : i < M.length := by rw [← hl]; exact hi
      obtain ⟨r, hMi⟩ : ∃ r, M[i]? = some r := ⟨_, List.getElem?_eq_getElem hil⟩
      by_cases hrow : rs[i]? = some v
      · obtain ⟨a0, rfl, ha0⟩ := (hR6.nl kn).2 _ _ _ hrow hMi
        exact ⟨_, rfl, _, _, _, _, false, rfl, .ty _, tyT (SqT.of ha0), kit_ty (by decide +kernel), false, rfl, iteF ⟨_, rfl, kn, kD, kt, ku, kg, kd, kB, km⟩⟩
      · rcases km i v r hv hMi with e | ⟨a0, w0, rfl, ha0, hw, n3, nD, ng', nd'⟩
        · exact absurd e hrow
        refine ⟨_, rfl, _, _, _, _, true, rfl, .ty _, tyL (SqL.of ha0), kit_ty (by decide +kernel), true, rfl, iteT ?_⟩
        refine ⟨_, rfl, a0, w0, 0, 0, rfl, rfl, ha0, ?_, ?_⟩
        · unfold ixN
          rw [if_pos (Int.le_refl 0), if_pos (by omega)]
          rfl
        · refine ⟨_, rfl, kn.set ha0, ?_, ?_, ?_, ?_, ?_, kB.upd (B3.ne n3) (B3.ne2 n3), fun j' v' r' h1 h2 => ?_⟩
          · rwa [upd_ne nD.symm]
          · rwa [upd_ne (fun z => by rw [z, n3] at ht; cases ht)]
          · rwa [upd_ne (fun z => by rw [z, n3] at hu; cases hu)]
          · rwa [upd_ne ng'.symm]
          · rwa [upd_ne nd'.symm]
          · rcases km j' v' r' h1 h2 with e | ⟨a1, w1, e1, h1', h2', h3', h4', h5', h6'⟩
            · exact .inl e
            · by_cases z : a1 = a0
              · subst z
                exact .inr ⟨a1, _, e1, upd_same, by rw [List.length_set]; exact hw, h3', h4', h5', h6'⟩
              · exact .inr ⟨a1, w1, e1, (upd_ne z).trans h1', h2', h3', h4', h5', h6'⟩
    · rintro σ H7 ⟨y10, rfl, kn, kD, kt, ku, kg, kd, kB, km⟩
      have tD : t ≠ D := fun z => by rw [z, hD] at ht; cases ht
      have uD : u ≠ D := fun z => by rw [z, hD] at hu; cases hu
      have tg : t ≠ g := fun z => by rw [z, ng3] at ht; cases ht
      have ug : u ≠ g := fun z => by rw [z, ng3] at hu; cases hu
      refine ⟨_, rfl, D, ms, 0, 0, rfl, rfl, kD, ?_, ?_⟩
      · unfold ixN
        rw [if_pos (Int.le_refl 0), if_pos (by have := hM.l1; omega)]
        rfl
      have hCl : C.length ≤ 200 := Nat.le_trans (by have := asc_len (lo := 0) hC.asc (fun _ _ => Nat.zero_le _) hC.lt (Nat.zero_le _); omega) hM.l2
      refine ⟨_, rfl, .inl ⟨rfl, _, SqL.of ((upd_ne hDg.symm).trans kg)⟩, g, C.map nI, _, rfl, rfl, (upd_ne hDg.symm).trans kg, sz1 (by rw [List.length_map]; omega), ?_⟩
      have kn9 : NL H6 (upd (upd H7 D (.lst (ms.set 0 .non))) g (.lst (C.map nI ++ [.int 99]))) := (kn.set kD).set ((upd_ne hDg.symm).trans kg)
      have kt9 : (upd (upd H7 D (.lst (ms.set 0 .non))) g (.lst (C.map nI ++ [.int 99]))) t = _ := (upd_ne tg).trans ((upd_ne tD).trans kt)
      have ku9 : (upd (upd H7 D (.lst (ms.set 0 .non))) g (.lst (C.map nI ++ [.int 99]))) u = _ := (upd_ne ug).trans ((upd_ne uD).trans ku)
      have kd9 : (upd (upd H7 D (.lst (ms.set 0 .non))) g (.lst (C.map nI ++ [.int 99]))) d = _ := (upd_ne hgd.symm).trans ((upd_ne hDd.symm).trans kd)
      have kB9 : Bag (upd (upd H7 D (.lst (ms.set 0 .non))) g (.lst (C.map nI ++ [.int 99]))) b lb := (kB.upd nDb nDl).upd (B3.ne ng3) (B3.ne2 ng3)
      clear kn kD kt ku kg kd kB km hDD6 hg6 hdd hm6
      generalize upd (upd H7 D (.lst (ms.set 0 .non))) g (.lst (C.map nI ++ [.int 99])) = H9 at *
      refine ⟨_, rfl, by decide, by decide, for_range (n := (2 : Int).toNat) (fun i σ H' => ∃ y11 y12 y13 : Option V, σ = [some (.ref a), some (.ref b), some (.str (S F0)), some (.ref t), some (.ref u), some (.ref D), some (.ref g), some (.ref x), some (.int (M.length : Int)), some (.ref d), y10, y11, y12, y13, none, none, none, none, none, none, none] ∧ Same H9 H') ⟨none, none, none, rfl, Same.refl _⟩ ?_ ?_⟩
      · rintro i σ H8 hi ⟨y11, y12, y13, rfl, s8⟩
        have hX8 := (hX6.nl kn9).same s8
        obtain ⟨dx, tt, bt, rs', hx, kk⟩ := hX8.at_
        refine ⟨_, rfl, x, dx, _, rfl, hx, rfl, x, F0, M, C, rfl, hX8, fun q1 rs1 nq1 l1 r1 => ?_⟩
        have sq1 := same_upd (o := HO.lst rs1) nq1
        have hXa := hX8.same sq1
        refine ⟨_, rfl, x, dx, _, rfl, sq1 _ _ hx, rfl, x, F0, M, C, rfl, hXa, fun q2 nq2 => ⟨_, _, rfl, ?_⟩⟩
        have sq2 := same_upd (o := HO.lst (C.map nI)) nq2
        have hXb := hXa.same sq2
        have s10 := s8.trans (sq1.trans sq2)
        have hx10 := sq2 _ _ (sq1 _ _ hx)
        have hq1 : (upd (upd H8 q1 (HO.lst rs1)) q2 (HO.lst (C.map nI))) q1 = some (.lst rs1) := sq2 _ _ upd_same
        have hq2 : (upd (upd H8 q1 (HO.lst rs1)) q2 (HO.lst (C.map nI))) q2 = some (.lst (C.map nI)) := upd_same
        have r10 : ∀ (i : Nat) (v : V) (r : List Nat), rs1[i]? = some v → M[i]? = some r → ∃ a, v = V.ref a ∧ SqT K (upd (upd H8 q1 (HO.lst rs1)) q2 (HO.lst (C.map nI))) a (r.map nI) := fun i v r h1 h2 => let ⟨a, e, h⟩ := r1 i v r h1 h2; ⟨a, e, (sq1.trans sq2).tup h⟩
        have hR10 := (hR6.nl kn9).same s10
        have ht10 := s10 _ _ kt9
        have hu10 := s10 _ _ ku9
        have hd10 := s10 _ _ kd9
        have h9q1 : H9 q1 = none := none_same s8 nq1
        have h9q2 : H9 q2 = none := none_same s8 (none_same sq1 nq2)
        have q12 : q1 ≠ q2 := fun z => by rw [← z, upd_same] at nq2; cases nq2
        clear s8 sq1 sq2 hXa hX8 kk hx r1 nq1 nq2
        generalize upd (upd H8 q1 (HO.lst rs1)) q2 (HO.lst (C.map nI)) = H10 at *
        refine ⟨_, rfl, x, CM, dx, _, _, rfl, hx10, MC.c, MC.nf, rfl, _, rfl, x, dx, _, rfl, hx10, x, F0, M, C, rfl, hXb, _, rfl, _, rfl, _, rfl, x, dx, _, rfl, hx10, x, F0, M, C, rfl, hXb, ⟨_, rfl⟩, CM, _, _, _, rfl, rC, vM, (show 6 ≤ sizeLine by decide), fun q3 nq3 => ?_⟩
        have s3 := same_upd (o := HO.lst [V.str (S F0), nI M.length, V.ref q1, V.ref q2, V.str (reprM M.length), V.int 200]) nq3
        have l1000 : F0.length ≤ 1000 := by omega
        refine ⟨_, rfl, _, _, .list [.str (S F0), .int (M.length : Int), .list (M.map dR), .list (C.map dN), .str (reprM M.length), .int 200], rfl, .lst (SqL.of upd_same) (.cons (.str _) (.cons (.int _) (.cons (.lst (SqL.of (s3 _ _ hq1)) (dp_rowsM l1 fun i v r h1 h2 => let ⟨a, e, h⟩ := r10 i v r h1 h2; ⟨a, e, s3.tup h⟩)) (.cons (.lst (SqL.of (s3 _ _ hq2)) (dp_nums C)) (.cons (.str _) (.cons (.int _) .nil)))))),
          .lst (SqL.of (s3 _ _ hd10)) (.cons (.str _) (.cons (.int _) (.cons (.lst (SqL.of (s3 _ _ ht10)) (dp_rowsM hR10.1 fun i v r h1 h2 => let ⟨a, e, h⟩ := hR10.2 i v r h1 h2; ⟨a, e, SqT.of (s3 _ _ h)⟩)) (.cons (.lst (SqL.of (s3 _ _ hu10)) (dp_nums C)) (.cons (.str _) (.cons (.int _) .nil)))))), ?_, fun H11 s11 => ⟨_, rfl, iteF ?_⟩⟩
        · refine deep_list (show 6 ≤ 1000 by decide) fun z hz => ?_
          simp only [List.mem_cons, List.not_mem_nil, or_false] at hz
          rcases hz with rfl | rfl | rfl | rfl | rfl | rfl
          · unfold Deep
            trivial
          · unfold Deep
            trivial
          · exact deep_Ms hM l1000
          · exact deep_Ns (by omega)
          · unfold Deep
            trivial
          · unfold Deep
            trivial
        have s11' := s3.trans s11
        have hq1' := s11' _ _ hq1
        have hq2' := s11' _ _ hq2
        refine ⟨_, rfl, .inl ⟨rfl, _, SqL.of hq1'⟩, q1, _, _, rfl, rfl, hq1', sz1 (by rw [l1]; have := hM.l2; omega), ?_⟩
        refine ⟨_, rfl, .inl ⟨rfl, _, SqL.of ((upd_ne q12.symm).trans hq2')⟩, q2, _, _, rfl, rfl, (upd_ne q12.symm).trans hq2', sz1 (by rw [List.length_map]; omega), ?_⟩
        refine ⟨_, _, _, rfl, fun c o e => ?_⟩
        rw [upd_ne (ne_of_none e h9q2), upd_ne (ne_of_none e h9q1)]
        exact s11' _ _ (s10 _ _ e)
      · rintro σ H8 ⟨y11, y12, y13, rfl, s8⟩
        have hX8 := (hX6.nl kn9).same s8
        have hR8 := (hR6.nl kn9).same s8
        have ht8 := s8 _ _ kt9
        have hu8 := s8 _ _ ku9
        have B8 := kB9.same s8
        clear kd9 hX6 hR6 ht6 hu6 B6 kB9 kt9 ku9 kn9 s8
        have hTab : ∀ {H' : Hp} {tv : V} {M' : List (List Nat)} {rs' : List V}, Sq K H' tv rs' → RowsAt H' rs' M' → TabIn K H' tv rs' M' := fun h1 h2 => ⟨h1, h2.1, fun i v r e1 e2 => let ⟨a, e, h⟩ := h2.2 i v r e1 e2; .inr ⟨a, e, SqT.of h⟩⟩
        have l1000 : F0.length ≤ 1000 := by omega
        -- the twin
        refine ⟨_, rfl, _, rfl, t, rs, rfl, .inl ⟨SqL.of ht8, fun l1 nl1 => ?_⟩⟩
        have z1 := same_upd (o := HO.tup rs) nl1
        refine ⟨_, rfl, u, C.map nI, rfl, .inl ⟨SqL.of (z1 _ _ hu8), fun l2 nl2 => ?_⟩⟩
        have z2 := same_upd (o := HO.tup (C.map nI)) nl2
        refine fun x2 dx2 nx2 ndx2 _ => machine_made MC hb1 l1000 (hTab (.inr ⟨l1, rfl, SqT.of (z2 _ _ upd_same)⟩) (hR8.same (z1.trans z2))) hM (.inr ⟨l2, rfl, SqT.of upd_same⟩) hC nx2 ndx2 fun H9' s9 hX2 => ⟨rfl, ?_⟩
        have s89 := (z1.trans z2).trans s9
        replace hX8 := hX8.same s89
        replace hR8 := hR8.same s89
        replace ht8 := s89 _ _ ht8
        replace hu8 := s89 _ _ hu8
        replace B8 := B8.same s89
        clear z1 z2 s9 s89 nx2 ndx2 nl1 nl2
        obtain ⟨dx, tt, bt, rs', hx, _⟩ := hX8.at_
        obtain ⟨dx2', tt2, bt2, rs2, hx2, _⟩ := hX2.at_
        refine ⟨_, rfl, _, rfl, x, dx, _, _, rfl, hx, .ins hx2, o_eq.nf, x, .ref x2, F0, M, C, rfl, hX8, .inl ⟨x2, F0, M, C, rfl, hX2, true, congrArg V.bl (decide_eq_true ⟨rfl, rfl, rfl⟩), _, rfl, iteF ?_⟩⟩
        refine ⟨_, rfl, _, rfl, x, dx, _, _, rfl, hx, .ins hx2, o_eq.nf, x, .ref x2, F0, M, C, rfl, hX8, .inl ⟨x2, F0, M, C, rfl, hX2, true, congrArg V.bl (decide_eq_true ⟨rfl, rfl, rfl⟩), _, rfl, iteF ?_⟩⟩
        -- no bad states
        refine ⟨_, rfl, _, rfl, fun x3 dx3 nx3 ndx3 _ => machine_made MC hb1 l1000 (hTab (.inl ⟨t, rfl, SqL.of ht8⟩) hR8) hM (B := []) (.inr ⟨ae, rfl, hae _⟩) ⟨.nil, fun _ h => nomatch h⟩ nx3 ndx3 fun H10 s10 hX3 => ⟨rfl, ?_⟩⟩
        obtain ⟨dx3', tt3, bt3, rs3, hx3, _⟩ := hX3.at_
        refine ⟨x3, dx3', _, rfl, hx3, rfl, x3, F0, M, [], rfl, hX3, fun q3 nq3 => ⟨(show 0 ≤ sizeLine by decide), fun q4 nq4 => ?_⟩⟩
        have z3 := same_upd (o := HO.lst []) nq3
        have z4 := same_upd (o := HO.lst []) nq4
        refine ⟨_, _, .list [], rfl, .lst (SqL.of (z4 _ _ upd_same)) .nil, .lst (SqL.of upd_same) .nil, deep_list (show 0 ≤ 1000 by decide) (fun _ h => nomatch h), fun H11 s11 => ⟨_, rfl, iteF ?_⟩⟩
        have s811 := s10.trans (z3.trans (z4.trans s11))
        replace hX8 := hX8.same s811
        replace hR8 := hR8.same s811
        replace ht8 := s811 _ _ ht8
        replace hu8 := s811 _ _ hu8
        replace B8 := B8.same s811
        clear z3 z4 s811 s10 s11 hx3 hX3 nx3 ndx3 nq3 nq4 hx hx2 hX2
        have hM1 := hM.l1
        -- the other bad states
        refine ⟨_, rfl, _, rfl, _, rfl, _, rfl, by omega, by omega, fun D2 hD2 => ?_⟩
        have nuD : u ≠ D2 := ne_of_none hu8 hD2
        refine lc_range (n := M.length) (fun i H' => H' = upd H11 D2 (.lst ((goodL C i).map nI))) rfl ?_ ?_
        · rintro i _ hi rfl
          refine ⟨rfl, ?_⟩
          refine ⟨_, rfl, _, rfl, u, C.map nI, rfl, .inl (SqL.of ((upd_ne nuD).trans hu8)), rfl, flat_N C, _, rfl, ?_⟩
          have e : inV (V.int (0 + (i : Int))) (C.map nI) = decide (i ∈ C) := by
            rw [Int.zero_add]
            exact inV_N i C
          have il := goodL_len C i
          by_cases hm : i ∈ C
          · rw [show (if true = true then !inV (V.int (0 + (i : Int))) (C.map nI) else inV (V.int (0 + (i : Int))) (C.map nI)) = false from by rw [if_pos rfl, e, decide_eq_true hm]; rfl]
            refine iteF ?_
            rw [goodL_succ, if_pos hm, List.append_nil]
          · rw [show (if true = true then !inV (V.int (0 + (i : Int))) (C.map nI) else inV (V.int (0 + (i : Int))) (C.map nI)) = true from by rw [if_pos rfl, e, decide_eq_false hm]; rfl]
            refine iteT ⟨_, rfl, _, upd_same, by rw [List.length_map]; exact sz1 (by omega), ?_⟩
            rw [upd_upd, goodL_succ, if_neg hm, List.map_append, Int.zero_add]
            rfl
        · rintro _ rfl
          have z1 := same_upd (o := HO.lst ((goodL C M.length).map nI)) hD2
          refine fun x4 dx4 nx4 ndx4 _ => machine_made MC hb1 l1000 (hTab (.inl ⟨t, rfl, SqL.of (z1 _ _ ht8)⟩) (hR8.same z1)) hM (.inl ⟨D2, rfl, SqL.of upd_same⟩) (goodL_ok C M.length) nx4 ndx4 fun H12 s12 hX4 => ⟨rfl, ?_⟩
          have s812 := z1.trans s12
          replace hX8 := hX8.same s812
          replace hR8 := hR8.same s812
          replace ht8 := s812 _ _ ht8
          replace hu8 := s812 _ _ hu8
          replace B8 := B8.same s812
          clear z1 s812 s12 nx4 ndx4 nuD hD2
          -- one more state
          obtain ⟨v0, hv0⟩ : ∃ v0, rs[0]? = some v0 := ⟨_, List.getElem?_eq_getElem (by rw [hR8.1]; omega)⟩
          obtain ⟨r0, hr0⟩ : ∃ r0, M[0]? = some r0 := ⟨_, List.getElem?_eq_getElem (by omega)⟩
          refine ⟨_, rfl, _, rfl, _, rfl, t, _, _, _, rfl, rfl, SqL.of ht8, atI_of (j := 0) rfl hv0, (show 1 ≤ sizeLine by decide), fun q3 nq3 => ?_⟩
          have z3 := same_upd (o := HO.lst [v0]) nq3
          refine ⟨t, q3, rs, [v0], rfl, rfl, z3 _ _ ht8, upd_same, by rw [hR8.1]; exact Nat.le_of_lt (sz1 (show M.length + 1 ≤ 100000 by omega)), fun q4 nq4 => ?_⟩
          have z4 := same_upd (o := HO.lst (rs ++ [v0])) nq4
          obtain ⟨a0, rfl, ha0⟩ := hR8.2 0 _ _ hv0 hr0
          have z34 := z3.trans z4
          refine ⟨_, rfl, fun x5 dx5 nx5 ndx5 _ => machine_made MC hb1 l1000 (hTab (.inl ⟨q4, rfl, SqL.of upd_same⟩) ((hR8.same z34).snoc (z34 _ _ ha0))) (tab_more hM (List.mem_of_getElem? hr0) (by omega)) (.inl ⟨u, rfl, SqL.of (z34 _ _ hu8)⟩) ⟨hC.asc, fun n hn => by rw [List.length_append]; exact Nat.lt_add_right _ (hC.lt n hn)⟩ nx5 ndx5 fun H13 s13 hX5 => ⟨rfl, ?_⟩⟩
          refine ⟨(show 2 ≤ sizeLine by decide), fun oo noo => ?_⟩
          have zo := same_upd (o := HO.lst [V.ref x4, V.ref x5]) noo
          have hX5o := hX5.same zo
          have s813 := z34.trans s13
          have hX4o := (hX4.same s813).same zo
          replace hX8 := hX8.same s813
          replace hR8 := hR8.same s813
          replace ht8 := s813 _ _ ht8
          replace hu8 := s813 _ _ hu8
          replace B8 := B8.same s813
          have nob : oo ≠ b := B8.ne noo
          have nol : oo ≠ lb := B8.ne2 noo
          have ot : oo ≠ t := (ne_of_none ht8 noo).symm
          have ou : oo ≠ u := (ne_of_none hu8 noo).symm
          replace hX8 := hX8.same zo
          replace hR8 := hR8.same zo
          replace ht8 := zo _ _ ht8
          replace hu8 := zo _ _ hu8
          replace B8 := B8.same zo
          have hO : OthersAt K CM F0 M C (upd H13 oo (HO.lst [V.ref x4, V.ref x5])) [V.ref x4, V.ref x5] := .cons hX4o (fun e => goodL_ne (by omega) e.2.2) (.cons hX5o (fun e => by
            have := congrArg List.length e.2.1
            rw [List.length_append] at this
            have h1 : [r0].length = 1 := rfl
            omega) (fun _ h => nomatch h))
          have hoo : (upd H13 oo (HO.lst [V.ref x4, V.ref x5])) oo = some (.lst [V.ref x4, V.ref x5]) := upd_same
          clear hX4o hX5o hX4 hX5 s813 z3 z4 z34 s13 zo noo nq3 nq4 nx5 ndx5 ha0
          generalize upd H13 oo (HO.lst [V.ref x4, V.ref x5]) = H14 at *
          refine ⟨fun σ H' => ∃ (y10 y16 y17 : Option V) (l : List V), σ = [some (.ref a), some (.ref b), some (.str (S F0)), some (.ref t), some (.ref u), some (.ref D), some (.ref g), some (.ref x), some (.int (M.length : Int)), some (.ref d), y10, y11, y12, y13, some (.ref x2), some (.ref oo), y16, y17, none, none, none] ∧
            MachAt K CM H' x F0 M C ∧ RowsAt H' rs M ∧ H' t = some (.lst rs) ∧ H' u = some (.lst (C.map nI)) ∧ H' oo = some (.lst l) ∧ OthersAt K CM F0 M C H' l ∧ l.length ≤ 3, ?_, ?_⟩
          · refine ⟨_, rfl, _, _, rfl, rfl, _, rfl, ite_dec (fun hsz1 => ?_) (fun _ => ⟨_, _, _, _, rfl, hX8, hR8, ht8, hu8, hoo, hO, (show 2 ≤ 3 by decide)⟩)⟩
            refine ⟨_, rfl, _, rfl, b, lb, _, rfl, B8, by omega, by omega, fun H15 z z0 z1 b15 B15 => ?_⟩
            refine ⟨_, rfl, _, rfl, _, rfl, (Nat.le_of_lt (sz1 (Nat.le_trans l1000 (by decide)))), b, lb, _, rfl, B15, (show 0 < (F0.length : Int) by omega), (show (F0.length : Int) < 1073741824 by omega), fun H16 y yz0 yz1 b16 B16 => ⟨_, _, rfl, ?_⟩⟩
            obtain ⟨k, rfl⟩ := Int.eq_ofNat_of_zero_le z0
            obtain ⟨j, rfl⟩ := Int.eq_ofNat_of_zero_le yz0
            have hk : k < M.length := by omega
            have hj : j < F0.length := by
              have : (j : Int) < (F0.length : Int) := yz1
              omega
            obtain ⟨ob8, hob8⟩ := B8.lst
            have bb : But b H14 H16 := b15.trans b16
            have hnl : NL H14 H16 := fun c o e n => bb _ _ (fun z => by rw [z, hob8] at e; cases e; exact n _ rfl) e
            replace hX8 := hX8.nl hnl
            replace hR8 := hR8.nl hnl
            replace ht8 := bb _ _ ntb ht8
            replace hu8 := bb _ _ nub hu8
            replace hoo := bb _ _ nob hoo
            replace hO := hO.nl hnl
            obtain ⟨vk, hvk⟩ : ∃ vk, rs[k]? = some vk := ⟨_, List.getElem?_eq_getElem (by rw [hR8.1]; omega)⟩
            obtain ⟨r, hMk⟩ : ∃ r, M[k]? = some r := ⟨_, List.getElem?_eq_getElem hk⟩
            obtain ⟨ak, rfl, hak⟩ := hR8.2 k _ _ hvk hMk
            obtain ⟨hrl, hrn⟩ := hM.rows r (List.mem_of_getElem? hMk)
            obtain ⟨e, hrj⟩ : ∃ e, r[j]? = some e := ⟨_, List.getElem?_eq_getElem (by omega)⟩
            have heM : e < M.length := hrn e (List.mem_of_getElem? hrj)
            clear bb b15 b16 B15 B16 hob8 hnl B8 z0 z1 yz0 yz1
            refine ⟨_, rfl, _, rfl, t, rs, _, _, rfl, rfl, SqL.of ht8, atI_of rfl hvk, ak, r.map nI, rfl, .inr (SqT.of hak), fun rr nrr => ?_⟩
            have zr := same_upd (o := HO.lst (r.map nI)) nrr
            have rt : rr ≠ t := (ne_of_none ht8 nrr).symm
            have ru : rr ≠ u := (ne_of_none hu8 nrr).symm
            have ro : rr ≠ oo := (ne_of_none hoo nrr).symm
            replace hX8 := hX8.same zr
            replace hR8 := hR8.same zr
            replace ht8 := zr _ _ ht8
            replace hu8 := zr _ _ hu8
            replace hoo := zr _ _ hoo
            replace hO := hO.same zr
            have hrr : (upd H16 rr (HO.lst (r.map nI))) rr = _ := upd_same
            clear hak
            generalize upd H16 rr (HO.lst (r.map nI)) = H17 at *
            refine ⟨_, rfl, _, rfl, rr, r.map nI, _, nI e, rfl, rfl, SqL.of hrr, atI_of rfl (by rw [List.getElem?_map, hrj]; rfl), _, _, rfl, rfl, .inl ⟨_, rfl, _, rfl, _, _, rfl, rfl, by show 0 < (M.length : Int); omega, ?_⟩⟩
            refine ⟨_, rfl, _, rfl, rr, r.map nI, _, j, rfl, rfl, hrr, ?_, ?_⟩
            · unfold ixN
              rw [if_pos (by omega), if_pos (by rw [List.length_map]; omega)]
              rfl
            have e1 : (r.map nI).set j (V.int (((e : Int) + 1) % (M.length : Int))) = (r.set j ((e + 1) % M.length)).map nI := by
              rw [List.map_set]
              rfl
            rw [e1]
            generalize hr' : r.set j ((e + 1) % M.length) = r' at *
            have hb17 : But rr H17 (upd H17 rr (HO.lst (r'.map nI))) := fun c o n e => by
              rw [upd_ne n]
              exact e
            have hnl2 : NL H17 (upd H17 rr (HO.lst (r'.map nI))) := NL.refl.set hrr
            replace hX8 := hX8.nl hnl2
            replace hR8 := hR8.nl hnl2
            replace ht8 := hb17 _ _ rt.symm ht8
            replace hu8 := hb17 _ _ ru.symm hu8
            replace hoo := hb17 _ _ ro.symm hoo
            replace hO := hO.nl hnl2
            have hrr2 : (upd H17 rr (HO.lst (r'.map nI))) rr = some (.lst (r'.map nI)) := upd_same
            clear hb17 hnl2 hrr nrr zr e1
            generalize upd H17 rr (HO.lst (r'.map nI)) = H18 at *
            have hr'l : r'.length = F0.length := by rw [← hr', List.length_set]; exact hrl
            have hr'n : ∀ n ∈ r', n < M.length := fun n hn => by
              rw [← hr'] at hn
              rcases List.mem_or_eq_of_mem_set hn with e2 | e2
              · exact hrn n e2
              · rw [e2]
                exact Nat.mod_lt _ (by omega)
            have hr'j : r'[j]? = some ((e + 1) % M.length) := by rw [← hr', List.getElem?_set_self (by omega)]
            have hdif : M.set k r' ≠ M := fun z => by
              have e2 : (M.set k r')[k]? = some r' := List.getElem?_set_self hk
              rw [z, hMk] at e2
              cases e2
              rw [hrj] at hr'j
              have e3 : e = (e + 1) % M.length := Option.some.inj hr'j
              by_cases hlt : e + 1 < M.length
              · rw [Nat.mod_eq_of_lt hlt] at e3
                omega
              · rw [show e + 1 = M.length by omega, Nat.mod_self] at e3
                omega
            refine ⟨_, rfl, .inl ⟨rfl, _, SqL.of hoo⟩, _, rfl, _, rfl, _, rfl, _, rfl, t, rs, rfl, SqL.of ht8, fun p1 np1 => ?_⟩
            rw [cutV_to]
            have y1 := same_upd (o := HO.lst (rs.take k)) np1
            refine ⟨_, rfl, (show 1 ≤ sizeLine by decide), fun p2 np2 => ?_⟩
            have y2 := same_upd (o := HO.lst [V.ref rr]) np2
            refine ⟨p1, p2, _, _, rfl, rfl, y2 _ _ upd_same, upd_same, ?_, fun p3 np3 => ?_⟩
            · rw [List.length_take]
              have h1 : [V.ref rr].length = 1 := rfl
              exact Nat.le_of_lt (sz1 (by omega))
            have y3 := same_upd (o := HO.lst (rs.take k ++ [V.ref rr])) np3
            have y13 := y1.trans (y2.trans y3)
            refine ⟨_, rfl, _, rfl, _, _, rfl, rfl, _, rfl, t, rs, rfl, SqL.of (y13 _ _ ht8), fun p4 np4 => ?_⟩
            rw [show cutV rs (some ((k : Int) + 1)) none = rs.drop (k + 1) from cutV_from (k := k + 1) (by rw [hR8.1]; omega)]
            have y4 := same_upd (o := HO.lst (rs.drop (k + 1))) np4
            refine ⟨p3, p4, _, _, rfl, rfl, y4 _ _ upd_same, upd_same, ?_, fun p5 np5 => ?_⟩
            · rw [List.length_append, List.length_take, List.length_drop]
              have h1 : [V.ref rr].length = 1 := rfl
              have h2 := hR8.1
              exact Nat.le_of_lt (sz1 (by omega))
            have y5 := same_upd (o := HO.lst (rs.take k ++ [V.ref rr] ++ rs.drop (k + 1))) np5
            have y15 := y13.trans (y4.trans y5)
            have hT6 : TabIn K (upd (upd (upd (upd (upd H18 p1 (HO.lst (rs.take k))) p2 (HO.lst [V.ref rr])) p3 (HO.lst (rs.take k ++ [V.ref rr]))) p4 (HO.lst (rs.drop (k + 1)))) p5 (HO.lst (rs.take k ++ [V.ref rr] ++ rs.drop (k + 1)))) (.ref p5) (rs.take k ++ [V.ref rr] ++ rs.drop (k + 1)) (M.set k r') := by
              refine ⟨.inl ⟨p5, rfl, SqL.of upd_same⟩, ?_, fun i v q h1 h2 => ?_⟩
              · rw [set_split (by rw [hR8.1]; exact hk), List.length_set, List.length_set, hR8.1]
              · rw [set_split (by rw [hR8.1]; exact hk)] at h1
                by_cases hik : k = i
                · subst hik
                  rw [List.getElem?_set_self (by rw [hR8.1]; exact hk)] at h1
                  rw [List.getElem?_set_self hk] at h2
                  cases h1
                  cases h2
                  exact .inl ⟨rr, rfl, SqL.of (y15 _ _ hrr2)⟩
                · rw [List.getElem?_set_ne hik] at h1 h2
                  obtain ⟨a1, e1, h3⟩ := hR8.2 i v q h1 h2
                  exact .inr ⟨a1, e1, SqT.of (y15 _ _ h3)⟩
            refine ⟨_, rfl, fun x6 dx6 nx6 ndx6 _ => machine_made MC hb1 l1000 hT6 (tab_set hM ⟨hr'l, hr'n⟩) (.inl ⟨u, rfl, SqL.of (y15 _ _ hu8)⟩) ⟨hC.asc, fun n hn => by rw [List.length_set]; exact hC.lt n hn⟩ nx6 ndx6 fun H19 s19 hX6' => ⟨rfl, ?_⟩⟩
            have y19 := y15.trans s19
            have hoo19 := y19 _ _ hoo
            have hnl3 : NL H18 (upd H19 oo (HO.lst ([V.ref x4, V.ref x5] ++ [V.ref x6]))) := (NL.refl.same y19).set hoo19
            refine ⟨oo, _, _, rfl, rfl, hoo19, sz1 (show 2 ≤ 100000 by decide), some (.ref rr), some (.int (k : Int)), some (.int (j : Int)), [V.ref x4, V.ref x5] ++ [V.ref x6], rfl, hX8.nl hnl3, hR8.nl hnl3, (upd_ne ot.symm).trans (y19 _ _ ht8), (upd_ne ou.symm).trans (y19 _ _ hu8), upd_same, (hO.nl hnl3).snoc (hX6'.nl (NL.refl.set hoo19)) (fun e => hdif e.2.1), (show 3 ≤ 3 by decide)⟩
          · rintro σ H15 ⟨y10', y16, y17, l, rfl, hX9, hR9, ht9, hu9, hoo9, hO9, hl3⟩
            clear hX8 hR8 ht8 hu8 hoo hO B8
            refine ⟨_, rfl, fun ga nga => ?_⟩
            refine lc_it walk_str (fun i H' => H' = upd H15 ga (.lst (((lower.take i).filter fun c => !decide (c ∈ F0)).map sgn))) rfl (fun _ _ _ _ => trivial) ?_ ?_
            · rintro i x _ _ hi rfl ⟨rfl, c, hc, rfl⟩
              have e : lower.take (i + 1) = lower.take i ++ [c] := by
                rw [List.take_add_one]
                have : lower[i]? = some c := by
                  rw [show lower = ("abcdefghijklmnopqrstuvwxyz" : Str).cps.toList from rfl, Array.getElem?_toList]
                  exact hc
                rw [this]
                rfl
              refine ⟨rfl, _, rfl, _, rfl, c, S F0, rfl, rfl, _, rfl, ?_⟩
              rw [e, List.filter_append]
              by_cases hm : c ∈ F0
              · rw [show (!decide (c ∈ (S F0).cps.toList)) = false from by rw [decide_eq_true (show c ∈ (S F0).cps.toList from hm)]; rfl]
                refine iteF ?_
                rw [show ([c].filter fun c => !decide (c ∈ F0)) = [] from by rw [List.filter_cons, decide_eq_true hm]; rfl, List.append_nil]
              · rw [show (!decide (c ∈ (S F0).cps.toList)) = true from by rw [decide_eq_false (show c ∉ (S F0).cps.toList from hm)]; rfl]
                refine iteT ⟨_, rfl, _, upd_same, ?_, ?_⟩
                · rw [List.length_map]
                  have h1 := List.length_filter_le (fun c => !decide (c ∈ F0)) (lower.take i)
                  have h2 : (lower.take i).length ≤ lower.length := by rw [List.length_take]; exact Nat.min_le_right _ _
                  rw [lower_len] at h2
                  exact sz1 (by omega)
                · rw [upd_upd, show ([c].filter fun c => !decide (c ∈ F0)) = [c] from by rw [List.filter_cons, decide_eq_false hm]; rfl, List.map_append]
                  rfl
            rintro _ rfl
            rw [show lower.take ("abcdefghijklmnopqrstuvwxyz" : Str).cps.size = lower from List.take_of_length_le (by rw [lower_len]; decide +kernel)]
            have hg1 : 20 ≤ (lower.filter fun c => !decide (c ∈ F0)).length := by
              have := gone_pos lower F0 lower_nd
              rw [lower_len] at this
              omega
            have hg3 : ∀ c ∈ (lower.filter fun c => !decide (c ∈ F0)), c ∉ F0 ∧ c ∈ lower := fun c hc => by
              have h := (List.mem_filter.mp hc).2
              refine ⟨fun z => ?_, (List.mem_filter.mp hc).1⟩
              rw [decide_eq_true z] at h
              cases h
            generalize (lower.filter fun c => !decide (c ∈ F0)) = gl at hg1 hg3
            obtain ⟨gz, gr, rfl⟩ : ∃ gz gr, gl = gz :: gr := by
              cases gl with
              | nil => exact absurd hg1 (by decide)
              | cons a r => exact ⟨a, r, rfl⟩
            obtain ⟨hgz, hgl⟩ := hg3 gz List.mem_cons_self
            have sg := same_upd (o := HO.lst ((gz :: gr).map sgn)) nga
            refine ⟨ga, _, 0, _, rfl, rfl, SqL.of upd_same, atI_of (j := 0) rfl rfl, ?_⟩
            have hdl : (gz :: F0.drop 1).length = F0.length := by
              rw [List.length_cons, List.length_drop]
              omega
            refine ⟨_, rfl, .inl ⟨rfl, _, SqL.of (sg _ _ hoo9)⟩, ⟨_, rfl⟩, _, rfl, _, rfl, _, rfl, S F0, rfl, Nat.le_of_lt (sz1 (show F0.length ≤ 100000 by omega)), ?_⟩
            rw [show cutS (S F0) (some 1) none = S (F0.drop 1) from S_sub F0 1]
            refine ⟨S [gz], S (F0.drop 1), rfl, rfl, Nat.le_of_lt (sz1 (show 1 + (F0.drop 1).length ≤ 100000 by rw [List.length_drop]; omega)), ?_⟩
            rw [S_cat]
            refine ⟨S (gz :: F0.drop 1), rfl, Nat.le_of_lt (sz1 (show (gz :: F0.drop 1).length ≤ 100000 by omega)), fun p1 np1 => ?_⟩
            have y1 := same_upd (o := HO.lst ((S (gz :: F0.drop 1)).cps.toList.map sgn)) np1
            refine ⟨p1, (gz :: F0.drop 1).map one1S, rfl, SqL.of (by rw [upd_same, List.map_map]; rfl), fun ys p2 pm hs np2 => ?_⟩
            obtain ⟨cs, rfl, hcl, hca, hcm, hcz⟩ := odd_faces hgz hgl hsub hF0 pm hs
            have y2 := same_upd (o := HO.lst ((cs.map one1S).map V.str)) np2
            refine ⟨("" : Str), p2, cs.map one1S, rfl, rfl, .inl (SqL.of upd_same), ?_, ?_⟩
            · rw [sum_ones, List.length_map]
              show cs.length + cs.length * 0 ≤ _
              omega
            rw [join_signs]
            have sg3 := sg.trans (y1.trans y2)
            have hb7 : bFaces (.str (S cs)) = true := choice_asc hca hcm (by omega) (by omega)
            refine ⟨_, rfl, _, rfl, fun x7 dx7 nx7 ndx7 _ => machine_made MC hb7 (by omega) (hTab (.inl ⟨t, rfl, SqL.of (sg3 _ _ ht9)⟩) (hR9.same sg3)) (hcl.symm ▸ hM) (.inl ⟨u, rfl, SqL.of (sg3 _ _ hu9)⟩) hC nx7 ndx7 fun H20 s20 hX7 => ⟨rfl, ?_⟩⟩
            have s1520 := sg3.trans s20
            have hoo20 := s1520 _ _ hoo9
            refine ⟨oo, _, _, rfl, rfl, hoo20, sz1 (by omega), ?_⟩
            have hnl4 : NL H15 (upd H20 oo (HO.lst (l ++ [V.ref x7]))) := (NL.refl.same s1520).set hoo20
            have hX10 := hX9.nl hnl4
            have ht10 : (upd H20 oo (HO.lst (l ++ [V.ref x7]))) t = some (.lst rs) := (upd_ne ot.symm).trans (s1520 _ _ ht9)
            have hO10 := (hO9.nl hnl4).snoc (hX7.nl (NL.refl.set hoo20)) (fun e => hgz (by
              have e1 : cs = F0 := e.1
              rw [← e1]
              exact hcz))
            have hoo10 : (upd H20 oo (HO.lst (l ++ [V.ref x7]))) oo = some (.lst (l ++ [V.ref x7])) := upd_same
            have hl4 : (l ++ [V.ref x7]).length ≤ 4 := by
              rw [List.length_append]
              show l.length + 1 ≤ 4
              omega
            clear hX7 hoo20 s1520 s20 sg3 hnl4 y1 y2 sg nx7 ndx7 hX9 hR9 ht9 hu9 hoo9 hO9
            generalize upd H20 oo (HO.lst (l ++ [V.ref x7])) = H21 at *
            generalize l ++ [V.ref x7] = l' at *
            obtain ⟨dx9, tt9, bt9, rs9, hx9, _⟩ := hX10.at_
            -- none of the others is equal
            refine ⟨_, rfl, oo, rfl, ⟨_, SqL.of hoo10⟩, fun D3 nD3 => ?_⟩
            have oD3 : oo ≠ D3 := ne_of_none hoo10 nD3
            have z3 := same_upd (o := HO.lst []) nD3
            refine lc_list (xs := l') (fun i H' => H' = upd H21 D3 (.lst ((List.replicate i false).map V.bl))) rfl (fun i H' _ e => by
              rw [e]
              exact SqL.of ((upd_ne oD3).trans hoo10)) ?_ ?_
            · rintro i v _ hv rfl
              obtain ⟨y, F', M', B', rfl, hMy, hne⟩ := hO10 v (List.mem_of_getElem? hv)
              have sD : Same H21 (upd H21 D3 (.lst ((List.replicate i false).map V.bl))) := same_upd nD3
              obtain ⟨dy, tty, bty, rsy, hy, _⟩ := (hMy.same sD).at_
              have hil : i < l'.length := (List.getElem?_eq_some_iff.mp hv).1
              refine ⟨rfl, _, rfl, _, rfl, y, dy, _, _, rfl, hy, .ins (sD _ _ hx9), o_eq.nf, y, .ref x, F', M', B', rfl, hMy.same sD, .inl ⟨x, F0, M, C, rfl, hX10.same sD, false, congrArg V.bl (decide_eq_false hne), _, upd_same, by rw [List.length_map, List.length_replicate]; exact sz1 (by omega), ?_⟩⟩
              rw [upd_upd, List.replicate_succ', List.map_append]
              rfl
            rintro _ rfl
            have sD : Same H21 (upd H21 D3 (.lst ((List.replicate l'.length false).map V.bl))) := same_upd nD3
            refine ⟨D3, List.replicate l'.length false, rfl, SqL.of upd_same, ?_⟩
            rw [show (List.replicate l'.length false).any id = false from by simp]
            refine ⟨_, rfl, _, rfl, iteT ?_⟩
            have hx10 := sD _ _ hx9
            have hX11 := hX10.same sD
            refine ⟨_, rfl, _, rfl, x, dx9, _, _, rfl, hx10, .lst (sD _ _ ht10), nfL, x, .ref t, F0, M, C, rfl, hX11, .inr ⟨_, tyL (SqL.of (sD _ _ ht10)), kL, false, rfl, _, rfl, iteT ?_⟩⟩
            exact ⟨_, rfl, x, dx9, _, _, rfl, hx10, .non, nfN, x, .non, F0, M, C, rfl, hX11, .inr ⟨_, .base .non, kN, false, rfl, _, rfl, q _⟩⟩
end
end FW
namespace FW
open PySem PySem.Spec PyProof.Rows L2
theorem all_mk {l : PySem.W.OpenLaw} {w : World} {K : PySem.W.Frag} {h : Heap} {mg : Str → Option Value} {fa : Addr} {CM f_is_string f_is_ascending f_is_choice f_is_faces f_is_integer f_is_number f_is_row f_check_table f_check_bad f_Mi T_Mi ae p_size f_M_size f_M_table f_M_bad f_M_eq f_M_repr f__law_open f__law_draw f__law_letters f__law_some_faces f__law_some_machine f__law_same f_law : Addr} {tM tk__LOWER tk__MOST_FACES : Tok} {oc_is_string kV_is_string dc_is_string pm_is_string cd_is_string ct_is_string oc_is_ascending kV_is_ascending dc_is_ascending pm_is_ascending cd_is_ascending ct_is_ascending oc_is_choice kV_is_choice dc_is_choice pm_is_choice cd_is_choice ct_is_choice oc_is_faces kV_is_faces dc_is_faces pm_is_faces cd_is_faces ct_is_faces oc_is_integer kV_is_integer dc_is_integer pm_is_integer cd_is_integer ct_is_integer oc_is_number kV_is_number dc_is_number pm_is_number cd_is_number ct_is_number oc_is_row kV_is_row dc_is_row pm_is_row cd_is_row ct_is_row oc_check_table kV_check_table dc_check_table pm_check_table cd_check_table ct_check_table oc_check_bad kV_check_bad dc_check_bad pm_check_bad cd_check_bad ct_check_bad oc_Mi kV_Mi dc_Mi pm_Mi cd_Mi ct_Mi ot_Mi oc_M_size kV_M_size dc_M_size pm_M_size cd_M_size ct_M_size oc_M_table kV_M_table dc_M_table pm_M_table cd_M_table ct_M_table oc_M_bad kV_M_bad dc_M_bad pm_M_bad cd_M_bad ct_M_bad oc_M_eq kV_M_eq dc_M_eq pm_M_eq cd_M_eq ct_M_eq oc_M_repr kV_M_repr dc_M_repr pm_M_repr cd_M_repr ct_M_repr oc__law_open kV__law_open dc__law_open pm__law_open cd__law_open ct__law_open oc__law_draw kV__law_draw dc__law_draw pm__law_draw cd__law_draw ct__law_draw oc__law_letters kV__law_letters dc__law_letters pm__law_letters cd__law_letters ct__law_letters oc__law_some_faces kV__law_some_faces dc__law_some_faces pm__law_some_faces cd__law_some_faces ct__law_some_faces oc__law_some_machine kV__law_some_machine dc__law_some_machine pm__law_some_machine cd__law_some_machine ct__law_some_machine oc__law_same kV__law_same dc__law_same pm__law_same cd__law_same ct__law_same oc_law kV_law dc_law pm_law cd_law ct_law : Value} {od_is_string an_is_string od_is_ascending an_is_ascending od_is_choice an_is_choice od_is_faces an_is_faces od_is_integer an_is_integer od_is_number an_is_number od_is_row an_is_row od_check_table an_check_table od_check_bad an_check_bad od_Mi an_Mi dt_Mi da_Mi od_M_size an_M_size od_M_table an_M_table od_M_bad an_M_bad od_M_eq an_M_eq od_M_repr an_M_repr od__law_open an__law_open od__law_draw an__law_draw od__law_letters an__law_letters od__law_some_faces an__law_some_faces od__law_some_machine an__law_some_machine od__law_same an__law_same od_law an_law : Option Addr} {sl_is_string sl_is_ascending sl_is_choice sl_is_faces sl_is_integer sl_is_number sl_is_row sl_check_table sl_check_bad sl_Mi st_Mi sa_Mi sl_M_size sl_M_table sl_M_bad sl_M_eq sl_M_repr sl__law_open sl__law_draw sl__law_letters sl__law_some_faces sl__law_some_machine sl__law_same sl_law : Array (Option Value)} {nt_Mi na_Mi : Nat} {r_size : List Value} (X : K.In h) (G : h.Ns mainGlobals mg) (hfa : mg "law" = some (.ref fa))
    (M_g : PySem.W.nsIn K mainGlobals "Machine" = some (some (.ref CM)))
    (M_pg : PySem.W.plainGet K CM Str.empty = true)
    (M_hd : PySem.W.hasDictIn K CM = true)
    (M_po : PySem.W.plainOver K CM = true)
    (M_sa : PySem.W.findIn K (.ref CM) "__setattr__" = some (some (.builtin "object.__setattr__")))
    (M_nf : PySem.W.findIn K (.ref CM) "faces" = some none)
    (M_nt : PySem.W.findIn K (.ref CM) "_table" = some none)
    (M_nb : PySem.W.findIn K (.ref CM) "_bad" = some none)
    (M_mk : PySem.W.makesIn K CM = true)
    (M_kp : PySem.W.keepIn K (.ref CM) = true)
    (M_rd : PySem.W.readsIn K CM (.type "type") = true)
    (M_sg : PySem.W.specialIn K (.ref CM) "__getattribute__" = some (some (.builtin "type.__getattribute__")))
    (M_most : PySem.W.findCls K (.ref CM) (.type "type") "MOST" = some (.val (.int 200 tM)))
    (z__LOWER : PySem.W.nsIn K mainGlobals "_LOWER" = some (some (.str "abcdefghijklmnopqrstuvwxyz" tk__LOWER)))
    (z__MOST_FACES : PySem.W.nsIn K mainGlobals "_MOST_FACES" = some (some (.int 6 tk__MOST_FACES)))
    (a_is_string : PySem.W.nsIn K mainGlobals "is_string" = some (some (.ref f_is_string)))
    (l_is_string : K.lookup f_is_string = some ⟨oc_is_string, od_is_string, .func (PySem.W.fnOf "is_string" "is_string" (defArgs s_is_string) (defBody s_is_string) (defScope s_is_string) .none kV_is_string dc_is_string pm_is_string an_is_string cd_is_string ct_is_string), sl_is_string⟩)
    (c_is_string : PySem.W.codeIn K cd_is_string "is_string" = true)
    (k_is_string : PySem.W.keepIn K (.ref f_is_string) = true)
    (a_is_ascending : PySem.W.nsIn K mainGlobals "is_ascending" = some (some (.ref f_is_ascending)))
    (l_is_ascending : K.lookup f_is_ascending = some ⟨oc_is_ascending, od_is_ascending, .func (PySem.W.fnOf "is_ascending" "is_ascending" (defArgs s_is_ascending) (defBody s_is_ascending) (defScope s_is_ascending) .none kV_is_ascending dc_is_ascending pm_is_ascending an_is_ascending cd_is_ascending ct_is_ascending), sl_is_ascending⟩)
    (c_is_ascending : PySem.W.codeIn K cd_is_ascending "is_ascending" = true)
    (k_is_ascending : PySem.W.keepIn K (.ref f_is_ascending) = true)
    (a_is_choice : PySem.W.nsIn K mainGlobals "is_choice" = some (some (.ref f_is_choice)))
    (l_is_choice : K.lookup f_is_choice = some ⟨oc_is_choice, od_is_choice, .func (PySem.W.fnOf "is_choice" "is_choice" (defArgs s_is_choice) (defBody s_is_choice) (defScope s_is_choice) .none kV_is_choice dc_is_choice pm_is_choice an_is_choice cd_is_choice ct_is_choice), sl_is_choice⟩)
    (c_is_choice : PySem.W.codeIn K cd_is_choice "is_choice" = true)
    (k_is_choice : PySem.W.keepIn K (.ref f_is_choice) = true)
    (a_is_faces : PySem.W.nsIn K mainGlobals "is_faces" = some (some (.ref f_is_faces)))
    (l_is_faces : K.lookup f_is_faces = some ⟨oc_is_faces, od_is_faces, .func (PySem.W.fnOf "is_faces" "is_faces" (defArgs s_is_faces) (defBody s_is_faces) (defScope s_is_faces) .none kV_is_faces dc_is_faces pm_is_faces an_is_faces cd_is_faces ct_is_faces), sl_is_faces⟩)
    (c_is_faces : PySem.W.codeIn K cd_is_faces "is_faces" = true)
    (k_is_faces : PySem.W.keepIn K (.ref f_is_faces) = true)
    (a_is_integer : PySem.W.nsIn K mainGlobals "is_integer" = some (some (.ref f_is_integer)))
    (l_is_integer : K.lookup f_is_integer = some ⟨oc_is_integer, od_is_integer, .func (PySem.W.fnOf "is_integer" "is_integer" (defArgs s_is_integer) (defBody s_is_integer) (defScope s_is_integer) .none kV_is_integer dc_is_integer pm_is_integer an_is_integer cd_is_integer ct_is_integer), sl_is_integer⟩)
    (c_is_integer : PySem.W.codeIn K cd_is_integer "is_integer" = true)
    (k_is_integer : PySem.W.keepIn K (.ref f_is_integer) = true)
    (a_is_number : PySem.W.nsIn K mainGlobals "is_number" = some (some (.ref f_is_number)))
    (l_is_number : K.lookup f_is_number = some ⟨oc_is_number, od_is_number, .func (PySem.W.fnOf "is_number" "is_number" (defArgs s_is_number) (defBody s_is_number) (defScope s_is_number) .none kV_is_number dc_is_number pm_is_number an_is_number cd_is_number ct_is_number), sl_is_number⟩)
    (c_is_number : PySem.W.codeIn K cd_is_number "is_number" = true)
    (k_is_number : PySem.W.keepIn K (.ref f_is_number) = true)
    (a_is_row : PySem.W.nsIn K mainGlobals "is_row" = some (some (.ref f_is_row)))
    (l_is_row : K.lookup f_is_row = some ⟨oc_is_row, od_is_row, .func (PySem.W.fnOf "is_row" "is_row" (defArgs s_is_row) (defBody s_is_row) (defScope s_is_row) .none kV_is_row dc_is_row pm_is_row an_is_row cd_is_row ct_is_row), sl_is_row⟩)
    (c_is_row : PySem.W.codeIn K cd_is_row "is_row" = true)
    (k_is_row : PySem.W.keepIn K (.ref f_is_row) = true)
    (a_check_table : PySem.W.nsIn K mainGlobals "check_table" = some (some (.ref f_check_table)))
    (l_check_table : K.lookup f_check_table = some ⟨oc_check_table, od_check_table, .func (PySem.W.fnOf "check_table" "check_table" (defArgs s_check_table) (defBody s_check_table) (defScope s_check_table) .none kV_check_table dc_check_table pm_check_table an_check_table cd_check_table ct_check_table), sl_check_table⟩)
    (c_check_table : PySem.W.codeIn K cd_check_table "check_table" = true)
    (k_check_table : PySem.W.keepIn K (.ref f_check_table) = true)
    (a_check_bad : PySem.W.nsIn K mainGlobals "check_bad" = some (some (.ref f_check_bad)))
    (l_check_bad : K.lookup f_check_bad = some ⟨oc_check_bad, od_check_bad, .func (PySem.W.fnOf "check_bad" "check_bad" (defArgs s_check_bad) (defBody s_check_bad) (defScope s_check_bad) .none kV_check_bad dc_check_bad pm_check_bad an_check_bad cd_check_bad ct_check_bad), sl_check_bad⟩)
    (c_check_bad : PySem.W.codeIn K cd_check_bad "check_bad" = true)
    (k_check_bad : PySem.W.keepIn K (.ref f_check_bad) = true)
    (M_init : PySem.W.findIn K (.ref CM) "__init__" = some (some (.ref f_Mi)))
    (M_ifn : PySem.W.isFn K (.ref f_Mi) = true)
    (l_Mi : K.lookup f_Mi = some ⟨oc_Mi, od_Mi, .func (PySem.W.fnOf "__init__" "Machine.__init__" (defArgs s_Machine_init) (defBody s_Machine_init) (defScope s_Machine_init) (.ref T_Mi) kV_Mi dc_Mi pm_Mi an_Mi cd_Mi ct_Mi), sl_Mi⟩)
    (c_Mi : PySem.W.codeIn K cd_Mi "Machine.__init__" = true)
    (k_Mi : PySem.W.keepIn K (.ref f_Mi) = true)
    (t_Mi : K.lookup T_Mi = some ⟨ot_Mi, dt_Mi, .seq #[.ref ae] nt_Mi, st_Mi⟩)
    (e_Mi : K.lookup ae = some ⟨.type "tuple", da_Mi, .seq #[] na_Mi, sa_Mi⟩)
    (P_at : PySem.W.findIn K (.ref CM) "size" = some (some (.ref p_size)))
    (P_get : PySem.W.specialIn K (.ref p_size) "__get__" = some (some (.builtin "property.__get__")))
    (P_tak : PySem.W.takesIn K (.ref p_size) = some true)
    (P_rec : PySem.W.recIn K p_size "property" = some (.ref f_M_size :: r_size))
    (l_M_size : K.lookup f_M_size = some ⟨oc_M_size, od_M_size, .func (PySem.W.fnOf "size" "Machine.size" (defArgs s_Machine_size) (defBody s_Machine_size) (defScope s_Machine_size) .none kV_M_size dc_M_size pm_M_size an_M_size cd_M_size ct_M_size), sl_M_size⟩)
    (c_M_size : PySem.W.codeIn K cd_M_size "Machine.size" = true)
    (k_M_size : PySem.W.keepIn K (.ref f_M_size) = true)
    (at_M_table : PySem.W.findIn K (.ref CM) "table" = some (some (.ref f_M_table)))
    (fn_M_table : PySem.W.isFn K (.ref f_M_table) = true)
    (l_M_table : K.lookup f_M_table = some ⟨oc_M_table, od_M_table, .func (PySem.W.fnOf "table" "Machine.table" (defArgs s_Machine_table) (defBody s_Machine_table) (defScope s_Machine_table) .none kV_M_table dc_M_table pm_M_table an_M_table cd_M_table ct_M_table), sl_M_table⟩)
    (c_M_table : PySem.W.codeIn K cd_M_table "Machine.table" = true)
    (k_M_table : PySem.W.keepIn K (.ref f_M_table) = true)
    (at_M_bad : PySem.W.findIn K (.ref CM) "bad" = some (some (.ref f_M_bad)))
    (fn_M_bad : PySem.W.isFn K (.ref f_M_bad) = true)
    (l_M_bad : K.lookup f_M_bad = some ⟨oc_M_bad, od_M_bad, .func (PySem.W.fnOf "bad" "Machine.bad" (defArgs s_Machine_bad) (defBody s_Machine_bad) (defScope s_Machine_bad) .none kV_M_bad dc_M_bad pm_M_bad an_M_bad cd_M_bad ct_M_bad), sl_M_bad⟩)
    (c_M_bad : PySem.W.codeIn K cd_M_bad "Machine.bad" = true)
    (k_M_bad : PySem.W.keepIn K (.ref f_M_bad) = true)
    (M_ca : PySem.W.findIn K (.ref CM) "__class__" = some (some (.builtin "object.__class__")))
    (M_cn : PySem.W.specialIn K (.builtin "object.__class__") "__get__" = some (some (.builtin "getset_descriptor.__get__")))
    (M_ct : PySem.W.takesIn K (.builtin "object.__class__") = some true)
    (M_cm : PySem.W.mroIn K CM (.type "object") = some true)
    (M_kit : PySem.W.kitOne K (.ref CM) (.ref CM) = some true)
    (at_M_eq : PySem.W.findIn K (.ref CM) "__eq__" = some (some (.ref f_M_eq)))
    (fn_M_eq : PySem.W.isFn K (.ref f_M_eq) = true)
    (l_M_eq : K.lookup f_M_eq = some ⟨oc_M_eq, od_M_eq, .func (PySem.W.fnOf "__eq__" "Machine.__eq__" (defArgs s_Machine_eq) (defBody s_Machine_eq) (defScope s_Machine_eq) .none kV_M_eq dc_M_eq pm_M_eq an_M_eq cd_M_eq ct_M_eq), sl_M_eq⟩)
    (c_M_eq : PySem.W.codeIn K cd_M_eq "Machine.__eq__" = true)
    (k_M_eq : PySem.W.keepIn K (.ref f_M_eq) = true)
    (M_ne : PySem.W.findIn K (.ref CM) "__ne__" = some (some (.builtin "object.__ne__")))
    (M_nf1 : PySem.W.notFirst K CM (.ref CM) = true)
    (M_nfL : PySem.W.notFirst K CM (.type "list") = true)
    (M_nfN : PySem.W.notFirst K CM (.type "NoneType") = true)
    (M_kL : PySem.W.kitOne K (.type "list") (.ref CM) = some false)
    (M_kN : PySem.W.kitOne K (.type "NoneType") (.ref CM) = some false)
    (at_M_repr : PySem.W.findIn K (.ref CM) "__repr__" = some (some (.ref f_M_repr)))
    (fn_M_repr : PySem.W.isFn K (.ref f_M_repr) = true)
    (l_M_repr : K.lookup f_M_repr = some ⟨oc_M_repr, od_M_repr, .func (PySem.W.fnOf "__repr__" "Machine.__repr__" (defArgs s_Machine_repr) (defBody s_Machine_repr) (defScope s_Machine_repr) .none kV_M_repr dc_M_repr pm_M_repr an_M_repr cd_M_repr ct_M_repr), sl_M_repr⟩)
    (c_M_repr : PySem.W.codeIn K cd_M_repr "Machine.__repr__" = true)
    (k_M_repr : PySem.W.keepIn K (.ref f_M_repr) = true)
    (a__law_open : PySem.W.nsIn K mainGlobals "_law_open" = some (some (.ref f__law_open)))
    (l__law_open : K.lookup f__law_open = some ⟨oc__law_open, od__law_open, .func (PySem.W.fnOf "_law_open" "_law_open" (defArgs s__law_open) (defBody s__law_open) (defScope s__law_open) .none kV__law_open dc__law_open pm__law_open an__law_open cd__law_open ct__law_open), sl__law_open⟩)
    (c__law_open : PySem.W.codeIn K cd__law_open "_law_open" = true)
    (k__law_open : PySem.W.keepIn K (.ref f__law_open) = true)
    (a__law_draw : PySem.W.nsIn K mainGlobals "_law_draw" = some (some (.ref f__law_draw)))
    (l__law_draw : K.lookup f__law_draw = some ⟨oc__law_draw, od__law_draw, .func (PySem.W.fnOf "_law_draw" "_law_draw" (defArgs s__law_draw) (defBody s__law_draw) (defScope s__law_draw) .none kV__law_draw dc__law_draw pm__law_draw an__law_draw cd__law_draw ct__law_draw), sl__law_draw⟩)
    (c__law_draw : PySem.W.codeIn K cd__law_draw "_law_draw" = true)
    (k__law_draw : PySem.W.keepIn K (.ref f__law_draw) = true)
    (a__law_letters : PySem.W.nsIn K mainGlobals "_law_letters" = some (some (.ref f__law_letters)))
    (l__law_letters : K.lookup f__law_letters = some ⟨oc__law_letters, od__law_letters, .func (PySem.W.fnOf "_law_letters" "_law_letters" (defArgs s__law_letters) (defBody s__law_letters) (defScope s__law_letters) .none kV__law_letters dc__law_letters pm__law_letters an__law_letters cd__law_letters ct__law_letters), sl__law_letters⟩)
    (c__law_letters : PySem.W.codeIn K cd__law_letters "_law_letters" = true)
    (k__law_letters : PySem.W.keepIn K (.ref f__law_letters) = true)
    (a__law_some_faces : PySem.W.nsIn K mainGlobals "_law_some_faces" = some (some (.ref f__law_some_faces)))
    (l__law_some_faces : K.lookup f__law_some_faces = some ⟨oc__law_some_faces, od__law_some_faces, .func (PySem.W.fnOf "_law_some_faces" "_law_some_faces" (defArgs s__law_some_faces) (defBody s__law_some_faces) (defScope s__law_some_faces) .none kV__law_some_faces dc__law_some_faces pm__law_some_faces an__law_some_faces cd__law_some_faces ct__law_some_faces), sl__law_some_faces⟩)
    (c__law_some_faces : PySem.W.codeIn K cd__law_some_faces "_law_some_faces" = true)
    (k__law_some_faces : PySem.W.keepIn K (.ref f__law_some_faces) = true)
    (a__law_some_machine : PySem.W.nsIn K mainGlobals "_law_some_machine" = some (some (.ref f__law_some_machine)))
    (l__law_some_machine : K.lookup f__law_some_machine = some ⟨oc__law_some_machine, od__law_some_machine, .func (PySem.W.fnOf "_law_some_machine" "_law_some_machine" (defArgs s__law_some_machine) (defBody s__law_some_machine) (defScope s__law_some_machine) .none kV__law_some_machine dc__law_some_machine pm__law_some_machine an__law_some_machine cd__law_some_machine ct__law_some_machine), sl__law_some_machine⟩)
    (c__law_some_machine : PySem.W.codeIn K cd__law_some_machine "_law_some_machine" = true)
    (k__law_some_machine : PySem.W.keepIn K (.ref f__law_some_machine) = true)
    (a__law_same : PySem.W.nsIn K mainGlobals "_law_same" = some (some (.ref f__law_same)))
    (l__law_same : K.lookup f__law_same = some ⟨oc__law_same, od__law_same, .func (PySem.W.fnOf "_law_same" "_law_same" (defArgs s__law_same) (defBody s__law_same) (defScope s__law_same) .none kV__law_same dc__law_same pm__law_same an__law_same cd__law_same ct__law_same), sl__law_same⟩)
    (c__law_same : PySem.W.codeIn K cd__law_same "_law_same" = true)
    (k__law_same : PySem.W.keepIn K (.ref f__law_same) = true)
    (a_law : PySem.W.nsIn K mainGlobals "law" = some (some (.ref f_law)))
    (l_law : K.lookup f_law = some ⟨oc_law, od_law, .func (PySem.W.fnOf "law" "law" (defArgs s_law) (defBody s_law) (defScope s_law) .none kV_law dc_law pm_law an_law cd_law ct_law), sl_law⟩)
    (c_law : PySem.W.codeIn K cd_law "law" = true)
    (k_law : PySem.W.keepIn K (.ref f_law) = true)
    (y_isinstance : PySem.W.nsIn K mainGlobals "isinstance" = some none)
    (y_str : PySem.W.nsIn K mainGlobals "str" = some none)
    (y_all : PySem.W.nsIn K mainGlobals "all" = some none)
    (y_any : PySem.W.nsIn K mainGlobals "any" = some none)
    (y_len : PySem.W.nsIn K mainGlobals "len" = some none)
    (y_int : PySem.W.nsIn K mainGlobals "int" = some none)
    (y_list : PySem.W.nsIn K mainGlobals "list" = some none)
    (y_abs : PySem.W.nsIn K mainGlobals "abs" = some none)
    (y_bool : PySem.W.nsIn K mainGlobals "bool" = some none)
    (y_tuple : PySem.W.nsIn K mainGlobals "tuple" = some none)
    (y_zip : PySem.W.nsIn K mainGlobals "zip" = some none)
    (y_range : PySem.W.nsIn K mainGlobals "range" = some none)
    (y_enumerate : PySem.W.nsIn K mainGlobals "enumerate" = some none)
    (y_sorted : PySem.W.nsIn K mainGlobals "sorted" = some none)
    (y_dict : PySem.W.nsIn K mainGlobals "dict" = some none)
    (y_set : PySem.W.nsIn K mainGlobals "set" = some none)
    (y_sum : PySem.W.nsIn K mainGlobals "sum" = some none)
    (y_min : PySem.W.nsIn K mainGlobals "min" = some none)
    (y_max : PySem.W.nsIn K mainGlobals "max" = some none)
    (y_reversed : PySem.W.nsIn K mainGlobals "reversed" = some none)
    (y_repr : PySem.W.nsIn K mainGlobals "repr" = some none)
    (y_ord : PySem.W.nsIn K mainGlobals "ord" = some none)
    : ∃ fd : FuncData, (∀ (s : Shared) (v : Value), BindsTo s fd ⟨[v], []⟩ [("_law_script", v)]) ∧ ∀ base : Heap, K.In base → base.Ns mainGlobals mg → FnOk l.prog w K mg base CX0 8 fa fd ["_law_script"] (sp_law K) := by
  have e := hfa.symm.trans (PySem.W.mg_of X G a_law)
  cases e
  have T : Z mg := ⟨PySem.W.mg_none_of X G y_isinstance, PySem.W.mg_none_of X G y_str, PySem.W.mg_none_of X G y_all, PySem.W.mg_none_of X G y_any, PySem.W.mg_none_of X G y_len, PySem.W.mg_none_of X G y_int, PySem.W.mg_none_of X G y_list, PySem.W.mg_none_of X G y_abs, PySem.W.mg_none_of X G y_bool, PySem.W.mg_none_of X G y_tuple, PySem.W.mg_none_of X G y_zip, PySem.W.mg_none_of X G y_range, PySem.W.mg_none_of X G y_enumerate, PySem.W.mg_none_of X G y_sorted, PySem.W.mg_none_of X G y_dict, PySem.W.mg_none_of X G y_set, PySem.W.mg_none_of X G y_sum, PySem.W.mg_none_of X G y_min, PySem.W.mg_none_of X G y_max, PySem.W.mg_none_of X G y_reversed, PySem.W.mg_none_of X G y_repr, PySem.W.mg_none_of X G y_ord⟩
  have gM := PySem.W.mg_of X G M_g
  have MC : MachC K CM := ⟨⟨M_pg, M_hd, M_po, M_sa⟩, M_nf, M_nt, M_nb⟩
  have rC : ClX.CRead K CM (.type "type") := ⟨M_rd, M_sg⟩
  have rM := rC
  have vM : ClX.CVal K CM (.type "type") "MOST" (.int 200) (.int 200 tM) := ⟨M_most, ⟨tM, rfl⟩⟩
  have g__LOWER := PySem.W.mg_of X G z__LOWER
  have g__MOST_FACES := PySem.W.mg_of X G z__MOST_FACES
  have F_is_string := fun_mk (st := s_is_string) l_is_string c_is_string k_is_string
  have b_is_string := F_is_string.binds (ps := ["value", "faces"]) fun _ _ _ _ _ _ us hl => match us, hl with | [_, _], _ => rfl
  have m_is_string := PySem.W.mg_of X G a_is_string
  have F_is_ascending := fun_mk (st := s_is_ascending) l_is_ascending c_is_ascending k_is_ascending
  have b_is_ascending := F_is_ascending.binds (ps := ["text"]) fun _ _ _ _ _ _ us hl => match us, hl with | [_], _ => rfl
  have m_is_ascending := PySem.W.mg_of X G a_is_ascending
  have F_is_choice := fun_mk (st := s_is_choice) l_is_choice c_is_choice k_is_choice
  have b_is_choice := F_is_choice.binds (ps := ["value", "letters", "most"]) fun _ _ _ _ _ _ us hl => match us, hl with | [_, _, _], _ => rfl
  have m_is_choice := PySem.W.mg_of X G a_is_choice
  have F_is_faces := fun_mk (st := s_is_faces) l_is_faces c_is_faces k_is_faces
  have b_is_faces := F_is_faces.binds (ps := ["value"]) fun _ _ _ _ _ _ us hl => match us, hl with | [_], _ => rfl
  have m_is_faces := PySem.W.mg_of X G a_is_faces
  have F_is_integer := fun_mk (st := s_is_integer) l_is_integer c_is_integer k_is_integer
  have b_is_integer := F_is_integer.binds (ps := ["value"]) fun _ _ _ _ _ _ us hl => match us, hl with | [_], _ => rfl
  have m_is_integer := PySem.W.mg_of X G a_is_integer
  have F_is_number := fun_mk (st := s_is_number) l_is_number c_is_number k_is_number
  have b_is_number := F_is_number.binds (ps := ["value", "least", "most"]) fun _ _ _ _ _ _ us hl => match us, hl with | [_, _, _], _ => rfl
  have m_is_number := PySem.W.mg_of X G a_is_number
  have F_is_row := fun_mk (st := s_is_row) l_is_row c_is_row k_is_row
  have b_is_row := F_is_row.binds (ps := ["value", "faces", "size"]) fun _ _ _ _ _ _ us hl => match us, hl with | [_, _, _], _ => rfl
  have m_is_row := PySem.W.mg_of X G a_is_row
  have F_check_table := fun_mk (st := s_check_table) l_check_table c_check_table k_check_table
  have b_check_table := F_check_table.binds (ps := ["faces", "table"]) fun _ _ _ _ _ _ us hl => match us, hl with | [_, _], _ => rfl
  have m_check_table := PySem.W.mg_of X G a_check_table
  have F_check_bad := fun_mk (st := s_check_bad) l_check_bad c_check_bad k_check_bad
  have b_check_bad := F_check_bad.binds (ps := ["size", "bad"]) fun _ _ _ _ _ _ us hl => match us, hl with | [_, _], _ => rfl
  have m_check_bad := PySem.W.mg_of X G a_check_bad
  have F_Mi := fund_mk1 (v := V.ref ae) l_Mi c_Mi k_Mi t_Mi rfl
  have MM : Mk K CM f_Mi := ⟨M_mk, M_init, M_ifn, M_kp⟩
  have hae : ∀ H, SqT K H ae [] := sqT_nil e_Mi
  obtain ⟨ds3, vs3, bM3⟩ := F_Mi.binds1 (ps := ["self", "faces", "table", "bad"]) 4 1 (List.cons_ne_nil _ _) rfl fun _ _ _ _ _ _ _ us its hl1 hl2 => match us, its, hl1, hl2 with | [_, _, _, _], [_], _, _ => ⟨_, rfl, rfl⟩
  cases vs3
  obtain ⟨ds2, vs2, bM2⟩ := F_Mi.binds1 (ps := ["self", "faces", "table", "bad"]) 3 0 (List.cons_ne_nil _ _) rfl fun _ _ _ _ _ _ _ us its hl1 hl2 => match us, its, hl1, hl2 with | [_, _, _], [_], _, _ => ⟨_, rfl, rfl⟩
  cases one_ref vs2
  have F_M_size := fun_mk (st := s_Machine_size) l_M_size c_M_size k_M_size
  have b_M_size := F_M_size.binds (ps := ["self"]) fun _ _ _ _ _ _ us hl => match us, hl with | [_], _ => rfl
  have hp : PropOf K CM "size" p_size f_M_size := ⟨P_at, P_get, P_tak, ⟨_, P_rec⟩⟩
  have bS := b_M_size
  have F_M_table := fun_mk (st := s_Machine_table) l_M_table c_M_table k_M_table
  have b_M_table := F_M_table.binds (ps := ["self"]) fun _ _ _ _ _ _ us hl => match us, hl with | [_], _ => rfl
  have F_M_bad := fun_mk (st := s_Machine_bad) l_M_bad c_M_bad k_M_bad
  have b_M_bad := F_M_bad.binds (ps := ["self"]) fun _ _ _ _ _ _ us hl => match us, hl with | [_], _ => rfl
  have ME : BookE K CM := ⟨M_ca, M_cn, M_ct, M_cm, M_kit⟩
  have F_M_eq := fun_mk (st := s_Machine_eq) l_M_eq c_M_eq k_M_eq
  have b_M_eq := F_M_eq.binds (ps := ["self", "other"]) fun _ _ _ _ _ _ us hl => match us, hl with | [_, _], _ => rfl
  have nfL := M_nfL
  have nfN := M_nfN
  have kL := M_kL
  have kN := M_kN
  have F_M_repr := fun_mk (st := s_Machine_repr) l_M_repr c_M_repr k_M_repr
  have b_M_repr := F_M_repr.binds (ps := ["self"]) fun _ _ _ _ _ _ us hl => match us, hl with | [_], _ => rfl
  have hR := at_M_repr
  have hRf := fn_M_repr
  have F__law_open := fun_mk (st := s__law_open) l__law_open c__law_open k__law_open
  have b__law_open := F__law_open.binds (ps := ["_law_script"]) fun _ _ _ _ _ _ us hl => match us, hl with | [_], _ => rfl
  have m__law_open := PySem.W.mg_of X G a__law_open
  have F__law_draw := fun_mk (st := s__law_draw) l__law_draw c__law_draw k__law_draw
  have b__law_draw := F__law_draw.binds (ps := ["_law_bag", "_law_many"]) fun _ _ _ _ _ _ us hl => match us, hl with | [_, _], _ => rfl
  have m__law_draw := PySem.W.mg_of X G a__law_draw
  have F__law_letters := fun_mk (st := s__law_letters) l__law_letters c__law_letters k__law_letters
  have b__law_letters := F__law_letters.binds (ps := ["_law_bag", "_law_letters_here", "_law_many"]) fun _ _ _ _ _ _ us hl => match us, hl with | [_, _, _], _ => rfl
  have m__law_letters := PySem.W.mg_of X G a__law_letters
  have F__law_some_faces := fun_mk (st := s__law_some_faces) l__law_some_faces c__law_some_faces k__law_some_faces
  have b__law_some_faces := F__law_some_faces.binds (ps := ["_law_bag", "_law_most"]) fun _ _ _ _ _ _ us hl => match us, hl with | [_, _], _ => rfl
  have m__law_some_faces := PySem.W.mg_of X G a__law_some_faces
  have F__law_some_machine := fun_mk (st := s__law_some_machine) l__law_some_machine c__law_some_machine k__law_some_machine
  have b__law_some_machine := F__law_some_machine.binds (ps := ["_law_bag", "_law_faces", "_law_most"]) fun _ _ _ _ _ _ us hl => match us, hl with | [_, _, _], _ => rfl
  have m__law_some_machine := PySem.W.mg_of X G a__law_some_machine
  have F__law_same := fun_mk (st := s__law_same) l__law_same c__law_same k__law_same
  have b__law_same := F__law_same.binds (ps := ["_law_found", "_law_due"]) fun _ _ _ _ _ _ us hl => match us, hl with | [_, _], _ => rfl
  have m__law_same := PySem.W.mg_of X G a__law_same
  have F_law := fun_mk (st := s_law) l_law c_law k_law
  have b_law := F_law.binds (ps := ["_law_script"]) fun _ _ _ _ _ _ us hl => match us, hl with | [_], _ => rfl
  refine ⟨PySem.W.fnOf "law" "law" (defArgs s_law) (defBody s_law) (defScope s_law) .none kV_law dc_law pm_law an_law cd_law ct_law, fun s v => .of_eq rfl, fun base _ _ => ?_⟩
  have c_is_string : Cal l.prog w K mg base CX0 1 "is_string" s_is_string _ _ := ⟨_, _, ok_is_string F_is_string T, m_is_string, F_is_string, b_is_string⟩
  have c_is_ascending : Cal l.prog w K mg base CX0 1 "is_ascending" s_is_ascending _ _ := ⟨_, _, ok_is_ascending F_is_ascending T, m_is_ascending, F_is_ascending, b_is_ascending⟩
  have c_is_choice : Cal l.prog w K mg base CX0 2 "is_choice" s_is_choice _ _ := ⟨_, _, ok_is_choice F_is_choice T c_is_string c_is_ascending, m_is_choice, F_is_choice, b_is_choice⟩
  have c_is_faces : Cal l.prog w K mg base CX0 3 "is_faces" s_is_faces _ _ := ⟨_, _, ok_is_faces F_is_faces g__LOWER g__MOST_FACES c_is_choice, m_is_faces, F_is_faces, b_is_faces⟩
  have c_is_integer : Cal l.prog w K mg base CX0 1 "is_integer" s_is_integer _ _ := ⟨_, _, ok_is_integer F_is_integer T, m_is_integer, F_is_integer, b_is_integer⟩
  have c_is_number : Cal l.prog w K mg base CX0 2 "is_number" s_is_number _ _ := ⟨_, _, ok_is_number F_is_number c_is_integer, m_is_number, F_is_number, b_is_number⟩
  have c_is_row : Cal l.prog w K mg base CX0 3 "is_row" s_is_row _ _ := ⟨_, _, ok_is_row F_is_row T c_is_number, m_is_row, F_is_row, b_is_row⟩
  have c_check_table : Cal l.prog w K mg base CX0 4 "check_table" s_check_table _ _ := ⟨_, _, ok_check_table F_check_table T gM rM vM c_is_row, m_check_table, F_check_table, b_check_table⟩
  have c_check_bad : Cal l.prog w K mg base CX0 3 "check_bad" s_check_bad _ _ := ⟨_, _, ok_check_bad F_check_bad T c_is_number, m_check_bad, F_check_bad, b_check_bad⟩
  have FM := ok_Machine_init (P := l.prog) (w := w) (base := base) F_Mi T c_is_faces c_check_table c_check_bad
  have FS := ok_Machine_size (P := l.prog) (w := w) (base := base) F_M_size T MC
  have mt_M_table : Meth K CM "table" f_M_table := ⟨at_M_table, fn_M_table, k_M_table⟩
  have c_table : MCal l.prog w K mg base CX0 CM 1 "table" _ _ := ⟨_, _, mt_M_table, ok_Machine_table (P := l.prog) (w := w) (base := base) F_M_table T MC, b_M_table⟩
  have mt_M_bad : Meth K CM "bad" f_M_bad := ⟨at_M_bad, fn_M_bad, k_M_bad⟩
  have c_bad : MCal l.prog w K mg base CX0 CM 1 "bad" _ _ := ⟨_, _, mt_M_bad, ok_Machine_bad (P := l.prog) (w := w) (base := base) F_M_bad T MC, b_M_bad⟩
  have o_eq : OwnE l.prog w K mg base CM 1 (sp_Machine_eq K CM) := ⟨⟨f_M_eq, at_M_eq, fn_M_eq, ((ok_Machine_eq (P := l.prog) (w := w) (base := base) F_M_eq T gM MC ME).raw b_M_eq .nil).imp fun vs H Q E h => by rw [List.append_nil]; exact h⟩, M_ne, M_cm, M_nf1⟩
  have FR : FnR l.prog w K mg base CX0 1 f_M_repr (sp_Machine_repr K CM) := ((ok_Machine_repr (P := l.prog) (w := w) (base := base) F_M_repr T MC).raw b_M_repr .nil).imp fun vs H Q E h => by rw [List.append_nil]; exact h
  have c__law_open : Cal l.prog w K mg base CX0 1 "_law_open" s__law_open _ _ := ⟨_, _, ok__law_open F__law_open T, m__law_open, F__law_open, b__law_open⟩
  have c__law_draw : Cal l.prog w K mg base CX0 1 "_law_draw" s__law_draw _ _ := ⟨_, _, ok__law_draw F__law_draw T, m__law_draw, F__law_draw, b__law_draw⟩
  have c__law_letters : Cal l.prog w K mg base CX0 2 "_law_letters" s__law_letters _ _ := ⟨_, _, ok__law_letters F__law_letters T c__law_draw, m__law_letters, F__law_letters, b__law_letters⟩
  have c__law_some_faces : Cal l.prog w K mg base CX0 3 "_law_some_faces" s__law_some_faces _ _ := ⟨_, _, ok__law_some_faces F__law_some_faces T c__law_draw c__law_letters, m__law_some_faces, F__law_some_faces, b__law_some_faces⟩
  have c__law_some_machine : Cal l.prog w K mg base CX0 2 "_law_some_machine" s__law_some_machine _ _ := ⟨_, _, ok__law_some_machine F__law_some_machine T c__law_draw, m__law_some_machine, F__law_some_machine, b__law_some_machine⟩
  have g0 : Cal l.prog w K mg base CX0 1 "_law_same" s__law_same ["_law_found", "_law_due"] (fun _ _ _ _ => False) := ⟨_, _, nk_false, m__law_same, F__law_same, b__law_same⟩
  have g1 : Cal l.prog w K mg base CX0 2 "_law_same" s__law_same ["_law_found", "_law_due"] (sp__law_same K 0) := ⟨_, _, ok__law_same_step (n := 0) F__law_same T g0 (fun m _ _ _ _ e => absurd e (Nat.succ_ne_zero m).symm), m__law_same, F__law_same, b__law_same⟩
  have g2 : Cal l.prog w K mg base CX0 3 "_law_same" s__law_same ["_law_found", "_law_due"] (sp__law_same K 1) := ⟨_, _, ok__law_same_step (n := 1) F__law_same T g1 (fun m _ _ _ _ e h => by cases e; exact h), m__law_same, F__law_same, b__law_same⟩
  have g3 : Cal l.prog w K mg base CX0 4 "_law_same" s__law_same ["_law_found", "_law_due"] (sp__law_same K 2) := ⟨_, _, ok__law_same_step (n := 2) F__law_same T g2 (fun m _ _ _ _ e h => by cases e; exact h), m__law_same, F__law_same, b__law_same⟩
  have c__law_same : Cal l.prog w K mg base CX0 5 "_law_same" s__law_same ["_law_found", "_law_due"] (sp__law_same K 3) := ⟨_, _, ok__law_same_step (n := 3) F__law_same T g3 (fun m _ _ _ _ e h => by cases e; exact h), m__law_same, F__law_same, b__law_same⟩
  exact ok_law F_law T gM MC MM FM bM3 bM2 hae hp FS bS c_table c_bad o_eq nfL nfN kL kN hR hRf FR rC vM c__law_open c__law_draw c__law_some_faces c__law_some_machine c__law_same
end FW
open PySem PySem.W PyProof.Rows
set_option maxHeartbeats 0 in
theorem PySem.Challenge.cw_fourwalls_k11_machines_told_holds : PySem.Challenge.rw_fourwalls_k11_machines_told.Holds := by
  w_on; o_law; k_head; (case hw => w_witness2)
  k_fill
  refine L2.walk_of (l := PySem.Challenge.rw_fourwalls_k11_machines_told) (n := 63) (k := 8) (x := "_law_script") (CX := fun _ => L2.CX0) (sp := fun w => FW.sp_law _) rfl (by decide) rfl ⟨rfl, by decide, by decide⟩ (fun w h Y => PySem.W.kIn_of Y) ?F (fun _ _ a ns hl _ hS => ⟨a, ns, rfl, hS, hl, fun _ => rfl⟩) (fun _ _ _ _ _ h => h)
  case F =>
    intro w mg fa h KX G hmg
    refine' FW.all_mk KX G hmg ?M_g ?M_pg ?M_hd ?M_po ?M_sa ?M_nf ?M_nt ?M_nb ?M_mk ?M_kp ?M_rd ?M_sg ?M_most ?z__LOWER ?z__MOST_FACES ?a_is_string ?l_is_string ?c_is_string ?k_is_string ?a_is_ascending ?l_is_ascending ?c_is_ascending ?k_is_ascending ?a_is_choice ?l_is_choice ?c_is_choice ?k_is_choice ?a_is_faces ?l_is_faces ?c_is_faces ?k_is_faces ?a_is_integer ?l_is_integer ?c_is_integer ?k_is_integer ?a_is_number ?l_is_number ?c_is_number ?k_is_number ?a_is_row ?l_is_row ?c_is_row ?k_is_row ?a_check_table ?l_check_table ?c_check_table ?k_check_table ?a_check_bad ?l_check_bad ?c_check_bad ?k_check_bad ?M_init ?M_ifn ?l_Mi ?c_Mi ?k_Mi ?t_Mi ?e_Mi ?P_at ?P_get ?P_tak ?P_rec ?l_M_size ?c_M_size ?k_M_size ?at_M_table ?fn_M_table ?l_M_table ?c_M_table ?k_M_table ?at_M_bad ?fn_M_bad ?l_M_bad ?c_M_bad ?k_M_bad ?M_ca ?M_cn ?M_ct ?M_cm ?M_kit ?at_M_eq ?fn_M_eq ?l_M_eq ?c_M_eq ?k_M_eq ?M_ne ?M_nf1 ?M_nfL ?M_nfN ?M_kL ?M_kN ?at_M_repr ?fn_M_repr ?l_M_repr ?c_M_repr ?k_M_repr ?a__law_open ?l__law_open ?c__law_open ?k__law_open ?a__law_draw ?l__law_draw ?c__law_draw ?k__law_draw ?a__law_letters ?l__law_letters ?c__law_letters ?k__law_letters ?a__law_some_faces ?l__law_some_faces ?c__law_some_faces ?k__law_some_faces ?a__law_some_machine ?l__law_some_machine ?c__law_some_machine ?k__law_some_machine ?a__law_same ?l__law_same ?c__law_same ?k__law_same ?a_law ?l_law ?c_law ?k_law ?y_isinstance ?y_str ?y_all ?y_any ?y_len ?y_int ?y_list ?y_abs ?y_bool ?y_tuple ?y_zip ?y_range ?y_enumerate ?y_sorted ?y_dict ?y_set ?y_sum ?y_min ?y_max ?y_reversed ?y_repr ?y_ord
    (case M_g => first | k_is | kernel_rfl)
    (case M_pg => first | k_is | kernel_rfl)
    (case M_hd => first | k_is | kernel_rfl)
    (case M_po => first | k_is | kernel_rfl)
    (case M_sa => first | k_is | kernel_rfl)
    (case M_nf => first | k_is | kernel_rfl)
    (case M_nt => first | k_is | kernel_rfl)
    (case M_nb => first | k_is | kernel_rfl)
    (case M_mk => first | k_is | kernel_rfl)
    (case M_kp => first | k_is | kernel_rfl)
    (case M_rd => first | k_is | kernel_rfl)
    (case M_sg => first | k_is | kernel_rfl)
    (case M_most => first | k_is | kernel_rfl)
    (case z__LOWER => first | k_is | kernel_rfl)
    (case z__MOST_FACES => first | k_is | kernel_rfl)
    (case a_is_string => first | k_is | kernel_rfl)
    (case l_is_string => first | k_is | kernel_rfl)
    (case c_is_string => first | k_is | kernel_rfl)
    (case k_is_string => first | k_is | kernel_rfl)
    (case a_is_ascending => first | k_is | kernel_rfl)
    (case l_is_ascending => first | k_is | kernel_rfl)
    (case c_is_ascending => first | k_is | kernel_rfl)
    (case k_is_ascending => first | k_is | kernel_rfl)
    (case a_is_choice => first | k_is | kernel_rfl)
    (case l_is_choice => first | k_is | kernel_rfl)
    (case c_is_choice => first | k_is | kernel_rfl)
    (case k_is_choice => first | k_is | kernel_rfl)
    (case a_is_faces => first | k_is | kernel_rfl)
    (case l_is_faces => first | k_is | kernel_rfl)
    (case c_is_faces => first | k_is | kernel_rfl)
    (case k_is_faces => first | k_is | kernel_rfl)
    (case a_is_integer => first | k_is | kernel_rfl)
    (case l_is_integer => first | k_is | kernel_rfl)
    (case c_is_integer => first | k_is | kernel_rfl)
    (case k_is_integer => first | k_is | kernel_rfl)
    (case a_is_number => first | k_is | kernel_rfl)
    (case l_is_number => first | k_is | kernel_rfl)
    (case c_is_number => first | k_is | kernel_rfl)
    (case k_is_number => first | k_is | kernel_rfl)
    (case a_is_row => first | k_is | kernel_rfl)
    (case l_is_row => first | k_is | kernel_rfl)
    (case c_is_row => first | k_is | kernel_rfl)
    (case k_is_row => first | k_is | kernel_rfl)
    (case a_check_table => first | k_is | kernel_rfl)
    (case l_check_table => first | k_is | kernel_rfl)
    (case c_check_table => first | k_is | kernel_rfl)
    (case k_check_table => first | k_is | kernel_rfl)
    (case a_check_bad => first | k_is | kernel_rfl)
    (case l_check_bad => first | k_is | kernel_rfl)
    (case c_check_bad => first | k_is | kernel_rfl)
    (case k_check_bad => first | k_is | kernel_rfl)
    (case M_init => first | k_is | kernel_rfl)
    (case M_ifn => first | k_is | kernel_rfl)
    (case l_Mi => first | k_is | kernel_rfl)
    (case c_Mi => first | k_is | kernel_rfl)
    (case k_Mi => first | k_is | kernel_rfl)
    (case t_Mi => first | k_is | kernel_rfl)
    (case e_Mi => first | k_is | kernel_rfl)
    (case P_at => first | k_is | kernel_rfl)
    (case P_get => first | k_is | kernel_rfl)
    (case P_tak => first | k_is | kernel_rfl)
    (case P_rec => first | k_is | kernel_rfl)
    (case l_M_size => first | k_is | kernel_rfl)
    (case c_M_size => first | k_is | kernel_rfl)
    (case k_M_size => first | k_is | kernel_rfl)
    (case at_M_table => first | k_is | kernel_rfl)
    (case fn_M_table => first | k_is | kernel_rfl)
    (case l_M_table => first | k_is | kernel_rfl)
    (case c_M_table => first | k_is | kernel_rfl)
    (case k_M_table => first | k_is | kernel_rfl)
    (case at_M_bad => first | k_is | kernel_rfl)
    (case fn_M_bad => first | k_is | kernel_rfl)
    (case l_M_bad => first | k_is | kernel_rfl)
    (case c_M_bad => first | k_is | kernel_rfl)
    (case k_M_bad => first | k_is | kernel_rfl)
    (case M_ca => first | k_is | kernel_rfl)
    (case M_cn => first | k_is | kernel_rfl)
    (case M_ct => first | k_is | kernel_rfl)
    (case M_cm => first | k_is | kernel_rfl)
    (case M_kit => first | k_is | kernel_rfl)
    (case at_M_eq => first | k_is | kernel_rfl)
    (case fn_M_eq => first | k_is | kernel_rfl)
    (case l_M_eq => first | k_is | kernel_rfl)
    (case c_M_eq => first | k_is | kernel_rfl)
    (case k_M_eq => first | k_is | kernel_rfl)
    (case M_ne => first | k_is | kernel_rfl)
    (case M_nf1 => first | k_is | kernel_rfl)
    (case M_nfL => first | k_is | kernel_rfl)
    (case M_nfN => first | k_is | kernel_rfl)
    (case M_kL => first | k_is | kernel_rfl)
    (case M_kN => first | k_is | kernel_rfl)
    (case at_M_repr => first | k_is | kernel_rfl)
    (case fn_M_repr => first | k_is | kernel_rfl)
    (case l_M_repr => first | k_is | kernel_rfl)
    (case c_M_repr => first | k_is | kernel_rfl)
    (case k_M_repr => first | k_is | kernel_rfl)
    (case a__law_open => first | k_is | kernel_rfl)
    (case l__law_open => first | k_is | kernel_rfl)
    (case c__law_open => first | k_is | kernel_rfl)
    (case k__law_open => first | k_is | kernel_rfl)
    (case a__law_draw => first | k_is | kernel_rfl)
    (case l__law_draw => first | k_is | kernel_rfl)
    (case c__law_draw => first | k_is | kernel_rfl)
    (case k__law_draw => first | k_is | kernel_rfl)
    (case a__law_letters => first | k_is | kernel_rfl)
    (case l__law_letters => first | k_is | kernel_rfl)
    (case c__law_letters => first | k_is | kernel_rfl)
    (case k__law_letters => first | k_is | kernel_rfl)
    (case a__law_some_faces => first | k_is | kernel_rfl)
    (case l__law_some_faces => first | k_is | kernel_rfl)
    (case c__law_some_faces => first | k_is | kernel_rfl)
    (case k__law_some_faces => first | k_is | kernel_rfl)
    (case a__law_some_machine => first | k_is | kernel_rfl)
    (case l__law_some_machine => first | k_is | kernel_rfl)
    (case c__law_some_machine => first | k_is | kernel_rfl)
    (case k__law_some_machine => first | k_is | kernel_rfl)
    (case a__law_same => first | k_is | kernel_rfl)
    (case l__law_same => first | k_is | kernel_rfl)
    (case c__law_same => first | k_is | kernel_rfl)
    (case k__law_same => first | k_is | kernel_rfl)
    (case a_law => first | k_is | kernel_rfl)
    (case l_law => first | k_is | kernel_rfl)
    (case c_law => first | k_is | kernel_rfl)
    (case k_law => first | k_is | kernel_rfl)
    (case y_isinstance => first | k_is | kernel_rfl)
    (case y_str => first | k_is | kernel_rfl)
    (case y_all => first | k_is | kernel_rfl)
    (case y_any => first | k_is | kernel_rfl)
    (case y_len => first | k_is | kernel_rfl)
    (case y_int => first | k_is | kernel_rfl)
    (case y_list => first | k_is | kernel_rfl)
    (case y_abs => first | k_is | kernel_rfl)
    (case y_bool => first | k_is | kernel_rfl)
    (case y_tuple => first | k_is | kernel_rfl)
    (case y_zip => first | k_is | kernel_rfl)
    (case y_range => first | k_is | kernel_rfl)
    (case y_enumerate => first | k_is | kernel_rfl)
    (case y_sorted => first | k_is | kernel_rfl)
    (case y_dict => first | k_is | kernel_rfl)
    (case y_set => first | k_is | kernel_rfl)
    (case y_sum => first | k_is | kernel_rfl)
    (case y_min => first | k_is | kernel_rfl)
    (case y_max => first | k_is | kernel_rfl)
    (case y_reversed => first | k_is | kernel_rfl)
    (case y_repr => first | k_is | kernel_rfl)
    (case y_ord => first | k_is | kernel_rfl)
