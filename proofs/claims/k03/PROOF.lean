import PyProof.Rows.All
import Wide.All
import OpenK.AllK
import Wide.FinOn
import PyProof.EqAt
import PyProof.EqKinds
import PyProof.TupleCall
import KE.KUnpack
import HandS.Base
import HandS.Call
import HandS.List
import HandS.Comp
import HandS.Iter
import HandS.Text
import HandS.Words
import HandS.WordsList
import HandS.IsInst
import HandS.Walk
import HandS.Ends
import HandS.Zip
import HandS.Codes
import PySem.Challenge.RW_fourwalls_k03_rooms_and_cuts
set_option Elab.async false
set_option linter.all false
set_option maxRecDepth 100000
set_option maxHeartbeats 16000000
namespace L2
open PySem PySem.Spec PySem.Calls PyProof.Rows
/-! ### a text unpacked into names -/
abbrev sgn (c : Nat) : V := .str ⟨#[c]⟩
section
variable {prog : Program} {w : World} {A : Around} {E : Value → Shared → Prop}
theorem draw_str {it : Addr} {x : Str} {t : Tok} {ty : String} (hty : ty = "str_ascii_iterator" ∨ ty = "str_iterator") : ∀ (n i : Nat) (s : Shared) (Q : List Value → Shared → Prop), s.heap.IsStrIter it ty x t i → i + n ≤ x.cps.size →
    (∀ h' tk us, h'.IsStrIter it ty x t (i + n) → Heap.SameBut it s.heap h' → Vals (((x.cps.toList.drop i).take n).map sgn) us → Q us { s with heap := h', toks := tk }) → wpAny (model prog w) A (draw (.ref it) n) Q E s
  | 0, i, s, Q, hit, _, hQ => by
    show wpAny _ _ (pure []) Q E s
    exact wpAny_pure (hQ s.heap s.toks [] hit (Heap.SameBut.refl ..) .nil)
  | n + 1, i, s, Q, hit, hle, hQ => by
    have hlt : i < x.cps.size := by omega
    show wpAny _ _ (pyNext (.ref it) >>= _) Q E s
    have hx : x.cps[i]? = some x.cps[i] := Array.getElem?_eq_getElem hlt
    have hd : x.cps.toList.drop i = x.cps[i] :: x.cps.toList.drop (i + 1) := by
      rw [List.drop_eq_getElem_cons (by simpa using hlt)]
      simp
    have go : ∀ h₁, h₁.IsStrIter it ty x t (i + 1) → Heap.SameBut it s.heap h₁ → wpAny (model prog w) A (match (some (.str ⟨#[x.cps[i]]⟩ s.toks) : Option Value) with
        | none => pure []
        | some v => do return v :: (← holding [v] (draw (.ref it) n))) Q E { s with heap := h₁, toks := s.toks + 1 } := fun h₁ hit₁ hs₁ => by
      refine wpAny_bind (wpAny_holding (draw_str hty n (i + 1) _ _ hit₁ (by omega) fun h₂ tk us hit₂ hs₂ r => wpAny_pure ?_))
      refine hQ h₂ tk _ (by rw [show i + (n + 1) = i + 1 + n by omega]; exact hit₂) (hs₁.trans hs₂) ?_
      rw [hd, List.take_succ_cons, List.map_cons]
      exact .cons ⟨_, rfl⟩ r
    rcases hty with e | e
    · subst e
      exact wpAny_bind (wpAny_pyNext_ascii_item hit hx fun h₁ hit₁ hs₁ => go h₁ hit₁ hs₁)
    · subst e
      exact wpAny_bind (wpAny_pyNext_wide_item hit hx fun h₁ hit₁ hs₁ => go h₁ hit₁ hs₁)
theorem items_str {x : Str} {t : Tok} {s : Shared} {Q : List Value → Shared → Prop} (hh : A.handled = none)
    (hQ : ∀ h' tk us, Heap.ExtBut s.heap.objs.size s.heap h' → Vals (x.cps.toList.map sgn) us → Q us { s with heap := h', toks := tk }) : wpAny (model prog w) A (unpackItems (.str x t) x.cps.size none) Q E s := by
  unfold unpackItems
  refine wpAny_bind ?_
  unfold notIterableAtAll
  refine wpAny_bind (wpAny_specialOf (typeIs_str s x t) F.slot_str_iter.lookup ?_)
  refine wpAny_pure ?_
  simp only [Bool.false_eq_true, if_false]
  have go : ∀ (ty : String), ty = "str_ascii_iterator" ∨ ty = "str_iterator" → ∀ s₁ : Shared, s₁ = { s with heap := s.heap.push { cls := .type ty, data := .fields #[.str x t, .int 0 0] } } → 
      wpAny (model prog w) A (do
        let items ← holding [.ref s.heap.objs.size] (draw (.ref s.heap.objs.size) x.cps.size)
        if items.length < x.cps.size then
          rule "unpack.too-few"; raiseError "ValueError" s!"not enough values to unpack (expected {x.cps.size}, got {items.length})"
        if (← holding items (pyNext (.ref s.heap.objs.size))).isSome then
          rule "unpack.too-many"; raiseError "ValueError" s!"too many values to unpack (expected {x.cps.size})"
        return items) Q E s₁ := fun ty hty s₁ hs => by
    subst hs
    have hit0 : (s.heap.push { cls := .type ty, data := .fields #[.str x t, .int 0 0] }).IsStrIter s.heap.objs.size ty x t 0 := ⟨_, Heap.get?_push_size _ rfl, rfl, rfl⟩
    refine wpAny_bind (wpAny_holding (draw_str hty x.cps.size 0 _ _ hit0 (by omega) fun h₁ tk us hit₁ hs₁ r => ?_))
    have hall : (x.cps.toList.drop 0).take x.cps.size = x.cps.toList := by
      rw [List.drop_zero]; exact List.take_of_length_le (by simp)
    rw [hall] at r
    have hl : us.length = x.cps.size := by rw [← r.length, List.length_map]; simp
    rw [if_neg (by omega)]
    have fin : ∀ h₂, Heap.ExtBut s.heap.objs.size h₁ h₂ → Heap.ExtBut s.heap.objs.size s.heap h₂ := fun h₂ he₂ b o hb e => he₂ b o hb (hs₁.extBut b o hb (Heap.get?_push_of_some _ e))
    have hend : x.cps[0 + x.cps.size]? = none := Array.getElem?_eq_none (by omega)
    rcases hty with e | e
    · subst e
      refine wpAny_bind (wpAny_holding (wpAny_pyNext_ascii_end (s := { s with heap := h₁, toks := tk }) hh hit₁ hend fun h₂ he₂ => ?_))
      simp only [Option.isSome_none, Bool.false_eq_true, if_false]
      exact wpAny_pure (hQ h₂ tk us (fin h₂ he₂) r)
    · subst e
      refine wpAny_bind (wpAny_holding (wpAny_pyNext_wide_end (s := { s with heap := h₁, toks := tk }) hh hit₁ hend fun h₂ he₂ => ?_))
      simp only [Option.isSome_none, Bool.false_eq_true, if_false]
      exact wpAny_pure (hQ h₂ tk us (fin h₂ he₂) r)
  cases ha : x.cps.all (· < 128)
  · exact wpAny_bind (wpAny_holding (wpAny_pyIter_wide ha (go _ (.inr rfl) _ rfl)))
  · exact wpAny_bind (wpAny_holding (wpAny_pyIter_ascii ha (go _ (.inl rfl) _ rfl)))
end
section
variable {X : Cx} {pos : Pos}
/-- (a, b, ..) = a text of that many signs -/
def gUstr (n : Nat) (t : TGs) : TG := fun v σ H Q => ∃ z : Str, v = .str z ∧ z.cps.size = n ∧ t (z.cps.toList.map sgn) σ H Q
theorem pg_ustr {es : List Expr} {k : Nat} {t : TGs} {n : Nat} (hc : X.calm = true) (h : PGs X es t)
    (hn : (assignEach es X.env).length = n := by rfl) (hst : (assignEach es X.env).findIdx? (·.1) = none := by rfl) : PG X (.Tuple es k pos) (gUstr n t) := by
  refine ⟨fun pins s σ H v u Q I r hw => ?_⟩
  obtain ⟨z, e1, hz, hw⟩ := hw
  subst e1
  obtain ⟨tk0, rfl⟩ := r
  have hn' : (assignEach es X.env).length = z.cps.size := hn.trans hz.symm
  rw [PyProof.Rows.assign_Tuple]
  refine wpAny_bind (wpAny_standAt ?_)
  unfold unpack
  rw [hn', hst]
  refine wpAny_bind (wpAny_holding (items_str (I.ok.hd hc) fun h' tk us hx r => ?_))
  have I1 : Inv X pins σ H { s with heap := h', toks := tk } := I.kept (t' := tk) fun b o e => hx b o (Nat.ne_of_lt (Heap.lt_size e)) e
  exact h.run pins _ σ H _ us Q I1 r hw
end
/-! ### a call by keywords alone -/
section
variable {X : Cx} {CX : CXT} {k : Nat} {f : Addr} {fd : FuncData} {ps ks : List Str} {sp : Sp} {E : XK} {x : Str} {p pos kpos : Pos} {e : Expr} {kws : List Keyword} {tk : TA} {nm : Option Str} {g : List Value → List Value → List Value} {gV : List V → List V → List V}
theorem pe_callK0 (F : FnOk X.prog X.w X.K X.mg X.base CX k f fd ps sp) (hr : Room k X.A) (hg : Gl X x) (hm : X.mg x = some (.ref f)) (hk : PySem.W.keepIn X.K (.ref f) = true) (hb : KBinds X.K fd ps ks g gV) (hx : Passes CX X E)
    (hkw : PK X kws tk) (hall : (backToKw pos (keywordEach kws X.env)).all (·.1.isSome) = true := by rfl) (hks : (backToKw pos (keywordEach kws X.env)).filterMap (·.1) = ks := by rfl)
    (hdb : (x == ("__debug__" : Str)) = false := by decide)
    (hpl : ((backTo pos (starEach [] X.env)).any (·.1) || (backToKw pos (keywordEach kws X.env)).any (·.1.isNone)) = false := by rfl) :
    PE X (.Call (.Name x p) [] kws pos) (tCallK sp gV E tNil tk) := by
  refine ⟨fun pins s σ H Q I h => ?_⟩
  refine wpAny_Call_Name_kw (ld_glob I hg hm ?_ hdb)
  refine PySem.W.callWith_KW0 (h₀ := X.base) I.ok.mod.kin hk hall (thn (hkw.run pos pins s σ H _ I h) fun ws s2 ⟨zs, H2, I2, rz, q2⟩ => ⟨I2.kIn, ?_⟩) hpl
  rw [hks]
  exact run_fnk F hr hb hx I2 .nil rz q2
end
/-! ### a def of the module, by its name -/
structure Cal (P : Program) (w : World) (K : PySem.W.Frag) (mg : Str → Option Value) (base : Heap) (CX : CXT) (k : Nat) (x : Str) (st : Stmt) (ps : List Str) (sp : Sp) : Prop where
  ex : ∃ (f : Addr) (fd : FuncData), FnOk P w K mg base CX k f fd ps sp ∧ mg x = some (.ref f) ∧ Fun K x x st f fd ∧ Binds K fd ps []
/-- how a call with keywords binds, for every such def's data -/
def KB (K : PySem.W.Frag) (x : Str) (st : Stmt) (ps ks : List Str) (g : List Value → List Value → List Value) (gV : List V → List V → List V) : Prop := ∀ (f : Addr) (fd : FuncData), Fun K x x st f fd → KBinds K fd ps ks g gV
section
variable {X : Cx} {CX : CXT} {k j : Nat} {x : Str} {st : Stmt} {ps ks : List Str} {sp : Sp} {E : XK} {p pos : Pos} {e : Expr} {es : List Expr} {kws : List Keyword} {t tk : TA} {g : List Value → List Value → List Value} {gV : List V → List V → List V}
theorem pe_cx (c : Cal X.prog X.w X.K X.mg X.base CX k x st ps sp) (hr : Room j X.A) (hk : k ≤ j) (hg : Gl X x) (hx : Passes CX X E) (ha : PA X (e :: es) t)
    (hdb : (x == ("__debug__" : Str)) = false := by decide) (he : starEach (e :: es) X.env = (false, eval e X.env) :: starEach es X.env := by rfl) (hpl : (backTo pos (starEach es X.env)).any (·.1) = false := by rfl) :
    PE X (.Call (.Name x p) (e :: es) [] pos) (tCall sp [] E t) := by
  obtain ⟨f, fd, F, hm, fn, b⟩ := c.ex
  exact pe_call F (hr.mono hk) hg hm fn.kp b .nil hx ha hdb he hpl
theorem pe_cx0 (c : Cal X.prog X.w X.K X.mg X.base CX k x st ps sp) (hr : Room j X.A) (hk : k ≤ j) (hg : Gl X x) (hx : Passes CX X E)
    (hdb : (x == ("__debug__" : Str)) = false := by decide) : PE X (.Call (.Name x p) [] [] pos) (tCall sp [] E tNil) := by
  obtain ⟨f, fd, F, hm, fn, b⟩ := c.ex
  exact pe_call0 F (hr.mono hk) hg hm fn.kp b .nil hx hdb
theorem pe_c (c : Cal X.prog X.w X.K X.mg X.base CX0 k x st ps sp) (hr : Room j X.A) (hk : k ≤ j) (hg : Gl X x) (ha : PA X (e :: es) t)
    (hdb : (x == ("__debug__" : Str)) = false := by decide) (he : starEach (e :: es) X.env = (false, eval e X.env) :: starEach es X.env := by rfl) (hpl : (backTo pos (starEach es X.env)).any (·.1) = false := by rfl) :
    PE X (.Call (.Name x p) (e :: es) [] pos) (tCall sp [] E0 t) := pe_cx c hr hk hg pass0 ha hdb he hpl
theorem pe_ck (c : Cal X.prog X.w X.K X.mg X.base CX0 k x st ps sp) (b : KB X.K x st ps ks g gV) (hr : Room j X.A) (hk : k ≤ j) (hg : Gl X x) (ha : PA X (e :: es) t) (hkw : PK X kws tk)
    (hall : (backToKw pos (keywordEach kws X.env)).all (·.1.isSome) = true := by rfl) (hks : (backToKw pos (keywordEach kws X.env)).filterMap (·.1) = ks := by rfl)
    (hdb : (x == ("__debug__" : Str)) = false := by decide) (he : starEach (e :: es) X.env = (false, eval e X.env) :: starEach es X.env := by rfl)
    (hpl : ((backTo pos (starEach (e :: es) X.env)).any (·.1) || (backToKw pos (keywordEach kws X.env)).any (·.1.isNone)) = false := by rfl) :
    PE X (.Call (.Name x p) (e :: es) kws pos) (tCallK sp gV E0 t tk) := by
  obtain ⟨f, fd, F, hm, fn, _⟩ := c.ex
  exact pe_callK F (hr.mono hk) hg hm fn.kp (b f fd fn) pass0 ha hkw hall hks hdb he hpl
theorem pe_ck0 (c : Cal X.prog X.w X.K X.mg X.base CX0 k x st ps sp) (b : KB X.K x st ps ks g gV) (hr : Room j X.A) (hk : k ≤ j) (hg : Gl X x) (hkw : PK X kws tk)
    (hall : (backToKw pos (keywordEach kws X.env)).all (·.1.isSome) = true := by rfl) (hks : (backToKw pos (keywordEach kws X.env)).filterMap (·.1) = ks := by rfl)
    (hdb : (x == ("__debug__" : Str)) = false := by decide) 
    (hpl : ((backTo pos (starEach [] X.env)).any (·.1) || (backToKw pos (keywordEach kws X.env)).any (·.1.isNone)) = false := by rfl) :
    PE X (.Call (.Name x p) [] kws pos) (tCallK sp gV E0 tNil tk) := by
  obtain ⟨f, fd, F, hm, fn, _⟩ := c.ex
  exact pe_callK0 F (hr.mono hk) hg hm fn.kp (b f fd fn) pass0 hkw hall hks hdb hpl
end
/-! ### heaps -/
theorem same_upd {H : Hp} {p : Addr} {o : HO} (h : H p = none) : Same H (upd H p o) := fun b x e => by
  rw [upd_ne (ne_of_none e h)]
  exact e
/-- all that was tracked but what stands at b -/
def But (b : Addr) (H H' : Hp) : Prop := ∀ a o, a ≠ b → H a = some o → H' a = some o
theorem But.refl (b : Addr) (H : Hp) : But b H H := fun _ _ _ h => h
theorem But.trans {b : Addr} {H H1 H2 : Hp} (x : But b H H1) (y : But b H1 H2) : But b H H2 := fun a o n h => y a o n (x a o n h)
theorem Same.but {b : Addr} {H H' : Hp} (x : Same H H') : But b H H' := fun a o _ h => x a o h
theorem But.seq {K : PySem.W.Frag} {b a : Addr} {H H' : Hp} {xs : List V} (e : But b H H') (n : a ≠ b) (h : SqL K H a xs) : SqL K H' a xs := by
  rcases h with (h | ⟨o, h⟩) | h
  · exact .inl (.inl (e _ _ n h))
  · exact .inl (.inr ⟨o, e _ _ n h⟩)
  · exact .inr h
theorem But.upd {b : Addr} {H0 H : Hp} {o : HO} (s : But b H0 H) : But b H0 (upd H b o) := fun a x n e => by
  rw [upd_ne n]
  exact s a x n e
theorem Same.tup {K : PySem.W.Frag} {a : Addr} {H H' : Hp} {xs : List V} (e : Same H H') (h : SqT K H a xs) : SqT K H' a xs := by
  rcases h with (h | ⟨o, h⟩) | h
  · exact .inl (.inl (e _ _ h))
  · exact .inl (.inr ⟨o, e _ _ h⟩)
  · exact .inr h
theorem But.tup {K : PySem.W.Frag} {b a : Addr} {H H' : Hp} {xs : List V} (e : But b H H') (n : a ≠ b) (h : SqT K H a xs) : SqT K H' a xs := by
  rcases h with (h | ⟨o, h⟩) | h
  · exact .inl (.inl (e _ _ n h))
  · exact .inl (.inr ⟨o, e _ _ n h⟩)
  · exact .inr h
end L2
namespace FW
open PySem PySem.Spec PyProof.Rows L2
def topS (i : Nat) : Stmt := PySem.Challenge.pw_fourwalls_k03_rooms_and_cuts.main.body.getD i (.Pass ⟨0, 0, 0, 0⟩)
/-- the built-in names that stand as they were -/
structure Z (mg : Str → Option Value) : Prop where
  z_isinstance : mg "isinstance" = none
  z_str : mg "str" = none
  z_all : mg "all" = none
  z_len : mg "len" = none
  z_int : mg "int" = none
  z_list : mg "list" = none
  z_abs : mg "abs" = none
  z_bool : mg "bool" = none
  z_tuple : mg "tuple" = none
  z_zip : mg "zip" = none
  z_range : mg "range" = none
/-- a value that is no text -/
def NotS (K : PySem.W.Frag) (H : Hp) (v : V) : Prop := ∃ T : String, TyX K H v (.type T) ∧ kitB T "str" = some false
def isStr : V → Bool
  | .str _ => true
  | _ => false
def strOf : V → Str
  | .str z => z
  | _ => ⟨#[]⟩
theorem str_of {v : V} (h : isStr v = true) : ∃ z, v = .str z := by
  cases v with
  | str z => exact ⟨z, rfl⟩
  | _ => exact absurd (show false = true from h) Bool.false_ne_true
abbrev small : Nat := 100000
theorem sz {n : Nat} (h : n ≤ 100000) : n ≤ sizeLine := Nat.le_trans h (by decide)
theorem sz1 {n : Nat} (h : n ≤ 100000) : n < sizeLine := Nat.lt_of_le_of_lt h (by decide)
section
variable {P : Program} {w : World} {K : PySem.W.Frag} {mg : Str → Option Value} {base : Heap}
/-! ### is_string -/
def bString (v : V) (fs : Str) : Bool := isStr v && (strOf v).cps.toList.all fun c => decide (c ∈ fs.cps.toList)
def sp_is_string (K : PySem.W.Frag) : Sp := fun vs H Q _ => ∃ (v : V) (fs : Str), vs = [v, .str fs] ∧ ((isStr v = true ∧ (strOf v).cps.size ≤ 100000) ∨ (isStr v = false ∧ NotS K H v)) ∧ ∀ H', Same H H' → Q (.bl (bString v fs)) H'
abbrev s_is_string : Stmt := topS 1
theorem sc_is_string : FnScope ["value", "faces", "face"] ["value", "faces"] (defScope s_is_string) := ⟨rfl, rfl, rfl, by decide +kernel, rfl, by decide +kernel, by decide +kernel⟩
theorem ok_is_string {f : Addr} {fd : FuncData} (F : Fun K "is_string" "is_string" s_is_string f fd) (T : Z mg) : FnOk P w K mg base CX0 1 f fd ["value", "faces"] (sp_is_string K) := by
  refine F.ok sc_is_string (fun vs H Q E h => ?_) (fun cdv A outer s H vs Q E hr h => ?_)
  · obtain ⟨v, fs, rfl, _⟩ := h
    rfl
  · obtain ⟨v, fs, rfl, hv, q⟩ := h
    refine ⟨_, (pss_one (ps_ret (pe_and (pe_callB call_isi (by rfl) T.z_isinstance (by decide +kernel) (pa_cons (pv 0) (pa_cons (pe_bltn (v := .ty "str") (u := .type "str") (by rfl) T.z_str (by decide +kernel) rfl) pa_nil))) (pe_one (pe_callB (cr_all rfl) (by rfl) T.z_all (by decide +kernel) (pa_cons (pe_lc (own := [("face", 2)]) (g := (gName 2)) (by rfl) sc_is_string.nd (pi_str (pv 0)) (blkOk_by (N := ["value", "faces", "face"]) (sc := defScope s_is_string) (by decide +kernel)) (fun _ _ _ _ _ => (pg_name (i := 2) sc_is_string.nd rfl (.inl rfl))) (fun _ _ _ _ _ => pts_nil) (fun _ _ _ _ _ => (pe_cmpR op_in_sign (pv 2) (pv 1) rfl))) pa_nil)))))), ?_⟩
    rcases hv with ⟨hs, hl⟩ | ⟨hs, T, ht, hk⟩
    · obtain ⟨z, rfl⟩ := str_of hs
      refine ⟨_, rfl, _, _, _, _, true, rfl, .ty _, .base (.str z), kit_ty (by decide +kernel), true, rfl, iteT ?_⟩
      refine ⟨_, rfl, z, rfl, fun D hD => lc_it walk_str (fun i H' => H' = upd H D (.lst ((z.cps.toList.take i).map fun c => V.bl (decide (c ∈ fs.cps.toList))))) rfl (fun _ _ _ _ => trivial) ?_ ?_⟩
      · rintro i x _ _ hi rfl ⟨rfl, c, hc, rfl⟩
        refine ⟨rfl, ?_⟩
        refine ⟨_, rfl, _, rfl, c, fs, rfl, rfl, _, upd_same, ?_, ?_⟩
        · rw [List.length_map, List.length_take]
          have hl : z.cps.size ≤ 100000 := hl
          exact sz1 (Nat.le_trans (Nat.min_le_left _ _) (by omega))
        · rw [upd_upd]
          have e : z.cps.toList.take (i + 1) = z.cps.toList.take i ++ [c] := by
            rw [List.take_add_one]
            have : z.cps.toList[i]? = some c := by rw [Array.getElem?_toList]; exact hc
            rw [this]
            rfl
          rw [e, List.map_append]
          rfl
      · rintro H' rfl
        refine ⟨D, z.cps.toList.map fun c => decide (c ∈ fs.cps.toList), rfl, SqL.of ?_, ?_⟩
        · rw [upd_same, List.take_of_length_le (by simp), List.map_map]
          rfl
        · have e : (z.cps.toList.map fun c => decide (c ∈ fs.cps.toList)).all id = bString (.str z) fs := by
            unfold bString isStr strOf
            rw [List.all_map]
            rfl
          rw [e]
          exact q _ (same_upd hD)
    · refine ⟨_, rfl, _, _, _, _, false, rfl, .ty _, ht, kit_ty hk, false, rfl, iteF ?_⟩
      have e : bString v fs = false := by
        unfold bString
        rw [hs]
        rfl
      rw [e] at q
      exact q _ (Same.refl H)
/-! ### is_room -/
theorem NotS.same {H H' : Hp} {v : V} (n : NotS K H v) (q : ∀ T, TyX K H v T → TyX K H' v T) : NotS K H' v := let ⟨T, t, k⟩ := n; ⟨T, q _ t, k⟩
def bRoom (v : V) (fs : Str) : Bool := bString v fs && decide ((strOf v).cps.size = 4)
def sp_is_room (K : PySem.W.Frag) : Sp := fun vs H Q _ => ∃ (v : V) (fs : Str), vs = [v, .str fs] ∧ ((isStr v = true ∧ (strOf v).cps.size ≤ 100000) ∨ (isStr v = false ∧ NotS K H v)) ∧ ∀ H', Same H H' → Q (.bl (bRoom v fs)) H'
abbrev s_is_room : Stmt := topS 2
theorem sc_is_room : FnScope ["value", "faces"] ["value", "faces"] (defScope s_is_room) := ⟨rfl, rfl, rfl, by decide +kernel, rfl, by decide +kernel, by decide +kernel⟩
theorem ok_is_room {f : Addr} {fd : FuncData} (F : Fun K "is_room" "is_room" s_is_room f fd) (T : Z mg) (c_is_string : Cal P w K mg base CX0 1 "is_string" s_is_string ["value", "faces"] (sp_is_string K)) : FnOk P w K mg base CX0 2 f fd ["value", "faces"] (sp_is_room K) := by
  refine F.ok sc_is_room (fun vs H Q E h => ?_) (fun cdv A outer s H vs Q E hr h => ?_)
  · obtain ⟨v, fs, rfl, _⟩ := h
    rfl
  · obtain ⟨v, fs, rfl, hv, q⟩ := h
    refine ⟨_, (pss_one (ps_ret (pe_and (pe_c c_is_string hr (by decide) (by rfl) (pa_cons (pv 0) (pa_cons (pv 1) pa_nil))) (pe_one (pe_cmpR op_eq (pe_callB call_len_str (by rfl) T.z_len (by decide +kernel) (pa_cons (pv 0) pa_nil)) pe_int (nomark _)))))), ?_⟩
    refine ⟨_, rfl, _, rfl, v, fs, rfl, hv, fun H1 sm => ⟨_, rfl, ?_⟩⟩
    cases hb : bString v fs with
    | false =>
      refine iteF ?_
      have e : bRoom v fs = false := by
        unfold bRoom
        rw [hb]
        rfl
      rw [e] at q
      exact q _ sm
    | true =>
      refine iteT ?_
      have hs : isStr v = true := by
        unfold bString at hb
        rw [Bool.and_eq_true] at hb
        exact hb.1
      rcases hv with ⟨_, hl⟩ | ⟨h0, _⟩
      · obtain ⟨z, rfl⟩ := str_of hs
        refine ⟨_, rfl, z, rfl, sz hl, rfl, ?_⟩
        have e : bRoom (.str z) fs = decide (V.int (z.length : Int) = V.int 4) := by
          unfold bRoom
          rw [hb]
          by_cases h4 : z.cps.size = 4
          · rw [decide_eq_true (show V.int (z.length : Int) = V.int 4 by rw [show z.length = 4 from h4]; rfl)]
            exact decide_eq_true h4
          · rw [decide_eq_false (show ¬ V.int (z.length : Int) = V.int 4 from fun q => h4 (by
              have q1 := V.int.inj q
              show z.length = 4
              omega))]
            exact decide_eq_false h4
        rw [e] at q
        exact q _ sm
      · rw [hs] at h0
        cases h0
/-! ### is_cut -/
def bCut (v : V) (fs : Str) : Bool := isStr v && decide ((strOf v).cps.size = 3) && decide ((strOf v).cps.toList.getD 0 0 ∈ ("|-" : Str).cps.toList) && ((strOf v).cps.toList.drop 1).all fun c => decide (c ∈ fs.cps.toList)
def sp_is_cut (K : PySem.W.Frag) : Sp := fun vs H Q _ => ∃ (v : V) (fs : Str), vs = [v, .str fs] ∧ ((isStr v = true ∧ (strOf v).cps.size ≤ 100000) ∨ (isStr v = false ∧ NotS K H v)) ∧ ∀ H', Same H H' → Q (.bl (bCut v fs)) H'
abbrev s_is_cut : Stmt := topS 3
theorem sc_is_cut : FnScope ["value", "faces"] ["value", "faces"] (defScope s_is_cut) := ⟨rfl, rfl, rfl, by decide +kernel, rfl, by decide +kernel, by decide +kernel⟩
theorem cutS_from {z : Str} (h : 1 ≤ z.cps.size) : cutS z (some 1) none = ⟨(z.cps.toList.drop 1).toArray⟩ := by
  unfold cutS
  rw [HT.sIx_none, show HT.sIx z.length 0 (some 1) = min 1 z.length from HT.sIx_nat z.length 0 1]
  have e : min 1 z.length = 1 := Nat.min_eq_left h
  rw [e, List.take_of_length_le]
  simp [Str.length]
theorem ok_is_cut {f : Addr} {fd : FuncData} (F : Fun K "is_cut" "is_cut" s_is_cut f fd) (T : Z mg) (c_is_string : Cal P w K mg base CX0 1 "is_string" s_is_string ["value", "faces"] (sp_is_string K)) : FnOk P w K mg base CX0 2 f fd ["value", "faces"] (sp_is_cut K) := by
  refine F.ok sc_is_cut (fun vs H Q E h => ?_) (fun cdv A outer s H vs Q E hr h => ?_)
  · obtain ⟨v, fs, rfl, _⟩ := h
    rfl
  · obtain ⟨v, fs, rfl, hv, q⟩ := h
    refine ⟨_, (pss_cons (ps_if (PW.pt (pw_or (pt_not (pt_val (pe_callB call_isi (by rfl) T.z_isinstance (by decide +kernel) (pa_cons (pv 0) (pa_cons (pe_bltn (v := .ty "str") (u := .type "str") (by rfl) T.z_str (by decide +kernel) rfl) pa_nil))))) (pw_or1 (pt_cmpR op_ne (pe_callB call_len_str (by rfl) T.z_len (by decide +kernel) (pa_cons (pv 0) pa_nil)) pe_int (nomark _))))) (pss_one (ps_ret pe_bl)) pss_nil)
      (pss_one (ps_ret (pe_and (pe_cmpR op_in_sign (pe_ix ix_str (pv 0) pe_int (fun _ _ => rfl)) pe_str rfl) (pe_one (pe_c c_is_string hr (by decide) (by rfl) (pa_cons (pe_slice sl_str (pv 0) (po_some pe_int) po_none) (pa_cons (pv 1) pa_nil)))))))), ?_⟩
    rcases hv with ⟨hs, hl⟩ | ⟨hs, Ty, ht, hk⟩
    · obtain ⟨z, rfl⟩ := str_of hs
      refine ⟨_, rfl, _, _, _, _, true, rfl, .ty _, .base (.str z), kit_ty (by decide +kernel), true, rfl, iteF ?_⟩
      refine ⟨_, rfl, z, rfl, sz hl, rfl, _, rfl, ?_⟩
      by_cases h3 : z.cps.size = 3
      · have e3 : decide (V.int (z.length : Int) = V.int 3) = true := decide_eq_true (by rw [show z.length = 3 from h3]; rfl)
        rw [e3]
        refine iteF ?_
        have h0 : atI z.cps.toList 0 = some (z.cps.toList.getD 0 0) := by
          refine atI_nat (j := 0) ?_
          rw [List.getD_eq_getElem?_getD]
          have : 0 < z.cps.toList.length := by simp; omega
          rw [List.getElem?_eq_getElem this]
          rfl
        refine ⟨_, rfl, z, 0, _, rfl, rfl, sz hl, h0, _, _, rfl, rfl, _, rfl, ?_⟩
        cases hb : decide (z.cps.toList.getD 0 0 ∈ ("|-" : Str).cps.toList) with
        | false =>
          refine iteF ?_
          have e : bCut (.str z) fs = false := by
            unfold bCut
            show ((true && decide (z.cps.size = 3)) && decide (z.cps.toList.getD 0 0 ∈ ("|-" : Str).cps.toList) && _) = false
            rw [hb, Bool.and_false, Bool.false_and]
          rw [e] at q
          exact q _ (Same.refl H)
        | true =>
          refine iteT ?_
          refine ⟨_, rfl, 1, rfl, z, rfl, sz hl, _, rfl, _, fs, rfl, .inl ⟨rfl, ?_⟩, fun H' sm => ?_⟩
          · rw [cutS_from (by omega)]
            show (z.cps.toList.drop 1).toArray.size ≤ 100000
            simp
            omega
          · have e : bCut (.str z) fs = bString (.str (cutS z (some 1) none)) fs := by
              rw [cutS_from (by omega)]
              unfold bCut bString
              show ((true && decide (z.cps.size = 3)) && decide (z.cps.toList.getD 0 0 ∈ ("|-" : Str).cps.toList) && _) = _
              rw [hb, decide_eq_true h3]
              rfl
            rw [e] at q
            exact q _ sm
      · have e3 : decide (V.int (z.length : Int) = V.int 3) = false := decide_eq_false fun q => h3 (by
          have q1 := V.int.inj q
          show z.length = 3
          omega)
        rw [e3]
        refine iteT ?_
        have e : bCut (.str z) fs = false := by
          unfold bCut
          show ((true && decide (z.cps.size = 3)) && _ && _) = false
          rw [decide_eq_false h3]
          rfl
        rw [e] at q
        exact q _ (Same.refl H)
    · refine ⟨_, rfl, _, _, _, _, false, rfl, .ty _, ht, kit_ty hk, false, rfl, iteT ?_⟩
      refine iteT ?_
      have e : bCut v fs = false := by
        unfold bCut
        rw [hs]
        rfl
      rw [e] at q
      exact q _ (Same.refl H)
/-! ### parts_of -/
def S4 (a b c d : Nat) : Str := ⟨#[a, b, c, d]⟩
def S3 (a b c : Nat) : Str := ⟨#[a, b, c]⟩
/-- both parts of a room by a cut; the codes of the signs: 124 upright -/
def partsC (n e s w sg x y : Nat) : List Str := if sg = 124 then [S4 n x s w, S4 n e s y] else [S4 n e x w, S4 y e s w]
def sp_parts_of (K : PySem.W.Frag) : Sp := fun vs H Q _ => ∃ (n e s w : Nat) (cut : Str), vs = [.str (S4 n e s w), .str cut] ∧
  ((cut = ("" : Str) ∧ ∀ p, H p = none → Q (.ref p) (upd H p (.lst [.str (S4 n e s w)]))) ∨ ∃ sg x y, cut = S3 sg x y ∧ ∀ p, H p = none → Q (.ref p) (upd H p (.lst ((partsC n e s w sg x y).map V.str))))
abbrev s_parts_of : Stmt := topS 4
theorem sc_parts_of : FnScope ["room", "cut", "north", "east", "south", "west", "sign", "one", "other"] ["room", "cut"] (defScope s_parts_of) := ⟨rfl, rfl, rfl, by decide +kernel, rfl, by decide +kernel, by decide +kernel⟩
theorem ok_parts_of {f : Addr} {fd : FuncData} (F : Fun K "parts_of" "parts_of" s_parts_of f fd) : FnOk P w K mg base CX0 1 f fd ["room", "cut"] (sp_parts_of K) := by
  refine F.ok sc_parts_of (fun vs H Q E h => ?_) (fun cdv A outer s H vs Q E hr h => ?_)
  · obtain ⟨n, e, so, we, cut, rfl, _⟩ := h
    rfl
  · obtain ⟨n, e, so, we, cut, rfl, hq⟩ := h
    refine ⟨_, (pss_cons (ps_if (pt_cmpR op_eq (pv 1) pe_str (nomark _)) (pss_one (ps_ret (pe_lst (pa_cons (pv 0) pa_nil)))) pss_nil)
      (pss_cons (ps_asg (pv 0) (pg_ustr (by rfl) (pgs_cons (pg_name (i := 2) sc_parts_of.nd rfl (.inl rfl)) (pgs_cons (pg_name (i := 3) sc_parts_of.nd rfl (.inl rfl)) (pgs_cons (pg_name (i := 4) sc_parts_of.nd rfl (.inl rfl)) (pgs_cons (pg_name (i := 5) sc_parts_of.nd rfl (.inl rfl)) pgs_nil))))))
      (pss_cons (ps_asg (pv 1) (pg_ustr (by rfl) (pgs_cons (pg_name (i := 6) sc_parts_of.nd rfl (.inl rfl)) (pgs_cons (pg_name (i := 7) sc_parts_of.nd rfl (.inl rfl)) (pgs_cons (pg_name (i := 8) sc_parts_of.nd rfl (.inl rfl)) pgs_nil)))))
      (pss_cons (ps_if (pt_cmpR op_eq (pv 6) pe_str (nomark _)) (pss_one (ps_ret (pe_lst (pa_cons (pe_op op_add_str (pe_op op_add_str (pe_op op_add_str (pv 2) (pv 7)) (pv 4)) (pv 5)) (pa_cons (pe_op op_add_str (pe_op op_add_str (pe_op op_add_str (pv 2) (pv 3)) (pv 4)) (pv 8)) pa_nil))))) pss_nil)
      (pss_one (ps_ret (pe_lst (pa_cons (pe_op op_add_str (pe_op op_add_str (pe_op op_add_str (pv 2) (pv 3)) (pv 7)) (pv 5)) (pa_cons (pe_op op_add_str (pe_op op_add_str (pe_op op_add_str (pv 8) (pv 3)) (pv 4)) (pv 5)) pa_nil))))))))), ?_⟩
    rcases hq with ⟨rfl, q⟩ | ⟨sg, x, y, rfl, q⟩
    · refine ⟨_, rfl, rfl, _, rfl, ?_⟩
      rw [decide_eq_true rfl]
      refine iteT ?_
      exact ⟨_, rfl, by show 1 ≤ sizeLine; decide, q⟩
    · refine ⟨_, rfl, rfl, _, rfl, ?_⟩
      have e1 : decide (V.str (S3 sg x y) = V.str ("" : Str)) = false := decide_eq_false fun q => by
        have q1 : (S3 sg x y).cps.size = ("" : Str).cps.size := by rw [V.str.inj q]
        exact absurd q1 (by show ¬ 3 = 0; decide)
      rw [e1]
      refine iteF ?_
      refine ⟨_, rfl, _, rfl, rfl, _, _, rfl, _, _, rfl, _, _, rfl, _, _, rfl, rfl, ?_⟩
      refine ⟨_, rfl, _, rfl, rfl, _, _, rfl, _, _, rfl, _, _, rfl, rfl, ?_⟩
      refine ⟨_, rfl, rfl, _, rfl, ?_⟩
      by_cases hs : sg = 124
      · subst hs
        refine ite2 (fun _ => ?_) (fun hn => absurd (decide_eq_true rfl) hn)
        refine ⟨_, rfl, _, rfl, _, _, rfl, rfl, (show 2 ≤ sizeLine by decide), _, rfl, _, _, rfl, rfl, (show 3 ≤ sizeLine by decide), _, rfl, _, _, rfl, rfl, (show 4 ≤ sizeLine by decide), ?_⟩
        refine ⟨_, rfl, _, rfl, _, _, rfl, rfl, (show 2 ≤ sizeLine by decide), _, rfl, _, _, rfl, rfl, (show 3 ≤ sizeLine by decide), _, rfl, _, _, rfl, rfl, (show 4 ≤ sizeLine by decide), by show 2 ≤ sizeLine; decide, ?_⟩
        exact q
      · refine ite2 (fun hn => ?_) (fun _ => ?_)
        · exact absurd (by
            have q1 := V.str.inj (of_decide_eq_true hn)
            have q2 := congrArg (fun z : Str => z.cps.toList) q1
            exact List.head_eq_of_cons_eq q2) hs
        · refine ⟨_, rfl, _, rfl, _, _, rfl, rfl, (show 2 ≤ sizeLine by decide), _, rfl, _, _, rfl, rfl, (show 3 ≤ sizeLine by decide), _, rfl, _, _, rfl, rfl, (show 4 ≤ sizeLine by decide), ?_⟩
          refine ⟨_, rfl, _, rfl, _, _, rfl, rfl, (show 2 ≤ sizeLine by decide), _, rfl, _, _, rfl, rfl, (show 3 ≤ sizeLine by decide), _, rfl, _, _, rfl, rfl, (show 4 ≤ sizeLine by decide), by show 2 ≤ sizeLine; decide, ?_⟩
          have e2 : partsC n e so we sg x y = [S4 n e x we, S4 y e so we] := if_neg hs
          rw [e2] at q
          exact q
end
end FW
namespace FW
open PySem PySem.Spec PyProof.Rows L2
/-! ### the bag of draws -/
def Bag (H : Hp) (b l : Addr) : Prop := ∃ (ns : List Int) (i r m c : Int), H b = some (.lst [.ref l, .int i, .int r, .int m, .int c]) ∧ H l = some (.lst (ns.map V.int)) ∧ ns.length ≤ 1000 ∧ 0 ≤ i ∧ 0 ≤ m ∧ m < 2147483648
theorem bag_ne {l : Addr} {ns : List Int} {i r m c : Int} : HO.lst (ns.map V.int) ≠ HO.lst [.ref l, .int i, .int r, .int m, .int c] := by
  intro e
  have e1 := HO.lst.inj e
  cases ns with
  | nil => cases e1
  | cons n ns =>
    have e2 := List.head_eq_of_cons_eq e1
    cases e2
theorem Bag.same {H H' : Hp} {b l : Addr} (B : Bag H b l) (s : Same H H') : Bag H' b l := by
  obtain ⟨ns, i, r, m, c, h1, h2, q⟩ := B
  exact ⟨ns, i, r, m, c, s _ _ h1, s _ _ h2, q⟩
theorem Bag.la {H : Hp} {b l : Addr} (B : Bag H b l) : ∃ xs, H b = some (.lst xs) := let ⟨_, _, _, _, _, h, _⟩ := B; ⟨_, h⟩
theorem Bag.lb {H : Hp} {b l : Addr} (B : Bag H b l) : ∃ xs, H l = some (.lst xs) := let ⟨_, _, _, _, _, _, h, _⟩ := B; ⟨_, h⟩
/-- what is new is not the bag -/
theorem Bag.ne {H : Hp} {b l p : Addr} (B : Bag H b l) (h : H p = none) : p ≠ b := fun e => by
  obtain ⟨xs, h1⟩ := B.la
  rw [e, h1] at h
  cases h
theorem Bag.ne2 {H : Hp} {b l p : Addr} (B : Bag H b l) (h : H p = none) : p ≠ l := fun e => by
  obtain ⟨xs, h1⟩ := B.lb
  rw [e, h1] at h
  cases h
/-- another object changes -/
theorem Bag.upd {H : Hp} {b l p : Addr} {o : HO} (B : Bag H b l) (h1 : p ≠ b) (h2 : p ≠ l) : Bag (L2.upd H p o) b l := by
  obtain ⟨ns, i, r, m, c, g1, g2, q⟩ := B
  exact ⟨ns, i, r, m, c, by rw [upd_ne h1.symm]; exact g1, by rw [upd_ne h2.symm]; exact g2, q⟩
section
variable {P : Program} {w : World} {K : PySem.W.Frag} {mg : Str → Option Value} {base : Heap}
/-! ### _law_open -/
def sp__law_open (K : PySem.W.Frag) : Sp := fun vs H Q _ => ∃ (a : Addr) (ns : List Int), vs = [.ref a] ∧ SqL K H a (ns.map V.int) ∧ ns.length ≤ 63 ∧ ∀ H' b l, H b = none → H l = none → Same H H' → Bag H' b l → Q (.ref b) H'
abbrev s__law_open : Stmt := topS 6
theorem sc__law_open : FnScope ["_law_script", "_law_mixed", "_law_cell"] ["_law_script"] (defScope s__law_open) := ⟨rfl, rfl, rfl, by decide +kernel, rfl, by decide +kernel, by decide +kernel⟩
theorem cutV_to {xs : List V} {k : Nat} : cutV xs none (some (k : Int)) = xs.take k := by
  unfold cutV
  rw [HT.sIx_none, HT.sIx_nat]
  show List.take (min k xs.length - 0) (List.drop 0 xs) = _
  rw [List.drop_zero, Nat.sub_zero, List.take_eq_take_iff]
  omega
theorem ok__law_open {f : Addr} {fd : FuncData} (F : Fun K "_law_open" "_law_open" s__law_open f fd) (T : Z mg) : FnOk P w K mg base CX0 1 f fd ["_law_script"] (sp__law_open K) := by
  refine F.ok sc__law_open (fun vs H Q E h => ?_) (fun cdv A outer s H vs Q E hr h => ?_)
  · obtain ⟨a, ns, rfl, _⟩ := h
    rfl
  · obtain ⟨a, ns, rfl, hS, hlen, q⟩ := h
    refine ⟨_, (pss_cons (ps_set (i := 1) sc__law_open.nd rfl (.inl rfl) pe_int)
      (pss_cons (ps_for PassesOwn.never rfl (pi_list (pe_slice sl_list (pv 0) po_none (po_some pe_int))) (pg_name (i := 2) sc__law_open.nd rfl (.inl rfl))
        (pss_one (ps_set (i := 1) sc__law_open.nd rfl (.inl rfl) (pe_op op_mod (pe_callTy call_int1 (by rfl) T.z_int (by decide +kernel) (pa_cons (pe_op op_add (pe_op op_add (pe_op op_mul (pv 1) pe_int) (pe_op op_mul (pe_op op_mod (pe_callTy call_int1 (by rfl) T.z_int (by decide +kernel) (pa_cons (pv 2) pa_nil)) pe_int) pe_int)) pe_int) pa_nil)) pe_int))))
      (pss_one (ps_ret (pe_lst (pa_cons (pe_callTy call_list_of (by rfl) T.z_list (by decide +kernel) (pa_cons (pe_slice sl_list (pv 0) po_none (po_some pe_int)) pa_nil)) (pa_cons pe_int (pa_cons pe_int (pa_cons (pv 1) (pa_cons pe_int pa_nil)))))))))), ?_⟩
    have ecut : cutV (ns.map V.int) none (some 63) = ns.map V.int := by
      rw [show (63 : Int) = ((63 : Nat) : Int) from rfl, cutV_to]
      exact List.take_of_length_le (by rw [List.length_map]; exact hlen)
    refine ⟨_, rfl, 63, rfl, a, _, rfl, hS, fun p np => ?_⟩
    rw [ecut]
    have s1 : Same H (upd H p (.lst (ns.map V.int))) := same_upd np
    refine ⟨p, rfl, ⟨_, SqL.of upd_same⟩, for_it (walk_list (xs := ns.map V.int)) (fun i σ H' => ∃ m y, σ = [some (.ref a), some (.int m), y] ∧ 0 ≤ m ∧ m < 2147483648 ∧ H' = upd H p (.lst (ns.map V.int)))
      ⟨10042, none, rfl, by decide, by decide, rfl⟩ (fun i σ H' _ ⟨_, _, _, _, _, e⟩ => by rw [e]; exact SqL.of upd_same) ?_ ?_⟩
    · rintro i x σ _ _ hi ⟨m, y, rfl, h0, h1, rfl⟩ ⟨rfl, hx⟩
      obtain ⟨z, rfl⟩ : ∃ z, x = V.int z := by
        rw [List.getElem?_map] at hx
        cases e : ns[i]? with
        | none => rw [e] at hx; cases hx
        | some u => rw [e] at hx; exact ⟨u, (Option.some.inj hx).symm⟩
      refine ⟨_, rfl, _, _, rfl, rfl, .inr ⟨by decide, by decide⟩, _, rfl, .inl ⟨_, rfl, _, _, rfl, rfl, (show (0 : Int) < 1000033 by decide), _, _, rfl, rfl, .inr ⟨by decide, by decide⟩, _, _, rfl, rfl, _, _, rfl, rfl, .inl ⟨_, rfl, _, _, rfl, rfl, (show (0 : Int) < 2147483549 by decide), ?_⟩⟩⟩
      refine ⟨_, _, rfl, Int.emod_nonneg _ (by decide), ?_, rfl⟩
      exact Int.lt_trans (Int.emod_lt_of_pos _ (by decide)) (by decide)
    · rintro σ _ ⟨m, y, rfl, h0, h1, rfl⟩
      refine ⟨_, rfl, 63, rfl, a, _, rfl, s1.seq hS, fun p2 np2 => ?_⟩
      rw [ecut]
      have s2 := same_upd (o := HO.lst (ns.map V.int)) np2
      refine ⟨p2, _, rfl, .inl (SqL.of upd_same), fun l nl => ?_⟩
      have s3 := same_upd (o := HO.lst (ns.map V.int)) nl
      refine ⟨_, rfl, (show 5 ≤ sizeLine by decide), fun b nb => ?_⟩
      have s4 := same_upd (o := HO.lst [V.ref l, V.int 0, V.int 0, V.int m, V.int 0]) nb
      have s5 := (s1.trans s2).trans s3
      refine q _ b l (s5.free nb) ((s1.trans s2).free nl) (s5.trans s4) ⟨ns, 0, 0, m, 0, upd_same, s4 _ _ upd_same, by omega, by decide, h0, h1⟩
/-! ### _law_draw -/
def sp__law_draw (K : PySem.W.Frag) : Sp := fun vs H Q _ => ∃ (b l : Addr) (k : Int), vs = [.ref b, .int k] ∧ Bag H b l ∧ 0 < k ∧ k < 1073741824 ∧ ∀ H' z, 0 ≤ z → z < k → But b H H' → Bag H' b l → Q (.int z) H'
abbrev s__law_draw : Stmt := topS 7
theorem sc__law_draw : FnScope ["_law_bag", "_law_many", "_law_cell", "_law_digit", "_law_twice"] ["_law_bag", "_law_many"] (defScope s__law_draw) := ⟨rfl, rfl, rfl, by decide +kernel, rfl, by decide +kernel, by decide +kernel⟩
/-- behind the first part of a draw -/
def BagAt (H0 H : Hp) (b l : Addr) (ns : List Int) : Prop := But b H0 H ∧ H l = some (.lst (ns.map V.int)) ∧ ∃ i r m c : Int, H b = some (.lst [.ref l, .int i, .int r, .int m, .int c]) ∧ 0 ≤ i ∧ 0 ≤ m ∧ m < 2147483648
theorem ok__law_draw {f : Addr} {fd : FuncData} (F : Fun K "_law_draw" "_law_draw" s__law_draw f fd) (T : Z mg) : FnOk P w K mg base CX0 1 f fd ["_law_bag", "_law_many"] (sp__law_draw K) := by
  refine F.ok sc__law_draw (fun vs H Q E h => ?_) (fun cdv A outer s H vs Q E hr h => ?_)
  · obtain ⟨b, l, k, rfl, _⟩ := h
    rfl
  · obtain ⟨b, l, k, rfl, ⟨ns, i, r, m, c, hb, hL, hlen, hi, hm0, hm1⟩, hk, hk2, q⟩ := h
    have nlb : l ≠ b := ne_of hL hb bag_ne
    refine ⟨_, (pss_cons (ps_asg (pe_op op_add (pe_ix ix_list (pv 0) pe_int (fun _ _ => rfl)) pe_int) (pg_sub (pv 0) pe_int set_list))
      (C8.pss_cut (ps_if (PW.pt (pw_and (pt_cmpR op_eq (pe_ix ix_list (pv 0) pe_int (fun _ _ => rfl)) pe_int (nomark _)) (pw_and1 (pt_cmpR op_lt (pe_ix ix_list (pv 0) pe_int (fun _ _ => rfl)) (pe_callB call_len (by rfl) T.z_len (by decide +kernel) (pa_cons (pe_ix ix_list (pv 0) pe_int (fun _ _ => rfl)) pa_nil)) (nomark _))))) (pss_cons (ps_set (i := 2) sc__law_draw.nd rfl (.inl rfl) (pe_ix ix_list (pe_ix ix_list (pv 0) pe_int (fun _ _ => rfl)) (pe_ix ix_list (pv 0) pe_int (fun _ _ => rfl)) (fun _ _ => rfl)))
      (pss_cons (ps_asg (pe_op op_add (pe_ix ix_list (pv 0) pe_int (fun _ _ => rfl)) pe_int) (pg_sub (pv 0) pe_int set_list))
      (pss_one (ps_if (pt_cmpR op_ge (pe_callB call_abs (by rfl) T.z_abs (by decide +kernel) (pa_cons (pv 2) pa_nil)) (pe_op op_pow pe_int pe_int) (nomark _)) (pss_one (ps_asg (pe_callB call_abs (by rfl) T.z_abs (by decide +kernel) (pa_cons (pv 2) pa_nil)) (pg_sub (pv 0) pe_int set_list))) (pss_one (ps_asg (pe_op op_mod (pe_callTy call_int1 (by rfl) T.z_int (by decide +kernel) (pa_cons (pe_op op_add (pe_op op_add (pe_op op_mul (pe_ix ix_list (pv 0) pe_int (fun _ _ => rfl)) pe_int) (pe_op op_mul (pe_op op_mod (pe_callTy call_int1 (by rfl) T.z_int (by decide +kernel) (pa_cons (pv 2) pa_nil)) pe_int) pe_int)) pe_int) pa_nil)) pe_int) (pg_sub (pv 0) pe_int set_list))))))) pss_nil)
      (pss_cons (ps_if (pt_cmpR op_gt (pe_ix ix_list (pv 0) pe_int (fun _ _ => rfl)) pe_int (nomark _)) (pss_cons (ps_set (i := 3) sc__law_draw.nd rfl (.inl rfl) (pe_op op_mod (pe_callTy call_int1 (by rfl) T.z_int (by decide +kernel) (pa_cons (pe_ix ix_list (pv 0) pe_int (fun _ _ => rfl)) pa_nil)) (pv 1)))
      (pss_cons (ps_asg (pe_op op_fdivN (pe_ix ix_list (pv 0) pe_int (fun _ _ => rfl)) (pv 1)) (pg_sub (pv 0) pe_int set_list))
      (pss_one (ps_ret (pv 3))))) pss_nil)
      (pss_cons (ps_set (i := 4) sc__law_draw.nd rfl (.inl rfl) (pe_op op_mod (pe_callTy call_int1 (by rfl) T.z_int (by decide +kernel) (pa_cons (pe_op op_add (pe_op op_mul (pe_ix ix_list (pv 0) pe_int (fun _ _ => rfl)) (pe_ix ix_list (pv 0) pe_int (fun _ _ => rfl))) (pe_op op_mul (pe_ix ix_list (pv 0) pe_int (fun _ _ => rfl)) pe_int)) pa_nil)) pe_int))
      (pss_cons (ps_asg (pe_op op_mod (pe_callTy call_int1 (by rfl) T.z_int (by decide +kernel) (pa_cons (pe_op op_add (pe_op op_add (pe_op op_mul (pv 4) pe_int) (pe_op op_mul (pe_ix ix_list (pv 0) pe_int (fun _ _ => rfl)) pe_int)) pe_int) pa_nil)) pe_int) (pg_sub (pv 0) pe_int set_list))
      (pss_one (ps_ret (pe_op op_mod (pe_callTy call_int1 (by rfl) T.z_int (by decide +kernel) (pa_cons (pe_op op_fdivN (pe_ix ix_list (pv 0) pe_int (fun _ _ => rfl)) pe_int) pa_nil)) (pv 1))))))))), ?_⟩
    -- bag[4] += 1
    refine ⟨_, rfl, b, _, 4, _, rfl, rfl, SqL.of hb, rfl, _, _, rfl, rfl, _, rfl, b, _, 4, 4, rfl, rfl, hb, rfl, ?_⟩
    have B1 : BagAt H (upd H b (.lst [.ref l, .int i, .int r, .int m, .int (c + 1)])) b l ns := ⟨(But.refl b H).upd, by rw [upd_ne nlb]; exact hL, i, r, m, c + 1, upd_same, hi, hm0, hm1⟩
    refine ⟨fun σ' H1 => ∃ x2 x3 x4, σ' = [some (.ref b), some (.int k), x2, x3, x4] ∧ BagAt H H1 b l ns, ?_, ?_⟩
    · have hL1 : (upd H b (.lst [.ref l, .int i, .int r, .int m, .int (c + 1)])) l = some (.lst (ns.map V.int)) := by rw [upd_ne nlb]; exact hL
      refine ⟨_, rfl, b, _, 2, _, rfl, rfl, SqL.of upd_same, rfl, rfl, _, rfl, ite2 (fun _ => ?_) (fun _ => ?_)⟩
      · refine ⟨_, rfl, b, _, 1, _, rfl, rfl, SqL.of upd_same, rfl, _, rfl, b, _, 0, _, rfl, rfl, SqL.of upd_same, rfl, _, _, rfl, .inl ⟨_, SqL.of hL1, rfl⟩, _, _, rfl, rfl, _, rfl, ite2 (fun hlt => ?_) (fun _ => ?_)⟩
        · have hlt : i < ((ns.map V.int).length : Int) := of_decide_eq_true hlt
          rw [List.length_map] at hlt
          have hin : i.toNat < ns.length := by omega
          have hat : atI (ns.map V.int) i = some (.int ns[i.toNat]) := by
            have e : i = ((i.toNat : Nat) : Int) := by omega
            refine at_of e ?_
            rw [List.getElem?_map, List.getElem?_eq_getElem hin]
            rfl
          refine ⟨_, rfl, b, _, 0, _, rfl, rfl, SqL.of upd_same, rfl, _, rfl, b, _, 1, _, rfl, rfl, SqL.of upd_same, rfl, l, _, i, _, rfl, rfl, SqL.of hL1, hat, ?_⟩
          refine ⟨_, rfl, b, _, 1, _, rfl, rfl, SqL.of upd_same, rfl, _, _, rfl, rfl, _, rfl, b, _, 1, 1, rfl, rfl, upd_same, rfl, ?_⟩
          refine ⟨_, rfl, _, rfl, _, _, rfl, rfl, ⟨by decide, by decide, by decide⟩, _, _, rfl, rfl, _, rfl, ite2 (fun _ => ?_) (fun _ => ?_)⟩
          · refine ⟨_, rfl, _, rfl, _, rfl, b, _, 2, 2, rfl, rfl, upd_same, rfl, _, _, _, rfl, (((But.refl b H).upd).upd).upd, ?_, _, _, _, _, upd_same, ?_, hm0, hm1⟩
            · rw [upd_ne nlb, upd_ne nlb]
              exact hL1
            · omega
          · refine ⟨_, rfl, b, _, 3, _, rfl, rfl, SqL.of upd_same, rfl, _, _, rfl, rfl, .inr ⟨by decide, by decide⟩, _, rfl, .inl ⟨_, rfl, _, _, rfl, rfl, (show (0 : Int) < 1000033 by decide), _, _, rfl, rfl, .inr ⟨by decide, by decide⟩, _, _, rfl, rfl, _, _, rfl, rfl, .inl ⟨_, rfl, _, _, rfl, rfl, (show (0 : Int) < 2147483587 by decide), ?_⟩⟩⟩
            refine ⟨_, rfl, b, _, 3, 3, rfl, rfl, upd_same, rfl, _, _, _, rfl, (((But.refl b H).upd).upd).upd, ?_, _, _, _, _, upd_same, ?_, Int.emod_nonneg _ (by decide), Int.lt_trans (Int.emod_lt_of_pos _ (by decide)) (by decide)⟩
            · rw [upd_ne nlb, upd_ne nlb]
              exact hL1
            · omega
        · exact ⟨_, _, _, rfl, B1⟩
      · exact ⟨_, _, _, rfl, B1⟩
    · rintro σ' H1 ⟨x2, x3, x4, rfl, hbut, hL1, i1, r1, m1, c1, hb1, hi1, hm01, hm11⟩
      have fin : ∀ H2, But b H H2 → H2 l = some (.lst (ns.map V.int)) → ∀ i2 r2 m2 c2 : Int, H2 b = some (.lst [.ref l, .int i2, .int r2, .int m2, .int c2]) → 0 ≤ i2 → 0 ≤ m2 → m2 < 2147483648 → Bag H2 b l := fun H2 _ h2 i2 r2 m2 c2 h3 h4 h5 h6 => ⟨ns, i2, r2, m2, c2, h3, h2, hlen, h4, h5, h6⟩
      refine ⟨_, rfl, b, _, 2, _, rfl, rfl, SqL.of hb1, rfl, _, _, rfl, rfl, _, rfl, ite2 (fun _ => ?_) (fun _ => ?_)⟩
      · refine ⟨_, rfl, b, _, 2, _, rfl, rfl, SqL.of hb1, rfl, .inl ⟨_, rfl, _, rfl, _, _, rfl, rfl, hk, ?_⟩⟩
        refine ⟨_, rfl, b, _, 2, _, rfl, rfl, SqL.of hb1, rfl, _, rfl, _, _, rfl, rfl, ⟨by omega, by omega⟩, _, rfl, b, _, 2, 2, rfl, rfl, hb1, rfl, _, rfl, ?_⟩
        refine q _ _ (Int.emod_nonneg _ (by omega)) (Int.emod_lt_of_pos _ hk) hbut.upd (fin _ hbut.upd (by rw [upd_ne nlb]; exact hL1) _ _ _ _ upd_same hi1 hm01 hm11)
      · refine ⟨_, rfl, b, _, 3, _, rfl, rfl, SqL.of hb1, rfl, _, rfl, b, _, 3, _, rfl, rfl, SqL.of hb1, rfl, _, _, rfl, rfl, .inl ⟨by omega, by omega⟩, _, rfl, b, _, 4, _, rfl, rfl, SqL.of hb1, rfl, _, _, rfl, rfl, .inr ⟨by decide, by decide⟩, _, _, rfl, rfl, .inl ⟨_, rfl, _, _, rfl, rfl, (show (0 : Int) < 2147483629 by decide), ?_⟩⟩
        refine ⟨_, rfl, _, _, rfl, rfl, .inr ⟨by decide, by decide⟩, _, rfl, b, _, 3, _, rfl, rfl, SqL.of hb1, rfl, _, _, rfl, rfl, .inr ⟨by decide, by decide⟩, _, _, rfl, rfl, _, _, rfl, rfl, .inl ⟨_, rfl, _, _, rfl, rfl, (show (0 : Int) < 2147483587 by decide), ?_⟩⟩
        refine ⟨_, rfl, b, _, 3, 3, rfl, rfl, hb1, rfl, ?_⟩
        refine ⟨_, rfl, b, _, 3, _, rfl, rfl, SqL.of upd_same, rfl, _, _, rfl, rfl, ⟨by decide, by decide⟩, .inl ⟨_, rfl, _, rfl, _, _, rfl, rfl, hk, ?_⟩⟩
        refine q _ _ (Int.emod_nonneg _ (by omega)) (Int.emod_lt_of_pos _ hk) hbut.upd (fin _ hbut.upd (by rw [upd_ne nlb]; exact hL1) _ _ _ _ upd_same hi1 (Int.emod_nonneg _ (by decide)) (Int.lt_trans (Int.emod_lt_of_pos _ (by decide)) (by decide)))
end
end FW
namespace FW
open PySem PySem.Spec PyProof.Rows L2
/-! ### texts by their codes -/
abbrev S (l : List Nat) : Str := ⟨l.toArray⟩
theorem S_cat (a b : List Nat) : S a ++ S b = S (a ++ b) := SX.S_cat a b
theorem S_len (a : List Nat) : (S a).length = a.length := SX.S_len a
theorem S_tl (x : Str) : S x.cps.toList = x := SX.S_tl x
theorem atI_of {α : Type} {xs : List α} {z : Int} {j : Nat} {v : α} (e : z = (j : Int)) (h : xs[j]? = some v) : atI xs z = some v := by
  rw [e]
  exact atI_nat h
theorem S_sub (l : List Nat) (i : Nat) : cutS (S l) (some (i : Int)) none = S (l.drop i) := by
  unfold cutS
  rw [HT.sIx_none, HT.sIx_nat]
  show (⟨(List.take ((S l).length - min i (S l).length) (List.drop (min i (S l).length) l)).toArray⟩ : Str) = ⟨(l.drop i).toArray⟩
  rw [S_len]
  have e : List.take (l.length - min i l.length) (List.drop (min i l.length) l) = l.drop i := by
    by_cases h : i ≤ l.length
    · rw [Nat.min_eq_left h]
      exact List.take_of_length_le (by rw [List.length_drop]; exact Nat.le_refl _)
    · rw [Nat.min_eq_right (by omega), List.drop_eq_nil_of_le (as := l) (i := i) (by omega)]
      simp
  rw [e]
theorem S_to (l : List Nat) (i : Nat) : cutS (S l) none (some (i : Int)) = S (l.take i) := by
  unfold cutS
  rw [HT.sIx_none, HT.sIx_nat]
  show (⟨(List.take (min i (S l).length - 0) (List.drop 0 l)).toArray⟩ : Str) = ⟨(l.take i).toArray⟩
  rw [S_len, List.drop_zero, Nat.sub_zero]
  have e : List.take (min i l.length) l = l.take i := by
    rw [List.take_eq_take_iff]
    omega
  rw [e]
section
variable {P : Program} {w : World} {K : PySem.W.Frag} {mg : Str → Option Value} {base : Heap}
/-! ### _law_of -/
def Items (K : PySem.W.Frag) (H : Hp) (b : Addr) (x : V) (xs : List V) : Prop := (∃ a, a ≠ b ∧ x = .ref a ∧ SqL K H a xs) ∨ (∃ a, a ≠ b ∧ x = .ref a ∧ SqT K H a xs) ∨ ∃ l, x = .str (S l) ∧ xs = l.map sgn
def sp__law_of (K : PySem.W.Frag) : Sp := fun vs H Q _ => ∃ (b l : Addr) (x : V) (xs : List V), vs = [.ref b, x] ∧ Bag H b l ∧ Items K H b x xs ∧ 0 < xs.length ∧ xs.length ≤ 100000 ∧ ∀ H' v, v ∈ xs → But b H H' → Bag H' b l → Q v H'
abbrev s__law_of : Stmt := topS 8
theorem sc__law_of : FnScope ["_law_bag", "_law_things"] ["_law_bag", "_law_things"] (defScope s__law_of) := ⟨rfl, rfl, rfl, by decide +kernel, rfl, by decide +kernel, by decide +kernel⟩
theorem ok__law_of {f : Addr} {fd : FuncData} (F : Fun K "_law_of" "_law_of" s__law_of f fd) (T : Z mg) (c__law_draw : Cal P w K mg base CX0 1 "_law_draw" s__law_draw ["_law_bag", "_law_many"] (sp__law_draw K)) : FnOk P w K mg base CX0 2 f fd ["_law_bag", "_law_things"] (sp__law_of K) := by
  refine F.ok sc__law_of (fun vs H Q E h => ?_) (fun cdv A outer s H vs Q E hr h => ?_)
  · obtain ⟨b, lb, x, xs, rfl, _⟩ := h
    rfl
  · obtain ⟨b, lb, x, xs, rfl, B, hI, h0, h1, q⟩ := h
    refine ⟨_, (pss_one (ps_ret (pe_ix ix_seq (pv 1) (pe_c c__law_draw hr (by decide) (by rfl) (pa_cons (pv 0) (pa_cons (pe_callB call_len (by rfl) T.z_len (by decide +kernel) (pa_cons (pv 1) pa_nil)) pa_nil))) (fun _ _ => rfl)))), ?_⟩
    have pick : ∀ z : Int, 0 ≤ z → z < (xs.length : Int) → ∃ v, atI xs z = some v ∧ v ∈ xs := fun z z0 z1 => by
      have hin : z.toNat < xs.length := by omega
      exact ⟨xs[z.toNat], at_of (show z = ((z.toNat : Nat) : Int) by omega) (List.getElem?_eq_getElem hin), List.getElem_mem hin⟩
    refine ⟨_, rfl, _, rfl, _, rfl, x, xs.length, rfl, ?_, ?_⟩
    · rcases hI with ⟨a, _, rfl, hS⟩ | ⟨a, _, rfl, hS⟩ | ⟨l, rfl, rfl⟩
      · exact .inl ⟨_, hS, rfl⟩
      · exact .inr ⟨_, hS, rfl⟩
      · rw [List.length_map] at h1 ⊢
        exact ⟨by rw [S_len]; exact sz h1, (S_len l).symm⟩
    · refine ⟨b, lb, xs.length, rfl, B, by omega, by omega, fun H' z z0 z1 hb B' => ?_⟩
      obtain ⟨v, ha, hm⟩ := pick z z0 z1
      rcases hI with ⟨a, na, rfl, hS⟩ | ⟨a, na, rfl, hS⟩ | ⟨l, rfl, rfl⟩
      · exact .inl ⟨a, xs, z, v, rfl, rfl, hb.seq na hS, ha, q _ _ hm hb B'⟩
      · exact .inr (.inl ⟨a, xs, z, v, rfl, rfl, hb.tup na hS, ha, q _ _ hm hb B'⟩)
      · refine .inr (.inr ?_)
        obtain ⟨c, hc⟩ : ∃ c, atI l z = some c := by
          have hin : z.toNat < l.length := by
            rw [List.length_map] at z1
            omega
          exact ⟨l[z.toNat], atI_of (show z = ((z.toNat : Nat) : Int) by omega) (List.getElem?_eq_getElem hin)⟩
        have ev : v = sgn c := by
          have z2 : z < (l.length : Int) := by
            rw [List.length_map] at z1
            exact z1
          have e1 : ixN l.length z = some z.toNat := by
            unfold ixN
            rw [if_pos z0, if_pos z2]
          unfold atI at ha hc
          rw [List.length_map, e1] at ha
          rw [e1] at hc
          have hc' : l[z.toNat]? = some c := hc
          have ha' : (l.map sgn)[z.toNat]? = some v := ha
          rw [List.getElem?_map, hc'] at ha'
          exact (Option.some.inj ha').symm
        rw [List.length_map] at h1
        exact ⟨S l, z, c, rfl, rfl, by rw [S_len]; exact sz h1, hc, by rw [ev] at hm; exact q _ _ hm hb B'⟩
/-! ### _law_same: of equal data it says True -/
mutual
/-- data that nest at most so deep -/
def Deep : Nat → PyData → Prop
  | _, .none => True
  | _, .bool _ => True
  | _, .int _ => True
  | _, .str _ => True
  | 0, .list _ => False
  | 0, .tuple _ => False
  | n + 1, .list ds => ds.length ≤ 1000 ∧ ∀ d ∈ ds, Deep n d
  | n + 1, .tuple ds => ds.length ≤ 1000 ∧ ∀ d ∈ ds, Deep n d
  | _, .dict _ => False
end
def sp__law_same (K : PySem.W.Frag) (n : Nat) : Sp := fun vs H Q _ => ∃ (x y : V) (d : PyData), vs = [x, y] ∧ Dp K H x d ∧ Dp K H y d ∧ Deep n d ∧ ∀ H', Same H H' → Q (.bl true) H'
abbrev s__law_same : Stmt := topS 9
theorem sc__law_same : FnScope ["_law_found", "_law_due", "_law_a", "_law_b"] ["_law_found", "_law_due"] (defScope s__law_same) := ⟨rfl, rfl, rfl, by decide +kernel, rfl, by decide +kernel, by decide +kernel⟩
theorem tyL {H : Hp} {a : Addr} {xs : List V} (h : SqL K H a xs) : TyX K H (.ref a) (.type "list") := by
  rcases h with (h | ⟨o, h⟩) | ⟨o, its, n, h, c, _⟩
  · exact .base (.lst h)
  · exact .base (.frz h)
  · exact .kList h c
theorem tyT {H : Hp} {a : Addr} {xs : List V} (h : SqT K H a xs) : TyX K H (.ref a) (.type "tuple") := by
  rcases h with (h | ⟨o, h⟩) | ⟨o, its, n, h, c, _⟩
  · exact .base (.tup h)
  · exact .fTuple h
  · exact .kTuple h c
theorem Dp.same {H H' : Hp} (s : Same H H') : ∀ {v : V} {d : PyData}, Dp K H v d → Dp K H' v d := by
  intro v d h
  exact @Dp.rec K H (fun v d _ => Dp K H' v d) (fun vs ds _ => DpAll K H' vs ds) .non (fun b => .bl b) (fun i => .int i) (fun x => .str x) (fun h _ ih => .lst (s.seq h) ih) (fun h _ ih => .tup (s.tup h) ih) .nil (fun _ _ i1 i2 => .cons i1 i2) v d h
theorem DpAll.same {H H' : Hp} (s : Same H H') : ∀ {vs : List V} {ds : List PyData}, DpAll K H vs ds → DpAll K H' vs ds
  | _, _, .nil => .nil
  | _, _, .cons h t => .cons (Dp.same s h) (DpAll.same s t)
theorem DpAll.len {H : Hp} : ∀ {vs : List V} {ds : List PyData}, DpAll K H vs ds → vs.length = ds.length
  | _, _, .nil => rfl
  | _, _, .cons _ t => congrArg (· + 1) (DpAll.len t)
theorem DpAll.at {H : Hp} : ∀ {vs : List V} {ds : List PyData} {i : Nat} {v : V}, DpAll K H vs ds → vs[i]? = some v → ∃ d, ds[i]? = some d ∧ Dp K H v d
  | _, _, _, _, .nil, e => by simp at e
  | _, _, 0, v, .cons h _, e => by
    have e1 := Option.some.inj (show some _ = some v from e)
    exact ⟨_, rfl, e1 ▸ h⟩
  | _, _, i + 1, v, .cons _ t, e => DpAll.at (i := i) t e
theorem walk_zipT {a b : Addr} {xs ys : List V} {n : Nat} (hn : n = min xs.length ys.length) : Walk (RZ.ItzT K a b) n (fun H => SqT K H a xs ∧ SqT K H b ys) (YPair (fun i => xs[i]?) (fun i => ys[i]?)) := by
  subst hn
  refine ⟨fun i _ hi q => ?_, fun _ q => ⟨xs, ys, q.1, q.2, by omega⟩, fun i H v H' _ q y => ?_⟩
  · have h1 : i < xs.length := by omega
    have h2 : i < ys.length := by omega
    exact ⟨xs, ys, xs[i], ys[i], q.1, q.2, by simp [h1], by simp [h2]⟩
  · obtain ⟨T, x, z, h1, h2, h3, h4, h5⟩ := y
    exact ⟨T, x, z, h1, h2, h3, h4 xs q.1, h5 ys q.2⟩
/-- the answers of isinstance(x, (list, tuple)) -/
theorem kitAny_lt {T : String} {r1 r2 : Bool} (h1 : kitB T "list" = some r1) (h2 : kitB T "tuple" = some r2) : PySem.W.kitAny K (.type T) [.type "list", .type "tuple"] = some (r1 || r2) := by
  refine kitAny_cons (kit_ty h1) (fun e => ?_) (fun e => by rw [e]; rfl)
  subst e
  refine kitAny_cons (kit_ty h2) (fun e => ?_) (fun e => by rw [e]; rfl)
  subst e
  rfl
theorem seq_but {H H' : Hp} {D a : Addr} {xs : List V} (nD : ∀ c u, H c = some u → c ≠ D) (bt : But D H H') (h : SqL K H a xs) : SqL K H' a xs := by
  rcases h with (h | ⟨o, h⟩) | h
  · exact .inl (.inl (bt _ _ (nD _ _ h) h))
  · exact .inl (.inr ⟨o, bt _ _ (nD _ _ h) h⟩)
  · exact .inr h
theorem tup_but {H H' : Hp} {D a : Addr} {xs : List V} (nD : ∀ c u, H c = some u → c ≠ D) (bt : But D H H') (h : SqT K H a xs) : SqT K H' a xs := by
  rcases h with (h | ⟨o, h⟩) | h
  · exact .inl (.inl (bt _ _ (nD _ _ h) h))
  · exact .inl (.inr ⟨o, bt _ _ (nD _ _ h) h⟩)
  · exact .inr h
theorem nk_false {k : Nat} {f : Addr} {fd : FuncData} {ps : List Str} : FnOk P w K mg base CX0 k f fd ps (fun _ _ _ _ => False) := ⟨fun _ _ _ _ h => h.elim, fun _ _ _ _ _ _ _ _ _ _ _ _ _ h => h.elim⟩
theorem ok__law_same_step {f : Addr} {fd : FuncData} {n : Nat} {sp : Sp} (F : Fun K "_law_same" "_law_same" s__law_same f fd) (T : Z mg)
    (c__law_same : Cal P w K mg base CX0 (n + 1) "_law_same" s__law_same ["_law_found", "_law_due"] sp) (hsp : ∀ m vs H Q E, n = m + 1 → sp__law_same K m vs H Q E → sp vs H Q E) : FnOk P w K mg base CX0 (n + 2) f fd ["_law_found", "_law_due"] (sp__law_same K n) := by
  refine F.ok sc__law_same (fun vs H Q E h => ?_) (fun cdv A outer s H vs Q E hr h => ?_)
  · obtain ⟨x, y, d, rfl, _⟩ := h
    rfl
  · obtain ⟨x, y, d, rfl, hx, hy, hd, q⟩ := h
    refine ⟨_, (pss_cons (ps_if (PW.pt (pw_or (pt_cmpR op_isN (pv 1) pe_non (nomark _)) (pw_or1 (pt_cmpR op_isN (pv 0) pe_non (nomark _))))) (pss_one (ps_ret (pe_and (pe_cmpR op_isN (pv 1) pe_non (nomark _)) (pe_one (pe_cmpR op_isN (pv 0) pe_non (nomark _)))))) pss_nil)
      (pss_cons (ps_if (pt_val (pe_callB call_isiT (by rfl) T.z_isinstance (by decide +kernel) (pa_cons (pv 1) (pa_cons (pe_tup (pa_cons (pe_bltn (v := .ty "list") (u := .type "list") (by rfl) T.z_list (by decide +kernel) rfl) (pa_cons (pe_bltn (v := .ty "tuple") (u := .type "tuple") (by rfl) T.z_tuple (by decide +kernel) rfl) pa_nil))) pa_nil)))) (pss_cons (ps_if (pt_cmpR op_ne (pe_callB call_isi (by rfl) T.z_isinstance (by decide +kernel) (pa_cons (pv 0) (pa_cons (pe_bltn (v := .ty "list") (u := .type "list") (by rfl) T.z_list (by decide +kernel) rfl) pa_nil))) (pe_callB call_isi (by rfl) T.z_isinstance (by decide +kernel) (pa_cons (pv 1) (pa_cons (pe_bltn (v := .ty "list") (u := .type "list") (by rfl) T.z_list (by decide +kernel) rfl) pa_nil))) (nomark _)) (pss_one (ps_ret pe_bl)) pss_nil)
      (pss_cons (ps_if (PW.pt (pw_or (pt_cmpR op_ne (pe_callB call_isi (by rfl) T.z_isinstance (by decide +kernel) (pa_cons (pv 0) (pa_cons (pe_bltn (v := .ty "tuple") (u := .type "tuple") (by rfl) T.z_tuple (by decide +kernel) rfl) pa_nil))) (pe_callB call_isi (by rfl) T.z_isinstance (by decide +kernel) (pa_cons (pv 1) (pa_cons (pe_bltn (v := .ty "tuple") (u := .type "tuple") (by rfl) T.z_tuple (by decide +kernel) rfl) pa_nil))) (nomark _)) (pw_or1 (pt_cmpR op_ne (pe_callB call_len (by rfl) T.z_len (by decide +kernel) (pa_cons (pv 0) pa_nil)) (pe_callB call_len (by rfl) T.z_len (by decide +kernel) (pa_cons (pv 1) pa_nil)) (nomark _))))) (pss_one (ps_ret pe_bl)) pss_nil)
      (pss_one (ps_ret (pe_callB (cr_all rfl) (by rfl) T.z_all (by decide +kernel) (pa_cons (pe_lc (own := [("_law_a", 2), ("_law_b", 3)]) (g := (gTup K 2 (gCons (gName 2) (gCons (gName 3) gNil)))) (by rfl) sc__law_same.nd (RZ.pi_zipA (by rfl) T.z_zip (pa_cons (pv 0) (pa_cons (pv 1) pa_nil))) (blkOk_by (N := ["_law_found", "_law_due", "_law_a", "_law_b"]) (sc := defScope s__law_same) (by decide +kernel)) (fun _ _ _ _ _ => (pg_tup rfl (pgs_cons (pg_name (i := 2) sc__law_same.nd rfl (.inl rfl)) (pgs_cons (pg_name (i := 3) sc__law_same.nd rfl (.inl rfl)) pgs_nil)))) (fun _ _ _ _ _ => pts_nil) (fun _ _ _ _ _ => (pe_c c__law_same hr (Nat.le_refl _) (by rfl) (pa_cons (pv 2) (pa_cons (pv 3) pa_nil))))) pa_nil)))))) pss_nil)
      (pss_cons (ps_if (pt_val (pe_callB call_isiT (by rfl) T.z_isinstance (by decide +kernel) (pa_cons (pv 0) (pa_cons (pe_tup (pa_cons (pe_bltn (v := .ty "list") (u := .type "list") (by rfl) T.z_list (by decide +kernel) rfl) (pa_cons (pe_bltn (v := .ty "tuple") (u := .type "tuple") (by rfl) T.z_tuple (by decide +kernel) rfl) pa_nil))) pa_nil)))) (pss_one (ps_ret pe_bl)) pss_nil)
      (pss_cons (ps_if (pt_cmpR op_ne (pe_callB call_isi (by rfl) T.z_isinstance (by decide +kernel) (pa_cons (pv 0) (pa_cons (pe_bltn (v := .ty "bool") (u := .type "bool") (by rfl) T.z_bool (by decide +kernel) rfl) pa_nil))) (pe_callB call_isi (by rfl) T.z_isinstance (by decide +kernel) (pa_cons (pv 1) (pa_cons (pe_bltn (v := .ty "bool") (u := .type "bool") (by rfl) T.z_bool (by decide +kernel) rfl) pa_nil))) (nomark _)) (pss_one (ps_ret pe_bl)) pss_nil)
      (pss_cons (ps_if (pt_cmpR op_ne (pe_callB call_isi (by rfl) T.z_isinstance (by decide +kernel) (pa_cons (pv 0) (pa_cons (pe_bltn (v := .ty "int") (u := .type "int") (by rfl) T.z_int (by decide +kernel) rfl) pa_nil))) (pe_callB call_isi (by rfl) T.z_isinstance (by decide +kernel) (pa_cons (pv 1) (pa_cons (pe_bltn (v := .ty "int") (u := .type "int") (by rfl) T.z_int (by decide +kernel) rfl) pa_nil))) (nomark _)) (pss_one (ps_ret pe_bl)) pss_nil)
      (pss_one (ps_ret (pe_and (pe_cmpR op_eq (pe_callB call_isi (by rfl) T.z_isinstance (by decide +kernel) (pa_cons (pv 0) (pa_cons (pe_bltn (v := .ty "str") (u := .type "str") (by rfl) T.z_str (by decide +kernel) rfl) pa_nil))) (pe_callB call_isi (by rfl) T.z_isinstance (by decide +kernel) (pa_cons (pv 1) (pa_cons (pe_bltn (v := .ty "str") (u := .type "str") (by rfl) T.z_str (by decide +kernel) rfl) pa_nil))) (nomark _)) (pe_one (pe_cmpR op_eq (pv 0) (pv 1) (nomark _))))))))))), ?_⟩
    have kinds : (x = .non ∧ y = .non) ∨ (∃ (Ty : String) (r1 r2 r3 : Bool), x = y ∧ x ≠ .non ∧ (∀ H', TyX K H' x (.type Ty)) ∧ kitB Ty "list" = some false ∧ kitB Ty "tuple" = some false ∧ kitB Ty "bool" = some r1 ∧ kitB Ty "int" = some r2 ∧ kitB Ty "str" = some r3 ∧ scal x x = true) ∨
        (∃ (m : Nat) (a b : Addr) (xs ys : List V) (ds : List PyData), n = m + 1 ∧ x = .ref a ∧ y = .ref b ∧ SqL K H a xs ∧ SqL K H b ys ∧ DpAll K H xs ds ∧ DpAll K H ys ds ∧ ds.length ≤ 1000 ∧ ∀ d ∈ ds, Deep m d) ∨
        (∃ (m : Nat) (a b : Addr) (xs ys : List V) (ds : List PyData), n = m + 1 ∧ x = .ref a ∧ y = .ref b ∧ SqT K H a xs ∧ SqT K H b ys ∧ DpAll K H xs ds ∧ DpAll K H ys ds ∧ ds.length ≤ 1000 ∧ ∀ d ∈ ds, Deep m d) := by
      cases hx with
      | non =>
        cases hy
        exact .inl ⟨rfl, rfl⟩
      | bl b =>
        cases hy
        exact .inr (.inl ⟨"bool", true, true, false, rfl, (fun e => by cases e), fun _ => .base (.bl b), by decide +kernel, by decide +kernel, by decide +kernel, by decide +kernel, by decide +kernel, rfl⟩)
      | int b =>
        cases hy
        exact .inr (.inl ⟨"int", false, true, false, rfl, (fun e => by cases e), fun _ => .base (.int b), by decide +kernel, by decide +kernel, by decide +kernel, by decide +kernel, by decide +kernel, rfl⟩)
      | str b =>
        cases hy
        exact .inr (.inl ⟨"str", false, false, true, rfl, (fun e => by cases e), fun _ => .base (.str b), by decide +kernel, by decide +kernel, by decide +kernel, by decide +kernel, by decide +kernel, rfl⟩)
      | lst h1 h2 =>
        cases hy with
        | lst h3 h4 =>
          cases n with
          | zero =>
            unfold Deep at hd
            exact hd.elim
          | succ m =>
            unfold Deep at hd
            exact .inr (.inr (.inl ⟨m, _, _, _, _, _, rfl, rfl, rfl, h1, h3, h2, h4, hd.1, hd.2⟩))
      | tup h1 h2 =>
        cases hy with
        | tup h3 h4 =>
          cases n with
          | zero =>
            unfold Deep at hd
            exact hd.elim
          | succ m =>
            unfold Deep at hd
            exact .inr (.inr (.inr ⟨m, _, _, _, _, _, rfl, rfl, rfl, h1, h3, h2, h4, hd.1, hd.2⟩))
    rcases kinds with ⟨rfl, rfl⟩ | ⟨Ty, r1, r2, r3, rfl, hn, ht, k1, k2, k3, k4, k5, hs⟩ | ⟨m, a, b, xs, ys, ds, hm, rfl, rfl, hSx, hSy, hDx, hDy, hdl, hdd⟩ | ⟨m, a, b, xs, ys, ds, hm, rfl, rfl, hSx, hSy, hDx, hDy, hdl, hdd⟩
    · refine ⟨_, rfl, rfl, _, rfl, ite2 (fun _ => ?_) (fun h => absurd (decide_eq_true rfl) h)⟩
      refine iteT ?_
      refine ⟨_, rfl, rfl, _, rfl, ite2 (fun _ => ?_) (fun h => absurd (decide_eq_true rfl) h)⟩
      refine ⟨_, rfl, rfl, ?_⟩
      rw [decide_eq_true rfl]
      exact q _ (Same.refl H)
    · refine ⟨_, rfl, rfl, _, rfl, ite2 (fun h => absurd (of_decide_eq_true h) hn) (fun _ => ?_)⟩
      refine ⟨_, rfl, rfl, _, rfl, ite2 (fun h => absurd (of_decide_eq_true h) hn) (fun _ => ?_)⟩
      refine ⟨_, rfl, (show 2 ≤ sizeLine by decide), fun p np => ⟨_, p, _, _, _, false, rfl, upd_same, .cons (.ty _) (.cons (.ty _) .nil), ht _, kitAny_lt k1 k2, _, rfl, iteF ?_⟩⟩
      have s1 := same_upd (o := HO.tup [V.ty "list", V.ty "tuple"]) np
      refine ⟨_, rfl, (show 2 ≤ sizeLine by decide), fun p2 np2 => ⟨_, p2, _, _, _, false, rfl, upd_same, .cons (.ty _) (.cons (.ty _) .nil), ht _, kitAny_lt k1 k2, _, rfl, iteF ?_⟩⟩
      have s2 := s1.trans (same_upd (o := HO.tup [V.ty "list", V.ty "tuple"]) np2)
      refine ⟨_, rfl, _, _, _, _, r1, rfl, .ty _, ht _, kit_ty k3, _, rfl, _, _, _, _, r1, rfl, .ty _, ht _, kit_ty k3, rfl, _, rfl, iteNS rfl ?_⟩
      refine ⟨_, rfl, _, _, _, _, r2, rfl, .ty _, ht _, kit_ty k4, _, rfl, _, _, _, _, r2, rfl, .ty _, ht _, kit_ty k4, rfl, _, rfl, iteNS rfl ?_⟩
      refine ⟨_, rfl, _, _, _, _, r3, rfl, .ty _, ht _, kit_ty k5, _, rfl, _, _, _, _, r3, rfl, .ty _, ht _, kit_ty k5, rfl, _, rfl, ite2 (fun _ => ?_) (fun h => absurd (decide_eq_true rfl) h)⟩
      refine ⟨_, rfl, _, rfl, hs, ?_⟩
      rw [decide_eq_true rfl]
      exact q _ s2
    · refine ⟨_, rfl, rfl, _, rfl, ite2 (fun h => absurd (of_decide_eq_true h) (fun e => by cases e)) (fun _ => ?_)⟩
      refine ⟨_, rfl, rfl, _, rfl, ite2 (fun h => absurd (of_decide_eq_true h) (fun e => by cases e)) (fun _ => ?_)⟩
      refine ⟨_, rfl, (show 2 ≤ sizeLine by decide), fun p np => ?_⟩
      have s1 := same_upd (o := HO.tup [V.ty "list", V.ty "tuple"]) np
      have hSx1 := s1.seq hSx
      have hSy1 := s1.seq hSy
      refine ⟨_, p, _, _, _, true, rfl, upd_same, .cons (.ty _) (.cons (.ty _) .nil), tyL hSy1, kitAny_lt (r1 := true) (r2 := false) (by decide +kernel) (by decide +kernel), _, rfl, iteT ?_⟩
      refine ⟨_, rfl, _, _, _, _, true, rfl, .ty _, tyL hSx1, kit_ty (by decide +kernel), _, rfl, _, _, _, _, true, rfl, .ty _, tyL hSy1, kit_ty (by decide +kernel), rfl, _, rfl, iteNS rfl ?_⟩
      refine ⟨_, rfl, _, _, _, _, false, rfl, .ty _, tyL hSx1, kit_ty (by decide +kernel), _, rfl, _, _, _, _, false, rfl, .ty _, tyL hSy1, kit_ty (by decide +kernel), rfl, _, rfl, iteNS rfl ?_⟩
      refine ⟨_, rfl, _, _, rfl, .inl ⟨_, hSx1, rfl⟩, _, rfl, _, _, rfl, .inl ⟨_, hSy1, rfl⟩, rfl, _, rfl, iteNS (by rw [DpAll.len hDx, DpAll.len hDy]) ?_⟩
      refine ⟨_, rfl, _, rfl, a, b, xs, ys, rfl, .inl ⟨hSx1, hSy1, fun D hD => ?_⟩⟩
      refine lc_it (walk_zip (xs := xs) (ys := ys) (n := ds.length) (by rw [DpAll.len hDx, DpAll.len hDy, Nat.min_self])) (fun i H' => But D (upd H p (.tup [.ty "list", .ty "tuple"])) H' ∧ H' D = some (.lst (List.replicate i (.bl true)))) ⟨(same_upd hD).but, upd_same⟩ (fun i H' _ pv => ?_) ?_ ?_
      · have nD : ∀ c u, (upd H p (.tup [.ty "list", .ty "tuple"])) c = some u → c ≠ D := fun c u e => ne_of_none e hD
        exact ⟨seq_but nD pv.1 hSx1, seq_but nD pv.1 hSy1⟩
      · rintro i _ H' _ hi ⟨bt, hDD⟩ ⟨T', x1, y1, rfl, nT, rfl, hx1, hy1⟩
        obtain ⟨d1, e1, g1⟩ := DpAll.at hDx hx1
        obtain ⟨d2, e2, g2⟩ := DpAll.at hDy hy1
        have ed : d1 = d2 := Option.some.inj (e1.symm.trans e2)
        subst ed
        have nDT : D ≠ T' := ne_of_none hDD nT
        have sT := same_upd (o := HO.tup [x1, y1]) nT
        have nD : ∀ c u, H c = some u → c ≠ D := fun c u e => ne_of_none (s1 _ _ e) hD
        have sH : Same H (upd H' T' (.tup [x1, y1])) := fun c u e => sT _ _ (bt c u (nD c u e) (s1 _ _ e))
        refine ⟨T', [x1, y1], rfl, SqT.of upd_same, rfl, x1, [y1], rfl, y1, [], rfl, rfl, rfl, ?_⟩
        refine ⟨_, rfl, _, rfl, hsp m _ _ _ _ hm ⟨x1, y1, d1, rfl, Dp.same sH g1, Dp.same sH g2, hdd d1 (List.mem_of_getElem? e1), fun H2 s2 => ?_⟩⟩
        refine ⟨_, s2 _ _ (sT _ _ hDD), ?_, fun c u n e => ?_, ?_⟩
        · rw [List.length_replicate]
          exact sz1 (by omega)
        · rw [upd_ne n]
          exact s2 _ _ (sT _ _ (bt c u n e))
        · rw [upd_same, ← List.replicate_succ']
      · rintro H' ⟨bt, hDD⟩
        refine ⟨D, List.replicate ds.length true, rfl, SqL.of (by rw [hDD, List.map_replicate]), ?_⟩
        rw [show (List.replicate ds.length true).all id = true from by rw [List.all_eq_true]; intro z hz; rw [List.eq_of_mem_replicate hz]; rfl]
        exact q _ fun c u e => bt c u (ne_of_none (s1 _ _ e) hD) (s1 _ _ e)
    · refine ⟨_, rfl, rfl, _, rfl, ite2 (fun h => absurd (of_decide_eq_true h) (fun e => by cases e)) (fun _ => ?_)⟩
      refine ⟨_, rfl, rfl, _, rfl, ite2 (fun h => absurd (of_decide_eq_true h) (fun e => by cases e)) (fun _ => ?_)⟩
      refine ⟨_, rfl, (show 2 ≤ sizeLine by decide), fun p np => ?_⟩
      have s1 := same_upd (o := HO.tup [V.ty "list", V.ty "tuple"]) np
      have hSx1 := s1.tup hSx
      have hSy1 := s1.tup hSy
      refine ⟨_, p, _, _, _, true, rfl, upd_same, .cons (.ty _) (.cons (.ty _) .nil), tyT hSy1, kitAny_lt (r1 := false) (r2 := true) (by decide +kernel) (by decide +kernel), _, rfl, iteT ?_⟩
      refine ⟨_, rfl, _, _, _, _, false, rfl, .ty _, tyT hSx1, kit_ty (by decide +kernel), _, rfl, _, _, _, _, false, rfl, .ty _, tyT hSy1, kit_ty (by decide +kernel), rfl, _, rfl, iteNS rfl ?_⟩
      refine ⟨_, rfl, _, _, _, _, true, rfl, .ty _, tyT hSx1, kit_ty (by decide +kernel), _, rfl, _, _, _, _, true, rfl, .ty _, tyT hSy1, kit_ty (by decide +kernel), rfl, _, rfl, iteNS rfl ?_⟩
      refine ⟨_, rfl, _, _, rfl, .inr ⟨_, hSx1, rfl⟩, _, rfl, _, _, rfl, .inr ⟨_, hSy1, rfl⟩, rfl, _, rfl, iteNS (by rw [DpAll.len hDx, DpAll.len hDy]) ?_⟩
      refine ⟨_, rfl, _, rfl, a, b, xs, ys, rfl, .inr ⟨hSx1, hSy1, fun D hD => ?_⟩⟩
      refine lc_it (walk_zipT (xs := xs) (ys := ys) (n := ds.length) (by rw [DpAll.len hDx, DpAll.len hDy, Nat.min_self])) (fun i H' => But D (upd H p (.tup [.ty "list", .ty "tuple"])) H' ∧ H' D = some (.lst (List.replicate i (.bl true)))) ⟨(same_upd hD).but, upd_same⟩ (fun i H' _ pv => ?_) ?_ ?_
      · have nD : ∀ c u, (upd H p (.tup [.ty "list", .ty "tuple"])) c = some u → c ≠ D := fun c u e => ne_of_none e hD
        exact ⟨tup_but nD pv.1 hSx1, tup_but nD pv.1 hSy1⟩
      · rintro i _ H' _ hi ⟨bt, hDD⟩ ⟨T', x1, y1, rfl, nT, rfl, hx1, hy1⟩
        obtain ⟨d1, e1, g1⟩ := DpAll.at hDx hx1
        obtain ⟨d2, e2, g2⟩ := DpAll.at hDy hy1
        have ed : d1 = d2 := Option.some.inj (e1.symm.trans e2)
        subst ed
        have nDT : D ≠ T' := ne_of_none hDD nT
        have sT := same_upd (o := HO.tup [x1, y1]) nT
        have nD : ∀ c u, H c = some u → c ≠ D := fun c u e => ne_of_none (s1 _ _ e) hD
        have sH : Same H (upd H' T' (.tup [x1, y1])) := fun c u e => sT _ _ (bt c u (nD c u e) (s1 _ _ e))
        refine ⟨T', [x1, y1], rfl, SqT.of upd_same, rfl, x1, [y1], rfl, y1, [], rfl, rfl, rfl, ?_⟩
        refine ⟨_, rfl, _, rfl, hsp m _ _ _ _ hm ⟨x1, y1, d1, rfl, Dp.same sH g1, Dp.same sH g2, hdd d1 (List.mem_of_getElem? e1), fun H2 s2 => ?_⟩⟩
        refine ⟨_, s2 _ _ (sT _ _ hDD), ?_, fun c u n e => ?_, ?_⟩
        · rw [List.length_replicate]
          exact sz1 (by omega)
        · rw [upd_ne n]
          exact s2 _ _ (sT _ _ (bt c u n e))
        · rw [upd_same, ← List.replicate_succ']
      · rintro H' ⟨bt, hDD⟩
        refine ⟨D, List.replicate ds.length true, rfl, SqL.of (by rw [hDD, List.map_replicate]), ?_⟩
        rw [show (List.replicate ds.length true).all id = true from by rw [List.all_eq_true]; intro z hz; rw [List.eq_of_mem_replicate hz]; rfl]
        exact q _ fun c u e => bt c u (ne_of_none (s1 _ _ e) hD) (s1 _ _ e)
end
end FW
namespace FW
open PySem PySem.Spec PyProof.Rows L2
section
variable {P : Program} {w : World} {K : PySem.W.Frag} {mg : Str → Option Value} {base : Heap}
/-! ### _law_letters: an ascending choice of letters -/
def sp__law_letters (K : PySem.W.Frag) : Sp := fun vs H Q _ => ∃ (b lb : Addr) (L : List Nat) (k : Nat), vs = [.ref b, .str (S L), .int k] ∧ Bag H b lb ∧ k ≤ L.length ∧ L.length ≤ 1000 ∧ ∀ H' r, List.Sublist r L → r.length = k → But b H H' → Bag H' b lb → Q (.str (S r)) H'
abbrev s__law_letters : Stmt := topS 10
theorem sc__law_letters : FnScope ["_law_bag", "_law_letters_here", "_law_many", "_law_found", "_law_low", "_law_k", "_law_at"] ["_law_bag", "_law_letters_here", "_law_many"] (defScope s__law_letters) := ⟨rfl, rfl, rfl, by decide +kernel, rfl, by decide +kernel, by decide +kernel⟩
theorem sub_next {L r : List Nat} {low z : Nat} (h : List.Sublist r (L.take low)) (hl : low ≤ z) (hz : z < L.length) : List.Sublist (r ++ [L[z]]) (L.take (z + 1)) := by
  rw [List.take_add_one, List.getElem?_eq_getElem hz]
  refine List.Sublist.append ?_ (List.Sublist.refl _)
  exact h.trans (List.take_sublist_take_left hl)
theorem ok__law_letters {f : Addr} {fd : FuncData} (F : Fun K "_law_letters" "_law_letters" s__law_letters f fd) (T : Z mg) (c__law_draw : Cal P w K mg base CX0 1 "_law_draw" s__law_draw ["_law_bag", "_law_many"] (sp__law_draw K)) : FnOk P w K mg base CX0 2 f fd ["_law_bag", "_law_letters_here", "_law_many"] (sp__law_letters K) := by
  refine F.ok sc__law_letters (fun vs H Q E h => ?_) (fun cdv A outer s H vs Q E hr h => ?_)
  · obtain ⟨b, lb, L, k, rfl, _⟩ := h
    rfl
  · obtain ⟨b, lb, L, k, rfl, B, hk, hL, q⟩ := h
    refine ⟨_, (pss_cons (ps_asg (pe_tup (pa_cons pe_str (pa_cons pe_int pa_nil))) (pg_tup rfl (pgs_cons (pg_name (i := 3) sc__law_letters.nd rfl (.inl rfl)) (pgs_cons (pg_name (i := 4) sc__law_letters.nd rfl (.inl rfl)) pgs_nil))))
      (pss_cons (ps_for PassesOwn.never rfl (pi_range1 (by rfl) T.z_range (pa_cons (pv 2) pa_nil)) (pg_name (i := 5) sc__law_letters.nd rfl (.inl rfl))
        (pss_cons (ps_set (i := 6) sc__law_letters.nd rfl (.inl rfl) (pe_op op_add (pv 4) (pe_c c__law_draw hr (by decide) (by rfl) (pa_cons (pv 0) (pa_cons (pe_op op_sub (pe_op op_sub (pe_callB call_len_str (by rfl) T.z_len (by decide +kernel) (pa_cons (pv 1) pa_nil)) (pv 4)) (pe_op op_sub (pe_op op_sub (pv 2) pe_int) (pv 5))) pa_nil)))))
      (pss_one (ps_par (i := 3) (j := 4) (by rfl) sc__law_letters.nd rfl rfl (by decide) rfl rfl (pa_cons (pe_op op_add_str (pv 3) (pe_ix ix_str (pv 1) (pv 6) (fun _ _ => rfl))) (pa_cons (pe_op op_add (pv 6) pe_int) pa_nil)) (by rfl)))))
      (pss_one (ps_ret (pv 3))))), ?_⟩
    refine ⟨(show 2 ≤ sizeLine by decide), fun p np => ⟨p, _, rfl, SqT.of upd_same, rfl, _, _, rfl, _, _, rfl, rfl, _, rfl, k, rfl, by omega, by omega, ?_⟩⟩
    have s0 := same_upd (o := HO.tup [V.str "", V.int 0]) np
    refine for_range (n := ((k : Nat) : Int).toNat) (fun i σ H' => ∃ (r : List Nat) (low : Nat) (y5 y6 : Option V), σ = [some (.ref b), some (.str (S L)), some (.int k), some (.str (S r)), some (.int low), y5, y6] ∧ But b H H' ∧ Bag H' b lb ∧ List.Sublist r (L.take low) ∧ r.length = i ∧ low + (k - i) ≤ L.length)
      ⟨[], 0, none, none, rfl, s0.but, B.same s0, List.nil_sublist _, rfl, by omega⟩ ?_ ?_
    · rintro i σ H' hi ⟨r, low, y5, y6, rfl, hb, B', hs, hr', hlow⟩
      have hi : i < k := by omega
      refine ⟨_, rfl, _, rfl, _, rfl, _, rfl, by rw [S_len]; exact sz (by omega), _, rfl, _, _, rfl, rfl, _, rfl, _, _, rfl, rfl, _, rfl, _, _, rfl, rfl, _, _, rfl, rfl, ?_⟩
      rw [S_len]
      refine ⟨b, lb, _, rfl, B', by omega, by omega, fun H2 z z0 z1 hb2 B2 => ?_⟩
      refine ⟨_, _, rfl, rfl, ?_⟩
      have hz : low + z.toNat < L.length := by omega
      refine ⟨_, rfl, _, rfl, _, rfl, S L, _, L[low + z.toNat], rfl, rfl, by rw [S_len]; exact sz (by omega), atI_of (show (low : Int) + z = ((low + z.toNat : Nat) : Int) by omega) (List.getElem?_eq_getElem hz), _, _, rfl, rfl, ?_, _, rfl, _, _, rfl, rfl, _, _, rfl, ?_⟩
      · rw [S_len]
        exact sz (by show r.length + 1 ≤ 100000; omega)
      · refine ⟨r ++ [L[low + z.toNat]], low + z.toNat + 1, some (.int (0 + (i : Int))), some (.int ((low : Int) + z)), ?_, hb.trans hb2, B2, sub_next hs (by omega) hz, by rw [List.length_append, hr']; rfl, by omega⟩
        rw [← S_cat]
        have e : ((low : Int) + z + 1) = (((low + z.toNat + 1 : Nat)) : Int) := by omega
        rw [← e]
        rfl
    · rintro σ H' ⟨r, low, y5, y6, rfl, hb, B', hs, hr', hlow⟩
      exact ⟨_, rfl, q _ _ (hs.trans (List.take_sublist _ _)) (by omega) hb B'⟩
/-! ### _law_some_faces -/
def lower : List Nat := ("abcdefghijklmnopqrstuvwxyz" : Str).cps.toList
def sp__law_some_faces (K : PySem.W.Frag) : Sp := fun vs H Q _ => ∃ (b lb : Addr) (m : Nat), vs = [.ref b, .int m] ∧ Bag H b lb ∧ 0 < m ∧ m ≤ 26 ∧ ∀ H' r, List.Sublist r lower → 0 < r.length → r.length ≤ m → But b H H' → Bag H' b lb → Q (.str (S r)) H'
abbrev s__law_some_faces : Stmt := topS 11
theorem sc__law_some_faces : FnScope ["_law_bag", "_law_most"] ["_law_bag", "_law_most"] (defScope s__law_some_faces) := ⟨rfl, rfl, rfl, by decide +kernel, rfl, by decide +kernel, by decide +kernel⟩
theorem lower_len : lower.length = 26 := by decide +kernel
theorem ok__law_some_faces {f : Addr} {fd : FuncData} (F : Fun K "_law_some_faces" "_law_some_faces" s__law_some_faces f fd) (T : Z mg) (c__law_draw : Cal P w K mg base CX0 1 "_law_draw" s__law_draw ["_law_bag", "_law_many"] (sp__law_draw K))
    (c__law_letters : Cal P w K mg base CX0 2 "_law_letters" s__law_letters ["_law_bag", "_law_letters_here", "_law_many"] (sp__law_letters K)) : FnOk P w K mg base CX0 3 f fd ["_law_bag", "_law_most"] (sp__law_some_faces K) := by
  refine F.ok sc__law_some_faces (fun vs H Q E h => ?_) (fun cdv A outer s H vs Q E hr h => ?_)
  · obtain ⟨b, lb, m, rfl, _⟩ := h
    rfl
  · obtain ⟨b, lb, m, rfl, B, h0, h1, q⟩ := h
    refine ⟨_, (pss_one (ps_ret (pe_c c__law_letters hr (by decide) (by rfl) (pa_cons (pv 0) (pa_cons pe_str (pa_cons (pe_op op_add pe_int (pe_c c__law_draw hr (by decide) (by rfl) (pa_cons (pv 0) (pa_cons (pv 1) pa_nil)))) pa_nil)))))), ?_⟩
    refine ⟨_, rfl, _, rfl, _, rfl, b, lb, _, rfl, B, by omega, by omega, fun H1 z z0 z1 hb B1 => ?_⟩
    refine ⟨_, _, rfl, rfl, b, lb, lower, 1 + z.toNat, ?_, B1, by rw [lower_len]; omega, by rw [lower_len]; omega, fun H2 r hs hr' hb2 B2 => ?_⟩
    · have e : (1 : Int) + z = ((1 + z.toNat : Nat) : Int) := by omega
      rw [← e]
      rfl
    · exact q _ r hs (by omega) (by omega) (hb.trans hb2) B2
/-! ### _law_some_room, _law_some_cut -/
/-- a sign of a text -/
theorem of_str {H : Hp} {b : Addr} {l : List Nat} {v : V} (h : v ∈ l.map sgn) : ∃ c ∈ l, v = sgn c := by
  obtain ⟨c, hc, e⟩ := List.mem_map.mp h
  exact ⟨c, hc, e.symm⟩
def sp__law_some_room (K : PySem.W.Frag) : Sp := fun vs H Q _ => ∃ (b lb : Addr) (fs : List Nat), vs = [.ref b, .str (S fs)] ∧ Bag H b lb ∧ 0 < fs.length ∧ fs.length ≤ 100 ∧ ∀ H' n e s w, n ∈ fs → e ∈ fs → s ∈ fs → w ∈ fs → But b H H' → Bag H' b lb → Q (.str (S4 n e s w)) H'
abbrev s__law_some_room : Stmt := topS 12
theorem sc__law_some_room : FnScope ["_law_bag", "_law_faces_z"] ["_law_bag", "_law_faces_z"] (defScope s__law_some_room) := ⟨rfl, rfl, rfl, by decide +kernel, rfl, by decide +kernel, by decide +kernel⟩
theorem ok__law_some_room {f : Addr} {fd : FuncData} (F : Fun K "_law_some_room" "_law_some_room" s__law_some_room f fd) (c__law_of : Cal P w K mg base CX0 2 "_law_of" s__law_of ["_law_bag", "_law_things"] (sp__law_of K)) : FnOk P w K mg base CX0 3 f fd ["_law_bag", "_law_faces_z"] (sp__law_some_room K) := by
  refine F.ok sc__law_some_room (fun vs H Q E h => ?_) (fun cdv A outer s H vs Q E hr h => ?_)
  · obtain ⟨b, lb, m, rfl, _⟩ := h
    rfl
  · obtain ⟨b, lb, fs, rfl, B, h0, h1, q⟩ := h
    refine ⟨_, (pss_one (ps_ret (pe_op op_add_str (pe_op op_add_str (pe_op op_add_str (pe_c c__law_of hr (by decide) (by rfl) (pa_cons (pv 0) (pa_cons (pv 1) pa_nil))) (pe_c c__law_of hr (by decide) (by rfl) (pa_cons (pv 0) (pa_cons (pv 1) pa_nil)))) (pe_c c__law_of hr (by decide) (by rfl) (pa_cons (pv 0) (pa_cons (pv 1) pa_nil)))) (pe_c c__law_of hr (by decide) (by rfl) (pa_cons (pv 0) (pa_cons (pv 1) pa_nil)))))), ?_⟩
    have ln : 0 < (fs.map sgn).length := by rw [List.length_map]; exact h0
    have lm : (fs.map sgn).length ≤ 100000 := by rw [List.length_map]; omega
    refine ⟨_, rfl, _, rfl, b, lb, _, fs.map sgn, rfl, B, .inr (.inr ⟨fs, rfl, rfl⟩), ln, lm, fun H1 v1 m1 b1 B1 => ?_⟩
    refine ⟨_, rfl, _, rfl, b, lb, _, fs.map sgn, rfl, B1, .inr (.inr ⟨fs, rfl, rfl⟩), ln, lm, fun H2 v2 m2 b2 B2 => ?_⟩
    obtain ⟨c1, n1, rfl⟩ := of_str (H := H) (b := b) m1
    obtain ⟨c2, n2, rfl⟩ := of_str (H := H) (b := b) m2
    refine ⟨_, _, rfl, rfl, (show 2 ≤ sizeLine by decide), _, rfl, _, rfl, b, lb, _, fs.map sgn, rfl, B2, .inr (.inr ⟨fs, rfl, rfl⟩), ln, lm, fun H3 v3 m3 b3 B3 => ?_⟩
    obtain ⟨c3, n3, rfl⟩ := of_str (H := H) (b := b) m3
    refine ⟨_, _, rfl, rfl, (show 3 ≤ sizeLine by decide), _, rfl, _, rfl, b, lb, _, fs.map sgn, rfl, B3, .inr (.inr ⟨fs, rfl, rfl⟩), ln, lm, fun H4 v4 m4 b4 B4 => ?_⟩
    obtain ⟨c4, n4, rfl⟩ := of_str (H := H) (b := b) m4
    refine ⟨_, _, rfl, rfl, (show 4 ≤ sizeLine by decide), ?_⟩
    exact q H4 c1 c2 c3 c4 n1 n2 n3 n4 (((b1.trans b2).trans b3).trans b4) B4
def sp__law_some_cut (K : PySem.W.Frag) : Sp := fun vs H Q _ => ∃ (b lb : Addr) (fs : List Nat), vs = [.ref b, .str (S fs)] ∧ Bag H b lb ∧ 0 < fs.length ∧ fs.length ≤ 100 ∧ ∀ H' g x y, (g = 124 ∨ g = 45) → x ∈ fs → y ∈ fs → But b H H' → Bag H' b lb → Q (.str (S3 g x y)) H'
abbrev s__law_some_cut : Stmt := topS 13
theorem sc__law_some_cut : FnScope ["_law_bag", "_law_faces_z"] ["_law_bag", "_law_faces_z"] (defScope s__law_some_cut) := ⟨rfl, rfl, rfl, by decide +kernel, rfl, by decide +kernel, by decide +kernel⟩
theorem ok__law_some_cut {f : Addr} {fd : FuncData} (F : Fun K "_law_some_cut" "_law_some_cut" s__law_some_cut f fd) (c__law_of : Cal P w K mg base CX0 2 "_law_of" s__law_of ["_law_bag", "_law_things"] (sp__law_of K)) : FnOk P w K mg base CX0 3 f fd ["_law_bag", "_law_faces_z"] (sp__law_some_cut K) := by
  refine F.ok sc__law_some_cut (fun vs H Q E h => ?_) (fun cdv A outer s H vs Q E hr h => ?_)
  · obtain ⟨b, lb, m, rfl, _⟩ := h
    rfl
  · obtain ⟨b, lb, fs, rfl, B, h0, h1, q⟩ := h
    refine ⟨_, (pss_one (ps_ret (pe_op op_add_str (pe_op op_add_str (pe_c c__law_of hr (by decide) (by rfl) (pa_cons (pv 0) (pa_cons pe_str pa_nil))) (pe_c c__law_of hr (by decide) (by rfl) (pa_cons (pv 0) (pa_cons (pv 1) pa_nil)))) (pe_c c__law_of hr (by decide) (by rfl) (pa_cons (pv 0) (pa_cons (pv 1) pa_nil)))))), ?_⟩
    have ln : 0 < (fs.map sgn).length := by rw [List.length_map]; exact h0
    have lm : (fs.map sgn).length ≤ 100000 := by rw [List.length_map]; omega
    refine ⟨_, rfl, b, lb, _, [124, 45].map sgn, rfl, B, .inr (.inr ⟨[124, 45], rfl, rfl⟩), by decide, by decide, fun H1 v1 m1 b1 B1 => ?_⟩
    obtain ⟨c1, n1, rfl⟩ := of_str (H := H) (b := b) m1
    refine ⟨_, rfl, _, rfl, b, lb, _, fs.map sgn, rfl, B1, .inr (.inr ⟨fs, rfl, rfl⟩), ln, lm, fun H2 v2 m2 b2 B2 => ?_⟩
    obtain ⟨c2, n2, rfl⟩ := of_str (H := H) (b := b) m2
    refine ⟨_, _, rfl, rfl, (show 2 ≤ sizeLine by decide), _, rfl, _, rfl, b, lb, _, fs.map sgn, rfl, B2, .inr (.inr ⟨fs, rfl, rfl⟩), ln, lm, fun H3 v3 m3 b3 B3 => ?_⟩
    obtain ⟨c3, n3, rfl⟩ := of_str (H := H) (b := b) m3
    refine ⟨_, _, rfl, rfl, (show 3 ≤ sizeLine by decide), ?_⟩
    refine q H3 c1 c2 c3 ?_ n2 n3 ((b1.trans b2).trans b3) B3
    rcases List.mem_cons.mp n1 with e | e
    · exact .inl e
    · exact .inr (List.mem_singleton.mp e)
/-! ### _law_string -/
def sp__law_string (K : PySem.W.Frag) : Sp := fun vs H Q _ => ∃ (b lb : Addr) (fs : List Nat) (m : Nat), vs = [.ref b, .str (S fs), .int m] ∧ Bag H b lb ∧ 0 < fs.length ∧ fs.length ≤ 100 ∧ m ≤ 1000 ∧ ∀ H' r, (∀ c ∈ r, c ∈ fs) → r.length ≤ m → But b H H' → Bag H' b lb → Q (.str (S r)) H'
abbrev s__law_string : Stmt := topS 14
theorem sc__law_string : FnScope ["_law_bag", "_law_faces_z", "_law_most", "_law_k"] ["_law_bag", "_law_faces_z", "_law_most"] (defScope s__law_string) := ⟨rfl, rfl, rfl, by decide +kernel, rfl, by decide +kernel, by decide +kernel⟩
theorem joinL_ones : ∀ r : List Nat, TL.joinL [] (r.map fun c => [c]) = r
  | [] => rfl
  | [c] => rfl
  | c :: d :: r => by
    show [c] ++ ([] ++ TL.joinL [] ((d :: r).map fun c => [c])) = c :: d :: r
    rw [joinL_ones (d :: r)]
    rfl
theorem join_ones (r : List Nat) : Txt.join (S []) ((r.map fun c => [c]).map S) = S r := by
  rw [SX.join_S, joinL_ones]
theorem lens_ones (r : List Nat) : (((r.map fun c => [c]).map S).map (·.length)).sum = r.length := by
  induction r with
  | nil => rfl
  | cons c r ih =>
    rw [List.map_cons, List.map_cons, List.map_cons, List.sum_cons, ih, List.length_cons]
    show 1 + r.length = r.length + 1
    omega
theorem ok__law_string {f : Addr} {fd : FuncData} (F : Fun K "_law_string" "_law_string" s__law_string f fd) (T : Z mg) (c__law_draw : Cal P w K mg base CX0 1 "_law_draw" s__law_draw ["_law_bag", "_law_many"] (sp__law_draw K))
    (c__law_of : Cal P w K mg base CX0 2 "_law_of" s__law_of ["_law_bag", "_law_things"] (sp__law_of K)) : FnOk P w K mg base CX0 3 f fd ["_law_bag", "_law_faces_z", "_law_most"] (sp__law_string K) := by
  refine F.ok sc__law_string (fun vs H Q E h => ?_) (fun cdv A outer s H vs Q E hr h => ?_)
  · obtain ⟨b, lb, fs, m, rfl, _⟩ := h
    rfl
  · obtain ⟨b, lb, fs, m, rfl, B, h0, h1, hm, q⟩ := h
    refine ⟨_, (pss_one (ps_ret (pe_join pe_str (pe_lc (own := [("_law_k", 3)]) (g := (gName 3)) (by rfl) sc__law_string.nd (pi_range1 (by rfl) T.z_range (pa_cons (pe_c c__law_draw hr (by decide) (by rfl) (pa_cons (pv 0) (pa_cons (pe_op op_add (pv 2) pe_int) pa_nil))) pa_nil)) (blkOk_by (N := ["_law_bag", "_law_faces_z", "_law_most", "_law_k"]) (sc := defScope s__law_string) (by decide +kernel)) (fun _ _ _ _ _ => (pg_name (i := 3) sc__law_string.nd rfl (.inl rfl))) (fun _ _ _ _ _ => pts_nil) (fun _ _ _ _ _ => (pe_c c__law_of hr (by decide) (by rfl) (pa_cons (pv 0) (pa_cons (pv 1) pa_nil)))))))), ?_⟩
    have ln : 0 < (fs.map sgn).length := by rw [List.length_map]; exact h0
    have lm : (fs.map sgn).length ≤ 100000 := by rw [List.length_map]; omega
    refine ⟨⟨_, rfl⟩, _, rfl, _, rfl, _, _, rfl, rfl, b, lb, _, rfl, B, by omega, by omega, fun H1 z z0 z1 hb B1 => ⟨_, rfl, by omega, by omega, fun D hD => ?_⟩⟩
    have nDb : D ≠ b := B1.ne hD
    have nDl : D ≠ lb := B1.ne2 hD
    refine lc_range (n := z.toNat) (fun i H' => ∃ r : List Nat, r.length = i ∧ (∀ c ∈ r, c ∈ fs) ∧ H' D = some (.lst (r.map sgn)) ∧ Bag H' b lb ∧ ∀ a o, a ≠ b → H a = some o → H' a = some o) ⟨[], rfl, fun _ h => absurd h (by simp), upd_same, B1.same (same_upd hD), fun a o n e => same_upd hD _ _ (hb _ _ n e)⟩ ?_ ?_
    · rintro i H' hi ⟨r, hr', hf, hDD, B', ho⟩
      refine ⟨rfl, ?_⟩
      refine ⟨_, rfl, _, rfl, b, lb, _, fs.map sgn, rfl, B', .inr (.inr ⟨fs, rfl, rfl⟩), ln, lm, fun H2 v m2 b2 B2 => ?_⟩
      obtain ⟨c, n1, rfl⟩ := of_str (H := H) (b := b) m2
      have nD : ∀ a o, H a = some o → a ≠ b → a ≠ D := fun a o e n => ne_of_none (hb _ _ n e) hD
      refine ⟨_, b2 _ _ nDb hDD, by rw [List.length_map]; exact sz1 (by omega), r ++ [c], by rw [List.length_append, hr']; rfl, ?_, ?_, ?_, fun a o n e => ?_⟩
      · intro x hx
        rcases List.mem_append.mp hx with e | e
        · exact hf x e
        · rw [List.mem_singleton.mp e]
          exact n1
      · rw [upd_same, List.map_append]
        rfl
      · exact B2.upd nDb nDl
      · rw [upd_ne (nD a o e n)]
        exact b2 _ _ n (ho a o n e)
    · rintro H' ⟨r, hr', hf, hDD, B', ho⟩
      refine ⟨S [], D, (r.map fun c => [c]).map S, rfl, rfl, .inl (SqL.of ?_), ?_, ?_⟩
      · rw [hDD, List.map_map, List.map_map]
        rfl
      · rw [lens_ones]
        show r.length + _ * 0 ≤ _
        omega
      · rw [join_ones]
        exact q _ r hf (by omega) (fun a o n e => ho a o n e) B'
/-! ### _law_split -/
def sp__law_split (K : PySem.W.Frag) : Sp := fun vs H Q _ => ∃ (n e s w sg x y : Nat), vs = [.str (S4 n e s w), .str (S3 sg x y)] ∧ ∀ p, H p = none → Q (.ref p) (upd H p (.lst ((partsC n e s w sg x y).map V.str)))
abbrev s__law_split : Stmt := topS 15
theorem sc__law_split : FnScope ["_law_room_z", "_law_cut_z"] ["_law_room_z", "_law_cut_z"] (defScope s__law_split) := ⟨rfl, rfl, rfl, by decide +kernel, rfl, by decide +kernel, by decide +kernel⟩
theorem sub4_1 {a b c d : Nat} : cutS (S4 a b c d) (some 1) none = S [b, c, d] := S_sub [a, b, c, d] 1
theorem sub4_2 {a b c d : Nat} : cutS (S4 a b c d) (some 2) none = S [c, d] := S_sub [a, b, c, d] 2
theorem to4_2 {a b c d : Nat} : cutS (S4 a b c d) none (some 2) = S [a, b] := S_to [a, b, c, d] 2
theorem to4_3 {a b c d : Nat} : cutS (S4 a b c d) none (some 3) = S [a, b, c] := S_to [a, b, c, d] 3
theorem ok__law_split {f : Addr} {fd : FuncData} (F : Fun K "_law_split" "_law_split" s__law_split f fd) : FnOk P w K mg base CX0 1 f fd ["_law_room_z", "_law_cut_z"] (sp__law_split K) := by
  refine F.ok sc__law_split (fun vs H Q E h => ?_) (fun cdv A outer s H vs Q E hr h => ?_)
  · obtain ⟨n, e, s, w, g, x, y, rfl, _⟩ := h
    rfl
  · obtain ⟨n, e, so, we, g, x, y, rfl, q⟩ := h
    refine ⟨_, (pss_cons (ps_if (pt_cmpR op_eq (pv 1) pe_str (nomark _)) (pss_one (ps_ret (pe_lst (pa_cons (pv 0) pa_nil)))) pss_nil)
      (pss_cons (ps_if (pt_cmpR op_eq (pe_ix ix_str (pv 1) pe_int (fun _ _ => rfl)) pe_str (nomark _)) (pss_one (ps_ret (pe_lst (pa_cons (pe_op op_add_str (pe_op op_add_str (pe_ix ix_str (pv 0) pe_int (fun _ _ => rfl)) (pe_ix ix_str (pv 1) pe_int (fun _ _ => rfl))) (pe_slice sl_str (pv 0) (po_some pe_int) po_none)) (pa_cons (pe_op op_add_str (pe_slice sl_str (pv 0) po_none (po_some pe_int)) (pe_ix ix_str (pv 1) pe_int (fun _ _ => rfl))) pa_nil))))) pss_nil)
      (pss_one (ps_ret (pe_lst (pa_cons (pe_op op_add_str (pe_op op_add_str (pe_slice sl_str (pv 0) po_none (po_some pe_int)) (pe_ix ix_str (pv 1) pe_int (fun _ _ => rfl))) (pe_ix ix_str (pv 0) pe_int (fun _ _ => rfl))) (pa_cons (pe_op op_add_str (pe_ix ix_str (pv 1) pe_int (fun _ _ => rfl)) (pe_slice sl_str (pv 0) (po_some pe_int) po_none)) pa_nil))))))), ?_⟩
    refine ⟨_, rfl, rfl, _, rfl, ?_⟩
    have e1 : decide (V.str (S3 g x y) = V.str ("" : Str)) = false := decide_eq_false fun q => by
      have q1 : (S3 g x y).cps.size = ("" : Str).cps.size := by rw [V.str.inj q]
      exact absurd q1 (by show ¬ 3 = 0; decide)
    rw [e1]
    refine iteF ?_
    refine ⟨_, rfl, _, 0, g, rfl, rfl, (show 3 ≤ sizeLine by decide), rfl, rfl, _, rfl, ?_⟩
    by_cases hs : g = 124
    · subst hs
      refine ite2 (fun _ => ?_) (fun hn => absurd (decide_eq_true rfl) hn)
      refine ⟨_, rfl, _, 0, n, rfl, rfl, (show 4 ≤ sizeLine by decide), rfl, _, rfl, _, 1, x, rfl, rfl, (show 3 ≤ sizeLine by decide), rfl, _, _, rfl, rfl, (show 2 ≤ sizeLine by decide), _, rfl, 2, rfl, _, rfl, (show 4 ≤ sizeLine by decide), ?_⟩
      rw [sub4_2]
      refine ⟨_, _, rfl, rfl, (show 4 ≤ sizeLine by decide), _, rfl, 3, rfl, _, rfl, (show 4 ≤ sizeLine by decide), ?_⟩
      rw [to4_3]
      refine ⟨_, rfl, _, 2, y, rfl, rfl, (show 3 ≤ sizeLine by decide), rfl, _, _, rfl, rfl, (show 4 ≤ sizeLine by decide), (show 2 ≤ sizeLine by decide), ?_⟩
      exact q
    · refine ite2 (fun hn => ?_) (fun _ => ?_)
      · exact absurd (by
          have q1 := V.str.inj (of_decide_eq_true hn)
          have q2 := congrArg (fun z : Str => z.cps.toList) q1
          exact List.head_eq_of_cons_eq q2) hs
      · refine ⟨_, rfl, 2, rfl, _, rfl, (show 4 ≤ sizeLine by decide), ?_⟩
        rw [to4_2]
        refine ⟨_, rfl, _, 1, x, rfl, rfl, (show 3 ≤ sizeLine by decide), rfl, _, _, rfl, rfl, (show 3 ≤ sizeLine by decide), _, rfl, _, 3, we, rfl, rfl, (show 4 ≤ sizeLine by decide), rfl, _, _, rfl, rfl, (show 4 ≤ sizeLine by decide), ?_⟩
        refine ⟨_, rfl, _, 2, y, rfl, rfl, (show 3 ≤ sizeLine by decide), rfl, _, rfl, 1, rfl, _, rfl, (show 4 ≤ sizeLine by decide), ?_⟩
        rw [sub4_1]
        refine ⟨_, _, rfl, rfl, (show 4 ≤ sizeLine by decide), (show 2 ≤ sizeLine by decide), ?_⟩
        have e2 : partsC n e so we g x y = [S4 n e x we, S4 y e so we] := if_neg hs
        rw [e2] at q
        exact q
end
end FW
namespace FW
open PySem PySem.Spec PyProof.Rows L2
/-! ### two keywords the other way round -/
def swp {α : Type} : List α → List α → List α
  | [], [a, b] => [b, a]
  | _, _ => []
theorem swp_vals {vs : List V} {us : List Value} {zs : List V} {ws : List Value} (r : Vals vs us) (q : Vals zs ws) : Vals (swp vs zs) (swp us ws) := by
  cases r with
  | cons _ _ => exact .nil
  | nil =>
    cases q with
    | nil => exact .nil
    | cons q1 t =>
      cases t with
      | nil => exact .nil
      | cons q2 t =>
        cases t with
        | nil => exact .cons q2 (.cons q1 .nil)
        | cons _ _ => exact .nil
theorem kb_swap {K : PySem.W.Frag} {x : Str} {st : Stmt} {p1 p2 : Str}
    (h : ∀ (kV doc pm : Value) (an : Option Addr) (cdv ct : Value) (u v : Value), bindArgs (PySem.W.fnOf x x (defArgs st) (defBody st) (defScope st) .none kV doc pm an cdv ct) ⟨[], [(p2, u), (p1, v)]⟩ = pure [(p1, v), (p2, u)]) :
    KB K x st [p1, p2] [p2, p1] swp swp := by
  intro f fd F
  obtain ⟨oc, od, kV, doc, pm, an, cdv, ct, osl, rfl, lk, hcd⟩ := F.ex
  refine ⟨fun s us ws _ hl => ?_, fun r q => swp_vals r q⟩
  match us, ws, hl with
  | [], [u, v], _ => exact .of_eq (h kV doc pm an cdv ct u v)
  | [], [], hl => exact absurd (show 0 = 2 from hl) (by decide)
  | [], [_], hl => exact absurd (show 0 = 2 from hl) (by decide)
  | [], _ :: _ :: _ :: _, hl => exact absurd (show 0 = 2 from hl) (by decide)
  | _ :: _, ws, hl => exact absurd (show 0 = 2 from hl) (by decide)
/-! ### what stands through the law -/
structure St3 (H : Hp) (b l g : Addr) (gl : List Nat) : Prop where
  bag : Bag H b l
  gn : H g = some (.lst (gl.map sgn))
  gb : g ≠ b
  gz : g ≠ l
section
variable {H H' : Hp} {b l g p : Addr} {gl : List Nat} {o : HO}
theorem St3.same (s : St3 H b l g gl) (q : Same H H') : St3 H' b l g gl := ⟨s.bag.same q, q _ _ s.gn, s.gb, s.gz⟩
theorem St3.new (s : St3 H b l g gl) (n : H p = none) : St3 (upd H p o) b l g gl := s.same (same_upd n)
theorem St3.drawn (s : St3 H b l g gl) (q : But b H H') (B : Bag H' b l) : St3 H' b l g gl := ⟨B, q _ _ s.gb s.gn, s.gb, s.gz⟩
end
/-- a value that is no text, by the heap -/
def NS (H : Hp) (v : V) : Prop := v = .non ∨ (∃ i, v = .int i) ∨ (∃ c, v = .bl c) ∨ (∃ p xs, v = .ref p ∧ H p = some (.lst xs)) ∨ ∃ p xs, v = .ref p ∧ H p = some (.tup xs)
theorem NS.same {H H' : Hp} {v : V} (n : NS H v) (q : Same H H') : NS H' v := by
  rcases n with e | e | e | ⟨p, xs, e, h⟩ | ⟨p, xs, e, h⟩
  · exact .inl e
  · exact .inr (.inl e)
  · exact .inr (.inr (.inl e))
  · exact .inr (.inr (.inr (.inl ⟨p, xs, e, q _ _ h⟩)))
  · exact .inr (.inr (.inr (.inr ⟨p, xs, e, q _ _ h⟩)))
theorem NS.not {K : PySem.W.Frag} {H : Hp} {v : V} (n : NS H v) : isStr v = false ∧ NotS K H v := by
  rcases n with rfl | ⟨i, rfl⟩ | ⟨c, rfl⟩ | ⟨p, xs, rfl, h⟩ | ⟨p, xs, rfl, h⟩
  · exact ⟨rfl, "NoneType", .base .non, by decide +kernel⟩
  · exact ⟨rfl, "int", .base (.int i), by decide +kernel⟩
  · exact ⟨rfl, "bool", .base (.bl c), by decide +kernel⟩
  · exact ⟨rfl, "list", .base (.lst h), by decide +kernel⟩
  · exact ⟨rfl, "tuple", .base (.tup h), by decide +kernel⟩
theorem NS.b {H : Hp} {v : V} (n : NS H v) (fs : Str) : bString v fs = false ∧ bRoom v fs = false ∧ bCut v fs = false := by
  have e := (n.not (K := default)).1
  refine ⟨?_, ?_, ?_⟩
  · unfold bString
    rw [e]
    rfl
  · unfold bRoom bString
    rw [e]
    rfl
  · unfold bCut
    rw [e]
    rfl
/-! ### the mathematics of the answers -/
theorem mem_all {l fs : List Nat} (h : ∀ c ∈ l, c ∈ fs) : (l.all fun c => decide (c ∈ fs)) = true := by
  rw [List.all_eq_true]
  intro c hc
  exact decide_eq_true (h c hc)
theorem not_all {l fs : List Nat} {c : Nat} (hc : c ∈ l) (h : c ∉ fs) : (l.all fun c => decide (c ∈ fs)) = false := by
  rw [List.all_eq_false]
  exact ⟨c, hc, by rw [decide_eq_false h]; exact Bool.false_ne_true⟩
theorem bString_yes {l fs : List Nat} (h : ∀ c ∈ l, c ∈ fs) : bString (.str (S l)) (S fs) = true := mem_all h
theorem bString_no {l fs : List Nat} {c : Nat} (hc : c ∈ l) (h : c ∉ fs) : bString (.str (S l)) (S fs) = false := not_all hc h
theorem bRoom_no {l fs : List Nat} {c : Nat} (hc : c ∈ l) (h : c ∉ fs) : bRoom (.str (S l)) (S fs) = false := by
  unfold bRoom
  rw [bString_no hc h]
  rfl
theorem bRoom_len {l fs : List Nat} (h : l.length ≠ 4) : bRoom (.str (S l)) (S fs) = false := by
  unfold bRoom
  rw [show decide ((strOf (.str (S l))).cps.size = 4) = false from decide_eq_false h, Bool.and_false]
theorem bRoom_is {l fs : List Nat} (h : ∀ c ∈ l, c ∈ fs) : bRoom (.str (S l)) (S fs) = decide (l.length = 4) := by
  unfold bRoom
  rw [bString_yes h]
  rfl
theorem bCut_S (l fs : List Nat) : bCut (.str (S l)) (S fs) = (decide (l.length = 3) && decide (l.getD 0 0 ∈ [124, 45]) && (l.drop 1).all fun c => decide (c ∈ fs)) := rfl
theorem bCut_yes {g x y : Nat} {fs : List Nat} (hg : g = 124 ∨ g = 45) (hx : x ∈ fs) (hy : y ∈ fs) : bCut (.str (S3 g x y)) (S fs) = true := by
  show bCut (.str (S [g, x, y])) (S fs) = true
  rw [bCut_S, show ([g, x, y].drop 1) = [x, y] from rfl, mem_all (by
    intro c hc
    rcases List.mem_cons.mp hc with e | e
    · rw [e]
      exact hx
    · rw [List.mem_singleton.mp e]
      exact hy)]
  rcases hg with rfl | rfl <;> rfl
theorem bCut_len {l fs : List Nat} (h : l.length ≠ 3) : bCut (.str (S l)) (S fs) = false := by
  rw [bCut_S, decide_eq_false h]
  rfl
theorem bCut_sign {g x y : Nat} {fs : List Nat} (h1 : g ≠ 124) (h2 : g ≠ 45) : bCut (.str (S [g, x, y])) (S fs) = false := by
  rw [bCut_S, show decide (([g, x, y] : List Nat).getD 0 0 ∈ [124, 45]) = false from decide_eq_false (by
    intro q
    rcases List.mem_cons.mp q with e | e
    · exact h1 e
    · exact h2 (List.mem_singleton.mp e)), Bool.and_false]
  rfl
theorem bCut_face {g x y c : Nat} {fs : List Nat} (hc : c = x ∨ c = y) (h : c ∉ fs) : bCut (.str (S [g, x, y])) (S fs) = false := by
  rw [bCut_S, show ([g, x, y].drop 1) = [x, y] from rfl, not_all (c := c) (by
    rcases hc with rfl | rfl
    · exact List.mem_cons_self
    · exact List.mem_cons_of_mem _ List.mem_cons_self) h, Bool.and_false]
/-- the letters that are none of few letters -/
theorem gone_pos : ∀ (L fs : List Nat), L.Nodup → L.length ≤ (L.filter fun c => !decide (c ∈ fs)).length + fs.length
  | L, [], _ => by
    rw [List.filter_eq_self.mpr (fun c _ => by simp)]
    exact Nat.le_add_right _ _
  | L, f :: fs, nd => by
    have ih := gone_pos L fs nd
    have h : (L.filter fun c => !decide (c ∈ fs)).length ≤ (L.filter fun c => !decide (c ∈ f :: fs)).length + 1 := by
      have e : (L.filter fun c => !decide (c ∈ f :: fs)) = (L.filter fun c => !decide (c ∈ fs)).filter fun c => !decide (c = f) := by
        rw [List.filter_filter]
        refine List.filter_congr fun c _ => ?_
        by_cases h1 : c = f
        · subst h1
          simp
        · by_cases h2 : c ∈ fs <;> simp [h1, h2]
      rw [e]
      have nd2 : (L.filter fun c => !decide (c ∈ fs)).Nodup := nd.filter _
      generalize (L.filter fun c => !decide (c ∈ fs)) = M at nd2
      clear e ih
      induction M with
      | nil => exact Nat.zero_le _
      | cons m M ihM =>
        have nd3 := List.nodup_cons.mp nd2
        rw [List.filter_cons]
        by_cases hm : m = f
        · subst hm
          have e2 : (M.filter fun c => !decide (c = m)) = M := List.filter_eq_self.mpr fun c hc => by
            have : c ≠ m := fun q => nd3.1 (q ▸ hc)
            simp [this]
          rw [if_neg (by simp), e2, List.length_cons]
          exact Nat.le_refl _
        · rw [if_pos (by simp [hm]), List.length_cons, List.length_cons]
          have := ihM nd3.2
          omega
    rw [List.length_cons]
    omega
theorem lower_nd : lower.Nodup := by decide +kernel
theorem low_range {c : Nat} (h : c ∈ lower) : 97 ≤ c ∧ c ≤ 122 := by
  have : ∀ c ∈ lower, 97 ≤ c ∧ c ≤ 122 := by decide +kernel
  exact this c h
/-- lists of truth values as data -/
theorem dp_bls {K : PySem.W.Frag} {H : Hp} : ∀ bs : List Bool, DpAll K H (bs.map V.bl) (bs.map PyData.bool)
  | [] => .nil
  | b :: bs => .cons (.bl b) (dp_bls bs)
theorem deep_bls {bs : List Bool} (h : bs.length ≤ 1000) : Deep 3 (.list (bs.map PyData.bool)) := by
  unfold Deep
  refine ⟨by rw [List.length_map]; exact h, fun d hd => ?_⟩
  obtain ⟨c, _, rfl⟩ := List.mem_map.mp hd
  unfold Deep
  trivial
theorem dp_strs {K : PySem.W.Frag} {H : Hp} : ∀ zs : List Str, DpAll K H (zs.map V.str) (zs.map PyData.str)
  | [] => .nil
  | b :: bs => .cons (.str b) (dp_strs bs)
theorem deep_list {n : Nat} {ds : List PyData} (h : ds.length ≤ 1000) (q : ∀ d ∈ ds, Deep n d) : Deep (n + 1) (.list ds) := by
  unfold Deep
  exact ⟨h, q⟩
theorem deep_strs {n : Nat} {zs : List Str} (h : zs.length ≤ 1000) : Deep (n + 1) (.list (zs.map PyData.str)) := by
  unfold Deep
  refine ⟨by rw [List.length_map]; exact h, fun d hd => ?_⟩
  obtain ⟨c, _, rfl⟩ := List.mem_map.mp hd
  unfold Deep
  trivial
theorem parts_len {n e s w g x y : Nat} : (partsC n e s w g x y).length = 2 := by
  unfold partsC
  split <;> rfl
section
variable {P : Program} {w : World} {K : PySem.W.Frag} {mg : Str → Option Value} {base : Heap}
theorem kb_is_string_0_faces_value : KB K "is_string" s_is_string ["value", "faces"] ["faces", "value"] swp swp := kb_swap fun _ _ _ _ _ _ _ _ => rfl
theorem kb_is_cut_0_faces_value : KB K "is_cut" s_is_cut ["value", "faces"] ["faces", "value"] swp swp := kb_swap fun _ _ _ _ _ _ _ _ => rfl
theorem kb_parts_of_0_cut_room : KB K "parts_of" s_parts_of ["room", "cut"] ["cut", "room"] swp swp := kb_swap fun _ _ _ _ _ _ _ _ => rfl
theorem same_bls {H : Hp} {p p' : Addr} {bs : List Bool} {Q : VK} {E : XK} (h : H p = some (.lst (bs.map V.bl))) (h' : H p' = some (.lst (bs.map V.bl))) (hl : bs.length ≤ 1000) (q : ∀ H', Same H H' → Q (.bl true) H') : sp__law_same K 3 [.ref p, .ref p'] H Q E :=
  ⟨_, _, .list (bs.map PyData.bool), rfl, .lst (SqL.of h) (dp_bls bs), .lst (SqL.of h') (dp_bls bs), deep_bls hl, q⟩
def sp_law (K : PySem.W.Frag) : Sp := fun vs H Q _ => ∃ (a : Addr) (ns : List Int), vs = [.ref a] ∧ SqL K H a (ns.map V.int) ∧ ns.length ≤ 63 ∧ ∀ H', Q (.bl true) H'
abbrev s_law : Stmt := topS 16
theorem sc_law : FnScope ["_law_script", "_law_bag", "_law_faces_z", "_law_gone", "_law_turn", "_law_text", "_law_room_z", "_law_cut_z", "_law_at", "_law_bent", "_law_spot", "_law_wrong", "_law_odd", "_law_late", "_law_told", "_law_value_z", "_law_letter"] ["_law_script"] (defScope s_law) := ⟨rfl, rfl, rfl, by decide +kernel, rfl, by decide +kernel, by decide +kernel⟩
theorem ok_law {f : Addr} {fd : FuncData} (F : Fun K "law" "law" s_law f fd) (T : Z mg)
    (c_is_string : Cal P w K mg base CX0 1 "is_string" s_is_string ["value", "faces"] (sp_is_string K))
    (c_is_room : Cal P w K mg base CX0 2 "is_room" s_is_room ["value", "faces"] (sp_is_room K))
    (c_is_cut : Cal P w K mg base CX0 2 "is_cut" s_is_cut ["value", "faces"] (sp_is_cut K))
    (c_parts_of : Cal P w K mg base CX0 1 "parts_of" s_parts_of ["room", "cut"] (sp_parts_of K))
    (c__law_open : Cal P w K mg base CX0 1 "_law_open" s__law_open ["_law_script"] (sp__law_open K))
    (c__law_draw : Cal P w K mg base CX0 1 "_law_draw" s__law_draw ["_law_bag", "_law_many"] (sp__law_draw K))
    (c__law_of : Cal P w K mg base CX0 2 "_law_of" s__law_of ["_law_bag", "_law_things"] (sp__law_of K))
    (c__law_same : Cal P w K mg base CX0 5 "_law_same" s__law_same ["_law_found", "_law_due"] (sp__law_same K 3))
    (c__law_some_faces : Cal P w K mg base CX0 3 "_law_some_faces" s__law_some_faces ["_law_bag", "_law_most"] (sp__law_some_faces K))
    (c__law_some_room : Cal P w K mg base CX0 3 "_law_some_room" s__law_some_room ["_law_bag", "_law_faces_z"] (sp__law_some_room K))
    (c__law_some_cut : Cal P w K mg base CX0 3 "_law_some_cut" s__law_some_cut ["_law_bag", "_law_faces_z"] (sp__law_some_cut K))
    (c__law_string : Cal P w K mg base CX0 3 "_law_string" s__law_string ["_law_bag", "_law_faces_z", "_law_most"] (sp__law_string K))
    (c__law_split : Cal P w K mg base CX0 1 "_law_split" s__law_split ["_law_room_z", "_law_cut_z"] (sp__law_split K)) : FnOk P w K mg base CX0 9 f fd ["_law_script"] (sp_law K) := by
  refine F.ok sc_law (fun vs H Q E h => ?_) (fun cdv A outer s H vs Q E hr h => ?_)
  · obtain ⟨a, ns, rfl, _⟩ := h
    rfl
  · obtain ⟨a, ns, rfl, hS, hlen, q⟩ := h
    refine ⟨_, (pss_cons (ps_set (i := 1) sc_law.nd rfl (.inl rfl) (pe_c c__law_open hr (by decide) (by rfl) (pa_cons (pv 0) pa_nil)))
      (pss_cons (ps_set (i := 2) sc_law.nd rfl (.inr rfl) (pe_c c__law_some_faces hr (by decide) (by rfl) (pa_cons (pv 1) (pa_cons pe_int pa_nil))))
      (pss_cons (ps_setLc (i := 3) (own := [("_law_letter", 16)]) (g := (gName 16)) (by rfl) sc_law.nd rfl rfl (sw_true rfl rfl rfl (by decide +kernel)) (pi_str pe_str) (blkOk_by (N := ["_law_script", "_law_bag", "_law_faces_z", "_law_gone", "_law_turn", "_law_text", "_law_room_z", "_law_cut_z", "_law_at", "_law_bent", "_law_spot", "_law_wrong", "_law_odd", "_law_late", "_law_told", "_law_value_z", "_law_letter"]) (sc := defScope s_law) (by decide +kernel)) (fun _ _ _ _ _ => (pg_name (i := 16) sc_law.nd rfl (.inl rfl))) (fun _ _ _ _ _ => (pts_one (pt_cmpR op_notIn_sign (pv 16) (pv 2) rfl))) (fun _ _ _ _ _ => (pv 16)))
      (pss_cons (ps_for PassesOwn.never rfl (pi_range1 (by rfl) T.z_range (pa_cons pe_int pa_nil)) (pg_name (i := 4) sc_law.nd rfl (.inl rfl))
        (pss_cons (ps_set (i := 5) sc_law.nd rfl (.inl rfl) (pe_c c__law_string hr (by decide) (by rfl) (pa_cons (pv 1) (pa_cons (pv 2) (pa_cons (pe_c c__law_of hr (by decide) (by rfl) (pa_cons (pv 1) (pa_cons (pe_lst (pa_cons pe_int (pa_cons pe_int (pa_cons pe_int (pa_cons pe_int pa_nil))))) pa_nil))) pa_nil)))))
      (pss_cons (ps_par (i := 6) (j := 7) (by rfl) sc_law.nd rfl rfl (by decide) rfl rfl (pa_cons (pe_c c__law_some_room hr (by decide) (by rfl) (pa_cons (pv 1) (pa_cons (pv 2) pa_nil))) (pa_cons (pe_c c__law_some_cut hr (by decide) (by rfl) (pa_cons (pv 1) (pa_cons (pv 2) pa_nil))) pa_nil)) (by rfl))
      (pss_cons (ps_set (i := 8) sc_law.nd rfl (.inl rfl) (pe_c c__law_draw hr (by decide) (by rfl) (pa_cons (pv 1) (pa_cons (pe_op op_add (pe_callB call_len_str (by rfl) T.z_len (by decide +kernel) (pa_cons (pv 5) pa_nil)) pe_int) pa_nil))))
      (pss_cons (ps_set (i := 9) sc_law.nd rfl (.inl rfl) (pe_op op_add_str (pe_op op_add_str (pe_slice sl_str (pv 5) po_none (po_some (pv 8))) (pe_c c__law_of hr (by decide) (by rfl) (pa_cons (pv 1) (pa_cons (pe_lst (pa_cons (pe_c c__law_of hr (by decide) (by rfl) (pa_cons (pv 1) (pa_cons (pv 3) pa_nil))) (pa_cons pe_str (pa_cons pe_str (pa_cons pe_str pa_nil))))) pa_nil)))) (pe_slice sl_str (pv 5) (po_some (pv 8)) po_none)))
      (pss_cons (ps_if (pt_not (pt_val (pe_c c__law_same hr (by decide) (by rfl) (pa_cons (pe_lst (pa_cons (pe_c c_is_string hr (by decide) (by rfl) (pa_cons (pv 5) (pa_cons (pv 2) pa_nil))) (pa_cons (pe_ck0 c_is_string (kb_is_string_0_faces_value) hr (by decide) (by rfl) (pk_cons (pv 2) (pk_cons (pv 9) pk_nil))) (pa_cons (pe_c c_is_room hr (by decide) (by rfl) (pa_cons (pv 5) (pa_cons (pv 2) pa_nil))) (pa_cons (pe_c c_is_room hr (by decide) (by rfl) (pa_cons (pv 6) (pa_cons (pv 2) pa_nil))) pa_nil))))) (pa_cons (pe_lst (pa_cons pe_bl (pa_cons pe_bl (pa_cons (pe_cmpR op_eq (pe_callB call_len_str (by rfl) T.z_len (by decide +kernel) (pa_cons (pv 5) pa_nil)) pe_int (nomark _)) (pa_cons pe_bl pa_nil))))) pa_nil))))) (pss_one (ps_ret pe_bl)) pss_nil)
      (pss_cons (ps_set (i := 10) sc_law.nd rfl (.inl rfl) (pe_c c__law_draw hr (by decide) (by rfl) (pa_cons (pv 1) (pa_cons pe_int pa_nil))))
      (pss_cons (ps_set (i := 11) sc_law.nd rfl (.inl rfl) (pe_op op_add_str (pe_op op_add_str (pe_slice sl_str (pv 6) po_none (po_some (pv 10))) (pe_c c__law_of hr (by decide) (by rfl) (pa_cons (pv 1) (pa_cons (pe_lst (pa_cons (pe_c c__law_of hr (by decide) (by rfl) (pa_cons (pv 1) (pa_cons (pv 3) pa_nil))) (pa_cons pe_str (pa_cons pe_str (pa_cons pe_str pa_nil))))) pa_nil)))) (pe_slice sl_str (pv 6) (po_some (pe_op op_add (pv 10) pe_int)) po_none)))
      (pss_cons (ps_set (i := 12) sc_law.nd rfl (.inl rfl) (pe_c c__law_of hr (by decide) (by rfl) (pa_cons (pv 1) (pa_cons (pe_lst (pa_cons (pe_slice sl_str (pv 7) (po_some pe_int) po_none) (pa_cons (pe_op op_add_str (pv 7) (pe_ix ix_str (pv 2) pe_int (fun _ _ => rfl))) (pa_cons (pe_op op_add_str (pe_op op_add_str (pe_ix ix_str (pv 7) pe_int (fun _ _ => rfl)) (pe_ix ix_str (pv 7) pe_int (fun _ _ => rfl))) (pe_ix ix_str (pv 7) pe_int (fun _ _ => rfl))) (pa_cons (pe_op op_add_str (pe_op op_add_str (pe_ix ix_str (pv 7) pe_int (fun _ _ => rfl)) (pe_ix ix_str (pv 7) pe_int (fun _ _ => rfl))) (pe_ix ix_str (pv 7) pe_int (fun _ _ => rfl))) (pa_cons (pe_op op_add_str (pe_slice sl_str (pv 7) po_none (po_some pe_int)) (pe_ix ix_list (pv 3) pe_int (fun _ _ => rfl))) (pa_cons (pe_op op_add_str (pe_op op_add_str (pe_ix ix_str (pv 7) pe_int (fun _ _ => rfl)) (pe_ix ix_list (pv 3) pe_int (fun _ _ => rfl))) (pe_ix ix_str (pv 7) pe_int (fun _ _ => rfl))) (pa_cons (pe_slice sl_str (pv 7) po_none (po_some pe_int)) (pa_cons (pe_op op_add_str pe_str (pe_slice sl_str (pv 7) (po_some pe_int) po_none)) (pa_cons pe_str (pa_cons pe_str (pa_cons (pe_op op_add_str (pv 7) pe_str) pa_nil)))))))))))) pa_nil))))
      (pss_cons (ps_if (pt_not (pt_val (pe_c c__law_same hr (by decide) (by rfl) (pa_cons (pe_lst (pa_cons (pe_c c_is_room hr (by decide) (by rfl) (pa_cons (pv 11) (pa_cons (pv 2) pa_nil))) (pa_cons (pe_c c_is_cut hr (by decide) (by rfl) (pa_cons (pv 7) (pa_cons (pv 2) pa_nil))) (pa_cons (pe_ck0 c_is_cut (kb_is_cut_0_faces_value) hr (by decide) (by rfl) (pk_cons (pv 2) (pk_cons (pv 12) pk_nil))) pa_nil)))) (pa_cons (pe_lst (pa_cons pe_bl (pa_cons pe_bl (pa_cons pe_bl pa_nil)))) pa_nil))))) (pss_one (ps_ret pe_bl)) pss_nil)
      (pss_cons (ps_if (pt_not (pt_val (pe_c c__law_same hr (by decide) (by rfl) (pa_cons (pe_lst (pa_cons (pe_c c_parts_of hr (by decide) (by rfl) (pa_cons (pv 6) (pa_cons (pv 7) pa_nil))) (pa_cons (pe_ck0 c_parts_of (kb_parts_of_0_cut_room) hr (by decide) (by rfl) (pk_cons (pv 7) (pk_cons (pv 6) pk_nil))) (pa_cons (pe_c c_parts_of hr (by decide) (by rfl) (pa_cons (pv 6) (pa_cons pe_str pa_nil))) pa_nil)))) (pa_cons (pe_op op_cat (pe_op op_rep (pe_lst (pa_cons (pe_c c__law_split hr (by decide) (by rfl) (pa_cons (pv 6) (pa_cons (pv 7) pa_nil))) pa_nil)) pe_int) (pe_lst (pa_cons (pe_lst (pa_cons (pv 6) pa_nil)) pa_nil))) pa_nil))))) (pss_one (ps_ret pe_bl)) pss_nil)
      (pss_cons (ps_set (i := 13) sc_law.nd rfl (.inl rfl) (pe_lst (pa_cons (pe_c c_is_string hr (by decide) (by rfl) (pa_cons (pe_op op_add_str (pv 5) pe_str) (pa_cons (pv 2) pa_nil))) (pa_cons (pe_c c_is_room hr (by decide) (by rfl) (pa_cons (pe_op op_add_str (pv 6) pe_str) (pa_cons (pv 2) pa_nil))) (pa_cons (pe_c c_is_cut hr (by decide) (by rfl) (pa_cons (pe_op op_add_str (pv 7) pe_str) (pa_cons (pv 2) pa_nil))) (pa_cons (pe_c c_is_room hr (by decide) (by rfl) (pa_cons (pe_op op_add_str (pe_slice sl_str (pv 6) po_none (po_some pe_int)) pe_str) (pa_cons (pv 2) pa_nil))) (pa_cons (pe_c c_is_cut hr (by decide) (by rfl) (pa_cons (pe_op op_add_str (pe_slice sl_str (pv 7) po_none (po_some pe_int)) pe_str) (pa_cons (pv 2) pa_nil))) pa_nil)))))))
      (pss_cons (ps_if (pt_not (pt_val (pe_c c__law_same hr (by decide) (by rfl) (pa_cons (pv 13) (pa_cons (pe_op op_rep (pe_lst (pa_cons pe_bl pa_nil)) pe_int) pa_nil))))) (pss_one (ps_ret pe_bl)) pss_nil)
      (pss_cons (ps_set (i := 14) sc_law.nd rfl (.inl rfl) (pe_c c_parts_of hr (by decide) (by rfl) (pa_cons (pv 6) (pa_cons (pv 7) pa_nil))))
      (pss_cons (ps_expr (pe_bm PySem.F.plainAttrs_list PySem.F.slot_list_append PySem.F.type_list_append mt_append (pv 14) (pa_cons pe_str pa_nil)))
      (pss_one (ps_if (pt_not (pt_val (pe_c c__law_same hr (by decide) (by rfl) (pa_cons (pe_c c_parts_of hr (by decide) (by rfl) (pa_cons (pv 6) (pa_cons (pv 7) pa_nil))) (pa_cons (pe_c c__law_split hr (by decide) (by rfl) (pa_cons (pv 6) (pa_cons (pv 7) pa_nil))) pa_nil))))) (pss_one (ps_ret pe_bl)) pss_nil)))))))))))))))))
      (pss_cons (ps_set (i := 15) sc_law.nd rfl (.inl rfl) (pe_c c__law_of hr (by decide) (by rfl) (pa_cons (pv 1) (pa_cons (pe_lst (pa_cons pe_non (pa_cons pe_int (pa_cons pe_bl (pa_cons (pe_lst (pa_cons (pv 6) pa_nil)) (pa_cons (pe_tup (pa_cons (pv 7) pa_nil)) (pa_cons (pe_lst pa_nil) (pa_cons pe_int (pa_cons (pe_tup (pa_cons pe_str (pa_cons pe_str (pa_cons pe_str (pa_cons pe_str pa_nil))))) pa_nil))))))))) pa_nil))))
      (pss_cons (ps_if (pt_not (pt_val (pe_c c__law_same hr (by decide) (by rfl) (pa_cons (pe_lst (pa_cons (pe_c c_is_string hr (by decide) (by rfl) (pa_cons (pv 15) (pa_cons (pv 2) pa_nil))) (pa_cons (pe_c c_is_room hr (by decide) (by rfl) (pa_cons (pv 15) (pa_cons (pv 2) pa_nil))) (pa_cons (pe_c c_is_cut hr (by decide) (by rfl) (pa_cons (pv 15) (pa_cons (pv 2) pa_nil))) (pa_cons (pe_c c_is_string hr (by decide) (by rfl) (pa_cons pe_str (pa_cons (pv 2) pa_nil))) pa_nil))))) (pa_cons (pe_op op_cat (pe_op op_rep (pe_lst (pa_cons pe_bl pa_nil)) pe_int) (pe_lst (pa_cons pe_bl pa_nil))) pa_nil))))) (pss_one (ps_ret pe_bl)) pss_nil)
      (pss_one (ps_ret (pe_c c__law_same hr (by decide) (by rfl) (pa_cons (pe_lst (pa_cons (pe_c c_parts_of hr (by decide) (by rfl) (pa_cons pe_str (pa_cons pe_str pa_nil))) (pa_cons (pe_c c_parts_of hr (by decide) (by rfl) (pa_cons pe_str (pa_cons pe_str pa_nil))) pa_nil))) (pa_cons (pe_lst (pa_cons (pe_lst (pa_cons pe_str (pa_cons pe_str pa_nil))) (pa_cons (pe_lst (pa_cons pe_str (pa_cons pe_str pa_nil))) pa_nil))) pa_nil))))))))))), ?_⟩
    refine ⟨_, rfl, a, ns, rfl, hS, hlen, fun H1 b l nb nl s1 B1 => ?_⟩
    refine ⟨_, rfl, b, l, 6, rfl, B1, by decide, by decide, fun H2 fs hfs hf0 hf6 b2 B2 => ?_⟩
    have hlow : ∀ c ∈ fs, 97 ≤ c ∧ c ≤ 122 := fun c hc => low_range (hfs.subset hc)
    -- the letters that are no faces
    refine ⟨_, rfl, fun g ng => ?_⟩
    have gb : g ≠ b := B2.ne ng
    have gz : g ≠ l := B2.ne2 ng
    refine lc_it walk_str (fun i H' => H' = upd H2 g (.lst (((lower.take i).filter fun c => !decide (c ∈ fs)).map sgn))) rfl (fun _ _ _ _ => trivial) ?_ ?_
    · rintro i x _ _ hi rfl ⟨rfl, c, hc, rfl⟩
      have e : lower.take (i + 1) = lower.take i ++ [c] := by
        rw [List.take_add_one]
        have : lower[i]? = some c := by
          rw [show lower = ("abcdefghijklmnopqrstuvwxyz" : Str).cps.toList from rfl, Array.getElem?_toList]
          exact hc
        rw [this]
        rfl
      refine ⟨rfl, _, rfl, _, rfl, c, S fs, rfl, rfl, _, rfl, ?_⟩
      rw [e, List.filter_append]
      by_cases hm : c ∈ fs
      · rw [show (!decide (c ∈ (S fs).cps.toList)) = false from by rw [decide_eq_true (show c ∈ (S fs).cps.toList from hm)]; rfl]
        refine iteF ?_
        rw [show ([c].filter fun c => !decide (c ∈ fs)) = [] from by simp [hm], List.append_nil]
      · rw [show (!decide (c ∈ (S fs).cps.toList)) = true from by rw [decide_eq_false (show c ∉ (S fs).cps.toList from hm)]; rfl]
        refine iteT ⟨_, rfl, _, upd_same, ?_, ?_⟩
        · rw [List.length_map]
          have h1 := List.length_filter_le (fun c => !decide (c ∈ fs)) (lower.take i)
          have h2 : (lower.take i).length ≤ lower.length := by rw [List.length_take]; exact Nat.min_le_right _ _
          rw [lower_len] at h2
          exact sz1 (by omega)
        · rw [upd_upd, show ([c].filter fun c => !decide (c ∈ fs)) = [c] from by simp [hm], List.map_append]
          rfl
    rintro _ rfl
    rw [show lower.take ("abcdefghijklmnopqrstuvwxyz" : Str).cps.size = lower from List.take_of_length_le (by rw [lower_len]; decide +kernel)]
    have hg1 : 20 ≤ (lower.filter fun c => !decide (c ∈ fs)).length := by
      have := gone_pos lower fs lower_nd
      rw [lower_len] at this
      omega
    have hg2 : (lower.filter fun c => !decide (c ∈ fs)).length ≤ 26 := by
      have := List.length_filter_le (fun c => !decide (c ∈ fs)) lower
      rw [lower_len] at this
      exact this
    have hg3 : ∀ c ∈ (lower.filter fun c => !decide (c ∈ fs)), c ∉ fs ∧ 97 ≤ c ∧ c ≤ 122 := fun c hc => by
      have h := List.mem_filter.mp hc
      refine ⟨fun q => ?_, low_range h.1⟩
      have h2 : (!decide (c ∈ fs)) = true := h.2
      rw [decide_eq_true q] at h2
      exact absurd h2 (by decide)
    generalize hgl : (lower.filter fun c => !decide (c ∈ fs)) = gl at hg1 hg2 hg3
    have S0 : St3 (upd H2 g (.lst (gl.map sgn))) b l g gl := ⟨B2.upd gb gz, upd_same, gb, gz⟩
    generalize upd H2 g (.lst (gl.map sgn)) = H3 at S0
    clear b2 B2 ng s1 B1 hS
    -- the eight turns
    refine ⟨8, rfl, by decide, by decide, for_range (n := (8 : Int).toNat) (fun i σ H' => ∃ y4 y5 y6 y7 y8 y9 y10 y11 y12 y13 y14 y15 y16 : Option V,
      σ = [some (.ref a), some (.ref b), some (.str (S fs)), some (.ref g), y4, y5, y6, y7, y8, y9, y10, y11, y12, y13, y14, y15, y16] ∧ St3 H' b l g gl ∧
      (0 < i → ∃ n e s w k x y : Nat, y6 = some (.str (S4 n e s w)) ∧ y7 = some (.str (S3 k x y))))
      ⟨none, none, none, none, none, none, none, none, none, none, none, none, none, rfl, S0, fun h => absurd h (Nat.lt_irrefl 0)⟩ ?_ ?_⟩
    · rintro i σ H4 hi ⟨y4, y5, y6, y7, y8, y9, y10, y11, y12, y13, y14, y15, y16, rfl, S4', -⟩
      -- text = _law_string(bag, faces, _law_of(bag, [3, 4, 5, 40]))
      refine ⟨_, rfl, _, rfl, _, rfl, (show 4 ≤ sizeLine by decide), fun p1 n1 => ?_⟩
      refine ⟨b, l, _, _, rfl, S4'.bag.same (same_upd n1), .inl ⟨p1, S4'.bag.ne n1, rfl, SqL.of upd_same⟩, by decide, by decide, fun H5 v hv b5 B5 => ?_⟩
      have S5 := (S4'.new n1).drawn b5 B5
      obtain ⟨m, rfl, hm⟩ : ∃ m : Nat, v = V.int m ∧ m ≤ 40 := by
        simp only [List.mem_cons, List.not_mem_nil, or_false] at hv
        rcases hv with rfl | rfl | rfl | rfl
        · exact ⟨3, rfl, by decide⟩
        · exact ⟨4, rfl, by decide⟩
        · exact ⟨5, rfl, by decide⟩
        · exact ⟨40, rfl, by decide⟩
      refine ⟨b, l, fs, m, rfl, B5, hf0, by omega, by omega, fun H6 t ht htl b6 B6 => ?_⟩
      have S6 := S5.drawn b6 B6
      -- room, cut
      refine ⟨_, rfl, _, rfl, b, l, fs, rfl, B6, hf0, by omega, fun H7 n e s w hn he hs hw b7 B7 => ?_⟩
      have S7 := S6.drawn b7 B7
      refine ⟨_, rfl, _, rfl, b, l, fs, rfl, B7, hf0, by omega, fun H8 k x y hk hx hy b8 B8 => ?_⟩
      have S8 := S7.drawn b8 B8
      have hroom : ∀ c ∈ [n, e, s, w], c ∈ fs := by
        intro c hc
        simp only [List.mem_cons, List.not_mem_nil, or_false] at hc
        rcases hc with rfl | rfl | rfl | rfl <;> assumption
      refine ⟨_, _, rfl, ?_⟩
      -- at
      refine ⟨_, rfl, _, rfl, S t, rfl, by rw [S_len]; exact sz (by omega), _, _, rfl, rfl, b, l, _, rfl, B8, by omega, by rw [S_len]; omega, fun H9 z z0 z1 b9 B9 => ?_⟩
      have S9 := S8.drawn b9 B9
      rw [S_len] at z1
      -- bent
      have ez : z = ((z.toNat : Nat) : Int) := by omega
      generalize hzn : z.toNat = zn at ez
      subst ez
      refine ⟨_, rfl, _, rfl, _, rfl, _, rfl, by rw [S_len]; exact sz (by omega), ?_⟩
      rw [S_to]
      refine ⟨_, rfl, _, rfl, _, rfl, b, l, _, gl.map sgn, rfl, B9, .inl ⟨g, gb, rfl, SqL.of S9.gn⟩, by rw [List.length_map]; omega, by rw [List.length_map]; omega, fun H10 v hv b10 B10 => ?_⟩
      have S10 := S9.drawn b10 B10
      obtain ⟨c1, hc1, rfl⟩ := of_str (H := H) (b := b) hv
      refine ⟨(show 4 ≤ sizeLine by decide), fun p2 n2 => ?_⟩
      refine ⟨b, l, _, _, rfl, S10.bag.same (same_upd n2), .inl ⟨p2, S10.bag.ne n2, rfl, SqL.of upd_same⟩, Nat.succ_pos _, (show 4 ≤ 100000 by decide), fun H11 v hv b11 B11 => ?_⟩
      have S11 := (S10.new n2).drawn b11 B11
      obtain ⟨c2, rfl, hc2⟩ : ∃ c : Nat, v = sgn c ∧ c ∉ fs := by
        simp only [List.mem_cons, List.not_mem_nil, or_false] at hv
        rcases hv with rfl | rfl | rfl | rfl
        · exact ⟨c1, rfl, (hg3 c1 hc1).1⟩
        · exact ⟨65, rfl, fun q => absurd (hlow 65 q).1 (by decide)⟩
        · exact ⟨124, rfl, fun q => absurd (hlow 124 q).2 (by decide)⟩
        · exact ⟨32, rfl, fun q => absurd (hlow 32 q).1 (by decide)⟩
      refine ⟨_, _, rfl, rfl, ?_, _, rfl, _, rfl, _, rfl, _, rfl, by rw [S_len]; exact sz (by omega), ?_⟩
      · rw [S_len, List.length_take]
        exact sz (by show min zn t.length + 1 ≤ 100000; omega)
      rw [S_sub]
      refine ⟨_, _, rfl, rfl, ?_, ?_⟩
      · show (S (t.take zn) ++ S [c2]).length + _ ≤ _
        rw [S_cat, S_len, S_len, List.length_append, List.length_take, List.length_drop]
        exact sz (by show min zn t.length + 1 + (t.length - zn) ≤ 100000; omega)
      have ebent : (S (t.take zn) ++ S [c2] ++ S (t.drop zn)) = S (t.take zn ++ [c2] ++ t.drop zn) := by rw [S_cat, S_cat]
      have hbent : (S (t.take zn) ++ S [c2] ++ S (t.drop zn)).cps.size ≤ 100000 := by
        rw [ebent]
        show (t.take zn ++ [c2] ++ t.drop zn).length ≤ 100000
        rw [List.length_append, List.length_append, List.length_take, List.length_drop]
        show min zn t.length + 1 + (t.length - zn) ≤ 100000
        omega
      have fbent : bString (.str (S (t.take zn) ++ S [c2] ++ S (t.drop zn))) (S fs) = false := by
        rw [ebent]
        exact bString_no (c := c2) (by simp) hc2
      -- the first comparison
      refine ⟨_, rfl, _, rfl, _, S fs, rfl, .inl ⟨rfl, show t.length ≤ 100000 by omega⟩, fun H12 q12 => ?_⟩
      refine ⟨_, rfl, _, rfl, _, S fs, rfl, .inl ⟨rfl, hbent⟩, fun H13 q13 => ?_⟩
      refine ⟨_, rfl, _, rfl, _, S fs, rfl, .inl ⟨rfl, show t.length ≤ 100000 by omega⟩, fun H14 q14 => ?_⟩
      refine ⟨_, rfl, _, rfl, _, S fs, rfl, .inl ⟨rfl, show 4 ≤ 100000 by decide⟩, fun H15 q15 => ?_⟩
      have S15 := (((S11.same q12).same q13).same q14).same q15
      refine ⟨(show 4 ≤ sizeLine by decide), fun p3 n3 => ?_⟩
      refine ⟨_, rfl, S t, rfl, by rw [S_len]; exact sz (by omega), rfl, (show 4 ≤ sizeLine by decide), fun p4 n4 => ?_⟩
      have et4 : decide (V.int ((S t).length : Int) = V.int 4) = decide (t.length = 4) := by
        rw [S_len]
        by_cases h : t.length = 4
        · rw [decide_eq_true h, h]
          rfl
        · rw [decide_eq_false h]
          exact decide_eq_false fun q => h (by have := V.int.inj q; omega)
      refine ⟨_, _, .list ([true, false, decide (t.length = 4), true].map PyData.bool), rfl, .lst (SqL.of ((same_upd n4) _ _ (upd_same.trans ?_))) (dp_bls [true, false, decide (t.length = 4), true]), .lst (SqL.of (upd_same.trans ?_)) (dp_bls [true, false, decide (t.length = 4), true]), deep_bls (show 4 ≤ 1000 by decide), fun H16 q16 => ?_⟩
      · rw [fbent, bString_yes ht, bRoom_is ht, show bRoom (.str (S4 n e s w)) (S fs) = true from bRoom_is hroom]
        rfl
      · rw [et4]
        rfl
      refine ⟨_, rfl, iteF ?_⟩
      have S16 := ((S15.new n3).new n4).same q16
      -- spot, wrong
      refine ⟨_, rfl, b, l, 4, rfl, S16.bag, by decide, by decide, fun H17 z z0 z1 b17 B17 => ?_⟩
      have S17 := S16.drawn b17 B17
      have ez : z = ((z.toNat : Nat) : Int) := by omega
      generalize hzn2 : z.toNat = zs at ez
      subst ez
      have hzs : zs < 4 := by omega
      refine ⟨_, rfl, _, rfl, _, rfl, _, rfl, (show 4 ≤ sizeLine by decide), ?_⟩
      rw [show cutS (S4 n e s w) none (some ((zs : Nat) : Int)) = S ([n, e, s, w].take zs) from S_to _ _]
      refine ⟨_, rfl, _, rfl, _, rfl, b, l, _, gl.map sgn, rfl, B17, .inl ⟨g, gb, rfl, SqL.of S17.gn⟩, by rw [List.length_map]; omega, by rw [List.length_map]; omega, fun H18 v hv b18 B18 => ?_⟩
      have S18 := S17.drawn b18 B18
      obtain ⟨c3, hc3, rfl⟩ := of_str (H := H) (b := b) hv
      refine ⟨(show 4 ≤ sizeLine by decide), fun p5 n5 => ?_⟩
      refine ⟨b, l, _, _, rfl, S18.bag.same (same_upd n5), .inl ⟨p5, S18.bag.ne n5, rfl, SqL.of upd_same⟩, Nat.succ_pos _, (show 4 ≤ 100000 by decide), fun H19 v hv b19 B19 => ?_⟩
      have S19 := (S18.new n5).drawn b19 B19
      obtain ⟨bl, rfl, hbl⟩ : ∃ bl : List Nat, v = .str (S bl) ∧ (bl = [] ∨ ∃ c, bl = [c] ∧ c ∉ fs) := by
        simp only [List.mem_cons, List.not_mem_nil, or_false] at hv
        rcases hv with rfl | rfl | rfl | rfl
        · exact ⟨[c3], rfl, .inr ⟨c3, rfl, (hg3 c3 hc3).1⟩⟩
        · exact ⟨[65], rfl, .inr ⟨65, rfl, fun q => absurd (hlow 65 q).1 (by decide)⟩⟩
        · exact ⟨[45], rfl, .inr ⟨45, rfl, fun q => absurd (hlow 45 q).1 (by decide)⟩⟩
        · exact ⟨[], rfl, .inl rfl⟩
      have hb1 : bl.length ≤ 1 := by
        rcases hbl with rfl | ⟨c, rfl, _⟩
        · exact Nat.zero_le _
        · exact Nat.le_refl _
      have ht4 : ([n, e, s, w].take zs).length = zs := by
        rw [List.length_take]
        exact Nat.min_eq_left (Nat.le_of_lt hzs)
      have hd4 : ([n, e, s, w].drop (zs + 1)).length = 4 - (zs + 1) := by rw [List.length_drop]; rfl
      refine ⟨_, _, rfl, rfl, ?_, _, rfl, _, rfl, _, _, rfl, rfl, _, rfl, _, rfl, (show 4 ≤ sizeLine by decide), ?_⟩
      · rw [S_len, S_len, ht4]
        exact sz (by omega)
      rw [show cutS (S4 n e s w) (some ((zs : Int) + 1)) none = S ([n, e, s, w].drop (zs + 1)) from S_sub [n, e, s, w] (zs + 1)]
      have ewr : (S ([n, e, s, w].take zs) ++ S bl ++ S ([n, e, s, w].drop (zs + 1))) = S ([n, e, s, w].take zs ++ bl ++ [n, e, s, w].drop (zs + 1)) := by rw [S_cat, S_cat]
      have lwr : ([n, e, s, w].take zs ++ bl ++ [n, e, s, w].drop (zs + 1)).length = zs + bl.length + (4 - (zs + 1)) := by rw [List.length_append, List.length_append, ht4, hd4]
      refine ⟨_, _, rfl, rfl, ?_, ?_⟩
      · rw [S_cat, S_len, S_len, List.length_append, ht4, hd4]
        exact sz (by omega)
      have hwr : (S ([n, e, s, w].take zs) ++ S bl ++ S ([n, e, s, w].drop (zs + 1))).cps.size ≤ 100000 := by
        rw [ewr]
        show ([n, e, s, w].take zs ++ bl ++ [n, e, s, w].drop (zs + 1)).length ≤ 100000
        rw [lwr]
        omega
      have fwr : bRoom (.str (S ([n, e, s, w].take zs) ++ S bl ++ S ([n, e, s, w].drop (zs + 1)))) (S fs) = false := by
        rw [ewr]
        rcases hbl with rfl | ⟨c, rfl, hc⟩
        · refine bRoom_len ?_
          rw [lwr, List.length_nil]
          omega
        · exact bRoom_no (c := c) (by simp) hc
      -- odd
      obtain ⟨f0, hf00⟩ : ∃ f0, atI fs 0 = some f0 := ⟨fs[0], atI_nat (j := 0) (List.getElem?_eq_getElem hf0)⟩
      obtain ⟨g0, hg00, hg01⟩ : ∃ g0, atI (gl.map sgn) 0 = some (sgn g0) ∧ g0 ∉ fs := by
        have h : 0 < gl.length := by omega
        exact ⟨gl[0], atI_nat (j := 0) (by rw [List.getElem?_map, List.getElem?_eq_getElem h]; rfl), (hg3 _ (List.getElem_mem h)).1⟩
      refine ⟨_, rfl, ?_⟩
      refine ⟨_, rfl, 1, rfl, _, rfl, (show 3 ≤ sizeLine by decide), ?_⟩
      refine ⟨_, rfl, _, rfl, S fs, 0, f0, rfl, rfl, by rw [S_len]; exact sz (by omega), hf00, _, _, rfl, rfl, (show 4 ≤ sizeLine by decide), ?_⟩
      refine ⟨_, rfl, _, 0, k, rfl, rfl, (show 3 ≤ sizeLine by decide), rfl, _, rfl, _, 0, k, rfl, rfl, (show 3 ≤ sizeLine by decide), rfl, _, _, rfl, rfl, (show 2 ≤ sizeLine by decide), _, rfl, _, 2, y, rfl, rfl, (show 3 ≤ sizeLine by decide), rfl, _, _, rfl, rfl, (show 3 ≤ sizeLine by decide), ?_⟩
      refine ⟨_, rfl, _, 1, x, rfl, rfl, (show 3 ≤ sizeLine by decide), rfl, _, rfl, _, 0, k, rfl, rfl, (show 3 ≤ sizeLine by decide), rfl, _, _, rfl, rfl, (show 2 ≤ sizeLine by decide), _, rfl, _, 2, y, rfl, rfl, (show 3 ≤ sizeLine by decide), rfl, _, _, rfl, rfl, (show 3 ≤ sizeLine by decide), ?_⟩
      refine ⟨_, rfl, 2, rfl, _, rfl, (show 3 ≤ sizeLine by decide), _, rfl, g, _, 0, _, rfl, rfl, SqL.of S19.gn, hg00, _, _, rfl, rfl, (show 3 ≤ sizeLine by decide), ?_⟩
      refine ⟨_, rfl, _, 0, k, rfl, rfl, (show 3 ≤ sizeLine by decide), rfl, _, rfl, g, _, 0, _, rfl, rfl, SqL.of S19.gn, hg00, _, _, rfl, rfl, (show 2 ≤ sizeLine by decide), _, rfl, _, 2, y, rfl, rfl, (show 3 ≤ sizeLine by decide), rfl, _, _, rfl, rfl, (show 3 ≤ sizeLine by decide), ?_⟩
      refine ⟨_, rfl, 2, rfl, _, rfl, (show 3 ≤ sizeLine by decide), ?_⟩
      refine ⟨_, rfl, 1, rfl, _, rfl, (show 3 ≤ sizeLine by decide), _, _, rfl, rfl, (show 3 ≤ sizeLine by decide), ?_⟩
      refine ⟨_, rfl, _, _, rfl, rfl, (show 4 ≤ sizeLine by decide), ?_⟩
      refine ⟨(show 11 ≤ sizeLine by decide), fun p6 n6 => ?_⟩
      refine ⟨b, l, _, _, rfl, S19.bag.same (same_upd n6), .inl ⟨p6, S19.bag.ne n6, rfl, SqL.of upd_same⟩, Nat.succ_pos _, (show 11 ≤ 100000 by decide), fun H20 v hv b20 B20 => ?_⟩
      have S20 := (S19.new n6).drawn b20 B20
      obtain ⟨oz, rfl, ho1, ho2⟩ : ∃ oz : Str, v = .str oz ∧ oz.cps.size ≤ 100000 ∧ bCut (.str oz) (S fs) = false := by
        simp only [List.mem_cons, List.not_mem_nil, or_false] at hv
        rcases hv with rfl | rfl | rfl | rfl | rfl | rfl | rfl | rfl | rfl | rfl | rfl
        · exact ⟨_, rfl, (show 2 ≤ 100000 by decide), bCut_len (l := [x, y]) (show 2 ≠ 3 by decide)⟩
        · exact ⟨_, rfl, (show 4 ≤ 100000 by decide), bCut_len (l := [k, x, y, f0]) (show 4 ≠ 3 by decide)⟩
        · exact ⟨_, rfl, (show 3 ≤ 100000 by decide), bCut_face (g := k) (x := k) (y := y) (c := k) (.inl rfl) (by
            rcases hk with rfl | rfl
            · exact fun q => absurd (hlow 124 q).2 (by decide)
            · exact fun q => absurd (hlow 45 q).1 (by decide))⟩
        · exact ⟨_, rfl, (show 3 ≤ 100000 by decide), bCut_sign (g := x) (x := k) (y := y) (fun q => absurd (hlow x hx).2 (by omega)) (fun q => absurd (hlow x hx).1 (by omega))⟩
        · exact ⟨_, rfl, (show 3 ≤ 100000 by decide), bCut_face (g := k) (x := x) (y := g0) (c := g0) (.inr rfl) hg01⟩
        · exact ⟨_, rfl, (show 3 ≤ 100000 by decide), bCut_face (g := k) (x := g0) (y := y) (c := g0) (.inl rfl) hg01⟩
        · exact ⟨_, rfl, (show 2 ≤ 100000 by decide), bCut_len (l := [k, x]) (show 2 ≠ 3 by decide)⟩
        · exact ⟨_, rfl, (show 3 ≤ 100000 by decide), bCut_sign (g := 47) (x := x) (y := y) (by decide) (by decide)⟩
        · exact ⟨_, rfl, (show 0 ≤ 100000 by decide), bCut_len (l := []) (by decide)⟩
        · exact ⟨_, rfl, (show 4 ≤ 100000 by decide), bCut_len (l := [110, 111, 110, 101]) (by decide)⟩
        · exact ⟨_, rfl, (show 4 ≤ 100000 by decide), bCut_len (l := [k, x, y, 32]) (show 4 ≠ 3 by decide)⟩
      -- the second comparison
      refine ⟨_, rfl, _, rfl, _, S fs, rfl, .inl ⟨rfl, hwr⟩, fun H21 q21 => ?_⟩
      refine ⟨_, rfl, _, rfl, _, S fs, rfl, .inl ⟨rfl, show 3 ≤ 100000 by decide⟩, fun H22 q22 => ?_⟩
      refine ⟨_, rfl, _, rfl, _, S fs, rfl, .inl ⟨rfl, ho1⟩, fun H23 q23 => ?_⟩
      have S23 := ((S20.same q21).same q22).same q23
      refine ⟨(show 3 ≤ sizeLine by decide), fun p7 n7 => ?_⟩
      refine ⟨(show 3 ≤ sizeLine by decide), fun p8 n8 => ?_⟩
      refine ⟨_, _, .list ([false, true, false].map PyData.bool), rfl, .lst (SqL.of ((same_upd n8) _ _ (upd_same.trans ?_))) (dp_bls [false, true, false]), .lst (SqL.of upd_same) (dp_bls [false, true, false]), deep_bls (show 3 ≤ 1000 by decide), fun H24 q24 => ?_⟩
      · rw [fwr, bCut_yes hk hx hy, ho2]
        rfl
      refine ⟨_, rfl, iteF ?_⟩
      have S24 := ((S23.new n7).new n8).same q24
      -- the parts
      refine ⟨_, rfl, _, rfl, n, e, s, w, _, rfl, .inr ⟨k, x, y, rfl, fun a1 m1 => ?_⟩⟩
      refine ⟨_, rfl, _, rfl, n, e, s, w, _, rfl, .inr ⟨k, x, y, rfl, fun a2 m2 => ?_⟩⟩
      refine ⟨_, rfl, n, e, s, w, _, rfl, .inl ⟨rfl, fun a3 m3 => ?_⟩⟩
      refine ⟨(show 3 ≤ sizeLine by decide), fun a4 m4 => ?_⟩
      refine ⟨_, rfl, _, rfl, n, e, s, w, k, x, y, rfl, fun a5 m5 => ?_⟩
      refine ⟨(show 1 ≤ sizeLine by decide), fun a6 m6 => ?_⟩
      refine ⟨a6, 2, _, rfl, rfl, upd_same, by decide, by decide, (show 1 * 2 ≤ sizeLine by decide), fun a7 m7 => ?_⟩
      refine ⟨_, rfl, (show 1 ≤ sizeLine by decide), fun a8 m8 => ?_⟩
      refine ⟨(show 1 ≤ sizeLine by decide), fun a9 m9 => ?_⟩
      refine ⟨a7, a9, _, _, rfl, rfl, (same_upd m9) _ _ ((same_upd m8) _ _ upd_same), upd_same, (show 2 + 1 ≤ sizeLine by decide), fun a10 m10 => ?_⟩
      have u9 : Same _ (upd _ a10 (.lst [V.ref a5, V.ref a5, V.ref a8])) := same_upd m10
      have u8 := (same_upd (o := HO.lst [V.ref a8]) m9).trans u9
      have u7 := (same_upd (o := HO.lst [V.str (S4 n e s w)]) m8).trans u8
      have u6 := (same_upd (o := HO.lst [V.ref a5, V.ref a5]) m7).trans u7
      have u5 := (same_upd (o := HO.lst [V.ref a5]) m6).trans u6
      have u4 := (same_upd (o := HO.lst ((partsC n e s w k x y).map V.str)) m5).trans u5
      have u3 := (same_upd (o := HO.lst [V.ref a1, V.ref a2, V.ref a3]) m4).trans u4
      have u2 := (same_upd (o := HO.lst [V.str (S4 n e s w)]) m3).trans u3
      have u1 := (same_upd (o := HO.lst ((partsC n e s w k x y).map V.str)) m2).trans u2
      have u0 := (same_upd (o := HO.lst ((partsC n e s w k x y).map V.str)) m1).trans u1
      have dP := fun H => dp_strs (K := K) (H := H) (partsC n e s w k x y)
      refine ⟨_, _, .list [.list ((partsC n e s w k x y).map PyData.str), .list ((partsC n e s w k x y).map PyData.str), .list ([S4 n e s w].map PyData.str)], rfl,
        .lst (SqL.of (u4 _ _ upd_same)) (.cons (.lst (SqL.of (u1 _ _ upd_same)) (dP _)) (.cons (.lst (SqL.of (u2 _ _ upd_same)) (dP _)) (.cons (.lst (SqL.of (u3 _ _ upd_same)) (dp_strs [S4 n e s w])) .nil))),
        .lst (SqL.of upd_same) (.cons (.lst (SqL.of (u5 _ _ upd_same)) (dP _)) (.cons (.lst (SqL.of (u5 _ _ upd_same)) (dP _)) (.cons (.lst (SqL.of (u8 _ _ upd_same)) (dp_strs [S4 n e s w])) .nil))), ?_, fun H25 q25 => ?_⟩
      · refine deep_list (show 3 ≤ 1000 by decide) fun d hd => ?_
        have dq := deep_strs (n := 1) (zs := partsC n e s w k x y) (by rw [parts_len]; decide)
        simp only [List.mem_cons, List.not_mem_nil, or_false] at hd
        rcases hd with rfl | rfl | rfl
        · exact dq
        · exact dq
        · exact deep_strs (zs := [S4 n e s w]) (show 1 ≤ 1000 by decide)
      refine ⟨_, rfl, iteF ?_⟩
      have S25 := (S24.same u0).same q25
      -- late
      refine ⟨_, rfl, _, _, rfl, rfl, by rw [S_len]; exact sz (show t.length + 1 ≤ 100000 by omega), _, rfl, _, S fs, rfl, .inl ⟨rfl, ?_⟩, fun H26 q26 => ?_⟩
      · show (S t ++ S [10]).cps.size ≤ 100000
        rw [S_cat]
        show (t ++ [10]).length ≤ 100000
        rw [List.length_append]
        show t.length + 1 ≤ 100000
        omega
      refine ⟨_, rfl, _, _, rfl, rfl, (show 5 ≤ sizeLine by decide), _, rfl, _, S fs, rfl, .inl ⟨rfl, show 5 ≤ 100000 by decide⟩, fun H27 q27 => ?_⟩
      refine ⟨_, rfl, _, _, rfl, rfl, (show 4 ≤ sizeLine by decide), _, rfl, _, S fs, rfl, .inl ⟨rfl, show 4 ≤ 100000 by decide⟩, fun H28 q28 => ?_⟩
      refine ⟨_, rfl, 3, rfl, _, rfl, (show 4 ≤ sizeLine by decide), _, _, rfl, rfl, (show 4 ≤ sizeLine by decide), _, rfl, _, S fs, rfl, .inl ⟨rfl, show 4 ≤ 100000 by decide⟩, fun H29 q29 => ?_⟩
      refine ⟨_, rfl, 2, rfl, _, rfl, (show 3 ≤ sizeLine by decide), _, _, rfl, rfl, (show 3 ≤ sizeLine by decide), _, rfl, _, S fs, rfl, .inl ⟨rfl, show 3 ≤ 100000 by decide⟩, fun H30 q30 => ?_⟩
      have S30 := ((((S25.same q26).same q27).same q28).same q29).same q30
      refine ⟨(show 5 ≤ sizeLine by decide), fun c1' k1 => ?_⟩
      have S31 := S30.new (o := HO.lst ([false, false, false, false, false].map V.bl)) k1
      have n10 : (10 : Nat) ∉ fs := fun q => absurd (hlow 10 q).1 (by decide)
      have el : [V.bl (bString (.str (S t ++ S [10])) (S fs)), V.bl (bRoom (.str (S [n, e, s, w, 10])) (S fs)), V.bl (bCut (.str (S [k, x, y, 10])) (S fs)), V.bl (bRoom (.str (S [n, e, s, 10])) (S fs)), V.bl (bCut (.str (S [k, x, 10])) (S fs))] = [false, false, false, false, false].map V.bl := by
        rw [S_cat, bString_no (c := 10) (by simp) n10, bRoom_len (l := [n, e, s, w, 10]) (show 5 ≠ 4 by decide), bCut_len (l := [k, x, y, 10]) (show 4 ≠ 3 by decide), bRoom_no (l := [n, e, s, 10]) (c := 10) (by simp) n10, bCut_face (g := k) (x := x) (y := 10) (c := 10) (.inr rfl) n10]
        rfl
      refine ⟨_, rfl, (show 1 ≤ sizeLine by decide), fun c2' k2 => ?_⟩
      refine ⟨c2', 5, _, rfl, rfl, upd_same, by decide, by decide, (show 1 * 5 ≤ sizeLine by decide), fun c3' k3 => ?_⟩
      have v1 := (same_upd (o := HO.lst [V.bl false]) k2).trans (same_upd (o := HO.lst (List.replicate (5 : Int).toNat [V.bl false]).flatten) k3)
      refine ⟨_, _, .list ([false, false, false, false, false].map PyData.bool), rfl, .lst (SqL.of (v1 _ _ (upd_same.trans ?_))) (dp_bls [false, false, false, false, false]), .lst (SqL.of upd_same) (dp_bls [false, false, false, false, false]), deep_bls (show 5 ≤ 1000 by decide), fun H32 q32 => ?_⟩
      · exact congrArg (fun l => some (HO.lst l)) el
      refine ⟨_, rfl, iteF ?_⟩
      have S32 := (S30.new k1).same (v1.trans q32)
      -- told
      refine ⟨_, rfl, _, rfl, n, e, s, w, _, rfl, .inr ⟨k, x, y, rfl, fun d1 j1 => ?_⟩⟩
      refine ⟨_, rfl, .inl ⟨rfl, _, SqL.of upd_same⟩, d1, _, _, rfl, rfl, upd_same, ?_, ?_⟩
      · rw [List.length_map, parts_len]
        decide
      rw [upd_upd]
      refine ⟨_, rfl, _, rfl, n, e, s, w, _, rfl, .inr ⟨k, x, y, rfl, fun d2 j2 => ?_⟩⟩
      refine ⟨_, rfl, _, rfl, n, e, s, w, k, x, y, rfl, fun d3 j3 => ?_⟩
      have w1 := same_upd (o := HO.lst ((partsC n e s w k x y).map V.str)) j3
      refine ⟨_, _, .list ((partsC n e s w k x y).map PyData.str), rfl, .lst (SqL.of (w1 _ _ upd_same)) (dP _), .lst (SqL.of upd_same) (dP _), deep_strs (n := 2) (by rw [parts_len]; decide), fun H33 q33 => ?_⟩
      refine ⟨_, rfl, iteF ?_⟩
      have S33 := (((S32.new j1).new j2).new j3).same q33
      exact ⟨_, _, _, _, _, _, _, _, _, _, _, _, _, rfl, S33, fun _ => ⟨n, e, s, w, k, x, y, rfl, rfl⟩⟩
    · rintro σ H4 ⟨y4, y5, y6, y7, y8, y9, y10, y11, y12, y13, y14, y15, y16, rfl, S4', h0⟩
      obtain ⟨n, e, s, w, k, x, y, rfl, rfl⟩ := h0 (by decide)
      -- a value of another kind
      refine ⟨_, rfl, ?_⟩
      refine ⟨_, rfl, (show 1 ≤ sizeLine by decide), fun p1 n1 => ?_⟩
      refine ⟨_, rfl, (show 1 ≤ sizeLine by decide), fun p2 n2 => ?_⟩
      refine ⟨(show 0 ≤ sizeLine by decide), fun p3 n3 => ?_⟩
      refine ⟨(show 4 ≤ sizeLine by decide), fun p4 n4 => ?_⟩
      refine ⟨(show 8 ≤ sizeLine by decide), fun p5 n5 => ?_⟩
      have S9 := ((((S4'.new (o := HO.lst [V.str (S4 n e s w)]) n1).new (o := HO.tup [V.str (S3 k x y)]) n2).new (o := HO.lst []) n3).new (o := HO.tup [V.str "a", V.str "a", V.str "a", V.str "a"]) n4)
      have S10 := S9.new (o := HO.lst [V.non, V.int 3, V.bl true, V.ref p1, V.ref p2, V.ref p3, V.int 0, V.ref p4]) n5
      have v4 := same_upd (o := HO.lst [V.non, V.int 3, V.bl true, V.ref p1, V.ref p2, V.ref p3, V.int 0, V.ref p4]) n5
      have v3 := (same_upd (o := HO.tup [V.str "a", V.str "a", V.str "a", V.str "a"]) n4).trans v4
      have v2 := (same_upd (o := HO.lst []) n3).trans v3
      have v1 := (same_upd (o := HO.tup [V.str (S3 k x y)]) n2).trans v2
      have nb1 : p1 ≠ b := S4'.bag.ne n1
      have nb2 : p2 ≠ b := (S4'.new n1).bag.ne n2
      have nb3 : p3 ≠ b := ((S4'.new n1).new n2).bag.ne n3
      have nb4 : p4 ≠ b := (((S4'.new n1).new n2).new n3).bag.ne n4
      refine ⟨b, l, _, _, rfl, S10.bag, .inl ⟨p5, S9.bag.ne n5, rfl, SqL.of upd_same⟩, Nat.succ_pos _, (show 8 ≤ 100000 by decide), fun H11 v hv b11 B11 => ?_⟩
      have nv : NS H11 v := by
        simp only [List.mem_cons, List.not_mem_nil, or_false] at hv
        rcases hv with rfl | rfl | rfl | rfl | rfl | rfl | rfl | rfl
        · exact .inl rfl
        · exact .inr (.inl ⟨_, rfl⟩)
        · exact .inr (.inr (.inl ⟨_, rfl⟩))
        · exact .inr (.inr (.inr (.inl ⟨p1, _, rfl, b11 _ _ nb1 (v1 _ _ upd_same)⟩)))
        · exact .inr (.inr (.inr (.inr ⟨p2, _, rfl, b11 _ _ nb2 (v2 _ _ upd_same)⟩)))
        · exact .inr (.inr (.inr (.inl ⟨p3, _, rfl, b11 _ _ nb3 (v3 _ _ upd_same)⟩)))
        · exact .inr (.inl ⟨_, rfl⟩)
        · exact .inr (.inr (.inr (.inr ⟨p4, _, rfl, b11 _ _ nb4 (v4 _ _ upd_same)⟩)))
      obtain ⟨g1, g2, g3⟩ := nv.b (S fs)
      refine ⟨_, rfl, _, rfl, v, S fs, rfl, .inr nv.not, fun H12 q12 => ?_⟩
      have nv2 := nv.same q12
      refine ⟨_, rfl, _, rfl, v, S fs, rfl, .inr nv2.not, fun H13 q13 => ?_⟩
      have nv3 := nv2.same q13
      refine ⟨_, rfl, _, rfl, v, S fs, rfl, .inr nv3.not, fun H14 q14 => ?_⟩
      refine ⟨_, rfl, _, S fs, rfl, .inl ⟨rfl, show 0 ≤ 100000 by decide⟩, fun H15 q15 => ?_⟩
      refine ⟨(show 4 ≤ sizeLine by decide), fun a1 m1 => ?_⟩
      refine ⟨(show 1 ≤ sizeLine by decide), fun a2 m2 => ?_⟩
      refine ⟨a2, 3, _, rfl, rfl, upd_same, by decide, by decide, (show 1 * 3 ≤ sizeLine by decide), fun a3 m3 => ?_⟩
      refine ⟨(show 1 ≤ sizeLine by decide), fun a4 m4 => ?_⟩
      refine ⟨a3, a4, _, _, rfl, rfl, (same_upd m4) _ _ upd_same, upd_same, (show 3 + 1 ≤ sizeLine by decide), fun a5 m5 => ?_⟩
      have u4 : Same _ (upd _ a5 (.lst ([false, false, false, true].map V.bl))) := same_upd m5
      have u3 := (same_upd (o := HO.lst [V.bl true]) m4).trans u4
      have u2 := (same_upd (o := HO.lst (List.replicate (3 : Int).toNat [V.bl false]).flatten) m3).trans u3
      have u1 := (same_upd (o := HO.lst [V.bl false]) m2).trans u2
      have el : [V.bl (bString v (S fs)), V.bl (bRoom v (S fs)), V.bl (bCut v (S fs)), V.bl (bString (.str (S [])) (S fs))] = [false, false, false, true].map V.bl := by
        rw [g1, g2, g3]
        rfl
      refine ⟨_, _, .list ([false, false, false, true].map PyData.bool), rfl, .lst (SqL.of (u1 _ _ (upd_same.trans ?_))) (dp_bls [false, false, false, true]), .lst (SqL.of upd_same) (dp_bls [false, false, false, true]), deep_bls (show 4 ≤ 1000 by decide), fun H16 q16 => ?_⟩
      · exact congrArg (fun l => some (HO.lst l)) el
      refine ⟨_, rfl, iteF ?_⟩
      -- the example of the document
      refine ⟨110, 101, 115, 119, _, rfl, .inr ⟨124, 120, 121, rfl, fun d1 j1 => ?_⟩⟩
      refine ⟨110, 101, 115, 119, _, rfl, .inr ⟨45, 120, 121, rfl, fun d2 j2 => ?_⟩⟩
      refine ⟨(show 2 ≤ sizeLine by decide), fun d3 j3 => ?_⟩
      refine ⟨(show 2 ≤ sizeLine by decide), fun d4 j4 => ?_⟩
      refine ⟨(show 2 ≤ sizeLine by decide), fun d5 j5 => ?_⟩
      refine ⟨(show 2 ≤ sizeLine by decide), fun d6 j6 => ?_⟩
      have w5 := same_upd (o := HO.lst [V.ref d4, V.ref d5]) j6
      have w4 := (same_upd (o := HO.lst [V.str "nexw", V.str "yesw"]) j5).trans w5
      have w3 := (same_upd (o := HO.lst [V.str "nxsw", V.str "nesy"]) j4).trans w4
      have w2 := (same_upd (o := HO.lst [V.ref d1, V.ref d2]) j3).trans w3
      have w1 := (same_upd (o := HO.lst ((partsC 110 101 115 119 45 120 121).map V.str)) j2).trans w2
      refine ⟨_, _, .list [.list ([S [110, 120, 115, 119], S [110, 101, 115, 121]].map PyData.str), .list ([S [110, 101, 120, 119], S [121, 101, 115, 119]].map PyData.str)], rfl,
        .lst (SqL.of (w3 _ _ upd_same)) (.cons (.lst (SqL.of (w1 _ _ upd_same)) (dp_strs [S [110, 120, 115, 119], S [110, 101, 115, 121]])) (.cons (.lst (SqL.of (w2 _ _ upd_same)) (dp_strs [S [110, 101, 120, 119], S [121, 101, 115, 119]])) .nil)),
        .lst (SqL.of upd_same) (.cons (.lst (SqL.of (w4 _ _ upd_same)) (dp_strs [S [110, 120, 115, 119], S [110, 101, 115, 121]])) (.cons (.lst (SqL.of (w5 _ _ upd_same)) (dp_strs [S [110, 101, 120, 119], S [121, 101, 115, 119]])) .nil)), ?_, fun H17 q17 => q _⟩
      refine deep_list (show 2 ≤ 1000 by decide) fun d hd => ?_
      simp only [List.mem_cons, List.not_mem_nil, or_false] at hd
      rcases hd with rfl | rfl
      · exact deep_strs (zs := [S [110, 120, 115, 119], S [110, 101, 115, 121]]) (show 2 ≤ 1000 by decide)
      · exact deep_strs (zs := [S [110, 101, 120, 119], S [121, 101, 115, 119]]) (show 2 ≤ 1000 by decide)
end
end FW
namespace FW
open PySem PySem.Spec PyProof.Rows L2
theorem all_mk {l : PySem.W.OpenLaw} {w : World} {K : PySem.W.Frag} {h : Heap} {mg : Str → Option Value} {fa f1 f2 f3 f4 f5 f6 f7 f8 f9 f10 f11 f12 f13 f14 f15 : Addr} (X : K.In h) (G : h.Ns mainGlobals mg) (hfa : mg "law" = some (.ref fa))
    {od1 an1 od2 an2 od3 an3 od4 an4 od5 an5 od6 an6 od7 an7 od8 an8 od9 an9 od10 an10 od11 an11 od12 an12 od13 an13 od14 an14 od15 an15 : Option Addr} {sl1 sl2 sl3 sl4 sl5 sl6 sl7 sl8 sl9 sl10 sl11 sl12 sl13 sl14 sl15 : Array (Option Value)} {oc1 kV1 dc1 pm1 cd1 ct1 oc2 kV2 dc2 pm2 cd2 ct2 oc3 kV3 dc3 pm3 cd3 ct3 oc4 kV4 dc4 pm4 cd4 ct4 oc5 kV5 dc5 pm5 cd5 ct5 oc6 kV6 dc6 pm6 cd6 ct6 oc7 kV7 dc7 pm7 cd7 ct7 oc8 kV8 dc8 pm8 cd8 ct8 oc9 kV9 dc9 pm9 cd9 ct9 oc10 kV10 dc10 pm10 cd10 ct10 oc11 kV11 dc11 pm11 cd11 ct11 oc12 kV12 dc12 pm12 cd12 ct12 oc13 kV13 dc13 pm13 cd13 ct13 oc14 kV14 dc14 pm14 cd14 ct14 oc15 kV15 dc15 pm15 cd15 ct15 : Value}
    (a1 : PySem.W.nsIn K mainGlobals "is_string" = some (some (.ref f1))) (l1 : K.lookup f1 = some ⟨oc1, od1, .func (PySem.W.fnOf "is_string" "is_string" (defArgs s_is_string) (defBody s_is_string) (defScope s_is_string) .none kV1 dc1 pm1 an1 cd1 ct1), sl1⟩) (c1 : PySem.W.codeIn K cd1 "is_string" = true) (k1 : PySem.W.keepIn K (.ref f1) = true)
    (a2 : PySem.W.nsIn K mainGlobals "is_room" = some (some (.ref f2))) (l2 : K.lookup f2 = some ⟨oc2, od2, .func (PySem.W.fnOf "is_room" "is_room" (defArgs s_is_room) (defBody s_is_room) (defScope s_is_room) .none kV2 dc2 pm2 an2 cd2 ct2), sl2⟩) (c2 : PySem.W.codeIn K cd2 "is_room" = true) (k2 : PySem.W.keepIn K (.ref f2) = true)
    (a3 : PySem.W.nsIn K mainGlobals "is_cut" = some (some (.ref f3))) (l3 : K.lookup f3 = some ⟨oc3, od3, .func (PySem.W.fnOf "is_cut" "is_cut" (defArgs s_is_cut) (defBody s_is_cut) (defScope s_is_cut) .none kV3 dc3 pm3 an3 cd3 ct3), sl3⟩) (c3 : PySem.W.codeIn K cd3 "is_cut" = true) (k3 : PySem.W.keepIn K (.ref f3) = true)
    (a4 : PySem.W.nsIn K mainGlobals "parts_of" = some (some (.ref f4))) (l4 : K.lookup f4 = some ⟨oc4, od4, .func (PySem.W.fnOf "parts_of" "parts_of" (defArgs s_parts_of) (defBody s_parts_of) (defScope s_parts_of) .none kV4 dc4 pm4 an4 cd4 ct4), sl4⟩) (c4 : PySem.W.codeIn K cd4 "parts_of" = true) (k4 : PySem.W.keepIn K (.ref f4) = true)
    (a5 : PySem.W.nsIn K mainGlobals "_law_open" = some (some (.ref f5))) (l5 : K.lookup f5 = some ⟨oc5, od5, .func (PySem.W.fnOf "_law_open" "_law_open" (defArgs s__law_open) (defBody s__law_open) (defScope s__law_open) .none kV5 dc5 pm5 an5 cd5 ct5), sl5⟩) (c5 : PySem.W.codeIn K cd5 "_law_open" = true) (k5 : PySem.W.keepIn K (.ref f5) = true)
    (a6 : PySem.W.nsIn K mainGlobals "_law_draw" = some (some (.ref f6))) (l6 : K.lookup f6 = some ⟨oc6, od6, .func (PySem.W.fnOf "_law_draw" "_law_draw" (defArgs s__law_draw) (defBody s__law_draw) (defScope s__law_draw) .none kV6 dc6 pm6 an6 cd6 ct6), sl6⟩) (c6 : PySem.W.codeIn K cd6 "_law_draw" = true) (k6 : PySem.W.keepIn K (.ref f6) = true)
    (a7 : PySem.W.nsIn K mainGlobals "_law_of" = some (some (.ref f7))) (l7 : K.lookup f7 = some ⟨oc7, od7, .func (PySem.W.fnOf "_law_of" "_law_of" (defArgs s__law_of) (defBody s__law_of) (defScope s__law_of) .none kV7 dc7 pm7 an7 cd7 ct7), sl7⟩) (c7 : PySem.W.codeIn K cd7 "_law_of" = true) (k7 : PySem.W.keepIn K (.ref f7) = true)
    (a8 : PySem.W.nsIn K mainGlobals "_law_same" = some (some (.ref f8))) (l8 : K.lookup f8 = some ⟨oc8, od8, .func (PySem.W.fnOf "_law_same" "_law_same" (defArgs s__law_same) (defBody s__law_same) (defScope s__law_same) .none kV8 dc8 pm8 an8 cd8 ct8), sl8⟩) (c8 : PySem.W.codeIn K cd8 "_law_same" = true) (k8 : PySem.W.keepIn K (.ref f8) = true)
    (a9 : PySem.W.nsIn K mainGlobals "_law_letters" = some (some (.ref f9))) (l9 : K.lookup f9 = some ⟨oc9, od9, .func (PySem.W.fnOf "_law_letters" "_law_letters" (defArgs s__law_letters) (defBody s__law_letters) (defScope s__law_letters) .none kV9 dc9 pm9 an9 cd9 ct9), sl9⟩) (c9 : PySem.W.codeIn K cd9 "_law_letters" = true) (k9 : PySem.W.keepIn K (.ref f9) = true)
    (a10 : PySem.W.nsIn K mainGlobals "_law_some_faces" = some (some (.ref f10))) (l10 : K.lookup f10 = some ⟨oc10, od10, .func (PySem.W.fnOf "_law_some_faces" "_law_some_faces" (defArgs s__law_some_faces) (defBody s__law_some_faces) (defScope s__law_some_faces) .none kV10 dc10 pm10 an10 cd10 ct10), sl10⟩) (c10 : PySem.W.codeIn K cd10 "_law_some_faces" = true) (k10 : PySem.W.keepIn K (.ref f10) = true)
    (a11 : PySem.W.nsIn K mainGlobals "_law_some_room" = some (some (.ref f11))) (l11 : K.lookup f11 = some ⟨oc11, od11, .func (PySem.W.fnOf "_law_some_room" "_law_some_room" (defArgs s__law_some_room) (defBody s__law_some_room) (defScope s__law_some_room) .none kV11 dc11 pm11 an11 cd11 ct11), sl11⟩) (c11 : PySem.W.codeIn K cd11 "_law_some_room" = true) (k11 : PySem.W.keepIn K (.ref f11) = true)
    (a12 : PySem.W.nsIn K mainGlobals "_law_some_cut" = some (some (.ref f12))) (l12 : K.lookup f12 = some ⟨oc12, od12, .func (PySem.W.fnOf "_law_some_cut" "_law_some_cut" (defArgs s__law_some_cut) (defBody s__law_some_cut) (defScope s__law_some_cut) .none kV12 dc12 pm12 an12 cd12 ct12), sl12⟩) (c12 : PySem.W.codeIn K cd12 "_law_some_cut" = true) (k12 : PySem.W.keepIn K (.ref f12) = true)
    (a13 : PySem.W.nsIn K mainGlobals "_law_string" = some (some (.ref f13))) (l13 : K.lookup f13 = some ⟨oc13, od13, .func (PySem.W.fnOf "_law_string" "_law_string" (defArgs s__law_string) (defBody s__law_string) (defScope s__law_string) .none kV13 dc13 pm13 an13 cd13 ct13), sl13⟩) (c13 : PySem.W.codeIn K cd13 "_law_string" = true) (k13 : PySem.W.keepIn K (.ref f13) = true)
    (a14 : PySem.W.nsIn K mainGlobals "_law_split" = some (some (.ref f14))) (l14 : K.lookup f14 = some ⟨oc14, od14, .func (PySem.W.fnOf "_law_split" "_law_split" (defArgs s__law_split) (defBody s__law_split) (defScope s__law_split) .none kV14 dc14 pm14 an14 cd14 ct14), sl14⟩) (c14 : PySem.W.codeIn K cd14 "_law_split" = true) (k14 : PySem.W.keepIn K (.ref f14) = true)
    (a15 : PySem.W.nsIn K mainGlobals "law" = some (some (.ref f15))) (l15 : K.lookup f15 = some ⟨oc15, od15, .func (PySem.W.fnOf "law" "law" (defArgs s_law) (defBody s_law) (defScope s_law) .none kV15 dc15 pm15 an15 cd15 ct15), sl15⟩) (c15 : PySem.W.codeIn K cd15 "law" = true) (k15 : PySem.W.keepIn K (.ref f15) = true)
    (y_isinstance : PySem.W.nsIn K mainGlobals "isinstance" = some none)
    (y_str : PySem.W.nsIn K mainGlobals "str" = some none)
    (y_all : PySem.W.nsIn K mainGlobals "all" = some none)
    (y_len : PySem.W.nsIn K mainGlobals "len" = some none)
    (y_int : PySem.W.nsIn K mainGlobals "int" = some none)
    (y_list : PySem.W.nsIn K mainGlobals "list" = some none)
    (y_abs : PySem.W.nsIn K mainGlobals "abs" = some none)
    (y_bool : PySem.W.nsIn K mainGlobals "bool" = some none)
    (y_tuple : PySem.W.nsIn K mainGlobals "tuple" = some none)
    (y_zip : PySem.W.nsIn K mainGlobals "zip" = some none)
    (y_range : PySem.W.nsIn K mainGlobals "range" = some none)
    : ∃ fd : FuncData, (∀ (s : Shared) (v : Value), BindsTo s fd ⟨[v], []⟩ [("_law_script", v)]) ∧ ∀ base : Heap, K.In base → base.Ns mainGlobals mg → FnOk l.prog w K mg base CX0 9 fa fd ["_law_script"] (sp_law K) := by
  have e := hfa.symm.trans (PySem.W.mg_of X G a15)
  cases e
  have T : Z mg := ⟨PySem.W.mg_none_of X G y_isinstance, PySem.W.mg_none_of X G y_str, PySem.W.mg_none_of X G y_all, PySem.W.mg_none_of X G y_len, PySem.W.mg_none_of X G y_int, PySem.W.mg_none_of X G y_list, PySem.W.mg_none_of X G y_abs, PySem.W.mg_none_of X G y_bool, PySem.W.mg_none_of X G y_tuple, PySem.W.mg_none_of X G y_zip, PySem.W.mg_none_of X G y_range⟩
  have F_is_string := fun_mk (st := s_is_string) l1 c1 k1
  have b_is_string := F_is_string.binds (ps := ["value", "faces"]) fun _ _ _ _ _ _ us hl => match us, hl with | [_, _], _ => rfl
  have m_is_string := PySem.W.mg_of X G a1
  have F_is_room := fun_mk (st := s_is_room) l2 c2 k2
  have b_is_room := F_is_room.binds (ps := ["value", "faces"]) fun _ _ _ _ _ _ us hl => match us, hl with | [_, _], _ => rfl
  have m_is_room := PySem.W.mg_of X G a2
  have F_is_cut := fun_mk (st := s_is_cut) l3 c3 k3
  have b_is_cut := F_is_cut.binds (ps := ["value", "faces"]) fun _ _ _ _ _ _ us hl => match us, hl with | [_, _], _ => rfl
  have m_is_cut := PySem.W.mg_of X G a3
  have F_parts_of := fun_mk (st := s_parts_of) l4 c4 k4
  have b_parts_of := F_parts_of.binds (ps := ["room", "cut"]) fun _ _ _ _ _ _ us hl => match us, hl with | [_, _], _ => rfl
  have m_parts_of := PySem.W.mg_of X G a4
  have F__law_open := fun_mk (st := s__law_open) l5 c5 k5
  have b__law_open := F__law_open.binds (ps := ["_law_script"]) fun _ _ _ _ _ _ us hl => match us, hl with | [_], _ => rfl
  have m__law_open := PySem.W.mg_of X G a5
  have F__law_draw := fun_mk (st := s__law_draw) l6 c6 k6
  have b__law_draw := F__law_draw.binds (ps := ["_law_bag", "_law_many"]) fun _ _ _ _ _ _ us hl => match us, hl with | [_, _], _ => rfl
  have m__law_draw := PySem.W.mg_of X G a6
  have F__law_of := fun_mk (st := s__law_of) l7 c7 k7
  have b__law_of := F__law_of.binds (ps := ["_law_bag", "_law_things"]) fun _ _ _ _ _ _ us hl => match us, hl with | [_, _], _ => rfl
  have m__law_of := PySem.W.mg_of X G a7
  have F__law_same := fun_mk (st := s__law_same) l8 c8 k8
  have b__law_same := F__law_same.binds (ps := ["_law_found", "_law_due"]) fun _ _ _ _ _ _ us hl => match us, hl with | [_, _], _ => rfl
  have m__law_same := PySem.W.mg_of X G a8
  have F__law_letters := fun_mk (st := s__law_letters) l9 c9 k9
  have b__law_letters := F__law_letters.binds (ps := ["_law_bag", "_law_letters_here", "_law_many"]) fun _ _ _ _ _ _ us hl => match us, hl with | [_, _, _], _ => rfl
  have m__law_letters := PySem.W.mg_of X G a9
  have F__law_some_faces := fun_mk (st := s__law_some_faces) l10 c10 k10
  have b__law_some_faces := F__law_some_faces.binds (ps := ["_law_bag", "_law_most"]) fun _ _ _ _ _ _ us hl => match us, hl with | [_, _], _ => rfl
  have m__law_some_faces := PySem.W.mg_of X G a10
  have F__law_some_room := fun_mk (st := s__law_some_room) l11 c11 k11
  have b__law_some_room := F__law_some_room.binds (ps := ["_law_bag", "_law_faces_z"]) fun _ _ _ _ _ _ us hl => match us, hl with | [_, _], _ => rfl
  have m__law_some_room := PySem.W.mg_of X G a11
  have F__law_some_cut := fun_mk (st := s__law_some_cut) l12 c12 k12
  have b__law_some_cut := F__law_some_cut.binds (ps := ["_law_bag", "_law_faces_z"]) fun _ _ _ _ _ _ us hl => match us, hl with | [_, _], _ => rfl
  have m__law_some_cut := PySem.W.mg_of X G a12
  have F__law_string := fun_mk (st := s__law_string) l13 c13 k13
  have b__law_string := F__law_string.binds (ps := ["_law_bag", "_law_faces_z", "_law_most"]) fun _ _ _ _ _ _ us hl => match us, hl with | [_, _, _], _ => rfl
  have m__law_string := PySem.W.mg_of X G a13
  have F__law_split := fun_mk (st := s__law_split) l14 c14 k14
  have b__law_split := F__law_split.binds (ps := ["_law_room_z", "_law_cut_z"]) fun _ _ _ _ _ _ us hl => match us, hl with | [_, _], _ => rfl
  have m__law_split := PySem.W.mg_of X G a14
  have F_law := fun_mk (st := s_law) l15 c15 k15
  refine ⟨PySem.W.fnOf "law" "law" (defArgs s_law) (defBody s_law) (defScope s_law) .none kV15 dc15 pm15 an15 cd15 ct15, fun s v => .of_eq rfl, fun base _ _ => ?_⟩
  have c_is_string : Cal l.prog w K mg base CX0 1 "is_string" s_is_string _ _ := ⟨_, _, ok_is_string F_is_string T, m_is_string, F_is_string, b_is_string⟩
  have c_is_room : Cal l.prog w K mg base CX0 2 "is_room" s_is_room _ _ := ⟨_, _, ok_is_room F_is_room T c_is_string, m_is_room, F_is_room, b_is_room⟩
  have c_is_cut : Cal l.prog w K mg base CX0 2 "is_cut" s_is_cut _ _ := ⟨_, _, ok_is_cut F_is_cut T c_is_string, m_is_cut, F_is_cut, b_is_cut⟩
  have c_parts_of : Cal l.prog w K mg base CX0 1 "parts_of" s_parts_of _ _ := ⟨_, _, ok_parts_of F_parts_of, m_parts_of, F_parts_of, b_parts_of⟩
  have c__law_open : Cal l.prog w K mg base CX0 1 "_law_open" s__law_open _ _ := ⟨_, _, ok__law_open F__law_open T, m__law_open, F__law_open, b__law_open⟩
  have c__law_draw : Cal l.prog w K mg base CX0 1 "_law_draw" s__law_draw _ _ := ⟨_, _, ok__law_draw F__law_draw T, m__law_draw, F__law_draw, b__law_draw⟩
  have c__law_of : Cal l.prog w K mg base CX0 2 "_law_of" s__law_of _ _ := ⟨_, _, ok__law_of F__law_of T c__law_draw, m__law_of, F__law_of, b__law_of⟩
  have g0 : Cal l.prog w K mg base CX0 1 "_law_same" s__law_same ["_law_found", "_law_due"] (fun _ _ _ _ => False) := ⟨_, _, nk_false, m__law_same, F__law_same, b__law_same⟩
  have g1 : Cal l.prog w K mg base CX0 2 "_law_same" s__law_same ["_law_found", "_law_due"] (sp__law_same K 0) := ⟨_, _, ok__law_same_step (n := 0) F__law_same T g0 (fun m _ _ _ _ e => absurd e (Nat.succ_ne_zero m).symm), m__law_same, F__law_same, b__law_same⟩
  have g2 : Cal l.prog w K mg base CX0 3 "_law_same" s__law_same ["_law_found", "_law_due"] (sp__law_same K 1) := ⟨_, _, ok__law_same_step (n := 1) F__law_same T g1 (fun m _ _ _ _ e h => by cases e; exact h), m__law_same, F__law_same, b__law_same⟩
  have g3 : Cal l.prog w K mg base CX0 4 "_law_same" s__law_same ["_law_found", "_law_due"] (sp__law_same K 2) := ⟨_, _, ok__law_same_step (n := 2) F__law_same T g2 (fun m _ _ _ _ e h => by cases e; exact h), m__law_same, F__law_same, b__law_same⟩
  have c__law_same : Cal l.prog w K mg base CX0 5 "_law_same" s__law_same ["_law_found", "_law_due"] (sp__law_same K 3) := ⟨_, _, ok__law_same_step (n := 3) F__law_same T g3 (fun m _ _ _ _ e h => by cases e; exact h), m__law_same, F__law_same, b__law_same⟩
  have c__law_letters : Cal l.prog w K mg base CX0 2 "_law_letters" s__law_letters _ _ := ⟨_, _, ok__law_letters F__law_letters T c__law_draw, m__law_letters, F__law_letters, b__law_letters⟩
  have c__law_some_faces : Cal l.prog w K mg base CX0 3 "_law_some_faces" s__law_some_faces _ _ := ⟨_, _, ok__law_some_faces F__law_some_faces T c__law_draw c__law_letters, m__law_some_faces, F__law_some_faces, b__law_some_faces⟩
  have c__law_some_room : Cal l.prog w K mg base CX0 3 "_law_some_room" s__law_some_room _ _ := ⟨_, _, ok__law_some_room F__law_some_room c__law_of, m__law_some_room, F__law_some_room, b__law_some_room⟩
  have c__law_some_cut : Cal l.prog w K mg base CX0 3 "_law_some_cut" s__law_some_cut _ _ := ⟨_, _, ok__law_some_cut F__law_some_cut c__law_of, m__law_some_cut, F__law_some_cut, b__law_some_cut⟩
  have c__law_string : Cal l.prog w K mg base CX0 3 "_law_string" s__law_string _ _ := ⟨_, _, ok__law_string F__law_string T c__law_draw c__law_of, m__law_string, F__law_string, b__law_string⟩
  have c__law_split : Cal l.prog w K mg base CX0 1 "_law_split" s__law_split _ _ := ⟨_, _, ok__law_split F__law_split, m__law_split, F__law_split, b__law_split⟩
  exact ok_law F_law T c_is_string c_is_room c_is_cut c_parts_of c__law_open c__law_draw c__law_of c__law_same c__law_some_faces c__law_some_room c__law_some_cut c__law_string c__law_split
end FW
open PySem PySem.W PyProof.Rows
set_option maxHeartbeats 0 in
theorem PySem.Challenge.cw_fourwalls_k03_rooms_and_cuts_holds : PySem.Challenge.rw_fourwalls_k03_rooms_and_cuts.Holds := by
  w_on; o_law; k_head; (case hw => w_witness2)
  k_fill
  refine L2.walk_of (l := PySem.Challenge.rw_fourwalls_k03_rooms_and_cuts) (n := 63) (k := 9) (x := "_law_script") (CX := fun _ => L2.CX0) (sp := fun w => FW.sp_law _) rfl (by decide) rfl ⟨rfl, by decide, by decide⟩ (fun w h Y => PySem.W.kIn_of Y) ?F (fun _ _ a ns hl _ hS => ⟨a, ns, rfl, hS, hl, fun _ => rfl⟩) (fun _ _ _ _ _ h => h)
  case F =>
    intro w mg fa h KX G hmg
    refine' FW.all_mk KX G hmg ?a1 ?l1 ?c1 ?k1 ?a2 ?l2 ?c2 ?k2 ?a3 ?l3 ?c3 ?k3 ?a4 ?l4 ?c4 ?k4 ?a5 ?l5 ?c5 ?k5 ?a6 ?l6 ?c6 ?k6 ?a7 ?l7 ?c7 ?k7 ?a8 ?l8 ?c8 ?k8 ?a9 ?l9 ?c9 ?k9 ?a10 ?l10 ?c10 ?k10 ?a11 ?l11 ?c11 ?k11 ?a12 ?l12 ?c12 ?k12 ?a13 ?l13 ?c13 ?k13 ?a14 ?l14 ?c14 ?k14 ?a15 ?l15 ?c15 ?k15 ?y_isinstance ?y_str ?y_all ?y_len ?y_int ?y_list ?y_abs ?y_bool ?y_tuple ?y_zip ?y_range
    (case a1 => k_is); (case l1 => k_is); (case c1 => k_is); (case k1 => k_is); (case a2 => k_is); (case l2 => k_is); (case c2 => k_is); (case k2 => k_is); (case a3 => k_is); (case l3 => k_is); (case c3 => k_is); (case k3 => k_is); (case a4 => k_is); (case l4 => k_is); (case c4 => k_is); (case k4 => k_is); (case a5 => k_is); (case l5 => k_is); (case c5 => k_is); (case k5 => k_is); (case a6 => k_is); (case l6 => k_is); (case c6 => k_is); (case k6 => k_is); (case a7 => k_is); (case l7 => k_is); (case c7 => k_is); (case k7 => k_is); (case a8 => k_is); (case l8 => k_is); (case c8 => k_is); (case k8 => k_is); (case a9 => k_is); (case l9 => k_is); (case c9 => k_is); (case k9 => k_is); (case a10 => k_is); (case l10 => k_is); (case c10 => k_is); (case k10 => k_is); (case a11 => k_is); (case l11 => k_is); (case c11 => k_is); (case k11 => k_is); (case a12 => k_is); (case l12 => k_is); (case c12 => k_is); (case k12 => k_is); (case a13 => k_is); (case l13 => k_is); (case c13 => k_is); (case k13 => k_is); (case a14 => k_is); (case l14 => k_is); (case c14 => k_is); (case k14 => k_is); (case a15 => k_is); (case l15 => k_is); (case c15 => k_is); (case k15 => k_is); (case y_isinstance => k_is); (case y_str => k_is); (case y_all => k_is); (case y_len => k_is); (case y_int => k_is); (case y_list => k_is); (case y_abs => k_is); (case y_bool => k_is); (case y_tuple => k_is); (case y_zip => k_is); (case y_range => k_is)
