import PyProof.Rows.All
import Wide.All
import OpenK.AllK
import Wide.FinOn
import KE.KNestM
import KE.KStateDown
import HandS.Head0
import HandS.Head1
import HandS.Head2
import HandS.Head3
import KE.KTypeName
import KE.KExcIs
import HandS.Base
import HandS.Call
import HandS.Exc
import HandS.ExcInit
import HandS.ExcField
import KE.KTryMore
import HandS.HotCalls
import HandS.Lambda
import HandS.Words
import HandS.WordsExc
import PyProof.EqAt
import PyProof.EqKinds
import PyProof.TupleCall
import KE.KUnpack
import HandS.List
import HandS.Comp
import HandS.Iter
import HandS.Text
import HandS.WordsList
import KE.GoesMore
import HandS.Walk
import HandS.IsInst
import HandS.Ends
import HandS.Zip
import HandS.Codes
import HandS.Style
import KE.KRevSl
import KE.GoesEnum
import HandS.Star
import HandS.SlotsOwn
import PyProof.InstEq
import HandS.More
import HandS.Conv
import HandS.FStr
import HandS.ClsMeth
import HandS.EndTab
import HandS.HeadHook4
import HandS.SortRule
import KE.KSortTupAny
import HandS.Nested
import PyProof.Rows.SortShellAny
import PyProof.StrBlock2
import HandS.TupMul
import HandS.NoneIn
import PyProof.Rows.Range3
import PyProof.Conv_bool
import HandS.MethStar
import PyProof.ListStr
import PyProof.ListRange
import HandS.ListItems
import PySem.Challenge.RW_fourwalls_k10_texts_of_books_refused
set_option Elab.async false
set_option linter.all false
set_option maxRecDepth 100000
set_option maxHeartbeats 16000000
/-! the head of a law with tables in one run of the kernel: the objects read off the tree -/
namespace FW
open PySem PySem.W PySem.Calls PyProof.Rows HandSHeadRun
noncomputable def obK (as ts : List Addr) (s : SharedT) : List (Option Obj) × List (Option Obj) := (as.map (getT s), ts.map (getT s))
theorem head_km {r : OpenRow} {q : Program} {K : Params → Frag} {as ts : List Addr} {e : ∀ P, as = (K P).map (·.1)} {M : Nat} {loose : List PySem.Str} {d : DefRec} {kwd : List (PySem.Str × PySem.Expr)}
    (H : Hook) (hH : H = kmHook K as e ts)
    (eo : opening r.prog = plainProg r.prog.main.scope.names) (f : ∀ s, fenceModules? r.prog s = some s) (run : ∀ w, RunEq r q (kmHook K as e ts) (obK as ts) M loose w)
    (hdef : defOf q r.name = some (d, kwd)) (hp : r.prog.theDef r.name = some (d.params, d.body, d.scope)) (hk : kwWritten? d.params.kwonlyargs d.params.kw_defaults = some kwd)
    (hwr : (!r.writes || r.records.isEmpty) = true) (k1 : r.wellSaid = true) (ok : (chainsOk q && opensWell r.prog && (frees r.toRowW && r.within.isEmpty)) = true) (hb : r.prog.bare) (hw : r.toRowW.promised)
    (call : WalkO q loose (XL q []) (kmHook K as e ts).says r.toRowW d kwd fun f vs => PySem.call f vs) : r.Holds := by
  refine head_any (H := kmHook K as e ts) (ob := obK as ts) (M := M) (loose := loose) (d := d) (kwd := kwd) (fun s => ?_) eo f run hdef hp hk hwr k1 ok hb hw call
  show (as.map (getT s), ts.map (getT s)) = (as.map s.abs.heap.get?, ts.map s.abs.heap.get?)
  rw [show getT s = s.abs.heap.get? from funext (getT_eq s)]
theorem head_kk {r : OpenRow} {q : Program} {K : Params → Frag} {as : List Addr} {e : ∀ P, as = (K P).map (·.1)} {M : Nat} {loose : List PySem.Str} {d : DefRec} {kwd : List (PySem.Str × PySem.Expr)}
    (H : Hook) (hH : H = kHook K as e)
    (eo : opening r.prog = plainProg r.prog.main.scope.names) (f : ∀ s, fenceModules? r.prog s = some s) (run : ∀ w, RunEq r q (kHook K as e) (fun s => as.map (getT s)) M loose w)
    (hdef : defOf q r.name = some (d, kwd)) (hp : r.prog.theDef r.name = some (d.params, d.body, d.scope)) (hk : kwWritten? d.params.kwonlyargs d.params.kw_defaults = some kwd)
    (hwr : (!r.writes || r.records.isEmpty) = true) (k1 : r.wellSaid = true) (ok : (chainsOk q && opensWell r.prog && (frees r.toRowW && r.within.isEmpty)) = true) (hb : r.prog.bare) (hw : r.toRowW.promised)
    (call : WalkO q loose (XL q []) (kHook K as e).says r.toRowW d kwd fun f vs => PySem.call f vs) : r.Holds := by
  refine head_any (H := kHook K as e) (ob := fun s => as.map (getT s)) (M := M) (loose := loose) (d := d) (kwd := kwd) (fun s => ?_) eo f run hdef hp hk hwr k1 ok hb hw call
  show as.map (getT s) = as.map s.abs.heap.get?
  rw [show getT s = s.abs.heap.get? from funext (getT_eq s)]
theorem head_kmI {r : OpenRow} {q : Program} {K : Params → Frag} {as ts : List Addr} {e : ∀ P, as = (K P).map (·.1)} {M : Nat} {loose : List PySem.Str} {d : DefRec} {kwd : List (PySem.Str × PySem.Expr)}
    (H : Hook) (hH : H = kmHook K as e ts) (run : ∀ w, RunEqI r q (kmHook K as e ts) (obK as ts) M loose w)
    (hdef : defOf q r.name = some (d, kwd)) (hp : r.prog.theDef r.name = some (d.params, d.body, d.scope)) (hk : kwWritten? d.params.kwonlyargs d.params.kw_defaults = some kwd)
    (hwr : (!r.writes || r.records.isEmpty) = true) (k1 : r.wellSaid = true) (ok : (chainsOk q && opensWell r.prog && (frees r.toRowW && r.within.isEmpty)) = true) (hb : r.prog.bare) (hw : r.toRowW.promised)
    (call : WalkO q loose (XL q []) (kmHook K as e ts).says r.toRowW d kwd fun f vs => PySem.call f vs) : r.Holds := by
  refine head_imp (H := kmHook K as e ts) (ob := obK as ts) (M := M) (loose := loose) (d := d) (kwd := kwd) (fun s => ?_) run hdef hp hk hwr k1 ok hb hw call
  show (as.map (getT s), ts.map (getT s)) = (as.map s.abs.heap.get?, ts.map s.abs.heap.get?)
  rw [show getT s = s.abs.heap.get? from funext (getT_eq s)]
theorem head_kkI {r : OpenRow} {q : Program} {K : Params → Frag} {as : List Addr} {e : ∀ P, as = (K P).map (·.1)} {M : Nat} {loose : List PySem.Str} {d : DefRec} {kwd : List (PySem.Str × PySem.Expr)}
    (H : Hook) (hH : H = kHook K as e) (run : ∀ w, RunEqI r q (kHook K as e) (fun s => as.map (getT s)) M loose w)
    (hdef : defOf q r.name = some (d, kwd)) (hp : r.prog.theDef r.name = some (d.params, d.body, d.scope)) (hk : kwWritten? d.params.kwonlyargs d.params.kw_defaults = some kwd)
    (hwr : (!r.writes || r.records.isEmpty) = true) (k1 : r.wellSaid = true) (ok : (chainsOk q && opensWell r.prog && (frees r.toRowW && r.within.isEmpty)) = true) (hb : r.prog.bare) (hw : r.toRowW.promised)
    (call : WalkO q loose (XL q []) (kHook K as e).says r.toRowW d kwd fun f vs => PySem.call f vs) : r.Holds := by
  refine head_imp (H := kHook K as e) (ob := fun s => as.map (getT s)) (M := M) (loose := loose) (d := d) (kwd := kwd) (fun s => ?_) run hdef hp hk hwr k1 ok hb hw call
  show as.map (getT s) = as.map s.abs.heap.get?
  rw [show getT s = s.abs.heap.get? from funext (getT_eq s)]
theorem opt_pair {α β γ : Type} {X : Option α} {f : α → β} {g : α → γ} {a : β} {b : γ} (h1 : X.map f = some a) (h2 : X.map g = some b) : X.map (fun s => (f s, g s)) = some (a, b) := by
  cases X with
  | none => cases h1
  | some s =>
    cases h1
    cases h2
    rfl
/-- the three looks at the run's end, each a run of its own -/
def RunA (r : OpenRow) (M : Nat) (w : World) : Prop := (wholeF (fun p => stepQ (denQ tabQ) p w) fenceQ M r.prog).map (fun x => looksF r.prog x.1.heap x.2.abs) = some true
def RunB (r : OpenRow) (q : Program) (M : Nat) (loose : List PySem.Str) (w : World) : Prop := (wholeF (fun p => stepQ (denQ tabQ) p w) fenceQ M r.prog).map (fun x => seenQ q loose (importedModules r.prog.main.body) (fun s => xlAt q [] s && recOk r.toRowW.records s) x.2.abs) = some (openGood q loose)
def RunC (r : OpenRow) (H : Hook) (ob : SharedT → H.α) (M : Nat) (w : World) : Prop := (wholeF (fun p => stepQ (denQ tabQ) p w) fenceQ M r.prog).map (fun x => ob x.2) = some (H.val w)
theorem run_abc {r : OpenRow} {q : Program} {H : Hook} {ob : SharedT → H.α} {M : Nat} {loose : List PySem.Str} {w : World} (a : RunA r M w) (b : RunB r q M loose w) (c : RunC r H ob M w) : RunEqI r q H ob M loose w := opt_pair a (opt_pair b c)
theorem head_kmJ {r : OpenRow} {q : Program} {K : Params → Frag} {as ts : List Addr} {e : ∀ P, as = (K P).map (·.1)} {M : Nat} {loose : List PySem.Str} {d : DefRec} {kwd : List (PySem.Str × PySem.Expr)}
    (H : Hook) (hH : H = kmHook K as e ts) (ra : ∀ w, RunA r M w) (rb : ∀ w, RunB r q M loose w) (run : ∀ w, RunC r (kmHook K as e ts) (obK as ts) M w)
    (hdef : defOf q r.name = some (d, kwd)) (hp : r.prog.theDef r.name = some (d.params, d.body, d.scope)) (hk : kwWritten? d.params.kwonlyargs d.params.kw_defaults = some kwd)
    (hwr : (!r.writes || r.records.isEmpty) = true) (k1 : r.wellSaid = true) (ok : (chainsOk q && opensWell r.prog && (frees r.toRowW && r.within.isEmpty)) = true) (hb : r.prog.bare) (hw : r.toRowW.promised)
    (call : WalkO q loose (XL q []) (kmHook K as e ts).says r.toRowW d kwd fun f vs => PySem.call f vs) : r.Holds :=
  head_kmI H hH (fun w => run_abc (ra w) (rb w) (run w)) hdef hp hk hwr k1 ok hb hw call
theorem keepH {r : OpenRow} (h : r.Holds) (H : Hook) : r.Holds := h
noncomputable def obK1 (as : List Addr) (s : SharedT) : List (Option Obj) := as.map (getT s)
theorem head_kkJ {r : OpenRow} {q : Program} {K : Params → Frag} {as : List Addr} {e : ∀ P, as = (K P).map (·.1)} {M : Nat} {loose : List PySem.Str} {d : DefRec} {kwd : List (PySem.Str × PySem.Expr)}
    (H : Hook) (hH : H = kHook K as e) (ra : ∀ w, RunA r M w) (rb : ∀ w, RunB r q M loose w) (run : ∀ w, RunC r (kHook K as e) (obK1 as) M w)
    (hdef : defOf q r.name = some (d, kwd)) (hp : r.prog.theDef r.name = some (d.params, d.body, d.scope)) (hk : kwWritten? d.params.kwonlyargs d.params.kw_defaults = some kwd)
    (hwr : (!r.writes || r.records.isEmpty) = true) (k1 : r.wellSaid = true) (ok : (chainsOk q && opensWell r.prog && (frees r.toRowW && r.within.isEmpty)) = true) (hb : r.prog.bare) (hw : r.toRowW.promised)
    (call : WalkO q loose (XL q []) (kHook K as e).says r.toRowW d kwd fun f vs => PySem.call f vs) : r.Holds :=
  head_kkI H hH (fun w => run_abc (ra w) (rb w) (run w)) hdef hp hk hwr k1 ok hb hw call
/-- .. of a program without imports -/
def RunA0 (r : OpenRow) (M : Nat) (w : World) : Prop := ∀ os : OsState, (endF (stepQ (denQ tabQ) r.prog w) M r.prog w os).map (fun s => looksF r.prog (boot_heap w.params) s.abs) = some true
def RunB0 (r : OpenRow) (q : Program) (M : Nat) (loose : List PySem.Str) (w : World) : Prop := ∀ os : OsState, (endF (stepQ (denQ tabQ) r.prog w) M r.prog w os).map (fun s => seenQ q loose (importedModules r.prog.main.body) (fun s => xlAt q [] s && recOk r.toRowW.records s) s.abs) = some (openGood q loose)
def RunC0 (r : OpenRow) (H : Hook) (ob : SharedT → H.α) (M : Nat) (w : World) : Prop := ∀ os : OsState, (endF (stepQ (denQ tabQ) r.prog w) M r.prog w os).map ob = some (H.val w)
theorem run_abc0 {r : OpenRow} {q : Program} {H : Hook} {ob : SharedT → H.α} {M : Nat} {loose : List PySem.Str} {w : World} (a : RunA0 r M w) (b : RunB0 r q M loose w) (c : RunC0 r H ob M w) : RunEq r q H ob M loose w := fun os => opt_pair (a os) (opt_pair (b os) (c os))
theorem head_kmJ0 {r : OpenRow} {q : Program} {K : Params → Frag} {as ts : List Addr} {e : ∀ P, as = (K P).map (·.1)} {M : Nat} {loose : List PySem.Str} {d : DefRec} {kwd : List (PySem.Str × PySem.Expr)}
    (H : Hook) (hH : H = kmHook K as e ts) (eo : opening r.prog = plainProg r.prog.main.scope.names) (f : ∀ s, fenceModules? r.prog s = some s) (ra : ∀ w, RunA0 r M w) (rb : ∀ w, RunB0 r q M loose w) (run : ∀ w, RunC0 r (kmHook K as e ts) (obK as ts) M w)
    (hdef : defOf q r.name = some (d, kwd)) (hp : r.prog.theDef r.name = some (d.params, d.body, d.scope)) (hk : kwWritten? d.params.kwonlyargs d.params.kw_defaults = some kwd)
    (hwr : (!r.writes || r.records.isEmpty) = true) (k1 : r.wellSaid = true) (ok : (chainsOk q && opensWell r.prog && (frees r.toRowW && r.within.isEmpty)) = true) (hb : r.prog.bare) (hw : r.toRowW.promised)
    (call : WalkO q loose (XL q []) (kmHook K as e ts).says r.toRowW d kwd fun f vs => PySem.call f vs) : r.Holds :=
  head_km H hH eo f (fun w => run_abc0 (ra w) (rb w) (run w)) hdef hp hk hwr k1 ok hb hw call
theorem head_kkJ0 {r : OpenRow} {q : Program} {K : Params → Frag} {as : List Addr} {e : ∀ P, as = (K P).map (·.1)} {M : Nat} {loose : List PySem.Str} {d : DefRec} {kwd : List (PySem.Str × PySem.Expr)}
    (H : Hook) (hH : H = kHook K as e) (eo : opening r.prog = plainProg r.prog.main.scope.names) (f : ∀ s, fenceModules? r.prog s = some s) (ra : ∀ w, RunA0 r M w) (rb : ∀ w, RunB0 r q M loose w) (run : ∀ w, RunC0 r (kHook K as e) (obK1 as) M w)
    (hdef : defOf q r.name = some (d, kwd)) (hp : r.prog.theDef r.name = some (d.params, d.body, d.scope)) (hk : kwWritten? d.params.kwonlyargs d.params.kw_defaults = some kwd)
    (hwr : (!r.writes || r.records.isEmpty) = true) (k1 : r.wellSaid = true) (ok : (chainsOk q && opensWell r.prog && (frees r.toRowW && r.within.isEmpty)) = true) (hb : r.prog.bare) (hw : r.toRowW.promised)
    (call : WalkO q loose (XL q []) (kHook K as e).says r.toRowW d kwd fun f vs => PySem.call f vs) : r.Holds :=
  head_kk H hH eo f (fun w => run_abc0 (ra w) (rb w) (run w)) hdef hp hk hwr k1 ok hb hw call
end FW
namespace FW
abbrev hR : PySem.W.OpenRow := PySem.W.OpenLaw.row PySem.Challenge.rw_fourwalls_k10_texts_of_books_refused
abbrev hq : PySem.Program := PySem.W.view hR.prog [52]
def hn0 : List PySem.Str := ["_wall", "__name__", "HouseError", "Missing", "InvalidFaces", "InvalidCutters", "InvalidLine", "InvalidRoom", "InvalidCutter", "InvalidText", "NothingLeft", "_LOWER", "_UPPER", "_MOST_FACES", "_MOST_CUTTERS", "is_ascending", "is_choice", "is_faces", "is_cutters", "is_string", "is_letter", "is_room", "is_cut", "is_part", "is_line", "fits", "head_of", "line_of", "row_of", "Book"]
def hn1 : List PySem.Str := ["_law_open", "_law_draw", "_law_of", "_law_same", "_law_field", "_law_try", "_law_tries", "_law_letters", "_law_some_faces", "_law_some_cutters", "_law_part", "_law_some_cut", "_law_some_line", "_law_some_book", "_law_line_text", "_law_book_text", "_law_read_line", "_law_goes", "_law_text_due"]
def hnames : List PySem.Str := hn0 ++ hn1
section
open PySem PySem.W PyProof.Rows
local macro_rules | `(tactic| o_head $H) => `(tactic| (refine FW.keepH ?_ $H; assumption))
theorem hk0 (X : hR.Holds) : hR.Holds := by
  w_on; k_head
end
def has : List PySem.Addr := [2, 3, 15, 17, 18, 20, 21, 22, 29, 30, 31, 32, 35, 42, 43, 44, 45, 48, 55, 57, 58, 60, 61, 62, 63, 64, 67, 74, 76, 77, 79, 80, 81, 82, 83, 86, 93, 95, 96, 98, 99, 100, 101, 102, 105, 112, 114, 115, 117, 118, 119, 120, 121, 124, 131, 133, 134, 136, 137, 138, 139, 140, 143, 150, 152, 153, 155, 156, 157, 158, 159, 162, 169, 171, 172, 174, 175, 176, 177, 178, 179, 182, 185, 186, 187, 189, 190, 192, 193, 194, 196, 197, 199, 200, 201, 203, 204, 206, 207, 208, 211, 212, 213, 215, 216, 218, 219, 220, 222, 223, 225, 226, 227, 229, 230, 232, 233, 234, 236, 237, 239, 240, 241, 244, 245, 246, 249, 250, 251, 253, 254, 256, 257, 258, 260, 261, 263, 264, 265, 267, 268, 270, 271, 279, 281, 282, 284, 285, 286, 288, 289, 291, 292, 293, 295, 296, 298, 299, 300, 302, 303, 305, 306, 307, 309, 310, 312, 313, 314, 316, 317, 319, 320, 321, 323, 324, 326, 327, 328, 331, 332, 333, 335, 336, 338, 339, 340, 341, 342, 343, 345, 346, 348, 349, 350, 352, 353, 355, 356, 357, 359, 360, 362, 363, 364, 366, 367, 369, 370, 371, 372, 373, 374, 375, 378, 380, 381, 383, 384, 385, 387, 388, 390, 391, 392, 394, 395, 397, 398, 399, 402, 403, 404, 406, 407, 409, 410, 411, 413, 414, 416, 417, 418, 421, 422, 423, 425, 426, 428, 429, 430, 432, 433, 435, 436, 437, 439, 440, 442, 443, 444, 447, 448, 449, 451, 452, 454, 455, 456, 459, 460, 461, 464, 465, 466, 468, 469, 471, 472, 473, 476, 477, 478, 480, 481, 483, 484, 485, 488, 489, 490, 492, 493, 495, 496, 497, 499, 500, 502, 503]
def hts : List PySem.Addr := [498]
theorem hasE : ∀ P, has = (hk0.heap_1 P).map (·.1) := fun _ => by kernel_rfl
theorem hRC (w : PySem.World) : FW.RunC0 FW.hR (PySem.W.kmHook hk0.heap_1 has hasE hts) (FW.obK has hts) 20000 w := by
  refine PySem.W.byRow2 "special-get-raises" (P := fun w => FW.RunC0 FW.hR (PySem.W.kmHook hk0.heap_1 has hasE hts) (FW.obK has hts) 20000 w) (fun w => ?_) (fun w => ?_) w
  · intro os
    kernel_rfl
  · intro os
    kernel_rfl
theorem hRA (w : PySem.World) : FW.RunA0 FW.hR 20000 w := by
  refine PySem.W.byRow2 "special-get-raises" (P := fun w => FW.RunA0 FW.hR 20000 w) (fun w => ?_) (fun w => ?_) w
  · intro os
    kernel_rfl
  · intro os
    kernel_rfl
theorem hRB (w : PySem.World) : FW.RunB0 FW.hR FW.hq 20000 FW.hnames w := by
  refine PySem.W.byRow2 "special-get-raises" (P := fun w => FW.RunB0 FW.hR FW.hq 20000 FW.hnames w) (fun w => ?_) (fun w => ?_) w
  · intro os
    kernel_rfl
  · intro os
    kernel_rfl
end FW
namespace FW
open PySem PySem.Spec PyProof.Rows L2 Builtin Builtin.Getset_descriptor PySem.W
/-! ### the name of a class of the program -/
theorem own_dga (d tp : Value) (C : Addr) : descrGetArgs ⟨[d, .ref C, tp], []⟩ = pure (d, some (.ref C), given tp) := by kernel_rfl
section
variable {prog : Program} {w : World} {A : Around} {E : Value → Shared → Prop} {s : Shared} {K : PySem.W.Frag}
theorem own_get {C : Addr} {tp : Value} {R : Result → Shared → Prop} {o : Obj} {z : Str} {tk : Tok} (X : K.In s.heap) (ht : PySem.W.typeIn K (.ref C) = some (.type "type")) (ho : s.heap.get? C = some o) (hs : o.slots[2]? = some (some (.str z tk)))
    (h : R (.ok (.ret (.str z tk))) s) :
    codeAny (model prog w) A (.call (.builtin "getset_descriptor.__get__") ⟨[.builtin "type.__name__", .ref C, tp], []⟩) R s := by
  obtain ⟨hh, g, dr, t, os⟩ := s
  have t1 : Looks (model prog w) hh (typeOf (.ref C)) (.type "type") := looks_typeIn X ht
  have t2 : Looks (model prog w) hh (isSubtype (.type "type") (.type "type")) true := .of_pure (by
    rw [isSubtype_type]
    kernel_rfl)
  refine codeAny_call_builtin KF.slot_gs.plain KF.entry_gs
    (KF.slot_gs.check _ _ _ _ _ _ _ _
      ktyn_type (KF.args_gs _ _ _) ?_)
  unfold Builtin.«getset_descriptor.__get__» descrGet
  rw [own_dga]
  refine wpAny_bind (wpAny_pure ?_)
  unfold descrGetter descrCheckInstance descrNameAndClass isInstance
  simp only [ktyn_owner]
  repeat lk
  refine ⟨Code.quiet_builtin _ (by decide +kernel), codeAny_builtin
    ktyn_entry ?_⟩
  unfold Builtin.«type.__name__»
  dsimp only
  unfold keptObject PySem.slotAt
  dsimp only
  refine wpAny_bind (wpAny_bind (wpAny_loadPart ho (wpAny_pure ?_)))
  rw [hs]
  exact wpAny_pure h
/-- the name that a class of the program was made with -/
structure NameC (K : PySem.W.Frag) (C : Addr) (z : Str) : Prop where
  ob : ∃ (o : Obj) (tk : Tok), K.lookup C = some o ∧ o.slots[2]? = some (some (.str z tk))
  ty : PySem.W.typeIn K (.ref C) = some (.type "type")
  rd : readsIn K C (.type "type") = true
  fd : findCls K (.ref C) (.type "type") "__name__" = some (.get (.builtin "getset_descriptor.__get__") (.builtin "type.__name__") (.ref C) (.type "type"))
theorem name_get {C : Addr} {z : Str} {ex : Bool} {Q : Value → Shared → Prop} (X : K.In s.heap) (N : NameC K C z) (h : ∀ tk u, Q (.str z tk) { s with toks := u }) : wpAny (model prog w) A (getAttr (.ref C) "__name__" ex) Q E s := by
  obtain ⟨o, tk, ho, hs⟩ := N.ob
  refine cls_bind X N.rd N.fd (wpAny_call ?_)
  exact own_get (s := { s with toks := s.toks + 1 }) X N.ty (X _ _ ho) hs (handed_on rfl (h tk _))
/-- what an exception class has for the reading of e.__class__ -/
structure ClsE (K : PySem.W.Frag) (C : Addr) : Prop where
  cl : (clsIn K C).isSome = true
  ga : PySem.W.findIn K (.ref C) "__getattribute__" = some (some (.builtin "BaseException.__getattribute__"))
  gg : PySem.W.findIn K (.ref C) "__getattr__" = some none
  ex : PySem.W.subIn K (.ref C) (.type "BaseException") = some true
  fc : PySem.W.findIn K (.ref C) "__class__" = some (some (.builtin "object.__class__"))
  ob : PySem.W.mroIn K C (.type "object") = some true
structure GsK (K : PySem.W.Frag) : Prop where
  sp : specialIn K (.builtin "object.__class__") "__get__" = some (some (.builtin "getset_descriptor.__get__"))
  tk : takesIn K (.builtin "object.__class__") = some true
theorem cls_get {x C : Addr} {ox : Obj} {od : Option Obj} {ex : Bool} {Q : Value → Shared → Prop} (X : K.In s.heap) (I : InstAt s.heap x ox C od) (T : ClsE K C) (G : GsK K) (h : ∀ u, Q (.ref C) { s with toks := u }) : wpAny (model prog w) A (getAttr (.ref x) "__class__" ex) Q E s := by
  obtain ⟨hp, g, d, t, os⟩ := s
  have hf : findObj K C od "__class__" = some (.bind (.builtin "getset_descriptor.__get__") (.builtin "object.__class__")) := findObj_dataE T.cl T.fc G.sp G.tk
  have l0 := I.type (M := model prog w)
  have l1 := looks_findIn (M := model prog w) X T.ga
  have l2 := looks_findIn (M := model prog w) X T.gg
  have l3 := looks_find (M := model prog w) X I hf
  have sub : Looks (model prog w) hp (isInstance (.ref x) (.type "BaseException")) true := l0.andThen (looks_subIn X T.ex)
  have n0 : (ex && onTheHeap (Value.builtin "BaseException.__getattribute__")) = false := by cases ex <;> rfl
  have n2 : (Value.builtin "BaseException.__getattribute__" == Value.builtin "object.__getattribute__") = false := by
    decide +kernel
  have n1 : (onTheHeap (.ref C) && Value.builtin "BaseException.__getattribute__" == Value.builtin "object.__getattribute__") = false := (congrArg (onTheHeap (.ref C) && ·) n2).trans (Bool.and_false _)
  unfold getAttr getAttrBy
  refine wpAny_bind (wpAny_mkText (wpAny_holding (wpAny_bind (l0.at (wpAny_bind (l1.at ?_))))))
  dsimp only
  rw [n1, if_neg Bool.false_ne_true]
  unfold getAttrByItsOwn hookBefore
  refine wpAny_bind ?_
  rw [if_pos (by rfl)]
  refine l2.at ?_
  refine wpAny_bind (wpAny_attempt (wpAny_holding ?_))
  unfold callGetattribute
  rw [n0, if_neg Bool.false_ne_true]
  unfold boundAndCalled
  rw [PySem.F.excAttr_ValueError.ga.bind (.ref x)]
  refine wpAny_bind (wpAny_pure ?_)
  refine wpAny_call (codeAny_call_builtin PySem.F.excAttr_ValueError.ga.plain
    PySem.F.entry_bexc_ga ?_)
  refine @PySem.W.check_slot (model prog w) _ _ ⟨hp, g, d, t + 1, os⟩ "BaseException.__getattribute__" "BaseException" "__getattribute__" (.ref x)
    [.str "__class__" t] [] _ (by decide +kernel) (by decide +kernel) sub (PySem.F.args_bexc_ga (.ref x) (.str "__class__" t)) ?_
  unfold Builtin.«object.__getattribute__»
  refine wpAny_bind (wpAny_of_eq (a := ((Value.ref x : Value), [Value.str "__class__" t]))
    (by first | rfl | (simp only [slotArgs]; rfl)) ?_)
  refine wpAny_bind (wpAny_pure (wpAny_bind (l0.at (wpAny_bind (l3.at ?_)))))
  refine wpAny_bind (wpAny_holding (wpAny_call
    (class_get (s := ⟨hp, g, d, t + 1, os⟩) (ox := ox) (od := od) X I T.ob ?_)))
  refine wpAny_pure ?_
  exact handed_on rfl (h _)
end
/-! ### the readings -/
section
variable {X : Cx} {e : Expr} {te : TE} {p : Pos}
/-- the object at a is an exception that is being made -/
def Exo (H : Hp) (a C : Addr) : Prop := H a = some (exo a C none) ∨ ∃ (d : Addr) (fs : List (Str × V)), H a = some (exo a C (some d)) ∧ H d = some (exd d fs)
theorem Exo.inst {P : Program} {w : World} {H : Hp} {h : Heap} {a C : Addr} (x : Exo H a C) (hok : HOk P w H h) : ∃ (ox : Obj) (od : Option Obj), InstAt h a ox C od := by
  rcases x with q | ⟨d, fs, q, q2⟩
  · obtain ⟨t1, ho⟩ := exo_at hok q
    exact ⟨_, none, ho, rfl, rfl, True.intro⟩
  · obtain ⟨t1, ho⟩ := exo_at hok q
    obtain ⟨mA, ⟨od, es, ep, h1, _⟩, _⟩ := exd_at hok q2
    exact ⟨_, some od, ho, rfl, rfl, h1⟩
theorem pe_cls (G : GsK X.K) (he : PE X e te) (hb : attributeBase e "__class__" X.env (eval e X.env) = eval e X.env := by rfl) : PE X (.Attribute e "__class__" p) (fun σ H Q => te σ H fun x H1 => ∃ a C : Addr, x = .ref a ∧ Exo H1 a C ∧ ClsE X.K C ∧ Q (.ref C) H1) := by
  refine ⟨fun pins s σ H Q I h => attr_of hb (thn (he.run pins s σ H _ I h) fun u s1 hh => ?_)⟩
  obtain ⟨x, H1, I1, rx, a, C, ex, xo, T, q⟩ := hh
  subst ex
  obtain rfl : u = Value.ref a := rx
  obtain ⟨ox, od, J⟩ := xo.inst I1.hok
  exact cls_get I1.kIn J T G fun u => ⟨.ref C, H1, I1.tok _, rfl, q⟩
theorem pe_name (he : PE X e te) (hb : attributeBase e "__name__" X.env (eval e X.env) = eval e X.env := by rfl) : PE X (.Attribute e "__name__" p) (fun σ H Q => te σ H fun x H1 => ∃ (C : Addr) (z : Str), x = .ref C ∧ NameC X.K C z ∧ Q (.str z) H1) := by
  refine ⟨fun pins s σ H Q I h => attr_of hb (thn (he.run pins s σ H _ I h) fun u s1 hh => ?_)⟩
  obtain ⟨x, H1, I1, rx, C, z, ex, N, q⟩ := hh
  subst ex
  obtain rfl : u = Value.ref C := rx
  exact name_get I1.kIn N fun tk u => ⟨.str z, H1, I1.tok _, ⟨tk, rfl⟩, q⟩
end
end FW
namespace FW
open PySem PySem.Spec PyProof.Rows L2
/-! ### a caught exception as one of the things that the heap is known to hold -/
def ExK (cls : Value) (d : Option Addr) (a : Addr) : HO := .ext fun h => ∃ (oe : Obj) (vs : Array Value), h.get? a = some oe ∧ Zc cls d oe ∧ oe.data = .fields vs
theorem exk_ok {P : Program} {w : World} {H : Hp} {h : Heap} {a : Addr} {cls : Value} {d : Option Addr} {oe : Obj} {vs : Array Value} (ha : h.get? a = some oe) (hz : Zc cls d oe) (hd : oe.data = .fields vs) : ObjOk P w H h a (ExK cls d a) :=
  ⟨⟨oe, vs, ha, hz, hd⟩, ⟨oe, ha⟩, fun _ _ ⟨o, v, q1, q2, q3⟩ st => ⟨o, v, st _ q1, q2, q3⟩⟩
theorem exk_at {P : Program} {w : World} {H : Hp} {h : Heap} {a : Addr} {cls : Value} {d : Option Addr} (ok : HOk P w H h) (e : H a = some (ExK cls d a)) : ∃ (oe : Obj) (vs : Array Value), h.get? a = some oe ∧ Zc cls d oe ∧ oe.data = .fields vs := by
  have z : ObjOk P w H h a (.ext fun h => ∃ (oe : Obj) (vs : Array Value), h.get? a = some oe ∧ Zc cls d oe ∧ oe.data = .fields vs) := ok a _ e
  exact z.1
section
variable {X : Cx} {pins : List (Addr × Obj)} {σ : L2.St} {H : Hp} {s : Shared}
theorem adopt {a : Addr} {cls : Value} {d : Option Addr} {oe : Obj} {vs : Array Value} (I : Inv X pins σ H s) (ha : s.heap.get? a = some oe) (hz : Zc cls d oe) (hd : oe.data = .fields vs) (na : H a = none) (nL : a ≠ X.env.locals)
    (n0 : X.s_0.heap.get? a = none) (np : ∀ p ∈ X.pn ++ pins, p.1 ≠ a) : Inv X pins σ (upd H a (ExK cls d a)) s where
  ok := I.ok
  os := I.os
  bare := I.bare
  base :=
    { keep := I.base.keep
      slot := I.base.slot
      free := fun b o e n hx => (upd_ne (fun z => by rw [z, n0] at e; cases e)).trans (I.base.free b o e n hx)
      there := I.base.there
      tups := fun b xs q => (upd_ne (ne_of_none (I.base.tups b xs q) na)).trans (I.base.tups b xs q)
      frzs := fun b o u q => (upd_ne (ne_of_none (I.base.frzs b o u q) na)).trans (I.base.frzs b o u q)
      tbls := fun b ps q => by
        obtain ⟨more, e⟩ := I.base.tbls b ps q
        exact ⟨more, (upd_ne (ne_of_none e na)).trans e⟩ }
  loc := I.loc
  cell := I.cell
  free := (upd_ne (Ne.symm nL)).trans I.free
  freeC := fun x c e => (upd_ne (fun z => by
    obtain ⟨v, o, ho, hc⟩ := I.cell x c e
    rw [z, ha] at ho
    cases ho
    rw [hd] at hc
    cases hc)).trans (I.freeC x c e)
  pin := fun p hp => by
    obtain ⟨q1, q2, q3, q4, q5⟩ := I.pin p hp
    exact ⟨q1, (upd_ne (np p hp)).trans q2, q3, q4, q5⟩
  hok := fun b o e => by
    by_cases hb : b = a
    · subst hb
      rw [upd_same] at e
      cases e
      exact exk_ok ha hz hd
    · rw [upd_ne hb] at e
      exact (I.hok b o e).stay (fun _ _ _ q => q) (fun c q => (upd_ne (ne_of_none q na)).trans q) fun c xs q => (upd_ne (ne_of_none q na)).trans q
  len := I.len
theorem in_suite {a : Addr} (I : Inv X pins σ H s) : Inv (X.suite a (X.pn ++ pins)) [] σ H s :=
  ⟨I.ok.suite _ _, I.os, I.bare, I.base, I.loc, I.cell, I.free, I.freeC, fun p hp => I.pin p ((List.append_nil (X.pn ++ pins)) ▸ hp), I.hok, I.len⟩
theorem of_suite {a : Addr} {pn' : List (Addr × Obj)} (I : Inv (X.suite a (X.pn ++ pins)) pn' σ H s) (ok : X.Ok) : Inv X pins σ H s :=
  ⟨ok, I.os, I.bare, I.base, I.loc, I.cell, I.free, I.freeC, fun p hp => I.pin p (List.mem_append_left _ hp), I.hok, I.len⟩
end
theorem flying_kept {B h h' : Heap} {l : List Env} {a : Addr} {Z : Obj → Prop} (x : HandSPX.FlyingZ B l a Z h) (k : ∀ b o, h.get? b = some o → h'.get? b = some o) : HandSPX.FlyingZ B l a Z h' := by
  obtain ⟨k1, k2, k3, oe, vs, T, oT, ts, h1, h2, h3, h4, h5, h6, h7, h8, h9⟩ := x
  exact ⟨fun b o e => k b o (k1 b o e), k2, k3.of_keeps fun b o e _ => ⟨o, k b o e, rfl⟩, oe, vs, T, oT, ts, k a _ h1, h2, h3, h4, h5, h6, k T _ h7, h8, h9⟩
/-- what 'except (x1, x2, x3) as n' wishes: it takes the exception; slot i is n's -/
def wIn (K : PySem.W.Frag) (m : Nat) (cs : List Value) (i : Nat) (ts : TS) (D : Ends) : WX := fun cls d σ H =>
  PySem.W.exmAny K cls cs = some true ∧ ∀ a, H a = none → σ.length = m → ts { nx := fun σ' H' => D.nx (σ'.set i none) H', rt := D.rt, bk := fun σ' H' => D.bk (σ'.set i none) H', ct := fun σ' H' => D.ct (σ'.set i none) H' } (σ.set i (some (.ref a))) (upd H a (ExK cls d a))
section
variable {X : Cx} {x1 x2 x3 n : Str} {C1 C2 C3 : Addr} {i : Nat} {body suite : List Stmt} {b₀ : Stmt} {q1 q2 q3 qt pos pos' : Pos} {tb : WX → TS} {ts : TS}
theorem ps_try3 {cx} (hs : X.stack = X.env :: X.outer) (hf : X.env.frame = some X.env.locals) (hex : X.ex = []) (hN : X.N.Nodup) (hi : X.N[i]? = some n) (hln : X.env.kindOf n = some .local)
    (g1 : Gl X x1) (m1 : X.mg x1 = some (.ref C1)) (g2 : Gl X x2) (m2 : X.mg x2 = some (.ref C2)) (g3 : Gl X x3) (m3 : X.mg x3 = some (.ref C3))
    (hb : ∀ (W : WX) (pn : List (Addr × Obj)) (xe : Value → Shared → Prop), Takes (X.tr pn xe) W → PassesOwn (model X.prog X.w) X.A X.env xe → PSs (X.tr pn xe) body (tb W))
    (hsu : ∀ (a : Addr) (pn : List (Addr × Obj)), PSs (X.suite a pn) (b₀ :: suite) ts)
    (d1 : (x1 == ("__debug__" : Str)) = false := by decide) (d2 : (x2 == ("__debug__" : Str)) = false := by decide) (d3 : (x3 == ("__debug__" : Str)) = false := by decide) :
    PS X (.Try body [.ExceptHandler (some (.Tuple [.Name x1 q1, .Name x2 q2, .Name x3 q3] cx qt)) (some n) (b₀ :: suite) pos'] [] [] pos) (fun D σ H => tb (wIn X.K X.N.length [.ref C1, .ref C2, .ref C3] i ts D) D σ H) := by
  refine ⟨fun pins s σ H D I h => wpAny_Try_except ?_⟩
  have ok := I.ok
  have fr : X.A.frames = some (X.env :: X.outer) := ok.frames.trans (congrArg some hs)
  have hl : Loc X.env.scope n := .inl hln
  generalize hhd : [ExceptHandler.ExceptHandler (some (.Tuple [.Name x1 q1, .Name x2 q2, .Name x3 q3] cx qt)) (some n) (b₀ :: suite) pos'] = hd
  let xe' : Value → Shared → Prop := fun e s1 => wpAny (model X.prog X.w) X.A (noteFrame e X.env)
    (fun _ s2 => wpAny (model X.prog X.w) X.A (setFlight e none)
      (fun _ s3 => wpAny (model X.prog X.w) X.A (handleBy e X.env hd) (SP X pins D) X.xe s3) X.xe s2) X.xe s1
  have caught : Takes (X.tr (X.pn ++ pins) xe') (wIn X.K X.N.length [.ref C1, .ref C2, .ref C3] i ts D) := by
    rintro u s' ⟨a, B, sI, pins', σ', H', cls, d, rfl, J', nb, up, sky, na, os, ag, w1, w2⟩
    have J : Inv X pins σ' H' sI := J'.ofTry ok
    have sk : Sky B (X.env :: X.outer) a (Zc cls d) X.env.locals s'.heap := hs ▸ sky
    show wpAny (model X.prog X.w) X.A (noteFrame (.ref a) X.env) _ _ _
    refine Sky.land Zc.steady fr hf sk fun h3 fl up3 => ?_
    have J3 : Inv X pins σ' H' { s' with heap := h3 } := J.landed nb fl.1 (up.trans up3) os ag
    obtain ⟨oe, vs, he, hz, hdt⟩ := fl.there
    have out : a ∉ frs (X.env :: X.outer) := fun hm => by
      obtain ⟨_, o, e', hn⟩ := fl.2.2.1.mem hm
      rw [he] at e'
      cases e'
      exact hn _ hdt
    have nL : a ≠ X.env.locals := fun z => out (List.mem_filterMap.mpr ⟨X.env, List.mem_cons_self, hf.trans (congrArg some z.symm)⟩)
    have nB : B.get? a = none := fl.2.1
    have notI : ∀ o, sI.heap.get? a ≠ some o := fun o e => by
      rw [nb a o e (hs ▸ out)] at nB
      cases nB
    have n0 : X.s_0.heap.get? a = none := by
      cases e : X.s_0.heap.get? a with
      | none => rfl
      | some o =>
        obtain ⟨o', e'⟩ := J.base.there a o e (by rw [hex]; exact List.not_mem_nil)
        exact absurd e' (notI o')
    have np : ∀ p ∈ X.pn ++ pins, p.1 ≠ a := fun p hp z => notI p.2 (z ▸ (J.pin p hp).1)
    subst hhd
    refine wpAny_handleBy_cons (codeAny_handlers_test ?_) (fun q => by cases q)
    have S3 : Inv (X.suite a (X.pn ++ pins)) [] σ' H' { s' with heap := h3 } := in_suite J3
    refine wpAny_Tuple_spliced (Calls.spliced_cons (ld_glob (X := X.suite a (X.pn ++ pins)) S3 g1 m1 ?_ d1))
    refine Calls.spliced_cons (ld_glob (X := X.suite a (X.pn ++ pins)) S3 g2 m2 ?_ d2)
    refine Calls.spliced_cons (ld_glob (X := X.suite a (X.pn ++ pins)) S3 g3 m3 ?_ d3)
    refine Calls.spliced_nil ⟨(show 3 ≤ sizeLine by decide), ?_⟩
    have kp : ∀ b o, h3.get? b = some o → (h3.push { cls := .type "tuple", data := .seq [Value.ref C1, .ref C2, .ref C3].toArray }).get? b = some o := fun b o e => Heap.get?_push_of_some _ e
    have tp := Heap.get?_push_size h3 (o := { cls := .type "tuple", data := .seq [Value.ref C1, .ref C2, .ref C3].toArray }) rfl
    have fl2 := flying_kept fl kp
    generalize (h3.push { cls := .type "tuple", data := .seq [Value.ref C1, .ref C2, .ref C3].toArray }) = h4 at kp tp fl2
    have up4 : h3.UpToSlots h4 := .of_keeps kp
    have ty : PySem.W.Looks (model X.prog X.w) h4 (typeOf (.ref a)) cls := fun _ _ _ _ k q => wpAny_typeOf_ref (k _ _ (kp _ _ he)) (by rw [hz.1]; exact q)
    refine (PySem.W.exm_tup3 (M := model X.prog X.w) (J3.kIn.keeps kp) ty tp w1).here ?_
    refine codeAny_handlers_suite_as ?_
    refine HandSPX.lands_againZ fl2 fun h5 fl5 up5 => ?_
    have J5 : Inv X pins σ' H' { s' with heap := h5 } := J.landed nb fl5.1 (((up.trans up3).trans up4).trans up5) os ag
    obtain ⟨oe5, vs5, he5, hz5, hd5⟩ := fl5.there
    have S5 : Inv (X.suite a (X.pn ++ pins)) [] σ' (upd H' a (ExK cls d a)) { s' with heap := h5 } := in_suite (adopt J5 he5 hz5 hd5 na nL n0 np)
    refine store_ok (X := X.suite a (X.pn ++ pins)) (v := .ref a) S5 hN hi hl rfl (fun s6 S6 => ?_) (.inr hln)
    refine wpAny_mono ((hsu a (X.pn ++ pins)).run [] s6 _ _ _ S6 (w2 a na J.len)) (fun f s7 hsp => ?_) (fun _ _ z => False.elim z)
    have gone : ∀ {σ7 : L2.St} {H7 : Hp} {Q : Shared → Prop}, Inv (X.suite a (X.pn ++ pins)) [] σ7 H7 s7 → (∀ s8, Inv X pins (σ7.set i none) H7 s8 → Q s8) →
        wpAny (model X.prog X.w) X.A (do bindName X.env n .none; unbindBehindTheSuite X.env n pos') (fun _ s8 => Q s8) X.xe s7 := fun S7 hq => gone_ok (of_suite S7 ok) hN hi hln hq
    cases f with
    | next =>
      obtain ⟨σ7, H7, S7, q7⟩ := hsp
      exact gone S7 fun _ J8 => ⟨_, _, J8, q7⟩
    | brk =>
      obtain ⟨σ7, H7, S7, q7⟩ := hsp
      exact gone S7 fun _ J8 => ⟨_, _, J8, q7⟩
    | cont =>
      obtain ⟨σ7, H7, S7, q7⟩ := hsp
      exact gone S7 fun _ J8 => ⟨_, _, J8, q7⟩
    | ret u =>
      obtain ⟨v7, σ7, H7, S7, r7, q7⟩ := hsp
      exact gone S7 fun _ J8 => ⟨_, _, _, J8, r7, q7⟩
  refine wpAny_mono ((hb _ (X.pn ++ pins) xe' caught PassesOwn.looking).run [] s σ H D (I.toTry _) h) (fun f s1 hsp => ?_) (fun _ _ z => z)
  cases f with
  | next =>
    obtain ⟨σ2, H2, J2, q⟩ := hsp
    exact wpAny_execs_nil ⟨σ2, H2, J2.ofTry ok, q⟩
  | brk =>
    obtain ⟨σ2, H2, J2, q⟩ := hsp
    exact ⟨σ2, H2, J2.ofTry ok, q⟩
  | cont =>
    obtain ⟨σ2, H2, J2, q⟩ := hsp
    exact ⟨σ2, H2, J2.ofTry ok, q⟩
  | ret u =>
    obtain ⟨v, σ2, H2, J2, r, q⟩ := hsp
    exact ⟨v, σ2, H2, J2.ofTry ok, r, q⟩
end
/-! ### a field of such a thing -/
def tXk (K : PySem.W.Frag) (f : Str) (te : TE) : TE := fun σ H Q => te σ H fun x H1 => ∃ (a C dd : Addr) (fs : List (Str × V)) (v : V), x = .ref a ∧ H1 a = some (ExK (.ref C) (some dd) a) ∧ H1 dd = some (.xd fs) ∧
  XfC K C ∧ PySem.W.findIn K (.ref C) f = some none ∧ fs.lookup f = some v ∧ Q v H1
theorem pe_xk {X : Cx} {e : Expr} {te : TE} {pos : Pos} {f : Str} (he : PE X e te) (hb : attributeBase e f X.env (eval e X.env) = eval e X.env := by rfl) : PE X (.Attribute e f pos) (tXk X.K f te) := by
  refine ⟨fun pins s σ H Q I h => attr_of hb (thn (he.run pins s σ H _ I h) fun u s1 hh => ?_)⟩
  obtain ⟨x, H1, I1, rx, a, C, dd, fs, v, ex, ea, ed, T, hno, l, q⟩ := hh
  subst ex
  obtain rfl : u = Value.ref a := rx
  obtain ⟨oe, vs, ha, hz, hd⟩ := exk_at I1.hok ea
  have hx : ObjOk X.prog X.w H1 s1.heap dd (.xd fs) := I1.hok dd _ ed
  obtain ⟨mA, hns, hr⟩ := hx
  obtain ⟨od, ho, hl⟩ := lookIn_ns hns
  obtain ⟨u, hu, ru⟩ := RelO.some_of (v := v) (o := mA f) (by rw [← l]; exact hr f)
  have J : PySem.W.InstAt s1.heap a oe C (some od) := ⟨ha, hz.1, (by unfold PySem.W.notCls; rw [hd] <;> rfl), (by rw [hz.2]; exact ho)⟩
  exact HandSPX.exc_get I1.kIn J T.ga T.gg T.exC (PySem.W.findObj_own T.hdC hno rfl ((hl f).trans (congrArg some hu))) (handed_of ru)
    ⟨v, H1, I1.tok _, ru, q⟩
end FW
namespace FW
open PySem PySem.Spec PyProof.Rows L2
/-! ### defs that are called while an exception is handled; they raise nothing -/
structure FnW (P : Program) (w : World) (K : PySem.W.Frag) (mg : Str → Option Value) (base : Heap) (k : Nat) (f : Addr) (fd : FuncData) (ps : List Str) (sp : Sp) : Prop where
  len : ∀ vs H Q E, sp vs H Q E → vs.length = ps.length
  run : ∀ (A : Around) (outer : List Env) (s : Shared) (H : Hp) (args : Args) (us : List Value) (vs : List V) (Q : VK), L2H.RoomH k A → Env0 P w K mg base A outer s H → BindsTo s fd args (ps.zip us) → Vals vs us → sp vs H Q E0 →
    codeAny (model P w) A (.call (.ref f) args) (CR L2.CX0 outer P w H s Q E0) s
section
variable {P : Program} {w : World} {K : PySem.W.Frag} {mg : Str → Option Value} {base : Heap}
theorem okW {x qual : Str} {st : Stmt} {f : Addr} {fd : FuncData} {N ps : List Str} {k : Nat} {sp : Sp} (F : Fun K x qual st f fd) (S : FnScope N ps (defScope st)) (len : ∀ vs H Q E, sp vs H Q E → vs.length = ps.length)
    (hbody : ∀ (cdv : Value) (A : Around) (outer : List Env) (s : Shared) (H : Hp) (vs : List V) (Q : VK) (p : Addr × Obj), L2H.RoomH k (A.deeper (envOfC qual (defScope st) s.heap.objs.size f cdv)) → sp vs H Q E0 →
      ∃ t, PSs (L2H.cxH L2.CX0 P w K mg base N qual (defScope st) f cdv A outer s H E0 p).nox (defBody st) t ∧ t { nx := fun _ H' => Q .non H', rt := Q } (L2.start N vs) H) : FnW P w K mg base (k + 1) f fd ps sp := by
  obtain ⟨oc, od, kV, doc, pm, an, cdv, ct, osl, rfl, lk, hcd⟩ := F.ex
  refine ⟨len, fun A outer s H args us vs Q hr e0 hb r hsp => ?_⟩
  have there : ∀ b o, K.lookup b = some o → s.heap.get? b = some o ∧ H b = none := fun b o e => e0.bs b o (e0.mod.kin b o e)
  obtain ⟨fat, fnn⟩ := there _ _ lk
  have nfr : f ∉ frs outer := fun hm => by
    have z := (e0.funs.mem hm).1
    rw [e0.mod.kin _ _ lk] at z
    cases z
  have pin : L2H.PinOk outer H s (f, _) := ⟨fat, fnn, nfr, fun v z => by cases z⟩
  have KX : K.In s.heap := fun b o e => (there b o e).1
  have ks : ∀ y ∈ ps.zip us, (defScope st).names.lookup y.1 = some .local ∨ ((defScope st).names.lookup y.1 = some .cell ∧ ((cellsFrom (s.heap.objs.size + 1) (defScope st).names []).lookup y.1).isSome = true) := by
    rintro ⟨n, v⟩ hy
    exact (S.par n (List.of_mem_zip hy).1).imp id fun q => ⟨q, PySem.W.cellsFrom_some _ _ _ (.inl q)⟩
  refine codeAny_call_function hr.depth fat rfl S.co S.gen rfl (PySem.W.codeRec_of KX hcd) (hb _ _ _ _ ?_)
  refine wpAny_newFunctionEnv_cells S.kind ks fun env he s1 x => ?_
  subst he
  refine ⟨(e0.mod.nolimit.keeps fun b o e => (e0.bs b o e).1).keeps x.toInCall.keep, codeAny_func ?_⟩
  obtain ⟨t, ht, hq⟩ := hbody cdv A outer s H vs Q _ (hr.deeper _) hsp
  have I := L2H.inv_startH (CX := L2.CX0) (E := E0) (base := base) (mg := mg) (w := w) (P := P) S pin e0 (len _ _ _ _ hsp) r x
  refine wpAny_mono (ht.nox.run [] s1 _ H _ I hq) (fun fl s' hs => ?_) (fun _ _ hs => hs)
  cases fl with
  | ret u =>
    obtain ⟨v, σ', H', J, rv, q⟩ := hs
    exact ⟨v, H', J.os, J.bare, J.base, J.hok, rv, q⟩
  | next =>
    obtain ⟨σ', H', J, q⟩ := hs
    exact ⟨V.non, H', J.os, J.bare, J.base, J.hok, rfl, q⟩
  | brk =>
    obtain ⟨_, _, _, q⟩ := hs
    exact q.elim
  | cont =>
    obtain ⟨_, _, _, q⟩ := hs
    exact q.elim
end
section
variable {X : Cx} {k : Nat} {f : Addr} {fd : FuncData} {ps : List Str} {sp : Sp} {x : Str} {p pos : Pos} {e : Expr} {es : List Expr} {t : TA}
theorem pe_callW (F : FnW X.prog X.w X.K X.mg X.base k f fd ps sp) (hr : L2H.RoomH k X.A) (hg : Gl X x) (hm : X.mg x = some (.ref f)) (hk : PySem.W.keepIn X.K (.ref f) = true) (hb : Binds X.K fd ps [])
    (ha : PA X (e :: es) t) (hdb : (x == ("__debug__" : Str)) = false := by decide) (he : starEach (e :: es) X.env = (false, eval e X.env) :: starEach es X.env := by rfl)
    (hpl : (backTo pos (starEach es X.env)).any (·.1) = false := by rfl) : PE X (.Call (.Name x p) (e :: es) [] pos) (fun σ H Q => t σ H fun vs H1 => sp vs H1 Q E0) := by
  refine ⟨fun pins s σ H Q I h => wpAny_Call_Name_kw (ld_glob I hg hm ?_ hdb)⟩
  refine PySem.W.callWith_K (h₀ := X.base) I.ok.mod.kin hk (thn (ha.run pos pins s σ H _ I h) ?_) he hpl
  rintro us s1 ⟨vs, H1, I1, r, q⟩
  have hl : us.length = ps.length := r.length.symm.trans (F.len _ _ _ _ q)
  have hb' : BindsTo s1 fd ⟨us, []⟩ (ps.zip us) := by
    have z := hb s1 us I1.kIn (by rw [List.append_nil]; exact hl)
    rwa [List.append_nil] at z
  refine ⟨I1.kIn, wpAny_call (codeAny_mono (F.run X.A X.stack s1 H1 ⟨us, []⟩ us vs Q hr I1.env0 hb' r q) fun r s' hq => ?_)⟩
  cases r with
  | error e => exact hq.elim
  | ok fl =>
    cases fl with
    | ret u => exact I1.after hq
    | next => exact hq.elim
    | brk => exact hq.elim
    | cont => exact hq.elim
end
end FW
namespace L2
open PySem PySem.Spec PySem.Calls PyProof.Rows
/-! ### a text unpacked into names -/
abbrev sgn (c : Nat) : V := .str ⟨#[c]⟩
section
variable {prog : Program} {w : World} {A : Around} {E : Value → Shared → Prop}
theorem draw_str {it : Addr} {x : Str} {t : Tok} {ty : String} (hty : ty = "str_ascii_iterator" ∨ ty = "str_iterator") : ∀ (n i : Nat) (s : Shared) (Q : List Value → Shared → Prop), s.heap.IsStrIter it ty x t i → i + n ≤ x.cps.size →
    (∀ h' tk us, h'.IsStrIter it ty x t (i + n) → Heap.SameBut it s.heap h' → Vals (((x.cps.toList.drop i).take n).map sgn) us → Q us { s with heap := h', toks := tk }) → wpAny (model prog w) A (draw (.ref it) n) Q E s
  | 0, i, s, Q, hit, _, hQ => by
    show wpAny _ _ (pure []) Q E s
    exact wpAny_pure (hQ s.heap s.toks [] hit (Heap.SameBut.refl ..) .nil)
  | n + 1, i, s, Q, hit, hle, hQ => by
    have hlt : i < x.cps.size := by omega
    show wpAny _ _ (pyNext (.ref it) >>= _) Q E s
    have hx : x.cps[i]? = some x.cps[i] := Array.getElem?_eq_getElem hlt
    have hd : x.cps.toList.drop i = x.cps[i] :: x.cps.toList.drop (i + 1) := by
      rw [List.drop_eq_getElem_cons (by simpa using hlt)]
      simp
    have go : ∀ h₁, h₁.IsStrIter it ty x t (i + 1) → Heap.SameBut it s.heap h₁ → wpAny (model prog w) A (match (some (.str ⟨#[x.cps[i]]⟩ s.toks) : Option Value) with
        | none => pure []
        | some v => do return v :: (← holding [v] (draw (.ref it) n))) Q E { s with heap := h₁, toks := s.toks + 1 } := fun h₁ hit₁ hs₁ => by
      refine wpAny_bind (wpAny_holding (draw_str hty n (i + 1) _ _ hit₁ (by omega) fun h₂ tk us hit₂ hs₂ r => wpAny_pure ?_))
      refine hQ h₂ tk _ (by rw [show i + (n + 1) = i + 1 + n by omega]; exact hit₂) (hs₁.trans hs₂) ?_
      rw [hd, List.take_succ_cons, List.map_cons]
      exact .cons ⟨_, rfl⟩ r
    rcases hty with e | e
    · subst e
      exact wpAny_bind (wpAny_pyNext_ascii_item hit hx fun h₁ hit₁ hs₁ => go h₁ hit₁ hs₁)
    · subst e
      exact wpAny_bind (wpAny_pyNext_wide_item hit hx fun h₁ hit₁ hs₁ => go h₁ hit₁ hs₁)
theorem items_str {x : Str} {t : Tok} {s : Shared} {Q : List Value → Shared → Prop} (hh : A.handled = none)
    (hQ : ∀ h' tk us, Heap.ExtBut s.heap.objs.size s.heap h' → Vals (x.cps.toList.map sgn) us → Q us { s with heap := h', toks := tk }) : wpAny (model prog w) A (unpackItems (.str x t) x.cps.size none) Q E s := by
  unfold unpackItems
  refine wpAny_bind ?_
  unfold notIterableAtAll
  refine wpAny_bind (wpAny_specialOf (typeIs_str s x t) F.slot_str_iter.lookup ?_)
  refine wpAny_pure ?_
  simp only [Bool.false_eq_true, if_false]
  have go : ∀ (ty : String), ty = "str_ascii_iterator" ∨ ty = "str_iterator" → ∀ s₁ : Shared, s₁ = { s with heap := s.heap.push { cls := .type ty, data := .fields #[.str x t, .int 0 0] } } → 
      wpAny (model prog w) A (do
        let items ← holding [.ref s.heap.objs.size] (draw (.ref s.heap.objs.size) x.cps.size)
        if items.length < x.cps.size then
          rule "unpack.too-few"; raiseError "ValueError" s!"not enough values to unpack (expected {x.cps.size}, got {items.length})"
        if (← holding items (pyNext (.ref s.heap.objs.size))).isSome then
          rule "unpack.too-many"; raiseError "ValueError" s!"too many values to unpack (expected {x.cps.size})"
        return items) Q E s₁ := fun ty hty s₁ hs => by
    subst hs
    have hit0 : (s.heap.push { cls := .type ty, data := .fields #[.str x t, .int 0 0] }).IsStrIter s.heap.objs.size ty x t 0 := ⟨_, Heap.get?_push_size _ rfl, rfl, rfl⟩
    refine wpAny_bind (wpAny_holding (draw_str hty x.cps.size 0 _ _ hit0 (by omega) fun h₁ tk us hit₁ hs₁ r => ?_))
    have hall : (x.cps.toList.drop 0).take x.cps.size = x.cps.toList := by
      rw [List.drop_zero]; exact List.take_of_length_le (by simp)
    rw [hall] at r
    have hl : us.length = x.cps.size := by rw [← r.length, List.length_map]; simp
    rw [if_neg (by omega)]
    have fin : ∀ h₂, Heap.ExtBut s.heap.objs.size h₁ h₂ → Heap.ExtBut s.heap.objs.size s.heap h₂ := fun h₂ he₂ b o hb e => he₂ b o hb (hs₁.extBut b o hb (Heap.get?_push_of_some _ e))
    have hend : x.cps[0 + x.cps.size]? = none := Array.getElem?_eq_none (by omega)
    rcases hty with e | e
    · subst e
      refine wpAny_bind (wpAny_holding (wpAny_pyNext_ascii_end (s := { s with heap := h₁, toks := tk }) hh hit₁ hend fun h₂ he₂ => ?_))
      simp only [Option.isSome_none, Bool.false_eq_true, if_false]
      exact wpAny_pure (hQ h₂ tk us (fin h₂ he₂) r)
    · subst e
      refine wpAny_bind (wpAny_holding (wpAny_pyNext_wide_end (s := { s with heap := h₁, toks := tk }) hh hit₁ hend fun h₂ he₂ => ?_))
      simp only [Option.isSome_none, Bool.false_eq_true, if_false]
      exact wpAny_pure (hQ h₂ tk us (fin h₂ he₂) r)
  cases ha : x.cps.all (· < 128)
  · exact wpAny_bind (wpAny_holding (wpAny_pyIter_wide ha (go _ (.inr rfl) _ rfl)))
  · exact wpAny_bind (wpAny_holding (wpAny_pyIter_ascii ha (go _ (.inl rfl) _ rfl)))
end
section
variable {X : Cx} {pos : Pos}
/-- (a, b, ..) = a text of that many signs -/
def gUstr (n : Nat) (t : TGs) : TG := fun v σ H Q => ∃ z : Str, v = .str z ∧ z.cps.size = n ∧ t (z.cps.toList.map sgn) σ H Q
theorem pg_ustr {es : List Expr} {k : Nat} {t : TGs} {n : Nat} (hc : X.calm = true) (h : PGs X es t)
    (hn : (assignEach es X.env).length = n := by rfl) (hst : (assignEach es X.env).findIdx? (·.1) = none := by rfl) : PG X (.Tuple es k pos) (gUstr n t) := by
  refine ⟨fun pins s σ H v u Q I r hw => ?_⟩
  obtain ⟨z, e1, hz, hw⟩ := hw
  subst e1
  obtain ⟨tk0, rfl⟩ := r
  have hn' : (assignEach es X.env).length = z.cps.size := hn.trans hz.symm
  rw [PyProof.Rows.assign_Tuple]
  refine wpAny_bind (wpAny_standAt ?_)
  unfold unpack
  rw [hn', hst]
  refine wpAny_bind (wpAny_holding (items_str (I.ok.hd hc) fun h' tk us hx r => ?_))
  have I1 : Inv X pins σ H { s with heap := h', toks := tk } := I.kept (t' := tk) fun b o e => hx b o (Nat.ne_of_lt (Heap.lt_size e)) e
  exact h.run pins _ σ H _ us Q I1 r hw
end
/-! ### a call by keywords alone -/
section
variable {X : Cx} {CX : CXT} {k : Nat} {f : Addr} {fd : FuncData} {ps ks : List Str} {sp : Sp} {E : XK} {x : Str} {p pos kpos : Pos} {e : Expr} {kws : List Keyword} {tk : TA} {nm : Option Str} {g : List Value → List Value → List Value} {gV : List V → List V → List V}
theorem pe_callK0 (F : FnOk X.prog X.w X.K X.mg X.base CX k f fd ps sp) (hr : Room k X.A) (hg : Gl X x) (hm : X.mg x = some (.ref f)) (hk : PySem.W.keepIn X.K (.ref f) = true) (hb : KBinds X.K fd ps ks g gV) (hx : Passes CX X E)
    (hkw : PK X kws tk) (hall : (backToKw pos (keywordEach kws X.env)).all (·.1.isSome) = true := by rfl) (hks : (backToKw pos (keywordEach kws X.env)).filterMap (·.1) = ks := by rfl)
    (hdb : (x == ("__debug__" : Str)) = false := by decide)
    (hpl : ((backTo pos (starEach [] X.env)).any (·.1) || (backToKw pos (keywordEach kws X.env)).any (·.1.isNone)) = false := by rfl) :
    PE X (.Call (.Name x p) [] kws pos) (tCallK sp gV E tNil tk) := by
  refine ⟨fun pins s σ H Q I h => ?_⟩
  refine wpAny_Call_Name_kw (ld_glob I hg hm ?_ hdb)
  refine PySem.W.callWith_KW0 (h₀ := X.base) I.ok.mod.kin hk hall (thn (hkw.run pos pins s σ H _ I h) fun ws s2 ⟨zs, H2, I2, rz, q2⟩ => ⟨I2.kIn, ?_⟩) hpl
  rw [hks]
  exact run_fnk F hr hb hx I2 .nil rz q2
end
/-! ### a def of the module, by its name -/
structure Cal (P : Program) (w : World) (K : PySem.W.Frag) (mg : Str → Option Value) (base : Heap) (CX : CXT) (k : Nat) (x : Str) (st : Stmt) (ps : List Str) (sp : Sp) : Prop where
  ex : ∃ (f : Addr) (fd : FuncData), FnOk P w K mg base CX k f fd ps sp ∧ mg x = some (.ref f) ∧ Fun K x x st f fd ∧ Binds K fd ps []
/-- how a call with keywords binds, for every such def's data -/
def KB (K : PySem.W.Frag) (x : Str) (st : Stmt) (ps ks : List Str) (g : List Value → List Value → List Value) (gV : List V → List V → List V) : Prop := ∀ (f : Addr) (fd : FuncData), Fun K x x st f fd → KBinds K fd ps ks g gV
section
variable {X : Cx} {CX : CXT} {k j : Nat} {x : Str} {st : Stmt} {ps ks : List Str} {sp : Sp} {E : XK} {p pos : Pos} {e : Expr} {es : List Expr} {kws : List Keyword} {t tk : TA} {g : List Value → List Value → List Value} {gV : List V → List V → List V}
theorem pe_cx (c : Cal X.prog X.w X.K X.mg X.base CX k x st ps sp) (hr : Room j X.A) (hk : k ≤ j) (hg : Gl X x) (hx : Passes CX X E) (ha : PA X (e :: es) t)
    (hdb : (x == ("__debug__" : Str)) = false := by decide) (he : starEach (e :: es) X.env = (false, eval e X.env) :: starEach es X.env := by rfl) (hpl : (backTo pos (starEach es X.env)).any (·.1) = false := by rfl) :
    PE X (.Call (.Name x p) (e :: es) [] pos) (tCall sp [] E t) := by
  obtain ⟨f, fd, F, hm, fn, b⟩ := c.ex
  exact pe_call F (hr.mono hk) hg hm fn.kp b .nil hx ha hdb he hpl
theorem pe_cx0 (c : Cal X.prog X.w X.K X.mg X.base CX k x st ps sp) (hr : Room j X.A) (hk : k ≤ j) (hg : Gl X x) (hx : Passes CX X E)
    (hdb : (x == ("__debug__" : Str)) = false := by decide) : PE X (.Call (.Name x p) [] [] pos) (tCall sp [] E tNil) := by
  obtain ⟨f, fd, F, hm, fn, b⟩ := c.ex
  exact pe_call0 F (hr.mono hk) hg hm fn.kp b .nil hx hdb
theorem pe_c (c : Cal X.prog X.w X.K X.mg X.base CX0 k x st ps sp) (hr : Room j X.A) (hk : k ≤ j) (hg : Gl X x) (ha : PA X (e :: es) t)
    (hdb : (x == ("__debug__" : Str)) = false := by decide) (he : starEach (e :: es) X.env = (false, eval e X.env) :: starEach es X.env := by rfl) (hpl : (backTo pos (starEach es X.env)).any (·.1) = false := by rfl) :
    PE X (.Call (.Name x p) (e :: es) [] pos) (tCall sp [] E0 t) := pe_cx c hr hk hg pass0 ha hdb he hpl
theorem pe_ck (c : Cal X.prog X.w X.K X.mg X.base CX0 k x st ps sp) (b : KB X.K x st ps ks g gV) (hr : Room j X.A) (hk : k ≤ j) (hg : Gl X x) (ha : PA X (e :: es) t) (hkw : PK X kws tk)
    (hall : (backToKw pos (keywordEach kws X.env)).all (·.1.isSome) = true := by rfl) (hks : (backToKw pos (keywordEach kws X.env)).filterMap (·.1) = ks := by rfl)
    (hdb : (x == ("__debug__" : Str)) = false := by decide) (he : starEach (e :: es) X.env = (false, eval e X.env) :: starEach es X.env := by rfl)
    (hpl : ((backTo pos (starEach (e :: es) X.env)).any (·.1) || (backToKw pos (keywordEach kws X.env)).any (·.1.isNone)) = false := by rfl) :
    PE X (.Call (.Name x p) (e :: es) kws pos) (tCallK sp gV E0 t tk) := by
  obtain ⟨f, fd, F, hm, fn, _⟩ := c.ex
  exact pe_callK F (hr.mono hk) hg hm fn.kp (b f fd fn) pass0 ha hkw hall hks hdb he hpl
theorem pe_ck0 (c : Cal X.prog X.w X.K X.mg X.base CX0 k x st ps sp) (b : KB X.K x st ps ks g gV) (hr : Room j X.A) (hk : k ≤ j) (hg : Gl X x) (hkw : PK X kws tk)
    (hall : (backToKw pos (keywordEach kws X.env)).all (·.1.isSome) = true := by rfl) (hks : (backToKw pos (keywordEach kws X.env)).filterMap (·.1) = ks := by rfl)
    (hdb : (x == ("__debug__" : Str)) = false := by decide) 
    (hpl : ((backTo pos (starEach [] X.env)).any (·.1) || (backToKw pos (keywordEach kws X.env)).any (·.1.isNone)) = false := by rfl) :
    PE X (.Call (.Name x p) [] kws pos) (tCallK sp gV E0 tNil tk) := by
  obtain ⟨f, fd, F, hm, fn, _⟩ := c.ex
  exact pe_callK0 F (hr.mono hk) hg hm fn.kp (b f fd fn) pass0 hkw hall hks hdb hpl
end
/-! ### heaps -/
theorem same_upd {H : Hp} {p : Addr} {o : HO} (h : H p = none) : Same H (upd H p o) := fun b x e => by
  rw [upd_ne (ne_of_none e h)]
  exact e
/-- all that was tracked but what stands at b -/
def But (b : Addr) (H H' : Hp) : Prop := ∀ a o, a ≠ b → H a = some o → H' a = some o
theorem But.refl (b : Addr) (H : Hp) : But b H H := fun _ _ _ h => h
theorem But.trans {b : Addr} {H H1 H2 : Hp} (x : But b H H1) (y : But b H1 H2) : But b H H2 := fun a o n h => y a o n (x a o n h)
theorem Same.but {b : Addr} {H H' : Hp} (x : Same H H') : But b H H' := fun a o _ h => x a o h
theorem But.seq {K : PySem.W.Frag} {b a : Addr} {H H' : Hp} {xs : List V} (e : But b H H') (n : a ≠ b) (h : SqL K H a xs) : SqL K H' a xs := by
  rcases h with (h | ⟨o, h⟩) | h
  · exact .inl (.inl (e _ _ n h))
  · exact .inl (.inr ⟨o, e _ _ n h⟩)
  · exact .inr h
theorem But.upd {b : Addr} {H0 H : Hp} {o : HO} (s : But b H0 H) : But b H0 (upd H b o) := fun a x n e => by
  rw [upd_ne n]
  exact s a x n e
theorem Same.tup {K : PySem.W.Frag} {a : Addr} {H H' : Hp} {xs : List V} (e : Same H H') (h : SqT K H a xs) : SqT K H' a xs := by
  rcases h with (h | ⟨o, h⟩) | h
  · exact .inl (.inl (e _ _ h))
  · exact .inl (.inr ⟨o, e _ _ h⟩)
  · exact .inr h
theorem But.tup {K : PySem.W.Frag} {b a : Addr} {H H' : Hp} {xs : List V} (e : But b H H') (n : a ≠ b) (h : SqT K H a xs) : SqT K H' a xs := by
  rcases h with (h | ⟨o, h⟩) | h
  · exact .inl (.inl (e _ _ n h))
  · exact .inl (.inr ⟨o, e _ _ n h⟩)
  · exact .inr h
end L2
namespace L2
open PySem PySem.Spec PySem.Calls PyProof.Rows
/-! ### zip of lists, tuples and texts in any mix -/
/-- what such a thing is: a list or a tuple at an address, a text -/
inductive SK where
  | l (a : Addr) | t (a : Addr) | s (x : Str) (k : Tok)
def SK.iter : SK → Addr → Nat → Heap → Prop
  | .l a, it, i, h => h.IsListIter it a i
  | .t a, it, i, h => h.IsTupleIter it a i
  | .s x k, it, i, h => h.IsStrIter it (strIterType x) x k i
def SK.at : SK → Addr → Prop
  | .l a, c => c = a
  | .t a, c => c = a
  | .s _ _, _ => False
def SK.val : SK → V
  | .l a => .ref a
  | .t a => .ref a
  | .s x _ => .str x
/-- its items, by the abstract heap -/
inductive Src (K : PySem.W.Frag) (H : Hp) : V → List V → Prop where
  | l {a : Addr} {xs : List V} (h : SqL K H a xs) : Src K H (.ref a) xs
  | t {a : Addr} {xs : List V} (h : SqT K H a xs) : Src K H (.ref a) xs
  | s {x : Str} {xs : List V} (h : xs = x.cps.toList.map sgn) : Src K H (.str x) xs
/-- .. of a known kind -/
def SK.src (K : PySem.W.Frag) (H : Hp) : SK → List V → Prop
  | .l a, xs => SqL K H a xs
  | .t a, xs => SqT K H a xs
  | .s x _, xs => xs = x.cps.toList.map sgn
def SK.obj : SK → Obj
  | .l a => { cls := .type "list_iterator", data := .fields #[.ref a, .int 0 0] }
  | .t a => { cls := .type "tuple_iterator", data := .fields #[.ref a, .int 0 0] }
  | .s x k => { cls := .type (strIterType x), data := .fields #[.str x k, .int 0 0] }
def SK.raw : SK → Value
  | .l a => .ref a
  | .t a => .ref a
  | .s x k => .str x k
theorem SK.iter_keep {k : SK} {it : Addr} {i : Nat} {h h' : Heap} (s : k.iter it i h) (q : ∀ o, h.get? it = some o → h'.get? it = some o) : k.iter it i h' := by
  cases k with
  | l a => exact Heap.IsListIter.at s q
  | t a => exact Heap.IsTupleIter.at s q
  | s x k => exact let ⟨o, ho, r⟩ := s; ⟨o, q o ho, r⟩
theorem SK.iter_obj {k : SK} {it : Addr} {i : Nat} {h : Heap} (s : k.iter it i h) : ∃ o, h.get? it = some o ∧ ∀ v, o.data ≠ .cell v := by
  cases k with
  | l a => obtain ⟨o, e, _, d⟩ := s; exact ⟨o, e, fun v q => by rw [d] at q; cases q⟩
  | t a => obtain ⟨o, e, _, d⟩ := s; exact ⟨o, e, fun v q => by rw [d] at q; cases q⟩
  | s x k => obtain ⟨o, e, _, d⟩ := s; exact ⟨o, e, fun v q => by rw [d] at q; cases q⟩
/-- what the iterator draws while the thing stands so -/
theorem SK.draws {X : Cx} {pins : List (Addr × Obj)} {σ : St} {H : Hp} {s : Shared} {k : SK} {it : Addr} {xs : List V} (I : Inv X pins σ H s) (hc : X.calm = true) (hs : k.src X.K H xs) (hn : ∀ c, k.at c → c ≠ it) :
    ∃ (fp : List Addr) (P : Nat → Value → Prop) (S : Nat → Heap → Prop), Draws X.prog X.w X.A.in1 it fp xs.length P S ∧ (∀ i, k.iter it i s.heap → S i s.heap) ∧ (∀ i h', S i h' → k.iter it i h') ∧
      (∀ i u, P i u → ∃ v, xs[i]? = some v ∧ RelV v u) ∧ it ∈ fp ∧ ∀ c ∈ fp, c = it ∨ k.at c := by
  have hh : X.A.in1.handled = none := I.ok.hd hc
  cases k with
  | l a =>
    obtain ⟨its, rv, p, _⟩ := I.list hs
    refine ⟨[it, a], fun i v => its.toArray[i]? = some v, fun i h => h.IsListIter it a i ∧ h.IsList a its.toArray, by rw [show xs.length = its.toArray.size from rv.length.trans (by simp)]; exact Draws.list hh it a (hn a rfl) its.toArray, fun i q => ⟨q, p.isList⟩, fun i h' q => q.1, fun i u q => ?_, by simp, fun c hc => by
      rcases List.mem_cons.mp hc with e | e
      · exact .inl e
      · exact .inr (List.mem_singleton.mp e)⟩
    have q : its.toArray[i]? = some u := q
    cases e : xs[i]? with
    | none =>
      have := rv.none_of e
      rw [List.getElem?_toArray, this] at q
      cases q
    | some v =>
      obtain ⟨w', h1, h2⟩ := rv.get e
      rw [List.getElem?_toArray, h1] at q
      cases q
      exact ⟨v, rfl, h2⟩
  | t a =>
    obtain ⟨its, rv, p, _⟩ := I.tuple hs
    refine ⟨[it, a], fun i v => its.toArray[i]? = some v, fun i h => h.IsTupleIter it a i ∧ h.IsTuple a its.toArray, by rw [show xs.length = its.toArray.size from rv.length.trans (by simp)]; exact Draws.tuple hh it a (hn a rfl) its.toArray, fun i q => ⟨q, show s.heap.IsTuple a its.toArray from p⟩, fun i h' q => q.1, fun i u q => ?_, by simp, fun c hc => by
      rcases List.mem_cons.mp hc with e | e
      · exact .inl e
      · exact .inr (List.mem_singleton.mp e)⟩
    have q : its.toArray[i]? = some u := q
    cases e : xs[i]? with
    | none =>
      have := rv.none_of e
      rw [List.getElem?_toArray, this] at q
      cases q
    | some v =>
      obtain ⟨w', h1, h2⟩ := rv.get e
      rw [List.getElem?_toArray, h1] at q
      cases q
      exact ⟨v, rfl, h2⟩
  | s x tk =>
    have hs' : xs = x.cps.toList.map sgn := hs
    subst hs'
    refine ⟨[it], fun i v => ∃ c u, x.cps[i]? = some c ∧ v = .str ⟨#[c]⟩ u, fun i h => h.IsStrIter it (strIterType x) x tk i, by rw [show (x.cps.toList.map sgn).length = x.cps.size by simp]; exact Draws.text hh it x tk, fun i q => q, fun i h' q => q, fun i u q => ?_, by simp, fun c hc => .inl (List.mem_singleton.mp hc)⟩
    obtain ⟨c, t, h1, rfl⟩ := q
    refine ⟨sgn c, ?_, ⟨t, rfl⟩⟩
    rw [List.getElem?_map, Array.getElem?_toList, h1]
    rfl
/-- the items as they stand at each turn, in new pairs -/
def ItzG (K : PySem.W.Frag) (k1 k2 : SK) : It :=
  ⟨fun i H => ∃ (xs ys : List V) (x y : V), k1.src K H xs ∧ k2.src K H ys ∧ xs[i]? = some x ∧ ys[i]? = some y,
    fun i H v H' => ∃ T x y, v = .ref T ∧ H T = none ∧ H' = upd H T (.tup [x, y]) ∧ (∀ xs, k1.src K H xs → xs[i]? = some x) ∧ ∀ ys, k2.src K H ys → ys[i]? = some y,
    fun i H => ∃ xs ys : List V, k1.src K H xs ∧ k2.src K H ys ∧ i ≤ xs.length ∧ i ≤ ys.length ∧ (i = xs.length ∨ i = ys.length)⟩
theorem SK.inj {X : Cx} {pins : List (Addr × Obj)} {σ : St} {H : Hp} {s : Shared} {k : SK} {xs ys : List V} (I : Inv X pins σ H s) (h1 : k.src X.K H xs) (h2 : k.src X.K H ys) : xs = ys := by
  cases k with
  | l a => exact I.list_inj h1 h2
  | t a => exact I.tuple_inj h1 h2
  | s x t => exact (show xs = _ from h1).trans (show ys = _ from h2).symm
theorem turn_zipG {P : Program} {w : World} {K : PySem.W.Frag} {elts : List Expr} {kk : Nat} {tpos : Pos} {z TI TO i1 i2 : Addr} {k1 k2 : SK}
    (d1 : TI ≠ z) (d2 : TO ≠ z) (d3 : TI ≠ TO) (d4 : TI ≠ i1) (d5 : TI ≠ i2) (d6 : z ≠ i1) (d7 : z ≠ i2) (d8 : TO ≠ i1) (d9 : TO ≠ i2) (d10 : i1 ≠ i2)
    (a1 : ∀ c, k1.at c → c ≠ z ∧ c ≠ TO ∧ c ≠ i1 ∧ c ≠ i2) (a2 : ∀ c, k2.at c → c ≠ z ∧ c ≠ TO ∧ c ≠ i1 ∧ c ≠ i2) :
    Turn P w K (.Tuple elts kk tpos) (ItzG K k1 k2) [z, TI, TO, i1, i2] z (fun i h => IsZip h z TI TO .none ∧ IsTupOf2 h TI (.ref i1) (.ref i2) ∧ (∃ x y, IsTupOf2 h TO x y) ∧ k1.iter i1 i h ∧ k2.iter i2 i h) where
  mem := by simp
  obj := fun i h st c hc => by
    obtain ⟨hz, hTI, ⟨x, y, hTO⟩, s1, s2⟩ := st
    have e' : c = z ∨ c = TI ∨ c = TO ∨ c = i1 ∨ c = i2 := by simpa using hc
    rcases e' with q | q | q | q | q
    · rw [q]; exact ⟨_, hz, fun v q => nomatch q⟩
    · rw [q]; exact ⟨_, hTI, fun v q => nomatch q⟩
    · rw [q]; exact ⟨_, hTO, fun v q => nomatch q⟩
    · rw [q]; exact SK.iter_obj s1
    · rw [q]; exact SK.iter_obj s2
  keep := fun i h h' st k => by
    obtain ⟨hz, hTI, ⟨x, y, hTO⟩, s1, s2⟩ := st
    exact ⟨k z (by simp) _ hz, k TI (by simp) _ hTI, ⟨x, y, k TO (by simp) _ hTO⟩, SK.iter_keep s1 fun o q => k i1 (by simp) o q, SK.iter_keep s2 fun o q => k i2 (by simp) o q⟩
  item := by
    intro X hP hw hK hc i pins s σ H E I hf st hg
    subst hP hw hK
    obtain ⟨hz, hTI, ⟨x0, y0, hTO⟩, s1, s2⟩ := st
    obtain ⟨xs, ys, x, y, hqx, hqy, hx, hy⟩ := hg
    obtain ⟨fp1, P1, S1, D1, g1, b1, r1, m1, f1⟩ := SK.draws I hc hqx fun c q => (a1 c q).2.2.1
    obtain ⟨fp2, P2, S2, D2, g2, b2, r2, m2, f2⟩ := SK.draws I hc hqy fun c q => (a2 c q).2.2.2
    have Z : ZipSep2 z TI TO i1 i2 fp1 fp2 :=
      { TIz := d1, TOz := d2, TITO := d3, TIi1 := d4, mem1 := m1, TIi2 := d5, mem2 := m2,
        zf1 := fun q => by rcases f1 z q with e | e; exact d6 e; exact (a1 z e).1 rfl
        Tf1 := fun q => by rcases f1 TO q with e | e; exact d8 e; exact (a1 TO e).2.1 rfl
        zf2 := fun q => by rcases f2 z q with e | e; exact d7 e; exact (a2 z e).1 rfl
        Tf2 := fun q => by rcases f2 TO q with e | e; exact d9 e; exact (a2 TO e).2.1 rfl
        sep1_2 := fun q => by rcases f2 i1 q with e | e; exact d10 e; exact (a2 i1 e).2.2.1 rfl
        sep2_1 := fun q => by rcases f1 i2 q with e | e; exact d10 e.symm; exact (a1 i2 e).2.2.2 rfl }
    have lx : i < xs.length := (List.getElem?_eq_some_iff.mp hx).1
    have ly : i < ys.length := (List.getElem?_eq_some_iff.mp hy).1
    have hzl : z < s.heap.objs.size := Heap.lt_size hz
    refine wpAny_pyNext_zipD2_item Z D1 D2 hz hTI hTO (g1 i s1) (g2 i s2) lx ly fun u1 u2 h' tk p1 p2 z' TO' s1' s2' hT hsz hk => ?_
    obtain ⟨v1, e1, ru⟩ := r1 i u1 p1
    obtain ⟨v2, e2, ru2⟩ := r2 i u2 p2
    have ev1 : v1 = x := Option.some.inj (e1.symm.trans hx)
    have ev2 : v2 = y := Option.some.inj (e2.symm.trans hy)
    subst ev1 ev2
    refine ⟨_, rfl, wpAny_letOwnedTupleGo_zip (s := { s with heap := h', toks := tk }) z' fun h'' z'' sb => ?_⟩
    have hT2 : h''.get? s.heap.objs.size = some { cls := .type "tuple", data := .seq #[u1, u2] } := (sb.2 _ (Nat.ne_of_gt hzl)).trans hT
    have new : ObjOk X.prog X.w (upd H s.heap.objs.size (.tup [v1, v2])) h'' s.heap.objs.size (.tup [v1, v2]) :=
      ⟨by show 2 ≤ sizeLine; decide, [u1, u2], .cons ru (.cons ru2 .nil), ⟨_, hT2, rfl, _, rfl⟩⟩
    have I1 : Inv X pins σ (upd H s.heap.objs.size (.tup [v1, v2])) { s with heap := h'', toks := tk } :=
      I.turnedNew (t' := tk) (ch := [z, TI, TO, i1, i2]) (fun c o hb q => (sb.2 c (fun q' => hb (by simp [q']))).trans (hk c o (fun q' => hb (by simp [q'])) (fun q' => hb (by simp [q'])) (fun q' => hb (by simp [q'])) (fun q' => hb (by simp [q'])) q)) hf (Nat.le_refl _) new
    refine ⟨.ref s.heap.objs.size, _, I1, rfl, ⟨_, v1, v2, rfl, I.hok.fresh (Nat.le_refl _), rfl, fun l hl => by rw [SK.inj I hl hqx]; exact hx, fun l hl => by rw [SK.inj I hl hqy]; exact hy⟩, ⟨z'', ?_, ⟨u1, u2, ?_⟩, ?_, ?_⟩, fun c hcm => ?_⟩
    · exact (sb.2 _ d1).trans (hk _ _ d1 d3 d4 d5 hTI)
    · exact (sb.2 _ d2).trans TO'
    · exact SK.iter_keep (b1 _ _ s1') fun o q => (sb.2 _ d6.symm).trans q
    · exact SK.iter_keep (b2 _ _ s2') fun o q => (sb.2 _ d7.symm).trans q
    · have hlt : c < s.heap.objs.size := by
        have e' : c = z ∨ c = TI ∨ c = TO ∨ c = i1 ∨ c = i2 := by simpa using hcm
        rcases e' with q | q | q | q | q
        · rw [q]; exact hzl
        · rw [q]; exact Heap.lt_size hTI
        · rw [q]; exact Heap.lt_size hTO
        · rw [q]; obtain ⟨_, e, _⟩ := SK.iter_obj s1; exact Heap.lt_size e
        · rw [q]; obtain ⟨_, e, _⟩ := SK.iter_obj s2; exact Heap.lt_size e
      rw [upd_ne (Nat.ne_of_lt hlt)]
      exact (hf c hcm).1
  done := by
    intro X hP hw hK hc i pins s σ H E I hf st hg
    subst hP hw hK
    obtain ⟨hz, hTI, ⟨x0, y0, hTO⟩, s1, s2⟩ := st
    obtain ⟨xs, ys, hqx, hqy, hlx, hly, hend⟩ := hg
    obtain ⟨fp1, P1, S1, D1, g1, b1, r1, m1, f1⟩ := SK.draws I hc hqx fun c q => (a1 c q).2.2.1
    obtain ⟨fp2, P2, S2, D2, g2, b2, r2, m2, f2⟩ := SK.draws I hc hqy fun c q => (a2 c q).2.2.2
    have Z : ZipSep2 z TI TO i1 i2 fp1 fp2 :=
      { TIz := d1, TOz := d2, TITO := d3, TIi1 := d4, mem1 := m1, TIi2 := d5, mem2 := m2,
        zf1 := fun q => by rcases f1 z q with e | e; exact d6 e; exact (a1 z e).1 rfl
        Tf1 := fun q => by rcases f1 TO q with e | e; exact d8 e; exact (a1 TO e).2.1 rfl
        zf2 := fun q => by rcases f2 z q with e | e; exact d7 e; exact (a2 z e).1 rfl
        Tf2 := fun q => by rcases f2 TO q with e | e; exact d9 e; exact (a2 TO e).2.1 rfl
        sep1_2 := fun q => by rcases f2 i1 q with e | e; exact d10 e; exact (a2 i1 e).2.2.1 rfl
        sep2_1 := fun q => by rcases f1 i2 q with e | e; exact d10 e.symm; exact (a1 i2 e).2.2.2 rfl }
    exact wpAny_pyNext_zipD2_end Z D1 D2 hz hTI hTO (g1 i s1) (g2 i s2) hlx hly hend fun h' tk hk => ⟨rfl, I.turnedL (t' := tk) (ch := [z, TI, TO, i1, i2]) (fun c o hb q =>
      hk c o (fun q' => hb (by simp [q'])) (fun q' => hb (by simp [q'])) (fun q' => hb (by simp [q'])) (fun q' => hb (by simp [q'])) q) hf⟩
  self := fun A i s Q E st h => wpAny_pyIter_zip st.1 h
def iZipG (K : PySem.W.Frag) (ta : TA) : TI := fun σ H R => ta σ H fun vs H1 => ∃ (x y : V) (xs ys : List V), vs = [x, y] ∧ Src K H1 x xs ∧ Src K H1 y ys ∧
  ∀ k1 k2 : SK, k1.val = x → k2.val = y → k1.src K H1 xs → k2.src K H1 ys → R (ItzG K k1 k2) H1
/-- the kind of a value with items -/
theorem Src.kind {X : Cx} {pins : List (Addr × Obj)} {σ : St} {H : Hp} {s : Shared} {x : V} {u : Value} {xs : List V} (I : Inv X pins σ H s) (h : Src X.K H x xs) (r : RelV x u) :
    ∃ k : SK, k.val = x ∧ k.raw = u ∧ k.src X.K H xs ∧ (∀ c, k.at c → c < s.heap.objs.size) ∧ ∃ B : Heap → Prop, Begins u k.obj B ∧ B s.heap := by
  cases h with
  | @l a xs h =>
    cases (show u = Value.ref a from r)
    obtain ⟨its, rv, p, _⟩ := I.list h
    exact ⟨.l a, rfl, rfl, h, fun c e => by rw [show c = a from e]; exact p.lt, _, begins_list a its.toArray, p.isList⟩
  | @t a xs h =>
    cases (show u = Value.ref a from r)
    obtain ⟨its, rv, p, _⟩ := I.tuple h
    have p' : s.heap.IsTuple a its.toArray := p
    exact ⟨.t a, rfl, rfl, h, fun c e => by rw [show c = a from e]; obtain ⟨o, e, _⟩ := p'; exact Heap.lt_size e, _, begins_tuple a its.toArray, p'⟩
  | @s z xs h =>
    obtain ⟨t, rfl⟩ := (show ∃ t, u = Value.str z t from r)
    exact ⟨.s z t, rfl, rfl, h, fun c e => False.elim e, _, begins_text z t, trivial⟩
theorem SK.begun {k : SK} {it : Addr} {h : Heap} (e : h.get? it = some k.obj) : k.iter it 0 h := by
  cases k with
  | l a => exact ⟨_, e, rfl, rfl⟩
  | t a => exact ⟨_, e, rfl, rfl⟩
  | s x t => exact ⟨_, e, rfl, rfl⟩
theorem neN {a b : Nat} (h : a < b ∨ b < a) : a ≠ b := by omega
theorem pi_zipG {X : Cx} {e e2 : Expr} {ta : TA} {p pos tpos : Pos} {elts : List Expr} {kk : Nat} (hg : Gl X "zip") (hm : X.mg "zip" = none) (ha : PA X [e, e2] ta)
    (hs : starEach [e, e2] X.env = (false, eval e X.env) :: starEach [e2] X.env := by rfl) (hpl : (backTo pos (starEach [e2] X.env)).any (·.1) = false := by rfl) :
    PI X (.Tuple elts kk tpos) (.Call (.Name "zip" p) [e, e2] [] pos) (iZipG X.K ta) := by
  refine ⟨fun pins s σ H R I h => ?_⟩
  refine Call_ (ld_blt I hg hm PyProof.Rows.boot_zip (PyProof.Rows.callWith_type1 (thn (ha.run pos pins s σ H _ I h) fun us s1 ⟨vs, H1, I1, r1, q1⟩ => ?_) hs hpl))
  obtain ⟨x, y, xs, ys, ex, sx, sy, q⟩ := q1
  subst ex
  cases r1 with
  | cons r rr =>
    cases rr with
    | cons r' rr =>
      cases rr
      obtain ⟨k1, ev1, _, src1, lt1, B1, b1, hb1⟩ := sx.kind I1 r
      obtain ⟨k2, ev2, _, src2, lt2, B2, b2, hb2⟩ := sy.kind I1 r'
      have fresh5 : ∀ c, c ∈ [s1.heap.objs.size + 4, s1.heap.objs.size + 2, s1.heap.objs.size + 3, s1.heap.objs.size, s1.heap.objs.size + 1] → FpOk X pins H1 c := fun c hcm => by
        have e' : c = s1.heap.objs.size + 4 ∨ c = s1.heap.objs.size + 2 ∨ c = s1.heap.objs.size + 3 ∨ c = s1.heap.objs.size ∨ c = s1.heap.objs.size + 1 := by simpa using hcm
        have hle : s1.heap.objs.size ≤ c := by omega
        exact I1.fpOk hle (I1.hok.fresh hle)
      refine zip_begins2 b1 b2 hb1 hb2 fun h' hz hTI hTO h1 h2 hsz hk => wpAny_pyIter_zip hz ?_
      have I2 : Inv X pins σ H1 { s1 with heap := h' } := I1.kept (t' := s1.toks) hk
      have TT := turn_zipG (P := X.prog) (w := X.w) (K := X.K) (elts := elts) (kk := kk) (tpos := tpos) (z := s1.heap.objs.size + 4) (TI := s1.heap.objs.size + 2) (TO := s1.heap.objs.size + 3) (i1 := s1.heap.objs.size) (i2 := s1.heap.objs.size + 1) (k1 := k1) (k2 := k2)
        (neN (by omega)) (neN (by omega)) (neN (by omega)) (neN (by omega)) (neN (by omega)) (neN (by omega)) (neN (by omega)) (neN (by omega)) (neN (by omega)) (neN (by omega))
        (fun c hc => have h : c < s1.heap.objs.size := lt1 c hc; ⟨Nat.ne_of_lt (Nat.lt_of_lt_of_le h (Nat.le_add_right _ _)), Nat.ne_of_lt (Nat.lt_of_lt_of_le h (Nat.le_add_right _ _)), Nat.ne_of_lt h, Nat.ne_of_lt (Nat.lt_of_lt_of_le h (Nat.le_add_right _ _))⟩) (fun c hc => have h : c < s1.heap.objs.size := lt2 c hc; ⟨Nat.ne_of_lt (Nat.lt_of_lt_of_le h (Nat.le_add_right _ _)), Nat.ne_of_lt (Nat.lt_of_lt_of_le h (Nat.le_add_right _ _)), Nat.ne_of_lt h, Nat.ne_of_lt (Nat.lt_of_lt_of_le h (Nat.le_add_right _ _))⟩)
      exact ⟨s1.heap.objs.size + 4, [s1.heap.objs.size + 4, s1.heap.objs.size + 2, s1.heap.objs.size + 3, s1.heap.objs.size, s1.heap.objs.size + 1], _, _, H1, rfl, I2, TT, ⟨hz, hTI, ⟨_, _, hTO⟩, SK.begun h1, SK.begun h2⟩, fresh5, q k1 k2 ev1 ev2 src1 src2⟩
theorem walk_zipG {K : PySem.W.Frag} {k1 k2 : SK} {xs ys : List V} {n : Nat} (hn : n = min xs.length ys.length) : Walk (ItzG K k1 k2) n (fun H => k1.src K H xs ∧ k2.src K H ys) (YPair (fun i => xs[i]?) (fun i => ys[i]?)) := by
  subst hn
  refine ⟨fun i _ hi q => ?_, fun _ q => ⟨xs, ys, q.1, q.2, by omega, by omega, by omega⟩, fun i H v H' _ q y => ?_⟩
  · have h1 : i < xs.length := by omega
    have h2 : i < ys.length := by omega
    exact ⟨xs, ys, xs[i], ys[i], q.1, q.2, by simp [h1], by simp [h2]⟩
  · obtain ⟨T, x, z, h1, h2, h3, h4, h5⟩ := y
    exact ⟨T, x, z, h1, h2, h3, h4 xs q.1, h5 ys q.2⟩
end L2
namespace FW
open PySem PySem.Spec PyProof.Rows L2
/-- the built-in names that stand as they were -/
structure Z (mg : Str → Option Value) : Prop where
  z_isinstance : mg "isinstance" = none
  z_str : mg "str" = none
  z_all : mg "all" = none
  z_any : mg "any" = none
  z_len : mg "len" = none
  z_int : mg "int" = none
  z_list : mg "list" = none
  z_abs : mg "abs" = none
  z_bool : mg "bool" = none
  z_tuple : mg "tuple" = none
  z_zip : mg "zip" = none
  z_range : mg "range" = none
  z_enumerate : mg "enumerate" = none
  z_sorted : mg "sorted" = none
  z_dict : mg "dict" = none
  z_set : mg "set" = none
  z_sum : mg "sum" = none
  z_min : mg "min" = none
  z_max : mg "max" = none
  z_reversed : mg "reversed" = none
  z_repr : mg "repr" = none
  z_ord : mg "ord" = none
section
variable {P : Program} {w : World} {K : PySem.W.Frag} {mg : Str → Option Value} {base : Heap}
/-- a value that is no text -/
def NotS (K : PySem.W.Frag) (H : Hp) (v : V) : Prop := ∃ T : String, TyX K H v (.type T) ∧ kitB T "str" = some false
def isStr : V → Bool
  | .str _ => true
  | _ => false
def strOf : V → Str
  | .str z => z
  | _ => ⟨#[]⟩
theorem str_of {v : V} (h : isStr v = true) : ∃ z, v = .str z := by
  cases v with
  | str z => exact ⟨z, rfl⟩
  | _ => exact absurd (show false = true from h) Bool.false_ne_true
theorem sz {n : Nat} (h : n ≤ 100000) : n ≤ sizeLine := Nat.le_trans h (by decide)
theorem sz1 {n : Nat} (h : n ≤ 100000) : n < sizeLine := Nat.lt_of_le_of_lt h (by decide)
def bString (v : V) (fs : Str) : Bool := isStr v && (strOf v).cps.toList.all fun c => decide (c ∈ fs.cps.toList)
def sp_is_string (K : PySem.W.Frag) : Sp := fun vs H Q _ => ∃ (v : V) (fs : Str), vs = [v, .str fs] ∧ ((isStr v = true ∧ (strOf v).cps.size ≤ 100000) ∨ (isStr v = false ∧ NotS K H v)) ∧ ∀ H', Same H H' → Q (.bl (bString v fs)) H'
theorem NotS.same {H H' : Hp} {v : V} (n : NotS K H v) (q : ∀ T, TyX K H v T → TyX K H' v T) : NotS K H' v := let ⟨T, t, k⟩ := n; ⟨T, q _ t, k⟩
def bRoom (v : V) (fs : Str) : Bool := bString v fs && decide ((strOf v).cps.size = 4)
def sp_is_room (K : PySem.W.Frag) : Sp := fun vs H Q _ => ∃ (v : V) (fs : Str), vs = [v, .str fs] ∧ ((isStr v = true ∧ (strOf v).cps.size ≤ 100000) ∨ (isStr v = false ∧ NotS K H v)) ∧ ∀ H', Same H H' → Q (.bl (bRoom v fs)) H'
def bCut (v : V) (fs : Str) : Bool := isStr v && decide ((strOf v).cps.size = 3) && decide ((strOf v).cps.toList.getD 0 0 ∈ ("|-" : Str).cps.toList) && ((strOf v).cps.toList.drop 1).all fun c => decide (c ∈ fs.cps.toList)
def sp_is_cut (K : PySem.W.Frag) : Sp := fun vs H Q _ => ∃ (v : V) (fs : Str), vs = [v, .str fs] ∧ ((isStr v = true ∧ (strOf v).cps.size ≤ 100000) ∨ (isStr v = false ∧ NotS K H v)) ∧ ∀ H', Same H H' → Q (.bl (bCut v fs)) H'
theorem cutS_from {z : Str} (h : 1 ≤ z.cps.size) : cutS z (some 1) none = ⟨(z.cps.toList.drop 1).toArray⟩ := by
  unfold cutS
  rw [HT.sIx_none, show HT.sIx z.length 0 (some 1) = min 1 z.length from HT.sIx_nat z.length 0 1]
  have e : min 1 z.length = 1 := Nat.min_eq_left h
  rw [e, List.take_of_length_le]
  simp [Str.length]
def S4 (a b c d : Nat) : Str := ⟨#[a, b, c, d]⟩
def S3 (a b c : Nat) : Str := ⟨#[a, b, c]⟩
/-- both parts of a room by a cut; the codes of the signs: 124 upright -/
def partsC (n e s w sg x y : Nat) : List Str := if sg = 124 then [S4 n x s w, S4 n e s y] else [S4 n e x w, S4 y e s w]
def sp_parts_of (K : PySem.W.Frag) : Sp := fun vs H Q _ => ∃ (n e s w : Nat) (cut : Str), vs = [.str (S4 n e s w), .str cut] ∧
  ((cut = ("" : Str) ∧ ∀ p, H p = none → Q (.ref p) (upd H p (.lst [.str (S4 n e s w)]))) ∨ ∃ sg x y, cut = S3 sg x y ∧ ∀ p, H p = none → Q (.ref p) (upd H p (.lst ((partsC n e s w sg x y).map V.str))))
def Bag (H : Hp) (b l : Addr) : Prop := ∃ (ns : List Int) (i r m c : Int), H b = some (.lst [.ref l, .int i, .int r, .int m, .int c]) ∧ H l = some (.lst (ns.map V.int)) ∧ ns.length ≤ 1000 ∧ 0 ≤ i ∧ 0 ≤ m ∧ m < 2147483648
theorem bag_ne {l : Addr} {ns : List Int} {i r m c : Int} : HO.lst (ns.map V.int) ≠ HO.lst [.ref l, .int i, .int r, .int m, .int c] := by
  intro e
  have e1 := HO.lst.inj e
  cases ns with
  | nil => cases e1
  | cons n ns =>
    have e2 := List.head_eq_of_cons_eq e1
    cases e2
theorem Bag.same {H H' : Hp} {b l : Addr} (B : Bag H b l) (s : Same H H') : Bag H' b l := by
  obtain ⟨ns, i, r, m, c, h1, h2, q⟩ := B
  exact ⟨ns, i, r, m, c, s _ _ h1, s _ _ h2, q⟩
theorem Bag.la {H : Hp} {b l : Addr} (B : Bag H b l) : ∃ xs, H b = some (.lst xs) := let ⟨_, _, _, _, _, h, _⟩ := B; ⟨_, h⟩
theorem Bag.lb {H : Hp} {b l : Addr} (B : Bag H b l) : ∃ xs, H l = some (.lst xs) := let ⟨_, _, _, _, _, _, h, _⟩ := B; ⟨_, h⟩
/-- what is new is not the bag -/
theorem Bag.ne {H : Hp} {b l p : Addr} (B : Bag H b l) (h : H p = none) : p ≠ b := fun e => by
  obtain ⟨xs, h1⟩ := B.la
  rw [e, h1] at h
  cases h
theorem Bag.ne2 {H : Hp} {b l p : Addr} (B : Bag H b l) (h : H p = none) : p ≠ l := fun e => by
  obtain ⟨xs, h1⟩ := B.lb
  rw [e, h1] at h
  cases h
/-- another object changes -/
theorem Bag.upd {H : Hp} {b l p : Addr} {o : HO} (B : Bag H b l) (h1 : p ≠ b) (h2 : p ≠ l) : Bag (L2.upd H p o) b l := by
  obtain ⟨ns, i, r, m, c, g1, g2, q⟩ := B
  exact ⟨ns, i, r, m, c, by rw [upd_ne h1.symm]; exact g1, by rw [upd_ne h2.symm]; exact g2, q⟩
def sp__law_open (K : PySem.W.Frag) : Sp := fun vs H Q _ => ∃ (a : Addr) (ns : List Int), vs = [.ref a] ∧ SqL K H a (ns.map V.int) ∧ ns.length ≤ 63 ∧ ∀ H' b l, H b = none → H l = none → Same H H' → Bag H' b l → Q (.ref b) H'
theorem cutV_to {xs : List V} {k : Nat} : cutV xs none (some (k : Int)) = xs.take k := by
  unfold cutV
  rw [HT.sIx_none, HT.sIx_nat]
  show List.take (min k xs.length - 0) (List.drop 0 xs) = _
  rw [List.drop_zero, Nat.sub_zero, List.take_eq_take_iff]
  omega
def sp__law_draw (K : PySem.W.Frag) : Sp := fun vs H Q _ => ∃ (b l : Addr) (k : Int), vs = [.ref b, .int k] ∧ Bag H b l ∧ 0 < k ∧ k < 1073741824 ∧ ∀ H' z, 0 ≤ z → z < k → But b H H' → Bag H' b l → Q (.int z) H'
/-- behind the first part of a draw -/
def BagAt (H0 H : Hp) (b l : Addr) (ns : List Int) : Prop := But b H0 H ∧ H l = some (.lst (ns.map V.int)) ∧ ∃ i r m c : Int, H b = some (.lst [.ref l, .int i, .int r, .int m, .int c]) ∧ 0 ≤ i ∧ 0 ≤ m ∧ m < 2147483648
abbrev S (l : List Nat) : Str := ⟨l.toArray⟩
theorem S_cat (a b : List Nat) : S a ++ S b = S (a ++ b) := SX.S_cat a b
theorem S_len (a : List Nat) : (S a).length = a.length := SX.S_len a
theorem S_tl (x : Str) : S x.cps.toList = x := SX.S_tl x
theorem atI_of {α : Type} {xs : List α} {z : Int} {j : Nat} {v : α} (e : z = (j : Int)) (h : xs[j]? = some v) : atI xs z = some v := by
  rw [e]
  exact atI_nat h
theorem S_sub (l : List Nat) (i : Nat) : cutS (S l) (some (i : Int)) none = S (l.drop i) := by
  unfold cutS
  rw [HT.sIx_none, HT.sIx_nat]
  show (⟨(List.take ((S l).length - min i (S l).length) (List.drop (min i (S l).length) l)).toArray⟩ : Str) = ⟨(l.drop i).toArray⟩
  rw [S_len]
  have e : List.take (l.length - min i l.length) (List.drop (min i l.length) l) = l.drop i := by
    by_cases h : i ≤ l.length
    · rw [Nat.min_eq_left h]
      exact List.take_of_length_le (by rw [List.length_drop]; exact Nat.le_refl _)
    · rw [Nat.min_eq_right (by omega), List.drop_eq_nil_of_le (as := l) (i := i) (by omega)]
      simp
  rw [e]
theorem S_to (l : List Nat) (i : Nat) : cutS (S l) none (some (i : Int)) = S (l.take i) := by
  unfold cutS
  rw [HT.sIx_none, HT.sIx_nat]
  show (⟨(List.take (min i (S l).length - 0) (List.drop 0 l)).toArray⟩ : Str) = ⟨(l.take i).toArray⟩
  rw [S_len, List.drop_zero, Nat.sub_zero]
  have e : List.take (min i l.length) l = l.take i := by
    rw [List.take_eq_take_iff]
    omega
  rw [e]
def Items (K : PySem.W.Frag) (H : Hp) (b : Addr) (x : V) (xs : List V) : Prop := (∃ a, a ≠ b ∧ x = .ref a ∧ SqL K H a xs) ∨ (∃ a, a ≠ b ∧ x = .ref a ∧ SqT K H a xs) ∨ ∃ l, x = .str (S l) ∧ xs = l.map sgn
def sp__law_of (K : PySem.W.Frag) : Sp := fun vs H Q _ => ∃ (b l : Addr) (x : V) (xs : List V), vs = [.ref b, x] ∧ Bag H b l ∧ Items K H b x xs ∧ 0 < xs.length ∧ xs.length ≤ 100000 ∧ ∀ H' v, v ∈ xs → But b H H' → Bag H' b l → Q v H'
mutual
/-- data that nest at most so deep -/
def Deep : Nat → PyData → Prop
  | _, .none => True
  | _, .bool _ => True
  | _, .int _ => True
  | _, .str _ => True
  | 0, .list _ => False
  | 0, .tuple _ => False
  | n + 1, .list ds => ds.length ≤ 1000 ∧ ∀ d ∈ ds, Deep n d
  | n + 1, .tuple ds => ds.length ≤ 1000 ∧ ∀ d ∈ ds, Deep n d
  | _, .dict _ => False
end
def sp__law_same (K : PySem.W.Frag) (n : Nat) : Sp := fun vs H Q _ => ∃ (x y : V) (d : PyData), vs = [x, y] ∧ Dp K H x d ∧ Dp K H y d ∧ Deep n d ∧ ∀ H', Same H H' → Q (.bl true) H'
theorem tyL {H : Hp} {a : Addr} {xs : List V} (h : SqL K H a xs) : TyX K H (.ref a) (.type "list") := by
  rcases h with (h | ⟨o, h⟩) | ⟨o, its, n, h, c, _⟩
  · exact .base (.lst h)
  · exact .base (.frz h)
  · exact .kList h c
theorem tyT {H : Hp} {a : Addr} {xs : List V} (h : SqT K H a xs) : TyX K H (.ref a) (.type "tuple") := by
  rcases h with (h | ⟨o, h⟩) | ⟨o, its, n, h, c, _⟩
  · exact .base (.tup h)
  · exact .fTuple h
  · exact .kTuple h c
theorem Dp.same {H H' : Hp} (s : Same H H') : ∀ {v : V} {d : PyData}, Dp K H v d → Dp K H' v d := by
  intro v d h
  exact @Dp.rec K H (fun v d _ => Dp K H' v d) (fun vs ds _ => DpAll K H' vs ds) .non (fun b => .bl b) (fun i => .int i) (fun x => .str x) (fun h _ ih => .lst (s.seq h) ih) (fun h _ ih => .tup (s.tup h) ih) .nil (fun _ _ i1 i2 => .cons i1 i2) v d h
theorem DpAll.same {H H' : Hp} (s : Same H H') : ∀ {vs : List V} {ds : List PyData}, DpAll K H vs ds → DpAll K H' vs ds
  | _, _, .nil => .nil
  | _, _, .cons h t => .cons (Dp.same s h) (DpAll.same s t)
theorem DpAll.len {H : Hp} : ∀ {vs : List V} {ds : List PyData}, DpAll K H vs ds → vs.length = ds.length
  | _, _, .nil => rfl
  | _, _, .cons _ t => congrArg (· + 1) (DpAll.len t)
theorem DpAll.at {H : Hp} : ∀ {vs : List V} {ds : List PyData} {i : Nat} {v : V}, DpAll K H vs ds → vs[i]? = some v → ∃ d, ds[i]? = some d ∧ Dp K H v d
  | _, _, _, _, .nil, e => by simp at e
  | _, _, 0, v, .cons h _, e => by
    have e1 := Option.some.inj (show some _ = some v from e)
    exact ⟨_, rfl, e1 ▸ h⟩
  | _, _, i + 1, v, .cons _ t, e => DpAll.at (i := i) t e
theorem walk_zipT {a b : Addr} {xs ys : List V} {n : Nat} (hn : n = min xs.length ys.length) : Walk (RZ.ItzT K a b) n (fun H => SqT K H a xs ∧ SqT K H b ys) (YPair (fun i => xs[i]?) (fun i => ys[i]?)) := by
  subst hn
  refine ⟨fun i _ hi q => ?_, fun _ q => ⟨xs, ys, q.1, q.2, by omega⟩, fun i H v H' _ q y => ?_⟩
  · have h1 : i < xs.length := by omega
    have h2 : i < ys.length := by omega
    exact ⟨xs, ys, xs[i], ys[i], q.1, q.2, by simp [h1], by simp [h2]⟩
  · obtain ⟨T, x, z, h1, h2, h3, h4, h5⟩ := y
    exact ⟨T, x, z, h1, h2, h3, h4 xs q.1, h5 ys q.2⟩
/-- the answers of isinstance(x, (list, tuple)) -/
theorem kitAny_lt {T : String} {r1 r2 : Bool} (h1 : kitB T "list" = some r1) (h2 : kitB T "tuple" = some r2) : PySem.W.kitAny K (.type T) [.type "list", .type "tuple"] = some (r1 || r2) := by
  refine kitAny_cons (kit_ty h1) (fun e => ?_) (fun e => by rw [e]; rfl)
  subst e
  refine kitAny_cons (kit_ty h2) (fun e => ?_) (fun e => by rw [e]; rfl)
  subst e
  rfl
theorem seq_but {H H' : Hp} {D a : Addr} {xs : List V} (nD : ∀ c u, H c = some u → c ≠ D) (bt : But D H H') (h : SqL K H a xs) : SqL K H' a xs := by
  rcases h with (h | ⟨o, h⟩) | h
  · exact .inl (.inl (bt _ _ (nD _ _ h) h))
  · exact .inl (.inr ⟨o, bt _ _ (nD _ _ h) h⟩)
  · exact .inr h
theorem tup_but {H H' : Hp} {D a : Addr} {xs : List V} (nD : ∀ c u, H c = some u → c ≠ D) (bt : But D H H') (h : SqT K H a xs) : SqT K H' a xs := by
  rcases h with (h | ⟨o, h⟩) | h
  · exact .inl (.inl (bt _ _ (nD _ _ h) h))
  · exact .inl (.inr ⟨o, bt _ _ (nD _ _ h) h⟩)
  · exact .inr h
theorem nk_false {k : Nat} {f : Addr} {fd : FuncData} {ps : List Str} : FnOk P w K mg base CX0 k f fd ps (fun _ _ _ _ => False) := ⟨fun _ _ _ _ h => h.elim, fun _ _ _ _ _ _ _ _ _ _ _ _ _ h => h.elim⟩
def sp__law_letters (K : PySem.W.Frag) : Sp := fun vs H Q _ => ∃ (b lb : Addr) (L : List Nat) (k : Nat), vs = [.ref b, .str (S L), .int k] ∧ Bag H b lb ∧ k ≤ L.length ∧ L.length ≤ 1000 ∧ ∀ H' r, List.Sublist r L → r.length = k → But b H H' → Bag H' b lb → Q (.str (S r)) H'
theorem sub_next {L r : List Nat} {low z : Nat} (h : List.Sublist r (L.take low)) (hl : low ≤ z) (hz : z < L.length) : List.Sublist (r ++ [L[z]]) (L.take (z + 1)) := by
  rw [List.take_add_one, List.getElem?_eq_getElem hz]
  refine List.Sublist.append ?_ (List.Sublist.refl _)
  exact h.trans (List.take_sublist_take_left hl)
def lower : List Nat := ("abcdefghijklmnopqrstuvwxyz" : Str).cps.toList
def sp__law_some_faces (K : PySem.W.Frag) : Sp := fun vs H Q _ => ∃ (b lb : Addr) (m : Nat), vs = [.ref b, .int m] ∧ Bag H b lb ∧ 0 < m ∧ m ≤ 26 ∧ ∀ H' r, List.Sublist r lower → 0 < r.length → r.length ≤ m → But b H H' → Bag H' b lb → Q (.str (S r)) H'
theorem lower_len : lower.length = 26 := by decide +kernel
/-- a sign of a text -/
theorem of_str {H : Hp} {b : Addr} {l : List Nat} {v : V} (h : v ∈ l.map sgn) : ∃ c ∈ l, v = sgn c := by
  obtain ⟨c, hc, e⟩ := List.mem_map.mp h
  exact ⟨c, hc, e.symm⟩
def sp__law_some_room (K : PySem.W.Frag) : Sp := fun vs H Q _ => ∃ (b lb : Addr) (fs : List Nat), vs = [.ref b, .str (S fs)] ∧ Bag H b lb ∧ 0 < fs.length ∧ fs.length ≤ 100 ∧ ∀ H' n e s w, n ∈ fs → e ∈ fs → s ∈ fs → w ∈ fs → But b H H' → Bag H' b lb → Q (.str (S4 n e s w)) H'
def sp__law_some_cut (K : PySem.W.Frag) : Sp := fun vs H Q _ => ∃ (b lb : Addr) (fs : List Nat), vs = [.ref b, .str (S fs)] ∧ Bag H b lb ∧ 0 < fs.length ∧ fs.length ≤ 100 ∧ ∀ H' g x y, (g = 124 ∨ g = 45) → x ∈ fs → y ∈ fs → But b H H' → Bag H' b lb → Q (.str (S3 g x y)) H'
def sp__law_string (K : PySem.W.Frag) : Sp := fun vs H Q _ => ∃ (b lb : Addr) (fs : List Nat) (m : Nat), vs = [.ref b, .str (S fs), .int m] ∧ Bag H b lb ∧ 0 < fs.length ∧ fs.length ≤ 100 ∧ m ≤ 1000 ∧ ∀ H' r, (∀ c ∈ r, c ∈ fs) → r.length ≤ m → But b H H' → Bag H' b lb → Q (.str (S r)) H'
theorem joinL_ones : ∀ r : List Nat, TL.joinL [] (r.map fun c => [c]) = r
  | [] => rfl
  | [c] => rfl
  | c :: d :: r => by
    show [c] ++ ([] ++ TL.joinL [] ((d :: r).map fun c => [c])) = c :: d :: r
    rw [joinL_ones (d :: r)]
    rfl
theorem join_ones (r : List Nat) : Txt.join (S []) ((r.map fun c => [c]).map S) = S r := by
  rw [SX.join_S, joinL_ones]
theorem lens_ones (r : List Nat) : (((r.map fun c => [c]).map S).map (·.length)).sum = r.length := by
  induction r with
  | nil => rfl
  | cons c r ih =>
    rw [List.map_cons, List.map_cons, List.map_cons, List.sum_cons, ih, List.length_cons]
    show 1 + r.length = r.length + 1
    omega
def sp__law_split (K : PySem.W.Frag) : Sp := fun vs H Q _ => ∃ (n e s w sg x y : Nat), vs = [.str (S4 n e s w), .str (S3 sg x y)] ∧ ∀ p, H p = none → Q (.ref p) (upd H p (.lst ((partsC n e s w sg x y).map V.str)))
theorem sub4_1 {a b c d : Nat} : cutS (S4 a b c d) (some 1) none = S [b, c, d] := S_sub [a, b, c, d] 1
theorem sub4_2 {a b c d : Nat} : cutS (S4 a b c d) (some 2) none = S [c, d] := S_sub [a, b, c, d] 2
theorem to4_2 {a b c d : Nat} : cutS (S4 a b c d) none (some 2) = S [a, b] := S_to [a, b, c, d] 2
theorem to4_3 {a b c d : Nat} : cutS (S4 a b c d) none (some 3) = S [a, b, c] := S_to [a, b, c, d] 3
def swp {α : Type} : List α → List α → List α
  | [], [a, b] => [b, a]
  | _, _ => []
theorem swp_vals {vs : List V} {us : List Value} {zs : List V} {ws : List Value} (r : Vals vs us) (q : Vals zs ws) : Vals (swp vs zs) (swp us ws) := by
  cases r with
  | cons _ _ => exact .nil
  | nil =>
    cases q with
    | nil => exact .nil
    | cons q1 t =>
      cases t with
      | nil => exact .nil
      | cons q2 t =>
        cases t with
        | nil => exact .cons q2 (.cons q1 .nil)
        | cons _ _ => exact .nil
theorem kb_swap {K : PySem.W.Frag} {x : Str} {st : Stmt} {p1 p2 : Str}
    (h : ∀ (kV doc pm : Value) (an : Option Addr) (cdv ct : Value) (u v : Value), bindArgs (PySem.W.fnOf x x (defArgs st) (defBody st) (defScope st) .none kV doc pm an cdv ct) ⟨[], [(p2, u), (p1, v)]⟩ = pure [(p1, v), (p2, u)]) :
    KB K x st [p1, p2] [p2, p1] swp swp := by
  intro f fd F
  obtain ⟨oc, od, kV, doc, pm, an, cdv, ct, osl, rfl, lk, hcd⟩ := F.ex
  refine ⟨fun s us ws _ hl => ?_, fun r q => swp_vals r q⟩
  match us, ws, hl with
  | [], [u, v], _ => exact .of_eq (h kV doc pm an cdv ct u v)
  | [], [], hl => exact absurd (show 0 = 2 from hl) (by decide)
  | [], [_], hl => exact absurd (show 0 = 2 from hl) (by decide)
  | [], _ :: _ :: _ :: _, hl => exact absurd (show 0 = 2 from hl) (by decide)
  | _ :: _, ws, hl => exact absurd (show 0 = 2 from hl) (by decide)
structure St3 (H : Hp) (b l g : Addr) (gl : List Nat) : Prop where
  bag : Bag H b l
  gn : H g = some (.lst (gl.map sgn))
  gb : g ≠ b
  gz : g ≠ l
theorem St3.same (s : St3 H b l g gl) (q : Same H H') : St3 H' b l g gl := ⟨s.bag.same q, q _ _ s.gn, s.gb, s.gz⟩
theorem St3.new (s : St3 H b l g gl) (n : H p = none) : St3 (upd H p o) b l g gl := s.same (same_upd n)
theorem St3.drawn (s : St3 H b l g gl) (q : But b H H') (B : Bag H' b l) : St3 H' b l g gl := ⟨B, q _ _ s.gb s.gn, s.gb, s.gz⟩
/-- a value that is no text, by the heap -/
def NS (H : Hp) (v : V) : Prop := v = .non ∨ (∃ i, v = .int i) ∨ (∃ c, v = .bl c) ∨ (∃ p xs, v = .ref p ∧ H p = some (.lst xs)) ∨ ∃ p xs, v = .ref p ∧ H p = some (.tup xs)
theorem NS.same {H H' : Hp} {v : V} (n : NS H v) (q : Same H H') : NS H' v := by
  rcases n with e | e | e | ⟨p, xs, e, h⟩ | ⟨p, xs, e, h⟩
  · exact .inl e
  · exact .inr (.inl e)
  · exact .inr (.inr (.inl e))
  · exact .inr (.inr (.inr (.inl ⟨p, xs, e, q _ _ h⟩)))
  · exact .inr (.inr (.inr (.inr ⟨p, xs, e, q _ _ h⟩)))
theorem NS.not {K : PySem.W.Frag} {H : Hp} {v : V} (n : NS H v) : isStr v = false ∧ NotS K H v := by
  rcases n with rfl | ⟨i, rfl⟩ | ⟨c, rfl⟩ | ⟨p, xs, rfl, h⟩ | ⟨p, xs, rfl, h⟩
  · exact ⟨rfl, "NoneType", .base .non, by decide +kernel⟩
  · exact ⟨rfl, "int", .base (.int i), by decide +kernel⟩
  · exact ⟨rfl, "bool", .base (.bl c), by decide +kernel⟩
  · exact ⟨rfl, "list", .base (.lst h), by decide +kernel⟩
  · exact ⟨rfl, "tuple", .base (.tup h), by decide +kernel⟩
theorem NS.b {H : Hp} {v : V} (n : NS H v) (fs : Str) : bString v fs = false ∧ bRoom v fs = false ∧ bCut v fs = false := by
  have e := (n.not (K := default)).1
  refine ⟨?_, ?_, ?_⟩
  · unfold bString
    rw [e]
    rfl
  · unfold bRoom bString
    rw [e]
    rfl
  · unfold bCut
    rw [e]
    rfl
theorem mem_all {l fs : List Nat} (h : ∀ c ∈ l, c ∈ fs) : (l.all fun c => decide (c ∈ fs)) = true := by
  rw [List.all_eq_true]
  intro c hc
  exact decide_eq_true (h c hc)
theorem not_all {l fs : List Nat} {c : Nat} (hc : c ∈ l) (h : c ∉ fs) : (l.all fun c => decide (c ∈ fs)) = false := by
  rw [List.all_eq_false]
  exact ⟨c, hc, by rw [decide_eq_false h]; exact Bool.false_ne_true⟩
theorem bString_yes {l fs : List Nat} (h : ∀ c ∈ l, c ∈ fs) : bString (.str (S l)) (S fs) = true := mem_all h
theorem bString_no {l fs : List Nat} {c : Nat} (hc : c ∈ l) (h : c ∉ fs) : bString (.str (S l)) (S fs) = false := not_all hc h
theorem bRoom_no {l fs : List Nat} {c : Nat} (hc : c ∈ l) (h : c ∉ fs) : bRoom (.str (S l)) (S fs) = false := by
  unfold bRoom
  rw [bString_no hc h]
  rfl
theorem bRoom_len {l fs : List Nat} (h : l.length ≠ 4) : bRoom (.str (S l)) (S fs) = false := by
  unfold bRoom
  rw [show decide ((strOf (.str (S l))).cps.size = 4) = false from decide_eq_false h, Bool.and_false]
theorem bRoom_is {l fs : List Nat} (h : ∀ c ∈ l, c ∈ fs) : bRoom (.str (S l)) (S fs) = decide (l.length = 4) := by
  unfold bRoom
  rw [bString_yes h]
  rfl
theorem bCut_S (l fs : List Nat) : bCut (.str (S l)) (S fs) = (decide (l.length = 3) && decide (l.getD 0 0 ∈ [124, 45]) && (l.drop 1).all fun c => decide (c ∈ fs)) := rfl
theorem bCut_yes {g x y : Nat} {fs : List Nat} (hg : g = 124 ∨ g = 45) (hx : x ∈ fs) (hy : y ∈ fs) : bCut (.str (S3 g x y)) (S fs) = true := by
  show bCut (.str (S [g, x, y])) (S fs) = true
  rw [bCut_S, show ([g, x, y].drop 1) = [x, y] from rfl, mem_all (by
    intro c hc
    rcases List.mem_cons.mp hc with e | e
    · rw [e]
      exact hx
    · rw [List.mem_singleton.mp e]
      exact hy)]
  rcases hg with rfl | rfl <;> rfl
theorem bCut_len {l fs : List Nat} (h : l.length ≠ 3) : bCut (.str (S l)) (S fs) = false := by
  rw [bCut_S, decide_eq_false h]
  rfl
theorem bCut_sign {g x y : Nat} {fs : List Nat} (h1 : g ≠ 124) (h2 : g ≠ 45) : bCut (.str (S [g, x, y])) (S fs) = false := by
  rw [bCut_S, show decide (([g, x, y] : List Nat).getD 0 0 ∈ [124, 45]) = false from decide_eq_false (by
    intro q
    rcases List.mem_cons.mp q with e | e
    · exact h1 e
    · exact h2 (List.mem_singleton.mp e)), Bool.and_false]
  rfl
theorem bCut_face {g x y c : Nat} {fs : List Nat} (hc : c = x ∨ c = y) (h : c ∉ fs) : bCut (.str (S [g, x, y])) (S fs) = false := by
  rw [bCut_S, show ([g, x, y].drop 1) = [x, y] from rfl, not_all (c := c) (by
    rcases hc with rfl | rfl
    · exact List.mem_cons_self
    · exact List.mem_cons_of_mem _ List.mem_cons_self) h, Bool.and_false]
/-- the letters that are none of few letters -/
theorem gone_pos : ∀ (L fs : List Nat), L.Nodup → L.length ≤ (L.filter fun c => !decide (c ∈ fs)).length + fs.length
  | L, [], _ => by
    rw [List.filter_eq_self.mpr (fun c _ => by simp)]
    exact Nat.le_add_right _ _
  | L, f :: fs, nd => by
    have ih := gone_pos L fs nd
    have h : (L.filter fun c => !decide (c ∈ fs)).length ≤ (L.filter fun c => !decide (c ∈ f :: fs)).length + 1 := by
      have e : (L.filter fun c => !decide (c ∈ f :: fs)) = (L.filter fun c => !decide (c ∈ fs)).filter fun c => !decide (c = f) := by
        rw [List.filter_filter]
        refine List.filter_congr fun c _ => ?_
        by_cases h1 : c = f
        · subst h1
          simp
        · by_cases h2 : c ∈ fs <;> simp [h1, h2]
      rw [e]
      have nd2 : (L.filter fun c => !decide (c ∈ fs)).Nodup := nd.filter _
      generalize (L.filter fun c => !decide (c ∈ fs)) = M at nd2
      clear e ih
      induction M with
      | nil => exact Nat.zero_le _
      | cons m M ihM =>
        have nd3 := List.nodup_cons.mp nd2
        rw [List.filter_cons]
        by_cases hm : m = f
        · subst hm
          have e2 : (M.filter fun c => !decide (c = m)) = M := List.filter_eq_self.mpr fun c hc => by
            have : c ≠ m := fun q => nd3.1 (q ▸ hc)
            simp [this]
          rw [if_neg (by simp), e2, List.length_cons]
          exact Nat.le_refl _
        · rw [if_pos (by simp [hm]), List.length_cons, List.length_cons]
          have := ihM nd3.2
          omega
    rw [List.length_cons]
    omega
theorem lower_nd : lower.Nodup := by decide +kernel
theorem low_range {c : Nat} (h : c ∈ lower) : 97 ≤ c ∧ c ≤ 122 := by
  have : ∀ c ∈ lower, 97 ≤ c ∧ c ≤ 122 := by decide +kernel
  exact this c h
/-- lists of truth values as data -/
theorem dp_bls {K : PySem.W.Frag} {H : Hp} : ∀ bs : List Bool, DpAll K H (bs.map V.bl) (bs.map PyData.bool)
  | [] => .nil
  | b :: bs => .cons (.bl b) (dp_bls bs)
theorem deep_bls {bs : List Bool} (h : bs.length ≤ 1000) : Deep 3 (.list (bs.map PyData.bool)) := by
  unfold Deep
  refine ⟨by rw [List.length_map]; exact h, fun d hd => ?_⟩
  obtain ⟨c, _, rfl⟩ := List.mem_map.mp hd
  unfold Deep
  trivial
theorem dp_strs {K : PySem.W.Frag} {H : Hp} : ∀ zs : List Str, DpAll K H (zs.map V.str) (zs.map PyData.str)
  | [] => .nil
  | b :: bs => .cons (.str b) (dp_strs bs)
theorem deep_list {n : Nat} {ds : List PyData} (h : ds.length ≤ 1000) (q : ∀ d ∈ ds, Deep n d) : Deep (n + 1) (.list ds) := by
  unfold Deep
  exact ⟨h, q⟩
theorem deep_strs {n : Nat} {zs : List Str} (h : zs.length ≤ 1000) : Deep (n + 1) (.list (zs.map PyData.str)) := by
  unfold Deep
  refine ⟨by rw [List.length_map]; exact h, fun d hd => ?_⟩
  obtain ⟨c, _, rfl⟩ := List.mem_map.mp hd
  unfold Deep
  trivial
theorem parts_len {n e s w g x y : Nat} : (partsC n e s w g x y).length = 2 := by
  unfold partsC
  split <;> rfl
theorem same_bls {H : Hp} {p p' : Addr} {bs : List Bool} {Q : VK} {E : XK} (h : H p = some (.lst (bs.map V.bl))) (h' : H p' = some (.lst (bs.map V.bl))) (hl : bs.length ≤ 1000) (q : ∀ H', Same H H' → Q (.bl true) H') : sp__law_same K 3 [.ref p, .ref p'] H Q E :=
  ⟨_, _, .list (bs.map PyData.bool), rfl, .lst (SqL.of h) (dp_bls bs), .lst (SqL.of h') (dp_bls bs), deep_bls hl, q⟩
end
end FW
namespace L2
open PySem PySem.Spec PySem.Calls PyProof.Rows
section
variable {X : Cx}
/-! ### a text backwards -/
def tRevS (te : TE) : TE := fun σ H Q => te σ H fun x H1 => ∃ z : Str, x = .str z ∧ z.length ≤ sizeLine ∧ Q (.str ⟨z.cps.toList.reverse.toArray⟩) H1
theorem rev_pick (z : Str) : (Builtin.Str.strSliceIndices none none (-1) z.length).filterMap (z.cps[·]?) = z.cps.toList.reverse := by
  have e : Builtin.Str.strSliceIndices none none (-1) z.length = (List.range z.cps.size).reverse := by
    unfold Builtin.Str.strSliceIndices
    show sliceRange ((z.cps.size : Int) - 1) (-1) (-1) = _
    rw [PySem.W.krv_sliceRange, PySem.W.krv_range]
  rw [e, List.filterMap_reverse]
  have h := PySem.W.krv_all z.cps
  rw [h]
theorem pe_revS {e : Expr} {te : TE} {k : Nat} {p1 p2 p3 pos : Pos} (he : PE X e te) : PE X (.Subscript e (.Slice none none (some (.UnaryOp .USub (.Constant (.int 1) k p1) p2)) p3) pos) (tRevS te) := by
  refine ⟨fun pins s σ H Q I h => ?_⟩
  refine Subscript_ (thn (he.run pins s σ H _ I h) fun v s1 ⟨x, H1, I1, r1, q1⟩ => ?_)
  obtain ⟨z, ex, hz, q⟩ := q1
  subst ex
  obtain ⟨t, rfl⟩ := r1
  have hst : PO X (some (.UnaryOp .USub (.Constant (.int 1) k p1) p2)) (tPart (tUn (rU fun i => .int (-i)) (tC (.int 1)))) := po_some (pe_un un_neg pe_int)
  refine wpAny_Slice (thn (po_none.run pins s1 σ H1 (fun o H2 => o = none ∧ H2 = H1) I1 ⟨rfl, rfl⟩) fun vl s2 ⟨l, H2, I2, pl, el, e2⟩ => ?_)
  subst el e2
  refine thn (po_none.run pins s2 σ H2 (fun o H3 => o = none ∧ H3 = H2) I2 ⟨rfl, rfl⟩) fun vu s3 ⟨u, H3, I3, pu, eu, e3⟩ => ?_
  subst eu e3
  refine thn (hst.run pins s3 σ H3 (fun o H4 => o = some (-1) ∧ H4 = H3) I3 ⟨1, rfl, -1, rfl, rfl, rfl⟩) fun vs s4 ⟨o, H4, I4, ps, eo, e4⟩ => ?_
  subst eo e4
  obtain ⟨lo, rfl, el⟩ := IsPart.raw pl
  obtain ⟨up, rfl, eu⟩ := IsPart.raw pu
  obtain ⟨st, rfl, es⟩ := IsPart.raw ps
  have I5 : Inv X pins σ H4 { s4 with heap := s4.heap.push { cls := .type "slice", data := .fields #[partValue lo, partValue up, partValue st] } } := I4.kept (t' := s4.toks) fun b ob q => Heap.get?_push_of_some _ q
  show wpAny (model X.prog X.w) X.A (subscriptTail e (.Slice none none (some (.UnaryOp .USub (.Constant (.int 1) k p1) p2)) p3) (.str z t) (.ref s4.heap.objs.size)) (EP X pins σ Q) X.xe { s4 with heap := s4.heap.push { cls := .type "slice", data := .fields #[partValue lo, partValue up, partValue st] } }
  refine tail_any (ops := [.str z t, .ref s4.heap.objs.size]) (typeIs_str _ z t) (PySem.F.slot_str_getitem.lookup) ?_ (by with_unfolding_all rfl)
  refine wpAny_getItem_str_slice (l := lo) (u := up) (st := st) ⟨_, Heap.get?_push_size _ rfl, rfl, rfl⟩ (by rw [es]; rfl) ?_
  have hl : z.cps.toList.reverse.length ≤ sizeLine := by
    rw [List.length_reverse, Array.length_toList]
    exact hz
  have em : PySem.sliceMade z t lo up st = Made.str ⟨z.cps.toList.reverse.toArray⟩ := by
    unfold PySem.sliceMade PySem.slicePicked
    rw [el, eu, es]
    show (if (((-1 : Int) == 1) && _) = true then _ else Made.str ⟨((Builtin.Str.strSliceIndices none none (-1) z.length).filterMap (z.cps[·]?)).toArray⟩) = _
    rw [rev_pick]
    rfl
  rw [em]
  exact ⟨by show z.cps.toList.reverse.toArray.size ≤ sizeLine; rw [List.size_toArray]; exact hl, .str _, H4, I5.tok _, ⟨_, rfl⟩, q⟩
end
end L2
namespace FW
open PySem PySem.Spec PyProof.Rows L2
section
variable {P : Program} {w : World} {K : PySem.W.Frag} {mg : Str → Option Value} {base : Heap}
/-! ### ascending choices of letters -/
def ascB : List Nat → Bool
  | [] => true
  | [_] => true
  | a :: b :: r => decide (a < b) && ascB (b :: r)
theorem asc_next : ∀ (l : List Nat) (i : Nat) (h : i + 1 < l.length), ascB (l.take (i + 1 + 1)) = (ascB (l.take (i + 1)) && decide (l[i] < l[i + 1]))
  | [], _, h => absurd h (Nat.not_lt_zero _)
  | [_], i, h => absurd h (by simp)
  | a :: b :: r, 0, h => by
    show (decide (a < b) && ascB [b]) = (true && decide (a < b))
    show (decide (a < b) && true) = (true && decide (a < b))
    rw [Bool.and_true, Bool.true_and]
  | a :: b :: r, i + 1, h => by
    have ih := asc_next (b :: r) i (by simpa using h)
    show (decide (a < b) && ascB ((b :: r).take (i + 1 + 1))) = ((decide (a < b) && ascB ((b :: r).take (i + 1))) && _)
    rw [ih, Bool.and_assoc]
    rfl
theorem asc_sorted : ∀ {l : List Nat}, l.Pairwise (· < ·) → ascB l = true
  | [], _ => rfl
  | [_], _ => rfl
  | a :: b :: r, h => by
    have h1 := List.pairwise_cons.mp h
    show (decide (a < b) && ascB (b :: r)) = true
    rw [decide_eq_true (h1.1 b List.mem_cons_self), asc_sorted h1.2]
    rfl
theorem lt_sgn (x y : Nat) : decide (([x] : List Nat) < [y]) = decide (x < y) := by
  by_cases h : x < y
  · rw [decide_eq_true h]
    exact decide_eq_true (List.Lex.rel h)
  · rw [decide_eq_false h]
    refine decide_eq_false fun q => h ?_
    cases q with
    | rel r => exact r
    | cons r => cases r
def bChoice (v : V) (L : List Nat) (m : Int) : Bool := isStr v && (decide ((1 : Int) ≤ ((strOf v).cps.size : Int)) && decide (((strOf v).cps.size : Int) ≤ m)) && ((strOf v).cps.toList.all fun c => decide (c ∈ L)) && ascB (strOf v).cps.toList
theorem bChoice_1 {z : Str} {L : List Nat} {m : Int} (h : decide ((1 : Int) ≤ (z.length : Int)) = false) : bChoice (.str z) L m = false := by
  unfold bChoice
  rw [show decide ((1 : Int) ≤ ((strOf (V.str z)).cps.size : Int)) = false from h, Bool.false_and, Bool.and_false, Bool.false_and, Bool.false_and]
theorem bChoice_2 {z : Str} {L : List Nat} {m : Int} (h : decide ((z.length : Int) ≤ m) = false) : bChoice (.str z) L m = false := by
  unfold bChoice
  rw [show decide (((strOf (V.str z)).cps.size : Int) ≤ m) = false from h, Bool.and_false, Bool.and_false, Bool.false_and, Bool.false_and]
theorem bChoice_3 {z : Str} {L : List Nat} {m : Int} (h : decide ((1 : Int) ≤ (z.length : Int)) = true) (h2 : decide ((z.length : Int) ≤ m) = true) : bChoice (.str z) L m = (bString (.str z) (S L) && ascB z.cps.toList) := by
  unfold bChoice
  rw [show decide ((1 : Int) ≤ ((strOf (V.str z)).cps.size : Int)) = true from h, show decide (((strOf (V.str z)).cps.size : Int) ≤ m) = true from h2]
  rfl
/-- a value that may be asked: a text that is not too long, or another thing of known kind -/
def Askd (K : PySem.W.Frag) (H : Hp) (v : V) : Prop := (isStr v = true ∧ (strOf v).cps.size ≤ 100000) ∨ (isStr v = false ∧ NotS K H v)
def upper : List Nat := ("ABCDEFGHIJKLMNOPQRSTUVWXYZ" : Str).cps.toList
abbrev bFaces (v : V) : Bool := bChoice v lower 6
abbrev bCutters (v : V) : Bool := bChoice v upper 4
def bAddress (v : V) : Bool := bString v (S [48, 49])
def sp_is_ascending (K : PySem.W.Frag) : Sp := fun vs H Q _ => ∃ l : List Nat, vs = [.str (S l)] ∧ l.length ≤ 100000 ∧ ∀ H', Same H H' → Q (.bl (ascB l)) H'
def sp_is_choice (K : PySem.W.Frag) : Sp := fun vs H Q _ => ∃ (v : V) (L : List Nat) (m : Int), vs = [v, .str (S L), .int m] ∧ Askd K H v ∧ ∀ H', Same H H' → Q (.bl (bChoice v L m)) H'
def sp_is_faces (K : PySem.W.Frag) : Sp := fun vs H Q _ => ∃ v : V, vs = [v] ∧ Askd K H v ∧ ∀ H', Same H H' → Q (.bl (bFaces v)) H'
def sp_is_cutters (K : PySem.W.Frag) : Sp := fun vs H Q _ => ∃ v : V, vs = [v] ∧ Askd K H v ∧ ∀ H', Same H H' → Q (.bl (bCutters v)) H'
def sp_is_address (K : PySem.W.Frag) : Sp := fun vs H Q _ => ∃ v : V, vs = [v] ∧ Askd K H v ∧ ∀ H', Same H H' → Q (.bl (bAddress v)) H'
/-- numbers -/
def bNumber (v : V) (lo hi : Int) : Bool := match v with
  | .int i => decide (lo ≤ i) && decide (i ≤ hi)
  | _ => false
def isNum : V → Bool
  | .int _ => true
  | .bl _ => true
  | _ => false
def NotI (K : PySem.W.Frag) (H : Hp) (v : V) : Prop := ∃ T : String, TyX K H v (.type T) ∧ kitB T "int" = some false
def sp_is_number (K : PySem.W.Frag) : Sp := fun vs H Q _ => ∃ (v : V) (lo hi : Int), vs = [v, .int lo, .int hi] ∧ (isNum v = true ∨ (isNum v = false ∧ NotI K H v)) ∧ Q (.bl (bNumber v lo hi)) H
def sp__law_rising (K : PySem.W.Frag) : Sp := fun vs H Q _ => ∃ (l L : List Nat) (m : Int), vs = [.str (S l), .str (S L), .int m] ∧ l.length ≤ 100000 ∧ ∀ H', Same H H' → Q (.bl (bChoice (.str (S l)) L m)) H'
/-- one keyword; three keywords backwards -/
def one1 {α : Type} : List α → List α → List α
  | [], [a] => [a]
  | _, _ => []
def rev3 {α : Type} : List α → List α → List α
  | [], [a, b, c] => [c, b, a]
  | _, _ => []
theorem one1_vals {vs : List V} {us : List Value} {zs : List V} {ws : List Value} (r : Vals vs us) (q : Vals zs ws) : Vals (one1 vs zs) (one1 us ws) := by
  cases r with
  | cons _ _ => exact .nil
  | nil =>
    cases q with
    | nil => exact .nil
    | cons q1 t =>
      cases t with
      | nil => exact .cons q1 .nil
      | cons _ _ => exact .nil
theorem rev3_vals {vs : List V} {us : List Value} {zs : List V} {ws : List Value} (r : Vals vs us) (q : Vals zs ws) : Vals (rev3 vs zs) (rev3 us ws) := by
  cases r with
  | cons _ _ => exact .nil
  | nil =>
    cases q with
    | nil => exact .nil
    | cons q1 t =>
      cases t with
      | nil => exact .nil
      | cons q2 t =>
        cases t with
        | nil => exact .nil
        | cons q3 t =>
          cases t with
          | nil => exact .cons q3 (.cons q2 (.cons q1 .nil))
          | cons _ _ => exact .nil
theorem kb_one {K : PySem.W.Frag} {x : Str} {st : Stmt} {p1 : Str}
    (h : ∀ (kV doc pm : Value) (an : Option Addr) (cdv ct : Value) (u : Value), bindArgs (PySem.W.fnOf x x (defArgs st) (defBody st) (defScope st) .none kV doc pm an cdv ct) ⟨[], [(p1, u)]⟩ = pure [(p1, u)]) :
    KB K x st [p1] [p1] one1 one1 := by
  intro f fd F
  obtain ⟨oc, od, kV, doc, pm, an, cdv, ct, osl, rfl, lk, hcd⟩ := F.ex
  refine ⟨fun s us ws _ hl => ?_, fun r q => one1_vals r q⟩
  match us, ws, hl with
  | [], [u], _ => exact .of_eq (h kV doc pm an cdv ct u)
  | [], [], hl => exact absurd (show 0 = 1 from hl) (by decide)
  | [], _ :: _ :: _, hl => exact absurd (show 0 = 1 from hl) (by decide)
  | _ :: _, ws, hl => exact absurd (show 0 = 1 from hl) (by decide)
theorem kb_rev3 {K : PySem.W.Frag} {x : Str} {st : Stmt} {p1 p2 p3 : Str}
    (h : ∀ (kV doc pm : Value) (an : Option Addr) (cdv ct : Value) (u v t : Value), bindArgs (PySem.W.fnOf x x (defArgs st) (defBody st) (defScope st) .none kV doc pm an cdv ct) ⟨[], [(p3, u), (p2, v), (p1, t)]⟩ = pure [(p1, t), (p2, v), (p3, u)]) :
    KB K x st [p1, p2, p3] [p3, p2, p1] rev3 rev3 := by
  intro f fd F
  obtain ⟨oc, od, kV, doc, pm, an, cdv, ct, osl, rfl, lk, hcd⟩ := F.ex
  refine ⟨fun s us ws _ hl => ?_, fun r q => rev3_vals r q⟩
  match us, ws, hl with
  | [], [u, v, t], _ => exact .of_eq (h kV doc pm an cdv ct u v t)
  | [], [], hl => exact absurd (show 0 = 3 from hl) (by decide)
  | [], [_], hl => exact absurd (show 0 = 3 from hl) (by decide)
  | [], [_, _], hl => exact absurd (show 0 = 3 from hl) (by decide)
  | [], _ :: _ :: _ :: _ :: _, hl => exact absurd (show 0 = 3 from hl) (by decide)
  | _ :: _, ws, hl => exact absurd (show 0 = 3 from hl) (by decide)
theorem but_fresh {H H1 H' : Hp} {D : Addr} (s : Same H H1) (n : H1 D = none) (b : But D H1 H') : Same H H' := fun c u e => b c u (ne_of_none (s _ _ e) n) (s _ _ e)
end
end FW
namespace FW
open PySem PySem.Spec PyProof.Rows L2
def inCls (c : Stmt) (j : Nat) : Stmt := match c with
  | .ClassDef _ _ _ b _ _ _ _ _ _ _ => b.getD j (.Pass ⟨0, 0, 0, 0⟩)
  | s => s
def bLetter (v : V) (L : List Nat) : Bool := isStr v && decide ((strOf v).cps.size = 1) && decide ((strOf v).cps.toList.getD 0 0 ∈ L)
section
variable {P : Program} {w : World} {K : PySem.W.Frag} {mg : Str → Option Value} {base : Heap}
def sp_is_letter (K : PySem.W.Frag) : Sp := fun vs H Q _ => ∃ (v : V) (L : List Nat), vs = [v, .str (S L)] ∧ Askd K H v ∧ ∀ H', Same H H' → Q (.bl (bLetter v L)) H'
/-- what is told of an error class of the program: its name, its __init__ at fI -/
structure Kls (K : PySem.W.Frag) (mg : Str → Option Value) (C fI : Addr) (z : String) : Prop where
  g : mg (Str.ofString z) = some (.ref C)
  oex : OexC K C
  cle : ClsE K C
  nam : NameC K C (Str.ofString z)
  xf : XfC K C
  ncode : PySem.W.findIn K (.ref C) "code" = some none
  init : PySem.W.findIn K (.ref C) "__init__" = some (some (.ref fI))
  tI : PySem.W.typeIn K (.ref fI) = some (.type "function")
/-- __init__(self, f): self.f = f; self.code = the class's name -/
def sp_init (K : PySem.W.Frag) (f : String) : Sp := fun vs H Q _ => ∃ (a C : Addr) (v : V) (z : Str), vs = [.ref a, v] ∧ H a = some (exo a C none) ∧ OexC K C ∧ ClsE K C ∧ NameC K C z ∧ PySem.W.findIn K (.ref C) (Str.ofString f) = some none ∧ PySem.W.findIn K (.ref C) "code" = some none ∧
  ∀ dx, H dx = none → dx ≠ a → Q .non (upd (upd (upd H dx (exd dx [(Str.ofString f, v)])) a (exo a C (some dx))) dx (exd dx [("code", .str z), (Str.ofString f, v)]))
/-- the dict of an error that bears one value -/
def Err1 (f : String) (z : String) (v : V) : HO := .xd [("code", .str (Str.ofString z)), (Str.ofString f, v)]
theorem err_heap {H : Hp} {a d : Addr} {o1 o2 o3 o4 u : HO} (na : H a = none) (hda : d ≠ a) : upd (del (upd (upd (upd (upd H a o1) d o2) a o3) d o4) a) d u = upd H d u := by
  funext b
  by_cases hb : b = d
  · rw [hb, upd_same, upd_same]
  · rw [upd_ne hb, upd_ne hb]
    by_cases ha : b = a
    · rw [ha, del_same, na]
    · rw [del_ne ha, upd_ne hb, upd_ne ha, upd_ne hb, upd_ne ha]
/-- C(e): the error that its __init__ leaves -/
theorem mk1 {x f : String} {C fI : Addr} {H1 : Hp} {v : V} {Q : XK} {E : XK} (T : Kls K mg C fI x) (nf : PySem.W.findIn K (.ref C) (Str.ofString f) = some none) (h : ∀ d, H1 d = none → Q (.ref C) (some d) (upd H1 d (Err1 f x v))) :
    [v].length ≤ 1000 ∧ ∀ a, H1 a = none → sp_init K f (.ref a :: ([v] ++ [])) (upd H1 a (exo a C none)) (fun v H2 => v = .non ∧ ∃ (d : Addr) (fs : List (Str × V)), H2 a = some (exo a C (some d)) ∧ H2 d = some (exd d fs) ∧ H1 d = none ∧ Q (.ref C) (some d) (upd (del H2 a) d (.xd fs))) E := by
  refine ⟨(show 1 ≤ 1000 by decide), fun a na => ⟨a, C, v, Str.ofString x, rfl, upd_same, T.oex, T.cle, T.nam, nf, T.ncode, fun d hd hda => ⟨rfl, d, _, ?_, upd_same, ?_, ?_⟩⟩⟩
  · rw [upd_ne (Ne.symm hda), upd_same]
  · rwa [upd_ne hda] at hd
  · rw [upd_ne hda] at hd
    rw [err_heap na hda]
    exact h d hd
/-- the promise of a def that checks its first argument -/
def FieldIs (K : PySem.W.Frag) (C : Addr) (fs : List (Str × V)) (z : Str) (v : V) : Prop :=
  if z ∈ (["InvalidLine", "InvalidStep", "InvalidTable", "InvalidBad", "InvalidPlan", "UnknownRoom"] : List Str) then PySem.W.findIn K (.ref C) "at" = some none ∧ fs.lookup (Str.ofString "at") = some v
  else if z ∈ (["TooMany", "Full"] : List Str) then PySem.W.findIn K (.ref C) "most" = some none ∧ fs.lookup (Str.ofString "most") = some v
  else if z ∈ (["InvalidText", "InvalidPage"] : List Str) then PySem.W.findIn K (.ref C) "line" = some none ∧ fs.lookup (Str.ofString "line") = some v
  else if z = "UnknownState" then PySem.W.findIn K (.ref C) "state" = some none ∧ fs.lookup (Str.ofString "state") = some v
  else if z ∈ (["InvalidPaper", "OtherFaces", "OtherCutters", "NothingLeft"] : List Str) then v = .non
  else PySem.W.findIn K (.ref C) "given" = some none ∧ fs.lookup (Str.ofString "given") = some v
/-- a caught error of the program: its class, its dict, its code, what it bears -/
def Caught (K : PySem.W.Frag) (H : Hp) (a : Addr) (z : Str) (v : V) : Prop := ∃ (C dd : Addr) (fs : List (Str × V)), H a = some (ExK (.ref C) (some dd) a) ∧ H dd = some (.xd fs) ∧ XfC K C ∧ PySem.W.findIn K (.ref C) "code" = some none ∧ fs.lookup (Str.ofString "code") = some (.str z) ∧ FieldIs K C fs z v
theorem Caught.same {H H' : Hp} {a : Addr} {z : Str} {v : V} (h : Same H H') : Caught K H a z v → Caught K H' a z v := fun ⟨C, dd, fs, h1, h2, r⟩ => ⟨C, dd, fs, h _ _ h1, h _ _ h2, r⟩
def sp__law_field (K : PySem.W.Frag) : Sp := fun vs H Q _ => ∃ (a : Addr) (z : Str) (v : V), vs = [.ref a] ∧ Caught K H a z v ∧ ∀ H', Same H H' → Q v H'
/-- what _law_try makes of what it asks -/
def TTry (K : PySem.W.Frag) (cs : List Value) : (XK → Hp → VK → Prop) → Hp → VK → Prop := fun tl H Q =>
  tl (fun cls d H1 => PySem.W.exmAny K cls cs = some true ∧ ∀ a, H1 a = none → ∃ (z : Str) (v : V), Caught K (upd H1 a (ExK cls d a)) a z v ∧ ∀ H2, Same (upd H1 a (ExK cls d a)) H2 → ∀ p, H2 p = none → Q (.ref p) (upd H2 p (.tup [.str z, v])))
    H (fun v H1 => [V.str "", v].length ≤ sizeLine ∧ ∀ p, H1 p = none → Q (.ref p) (upd H1 p (.tup [.str "", v])))
end
end FW
namespace FW
open PySem PySem.Spec PyProof.Rows L2
section
variable {X : Cx} {k j : Nat} {x : Str} {st : Stmt} {ps ks : List Str} {sp : Sp} {p pos : Pos} {e : Expr} {es : List Expr} {kws : List Keyword} {t tk : TA} {g : List Value → List Value → List Value} {gV : List V → List V → List V}
/-- a def that may raise, called where it raises nothing -/
theorem pe_cE (c : Cal X.prog X.w X.K X.mg X.base (L2.CX X.prog X.w) k x st ps sp) (hr : Room j X.A) (hk : k ≤ j) (hg : Gl X x) (ha : PA X (e :: es) t)
    (hdb : (x == ("__debug__" : Str)) = false := by decide) (he : starEach (e :: es) X.env = (false, eval e X.env) :: starEach es X.env := by rfl) (hpl : (backTo pos (starEach es X.env)).any (·.1) = false := by rfl) :
    PE X (.Call (.Name x p) (e :: es) [] pos) (tCall sp [] E0 t) := pe_cx c hr hk hg passL ha hdb he hpl
theorem pe_ck0E (c : Cal X.prog X.w X.K X.mg X.base (L2.CX X.prog X.w) k x st ps sp) (b : KB X.K x st ps ks g gV) (hr : Room j X.A) (hk : k ≤ j) (hg : Gl X x) (hkw : PK X kws tk)
    (hall : (backToKw pos (keywordEach kws X.env)).all (·.1.isSome) = true := by rfl) (hks : (backToKw pos (keywordEach kws X.env)).filterMap (·.1) = ks := by rfl)
    (hdb : (x == ("__debug__" : Str)) = false := by decide)
    (hpl : ((backTo pos (starEach [] X.env)).any (·.1) || (backToKw pos (keywordEach kws X.env)).any (·.1.isNone)) = false := by rfl) :
    PE X (.Call (.Name x p) [] kws pos) (tCallK sp gV E0 tNil tk) := by
  obtain ⟨f, fd, F, hm, fn, _⟩ := c.ex
  exact pe_callK0 F (hr.mono hk) hg hm fn.kp (b f fd fn) passL hkw hall hks hdb hpl
end
/-! ### what stands when only tables grow -/
section
variable {K : PySem.W.Frag} {H H' : Hp}
theorem ext_seq {a : Addr} {xs : List V} (e : LamX.ExtN H H') (h : SqL K H a xs) : SqL K H' a xs := by
  rcases h with (h | ⟨o, h⟩) | h
  · exact .inl (.inl (e _ _ h (fun _ z => by cases z)))
  · exact .inl (.inr ⟨o, e _ _ h (fun _ z => by cases z)⟩)
  · exact .inr h
theorem ext_tup {a : Addr} {xs : List V} (e : LamX.ExtN H H') (h : SqT K H a xs) : SqT K H' a xs := by
  rcases h with (h | ⟨o, h⟩) | h
  · exact .inl (.inl (e _ _ h (fun _ z => by cases z)))
  · exact .inl (.inr ⟨o, e _ _ h (fun _ z => by cases z)⟩)
  · exact .inr h
theorem dp_ext (e : LamX.ExtN H H') {v : V} {d : PyData} (h : Dp K H v d) : Dp K H' v d :=
  @Dp.rec K H (fun v d _ => Dp K H' v d) (fun vs ds _ => DpAll K H' vs ds) .non (fun b => .bl b) (fun i => .int i) (fun x => .str x) (fun h _ ih => .lst (ext_seq e h) ih) (fun h _ ih => .tup (ext_tup e h) ih) .nil (fun _ _ i1 i2 => .cons i1 i2) v d h
theorem ns_ext (e : LamX.ExtN H H') {v : V} (n : NS H v) : NS H' v := by
  rcases n with n | n | n | ⟨p, xs, z, h⟩ | ⟨p, xs, z, h⟩
  · exact .inl n
  · exact .inr (.inl n)
  · exact .inr (.inr (.inl n))
  · exact .inr (.inr (.inr (.inl ⟨p, xs, z, e _ _ h (fun _ q => by cases q)⟩)))
  · exact .inr (.inr (.inr (.inr ⟨p, xs, z, e _ _ h (fun _ q => by cases q)⟩)))
end
end FW
namespace FW
open PySem PySem.Spec PyProof.Rows L2
/-! ### a walk over a list or a tuple -/
def iSeq (K : PySem.W.Frag) (tl : TE) : TI := fun σ H R => tl σ H fun x H1 => ∃ a, x = .ref a ∧ (((∃ xs, SqL K H1 a xs) ∧ R (Itl K a) H1) ∨ ((∃ xs, SqT K H1 a xs) ∧ R (Itt K a) H1))
theorem pi_seq {X : Cx} {tg l : Expr} {tl : TE} (hl : PE X l tl) : PI X tg l (iSeq X.K tl) := by
  refine ⟨fun pins s σ H R I h => thn (hl.run pins s σ H _ I h) ?_⟩
  rintro v s1 ⟨x, H1, I1, r1, a, e, q1⟩
  subst e
  obtain rfl : v = Value.ref a := r1
  have fp : ∀ b ∈ [s1.heap.objs.size], FpOk X pins H1 b := fun b hb => by
    rw [List.mem_singleton.mp hb]
    exact I1.fpOk (Nat.le_refl _) (I1.hok.fresh (Nat.le_refl _))
  rcases q1 with ⟨⟨xs, hq⟩, q⟩ | ⟨⟨xs, hq⟩, q⟩
  · obtain ⟨its, rv, p, hz⟩ := I1.list hq
    exact wpAny_pyIter_list p.isList ⟨s1.heap.objs.size, [s1.heap.objs.size], _, _, H1, rfl, I1.kept (t' := s1.toks) fun b o e => Heap.get?_push_of_some _ e, turn_list a _,
      ⟨_, Heap.get?_push_size _ rfl, rfl, rfl⟩, fp, q⟩
  · obtain ⟨its, rv, p, hz⟩ := I1.tuple hq
    exact wpAny_pyIter_tuple (show s1.heap.IsTuple a its.toArray from p) ⟨s1.heap.objs.size, [s1.heap.objs.size], _, _, H1, rfl, I1.kept (t' := s1.toks) fun b o e => Heap.get?_push_of_some _ e, turn_tuple a _,
      ⟨_, Heap.get?_push_size _ rfl, rfl, rfl⟩, fp, q⟩
end FW
namespace FW
open PySem PySem.Spec PyProof.Rows L2
/-! ### enumerate(x): a list, a tuple or a text -/
theorem meets_enum1 {v : Value} {o : Obj} {B0 : Heap → Prop} (B : Begins v o B0) :
    Meets (Builtin.«enumerate.__new__» ⟨[.type "enumerate", v], []⟩) (fun _ R s => B0 s.heap ∧
      R (.ok (.ret (.ref (s.heap.push o).objs.size))) { s with heap := (s.heap.push o).push { cls := .type "enumerate", data := .fields #[.none, .bool false, .ref s.heap.objs.size, rawInt 0, .none, .none] } }) :=
  .of_wp fun prog w A R s hh => by
    obtain ⟨hp, gg, dd, tk, os⟩ := s
    obtain ⟨hb, hr⟩ := hh
    have hsub := sub_enumerate
    have go : ∀ {A' : Around} {E : Value → Shared → Prop} {Q : Value → Shared → Prop}, Q (.ref hp.objs.size) ⟨hp.push o, gg, dd, tk, os⟩ → wpAny (model prog w) A' (pyIter v) Q E ⟨hp, gg, dd, tk, os⟩ := fun q => B.iter prog w _ _ ⟨hp, gg, dd, tk, os⟩ _ hb q
    wp_walk using go
    refine wpAny_stack_any fun st => wpAny_pure ?_
    split
    · rename_i c _ _ _ _ _
      cases (c == Value.type "enumerate")
      · wp_walk using go
        exact ⟨_, rfl, hr⟩
      · wp_walk using go
        exact ⟨_, rfl, hr⟩
    · wp_walk using go
      exact ⟨_, rfl, hr⟩
section
variable {prog : Program} {w : World} {A : Around} {E : Value → Shared → Prop} {s : Shared}
theorem enum_begin1 {v : Value} {o : Obj} {B0 : Heap → Prop} {Q : Value → Shared → Prop} (B : Begins v o B0) (hb : B0 s.heap)
    (h : ∀ h', IsEnum h' (s.heap.objs.size + 1) s.heap.objs.size 0 .none → h'.get? s.heap.objs.size = some o → (∀ b u, s.heap.get? b = some u → h'.get? b = some u) → Q (.ref (s.heap.objs.size + 1)) { s with heap := h' }) :
    wpAny (model prog w) A (call (.type "enumerate") [v]) Q E s := by
  refine callType_new F.called_enumerate (by decide) (F.typeCall_enumerate_1 _) (F.newCall_enumerate_1 _) (fun obj => F.args_object_init_2 obj _)
    F.entry_enumerate_new (meets_enum1 B) ⟨hb, ?_⟩
  have sz1 : (s.heap.push o).objs.size = s.heap.objs.size + 1 := Heap.size_push ..
  show _ ∧ _
  rw [sz1]
  have en : IsEnum ((s.heap.push o).push { cls := .type "enumerate", data := .fields #[.none, .bool false, .ref s.heap.objs.size, rawInt 0, .none, .none] }) (s.heap.objs.size + 1) s.heap.objs.size 0 .none := by
    have z := Heap.get?_push_size (s.heap.push o) (o := { cls := .type "enumerate", data := .fields #[.none, .bool false, .ref s.heap.objs.size, rawInt 0, .none, .none] }) rfl
    rwa [sz1] at z
  exact ⟨⟨_, en, rfl⟩, h _ en (Heap.get?_push_of_some _ (Heap.get?_push_size _ B.free)) fun b u x => Heap.get?_push_of_some _ (Heap.get?_push_of_some _ x)⟩
end
def IteG (K : PySem.W.Frag) (k : SK) : It :=
  ⟨fun i H => ∃ (xs : List V) (x : V), k.src K H xs ∧ xs[i]? = some x, fun i H v H' => ∃ T x, v = .ref T ∧ H T = none ∧ H' = upd H T (.tup [.int (i : Nat), x]) ∧ ∀ xs, k.src K H xs → xs[i]? = some x, fun i H => ∃ xs : List V, k.src K H xs ∧ i = xs.length⟩
theorem turn_enumG {P : Program} {w : World} {K : PySem.W.Frag} {elts : List Expr} {kk : Nat} {tpos : Pos} {e it : Addr} {k : SK} (hne : e ≠ it) (ha : ∀ c, k.at c → c ≠ e ∧ c ≠ it) :
    Turn P w K (.Tuple elts kk tpos) (IteG K k) [e, it] e (fun i h => (∃ old, IsEnum h e it ((i : Nat) : Int) old) ∧ k.iter it i h) where
  mem := List.mem_cons_self
  obj := fun i h st b hb => by
    obtain ⟨⟨old, he⟩, hi⟩ := st
    have e' : b = e ∨ b = it := by simpa using hb
    rcases e' with z | z
    · rw [z]
      exact ⟨_, he, fun v q => nomatch q⟩
    · rw [z]
      exact SK.iter_obj hi
  keep := fun i h h' st k => by
    obtain ⟨⟨old, he⟩, hi⟩ := st
    exact ⟨⟨old, k e (by simp) _ he⟩, SK.iter_keep hi fun o q => k it (by simp) o q⟩
  item := by
    intro X hP hw hK hc i pins s σ H E I hf st hg
    subst hP hw hK
    obtain ⟨⟨old, he⟩, hi⟩ := st
    obtain ⟨xs, x, hq, hx⟩ := hg
    obtain ⟨fp, Pp, Sp, D, g1, b1, r1, m1, f1⟩ := SK.draws I hc hq fun c q => (ha c q).2
    have lx : i < xs.length := (List.getElem?_eq_some_iff.mp hx).1
    have hel : e < s.heap.objs.size := Heap.lt_size he
    have hil : it < s.heap.objs.size := by
      obtain ⟨_, q, _⟩ := SK.iter_obj hi
      exact Heap.lt_size q
    have hef : e ∉ fp := fun q => by
      rcases f1 e q with z | z
      · exact hne z
      · exact (ha e z).1 rfl
    refine wpAny_pyNext_enum_itemD D he (g1 i hi) lx hne hef fun u h' tk p ho hs hT hsz hk => ?_
    obtain ⟨v1, e1, ru⟩ := r1 i u p
    obtain rfl : v1 = x := Option.some.inj (e1.symm.trans hx)
    refine ⟨_, rfl, wpAny_letOwnedTupleGo_enum (s := { s with heap := h', toks := tk + 1 }) ho fun h'' he' sb => ?_⟩
    have hT2 : h''.get? s.heap.objs.size = some { cls := .type "tuple", data := .seq #[.int i tk, u] } := (sb.2 _ (Nat.ne_of_gt hel)).trans hT
    have new : ObjOk X.prog X.w (upd H s.heap.objs.size (.tup [.int (i : Nat), v1])) h'' s.heap.objs.size (.tup [.int (i : Nat), v1]) :=
      ⟨(show 2 ≤ sizeLine by decide), [.int i tk, u], .cons ⟨_, rfl⟩ (.cons ru .nil), ⟨_, hT2, rfl, _, rfl⟩⟩
    have I1 : Inv X pins σ (upd H s.heap.objs.size (.tup [.int (i : Nat), v1])) { s with heap := h'', toks := tk + 1 } :=
      I.turnedNew (ch := [e, it]) (fun b ob hb q => (sb.2 b (fun z => hb (by simp [z]))).trans (hk b ob (fun z => hb (by simp [z])) (fun z => hb (by simp [z])) q)) hf (Nat.le_refl _) new
    refine ⟨.ref s.heap.objs.size, _, I1, rfl, ⟨_, v1, rfl, I.hok.fresh (Nat.le_refl _), rfl, fun ys hy => by rw [SK.inj I hy hq]; exact hx⟩, ⟨⟨u, ?_⟩, SK.iter_keep (b1 _ _ hs) fun o q => (sb.2 it (Ne.symm hne)).trans q⟩, fun b hb => ?_⟩
    · rw [show ((i + 1 : Nat) : Int) = (i : Int) + 1 by omega]
      exact he'
    · have e' : b = e ∨ b = it := by simpa using hb
      have hb' : b < s.heap.objs.size := by
        rcases e' with z | z
        · rw [z]
          exact hel
        · rw [z]
          exact hil
      rw [upd_ne (Nat.ne_of_lt hb')]
      exact (hf b hb).1
  done := by
    intro X hP hw hK hc i pins s σ H E I hf st hg
    subst hP hw hK
    obtain ⟨⟨old, he⟩, hi⟩ := st
    obtain ⟨xs, hq, rfl⟩ := hg
    obtain ⟨fp, Pp, Sp, D, g1, b1, r1, m1, f1⟩ := SK.draws I hc hq fun c q => (ha c q).2
    obtain ⟨f0, f1', f2, f3, f4, f5⟩ := hf it (by simp)
    exact wpAny_pyNext_enum_endD D he (g1 _ hi) fun h' eb => ⟨rfl, I.turned (t' := s.toks) (fun b o hb q => eb b o hb q) f0 f1' f3 f4 f5⟩
  self := fun A i s Q E st h => by
    obtain ⟨⟨old, he⟩, _⟩ := st
    exact wpAny_pyIter_enum he h
def iEnumG (K : PySem.W.Frag) (ta : TA) : TI := fun σ H R => ta σ H fun vs H1 => ∃ (x : V) (xs : List V), vs = [x] ∧ Src K H1 x xs ∧ ∀ k : SK, k.val = x → k.src K H1 xs → R (IteG K k) H1
theorem pi_enumG {X : Cx} {e : Expr} {ta : TA} {p pos tpos : Pos} {elts : List Expr} {kk : Nat} (hg : Gl X "enumerate") (hm : X.mg "enumerate" = none) (ha : PA X [e] ta) (hs : starEach [e] X.env = [(false, eval e X.env)] := by rfl) :
    PI X (.Tuple elts kk tpos) (.Call (.Name "enumerate" p) [e] [] pos) (iEnumG X.K ta) := by
  refine ⟨fun pins s σ H R I h => ?_⟩
  refine Call_ (ld_blt I hg hm boot_enumerate (PyProof.Rows.callWith_type1 (thn (ha.run pos pins s σ H _ I h) ?_) hs rfl))
  rintro us s1 ⟨vs, H1, I1, r1, x, xs, ex, sx, q⟩
  subst ex
  cases r1 with
  | cons r rr =>
    cases rr
    obtain ⟨k, ev, _, src, lt, B0, b0, hb0⟩ := sx.kind I1 r
    refine enum_begin1 b0 hb0 fun h' he hi hk => wpAny_pyIter_enum he ?_
    have I2 : Inv X pins σ H1 { s1 with heap := h' } := I1.kept (t' := s1.toks) hk
    refine ⟨s1.heap.objs.size + 1, [s1.heap.objs.size + 1, s1.heap.objs.size], _, _, H1, rfl, I2, turn_enumG (k := k) (Nat.succ_ne_self _) (fun c hc => ?_), ⟨⟨.none, he⟩, SK.begun hi⟩, fun b hb => ?_, q k ev src⟩
    · have hlt := lt c hc
      exact ⟨Nat.ne_of_lt (Nat.lt_succ_of_lt hlt), Nat.ne_of_lt hlt⟩
    · have e' : b = s1.heap.objs.size + 1 ∨ b = s1.heap.objs.size := by simpa using hb
      have hle : s1.heap.objs.size ≤ b := by
        rcases e' with z | z
        · rw [z]
          exact Nat.le_add_right _ _
        · rw [z]
          exact Nat.le_refl _
      exact I1.fpOk hle (I1.hok.fresh hle)
theorem walk_enumG {K : PySem.W.Frag} {k : SK} {xs : List V} : Walk (IteG K k) xs.length (fun H => k.src K H xs) (YPair (fun i => some (.int (i : Nat))) (fun i => xs[i]?)) := by
  refine ⟨fun i _ hi q => ⟨xs, xs[i], q, by simp [hi]⟩, fun _ q => ⟨xs, q, rfl⟩, fun i H v H' _ q y => ?_⟩
  obtain ⟨T, x, h1, h2, h3, h4⟩ := y
  exact ⟨T, .int (i : Nat), x, h1, h2, h3, rfl, h4 xs q⟩
end FW
namespace FW
open PySem PySem.Spec PyProof.Rows L2
/-! ### C.m(..), m a static method of the class at C over the function at f -/
structure Sta (K : PySem.W.Frag) (C : Addr) (m : Str) (f : Addr) : Prop where
  rd : PySem.W.readsIn K C (.type "type") = true
  fd : ∃ (p : Addr) (rest : List Value), PySem.W.findCls K (.ref C) (.type "type") m = some (.get (.builtin "staticmethod.__get__") (.ref p) .none (.ref C)) ∧ PySem.W.recIn K p "staticmethod" = some (.ref f :: rest)
  sg : PySem.W.specialIn K (.ref C) "__getattribute__" = some (some (.builtin "type.__getattribute__"))
  kp : PySem.W.keepIn K (.ref f) = true
theorem static_get {prog : Program} {w : World} {A : Around} {E : Value → Shared → Prop} {s : Shared} {K : PySem.W.Frag} {C f : Addr} {m : Str} {pl : Sem Bool} {Q : Value × List Value → Shared → Prop} (X : K.In s.heap) (S : Sta K C m f)
    (h : ∀ u, Q (.ref f, []) { s with toks := u }) : wpAny (model prog w) A (getMethod (.ref C) m pl) Q E s := by
  obtain ⟨p, rest, fd, rc⟩ := S.fd
  exact PySem.W.method_cls X S.sg (PySem.W.cls_bind X S.rd fd (wpAny_call (PySem.W.sm_get (s := { s with toks := s.toks + 1 }) X rc (PySem.W.handed_on rfl (h _)))))
section
variable {X : Cx} {CX : CXT} {k : Nat} {f C : Addr} {fd : FuncData} {ps : List Str} {sp : Sp} {dvs : List V} {ds : List Value} {E : XK} {x m : Str} {p1 pos apos : Pos} {e : Expr} {es : List Expr} {t : TA}
theorem pe_static {pl : Sem Bool} (hg : Gl X x) (hm : X.mg x = some (.ref C)) (S : Sta X.K C m f) (F : FnOk X.prog X.w X.K X.mg X.base CX k f fd ps sp) (hr : Room k X.A) (hb : L2.Binds X.K fd ps ds) (hd : Vals dvs ds) (hx : Passes CX X E) (ha : PA X (e :: es) t)
    (hdb : (x == ("__debug__" : Str)) = false := by decide)
    (hc : eval (.Call (.Attribute (.Name x p1) m apos) (e :: es) [] pos) X.env = (do
      let oc ← eval (.Name x p1) X.env
      standAt apos.atName
      let (fc, fst) ← holding [oc] (getMethod oc m pl)
      callWith pos fc fst (backTo pos (starEach (e :: es) X.env)) (backToKw pos (keywordEach [] X.env))) := by rfl)
    (he : starEach (e :: es) X.env = (false, eval e X.env) :: starEach es X.env := by rfl) (hpl : (backTo pos (starEach es X.env)).any (·.1) = false := by rfl) :
    PE X (.Call (.Attribute (.Name x p1) m apos) (e :: es) [] pos) (tCall sp dvs E t) := by
  refine ⟨fun pins s σ H Q I h => PySem.W.methodCall_KW (pl := pl) (ld_glob I hg hm ?_ hdb) hc⟩
  refine static_get I.kIn S fun u => ?_
  have I1 : Inv X pins σ H { s with toks := u } := I.tok _
  refine PySem.W.callWith_K (first := []) (h₀ := X.base) I.ok.mod.kin S.kp (thn (ha.run pos pins _ σ H _ I1 h) ?_) he hpl
  rintro us s2 ⟨vs, H2, I2, r, q2⟩
  exact ⟨I2.kIn, run_fn F hr hb hd hx I2 r q2⟩
end
end FW
namespace FW
open PySem PySem.Spec PyProof.Rows L2 StX
/-- three parameters ahead of the starred one -/
theorem bind_star3 {B : List Value → Sem (List (Str × Value))} {p1 p2 p3 pv : Str} (h0 : ∀ a b c, B [a, b, c] = (newTuple [] >>= fun t => pure [(p1, a), (p2, b), (p3, c), (pv, t)]))
    (h1 : ∀ a b c r rs, B (a :: b :: c :: r :: rs) = (newTuple (r :: rs) >>= fun t => pure [(p1, a), (p2, b), (p3, c), (pv, t)])) :
    ∀ us rest : List Value, us.length = [p1, p2, p3].length → B (us ++ rest) = (newTuple rest >>= fun t => pure ([p1, p2, p3].zip us ++ [(pv, t)]))
  | [a, b, c], [], _ => h0 a b c
  | [a, b, c], r :: rs, _ => h1 a b c r rs
section
variable {X : Cx} {CX : CXT} {k : Nat} {f C : Addr} {sp : Sp} {E : XK} {x : Str} {e : Expr} {es : List Expr} {t : TA} {p pos : Pos}
/-- C(e, .., *y) -/
theorem pe_makeS (M : Mk X.K C f) (F : FnR X.prog X.w X.K X.mg X.base CX k f sp) (hr : Room (k + 1) X.A) (hg : Gl X x) (hm : X.mg x = some (.ref C)) (hx : Passes CX X E) (ha : PA X (e :: es) t) (hd : (x == ("__debug__" : Str)) = false := by decide)
    (he : starEach (e :: es) X.env = (false, eval e X.env) :: starEach es X.env := by rfl) (hst : (backTo pos (starEach es X.env)).any (·.1) = true := by rfl) :
    PE X (.Call (.Name x p) (e :: es) [] pos) (tMakeR C sp E t) := by
  refine ⟨fun pins s σ H Q I h => wpAny_Call_Name_kw (ld_glob I hg hm ?_ hd)⟩
  refine PySem.W.callWith_S2 (h₀ := X.base) I.ok.mod.kin M.kp (thn (ha.run pos pins s σ H _ I h) ?_) he hst
  rintro us s1 ⟨vs, H1, I1, r, q⟩
  exact ⟨I1.kIn, run_makeR M F hr hx I1 r q⟩
end
end FW
namespace FW
open PySem PySem.Spec PyProof.Rows L2
/-! ### tests, and what may be forgotten behind an expression -/
theorem ite_dec {p : Prop} [d : Decidable p] {A B : Prop} (h1 : p → A) (h2 : ¬ p → B) : if decide p = true then A else B := by
  by_cases h : p
  · rw [decide_eq_true h]
    exact iteT (h1 h)
  · rw [decide_eq_false h]
    exact iteF (h2 h)
theorem ite_ndec {p : Prop} [d : Decidable p] {A B : Prop} (h1 : ¬ p → A) (h2 : p → B) : if (!decide p) = true then A else B := by
  by_cases h : p
  · rw [decide_eq_true h]
    exact iteF (h2 h)
  · rw [decide_eq_false h]
    exact iteT (h1 h)
theorem ite_bl {c : Bool} {A B : Prop} (h1 : c = true → A) (h2 : c = false → B) : if c = true then A else B := by
  cases c with
  | true => exact iteT (h1 rfl)
  | false => exact iteF (h2 rfl)
theorem ite_nbl {c : Bool} {A B : Prop} (h1 : c = false → A) (h2 : c = true → B) : if (!c) = true then A else B := by
  cases c with
  | true => exact iteF (h2 rfl)
  | false => exact iteT (h1 rfl)
section
variable {X : Cx}
/-- an expression, and what is kept of its value and the heap -/
def tAs (t : TE) : TE := fun σ H Q => ∃ R : V → Hp → Prop, t σ H R ∧ ∀ v H', R v H' → Q v H'
theorem pe_as {e : Expr} {t : TE} (h : PE X e t) : PE X e (tAs t) := ⟨fun pins s σ H Q I hw => by
  obtain ⟨R, hR, hq⟩ := hw
  exact thn (h.run pins s σ H R I hR) fun v s1 ⟨x, H1, I1, r1, q1⟩ => ⟨x, H1, I1, r1, hq _ _ q1⟩⟩
/-- a test, and what is kept -/
def tAsT (t : TT) : TT := fun σ H Q => ∃ R : Bool → Hp → Prop, t σ H R ∧ ∀ v H', R v H' → Q v H'
theorem pt_as {e : Expr} {t : TT} (h : PT X e t) : PT X e (tAsT t) := ⟨fun pins s σ H Q I hw => by
  obtain ⟨R, hR, hq⟩ := hw
  exact thn (h.run pins s σ H R I hR) fun v s1 ⟨H1, I1, q1⟩ => ⟨H1, I1, hq _ _ q1⟩⟩
/-- a statement, and what is kept behind it where it goes on -/
def tAsS (t : TS) : TS := fun D σ H => ∃ R : L2.St → Hp → Prop, t { D with nx := R } σ H ∧ ∀ σ' H', R σ' H' → D.nx σ' H'
theorem ps_as {st : Stmt} {t : TS} (h : PS X st t) : PS X st (tAsS t) := ⟨fun pins s σ H D I hw => by
  obtain ⟨R, hR, hq⟩ := hw
  refine thn (h.run pins s σ H _ I hR) fun f s1 z => ?_
  cases f with
  | next => exact (let ⟨σ', H1, I1, q1⟩ := z; ⟨σ', H1, I1, hq _ _ q1⟩)
  | _ => exact z⟩
end
end FW
namespace FW
open PySem PySem.Spec PyProof.Rows L2
/-! ### == and != by an own __eq__ -/
/-- what the type of a value is -/
inductive Kd (H : Hp) : V → Value → Prop
  | ins {b C dy : Addr} {gs : List (Str × V)} (e : H b = some (.ins C dy gs)) : Kd H (.ref b) (.ref C)
  | non : Kd H .non (.type "NoneType")
  | str (z : Str) : Kd H (.str z) (.type "str")
  | int (i : Int) : Kd H (.int i) (.type "int")
  | lst {b : Addr} {xs : List V} (e : H b = some (.lst xs)) : Kd H (.ref b) (.type "list")
  | tup {b : Addr} {xs : List V} (e : H b = some (.tup xs)) : Kd H (.ref b) (.type "tuple")
section
variable {X : Cx} {CX : CXT} {pins : List (Addr × Obj)} {σ : L2.St} {H : Hp} {s : Shared} {C f : Addr} {n : Nat} {sp : Sp} {E : XK}
theorem looks_kd {y : V} {u t : Value} (I : Inv X pins σ H s) (r : RelV y u) (k : Kd H y t) : PySem.W.Looks (model X.prog X.w) s.heap (typeOf u) t := by
  cases k with
  | ins e =>
    cases r
    obtain ⟨mA, J, _⟩ := ins_get I.hok e
    obtain ⟨od, J, _⟩ := J.look
    exact J.type
  | non => cases r; exact .of_pure rfl
  | str z => obtain ⟨t, rfl⟩ := r; exact .of_pure rfl
  | int z => obtain ⟨t, rfl⟩ := r; exact .of_pure rfl
  | lst e =>
    cases r
    obtain ⟨z, its, k, r, e⟩ := I.hok _ _ e
    exact (PySem.W.Looks.ld e).andThen .now
  | tup e =>
    cases r
    obtain ⟨its, k, r, p⟩ := I.hok _ _ e
    obtain ⟨⟨cls, dd, data, sl⟩, ho, hc, _⟩ := id p
    simp only at hc
    subst hc
    exact (PySem.W.Looks.ld ho).andThen .now
/-- a op y, a an instance of the class at C with its own __eq__ -/
def rOwnI (K : PySem.W.Frag) (C : Addr) (sp : Sp) (E : XK) (neg : Bool) : R2 := fun x y H Q => ∃ a dx fs t, x = .ref a ∧ H a = some (.ins C dx fs) ∧ Kd H y t ∧ PySem.W.notFirst K C t = true ∧ sp [x, y] H (fun v H' => ∃ c : Bool, v = .bl c ∧ Q (.bl (c != neg)) H') E
theorem op_eqI (hs : PySem.W.findIn X.K (.ref C) "__eq__" = some (some (.ref f))) (hf : PySem.W.isFn X.K (.ref f) = true) (F : FnR X.prog X.w X.K X.mg X.base CX n f sp)
    (hr : Room n X.A) (hx : Passes CX X E) : OpR X (compareOp .Eq) (rOwnI X.K C sp E false) := by
  intro pins s σ H x y v u Q I rx ry h
  obtain ⟨a, dx, fs, t, rfl, ha, k, hn, q⟩ := h
  cases (show v = Value.ref a from rx)
  obtain ⟨mA, J, _⟩ := ins_get I.hok ha
  obtain ⟨od, J, _⟩ := J.look
  obtain ⟨m, hF⟩ := I.fr
  show wpAny _ _ (richCompare .Eq _ _) _ _ s
  refine PySem.W.cmp_K (op := .Eq) (tb := t) hr.units0 hF I.ok.mod.kin J (looks_kd I ry k) hn hs hf ?_
  refine wpAny_mono (wpAny_call (run_fnR (us := [.ref a, u]) (vs := [.ref a, y]) F hr hx I (.cons rfl (.cons ry .nil)) q)) (fun w s' z => ?_) fun _ _ x => x
  obtain ⟨z', H', I', rz, c, rfl, qz⟩ := z
  refine SlX.cmpback rz ⟨.bl c, H', I', rz, ?_⟩
  cases c <;> exact qz
theorem ne_K {prog : Program} {w : World} {A : Around} {E : Value → Shared → Prop} {s : Shared} {K : PySem.W.Frag} {x C L : Addr} {h₀ : Heap} {m : Str → Option Value} {ox : Obj} {od : Option Obj} {tb b : Value} {Q : Value → Shared → Prop} (hu : A.units + 1 < cLine)
    (F : Fr h₀ L s.heap m) (X₀ : K.In h₀) (I : PySem.W.InstAt s.heap x ox C od) (hb : PySem.W.Looks (model prog w) s.heap (typeOf b) tb) (hn : PySem.W.notFirst K C tb = true)
    (hs : PySem.W.findIn K (.ref C) "__eq__" = some (some (.ref f))) (hf : PySem.W.isFn K (.ref f) = true) (hne : PySem.W.findIn K (.ref C) "__ne__" = some (some (.builtin "object.__ne__"))) (hob : PySem.W.mroIn K C (.type "object") = some true)
    (h : wpAny (model prog w) A.in1 (call (.ref f) [.ref x, b]) (fun v s' => ∃ c : Bool, v = .bool c ∧ Q (.bool (!c)) s') E s) : wpAny (model prog w) A (richCompare .NotEq (.ref x) b) Q E s := by
  have X := X₀.keeps F.keep
  have S := (PySem.F.cmp_object).ne
  have bi : wpAny (model prog w) A (call (.builtin "object.__ne__") [.ref x, b]) (fun v s' => ∃ c : Bool, v = .bool (!c) ∧ Q (.bool (!c)) s') E s := by
    refine wpAny_call (codeAny_call_builtin S.plain PySem.F.cmpEntry_ne (PySem.W.check_slot PySem.F.cmpKind_ne PySem.F.cmpSplit_ne ?_ (PySem.F.cmpArgs_ne _ _) ?_))
    · exact fun A E Q s' k q => by
        unfold isInstance
        exact wpAny_bind ((I.type.keeps k).here ((PySem.W.looks_mroIn (X.keeps k) hob).here q))
    unfold Builtin.«object.__ne__»
    have fin2 : wpAny (model prog w) A.in1 (callSpecialIfBound? (.ref x) "__eq__" [b]) (fun r s' => ∃ c : Bool, r = some (.bool c) ∧ Q (.bool (!c)) s') E s :=
      PySem.W.ifBound_K X I hs hf (wpAny_mono h (fun v s' ⟨c, e, q⟩ => ⟨c, by rw [e], q⟩) fun _ _ e => e)
    repeat (first
      | with_reducible refine wpAny_cRoomFor (Nat.lt_of_le_of_lt (Nat.le_refl _) hu) ?_
      | (refine wpAny_bind (m := callSpecialIfBound? (.ref x) (Str.ofString "__eq__") [b]) (wpAny_mono fin2 (fun r s' hr => by
          obtain ⟨c, rfl, hq⟩ := hr
          repeat (first | exact ⟨c, rfl, hq⟩ | exact wpAny_pure ⟨c, rfl, hq⟩ | (refine wpAny_bind (m := truthy (.bool _)) (wpAny_truthy_bool ?_)) | wp_step)) fun _ _ e => e))
      | wp_step)
  have one : wpAny (model prog w) A (tryCompare (.ref x) "__ne__" b) (fun r s' => ∃ v, r = some v ∧ Q v s') E s := by
    unfold tryCompare
    refine wpAny_bind ?_
    simp only [callSpecialIfBound?, bindSpecialIfBound?]
    refine wpAny_holding (wpAny_bind (wpAny_bind (wpAny_bind (I.type.here ((PySem.W.looks_findIn X hne).here ?_)))))
    refine wpAny_bind (wpAny_askSetting (wpAny_ite ?_))
    simp only [S.bind]
    have fin : wpAny (model prog w) A (call (.builtin "object.__ne__") ([.ref x] ++ [b]) >>= fun v => pure (some v)) (fun r s' => wpAny (model prog w) A (match r with | some .notImplemented | none => pure none | some v => pure (some v)) (fun r s' => ∃ v, r = some v ∧ Q v s') E s') E s := by
      refine wpAny_bind (wpAny_mono bi (fun v s' hv => ?_) fun _ _ e => e)
      obtain ⟨c, rfl, hq⟩ := hv
      exact wpAny_pure (wpAny_pure ⟨_, rfl, hq⟩)
    split
    · exact wpAny_bind (wpAny_pure (wpAny_pure fin))
    · exact wpAny_tryCatch (wpAny_bind (wpAny_pure (wpAny_pure fin)))
  unfold richCompare
  simp only [oneThing_ref]
  refine wpAny_holding (wpAny_bind (wpAny_cRoomFor (Nat.lt_of_succ_lt hu) ?_))
  refine wpAny_bind (I.type.here (wpAny_bind (hb.here ?_)))
  split
  · rename_i q
    have e : PySem.W.subIn K tb (.ref C) = some false := by
      rcases Bool.or_eq_true_iff.mp hn with e | e
      · rw [beq_iff_eq.mp e] at q; simp at q
      · exact beq_iff_eq.mp e
    refine wpAny_bind ((PySem.W.looks_subIn X e).here ?_)
    simp only [Bool.false_eq_true, if_false]
    refine wpAny_bind (wpAny_mono one (fun r s' z => ?_) fun _ _ e => e)
    obtain ⟨v, rfl, hq⟩ := z
    exact wpAny_pure hq
  · refine wpAny_bind (wpAny_pure ?_)
    simp only [Bool.false_eq_true, if_false]
    refine wpAny_bind (wpAny_mono one (fun r s' z => ?_) fun _ _ e => e)
    obtain ⟨v, rfl, hq⟩ := z
    exact wpAny_pure hq
theorem op_neI (hs : PySem.W.findIn X.K (.ref C) "__eq__" = some (some (.ref f))) (hf : PySem.W.isFn X.K (.ref f) = true) (hne : PySem.W.findIn X.K (.ref C) "__ne__" = some (some (.builtin "object.__ne__"))) (hob : PySem.W.mroIn X.K C (.type "object") = some true)
    (F : FnR X.prog X.w X.K X.mg X.base CX n f sp) (hr : Room (n + 1) X.A) (hx : Passes CX X E) : OpR X (compareOp .NotEq) (rOwnI X.K C sp E true) := by
  intro pins s σ H x y v u Q I rx ry h
  obtain ⟨a, dx, fs, t, rfl, ha, k, hn, q⟩ := h
  cases (show v = Value.ref a from rx)
  obtain ⟨mA, J, _⟩ := ins_get I.hok ha
  obtain ⟨od, J, _⟩ := J.look
  obtain ⟨m, hF⟩ := I.fr
  show wpAny _ _ (richCompare .NotEq _ _) _ _ s
  refine ne_K (by have := hr.un; omega) hF I.ok.mod.kin J (looks_kd I ry k) hn hs hf hne hob ?_
  refine wpAny_mono (wpAny_call (SlX.run_at (us := [.ref a, u]) (ws := [.ref a, y]) F hr.in1 I.env0.in1 hx I (.cons rfl (.cons ry .nil)) q)) (fun w s' z => ?_) fun _ _ x => x
  obtain ⟨z', H', I', rz, c, rfl, qz⟩ := z
  cases (show w = Value.bool c from rz)
  refine ⟨c, rfl, .bl (!c), H', I', rfl, ?_⟩
  cases c <;> exact qz
end
end FW
namespace FW
open PySem PySem.Spec PyProof.Rows L2
section
variable {X : Cx} {CX : CXT} {k : Nat} {f C : Addr} {fd : FuncData} {ps ks : List Str} {sp : Sp} {E : XK} {x m : Str} {p1 pos apos : Pos} {kws : List Keyword} {tk : TA} {g : List Value → List Value → List Value} {gV : List V → List V → List V}
/-- C.m(k=e, ..), m a static method -/
theorem pe_staticK0 {pl : Sem Bool} (hg : Gl X x) (hm : X.mg x = some (.ref C)) (S : Sta X.K C m f) (F : FnOk X.prog X.w X.K X.mg X.base CX k f fd ps sp) (hr : Room k X.A) (hb : KBinds X.K fd ps ks g gV) (hx : Passes CX X E) (hkw : PK X kws tk)
    (hall : (backToKw pos (keywordEach kws X.env)).all (·.1.isSome) = true := by rfl) (hks : (backToKw pos (keywordEach kws X.env)).filterMap (·.1) = ks := by rfl)
    (hdb : (x == ("__debug__" : Str)) = false := by decide)
    (hc : eval (.Call (.Attribute (.Name x p1) m apos) [] kws pos) X.env = (do
      let oc ← eval (.Name x p1) X.env
      standAt apos.atName
      let (fc, fst) ← holding [oc] (getMethod oc m pl)
      callWith pos fc fst (backTo pos (starEach [] X.env)) (backToKw pos (keywordEach kws X.env))) := by rfl)
    (hpl : ((backTo pos (starEach [] X.env)).any (·.1) || (backToKw pos (keywordEach kws X.env)).any (·.1.isNone)) = false := by rfl) :
    PE X (.Call (.Attribute (.Name x p1) m apos) [] kws pos) (tCallK sp gV E tNil tk) := by
  refine ⟨fun pins s σ H Q I h => PySem.W.methodCall_KW (pl := pl) (ld_glob I hg hm ?_ hdb) hc⟩
  refine static_get I.kIn S fun u => ?_
  have I1 : Inv X pins σ H { s with toks := u } := I.tok _
  refine PySem.W.callWith_KW0 (h₀ := X.base) I.ok.mod.kin S.kp hall (thn (hkw.run pos pins _ σ H _ I1 h) fun ws s2 ⟨zs, H2, I2, rz, q2⟩ => ⟨I2.kIn, ?_⟩) hpl
  rw [hks]
  exact run_fnk F hr hb hx I2 .nil rz q2
end
end FW
namespace FW
open PySem PySem.Spec PyProof.Rows L2
/-! ### data that may be compared -/
/-- data that nest at most so deep, all of whose texts may be laid -/
inductive Lay : Nat → PyData → Prop
  | non {n : Nat} : Lay n .none
  | bl {n : Nat} (b : Bool) : Lay n (.bool b)
  | int {n : Nat} (i : Int) : Lay n (.int i)
  | str {n : Nat} {x : Str} (h : PyData.strOk x = true) : Lay n (.str x)
  | lst {n : Nat} {ds : List PyData} (h : ∀ d ∈ ds, Lay n d) : Lay (n + 1) (.list ds)
  | tup {n : Nat} {ds : List PyData} (h : ∀ d ∈ ds, Lay n d) : Lay (n + 1) (.tuple ds)
theorem lay_all {n : Nat} : ∀ {ds : List PyData}, (∀ d ∈ ds, d.canLay0 = true ∧ d.depth ≤ n) → PyData.canLayAll0 ds = true ∧ PyData.depthAll ds ≤ n
  | [], _ => ⟨rfl, Nat.zero_le _⟩
  | d :: ds, h => by
    have h1 := h d List.mem_cons_self
    have h2 := lay_all (ds := ds) fun x hx => h x (List.mem_cons_of_mem _ hx)
    refine ⟨?_, ?_⟩
    · show (d.canLay0 && PyData.canLayAll0 ds) = true
      rw [h1.1, h2.1]
      rfl
    · show max d.depth (PyData.depthAll ds) ≤ n
      exact Nat.max_le.mpr ⟨h1.2, h2.2⟩
theorem Lay.ok {n : Nat} {d : PyData} (h : Lay n d) : d.canLay0 = true ∧ d.depth ≤ n := by
  induction h with
  | non => exact ⟨rfl, Nat.zero_le _⟩
  | bl b => exact ⟨rfl, Nat.zero_le _⟩
  | int i => exact ⟨rfl, Nat.zero_le _⟩
  | str h => exact ⟨h, Nat.zero_le _⟩
  | lst h ih => exact ⟨(lay_all ih).1, Nat.succ_le_succ (lay_all ih).2⟩
  | tup h ih => exact ⟨(lay_all ih).1, Nat.succ_le_succ (lay_all ih).2⟩
theorem Lay.shaped {n : Nat} {d : PyData} (h : Lay n d) (hn : n ≤ 64) : SeqAt.shaped d = true := by
  unfold SeqAt.shaped
  rw [h.ok.1, decide_eq_true (Nat.le_trans h.ok.2 hn)]
  rfl
theorem eqvAll_map {α : Type} [DecidableEq α] {f : α → PyData} (h : ∀ x y, PyData.eqv (f x) (f y) = decide (x = y)) : ∀ xs ys : List α, PyData.eqvAll (xs.map f) (ys.map f) = decide (xs = ys)
  | [], [] => by
    rw [decide_eq_true rfl]
    rfl
  | [], y :: ys => by
    rw [decide_eq_false (by simp)]
    rfl
  | x :: xs, [] => by
    rw [decide_eq_false (by simp)]
    rfl
  | x :: xs, y :: ys => by
    show (PyData.eqv (f x) (f y) && PyData.eqvAll (xs.map f) (ys.map f)) = _
    rw [h, eqvAll_map h xs ys, ← Bool.decide_and]
    exact decide_eq_decide.mpr (by simp)
theorem eqv_S (a b : List Nat) : PyData.eqv (.str (S a)) (.str (S b)) = decide (a = b) := by
  show (S a == S b) = _
  by_cases h : a = b
  · subst h
    rw [decide_eq_true rfl]
    exact beq_self_eq_true _
  · rw [decide_eq_false h]
    refine beq_eq_false_iff_ne.mpr fun e => h ?_
    have := congrArg (fun z : Str => z.cps.toList) e
    exact this
theorem eqv_tupS (a b : List (List Nat)) : PyData.eqv (.tuple (a.map fun p => .str (S p))) (.tuple (b.map fun p => .str (S p))) = decide (a = b) := by
  show PyData.eqvAll _ _ = _
  exact eqvAll_map eqv_S a b
end FW
namespace FW
open PySem PySem.Spec PyProof.Rows L2
def topS (i : Nat) : Stmt := PySem.Challenge.pw_fourwalls_k10_texts_of_books_refused.main.body.getD i (.Pass ⟨0, 0, 0, 0⟩)
section
variable {P : Program} {w : World} {K : PySem.W.Frag} {mg : Str → Option Value} {base : Heap}
abbrev s__law_open : Stmt := topS 33
theorem sc__law_open : FnScope ["_law_script", "_law_mixed", "_law_cell"] ["_law_script"] (defScope s__law_open) := ⟨rfl, rfl, rfl, by decide +kernel, rfl, by decide +kernel, by decide +kernel⟩
theorem ok__law_open {f : Addr} {fd : FuncData} (F : Fun K "_law_open" "_law_open" s__law_open f fd) (T : Z mg) : FnOk P w K mg base CX0 1 f fd ["_law_script"] (sp__law_open K) := by
  refine F.ok sc__law_open (fun vs H Q E h => ?_) (fun cdv A outer s H vs Q E hr h => ?_)
  · obtain ⟨a, ns, rfl, _⟩ := h
    rfl
  · obtain ⟨a, ns, rfl, hS, hlen, q⟩ := h
    refine ⟨_, (pss_cons (ps_set (i := 1) sc__law_open.nd rfl (.inl rfl) pe_int)
      (pss_cons (ps_for PassesOwn.never rfl (pi_list (pe_slice sl_list (pv 0) po_none (po_some pe_int))) (pg_name (i := 2) sc__law_open.nd rfl (.inl rfl))
        (pss_one (ps_set (i := 1) sc__law_open.nd rfl (.inl rfl) (pe_op op_mod (pe_callTy call_int1 (by rfl) T.z_int (by decide +kernel) (pa_cons (pe_op op_add (pe_op op_add (pe_op op_mul (pv 1) pe_int) (pe_op op_mul (pe_op op_mod (pe_callTy call_int1 (by rfl) T.z_int (by decide +kernel) (pa_cons (pv 2) pa_nil)) pe_int) pe_int)) pe_int) pa_nil)) pe_int))))
      (pss_one (ps_ret (pe_lst (pa_cons (pe_callTy call_list_of (by rfl) T.z_list (by decide +kernel) (pa_cons (pe_slice sl_list (pv 0) po_none (po_some pe_int)) pa_nil)) (pa_cons pe_int (pa_cons pe_int (pa_cons (pv 1) (pa_cons pe_int pa_nil)))))))))), ?_⟩
    have ecut : cutV (ns.map V.int) none (some 63) = ns.map V.int := by
      rw [show (63 : Int) = ((63 : Nat) : Int) from rfl, cutV_to]
      exact List.take_of_length_le (by rw [List.length_map]; exact hlen)
    refine ⟨_, rfl, 63, rfl, a, _, rfl, hS, fun p np => ?_⟩
    rw [ecut]
    have s1 : Same H (upd H p (.lst (ns.map V.int))) := same_upd np
    refine ⟨p, rfl, ⟨_, SqL.of upd_same⟩, for_it (walk_list (xs := ns.map V.int)) (fun i σ H' => ∃ m y, σ = [some (.ref a), some (.int m), y] ∧ 0 ≤ m ∧ m < 2147483648 ∧ H' = upd H p (.lst (ns.map V.int)))
      ⟨10042, none, rfl, by decide, by decide, rfl⟩ (fun i σ H' _ ⟨_, _, _, _, _, e⟩ => by rw [e]; exact SqL.of upd_same) ?_ ?_⟩
    · rintro i x σ _ _ hi ⟨m, y, rfl, h0, h1, rfl⟩ ⟨rfl, hx⟩
      obtain ⟨z, rfl⟩ : ∃ z, x = V.int z := by
        rw [List.getElem?_map] at hx
        cases e : ns[i]? with
        | none => rw [e] at hx; cases hx
        | some u => rw [e] at hx; exact ⟨u, (Option.some.inj hx).symm⟩
      refine ⟨_, rfl, _, _, rfl, rfl, .inr ⟨by decide, by decide⟩, _, rfl, .inl ⟨_, rfl, _, _, rfl, rfl, (show (0 : Int) < 1000033 by decide), _, _, rfl, rfl, .inr ⟨by decide, by decide⟩, _, _, rfl, rfl, _, _, rfl, rfl, .inl ⟨_, rfl, _, _, rfl, rfl, (show (0 : Int) < 2147483549 by decide), ?_⟩⟩⟩
      refine ⟨_, _, rfl, Int.emod_nonneg _ (by decide), ?_, rfl⟩
      exact Int.lt_trans (Int.emod_lt_of_pos _ (by decide)) (by decide)
    · rintro σ _ ⟨m, y, rfl, h0, h1, rfl⟩
      refine ⟨_, rfl, 63, rfl, a, _, rfl, s1.seq hS, fun p2 np2 => ?_⟩
      rw [ecut]
      have s2 := same_upd (o := HO.lst (ns.map V.int)) np2
      refine ⟨p2, _, rfl, .inl (SqL.of upd_same), fun l nl => ?_⟩
      have s3 := same_upd (o := HO.lst (ns.map V.int)) nl
      refine ⟨_, rfl, (show 5 ≤ sizeLine by decide), fun b nb => ?_⟩
      have s4 := same_upd (o := HO.lst [V.ref l, V.int 0, V.int 0, V.int m, V.int 0]) nb
      have s5 := (s1.trans s2).trans s3
      refine q _ b l (s5.free nb) ((s1.trans s2).free nl) (s5.trans s4) ⟨ns, 0, 0, m, 0, upd_same, s4 _ _ upd_same, by omega, by decide, h0, h1⟩
abbrev s__law_draw : Stmt := topS 34
theorem sc__law_draw : FnScope ["_law_bag", "_law_many", "_law_cell", "_law_digit", "_law_twice"] ["_law_bag", "_law_many"] (defScope s__law_draw) := ⟨rfl, rfl, rfl, by decide +kernel, rfl, by decide +kernel, by decide +kernel⟩
theorem ok__law_draw {f : Addr} {fd : FuncData} (F : Fun K "_law_draw" "_law_draw" s__law_draw f fd) (T : Z mg) : FnOk P w K mg base CX0 1 f fd ["_law_bag", "_law_many"] (sp__law_draw K) := by
  refine F.ok sc__law_draw (fun vs H Q E h => ?_) (fun cdv A outer s H vs Q E hr h => ?_)
  · obtain ⟨b, l, k, rfl, _⟩ := h
    rfl
  · obtain ⟨b, l, k, rfl, ⟨ns, i, r, m, c, hb, hL, hlen, hi, hm0, hm1⟩, hk, hk2, q⟩ := h
    have nlb : l ≠ b := ne_of hL hb bag_ne
    refine ⟨_, (pss_cons (ps_asg (pe_op op_add (pe_ix ix_list (pv 0) pe_int (fun _ _ => rfl)) pe_int) (pg_sub (pv 0) pe_int set_list))
      (C8.pss_cut (ps_if (PW.pt (pw_and (pt_cmpR op_eq (pe_ix ix_list (pv 0) pe_int (fun _ _ => rfl)) pe_int (nomark _)) (pw_and1 (pt_cmpR op_lt (pe_ix ix_list (pv 0) pe_int (fun _ _ => rfl)) (pe_callB call_len (by rfl) T.z_len (by decide +kernel) (pa_cons (pe_ix ix_list (pv 0) pe_int (fun _ _ => rfl)) pa_nil)) (nomark _))))) (pss_cons (ps_set (i := 2) sc__law_draw.nd rfl (.inl rfl) (pe_ix ix_list (pe_ix ix_list (pv 0) pe_int (fun _ _ => rfl)) (pe_ix ix_list (pv 0) pe_int (fun _ _ => rfl)) (fun _ _ => rfl)))
      (pss_cons (ps_asg (pe_op op_add (pe_ix ix_list (pv 0) pe_int (fun _ _ => rfl)) pe_int) (pg_sub (pv 0) pe_int set_list))
      (pss_one (ps_if (pt_cmpR op_ge (pe_callB call_abs (by rfl) T.z_abs (by decide +kernel) (pa_cons (pv 2) pa_nil)) (pe_op op_pow pe_int pe_int) (nomark _)) (pss_one (ps_asg (pe_callB call_abs (by rfl) T.z_abs (by decide +kernel) (pa_cons (pv 2) pa_nil)) (pg_sub (pv 0) pe_int set_list))) (pss_one (ps_asg (pe_op op_mod (pe_callTy call_int1 (by rfl) T.z_int (by decide +kernel) (pa_cons (pe_op op_add (pe_op op_add (pe_op op_mul (pe_ix ix_list (pv 0) pe_int (fun _ _ => rfl)) pe_int) (pe_op op_mul (pe_op op_mod (pe_callTy call_int1 (by rfl) T.z_int (by decide +kernel) (pa_cons (pv 2) pa_nil)) pe_int) pe_int)) pe_int) pa_nil)) pe_int) (pg_sub (pv 0) pe_int set_list))))))) pss_nil)
      (pss_cons (ps_if (pt_cmpR op_gt (pe_ix ix_list (pv 0) pe_int (fun _ _ => rfl)) pe_int (nomark _)) (pss_cons (ps_set (i := 3) sc__law_draw.nd rfl (.inl rfl) (pe_op op_mod (pe_callTy call_int1 (by rfl) T.z_int (by decide +kernel) (pa_cons (pe_ix ix_list (pv 0) pe_int (fun _ _ => rfl)) pa_nil)) (pv 1)))
      (pss_cons (ps_asg (pe_op op_fdivN (pe_ix ix_list (pv 0) pe_int (fun _ _ => rfl)) (pv 1)) (pg_sub (pv 0) pe_int set_list))
      (pss_one (ps_ret (pv 3))))) pss_nil)
      (pss_cons (ps_set (i := 4) sc__law_draw.nd rfl (.inl rfl) (pe_op op_mod (pe_callTy call_int1 (by rfl) T.z_int (by decide +kernel) (pa_cons (pe_op op_add (pe_op op_mul (pe_ix ix_list (pv 0) pe_int (fun _ _ => rfl)) (pe_ix ix_list (pv 0) pe_int (fun _ _ => rfl))) (pe_op op_mul (pe_ix ix_list (pv 0) pe_int (fun _ _ => rfl)) pe_int)) pa_nil)) pe_int))
      (pss_cons (ps_asg (pe_op op_mod (pe_callTy call_int1 (by rfl) T.z_int (by decide +kernel) (pa_cons (pe_op op_add (pe_op op_add (pe_op op_mul (pv 4) pe_int) (pe_op op_mul (pe_ix ix_list (pv 0) pe_int (fun _ _ => rfl)) pe_int)) pe_int) pa_nil)) pe_int) (pg_sub (pv 0) pe_int set_list))
      (pss_one (ps_ret (pe_op op_mod (pe_callTy call_int1 (by rfl) T.z_int (by decide +kernel) (pa_cons (pe_op op_fdivN (pe_ix ix_list (pv 0) pe_int (fun _ _ => rfl)) pe_int) pa_nil)) (pv 1))))))))), ?_⟩
    -- bag[4] += 1
    refine ⟨_, rfl, b, _, 4, _, rfl, rfl, SqL.of hb, rfl, _, _, rfl, rfl, _, rfl, b, _, 4, 4, rfl, rfl, hb, rfl, ?_⟩
    have B1 : BagAt H (upd H b (.lst [.ref l, .int i, .int r, .int m, .int (c + 1)])) b l ns := ⟨(But.refl b H).upd, by rw [upd_ne nlb]; exact hL, i, r, m, c + 1, upd_same, hi, hm0, hm1⟩
    refine ⟨fun σ' H1 => ∃ x2 x3 x4, σ' = [some (.ref b), some (.int k), x2, x3, x4] ∧ BagAt H H1 b l ns, ?_, ?_⟩
    · have hL1 : (upd H b (.lst [.ref l, .int i, .int r, .int m, .int (c + 1)])) l = some (.lst (ns.map V.int)) := by rw [upd_ne nlb]; exact hL
      refine ⟨_, rfl, b, _, 2, _, rfl, rfl, SqL.of upd_same, rfl, rfl, _, rfl, ite2 (fun _ => ?_) (fun _ => ?_)⟩
      · refine ⟨_, rfl, b, _, 1, _, rfl, rfl, SqL.of upd_same, rfl, _, rfl, b, _, 0, _, rfl, rfl, SqL.of upd_same, rfl, _, _, rfl, .inl ⟨_, SqL.of hL1, rfl⟩, _, _, rfl, rfl, _, rfl, ite2 (fun hlt => ?_) (fun _ => ?_)⟩
        · have hlt : i < ((ns.map V.int).length : Int) := of_decide_eq_true hlt
          rw [List.length_map] at hlt
          have hin : i.toNat < ns.length := by omega
          have hat : atI (ns.map V.int) i = some (.int ns[i.toNat]) := by
            have e : i = ((i.toNat : Nat) : Int) := by omega
            refine at_of e ?_
            rw [List.getElem?_map, List.getElem?_eq_getElem hin]
            rfl
          refine ⟨_, rfl, b, _, 0, _, rfl, rfl, SqL.of upd_same, rfl, _, rfl, b, _, 1, _, rfl, rfl, SqL.of upd_same, rfl, l, _, i, _, rfl, rfl, SqL.of hL1, hat, ?_⟩
          refine ⟨_, rfl, b, _, 1, _, rfl, rfl, SqL.of upd_same, rfl, _, _, rfl, rfl, _, rfl, b, _, 1, 1, rfl, rfl, upd_same, rfl, ?_⟩
          refine ⟨_, rfl, _, rfl, _, _, rfl, rfl, ⟨by decide, by decide, by decide⟩, _, _, rfl, rfl, _, rfl, ite2 (fun _ => ?_) (fun _ => ?_)⟩
          · refine ⟨_, rfl, _, rfl, _, rfl, b, _, 2, 2, rfl, rfl, upd_same, rfl, _, _, _, rfl, (((But.refl b H).upd).upd).upd, ?_, _, _, _, _, upd_same, ?_, hm0, hm1⟩
            · rw [upd_ne nlb, upd_ne nlb]
              exact hL1
            · omega
          · refine ⟨_, rfl, b, _, 3, _, rfl, rfl, SqL.of upd_same, rfl, _, _, rfl, rfl, .inr ⟨by decide, by decide⟩, _, rfl, .inl ⟨_, rfl, _, _, rfl, rfl, (show (0 : Int) < 1000033 by decide), _, _, rfl, rfl, .inr ⟨by decide, by decide⟩, _, _, rfl, rfl, _, _, rfl, rfl, .inl ⟨_, rfl, _, _, rfl, rfl, (show (0 : Int) < 2147483587 by decide), ?_⟩⟩⟩
            refine ⟨_, rfl, b, _, 3, 3, rfl, rfl, upd_same, rfl, _, _, _, rfl, (((But.refl b H).upd).upd).upd, ?_, _, _, _, _, upd_same, ?_, Int.emod_nonneg _ (by decide), Int.lt_trans (Int.emod_lt_of_pos _ (by decide)) (by decide)⟩
            · rw [upd_ne nlb, upd_ne nlb]
              exact hL1
            · omega
        · exact ⟨_, _, _, rfl, B1⟩
      · exact ⟨_, _, _, rfl, B1⟩
    · rintro σ' H1 ⟨x2, x3, x4, rfl, hbut, hL1, i1, r1, m1, c1, hb1, hi1, hm01, hm11⟩
      have fin : ∀ H2, But b H H2 → H2 l = some (.lst (ns.map V.int)) → ∀ i2 r2 m2 c2 : Int, H2 b = some (.lst [.ref l, .int i2, .int r2, .int m2, .int c2]) → 0 ≤ i2 → 0 ≤ m2 → m2 < 2147483648 → Bag H2 b l := fun H2 _ h2 i2 r2 m2 c2 h3 h4 h5 h6 => ⟨ns, i2, r2, m2, c2, h3, h2, hlen, h4, h5, h6⟩
      refine ⟨_, rfl, b, _, 2, _, rfl, rfl, SqL.of hb1, rfl, _, _, rfl, rfl, _, rfl, ite2 (fun _ => ?_) (fun _ => ?_)⟩
      · refine ⟨_, rfl, b, _, 2, _, rfl, rfl, SqL.of hb1, rfl, .inl ⟨_, rfl, _, rfl, _, _, rfl, rfl, hk, ?_⟩⟩
        refine ⟨_, rfl, b, _, 2, _, rfl, rfl, SqL.of hb1, rfl, _, rfl, _, _, rfl, rfl, ⟨by omega, by omega⟩, _, rfl, b, _, 2, 2, rfl, rfl, hb1, rfl, _, rfl, ?_⟩
        refine q _ _ (Int.emod_nonneg _ (by omega)) (Int.emod_lt_of_pos _ hk) hbut.upd (fin _ hbut.upd (by rw [upd_ne nlb]; exact hL1) _ _ _ _ upd_same hi1 hm01 hm11)
      · refine ⟨_, rfl, b, _, 3, _, rfl, rfl, SqL.of hb1, rfl, _, rfl, b, _, 3, _, rfl, rfl, SqL.of hb1, rfl, _, _, rfl, rfl, .inl ⟨by omega, by omega⟩, _, rfl, b, _, 4, _, rfl, rfl, SqL.of hb1, rfl, _, _, rfl, rfl, .inr ⟨by decide, by decide⟩, _, _, rfl, rfl, .inl ⟨_, rfl, _, _, rfl, rfl, (show (0 : Int) < 2147483629 by decide), ?_⟩⟩
        refine ⟨_, rfl, _, _, rfl, rfl, .inr ⟨by decide, by decide⟩, _, rfl, b, _, 3, _, rfl, rfl, SqL.of hb1, rfl, _, _, rfl, rfl, .inr ⟨by decide, by decide⟩, _, _, rfl, rfl, _, _, rfl, rfl, .inl ⟨_, rfl, _, _, rfl, rfl, (show (0 : Int) < 2147483587 by decide), ?_⟩⟩
        refine ⟨_, rfl, b, _, 3, 3, rfl, rfl, hb1, rfl, ?_⟩
        refine ⟨_, rfl, b, _, 3, _, rfl, rfl, SqL.of upd_same, rfl, _, _, rfl, rfl, ⟨by decide, by decide⟩, .inl ⟨_, rfl, _, rfl, _, _, rfl, rfl, hk, ?_⟩⟩
        refine q _ _ (Int.emod_nonneg _ (by omega)) (Int.emod_lt_of_pos _ hk) hbut.upd (fin _ hbut.upd (by rw [upd_ne nlb]; exact hL1) _ _ _ _ upd_same hi1 (Int.emod_nonneg _ (by decide)) (Int.lt_trans (Int.emod_lt_of_pos _ (by decide)) (by decide)))
abbrev s__law_of : Stmt := topS 35
theorem sc__law_of : FnScope ["_law_bag", "_law_things"] ["_law_bag", "_law_things"] (defScope s__law_of) := ⟨rfl, rfl, rfl, by decide +kernel, rfl, by decide +kernel, by decide +kernel⟩
theorem ok__law_of {f : Addr} {fd : FuncData} (F : Fun K "_law_of" "_law_of" s__law_of f fd) (T : Z mg) (c__law_draw : Cal P w K mg base CX0 1 "_law_draw" s__law_draw ["_law_bag", "_law_many"] (sp__law_draw K)) : FnOk P w K mg base CX0 2 f fd ["_law_bag", "_law_things"] (sp__law_of K) := by
  refine F.ok sc__law_of (fun vs H Q E h => ?_) (fun cdv A outer s H vs Q E hr h => ?_)
  · obtain ⟨b, lb, x, xs, rfl, _⟩ := h
    rfl
  · obtain ⟨b, lb, x, xs, rfl, B, hI, h0, h1, q⟩ := h
    refine ⟨_, (pss_one (ps_ret (pe_ix ix_seq (pv 1) (pe_c c__law_draw hr (by decide) (by rfl) (pa_cons (pv 0) (pa_cons (pe_callB call_len (by rfl) T.z_len (by decide +kernel) (pa_cons (pv 1) pa_nil)) pa_nil))) (fun _ _ => rfl)))), ?_⟩
    have pick : ∀ z : Int, 0 ≤ z → z < (xs.length : Int) → ∃ v, atI xs z = some v ∧ v ∈ xs := fun z z0 z1 => by
      have hin : z.toNat < xs.length := by omega
      exact ⟨xs[z.toNat], at_of (show z = ((z.toNat : Nat) : Int) by omega) (List.getElem?_eq_getElem hin), List.getElem_mem hin⟩
    refine ⟨_, rfl, _, rfl, _, rfl, x, xs.length, rfl, ?_, ?_⟩
    · rcases hI with ⟨a, _, rfl, hS⟩ | ⟨a, _, rfl, hS⟩ | ⟨l, rfl, rfl⟩
      · exact .inl ⟨_, hS, rfl⟩
      · exact .inr ⟨_, hS, rfl⟩
      · rw [List.length_map] at h1 ⊢
        exact ⟨by rw [S_len]; exact sz h1, (S_len l).symm⟩
    · refine ⟨b, lb, xs.length, rfl, B, by omega, by omega, fun H' z z0 z1 hb B' => ?_⟩
      obtain ⟨v, ha, hm⟩ := pick z z0 z1
      rcases hI with ⟨a, na, rfl, hS⟩ | ⟨a, na, rfl, hS⟩ | ⟨l, rfl, rfl⟩
      · exact .inl ⟨a, xs, z, v, rfl, rfl, hb.seq na hS, ha, q _ _ hm hb B'⟩
      · exact .inr (.inl ⟨a, xs, z, v, rfl, rfl, hb.tup na hS, ha, q _ _ hm hb B'⟩)
      · refine .inr (.inr ?_)
        obtain ⟨c, hc⟩ : ∃ c, atI l z = some c := by
          have hin : z.toNat < l.length := by
            rw [List.length_map] at z1
            omega
          exact ⟨l[z.toNat], atI_of (show z = ((z.toNat : Nat) : Int) by omega) (List.getElem?_eq_getElem hin)⟩
        have ev : v = sgn c := by
          have z2 : z < (l.length : Int) := by
            rw [List.length_map] at z1
            exact z1
          have e1 : ixN l.length z = some z.toNat := by
            unfold ixN
            rw [if_pos z0, if_pos z2]
          unfold atI at ha hc
          rw [List.length_map, e1] at ha
          rw [e1] at hc
          have hc' : l[z.toNat]? = some c := hc
          have ha' : (l.map sgn)[z.toNat]? = some v := ha
          rw [List.getElem?_map, hc'] at ha'
          exact (Option.some.inj ha').symm
        rw [List.length_map] at h1
        exact ⟨S l, z, c, rfl, rfl, by rw [S_len]; exact sz h1, hc, by rw [ev] at hm; exact q _ _ hm hb B'⟩
abbrev s__law_same : Stmt := topS 36
theorem sc__law_same : FnScope ["_law_found", "_law_due", "_law_a", "_law_b"] ["_law_found", "_law_due"] (defScope s__law_same) := ⟨rfl, rfl, rfl, by decide +kernel, rfl, by decide +kernel, by decide +kernel⟩
theorem ok__law_same_step {f : Addr} {fd : FuncData} {n : Nat} {sp : Sp} (F : Fun K "_law_same" "_law_same" s__law_same f fd) (T : Z mg)
    (c__law_same : Cal P w K mg base CX0 (n + 1) "_law_same" s__law_same ["_law_found", "_law_due"] sp) (hsp : ∀ m vs H Q E, n = m + 1 → sp__law_same K m vs H Q E → sp vs H Q E) : FnOk P w K mg base CX0 (n + 2) f fd ["_law_found", "_law_due"] (sp__law_same K n) := by
  refine F.ok sc__law_same (fun vs H Q E h => ?_) (fun cdv A outer s H vs Q E hr h => ?_)
  · obtain ⟨x, y, d, rfl, _⟩ := h
    rfl
  · obtain ⟨x, y, d, rfl, hx, hy, hd, q⟩ := h
    refine ⟨_, (pss_cons (ps_if (PW.pt (pw_or (pt_cmpR op_isN (pv 1) pe_non (nomark _)) (pw_or1 (pt_cmpR op_isN (pv 0) pe_non (nomark _))))) (pss_one (ps_ret (pe_and (pe_cmpR op_isN (pv 1) pe_non (nomark _)) (pe_one (pe_cmpR op_isN (pv 0) pe_non (nomark _)))))) pss_nil)
      (pss_cons (ps_if (pt_val (pe_callB call_isiT (by rfl) T.z_isinstance (by decide +kernel) (pa_cons (pv 1) (pa_cons (pe_tup (pa_cons (pe_bltn (v := .ty "list") (u := .type "list") (by rfl) T.z_list (by decide +kernel) rfl) (pa_cons (pe_bltn (v := .ty "tuple") (u := .type "tuple") (by rfl) T.z_tuple (by decide +kernel) rfl) pa_nil))) pa_nil)))) (pss_cons (ps_if (pt_cmpR op_ne (pe_callB call_isi (by rfl) T.z_isinstance (by decide +kernel) (pa_cons (pv 0) (pa_cons (pe_bltn (v := .ty "list") (u := .type "list") (by rfl) T.z_list (by decide +kernel) rfl) pa_nil))) (pe_callB call_isi (by rfl) T.z_isinstance (by decide +kernel) (pa_cons (pv 1) (pa_cons (pe_bltn (v := .ty "list") (u := .type "list") (by rfl) T.z_list (by decide +kernel) rfl) pa_nil))) (nomark _)) (pss_one (ps_ret pe_bl)) pss_nil)
      (pss_cons (ps_if (PW.pt (pw_or (pt_cmpR op_ne (pe_callB call_isi (by rfl) T.z_isinstance (by decide +kernel) (pa_cons (pv 0) (pa_cons (pe_bltn (v := .ty "tuple") (u := .type "tuple") (by rfl) T.z_tuple (by decide +kernel) rfl) pa_nil))) (pe_callB call_isi (by rfl) T.z_isinstance (by decide +kernel) (pa_cons (pv 1) (pa_cons (pe_bltn (v := .ty "tuple") (u := .type "tuple") (by rfl) T.z_tuple (by decide +kernel) rfl) pa_nil))) (nomark _)) (pw_or1 (pt_cmpR op_ne (pe_callB call_len (by rfl) T.z_len (by decide +kernel) (pa_cons (pv 0) pa_nil)) (pe_callB call_len (by rfl) T.z_len (by decide +kernel) (pa_cons (pv 1) pa_nil)) (nomark _))))) (pss_one (ps_ret pe_bl)) pss_nil)
      (pss_one (ps_ret (pe_callB (cr_all rfl) (by rfl) T.z_all (by decide +kernel) (pa_cons (pe_lc (own := [("_law_a", 2), ("_law_b", 3)]) (g := (gTup K 2 (gCons (gName 2) (gCons (gName 3) gNil)))) (by rfl) sc__law_same.nd (RZ.pi_zipA (by rfl) T.z_zip (pa_cons (pv 0) (pa_cons (pv 1) pa_nil))) (blkOk_by (N := ["_law_found", "_law_due", "_law_a", "_law_b"]) (sc := defScope s__law_same) (by decide +kernel)) (fun _ _ _ _ _ => (pg_tup rfl (pgs_cons (pg_name (i := 2) sc__law_same.nd rfl (.inl rfl)) (pgs_cons (pg_name (i := 3) sc__law_same.nd rfl (.inl rfl)) pgs_nil)))) (fun _ _ _ _ _ => pts_nil) (fun _ _ _ _ _ => (pe_c c__law_same hr (Nat.le_refl _) (by rfl) (pa_cons (pv 2) (pa_cons (pv 3) pa_nil))))) pa_nil)))))) pss_nil)
      (pss_cons (ps_if (pt_val (pe_callB call_isiT (by rfl) T.z_isinstance (by decide +kernel) (pa_cons (pv 0) (pa_cons (pe_tup (pa_cons (pe_bltn (v := .ty "list") (u := .type "list") (by rfl) T.z_list (by decide +kernel) rfl) (pa_cons (pe_bltn (v := .ty "tuple") (u := .type "tuple") (by rfl) T.z_tuple (by decide +kernel) rfl) pa_nil))) pa_nil)))) (pss_one (ps_ret pe_bl)) pss_nil)
      (pss_cons (ps_if (pt_cmpR op_ne (pe_callB call_isi (by rfl) T.z_isinstance (by decide +kernel) (pa_cons (pv 0) (pa_cons (pe_bltn (v := .ty "bool") (u := .type "bool") (by rfl) T.z_bool (by decide +kernel) rfl) pa_nil))) (pe_callB call_isi (by rfl) T.z_isinstance (by decide +kernel) (pa_cons (pv 1) (pa_cons (pe_bltn (v := .ty "bool") (u := .type "bool") (by rfl) T.z_bool (by decide +kernel) rfl) pa_nil))) (nomark _)) (pss_one (ps_ret pe_bl)) pss_nil)
      (pss_cons (ps_if (pt_cmpR op_ne (pe_callB call_isi (by rfl) T.z_isinstance (by decide +kernel) (pa_cons (pv 0) (pa_cons (pe_bltn (v := .ty "int") (u := .type "int") (by rfl) T.z_int (by decide +kernel) rfl) pa_nil))) (pe_callB call_isi (by rfl) T.z_isinstance (by decide +kernel) (pa_cons (pv 1) (pa_cons (pe_bltn (v := .ty "int") (u := .type "int") (by rfl) T.z_int (by decide +kernel) rfl) pa_nil))) (nomark _)) (pss_one (ps_ret pe_bl)) pss_nil)
      (pss_one (ps_ret (pe_and (pe_cmpR op_eq (pe_callB call_isi (by rfl) T.z_isinstance (by decide +kernel) (pa_cons (pv 0) (pa_cons (pe_bltn (v := .ty "str") (u := .type "str") (by rfl) T.z_str (by decide +kernel) rfl) pa_nil))) (pe_callB call_isi (by rfl) T.z_isinstance (by decide +kernel) (pa_cons (pv 1) (pa_cons (pe_bltn (v := .ty "str") (u := .type "str") (by rfl) T.z_str (by decide +kernel) rfl) pa_nil))) (nomark _)) (pe_one (pe_cmpR op_eq (pv 0) (pv 1) (nomark _))))))))))), ?_⟩
    have kinds : (x = .non ∧ y = .non) ∨ (∃ (Ty : String) (r1 r2 r3 : Bool), x = y ∧ x ≠ .non ∧ (∀ H', TyX K H' x (.type Ty)) ∧ kitB Ty "list" = some false ∧ kitB Ty "tuple" = some false ∧ kitB Ty "bool" = some r1 ∧ kitB Ty "int" = some r2 ∧ kitB Ty "str" = some r3 ∧ scal x x = true) ∨
        (∃ (m : Nat) (a b : Addr) (xs ys : List V) (ds : List PyData), n = m + 1 ∧ x = .ref a ∧ y = .ref b ∧ SqL K H a xs ∧ SqL K H b ys ∧ DpAll K H xs ds ∧ DpAll K H ys ds ∧ ds.length ≤ 1000 ∧ ∀ d ∈ ds, Deep m d) ∨
        (∃ (m : Nat) (a b : Addr) (xs ys : List V) (ds : List PyData), n = m + 1 ∧ x = .ref a ∧ y = .ref b ∧ SqT K H a xs ∧ SqT K H b ys ∧ DpAll K H xs ds ∧ DpAll K H ys ds ∧ ds.length ≤ 1000 ∧ ∀ d ∈ ds, Deep m d) := by
      cases hx with
      | non =>
        cases hy
        exact .inl ⟨rfl, rfl⟩
      | bl b =>
        cases hy
        exact .inr (.inl ⟨"bool", true, true, false, rfl, (fun e => by cases e), fun _ => .base (.bl b), by decide +kernel, by decide +kernel, by decide +kernel, by decide +kernel, by decide +kernel, rfl⟩)
      | int b =>
        cases hy
        exact .inr (.inl ⟨"int", false, true, false, rfl, (fun e => by cases e), fun _ => .base (.int b), by decide +kernel, by decide +kernel, by decide +kernel, by decide +kernel, by decide +kernel, rfl⟩)
      | str b =>
        cases hy
        exact .inr (.inl ⟨"str", false, false, true, rfl, (fun e => by cases e), fun _ => .base (.str b), by decide +kernel, by decide +kernel, by decide +kernel, by decide +kernel, by decide +kernel, rfl⟩)
      | lst h1 h2 =>
        cases hy with
        | lst h3 h4 =>
          cases n with
          | zero =>
            unfold Deep at hd
            exact hd.elim
          | succ m =>
            unfold Deep at hd
            exact .inr (.inr (.inl ⟨m, _, _, _, _, _, rfl, rfl, rfl, h1, h3, h2, h4, hd.1, hd.2⟩))
      | tup h1 h2 =>
        cases hy with
        | tup h3 h4 =>
          cases n with
          | zero =>
            unfold Deep at hd
            exact hd.elim
          | succ m =>
            unfold Deep at hd
            exact .inr (.inr (.inr ⟨m, _, _, _, _, _, rfl, rfl, rfl, h1, h3, h2, h4, hd.1, hd.2⟩))
    rcases kinds with ⟨rfl, rfl⟩ | ⟨Ty, r1, r2, r3, rfl, hn, ht, k1, k2, k3, k4, k5, hs⟩ | ⟨m, a, b, xs, ys, ds, hm, rfl, rfl, hSx, hSy, hDx, hDy, hdl, hdd⟩ | ⟨m, a, b, xs, ys, ds, hm, rfl, rfl, hSx, hSy, hDx, hDy, hdl, hdd⟩
    · refine ⟨_, rfl, rfl, _, rfl, ite2 (fun _ => ?_) (fun h => absurd (decide_eq_true rfl) h)⟩
      refine iteT ?_
      refine ⟨_, rfl, rfl, _, rfl, ite2 (fun _ => ?_) (fun h => absurd (decide_eq_true rfl) h)⟩
      refine ⟨_, rfl, rfl, ?_⟩
      rw [decide_eq_true rfl]
      exact q _ (Same.refl H)
    · refine ⟨_, rfl, rfl, _, rfl, ite2 (fun h => absurd (of_decide_eq_true h) hn) (fun _ => ?_)⟩
      refine ⟨_, rfl, rfl, _, rfl, ite2 (fun h => absurd (of_decide_eq_true h) hn) (fun _ => ?_)⟩
      refine ⟨_, rfl, (show 2 ≤ sizeLine by decide), fun p np => ⟨_, p, _, _, _, false, rfl, upd_same, .cons (.ty _) (.cons (.ty _) .nil), ht _, kitAny_lt k1 k2, _, rfl, iteF ?_⟩⟩
      have s1 := same_upd (o := HO.tup [V.ty "list", V.ty "tuple"]) np
      refine ⟨_, rfl, (show 2 ≤ sizeLine by decide), fun p2 np2 => ⟨_, p2, _, _, _, false, rfl, upd_same, .cons (.ty _) (.cons (.ty _) .nil), ht _, kitAny_lt k1 k2, _, rfl, iteF ?_⟩⟩
      have s2 := s1.trans (same_upd (o := HO.tup [V.ty "list", V.ty "tuple"]) np2)
      refine ⟨_, rfl, _, _, _, _, r1, rfl, .ty _, ht _, kit_ty k3, _, rfl, _, _, _, _, r1, rfl, .ty _, ht _, kit_ty k3, rfl, _, rfl, iteNS rfl ?_⟩
      refine ⟨_, rfl, _, _, _, _, r2, rfl, .ty _, ht _, kit_ty k4, _, rfl, _, _, _, _, r2, rfl, .ty _, ht _, kit_ty k4, rfl, _, rfl, iteNS rfl ?_⟩
      refine ⟨_, rfl, _, _, _, _, r3, rfl, .ty _, ht _, kit_ty k5, _, rfl, _, _, _, _, r3, rfl, .ty _, ht _, kit_ty k5, rfl, _, rfl, ite2 (fun _ => ?_) (fun h => absurd (decide_eq_true rfl) h)⟩
      refine ⟨_, rfl, _, rfl, hs, ?_⟩
      rw [decide_eq_true rfl]
      exact q _ s2
    · refine ⟨_, rfl, rfl, _, rfl, ite2 (fun h => absurd (of_decide_eq_true h) (fun e => by cases e)) (fun _ => ?_)⟩
      refine ⟨_, rfl, rfl, _, rfl, ite2 (fun h => absurd (of_decide_eq_true h) (fun e => by cases e)) (fun _ => ?_)⟩
      refine ⟨_, rfl, (show 2 ≤ sizeLine by decide), fun p np => ?_⟩
      have s1 := same_upd (o := HO.tup [V.ty "list", V.ty "tuple"]) np
      have hSx1 := s1.seq hSx
      have hSy1 := s1.seq hSy
      refine ⟨_, p, _, _, _, true, rfl, upd_same, .cons (.ty _) (.cons (.ty _) .nil), tyL hSy1, kitAny_lt (r1 := true) (r2 := false) (by decide +kernel) (by decide +kernel), _, rfl, iteT ?_⟩
      refine ⟨_, rfl, _, _, _, _, true, rfl, .ty _, tyL hSx1, kit_ty (by decide +kernel), _, rfl, _, _, _, _, true, rfl, .ty _, tyL hSy1, kit_ty (by decide +kernel), rfl, _, rfl, iteNS rfl ?_⟩
      refine ⟨_, rfl, _, _, _, _, false, rfl, .ty _, tyL hSx1, kit_ty (by decide +kernel), _, rfl, _, _, _, _, false, rfl, .ty _, tyL hSy1, kit_ty (by decide +kernel), rfl, _, rfl, iteNS rfl ?_⟩
      refine ⟨_, rfl, _, _, rfl, .inl ⟨_, hSx1, rfl⟩, _, rfl, _, _, rfl, .inl ⟨_, hSy1, rfl⟩, rfl, _, rfl, iteNS (by rw [DpAll.len hDx, DpAll.len hDy]) ?_⟩
      refine ⟨_, rfl, _, rfl, a, b, xs, ys, rfl, .inl ⟨hSx1, hSy1, fun D hD => ?_⟩⟩
      refine lc_it (walk_zip (xs := xs) (ys := ys) (n := ds.length) (by rw [DpAll.len hDx, DpAll.len hDy, Nat.min_self])) (fun i H' => But D (upd H p (.tup [.ty "list", .ty "tuple"])) H' ∧ H' D = some (.lst (List.replicate i (.bl true)))) ⟨(same_upd hD).but, upd_same⟩ (fun i H' _ pv => ?_) ?_ ?_
      · have nD : ∀ c u, (upd H p (.tup [.ty "list", .ty "tuple"])) c = some u → c ≠ D := fun c u e => ne_of_none e hD
        exact ⟨seq_but nD pv.1 hSx1, seq_but nD pv.1 hSy1⟩
      · rintro i _ H' _ hi ⟨bt, hDD⟩ ⟨T', x1, y1, rfl, nT, rfl, hx1, hy1⟩
        obtain ⟨d1, e1, g1⟩ := DpAll.at hDx hx1
        obtain ⟨d2, e2, g2⟩ := DpAll.at hDy hy1
        have ed : d1 = d2 := Option.some.inj (e1.symm.trans e2)
        subst ed
        have nDT : D ≠ T' := ne_of_none hDD nT
        have sT := same_upd (o := HO.tup [x1, y1]) nT
        have nD : ∀ c u, H c = some u → c ≠ D := fun c u e => ne_of_none (s1 _ _ e) hD
        have sH : Same H (upd H' T' (.tup [x1, y1])) := fun c u e => sT _ _ (bt c u (nD c u e) (s1 _ _ e))
        refine ⟨T', [x1, y1], rfl, SqT.of upd_same, rfl, x1, [y1], rfl, y1, [], rfl, rfl, rfl, ?_⟩
        refine ⟨_, rfl, _, rfl, hsp m _ _ _ _ hm ⟨x1, y1, d1, rfl, Dp.same sH g1, Dp.same sH g2, hdd d1 (List.mem_of_getElem? e1), fun H2 s2 => ?_⟩⟩
        refine ⟨_, s2 _ _ (sT _ _ hDD), ?_, fun c u n e => ?_, ?_⟩
        · rw [List.length_replicate]
          exact sz1 (by omega)
        · rw [upd_ne n]
          exact s2 _ _ (sT _ _ (bt c u n e))
        · rw [upd_same, ← List.replicate_succ']
      · rintro H' ⟨bt, hDD⟩
        refine ⟨D, List.replicate ds.length true, rfl, SqL.of (by rw [hDD, List.map_replicate]), ?_⟩
        rw [show (List.replicate ds.length true).all id = true from by rw [List.all_eq_true]; intro z hz; rw [List.eq_of_mem_replicate hz]; rfl]
        exact q _ fun c u e => bt c u (ne_of_none (s1 _ _ e) hD) (s1 _ _ e)
    · refine ⟨_, rfl, rfl, _, rfl, ite2 (fun h => absurd (of_decide_eq_true h) (fun e => by cases e)) (fun _ => ?_)⟩
      refine ⟨_, rfl, rfl, _, rfl, ite2 (fun h => absurd (of_decide_eq_true h) (fun e => by cases e)) (fun _ => ?_)⟩
      refine ⟨_, rfl, (show 2 ≤ sizeLine by decide), fun p np => ?_⟩
      have s1 := same_upd (o := HO.tup [V.ty "list", V.ty "tuple"]) np
      have hSx1 := s1.tup hSx
      have hSy1 := s1.tup hSy
      refine ⟨_, p, _, _, _, true, rfl, upd_same, .cons (.ty _) (.cons (.ty _) .nil), tyT hSy1, kitAny_lt (r1 := false) (r2 := true) (by decide +kernel) (by decide +kernel), _, rfl, iteT ?_⟩
      refine ⟨_, rfl, _, _, _, _, false, rfl, .ty _, tyT hSx1, kit_ty (by decide +kernel), _, rfl, _, _, _, _, false, rfl, .ty _, tyT hSy1, kit_ty (by decide +kernel), rfl, _, rfl, iteNS rfl ?_⟩
      refine ⟨_, rfl, _, _, _, _, true, rfl, .ty _, tyT hSx1, kit_ty (by decide +kernel), _, rfl, _, _, _, _, true, rfl, .ty _, tyT hSy1, kit_ty (by decide +kernel), rfl, _, rfl, iteNS rfl ?_⟩
      refine ⟨_, rfl, _, _, rfl, .inr ⟨_, hSx1, rfl⟩, _, rfl, _, _, rfl, .inr ⟨_, hSy1, rfl⟩, rfl, _, rfl, iteNS (by rw [DpAll.len hDx, DpAll.len hDy]) ?_⟩
      refine ⟨_, rfl, _, rfl, a, b, xs, ys, rfl, .inr ⟨hSx1, hSy1, fun D hD => ?_⟩⟩
      refine lc_it (walk_zipT (xs := xs) (ys := ys) (n := ds.length) (by rw [DpAll.len hDx, DpAll.len hDy, Nat.min_self])) (fun i H' => But D (upd H p (.tup [.ty "list", .ty "tuple"])) H' ∧ H' D = some (.lst (List.replicate i (.bl true)))) ⟨(same_upd hD).but, upd_same⟩ (fun i H' _ pv => ?_) ?_ ?_
      · have nD : ∀ c u, (upd H p (.tup [.ty "list", .ty "tuple"])) c = some u → c ≠ D := fun c u e => ne_of_none e hD
        exact ⟨tup_but nD pv.1 hSx1, tup_but nD pv.1 hSy1⟩
      · rintro i _ H' _ hi ⟨bt, hDD⟩ ⟨T', x1, y1, rfl, nT, rfl, hx1, hy1⟩
        obtain ⟨d1, e1, g1⟩ := DpAll.at hDx hx1
        obtain ⟨d2, e2, g2⟩ := DpAll.at hDy hy1
        have ed : d1 = d2 := Option.some.inj (e1.symm.trans e2)
        subst ed
        have nDT : D ≠ T' := ne_of_none hDD nT
        have sT := same_upd (o := HO.tup [x1, y1]) nT
        have nD : ∀ c u, H c = some u → c ≠ D := fun c u e => ne_of_none (s1 _ _ e) hD
        have sH : Same H (upd H' T' (.tup [x1, y1])) := fun c u e => sT _ _ (bt c u (nD c u e) (s1 _ _ e))
        refine ⟨T', [x1, y1], rfl, SqT.of upd_same, rfl, x1, [y1], rfl, y1, [], rfl, rfl, rfl, ?_⟩
        refine ⟨_, rfl, _, rfl, hsp m _ _ _ _ hm ⟨x1, y1, d1, rfl, Dp.same sH g1, Dp.same sH g2, hdd d1 (List.mem_of_getElem? e1), fun H2 s2 => ?_⟩⟩
        refine ⟨_, s2 _ _ (sT _ _ hDD), ?_, fun c u n e => ?_, ?_⟩
        · rw [List.length_replicate]
          exact sz1 (by omega)
        · rw [upd_ne n]
          exact s2 _ _ (sT _ _ (bt c u n e))
        · rw [upd_same, ← List.replicate_succ']
      · rintro H' ⟨bt, hDD⟩
        refine ⟨D, List.replicate ds.length true, rfl, SqL.of (by rw [hDD, List.map_replicate]), ?_⟩
        rw [show (List.replicate ds.length true).all id = true from by rw [List.all_eq_true]; intro z hz; rw [List.eq_of_mem_replicate hz]; rfl]
        exact q _ fun c u e => bt c u (ne_of_none (s1 _ _ e) hD) (s1 _ _ e)
abbrev s__law_letters : Stmt := topS 40
theorem sc__law_letters : FnScope ["_law_bag", "_law_letters_here", "_law_many", "_law_found", "_law_low", "_law_k", "_law_at"] ["_law_bag", "_law_letters_here", "_law_many"] (defScope s__law_letters) := ⟨rfl, rfl, rfl, by decide +kernel, rfl, by decide +kernel, by decide +kernel⟩
theorem ok__law_letters {f : Addr} {fd : FuncData} (F : Fun K "_law_letters" "_law_letters" s__law_letters f fd) (T : Z mg) (c__law_draw : Cal P w K mg base CX0 1 "_law_draw" s__law_draw ["_law_bag", "_law_many"] (sp__law_draw K)) : FnOk P w K mg base CX0 2 f fd ["_law_bag", "_law_letters_here", "_law_many"] (sp__law_letters K) := by
  refine F.ok sc__law_letters (fun vs H Q E h => ?_) (fun cdv A outer s H vs Q E hr h => ?_)
  · obtain ⟨b, lb, L, k, rfl, _⟩ := h
    rfl
  · obtain ⟨b, lb, L, k, rfl, B, hk, hL, q⟩ := h
    refine ⟨_, (pss_cons (ps_asg (pe_tup (pa_cons pe_str (pa_cons pe_int pa_nil))) (pg_tup rfl (pgs_cons (pg_name (i := 3) sc__law_letters.nd rfl (.inl rfl)) (pgs_cons (pg_name (i := 4) sc__law_letters.nd rfl (.inl rfl)) pgs_nil))))
      (pss_cons (ps_for PassesOwn.never rfl (pi_range1 (by rfl) T.z_range (pa_cons (pv 2) pa_nil)) (pg_name (i := 5) sc__law_letters.nd rfl (.inl rfl))
        (pss_cons (ps_set (i := 6) sc__law_letters.nd rfl (.inl rfl) (pe_op op_add (pv 4) (pe_c c__law_draw hr (by decide) (by rfl) (pa_cons (pv 0) (pa_cons (pe_op op_sub (pe_op op_sub (pe_callB call_len_str (by rfl) T.z_len (by decide +kernel) (pa_cons (pv 1) pa_nil)) (pv 4)) (pe_op op_sub (pe_op op_sub (pv 2) pe_int) (pv 5))) pa_nil)))))
      (pss_one (ps_par (i := 3) (j := 4) (by rfl) sc__law_letters.nd rfl rfl (by decide) rfl rfl (pa_cons (pe_op op_add_str (pv 3) (pe_ix ix_str (pv 1) (pv 6) (fun _ _ => rfl))) (pa_cons (pe_op op_add (pv 6) pe_int) pa_nil)) (by rfl)))))
      (pss_one (ps_ret (pv 3))))), ?_⟩
    refine ⟨(show 2 ≤ sizeLine by decide), fun p np => ⟨p, _, rfl, SqT.of upd_same, rfl, _, _, rfl, _, _, rfl, rfl, _, rfl, k, rfl, by omega, by omega, ?_⟩⟩
    have s0 := same_upd (o := HO.tup [V.str "", V.int 0]) np
    refine for_range (n := ((k : Nat) : Int).toNat) (fun i σ H' => ∃ (r : List Nat) (low : Nat) (y5 y6 : Option V), σ = [some (.ref b), some (.str (S L)), some (.int k), some (.str (S r)), some (.int low), y5, y6] ∧ But b H H' ∧ Bag H' b lb ∧ List.Sublist r (L.take low) ∧ r.length = i ∧ low + (k - i) ≤ L.length)
      ⟨[], 0, none, none, rfl, s0.but, B.same s0, List.nil_sublist _, rfl, by omega⟩ ?_ ?_
    · rintro i σ H' hi ⟨r, low, y5, y6, rfl, hb, B', hs, hr', hlow⟩
      have hi : i < k := by omega
      refine ⟨_, rfl, _, rfl, _, rfl, _, rfl, by rw [S_len]; exact sz (by omega), _, rfl, _, _, rfl, rfl, _, rfl, _, _, rfl, rfl, _, rfl, _, _, rfl, rfl, _, _, rfl, rfl, ?_⟩
      rw [S_len]
      refine ⟨b, lb, _, rfl, B', by omega, by omega, fun H2 z z0 z1 hb2 B2 => ?_⟩
      refine ⟨_, _, rfl, rfl, ?_⟩
      have hz : low + z.toNat < L.length := by omega
      refine ⟨_, rfl, _, rfl, _, rfl, S L, _, L[low + z.toNat], rfl, rfl, by rw [S_len]; exact sz (by omega), atI_of (show (low : Int) + z = ((low + z.toNat : Nat) : Int) by omega) (List.getElem?_eq_getElem hz), _, _, rfl, rfl, ?_, _, rfl, _, _, rfl, rfl, _, _, rfl, ?_⟩
      · rw [S_len]
        exact sz (by show r.length + 1 ≤ 100000; omega)
      · refine ⟨r ++ [L[low + z.toNat]], low + z.toNat + 1, some (.int (0 + (i : Int))), some (.int ((low : Int) + z)), ?_, hb.trans hb2, B2, sub_next hs (by omega) hz, by rw [List.length_append, hr']; rfl, by omega⟩
        rw [← S_cat]
        have e : ((low : Int) + z + 1) = (((low + z.toNat + 1 : Nat)) : Int) := by omega
        rw [← e]
        rfl
    · rintro σ H' ⟨r, low, y5, y6, rfl, hb, B', hs, hr', hlow⟩
      exact ⟨_, rfl, q _ _ (hs.trans (List.take_sublist _ _)) (by omega) hb B'⟩
abbrev s__law_some_faces : Stmt := topS 41
theorem sc__law_some_faces : FnScope ["_law_bag", "_law_most"] ["_law_bag", "_law_most"] (defScope s__law_some_faces) := ⟨rfl, rfl, rfl, by decide +kernel, rfl, by decide +kernel, by decide +kernel⟩
theorem ok__law_some_faces {f : Addr} {fd : FuncData} (F : Fun K "_law_some_faces" "_law_some_faces" s__law_some_faces f fd) (T : Z mg) (c__law_draw : Cal P w K mg base CX0 1 "_law_draw" s__law_draw ["_law_bag", "_law_many"] (sp__law_draw K))
    (c__law_letters : Cal P w K mg base CX0 2 "_law_letters" s__law_letters ["_law_bag", "_law_letters_here", "_law_many"] (sp__law_letters K)) : FnOk P w K mg base CX0 3 f fd ["_law_bag", "_law_most"] (sp__law_some_faces K) := by
  refine F.ok sc__law_some_faces (fun vs H Q E h => ?_) (fun cdv A outer s H vs Q E hr h => ?_)
  · obtain ⟨b, lb, m, rfl, _⟩ := h
    rfl
  · obtain ⟨b, lb, m, rfl, B, h0, h1, q⟩ := h
    refine ⟨_, (pss_one (ps_ret (pe_c c__law_letters hr (by decide) (by rfl) (pa_cons (pv 0) (pa_cons pe_str (pa_cons (pe_op op_add pe_int (pe_c c__law_draw hr (by decide) (by rfl) (pa_cons (pv 0) (pa_cons (pv 1) pa_nil)))) pa_nil)))))), ?_⟩
    refine ⟨_, rfl, _, rfl, _, rfl, b, lb, _, rfl, B, by omega, by omega, fun H1 z z0 z1 hb B1 => ?_⟩
    refine ⟨_, _, rfl, rfl, b, lb, lower, 1 + z.toNat, ?_, B1, by rw [lower_len]; omega, by rw [lower_len]; omega, fun H2 r hs hr' hb2 B2 => ?_⟩
    · have e : (1 : Int) + z = ((1 + z.toNat : Nat) : Int) := by omega
      rw [← e]
      rfl
    · exact q _ r hs (by omega) (by omega) (hb.trans hb2) B2
abbrev s__law_some_cutters : Stmt := topS 42
theorem sc__law_some_cutters : FnScope ["_law_bag", "_law_most"] ["_law_bag", "_law_most"] (defScope s__law_some_cutters) := ⟨rfl, rfl, rfl, by decide +kernel, rfl, by decide +kernel, by decide +kernel⟩
theorem upper_len : upper.length = 26 := by decide +kernel
def sp__law_some_cutters (K : PySem.W.Frag) : Sp := fun vs H Q _ => ∃ (b lb : Addr) (m : Nat), vs = [.ref b, .int m] ∧ Bag H b lb ∧ 0 < m ∧ m ≤ 26 ∧ ∀ H' r, List.Sublist r upper → 0 < r.length → r.length ≤ m → But b H H' → Bag H' b lb → Q (.str (S r)) H'
theorem ok__law_some_cutters {f : Addr} {fd : FuncData} (F : Fun K "_law_some_cutters" "_law_some_cutters" s__law_some_cutters f fd) (T : Z mg) (c__law_draw : Cal P w K mg base CX0 1 "_law_draw" s__law_draw ["_law_bag", "_law_many"] (sp__law_draw K))
    (c__law_letters : Cal P w K mg base CX0 2 "_law_letters" s__law_letters ["_law_bag", "_law_letters_here", "_law_many"] (sp__law_letters K)) : FnOk P w K mg base CX0 3 f fd ["_law_bag", "_law_most"] (sp__law_some_cutters K) := by
  refine F.ok sc__law_some_cutters (fun vs H Q E h => ?_) (fun cdv A outer s H vs Q E hr h => ?_)
  · obtain ⟨b, lb, m, rfl, _⟩ := h
    rfl
  · obtain ⟨b, lb, m, rfl, B, h0, h1, q⟩ := h
    refine ⟨_, (pss_one (ps_ret (pe_c c__law_letters hr (by decide) (by rfl) (pa_cons (pv 0) (pa_cons pe_str (pa_cons (pe_op op_add pe_int (pe_c c__law_draw hr (by decide) (by rfl) (pa_cons (pv 0) (pa_cons (pv 1) pa_nil)))) pa_nil)))))), ?_⟩
    refine ⟨_, rfl, _, rfl, _, rfl, b, lb, _, rfl, B, by omega, by omega, fun H1 z z0 z1 hb B1 => ?_⟩
    refine ⟨_, _, rfl, rfl, b, lb, upper, 1 + z.toNat, ?_, B1, by rw [upper_len]; omega, by rw [upper_len]; omega, fun H2 r hs hr' hb2 B2 => ?_⟩
    · have e : (1 : Int) + z = ((1 + z.toNat : Nat) : Int) := by omega
      rw [← e]
      rfl
    · exact q _ r hs (by omega) (by omega) (hb.trans hb2) B2
abbrev s__law_part : Stmt := topS 43
theorem sc__law_part : FnScope ["_law_bag", "_law_letters_here", "_law_chosen", "_law_letter"] ["_law_bag", "_law_letters_here"] (defScope s__law_part) := ⟨rfl, rfl, rfl, by decide +kernel, rfl, by decide +kernel, by decide +kernel⟩
/-- a part of a drawn line -/
def PartR (r L : List Nat) : Prop := r = [46] ∨ (List.Sublist r L ∧ 0 < r.length)
def sp__law_part (K : PySem.W.Frag) : Sp := fun vs H Q _ => ∃ (b lb : Addr) (L : List Nat), vs = [.ref b, .str (S L)] ∧ Bag H b lb ∧ L.length ≤ 100 ∧ ∀ H' r, PartR r L → But b H H' → Bag H' b lb → Q (.str (S r)) H'
theorem ok__law_part {f : Addr} {fd : FuncData} (F : Fun K "_law_part" "_law_part" s__law_part f fd) (T : Z mg) (c__law_draw : Cal P w K mg base CX0 1 "_law_draw" s__law_draw ["_law_bag", "_law_many"] (sp__law_draw K)) : FnOk P w K mg base CX0 2 f fd ["_law_bag", "_law_letters_here"] (sp__law_part K) := by
  refine F.ok sc__law_part (fun vs H Q E h => ?_) (fun cdv A outer s H vs Q E hr h => ?_)
  · obtain ⟨b, lb, L, rfl, _⟩ := h
    rfl
  obtain ⟨b, lb, L, rfl, B, hL, q⟩ := h
  refine ⟨_, (pss_cons (ps_set (i := 2) sc__law_part.nd rfl (.inl rfl) (pe_join pe_str (pe_lc (own := [("_law_letter", 3)]) (g := (gName 3)) (by rfl) sc__law_part.nd (pi_str (pv 1)) (blkOk_by (N := ["_law_bag", "_law_letters_here", "_law_chosen", "_law_letter"]) (sc := defScope s__law_part) (by decide +kernel)) (fun _ _ _ _ _ => (pg_name (i := 3) sc__law_part.nd rfl (.inl rfl))) (fun _ _ _ _ _ => (pts_one (pt_cmpR op_eq (pe_c c__law_draw hr (by decide) (by rfl) (pa_cons (pv 0) (pa_cons pe_int pa_nil))) pe_int (nomark _)))) (fun _ _ _ _ _ => (pv 3)))))
      (pss_one (ps_ret (pe_ifExp (PW.pt (pw_and (pt_cmpR op_ne (pv 2) pe_str (nomark _)) (pw_and1 (pt_cmpR op_gt (pe_c c__law_draw hr (by decide) (by rfl) (pa_cons (pv 0) (pa_cons pe_int pa_nil))) pe_int (nomark _))))) (pv 2) pe_str)))), ?_⟩
  refine ⟨⟨_, rfl⟩, _, rfl, S L, rfl, fun D hD => ?_⟩
  have nDb : D ≠ b := B.ne hD
  have nDl : D ≠ lb := B.ne2 hD
  have nD : ∀ a o, H a = some o → a ≠ D := fun a o e => ne_of_none e hD
  refine lc_it walk_str (fun i H' => ∃ r : List Nat, List.Sublist r (L.take i) ∧ H' D = some (.lst (r.map sgn)) ∧ Bag H' b lb ∧ But b H H') ⟨[], List.nil_sublist _, upd_same, B.same (same_upd hD), (same_upd hD).but⟩ (fun _ _ _ _ => trivial) ?_ ?_
  · rintro i x H' _ hi ⟨r, hr', hDD, B', ho⟩ ⟨rfl, c, hc, rfl⟩
    have hi' : i < L.length := hi
    have hci : L[i]? = some c := by
      have : L.toArray[i]? = some c := hc
      rwa [List.getElem?_toArray] at this
    refine ⟨rfl, _, rfl, b, lb, _, rfl, B', by decide, by decide, fun H2 z z0 z1 b2 B2 => ?_⟩
    have hsub : ∀ s, List.Sublist r s → List.Sublist (r ++ [c]) (s ++ [c]) := fun s h => h.append (List.Sublist.refl _)
    have htk : L.take (i + 1) = L.take i ++ [c] := by rw [List.take_add_one, hci]; rfl
    have hl : r.length ≤ 100 := Nat.le_trans hr'.length_le (Nat.le_trans (List.length_take_le _ _) (by omega))
    refine ⟨rfl, _, rfl, ite_dec (fun _ => ?_) (fun _ => ?_)⟩
    · refine ⟨_, rfl, _, b2 _ _ nDb hDD, by rw [List.length_map]; exact sz1 (by omega), r ++ [c], by rw [htk]; exact hsub _ hr', ?_, ?_, fun a o n e => ?_⟩
      · rw [upd_same, List.map_append]
        rfl
      · exact B2.upd nDb nDl
      · rw [upd_ne (nD a o e)]
        exact b2 _ _ n (ho a o n e)
    · exact ⟨r, by rw [htk]; exact hr'.trans (List.sublist_append_left _ _), b2 _ _ nDb hDD, B2, ho.trans b2⟩
  · rintro H' ⟨r, hr', hDD, B', ho⟩
    have hrl : r.length ≤ 100 := Nat.le_trans hr'.length_le (Nat.le_trans (List.length_take_le _ _) (by omega))
    have hrs : List.Sublist r L := hr'.trans (List.take_sublist _ _)
    refine ⟨S [], D, (r.map fun c => [c]).map S, rfl, rfl, .inl (SqL.of ?_), ?_, ?_⟩
    · rw [hDD, List.map_map, List.map_map]
      rfl
    · rw [lens_ones]
      show r.length + _ * 0 ≤ _
      omega
    rw [join_ones]
    refine ⟨_, rfl, rfl, _, rfl, ite_ndec (fun e => ?_) (fun e => iteF (q _ [46] (.inl rfl) ho B'))⟩
    have h0 : 0 < r.length := Nat.pos_of_ne_zero fun h0 => e (by rw [List.eq_nil_of_length_eq_zero h0]; rfl)
    exact ⟨_, rfl, b, lb, _, rfl, B', by decide, by decide, fun H2 z z0 z1 b2 B2 => ⟨_, _, rfl, rfl, _, rfl, ite_dec (fun _ => ⟨_, rfl, q _ r (.inr ⟨hrs, h0⟩) (ho.trans b2) B2⟩) (fun _ => q _ [46] (.inl rfl) (ho.trans b2) B2)⟩⟩
abbrev s__law_some_cut : Stmt := topS 44
theorem sc__law_some_cut : FnScope ["_law_bag", "_law_faces"] ["_law_bag", "_law_faces"] (defScope s__law_some_cut) := ⟨rfl, rfl, rfl, by decide +kernel, rfl, by decide +kernel, by decide +kernel⟩
theorem ok__law_some_cut {f : Addr} {fd : FuncData} (F : Fun K "_law_some_cut" "_law_some_cut" s__law_some_cut f fd) (c__law_of : Cal P w K mg base CX0 2 "_law_of" s__law_of ["_law_bag", "_law_things"] (sp__law_of K)) : FnOk P w K mg base CX0 3 f fd ["_law_bag", "_law_faces"] (sp__law_some_cut K) := by
  refine F.ok sc__law_some_cut (fun vs H Q E h => ?_) (fun cdv A outer s H vs Q E hr h => ?_)
  · obtain ⟨b, lb, m, rfl, _⟩ := h
    rfl
  · obtain ⟨b, lb, fs, rfl, B, h0, h1, q⟩ := h
    refine ⟨_, (pss_one (ps_ret (pe_op op_add_str (pe_op op_add_str (pe_c c__law_of hr (by decide) (by rfl) (pa_cons (pv 0) (pa_cons pe_str pa_nil))) (pe_c c__law_of hr (by decide) (by rfl) (pa_cons (pv 0) (pa_cons (pv 1) pa_nil)))) (pe_c c__law_of hr (by decide) (by rfl) (pa_cons (pv 0) (pa_cons (pv 1) pa_nil)))))), ?_⟩
    have ln : 0 < (fs.map sgn).length := by rw [List.length_map]; exact h0
    have lm : (fs.map sgn).length ≤ 100000 := by rw [List.length_map]; omega
    refine ⟨_, rfl, b, lb, _, [124, 45].map sgn, rfl, B, .inr (.inr ⟨[124, 45], rfl, rfl⟩), by decide, by decide, fun H1 v1 m1 b1 B1 => ?_⟩
    obtain ⟨c1, n1, rfl⟩ := of_str (H := H) (b := b) m1
    refine ⟨_, rfl, _, rfl, b, lb, _, fs.map sgn, rfl, B1, .inr (.inr ⟨fs, rfl, rfl⟩), ln, lm, fun H2 v2 m2 b2 B2 => ?_⟩
    obtain ⟨c2, n2, rfl⟩ := of_str (H := H) (b := b) m2
    refine ⟨_, _, rfl, rfl, (show 2 ≤ sizeLine by decide), _, rfl, _, rfl, b, lb, _, fs.map sgn, rfl, B2, .inr (.inr ⟨fs, rfl, rfl⟩), ln, lm, fun H3 v3 m3 b3 B3 => ?_⟩
    obtain ⟨c3, n3, rfl⟩ := of_str (H := H) (b := b) m3
    refine ⟨_, _, rfl, rfl, (show 3 ≤ sizeLine by decide), ?_⟩
    refine q H3 c1 c2 c3 ?_ n2 n3 ((b1.trans b2).trans b3) B3
    rcases List.mem_cons.mp n1 with e | e
    · exact .inl e
    · exact .inr (List.mem_singleton.mp e)
abbrev s_is_string : Stmt := topS 20
theorem sc_is_string : FnScope ["value", "faces", "face"] ["value", "faces"] (defScope s_is_string) := ⟨rfl, rfl, rfl, by decide +kernel, rfl, by decide +kernel, by decide +kernel⟩
theorem ok_is_string {f : Addr} {fd : FuncData} (F : Fun K "is_string" "is_string" s_is_string f fd) (T : Z mg) : FnOk P w K mg base CX0 1 f fd ["value", "faces"] (sp_is_string K) := by
  refine F.ok sc_is_string (fun vs H Q E h => ?_) (fun cdv A outer s H vs Q E hr h => ?_)
  · obtain ⟨v, fs, rfl, _⟩ := h
    rfl
  · obtain ⟨v, fs, rfl, hv, q⟩ := h
    refine ⟨_, (pss_one (ps_ret (pe_and (pe_callB call_isi (by rfl) T.z_isinstance (by decide +kernel) (pa_cons (pv 0) (pa_cons (pe_bltn (v := .ty "str") (u := .type "str") (by rfl) T.z_str (by decide +kernel) rfl) pa_nil))) (pe_one (pe_callB (cr_all rfl) (by rfl) T.z_all (by decide +kernel) (pa_cons (pe_lc (own := [("face", 2)]) (g := (gName 2)) (by rfl) sc_is_string.nd (pi_str (pv 0)) (blkOk_by (N := ["value", "faces", "face"]) (sc := defScope s_is_string) (by decide +kernel)) (fun _ _ _ _ _ => (pg_name (i := 2) sc_is_string.nd rfl (.inl rfl))) (fun _ _ _ _ _ => pts_nil) (fun _ _ _ _ _ => (pe_cmpR op_in_sign (pv 2) (pv 1) rfl))) pa_nil)))))), ?_⟩
    rcases hv with ⟨hs, hl⟩ | ⟨hs, T, ht, hk⟩
    · obtain ⟨z, rfl⟩ := str_of hs
      refine ⟨_, rfl, _, _, _, _, true, rfl, .ty _, .base (.str z), kit_ty (by decide +kernel), true, rfl, iteT ?_⟩
      refine ⟨_, rfl, z, rfl, fun D hD => lc_it walk_str (fun i H' => H' = upd H D (.lst ((z.cps.toList.take i).map fun c => V.bl (decide (c ∈ fs.cps.toList))))) rfl (fun _ _ _ _ => trivial) ?_ ?_⟩
      · rintro i x _ _ hi rfl ⟨rfl, c, hc, rfl⟩
        refine ⟨rfl, ?_⟩
        refine ⟨_, rfl, _, rfl, c, fs, rfl, rfl, _, upd_same, ?_, ?_⟩
        · rw [List.length_map, List.length_take]
          have hl : z.cps.size ≤ 100000 := hl
          exact sz1 (Nat.le_trans (Nat.min_le_left _ _) (by omega))
        · rw [upd_upd]
          have e : z.cps.toList.take (i + 1) = z.cps.toList.take i ++ [c] := by
            rw [List.take_add_one]
            have : z.cps.toList[i]? = some c := by rw [Array.getElem?_toList]; exact hc
            rw [this]
            rfl
          rw [e, List.map_append]
          rfl
      · rintro H' rfl
        refine ⟨D, z.cps.toList.map fun c => decide (c ∈ fs.cps.toList), rfl, SqL.of ?_, ?_⟩
        · rw [upd_same, List.take_of_length_le (by simp), List.map_map]
          rfl
        · have e : (z.cps.toList.map fun c => decide (c ∈ fs.cps.toList)).all id = bString (.str z) fs := by
            unfold bString isStr strOf
            rw [List.all_map]
            rfl
          rw [e]
          exact q _ (same_upd hD)
    · refine ⟨_, rfl, _, _, _, _, false, rfl, .ty _, ht, kit_ty hk, false, rfl, iteF ?_⟩
      have e : bString v fs = false := by
        unfold bString
        rw [hs]
        rfl
      rw [e] at q
      exact q _ (Same.refl H)
theorem kb_is_string_0_faces_value : KB K "is_string" s_is_string ["value", "faces"] ["faces", "value"] swp swp := kb_swap fun _ _ _ _ _ _ _ _ => rfl
abbrev s_is_ascending : Stmt := topS 16
theorem sc_is_ascending : FnScope ["text", "one", "other"] ["text"] (defScope s_is_ascending) := ⟨rfl, rfl, rfl, by decide +kernel, rfl, by decide +kernel, by decide +kernel⟩
theorem ok_is_ascending {f : Addr} {fd : FuncData} (F : Fun K "is_ascending" "is_ascending" s_is_ascending f fd) (T : Z mg) : FnOk P w K mg base CX0 1 f fd ["text"] (sp_is_ascending K) := by
  refine F.ok sc_is_ascending (fun vs H Q E h => ?_) (fun cdv A outer s H vs Q E hr h => ?_)
  · obtain ⟨l, rfl, _⟩ := h
    rfl
  · obtain ⟨l, rfl, hl, q⟩ := h
    refine ⟨_, (pss_one (ps_ret (pe_callB (cr_all rfl) (by rfl) T.z_all (by decide +kernel) (pa_cons (pe_lc (own := [("one", 1), ("other", 2)]) (g := (gTup K 2 (gCons (gName 1) (gCons (gName 2) gNil)))) (by rfl) sc_is_ascending.nd (pi_zipG (by rfl) T.z_zip (pa_cons (pv 0) (pa_cons (pe_slice sl_str (pv 0) (po_some pe_int) po_none) pa_nil))) (blkOk_by (N := ["text", "one", "other"]) (sc := defScope s_is_ascending) (by decide +kernel)) (fun _ _ _ _ _ => (pg_tup rfl (pgs_cons (pg_name (i := 1) sc_is_ascending.nd rfl (.inl rfl)) (pgs_cons (pg_name (i := 2) sc_is_ascending.nd rfl (.inl rfl)) pgs_nil)))) (fun _ _ _ _ _ => pts_nil) (fun _ _ _ _ _ => (pe_cmpR op_lt_str (pv 1) (pv 2) (nomark _)))) pa_nil)))), ?_⟩
    refine ⟨_, rfl, _, rfl, 1, rfl, _, rfl, by rw [S_len]; exact sz hl, ?_⟩
    rw [show cutS (S l) (some 1) none = S (l.drop 1) from S_sub l 1]
    refine ⟨_, _, l.map sgn, (l.drop 1).map sgn, rfl, .s rfl, .s rfl, fun k1 k2 _ _ g1 g2 D hD => ?_⟩
    have stay : ∀ (k : SK) (H' : Hp) (xs : List V), (k.val = .str (S l) ∨ k.val = .str (S (l.drop 1))) → k.src K H xs → k.src K H' xs := fun k H' xs h q => by
      cases k with
      | l a => rcases h with h | h <;> cases h
      | t a => rcases h with h | h <;> cases h
      | s x t => exact q
    have hk1 : ∀ H', k1.src K H' (l.map sgn) := fun H' => stay k1 H' _ (.inl (by assumption)) g1
    have hk2 : ∀ H', k2.src K H' ((l.drop 1).map sgn) := fun H' => stay k2 H' _ (.inr (by assumption)) g2
    refine lc_it (walk_zipG (xs := l.map sgn) (ys := (l.drop 1).map sgn) (n := l.length - 1) (by rw [List.length_map, List.length_map, List.length_drop]; omega)) (fun i H' => But D H H' ∧ ∃ bs : List Bool, H' D = some (.lst (bs.map V.bl)) ∧ bs.length = i ∧ bs.all id = ascB (l.take (i + 1)))
      ⟨(same_upd hD).but, [], upd_same, rfl, ?_⟩ (fun i H' _ _ => ⟨hk1 H', hk2 H'⟩) ?_ ?_
    · cases l with
      | nil => rfl
      | cons a r => rfl
    · rintro i _ H' _ hi ⟨bt, bs, hDD, hbl, hba⟩ ⟨T', x1, y1, rfl, nT, rfl, hx1, hy1⟩
      have h1 : i + 1 < l.length := by omega
      have ex : x1 = sgn l[i] := by
        have : (l.map sgn)[i]? = some x1 := hx1
        rw [List.getElem?_map, List.getElem?_eq_getElem (by omega)] at this
        exact (Option.some.inj this).symm
      have ey : y1 = sgn l[i + 1] := by
        have : ((l.drop 1).map sgn)[i]? = some y1 := hy1
        rw [List.getElem?_map, List.getElem?_drop, Nat.add_comm 1 i, List.getElem?_eq_getElem h1] at this
        exact (Option.some.inj this).symm
      subst ex ey
      have nDT : D ≠ T' := ne_of_none hDD nT
      refine ⟨T', _, rfl, SqT.of upd_same, rfl, _, _, rfl, _, [], rfl, rfl, rfl, ?_⟩
      refine ⟨_, rfl, _, rfl, _, _, rfl, rfl, _, (same_upd nT) _ _ hDD, by rw [List.length_map]; exact sz1 (by omega), fun a o n e => ?_, bs ++ [decide (l[i] < l[i + 1])], ?_, by rw [List.length_append, hbl]; rfl, ?_⟩
      · rw [upd_ne n]
        exact (same_upd nT) _ _ (bt a o n e)
      · rw [upd_same, List.map_append]
        exact congrArg (fun z => some (HO.lst (bs.map V.bl ++ [V.bl z]))) (lt_sgn _ _)
      · rw [List.all_append, hba, asc_next l i h1]
        show (_ && (_ && true)) = _
        rw [Bool.and_true]
        rfl
    · rintro H' ⟨bt, bs, hDD, hbl, hba⟩
      refine ⟨D, bs, rfl, SqL.of hDD, ?_⟩
      rw [hba, List.take_of_length_le (by omega)]
      exact q _ (but_fresh (Same.refl H) hD bt)
abbrev s_is_choice : Stmt := topS 17
theorem sc_is_choice : FnScope ["value", "letters", "most"] ["value", "letters", "most"] (defScope s_is_choice) := ⟨rfl, rfl, rfl, by decide +kernel, rfl, by decide +kernel, by decide +kernel⟩
theorem ok_is_choice {f : Addr} {fd : FuncData} (F : Fun K "is_choice" "is_choice" s_is_choice f fd) (T : Z mg) (c_is_string : Cal P w K mg base CX0 1 "is_string" s_is_string ["value", "faces"] (sp_is_string K))
    (c_is_ascending : Cal P w K mg base CX0 1 "is_ascending" s_is_ascending ["text"] (sp_is_ascending K)) : FnOk P w K mg base CX0 2 f fd ["value", "letters", "most"] (sp_is_choice K) := by
  refine F.ok sc_is_choice (fun vs H Q E h => ?_) (fun cdv A outer s H vs Q E hr h => ?_)
  · obtain ⟨v, L, m, rfl, _⟩ := h
    rfl
  · obtain ⟨v, L, m, rfl, hv, q⟩ := h
    refine ⟨_, (pss_cons (ps_if (PW.pt (pw_or (pt_not (pt_val (pe_callB call_isi (by rfl) T.z_isinstance (by decide +kernel) (pa_cons (pv 0) (pa_cons (pe_bltn (v := .ty "str") (u := .type "str") (by rfl) T.z_str (by decide +kernel) rfl) pa_nil))))) (pw_or1 (pt_not (pt_chain op_le op_le pe_int (pe_callB call_len_str (by rfl) T.z_len (by decide +kernel) (pa_cons (pv 0) pa_nil)) (pv 2)))))) (pss_one (ps_ret pe_bl)) pss_nil)
      (pss_one (ps_ret (pe_and (pe_c c_is_string hr (by decide) (by rfl) (pa_cons (pv 0) (pa_cons (pv 1) pa_nil))) (pe_one (pe_c c_is_ascending hr (by decide) (by rfl) (pa_cons (pv 0) pa_nil))))))), ?_⟩
    rcases hv with ⟨hs, hl⟩ | ⟨hs, Ty, ht, hk⟩
    · obtain ⟨z, rfl⟩ := str_of hs
      have hl : z.cps.size ≤ 100000 := hl
      refine ⟨_, rfl, _, _, _, _, true, rfl, .ty _, .base (.str z), kit_ty (by decide +kernel), true, rfl, iteF ?_⟩
      refine ⟨_, rfl, z, rfl, sz hl, _, _, rfl, rfl, _, rfl, ?_⟩
      cases h1 : decide ((1 : Int) ≤ (z.length : Int)) with
      | false =>
        refine iteF ⟨_, rfl, iteT ?_⟩
        have e : bChoice (.str z) L m = false := bChoice_1 h1
        rw [e] at q
        exact q _ (Same.refl H)
      | true =>
        refine iteT ⟨_, rfl, _, _, rfl, rfl, _, rfl, ?_⟩
        cases h2 : decide ((z.length : Int) ≤ m) with
        | false =>
          refine iteT ?_
          have e : bChoice (.str z) L m = false := bChoice_2 h2
          rw [e] at q
          exact q _ (Same.refl H)
        | true =>
          refine iteF ?_
          refine ⟨_, rfl, _, rfl, _, _, rfl, .inl ⟨rfl, hl⟩, fun H1 s1 => ⟨_, rfl, ?_⟩⟩
          have e : bChoice (.str z) L m = (bString (.str z) (S L) && ascB z.cps.toList) := bChoice_3 h1 h2
          cases h3 : bString (.str z) (S L) with
          | false =>
            rw [h3] at e
            rw [e] at q
            exact iteF (q _ s1)
          | true =>
            rw [h3] at e
            refine iteT ⟨_, rfl, z.cps.toList, by rw [S_tl z]; rfl, by simpa using hl, fun H2 s2 => ?_⟩
            rw [e] at q
            exact q _ (s1.trans s2)
    · refine ⟨_, rfl, _, _, _, _, false, rfl, .ty _, ht, kit_ty hk, false, rfl, iteT (iteT ?_)⟩
      have e : bChoice v L m = false := by
        unfold bChoice
        rw [hs]
        rfl
      rw [e] at q
      exact q _ (Same.refl H)
abbrev s_is_faces : Stmt := topS 18
theorem sc_is_faces : FnScope ["value"] ["value"] (defScope s_is_faces) := ⟨rfl, rfl, rfl, by decide +kernel, rfl, by decide +kernel, by decide +kernel⟩
theorem ok_is_faces {f : Addr} {fd : FuncData} (F : Fun K "is_faces" "is_faces" s_is_faces f fd) {t1 t2 : Tok} (g__LOWER : mg "_LOWER" = some (.str "abcdefghijklmnopqrstuvwxyz" t1)) (g__MOST_FACES : mg "_MOST_FACES" = some (.int 6 t2))
    (c_is_choice : Cal P w K mg base CX0 2 "is_choice" s_is_choice ["value", "letters", "most"] (sp_is_choice K)) : FnOk P w K mg base CX0 3 f fd ["value"] (sp_is_faces K) := by
  refine F.ok sc_is_faces (fun vs H Q E h => ?_) (fun cdv A outer s H vs Q E hr h => ?_)
  · obtain ⟨v, rfl, _⟩ := h
    rfl
  · obtain ⟨v, rfl, hv, q⟩ := h
    refine ⟨_, (pss_one (ps_ret (pe_c c_is_choice hr (by decide) (by rfl) (pa_cons (pv 0) (pa_cons (pe_glob (v := .str "abcdefghijklmnopqrstuvwxyz") rfl g__LOWER ⟨_, rfl⟩) (pa_cons (pe_glob (v := .int 6) rfl g__MOST_FACES ⟨_, rfl⟩) pa_nil)))))), ?_⟩
    exact ⟨_, rfl, v, lower, 6, rfl, hv, q⟩
abbrev s_is_cutters : Stmt := topS 19
theorem sc_is_cutters : FnScope ["value"] ["value"] (defScope s_is_cutters) := ⟨rfl, rfl, rfl, by decide +kernel, rfl, by decide +kernel, by decide +kernel⟩
theorem ok_is_cutters {f : Addr} {fd : FuncData} (F : Fun K "is_cutters" "is_cutters" s_is_cutters f fd) {t1 t2 : Tok} (g__UPPER : mg "_UPPER" = some (.str "ABCDEFGHIJKLMNOPQRSTUVWXYZ" t1)) (g__MOST_CUTTERS : mg "_MOST_CUTTERS" = some (.int 4 t2))
    (c_is_choice : Cal P w K mg base CX0 2 "is_choice" s_is_choice ["value", "letters", "most"] (sp_is_choice K)) : FnOk P w K mg base CX0 3 f fd ["value"] (sp_is_cutters K) := by
  refine F.ok sc_is_cutters (fun vs H Q E h => ?_) (fun cdv A outer s H vs Q E hr h => ?_)
  · obtain ⟨v, rfl, _⟩ := h
    rfl
  · obtain ⟨v, rfl, hv, q⟩ := h
    refine ⟨_, (pss_one (ps_ret (pe_c c_is_choice hr (by decide) (by rfl) (pa_cons (pv 0) (pa_cons (pe_glob (v := .str "ABCDEFGHIJKLMNOPQRSTUVWXYZ") rfl g__UPPER ⟨_, rfl⟩) (pa_cons (pe_glob (v := .int 4) rfl g__MOST_CUTTERS ⟨_, rfl⟩) pa_nil)))))), ?_⟩
    exact ⟨_, rfl, v, upper, 4, rfl, hv, q⟩
theorem kb_is_cutters_0_value : KB K "is_cutters" s_is_cutters ["value"] ["value"] one1 one1 := kb_one fun _ _ _ _ _ _ _ => rfl
abbrev s_is_letter : Stmt := topS 21
theorem sc_is_letter : FnScope ["value", "letters"] ["value", "letters"] (defScope s_is_letter) := ⟨rfl, rfl, rfl, by decide +kernel, rfl, by decide +kernel, by decide +kernel⟩
theorem ok_is_letter {f : Addr} {fd : FuncData} (F : Fun K "is_letter" "is_letter" s_is_letter f fd) (T : Z mg) : FnOk P w K mg base CX0 1 f fd ["value", "letters"] (sp_is_letter K) := by
  refine F.ok sc_is_letter (fun vs H Q E h => ?_) (fun cdv A outer s H vs Q E hr h => ?_)
  · obtain ⟨v, L, rfl, _⟩ := h
    rfl
  · obtain ⟨v, L, rfl, hv, q⟩ := h
    refine ⟨_, (pss_one (ps_ret (pe_and (pe_callB call_isi (by rfl) T.z_isinstance (by decide +kernel) (pa_cons (pv 0) (pa_cons (pe_bltn (v := .ty "str") (u := .type "str") (by rfl) T.z_str (by decide +kernel) rfl) pa_nil))) (pe_and (pe_cmpR op_eq (pe_callB call_len_str (by rfl) T.z_len (by decide +kernel) (pa_cons (pv 0) pa_nil)) pe_int (nomark _)) (pe_one (pe_cmpR op_in_sign (pv 0) (pv 1) rfl)))))), ?_⟩
    have q1 := q _ (Same.refl H)
    rcases hv with ⟨hs, hl⟩ | ⟨hs, Ty, ht, hk⟩
    · obtain ⟨z, rfl⟩ := str_of hs
      refine ⟨_, rfl, _, _, _, _, true, rfl, .ty _, .base (.str z), kit_ty (by decide +kernel), true, rfl, iteT ?_⟩
      refine ⟨_, rfl, z, rfl, sz hl, rfl, _, rfl, ?_⟩
      by_cases h1 : z.cps.size = 1
      · rw [show decide (V.int (z.length : Int) = V.int 1) = true from decide_eq_true (by rw [show z.length = 1 from h1]; rfl)]
        refine iteT ?_
        obtain ⟨c, rfl⟩ : ∃ c, z = S [c] := by
          obtain ⟨⟨l⟩⟩ := z
          match l, h1 with
          | [c], _ => exact ⟨c, rfl⟩
        refine ⟨_, rfl, _, rfl, c, _, rfl, rfl, ?_⟩
        exact q1
      · rw [show decide (V.int (z.length : Int) = V.int 1) = false from decide_eq_false fun e => h1 (by
          have e1 := V.int.inj e
          show z.length = 1
          omega)]
        refine iteF ?_
        have e : bLetter (.str z) L = false := by
          unfold bLetter
          rw [show decide ((strOf (V.str z)).cps.size = 1) = false from decide_eq_false h1, Bool.and_false, Bool.false_and]
        rw [e] at q1
        exact q1
    · refine ⟨_, rfl, _, _, _, _, false, rfl, .ty _, ht, kit_ty hk, false, rfl, iteF ?_⟩
      have e : bLetter v L = false := by
        unfold bLetter
        rw [hs, Bool.false_and, Bool.false_and]
      rw [e] at q1
      exact q1
abbrev s_is_cut : Stmt := topS 23
theorem sc_is_cut : FnScope ["value", "faces"] ["value", "faces"] (defScope s_is_cut) := ⟨rfl, rfl, rfl, by decide +kernel, rfl, by decide +kernel, by decide +kernel⟩
theorem ok_is_cut {f : Addr} {fd : FuncData} (F : Fun K "is_cut" "is_cut" s_is_cut f fd) (T : Z mg) (c_is_string : Cal P w K mg base CX0 1 "is_string" s_is_string ["value", "faces"] (sp_is_string K)) : FnOk P w K mg base CX0 2 f fd ["value", "faces"] (sp_is_cut K) := by
  refine F.ok sc_is_cut (fun vs H Q E h => ?_) (fun cdv A outer s H vs Q E hr h => ?_)
  · obtain ⟨v, fs, rfl, _⟩ := h
    rfl
  · obtain ⟨v, fs, rfl, hv, q⟩ := h
    refine ⟨_, (pss_cons (ps_if (PW.pt (pw_or (pt_not (pt_val (pe_callB call_isi (by rfl) T.z_isinstance (by decide +kernel) (pa_cons (pv 0) (pa_cons (pe_bltn (v := .ty "str") (u := .type "str") (by rfl) T.z_str (by decide +kernel) rfl) pa_nil))))) (pw_or1 (pt_cmpR op_ne (pe_callB call_len_str (by rfl) T.z_len (by decide +kernel) (pa_cons (pv 0) pa_nil)) pe_int (nomark _))))) (pss_one (ps_ret pe_bl)) pss_nil)
      (pss_one (ps_ret (pe_and (pe_cmpR op_in_sign (pe_ix ix_str (pv 0) pe_int (fun _ _ => rfl)) pe_str rfl) (pe_one (pe_c c_is_string hr (by decide) (by rfl) (pa_cons (pe_slice sl_str (pv 0) (po_some pe_int) po_none) (pa_cons (pv 1) pa_nil)))))))), ?_⟩
    rcases hv with ⟨hs, hl⟩ | ⟨hs, Ty, ht, hk⟩
    · obtain ⟨z, rfl⟩ := str_of hs
      refine ⟨_, rfl, _, _, _, _, true, rfl, .ty _, .base (.str z), kit_ty (by decide +kernel), true, rfl, iteF ?_⟩
      refine ⟨_, rfl, z, rfl, sz hl, rfl, _, rfl, ?_⟩
      by_cases h3 : z.cps.size = 3
      · have e3 : decide (V.int (z.length : Int) = V.int 3) = true := decide_eq_true (by rw [show z.length = 3 from h3]; rfl)
        rw [e3]
        refine iteF ?_
        have h0 : atI z.cps.toList 0 = some (z.cps.toList.getD 0 0) := by
          refine atI_nat (j := 0) ?_
          rw [List.getD_eq_getElem?_getD]
          have : 0 < z.cps.toList.length := by simp; omega
          rw [List.getElem?_eq_getElem this]
          rfl
        refine ⟨_, rfl, z, 0, _, rfl, rfl, sz hl, h0, _, _, rfl, rfl, _, rfl, ?_⟩
        cases hb : decide (z.cps.toList.getD 0 0 ∈ ("|-" : Str).cps.toList) with
        | false =>
          refine iteF ?_
          have e : bCut (.str z) fs = false := by
            unfold bCut
            show ((true && decide (z.cps.size = 3)) && decide (z.cps.toList.getD 0 0 ∈ ("|-" : Str).cps.toList) && _) = false
            rw [hb, Bool.and_false, Bool.false_and]
          rw [e] at q
          exact q _ (Same.refl H)
        | true =>
          refine iteT ?_
          refine ⟨_, rfl, 1, rfl, z, rfl, sz hl, _, rfl, _, fs, rfl, .inl ⟨rfl, ?_⟩, fun H' sm => ?_⟩
          · rw [cutS_from (by omega)]
            show (z.cps.toList.drop 1).toArray.size ≤ 100000
            simp
            omega
          · have e : bCut (.str z) fs = bString (.str (cutS z (some 1) none)) fs := by
              rw [cutS_from (by omega)]
              unfold bCut bString
              show ((true && decide (z.cps.size = 3)) && decide (z.cps.toList.getD 0 0 ∈ ("|-" : Str).cps.toList) && _) = _
              rw [hb, decide_eq_true h3]
              rfl
            rw [e] at q
            exact q _ sm
      · have e3 : decide (V.int (z.length : Int) = V.int 3) = false := decide_eq_false fun q => h3 (by
          have q1 := V.int.inj q
          show z.length = 3
          omega)
        rw [e3]
        refine iteT ?_
        have e : bCut (.str z) fs = false := by
          unfold bCut
          show ((true && decide (z.cps.size = 3)) && _ && _) = false
          rw [decide_eq_false h3]
          rfl
        rw [e] at q
        exact q _ (Same.refl H)
    · refine ⟨_, rfl, _, _, _, _, false, rfl, .ty _, ht, kit_ty hk, false, rfl, iteT ?_⟩
      refine iteT ?_
      have e : bCut v fs = false := by
        unfold bCut
        rw [hs]
        rfl
      rw [e] at q
      exact q _ (Same.refl H)
theorem kb_is_cut_0_faces_value : KB K "is_cut" s_is_cut ["value", "faces"] ["faces", "value"] swp swp := kb_swap fun _ _ _ _ _ _ _ _ => rfl
abbrev s_is_part : Stmt := topS 25
theorem sc_is_part : FnScope ["value", "letters"] ["value", "letters"] (defScope s_is_part) := ⟨rfl, rfl, rfl, by decide +kernel, rfl, by decide +kernel, by decide +kernel⟩
def bPart (v : V) (L : List Nat) : Bool := bLetter v [46] || bChoice v L (L.length : Int)
def sp_is_part (K : PySem.W.Frag) : Sp := fun vs H Q _ => ∃ (z : Str) (L : List Nat), vs = [.str z, .str (S L)] ∧ z.cps.size ≤ 100000 ∧ L.length ≤ 1000 ∧ ∀ H', Same H H' → Q (.bl (bPart (.str z) L)) H'
theorem ok_is_part {f : Addr} {fd : FuncData} (F : Fun K "is_part" "is_part" s_is_part f fd) (T : Z mg) (c_is_letter : Cal P w K mg base CX0 1 "is_letter" s_is_letter ["value", "letters"] (sp_is_letter K))
    (c_is_choice : Cal P w K mg base CX0 2 "is_choice" s_is_choice ["value", "letters", "most"] (sp_is_choice K)) : FnOk P w K mg base CX0 3 f fd ["value", "letters"] (sp_is_part K) := by
  refine F.ok sc_is_part (fun vs H Q E h => ?_) (fun cdv A outer s H vs Q E hr h => ?_)
  · obtain ⟨z, L, rfl, _⟩ := h
    rfl
  · obtain ⟨z, L, rfl, hz, hL, q⟩ := h
    refine ⟨_, (pss_one (ps_ret (pe_or (pe_c c_is_letter hr (by decide) (by rfl) (pa_cons (pv 0) (pa_cons pe_str pa_nil))) (pe_one (pe_c c_is_choice hr (by decide) (by rfl) (pa_cons (pv 0) (pa_cons (pv 1) (pa_cons (pe_callB call_len_str (by rfl) T.z_len (by decide +kernel) (pa_cons (pv 1) pa_nil)) pa_nil)))))))), ?_⟩
    refine ⟨_, rfl, .str z, [46], rfl, .inl ⟨rfl, hz⟩, fun H1 s1 => ⟨_, rfl, ?_⟩⟩
    cases e : bLetter (.str z) [46] with
    | true =>
      refine iteT ?_
      have q1 := q _ s1
      unfold bPart at q1
      rw [e] at q1
      exact q1
    | false =>
      refine iteF ⟨_, rfl, _, rfl, _, rfl, S L, rfl, by rw [S_len]; exact sz (by omega), .str z, L, _, congrArg (fun n : Nat => [V.str z, V.str (S L), V.int n]) (S_len L), .inl ⟨rfl, hz⟩, fun H2 s2 => ?_⟩
      have q1 := q _ (s1.trans s2)
      unfold bPart at q1
      rw [e] at q1
      exact q1
abbrev s_is_line : Stmt := topS 26
theorem sc_is_line : FnScope ["value", "faces", "cutters", "part"] ["value", "faces", "cutters"] (defScope s_is_line) := ⟨rfl, rfl, rfl, by decide +kernel, rfl, by decide +kernel, by decide +kernel⟩
/-- six texts that are a line -/
def bLine (a b c d e u F C : List Nat) : Bool := ([a, b, c, d].all fun p => bPart (.str (S p)) F) && bPart (.str (S e)) C && (decide (V.str (S u) = V.str "") || bCut (.str (S u)) (S F))
def sp_is_line (K : PySem.W.Frag) : Sp := fun vs H Q _ => ∃ (t : Addr) (a b c d e u F C : List Nat), vs = [.ref t, .str (S F), .str (S C)] ∧ SqT K H t [.str (S a), .str (S b), .str (S c), .str (S d), .str (S e), .str (S u)] ∧
  (∀ p ∈ [a, b, c, d, e, u, F, C], p.length ≤ 1000) ∧ ∀ H', Same H H' → Q (.bl (bLine a b c d e u F C)) H'
theorem ok_is_line {f : Addr} {fd : FuncData} (F : Fun K "is_line" "is_line" s_is_line f fd) (T : Z mg) (c_is_part : Cal P w K mg base CX0 3 "is_part" s_is_part ["value", "letters"] (sp_is_part K))
    (c_is_cut : Cal P w K mg base CX0 2 "is_cut" s_is_cut ["value", "faces"] (sp_is_cut K)) : FnOk P w K mg base CX0 4 f fd ["value", "faces", "cutters"] (sp_is_line K) := by
  refine F.ok sc_is_line (fun vs H Q E h => ?_) (fun cdv A outer s H vs Q E hr h => ?_)
  · obtain ⟨t, a, b, c, d, e, u, F, C, rfl, _⟩ := h
    rfl
  · obtain ⟨t, a, b, c, d, e, u, fs, cs, rfl, hS, hl, q⟩ := h
    have la : ∀ p ∈ [a, b, c, d, e, u], (S p).cps.size ≤ 100000 := fun p hp => Nat.le_trans (hl p (List.mem_append_left [fs, cs] hp)) (by decide)
    refine ⟨_, (pss_cons (ps_if (PW.pt (pw_or (pt_not (pt_val (pe_callB call_isi (by rfl) T.z_isinstance (by decide +kernel) (pa_cons (pv 0) (pa_cons (pe_bltn (v := .ty "tuple") (u := .type "tuple") (by rfl) T.z_tuple (by decide +kernel) rfl) pa_nil))))) (pw_or1 (pt_cmpR op_ne (pe_callB call_len_seq (by rfl) T.z_len (by decide +kernel) (pa_cons (pv 0) pa_nil)) pe_int (nomark _))))) (pss_one (ps_ret pe_bl)) pss_nil)
      (pss_cons (ps_if (PW.pt (pw_or (pt_not (pt_val (pe_callB (cr_all rfl) (by rfl) T.z_all (by decide +kernel) (pa_cons (pe_lc (own := [("part", 3)]) (g := (gName 3)) (by rfl) sc_is_line.nd (pi_tup (pe_slice sl_tup (pv 0) po_none (po_some pe_int))) (blkOk_by (N := ["value", "faces", "cutters", "part"]) (sc := defScope s_is_line) (by decide +kernel)) (fun _ _ _ _ _ => (pg_name (i := 3) sc_is_line.nd rfl (.inl rfl))) (fun _ _ _ _ _ => pts_nil) (fun _ _ _ _ _ => (pe_c c_is_part hr (by decide) (by rfl) (pa_cons (pv 3) (pa_cons (pv 1) pa_nil))))) pa_nil)))) (pw_or1 (pt_not (pt_val (pe_c c_is_part hr (by decide) (by rfl) (pa_cons (pe_ix ix_tup (pv 0) pe_int (fun _ _ => rfl)) (pa_cons (pv 2) pa_nil)))))))) (pss_one (ps_ret pe_bl)) pss_nil)
      (pss_one (ps_ret (pe_or (pe_cmpR op_eq (pe_ix ix_tup (pv 0) pe_int (fun _ _ => rfl)) pe_str (nomark _)) (pe_one (pe_c c_is_cut hr (by decide) (by rfl) (pa_cons (pe_ix ix_tup (pv 0) pe_int (fun _ _ => rfl)) (pa_cons (pv 1) pa_nil))))))))), ?_⟩
    refine ⟨_, rfl, _, _, _, _, true, rfl, .ty _, tyT hS, kit_ty (by decide +kernel), true, rfl, iteF ?_⟩
    refine ⟨_, rfl, t, _, rfl, .inr hS, rfl, _, rfl, ?_⟩
    refine iteF ?_
    refine ⟨_, rfl, 4, rfl, t, _, rfl, hS, (show ¬ (HT.sIx 6 0 none = 0 ∧ HT.sIx 6 6 (some 4) = 6) by decide), fun p np => ?_⟩
    have s1 := same_upd (o := HO.tup [V.str (S a), V.str (S b), V.str (S c), V.str (S d)]) np
    have hP : SqT K (upd H p (HO.tup [V.str (S a), V.str (S b), V.str (S c), V.str (S d)])) p ([a, b, c, d].map fun x => V.str (S x)) := SqT.of upd_same
    refine ⟨p, rfl, ⟨_, hP⟩, fun D hD => ?_⟩
    have hpD : p ≠ D := fun z => by
      rw [← z, upd_same] at hD
      cases hD
    refine lc_it (walk_tup (xs := [a, b, c, d].map fun x => V.str (S x))) (fun i H' => But D (upd H p (HO.tup [V.str (S a), V.str (S b), V.str (S c), V.str (S d)])) H' ∧ H' D = some (.lst (([a, b, c, d].take i).map fun x => V.bl (bPart (.str (S x)) fs))))
      ⟨(same_upd hD).but, upd_same⟩ (fun i H' _ pv => pv.1.tup hpD hP) ?_ ?_
    · rintro i x H' _ hi ⟨bt, hDD⟩ ⟨rfl, hx⟩
      rw [List.getElem?_map] at hx
      obtain ⟨y, hy, rfl⟩ := Option.map_eq_some_iff.mp hx
      have hm : y ∈ [a, b, c, d] := List.mem_of_getElem? hy
      refine ⟨rfl, ?_⟩
      refine ⟨_, rfl, _, rfl, S y, fs, rfl, la y (List.mem_append_left [e, u] hm), hl fs (by simp), fun H2 s2 => ?_⟩
      refine ⟨_, s2 _ _ hDD, by rw [List.length_map, List.length_take]; exact sz1 (Nat.le_trans (Nat.min_le_right _ _) (show 4 ≤ 100000 by decide)), fun z o n e => ?_, ?_⟩
      · rw [upd_ne n]
        exact s2 _ _ (bt z o n e)
      · rw [upd_same, List.take_add_one, hy, List.map_append]
        rfl
    rintro H1 ⟨bt, hDD⟩
    have sH : Same H H1 := s1.trans (but_fresh (Same.refl _) hD bt)
    refine ⟨D, [a, b, c, d].map fun x => bPart (.str (S x)) fs, rfl, SqL.of (hDD.trans ?_), _, rfl, ?_⟩
    · rw [List.map_map]
      rfl
    rw [List.all_map]
    have q0 : ∀ v, bLine a b c d e u fs cs = v → ∀ H', Same H H' → Q (.bl v) H' := fun v e => e ▸ q
    unfold bLine at q0
    cases e1 : ([a, b, c, d].all (id ∘ fun x => bPart (V.str (S x)) fs)) with
    | false => exact iteT (iteT (q0 _ (by rw [show ([a, b, c, d].all fun p => bPart (.str (S p)) fs) = false from e1]; rfl) _ sH))
    | true =>
      refine iteF ?_
      refine ⟨_, rfl, t, _, 4, _, rfl, rfl, sH.tup hS, rfl, _, rfl, S e, cs, rfl, la e (by simp), hl cs (by simp), fun H2 s2 => ⟨_, rfl, ?_⟩⟩
      cases e2 : bPart (.str (S e)) cs with
      | false => exact iteT (q0 _ (by rw [show ([a, b, c, d].all fun p => bPart (.str (S p)) fs) = true from e1, e2]; rfl) _ (sH.trans s2))
      | true =>
        refine iteF ?_
        have s3 := sH.trans s2
        refine ⟨_, rfl, t, _, 5, _, rfl, rfl, s3.tup hS, rfl, rfl, _, rfl, ?_⟩
        have eu : (([a, b, c, d].all fun p => bPart (.str (S p)) fs) && bPart (.str (S e)) cs && (decide (V.str (S u) = V.str "") || bCut (.str (S u)) (S fs))) = (decide (V.str (S u) = V.str "") || bCut (.str (S u)) (S fs)) := by
          rw [show ([a, b, c, d].all fun p => bPart (.str (S p)) fs) = true from e1, e2]
          rfl
        cases e3 : decide (V.str (S u) = V.str "") with
        | true => exact iteT (q0 _ (by rw [eu, e3]; rfl) _ s3)
        | false => exact iteF ⟨_, rfl, t, _, 5, _, rfl, rfl, s3.tup hS, rfl, _, rfl, .str (S u), S fs, rfl, .inl ⟨rfl, la u (by simp)⟩, fun H3 s4 => q0 _ (by rw [eu, e3]; rfl) _ (s3.trans s4)⟩
abbrev s_line_of : Stmt := topS 29
theorem sc_line_of : FnScope ["row", "faces", "cutters", "words", "line"] ["row", "faces", "cutters"] (defScope s_line_of) := ⟨rfl, rfl, rfl, by decide +kernel, rfl, by decide +kernel, by decide +kernel⟩
def noneL : List Nat := [110, 111, 110, 101]
/-- the last word of a line's text -/
def wordU (u : List Nat) : List Nat := if u = [] then noneL else u
def rowT (a b c d e u : List Nat) : Str := Txt.join " " ([a, b, c, d, e, wordU u].map S)
theorem rowT_len {a b c d e u : List Nat} (h : ∀ p ∈ [a, b, c, d, e, u], p.length ≤ 1000) : (rowT a b c d e u).length ≤ 7000 := by
  unfold rowT
  rw [show (" " : Str) = S [32] from rfl, SX.join_S, S_len]
  have hw : (wordU u).length ≤ 1004 := by
    unfold wordU
    split
    · exact (show 4 ≤ 1004 by decide)
    · exact Nat.le_trans (h u (by simp)) (by decide)
  have h1 := h a (by simp)
  have h2 := h b (by simp)
  have h3 := h c (by simp)
  have h4 := h d (by simp)
  have h5 := h e (by simp)
  show (a ++ ([32] ++ (b ++ ([32] ++ (c ++ ([32] ++ (d ++ ([32] ++ (e ++ ([32] ++ wordU u)))))))))).length ≤ 7000
  simp only [List.length_append, List.length_cons, List.length_nil]
  omega
def sp_line_of (K : PySem.W.Frag) : Sp := fun vs H Q _ => ∃ (a b c d e u F C : List Nat), vs = [.str (rowT a b c d e u), .str (S F), .str (S C)] ∧ (∀ p ∈ [a, b, c, d, e, u, F, C], p.length ≤ 1000) ∧ (∀ p ∈ [a, b, c, d, e, u], 32 ∉ p) ∧ u ≠ noneL ∧ bLine a b c d e u F C = true ∧
  ∀ H' p, Same H H' → H p = none → H' p = some (.tup [.str (S a), .str (S b), .str (S c), .str (S d), .str (S e), .str (S u)]) → Q (.ref p) H'
theorem ok_line_of {f : Addr} {fd : FuncData} (F : Fun K "line_of" "line_of" s_line_of f fd) (T : Z mg)
    (c_is_line : Cal P w K mg base CX0 4 "is_line" s_is_line ["value", "faces", "cutters"] (sp_is_line K)) : FnOk P w K mg base CX0 5 f fd ["row", "faces", "cutters"] (sp_line_of K) := by
  refine F.ok sc_line_of (fun vs H Q E h => ?_) (fun cdv A outer s H vs Q E hr h => ?_)
  · obtain ⟨a, b, c, d, e, u, F, C, rfl, _⟩ := h
    rfl
  · obtain ⟨a, b, c, d, e, u, fs, cs, rfl, hl, hs, hn, hb, q⟩ := h
    refine ⟨_, (pss_cons (ps_set (i := 3) sc_line_of.nd rfl (.inl rfl) (pe_split (pv 0) pe_str))
      (pss_cons (ps_if (PW.pt (pw_or (pt_cmpR op_ne (pe_callB call_len_seq (by rfl) T.z_len (by decide +kernel) (pa_cons (pv 3) pa_nil)) pe_int (nomark _)) (pw_or1 (pt_cmpR op_eq (pe_ix ix_list (pv 3) pe_int (fun _ _ => rfl)) pe_str (nomark _))))) (pss_one (ps_ret pe_non)) pss_nil)
      (pss_cons (ps_if (pt_cmpR op_eq (pe_ix ix_list (pv 3) pe_int (fun _ _ => rfl)) pe_str (nomark _)) (pss_one (ps_asg pe_str (pg_sub (pv 3) pe_int set_list))) pss_nil)
      (pss_cons (ps_set (i := 4) sc_line_of.nd rfl (.inl rfl) (pe_tupleOf (by rfl) T.z_tuple (pv 3)))
      (pss_one (ps_ret (pe_ifExp (pt_val (pe_c c_is_line hr (by decide) (by rfl) (pa_cons (pv 4) (pa_cons (pv 1) (pa_cons (pv 2) pa_nil))))) (pv 4) pe_non))))))), ?_⟩
    have hl6 : ∀ p ∈ [a, b, c, d, e, u], p.length ≤ 1000 := fun p hp => hl p (List.mem_append_left [fs, cs] hp)
    have hw32 : 32 ∉ wordU u := by
      unfold wordU
      split
      · decide
      · exact hs u (by simp)
    have hsp : Txt.split (rowT a b c d e u) " " = [a, b, c, d, e, wordU u].map S := TL.split_join (s := 32) (S := []) rfl (by decide +kernel) (by simp) (fun p hp => by
      obtain ⟨x, hx, rfl⟩ := List.mem_map.mp hp
      show 32 ∉ x
      simp only [List.mem_cons, List.not_mem_nil, or_false] at hx
      rcases hx with rfl | rfl | rfl | rfl | rfl | rfl
      · exact hs _ (by simp)
      · exact hs _ (by simp)
      · exact hs _ (by simp)
      · exact hs _ (by simp)
      · exact hs _ (by simp)
      · exact hw32)
    refine ⟨_, rfl, ⟨_, rfl⟩, _, _, rfl, rfl, rfl, Nat.le_trans (Nat.add_le_add_right (rowT_len hl6) 2) (by decide), fun p np => ?_⟩
    rw [hsp]
    have hu0 : wordU u ≠ [] := by
      unfold wordU
      split
      · decide
      · assumption
    have g5 : (upd H p (.lst (([a, b, c, d, e, wordU u].map S).map V.str))) p = some (.lst [V.str (S a), V.str (S b), V.str (S c), V.str (S d), V.str (S e), V.str (S (wordU u))]) := upd_same
    have sp := same_upd (o := HO.lst (([a, b, c, d, e, wordU u].map S).map V.str)) np
    generalize upd H p (.lst (([a, b, c, d, e, wordU u].map S).map V.str)) = H1 at g5 sp
    refine ⟨_, rfl, p, _, rfl, .inl (SqL.of g5), rfl, _, rfl, ?_⟩
    refine iteF ⟨_, rfl, p, _, 5, _, rfl, rfl, SqL.of g5, rfl, rfl, _, rfl, ?_⟩
    rw [show decide (V.str (S (wordU u)) = V.str "") = false from decide_eq_false fun z => hu0 (congrArg (fun x : Str => x.cps.toList) (V.str.inj z))]
    refine iteF ?_
    refine ⟨_, rfl, p, _, 5, _, rfl, rfl, SqL.of g5, rfl, rfl, _, rfl, ?_⟩
    -- behind the last word
    have fin : ∀ H2, (∀ b o, b ≠ p → H1 b = some o → H2 b = some o) → ∀ t, H2 t = none → ∀ H', Same (upd H2 t (.tup [V.str (S a), V.str (S b), V.str (S c), V.str (S d), V.str (S e), V.str (S u)])) H' → Q (.ref t) H' := fun H2 kp t nt H' s' => by
      have s2 : Same H H2 := fun z o hz => kp z o (ne_of_none hz np) (sp z o hz)
      have nt0 : H t = none := by
        cases z : H t with
        | none => rfl
        | some o => rw [s2 _ _ z] at nt; cases nt
      exact q _ t ((s2.trans (same_upd nt)).trans s') nt0 (s' _ _ upd_same)
    by_cases hu : u = []
    · have ew : wordU u = noneL := if_pos hu
      rw [show decide (V.str (S (wordU u)) = V.str "none") = true from decide_eq_true (by rw [ew]; rfl)]
      refine iteT ?_
      refine ⟨_, rfl, p, _, 5, 5, rfl, rfl, g5, rfl, ?_⟩
      have g6 : (upd H1 p (.lst [V.str (S a), V.str (S b), V.str (S c), V.str (S d), V.str (S e), V.str ""])) p = some (.lst [V.str (S a), V.str (S b), V.str (S c), V.str (S d), V.str (S e), V.str (S u)]) := by
        rw [upd_same, hu]
        rfl
      have kp : ∀ z o, z ≠ p → H1 z = some o → (upd H1 p (.lst [V.str (S a), V.str (S b), V.str (S c), V.str (S d), V.str (S e), V.str ""])) z = some o := fun z o n h => (upd_ne n).trans h
      refine ⟨_, rfl, .inl ⟨p, _, rfl, SqL.of g6, fun t nt => ?_⟩⟩
      refine ⟨_, rfl, _, rfl, _, rfl, t, a, b, c, d, e, u, fs, cs, rfl, SqT.of upd_same, hl, fun H' s' => ⟨_, rfl, ?_⟩⟩
      rw [hb]
      exact iteT ⟨_, rfl, fin _ kp t nt H' s'⟩
    · have ew : wordU u = u := if_neg hu
      rw [ew] at g5
      rw [show decide (V.str (S (wordU u)) = V.str "none") = false from decide_eq_false fun z => hn (by
        rw [ew] at z
        exact congrArg (fun x : Str => x.cps.toList) (V.str.inj z))]
      refine iteF ?_
      refine ⟨_, rfl, .inl ⟨p, _, rfl, SqL.of g5, fun t nt => ?_⟩⟩
      refine ⟨_, rfl, _, rfl, _, rfl, t, a, b, c, d, e, u, fs, cs, rfl, SqT.of upd_same, hl, fun H' s' => ⟨_, rfl, ?_⟩⟩
      rw [hb]
      exact iteT ⟨_, rfl, fin H1 (fun _ _ _ h => h) t nt H' s'⟩
abbrev s_head_of : Stmt := topS 28
theorem sc_head_of : FnScope ["row", "words"] ["row"] (defScope s_head_of) := ⟨rfl, rfl, rfl, by decide +kernel, rfl, by decide +kernel, by decide +kernel⟩
def headT (F C : List Nat) : Str := Txt.join " " ([F, C].map S)
def sp_head_of (K : PySem.W.Frag) : Sp := fun vs H Q _ => ∃ (F C : List Nat), vs = [.str (headT F C)] ∧ F.length ≤ 1000 ∧ C.length ≤ 1000 ∧ 32 ∉ F ∧ 32 ∉ C ∧ bFaces (.str (S F)) = true ∧ bCutters (.str (S C)) = true ∧
  ∀ H' p, Same H H' → H p = none → H' p = some (.tup [.str (S F), .str (S C)]) → Q (.ref p) H'
theorem ok_head_of {f : Addr} {fd : FuncData} (F : Fun K "head_of" "head_of" s_head_of f fd) (T : Z mg) (c_is_faces : Cal P w K mg base CX0 3 "is_faces" s_is_faces ["value"] (sp_is_faces K))
    (c_is_cutters : Cal P w K mg base CX0 3 "is_cutters" s_is_cutters ["value"] (sp_is_cutters K)) : FnOk P w K mg base CX0 4 f fd ["row"] (sp_head_of K) := by
  refine F.ok sc_head_of (fun vs H Q E h => ?_) (fun cdv A outer s H vs Q E hr h => ?_)
  · obtain ⟨F, C, rfl, _⟩ := h
    rfl
  · obtain ⟨fs, cs, rfl, l1, l2, h1, h2, b1, b2, q⟩ := h
    refine ⟨_, (pss_cons (ps_set (i := 1) sc_head_of.nd rfl (.inl rfl) (pe_split (pv 0) pe_str))
      (pss_cons (ps_if (PW.pt (pw_or (pt_cmpR op_ne (pe_callB call_len_seq (by rfl) T.z_len (by decide +kernel) (pa_cons (pv 1) pa_nil)) pe_int (nomark _)) (pw_or (pt_not (pt_val (pe_c c_is_faces hr (by decide) (by rfl) (pa_cons (pe_ix ix_list (pv 1) pe_int (fun _ _ => rfl)) pa_nil)))) (pw_or1 (pt_not (pt_val (pe_c c_is_cutters hr (by decide) (by rfl) (pa_cons (pe_ix ix_list (pv 1) pe_int (fun _ _ => rfl)) pa_nil)))))))) (pss_one (ps_ret pe_non)) pss_nil)
      (pss_one (ps_ret (pe_tup (pa_cons (pe_ix ix_list (pv 1) pe_int (fun _ _ => rfl)) (pa_cons (pe_ix ix_list (pv 1) pe_int (fun _ _ => rfl)) pa_nil))))))), ?_⟩
    have hlen : (headT fs cs).length ≤ 3000 := by
      unfold headT
      rw [show (" " : Str) = S [32] from rfl, SX.join_S, S_len]
      show (fs ++ ([32] ++ cs)).length ≤ 3000
      simp only [List.length_append, List.length_cons, List.length_nil]
      omega
    have hsp : Txt.split (headT fs cs) " " = [fs, cs].map S := TL.split_join (s := 32) (S := []) rfl (by decide +kernel) (by simp) (fun p hp => by
      obtain ⟨x, hx, rfl⟩ := List.mem_map.mp hp
      show 32 ∉ x
      simp only [List.mem_cons, List.not_mem_nil, or_false] at hx
      rcases hx with rfl | rfl
      · exact h1
      · exact h2)
    refine ⟨_, rfl, ⟨_, rfl⟩, _, _, rfl, rfl, rfl, Nat.le_trans (Nat.add_le_add_right hlen 2) (by decide), fun p np => ?_⟩
    rw [hsp]
    have g5 : (upd H p (.lst (([fs, cs].map S).map V.str))) p = some (.lst [V.str (S fs), V.str (S cs)]) := upd_same
    have sp := same_upd (o := HO.lst (([fs, cs].map S).map V.str)) np
    generalize upd H p (.lst (([fs, cs].map S).map V.str)) = H1 at g5 sp
    refine ⟨_, rfl, p, _, rfl, .inl (SqL.of g5), rfl, _, rfl, ?_⟩
    refine iteF ⟨_, rfl, p, _, 0, _, rfl, rfl, SqL.of g5, rfl, .str (S fs), rfl, .inl ⟨rfl, (show fs.length ≤ 100000 by omega)⟩, fun H2 s2 => ⟨_, rfl, ?_⟩⟩
    rw [b1]
    refine iteF ⟨_, rfl, p, _, 1, _, rfl, rfl, SqL.of (s2 _ _ g5), rfl, .str (S cs), rfl, .inl ⟨rfl, (show cs.length ≤ 100000 by omega)⟩, fun H3 s3 => ⟨_, rfl, ?_⟩⟩
    rw [b2]
    refine iteF ?_
    have s4 := s2.trans s3
    refine ⟨_, rfl, p, _, 0, _, rfl, rfl, SqL.of (s4 _ _ g5), rfl, _, rfl, p, _, 1, _, rfl, rfl, SqL.of (s4 _ _ g5), rfl, (show 2 ≤ sizeLine by decide), fun t nt => ?_⟩
    have s5 := sp.trans s4
    have nt0 : H t = none := by
      cases z : H t with
      | none => rfl
      | some o =>
        rw [s5 _ _ z] at nt
        cases nt
    exact q _ t (s5.trans (same_upd nt)) nt0 upd_same
abbrev s_Book_init : Stmt := inCls (topS 31) 1
theorem sc_Book_init : FnScope ["self", "faces", "cutters", "lines", "at", "line"] ["self", "faces", "cutters", "lines"] (defScope s_Book_init) := ⟨rfl, rfl, rfl, by decide +kernel, rfl, by decide +kernel, by decide +kernel⟩
/-- one line of a book: where its tuple stands, its six texts -/
abbrev LineV : Type := Addr × List Nat × List Nat × List Nat × List Nat × List Nat × List Nat
def LineV.tup (r : LineV) : HO := .tup [.str (S r.2.1), .str (S r.2.2.1), .str (S r.2.2.2.1), .str (S r.2.2.2.2.1), .str (S r.2.2.2.2.2.1), .str (S r.2.2.2.2.2.2)]
structure LineOk (r : LineV) (F C : List Nat) : Prop where
  ln : ∀ p ∈ [r.2.1, r.2.2.1, r.2.2.2.1, r.2.2.2.2.1, r.2.2.2.2.2.1, r.2.2.2.2.2.2], p.length ≤ 1000
  ok : bLine r.2.1 r.2.2.1 r.2.2.2.1 r.2.2.2.2.1 r.2.2.2.2.2.1 r.2.2.2.2.2.2 F C = true
/-- the lines as they stand -/
structure LinesAt (H : Hp) (ls : List LineV) (F C : List Nat) : Prop where
  at_ : ∀ r ∈ ls, H r.1 = some r.tup
  ok : ∀ r ∈ ls, LineOk r F C
  few : ls.length ≤ 8
theorem LinesAt.same {H H' : Hp} {ls : List LineV} {F C : List Nat} (h : LinesAt H ls F C) (s : Same H H') : LinesAt H' ls F C := ⟨fun r hr => s _ _ (h.at_ r hr), h.ok, h.few⟩
def bookF (F C : List Nat) (tl : Addr) : List (Str × V) := [("faces", .str (S F)), ("cutters", .str (S C)), ("_lines", .ref tl)]
def sp_Book_init (K : PySem.W.Frag) : Sp := fun vs H Q _ => ∃ (x CB dx tl : Addr) (F C : List Nat) (ls : List LineV), vs = [.ref x, .str (S F), .str (S C), .ref tl] ∧ H x = some (.ins CB dx []) ∧ Cls K CB ∧ NoAttr K CB "faces" ∧ NoAttr K CB "cutters" ∧ NoAttr K CB "_lines" ∧
  bFaces (.str (S F)) = true ∧ bCutters (.str (S C)) = true ∧ F.length ≤ 1000 ∧ C.length ≤ 1000 ∧ H tl = some (.tup (ls.map fun r => V.ref r.1)) ∧ LinesAt H ls F C ∧ ∀ H', Same H H' → Q .non (upd H' x (.ins CB dx (bookF F C tl)))
theorem fn_Book_init {f CB : Addr} {fd : FuncData} {t8 : Tok} {mc : Value} (F : Fun K "__init__" "Book.__init__" s_Book_init f fd) (T : Z mg) (gB : mg "Book" = some (.ref CB)) (rC : ClX.CRead K CB mc) (vM : ClX.CVal K CB mc "MOST" (.int 8) (.int 8 t8))
    (c_is_faces : Cal P w K mg base CX0 3 "is_faces" s_is_faces ["value"] (sp_is_faces K)) (c_is_cutters : Cal P w K mg base CX0 3 "is_cutters" s_is_cutters ["value"] (sp_is_cutters K))
    (c_is_line : Cal P w K mg base CX0 4 "is_line" s_is_line ["value", "faces", "cutters"] (sp_is_line K)) :
    FnR P w K mg base CX0 6 f (fun vs H Q E => ∃ ws rest, vs = ws ++ rest ∧ ws.length = ["self", "faces", "cutters"].length ∧ rest.length ≤ sizeLine ∧ ∀ p, H p = none → sp_Book_init K (ws ++ [V.ref p]) (upd H p (.tup rest)) Q E) := by
  obtain ⟨oc, od, kV, doc, pm, an, cdv, ct, osl, rfl, lk, hcd⟩ := F.ex
  refine StX.fn_star (ps := ["self", "faces", "cutters"]) (pv := "lines") lk hcd sc_Book_init StX.cxUp_none (bind_star3 (B := fun us => bindArgs (PySem.W.fnOf "__init__" "Book.__init__" (defArgs s_Book_init) (defBody s_Book_init) (defScope s_Book_init) .none kV doc pm an cdv ct) ⟨us, []⟩) (p1 := "self") (p2 := "faces") (p3 := "cutters") (pv := "lines") (fun _ _ _ => rfl) (fun _ _ _ _ _ => rfl)) (fun A outer s H vs Q E hr h => ?_)
  obtain ⟨x, CB', dx, tl, fs, cs, ls, rfl, hx, hC, nf, nc, nl, b1, b2, l1, l2, ht, hL, q⟩ := h
  refine ⟨_, PSs.nox (pss_cons (ps_if (pt_not (pt_val (pe_c c_is_faces hr (by decide) (by rfl) (pa_cons (pv 1) pa_nil)))) pss_never pss_nil)
    (pss_cons (ps_if (pt_not (pt_val (pe_c c_is_cutters hr (by decide) (by rfl) (pa_cons (pv 2) pa_nil)))) pss_never pss_nil)
    (pss_cons (ps_for PassesOwn.never rfl (pi_enumG (by rfl) T.z_enumerate (pa_cons (pv 3) pa_nil)) (pg_tup rfl (pgs_cons (pg_name (i := 4) sc_Book_init.nd rfl (.inl rfl)) (pgs_cons (pg_name (i := 5) sc_Book_init.nd rfl (.inl rfl)) pgs_nil)))
      (pss_one (ps_if (PW.pt (pw_or (pt_cmpR op_ge (pv 4) (ClX.pe_cval (pe_glob (v := .ref CB) rfl gB rfl)) (nomark _)) (pw_or1 (pt_not (pt_val (pe_c c_is_line hr (by decide) (by rfl) (pa_cons (pv 5) (pa_cons (pv 1) (pa_cons (pv 2) pa_nil))))))))) pss_never pss_nil)))
    (pss_cons (ps_fld (pv 0) (pv 1) rfl)
    (pss_cons (ps_fld (pv 0) (pv 2) rfl)
    (pss_one (ps_fld (pv 0) (pv 3) rfl))))))), ?_⟩
  refine ⟨_, rfl, .str (S fs), rfl, .inl ⟨rfl, (show fs.length ≤ 100000 by omega)⟩, fun H1 s1 => ⟨_, rfl, ?_⟩⟩
  rw [b1]
  refine iteF ⟨_, rfl, .str (S cs), rfl, .inl ⟨rfl, (show cs.length ≤ 100000 by omega)⟩, fun H2 s2 => ⟨_, rfl, ?_⟩⟩
  rw [b2]
  refine iteF ?_
  have s12 := s1.trans s2
  refine ⟨_, rfl, .ref tl, ls.map fun r => V.ref r.1, rfl, .t (SqT.of (s12 _ _ ht)), fun k ev src => ?_⟩
  have stay : ∀ H', Same H2 H' → k.src K H' (ls.map fun r => V.ref r.1) := fun H' s => by
    cases k with
    | l a => exact s.seq src
    | t a => exact s.tup src
    | s z t => cases ev
  refine for_it walk_enumG (fun i σ H' => ∃ y4 y5 : Option V, σ = [some (.ref x), some (.str (S fs)), some (.str (S cs)), some (.ref tl), y4, y5] ∧ Same H2 H') ⟨_, _, rfl, Same.refl _⟩ (fun i σ H' _ ⟨_, _, _, s⟩ => stay H' s) ?_ ?_
  · rintro i v σ H3 H4 hi ⟨y4, y5, rfl, s3⟩ ⟨T', a1, b1', rfl, nT, rfl, hx1, hy1⟩
    obtain rfl : V.int (i : Nat) = a1 := Option.some.inj hx1
    have hy2 : (ls.map fun r => V.ref r.1)[i]? = some b1' := hy1
    rw [List.getElem?_map] at hy2
    obtain ⟨r, hr1, rfl⟩ := Option.map_eq_some_iff.mp hy2
    have hm := List.mem_of_getElem? hr1
    have hi8 : i < 8 := Nat.lt_of_lt_of_le (by simpa using hi) hL.few
    have s4 := (s12.trans s3).trans (same_upd (o := HO.tup [V.int (i : Nat), V.ref r.1]) nT)
    have hok := hL.ok r hm
    refine ⟨T', _, rfl, SqT.of upd_same, rfl, _, _, rfl, _, [], rfl, rfl, ?_⟩
    refine ⟨_, rfl, CB, mc, .int 8, _, rfl, rC, vM, _, _, rfl, rfl, _, rfl, ?_⟩
    rw [show decide ((8 : Int) ≤ ((i : Nat) : Int)) = false from decide_eq_false (by omega)]
    refine iteF ?_
    have hat := s4 _ _ (hL.at_ r hm)
    refine ⟨_, rfl, _, rfl, _, rfl, r.1, _, _, _, _, _, _, fs, cs, rfl, SqT.of hat, fun p hp => ?_, fun H5 s5 => ⟨_, rfl, ?_⟩⟩
    · have hp' : p ∈ [r.2.1, r.2.2.1, r.2.2.2.1, r.2.2.2.2.1, r.2.2.2.2.2.1, r.2.2.2.2.2.2] ++ [fs, cs] := hp
      rcases List.mem_append.mp hp' with h | h
      · exact hok.ln p h
      · simp only [List.mem_cons, List.not_mem_nil, or_false] at h
        rcases h with rfl | rfl
        · exact l1
        · exact l2
    · rw [hok.ok]
      exact iteF ⟨_, _, rfl, (s3.trans (same_upd nT)).trans s5⟩
  · rintro σ H3 ⟨y4, y5, rfl, s3⟩
    have s4 := s12.trans s3
    refine ⟨_, rfl, _, rfl, x, CB', dx, [], rfl, s4 _ _ hx, hC, nf, by decide, ?_⟩
    refine ⟨_, rfl, _, rfl, x, CB', dx, _, rfl, upd_same, hC, nc, (show 1 < 1000 by decide), ?_⟩
    refine ⟨_, rfl, _, rfl, x, CB', dx, _, rfl, upd_same, hC, nl, (show 2 < 1000 by decide), ?_⟩
    rw [upd_upd, upd_upd]
    exact q _ s4
abbrev s_Book_read : Stmt := inCls (topS 31) 9
theorem sc_Book_read : FnScope ["text", "rows", "head", "faces", "cutters", "lines", "at", "line"] ["text"] (defScope s_Book_read) := ⟨rfl, rfl, rfl, by decide +kernel, rfl, by decide +kernel, by decide +kernel⟩
/-- six words of a line's text, as a line has them -/
abbrev W6 : Type := List Nat × List Nat × List Nat × List Nat × List Nat × List Nat
def rowW (w : W6) : Str := rowT w.1 w.2.1 w.2.2.1 w.2.2.2.1 w.2.2.2.2.1 w.2.2.2.2.2
def w6L (w : W6) : List (List Nat) := [w.1, w.2.1, w.2.2.1, w.2.2.2.1, w.2.2.2.2.1, w.2.2.2.2.2]
def bookT (F C : List Nat) (ws : List W6) : Str := Txt.join "\n" (headT F C :: ws.map rowW)
structure W6Ok (w : W6) (F C : List Nat) : Prop where
  ln : ∀ p ∈ w6L w, p.length ≤ 1000
  sp : ∀ p ∈ w6L w, 32 ∉ p ∧ 10 ∉ p
  nn : w.2.2.2.2.2 ≠ noneL
  ok : bLine w.1 w.2.1 w.2.2.1 w.2.2.2.1 w.2.2.2.2.1 w.2.2.2.2.2 F C = true
theorem tl_row {a b c d e u : List Nat} {x : Nat} (h : ∀ p ∈ [a, b, c, d, e, u], x ∉ p) (h1 : x ≠ 32) (h2 : x ∉ noneL) : x ∉ (rowT a b c d e u).cps.toList := by
  unfold rowT
  rw [show (" " : Str) = S [32] from rfl, SX.join_S]
  have hw : x ∉ wordU u := by
    unfold wordU
    split
    · exact h2
    · exact h u (by simp)
  show x ∉ a ++ ([32] ++ (b ++ ([32] ++ (c ++ ([32] ++ (d ++ ([32] ++ (e ++ ([32] ++ wordU u)))))))))
  simp only [List.mem_append, List.mem_singleton, not_or]
  exact ⟨h a (by simp), h1, h b (by simp), h1, h c (by simp), h1, h d (by simp), h1, h e (by simp), h1, hw⟩
theorem tl_head {F C : List Nat} {x : Nat} (h : x ∉ F) (h2 : x ∉ C) (h1 : x ≠ 32) : x ∉ (headT F C).cps.toList := by
  unfold headT
  rw [show (" " : Str) = S [32] from rfl, SX.join_S]
  show x ∉ F ++ ([32] ++ C)
  simp only [List.mem_append, List.mem_singleton, not_or]
  exact ⟨h, h1, h2⟩
theorem joinL_le {s : List Nat} {m : Nat} : ∀ {ps : List (List Nat)}, (∀ p ∈ ps, p.length ≤ m) → (TL.joinL s ps).length ≤ ps.length * (m + s.length)
  | [], _ => Nat.zero_le _
  | [p], h => by
    show p.length ≤ 1 * (m + s.length)
    have := h p List.mem_cons_self
    omega
  | p :: q :: r, h => by
    show (p ++ (s ++ TL.joinL s (q :: r))).length ≤ _
    have ih := joinL_le (s := s) (m := m) (ps := q :: r) fun x hx => h x (List.mem_cons_of_mem _ hx)
    have hp := h p List.mem_cons_self
    simp only [List.length_append, List.length_cons] at ih ⊢
    rw [Nat.add_mul (r.length + 1) 1 (m + s.length), Nat.one_mul]
    omega
theorem head_len {F C : List Nat} (l1 : F.length ≤ 1000) (l2 : C.length ≤ 1000) : (headT F C).length ≤ 7000 := by
  unfold headT
  rw [show (" " : Str) = S [32] from rfl, SX.join_S, S_len]
  show (F ++ ([32] ++ C)).length ≤ 7000
  simp only [List.length_append, List.length_cons, List.length_nil]
  omega
def sp_Book_read (K : PySem.W.Frag) (CB : Addr) : Sp := fun vs H Q _ => ∃ (F C : List Nat) (ws : List W6), vs = [.str (bookT F C ws)] ∧ F.length ≤ 1000 ∧ C.length ≤ 1000 ∧ (32 ∉ F ∧ 10 ∉ F) ∧ (32 ∉ C ∧ 10 ∉ C) ∧ bFaces (.str (S F)) = true ∧ bCutters (.str (S C)) = true ∧
  ws.length ≤ 8 ∧ (∀ w ∈ ws, W6Ok w F C) ∧ ∀ H' x dx tl ls, Same H H' → H x = none → H' x = some (.ins CB dx (bookF F C tl)) → H' tl = some (.tup (ls.map fun r : LineV => V.ref r.1)) → LinesAt H' ls F C → ls.map (·.2) = ws → Q (.ref x) H'
theorem bookT_split {F C : List Nat} {ws : List W6} (h1 : 10 ∉ F) (h2 : 10 ∉ C) (h : ∀ w ∈ ws, W6Ok w F C) : Txt.split (bookT F C ws) "\n" = headT F C :: ws.map rowW :=
  TL.split_join (s := 10) (S := []) rfl (by decide +kernel) (by simp) (fun p hp => by
    rcases List.mem_cons.mp hp with rfl | hp
    · exact tl_head h1 h2 (by decide)
    · obtain ⟨w, hw, rfl⟩ := List.mem_map.mp hp
      exact tl_row (fun p hp => ((h w hw).sp p hp).2) (by decide) (by decide))
theorem bookT_len {F C : List Nat} {ws : List W6} (l1 : F.length ≤ 1000) (l2 : C.length ≤ 1000) (hw : ws.length ≤ 8) (h : ∀ w ∈ ws, W6Ok w F C) : (bookT F C ws).length + 2 ≤ sizeLine := by
  have e : bookT F C ws = S (TL.joinL [10] ((headT F C :: ws.map rowW).map fun z => z.cps.toList)) := by
    unfold bookT
    rw [show (headT F C :: ws.map rowW) = (((headT F C :: ws.map rowW).map fun z => z.cps.toList).map S) from by
      rw [List.map_map]
      exact (List.map_id' _).symm.trans (List.map_congr_left fun z _ => (S_tl z).symm), show ("\n" : Str) = S [10] from rfl, SX.join_S]
    rw [List.map_map, List.map_map]
    congr 2
  rw [e, S_len]
  refine Nat.le_trans (Nat.add_le_add_right (joinL_le (m := 7000) fun p hp => ?_) 2) ?_
  · obtain ⟨z, hz, rfl⟩ := List.mem_map.mp hp
    rcases List.mem_cons.mp hz with rfl | hz
    · exact head_len l1 l2
    · obtain ⟨w, hw2, rfl⟩ := List.mem_map.mp hz
      exact rowT_len (h w hw2).ln
  · rw [List.length_map, List.length_cons, List.length_map]
    exact Nat.le_trans (show (ws.length + 1) * 7001 + 2 ≤ 63011 by omega) (by decide)
theorem ok_Book_read {f CB fB : Addr} {fd : FuncData} {t8 : Tok} {mc : Value} (F : Fun K "read" "Book.read" s_Book_read f fd) (T : Z mg) (gB : mg "Book" = some (.ref CB)) (rC : ClX.CRead K CB mc) (vM : ClX.CVal K CB mc "MOST" (.int 8) (.int 8 t8))
    (M : Mk K CB fB) (hC : Cls K CB) (nf : NoAttr K CB "faces") (nc : NoAttr K CB "cutters") (nl : NoAttr K CB "_lines")
    (FB : FnR P w K mg base CX0 6 fB (fun vs H Q E => ∃ ws rest, vs = ws ++ rest ∧ ws.length = ["self", "faces", "cutters"].length ∧ rest.length ≤ sizeLine ∧ ∀ p, H p = none → sp_Book_init K (ws ++ [V.ref p]) (upd H p (.tup rest)) Q E))
    (c_head_of : Cal P w K mg base CX0 4 "head_of" s_head_of ["row"] (sp_head_of K)) (c_line_of : Cal P w K mg base CX0 5 "line_of" s_line_of ["row", "faces", "cutters"] (sp_line_of K)) :
    FnOk P w K mg base CX0 8 f fd ["text"] (sp_Book_read K CB) := by
  refine F.ok sc_Book_read (fun vs H Q E h => ?_) (fun cdv A outer s H vs Q E hr h => ?_)
  · obtain ⟨F, C, ws, rfl, _⟩ := h
    rfl
  obtain ⟨fs, cs, ws, rfl, l1, l2, ⟨f32, f10⟩, ⟨c32, c10⟩, b1, b2, hw8, hws, q⟩ := h
  refine ⟨_, (pss_cons (ps_if (pt_not (pt_val (pe_callB call_isi (by rfl) T.z_isinstance (by decide +kernel) (pa_cons (pv 0) (pa_cons (pe_bltn (v := .ty "str") (u := .type "str") (by rfl) T.z_str (by decide +kernel) rfl) pa_nil))))) pss_never pss_nil)
    (pss_cons (ps_set (i := 1) sc_Book_read.nd rfl (.inl rfl) (pe_split (pv 0) pe_str))
    (pss_cons (ps_set (i := 2) sc_Book_read.nd rfl (.inl rfl) (pe_c c_head_of hr (by decide) (by rfl) (pa_cons (pe_ix ix_list (pv 1) pe_int (fun _ _ => rfl)) pa_nil)))
    (pss_cons (ps_if (pt_cmp (pc_isN (pv 2))) pss_never pss_nil)
    (pss_cons (ps_asg (pv 2) (pg_tup rfl (pgs_cons (pg_name (i := 3) sc_Book_read.nd rfl (.inl rfl)) (pgs_cons (pg_name (i := 4) sc_Book_read.nd rfl (.inl rfl)) pgs_nil))))
    (pss_cons (ps_set (i := 5) sc_Book_read.nd rfl (.inl rfl) (pe_lst pa_nil))
    (pss_cons (ps_for PassesOwn.never rfl (pi_range2 (by rfl) T.z_range (pa_cons pe_int (pa_cons (pe_callB call_len_seq (by rfl) T.z_len (by decide +kernel) (pa_cons (pv 1) pa_nil)) pa_nil))) (pg_name (i := 6) sc_Book_read.nd rfl (.inl rfl))
      (pss_cons (ps_set (i := 7) sc_Book_read.nd rfl (.inl rfl) (pe_c c_line_of hr (by decide) (by rfl) (pa_cons (pe_ix ix_list (pv 1) (pv 6) (fun _ _ => rfl)) (pa_cons (pv 3) (pa_cons (pv 4) pa_nil)))))
      (pss_cons (ps_if (PW.pt (pw_or (pt_cmp (pc_isN (pv 7))) (pw_or1 (pt_cmpR op_gt (pv 6) (ClX.pe_cval (pe_glob (v := .ref CB) rfl gB rfl)) (nomark _))))) pss_never pss_nil)
      (pss_one (ps_expr (pe_bm PySem.F.plainAttrs_list PySem.F.slot_list_append PySem.F.type_list_append mt_append (pv 5) (pa_cons (pv 7) pa_nil)))))))
    (pss_one (ps_ret (pe_makeS M FB hr (by rfl) gB pass0 (pa_cons (pv 3) (pa_cons (pv 4) (StX.pa_star (pv 5) pa_nil))))))))))))), ?_⟩
  refine ⟨_, rfl, _, _, _, _, true, rfl, .ty _, .base (.str _), kit_ty (by decide +kernel), true, rfl, iteF ?_⟩
  refine ⟨_, rfl, ⟨_, rfl⟩, _, _, rfl, rfl, rfl, bookT_len l1 l2 hw8 hws, fun pr npr => ?_⟩
  rw [bookT_split f10 c10 hws]
  have sr := same_upd (o := HO.lst ((headT fs cs :: ws.map rowW).map V.str)) npr
  have gr : (upd H pr (.lst ((headT fs cs :: ws.map rowW).map V.str))) pr = some (.lst ((headT fs cs :: ws.map rowW).map V.str)) := upd_same
  generalize upd H pr (.lst ((headT fs cs :: ws.map rowW).map V.str)) = H1 at sr gr
  refine ⟨_, rfl, pr, _, 0, _, rfl, rfl, SqL.of gr, at_of (show (0 : Int) = ((0 : Nat) : Int) from rfl) rfl, fs, cs, rfl, l1, l2, f32, c32, b1, b2, fun H2 ph s2 nph hph => ?_⟩
  refine ⟨_, rfl, _, rfl, iteF ?_⟩
  refine ⟨_, rfl, ph, _, rfl, SqT.of hph, rfl, _, _, rfl, _, [], rfl, rfl, ?_⟩
  refine ⟨(show 0 ≤ sizeLine by decide), fun pl npl => ?_⟩
  have s02 := sr.trans s2
  have gr2 := s2 _ _ gr
  have npl0 : H pl = none := by
    cases z : H pl with
    | none => rfl
    | some o =>
      rw [s02 _ _ z] at npl
      cases npl
  have hlen : ((headT fs cs :: ws.map rowW).map V.str).length = ws.length + 1 := by
    rw [List.length_map, List.length_cons, List.length_map]
  refine ⟨_, rfl, pr, _, rfl, .inl (SqL.of ((same_upd npl) _ _ gr2)), 1, _, rfl, ?_, ?_⟩
  · rw [hlen]
    omega
  rw [hlen, show (((ws.length + 1 : Nat) : Int) - 1).toNat = ws.length by omega]
  refine for_it walk_range (fun i σ H' => ∃ (y6 y7 : Option V) (ls : List LineV), σ = [some (.str (bookT fs cs ws)), some (.ref pr), some (.ref ph), some (.str (S fs)), some (.str (S cs)), some (.ref pl), y6, y7] ∧ Same H H' ∧ H' pr = some (.lst ((headT fs cs :: ws.map rowW).map V.str)) ∧
      H' pl = some (.lst (ls.map fun r => V.ref r.1)) ∧ (∀ r ∈ ls, H' r.1 = some r.tup) ∧ ls.map (·.2) = ws.take i)
    ⟨_, _, [], rfl, s02.trans (same_upd npl), (same_upd npl) _ _ gr2, upd_same, (fun _ h => by cases h), rfl⟩ (fun _ _ _ _ _ => trivial) ?_ ?_
  · rintro i x σ H3 H4 hi ⟨y6, y7, ls, rfl, s3, gr3, gl3, at3, e3⟩ ⟨rfl, rfl⟩
    have hiw : ws[i]? = some ws[i] := List.getElem?_eq_getElem hi
    generalize ws[i] = w at hiw
    have hw := hws w (List.mem_of_getElem? hiw)
    have hrow : ((headT fs cs :: ws.map rowW).map V.str)[1 + i]? = some (.str (rowW w)) := by
      rw [Nat.add_comm, List.map_cons, List.getElem?_cons_succ, List.map_map, List.getElem?_map, hiw]
      rfl
    refine ⟨_, rfl, _, rfl, pr, _, 1 + (i : Int), _, rfl, rfl, SqL.of gr3, at_of (show 1 + (i : Int) = ((1 + i : Nat) : Int) by omega) hrow, _, rfl, _, rfl, w.1, w.2.1, w.2.2.1, w.2.2.2.1, w.2.2.2.2.1, w.2.2.2.2.2, fs, cs, rfl, fun p hp => ?_, fun p hp => (hw.sp p hp).1, hw.nn, hw.ok, fun H5 pn s5 npn hpn => ?_⟩
    · have hp' : p ∈ w6L w ++ [fs, cs] := hp
      rcases List.mem_append.mp hp' with h | h
      · exact hw.ln p h
      · simp only [List.mem_cons, List.not_mem_nil, or_false] at h
        rcases h with rfl | rfl
        · exact l1
        · exact l2
    refine ⟨_, rfl, _, rfl, iteF ?_⟩
    refine ⟨_, rfl, CB, mc, .int 8, _, rfl, rC, vM, _, _, rfl, rfl, _, rfl, ?_⟩
    rw [show decide ((8 : Int) < 1 + ((i : Nat) : Int)) = false from decide_eq_false (by omega)]
    refine iteF ?_
    have gl5 := s5 _ _ gl3
    have prl : pr ≠ pl := ne_of_none gr2 npl
    have nep : pn ≠ pl := fun z => by
      rw [z, gl3] at npn
      cases npn
    refine ⟨_, rfl, .inl ⟨rfl, _, SqL.of gl5⟩, _, rfl, pl, _, _, rfl, rfl, gl5, ?_, ?_⟩
    · rw [List.length_map]
      have e4 := congrArg List.length e3
      rw [List.length_map, List.length_take] at e4
      exact sz1 (by omega)
    refine ⟨_, _, ls ++ [(pn, w)], rfl, fun z o hz => (upd_ne (ne_of_none hz npl0)).trans (s5 _ _ (s3 _ _ hz)), (upd_ne prl).trans (s5 _ _ gr3), ?_, fun r hr => ?_, ?_⟩
    · rw [upd_same, List.map_append]
      rfl
    · rcases List.mem_append.mp hr with h | h
      · have h3 := at3 r h
        have hne : r.1 ≠ pl := fun z => by
          rw [z, gl3] at h3
          cases h3
        exact (upd_ne hne).trans (s5 _ _ h3)
      · rw [List.mem_singleton.mp h]
        exact (upd_ne nep).trans hpn
    · rw [List.map_append, e3, List.take_add_one, hiw]
      rfl
  · rintro σ H3 ⟨y6, y7, ls, rfl, s3, gr3, gl3, at3, e3⟩
    rw [List.take_of_length_le (Nat.le_refl _)] at e3
    have hls : ls.length ≤ 8 := by
      have e4 := congrArg List.length e3
      rw [List.length_map] at e4
      omega
    refine ⟨_, rfl, _, rfl, _, rfl, pl, _, rfl, .inr (SqL.of gl3), fun x dx nx ndx hne => ?_⟩
    have nx0 : H x = none := by
      cases z : H x with
      | none => rfl
      | some o =>
        rw [s3 _ _ z] at nx
        cases nx
    have hxm : (upd (upd H3 dx (.own x)) x (.ins CB dx [])) x = some (.ins CB dx []) := upd_same
    have sm : Same H3 (upd (upd H3 dx (.own x)) x (.ins CB dx [])) := fun z o hz => (upd_ne (ne_of_none hz nx)).trans ((upd_ne (ne_of_none hz ndx)).trans hz)
    refine ⟨[.ref x, .str (S fs), .str (S cs)], ls.map fun r => V.ref r.1, by rw [List.append_nil]; rfl, rfl, ?_, fun tl ntl => ?_⟩
    · rw [List.length_map]
      exact Nat.le_trans hls (by decide)
    have htx : tl ≠ x := fun z => by
      rw [z, hxm] at ntl
      cases ntl
    have st := same_upd (o := HO.tup (ls.map fun r => V.ref r.1)) ntl
    have lat : ∀ r ∈ ls, LineOk r fs cs := fun r hr => by
      have hm : r.2 ∈ ws := by
        rw [← e3]
        exact List.mem_map.mpr ⟨r, hr, rfl⟩
      exact ⟨(hws _ hm).ln, (hws _ hm).ok⟩
    refine ⟨x, CB, dx, tl, fs, cs, ls, rfl, st _ _ hxm, hC, nf, nc, nl, b1, b2, l1, l2, upd_same, ⟨fun r hr => st _ _ (sm _ _ (at3 r hr)), lat, hls⟩, fun H' s' => ⟨rfl, ?_⟩⟩
    have far : ∀ z o, z ≠ x → (upd (upd (upd H3 dx (.own x)) x (.ins CB dx [])) tl (.tup (ls.map fun r => V.ref r.1))) z = some o → (upd H' x (.ins CB dx (bookF fs cs tl))) z = some o := fun z o n h => (upd_ne n).trans (s' _ _ h)
    refine q _ x dx tl ls (fun z o hz => far z o (ne_of_none hz nx0) (st _ _ (sm _ _ (s3 _ _ hz)))) nx0 upd_same (far _ _ htx upd_same) ⟨fun r hr => far _ _ (fun z => ?_) (st _ _ (sm _ _ (at3 r hr))), lat, hls⟩ e3
    have h3 := at3 r hr
    rw [z, nx] at h3
    cases h3
end
end FW
namespace FW
open PySem PySem.Spec PyProof.Rows L2
/-! ### methods and static methods by their names -/
structure MCal (P : Program) (w : World) (K : PySem.W.Frag) (mg : Str → Option Value) (base : Heap) (CX : CXT) (C : Addr) (k : Nat) (m : Str) (ps : List Str) (sp : Sp) : Prop where
  ex : ∃ (f : Addr) (fd : FuncData), Meth K C m f ∧ FnOk P w K mg base CX k f fd ps sp ∧ L2.Binds K fd ps []
structure SCal (P : Program) (w : World) (K : PySem.W.Frag) (mg : Str → Option Value) (base : Heap) (CX : CXT) (x : Str) (C : Addr) (k : Nat) (m : Str) (st : Stmt) (ps : List Str) (sp : Sp) : Prop where
  g : mg x = some (.ref C)
  ex : ∃ (f : Addr) (fd : FuncData) (q : Str), Sta K C m f ∧ FnOk P w K mg base CX k f fd ps sp ∧ L2.Binds K fd ps [] ∧ Fun K m q st f fd
section
variable {X : Cx} {k j : Nat} {C : Addr} {x m : Str} {st : Stmt} {ps ks : List Str} {sp : Sp} {o e : Expr} {es : List Expr} {kws : List Keyword} {apos pos p1 : Pos} {ta : TE} {t tk : TA} {CX : CXT} {E : XK} {g : List Value → List Value → List Value} {gV : List V → List V → List V}
theorem pe_mx {pl : Sem Bool} (c : MCal X.prog X.w X.K X.mg X.base CX C k m ps sp) (hC : Cls X.K C) (hr : Room j X.A) (hk : k ≤ j) (hx : Passes CX X E) (he : PE X o ta) (ha : PA X (e :: es) t)
    (hst : starEach (e :: es) X.env = (false, eval e X.env) :: starEach es X.env := by rfl) (hpl : (backTo pos (starEach es X.env)).any (·.1) = false := by rfl)
    (ht : eval (.Call (.Attribute o m apos) (e :: es) [] pos) X.env = (do
      let ov ← eval o X.env
      standAt apos.atName
      let (f, first) ← holding [ov] (getMethod ov m pl)
      callWith pos f first (backTo pos (starEach (e :: es) X.env)) (backToKw pos (keywordEach [] X.env))) := by rfl) :
    PE X (.Call (.Attribute o m apos) (e :: es) [] pos) (tMeth C m sp [] E ta t) := by
  obtain ⟨f, fd, M, F, b⟩ := c.ex
  exact pe_meth he hC M F (hr.mono hk) b .nil hx ha hst hpl ht
theorem pe_mx0 {pl : Sem Bool} (c : MCal X.prog X.w X.K X.mg X.base CX C k m ps sp) (hC : Cls X.K C) (hr : Room j X.A) (hk : k ≤ j) (hx : Passes CX X E) (he : PE X o ta)
    (ht : eval (.Call (.Attribute o m apos) [] [] pos) X.env = (do
      let ov ← eval o X.env
      standAt apos.atName
      let (f, first) ← holding [ov] (getMethod ov m pl)
      callWith pos f first (backTo pos (starEach [] X.env)) (backToKw pos (keywordEach [] X.env))) := by rfl) :
    PE X (.Call (.Attribute o m apos) [] [] pos) (tMeth C m sp [] E ta tNil) := by
  obtain ⟨f, fd, M, F, b⟩ := c.ex
  exact pe_meth0 he hC M F (hr.mono hk) b .nil hx ht
theorem pe_m {pl : Sem Bool} (c : MCal X.prog X.w X.K X.mg X.base CX0 C k m ps sp) (hC : Cls X.K C) (hr : Room j X.A) (hk : k ≤ j) (he : PE X o ta) (ha : PA X (e :: es) t)
    (hst : starEach (e :: es) X.env = (false, eval e X.env) :: starEach es X.env := by rfl) (hpl : (backTo pos (starEach es X.env)).any (·.1) = false := by rfl)
    (ht : eval (.Call (.Attribute o m apos) (e :: es) [] pos) X.env = (do
      let ov ← eval o X.env
      standAt apos.atName
      let (f, first) ← holding [ov] (getMethod ov m pl)
      callWith pos f first (backTo pos (starEach (e :: es) X.env)) (backToKw pos (keywordEach [] X.env))) := by rfl) :
    PE X (.Call (.Attribute o m apos) (e :: es) [] pos) (tMeth C m sp [] E0 ta t) := pe_mx c hC hr hk pass0 he ha hst hpl ht
theorem pe_m0 {pl : Sem Bool} (c : MCal X.prog X.w X.K X.mg X.base CX0 C k m ps sp) (hC : Cls X.K C) (hr : Room j X.A) (hk : k ≤ j) (he : PE X o ta)
    (ht : eval (.Call (.Attribute o m apos) [] [] pos) X.env = (do
      let ov ← eval o X.env
      standAt apos.atName
      let (f, first) ← holding [ov] (getMethod ov m pl)
      callWith pos f first (backTo pos (starEach [] X.env)) (backToKw pos (keywordEach [] X.env))) := by rfl) :
    PE X (.Call (.Attribute o m apos) [] [] pos) (tMeth C m sp [] E0 ta tNil) := pe_mx0 c hC hr hk pass0 he ht
theorem pe_s {pl : Sem Bool} (c : SCal X.prog X.w X.K X.mg X.base CX0 x C k m st ps sp) (hr : Room j X.A) (hk : k ≤ j) (hg : Gl X x) (ha : PA X (e :: es) t)
    (hdb : (x == ("__debug__" : Str)) = false := by decide)
    (hc : eval (.Call (.Attribute (.Name x p1) m apos) (e :: es) [] pos) X.env = (do
      let oc ← eval (.Name x p1) X.env
      standAt apos.atName
      let (fc, fst) ← holding [oc] (getMethod oc m pl)
      callWith pos fc fst (backTo pos (starEach (e :: es) X.env)) (backToKw pos (keywordEach [] X.env))) := by rfl)
    (he : starEach (e :: es) X.env = (false, eval e X.env) :: starEach es X.env := by rfl) (hpl : (backTo pos (starEach es X.env)).any (·.1) = false := by rfl) :
    PE X (.Call (.Attribute (.Name x p1) m apos) (e :: es) [] pos) (tCall sp [] E0 t) := by
  obtain ⟨f, fd, q, S, F, b, _⟩ := c.ex
  exact pe_static hg c.g S F (hr.mono hk) b .nil pass0 ha hdb hc he hpl
theorem pe_sk0 {pl : Sem Bool} (c : SCal X.prog X.w X.K X.mg X.base CX0 x C k m st ps sp) (hb : ∀ f fd q, Fun X.K m q st f fd → KBinds X.K fd ps ks g gV) (hr : Room j X.A) (hk : k ≤ j) (hg : Gl X x) (hkw : PK X kws tk)
    (hall : (backToKw pos (keywordEach kws X.env)).all (·.1.isSome) = true := by rfl) (hks : (backToKw pos (keywordEach kws X.env)).filterMap (·.1) = ks := by rfl)
    (hdb : (x == ("__debug__" : Str)) = false := by decide)
    (hc : eval (.Call (.Attribute (.Name x p1) m apos) [] kws pos) X.env = (do
      let oc ← eval (.Name x p1) X.env
      standAt apos.atName
      let (fc, fst) ← holding [oc] (getMethod oc m pl)
      callWith pos fc fst (backTo pos (starEach [] X.env)) (backToKw pos (keywordEach kws X.env))) := by rfl)
    (hpl : ((backTo pos (starEach [] X.env)).any (·.1) || (backToKw pos (keywordEach kws X.env)).any (·.1.isNone)) = false := by rfl) :
    PE X (.Call (.Attribute (.Name x p1) m apos) [] kws pos) (tCallK sp gV E0 tNil tk) := by
  obtain ⟨f, fd, q, S, F, b, fn⟩ := c.ex
  exact pe_staticK0 hg c.g S F (hr.mono hk) (hb f fd q fn) pass0 hkw hall hks hdb hc hpl
theorem kbs_one {K : PySem.W.Frag} {x p1 : Str} {st : Stmt}
    (h : ∀ (q : Str) (kV doc pm : Value) (an : Option Addr) (cdv ct : Value) (u : Value), bindArgs (PySem.W.fnOf x q (defArgs st) (defBody st) (defScope st) .none kV doc pm an cdv ct) ⟨[], [(p1, u)]⟩ = pure [(p1, u)]) :
    ∀ f fd q, Fun K x q st f fd → KBinds K fd [p1] [p1] one1 one1 := by
  intro f fd q F
  obtain ⟨oc, od, kV, doc, pm, an, cdv, ct, osl, rfl, lk, hcd⟩ := F.ex
  refine ⟨fun s us ws _ hl => ?_, fun r q => one1_vals r q⟩
  match us, ws, hl with
  | [], [u], _ => exact .of_eq (h q kV doc pm an cdv ct u)
  | [], [], hl => exact absurd (show 0 = 1 from hl) (by decide)
  | [], _ :: _ :: _, hl => exact absurd (show 0 = 1 from hl) (by decide)
  | _ :: _, ws, hl => exact absurd (show 0 = 1 from hl) (by decide)
structure OwnE (P : Program) (w : World) (K : PySem.W.Frag) (mg : Str → Option Value) (base : Heap) (C : Addr) (k : Nat) (sp : Sp) : Prop where
  ex : ∃ f : Addr, PySem.W.findIn K (.ref C) "__eq__" = some (some (.ref f)) ∧ PySem.W.isFn K (.ref f) = true ∧ FnR P w K mg base CX0 k f sp
  ne : PySem.W.findIn K (.ref C) "__ne__" = some (some (.builtin "object.__ne__"))
  ob : PySem.W.mroIn K C (.type "object") = some true
  nf : PySem.W.notFirst K C (.ref C) = true
theorem op_eqO (o : OwnE X.prog X.w X.K X.mg X.base C k sp) (hr : Room j X.A) (hk : k ≤ j) : OpR X (compareOp .Eq) (rOwnI X.K C sp E0 false) := by
  obtain ⟨f, h1, h2, F⟩ := o.ex
  exact op_eqI h1 h2 F (hr.mono hk) pass0
theorem op_neO (o : OwnE X.prog X.w X.K X.mg X.base C k sp) (hr : Room j X.A) (hk : k + 1 ≤ j) : OpR X (compareOp .NotEq) (rOwnI X.K C sp E0 true) := by
  obtain ⟨f, h1, h2, F⟩ := o.ex
  exact op_neI h1 h2 o.ne o.ob F (hr.mono hk) pass0
end
end FW
namespace FW
open PySem PySem.Spec PyProof.Rows L2
/-! ### sorted: pairs of texts -/
abbrev cl (x : Str) : List Nat := x.cps.toList
def lexS (p q : Str × Str) : Bool := if p.1 = q.1 then decide (cl p.2 < cl q.2) else decide (cl p.1 < cl q.1)
theorem cl_inj {x y : Str} (h : cl x = cl y) : x = y := by
  obtain ⟨⟨a⟩⟩ := x
  obtain ⟨⟨b⟩⟩ := y
  have : a = b := h
  rw [this]
theorem lexS_iff {p q : Str × Str} : lexS p q = true ↔ cl p.1 < cl q.1 ∨ (cl p.1 = cl q.1 ∧ cl p.2 < cl q.2) := by
  unfold lexS
  by_cases e : p.1 = q.1
  · rw [if_pos e, decide_eq_true_eq, e]
    exact ⟨fun h => .inr ⟨rfl, h⟩, fun h => h.elim (fun z => absurd z (List.lt_irrefl _)) (·.2)⟩
  · rw [if_neg e, decide_eq_true_eq]
    exact ⟨.inl, fun h => h.elim id fun z => absurd (cl_inj z.1) e⟩
theorem lexS_no {p q : Str × Str} : lexS p q = false ↔ ¬ (cl p.1 < cl q.1 ∨ (cl p.1 = cl q.1 ∧ cl p.2 < cl q.2)) := by
  rw [← lexS_iff]
  cases lexS p q <;> simp
theorem lt_or {a b : List Nat} (h : ¬ a < b) : b < a ∨ a = b := by
  by_cases e : a = b
  · exact .inr e
  · refine .inl ?_
    have h1 : b ≤ a := h
    rcases Classical.em (b < a) with z | z
    · exact z
    · exact absurd (List.le_antisymm (show a ≤ b from z) h1) e
theorem swo_S {α : Type} (k : α → Str × Str) : SrtO.Swo fun v u => lexS (k v) (k u) := by
  refine ⟨fun x y h => ?_, fun x y z h1 h2 => ?_⟩
  · have a := lexS_iff.mp h
    refine lexS_no.mpr fun b => ?_
    rcases a with a | ⟨e, a⟩
    · rcases b with b | ⟨e, b⟩
      · exact List.lt_irrefl _ (List.lt_trans a b)
      · rw [e] at a
        exact List.lt_irrefl _ a
    · rcases b with b | ⟨_, b⟩
      · rw [e] at b
        exact List.lt_irrefl _ b
      · exact List.lt_irrefl _ (List.lt_trans a b)
  · have a := lexS_no.mp h1
    have b := lexS_no.mp h2
    refine lexS_no.mpr fun c => ?_
    simp only [not_or, not_and] at a b
    rcases c with c | ⟨e, c⟩
    · rcases lt_or a.1 with a1 | a1
      · rcases lt_or b.1 with b1 | b1
        · exact List.lt_irrefl _ (List.lt_trans (List.lt_trans c a1) b1)
        · have c2 := List.lt_trans c a1
          rw [b1] at c2
          exact List.lt_irrefl _ c2
      · rw [← a1] at c
        exact b.1 c
    · rcases lt_or a.1 with a1 | a1
      · rcases lt_or b.1 with b1 | b1
        · rw [e] at b1
          exact List.lt_irrefl _ (List.lt_trans a1 b1)
        · rw [← b1, e] at a1
          exact List.lt_irrefl _ a1
      · have b0 : cl (k z).1 = cl (k y).1 := e.trans a1.symm
        rcases lt_or (a.2 a1) with a2 | a2
        · rcases lt_or (b.2 b0) with b2 | b2
          · exact List.lt_irrefl _ (List.lt_trans (List.lt_trans c a2) b2)
          · rw [b2] at c
            exact List.lt_irrefl _ (List.lt_trans a2 c)
        · rw [← a2] at c
          exact b.2 b0 c
def IsPairS (h : Heap) (v : Value) (x y : Str) : Prop := ∃ a o t u n, v = .ref a ∧ h.get? a = some o ∧ o.cls = .type "tuple" ∧ o.data = .seq #[.str x t, .str y u] n
theorem IsPairS.keeps {h h' : Heap} {v : Value} {x y : Str} (p : IsPairS h v x y) (k : ∀ b o, h.get? b = some o → o.cls = .type "tuple" → h'.get? b = some o) : IsPairS h' v x y := by
  obtain ⟨a, o, t, u, n, e, ho, hc, hd⟩ := p
  exact ⟨a, o, t, u, n, e, k _ _ ho hc, hc, hd⟩
theorem firsts_S {h : Heap} : ∀ {vs : List Value}, (∀ v ∈ vs, ∃ x y, IsPairS h v x y) → ∃ fs : List Value, PySem.W.KatTups h vs fs ∧ fs.length = vs.length ∧ ∀ f ∈ fs, ∃ x t, f = Value.str x t
  | [], _ => ⟨[], PySem.W.KatTups.nil, rfl, fun _ hm => by simp at hm⟩
  | v :: vs, x => by
    obtain ⟨fs, k, hl, hi⟩ := firsts_S (vs := vs) fun u hu => x u (List.mem_cons_of_mem _ hu)
    obtain ⟨z, y, a, o, t, u, n, rfl, ho, hc, hd⟩ := x v (List.mem_cons_self ..)
    refine ⟨.str z t :: fs, PySem.W.KatTups.cons ho hc hd rfl k, by rw [List.length_cons, List.length_cons, hl], fun f hf => ?_⟩
    rcases List.mem_cons.mp hf with rfl | hf
    · exact ⟨z, t, rfl⟩
    · exact hi f hf
section
variable {prog : Program} {w : World} {A : Around} {E : Value → Shared → Prop} {s : Shared}
open SrtO
theorem pair_cmpS {vs : List Value} {k : Value → Str × Str} (hp : ∀ v ∈ vs, IsPairS s.heap v (k v).1 (k v).2) : Cmp prog w A s (tuples' true) (fun p => p.1 ∈ vs) (lt2 fun v u => lexS (k v) (k u)) := by
  intro p q hm hm'
  have h1 := hp _ hm
  have h2 := hp _ hm'
  show wpAny (model prog w) A (keyLt' (tuples' true) p.1 q.1) (fun r s' => s' = s ∧ r = lexS (k p.1) (k q.1)) (fun _ _ => False) s
  unfold lexS
  generalize (k p.1).1 = x at h1 ⊢
  generalize (k p.1).2 = y at h1 ⊢
  generalize (k q.1).1 = x' at h2 ⊢
  generalize (k q.1).2 = y' at h2 ⊢
  obtain ⟨a, o, t, u, n, e, ho, hc, hd⟩ := h1
  obtain ⟨a', o', t', u', n', e', ho', hc', hd'⟩ := h2
  rw [e, e']
  refine PySem.W.kat_lt ho hd ho' hd' ?_
  show PySem.W.KatLex prog w A true (decide (2 < 2)) _ [(.str x t, .str x' t'), (.str y u, .str y' u')] 0 s
  refine PySem.W.kat_cons (SeqAt.EqAt.str_str x t x' t' prog w _ _ ?_)
  refine PySem.W.kat_go (fun e1 => ?_) (fun e1 => ?_)
  · have ex : x = x' := by simpa using e1
    refine PySem.W.kat_yes (PySem.W.kat_cons (SeqAt.EqAt.str_str y u y' u' prog w _ _ ?_))
    refine PySem.W.kat_go (fun e2 => ?_) (fun e2 => ?_)
    · have ey : y = y' := by simpa using e2
      have e3 : (if x = x' then decide (cl y < cl y') else decide (cl x < cl x')) = false := by
        rw [if_pos ex, ey]
        exact decide_eq_false (List.lt_irrefl _)
      exact PySem.W.kat_yes (PySem.W.kat_nil ⟨rfl, e3.symm⟩)
    · have e3 : (if x = x' then decide (cl y < cl y') else decide (cl x < cl x')) = decide (cl y < cl y') := if_pos ex
      exact PySem.W.kat_no (PyProof.Rows.oneLt_any_str ⟨rfl, e3.symm⟩)
  · have ex : ¬ x = x' := by simpa using e1
    have e3 : (if x = x' then decide (cl y < cl y') else decide (cl x < cl x')) = decide (cl x < cl x') := if_neg ex
    exact PySem.W.kat_no (PyProof.Rows.oneLt_any_str ⟨rfl, e3.symm⟩)
theorem pairs_sortableS {a : Addr} {vs : List Value} {k : Value → Str × Str} (h0 : 0 < vs.length) (hp : ∀ v ∈ vs, IsPairS s.heap v (k v).1 (k v).2) (ha : ∀ o, s.heap.get? a = some o → o.cls ≠ .type "tuple") : SortableO prog w A s a vs fun v u => lexS (k v) (k u) := by
  intro h' keep
  have hp' : ∀ v ∈ vs, IsPairS h' v (k v).1 (k v).2 := fun v hm => (hp v hm).keeps fun b o e c => keep b o (fun z => by subst z; exact ha o e c) e
  obtain ⟨fs, h1, h2, h3⟩ := firsts_S fun v hm => ⟨_, _, hp' v hm⟩
  refine ⟨tuples' true, fun Q E hq => ?_, pair_cmpS hp'⟩
  refine PySem.W.kat_kind (T := .type "str") h1 (by omega) (fun f hm => ?_) (by rfl) ?_
  · obtain ⟨x, t, rfl⟩ := h3 f hm
    exact PySem.W.Looks.now
  · have e : (Value.type "str" != Value.type "tuple") = true := by first | decide +kernel | rfl | decide
    rw [e]
    exact hq
theorem sorted_pairsS {l : Addr} {vs : List Value} {k : Value → Str × Str} {Q : Value → Shared → Prop} (hl : s.heap.IsList l vs.toArray) (hz : vs.length ≤ sizeLine) (hp : ∀ v ∈ vs, IsPairS s.heap v (k v).1 (k v).2)
    (h : ∀ (h' : Heap) (d : Addr) (out : List Value), Srtd (fun v u => lexS (k v) (k u)) out → Stb (fun v u => lexS (k v) (k u)) out vs → (∀ b o, s.heap.get? b = some o → h'.get? b = some o) → s.heap.objs.size ≤ d → (∃ n, h'.get? d = some (seqObj "list" out.toArray n)) → Q (.ref d) { s with heap := h' }) :
    wpAny (model prog w) A (call (.builtin "sorted") [.ref l]) Q E s := by
  refine sorted_ord (swo_S k) hl hz (fun h2 h₁ a ha kk => ?_) fun out hs hb => ?_
  · refine pairs_sortableS (s := { s with heap := h₁ }) (by omega) (fun v hm => (hp v hm).keeps fun b o e _ => (kk b o e).2) fun o e => ?_
    have e' : some o = some (seqObj "list" vs.toArray 0) := e.symm.trans ha
    cases e'
    intro c
    exact absurd (Value.type.inj c) (by decide)
  · exact h _ _ out hs hb (fun b o e => sortedAll_old e) (Nat.le_succ _) (sortedAll_at s.heap vs out.toArray)
end
/-- sorted(xs), xs a list of pairs of texts (k says which) -/
def rSortedSS (K : PySem.W.Frag) : List V → Hp → VK → Prop := fun vs H Q => ∃ (a : Addr) (xs : List V) (k : V → Str × Str), vs = [V.ref a] ∧ SqL K H a xs ∧ (∀ x ∈ xs, ∃ t, x = V.ref t ∧ H t = some (.tup [.str (k x).1, .str (k x).2])) ∧
  ∀ ys p, ys.Pairwise (fun x y => lexS (k y) (k x) = false) → ys.Perm xs → H p = none → Q (.ref p) (upd H p (.lst ys))
section
variable {X : Cx}
theorem cr_sortedSS : CallR X (.builtin "sorted") (rSortedSS X.K) := by
  intro pins s σ H vs us Q I r h
  obtain ⟨a, xs, k, rfl, hs, hx, q⟩ := h
  obtain ⟨its, rv, hl, hz⟩ := I.list hs
  obtain ⟨u, rfl, ru⟩ := vals1 r
  obtain rfl : u = Value.ref a := ru
  obtain ⟨e1, e2⟩ := refs_back rv fun x m => by
    obtain ⟨t, e, _⟩ := hx x m
    exact ⟨t, e⟩
  refine sorted_pairsS (k := fun u => k (backV u)) hl.isList (by rw [← rv.length]; exact hz) (fun v hv => ?_) fun h' d out h1 h2 kp hd hn => ?_
  · obtain ⟨t, rfl⟩ := e2 v hv
    have hm : V.ref t ∈ xs := by rw [e1]; exact List.mem_map.mpr ⟨_, hv, rfl⟩
    obtain ⟨t', e, ht⟩ := hx _ hm
    cases e
    obtain ⟨_, its2, r2, o, ho, hc, n, hd⟩ := I.hok _ _ ht
    obtain ⟨u1, u2, rfl, ri, rj⟩ := vals2 r2
    obtain ⟨t1, rfl⟩ := ri
    obtain ⟨t2, rfl⟩ := rj
    exact ⟨t, o, t1, t2, n, rfl, ho, hc, hd⟩
  · have h3 : ∀ u ∈ out, ∃ a, u = Value.ref a := fun u hu => e2 u (h2.perm.mem_iff.mp hu)
    obtain ⟨n, hn⟩ := hn
    have hb : SrtO.Stb (fun x y => lexS (k x) (k y)) (out.map backV) xs := by
      rw [e1]
      exact SrtO.Stb.map (swo_S k) backV h2
    refine ⟨.ref d, upd H d (.lst (out.map backV)), I.laid (t' := s.toks) kp hd ⟨?_, out, n, vals_back h3, hn⟩, rfl, q _ d (SrtO.srtd_map (lt := fun x y => lexS (k x) (k y)) h1) hb.perm (I.hok.fresh hd)⟩
    rw [hb.len]
    exact hz
end
end FW
namespace FW
open PySem PySem.Spec PyProof.Rows L2
-- more
section
variable {P : Program} {w : World} {K : PySem.W.Frag} {mg : Str → Option Value} {base : Heap}
/-- a book as it stands -/
structure BookAt (K : PySem.W.Frag) (CB : Addr) (H : Hp) (x : Addr) (F C : List Nat) (ls : List LineV) : Prop where
  at_ : ∃ dx tl : Addr, H x = some (.ins CB dx (bookF F C tl)) ∧ H tl = some (.tup (ls.map fun r => V.ref r.1))
  lines : LinesAt H ls F C
  lens : F.length ≤ 1000 ∧ C.length ≤ 1000
  chr : (∀ c ∈ F, c < 128) ∧ ∀ c ∈ C, c < 128
theorem BookAt.same {CB : Addr} {H H' : Hp} {x : Addr} {F C : List Nat} {ls : List LineV} (s : Same H H') (b : BookAt K CB H x F C ls) : BookAt K CB H' x F C ls := by
  obtain ⟨dx, tl, h1, h2⟩ := b.at_
  exact ⟨⟨dx, tl, s _ _ h1, s _ _ h2⟩, b.lines.same s, b.lens, b.chr⟩
/-- what a class of books has -/
structure BookC (K : PySem.W.Frag) (CB : Addr) : Prop where
  c : Cls K CB
  nf : NoAttr K CB "faces"
  nc : NoAttr K CB "cutters"
  nl : NoAttr K CB "_lines"
theorem part_chr {p L : List Nat} (h : bPart (.str (S p)) L = true) (hL : ∀ c ∈ L, c < 128) : ∀ c ∈ p, c < 128 := by
  unfold bPart at h
  rcases Bool.or_eq_true_iff.mp h with h | h
  · have h' : (true && decide (p.length = 1) && decide (p.getD 0 0 ∈ [46])) = true := h
    simp only [Bool.true_and, Bool.and_eq_true, decide_eq_true_eq] at h'
    match p, h'.1 with
    | [x], _ =>
      intro c hc
      have e : x = 46 := List.mem_singleton.mp h'.2
      rw [List.mem_singleton.mp hc, e]
      decide
  · have h' : (true && (decide ((1 : Int) ≤ (p.length : Int)) && decide ((p.length : Int) ≤ (L.length : Int))) && (p.all fun c => decide (c ∈ L)) && ascB p) = true := h
    simp only [Bool.true_and, Bool.and_eq_true] at h'
    intro c hc
    exact hL c (of_decide_eq_true (List.all_eq_true.mp h'.1.2 c hc))
theorem cut_chr {u F : List Nat} (h : (decide (V.str (S u) = V.str "") || bCut (.str (S u)) (S F)) = true) (hF : ∀ c ∈ F, c < 128) : ∀ c ∈ u, c < 128 := by
  rcases Bool.or_eq_true_iff.mp h with h | h
  · have z2 := congrArg (fun z : Str => z.cps.toList) (V.str.inj (of_decide_eq_true h))
    have z3 : u = [] := z2
    rw [z3]
    intro c hc
    cases hc
  · rw [bCut_S] at h
    simp only [Bool.and_eq_true, decide_eq_true_eq] at h
    obtain ⟨⟨h1, h2⟩, h3⟩ := h
    match u, h1 with
    | [g, x, y], _ =>
      intro c hc
      rcases List.mem_cons.mp hc with rfl | hc
      · have : c ∈ [124, 45] := h2
        simp only [List.mem_cons, List.not_mem_nil, or_false] at this
        omega
      · exact hF c (of_decide_eq_true (List.all_eq_true.mp h3 c hc))
theorem LineOk.chr {r : LineV} {F C : List Nat} (h : LineOk r F C) (hF : ∀ c ∈ F, c < 128) (hC : ∀ c ∈ C, c < 128) : ∀ p ∈ w6L r.2, ∀ c ∈ p, c < 128 := by
  have ok := h.ok
  unfold bLine at ok
  simp only [Bool.and_eq_true, List.all_eq_true] at ok
  obtain ⟨⟨h1, h2⟩, h3⟩ := ok
  intro p hp
  simp only [w6L, List.mem_cons, List.not_mem_nil, or_false] at hp
  rcases hp with rfl | rfl | rfl | rfl | rfl | rfl
  · exact part_chr (h1 _ (by simp)) hF
  · exact part_chr (h1 _ (by simp)) hF
  · exact part_chr (h1 _ (by simp)) hF
  · exact part_chr (h1 _ (by simp)) hF
  · exact part_chr h2 hC
  · exact cut_chr h3 hF
def decL : DecidableEq (List Nat) := inferInstance
def decP {α : Type} (d : DecidableEq α) : DecidableEq (List Nat × α) := @instDecidableEqProd _ _ decL d
instance instW6 : DecidableEq W6 := decP (decP (decP (decP (decP decL))))
/-- what stands in lines, without where -/
def wsOf (ls : List LineV) : List W6 := ls.map (·.2)
/-- a line as data -/
def dLine (w : W6) : PyData := .tuple ((w6L w).map fun p => .str (S p))
theorem chr_ok {p : List Nat} (h : ∀ c ∈ p, c < 128) : PyData.strOk (S p) = true := by
  show (p.toArray.all fun c => decide (c < 0x110000)) = true
  rw [Array.all_eq_true_iff_forall_mem]
  intro c hc
  have := h c (by simpa using hc)
  exact decide_eq_true (by omega)
theorem lay_line {r : LineV} {F C : List Nat} (h : LineOk r F C) (hF : ∀ c ∈ F, c < 128) (hC : ∀ c ∈ C, c < 128) : Lay 1 (dLine r.2) := by
  refine .tup fun d hd => ?_
  obtain ⟨p, hp, rfl⟩ := List.mem_map.mp hd
  exact .str (chr_ok (h.chr hF hC p hp))
theorem eqv_line (a b : W6) : PyData.eqv (dLine a) (dLine b) = decide (a = b) := by
  unfold dLine
  rw [eqv_tupS]
  refine decide_eq_decide.mpr ⟨fun e => ?_, fun e => by rw [e]⟩
  obtain ⟨a1, a2, a3, a4, a5, a6⟩ := a
  obtain ⟨b1, b2, b3, b4, b5, b6⟩ := b
  simp only [w6L, List.cons.injEq, and_true] at e
  obtain ⟨rfl, rfl, rfl, rfl, rfl, rfl⟩ := e
  rfl
theorem dp_line {H : Hp} {r : LineV} (h : H r.1 = some r.tup) : Dp K H (.ref r.1) (dLine r.2) := .tup (SqT.of h) (.cons (.str _) (.cons (.str _) (.cons (.str _) (.cons (.str _) (.cons (.str _) (.cons (.str _) .nil))))))
theorem dp_lines {H : Hp} : ∀ {ls : List LineV}, (∀ r ∈ ls, H r.1 = some r.tup) → DpAll K H (ls.map fun r => V.ref r.1) (ls.map fun r => dLine r.2)
  | [], _ => .nil
  | r :: ls, h => .cons (dp_line (h r List.mem_cons_self)) (dp_lines fun x hx => h x (List.mem_cons_of_mem _ hx))
theorem deep_line (n : Nat) (w : W6) : Deep (n + 1) (dLine w) := by
  unfold dLine Deep
  refine ⟨by simp [w6L], fun d hd => ?_⟩
  obtain ⟨p, hp, rfl⟩ := List.mem_map.mp hd
  unfold Deep
  trivial
theorem deep_lines {n : Nat} {ls : List LineV} (h : ls.length ≤ 1000) : ∀ d ∈ ls.map fun r => dLine r.2, Deep (n + 1) d := fun d hd => by
  obtain ⟨r, _, rfl⟩ := List.mem_map.mp hd
  exact deep_line n r.2
abbrev s__law_some_line : Stmt := topS 45
theorem sc__law_some_line : FnScope ["_law_bag", "_law_faces", "_law_cutters", "_law_cut", "_law_parts", "_law_k"] ["_law_bag", "_law_faces", "_law_cutters"] (defScope s__law_some_line) := ⟨rfl, rfl, rfl, by decide +kernel, rfl, by decide +kernel, by decide +kernel⟩
/-- a drawn cut, or none -/
def CutR (u F : List Nat) : Prop := u = [] ∨ ∃ g x y, u = [g, x, y] ∧ (g = 124 ∨ g = 45) ∧ x ∈ F ∧ y ∈ F
/-- a drawn line -/
structure LineR (w : W6) (F C : List Nat) : Prop where
  a : PartR w.1 F
  b : PartR w.2.1 F
  c : PartR w.2.2.1 F
  d : PartR w.2.2.2.1 F
  e : PartR w.2.2.2.2.1 C
  u : CutR w.2.2.2.2.2 F
def w6T (w : W6) : HO := .tup ((w6L w).map fun p => V.str (S p))
def sp__law_some_line (K : PySem.W.Frag) : Sp := fun vs H Q _ => ∃ (b lb : Addr) (F C : List Nat), vs = [.ref b, .str (S F), .str (S C)] ∧ Bag H b lb ∧ 0 < F.length ∧ F.length ≤ 100 ∧ C.length ≤ 100 ∧
  ∀ H' p w, LineR w F C → But b H H' → Bag H' b lb → H p = none → H' p = some (w6T w) → Q (.ref p) H'
theorem ok__law_some_line {f : Addr} {fd : FuncData} (F : Fun K "_law_some_line" "_law_some_line" s__law_some_line f fd) (T : Z mg) (c__law_draw : Cal P w K mg base CX0 1 "_law_draw" s__law_draw ["_law_bag", "_law_many"] (sp__law_draw K))
    (c__law_part : Cal P w K mg base CX0 2 "_law_part" s__law_part ["_law_bag", "_law_letters_here"] (sp__law_part K)) (c__law_some_cut : Cal P w K mg base CX0 3 "_law_some_cut" s__law_some_cut ["_law_bag", "_law_faces"] (sp__law_some_cut K)) : FnOk P w K mg base CX0 4 f fd ["_law_bag", "_law_faces", "_law_cutters"] (sp__law_some_line K) := by
  refine F.ok sc__law_some_line (fun vs H Q E h => ?_) (fun cdv A outer s H vs Q E hr h => ?_)
  · obtain ⟨b, lb, F, C, rfl, _⟩ := h
    rfl
  obtain ⟨b, lb, F, C, rfl, B, hF0, hF, hC, q⟩ := h
  refine ⟨_, (pss_cons (ps_set (i := 3) sc__law_some_line.nd rfl (.inl rfl) (pe_as (pe_ifExp (pt_cmpR op_gt (pe_c c__law_draw hr (by decide) (by rfl) (pa_cons (pv 0) (pa_cons pe_int pa_nil))) pe_int (nomark _)) (pe_c c__law_some_cut hr (by decide) (by rfl) (pa_cons (pv 0) (pa_cons (pv 1) pa_nil))) pe_str)))
      (pss_cons (ps_setLc (i := 4) (own := [("_law_k", 5)]) (g := (gName 5)) (by rfl) sc__law_some_line.nd rfl rfl (sw_true rfl rfl rfl (by decide +kernel)) (pi_range1 (by rfl) T.z_range (pa_cons pe_int pa_nil)) (blkOk_by (N := ["_law_bag", "_law_faces", "_law_cutters", "_law_cut", "_law_parts", "_law_k"]) (sc := defScope s__law_some_line) (by decide +kernel)) (fun _ _ _ _ _ => (pg_name (i := 5) sc__law_some_line.nd rfl (.inl rfl))) (fun _ _ _ _ _ => pts_nil) (fun _ _ _ _ _ => (pe_as (pe_ifExp (pt_cmpR op_eq (pe_c c__law_draw hr (by decide) (by rfl) (pa_cons (pv 0) (pa_cons pe_int pa_nil))) pe_int (nomark _)) (pe_c c__law_part hr (by decide) (by rfl) (pa_cons (pv 0) (pa_cons (pv 1) pa_nil))) pe_str))))
      (pss_one (ps_ret (pe_tup (pa_cons (pe_ix ix_list (pv 4) pe_int (fun _ _ => rfl)) (pa_cons (pe_ix ix_list (pv 4) pe_int (fun _ _ => rfl)) (pa_cons (pe_ix ix_list (pv 4) pe_int (fun _ _ => rfl)) (pa_cons (pe_ix ix_list (pv 4) pe_int (fun _ _ => rfl)) (pa_cons (pe_c c__law_part hr (by decide) (by rfl) (pa_cons (pv 0) (pa_cons (pv 2) pa_nil))) (pa_cons (pv 3) pa_nil))))))))))), ?_⟩
  refine ⟨fun v H1 => ∃ u, v = .str (S u) ∧ CutR u F ∧ But b H H1 ∧ Bag H1 b lb, ?_, ?_⟩
  · refine ⟨_, rfl, b, lb, _, rfl, B, by decide, by decide, fun H1 z z0 z1 b1 B1 => ⟨_, _, rfl, rfl, _, rfl, ite_dec (fun _ => ?_) (fun _ => ⟨[], rfl, .inl rfl, b1, B1⟩)⟩⟩
    exact ⟨_, rfl, _, rfl, b, lb, F, rfl, B1, hF0, hF, fun H2 g x y hg hx hy b2 B2 => ⟨[g, x, y], rfl, .inr ⟨g, x, y, rfl, hg, hx, hy⟩, b1.trans b2, B2⟩⟩
  rintro _ H1 ⟨u, rfl, hu, b1, B1⟩
  refine ⟨_, rfl, by decide, by decide, fun D hD => ?_⟩
  have nDb : D ≠ b := B1.ne hD
  have nDl : D ≠ lb := B1.ne2 hD
  have nD : ∀ a o, H1 a = some o → a ≠ D := fun a o e => ne_of_none e hD
  refine lc_range (n := 4) (fun i H' => ∃ rs : List (List Nat), rs.length = i ∧ (∀ r ∈ rs, PartR r F) ∧ H' D = some (.lst (rs.map fun r => V.str (S r))) ∧ Bag H' b lb ∧ But b H1 H') ⟨[], rfl, (by simp), upd_same, B1.same (same_upd hD), (same_upd hD).but⟩ ?_ ?_
  · rintro i H' hi ⟨rs, hl, hr', hDD, B', ho⟩
    refine ⟨rfl, ?_⟩
    refine ⟨fun v H2 => ∃ r, v = .str (S r) ∧ PartR r F ∧ But b H' H2 ∧ Bag H2 b lb, ?_, ?_⟩
    · refine ⟨_, rfl, b, lb, _, rfl, B', by decide, by decide, fun H2 z z0 z1 b2 B2 => ⟨rfl, _, rfl, ite_dec (fun _ => ?_) (fun _ => ⟨[46], rfl, .inl rfl, b2, B2⟩)⟩⟩
      exact ⟨_, rfl, _, rfl, b, lb, F, rfl, B2, hF, fun H3 r hr3 b3 B3 => ⟨r, rfl, hr3, b2.trans b3, B3⟩⟩
    rintro _ H2 ⟨r, rfl, hr3, b2, B2⟩
    refine ⟨_, b2 _ _ nDb hDD, by rw [List.length_map]; exact sz1 (by omega), rs ++ [r], by rw [List.length_append, hl]; rfl, ?_, ?_, B2.upd nDb nDl, fun a o n e => ?_⟩
    · intro x hx
      rcases List.mem_append.mp hx with e | e
      · exact hr' x e
      · rw [List.mem_singleton.mp e]
        exact hr3
    · rw [upd_same, List.map_append]
      rfl
    · rw [upd_ne (nD a o e)]
      exact b2 _ _ n (ho a o n e)
  · rintro H' ⟨rs, hl, hr', hDD, B', ho⟩
    obtain ⟨r1, r2, r3, r4, rfl⟩ : ∃ a b c d, rs = [a, b, c, d] := by
      match rs, hl with
      | [a, b, c, d], _ => exact ⟨a, b, c, d, rfl⟩
    have hS := SqL.of (K := K) hDD
    refine ⟨_, rfl, D, _, _, _, rfl, rfl, hS, rfl, _, rfl, D, _, _, _, rfl, rfl, hS, rfl, _, rfl, D, _, _, _, rfl, rfl, hS, rfl, _, rfl, D, _, _, _, rfl, rfl, hS, rfl, _, rfl, _, rfl, b, lb, C, rfl, B', hC, fun H2 r5 hr5 b2 B2 => ?_⟩
    refine ⟨_, rfl, (show 6 ≤ sizeLine by decide), fun p np => ?_⟩
    have s2 := same_upd (o := w6T (r1, r2, r3, r4, r5, u)) np
    exact q _ p (r1, r2, r3, r4, r5, u) ⟨hr' _ (by simp), hr' _ (by simp), hr' _ (by simp), hr' _ (by simp), hr5, hu⟩ ((b1.trans (ho.trans b2)).trans s2.but) (B2.same s2) (by
      cases e : H p with
      | none => rfl
      | some o =>
        have n : p ≠ b := B2.ne np
        have := b2 _ _ n (ho _ _ n (b1 _ _ n e))
        rw [np] at this
        cases this) upd_same
abbrev s__law_some_book : Stmt := topS 46
theorem sc__law_some_book : FnScope ["_law_bag", "_law_sizes", "_law_faces", "_law_cutters", "_law_lines", "_law_k"] ["_law_bag", "_law_sizes"] (defScope s__law_some_book) := ⟨rfl, rfl, rfl, by decide +kernel, rfl, by decide +kernel, by decide +kernel⟩
/-- a told book: faces, cutters, lines; the list of them is at p, that of the lines at lp -/
structure SpecAt (H : Hp) (b p lp : Addr) (F C : List Nat) (ls : List LineV) : Prop where
  top : H p = some (.lst [.str (S F), .str (S C), .ref lp])
  rows : H lp = some (.lst (ls.map fun r => V.ref r.1))
  at_ : ∀ r ∈ ls, H r.1 = some r.tup
  pb : p ≠ b
  lb : lp ≠ b
  rb : ∀ r ∈ ls, r.1 ≠ b
theorem SpecAt.drawn {H H' : Hp} {b p lp : Addr} {F C : List Nat} {ls : List LineV} (s : SpecAt H b p lp F C ls) (q : But b H H') : SpecAt H' b p lp F C ls :=
  ⟨q _ _ s.pb s.top, q _ _ s.lb s.rows, fun r hr => q _ _ (s.rb r hr) (s.at_ r hr), s.pb, s.lb, s.rb⟩
theorem SpecAt.same {H H' : Hp} {b p lp : Addr} {F C : List Nat} {ls : List LineV} (s : SpecAt H b p lp F C ls) (q : Same H H') : SpecAt H' b p lp F C ls := s.drawn q.but
structure SpecOk (F C : List Nat) (ls : List LineV) : Prop where
  f : List.Sublist F lower
  c : List.Sublist C upper
  f0 : 0 < F.length
  c0 : 0 < C.length
  f6 : F.length ≤ 6
  c4 : C.length ≤ 4
  ls : ∀ r ∈ ls, LineR r.2 F C
theorem none_but {b p : Addr} {H H' : Hp} (n : p ≠ b) (q : But b H H') (e : H' p = none) : H p = none := by
  cases z : H p with
  | none => rfl
  | some o =>
    rw [q _ _ n z] at e
    cases e
def sp__law_some_book (K : PySem.W.Frag) : Sp := fun vs H Q _ => ∃ (b lb a : Addr) (x y z : Nat), vs = [.ref b, .ref a] ∧ Bag H b lb ∧ a ≠ b ∧ SqL K H a [.int x, .int y, .int z] ∧ 0 < x ∧ x ≤ 6 ∧ 0 < y ∧ y ≤ 4 ∧ z ≤ 1000 ∧
  ∀ H' p lp F C ls, SpecOk F C ls → F.length ≤ x → C.length ≤ y → ls.length ≤ z → But b H H' → Bag H' b lb → H p = none → H lp = none → SpecAt H' b p lp F C ls → Q (.ref p) H'
theorem ok__law_some_book {f : Addr} {fd : FuncData} (F : Fun K "_law_some_book" "_law_some_book" s__law_some_book f fd) (T : Z mg) (c__law_draw : Cal P w K mg base CX0 1 "_law_draw" s__law_draw ["_law_bag", "_law_many"] (sp__law_draw K))
    (c__law_part : Cal P w K mg base CX0 2 "_law_part" s__law_part ["_law_bag", "_law_letters_here"] (sp__law_part K)) (c__law_some_cut : Cal P w K mg base CX0 3 "_law_some_cut" s__law_some_cut ["_law_bag", "_law_faces"] (sp__law_some_cut K))
    (c__law_some_faces : Cal P w K mg base CX0 3 "_law_some_faces" s__law_some_faces ["_law_bag", "_law_most"] (sp__law_some_faces K)) (c__law_some_cutters : Cal P w K mg base CX0 3 "_law_some_cutters" s__law_some_cutters ["_law_bag", "_law_most"] (sp__law_some_cutters K))
    (c__law_some_line : Cal P w K mg base CX0 4 "_law_some_line" s__law_some_line ["_law_bag", "_law_faces", "_law_cutters"] (sp__law_some_line K)) : FnOk P w K mg base CX0 5 f fd ["_law_bag", "_law_sizes"] (sp__law_some_book K) := by
  refine F.ok sc__law_some_book (fun vs H Q E h => ?_) (fun cdv A outer s H vs Q E hr h => ?_)
  · obtain ⟨b, lb, a, x, y, z, rfl, _⟩ := h
    rfl
  obtain ⟨b, lb, a, x, y, z, rfl, B, nab, hS, x0, x6, y0, y4, z8, q⟩ := h
  refine ⟨_, (pss_cons (ps_asg (pe_tup (pa_cons (pe_c c__law_some_faces hr (by decide) (by rfl) (pa_cons (pv 0) (pa_cons (pe_ix ix_list (pv 1) pe_int (fun _ _ => rfl)) pa_nil))) (pa_cons (pe_c c__law_some_cutters hr (by decide) (by rfl) (pa_cons (pv 0) (pa_cons (pe_ix ix_list (pv 1) pe_int (fun _ _ => rfl)) pa_nil))) pa_nil))) (pg_tup rfl (pgs_cons (pg_name (i := 2) sc__law_some_book.nd rfl (.inr rfl)) (pgs_cons (pg_name (i := 3) sc__law_some_book.nd rfl (.inr rfl)) pgs_nil))))
      (pss_cons (ps_setLc (i := 4) (own := [("_law_k", 5)]) (g := (gName 5)) (by rfl) sc__law_some_book.nd rfl rfl (sw_true rfl rfl rfl (by decide +kernel)) (pi_range1 (by rfl) T.z_range (pa_cons (pe_c c__law_draw hr (by decide) (by rfl) (pa_cons (pv 0) (pa_cons (pe_op op_add (pe_ix ix_list (pv 1) pe_int (fun _ _ => rfl)) pe_int) pa_nil))) pa_nil)) (blkOk_by (N := ["_law_bag", "_law_sizes", "_law_faces", "_law_cutters", "_law_lines", "_law_k"]) (sc := defScope s__law_some_book) (by decide +kernel)) (fun _ _ _ _ _ => (pg_name (i := 5) sc__law_some_book.nd rfl (.inl rfl))) (fun _ _ _ _ _ => pts_nil) (fun _ _ _ _ _ => (pe_c c__law_some_line hr (by decide) (by rfl) (pa_cons (pv 0) (pa_cons (pv 2) (pa_cons (pv 3) pa_nil))))))
      (pss_cons (ps_as (ps_if (PW.pt (pw_and (pt_cmpR op_gt (pe_c c__law_draw hr (by decide) (by rfl) (pa_cons (pv 0) (pa_cons pe_int pa_nil))) pe_int (nomark _)) (pw_and1 (pt_cmpR op_lt (pe_callB call_len_seq (by rfl) T.z_len (by decide +kernel) (pa_cons (pv 4) pa_nil)) (pe_ix ix_list (pv 1) pe_int (fun _ _ => rfl)) (nomark _))))) (pss_one (ps_expr (pe_bm PySem.F.plainAttrs_list PySem.F.slot_list_append PySem.F.type_list_append mt_append (pv 4) (pa_cons (pe_tup (pa_cons pe_str (pa_cons pe_str (pa_cons pe_str (pa_cons pe_str (pa_cons (pe_c c__law_part hr (by decide) (by rfl) (pa_cons (pv 0) (pa_cons (pv 3) pa_nil))) (pa_cons (pe_c c__law_some_cut hr (by decide) (by rfl) (pa_cons (pv 0) (pa_cons (pv 2) pa_nil))) pa_nil))))))) pa_nil)))) pss_nil))
      (pss_one (ps_ret (pe_lst (pa_cons (pv 2) (pa_cons (pv 3) (pa_cons (pv 4) pa_nil))))))))), ?_⟩
  -- faces and cutters
  refine ⟨_, rfl, _, rfl, a, _, _, _, rfl, rfl, hS, rfl, b, lb, x, rfl, B, x0, by omega, fun H1 fs hfs hf0 hf1 b1 B1 => ?_⟩
  have hS1 := b1.seq nab hS
  refine ⟨_, rfl, _, rfl, a, _, _, _, rfl, rfl, hS1, rfl, b, lb, y, rfl, B1, y0, by omega, fun H2 cs hcs hc0 hc1 b2 B2 => ?_⟩
  refine ⟨(show 2 ≤ sizeLine by decide), fun pt npt => ⟨pt, _, rfl, SqT.of upd_same, rfl, _, _, rfl, _, _, rfl, rfl, ?_⟩⟩
  have b3 : But b H _ := (b1.trans b2).trans (same_upd (o := HO.tup [V.str (S fs), V.str (S cs)]) npt).but
  have B3 := B2.same (same_upd (o := HO.tup [V.str (S fs), V.str (S cs)]) npt)
  generalize upd H2 pt (HO.tup [V.str (S fs), V.str (S cs)]) = H3 at b3 B3
  clear b1 b2 B1 B2 npt hS1
  have hS3 := b3.seq nab hS
  -- the lines
  refine ⟨_, rfl, _, rfl, a, _, _, _, rfl, rfl, hS3, rfl, _, _, rfl, rfl, b, lb, _, rfl, B3, by omega, by omega, fun H4 n n0 n1 b4 B4 => ⟨_, rfl, by omega, by omega, fun D hD => ?_⟩⟩
  have nDb : D ≠ b := B4.ne hD
  have nDl : D ≠ lb := B4.ne2 hD
  have nD : ∀ a o, H4 a = some o → a ≠ D := fun a o e => ne_of_none e hD
  have hD0 : H D = none := none_but nDb (b3.trans b4) hD
  refine lc_range (n := n.toNat) (fun i H' => ∃ ls : List LineV, ls.length = i ∧ (∀ r ∈ ls, LineR r.2 fs cs ∧ H' r.1 = some r.tup ∧ r.1 ≠ b ∧ r.1 ≠ D) ∧ H' D = some (.lst (ls.map fun r => V.ref r.1)) ∧ Bag H' b lb ∧ But b H4 H') ⟨[], rfl, (by simp), upd_same, B4.same (same_upd hD), (same_upd hD).but⟩ ?_ ?_
  · rintro i H' hi ⟨ls, hl, hls, hDD, B', ho⟩
    refine ⟨rfl, ?_⟩
    refine ⟨_, rfl, _, rfl, _, rfl, b, lb, fs, cs, rfl, B', hf0, by omega, by omega, fun H5 p w hw b5 B5 np h5 => ?_⟩
    have hD5 := b5 _ _ nDb hDD
    have npD : p ≠ D := fun e => by
      rw [e, hDD] at np
      cases np
    have npb : p ≠ b := B'.ne np
    refine ⟨_, hD5, by rw [List.length_map]; exact sz1 (by omega), ls ++ [(p, w)], by rw [List.length_append, hl]; rfl, ?_, ?_, B5.upd nDb nDl, fun a o n e => ?_⟩
    · intro r hr5
      rcases List.mem_append.mp hr5 with e | e
      · obtain ⟨h1, h2, h3, h4⟩ := hls r e
        exact ⟨h1, by rw [upd_ne h4]; exact b5 _ _ h3 h2, h3, h4⟩
      · rw [List.mem_singleton.mp e]
        exact ⟨hw, by rw [upd_ne npD]; exact h5, npb, npD⟩
    · rw [upd_same, List.map_append]
      rfl
    · rw [upd_ne (nD a o e)]
      exact b5 _ _ n (ho a o n e)
  rintro H5 ⟨ls, hl, hls, hDD, B5, b5⟩
  have hS5 := (b4.trans b5).seq nab hS3
  -- one more
  refine ⟨fun σ H6 => ∃ ls' : List LineV, σ = [some (.ref b), some (.ref a), some (.str (S fs)), some (.str (S cs)), some (.ref D), none] ∧ ls'.length ≤ z ∧ (∀ r ∈ ls', LineR r.2 fs cs ∧ H6 r.1 = some r.tup ∧ r.1 ≠ b ∧ r.1 ≠ D) ∧ H6 D = some (.lst (ls'.map fun r => V.ref r.1)) ∧ Bag H6 b lb ∧ But b H H6, ?_, ?_⟩
  · have bH5 := b3.trans (b4.trans b5)
    refine ⟨_, rfl, b, lb, _, rfl, B5, by decide, by decide, fun H6 k k0 k1 b6 B6 => ?_⟩
    have hls6 : ∀ r ∈ ls, LineR r.2 fs cs ∧ H6 r.1 = some r.tup ∧ r.1 ≠ b ∧ r.1 ≠ D := fun r hr6 => let ⟨h1, h2, h3, h4⟩ := hls r hr6; ⟨h1, b6 _ _ h3 h2, h3, h4⟩
    have hD6 := b6 _ _ nDb hDD
    have hlz : ls.length ≤ z := by omega
    refine ⟨_, _, rfl, rfl, _, rfl, ite_dec (fun _ => ?_) (fun _ => iteF ⟨ls, rfl, hlz, hls6, hD6, B6, bH5.trans b6⟩)⟩
    refine ⟨_, rfl, D, _, rfl, .inl (SqL.of hD6), _, rfl, a, _, _, _, rfl, rfl, b6.seq nab hS5, rfl, _, _, rfl, rfl, _, rfl, ite_dec (fun hlt => ?_) (fun _ => ⟨ls, rfl, hlz, hls6, hD6, B6, bH5.trans b6⟩)⟩
    rw [List.length_map] at hlt
    refine ⟨_, rfl, .inl ⟨rfl, _, SqL.of hD6⟩, _, rfl, _, rfl, b, lb, cs, rfl, B6, by omega, fun H7 r5 hr5 b7 B7 => ?_⟩
    refine ⟨_, rfl, _, rfl, b, lb, fs, rfl, B7, hf0, by omega, fun H8 g gx gy hg hgx hgy b8 B8 => ?_⟩
    refine ⟨(show 6 ≤ sizeLine by decide), fun p np => ?_⟩
    have s9 := same_upd (o := w6T ([46], [46], [46], [46], r5, [g, gx, gy])) np
    have hD8 := (b7.trans b8) _ _ nDb hD6
    have npD : p ≠ D := fun e => by
      rw [e, hD8] at np
      cases np
    have npb : p ≠ b := B8.ne np
    refine ⟨D, _, _, rfl, rfl, s9 _ _ hD8, by rw [List.length_map]; exact sz1 (by omega), ls ++ [(p, [46], [46], [46], [46], r5, [g, gx, gy])], rfl, by rw [List.length_append, List.length_singleton]; omega, ?_, ?_, (B8.same s9).upd nDb nDl, fun a' o n e => ?_⟩
    · intro r hr9
      rcases List.mem_append.mp hr9 with e | e
      · obtain ⟨h1, h2, h3, h4⟩ := hls6 r e
        exact ⟨h1, by rw [upd_ne h4]; exact s9 _ _ (b8 _ _ h3 (b7 _ _ h3 h2)), h3, h4⟩
      · rw [List.mem_singleton.mp e]
        exact ⟨⟨.inl rfl, .inl rfl, .inl rfl, .inl rfl, hr5, .inr ⟨g, gx, gy, rfl, hg, hgx, hgy⟩⟩, by rw [upd_ne npD]; exact upd_same, npb, npD⟩
    · rw [upd_same, List.map_append]
      rfl
    · have naD : a' ≠ D := fun e' => by
        rw [e', hD0] at e
        cases e
      rw [upd_ne naD]
      exact s9 _ _ (b8 _ _ n (b7 _ _ n ((bH5.trans b6) _ _ n e)))
  rintro σ H6 ⟨ls', rfl, hl', hls', hD6, B6, b6⟩
  refine ⟨_, rfl, _, rfl, _, rfl, (show 3 ≤ sizeLine by decide), fun p np => ?_⟩
  have s7 := same_upd (o := HO.lst [V.str (S fs), V.str (S cs), V.ref D]) np
  have npb : p ≠ b := B6.ne np
  exact q _ p D fs cs ls' ⟨hfs, hcs, hf0, hc0, by omega, by omega, fun r hr7 => (hls' r hr7).1⟩ (by omega) (by omega) hl' (b6.trans s7.but) (B6.same s7) (none_but npb b6 np) hD0
    ⟨upd_same, s7 _ _ hD6, fun r hr7 => s7 _ _ (hls' r hr7).2.1, npb, nDb, fun r hr7 => (hls' r hr7).2.2.1⟩
/-! what is drawn is right -/
theorem lower_asc : lower.Pairwise (· < ·) := by decide +kernel
theorem upper_asc : upper.Pairwise (· < ·) := by decide +kernel
theorem lower_range : ∀ c ∈ lower, 97 ≤ c ∧ c ≤ 122 := by decide +kernel
theorem upper_range : ∀ c ∈ upper, 65 ≤ c ∧ c ≤ 90 := by decide +kernel
theorem choice_sub {r L : List Nat} {m : Int} (hL : L.Pairwise (· < ·)) (s : List.Sublist r L) (h0 : 0 < r.length) (hm : (r.length : Int) ≤ m) : bChoice (.str (S r)) L m = true := by
  show (true && (decide ((1 : Int) ≤ (r.length : Int)) && decide ((r.length : Int) ≤ m)) && (r.all fun c => decide (c ∈ L)) && ascB r) = true
  rw [decide_eq_true (by omega), decide_eq_true hm, mem_all (fun c hc => s.subset hc), asc_sorted (hL.sublist s)]
  rfl
theorem PartR.ok {r L : List Nat} (hL : L.Pairwise (· < ·)) (h : PartR r L) : bPart (.str (S r)) L = true := by
  unfold bPart
  rcases h with rfl | ⟨s, h0⟩
  · rfl
  · rw [choice_sub hL s h0 (by have := s.length_le; omega), Bool.or_true]
theorem PartR.len {r L : List Nat} {m : Nat} (h : PartR r L) (hm : L.length ≤ m) (h1 : 1 ≤ m) : r.length ≤ m := by
  rcases h with rfl | ⟨s, h0⟩
  · exact h1
  · exact Nat.le_trans s.length_le hm
theorem PartR.no {r L : List Nat} {x : Nat} (h : PartR r L) (hx : x ∉ L) (h1 : x ≠ 46) : x ∉ r := by
  rcases h with rfl | ⟨s, h0⟩
  · simpa using h1
  · exact fun e => hx (s.subset e)
theorem CutR.ok {u F : List Nat} (h : CutR u F) : (decide (V.str (S u) = V.str "") || bCut (.str (S u)) (S F)) = true := by
  rcases h with rfl | ⟨g, x, y, rfl, hg, hx, hy⟩
  · have e : decide (V.str (S []) = V.str "") = true := decide_eq_true rfl
    rw [e]
    rfl
  · rw [show bCut (.str (S [g, x, y])) (S F) = true from bCut_yes hg hx hy, Bool.or_true]
theorem CutR.len {u F : List Nat} (h : CutR u F) : u.length ≤ 3 := by
  rcases h with rfl | ⟨g, x, y, rfl, _⟩
  · exact Nat.zero_le _
  · exact Nat.le_refl _
theorem CutR.no {u F : List Nat} {z : Nat} (h : CutR u F) (hz : z ∉ F) (h1 : z ≠ 124) (h2 : z ≠ 45) : z ∉ u := by
  rcases h with rfl | ⟨g, x, y, rfl, hg, hx, hy⟩
  · simp
  · intro e
    simp only [List.mem_cons, List.not_mem_nil, or_false] at e
    rcases e with rfl | rfl | rfl
    · exact hg.elim h1 h2
    · exact hz hx
    · exact hz hy
theorem LineR.line {w : W6} {F C : List Nat} (h : LineR w F C) (hF : F.Pairwise (· < ·)) (hC : C.Pairwise (· < ·)) : bLine w.1 w.2.1 w.2.2.1 w.2.2.2.1 w.2.2.2.2.1 w.2.2.2.2.2 F C = true := by
  unfold bLine
  rw [h.u.ok, h.e.ok hC]
  show (bPart (.str (S w.1)) F && (bPart (.str (S w.2.1)) F && (bPart (.str (S w.2.2.1)) F && (bPart (.str (S w.2.2.2.1)) F && true))) && true && true) = true
  rw [h.a.ok hF, h.b.ok hF, h.c.ok hF, h.d.ok hF]
  rfl
theorem w6_all {P : List Nat → Prop} {w : W6} (a : P w.1) (b : P w.2.1) (c : P w.2.2.1) (d : P w.2.2.2.1) (e : P w.2.2.2.2.1) (u : P w.2.2.2.2.2) : ∀ p ∈ w6L w, P p := by
  intro p hp
  simp only [w6L, List.mem_cons, List.not_mem_nil, or_false] at hp
  rcases hp with rfl | rfl | rfl | rfl | rfl | rfl
  · exact a
  · exact b
  · exact c
  · exact d
  · exact e
  · exact u
theorem LineR.len {w : W6} {F C : List Nat} (h : LineR w F C) (lf : F.length ≤ 100) (lc : C.length ≤ 100) : ∀ p ∈ w6L w, p.length ≤ 100 :=
  w6_all (P := fun p => p.length ≤ 100) (h.a.len lf (by decide)) (h.b.len lf (by decide)) (h.c.len lf (by decide)) (h.d.len lf (by decide)) (h.e.len lc (by decide)) (Nat.le_trans h.u.len (by decide))
theorem LineR.no {w : W6} {F C : List Nat} {x : Nat} (h : LineR w F C) (hf : x ∉ F) (hc : x ∉ C) (h1 : x ≠ 46) (h2 : x ≠ 124) (h3 : x ≠ 45) : ∀ p ∈ w6L w, x ∉ p :=
  w6_all (P := fun p => x ∉ p) (h.a.no hf h1) (h.b.no hf h1) (h.c.no hf h1) (h.d.no hf h1) (h.e.no hc h1) (h.u.no hf h2 h3)
theorem LineR.w6 {w : W6} {F C : List Nat} (h : LineR w F C) (hF : List.Sublist F lower) (hC : List.Sublist C upper) (lf : F.length ≤ 100) (lc : C.length ≤ 100) : W6Ok w F C := by
  have f1 : ∀ x, x < 65 → x ∉ F := fun x hx e => by
    have := (lower_range x (hF.subset e)).1
    omega
  have c1 : ∀ x, x < 65 → x ∉ C := fun x hx e => by
    have := (upper_range x (hC.subset e)).1
    omega
  refine ⟨fun p hp => Nat.le_trans (h.len lf lc p hp) (by decide), fun p hp => ⟨h.no (f1 32 (by decide)) (c1 32 (by decide)) (by decide) (by decide) (by decide) p hp, h.no (f1 10 (by decide)) (c1 10 (by decide)) (by decide) (by decide) (by decide) p hp⟩, fun e => ?_, h.line (lower_asc.sublist hF) (upper_asc.sublist hC)⟩
  have := h.u.len
  rw [e] at this
  exact absurd this (by decide)
theorem SpecOk.w6 {F C : List Nat} {ls : List LineV} (s : SpecOk F C ls) : ∀ r ∈ ls, W6Ok r.2 F C := fun r hr => (s.ls r hr).w6 s.f s.c (by have := s.f6; omega) (by have := s.c4; omega)
theorem SpecOk.bf {F C : List Nat} {ls : List LineV} (s : SpecOk F C ls) : bFaces (.str (S F)) = true := choice_sub lower_asc s.f s.f0 (by have := s.f6; omega)
theorem SpecOk.bc {F C : List Nat} {ls : List LineV} (s : SpecOk F C ls) : bCutters (.str (S C)) = true := choice_sub upper_asc s.c s.c0 (by have := s.c4; omega)
theorem SpecOk.nf {F C : List Nat} {ls : List LineV} (s : SpecOk F C ls) {x : Nat} (hx : x < 65) : x ∉ F := fun e => by
  have := (lower_range x (s.f.subset e)).1
  omega
theorem SpecOk.nc {F C : List Nat} {ls : List LineV} (s : SpecOk F C ls) {x : Nat} (hx : x < 65) : x ∉ C := fun e => by
  have := (upper_range x (s.c.subset e)).1
  omega
theorem SpecOk.chr {F C : List Nat} {ls : List LineV} (s : SpecOk F C ls) : (∀ c ∈ F, c < 128) ∧ ∀ c ∈ C, c < 128 := ⟨fun c hc => by have := (lower_range c (s.f.subset hc)).2; omega, fun c hc => by have := (upper_range c (s.c.subset hc)).2; omega⟩
theorem BookAt.drawn {CB : Addr} {H H' : Hp} {b l x : Addr} {F C : List Nat} {ls : List LineV} (k : BookAt K CB H x F C ls) (B : Bag H b l) (q : But b H H') : BookAt K CB H' x F C ls := by
  obtain ⟨xs, hb⟩ := B.la
  have ne : ∀ (a : Addr) (o : HO), H a = some o → (∀ ys, o ≠ .lst ys) → a ≠ b := fun a o e n z => by
    rw [z, hb] at e
    exact n xs (Option.some.inj e).symm
  obtain ⟨dx, tl, h1, h2⟩ := k.at_
  exact ⟨⟨dx, tl, q _ _ (ne _ _ h1 fun _ z => by cases z) h1, q _ _ (ne _ _ h2 fun _ z => by cases z) h2⟩, ⟨fun r hr => q _ _ (ne _ _ (k.lines.at_ r hr) fun _ z => by cases z) (k.lines.at_ r hr), k.lines.ok, k.lines.few⟩, k.lens, k.chr⟩
abbrev s__law_line_text : Stmt := topS 47
theorem sc__law_line_text : FnScope ["_law_line"] ["_law_line"] (defScope s__law_line_text) := ⟨rfl, rfl, rfl, by decide +kernel, rfl, by decide +kernel, by decide +kernel⟩
def sp__law_line_text (K : PySem.W.Frag) : Sp := fun vs H Q _ => ∃ (t : Addr) (w : W6), vs = [.ref t] ∧ SqT K H t ((w6L w).map fun p => V.str (S p)) ∧ (∀ p ∈ w6L w, p.length ≤ 1000) ∧ ∀ H', Same H H' → Q (.str (rowW w)) H'
theorem ok__law_line_text {f : Addr} {fd : FuncData} (F : Fun K "_law_line_text" "_law_line_text" s__law_line_text f fd) (T : Z mg) : FnOk P w K mg base CX0 1 f fd ["_law_line"] (sp__law_line_text K) := by
  refine F.ok sc__law_line_text (fun vs H Q E h => ?_) (fun cdv A outer s H vs Q E hr h => ?_)
  · obtain ⟨t, w, rfl, _⟩ := h
    rfl
  obtain ⟨t, ⟨a, b, c, d, e, u⟩, rfl, hS, hl, q⟩ := h
  refine ⟨_, (pss_one (ps_ret (pe_join pe_str (pe_op op_cat (pe_callTy call_list_of (by rfl) T.z_list (by decide +kernel) (pa_cons (pe_slice sl_tup (pv 0) po_none (po_some pe_int)) pa_nil)) (pe_lst (pa_cons (pe_as (pe_ifExp (pt_cmpR op_ne (pe_ix ix_tup (pv 0) pe_int (fun _ _ => rfl)) pe_str (nomark _)) (pe_ix ix_tup (pv 0) pe_int (fun _ _ => rfl)) pe_str)) pa_nil)))))), ?_⟩
  refine ⟨⟨_, rfl⟩, _, rfl, 5, rfl, t, _, rfl, hS, (show ¬ (HT.sIx 6 0 none = 0 ∧ HT.sIx 6 6 (some 5) = 6) by decide), fun p np => ?_⟩
  have s1 := same_upd (o := HO.tup [V.str (S a), V.str (S b), V.str (S c), V.str (S d), V.str (S e)]) np
  refine ⟨p, _, rfl, .inr (SqT.of upd_same), fun l nl => ?_⟩
  have s2 := same_upd (o := HO.lst [V.str (S a), V.str (S b), V.str (S c), V.str (S d), V.str (S e)]) nl
  have hS2 := (s1.trans s2).tup hS
  refine ⟨fun v H' => v = .str (S (wordU u)) ∧ H' = (upd (upd H p (HO.tup [V.str (S a), V.str (S b), V.str (S c), V.str (S d), V.str (S e)])) l (HO.lst [V.str (S a), V.str (S b), V.str (S c), V.str (S d), V.str (S e)])), ?_, ?_⟩
  · refine ⟨_, rfl, t, _, _, _, rfl, rfl, hS2, rfl, rfl, _, rfl, ite_ndec (fun ne => ?_) (fun eq => ?_)⟩
    · refine ⟨_, rfl, t, _, _, _, rfl, rfl, hS2, rfl, ?_, rfl⟩
      unfold wordU
      rw [if_neg fun z => ne (by rw [z]; rfl)]
    · refine ⟨?_, rfl⟩
      have e0 : u = [] := by
        have z1 : S u = ("" : Str) := V.str.inj eq
        have z2 := congrArg (fun z : Str => z.cps.toList) z1
        exact z2
      subst e0
      rfl
  rintro _ _ ⟨rfl, rfl⟩
  refine ⟨(show 1 ≤ sizeLine by decide), fun l2 nl2 => ?_⟩
  have s3 := same_upd (o := HO.lst [V.str (S (wordU u))]) nl2
  refine ⟨l, l2, _, _, rfl, rfl, s3 _ _ upd_same, upd_same, (show 6 ≤ sizeLine by decide), fun r nr => ?_⟩
  refine ⟨" ", r, [a, b, c, d, e, wordU u].map S, rfl, rfl, .inl (SqL.of upd_same), ?_, q _ (((s1.trans s2).trans s3).trans (same_upd nr))⟩
  have hu : (wordU u).length ≤ 1000 := by
    unfold wordU
    split
    · decide
    · exact hl u (by simp [w6L])
  have ha := hl a (by simp [w6L])
  have hb := hl b (by simp [w6L])
  have hc := hl c (by simp [w6L])
  have hd := hl d (by simp [w6L])
  have he := hl e (by simp [w6L])
  simp only [List.map_cons, List.map_nil, List.sum_cons, List.sum_nil, List.length_cons, List.length_nil, S_len]
  show _ + 6 * 1 ≤ 16777216
  omega
abbrev s__law_book_text : Stmt := topS 48
theorem sc__law_book_text : FnScope ["_law_spec", "_law_line"] ["_law_spec"] (defScope s__law_book_text) := ⟨rfl, rfl, rfl, by decide +kernel, rfl, by decide +kernel, by decide +kernel⟩
def sp__law_book_text (K : PySem.W.Frag) : Sp := fun vs H Q _ => ∃ (p lp b : Addr) (F C : List Nat) (ls : List LineV), vs = [.ref p] ∧ SpecAt H b p lp F C ls ∧ F.length ≤ 100 ∧ C.length ≤ 100 ∧ ls.length ≤ 100 ∧ (∀ r ∈ ls, ∀ x ∈ w6L r.2, x.length ≤ 1000) ∧
  ∀ H', Same H H' → Q (.str (bookT F C (ls.map (·.2)))) H'
theorem headT_eq (F C : List Nat) : S F ++ (" " : Str) ++ S C = headT F C := by
  unfold headT
  rw [show (" " : Str) = S [32] from rfl, SX.join_S, S_cat, S_cat]
  show S (F ++ [32] ++ C) = S (F ++ ([32] ++ C))
  rw [List.append_assoc]
theorem rowW_len {w : W6} (h : ∀ p ∈ w6L w, p.length ≤ 1000) : (rowW w).length ≤ 7000 := rowT_len h
theorem sum_le {m : Nat} : ∀ {ns : List Nat}, (∀ n ∈ ns, n ≤ m) → ns.sum ≤ ns.length * m
  | [], _ => Nat.zero_le _
  | n :: ns, h => by
    have h1 := h n List.mem_cons_self
    have h2 := sum_le (ns := ns) fun x hx => h x (List.mem_cons_of_mem _ hx)
    rw [List.sum_cons, List.length_cons, Nat.add_mul, Nat.one_mul]
    omega
theorem ok__law_book_text {f : Addr} {fd : FuncData} (F : Fun K "_law_book_text" "_law_book_text" s__law_book_text f fd) (T : Z mg) (c__law_line_text : Cal P w K mg base CX0 1 "_law_line_text" s__law_line_text ["_law_line"] (sp__law_line_text K)) : FnOk P w K mg base CX0 2 f fd ["_law_spec"] (sp__law_book_text K) := by
  refine F.ok sc__law_book_text (fun vs H Q E h => ?_) (fun cdv A outer s H vs Q E hr h => ?_)
  · obtain ⟨p, lp, b, F, C, ls, rfl, _⟩ := h
    rfl
  obtain ⟨p, lp, b, F, C, ls, rfl, hs, lF, lC, lls, lw, q⟩ := h
  refine ⟨_, (pss_one (ps_ret (pe_join pe_str (pe_op op_cat (pe_lst (pa_cons (pe_op op_add_str (pe_op op_add_str (pe_ix ix_list (pv 0) pe_int (fun _ _ => rfl)) pe_str) (pe_ix ix_list (pv 0) pe_int (fun _ _ => rfl))) pa_nil)) (pe_lc (own := [("_law_line", 1)]) (g := (gName 1)) (by rfl) sc__law_book_text.nd (pi_list (pe_ix ix_list (pv 0) pe_int (fun _ _ => rfl))) (blkOk_by (N := ["_law_spec", "_law_line"]) (sc := defScope s__law_book_text) (by decide +kernel)) (fun _ _ _ _ _ => (pg_name (i := 1) sc__law_book_text.nd rfl (.inl rfl))) (fun _ _ _ _ _ => pts_nil) (fun _ _ _ _ _ => (pe_c c__law_line_text hr (by decide) (by rfl) (pa_cons (pv 1) pa_nil)))))))), ?_⟩
  have hT := SqL.of (K := K) hs.top
  have z1 : (S F).length + (" " : Str).length ≤ sizeLine := by
    rw [S_len]
    exact sz (show F.length + 1 ≤ 100000 by omega)
  have z2 : (S F ++ (" " : Str)).length + (S C).length ≤ sizeLine := by
    rw [show (" " : Str) = S [32] from rfl, S_cat, S_len, S_len, List.length_append]
    exact sz (show F.length + 1 + C.length ≤ 100000 by omega)
  refine ⟨⟨_, rfl⟩, _, rfl, p, _, _, _, rfl, rfl, hT, rfl, _, _, rfl, rfl, z1, _, rfl, p, _, _, _, rfl, rfl, hT, rfl, _, _, rfl, rfl, z2, (show 1 ≤ sizeLine by decide), fun l nl => ?_⟩
  have s1 := same_upd (o := HO.lst [V.str (S F ++ (" " : Str) ++ S C)]) nl
  have hs1 := hs.same s1
  refine ⟨_, rfl, p, _, _, _, rfl, rfl, SqL.of hs1.top, rfl, lp, rfl, ⟨_, SqL.of hs1.rows⟩, fun D hD => ?_⟩
  have nlD : l ≠ D := ne_of_none upd_same hD
  have nD : ∀ a o, H a = some o → a ≠ D := fun a o e => ne_of_none (s1 _ _ e) hD
  have nlp : lp ≠ D := nD _ _ hs.rows
  generalize hH1 : upd H l (HO.lst [V.str (S F ++ (" " : Str) ++ S C)]) = H1 at s1 hs1 hD
  have hl1 : H1 l = some (.lst [V.str (headT F C)]) := by
    rw [← hH1, upd_same, headT_eq]
  refine lc_list (xs := ls.map fun r => V.ref r.1) (fun i H' => But D H1 H' ∧ H' D = some (.lst ((ls.take i).map fun r => V.str (rowW r.2)))) ⟨(same_upd hD).but, upd_same⟩ (fun i H' _ pv => SqL.of (pv.1 _ _ nlp hs1.rows)) ?_ ?_
  · rintro i x H' hx ⟨bt, hDD⟩
    rw [List.getElem?_map] at hx
    obtain ⟨r, hr1, rfl⟩ := Option.map_eq_some_iff.mp hx
    have hm := List.mem_of_getElem? hr1
    have hrD : r.1 ≠ D := nD _ _ (hs.at_ r hm)
    have hil : i < ls.length := (List.getElem?_eq_some_iff.mp hr1).1
    refine ⟨rfl, _, rfl, r.1, r.2, rfl, SqT.of (bt _ _ hrD (hs1.at_ r hm)), lw r hm, fun H2 s2 => ?_⟩
    refine ⟨_, s2 _ _ hDD, by rw [List.length_map, List.length_take]; exact sz1 (by omega), fun a o n e => ?_, ?_⟩
    · rw [upd_ne n]
      exact s2 _ _ (bt _ _ n e)
    · rw [upd_same, List.take_add_one, hr1, List.map_append]
      rfl
  · rintro H2 ⟨bt, hDD⟩
    rw [List.length_map, List.take_of_length_le (Nat.le_refl _)] at hDD
    have hl2 := bt _ _ nlD hl1
    refine ⟨l, D, _, _, rfl, rfl, hl2, hDD, ?_, fun r nr => ?_⟩
    · rw [List.length_map]
      exact sz (show 1 + ls.length ≤ 100000 by omega)
    refine ⟨"\n", r, headT F C :: (ls.map (·.2)).map rowW, rfl, rfl, .inl (SqL.of ?_), ?_, ?_⟩
    · rw [upd_same, List.map_map, List.map_cons, List.map_map]
      rfl
    · rw [List.map_cons, List.sum_cons, List.length_cons, List.map_map, List.length_map, List.length_map]
      have h1 := head_len (F := F) (C := C) (by omega) (by omega)
      have h2 := sum_le (m := 7000) (ns := (ls.map (·.2)).map ((fun x : Str => x.length) ∘ rowW)) (by
        intro n hn
        rw [List.map_map] at hn
        obtain ⟨r, hr2, rfl⟩ := List.mem_map.mp hn
        exact rowW_len (lw r hr2))
      rw [List.length_map, List.length_map] at h2
      show (headT F C).length + _ + (ls.length + 1) * 1 ≤ 16777216
      omega
    · exact q _ ((but_fresh s1 hD bt).trans (same_upd nr))
end
end FW
namespace FW
open PySem PySem.Spec PyProof.Rows L2
-- more
section
variable {P : Program} {w : World} {K : PySem.W.Frag} {mg : Str → Option Value} {base : Heap}
abbrev s_row_of : Stmt := topS 30
theorem sc_row_of : FnScope ["line", "cut"] ["line"] (defScope s_row_of) := ⟨rfl, rfl, rfl, by decide +kernel, rfl, by decide +kernel, by decide +kernel⟩
def sp_row_of (K : PySem.W.Frag) : Sp := fun vs H Q _ => ∃ (t : Addr) (w : W6), vs = [.ref t] ∧ SqT K H t ((w6L w).map fun p => V.str (S p)) ∧ (∀ p ∈ w6L w, p.length ≤ 1000) ∧ ∀ H', Same H H' → Q (.str (rowW w)) H'
theorem str_nil {u : List Nat} (e : V.str (S u) = V.str "") : u = [] := by
  have z2 := congrArg (fun z : Str => z.cps.toList) (V.str.inj e)
  exact z2
theorem rowW_sum {a b c d e u : List Nat} (hl : ∀ p ∈ w6L (a, b, c, d, e, u), p.length ≤ 1000) : (([a, b, c, d, e, wordU u].map S).map (·.length)).sum + ([a, b, c, d, e, wordU u].map S).length * (" " : Str).length ≤ 16777216 := by
  have hu : (wordU u).length ≤ 1000 := by
    unfold wordU
    split
    · decide
    · exact hl u (by simp [w6L])
  have ha := hl a (by simp [w6L])
  have hb := hl b (by simp [w6L])
  have hc := hl c (by simp [w6L])
  have hd := hl d (by simp [w6L])
  have he := hl e (by simp [w6L])
  simp only [List.map_cons, List.map_nil, List.sum_cons, List.sum_nil, List.length_cons, List.length_nil, S_len]
  show _ + 6 * 1 ≤ 16777216
  omega
theorem ok_row_of {f : Addr} {fd : FuncData} (F : Fun K "row_of" "row_of" s_row_of f fd) : FnOk P w K mg base CX0 1 f fd ["line"] (sp_row_of K) := by
  refine F.ok sc_row_of (fun vs H Q E h => ?_) (fun cdv A outer s H vs Q E hr h => ?_)
  · obtain ⟨t, w, rfl, _⟩ := h
    rfl
  obtain ⟨t, ⟨a, b, c, d, e, u⟩, rfl, hS, hl, q⟩ := h
  refine ⟨_, (pss_cons (ps_set (i := 1) sc_row_of.nd rfl (.inl rfl) (pe_as (pe_ifExp (pt_cmpR op_eq (pe_ix ix_tup (pv 0) pe_int (fun _ _ => rfl)) pe_str (nomark _)) pe_str (pe_ix ix_tup (pv 0) pe_int (fun _ _ => rfl)))))
      (pss_one (ps_ret (pe_join pe_str (pe_lst (pa_cons (pe_ix ix_tup (pv 0) pe_int (fun _ _ => rfl)) (pa_cons (pe_ix ix_tup (pv 0) pe_int (fun _ _ => rfl)) (pa_cons (pe_ix ix_tup (pv 0) pe_int (fun _ _ => rfl)) (pa_cons (pe_ix ix_tup (pv 0) pe_int (fun _ _ => rfl)) (pa_cons (pe_ix ix_tup (pv 0) pe_int (fun _ _ => rfl)) (pa_cons (pv 1) pa_nil))))))))))), ?_⟩
  refine ⟨fun v H' => v = .str (S (wordU u)) ∧ H' = H, ?_, ?_⟩
  · refine ⟨_, rfl, t, _, _, _, rfl, rfl, hS, rfl, rfl, _, rfl, ite_dec (fun eq => ?_) (fun ne => ?_)⟩
    · obtain rfl := str_nil eq
      exact ⟨rfl, rfl⟩
    · refine ⟨_, rfl, t, _, _, _, rfl, rfl, hS, rfl, ?_, rfl⟩
      unfold wordU
      rw [if_neg fun z => ne (by rw [z]; rfl)]
  rintro _ H1 ⟨rfl, e1⟩
  subst e1
  refine ⟨⟨_, rfl⟩, _, rfl, t, _, _, _, rfl, rfl, hS, rfl, _, rfl, t, _, _, _, rfl, rfl, hS, rfl, _, rfl, t, _, _, _, rfl, rfl, hS, rfl, _, rfl, t, _, _, _, rfl, rfl, hS, rfl, _, rfl, t, _, _, _, rfl, rfl, hS, rfl, _, rfl, (show 6 ≤ sizeLine by decide), fun r nr => ?_⟩
  exact ⟨" ", r, [a, b, c, d, e, wordU u].map S, rfl, rfl, .inl (SqL.of upd_same), rowW_sum hl, q _ (same_upd nr)⟩
abbrev s_Book_lines : Stmt := inCls (topS 31) 2
theorem sc_Book_lines : FnScope ["self"] ["self"] (defScope s_Book_lines) := ⟨rfl, rfl, rfl, by decide +kernel, rfl, by decide +kernel, by decide +kernel⟩
def sp_Book_lines (K : PySem.W.Frag) (CB : Addr) : Sp := fun vs H Q _ => ∃ (x : Addr) (F C : List Nat) (ls : List LineV), vs = [.ref x] ∧ BookAt K CB H x F C ls ∧ ∀ p, H p = none → Q (.ref p) (upd H p (.lst (ls.map fun r => V.ref r.1)))
theorem ok_Book_lines {f CB : Addr} {fd : FuncData} (F : Fun K "lines" "Book.lines" s_Book_lines f fd) (T : Z mg) (BC : BookC K CB) : FnOk P w K mg base CX0 1 f fd ["self"] (sp_Book_lines K CB) := by
  refine F.ok sc_Book_lines (fun vs H Q E h => ?_) (fun cdv A outer s H vs Q E hr h => ?_)
  · obtain ⟨x, F, C, ls, rfl, _⟩ := h
    rfl
  obtain ⟨x, F, C, ls, rfl, hB, q⟩ := h
  refine ⟨_, (pss_one (ps_ret (pe_callTy call_list_of (by rfl) T.z_list (by decide +kernel) (pa_cons (pe_fld (pv 0) rfl) pa_nil)))), ?_⟩
  obtain ⟨dx, tl, hx, ht⟩ := hB.at_
  exact ⟨_, rfl, x, CB, dx, _, _, rfl, hx, BC.c, BC.nl, rfl, tl, _, rfl, .inr (SqT.of ht), q⟩
abbrev s_Book_text : Stmt := inCls (topS 31) 8
theorem sc_Book_text : FnScope ["self", "line"] ["self"] (defScope s_Book_text) := ⟨rfl, rfl, rfl, by decide +kernel, rfl, by decide +kernel, by decide +kernel⟩
def sp_Book_text (K : PySem.W.Frag) (CB : Addr) : Sp := fun vs H Q _ => ∃ (x : Addr) (F C : List Nat) (ls : List LineV), vs = [.ref x] ∧ BookAt K CB H x F C ls ∧ ∀ H', Same H H' → Q (.str (bookT F C (ls.map (·.2)))) H'
theorem ok_Book_text {f CB : Addr} {fd : FuncData} (F : Fun K "text" "Book.text" s_Book_text f fd) (BC : BookC K CB) (c_row_of : Cal P w K mg base CX0 1 "row_of" s_row_of ["line"] (sp_row_of K)) : FnOk P w K mg base CX0 2 f fd ["self"] (sp_Book_text K CB) := by
  refine F.ok sc_Book_text (fun vs H Q E h => ?_) (fun cdv A outer s H vs Q E hr h => ?_)
  · obtain ⟨x, F, C, ls, rfl, _⟩ := h
    rfl
  obtain ⟨x, F, C, ls, rfl, hB, q⟩ := h
  refine ⟨_, (pss_one (ps_ret (pe_join pe_str (pe_op op_cat (pe_lst (pa_cons (pe_joined (.cons (pe_fmt (pe_fld (pv 0) rfl)) (.cons pe_str (.cons (pe_fmt (pe_fld (pv 0) rfl)) .nil)))) pa_nil)) (pe_lc (own := [("line", 1)]) (g := (gName 1)) (by rfl) sc_Book_text.nd (pi_tup (pe_fld (pv 0) rfl)) (blkOk_by (N := ["self", "line"]) (sc := defScope s_Book_text) (by decide +kernel)) (fun _ _ _ _ _ => (pg_name (i := 1) sc_Book_text.nd rfl (.inl rfl))) (fun _ _ _ _ _ => pts_nil) (fun _ _ _ _ _ => (pe_c c_row_of hr (by decide) (by rfl) (pa_cons (pv 1) pa_nil)))))))), ?_⟩
  obtain ⟨dx, tl, hx, ht⟩ := hB.at_
  have lF := hB.lens.1
  have lC := hB.lens.2
  have z0 : (Str.empty ++ S F).length ≤ sizeLine := by
    rw [show Str.empty = S [] from rfl, S_cat, S_len, List.nil_append]
    exact sz (by omega)
  have z1 : (Str.empty ++ S F ++ (" " : Str)).length ≤ sizeLine := by
    rw [show Str.empty = S [] from rfl, show (" " : Str) = S [32] from rfl, S_cat, S_cat, S_len, List.nil_append, List.length_append]
    exact sz (show F.length + 1 ≤ 100000 by omega)
  have z2 : (Str.empty ++ S F ++ (" " : Str) ++ S C).length ≤ sizeLine := by
    rw [show Str.empty = S [] from rfl, show (" " : Str) = S [32] from rfl, S_cat, S_cat, S_cat, S_len, List.nil_append, List.length_append, List.length_append]
    exact sz (show F.length + 1 + C.length ≤ 100000 by omega)
  have ez : Str.empty ++ S F ++ (" " : Str) ++ S C = headT F C := by
    rw [← headT_eq, show Str.empty ++ S F = S F from by rw [show Str.empty = S [] from rfl, S_cat, List.nil_append]]
  have hF : (S F).length ≤ sizeLine := by rw [S_len]; exact sz (by omega)
  have hC : (S C).length ≤ sizeLine := by rw [S_len]; exact sz (by omega)
  refine ⟨⟨_, rfl⟩, _, rfl, x, CB, dx, _, _, rfl, hx, BC.c, BC.nf, rfl, .inl ⟨_, rfl, hF, _, rfl, z0, _, rfl, z1, _, rfl, x, CB, dx, _, _, rfl, hx, BC.c, BC.nc, rfl, .inl ⟨_, rfl, hC, _, rfl, z2, (show 1 ≤ sizeLine by decide), fun l nl => ?_⟩⟩⟩
  have s1 := same_upd (o := HO.lst [V.str (Str.empty ++ S F ++ (" " : Str) ++ S C)]) nl
  refine ⟨_, rfl, x, CB, dx, _, _, rfl, s1 _ _ hx, BC.c, BC.nl, rfl, tl, rfl, ⟨_, SqT.of (s1 _ _ ht)⟩, fun D hD => ?_⟩
  have nlD : l ≠ D := ne_of_none upd_same hD
  have nD : ∀ a o, H a = some o → a ≠ D := fun a o e => ne_of_none (s1 _ _ e) hD
  have ntl : tl ≠ D := nD _ _ ht
  generalize hH1 : upd H l (HO.lst [V.str (Str.empty ++ S F ++ (" " : Str) ++ S C)]) = H1 at s1 hD
  have hl1 : H1 l = some (.lst [V.str (headT F C)]) := by
    rw [← hH1, upd_same, ez]
  have few := hB.lines.few
  refine lc_tup (xs := ls.map fun r => V.ref r.1) (fun i H' => But D H1 H' ∧ H' D = some (.lst ((ls.take i).map fun r => V.str (rowW r.2)))) ⟨(same_upd hD).but, upd_same⟩ (fun i H' _ pv => SqT.of (pv.1 _ _ ntl (s1 _ _ ht))) ?_ ?_
  · rintro i x H' hx ⟨bt, hDD⟩
    rw [List.getElem?_map] at hx
    obtain ⟨r, hr1, rfl⟩ := Option.map_eq_some_iff.mp hx
    have hm := List.mem_of_getElem? hr1
    have hat := hB.lines.at_ r hm
    have hrD : r.1 ≠ D := nD _ _ hat
    have hil : i < ls.length := (List.getElem?_eq_some_iff.mp hr1).1
    refine ⟨rfl, _, rfl, r.1, r.2, rfl, SqT.of (bt _ _ hrD (s1 _ _ hat)), (hB.lines.ok r hm).ln, fun H2 s2 => ?_⟩
    refine ⟨_, s2 _ _ hDD, by rw [List.length_map, List.length_take]; exact sz1 (by omega), fun a o n e => ?_, ?_⟩
    · rw [upd_ne n]
      exact s2 _ _ (bt _ _ n e)
    · rw [upd_same, List.take_add_one, hr1, List.map_append]
      rfl
  · rintro H2 ⟨bt, hDD⟩
    rw [List.length_map, List.take_of_length_le (Nat.le_refl _)] at hDD
    have hl2 := bt _ _ nlD hl1
    refine ⟨l, D, _, _, rfl, rfl, hl2, hDD, ?_, fun r nr => ?_⟩
    · rw [List.length_map]
      exact sz (show 1 + ls.length ≤ 100000 by omega)
    refine ⟨"\n", r, headT F C :: (ls.map (·.2)).map rowW, rfl, rfl, .inl (SqL.of ?_), ?_, ?_⟩
    · rw [upd_same, List.map_map, List.map_cons, List.map_map]
      rfl
    · rw [List.map_cons, List.sum_cons, List.length_cons, List.map_map, List.length_map, List.length_map]
      have h1 := head_len (F := F) (C := C) (by omega) (by omega)
      have h2 := sum_le (m := 7000) (ns := (ls.map (·.2)).map ((fun x : Str => x.length) ∘ rowW)) (by
        intro n hn
        rw [List.map_map] at hn
        obtain ⟨r, hr2, rfl⟩ := List.mem_map.mp hn
        exact rowW_len (hB.lines.ok r hr2).ln)
      rw [List.length_map, List.length_map] at h2
      show (headT F C).length + _ + (ls.length + 1) * 1 ≤ 16777216
      omega
    · exact q _ ((but_fresh s1 hD bt).trans (same_upd nr))
end
end FW
namespace FW
open PySem PySem.Spec PyProof.Rows L2
/-! ### a lambda as a thing of the heap; with defaults or without -/
/-- its names, cells and code object; what it answers; its defaults' tuple -/
structure LF where
  F : NdefX.NF
  e : Expr
  dV : Value
abbrev LF.fd (l : LF) (doc pm ctv : Value) : FuncData := PySem.W.kdv_fn l.F.name l.F.qual l.F.params (.expr l.e) l.F.scope l.F.cl l.dV doc pm (.ref l.F.c) ctv
abbrev LF.ob (l : LF) (doc pm ctv : Value) : Obj := { cls := .type "function", data := .func (l.fd doc pm ctv) }
def LamO (f : Addr) (l : LF) : HO := .ext fun h => ∃ doc pm ctv : Value, h.get? f = some (l.ob doc pm ctv)
theorem lamO_ne {f : Addr} {l : LF} (ps : Array Value) : LamO f l ≠ .tbl ps := by
  intro z
  unfold LamO at z
  cases z
theorem lamO_at {P : Program} {w : World} {H : Hp} {h : Heap} {f : Addr} {l : LF} (ok : HOk P w H h) (e : H f = some (LamO f l)) : ∃ doc pm ctv : Value, h.get? f = some (l.ob doc pm ctv) := (ok f _ e).1
/-- the lambda l stands at f, its code object too, its defaults are dvs -/
structure LamAt (H : Hp) (f : Addr) (l : LF) (dvs : List V) : Prop where
  fn : H f = some (LamO f l)
  co : H l.F.c = some (LamX.CodeO l.F.c l.F.qual)
  df : (dvs = [] ∧ l.dV = .none) ∨ (dvs ≠ [] ∧ ∃ T, l.dV = .ref T ∧ H T = some (.tup dvs))
theorem LamAt.ext {H H' : Hp} {f : Addr} {l : LF} {dvs : List V} (a : LamAt H f l dvs) (e : LamX.ExtN H H') : LamAt H' f l dvs :=
  ⟨e _ _ a.fn lamO_ne, e _ _ a.co LamX.codeO_ne, a.df.imp id fun ⟨n, T, h1, h2⟩ => ⟨n, T, h1, e _ _ h2 (fun _ z => by cases z)⟩⟩
theorem LamAt.same {H H' : Hp} {f : Addr} {l : LF} {dvs : List V} (a : LamAt H f l dvs) (e : Same H H') : LamAt H' f l dvs := a.ext fun b o h _ => e b o h
section
variable {X : Cx} {pins : List (Addr × Obj)} {σ : L2.St} {H : Hp} {s : Shared}
theorem inv_lam {l : LF} {t' : Nat} {doc pm ctv : Value} (I : Inv X pins σ H s) : Inv X pins σ (upd H s.heap.objs.size (LamO s.heap.objs.size l)) { s with heap := s.heap.push (l.ob doc pm ctv), toks := t' } := by
  have e : (s.heap.push (l.ob doc pm ctv)).get? s.heap.objs.size = some (l.ob doc pm ctv) := Heap.get?_push_size _ rfl
  exact I.laid (a := s.heap.objs.size) (fun _ _ q => Heap.get?_push_of_some _ q) (Nat.le_refl _) ⟨⟨doc, pm, ctv, e⟩, ⟨_, e⟩, fun h1 h2 ⟨d, p, t, z⟩ st => ⟨d, p, t, st _ z⟩⟩
/-- a lambda's object is made; its code object is new, or stands in the table -/
theorem lamD_make {T : List (Addr × Str)} {c P : Addr} {params : Arguments} {body : Expr} {scope : Scope} {pos : Pos} {dV : Value} {E Q : Value → Shared → Prop} (I : Inv X pins σ H s) (TB : LamX.TabB X.base X.mg c P)
    (hcode : X.env.code = .ref c) (hm : (P, X.env.qual ++ "<lambda>") ∈ T) (hu : ∀ p ∈ T, p.1 = P → p.2 = X.env.qual ++ "<lambda>")
    (hT : LamX.Tabs T H) (hfree : ∀ y ∈ scope.names, y.2 = .free → ∃ c, X.env.cells.lookup y.1 = some c)
    (h : ∀ (f c' : Addr) (H1 : Hp) (s' : Shared), Inv X pins σ H1 s' → LamX.ExtN H H1 → LamX.Tabs T H1 → H f = none →
      H1 f = some (LamO f ⟨⟨"<lambda>", X.env.qual ++ "<lambda>", params, [], scope, cloFrom X.env.cells scope.names [], c'⟩, body, dV⟩) → H1 c' = some (LamX.CodeO c' (X.env.qual ++ "<lambda>")) → Q (.ref f) s') :
    wpAny (model X.prog X.w) X.A (makeTail "<lambda>" (X.env.qual ++ "<lambda>") params (.expr body) scope X.env dV .none none pos pos.line) Q E s := by
  obtain ⟨ps, atP, tri, among⟩ := (show LamX.TabS H P (X.env.qual ++ "<lambda>") from hT _ hm)
  have bP := TB.bm.keeps I.bk
  have obP : s.heap.get? P = some { cls := .none, data := .fields ps } := I.hok P _ atP
  have tabStep : ∀ {H1 : Hp} {f : Addr} {l : LF}, LamX.Tabs T H1 → H1 f = none → LamX.Tabs T (upd H1 f (LamO f l)) := fun t n => t.ext fun b o e => by rw [upd_ne (ne_of_none e n)]; exact e
  have extStep : ∀ {H1 : Hp} {f : Addr} {l : LF}, LamX.ExtN H H1 → H1 f = none → LamX.ExtN H (upd H1 f (LamO f l)) := fun t n b o e q => by
    have z := t b o e q
    rw [upd_ne (ne_of_none z n)]
    exact z
  cases hc : codeAmong pos ps.toList with
  | some cv =>
    obtain ⟨c', rfl, hco⟩ := among pos cv hc
    refine PySem.W.kdv_makeTailHit (mg := X.mg) (c := c) (P := P) (ps := ps) (closure_ok hfree) I.ok.glob (I.mod.glob.keeps I.bk) hcode (TB.code.keeps I.bk) obP tri hc bP fun ctv doc h' tk hx hsz => ?_
    have I1 : Inv X pins σ H { s with heap := h', toks := tk } := I.kept hx
    have nF : H h'.objs.size = none := I1.hok.fresh (Nat.le_refl _)
    refine h h'.objs.size c' _ _ (inv_lam (t' := tk) I1) (extStep (LamX.ExtN.refl H) nF) (tabStep hT nF) nF upd_same ?_
    rw [upd_ne (ne_of_none hco nF)]
    exact hco
  | none =>
    refine PySem.W.kdv_makeTail (mg := X.mg) (c := c) (P := P) (ps := ps) (closure_ok hfree) I.ok.glob (I.mod.glob.keeps I.bk) hcode (TB.code.keeps I.bk) obP tri hc TB.gP bP fun c' ctv doc h' tk hx hge hlt hrec htb => ?_
    obtain ⟨c2, oc, vs, t, e2, hoc, hd, hv⟩ := hrec
    cases e2
    have nC : H c' = none := I.hok.fresh hge
    have I1 := LamX.inv_table (t' := tk) (more := #[rawInt pos.line, rawInt pos.col, .ref c']) I atP hx htb hge ⟨oc, vs, t, hoc, hd, hv⟩
    generalize hH1 : upd (upd H P (.tbl (ps ++ #[rawInt pos.line, rawInt pos.col, .ref c']))) c' (LamX.CodeO c' (X.env.qual ++ "<lambda>")) = H1 at I1
    have at1 : H1 c' = some (LamX.CodeO c' (X.env.qual ++ "<lambda>")) := by
      rw [← hH1]
      exact upd_same
    have hE : LamX.ExtN H H1 := fun b o e n => by
      rw [← hH1, upd_ne (ne_of_none e nC), upd_ne (fun z => n ps (by rw [z, atP] at e; exact (Option.some.inj e).symm))]
      exact e
    have T1 : LamX.Tabs T H1 := by
      intro p hp
      by_cases hb : p.1 = P
      · rw [hu p hp hb, hb]
        refine ⟨ps ++ #[rawInt pos.line, rawInt pos.col, .ref c'], ?_, ?_, fun p' cv hcv => ?_⟩
        · rw [← hH1, upd_ne (ne_of_none atP nC), upd_same]
        · rw [Array.toList_append]
          exact PySem.TriplesOk_snoc _ _ _ _ tri
        · rw [Array.toList_append] at hcv
          rcases LamX.among_app _ tri hcv with z | z
          · obtain ⟨c0, e1, e2⟩ := among p' cv z
            exact ⟨c0, e1, hE _ _ e2 LamX.codeO_ne⟩
          · exact ⟨c', z, at1⟩
      · obtain ⟨ps', a1, a2, a3⟩ := hT p hp
        refine ⟨ps', ?_, a2, fun p' cv hcv => ?_⟩
        · rw [← hH1, upd_ne (ne_of_none a1 nC), upd_ne hb]
          exact a1
        · obtain ⟨c0, e1, e2⟩ := a3 p' cv hcv
          exact ⟨c0, e1, hE _ _ e2 LamX.codeO_ne⟩
    have nF : H1 h'.objs.size = none := I1.hok.fresh (Nat.le_refl _)
    refine h h'.objs.size c' _ _ (inv_lam (t' := tk) I1) (extStep hE nF) (tabStep T1 nF) (I.hok.fresh (Nat.le_trans hge (Nat.le_of_lt hlt))) upd_same ?_
    rw [upd_ne (ne_of_none at1 nF)]
    exact at1
end
/-- the reading of a lambda as a value -/
def tLamV (T : List (Addr × Str)) (mk : Addr → Value → LF) (dvs : List V) : TE := fun σ H Q => LamX.Tabs T H ∧ ∀ (f c' : Addr) (dV : Value) (H1 : Hp), LamX.ExtN H H1 → LamX.Tabs T H1 → H f = none → LamAt H1 f (mk c' dV) dvs → Q (.ref f) H1
abbrev lamF (X : Cx) (params : Arguments) (body : Expr) (scope : Scope) (c' : Addr) (dV : Value) : LF := ⟨⟨"<lambda>", X.env.qual ++ "<lambda>", params, [], scope, cloFrom X.env.cells scope.names [], c'⟩, body, dV⟩
def lamFree (sc scope : Scope) : Bool := scope.names.all fun y => !decide (y.2 = .free) || decide (sc.names.lookup y.1 = some .cell) || decide (sc.names.lookup y.1 = some .free)
theorem lam_free {X : Cx} {scope : Scope} (h : lamFree X.env.scope scope = true) (ok : X.Ok) : ∀ y ∈ scope.names, y.2 = .free → ∃ c, X.env.cells.lookup y.1 = some c := by
  unfold lamFree at h
  rw [List.all_eq_true] at h
  intro y hy e
  have z := h y hy
  simp only [e, decide_true, Bool.not_true, Bool.false_or, Bool.or_eq_true, decide_eq_true_eq] at z
  exact ok.has _ z
section
variable {X : Cx}
/-- lambda: body -/
theorem pe_lam0 {T : List (Addr × Str)} {c P : Addr} {params : Arguments} {body : Expr} {scope : Scope} {pos : Pos} (TB : LamX.TabB X.base X.mg c P) (hcode : X.env.code = .ref c) (hm : (P, X.env.qual ++ "<lambda>") ∈ T)
    (hu : ∀ p ∈ T, p.1 = P → p.2 = X.env.qual ++ "<lambda>") (hdef : defaultsOf params X.env = ([], [])) (hfree : lamFree X.env.scope scope = true) :
    PE X (.Lambda params body scope pos) (tLamV T (lamF X params body scope) []) := by
  refine ⟨fun pins s σ H Q I h => ?_⟩
  obtain ⟨hT, h⟩ := h
  refine PySem.W.kla_eval hdef ?_
  rw [makeFunction_eq]
  simp only [List.zip_nil_right, List.filterMap_nil, List.isEmpty_nil, if_true, pure_bind]
  exact lamD_make I TB hcode hm hu hT (lam_free hfree I.ok) fun f c' H1 s' I1 e1 t1 n1 f1 c1 => ⟨.ref f, H1, I1, rfl, h f c' .none H1 e1 t1 n1 ⟨f1, c1, .inl ⟨rfl, rfl⟩⟩⟩
/-- lambda name=n: body -/
theorem pe_lam1 {T : List (Addr × Str)} {c P : Addr} {params : Arguments} {body : Expr} {scope : Scope} {pos : Pos} {n : Int} {j : Nat} {dp : Pos} (TB : LamX.TabB X.base X.mg c P) (hcode : X.env.code = .ref c) (hm : (P, X.env.qual ++ "<lambda>") ∈ T)
    (hu : ∀ p ∈ T, p.1 = P → p.2 = X.env.qual ++ "<lambda>") (hd : params.defaults = [.Constant (.int n) j dp]) (hk : params.kw_defaults = []) (hfree : lamFree X.env.scope scope = true) :
    PE X (.Lambda params body scope pos) (tLamV T (lamF X params body scope) [.int n]) := by
  refine ⟨fun pins s σ H Q I h => ?_⟩
  obtain ⟨hT, h⟩ := h
  refine PySem.W.kdv_lam (by rw [hd]; rfl) hk ?_
  rw [hd]
  refine PySem.W.kdv_all1 (thn ((pe_int (X := X)).run pins s σ H (fun v H1 => v = .int n ∧ H1 = H) I ⟨rfl, rfl⟩) fun u s1 ⟨v, H1, I1, r, e1, e2⟩ => PySem.W.kdv_all0 ?_)
  subst e1
  subst e2
  rw [makeFunction_eq]
  simp only [List.zip_nil_right, List.filterMap_nil, List.isEmpty_nil, List.isEmpty_cons, if_true, pure_bind, Bool.false_eq_true, if_false]
  refine wpAny_bind (wpAny_newTextTuple ?_)
  have nT : H1 s1.heap.objs.size = none := I1.hok.fresh (Nat.le_refl _)
  have I2 : Inv X pins σ (upd H1 s1.heap.objs.size (.tup [.int n])) { s1 with heap := s1.heap.push { cls := .type "tuple", data := .seq [u].toArray }, toks := s1.toks } :=
    I1.laid (fun _ _ q => Heap.get?_push_of_some _ q) (Nat.le_refl _) ⟨sz1 (by decide), [u], .cons r .nil, ⟨_, Heap.get?_push_size _ rfl, rfl, _, rfl⟩⟩
  have ex : ∀ b o, H1 b = some o → upd H1 s1.heap.objs.size (.tup [.int n]) b = some o := fun b o q => by
    rw [upd_ne (ne_of_none q nT)]
    exact q
  refine lamD_make I2 TB hcode hm hu (hT.ext ex) (lam_free hfree I.ok) fun f c' H3 s' I3 e3 t3 n3 f3 c3 => ⟨.ref f, H3, I3, rfl, ?_⟩
  refine h f c' (.ref s1.heap.objs.size) H3 ((LamX.ExtN.of ex).trans e3) t3 ?_ ⟨f3, c3, .inr ⟨by simp, _, rfl, e3 _ _ upd_same (fun _ z => by cases z)⟩⟩
  exact NdefX.upd_none n3
end
end FW
namespace FW
open PySem PySem.Spec PyProof.Rows L2
/-! ### lambdas in a list, each called two frames below the def that made them -/
theorem mod_more {K : PySem.W.Frag} {mg : Str → Option Value} {base b2 : Heap} (m : Mod K mg base) (k : ∀ b o, base.get? b = some o → b2.get? b = some o) : Mod K mg b2 := by
  obtain ⟨m1, m2, ⟨mb, m3, m4⟩, m5⟩ := m
  exact ⟨m1.keeps k, m2.keeps k, ⟨mb, m3.keeps k, m4⟩, m5.keeps k⟩
theorem funs_more {h base b2 : Heap} : ∀ {l : List Env}, h.FunFrames base l → (∀ b ∈ frs l, b2.get? b = none) → h.FunFrames b2 l
  | [], _, _ => trivial
  | env :: r, ⟨h1, ⟨L, o, hf, hn, ho, hd⟩, h3⟩, n => by
    have e : frs (env :: r) = L :: frs r := by
      unfold frs
      rw [List.filterMap_cons, hf]
    rw [e] at n
    exact ⟨h1, ⟨L, o, hf, n L (List.mem_cons_self), ho, hd⟩, funs_more h3 fun b hb => n b (List.mem_cons_of_mem _ hb)⟩
/-- a ground that holds less -/
theorem env0_less {P : Program} {w : World} {K : PySem.W.Frag} {mg : Str → Option Value} {base b2 : Heap} {A : Around} {outer : List Env} {s : Shared} {H : Hp} (e0 : Env0 P w K mg b2 A outer s H) (m : Mod K mg base) (sub : ∀ b o, base.get? b = some o → b2.get? b = some o)
    (sz : base.objs.size ≤ b2.objs.size) : Env0 P w K mg base A outer s H := by
  refine ⟨e0.frames, m, fun b o e => e0.bs b o (sub b o e), Nat.le_trans sz e0.bsz, ?_, e0.frf, e0.hok, e0.bare⟩
  refine funs_more e0.funs fun b hb => ?_
  cases e : base.get? b with
  | none => rfl
  | some o =>
    have z := (e0.funs.mem hb).1
    rw [sub b o e] at z
    cases z
/-- the ground, with the cells of the def that runs -/
theorem ground_cells {X : Cx} {pins : List (Addr × Obj)} {σ : L2.St} {H : Hp} {s : Shared} (I : Inv X pins σ H s) (hfn : ∀ x, X.fn x = true) (hst : X.stack = X.env :: X.outer) (hf : X.env.frame = some X.env.locals) :
    ∃ b2 : Heap, (∀ b o, X.base.get? b = some o → b2.get? b = some o) ∧ X.base.objs.size ≤ b2.objs.size ∧ Env0 X.prog X.w X.K X.mg b2 X.A X.stack s H ∧ ∀ y c, X.env.cells.lookup y = some c → ∀ v, s.heap.IsCell c v → b2.IsCell c v := by
  let isC : Addr → Bool := fun b => X.env.cells.any fun p => decide (X.env.cells.lookup p.1 = some b)
  have hC1 : ∀ b, isC b = true → ∃ y, X.env.cells.lookup y = some b := fun b e => by
    obtain ⟨p, _, hp⟩ := List.any_eq_true.mp e
    exact ⟨p.1, of_decide_eq_true hp⟩
  have hC2 : ∀ y b, X.env.cells.lookup y = some b → isC b = true := fun y b e => List.any_eq_true.mpr ⟨(y, b), PySem.mem_of_lookup e, decide_eq_true e⟩
  let hid : List Addr := (List.range s.heap.objs.size).filter fun b => (X.base.get? b).isNone && !isC b
  have up : ∀ b o, X.base.get? b = some o → (PySem.W.hideAll s.heap hid).get? b = some o := fun b o e => by
    refine PySem.W.hideAll_get hid (I.bk b o e) fun hm => ?_
    have z := (List.mem_filter.mp hm).2
    rw [e] at z
    simp at z
  have dn : ∀ b o, (PySem.W.hideAll s.heap hid).get? b = some o → s.heap.get? b = some o ∧ ((∃ u, X.base.get? b = some u) ∨ ∃ y, X.env.cells.lookup y = some b) := fun b o e => by
    have e1 := PySem.W.of_hideAll hid e
    refine ⟨e1, ?_⟩
    cases q : X.base.get? b with
    | some u => exact .inl ⟨u, rfl⟩
    | none =>
      cases q2 : isC b with
      | true => exact .inr (hC1 b q2)
      | false =>
        have hm : b ∈ hid := List.mem_filter.mpr ⟨List.mem_range.mpr (Heap.lt_size e1), by rw [q, q2]; rfl⟩
        have z := PySem.W.hideAll_none hid (h := s.heap) hm
        rw [e] at z
        cases z
  have sz : (PySem.W.hideAll s.heap hid).objs.size = s.heap.objs.size := PySem.W.hideAll_size hid s.heap
  have e0 := I.env0
  refine ⟨PySem.W.hideAll s.heap hid, up, by rw [sz]; exact e0.bsz, ⟨e0.frames, mod_more e0.mod up, fun b o e => ?_, Nat.le_of_eq sz, ?_, e0.frf, e0.hok, e0.bare⟩, fun y c e v ⟨o, ho, hd⟩ => ?_⟩
  · obtain ⟨e1, z⟩ := dn b o e
    refine ⟨e1, ?_⟩
    rcases z with ⟨u, z⟩ | ⟨y, z⟩
    · exact (e0.bs b u z).2
    · exact I.freeC y b z
  · refine funs_more e0.funs fun b hb => ?_
    cases q : (PySem.W.hideAll s.heap hid).get? b with
    | none => rfl
    | some o =>
      exfalso
      rcases (dn b o q).2 with ⟨u, z⟩ | ⟨y, z⟩
      · have z2 := (e0.funs.mem hb).1
        rw [z] at z2
        cases z2
      · rcases List.mem_cons.mp (I.stkSub b hb) with e | e
        · exact I.cne y b z e
        · obtain ⟨_, o2, ho2, _⟩ := I.ok.funs.mem e
          exact absurd (Nat.lt_of_lt_of_le (Heap.lt_size ho2) (I.ok.cab y b (hfn y) z)) (Nat.lt_irrefl _)
  · refine ⟨o, PySem.W.hideAll_get hid ho fun hm => ?_, hd⟩
    have z := (List.mem_filter.mp hm).2
    rw [hC2 y c e] at z
    simp at z
/-- what the cells hold, told of the ground -/
abbrev CellsIn (cl : List (Str × Addr)) (fr : List Str) (ws : List (Option V)) (g : Heap) : Prop := NdefX.CellsAt cl fr ws g fun _ => none
theorem cells_in {X : Cx} {b2 : Heap} {H : Hp} {s : Shared} {cl : List (Str × Addr)} {fr : List Str} {ws : List (Option V)} (C : NdefX.CellsAt cl fr ws s.heap H) (hs : ∀ y c, cl.lookup y = some c → ∃ y', X.env.cells.lookup y' = some c)
    (k : ∀ y c, X.env.cells.lookup y = some c → ∀ v, s.heap.IsCell c v → b2.IsCell c v) : CellsIn cl fr ws b2 := by
  have k2 : ∀ y c, cl.lookup y = some c → ∀ v, s.heap.IsCell c v → b2.IsCell c v := fun y c e v z => by
    obtain ⟨y', e'⟩ := hs y c e
    exact k y' c e' v z
  refine ⟨C.len, fun y c e => ?_, C.inj, fun i y e => ?_⟩
  · obtain ⟨_, v, z⟩ := C.all y c e
    exact ⟨rfl, v, k2 y c e v z⟩
  · obtain ⟨c, hc, hv⟩ := C.has i y e
    refine ⟨c, hc, fun v ev => ?_⟩
    obtain ⟨u, r, z⟩ := hv v ev
    exact ⟨u, r, k2 y c hc _ z⟩
theorem cells_out {b2 : Heap} {H : Hp} {h : Heap} {cl : List (Str × Addr)} {fr : List Str} {ws : List (Option V)} (C : CellsIn cl fr ws b2) (bs : ∀ b o, b2.get? b = some o → h.get? b = some o ∧ H b = none) : NdefX.CellsAt cl fr ws h H := by
  have k : ∀ c v, b2.IsCell c v → h.IsCell c v ∧ H c = none := fun c v ⟨o, ho, hd⟩ => ⟨⟨o, (bs c o ho).1, hd⟩, (bs c o ho).2⟩
  refine ⟨C.len, fun y c e => ?_, C.inj, fun i y e => ?_⟩
  · obtain ⟨_, v, z⟩ := C.all y c e
    exact ⟨(k c _ z).2, v, (k c _ z).1⟩
  · obtain ⟨c, hc, hv⟩ := C.has i y e
    refine ⟨c, hc, fun v ev => ?_⟩
    obtain ⟨u, r, z⟩ := hv v ev
    exact ⟨u, r, (k c _ z).1⟩
/-- what a call of the lambda does, by what its cells hold -/
def LamRun (P : Program) (w : World) (K : PySem.W.Frag) (mg : Str → Option Value) (base : Heap) (k : Nat) (l : LF) (dvs : List V) (fr : List Str) (tb : List (Option V) → XK → Hp → VK → Prop) : Prop :=
  ∀ (A : Around) (outer : List Env) (s : Shared) (H : Hp) (f : Addr) (ws : List (Option V)) (Q : VK) (E : XK), Room k A → Env0 P w K mg base A outer s H → LamAt H f l dvs → NdefX.CellsAt l.F.cl fr ws s.heap H → tb ws E H Q →
    codeAny (model P w) A (.call (.ref f) ⟨[], []⟩) (CR (L2.CX P w) outer P w H s Q E) s
/-- what its parameters are bound to -/
def LamBinds (P : Program) (w : World) (l : LF) (dvs : List V) (ps : List Str) : Prop :=
  ∀ (s : Shared) (H : Hp) (f : Addr), HOk P w H s.heap → LamAt H f l dvs → ∀ doc pm ctv : Value, ∃ us, Vals dvs us ∧ BindsTo s (l.fd doc pm ctv) ⟨[], []⟩ (ps.zip us)
theorem lam_run {P : Program} {w : World} {K : PySem.W.Frag} {mg : Str → Option Value} {base : Heap} {k : Nat} {l : LF} {dvs : List V} {N ps fr : List Str} {tb : XK → TE} (S : NdefX.NScope N ps fr l.F.scope) (hl : dvs.length = ps.length) (hb : LamBinds P w l dvs ps)
    (hbody : ∀ (A : Around) (outer : List Env) (s : Shared) (H : Hp) (E : XK) (f : Addr), Room k (A.deeper (NdefX.envF l.F f s.heap.objs.size)) → PE (NdefX.ncx (L2.CX P w) P w K mg base N l.F f A outer s H E) l.e (tb E)) :
    LamRun P w K mg base (k + 1) l dvs fr fun ws E H Q => tb E (NdefX.startF N dvs ws) H Q := by
  intro A outer s H f ws Q E hr e0 la C h
  obtain ⟨doc, pm, ctv, ho⟩ := lamO_at e0.hok la.fn
  obtain ⟨us, r, hbd⟩ := hb s H f e0.hok la doc pm ctv
  have lim : s.heap.NoLimit := e0.mod.nolimit.keeps fun b o e => (e0.bs b o e).1
  refine PySem.W.kla_callFunE hr.depth ho rfl S.co S.gen rfl (NdefX.codeO_at e0.hok la.co) ?_
  refine hbd _ _ _ _ (wpAny_newFunctionEnv S.nocell (fun ⟨n, _⟩ hy => S.par n (List.of_mem_zip hy).1) (fun h₁ hns hsb => ⟨lim.fresh _ hsb, ?_⟩) S.kind)
  show codeAny _ _ (.expr l.e (NdefX.envF l.F f s.heap.objs.size)) _ _
  have kp : ∀ b o, s.heap.get? b = some o → h₁.get? b = some o := fun b o e => hsb.extBut b o (Nat.ne_of_lt (Heap.lt_size e)) (Heap.get?_push_of_some _ e)
  have I : Inv (NdefX.ncx (L2.CX P w) P w K mg base N l.F f A outer s H E) [] (NdefX.startF N dvs ws) H { s with heap := h₁, toks := s.toks + (ps.zip us).length } := NdefX.inv_startN S hr.hd e0 hl r C hns kp
  refine PySem.W.kla_codeExpr (wpAny_mono ((hbody A outer s H E f (hr.deeper _)).run [] _ _ H Q I h) (fun v s' hq => ?_) fun e s' hq => hq)
  obtain ⟨w', H', J', rv, q⟩ := hq
  exact ⟨w', H', J'.os, J'.bare, J'.base, J'.hok, rv, q⟩
theorem binds_0 {P : Program} {w : World} {l : LF} (h : l.dV = .none → ∀ doc pm ctv : Value, bindArgs (l.fd doc pm ctv) ⟨[], []⟩ = pure []) : LamBinds P w l [] [] := fun s H f _ la doc pm ctv => by
  rcases la.df with ⟨_, e⟩ | ⟨n, _⟩
  · exact ⟨[], .nil, BindsTo.of_eq (h e doc pm ctv)⟩
  · exact absurd rfl n
theorem binds_1 {P : Program} {w : World} {l : LF} {x : V} {p : Str} (h : ∀ doc pm ctv : Value, ∃ k : Option (Array Value) → Sem (List (Str × Value)), bindArgs (l.fd doc pm ctv) ⟨[], []⟩ = seqItems? l.dV >>= k ∧ ∀ u : Value, k (some #[u]) = pure [(p, u)]) : LamBinds P w l [x] [p] := by
  intro s H f ok la doc pm ctv
  rcases la.df with ⟨z, _⟩ | ⟨_, T, e1, e2⟩
  · cases z
  · obtain ⟨_, its, r, ob, hob, _, n, hd⟩ := ok T _ e2
    cases r with
    | cons r rr =>
      cases rr
      obtain ⟨k, h1, h2⟩ := h doc pm ctv
      exact ⟨[_], .cons r .nil, BindsTo.of_defaults (T := T) (o := ob) (n := n) (k := k) e1 hob hd h1 (h2 _)⟩
section
variable {Z : Cx}
/-- a(), a a local that holds the lambda; the ground tells what its cells hold -/
theorem pe_ask {base : Heap} {k : Nat} {f : Addr} {l : LF} {dvs : List V} {fr : List Str} {ws : List (Option V)} {tb : List (Option V) → XK → Hp → VK → Prop} {a : Str} {E : XK} {p1 p2 : Pos} (lr : LamRun Z.prog Z.w Z.K Z.mg base k l dvs fr tb) (C : CellsIn l.F.cl fr ws Z.base)
    (m : Mod Z.K Z.mg base) (sub : ∀ b o, base.get? b = some o → Z.base.get? b = some o) (sz : base.objs.size ≤ Z.base.objs.size) (hr : Room k Z.A) (hx : Passes (L2.CX Z.prog Z.w) Z E) (hN : Z.N[0]? = some a) (hv : Vis Z.env.scope a) (hd : (a == ("__debug__" : Str)) = false) (hcd : (a == ("__classdict__" : Str)) = false) :
    PE Z (.Call (.Name a p1) [] [] p2) (fun σ H Q => σ[0]? = some (some (.ref f)) ∧ H l.F.c = some (LamX.CodeO l.F.c l.F.qual) ∧ LamAt H f l dvs ∧ tb ws E H Q) := by
  refine ⟨fun pins s σ H Q I h => ?_⟩
  obtain ⟨hs, hc, la, ht⟩ := h
  refine wpAny_Call_Name_kw (thn ((pe_var (pos := p1) (i := 0) hN hv hd hcd).run pins s σ H (fun v H1 => v = .ref f ∧ H1 = H) I ⟨.ref f, hs, rfl, rfl⟩) fun u s1 ⟨v, H1, I1, r1, q1⟩ => ?_)
  obtain ⟨ev, eH⟩ := q1
  subst ev
  rw [eH] at I1
  obtain rfl : u = Value.ref f := r1
  obtain ⟨doc, pm, ctv, ho⟩ := lamO_at I1.hok la.fn
  refine PySem.W.callWith_F0 (first := []) ⟨_, _, _, _, ho⟩ ?_
  show wpAny _ _ (call (.ref f) []) _ _ _
  refine wpAny_call (codeAny_mono (lr Z.A Z.stack s1 H f ws Q E hr (env0_less I1.env0 m sub sz) la (cells_out C I1.bs) ht) fun r s' hq => ?_)
  cases r with
  | error e => exact hx pins σ H s1 e s' I1 hq
  | ok fl =>
    cases fl with
    | ret u => exact I1.after hq
    | next => exact False.elim hq
    | brk => exact False.elim hq
    | cont => exact False.elim hq
end
/-- x(y) where y holds a lambda that x calls and whose errors it takes -/
def LamIt (P : Program) (w : World) (K : PySem.W.Frag) (mg : Str → Option Value) (base b2 : Heap) (k : Nat) (cs : List Value) (f : Addr) (H : Hp) (Q : VK) : Prop := ∃ (l : LF) (dvs : List V) (fr : List Str) (ws : List (Option V)) (tb : List (Option V) → XK → Hp → VK → Prop),
  LamAt H f l dvs ∧ LamRun P w K mg base k l dvs fr tb ∧ CellsIn l.F.cl fr ws b2 ∧ ∃ Q0 : VK, TTry K cs (tb ws) H Q0 ∧ ∀ v H', Q0 v H' → Q v H'
def tItem (P : Program) (w : World) (K : PySem.W.Frag) (mg : Str → Option Value) (base b2 : Heap) (k : Nat) (cs : List Value) (i : Nat) : TE := fun σ H Q => ∃ f : Addr, σ[i]? = some (some (.ref f)) ∧ LamIt P w K mg base b2 k cs f H Q
section
variable {X : Cx}
theorem pe_item {base : Heap} {k i : Nat} {cs : List Value} {x a y : Str} {g : Addr} {pg : Arguments} {bg : List Stmt} {sg : Scope} {dV kV doc pm cdv ct oc : Value} {an od : Option Addr} {osl : Array (Option Value)} {Ng : List Str} {p py pos : Pos}
    (m : Mod X.K X.mg base) (sub : ∀ b o, base.get? b = some o → X.base.get? b = some o) (sz : base.objs.size ≤ X.base.objs.size)
    (hg : Gl X x) (hm : X.mg x = some (.ref g)) (hk : PySem.W.keepIn X.K (.ref g) = true) (lk : X.K.lookup g = some ⟨oc, od, .func (PySem.W.fnOf x x pg bg sg dV kV doc pm an cdv ct), osl⟩) (hcg : PySem.W.codeIn X.K cdv x = true)
    (hb : L2.Binds X.K (PySem.W.fnOf x x pg bg sg dV kV doc pm an cdv ct) [a] []) (Sg : FnScope Ng [a] sg) (hNg : Ng[0]? = some a) (hva : Vis sg a) (hG : ∀ q : Str, LamX.GivesTo X Ng x sg g cdv bg a q (TTry X.K cs)) (hr : Room (k + 1) X.A)
    (hN : X.N[i]? = some y) (hv : Vis X.env.scope y)
    (hdb : (x == ("__debug__" : Str)) = false := by decide) (hd : (a == ("__debug__" : Str)) = false := by decide) (hcd : (a == ("__classdict__" : Str)) = false := by decide) (hyd : (y == ("__debug__" : Str)) = false := by decide) (hyc : (y == ("__classdict__" : Str)) = false := by decide) :
    PE X (.Call (.Name x p) [.Name y py] [] pos) (tItem X.prog X.w X.K X.mg base X.base k cs i) := by
  refine ⟨fun pins s σ H Q I h => ?_⟩
  obtain ⟨f, hs, l, dvs, fr, ws, tb, la, lr, C, Q0, ht, hQ⟩ := h
  refine wpAny_Call_Name_kw (ld_glob I hg hm ?_ hdb)
  refine PySem.W.callWith_K (h₀ := X.base) I.ok.mod.kin hk ?_ (by rfl) (by rfl)
  show wpAny _ _ (spliced ((false, eval (.Name y py) X.env) :: backTo pos (starEach [] X.env))) _ _ s
  refine Calls.spliced_cons (thn ((pe_var (pos := py) (i := i) hN hv hyd hyc).run pins s σ H (fun v H1 => v = .ref f ∧ H1 = H) I ⟨.ref f, hs, rfl, rfl⟩) fun u s1 ⟨v, H1, I1, r1, q1⟩ => ?_)
  obtain ⟨ev, eH⟩ := q1
  subst ev
  rw [eH] at I1
  obtain rfl : u = Value.ref f := r1
  refine Calls.spliced_nil ⟨I1.kIn, ?_⟩
  have rc : codeAny (model X.prog X.w) X.A (.call (.ref g) ⟨[.ref f], []⟩) (CR C8.CX0 X.stack X.prog X.w H s1 Q0 C8.E0) s1 := by
    refine LamX.run_ofS (N := Ng) (ps := [a]) (us := [.ref f]) (vs := [.ref f]) lk hcg Sg hr I1.env0 (hb s1 [.ref f] I1.kIn rfl) (.cons rfl .nil) rfl fun hr' => ?_
    obtain ⟨t', ht', hq'⟩ := hG l.F.qual f l.F.c s1 H Q0 (fun E H' Q' => LamAt H' f l dvs ∧ tb ws E H' Q') (fun W pn xe E p1 p2 tk hW => pe_ask (Z := (cxOf C8.CX0 X.prog X.w X.K X.mg X.base Ng x sg g cdv X.A X.stack s1 H C8.E0).tr pn xe) (base := base) lr C m sub sz hr' (passes_call tk hW) hNg hva hd hcd)
      la.co ⟨la, ht⟩
    exact ⟨t', ht'.nox, hq'⟩
  refine wpAny_call (codeAny_mono rc fun r s2 hq => ?_)
  cases r with
  | error e => exact (show False from hq).elim
  | ok fl =>
    cases fl with
    | ret u =>
      obtain ⟨v, H', I', rv, q⟩ := I1.after hq
      exact ⟨v, H', I', rv, hQ v H' q⟩
    | next => exact False.elim hq
    | brk => exact False.elim hq
    | cont => exact False.elim hq
end
/-- the list l of the lambdas fs, walked; D the new list -/
def ChainI (it : Addr → Hp → VK → Prop) (l D : Addr) (all : List V) (Q : VK) : List Addr → List V → Hp → Prop
  | [], _, H => Q (.ref D) H
  | f :: r, acc, H => it f H fun v H1 => H1 l = some (.lst all) ∧ H1 D = some (.lst acc) ∧ ChainI it l D all Q r (acc ++ [v]) (upd H1 D (.lst (acc ++ [v])))
def sp_tries (P : Program) (w : World) (K : PySem.W.Frag) (mg : Str → Option Value) (base b2 : Heap) (k : Nat) (cs : List Value) : Sp := fun vs H Q _ => ∃ (l : Addr) (fs : List Addr), vs = [.ref l] ∧ fs.length < sizeLine ∧ H l = some (.lst (fs.map V.ref)) ∧
  ∀ D, H D = none → ChainI (LamIt P w K mg base b2 k cs) l D (fs.map V.ref) Q fs [] (upd H D (.lst []))
/-- [x(y) for y in l], the list's items by turns -/
theorem chain_walk {P : Program} {w : World} {K : PySem.W.Frag} {mg : Str → Option Value} {base b2 : Heap} {k : Nat} {cs : List Value} {σ : L2.St} {H1 : Hp} {l D : Addr} {fs : List Addr} {vs : List Nat} {i : Nat} {Q : VK} (hi : ∀ x : V, wipe ((wipe σ vs).set i (some x)) vs = wipe σ vs) (hl2 : i < (wipe σ vs).length)
    (sz : fs.length < sizeLine) (nD : H1 D = none) (hl : H1 l = some (.lst (fs.map V.ref))) (h : ChainI (LamIt P w K mg base b2 k cs) l D (fs.map V.ref) Q fs [] (upd H1 D (.lst []))) :
    ∃ W : Nat → Nat → Hp → Prop, (∃ m, W 0 m (upd H1 D (.lst []))) ∧ ∀ j m H, W j m H →
      ((Itl K l).stop j H ∧ Q (.ref D) H) ∨ ((Itl K l).go j H ∧ ∃ Nx : Hp → Prop, (∀ H', Nx H' → ∃ m', m' < m ∧ W (j + 1) m' H') ∧ ∀ x H', (Itl K l).yld j H x H' → gName i x (wipe σ vs) H' fun σ2 H2 => wipe σ2 vs = wipe σ vs ∧ tYes σ2 H2 fun b H3 =>
        if b = true then tItem P w K mg base b2 k cs i σ2 H3 fun y H4 => ∃ acc, H4 D = some (.lst acc) ∧ acc.length < sizeLine ∧ Nx (upd H4 D (.lst (acc ++ [y]))) else Nx H3) := by
  have nl : l ≠ D := ne_of_none hl nD
  refine lc_list (K := K) (a := l) (xs := fs.map V.ref) (fun j H => ∃ acc : List V, acc.length = j ∧ H l = some (.lst (fs.map V.ref)) ∧ H D = some (.lst acc) ∧ ChainI (LamIt P w K mg base b2 k cs) l D (fs.map V.ref) Q (fs.drop j) acc H) ⟨[], rfl, by rw [upd_ne nl]; exact hl, upd_same, h⟩
    (fun j H _ pv => .inl (.inl (by obtain ⟨_, _, z, _⟩ := pv; exact z))) (fun j x H ex pv => ?_) fun H pv => ?_
  · obtain ⟨acc, ha, h1, h2, hc⟩ := pv
    have hj : j < fs.length := by
      have z := (List.getElem?_eq_some_iff.mp ex).1
      rw [List.length_map] at z
      exact z
    have ex2 : x = V.ref fs[j] := by
      rw [List.getElem?_map, List.getElem?_eq_getElem hj] at ex
      exact (Option.some.inj ex).symm
    subst ex2
    rw [List.drop_eq_getElem_cons hj] at hc
    refine ⟨hi _, ?_⟩
    show tItem P w K mg base b2 k cs i _ H _
    refine ⟨fs[j], List.getElem?_set_self hl2, ?_⟩
    obtain ⟨lf, dvs, fr, ws, tb, la, lr, C, ht⟩ := hc
    refine ⟨lf, dvs, fr, ws, tb, la, lr, C, ?_⟩
    obtain ⟨Q0, ht, hQ⟩ := ht
    refine ⟨Q0, ht, fun v H4 q => ?_⟩
    obtain ⟨c1, c2, c3⟩ := hQ v H4 q
    have hlen : acc.length < sizeLine := by omega
    refine ⟨acc, c2, hlen, acc ++ [v], ?_, ?_, upd_same, c3⟩
    · rw [List.length_append, ha]
      rfl
    · rw [upd_ne nl]
      exact c1
  · obtain ⟨acc, ha, h1, h2, hc⟩ := pv
    rw [List.length_map, List.drop_length] at hc
    exact hc
/-- a lambda of the law's list: how it is made, what its call does -/
structure AskS (X : Cx) (k : Nat) where
  lam : Addr → Value → LF
  dvs : List V
  fr : List Str
  js : List Nat
  tb : List (Option V) → XK → Hp → VK → Prop
  run : ∀ c' dV, LamRun X.prog X.w X.K X.mg X.base k (lam c' dV) dvs fr tb
  caps : X.Ok → ∀ c' dV, NdefX.Caps X (lam c' dV).F.cl fr js
/-- told at the law: each lambda of the list l tried, D the new list -/
def ChainL (X : Cx) (k : Nat) (cs : List Value) (σ : L2.St) (l D : Addr) (all : List V) (Q : VK) : List (Addr × AskS X k) → List V → Hp → Prop
  | [], _, H => Q (.ref D) H
  | (f, a) :: r, acc, H => (∃ c' dV, LamAt H f (a.lam c' dV) a.dvs) ∧ TTry X.K cs (a.tb (a.js.map (NdefX.slotAt σ))) H fun v H1 => H1 l = some (.lst all) ∧ H1 D = some (.lst acc) ∧ ChainL X k cs σ l D all Q r (acc ++ [v]) (upd H1 D (.lst (acc ++ [v])))
def tTries {X : Cx} {k : Nat} (cs : List Value) (asks : List (AskS X k)) (t : TA) : TE := fun σ H Q => t σ H fun vs H1 => ∃ (l : Addr) (fs : List Addr), vs = [.ref l] ∧ fs.length = asks.length ∧ H1 l = some (.lst (fs.map V.ref)) ∧
  ∀ D, H1 D = none → ChainL X k cs σ l D (fs.map V.ref) Q (fs.zip asks) [] (upd H1 D (.lst []))
section
variable {X : Cx} {pins : List (Addr × Obj)} {σ : L2.St} {H0 : Hp} {s : Shared} {k : Nat} {cs : List Value} {b2 : Heap}
theorem chain_in (I : Inv X pins σ H0 s) (kc : ∀ y c, X.env.cells.lookup y = some c → ∀ v, s.heap.IsCell c v → b2.IsCell c v) {l D : Addr} {all : List V} {Q : VK} : ∀ (r : List (Addr × AskS X k)) (acc : List V) (H : Hp),
    ChainL X k cs σ l D all Q r acc H → ChainI (LamIt X.prog X.w X.K X.mg X.base b2 k cs) l D all Q (r.map (·.1)) acc H
  | [], _, _, h => h
  | (f, a) :: r, acc, H, ⟨⟨c', dV, la⟩, ht⟩ => by
    have cp := a.caps I.ok c' dV
    refine ⟨a.lam c' dV, a.dvs, a.fr, a.js.map (NdefX.slotAt σ), a.tb, la, a.run c' dV, cells_in (NdefX.cells_of I cp) (fun y c e => ⟨y, cp.sub y c e⟩) kc, _, ht, fun v H1 ⟨q1, q2, q3⟩ => ⟨q1, q2, chain_in I kc r _ _ q3⟩⟩
end
section
variable {X : Cx}
/-- x(e): the lambdas of the list e tried, one by one -/
theorem pe_tries {k kk : Nat} {cs : List Value} {x a : Str} {g : Addr} {fd : FuncData} {e : Expr} {t : TA} {p pos : Pos} (asks : List (AskS X k)) (hn : asks.length < sizeLine) (hfn : ∀ x, X.fn x = true) (hst : X.stack = X.env :: X.outer) (hf : X.env.frame = some X.env.locals)
    (F : ∀ b2 : Heap, Mod X.K X.mg X.base → (∀ b o, X.base.get? b = some o → b2.get? b = some o) → X.base.objs.size ≤ b2.objs.size → FnOk X.prog X.w X.K X.mg b2 C8.CX0 kk g fd [a] (sp_tries X.prog X.w X.K X.mg X.base b2 k cs))
    (hr : Room kk X.A) (hg : Gl X x) (hm : X.mg x = some (.ref g)) (hk : PySem.W.keepIn X.K (.ref g) = true) (hb : L2.Binds X.K fd [a] []) (ha : PA X [e] t)
    (hdb : (x == ("__debug__" : Str)) = false := by decide) (he : starEach [e] X.env = [(false, eval e X.env)] := by rfl) : PE X (.Call (.Name x p) [e] [] pos) (tTries cs asks t) := by
  refine ⟨fun pins s σ H Q I h => ?_⟩
  refine wpAny_Call_Name_kw (ld_glob I hg hm ?_ hdb)
  refine PySem.W.callWith_K (h₀ := X.base) I.ok.mod.kin hk (thn (ha.run pos pins s σ H _ I h) fun us s1 ⟨vs, H1, I1, r, q⟩ => ⟨I1.kIn, ?_⟩) he (by rfl)
  obtain ⟨l, fs, rfl, hl, hH, hc⟩ := q
  obtain ⟨b2, sub, sz, e0, kc⟩ := ground_cells I1 hfn hst hf
  have hlen : us.length = [a].length := by
    rw [← r.length]
    rfl
  have hz : (fs.zip asks).map (·.1) = fs := by
    rw [List.map_fst_zip]
    omega
  have hsp : sp_tries X.prog X.w X.K X.mg X.base b2 k cs [.ref l] H1 Q C8.E0 := ⟨l, fs, rfl, by omega, hH, fun D nD => by
    have z := chain_in (b2 := b2) I1 kc _ _ _ (hc D nD)
    rw [hz] at z
    exact z⟩
  refine wpAny_call (codeAny_mono ((F b2 I1.ok.mod sub sz).run X.A X.stack s1 H1 ⟨us, []⟩ us [.ref l] Q C8.E0 hr e0 (by have z := hb s1 us I1.kIn (by rw [List.append_nil]; exact hlen); rw [List.append_nil] at z; exact z) r hsp) fun r s' hq => ?_)
  cases r with
  | error e => exact (show False from hq).elim
  | ok fl =>
    cases fl with
    | ret u => exact I1.after hq
    | next => exact False.elim hq
    | brk => exact False.elim hq
    | cont => exact False.elim hq
end
end FW
namespace FW
open PySem PySem.Spec PyProof.Rows L2
/-! ### the lambdas of a list, by their texts -/
def lamParts : Expr → Arguments × Expr × Scope
  | .Lambda p b s _ => (p, b, s)
  | e => (⟨[], [], none, [], [], none, []⟩, e, default)
def listOf : Stmt → List Expr
  | .Assign _ (.List es _) _ => es
  | _ => []
section
variable {X : Cx} {k : Nat}
def ask0 (params : Arguments) (body : Expr) (scope : Scope) (N fr : List Str) (js : List Nat) {tb : XK → TE} (hS : NdefX.nscB N [] fr scope = true) (hB : NdefX.ndefB X.env.scope scope fr = true) (hjs : js.map (fun j => X.N[j]?) = fr.map some)
    (hb : ∀ (q : Str) (cl : List (Str × Addr)) (doc pm cv ctv : Value), bindArgs (PySem.W.kdv_fn "<lambda>" q params (.expr body) scope cl .none doc pm cv ctv) ⟨[], []⟩ = pure [])
    (hbody : ∀ (c' : Addr) (dV : Value) (A : Around) (outer : List Env) (s : Shared) (H : Hp) (E : XK) (f : Addr), Room k (A.deeper (NdefX.envF (lamF X params body scope c' dV).F f s.heap.objs.size)) →
      PE (NdefX.ncx (L2.CX X.prog X.w) X.prog X.w X.K X.mg X.base N (lamF X params body scope c' dV).F f A outer s H E) body (tb E)) : AskS X (k + 1) where
  lam := lamF X params body scope
  dvs := []
  fr := fr
  js := js
  tb := fun ws E H Q => tb E (NdefX.startF N [] ws) H Q
  run := fun c' dV => lam_run (tb := tb) (NdefX.nscope_by hS) rfl (binds_0 fun e doc pm ctv => by
    have e : dV = .none := e
    subst e
    exact hb _ _ _ _ _ _) (hbody c' dV)
  caps := fun ok c' dV => NdefX.Caps.made ok (NdefX.ndef_free hB) (NdefX.ndef_fr hB) hjs
def ask1 (params : Arguments) (body : Expr) (scope : Scope) (p : Str) (n : Int) (N fr : List Str) (js : List Nat) {tb : XK → TE} (hS : NdefX.nscB N [p] fr scope = true) (hB : NdefX.ndefB X.env.scope scope fr = true) (hjs : js.map (fun j => X.N[j]?) = fr.map some)
    (hb : ∀ (q : Str) (cl : List (Str × Addr)) (dV doc pm cv ctv : Value), ∃ k : Option (Array Value) → Sem (List (Str × Value)), bindArgs (PySem.W.kdv_fn "<lambda>" q params (.expr body) scope cl dV doc pm cv ctv) ⟨[], []⟩ = seqItems? dV >>= k ∧ ∀ u : Value, k (some #[u]) = pure [(p, u)])
    (hbody : ∀ (c' : Addr) (dV : Value) (A : Around) (outer : List Env) (s : Shared) (H : Hp) (E : XK) (f : Addr), Room k (A.deeper (NdefX.envF (lamF X params body scope c' dV).F f s.heap.objs.size)) →
      PE (NdefX.ncx (L2.CX X.prog X.w) X.prog X.w X.K X.mg X.base N (lamF X params body scope c' dV).F f A outer s H E) body (tb E)) : AskS X (k + 1) where
  lam := lamF X params body scope
  dvs := [.int n]
  fr := fr
  js := js
  tb := fun ws E H Q => tb E (NdefX.startF N [.int n] ws) H Q
  run := fun c' dV => lam_run (tb := tb) (NdefX.nscope_by hS) rfl (binds_1 fun doc pm ctv => hb _ _ _ _ _ _ _) (hbody c' dV)
  caps := fun ok c' dV => NdefX.Caps.made ok (NdefX.ndef_free hB) (NdefX.ndef_fr hB) hjs
end
/-! ### o.m(k = e, ..) -/
section
variable {X : Cx} {CX : CXT} {k j : Nat} {f C : Addr} {fd : FuncData} {ps ks : List Str} {sp : Sp} {E : XK} {m : Str} {pos apos : Pos} {o : Expr} {kws : List Keyword} {ta : TE} {tk : TA} {g : List Value → List Value → List Value} {gV : List V → List V → List V}
def tMethK (C : Addr) (m : Str) (sp : Sp) (gV : List V → List V → List V) (E : XK) (ta : TE) (tk : TA) : TE := fun σ H Q => ta σ H fun x H1 => ∃ a dx fs, x = .ref a ∧ H1 a = some (.ins C dx fs) ∧ fs.lookup m = none ∧ tk σ H1 fun zs H2 => sp (gV [x] zs) H2 Q E
theorem pe_methK0 {pl : Sem Bool} (he : PE X o ta) (c : Cls X.K C) (hm : Meth X.K C m f) (F : FnOk X.prog X.w X.K X.mg X.base CX k f fd ps sp) (hr : Room k X.A) (hb : KBinds X.K fd ps ks g gV) (hx : Passes CX X E) (hkw : PK X kws tk)
    (hall : (backToKw pos (keywordEach kws X.env)).all (·.1.isSome) = true := by rfl) (hks : (backToKw pos (keywordEach kws X.env)).filterMap (·.1) = ks := by rfl) (hpl : ((backTo pos (starEach [] X.env)).any (·.1) || (backToKw pos (keywordEach kws X.env)).any (·.1.isNone)) = false := by rfl)
    (ht : eval (.Call (.Attribute o m apos) [] kws pos) X.env = (do
      let ov ← eval o X.env
      standAt apos.atName
      let (f, first) ← holding [ov] (getMethod ov m pl)
      callWith pos f first (backTo pos (starEach [] X.env)) (backToKw pos (keywordEach kws X.env))) := by rfl) :
    PE X (.Call (.Attribute o m apos) [] kws pos) (tMethK C m sp gV E ta tk) := by
  refine ⟨fun pins s σ H Q I h => ?_⟩
  refine PySem.W.methodCall_KW (pl := pl) (thn (he.run pins s σ H _ I h) fun u s1 ⟨x, H1, I1, rx, a, dx, fs, ex, ea, l, q⟩ => ?_) ht
  subst ex
  obtain rfl : u = Value.ref a := rx
  refine getmeth_ok I1 ea c hm l ?_
  refine PySem.W.callWith_KW0 (first := [.ref a]) (h₀ := X.base) I1.ok.mod.kin hm.kp hall (thn (hkw.run pos pins s1 σ H1 _ I1 q) fun ws s2 ⟨zs, H2, I2, rz, q2⟩ => ⟨I2.kIn, ?_⟩) hpl
  rw [hks]
  exact run_fnk (us := [.ref a]) (vs := [.ref a]) F hr hb hx I2 (.cons rfl .nil) rz q2
structure MCalK (P : Program) (w : World) (K : PySem.W.Frag) (mg : Str → Option Value) (base : Heap) (CX : CXT) (C : Addr) (k : Nat) (m : Str) (ps ks : List Str) (g : List Value → List Value → List Value) (gV : List V → List V → List V) (sp : Sp) : Prop where
  ex : ∃ (f : Addr) (fd : FuncData), Meth K C m f ∧ FnOk P w K mg base CX k f fd ps sp ∧ KBinds K fd ps ks g gV
theorem pe_mk0 {pl : Sem Bool} (c : MCalK X.prog X.w X.K X.mg X.base CX0 C k m ps ks g gV sp) (hC : Cls X.K C) (hr : Room j X.A) (hk : k ≤ j) (he : PE X o ta) (hkw : PK X kws tk)
    (hall : (backToKw pos (keywordEach kws X.env)).all (·.1.isSome) = true := by rfl) (hks : (backToKw pos (keywordEach kws X.env)).filterMap (·.1) = ks := by rfl) (hpl : ((backTo pos (starEach [] X.env)).any (·.1) || (backToKw pos (keywordEach kws X.env)).any (·.1.isNone)) = false := by rfl)
    (ht : eval (.Call (.Attribute o m apos) [] kws pos) X.env = (do
      let ov ← eval o X.env
      standAt apos.atName
      let (f, first) ← holding [ov] (getMethod ov m pl)
      callWith pos f first (backTo pos (starEach [] X.env)) (backToKw pos (keywordEach kws X.env))) := by rfl) :
    PE X (.Call (.Attribute o m apos) [] kws pos) (tMethK C m sp gV E0 ta tk) := by
  obtain ⟨f, fd, hm, F, b⟩ := c.ex
  exact pe_methK0 he hC hm F (hr.mono hk) b pass0 hkw hall hks hpl ht
end
def swp1 {α : Type} : List α → List α → List α
  | [a], [u, v] => [a, v, u]
  | _, _ => []
theorem swp1_vals {vs : List V} {us : List Value} {zs : List V} {ws : List Value} (r : Vals vs us) (q : Vals zs ws) : Vals (swp1 vs zs) (swp1 us ws) := by
  cases r with
  | nil => exact .nil
  | cons r0 rr =>
    cases rr with
    | cons _ _ => exact .nil
    | nil =>
      cases q with
      | nil => exact .nil
      | cons q0 qq =>
        cases qq with
        | nil => exact .nil
        | cons q1 qqq =>
          cases qqq with
          | nil => exact .cons r0 (.cons q1 (.cons q0 .nil))
          | cons _ _ => exact .nil
theorem kbm_swap {K : PySem.W.Frag} {x qual : Str} {st : Stmt} {f : Addr} {fd : FuncData} {p0 p1 p2 : Str} (F : Fun K x qual st f fd)
    (h : ∀ (kV doc pm : Value) (an : Option Addr) (cdv ct : Value) (a u v : Value), bindArgs (PySem.W.fnOf x qual (defArgs st) (defBody st) (defScope st) .none kV doc pm an cdv ct) ⟨[a], [(p2, u), (p1, v)]⟩ = pure [(p0, a), (p1, v), (p2, u)]) :
    KBinds K fd [p0, p1, p2] [p2, p1] swp1 swp1 := by
  obtain ⟨oc, od, kV, doc, pm, an, cdv, ct, osl, rfl, lk, hcd⟩ := F.ex
  refine ⟨fun s us ws _ hl => ?_, fun r q => swp1_vals r q⟩
  match us, ws, hl with
  | [a], [u, v], _ => exact .of_eq (h kV doc pm an cdv ct a u v)
  | [], ws, hl => exact absurd (show 0 = 3 from hl) (by decide)
  | [_], [], hl => exact absurd (show 0 = 3 from hl) (by decide)
  | [_], [_], hl => exact absurd (show 0 = 3 from hl) (by decide)
  | [_], _ :: _ :: _ :: _, hl => exact absurd (show 0 = 3 from hl) (by decide)
  | _ :: _ :: _, ws, hl => exact absurd (show 0 = 3 from hl) (by decide)
/-- an error class of the program that the law's own try takes; f: what its error bears -/
structure ErrF (K : PySem.W.Frag) (mg : Str → Option Value) (C : Addr) (f z : String) (cs : List Value) : Prop where
  kls : ∃ fI, Kls K mg C fI z
  nf : PySem.W.findIn K (.ref C) (Str.ofString f) = some none
  hex : PySem.W.exmAny K (.ref C) cs = some true
  fi : ∀ v, FieldIs K C [("code", .str (Str.ofString z)), (Str.ofString f, v)] (Str.ofString z) v
abbrev ErrK (K : PySem.W.Frag) (mg : Str → Option Value) (C : Addr) (z : String) (cs : List Value) : Prop := ErrF K mg C "given" z cs
def givenB (z : Str) : Bool := !decide (z ∈ (["InvalidLine", "InvalidStep", "InvalidTable", "InvalidBad", "InvalidPlan", "UnknownRoom"] : List Str)) && !decide (z ∈ (["TooMany", "Full"] : List Str)) && !decide (z ∈ (["InvalidText", "InvalidPage"] : List Str)) && !decide (z = "UnknownState") && !decide (z ∈ (["InvalidPaper", "OtherFaces", "OtherCutters", "NothingLeft"] : List Str))
theorem fi_given {K : PySem.W.Frag} {C : Addr} {z : Str} (h : givenB z = true) (nf : PySem.W.findIn K (.ref C) (Str.ofString "given") = some none) (v : V) : FieldIs K C [("code", .str z), (Str.ofString "given", v)] z v := by
  unfold givenB at h
  simp only [Bool.and_eq_true, Bool.not_eq_true', decide_eq_false_iff_not] at h
  obtain ⟨⟨⟨⟨h1, h2⟩, h3⟩, h4⟩, h5⟩ := h
  unfold FieldIs
  rw [if_neg h1, if_neg h2, if_neg h3, if_neg h4, if_neg h5]
  exact ⟨nf, rfl⟩
theorem fi_at {K : PySem.W.Frag} {C : Addr} {z : Str} (h : decide (z ∈ (["InvalidLine", "InvalidStep", "InvalidTable", "InvalidBad", "InvalidPlan", "UnknownRoom"] : List Str)) = true) (nf : PySem.W.findIn K (.ref C) (Str.ofString "at") = some none) (v : V) : FieldIs K C [("code", .str z), (Str.ofString "at", v)] z v := by
  unfold FieldIs
  rw [if_pos (of_decide_eq_true h)]
  exact ⟨nf, rfl⟩
/-- what the law's try makes of such an error -/
theorem ErrF.tried {K : PySem.W.Frag} {mg : Str → Option Value} {C : Addr} {f z : String} {cs : List Value} {Q : VK} {H1 : Hp} {v : V} {d : Addr} (T : ErrF K mg C f z cs) (nd : H1 d = none) (h : ∀ H2 p, Same H1 H2 → H2 p = none → Q (.ref p) (upd H2 p (.tup [.str (Str.ofString z), v]))) :
    PySem.W.exmAny K (.ref C) cs = some true ∧ ∀ a, (upd H1 d (Err1 f z v)) a = none → ∃ (z' : Str) (v' : V), Caught K (upd (upd H1 d (Err1 f z v)) a (ExK (.ref C) (some d) a)) a z' v' ∧ ∀ H2, Same (upd (upd H1 d (Err1 f z v)) a (ExK (.ref C) (some d) a)) H2 → ∀ p, H2 p = none → Q (.ref p) (upd H2 p (.tup [.str z', v'])) := by
  obtain ⟨fI, k⟩ := T.kls
  refine ⟨T.hex, fun a na => ⟨Str.ofString z, v, ?_, fun H2 s2 p np => h H2 p (((same_upd nd).trans (same_upd na)).trans s2) np⟩⟩
  have hne : d ≠ a := fun e => by
    rw [← e, upd_same] at na
    cases na
  exact ⟨C, d, _, upd_same, (upd_ne hne).trans upd_same, k.xf, k.ncode, rfl, T.fi v⟩
end FW
namespace FW
open PySem PySem.Spec PyProof.Rows L2
/-! ### sorted: texts, as many as there are -/
theorem strs_vals : ∀ {xs : List Str} {us : List Value}, Vals (xs.map V.str) us → StrsAre us xs
  | [], [], _ => .nil
  | [], _ :: _, h => by cases h
  | _ :: _, [], h => by cases h
  | x :: xs, u :: us, h => by
    have h1 : L2.RelV (.str x) u ∧ Vals (xs.map V.str) us := by
      cases h with
      | cons a b => exact ⟨a, b⟩
    obtain ⟨t, rfl⟩ := h1.1
    exact .cons x t (strs_vals h1.2)
theorem vals_strs {xs : List Str} {us : List Value} (h : StrsAre us xs) : Vals (xs.map V.str) us := by
  induction h with
  | nil => exact .nil
  | cons y t h ih => exact .cons ⟨t, rfl⟩ ih
def rSortedSA (K : PySem.W.Frag) : List V → Hp → VK → Prop := fun vs H Q => ∃ (a : Addr) (xs : List Str), vs = [V.ref a] ∧ SqL K H a (xs.map V.str) ∧ ∀ (ys : List Str) (p : Addr), ys.Perm xs → PyProof.Rows.sortedS ys = true → H p = none → Q (.ref p) (upd H p (.lst (ys.map V.str)))
section
variable {X : Cx}
theorem cr_sortedSA : CallR X (.builtin "sorted") (rSortedSA X.K) := by
  intro pins s σ H vs us Q I r h
  obtain ⟨a, xs, rfl, hs, q⟩ := h
  obtain ⟨its, rv, hl, hz⟩ := I.list hs
  obtain ⟨u, rfl, ru⟩ := L2.vals1 r
  obtain rfl : u = Value.ref a := ru
  have hst := strs_vals rv
  refine sorted_strsAny hl.isList hst (by rw [← rv.length]; exact hz) fun out ss' ho hp hso => ?_
  obtain ⟨n, hn⟩ := sortedAll_at s.heap its out
  refine ⟨.ref (s.heap.objs.size + 1), upd H (s.heap.objs.size + 1) (.lst (ss'.map V.str)), I.laid (t' := s.toks) (fun b o e => sortedAll_old e) (Nat.le_succ _) ⟨?_, out.toList, n, vals_strs ho, ?_⟩, rfl, q _ _ hp hso (I.hok.fresh (Nat.le_succ _))⟩
  · rw [List.length_map, hp.length_eq]
    rwa [List.length_map] at hz
  · rw [Array.toArray_toList]
    exact hn
end
end FW
namespace FW
open PySem PySem.Spec PyProof.Rows L2
/-! ### a text so many times -/
def rMulS : R2 := fun x y H Q => ∃ (z : Str) (n : Int), x = .str z ∧ y = .int n ∧ MulOk z n ∧ Q (.str (Txt.mul z n)) H
theorem op_mulS {X : Cx} : OpR X (binaryOp .Mult) rMulS := by
  intro pins s σ H x y v u Q I rx ry h
  obtain ⟨z, n, rfl, rfl, ok, q⟩ := h
  obtain ⟨t, rfl⟩ := rx
  obtain ⟨t', rfl⟩ := ry
  exact SB.mul ok fun t'' k => ⟨.str _, H, I.tok _, ⟨_, rfl⟩, q⟩
theorem mulOk1 (c : Nat) {n : Int} (h : n = 3 ∨ n = 4 ∨ n = 5) : MulOk (S [c]) n := by
  rcases h with rfl | rfl | rfl
  · exact ⟨by decide, fun _ _ => (by decide : ¬ ((1 : Nat) : Int) > (2 ^ 63 - 1) / 3), fun _ _ => (by decide : Builtin.Str.tooLong (1 * 3) = false)⟩
  · exact ⟨by decide, fun _ _ => (by decide : ¬ ((1 : Nat) : Int) > (2 ^ 63 - 1) / 4), fun _ _ => (by decide : Builtin.Str.tooLong (1 * 4) = false)⟩
  · exact ⟨by decide, fun _ _ => (by decide : ¬ ((1 : Nat) : Int) > (2 ^ 63 - 1) / 5), fun _ _ => (by decide : Builtin.Str.tooLong (1 * 5) = false)⟩
theorem mul3 (c : Nat) : Txt.mul (S [c]) 3 = S [c, c, c] := rfl
theorem mul4 (c : Nat) : Txt.mul (S [c]) 4 = S [c, c, c, c] := rfl
theorem mul5 (c : Nat) : Txt.mul (S [c]) 5 = S [c, c, c, c, c] := rfl
end FW
namespace FW
open PySem PySem.Spec PyProof.Rows L2
/-! ### helpers of many laws -/
theorem lastOf {α : Type} {l : List α} (h : 0 < l.length) : ∃ i z, l = i ++ [z] := ⟨l.dropLast, l.getLast (List.ne_nil_of_length_pos h), (List.dropLast_concat_getLast _).symm⟩
theorem atI_lst {α : Type} {i : List α} {z : α} : atI (i ++ [z]) (-1) = some z := by
  have h : ixN (i ++ [z]).length (-1) = some i.length := by
    unfold ixN
    rw [List.length_append]
    show (if (0 : Int) ≤ -1 then _ else _) = _
    rw [if_neg (by omega), if_pos (by show -((i.length + 1 : Nat) : Int) ≤ -1; omega)]
    congr 1
    show ((-1 : Int) + ((i.length + 1 : Nat) : Int)).toNat = i.length
    omega
  unfold atI
  rw [h]
  show (i ++ [z])[i.length]? = some z
  rw [List.getElem?_append_right (Nat.le_refl _), Nat.sub_self]
  rfl
theorem rep_flat {α : Type} (x : α) (k : Nat) : (List.replicate (k : Int).toNat [x]).flatten = List.replicate k x := by
  rw [Int.toNat_natCast]
  induction k with
  | zero => rfl
  | succ k ih => rw [List.replicate_succ, List.replicate_succ, List.flatten_cons, ih]; rfl
/-- a comprehension over the signs of a text: tests and items that leave the heap -/
theorem lc_strP {z : Str} {σ : L2.St} {vs : List Nat} {H1 : Hp} {D : Addr} {Qd : Hp → Prop} {i : Nat} {tt : TT} {te : TE} (t : Nat → Bool) (v : Nat → V) (nD : H1 D = none) (hz : z.cps.size < sizeLine) (hw : ∀ x : V, wipe ((wipe σ vs).set i (some x)) vs = wipe σ vs)
    (hT : ∀ c ∈ z.cps.toList, ∀ H, Same H1 H → ∀ R : Bool → Hp → Prop, R (t c) H → tt ((wipe σ vs).set i (some (sgn c))) H R)
    (hE : ∀ c ∈ z.cps.toList, t c = true → ∀ H, Same H1 H → ∀ R : VK, R (v c) H → te ((wipe σ vs).set i (some (sgn c))) H R)
    (q : Qd (upd H1 D (.lst ((z.cps.toList.filter t).map v)))) :
    ∃ W : Nat → Nat → Hp → Prop, (∃ m, W 0 m (upd H1 D (.lst []))) ∧ ∀ j m H, W j m H →
      ((Its z).stop j H ∧ Qd H) ∨ ((Its z).go j H ∧ ∃ Nx : Hp → Prop, (∀ H', Nx H' → ∃ m', m' < m ∧ W (j + 1) m' H') ∧ ∀ x H', (Its z).yld j H x H' → gName i x (wipe σ vs) H' fun σ2 H2 => wipe σ2 vs = wipe σ vs ∧ tt σ2 H2 fun b H3 =>
        if b = true then te σ2 H3 fun y H4 => ∃ acc, H4 D = some (.lst acc) ∧ acc.length < sizeLine ∧ Nx (upd H4 D (.lst (acc ++ [y]))) else Nx H3) := by
  refine lc_it walk_str (fun i H' => H' = upd H1 D (.lst (((z.cps.toList.take i).filter t).map v))) rfl (fun _ _ _ _ => trivial) ?_ ?_
  · rintro j x _ _ hj rfl ⟨rfl, c, hc, rfl⟩
    have hc1 : z.cps.toList[j]? = some c := by rw [Array.getElem?_toList]; exact hc
    have e : z.cps.toList.take (j + 1) = z.cps.toList.take j ++ [c] := by
      rw [List.take_add_one, hc1]
      rfl
    have hm := List.mem_of_getElem? hc1
    refine ⟨hw _, hT c hm _ (same_upd nD) _ ?_⟩
    rw [e, List.filter_append, List.filter_cons]
    cases h : t c with
    | true =>
      rw [if_pos rfl]
      refine hE c hm h _ (same_upd nD) _ ⟨_, upd_same, ?_, ?_⟩
      · rw [List.length_map]
        refine Nat.lt_of_le_of_lt (List.length_filter_le _ _) (Nat.lt_of_le_of_lt (List.length_take_le' _ _) hz)
      · rw [upd_upd, if_pos rfl, List.map_append]
        rfl
    | false =>
      rw [if_neg Bool.false_ne_true, if_neg Bool.false_ne_true, List.filter_nil, List.append_nil]
  · rintro _ rfl
    rw [List.take_of_length_le (show z.cps.toList.length ≤ z.cps.size from Nat.le_refl _)]
    exact q
/-- the same over a list -/
theorem lc_listP {K : PySem.W.Frag} {a : Addr} {xs : List V} {σ : L2.St} {vs : List Nat} {H1 : Hp} {D : Addr} {Qd : Hp → Prop} {i : Nat} {tt : TT} {te : TE} (t : V → Bool) (v : V → V) (ha : SqL K H1 a xs) (nD : H1 D = none) (hz : xs.length < sizeLine) (hw : ∀ x : V, wipe ((wipe σ vs).set i (some x)) vs = wipe σ vs)
    (hT : ∀ x ∈ xs, ∀ H, Same H1 H → ∀ R : Bool → Hp → Prop, R (t x) H → tt ((wipe σ vs).set i (some x)) H R)
    (hE : ∀ x ∈ xs, t x = true → ∀ H, Same H1 H → ∀ R : VK, R (v x) H → te ((wipe σ vs).set i (some x)) H R)
    (q : Qd (upd H1 D (.lst ((xs.filter t).map v)))) :
    ∃ W : Nat → Nat → Hp → Prop, (∃ m, W 0 m (upd H1 D (.lst []))) ∧ ∀ j m H, W j m H →
      ((Itl K a).stop j H ∧ Qd H) ∨ ((Itl K a).go j H ∧ ∃ Nx : Hp → Prop, (∀ H', Nx H' → ∃ m', m' < m ∧ W (j + 1) m' H') ∧ ∀ x H', (Itl K a).yld j H x H' → gName i x (wipe σ vs) H' fun σ2 H2 => wipe σ2 vs = wipe σ vs ∧ tt σ2 H2 fun b H3 =>
        if b = true then te σ2 H3 fun y H4 => ∃ acc, H4 D = some (.lst acc) ∧ acc.length < sizeLine ∧ Nx (upd H4 D (.lst (acc ++ [y]))) else Nx H3) := by
  refine lc_it (walk_list (xs := xs)) (fun i H' => H' = upd H1 D (.lst (((xs.take i).filter t).map v))) rfl (fun j H' _ e => by rw [e]; exact (same_upd nD).seq ha) ?_ ?_
  · rintro j x _ H' hj rfl ⟨rfl, hc1⟩
    have e : xs.take (j + 1) = xs.take j ++ [x] := by
      rw [List.take_add_one, hc1]
      rfl
    have hm := List.mem_of_getElem? hc1
    refine ⟨hw _, hT x hm _ (same_upd nD) _ ?_⟩
    rw [e, List.filter_append, List.filter_cons]
    cases h : t x with
    | true =>
      rw [if_pos rfl]
      refine hE x hm h _ (same_upd nD) _ ⟨_, upd_same, ?_, ?_⟩
      · rw [List.length_map]
        refine Nat.lt_of_le_of_lt (List.length_filter_le _ _) (Nat.lt_of_le_of_lt (List.length_take_le' _ _) hz)
      · rw [upd_upd, if_pos rfl, List.map_append]
        rfl
    | false =>
      rw [if_neg Bool.false_ne_true, if_neg Bool.false_ne_true, List.filter_nil, List.append_nil]
  · rintro _ rfl
    rw [List.take_of_length_le (Nat.le_refl _)]
    exact q
section
variable {K : PySem.W.Frag}
/-- a value of some kind, no error's own -/
structure OddX (K : PySem.W.Frag) (H : Hp) (v : V) (d : PyData) : Prop where
  kind : (isStr v = true ∧ (strOf v).cps.size ≤ 100) ∨ NS H v
  dp : Dp K H v d
  deep : ∀ n, Deep (n + 1) d
theorem OddX.same {H H' : Hp} {v : V} {d : PyData} (o : OddX K H v d) (s : Same H H') : OddX K H' v d := ⟨o.kind.imp id fun n => n.same s, Dp.same s o.dp, o.deep⟩
theorem OddX.ext {H H' : Hp} {v : V} {d : PyData} (o : OddX K H v d) (e : LamX.ExtN H H') : OddX K H' v d := ⟨o.kind.imp id fun n => ns_ext e n, dp_ext e o.dp, o.deep⟩
theorem OddX.askd {H : Hp} {v : V} {d : PyData} (o : OddX K H v d) : Askd K H v := o.kind.elim (fun h => .inl ⟨h.1, Nat.le_trans h.2 (by decide)⟩) fun n => .inr n.not
theorem oddX_str {H : Hp} {z : Str} (h : z.cps.size ≤ 100) : OddX K H (.str z) (.str z) := ⟨.inl ⟨rfl, h⟩, .str z, fun _ => by unfold Deep; trivial⟩
theorem oddX_non {H : Hp} : OddX K H .non .none := ⟨.inr (.inl rfl), .non, fun _ => by unfold Deep; trivial⟩
theorem oddX_int {H : Hp} (n : Int) : OddX K H (.int n) (.int n) := ⟨.inr (.inr (.inl ⟨_, rfl⟩)), .int n, fun _ => by unfold Deep; trivial⟩
theorem oddX_bl {H : Hp} (c : Bool) : OddX K H (.bl c) (.bool c) := ⟨.inr (.inr (.inr (.inl ⟨_, rfl⟩))), .bl c, fun _ => by unfold Deep; trivial⟩
theorem oddX_lst {H : Hp} {p : Addr} (zs : List Str) (h : H p = some (.lst (zs.map V.str))) (hl : zs.length ≤ 100) : OddX K H (.ref p) (.list (zs.map PyData.str)) :=
  ⟨.inr (.inr (.inr (.inr (.inl ⟨p, _, rfl, h⟩)))), .lst (SqL.of h) (dp_strs zs), fun n => deep_strs (by omega)⟩
theorem oddX_tup {H : Hp} {p : Addr} (zs : List Str) (h : H p = some (.tup (zs.map V.str))) (hl : zs.length ≤ 100) : OddX K H (.ref p) (.tuple (zs.map PyData.str)) :=
  ⟨.inr (.inr (.inr (.inr (.inr ⟨p, _, rfl, h⟩)))), .tup (SqT.of h) (dp_strs zs), fun n => by
    unfold Deep
    refine ⟨by rw [List.length_map]; omega, fun d hd => ?_⟩
    obtain ⟨c, _, rfl⟩ := List.mem_map.mp hd
    unfold Deep
    trivial⟩
/-- the same, and it stays while the bag alone changes -/
def OddD (K : PySem.W.Frag) (b : Addr) (H : Hp) (v : V) (d : PyData) : Prop := ∀ H', But b H H' → OddX K H' v d
theorem OddD.now {H : Hp} {b : Addr} {v : V} {d : PyData} (o : OddD K b H v d) : OddX K H v d := o H (Same.refl H).but
theorem OddD.drawn {H H' : Hp} {b : Addr} {v : V} {d : PyData} (o : OddD K b H v d) (s : But b H H') : OddD K b H' v d := fun H2 s2 => o H2 (s.trans s2)
theorem OddD.same {H H' : Hp} {b : Addr} {v : V} {d : PyData} (o : OddD K b H v d) (s : Same H H') : OddD K b H' v d := o.drawn s.but
theorem oddD_of {H : Hp} {b : Addr} {v : V} {d : PyData} (h : ∀ H', OddX K H' v d) : OddD K b H v d := fun H' _ => h H'
theorem oddD_lst {H : Hp} {b p : Addr} (zs : List Str) (n : p ≠ b) (h : H p = some (.lst (zs.map V.str))) (hl : zs.length ≤ 100) : OddD K b H (.ref p) (.list (zs.map PyData.str)) := fun H' s => oddX_lst zs (s _ _ n h) hl
theorem oddD_tup {H : Hp} {b p : Addr} (zs : List Str) (n : p ≠ b) (h : H p = some (.tup (zs.map V.str))) (hl : zs.length ≤ 100) : OddD K b H (.ref p) (.tuple (zs.map PyData.str)) := fun H' s => oddX_tup zs (s _ _ n h) hl
theorem ns_letter {H : Hp} {v : V} (n : NS H v) (L : List Nat) : bLetter v L = false := by
  unfold bLetter
  rw [(n.not (K := default)).1]
  rfl
theorem str_room {l F : List Nat} (h : l.length ≠ 4 ∨ ∃ c ∈ l, c ∉ F) : bRoom (.str (S l)) (S F) = false := by
  unfold bRoom
  rcases h with h | ⟨c, hc, hF⟩
  · rw [show decide ((strOf (V.str (S l))).cps.size = 4) = false from decide_eq_false h, Bool.and_false]
  · rw [show bString (.str (S l)) (S F) = false from by
      unfold bString
      rw [show ((strOf (V.str (S l))).cps.toList.all fun c => decide (c ∈ (S F).cps.toList)) = false from by
        rw [List.all_eq_false]
        exact ⟨c, hc, by simpa using hF⟩]
      rfl, Bool.false_and]
theorem str_letter {l L : List Nat} (h : l.length ≠ 1 ∨ ∃ c, l = [c] ∧ c ∉ L) : bLetter (.str (S l)) L = false := by
  unfold bLetter
  rcases h with h | ⟨c, rfl, hc⟩
  · rw [show decide ((strOf (V.str (S l))).cps.size = 1) = false from decide_eq_false h]
    rfl
  · rw [show decide ((strOf (V.str (S [c]))).cps.toList.getD 0 0 ∈ L) = false from decide_eq_false hc, Bool.and_false]
/-- a number or None as data -/
def dOptN : Option Nat → PyData
  | some i => .int (i : Nat)
  | none => .none
theorem deep_non {n : Nat} : Deep n .none := by unfold Deep; trivial
theorem deep_bool {n : Nat} {b : Bool} : Deep n (.bool b) := by unfold Deep; trivial
theorem deep_int {n : Nat} {i : Int} : Deep n (.int i) := by unfold Deep; trivial
theorem deep_str {n : Nat} {z : Str} : Deep n (.str z) := by unfold Deep; trivial
theorem deep_tup {n : Nat} {ds : List PyData} (h : ds.length ≤ 1000) (q : ∀ d ∈ ds, Deep n d) : Deep (n + 1) (.tuple ds) := by
  unfold Deep
  exact ⟨h, q⟩
theorem deep_optN {n : Nat} (o : Option Nat) : Deep n (dOptN o) := by
  cases o
  · exact deep_non
  · exact deep_int
theorem deep_mono : ∀ (n : Nat) {d : PyData}, Deep n d → Deep (n + 1) d
  | n, .none, _ => deep_non
  | n, .bool _, _ => deep_bool
  | n, .int _, _ => deep_int
  | n, .str _, _ => deep_str
  | 0, .list _, h => by unfold Deep at h; exact h.elim
  | 0, .tuple _, h => by unfold Deep at h; exact h.elim
  | n + 1, .list ds, h => by
    unfold Deep at h
    exact deep_list h.1 fun d hd => deep_mono n (h.2 d hd)
  | n + 1, .tuple ds, h => by
    unfold Deep at h
    exact deep_tup h.1 fun d hd => deep_mono n (h.2 d hd)
  | 0, .dict _, h => by unfold Deep at h; exact h.elim
  | n + 1, .dict _, h => by unfold Deep at h; exact h.elim
end
end FW
namespace FW
open PySem PySem.Spec PyProof.Rows L2
/-! ### the lambdas of a list, tried one by one: what is told of each -/
section
variable {X : Cx} {k : Nat} {cs : List Value} {σ : L2.St}
/-- one lambda of the list: D is the list that is filled -/
def OneAsk (cs : List Value) (σ : L2.St) (Hn : Hp) (D : Addr) (fa : Addr × AskS X k) (d : PyData) : Prop :=
  ∀ H, Same Hn H → (∃ acc, H D = some (.lst acc)) → (∃ c' dV, LamAt H fa.1 (fa.2.lam c' dV) fa.2.dvs) ∧
    ∀ Q' : VK, (∀ H' v, Same H H' → (∀ Hx, But D H' Hx → Dp X.K Hx v d) → Q' v H') → TTry X.K cs (fa.2.tb (fa.2.js.map (NdefX.slotAt σ))) H Q'
def AllAsk (cs : List Value) (σ : L2.St) (Hn : Hp) (D : Addr) : List (Addr × AskS X k) → List PyData → Prop
  | [], [] => True
  | fa :: r, d :: ds => OneAsk cs σ Hn D fa d ∧ AllAsk cs σ Hn D r ds
  | _, _ => False
theorem dpAll_snoc {K : PySem.W.Frag} {H : Hp} : ∀ {vs : List V} {ds : List PyData} {v : V} {d : PyData}, DpAll K H vs ds → Dp K H v d → DpAll K H (vs ++ [v]) (ds ++ [d])
  | _, _, _, _, .nil, h => .cons h .nil
  | _, _, _, _, .cons a t, h => .cons a (dpAll_snoc t h)
theorem chain_run {Hn : Hp} {l D : Addr} {all : List V} {Q : VK} (nD : Hn D = none) (hl : Hn l = some (.lst all)) : ∀ (r : List (Addr × AskS X k)) (ds : List PyData) (acc : List V) (dacc : List PyData) (H : Hp), Same Hn H → H D = some (.lst acc) →
    (∀ Hx, But D H Hx → DpAll X.K Hx acc dacc) → AllAsk cs σ Hn D r ds → (∀ H' vs, Same Hn H' → H' D = some (.lst vs) → DpAll X.K H' vs (dacc ++ ds) → Q (.ref D) H') → ChainL X k cs σ l D all Q r acc H
  | [], [], acc, dacc, H, s, hD, hd, _, q => q H acc s hD (by rw [List.append_nil]; exact hd H fun _ _ _ e => e)
  | [], _ :: _, _, _, _, _, _, _, a, _ => a.elim
  | _ :: _, [], _, _, _, _, _, _, a, _ => a.elim
  | (f, a) :: r, d :: ds, acc, dacc, H, s, hD, hd, ⟨h1, h2⟩, q => by
    obtain ⟨la, ht⟩ := h1 H s ⟨acc, hD⟩
    refine ⟨la, ht _ fun H' v s' hv => ⟨s' _ _ (s _ _ hl), s' _ _ hD, ?_⟩⟩
    have sn : Same Hn (upd H' D (.lst (acc ++ [v]))) := fun c o e => (upd_ne (ne_of_none e nD)).trans (s' _ _ (s _ _ e))
    refine chain_run nD hl r ds (acc ++ [v]) (dacc ++ [d]) _ sn upd_same (fun Hx bx => ?_) h2 (fun H2 vs s2 h2 hd2 => q H2 vs s2 h2 (by rw [List.append_assoc] at hd2; exact hd2))
    have b1 : But D H' Hx := fun c o n e => bx c o n ((upd_ne n).trans e)
    exact dpAll_snoc (hd Hx fun c o n e => b1 c o n (s' _ _ e)) (hv Hx b1)
theorem tries_run {H1 : Hp} {l : Addr} {fs : List Addr} {asks : List (AskS X k)} {Q : VK} (ds : List PyData) (hl : H1 l = some (.lst (fs.map V.ref))) (one : ∀ D, H1 D = none → AllAsk cs σ H1 D (fs.zip asks) ds) (q : ∀ H' D, Same H1 H' → H1 D = none → Dp X.K H' (.ref D) (.list ds) → Q (.ref D) H') :
    ∀ D, H1 D = none → ChainL X k cs σ l D (fs.map V.ref) Q (fs.zip asks) [] (upd H1 D (.lst [])) := fun D nD =>
  chain_run nD hl _ ds [] [] _ (same_upd nD) upd_same (fun _ _ => .nil) (one D nD) fun H' vs s hD hd => q H' D s nD (.lst (SqL.of hD) hd)
/-- an ask that raises -/
theorem oneAsk_err {Hn : Hp} {D f : Addr} {a : AskS X k} {mg : Str → Option Value} {C : Addr} {fld z : String} {v : V} {dv : PyData} {c' : Addr} {dV : Value} (T : ErrF X.K mg C fld z cs) (nD : Hn D = none) (la : LamAt Hn f (a.lam c' dV) a.dvs) (hv : Dp X.K Hn v dv)
    (h : ∀ H, Same Hn H → ∀ (E : XK) (Q : VK), (∀ H' d, Same H H' → H' d = none → E (.ref C) (some d) (upd H' d (Err1 fld z v))) → a.tb (a.js.map (NdefX.slotAt σ)) E H Q) : OneAsk cs σ Hn D (f, a) (.tuple [.str (Str.ofString z), dv]) := by
  refine fun H s hD => ⟨⟨c', dV, la.same s⟩, fun Q' q => h H s _ _ fun H' d s' nd => T.tried nd fun H2 p s2 np => ?_⟩
  have st := same_upd (o := HO.tup [.str (Str.ofString z), v]) np
  refine q _ _ (s'.trans (s2.trans st)) fun Hx bx => ?_
  obtain ⟨acc, hD⟩ := hD
  have hpD : p ≠ D := fun e => by
    rw [e, s2 _ _ (s' _ _ hD)] at np
    cases np
  have sx : Same Hn Hx := fun c o e => bx c o (ne_of_none e nD) (st _ _ (s2 _ _ (s' _ _ (s _ _ e))))
  exact .tup (SqT.of (bx _ _ hpD upd_same)) (.cons (.str _) (.cons (Dp.same sx hv) .nil))
/-- an ask that answers -/
theorem oneAsk_ok {Hn : Hp} {D f : Addr} {a : AskS X k} {dv : PyData} {c' : Addr} {dV : Value} (nD : Hn D = none) (la : LamAt Hn f (a.lam c' dV) a.dvs)
    (h : ∀ H, Same Hn H → (∃ acc, H D = some (.lst acc)) → ∀ (E : XK) (Q : VK), (∀ H' v, Same H H' → (∀ Hx, But D H' Hx → Dp X.K Hx v dv) → Q v H') → a.tb (a.js.map (NdefX.slotAt σ)) E H Q) : OneAsk cs σ Hn D (f, a) (.tuple [.str "", dv]) := by
  refine fun H s hD => ⟨⟨c', dV, la.same s⟩, fun Q' q => h H s hD _ _ fun H' v s' hv => ⟨(show 2 ≤ sizeLine by decide), fun p np => ?_⟩⟩
  have st := same_upd (o := HO.tup [.str "", v]) np
  refine q _ _ (s'.trans st) fun Hx bx => ?_
  obtain ⟨acc, hD⟩ := hD
  have hpD : p ≠ D := fun e => by
    rw [e, s' _ _ hD] at np
    cases np
  have b1 : But D H' Hx := fun c o n e => bx c o n (st _ _ e)
  exact .tup (SqT.of (bx _ _ hpD upd_same)) (.cons (.str _) (.cons (hv Hx b1) .nil))
end
end FW
namespace FW
open PySem PySem.Spec PyProof.Rows L2
/-! ### len, repr and bool of own objects -/
section
variable {X : Cx} {CX : CXT} {C f : Addr} {n : Nat} {sp : Sp} {E : XK}
def rOwn1 (C : Addr) (sp : Sp) (E : XK) (ok : V → Prop) : List V → Hp → VK → Prop := fun xs H Q => ∃ a dx fs, xs = [V.ref a] ∧ H a = some (.ins C dx fs) ∧ sp [.ref a] H (fun v H' => ok v ∧ Q v H') E
theorem cr_lenO (hs : PySem.W.findIn X.K (.ref C) "__len__" = some (some (.ref f))) (hf : PySem.W.isFn X.K (.ref f) = true) (F : FnR X.prog X.w X.K X.mg X.base CX n f sp) (hr : Room (n + 1) X.A) (hx : Passes CX X E) :
    CallR X (.builtin "len") (rOwn1 C sp E fun v => ∃ i : Int, v = .int i ∧ 0 ≤ i ∧ i < 2 ^ 63) := by
  intro pins s σ H vs us Q I r h
  obtain ⟨a, dx, fs, rfl, ha, q⟩ := h
  obtain ⟨u, rfl, ru⟩ := L2.vals1 r
  obtain rfl : u = Value.ref a := ru
  obtain ⟨mA, J, _⟩ := ins_get I.hok ha
  obtain ⟨od, J, _⟩ := J.look
  obtain ⟨m, hF⟩ := I.fr
  refine PySem.W.len_K hF I.ok.mod.kin J hs hf ?_
  refine wpAny_mono (wpAny_call (SlX.run_at (us := [.ref a]) (ws := [.ref a]) F hr.in1 I.env0.in1 hx I (.cons rfl .nil) q)) (fun w s' z => ?_) fun _ _ x => x
  obtain ⟨z', H', I', rz, ⟨i, rfl, h0, h1⟩, qz⟩ := z
  obtain ⟨t, rfl⟩ := rz
  exact ⟨⟨h0, h1⟩, .int i, H', I'.tok _, ⟨_, rfl⟩, qz⟩
theorem cr_reprO (hs : PySem.W.findIn X.K (.ref C) "__repr__" = some (some (.ref f))) (hf : PySem.W.isFn X.K (.ref f) = true) (F : FnR X.prog X.w X.K X.mg X.base CX n f sp) (hr : Room (n + 1) X.A) (hx : Passes CX X E) :
    CallR X (.builtin "repr") (rOwn1 C sp E fun v => ∃ z : Str, v = .str z) := by
  intro pins s σ H vs us Q I r h
  obtain ⟨a, dx, fs, rfl, ha, q⟩ := h
  obtain ⟨u, rfl, ru⟩ := L2.vals1 r
  obtain rfl : u = Value.ref a := ru
  obtain ⟨mA, J, _⟩ := ins_get I.hok ha
  obtain ⟨od, J, _⟩ := J.look
  obtain ⟨m, hF⟩ := I.fr
  refine PySem.W.repr_K (by have := hr.in1.un; omega) hF I.ok.mod.kin J hs hf ?_
  refine wpAny_mono (wpAny_call (SlX.run_at (us := [.ref a]) (ws := [.ref a]) F hr.in1 I.env0.in1 hx I (.cons rfl .nil) q)) (fun w s' z => ?_) fun _ _ x => x
  obtain ⟨z', H', I', rz, ⟨z, rfl⟩, qz⟩ := z
  obtain ⟨t, rfl⟩ := rz
  exact ⟨.str z, H', I', ⟨_, rfl⟩, qz⟩
theorem cr_boolO (hs : PySem.W.findIn X.K (.ref C) "__bool__" = some (some (.ref f))) (hf : PySem.W.isFn X.K (.ref f) = true) (F : FnR X.prog X.w X.K X.mg X.base CX n f sp) (hr : Room (n + 2) X.A) (hx : Passes CX X E) :
    CallR X (.type "bool") (rOwn1 C sp E fun v => ∃ b : Bool, v = .bl b) := by
  intro pins s σ H vs us Q I r h
  obtain ⟨a, dx, fs, rfl, ha, q⟩ := h
  obtain ⟨u, rfl, ru⟩ := L2.vals1 r
  obtain rfl : u = Value.ref a := ru
  obtain ⟨mA, J, _⟩ := ins_get I.hok ha
  obtain ⟨od, J, _⟩ := J.look
  obtain ⟨m, hF⟩ := I.fr
  refine callType_newIn PySem.F.called_bool (by decide) (PySem.F.typeCall_bool_1 _) (PySem.F.newCall_bool_1 _) (fun obj => PySem.F.args_object_init_2 obj _) PySem.F.entry_bool_new
    (S := fun A R s => wpAny (model X.prog X.w) A.in1 (truthy (.ref a)) (fun b s' => R (.ok (.ret (.bool b))) s') (fun e s' => R (.error e) s') s) ?_ ?_
  · intro A R s h
    unfold Builtin.«bool.__new__»
    repeat (first | (refine wpAny_bind (m := truthy _) (wpAny_mono h (fun b s' hb => ?_) fun _ _ e => e)) | wp_step)
    exact hb
  · refine PySem.W.truthy_K hF I.ok.mod.kin J hs hf ?_
    refine wpAny_mono (wpAny_call (SlX.run_at (us := [.ref a]) (ws := [.ref a]) F hr.in1.in1 I.env0.in1.in1 hx I (.cons rfl .nil) q)) (fun w s' z => ?_) fun _ _ x => x
    obtain ⟨z', H', I', rz, ⟨b, rfl⟩, qz⟩ := z
    obtain rfl : w = Value.bool b := rz
    exact ⟨PySem.typeIs_bool _ b, .bl b, H', I', rfl, qz⟩
end
end FW
namespace FW
open PySem PySem.Spec PyProof.Rows L2
/-! ### rules with the frag given; methods that take any number of values -/
theorem ix_listE {X : Cx} {K : PySem.W.Frag} (h : X.K = K) : IxR X (rIxL K) := by
  subst h
  exact ix_list
theorem ix_tupE {X : Cx} {K : PySem.W.Frag} (h : X.K = K) : IxR X (rIxT K) := by
  subst h
  exact ix_tup
theorem op_inE {X : Cx} {K : PySem.W.Frag} (h : X.K = K) : OpR X (compareOp .In) (rIn K false) := by
  subst h
  exact op_in_seq
theorem op_notInE {X : Cx} {K : PySem.W.Frag} (h : X.K = K) : OpR X (compareOp .NotIn) (rIn K true) := by
  subst h
  exact op_notIn_seq
theorem sl_tupE {X : Cx} {K : PySem.W.Frag} (h : X.K = K) : SlR X (rSlT K) := by
  subst h
  exact sl_tup
theorem op_catTE {X : Cx} {K : PySem.W.Frag} (h : X.K = K) : OpR X (binaryOp .Add) (rCatT K) := by
  subst h
  exact op_catT
theorem noneS {H H' : Hp} {p : Addr} (s : Same H H') (n : H' p = none) : H p = none := by
  cases z : H p with
  | none => rfl
  | some o =>
    rw [s _ _ z] at n
    cases n
/-- flat values as data -/
def flD : V → PyData
  | .bl b => .bool b
  | .int i => .int i
  | .str z => .str z
  | _ => .none
theorem dp_fl {K : PySem.W.Frag} {H : Hp} {v : V} (h : flatV v = true) : Dp K H v (flD v) := by
  cases v with
  | non => exact .non
  | bl b => exact .bl b
  | int i => exact .int i
  | str z => exact .str z
  | _ => exact absurd (show false = true from h) Bool.false_ne_true
theorem dp_flat {K : PySem.W.Frag} {H : Hp} : ∀ {xs : List V}, xs.all flatV = true → DpAll K H xs (xs.map flD)
  | [], _ => .nil
  | x :: r, h => by
    have h' : (flatV x && r.all flatV) = true := h
    obtain ⟨h1, h2⟩ := Bool.and_eq_true_iff.mp h'
    exact .cons (dp_fl h1) (dp_flat h2)
theorem deep_fl {n : Nat} (v : V) : Deep n (flD v) := by
  cases v <;> first | exact deep_non | exact deep_bool | exact deep_int | exact deep_str
theorem deep_flat {n : Nat} {xs : List V} (h : xs.length ≤ 1000) : Deep (n + 1) (.list (xs.map flD)) := deep_list (by rw [List.length_map]; exact h) fun d hd => by
  obtain ⟨v, _, rfl⟩ := List.mem_map.mp hd
  exact deep_fl v
theorem deep_flatT {n : Nat} {xs : List V} (h : xs.length ≤ 1000) : Deep (n + 1) (.tuple (xs.map flD)) := deep_tup (by rw [List.length_map]; exact h) fun d hd => by
  obtain ⟨v, _, rfl⟩ := List.mem_map.mp hd
  exact deep_fl v
theorem oddX_lstF {K : PySem.W.Frag} {H : Hp} {p : Addr} (xs : List V) (hf : xs.all flatV = true) (h : H p = some (.lst xs)) (hl : xs.length ≤ 100) : OddX K H (.ref p) (.list (xs.map flD)) :=
  ⟨.inr (.inr (.inr (.inr (.inl ⟨p, _, rfl, h⟩)))), .lst (SqL.of h) (dp_flat hf), fun _ => deep_flat (by omega)⟩
theorem oddX_tupF {K : PySem.W.Frag} {H : Hp} {p : Addr} (xs : List V) (hf : xs.all flatV = true) (h : H p = some (.tup xs)) (hl : xs.length ≤ 100) : OddX K H (.ref p) (.tuple (xs.map flD)) :=
  ⟨.inr (.inr (.inr (.inr (.inr ⟨p, _, rfl, h⟩)))), .tup (SqT.of h) (dp_flat hf), fun _ => deep_flatT (by omega)⟩
theorem oddD_lstF {K : PySem.W.Frag} {H : Hp} {b p : Addr} (xs : List V) (hf : xs.all flatV = true) (n : p ≠ b) (h : H p = some (.lst xs)) (hl : xs.length ≤ 100) : OddD K b H (.ref p) (.list (xs.map flD)) := fun H' s => oddX_lstF xs hf (s _ _ n h) hl
theorem oddD_tupF {K : PySem.W.Frag} {H : Hp} {b p : Addr} (xs : List V) (hf : xs.all flatV = true) (n : p ≠ b) (h : H p = some (.tup xs)) (hl : xs.length ≤ 100) : OddD K b H (.ref p) (.tuple (xs.map flD)) := fun H' s => oddX_tupF xs hf (s _ _ n h) hl
/-- asked whether it is a number -/
def AskN (K : PySem.W.Frag) (H : Hp) (v : V) : Prop := isNum v = true ∨ (isNum v = false ∧ NotI K H v)
theorem OddX.askn {K : PySem.W.Frag} {H : Hp} {v : V} {d : PyData} (o : OddX K H v d) : AskN K H v := by
  rcases o.kind with ⟨h, _⟩ | rfl | ⟨i, rfl⟩ | ⟨c, rfl⟩ | ⟨p, xs, rfl, h⟩ | ⟨p, xs, rfl, h⟩
  · obtain ⟨z, rfl⟩ := str_of h
    exact .inr ⟨rfl, "str", .base (.str z), by decide +kernel⟩
  · exact .inr ⟨rfl, "NoneType", .base .non, by decide +kernel⟩
  · exact .inl rfl
  · exact .inl rfl
  · exact .inr ⟨rfl, "list", .base (.lst h), by decide +kernel⟩
  · exact .inr ⟨rfl, "tuple", .base (.tup h), by decide +kernel⟩
section
variable {X : Cx} {CX : CXT} {k j : Nat} {f C : Addr} {sp : Sp} {E : XK} {m : Str} {o e : Expr} {es : List Expr} {ta : TE} {t : TA} {pos apos : Pos}
def tMethR (C : Addr) (m : Str) (sp : Sp) (E : XK) (ta : TE) (t : TA) : TE := fun σ H Q => ta σ H fun x H1 => ∃ a dx fs, x = .ref a ∧ H1 a = some (.ins C dx fs) ∧ fs.lookup m = none ∧ t σ H1 fun vs H2 => sp (V.ref a :: vs) H2 Q E
/-- o.m(e, ..), m told of by what it is called with -/
theorem pe_methR {pl : Sem Bool} (he : PE X o ta) (c : Cls X.K C) (hm : Meth X.K C m f) (F : FnR X.prog X.w X.K X.mg X.base CX k f sp) (hr : Room k X.A) (hx : Passes CX X E) (ha : PA X (e :: es) t)
    (hst : starEach (e :: es) X.env = (false, eval e X.env) :: starEach es X.env := by rfl) (hpl : (backTo pos (starEach es X.env)).any (·.1) = false := by rfl)
    (ht : eval (.Call (.Attribute o m apos) (e :: es) [] pos) X.env = (do
      let ov ← eval o X.env
      standAt apos.atName
      let (f, first) ← holding [ov] (getMethod ov m pl)
      callWith pos f first (backTo pos (starEach (e :: es) X.env)) (backToKw pos (keywordEach [] X.env))) := by rfl) :
    PE X (.Call (.Attribute o m apos) (e :: es) [] pos) (tMethR C m sp E ta t) := by
  refine ⟨fun pins s σ H Q I h => ?_⟩
  refine PySem.W.methodCall_KW (pl := pl) (thn (he.run pins s σ H _ I h) fun u s1 ⟨x, H1, I1, rx, a, dx, fs, ex, ea, l, q⟩ => ?_) ht
  subst ex
  obtain rfl : u = Value.ref a := rx
  refine getmeth_ok I1 ea c hm l ?_
  refine PySem.W.callWith_K (first := [.ref a]) (h₀ := X.base) I.ok.mod.kin hm.kp (thn (ha.run pos pins s1 σ H1 _ I1 q) fun us s2 ⟨vs, H2, I2, r, q2⟩ => ⟨I2.kIn, ?_⟩) hst hpl
  exact wpAny_call (L2.run_fnR (us := .ref a :: us) (vs := .ref a :: vs) F hr hx I2 (.cons rfl r) q2)
/-- o.m() -/
theorem pe_methR0 {pl : Sem Bool} (he : PE X o ta) (c : Cls X.K C) (hm : Meth X.K C m f) (F : FnR X.prog X.w X.K X.mg X.base CX k f sp) (hr : Room k X.A) (hx : Passes CX X E)
    (ht : eval (.Call (.Attribute o m apos) [] [] pos) X.env = (do
      let ov ← eval o X.env
      standAt apos.atName
      let (f, first) ← holding [ov] (getMethod ov m pl)
      callWith pos f first (backTo pos (starEach [] X.env)) (backToKw pos (keywordEach [] X.env))) := by rfl) :
    PE X (.Call (.Attribute o m apos) [] [] pos) (tMethR C m sp E ta tNil) := by
  refine ⟨fun pins s σ H Q I h => ?_⟩
  refine PySem.W.methodCall_KW (pl := pl) (thn (he.run pins s σ H _ I h) fun u s1 ⟨x, H1, I1, rx, a, dx, fs, ex, ea, l, q⟩ => ?_) ht
  subst ex
  obtain rfl : u = Value.ref a := rx
  refine getmeth_ok I1 ea c hm l ?_
  exact PySem.W.callWith_K0 (first := [.ref a]) I1.kIn hm.kp (wpAny_call (L2.run_fnR (us := [.ref a]) (vs := [.ref a]) F hr hx I1 (.cons rfl .nil) q))
structure MCalR (P : Program) (w : World) (K : PySem.W.Frag) (mg : Str → Option Value) (base : Heap) (CX : CXT) (C : Addr) (k : Nat) (m : Str) (sp : Sp) : Prop where
  ex : ∃ f : Addr, Meth K C m f ∧ FnR P w K mg base CX k f sp
theorem pe_mR {pl : Sem Bool} (c : MCalR X.prog X.w X.K X.mg X.base CX0 C k m sp) (hC : Cls X.K C) (hr : Room j X.A) (hk : k ≤ j) (he : PE X o ta) (ha : PA X (e :: es) t)
    (hst : starEach (e :: es) X.env = (false, eval e X.env) :: starEach es X.env := by rfl) (hpl : (backTo pos (starEach es X.env)).any (·.1) = false := by rfl)
    (ht : eval (.Call (.Attribute o m apos) (e :: es) [] pos) X.env = (do
      let ov ← eval o X.env
      standAt apos.atName
      let (f, first) ← holding [ov] (getMethod ov m pl)
      callWith pos f first (backTo pos (starEach (e :: es) X.env)) (backToKw pos (keywordEach [] X.env))) := by rfl) :
    PE X (.Call (.Attribute o m apos) (e :: es) [] pos) (tMethR C m sp E0 ta t) := by
  obtain ⟨f, hm, F⟩ := c.ex
  exact pe_methR he hC hm F (hr.mono hk) pass0 ha hst hpl ht
theorem pe_mR0 {pl : Sem Bool} (c : MCalR X.prog X.w X.K X.mg X.base CX0 C k m sp) (hC : Cls X.K C) (hr : Room j X.A) (hk : k ≤ j) (he : PE X o ta)
    (ht : eval (.Call (.Attribute o m apos) [] [] pos) X.env = (do
      let ov ← eval o X.env
      standAt apos.atName
      let (f, first) ← holding [ov] (getMethod ov m pl)
      callWith pos f first (backTo pos (starEach [] X.env)) (backToKw pos (keywordEach [] X.env))) := by rfl) :
    PE X (.Call (.Attribute o m apos) [] [] pos) (tMethR C m sp E0 ta tNil) := by
  obtain ⟨f, hm, F⟩ := c.ex
  exact pe_methR0 he hC hm F (hr.mono hk) pass0 ht
theorem pe_mRx {pl : Sem Bool} (c : MCalR X.prog X.w X.K X.mg X.base CX C k m sp) (hC : Cls X.K C) (hr : Room j X.A) (hk : k ≤ j) (hx : Passes CX X E) (he : PE X o ta) (ha : PA X (e :: es) t)
    (hst : starEach (e :: es) X.env = (false, eval e X.env) :: starEach es X.env := by rfl) (hpl : (backTo pos (starEach es X.env)).any (·.1) = false := by rfl)
    (ht : eval (.Call (.Attribute o m apos) (e :: es) [] pos) X.env = (do
      let ov ← eval o X.env
      standAt apos.atName
      let (f, first) ← holding [ov] (getMethod ov m pl)
      callWith pos f first (backTo pos (starEach (e :: es) X.env)) (backToKw pos (keywordEach [] X.env))) := by rfl) :
    PE X (.Call (.Attribute o m apos) (e :: es) [] pos) (tMethR C m sp E ta t) := by
  obtain ⟨f, hm, F⟩ := c.ex
  exact pe_methR he hC hm F (hr.mono hk) hx ha hst hpl ht
end
end FW
namespace FW
open PySem PySem.Spec PyProof.Rows L2
-- more
section
variable {P : Program} {w : World} {K : PySem.W.Frag} {mg : Str → Option Value} {base : Heap}
/-! texts cut at a sign -/
def sp1 (x : Nat) : List Nat → List (List Nat)
  | [] => [[]]
  | c :: l => if c = x then [] :: sp1 x l else match sp1 x l with
    | [] => [[c]]
    | p :: ps => (c :: p) :: ps
theorem sp1_ne (x : Nat) : ∀ l, sp1 x l ≠ []
  | [] => by simp [sp1]
  | c :: l => by
    unfold sp1
    split
    · simp
    · split <;> simp
theorem sp1_no (x : Nat) : ∀ l, ∀ p ∈ sp1 x l, x ∉ p
  | [], p, h => by
    rw [List.mem_singleton.mp (show p ∈ [[]] from h)]
    simp
  | c :: l, p, h => by
    have ih := sp1_no x l
    unfold sp1 at h
    split at h
    · rcases List.mem_cons.mp h with rfl | h
      · simp
      · exact ih p h
    · rename_i hc
      split at h
      · rw [List.mem_singleton.mp h]
        simpa using fun e => hc e.symm
      · rename_i q qs e
        rw [e] at ih
        rcases List.mem_cons.mp h with rfl | h
        · have := ih q List.mem_cons_self
          simp only [List.mem_cons, not_or]
          exact ⟨fun e => hc e.symm, this⟩
        · exact ih p (List.mem_cons_of_mem _ h)
theorem joinL_cons (s : List Nat) (c : Nat) (p : List Nat) (ps : List (List Nat)) : TL.joinL s ((c :: p) :: ps) = c :: TL.joinL s (p :: ps) := by
  cases ps <;> rfl
theorem sp1_join (x : Nat) : ∀ l, TL.joinL [x] (sp1 x l) = l
  | [] => rfl
  | c :: l => by
    have ih := sp1_join x l
    unfold sp1
    split
    · rename_i hc
      cases e : sp1 x l with
      | nil => exact absurd e (sp1_ne x l)
      | cons q qs =>
        rw [e] at ih
        show [] ++ ([x] ++ TL.joinL [x] (q :: qs)) = c :: l
        rw [ih, hc]
        rfl
    · cases e : sp1 x l with
      | nil => exact absurd e (sp1_ne x l)
      | cons q qs =>
        rw [e] at ih
        show TL.joinL [x] ((c :: q) :: qs) = c :: l
        rw [joinL_cons, ih]
theorem split1 {x : Nat} (hx : x < 256) (l : List Nat) : Txt.split (S l) (S [x]) = (sp1 x l).map S := by
  have h : Txt.join (S [x]) ((sp1 x l).map S) = S l := by rw [SX.join_S, sp1_join]
  have hk : (S [x]).cps.all (· < 256) = true := by
    show ([x].toArray.all fun c => decide (c < 256)) = true
    simp [hx]
  have := TL.split_join (y := S [x]) (s := x) (S := []) rfl hk (parts := (sp1 x l).map S) (by simp [sp1_ne]) (fun p hp => by
    obtain ⟨q, hq, rfl⟩ := List.mem_map.mp hp
    exact sp1_no x l q hq)
  rw [h] at this
  exact this
theorem joinL_part (s : List Nat) : ∀ {ps : List (List Nat)} {p : List Nat}, p ∈ ps → p.length ≤ (TL.joinL s ps).length ∧ ∀ c ∈ p, c ∈ TL.joinL s ps
  | [q], p, h => by
    rw [List.mem_singleton.mp h]
    exact ⟨Nat.le_refl _, fun _ h => h⟩
  | q :: r :: ps, p, h => by
    show p.length ≤ (q ++ (s ++ TL.joinL s (r :: ps))).length ∧ ∀ c ∈ p, c ∈ q ++ (s ++ TL.joinL s (r :: ps))
    rw [List.length_append, List.length_append]
    rcases List.mem_cons.mp h with rfl | h
    · exact ⟨by omega, fun c hc => List.mem_append_left _ hc⟩
    · obtain ⟨h1, h2⟩ := joinL_part s (ps := r :: ps) h
      exact ⟨by omega, fun c hc => List.mem_append_right _ (List.mem_append_right _ (h2 c hc))⟩
theorem sp1_len {x : Nat} {l p : List Nat} (h : p ∈ sp1 x l) : p.length ≤ l.length := by
  have := (joinL_part [x] h).1
  rwa [sp1_join] at this
theorem sp1_mem {x : Nat} {l p : List Nat} (h : p ∈ sp1 x l) : ∀ c ∈ p, c ∈ l := by
  have := (joinL_part [x] h).2
  rwa [sp1_join] at this
theorem sp1_few (x : Nat) : ∀ l, (sp1 x l).length ≤ l.length + 1
  | [] => Nat.le_refl _
  | c :: l => by
    have ih := sp1_few x l
    unfold sp1
    split
    · rw [List.length_cons, List.length_cons]
      omega
    · split
      · rename_i e
        rw [List.length_cons, List.length_nil, List.length_cons]
        omega
      · rename_i e
        rw [e] at ih
        rw [List.length_cons] at ih ⊢
        rw [List.length_cons]
        omega
theorem sp1_of {x : Nat} {l : List Nat} {ps : List (List Nat)} (h : sp1 x l = ps) : l = TL.joinL [x] ps := by rw [← h, sp1_join]
/-! what a text tells -/
def headR (l : List Nat) : Option (List Nat × List Nat) := match sp1 32 l with
  | [f, c] => if (bFaces (.str (S f)) && bCutters (.str (S c))) = true then some (f, c) else none
  | _ => none
def lineR (F C l : List Nat) : Option W6 := match sp1 32 l with
  | [a, b, c, d, e, u] => if u = [] then none else if bLine a b c d e (if u = noneL then [] else u) F C = true then some (a, b, c, d, e, if u = noneL then [] else u) else none
  | _ => none
def goR (F C : List Nat) : Nat → List (List Nat) → Option Nat
  | _, [] => none
  | k, l :: rs => if (lineR F C l).isNone || decide (8 < k) then some k else goR F C (k + 1) rs
def dueR (t : List Nat) : Option Nat := match sp1 10 t with
  | [] => some 0
  | r0 :: rs => match headR r0 with
    | none => some 0
    | some FC => goR FC.1 FC.2 1 rs
end
end FW
namespace FW
open PySem PySem.Spec PyProof.Rows L2
-- more
section
variable {P : Program} {w : World} {K : PySem.W.Frag} {mg : Str → Option Value} {base : Heap}
theorem S_inj0 {a : List Nat} (h : S a = ("" : Str)) : a = [] := congrArg (fun z : Str => z.cps.toList) h
theorem S_injE {a b : List Nat} (h : S a = S b) : a = b := congrArg (fun z : Str => z.cps.toList) h
abbrev s__law_goes : Stmt := topS 50
theorem sc__law_goes : FnScope ["_law_word", "_law_letters_here", "_law_sign", "_law_k"] ["_law_word", "_law_letters_here"] (defScope s__law_goes) := ⟨rfl, rfl, rfl, by decide +kernel, rfl, by decide +kernel, by decide +kernel⟩
def goesB (p L : List Nat) : Bool := decide (p ≠ []) && ((p.all fun c => decide (c ∈ L)) && ascB p)
def sp__law_goes (K : PySem.W.Frag) : Sp := fun vs H Q _ => ∃ (p L : List Nat), vs = [.str (S p), .str (S L)] ∧ p.length ≤ 1000 ∧ ∀ H', Same H H' → Q (.bl (goesB p L)) H'
theorem ok__law_goes {f : Addr} {fd : FuncData} (F : Fun K "_law_goes" "_law_goes" s__law_goes f fd) (T : Z mg) : FnOk P w K mg base CX0 1 f fd ["_law_word", "_law_letters_here"] (sp__law_goes K) := by
  refine F.ok sc__law_goes (fun vs H Q E h => ?_) (fun cdv A outer s H vs Q E hr h => ?_)
  · obtain ⟨p, L, rfl, _⟩ := h
    rfl
  obtain ⟨l, L, rfl, hl, q⟩ := h
  refine ⟨_, (pss_one (ps_ret (pe_and (pe_cmpR op_ne (pv 0) pe_str (nomark _)) (pe_and (pe_callB (cr_all rfl) (by rfl) T.z_all (by decide +kernel) (pa_cons (pe_lc (own := [("_law_sign", 2)]) (g := (gName 2)) (by rfl) sc__law_goes.nd (pi_str (pv 0)) (blkOk_by (N := ["_law_word", "_law_letters_here", "_law_sign", "_law_k"]) (sc := defScope s__law_goes) (by decide +kernel)) (fun _ _ _ _ _ => (pg_name (i := 2) sc__law_goes.nd rfl (.inl rfl))) (fun _ _ _ _ _ => pts_nil) (fun _ _ _ _ _ => (pe_cmpR op_in_sign (pv 2) (pv 1) rfl))) pa_nil)) (pe_one (pe_callB (cr_all rfl) (by rfl) T.z_all (by decide +kernel) (pa_cons (pe_lc (own := [("_law_k", 3)]) (g := (gName 3)) (by rfl) sc__law_goes.nd (pi_range1 (by rfl) T.z_range (pa_cons (pe_op op_sub (pe_callB call_len_str (by rfl) T.z_len (by decide +kernel) (pa_cons (pv 0) pa_nil)) pe_int) pa_nil)) (blkOk_by (N := ["_law_word", "_law_letters_here", "_law_sign", "_law_k"]) (sc := defScope s__law_goes) (by decide +kernel)) (fun _ _ _ _ _ => (pg_name (i := 3) sc__law_goes.nd rfl (.inl rfl))) (fun _ _ _ _ _ => pts_nil) (fun _ _ _ _ _ => (pe_cmpR op_lt_str (pe_ix ix_str (pv 0) (pv 3) (fun _ _ => rfl)) (pe_ix ix_str (pv 0) (pe_op op_add (pv 3) pe_int) (fun _ _ => rfl)) (nomark _)))) pa_nil))))))), ?_⟩
  have lz : (S l).length = l.length := S_len l
  have hq : ∀ b, goesB l L = b → ∀ H', Same H H' → Q (.bl b) H' := fun b e H' s' => by
    rw [← e]
    exact q H' s'
  unfold goesB at hq
  refine ⟨_, rfl, rfl, ?_⟩
  by_cases h0 : l = []
  · rw [show decide (V.str (S l) = V.str "") = true from decide_eq_true (by rw [h0]; rfl)]
    refine ⟨_, rfl, iteF ?_⟩
    exact hq false (by simp [h0]) _ (Same.refl H)
  rw [show decide (V.str (S l) = V.str "") = false from decide_eq_false fun e => h0 (S_inj0 (V.str.inj e))]
  refine ⟨_, rfl, iteT ?_⟩
  refine ⟨_, rfl, S l, rfl, fun D hD => lc_it walk_str (fun i H' => H' = upd H D (.lst ((l.take i).map fun c => V.bl (decide (c ∈ L))))) rfl (fun _ _ _ _ => trivial) ?_ ?_⟩
  · rintro i x _ _ hi rfl ⟨rfl, c, hc, rfl⟩
    refine ⟨rfl, _, rfl, _, rfl, c, S L, rfl, rfl, _, upd_same, ?_, ?_⟩
    · rw [List.length_map, List.length_take]
      exact sz1 (Nat.le_trans (Nat.min_le_right _ _) (by omega))
    · rw [upd_upd]
      have e : l.take (i + 1) = l.take i ++ [c] := by
        rw [List.take_add_one]
        have : l[i]? = some c := by
          have h := Array.getElem?_toList (xs := (S l).cps) (i := i)
          exact h.trans hc
        rw [this]
        rfl
      rw [e, List.map_append]
      rfl
  rintro _ rfl
  rw [show (S l).cps.size = l.length from S_len l, List.take_length]
  refine ⟨D, l.map fun c => decide (c ∈ L), rfl, SqL.of ?_, ?_⟩
  · rw [upd_same, List.map_map]
    rfl
  have sD := same_upd (o := HO.lst (l.map fun c => V.bl (decide (c ∈ L)))) hD
  have e3 : (l.map fun c => decide (c ∈ L)).all id = l.all fun c => decide (c ∈ L) := by
    rw [List.all_map]
    rfl
  rw [e3]
  cases h3 : (l.all fun c => decide (c ∈ L)) with
  | false =>
    refine ⟨_, rfl, iteF ?_⟩
    exact hq false (by rw [h3]; simp) _ sD
  | true =>
    refine ⟨_, rfl, iteT ?_⟩
    refine ⟨_, rfl, S l, rfl, by rw [S_len]; exact sz (by omega), _, _, rfl, rfl, _, rfl, by rw [lz]; omega, by rw [lz]; omega, fun D2 hD2 => ?_⟩
    have ej : (((S l).length : Int) - 1).toNat = l.length - 1 := by rw [lz]; omega
    show ∃ W : Nat → Nat → Hp → Prop, _
    rw [ej]
    refine lc_range (n := l.length - 1) (fun i H' => ∃ bs : List Bool, H' = upd (upd H D (.lst (l.map fun c => V.bl (decide (c ∈ L))))) D2 (.lst (bs.map V.bl)) ∧ bs.length = i ∧ bs.all id = ascB (l.take (i + 1))) ⟨[], rfl, rfl, ?_⟩ ?_ ?_
    · cases l with
      | nil => rfl
      | cons a r => rfl
    · rintro i _ hi ⟨bs, rfl, hbl, hba⟩
      have h1 : i + 1 < l.length := by omega
      refine ⟨rfl, _, rfl, _, rfl, S l, _, l[i], rfl, rfl, by rw [S_len]; exact sz (by omega), atI_of (show (0 : Int) + (i : Int) = (i : Int) by omega) (List.getElem?_eq_getElem (show i < l.length by omega)), _, rfl, _, rfl, _, _, rfl, rfl, S l, _, l[i + 1], rfl, rfl, by rw [S_len]; exact sz (by omega), atI_of (show (0 : Int) + (i : Int) + 1 = ((i + 1 : Nat) : Int) by omega) (List.getElem?_eq_getElem h1), _, _, rfl, rfl, _, upd_same, by rw [List.length_map, hbl]; exact sz1 (by omega), bs ++ [decide (l[i] < l[i + 1])], ?_, by rw [List.length_append, hbl]; rfl, ?_⟩
      · rw [upd_upd, List.map_append]
        exact congrArg (fun z => upd (upd H D (.lst (l.map fun c => V.bl (decide (c ∈ L))))) D2 (HO.lst (bs.map V.bl ++ [V.bl z]))) (lt_sgn _ _)
      · rw [List.all_append, hba, asc_next l i h1]
        show (_ && (_ && true)) = _
        rw [Bool.and_true]
        rfl
    · rintro _ ⟨bs, rfl, hbl, hba⟩
      refine ⟨D2, bs, rfl, SqL.of upd_same, ?_⟩
      rw [hba, List.take_of_length_le (by omega)]
      exact hq (ascB l) (by rw [h3, decide_eq_true h0]; rfl) _ (sD.trans (same_upd hD2))
end
end FW
namespace FW
open PySem PySem.Spec PyProof.Rows L2
-- more
section
variable {P : Program} {w : World} {K : PySem.W.Frag} {mg : Str → Option Value} {base : Heap}
def sp_head_ofX (K : PySem.W.Frag) : Sp := fun vs H Q _ => ∃ (l : List Nat), vs = [.str (S l)] ∧ l.length ≤ 1000 ∧ (∀ F C, headR l = some (F, C) → ∀ H' p, Same H H' → H p = none → H' p = some (.tup [.str (S F), .str (S C)]) → Q (.ref p) H') ∧ (headR l = none → ∀ H', Same H H' → Q .non H')
theorem headR_len {l : List Nat} (h : (sp1 32 l).length ≠ 2) : headR l = none := by
  unfold headR
  split
  · rename_i f c e
    rw [e] at h
    exact absurd rfl h
  · rfl
theorem headR_two {l f c : List Nat} (e : sp1 32 l = [f, c]) : headR l = if (bFaces (.str (S f)) && bCutters (.str (S c))) = true then some (f, c) else none := by
  unfold headR
  rw [e]
theorem two_of {α : Type} {l : List α} (h : l.length = 2) : ∃ a b, l = [a, b] := by
  match l, h with
  | [a, b], _ => exact ⟨a, b, rfl⟩
theorem six_of {α : Type} {l : List α} (h : l.length = 6) : ∃ a b c d e f, l = [a, b, c, d, e, f] := by
  match l, h with
  | [a, b, c, d, e, f], _ => exact ⟨a, b, c, d, e, f, rfl⟩
theorem okx_head_of {f : Addr} {fd : FuncData} (F : Fun K "head_of" "head_of" s_head_of f fd) (T : Z mg) (c_is_faces : Cal P w K mg base CX0 3 "is_faces" s_is_faces ["value"] (sp_is_faces K))
    (c_is_cutters : Cal P w K mg base CX0 3 "is_cutters" s_is_cutters ["value"] (sp_is_cutters K)) : FnOk P w K mg base CX0 4 f fd ["row"] (sp_head_ofX K) := by
  refine F.ok sc_head_of (fun vs H Q E h => ?_) (fun cdv A outer s H vs Q E hr h => ?_)
  · obtain ⟨l, rfl, _⟩ := h
    rfl
  · obtain ⟨l, rfl, hl, q1, q2⟩ := h
    refine ⟨_, (pss_cons (ps_set (i := 1) sc_head_of.nd rfl (.inl rfl) (pe_split (pv 0) pe_str))
      (pss_cons (ps_if (PW.pt (pw_or (pt_cmpR op_ne (pe_callB call_len_seq (by rfl) T.z_len (by decide +kernel) (pa_cons (pv 1) pa_nil)) pe_int (nomark _)) (pw_or (pt_not (pt_val (pe_c c_is_faces hr (by decide) (by rfl) (pa_cons (pe_ix ix_list (pv 1) pe_int (fun _ _ => rfl)) pa_nil)))) (pw_or1 (pt_not (pt_val (pe_c c_is_cutters hr (by decide) (by rfl) (pa_cons (pe_ix ix_list (pv 1) pe_int (fun _ _ => rfl)) pa_nil)))))))) (pss_one (ps_ret pe_non)) pss_nil)
      (pss_one (ps_ret (pe_tup (pa_cons (pe_ix ix_list (pv 1) pe_int (fun _ _ => rfl)) (pa_cons (pe_ix ix_list (pv 1) pe_int (fun _ _ => rfl)) pa_nil))))))), ?_⟩
    refine ⟨_, rfl, ⟨_, rfl⟩, _, _, rfl, rfl, rfl, by rw [S_len]; exact Nat.le_trans (Nat.add_le_add_right hl 2) (by decide), fun p np => ?_⟩
    rw [show (" " : Str) = S [32] from rfl, split1 (by decide)]
    have g5 : (upd H p (.lst (((sp1 32 l).map S).map V.str))) p = some (.lst (((sp1 32 l).map S).map V.str)) := upd_same
    have sp := same_upd (o := HO.lst (((sp1 32 l).map S).map V.str)) np
    generalize upd H p (.lst (((sp1 32 l).map S).map V.str)) = H1 at g5 sp
    refine ⟨_, rfl, p, _, rfl, .inl (SqL.of g5), rfl, _, rfl, ?_⟩
    rw [List.length_map, List.length_map]
    by_cases h2 : (sp1 32 l).length = 2
    · obtain ⟨fs, cs, e⟩ := two_of h2
      rw [e] at g5
      have g5 : H1 p = some (.lst [V.str (S fs), V.str (S cs)]) := g5
      have lf : fs.length ≤ 1000 := Nat.le_trans (sp1_len (x := 32) (by rw [e]; simp)) hl
      have lc : cs.length ≤ 1000 := Nat.le_trans (sp1_len (x := 32) (by rw [e]; simp)) hl
      have hh := headR_two e
      rw [h2]
      refine iteF ⟨_, rfl, p, _, 0, _, rfl, rfl, SqL.of g5, rfl, .str (S fs), rfl, .inl ⟨rfl, (show fs.length ≤ 100000 by omega)⟩, fun H2 s2 => ⟨_, rfl, ?_⟩⟩
      cases b1 : bFaces (.str (S fs)) with
      | false =>
        rw [b1] at hh
        exact iteT (iteT (q2 hh _ (sp.trans s2)))
      | true =>
        refine iteF ⟨_, rfl, p, _, 1, _, rfl, rfl, SqL.of (s2 _ _ g5), rfl, .str (S cs), rfl, .inl ⟨rfl, (show cs.length ≤ 100000 by omega)⟩, fun H3 s3 => ⟨_, rfl, ?_⟩⟩
        have s4 := s2.trans s3
        cases b2 : bCutters (.str (S cs)) with
        | false =>
          rw [b1, b2] at hh
          exact iteT (q2 hh _ (sp.trans s4))
        | true =>
          rw [b1, b2] at hh
          refine iteF ?_
          refine ⟨_, rfl, p, _, 0, _, rfl, rfl, SqL.of (s4 _ _ g5), rfl, _, rfl, p, _, 1, _, rfl, rfl, SqL.of (s4 _ _ g5), rfl, (show 2 ≤ sizeLine by decide), fun t nt => ?_⟩
          have s5 := sp.trans s4
          exact q1 fs cs hh _ t (s5.trans (same_upd nt)) (noneS s5 nt) upd_same
    · refine ite_ndec (fun _ => ?_) (fun e => ?_)
      · exact iteT (q2 (headR_len h2) _ sp)
      · have := V.int.inj e
        exact absurd (by omega) h2
def sp_line_ofX (K : PySem.W.Frag) : Sp := fun vs H Q _ => ∃ (l F C : List Nat), vs = [.str (S l), .str (S F), .str (S C)] ∧ l.length ≤ 1000 ∧ F.length ≤ 1000 ∧ C.length ≤ 1000 ∧
  (∀ w, lineR F C l = some w → ∀ H' p, Same H H' → H p = none → H' p = some (.tup ((w6L w).map fun p => V.str (S p))) → Q (.ref p) H') ∧ (lineR F C l = none → ∀ H', Same H H' → Q .non H')
theorem lineR_len {F C l : List Nat} (h : (sp1 32 l).length ≠ 6) : lineR F C l = none := by
  unfold lineR
  split
  · rename_i a b c d e u e'
    rw [e'] at h
    exact absurd rfl h
  · rfl
theorem lineR_six {F C l a b c d e u : List Nat} (h : sp1 32 l = [a, b, c, d, e, u]) : lineR F C l = if u = [] then none else if bLine a b c d e (if u = noneL then [] else u) F C = true then some (a, b, c, d, e, if u = noneL then [] else u) else none := by
  unfold lineR
  rw [h]
theorem okx_line_of {f : Addr} {fd : FuncData} (F : Fun K "line_of" "line_of" s_line_of f fd) (T : Z mg)
    (c_is_line : Cal P w K mg base CX0 4 "is_line" s_is_line ["value", "faces", "cutters"] (sp_is_line K)) : FnOk P w K mg base CX0 5 f fd ["row", "faces", "cutters"] (sp_line_ofX K) := by
  refine F.ok sc_line_of (fun vs H Q E h => ?_) (fun cdv A outer s H vs Q E hr h => ?_)
  · obtain ⟨l, F, C, rfl, _⟩ := h
    rfl
  · obtain ⟨l, fs, cs, rfl, hl, hF, hC, q1, q2⟩ := h
    refine ⟨_, (pss_cons (ps_set (i := 3) sc_line_of.nd rfl (.inl rfl) (pe_split (pv 0) pe_str))
      (pss_cons (ps_if (PW.pt (pw_or (pt_cmpR op_ne (pe_callB call_len_seq (by rfl) T.z_len (by decide +kernel) (pa_cons (pv 3) pa_nil)) pe_int (nomark _)) (pw_or1 (pt_cmpR op_eq (pe_ix ix_list (pv 3) pe_int (fun _ _ => rfl)) pe_str (nomark _))))) (pss_one (ps_ret pe_non)) pss_nil)
      (pss_cons (ps_if (pt_cmpR op_eq (pe_ix ix_list (pv 3) pe_int (fun _ _ => rfl)) pe_str (nomark _)) (pss_one (ps_asg pe_str (pg_sub (pv 3) pe_int set_list))) pss_nil)
      (pss_cons (ps_set (i := 4) sc_line_of.nd rfl (.inl rfl) (pe_tupleOf (by rfl) T.z_tuple (pv 3)))
      (pss_one (ps_ret (pe_ifExp (pt_val (pe_c c_is_line hr (by decide) (by rfl) (pa_cons (pv 4) (pa_cons (pv 1) (pa_cons (pv 2) pa_nil))))) (pv 4) pe_non))))))), ?_⟩
    refine ⟨_, rfl, ⟨_, rfl⟩, _, _, rfl, rfl, rfl, by rw [S_len]; exact Nat.le_trans (Nat.add_le_add_right hl 2) (by decide), fun p np => ?_⟩
    rw [show (" " : Str) = S [32] from rfl, split1 (by decide)]
    have g5 : (upd H p (.lst (((sp1 32 l).map S).map V.str))) p = some (.lst (((sp1 32 l).map S).map V.str)) := upd_same
    have sp := same_upd (o := HO.lst (((sp1 32 l).map S).map V.str)) np
    generalize upd H p (.lst (((sp1 32 l).map S).map V.str)) = H1 at g5 sp
    refine ⟨_, rfl, p, _, rfl, .inl (SqL.of g5), rfl, _, rfl, ?_⟩
    rw [List.length_map, List.length_map]
    by_cases h6 : (sp1 32 l).length = 6
    · obtain ⟨a, b, c, d, e, u, e6⟩ := six_of h6
      rw [e6] at g5
      have g5 : H1 p = some (.lst [V.str (S a), V.str (S b), V.str (S c), V.str (S d), V.str (S e), V.str (S u)]) := g5
      have len : ∀ x ∈ [a, b, c, d, e, u], x.length ≤ 1000 := fun x hx => Nat.le_trans (sp1_len (x := 32) (by rw [e6]; exact hx)) hl
      have hh := lineR_six (F := fs) (C := cs) e6
      rw [h6]
      refine iteF ⟨_, rfl, p, _, 5, _, rfl, rfl, SqL.of g5, rfl, rfl, _, rfl, ?_⟩
      by_cases hu : u = []
      · rw [if_pos hu] at hh
        rw [show decide (V.str (S u) = V.str "") = true from decide_eq_true (by rw [hu]; rfl)]
        exact iteT (q2 hh _ sp)
      · rw [if_neg hu] at hh
        rw [show decide (V.str (S u) = V.str "") = false from decide_eq_false fun z => hu (congrArg (fun x : Str => x.cps.toList) (V.str.inj z))]
        refine iteF ?_
        refine ⟨_, rfl, p, _, 5, _, rfl, rfl, SqL.of g5, rfl, rfl, _, rfl, ?_⟩
        -- behind the last word
        have fin : ∀ (u' : List Nat), (if u = noneL then [] else u) = u' → u'.length ≤ 1000 → ∀ H2, (∀ b o, b ≠ p → H1 b = some o → H2 b = some o) → H2 p = some (.lst [V.str (S a), V.str (S b), V.str (S c), V.str (S d), V.str (S e), V.str (S u')]) → ∀ t, H2 t = none →
            ∃ (t' : Addr) (a1 b1 c1 d1 e1 u1 F1 C1 : List Nat), [V.ref t, V.str (S fs), V.str (S cs)] = [.ref t', .str (S F1), .str (S C1)] ∧ SqT K (upd H2 t (.tup [V.str (S a), V.str (S b), V.str (S c), V.str (S d), V.str (S e), V.str (S u')])) t' [.str (S a1), .str (S b1), .str (S c1), .str (S d1), .str (S e1), .str (S u1)] ∧
              (∀ p ∈ [a1, b1, c1, d1, e1, u1, F1, C1], p.length ≤ 1000) ∧ ∀ H', Same (upd H2 t (.tup [V.str (S a), V.str (S b), V.str (S c), V.str (S d), V.str (S e), V.str (S u')])) H' → (bLine a1 b1 c1 d1 e1 u1 F1 C1 = true → Q (.ref t) H') ∧ (bLine a1 b1 c1 d1 e1 u1 F1 C1 = false → Q .non H') := fun u' eu lu H2 kp hp2 t nt => by
          refine ⟨t, a, b, c, d, e, u', fs, cs, rfl, SqT.of upd_same, fun x hx => ?_, fun H' s' => ?_⟩
          · simp only [List.mem_cons, List.not_mem_nil, or_false] at hx
            rcases hx with rfl | rfl | rfl | rfl | rfl | rfl | rfl | rfl
            · exact len _ (by simp)
            · exact len _ (by simp)
            · exact len _ (by simp)
            · exact len _ (by simp)
            · exact len _ (by simp)
            · exact lu
            · exact hF
            · exact hC
          · rw [eu] at hh
            have s2 : Same H H2 := fun z o hz => kp z o (ne_of_none hz np) (sp z o hz)
            have s3 := (s2.trans (same_upd nt)).trans s'
            refine ⟨fun hb => ?_, fun hb => ?_⟩
            · rw [if_pos hb] at hh
              exact q1 _ hh _ t s3 (noneS s2 nt) (s' _ _ upd_same)
            · rw [if_neg (by rw [hb]; exact Bool.false_ne_true)] at hh
              exact q2 hh _ s3
        by_cases hn : u = noneL
        · rw [show decide (V.str (S u) = V.str "none") = true from decide_eq_true (by rw [hn]; rfl)]
          refine iteT ?_
          refine ⟨_, rfl, p, _, 5, 5, rfl, rfl, g5, rfl, ?_⟩
          have g6 : (upd H1 p (.lst [V.str (S a), V.str (S b), V.str (S c), V.str (S d), V.str (S e), V.str ""])) p = some (.lst [V.str (S a), V.str (S b), V.str (S c), V.str (S d), V.str (S e), V.str (S [])]) := upd_same
          have kp : ∀ z o, z ≠ p → H1 z = some o → (upd H1 p (.lst [V.str (S a), V.str (S b), V.str (S c), V.str (S d), V.str (S e), V.str ""])) z = some o := fun z o n h => (upd_ne n).trans h
          refine ⟨_, rfl, .inl ⟨p, _, rfl, SqL.of g6, fun t nt => ?_⟩⟩
          obtain ⟨t', a1, b1, c1, d1, e1, u1, F1, C1, h1, h2, h3, h4⟩ := fin [] (if_pos hn) (Nat.zero_le _) _ kp g6 t nt
          refine ⟨_, rfl, _, rfl, _, rfl, t', a1, b1, c1, d1, e1, u1, F1, C1, h1, h2, h3, fun H' s' => ⟨_, rfl, ?_⟩⟩
          obtain ⟨h5, h6⟩ := h4 H' s'
          cases hb : bLine a1 b1 c1 d1 e1 u1 F1 C1 with
          | true => exact iteT ⟨_, rfl, h5 hb⟩
          | false => exact iteF (h6 hb)
        · rw [show decide (V.str (S u) = V.str "none") = false from decide_eq_false fun z => hn (congrArg (fun x : Str => x.cps.toList) (V.str.inj z))]
          refine iteF ?_
          refine ⟨_, rfl, .inl ⟨p, _, rfl, SqL.of g5, fun t nt => ?_⟩⟩
          obtain ⟨t', a1, b1, c1, d1, e1, u1, F1, C1, h1, h2, h3, h4⟩ := fin u (if_neg hn) (len _ (by simp)) H1 (fun _ _ _ h => h) g5 t nt
          refine ⟨_, rfl, _, rfl, _, rfl, t', a1, b1, c1, d1, e1, u1, F1, C1, h1, h2, h3, fun H' s' => ⟨_, rfl, ?_⟩⟩
          obtain ⟨h5, h6⟩ := h4 H' s'
          cases hb : bLine a1 b1 c1 d1 e1 u1 F1 C1 with
          | true => exact iteT ⟨_, rfl, h5 hb⟩
          | false => exact iteF (h6 hb)
    · refine ite_ndec (fun _ => ?_) (fun e => ?_)
      · exact q2 (lineR_len h6) _ sp
      · have := V.int.inj e
        exact absurd (by omega) h6
end
end FW
namespace FW
open PySem PySem.Spec PyProof.Rows L2
-- more
section
variable {P : Program} {w : World} {K : PySem.W.Frag} {mg : Str → Option Value} {base : Heap}
/-! what the law asks of a line is what the program asks -/
theorem nodup_le {α : Type} [DecidableEq α] : ∀ {l m : List α}, l.Nodup → (∀ x ∈ l, x ∈ m) → l.length ≤ m.length
  | [], _, _, _ => Nat.zero_le _
  | x :: l, m, nd, h => by
    rw [List.nodup_cons] at nd
    have hx : x ∈ m := h x List.mem_cons_self
    have e := (List.perm_cons_erase hx).length_eq
    have := nodup_le (m := m.erase x) nd.2 fun y hy => (List.mem_erase_of_ne (fun e => nd.1 (by rw [← e]; exact hy))).mpr (h y (List.mem_cons_of_mem _ hy))
    rw [List.length_cons] at e ⊢
    omega
def okP (p L : List Nat) : Bool := decide (p = [46]) || goesB p L
def lastB (F u : List Nat) : Bool := decide (u = noneL) || (decide (u.length = 3) && (decide (u.getD 0 0 ∈ [124, 45]) && (decide (u.getD 1 0 ∈ F) && decide (u.getD 2 0 ∈ F))))
def zipR (a b c d e F C : List Nat) : List (List Nat × List Nat) := [(a, F), (b, F), (c, F), (d, F), (e, C)]
def readB (F C l : List Nat) : Bool := match sp1 32 l with
  | [a, b, c, d, e, u] => ((zipR a b c d e F C).all fun z => okP z.1 z.2) && lastB F u
  | _ => false
theorem readB_len {F C l : List Nat} (h : (sp1 32 l).length ≠ 6) : readB F C l = false := by
  unfold readB
  split
  · rename_i a b c d e u e'
    rw [e'] at h
    exact absurd rfl h
  · rfl
theorem readB_six {F C l a b c d e u : List Nat} (h : sp1 32 l = [a, b, c, d, e, u]) : readB F C l = (((zipR a b c d e F C).all fun z => okP z.1 z.2) && lastB F u) := by
  unfold readB
  rw [h]
theorem asc_head : ∀ {l : List Nat} {a : Nat}, ascB (a :: l) = true → ∀ b ∈ l, a < b
  | [], _, _, _, h => by cases h
  | c :: l, a, h, b, hb => by
    have h' : (decide (a < c) && ascB (c :: l)) = true := h
    rw [Bool.and_eq_true, decide_eq_true_eq] at h'
    rcases List.mem_cons.mp hb with rfl | hb
    · exact h'.1
    · exact Nat.lt_trans h'.1 (asc_head h'.2 b hb)
theorem asc_tail {l : List Nat} {a : Nat} (h : ascB (a :: l) = true) : ascB l = true := by
  cases l with
  | nil => rfl
  | cons c l =>
    have h' : (decide (a < c) && ascB (c :: l)) = true := h
    rw [Bool.and_eq_true] at h'
    exact h'.2
theorem asc_nd : ∀ {l : List Nat}, ascB l = true → l.Nodup
  | [], _ => .nil
  | a :: l, h => List.nodup_cons.mpr ⟨fun hm => absurd (asc_head h a hm) (Nat.lt_irrefl _), asc_nd (asc_tail h)⟩
theorem letter46 (p : List Nat) : bLetter (.str (S p)) [46] = decide (p = [46]) := by
  show (true && decide (p.length = 1) && decide (p.getD 0 0 ∈ [46])) = decide (p = [46])
  rw [Bool.true_and, ← Bool.decide_and]
  refine decide_eq_decide.mpr ⟨fun ⟨h1, h2⟩ => ?_, fun h => by rw [h]; decide⟩
  match p, h1 with
  | [x], _ => rw [show x = 46 from List.mem_singleton.mp h2]
theorem part_ok (p L : List Nat) : bPart (.str (S p)) L = okP p L := by
  unfold bPart okP
  rw [letter46]
  congr 1
  show (true && (decide ((1 : Int) ≤ (p.length : Int)) && decide ((p.length : Int) ≤ (L.length : Int))) && (p.all fun c => decide (c ∈ L)) && ascB p) = goesB p L
  unfold goesB
  cases h1 : (p.all fun c => decide (c ∈ L)) with
  | false => simp
  | true =>
    cases h2 : ascB p with
    | false => simp
    | true =>
      have hl : p.length ≤ L.length := nodup_le (asc_nd h2) fun x hx => of_decide_eq_true (List.all_eq_true.mp h1 x hx)
      have hp : decide ((p.length : Int) ≤ (L.length : Int)) = true := decide_eq_true (by omega)
      rw [hp]
      simp only [Bool.true_and, Bool.and_true]
      refine decide_eq_decide.mpr ⟨fun h e => ?_, fun h => ?_⟩
      · rw [e] at h
        exact absurd h (by decide)
      · have := List.length_pos_iff.mpr h
        omega
theorem last_ok {F u : List Nat} (hu : u ≠ []) : (decide (V.str (S (if u = noneL then [] else u)) = V.str "") || bCut (.str (S (if u = noneL then [] else u))) (S F)) = lastB F u := by
  unfold lastB
  by_cases hn : u = noneL
  · rw [if_pos hn, decide_eq_true hn, Bool.true_or]
    exact Bool.or_eq_true_iff.mpr (.inl (decide_eq_true rfl))
  · rw [if_neg hn, decide_eq_false hn, Bool.false_or, show decide (V.str (S u) = V.str "") = false from decide_eq_false fun e => hu (S_inj0 (V.str.inj e)), Bool.false_or, bCut_S]
    cases h3 : decide (u.length = 3) with
    | false => simp
    | true =>
      match u, of_decide_eq_true h3 with
      | [g, x, y], _ =>
        simp [Bool.and_assoc]
theorem read_line_eq {F C l : List Nat} : (lineR F C l).isSome = readB F C l := by
  by_cases h6 : (sp1 32 l).length = 6
  · obtain ⟨a, b, c, d, e, u, e6⟩ := six_of h6
    rw [lineR_six e6, readB_six e6]
    by_cases hu : u = []
    · rw [if_pos hu, show lastB F u = false from by rw [hu]; rfl, Bool.and_false]
      rfl
    · rw [if_neg hu]
      have hb : bLine a b c d e (if u = noneL then [] else u) F C = (((zipR a b c d e F C).all fun z => okP z.1 z.2) && lastB F u) := by
        unfold bLine
        rw [last_ok hu, part_ok]
        simp only [zipR, List.all_cons, List.all_nil, part_ok, Bool.and_true, Bool.and_assoc]
      rw [← hb]
      cases bLine a b c d e (if u = noneL then [] else u) F C <;> rfl
  · rw [lineR_len h6, readB_len h6]
    rfl
abbrev s__law_read_line : Stmt := topS 49
theorem sc__law_read_line : FnScope ["_law_row", "_law_spec", "_law_words", "_law_word", "_law_letters_here"] ["_law_row", "_law_spec"] (defScope s__law_read_line) := ⟨rfl, rfl, rfl, by decide +kernel, rfl, by decide +kernel, by decide +kernel⟩
def sp__law_read_line (K : PySem.W.Frag) : Sp := fun vs H Q _ => ∃ (h : Addr) (F C l : List Nat), vs = [.str (S l), .ref h] ∧ H h = some (.lst [.str (S F), .str (S C)]) ∧ l.length ≤ 1000 ∧ ∀ H', Same H H' → Q (.bl (readB F C l)) H'
theorem ok__law_read_line {f : Addr} {fd : FuncData} (F : Fun K "_law_read_line" "_law_read_line" s__law_read_line f fd) (T : Z mg) (c__law_goes : Cal P w K mg base CX0 1 "_law_goes" s__law_goes ["_law_word", "_law_letters_here"] (sp__law_goes K)) : FnOk P w K mg base CX0 2 f fd ["_law_row", "_law_spec"] (sp__law_read_line K) := by
  refine F.ok sc__law_read_line (fun vs H Q E h => ?_) (fun cdv A outer s H vs Q E hr h => ?_)
  · obtain ⟨h, F, C, l, rfl, _⟩ := h
    rfl
  obtain ⟨h, fs, cs, l, rfl, hh, hl, q⟩ := h
  refine ⟨_, (pss_cons (ps_set (i := 2) sc__law_read_line.nd rfl (.inl rfl) (pe_split (pv 0) pe_str))
      (pss_cons (ps_if (pt_cmpR op_ne (pe_callB call_len_seq (by rfl) T.z_len (by decide +kernel) (pa_cons (pv 2) pa_nil)) pe_int (nomark _)) (pss_one (ps_ret pe_bl)) pss_nil)
      (pss_cons (ps_for PassesOwn.never rfl (pi_zipG (by rfl) T.z_zip (pa_cons (pe_slice sl_list (pv 2) po_none (po_some pe_int)) (pa_cons (pe_op op_cat (pe_op op_rep (pe_lst (pa_cons (pe_ix ix_list (pv 1) pe_int (fun _ _ => rfl)) pa_nil)) pe_int) (pe_lst (pa_cons (pe_ix ix_list (pv 1) pe_int (fun _ _ => rfl)) pa_nil))) pa_nil))) (pg_tup rfl (pgs_cons (pg_name (i := 3) sc__law_read_line.nd rfl (.inl rfl)) (pgs_cons (pg_name (i := 4) sc__law_read_line.nd rfl (.inl rfl)) pgs_nil)))
        (pss_one (ps_if (PW.pt (pw_and (pt_cmpR op_ne (pv 3) pe_str (nomark _)) (pw_and1 (pt_not (pt_val (pe_c c__law_goes hr (by decide) (by rfl) (pa_cons (pv 3) (pa_cons (pv 4) pa_nil)))))))) (pss_one (ps_ret pe_bl)) pss_nil)))
      (pss_one (ps_ret (pe_or (pe_cmpR op_eq (pe_ix ix_list (pv 2) pe_int (fun _ _ => rfl)) pe_str (nomark _)) (pe_one (pe_and (pe_cmpR op_eq (pe_callB call_len_str (by rfl) T.z_len (by decide +kernel) (pa_cons (pe_ix ix_list (pv 2) pe_int (fun _ _ => rfl)) pa_nil)) pe_int (nomark _)) (pe_and (pe_cmpR op_in_sign (pe_ix ix_str (pe_ix ix_list (pv 2) pe_int (fun _ _ => rfl)) pe_int (fun _ _ => rfl)) pe_str rfl) (pe_and (pe_cmpR op_in_sign (pe_ix ix_str (pe_ix ix_list (pv 2) pe_int (fun _ _ => rfl)) pe_int (fun _ _ => rfl)) (pe_ix ix_list (pv 1) pe_int (fun _ _ => rfl)) rfl) (pe_one (pe_cmpR op_in_sign (pe_ix ix_str (pe_ix ix_list (pv 2) pe_int (fun _ _ => rfl)) pe_int (fun _ _ => rfl)) (pe_ix ix_list (pv 1) pe_int (fun _ _ => rfl)) rfl)))))))))))), ?_⟩
  refine ⟨_, rfl, ⟨_, rfl⟩, _, _, rfl, rfl, rfl, by rw [S_len]; exact Nat.le_trans (Nat.add_le_add_right hl 2) (by decide), fun p np => ?_⟩
  rw [show (" " : Str) = S [32] from rfl, split1 (by decide)]
  have g1 : (upd H p (.lst (((sp1 32 l).map S).map V.str))) p = some (.lst (((sp1 32 l).map S).map V.str)) := upd_same
  have s1 := same_upd (o := HO.lst (((sp1 32 l).map S).map V.str)) np
  generalize upd H p (.lst (((sp1 32 l).map S).map V.str)) = H1 at g1 s1
  refine ⟨_, rfl, p, _, rfl, .inl (SqL.of g1), rfl, _, rfl, ?_⟩
  rw [List.length_map, List.length_map]
  by_cases h6 : (sp1 32 l).length = 6
  · obtain ⟨a, b, c, d, e, u, e6⟩ := six_of h6
    rw [e6] at g1
    have g1 : H1 p = some (.lst [V.str (S a), V.str (S b), V.str (S c), V.str (S d), V.str (S e), V.str (S u)]) := g1
    have len : ∀ x ∈ [a, b, c, d, e, u], x.length ≤ 1000 := fun x hx => Nat.le_trans (sp1_len (x := 32) (by rw [e6]; exact hx)) hl
    have hq : ∀ v, readB fs cs l = v → ∀ H', Same H H' → Q (.bl v) H' := fun v ev H' s' => by
      rw [← ev]
      exact q H' s'
    rw [readB_six e6] at hq
    have hh1 := s1 _ _ hh
    rw [h6]
    refine iteF ?_
    refine ⟨_, rfl, 5, rfl, p, _, rfl, SqL.of g1, fun p2 np2 => ?_⟩
    have g2 : (upd H1 p2 (.lst (cutV [V.str (S a), V.str (S b), V.str (S c), V.str (S d), V.str (S e), V.str (S u)] none (some 5)))) p2 = some (.lst ((zipR a b c d e fs cs).map fun z => V.str (S z.1))) := upd_same
    have s2 := same_upd (o := HO.lst (cutV [V.str (S a), V.str (S b), V.str (S c), V.str (S d), V.str (S e), V.str (S u)] none (some 5))) np2
    have g12 := s2 _ _ g1
    have hh2 := s2 _ _ hh1
    generalize upd H1 p2 (.lst (cutV [V.str (S a), V.str (S b), V.str (S c), V.str (S d), V.str (S e), V.str (S u)] none (some 5))) = H2 at g2 s2 g12 hh2 ⊢
    refine ⟨_, rfl, h, _, 0, _, rfl, rfl, SqL.of hh2, rfl, (show 1 ≤ sizeLine by decide), fun p3 np3 => ?_⟩
    have s3 := same_upd (o := HO.lst [V.str (S fs)]) np3
    have g3 : (upd H2 p3 (.lst [V.str (S fs)])) p3 = some (.lst [V.str (S fs)]) := upd_same
    have g23 := s3 _ _ g2
    have g13 := s3 _ _ g12
    have hh3 := s3 _ _ hh2
    generalize upd H2 p3 (.lst [V.str (S fs)]) = H3 at g3 s3 g23 g13 hh3 ⊢
    refine ⟨p3, 4, _, rfl, rfl, g3, by decide, by decide, (show (1 * 4 : Nat) ≤ sizeLine by decide), fun p4 np4 => ?_⟩
    have s4 := same_upd (o := HO.lst ((List.replicate (4 : Int).toNat [V.str (S fs)]).flatten)) np4
    have g4 : (upd H3 p4 (.lst ((List.replicate (4 : Int).toNat [V.str (S fs)]).flatten))) p4 = some (.lst [V.str (S fs), V.str (S fs), V.str (S fs), V.str (S fs)]) := upd_same
    have g24 := s4 _ _ g23
    have g14 := s4 _ _ g13
    have hh4 := s4 _ _ hh3
    generalize upd H3 p4 (.lst ((List.replicate (4 : Int).toNat [V.str (S fs)]).flatten)) = H4 at g4 s4 g24 g14 hh4 ⊢
    refine ⟨_, rfl, h, _, 1, _, rfl, rfl, SqL.of hh4, rfl, (show 1 ≤ sizeLine by decide), fun p5 np5 => ?_⟩
    have s5 := same_upd (o := HO.lst [V.str (S cs)]) np5
    have g5 : (upd H4 p5 (.lst [V.str (S cs)])) p5 = some (.lst [V.str (S cs)]) := upd_same
    have g45 := s5 _ _ g4
    have g25 := s5 _ _ g24
    have g15 := s5 _ _ g14
    have hh5 := s5 _ _ hh4
    generalize upd H4 p5 (.lst [V.str (S cs)]) = H5 at g5 s5 g45 g25 g15 hh5 ⊢
    refine ⟨p4, p5, _, _, rfl, rfl, g45, g5, (show 5 ≤ sizeLine by decide), fun p6 np6 => ?_⟩
    have g6 : (upd H5 p6 (.lst ([V.str (S fs), V.str (S fs), V.str (S fs), V.str (S fs)] ++ [V.str (S cs)]))) p6 = some (.lst ((zipR a b c d e fs cs).map fun z => V.str (S z.2))) := upd_same
    have s6 := same_upd (o := HO.lst ([V.str (S fs), V.str (S fs), V.str (S fs), V.str (S fs)] ++ [V.str (S cs)])) np6
    have g26 := s6 _ _ g25
    have g16 := s6 _ _ g15
    have hh6 := s6 _ _ hh5
    have s06 := ((((s1.trans s2).trans s3).trans s4).trans s5).trans s6
    generalize upd H5 p6 (.lst ([V.str (S fs), V.str (S fs), V.str (S fs), V.str (S fs)] ++ [V.str (S cs)])) = H6 at g6 g26 g16 hh6 s06 ⊢
    clear s1 s2 s3 s4 s5 s6 g15 g25 g45 g5 g14 g24 g4 g13 g23 g3 g12 g2 hh1 hh2 hh3 hh4 hh5 np np2 np3 np4 np5 np6
    have zlen : ∀ z ∈ zipR a b c d e fs cs, z.1.length ≤ 1000 := fun z hz => by
      unfold zipR at hz
      simp only [List.mem_cons, List.not_mem_nil, or_false] at hz
      rcases hz with rfl | rfl | rfl | rfl | rfl
      · exact len _ (by simp)
      · exact len _ (by simp)
      · exact len _ (by simp)
      · exact len _ (by simp)
      · exact len _ (by simp)
    generalize hZ : zipR a b c d e fs cs = Z at g26 g6 hq zlen
    refine ⟨_, _, Z.map fun z => V.str (S z.1), Z.map fun z => V.str (S z.2), rfl, .l (SqL.of g26), .l (SqL.of g6), fun k1 k2 e1 e2 r1 r2 => ?_⟩
    have hk1 : ∀ H', Same H6 H' → k1.src K H' (Z.map fun z => V.str (S z.1)) := fun H' s => by
      cases k1 with
      | l a => cases e1; exact s.seq r1
      | t a => cases e1; exact s.tup r1
      | s x t => cases e1
    have hk2 : ∀ H', Same H6 H' → k2.src K H' (Z.map fun z => V.str (S z.2)) := fun H' s => by
      cases k2 with
      | l a => cases e2; exact s.seq r2
      | t a => cases e2; exact s.tup r2
      | s x t => cases e2
    refine for_it (walk_zipG (xs := Z.map fun z : List Nat × List Nat => V.str (S z.1)) (ys := Z.map fun z : List Nat × List Nat => V.str (S z.2)) (n := Z.length) (by rw [List.length_map, List.length_map, Nat.min_self])) (fun i σ H' => ∃ y3 y4 : Option V, σ = [some (.str (S l)), some (.ref h), some (.ref p), y3, y4] ∧ Same H6 H' ∧ ((Z.take i).all fun z => okP z.1 z.2) = true) ⟨_, _, rfl, Same.refl _, rfl⟩ (fun i σ H' _ ⟨_, _, _, s, _⟩ => ⟨hk1 H' s, hk2 H' s⟩) ?_ ?_
    · rintro i _ σ H7 H8 hi ⟨y3, y4, rfl, s7, all7⟩ ⟨T', x1, y1, rfl, nT, rfl, hx1, hy1⟩
      have hzi : Z[i]? = some Z[i] := List.getElem?_eq_getElem hi
      have hx2 : (Z.map fun z => V.str (S z.1))[i]? = some x1 := hx1
      have hy2 : (Z.map fun z => V.str (S z.2))[i]? = some y1 := hy1
      rw [List.getElem?_map, hzi] at hx2 hy2
      generalize Z[i] = z at hzi hx2 hy2
      obtain rfl : V.str (S z.1) = x1 := Option.some.inj hx2
      obtain rfl : V.str (S z.2) = y1 := Option.some.inj hy2
      have hzm := List.mem_of_getElem? hzi
      have et : Z.take (i + 1) = Z.take i ++ [z] := by
        rw [List.take_add_one, hzi]
        rfl
      have sT := same_upd (o := HO.tup [V.str (S z.1), V.str (S z.2)]) nT
      refine ⟨T', _, rfl, SqT.of upd_same, rfl, _, _, rfl, _, [], rfl, rfl, ?_⟩
      have s8 := s7.trans sT
      generalize upd H7 T' (HO.tup [V.str (S z.1), V.str (S z.2)]) = H8 at s8 ⊢
      have good : okP z.1 z.2 = true → ∀ H', Same H8 H' → ∃ y3 y4 : Option V, [some (V.str (S l)), some (.ref h), some (.ref p), some (.str (S z.1)), some (.str (S z.2))] = [some (V.str (S l)), some (.ref h), some (.ref p), y3, y4] ∧ Same H6 H' ∧ ((Z.take (i + 1)).all fun z => okP z.1 z.2) = true := fun ho H' s' => by
        refine ⟨_, _, rfl, s8.trans s', ?_⟩
        rw [et, List.all_append, all7]
        simp [ho]
      have e46 : decide (V.str (S z.1) = V.str ".") = decide (z.1 = [46]) := decide_eq_decide.mpr ⟨fun e => S_injE (V.str.inj e), fun e => by rw [e]; rfl⟩
      refine ⟨_, rfl, rfl, _, rfl, ?_⟩
      rw [e46]
      cases h46 : decide (z.1 = [46]) with
      | true =>
        refine iteF (iteF ?_)
        exact good (by unfold okP; rw [h46]; rfl) _ (Same.refl _)
      | false =>
        refine iteT ⟨_, rfl, _, rfl, z.1, z.2, rfl, zlen z hzm, fun H9 s9 => ⟨_, rfl, ?_⟩⟩
        cases hg : goesB z.1 z.2 with
        | true =>
          refine iteF ?_
          exact good (by unfold okP; rw [hg, Bool.or_true]) _ s9
        | false =>
          refine iteT (hq false ?_ _ (s06.trans (s8.trans s9)))
          have : (Z.all fun z => okP z.1 z.2) = false := by
            rw [List.all_eq_false]
            exact ⟨z, hzm, by unfold okP; rw [h46, hg]; exact Bool.false_ne_true⟩
          rw [this, Bool.false_and]
    · rintro σ H7 ⟨y3, y4, rfl, s7, all7⟩
      rw [List.take_of_length_le (Nat.le_refl _)] at all7
      rw [all7, Bool.true_and] at hq
      have hp7 := s7 _ _ g16
      have hh7 := s7 _ _ hh6
      have s07 := s06.trans s7
      unfold lastB at hq
      refine ⟨_, rfl, p, _, 5, _, rfl, rfl, SqL.of hp7, rfl, rfl, ?_⟩
      have en : decide (V.str (S u) = V.str "none") = decide (u = noneL) := decide_eq_decide.mpr ⟨fun e => S_injE (V.str.inj e), fun e => by rw [e]; rfl⟩
      rw [en]
      cases hn : decide (u = noneL) with
      | true =>
        rw [hn, Bool.true_or] at hq
        exact ⟨_, rfl, iteT (hq true rfl _ s07)⟩
      | false =>
        rw [hn, Bool.false_or] at hq
        refine ⟨_, rfl, iteF ?_⟩
        refine ⟨_, rfl, p, _, 5, _, rfl, rfl, SqL.of hp7, rfl, S u, rfl, by rw [S_len]; exact sz (by have := len u (by simp); omega), rfl, ?_⟩
        rw [S_len]
        by_cases h3 : u.length = 3
        · obtain ⟨g, x, y, rfl⟩ : ∃ g x y, u = [g, x, y] := by
            match u, h3 with
            | [g, x, y], _ => exact ⟨g, x, y, rfl⟩
          refine ⟨_, rfl, iteT ?_⟩
          have hq2 : ∀ v, (decide (g ∈ [124, 45]) && (decide (x ∈ fs) && decide (y ∈ fs))) = v → ∀ H', Same H H' → Q (.bl v) H' := fun v ev => hq v (by rw [← ev]; rfl)
          refine ⟨_, rfl, p, _, 5, _, rfl, rfl, SqL.of hp7, rfl, S [g, x, y], 0, _, rfl, rfl, (show 3 ≤ sizeLine by decide), atI_nat (j := 0) rfl, g, S [124, 45], rfl, rfl, ?_⟩
          refine ⟨_, rfl, ?_⟩
          cases c1 : decide (g ∈ (S [124, 45]).cps.toList) with
          | false =>
            refine iteF (hq2 false ?_ _ s07)
            rw [show decide (g ∈ [124, 45]) = false from c1, Bool.false_and]
          | true =>
            refine iteT ?_
            refine ⟨_, rfl, p, _, 5, _, rfl, rfl, SqL.of hp7, rfl, S [g, x, y], 1, _, rfl, rfl, (show 3 ≤ sizeLine by decide), atI_nat (j := 1) rfl, _, rfl, h, _, 0, _, rfl, rfl, SqL.of hh7, rfl, x, S fs, rfl, rfl, ?_⟩
            refine ⟨_, rfl, ?_⟩
            cases c2 : decide (x ∈ (S fs).cps.toList) with
            | false =>
              refine iteF (hq2 false ?_ _ s07)
              rw [show decide (x ∈ fs) = false from c2, Bool.false_and, Bool.and_false]
            | true =>
              refine iteT ?_
              refine ⟨_, rfl, p, _, 5, _, rfl, rfl, SqL.of hp7, rfl, S [g, x, y], 2, _, rfl, rfl, (show 3 ≤ sizeLine by decide), atI_nat (j := 2) rfl, _, rfl, h, _, 0, _, rfl, rfl, SqL.of hh7, rfl, y, S fs, rfl, rfl, ?_⟩
              refine hq2 _ ?_ _ s07
              rw [show decide (g ∈ [124, 45]) = true from c1, show decide (x ∈ fs) = true from c2]
              rfl
        · rw [show decide (V.int ((u.length : Nat) : Int) = V.int 3) = false from decide_eq_false fun e => h3 (by have := V.int.inj e; omega)]
          refine ⟨_, rfl, iteF (hq false ?_ _ s07)⟩
          rw [decide_eq_false h3, Bool.false_and]
  · refine ite_ndec (fun _ => ?_) (fun e => ?_)
    · have q1 := q _ s1
      rw [readB_len h6] at q1
      exact q1
    · have := V.int.inj e
      exact absurd (by omega) h6
end
end FW
namespace FW
open PySem PySem.Spec PyProof.Rows L2
-- more
section
variable {P : Program} {w : World} {K : PySem.W.Frag} {mg : Str → Option Value} {base : Heap}
abbrev s_InvalidText_init : Stmt := inCls (topS 9) 0
theorem sc_InvalidText_init : FnScope ["self", "line"] ["self", "line"] (defScope s_InvalidText_init) := ⟨rfl, rfl, rfl, by decide +kernel, rfl, by decide +kernel, by decide +kernel⟩
theorem ok_InvalidText_init {f : Addr} {fd : FuncData} (F : Fun K "__init__" "InvalidText.__init__" s_InvalidText_init f fd) (G : GsK K) : FnOk P w K mg base CX0 1 f fd ["self", "line"] (sp_init K "line") := by
  refine F.ok sc_InvalidText_init (fun vs H Q E h => ?_) (fun cdv A outer s H vs Q E hr h => ?_)
  · obtain ⟨a, C, v, z, rfl, _⟩ := h
    rfl
  · obtain ⟨a, C, v, z, rfl, ha, T, Te, Tn, nf, nc, q⟩ := h
    refine ⟨_, (pss_cons (ps_ost (pv 0) (pv 1)) (pss_one (ps_ost (pv 0) (pe_name (pe_cls G (pv 0)))))), ?_⟩
    refine ⟨_, rfl, _, rfl, a, C, rfl, T, nf, .inl ⟨ha, fun dx hd hda => ?_⟩⟩
    have e1 : (upd (upd H dx (exd dx [(Str.ofString "line", v)])) a (exo a C (some dx))) a = some (exo a C (some dx)) := upd_same
    have e2 : (upd (upd H dx (exd dx [(Str.ofString "line", v)])) a (exo a C (some dx))) dx = some (exd dx [(Str.ofString "line", v)]) := by
      rw [upd_ne hda, upd_same]
    refine ⟨_, rfl, a, C, rfl, .inr ⟨dx, _, e1, e2⟩, Te, C, z, rfl, Tn, _, rfl, a, C, rfl, T, nc, .inr ⟨dx, _, e1, e2, (show 1 ≤ 900 by decide), ?_⟩⟩
    exact q dx hd hda
def sp_Book_readX (K : PySem.W.Frag) (CB C : Addr) : Sp := fun vs H Q E => ∃ v : V, vs = [v] ∧ ((∃ t : List Nat, v = .str (S t) ∧ t.length ≤ 1000 ∧
    (∀ k, dueR t = some k → ∀ H' d, Same H H' → H' d = none → E (.ref C) (some d) (upd H' d (Err1 "line" "InvalidText" (.int (k : Nat))))) ∧
    (dueR t = none → ∀ H' x F Cc ls, Same H H' → H x = none → BookAt K CB H' x F Cc ls → bookT F Cc (ls.map (·.2)) = S t → ls.length + 1 = (sp1 10 t).length → Q (.ref x) H')) ∨
  (isStr v = false ∧ NotS K H v ∧ ∀ H' d, Same H H' → H' d = none → E (.ref C) (some d) (upd H' d (Err1 "line" "InvalidText" (.int 0)))))
theorem dueR_head {t r0 : List Nat} {rs : List (List Nat)} (h : sp1 10 t = r0 :: rs) (hh : headR r0 = none) : dueR t = some 0 := by
  unfold dueR
  rw [h]
  show (match headR r0 with | none => some 0 | some FC => goR FC.1 FC.2 1 rs) = some 0
  rw [hh]
theorem dueR_go {t r0 F C : List Nat} {rs : List (List Nat)} (h : sp1 10 t = r0 :: rs) (hh : headR r0 = some (F, C)) : dueR t = goR F C 1 rs := by
  unfold dueR
  rw [h]
  show (match headR r0 with | none => some 0 | some FC => goR FC.1 FC.2 1 rs) = _
  rw [hh]
theorem headR_ok {l F C : List Nat} (h : headR l = some (F, C)) : sp1 32 l = [F, C] ∧ bFaces (.str (S F)) = true ∧ bCutters (.str (S C)) = true := by
  unfold headR at h
  split at h
  · rename_i f c e
    split at h
    · rename_i hb
      rw [Bool.and_eq_true] at hb
      cases h
      exact ⟨e, hb.1, hb.2⟩
    · cases h
  · cases h
theorem lineR_ok {l F C : List Nat} {w : W6} (h : lineR F C l = some w) (hl : l.length ≤ 1000) : rowW w = S l ∧ bLine w.1 w.2.1 w.2.2.1 w.2.2.2.1 w.2.2.2.2.1 w.2.2.2.2.2 F C = true ∧ ∀ p ∈ w6L w, p.length ≤ 1000 := by
  by_cases h6 : (sp1 32 l).length = 6
  · obtain ⟨a, b, c, d, e, u, e6⟩ := six_of h6
    rw [lineR_six e6] at h
    have len : ∀ x ∈ [a, b, c, d, e, u], x.length ≤ 1000 := fun x hx => Nat.le_trans (sp1_len (x := 32) (by rw [e6]; exact hx)) hl
    by_cases hu : u = []
    · rw [if_pos hu] at h
      cases h
    · rw [if_neg hu] at h
      generalize hu' : (if u = noneL then [] else u) = u' at h
      by_cases hb : bLine a b c d e u' F C = true
      · rw [if_pos hb] at h
        obtain rfl := Option.some.inj h
        have hw : wordU u' = u := by
          rw [← hu']
          unfold wordU
          by_cases hn : u = noneL
          · rw [if_pos hn, if_pos rfl, hn]
          · rw [if_neg hn, if_neg hu]
        refine ⟨?_, hb, fun p hp => ?_⟩
        · show Txt.join " " ([a, b, c, d, e, wordU u'].map S) = S l
          rw [hw, show (" " : Str) = S [32] from rfl, SX.join_S, ← sp1_of e6]
        · simp only [w6L, List.mem_cons, List.not_mem_nil, or_false] at hp
          rcases hp with rfl | rfl | rfl | rfl | rfl | rfl
          · exact len _ (by simp)
          · exact len _ (by simp)
          · exact len _ (by simp)
          · exact len _ (by simp)
          · exact len _ (by simp)
          · rw [← hu']
            split
            · exact Nat.zero_le _
            · exact len _ (by simp)
      · rw [if_neg hb] at h
        cases h
  · rw [lineR_len h6] at h
    cases h
theorem choice_chr {z : List Nat} {L : List Nat} {m : Int} (h : bChoice (.str (S z)) L m = true) (hL : ∀ c ∈ L, c < 128) : ∀ c ∈ z, c < 128 := fun c hc => by
  unfold bChoice at h
  simp only [Bool.and_eq_true, List.all_eq_true, decide_eq_true_eq] at h
  exact hL c (h.1.2 c hc)
theorem lower_128 : ∀ c ∈ lower, c < 128 := by decide +kernel
theorem upper_128 : ∀ c ∈ upper, c < 128 := by decide +kernel
theorem goR_step {F C l : List Nat} {k : Nat} {rs : List (List Nat)} : goR F C k (l :: rs) = if (lineR F C l).isNone || decide (8 < k) then some k else goR F C (k + 1) rs := rfl
theorem okx_Book_read {f CB fB CT fI : Addr} {fd fdI : FuncData} {t8 : Tok} {mc : Value} (F : Fun K "read" "Book.read" s_Book_read f fd) (T : Z mg) (gB : mg "Book" = some (.ref CB)) (rC : ClX.CRead K CB mc) (vM : ClX.CVal K CB mc "MOST" (.int 8) (.int 8 t8))
    (M : Mk K CB fB) (hC : Cls K CB) (nf : NoAttr K CB "faces") (nc : NoAttr K CB "cutters") (nl : NoAttr K CB "_lines")
    (TR : Kls K mg CT fI "InvalidText") (nfg : PySem.W.findIn K (.ref CT) (Str.ofString "line") = some none)
    (FI : FnOk P w K mg base CX0 1 fI fdI ["self", "line"] (sp_init K "line")) (bI : Binds K fdI ["self", "line"] [])
    (FB : FnR P w K mg base CX0 6 fB (fun vs H Q E => ∃ ws rest, vs = ws ++ rest ∧ ws.length = ["self", "faces", "cutters"].length ∧ rest.length ≤ sizeLine ∧ ∀ p, H p = none → sp_Book_init K (ws ++ [V.ref p]) (upd H p (.tup rest)) Q E))
    (cx_head_of : Cal P w K mg base CX0 4 "head_of" s_head_of ["row"] (sp_head_ofX K)) (cx_line_of : Cal P w K mg base CX0 5 "line_of" s_line_of ["row", "faces", "cutters"] (sp_line_ofX K)) :
    FnOk P w K mg base (L2.CX P w) 8 f fd ["text"] (sp_Book_readX K CB CT) := by
  refine F.okX sc_Book_read (fun vs H Q E h => ?_) (fun cdv A outer s H vs Q E hr h => ?_)
  · obtain ⟨v, rfl, _⟩ := h
    rfl
  obtain ⟨v, rfl, q⟩ := h
  refine ⟨_, (pss_cons (ps_if (pt_not (pt_val (pe_callB call_isi (by rfl) T.z_isinstance (by decide +kernel) (pa_cons (pv 0) (pa_cons (pe_bltn (v := .ty "str") (u := .type "str") (by rfl) T.z_str (by decide +kernel) rfl) pa_nil))))) (pss_one (ps_raise rfl (takes_of rfl rfl rfl rfl) (pmk_oex TR.oex TR.init TR.tI FI (hr.mono (by decide)) bI .nil pass0 (by rfl) TR.g (pa_cons pe_int pa_nil)))) pss_nil)
    (pss_cons (ps_set (i := 1) sc_Book_read.nd rfl (.inl rfl) (pe_split (pv 0) pe_str))
    (pss_cons (ps_set (i := 2) sc_Book_read.nd rfl (.inl rfl) (pe_c cx_head_of hr (by decide) (by rfl) (pa_cons (pe_ix ix_list (pv 1) pe_int (fun _ _ => rfl)) pa_nil)))
    (pss_cons (ps_if (pt_cmp (pc_isN (pv 2))) (pss_one (ps_raise rfl (takes_of rfl rfl rfl rfl) (pmk_oex TR.oex TR.init TR.tI FI (hr.mono (by decide)) bI .nil pass0 (by rfl) TR.g (pa_cons pe_int pa_nil)))) pss_nil)
    (pss_cons (ps_asg (pv 2) (pg_tup rfl (pgs_cons (pg_name (i := 3) sc_Book_read.nd rfl (.inl rfl)) (pgs_cons (pg_name (i := 4) sc_Book_read.nd rfl (.inl rfl)) pgs_nil))))
    (pss_cons (ps_set (i := 5) sc_Book_read.nd rfl (.inl rfl) (pe_lst pa_nil))
    (pss_cons (ps_for (passes_of rfl) rfl (pi_range2 (by rfl) T.z_range (pa_cons pe_int (pa_cons (pe_callB call_len_seq (by rfl) T.z_len (by decide +kernel) (pa_cons (pv 1) pa_nil)) pa_nil))) (pg_name (i := 6) sc_Book_read.nd rfl (.inl rfl))
      (pss_cons (ps_set (i := 7) sc_Book_read.nd rfl (.inl rfl) (pe_c cx_line_of hr (by decide) (by rfl) (pa_cons (pe_ix ix_list (pv 1) (pv 6) (fun _ _ => rfl)) (pa_cons (pv 3) (pa_cons (pv 4) pa_nil)))))
      (pss_cons (ps_if (PW.pt (pw_or (pt_cmp (pc_isN (pv 7))) (pw_or1 (pt_cmpR op_gt (pv 6) (ClX.pe_cval (pe_glob (v := .ref CB) rfl gB rfl)) (nomark _))))) (pss_one (ps_raise rfl (takes_of rfl rfl rfl rfl) (pmk_oex TR.oex TR.init TR.tI FI (hr.mono (by decide)) bI .nil pass0 (by rfl) TR.g (pa_cons (pv 6) pa_nil)))) pss_nil)
      (pss_one (ps_expr (pe_bm PySem.F.plainAttrs_list PySem.F.slot_list_append PySem.F.type_list_append mt_append (pv 5) (pa_cons (pv 7) pa_nil)))))))
    (pss_one (ps_ret (pe_makeS M FB hr (by rfl) gB pass0 (pa_cons (pv 3) (pa_cons (pv 4) (StX.pa_star (pv 5) pa_nil))))))))))))), ?_⟩
  rcases q with ⟨t, rfl, ht, q1, q2⟩ | ⟨hns, ⟨Ty, hTy, hkit⟩, q1⟩
  · refine ⟨_, rfl, _, _, _, _, true, rfl, .ty _, .base (.str _), kit_ty (by decide +kernel), true, rfl, iteF ?_⟩
    refine ⟨_, rfl, ⟨_, rfl⟩, _, _, rfl, rfl, rfl, by rw [S_len]; exact Nat.le_trans (Nat.add_le_add_right ht 2) (by decide), fun pr npr => ?_⟩
    rw [show ("\n" : Str) = S [10] from rfl, split1 (by decide)]
    have sr := same_upd (o := HO.lst (((sp1 10 t).map S).map V.str)) npr
    have gr : (upd H pr (.lst (((sp1 10 t).map S).map V.str))) pr = some (.lst (((sp1 10 t).map S).map V.str)) := upd_same
    generalize upd H pr (.lst (((sp1 10 t).map S).map V.str)) = H1 at sr gr
    cases e10 : sp1 10 t with
    | nil => exact absurd e10 (sp1_ne 10 t)
    | cons r0 rs =>
      rw [e10] at gr
      have rl : ∀ r ∈ r0 :: rs, r.length ≤ 1000 := fun r hr => Nat.le_trans (sp1_len (x := 10) (by rw [e10]; exact hr)) ht
      have few : rs.length ≤ 1000 := by
        have := sp1_few 10 t
        rw [e10, List.length_cons] at this
        omega
      refine ⟨_, rfl, pr, _, 0, _, rfl, rfl, SqL.of gr, at_of (show (0 : Int) = ((0 : Nat) : Int) from rfl) rfl, r0, rfl, rl _ List.mem_cons_self, fun fs cs hh H2 ph s2 nph hph => ?_, fun hh H2 s2 => ?_⟩
      · obtain ⟨e2, b1, b2⟩ := headR_ok hh
        have l1 : fs.length ≤ 1000 := Nat.le_trans (sp1_len (x := 32) (by rw [e2]; simp)) (rl _ List.mem_cons_self)
        have l2 : cs.length ≤ 1000 := Nat.le_trans (sp1_len (x := 32) (by rw [e2]; simp)) (rl _ List.mem_cons_self)
        have hdue := dueR_go e10 hh
        refine ⟨_, rfl, _, rfl, iteF ?_⟩
        refine ⟨_, rfl, ph, _, rfl, SqT.of hph, rfl, _, _, rfl, _, [], rfl, rfl, ?_⟩
        refine ⟨(show 0 ≤ sizeLine by decide), fun pl npl => ?_⟩
        have s02 := sr.trans s2
        have gr2 := s2 _ _ gr
        have npl0 := noneS s02 npl
        have hlen : (((r0 :: rs).map S).map V.str).length = rs.length + 1 := by
          rw [List.length_map, List.length_map, List.length_cons]
        refine ⟨_, rfl, pr, _, rfl, .inl (SqL.of ((same_upd npl) _ _ gr2)), 1, _, rfl, ?_, ?_⟩
        · rw [hlen]
          omega
        rw [hlen, show (((rs.length + 1 : Nat) : Int) - 1).toNat = rs.length by omega]
        refine for_it walk_range (fun i σ H' => ∃ (y6 y7 : Option V) (ls : List LineV), σ = [some (.str (S t)), some (.ref pr), some (.ref ph), some (.str (S fs)), some (.str (S cs)), some (.ref pl), y6, y7] ∧ Same H H' ∧ H' pr = some (.lst (((r0 :: rs).map S).map V.str)) ∧
            H' pl = some (.lst (ls.map fun r => V.ref r.1)) ∧ (∀ r ∈ ls, H' r.1 = some r.tup) ∧ ls.length = i ∧ i ≤ 8 ∧ (∀ r ∈ ls, LineOk r fs cs) ∧ (ls.map fun r => rowW r.2) = (rs.take i).map S ∧ goR fs cs 1 rs = goR fs cs (1 + i) (rs.drop i))
          ⟨_, _, [], rfl, s02.trans (same_upd npl), (same_upd npl) _ _ gr2, upd_same, (fun _ h => by cases h), rfl, Nat.zero_le _, (fun _ h => by cases h), rfl, rfl⟩ (fun _ _ _ _ _ => trivial) ?_ ?_
        · rintro i x σ H3 H4 hi ⟨y6, y7, ls, rfl, s3, gr3, gl3, at3, ll3, i8, ok3, e3, go3⟩ ⟨rfl, rfl⟩
          have hiw : rs[i]? = some rs[i] := List.getElem?_eq_getElem hi
          have hdrop : rs.drop i = rs[i] :: rs.drop (i + 1) := List.drop_eq_getElem_cons hi
          generalize rs[i] = l at hiw hdrop
          have hlm := rl l (List.mem_cons_of_mem _ (List.mem_of_getElem? hiw))
          have et : rs.take (i + 1) = rs.take i ++ [l] := by
            rw [List.take_add_one, hiw]
            rfl
          rw [hdrop, goR_step] at go3
          have hrow : (((r0 :: rs).map S).map V.str)[1 + i]? = some (.str (S l)) := by
            rw [Nat.add_comm, List.map_cons, List.map_cons, List.getElem?_cons_succ, List.map_map, List.getElem?_map, hiw]
            rfl
          have ek : (1 : Int) + (i : Int) = ((1 + i : Nat) : Int) := by omega
          refine ⟨_, rfl, _, rfl, pr, _, 1 + (i : Int), _, rfl, rfl, SqL.of gr3, at_of ek hrow, _, rfl, _, rfl, l, fs, cs, rfl, hlm, l1, l2, fun wd hwd H5 pn s5 npn hpn => ?_, fun hwd H5 s5 => ?_⟩
          · obtain ⟨hrw, hbl, hln⟩ := lineR_ok hwd hlm
            rw [hwd, show (some wd).isNone = false from rfl, Bool.false_or] at go3
            refine ⟨_, rfl, _, rfl, iteF ?_⟩
            refine ⟨_, rfl, CB, mc, .int 8, _, rfl, rC, vM, _, _, rfl, rfl, _, rfl, ?_⟩
            by_cases h8 : 8 < 1 + i
            · rw [show decide ((8 : Int) < 1 + ((i : Nat) : Int)) = true from decide_eq_true (by omega)]
              rw [decide_eq_true h8, if_pos rfl] at go3
              refine iteT ⟨_, rfl, mk1 TR nfg fun d' hd' => ?_⟩
              have q5 := q1 (1 + i) (hdue.trans go3) _ d' (s3.trans s5) hd'
              rw [← ek] at q5
              exact q5
            rw [show decide ((8 : Int) < 1 + ((i : Nat) : Int)) = false from decide_eq_false (by omega)]
            rw [decide_eq_false h8, if_neg Bool.false_ne_true] at go3
            refine iteF ?_
            have gl5 := s5 _ _ gl3
            have prl : pr ≠ pl := ne_of_none gr2 npl
            have nep : pn ≠ pl := fun z => by
              rw [z, gl3] at npn
              cases npn
            refine ⟨_, rfl, .inl ⟨rfl, _, SqL.of gl5⟩, _, rfl, pl, _, _, rfl, rfl, gl5, ?_, ?_⟩
            · rw [List.length_map]
              exact sz1 (by omega)
            refine ⟨_, _, ls ++ [(pn, wd)], rfl, fun z o hz => (upd_ne (ne_of_none hz npl0)).trans (s5 _ _ (s3 _ _ hz)), (upd_ne prl).trans (s5 _ _ gr3), ?_, fun r hr => ?_, ?_, by omega, fun r hr => ?_, ?_, ?_⟩
            · rw [upd_same, List.map_append]
              rfl
            · rcases List.mem_append.mp hr with h | h
              · have h3 := at3 r h
                have hne : r.1 ≠ pl := fun z => by
                  rw [z, gl3] at h3
                  cases h3
                exact (upd_ne hne).trans (s5 _ _ h3)
              · rw [List.mem_singleton.mp h]
                exact (upd_ne nep).trans hpn
            · rw [List.length_append, List.length_singleton, ll3]
            · rcases List.mem_append.mp hr with h | h
              · exact ok3 r h
              · rw [List.mem_singleton.mp h]
                exact ⟨hln, hbl⟩
            · rw [List.map_append, e3, et, List.map_append, List.map_singleton, hrw]
              rfl
            · rw [go3]
              rfl
          · rw [hwd, show (none : Option W6).isNone = true from rfl, Bool.true_or, if_pos rfl] at go3
            refine ⟨_, rfl, _, rfl, iteT ⟨_, rfl, mk1 TR nfg fun d' hd' => ?_⟩⟩
            have q5 := q1 (1 + i) (hdue.trans go3) _ d' (s3.trans s5) hd'
            rw [← ek] at q5
            exact q5
        · rintro σ H3 ⟨y6, y7, ls, rfl, s3, gr3, gl3, at3, ll3, i8, ok3, e3, go3⟩
          rw [List.take_of_length_le (Nat.le_refl _)] at e3
          rw [List.drop_length] at go3
          have hnone : dueR t = none := hdue.trans go3
          have hls : ls.length ≤ 8 := by omega
          refine ⟨_, rfl, _, rfl, _, rfl, pl, _, rfl, .inr (SqL.of gl3), fun x dx nx ndx hne => ?_⟩
          have nx0 := noneS s3 nx
          have hxm : (upd (upd H3 dx (.own x)) x (.ins CB dx [])) x = some (.ins CB dx []) := upd_same
          have sm : Same H3 (upd (upd H3 dx (.own x)) x (.ins CB dx [])) := fun z o hz => (upd_ne (ne_of_none hz nx)).trans ((upd_ne (ne_of_none hz ndx)).trans hz)
          refine ⟨[.ref x, .str (S fs), .str (S cs)], ls.map fun r => V.ref r.1, by rw [List.append_nil]; rfl, rfl, ?_, fun tl ntl => ?_⟩
          · rw [List.length_map]
            exact Nat.le_trans hls (by decide)
          have htx : tl ≠ x := fun z => by
            rw [z, hxm] at ntl
            cases ntl
          have st := same_upd (o := HO.tup (ls.map fun r => V.ref r.1)) ntl
          refine ⟨x, CB, dx, tl, fs, cs, ls, rfl, st _ _ hxm, hC, nf, nc, nl, b1, b2, l1, l2, upd_same, ⟨fun r hr => st _ _ (sm _ _ (at3 r hr)), ok3, hls⟩, fun H' s' => ⟨rfl, ?_⟩⟩
          have far : ∀ z o, z ≠ x → (upd (upd (upd H3 dx (.own x)) x (.ins CB dx [])) tl (.tup (ls.map fun r => V.ref r.1))) z = some o → (upd H' x (.ins CB dx (bookF fs cs tl))) z = some o := fun z o n h => (upd_ne n).trans (s' _ _ h)
          refine q2 hnone _ x fs cs ls (fun z o hz => far z o (ne_of_none hz nx0) (st _ _ (sm _ _ (s3 _ _ hz)))) nx0 ⟨⟨dx, tl, upd_same, far _ _ htx upd_same⟩, ⟨fun r hr => far _ _ (fun z => ?_) (st _ _ (sm _ _ (at3 r hr))), ok3, hls⟩, ⟨l1, l2⟩, ⟨choice_chr b1 lower_128, choice_chr b2 upper_128⟩⟩ ?_ (by rw [e10, List.length_cons, ll3])
          · have h3 := at3 r hr
            rw [z, nx] at h3
            cases h3
          · unfold bookT headT
            rw [List.map_map, show (rowW ∘ fun x : LineV => x.2) = fun r => rowW r.2 from rfl, e3, show (" " : Str) = S [32] from rfl, SX.join_S, ← sp1_of e2, show S r0 :: rs.map S = (r0 :: rs).map S from rfl, show ("\n" : Str) = S [10] from rfl, SX.join_S, ← sp1_of e10]
      · refine ⟨_, rfl, _, rfl, iteT (mk1 TR nfg fun d' hd' => ?_)⟩
        exact q1 0 (dueR_head e10 hh) _ d' (sr.trans s2) hd'
  · refine ⟨_, rfl, _, _, _, _, false, rfl, .ty _, hTy, kit_ty hkit, false, rfl, iteT ?_⟩
    exact mk1 TR nfg fun d' hd' => q1 _ d' (Same.refl _) hd'
end
end FW
namespace FW
open PySem PySem.Spec PyProof.Rows L2
-- more
section
variable {P : Program} {w : World} {K : PySem.W.Frag} {mg : Str → Option Value} {base : Heap}
abbrev s__law_text_due : Stmt := topS 51
theorem sc__law_text_due : FnScope ["_law_text", "_law_rows", "_law_head", "_law_at", "_law_row"] ["_law_text"] (defScope s__law_text_due) := ⟨rfl, rfl, rfl, by decide +kernel, rfl, by decide +kernel, by decide +kernel⟩
theorem cutV_from1 {x : V} {xs : List V} : cutV (x :: xs) (some 1) none = xs := by
  unfold cutV
  rw [HT.sIx_none, show (some (1 : Int)) = some ((1 : Nat) : Int) from rfl, HT.sIx_nat, Nat.min_eq_left (by rw [List.length_cons]; omega)]
  exact List.take_of_length_le (by rw [List.length_drop]; exact Nat.le_refl _)
def dueI (t : List Nat) : Int := match dueR t with
  | some k => (k : Int)
  | none => -1
theorem choice_goes (p L : List Nat) (m : Nat) : bChoice (.str (S p)) L (m : Int) = (goesB p L && decide (p.length ≤ m)) := by
  show (true && (decide ((1 : Int) ≤ (p.length : Int)) && decide ((p.length : Int) ≤ (m : Int))) && (p.all fun c => decide (c ∈ L)) && ascB p) = (goesB p L && decide (p.length ≤ m))
  unfold goesB
  have e1 : decide ((1 : Int) ≤ (p.length : Int)) = decide (p ≠ []) := decide_eq_decide.mpr ⟨fun h e => by rw [e] at h; exact absurd h (by decide), fun h => by have := List.length_pos_iff.mpr h; omega⟩
  have e2 : decide ((p.length : Int) ≤ (m : Int)) = decide (p.length ≤ m) := decide_eq_decide.mpr ⟨fun h => by omega, fun h => by omega⟩
  rw [e1, e2, Bool.true_and]
  cases decide (p ≠ []) <;> cases decide (p.length ≤ m) <;> cases (p.all fun c => decide (c ∈ L)) <;> cases ascB p <;> rfl
def sp__law_text_due (K : PySem.W.Frag) : Sp := fun vs H Q _ => ∃ (t : List Nat), vs = [.str (S t)] ∧ t.length ≤ 1000 ∧ ∀ H', Same H H' → Q (.int (dueI t)) H'
theorem ok__law_text_due {f : Addr} {fd : FuncData} (F : Fun K "_law_text_due" "_law_text_due" s__law_text_due f fd) (T : Z mg) (c__law_goes : Cal P w K mg base CX0 1 "_law_goes" s__law_goes ["_law_word", "_law_letters_here"] (sp__law_goes K))
    (c__law_read_line : Cal P w K mg base CX0 2 "_law_read_line" s__law_read_line ["_law_row", "_law_spec"] (sp__law_read_line K)) : FnOk P w K mg base CX0 3 f fd ["_law_text"] (sp__law_text_due K) := by
  refine F.ok sc__law_text_due (fun vs H Q E h => ?_) (fun cdv A outer s H vs Q E hr h => ?_)
  · obtain ⟨t, rfl, _⟩ := h
    rfl
  obtain ⟨t, rfl, ht, q⟩ := h
  refine ⟨_, (pss_cons (ps_set (i := 1) sc__law_text_due.nd rfl (.inl rfl) (pe_split (pv 0) pe_str))
      (pss_cons (ps_set (i := 2) sc__law_text_due.nd rfl (.inl rfl) (pe_split (pe_ix ix_list (pv 1) pe_int (fun _ _ => rfl)) pe_str))
      (pss_cons (ps_if (PW.pt (pw_or (pt_cmpR op_ne (pe_callB call_len_seq (by rfl) T.z_len (by decide +kernel) (pa_cons (pv 2) pa_nil)) pe_int (nomark _)) (pw_or (pt_not (pt_val (pe_c c__law_goes hr (by decide) (by rfl) (pa_cons (pe_ix ix_list (pv 2) pe_int (fun _ _ => rfl)) (pa_cons pe_str pa_nil))))) (pw_or1 (pt_cmpR op_gt (pe_callB call_len_str (by rfl) T.z_len (by decide +kernel) (pa_cons (pe_ix ix_list (pv 2) pe_int (fun _ _ => rfl)) pa_nil)) pe_int (nomark _)))))) (pss_one (ps_ret pe_int)) pss_nil)
      (pss_cons (ps_if (PW.pt (pw_or (pt_not (pt_val (pe_c c__law_goes hr (by decide) (by rfl) (pa_cons (pe_ix ix_list (pv 2) pe_int (fun _ _ => rfl)) (pa_cons pe_str pa_nil))))) (pw_or1 (pt_cmpR op_gt (pe_callB call_len_str (by rfl) T.z_len (by decide +kernel) (pa_cons (pe_ix ix_list (pv 2) pe_int (fun _ _ => rfl)) pa_nil)) pe_int (nomark _))))) (pss_one (ps_ret pe_int)) pss_nil)
      (pss_cons (ps_for PassesOwn.never rfl (pi_enumG (by rfl) T.z_enumerate (pa_cons (pe_slice sl_list (pv 1) (po_some pe_int) po_none) pa_nil)) (pg_tup rfl (pgs_cons (pg_name (i := 3) sc__law_text_due.nd rfl (.inl rfl)) (pgs_cons (pg_name (i := 4) sc__law_text_due.nd rfl (.inl rfl)) pgs_nil)))
        (pss_one (ps_if (PW.pt (pw_or (pt_cmpR op_gt (pv 3) pe_int (nomark _)) (pw_or1 (pt_not (pt_val (pe_c c__law_read_line hr (by decide) (by rfl) (pa_cons (pv 4) (pa_cons (pv 2) pa_nil)))))))) (pss_one (ps_ret (pe_op op_add (pv 3) pe_int))) pss_nil)))
      (pss_one (ps_ret (pe_un un_neg pe_int)))))))), ?_⟩
  have hq : ∀ o, dueR t = o → ∀ v, v = (match o with | some k => ((k : Nat) : Int) | none => -1) → ∀ H', Same H H' → Q (.int v) H' := fun o eo v ev H' s' => by
    rw [ev, ← eo]
    exact q H' s'
  refine ⟨_, rfl, ⟨_, rfl⟩, _, _, rfl, rfl, rfl, by rw [S_len]; exact Nat.le_trans (Nat.add_le_add_right ht 2) (by decide), fun p np => ?_⟩
  rw [show ("\n" : Str) = S [10] from rfl, split1 (by decide)]
  have g1 : (upd H p (.lst (((sp1 10 t).map S).map V.str))) p = some (.lst (((sp1 10 t).map S).map V.str)) := upd_same
  have s1 := same_upd (o := HO.lst (((sp1 10 t).map S).map V.str)) np
  generalize upd H p (.lst (((sp1 10 t).map S).map V.str)) = H1 at g1 s1 ⊢
  cases e10 : sp1 10 t with
  | nil => exact absurd e10 (sp1_ne 10 t)
  | cons r0 rs =>
    rw [e10] at g1
    have rl : ∀ r ∈ r0 :: rs, r.length ≤ 1000 := fun r hr => Nat.le_trans (sp1_len (x := 10) (by rw [e10]; exact hr)) ht
    have hr0 := rl r0 List.mem_cons_self
    refine ⟨_, rfl, p, _, 0, _, rfl, rfl, SqL.of g1, atI_nat (j := 0) rfl, ⟨_, rfl⟩, _, _, rfl, rfl, rfl, by rw [S_len]; exact Nat.le_trans (Nat.add_le_add_right hr0 2) (by decide), fun ph nph => ?_⟩
    rw [show (" " : Str) = S [32] from rfl, split1 (by decide)]
    have g2 : (upd H1 ph (.lst (((sp1 32 r0).map S).map V.str))) ph = some (.lst (((sp1 32 r0).map S).map V.str)) := upd_same
    have s2 := same_upd (o := HO.lst (((sp1 32 r0).map S).map V.str)) nph
    have g12 := s2 _ _ g1
    have s02 := s1.trans s2
    generalize upd H1 ph (.lst (((sp1 32 r0).map S).map V.str)) = H2 at g2 g12 s02 ⊢
    refine ⟨_, rfl, ph, _, rfl, .inl (SqL.of g2), rfl, _, rfl, ?_⟩
    rw [List.length_map, List.length_map]
    by_cases h2 : (sp1 32 r0).length = 2
    · obtain ⟨f, c, e2⟩ := two_of h2
      rw [e2] at g2
      have g2 : H2 ph = some (.lst [V.str (S f), V.str (S c)]) := g2
      have lf : f.length ≤ 1000 := Nat.le_trans (sp1_len (x := 32) (by rw [e2]; simp)) hr0
      have lc : c.length ≤ 1000 := Nat.le_trans (sp1_len (x := 32) (by rw [e2]; simp)) hr0
      have hh := headR_two e2
      rw [show bFaces (.str (S f)) = (goesB f lower && decide (f.length ≤ 6)) from choice_goes f lower 6, show bCutters (.str (S c)) = (goesB c upper && decide (c.length ≤ 4)) from choice_goes c upper 4] at hh
      have bad : headR r0 = none → ∀ H', Same H H' → Q (.int 0) H' := fun hn H' s' => hq _ (dueR_head e10 hn) 0 rfl H' s'
      rw [h2]
      refine iteF ⟨_, rfl, ph, _, 0, _, rfl, rfl, SqL.of g2, rfl, f, lower, rfl, lf, fun H3 s3 => ⟨_, rfl, ?_⟩⟩
      have s03 := s02.trans s3
      have g3 := s3 _ _ g2
      cases a1 : goesB f lower with
      | false =>
        rw [a1] at hh
        exact iteT (iteT (bad (by rw [hh]; rfl) _ s03))
      | true =>
        refine iteF ⟨_, rfl, ph, _, 0, _, rfl, rfl, SqL.of g3, rfl, S f, rfl, by rw [S_len]; exact sz (by omega), ?_⟩
        rw [S_len]
        refine ⟨_, _, rfl, rfl, _, rfl, ?_⟩
        by_cases l6 : f.length ≤ 6
        · rw [show decide ((6 : Int) < ((f.length : Nat) : Int)) = false from decide_eq_false (by omega)]
          rw [a1, decide_eq_true l6] at hh
          refine iteF ⟨_, rfl, ph, _, 1, _, rfl, rfl, SqL.of g3, rfl, c, upper, rfl, lc, fun H4 s4 => ⟨_, rfl, ?_⟩⟩
          have s04 := s03.trans s4
          have g4 := s4 _ _ g3
          cases a2 : goesB c upper with
          | false =>
            rw [a2] at hh
            exact iteT (iteT (bad (by rw [hh]; rfl) _ s04))
          | true =>
            refine iteF ⟨_, rfl, ph, _, 1, _, rfl, rfl, SqL.of g4, rfl, S c, rfl, by rw [S_len]; exact sz (by omega), ?_⟩
            rw [S_len]
            refine ⟨_, _, rfl, rfl, _, rfl, ?_⟩
            by_cases l4 : c.length ≤ 4
            · rw [show decide ((4 : Int) < ((c.length : Nat) : Int)) = false from decide_eq_false (by omega)]
              rw [a2, decide_eq_true l4] at hh
              have hgo := dueR_go e10 (show headR r0 = some (f, c) by rw [hh]; rfl)
              have g14 := s4 _ _ (s3 _ _ g12)
              refine iteF ⟨_, rfl, 1, rfl, p, _, rfl, SqL.of g14, fun p5 np5 => ?_⟩
              have ecut : cutV (((r0 :: rs).map S).map V.str) (some 1) none = (rs.map S).map V.str := cutV_from1
              have s5 := same_upd (o := HO.lst (cutV (((r0 :: rs).map S).map V.str) (some 1) none)) np5
              have g5 : (upd H4 p5 (.lst (cutV (((r0 :: rs).map S).map V.str) (some 1) none))) p5 = some (.lst ((rs.map S).map V.str)) := by rw [upd_same, ecut]
              have gh5 := s5 _ _ g4
              have s05 := s04.trans s5
              generalize upd H4 p5 (.lst (cutV (((r0 :: rs).map S).map V.str) (some 1) none)) = H5 at g5 gh5 s05 ⊢
              refine ⟨.ref p5, _, rfl, .l (SqL.of g5), fun k ev src => ?_⟩
              have stay : ∀ H', Same H5 H' → k.src K H' ((rs.map S).map V.str) := fun H' s => by
                cases k with
                | l a => cases ev; exact s.seq src
                | t a => cases ev; exact s.tup src
                | s x t => cases ev
              refine for_it (walk_enumG (xs := (rs.map S).map V.str)) (fun i σ H' => ∃ y3 y4 : Option V, σ = [some (.str (S t)), some (.ref p), some (.ref ph), y3, y4] ∧ Same H5 H' ∧ goR f c 1 rs = goR f c (1 + i) (rs.drop i)) ⟨_, _, rfl, Same.refl _, rfl⟩ (fun i σ H' _ ⟨_, _, _, s, _⟩ => stay H' s) ?_ ?_
              · rintro i v σ H6 H7 hi ⟨y3, y4, rfl, s6, go6⟩ ⟨T', x1, y1, rfl, nT, rfl, hx1, hy1⟩
                obtain rfl : V.int (i : Nat) = x1 := Option.some.inj hx1
                rw [List.length_map, List.length_map] at hi
                have hri : rs[i]? = some rs[i] := List.getElem?_eq_getElem hi
                have hdrop : rs.drop i = rs[i] :: rs.drop (i + 1) := List.drop_eq_getElem_cons hi
                have hy2 : ((rs.map S).map V.str)[i]? = some y1 := hy1
                rw [List.map_map, List.getElem?_map, hri] at hy2
                generalize rs[i] = l at hri hdrop hy2
                obtain rfl : V.str (S l) = y1 := Option.some.inj hy2
                have hlm := rl l (List.mem_cons_of_mem _ (List.mem_of_getElem? hri))
                rw [hdrop, goR_step] at go6
                have sT := same_upd (o := HO.tup [V.int (i : Nat), V.str (S l)]) nT
                refine ⟨T', _, rfl, SqT.of upd_same, rfl, _, _, rfl, _, [], rfl, rfl, ?_⟩
                have s7 := s6.trans sT
                generalize upd H6 T' (HO.tup [V.int (i : Nat), V.str (S l)]) = H7 at s7 ⊢
                have ek : ((i : Nat) : Int) + 1 = ((1 + i : Nat) : Int) := by omega
                refine ⟨_, rfl, _, _, rfl, rfl, _, rfl, ?_⟩
                by_cases h8 : 8 < 1 + i
                · rw [show decide ((7 : Int) < ((i : Nat) : Int)) = true from decide_eq_true (by omega)]
                  rw [decide_eq_true h8, Bool.or_true, if_pos rfl] at go6
                  refine iteT (iteT ⟨_, rfl, _, _, rfl, rfl, ?_⟩)
                  exact hq _ (hgo.trans go6) _ ek _ (s05.trans s7)
                · rw [show decide ((7 : Int) < ((i : Nat) : Int)) = false from decide_eq_false (by omega)]
                  rw [decide_eq_false h8, Bool.or_false] at go6
                  refine iteF ⟨_, rfl, _, rfl, ph, f, c, l, rfl, s7 _ _ gh5, hlm, fun H8 s8 => ⟨_, rfl, ?_⟩⟩
                  have hrd := read_line_eq (F := f) (C := c) (l := l)
                  cases hb : readB f c l with
                  | true =>
                    rw [hb] at hrd
                    rw [show (lineR f c l).isNone = false from by rw [← Option.not_isSome, hrd]; rfl, if_neg Bool.false_ne_true] at go6
                    refine iteF ?_
                    exact ⟨_, _, rfl, s7.trans s8, go6⟩
                  | false =>
                    rw [hb] at hrd
                    rw [show (lineR f c l).isNone = true from by rw [← Option.not_isSome, hrd]; rfl, if_pos rfl] at go6
                    refine iteT ⟨_, rfl, _, _, rfl, rfl, ?_⟩
                    exact hq _ (hgo.trans go6) _ ek _ ((s05.trans s7).trans s8)
              · rintro σ H6 ⟨y3, y4, rfl, s6, go6⟩
                rw [List.length_map, List.length_map, List.drop_length] at go6
                exact ⟨_, rfl, hq none (hgo.trans (go6.trans (by rfl))) (-1) rfl _ (s05.trans s6)⟩
            · rw [show decide ((4 : Int) < ((c.length : Nat) : Int)) = true from decide_eq_true (by omega)]
              rw [a2, decide_eq_false l4] at hh
              exact iteT (bad (by rw [hh]; rfl) _ s04)
        · rw [show decide ((6 : Int) < ((f.length : Nat) : Int)) = true from decide_eq_true (by omega)]
          rw [a1, decide_eq_false l6] at hh
          exact iteT (bad (by rw [hh]; rfl) _ s03)
    · refine ite_ndec (fun _ => ?_) (fun e => ?_)
      · exact hq _ (dueR_head e10 (headR_len h2)) 0 rfl _ s02
      · have := V.int.inj e
        exact absurd (by omega) h2
end
end FW
/-! list(text) -/
namespace FW
open PySem PySem.Spec PyProof.Rows L2
def rListS : List V → Hp → VK → Prop := fun xs H Q => ∃ z : Str, xs = [V.str z] ∧ z.cps.size ≤ sizeLine ∧ ∀ p, H p = none → Q (.ref p) (upd H p (.lst (z.cps.toList.map sgn)))
theorem call_listS {X : Cx} (hc : X.calm = true) : CallR X (.type "list") rListS := by
  intro pins s σ H xs us Q I r h
  obtain ⟨z, rfl, hz, q⟩ := h
  obtain ⟨u, rfl, t, rfl⟩ := vals1 r
  refine call_list_str (I.ok.hd hc) z t (hn := hz) fun h' tk acc' c' kp hS hacc => ?_
  refine ⟨.ref s.heap.objs.size, upd H s.heap.objs.size (.lst (z.cps.toList.map sgn)), I.laid kp (Nat.le_refl _) (show ObjOk X.prog X.w _ _ _ (.lst (z.cps.toList.map sgn)) from ⟨?_, acc'.toList, c', ?_, ?_⟩), rfl, q _ (I.hok.fresh (Nat.le_refl _))⟩
  · rw [List.length_map]
    exact hz
  · refine vals_of_at (by rw [List.length_map]; simp [hacc.1]) fun j x w h1 h2 => ?_
    obtain ⟨c, y, hc', rfl⟩ := hacc.2 j w (by rw [← Array.getElem?_toList]; exact h2)
    rw [List.getElem?_map, Array.getElem?_toList, hc'] at h1
    cases h1
    exact ⟨y, rfl⟩
  · rw [Array.toArray_toList]
    exact hS
end FW
/-! list(range(n)) -/
namespace FW
open PySem PySem.Spec PyProof.Rows L2
def tListRng (ta : TA) : TE := fun σ H Q => ta σ H fun vs H1 => ∃ n : Nat, vs = [.int (n : Int)] ∧ n ≤ 100000 ∧ ∀ p, H1 p = none → Q (.ref p) (upd H1 p (.lst ((List.range n).map fun i : Nat => V.int (i : Int))))
theorem pe_listRange1 {X : Cx} {a : Expr} {ta : TA} {p q pos cpos : Pos} (hc : X.calm = true) (hg : Gl X "list") (hm : X.mg "list" = none) (hv : bootBuiltins "list" = some (.type "list")) (hg2 : Gl X "range") (hm2 : X.mg "range" = none) (ha : PA X [a] ta)
    (hs2 : starEach [a] X.env = [(false, eval a X.env)] := by rfl)
    (hs : starEach [.Call (.Name "range" q) [a] [] cpos] X.env = (false, eval (.Call (.Name "range" q) [a] [] cpos) X.env) :: starEach [] X.env := by rfl) :
    PE X (.Call (.Name "list" p) [.Call (.Name "range" q) [a] [] cpos] [] pos) (tListRng ta) := by
  refine ⟨fun pins s σ H Q I hq => ?_⟩
  refine wpAny_Call_Name_kw (ld_blt I hg hm hv ?_)
  refine PyProof.Rows.callWith_type1 ?_ hs rfl
  rw [hs]
  show wpAny _ _ (spliced ((false, eval (.Call (.Name "range" q) [a] [] cpos) X.env) :: backTo pos (starEach [] X.env))) _ _ s
  refine Calls.spliced_cons ?_
  refine Call_ (ld_blt I hg2 hm2 boot_range (PyProof.Rows.callWith_type1 (thn (ha.run cpos pins s σ H _ I hq) fun us s1 ⟨vs, H1, I1, r1, q1⟩ => ?_) hs2 rfl))
  obtain ⟨n, e, hn, q⟩ := q1
  subst e
  cases r1 with
  | cons r rr =>
    cases rr
    obtain ⟨t, rfl⟩ := r
    refine call_range_1 ?_
    have I2 : Inv X pins σ H1 { s1 with heap := s1.heap.push { cls := .type "range", data := .fields #[.int 0 s1.toks, .int (n : Int) t, .int 1 (s1.toks + 1)] }, toks := s1.toks + 1 + 1 } := I1.kept fun b o e => Heap.get?_push_of_some _ e
    refine Calls.spliced_nil ?_
    refine call_list_range (n := n) (I2.ok.hd hc) (IsRange.new ..) (small_one (by omega) (by omega) (by omega) (by omega)) (by rw [rangeSize_one]; split <;> omega) (by omega) fun h' tk acc' c' hk hS hacc => ?_
    refine ⟨.ref _, _, I2.laid hk (Nat.le_refl _) (show ObjOk X.prog X.w _ _ _ (.lst ((List.range n).map fun i : Nat => V.int (i : Int))) from ⟨?_, acc'.toList, c', ?_, ?_⟩), rfl, q _ (I2.hok.fresh (Nat.le_refl _))⟩
    · rw [List.length_map, List.length_range]
      exact sz hn
    · refine vals_of_at (by rw [List.length_map, List.length_range]; simp [hacc.1]) fun j x w h1 h2 => ?_
      obtain ⟨y, hy⟩ := hacc.2 j w (by rw [← Array.getElem?_toList]; exact h2)
      rw [List.getElem?_map] at h1
      obtain ⟨i, hi, rfl⟩ := Option.map_eq_some_iff.mp h1
      obtain ⟨h3, h4⟩ := List.getElem?_eq_some_iff.mp hi
      rw [List.getElem_range] at h4
      subst h4
      rw [hy]
      exact ⟨y, by simp⟩
    · rw [Array.toArray_toList]
      exact hS
theorem sl_listE {X : Cx} {K : PySem.W.Frag} (h : X.K = K) : SlR X (rSlL K) := by
  subst h
  exact sl_list
end FW
namespace FW
open PySem PySem.Spec PyProof.Rows L2
-- more
section
variable {P : Program} {w : World} {K : PySem.W.Frag} {mg : Str → Option Value} {base : Heap}
abbrev s__law_field : Stmt := topS 37
theorem sc__law_field : FnScope ["_law_e"] ["_law_e"] (defScope s__law_field) := ⟨rfl, rfl, rfl, by decide +kernel, rfl, by decide +kernel, by decide +kernel⟩
theorem inV_strs (z : Str) : ∀ ts : List Str, inV (.str z) (ts.map V.str) = decide (z ∈ ts)
  | [] => rfl
  | t :: r => by
    have ih := inV_strs z r
    unfold inV at ih ⊢
    rw [List.map_cons, List.any_cons, ih]
    by_cases h : z = t
    · subst h
      rw [show eqV (.str z) (.str z) = true from beq_self_eq_true z, Bool.true_or]
      exact (decide_eq_true List.mem_cons_self).symm
    · rw [show eqV (.str t) (.str z) = false from beq_eq_false_iff_ne.mpr (Ne.symm h), Bool.false_or]
      by_cases h2 : z ∈ r
      · rw [decide_eq_true h2, decide_eq_true (List.mem_cons_of_mem _ h2)]
      · rw [decide_eq_false h2, decide_eq_false (fun q => (List.mem_cons.mp q).elim h h2)]
theorem all_strs : ∀ ts : List Str, (ts.map V.str).all flatV = true
  | [] => rfl
  | _ :: r => all_strs r
theorem ok__law_field {f : Addr} {fd : FuncData} (F : Fun K "_law_field" "_law_field" s__law_field f fd) : FnW P w K mg base 1 f fd ["_law_e"] (sp__law_field K) := by
  refine okW F sc__law_field (fun vs H Q E h => ?_) (fun cdv A outer s H vs Q p hr h => ?_)
  · obtain ⟨a, z, v, rfl, _⟩ := h
    rfl
  · obtain ⟨a, z, v, rfl, hc, q⟩ := h
    refine ⟨_, (pss_cons (ps_if (pt_cmpR op_in_seq (pe_xk (pv 0)) (pe_lst (pa_cons pe_str (pa_cons pe_str (pa_cons pe_str (pa_cons pe_str (pa_cons pe_str (pa_cons pe_str pa_nil))))))) (by rfl)) (pss_one (ps_ret (pe_xk (pv 0)))) pss_nil)
      (pss_cons (ps_if (pt_cmpR op_in_seq (pe_xk (pv 0)) (pe_lst (pa_cons pe_str (pa_cons pe_str pa_nil))) (by rfl)) (pss_one (ps_ret (pe_xk (pv 0)))) pss_nil)
      (pss_cons (ps_if (pt_cmpR op_in_seq (pe_xk (pv 0)) (pe_lst (pa_cons pe_str (pa_cons pe_str pa_nil))) (by rfl)) (pss_one (ps_ret (pe_xk (pv 0)))) pss_nil)
      (pss_cons (ps_if (pt_cmpR op_eq (pe_xk (pv 0)) pe_str (nomark _)) (pss_one (ps_ret (pe_xk (pv 0)))) pss_nil)
      (pss_one (ps_ret (pe_ifExp (pt_cmpR op_in_seq (pe_xk (pv 0)) (pe_lst (pa_cons pe_str (pa_cons pe_str (pa_cons pe_str (pa_cons pe_str pa_nil))))) (by rfl)) pe_non (pe_xk (pv 0))))))))), ?_⟩
    obtain ⟨C, dd, fs, h1, h2, h3, h4, h5, h6⟩ := hc
    unfold FieldIs at h6
    refine ⟨_, rfl, a, C, dd, fs, _, rfl, h1, h2, h3, h4, h5, ?_⟩
    refine ⟨(show 6 ≤ sizeLine by decide), fun p1 n1 => ?_⟩
    refine ⟨p1, (["InvalidLine", "InvalidStep", "InvalidTable", "InvalidBad", "InvalidPlan", "UnknownRoom"] : List Str).map V.str, rfl, .inl (SqL.of upd_same), rfl, all_strs _, _, rfl, ?_⟩
    have s1 : Same H _ := same_upd (o := HO.lst ((["InvalidLine", "InvalidStep", "InvalidTable", "InvalidBad", "InvalidPlan", "UnknownRoom"] : List Str).map V.str)) n1
    rw [if_neg Bool.false_ne_true, inV_strs]
    by_cases b1 : z ∈ (["InvalidLine", "InvalidStep", "InvalidTable", "InvalidBad", "InvalidPlan", "UnknownRoom"] : List Str)
    · rw [decide_eq_true b1]
      rw [if_pos b1] at h6
      exact iteT ⟨_, rfl, a, C, dd, fs, _, rfl, s1 _ _ h1, s1 _ _ h2, h3, h6.1, h6.2, q _ s1⟩
    rw [decide_eq_false b1]
    rw [if_neg b1] at h6
    refine iteF ?_
    refine ⟨_, rfl, a, C, dd, fs, _, rfl, s1 _ _ h1, s1 _ _ h2, h3, h4, h5, ?_⟩
    refine ⟨(show 2 ≤ sizeLine by decide), fun p2 n2 => ?_⟩
    refine ⟨p2, (["TooMany", "Full"] : List Str).map V.str, rfl, .inl (SqL.of upd_same), rfl, all_strs _, _, rfl, ?_⟩
    have s2 := s1.trans (same_upd (o := HO.lst ((["TooMany", "Full"] : List Str).map V.str)) n2)
    rw [if_neg Bool.false_ne_true, inV_strs]
    by_cases b2 : z ∈ (["TooMany", "Full"] : List Str)
    · rw [decide_eq_true b2]
      rw [if_pos b2] at h6
      exact iteT ⟨_, rfl, a, C, dd, fs, _, rfl, s2 _ _ h1, s2 _ _ h2, h3, h6.1, h6.2, q _ s2⟩
    rw [decide_eq_false b2]
    rw [if_neg b2] at h6
    refine iteF ?_
    refine ⟨_, rfl, a, C, dd, fs, _, rfl, s2 _ _ h1, s2 _ _ h2, h3, h4, h5, ?_⟩
    refine ⟨(show 2 ≤ sizeLine by decide), fun p3 n3 => ?_⟩
    refine ⟨p3, (["InvalidText", "InvalidPage"] : List Str).map V.str, rfl, .inl (SqL.of upd_same), rfl, all_strs _, _, rfl, ?_⟩
    have s3 := s2.trans (same_upd (o := HO.lst ((["InvalidText", "InvalidPage"] : List Str).map V.str)) n3)
    rw [if_neg Bool.false_ne_true, inV_strs]
    by_cases b3 : z ∈ (["InvalidText", "InvalidPage"] : List Str)
    · rw [decide_eq_true b3]
      rw [if_pos b3] at h6
      exact iteT ⟨_, rfl, a, C, dd, fs, _, rfl, s3 _ _ h1, s3 _ _ h2, h3, h6.1, h6.2, q _ s3⟩
    rw [decide_eq_false b3]
    rw [if_neg b3] at h6
    refine iteF ?_
    refine ⟨_, rfl, a, C, dd, fs, _, rfl, s3 _ _ h1, s3 _ _ h2, h3, h4, h5, rfl, _, rfl, ?_⟩
    by_cases b4 : z = "UnknownState"
    · rw [show decide (V.str z = V.str "UnknownState") = true from decide_eq_true (congrArg V.str b4)]
      rw [if_pos b4] at h6
      exact iteT ⟨_, rfl, a, C, dd, fs, _, rfl, s3 _ _ h1, s3 _ _ h2, h3, h6.1, h6.2, q _ s3⟩
    rw [show decide (V.str z = V.str "UnknownState") = false from decide_eq_false fun e => b4 (V.str.inj e)]
    rw [if_neg b4] at h6
    refine iteF ?_
    refine ⟨_, rfl, a, C, dd, fs, _, rfl, s3 _ _ h1, s3 _ _ h2, h3, h4, h5, ?_⟩
    refine ⟨(show 4 ≤ sizeLine by decide), fun p4 n4 => ?_⟩
    refine ⟨p4, (["InvalidPaper", "OtherFaces", "OtherCutters", "NothingLeft"] : List Str).map V.str, rfl, .inl (SqL.of upd_same), rfl, all_strs _, _, rfl, ?_⟩
    have s4 := s3.trans (same_upd (o := HO.lst ((["InvalidPaper", "OtherFaces", "OtherCutters", "NothingLeft"] : List Str).map V.str)) n4)
    rw [if_neg Bool.false_ne_true, inV_strs]
    by_cases b5 : z ∈ (["InvalidPaper", "OtherFaces", "OtherCutters", "NothingLeft"] : List Str)
    · rw [decide_eq_true b5]
      rw [if_pos b5] at h6
      subst h6
      exact iteT (q _ s4)
    rw [decide_eq_false b5]
    rw [if_neg b5] at h6
    exact iteF ⟨_, rfl, a, C, dd, fs, _, rfl, s4 _ _ h1, s4 _ _ h2, h3, h6.1, h6.2, q _ s4⟩
abbrev s__law_try : Stmt := topS 38
theorem sc__law_try : FnScope ["_law_ask", "_law_e"] ["_law_ask"] (defScope s__law_try) := ⟨rfl, rfl, rfl, by decide +kernel, rfl, by decide +kernel, by decide +kernel⟩
theorem gives__law_try {X : Cx} {g fF C1 C2 C3 : Addr} {fdF : FuncData} {cdg : Value} {q : Str} {k : Nat} (F : FnW X.prog X.w X.K X.mg X.base 1 fF fdF ["_law_e"] (sp__law_field X.K)) (mF : X.mg "_law_field" = some (.ref fF)) (kF : PySem.W.keepIn X.K (.ref fF) = true) (bF : Binds X.K fdF ["_law_e"] [])
    (g1 : X.mg "HouseError" = some (.ref C1)) (g2 : X.mg "Missing" = some (.ref C2)) (g3 : X.mg "NothingLeft" = some (.ref C3)) (hr : Room (k + 3) X.A) :
    LamX.GivesTo X ["_law_ask", "_law_e"] "_law_try" (defScope s__law_try) g cdg (defBody s__law_try) "_law_ask" q (TTry X.K [.ref C1, .ref C2, .ref C3]) := by
  intro f c' s H Q tl act hc h
  have hrm : ∀ (a : Addr) (env : Env), L2H.RoomH 1 ((X.A.deeper env).mark (some (.ref a))) := fun a env => ⟨by
    have z := hr.dp
    show X.A.depth + 1 + 3 * 1 + 5 < _
    omega, by
    have z := hr.un
    show X.A.units + 3 + 16 * 1 + 200 < _
    omega⟩
  refine ⟨_, pss_one (ps_try3 (X := (cxOf C8.CX0 X.prog X.w X.K X.mg X.base ["_law_ask", "_law_e"] "_law_try" (defScope s__law_try) g cdg X.A X.stack s H C8.E0).nox) (C1 := C1) (C2 := C2) (C3 := C3) (i := 1)
      (ts := tRet (tTup (tCons (tXk X.K "code" (tVar 1)) (tCons (fun σ H Q => tCons (tVar 1) tNil σ H fun vs H1 => sp__law_field X.K vs H1 Q E0) tNil))))
      (tb := fun W D σ H => ∃ Ech : XK, (∀ cls d σ' H', Ech cls d H' → W cls d σ' H') ∧ σ[0]? = some (some (.ref f)) ∧ H c' = some (LamX.CodeO c' q) ∧ tl Ech H fun v H1 => [V.str "", v].length ≤ sizeLine ∧ ∀ p, H1 p = none → D.rt (.ref p) (upd H1 p (.tup [.str "", v])))
      rfl rfl rfl sc__law_try.nd rfl rfl (by rfl) g1 (by rfl) g2 (by rfl) g3 (fun W pn xe tk _ => ?body) (fun a pn => ?suite)), ?read⟩
  case suite => exact pss_one (ps_ret (pe_tup (pa_cons (pe_xk (pv 1)) (pa_cons (pe_callW F (hrm a _) (by rfl) mF kF bF (pa_cons (pv 1) pa_nil)) pa_nil))))
  case body =>
    refine ⟨fun pins s' σ H' D I h' => ?_⟩
    obtain ⟨Ech, hW, h1, h2, h3⟩ := h'
    have hp := fun p1 p2 => act W pn xe Ech p1 p2 tk hW
    refine (pss_one (ps_ret (pe_tup (pa_cons pe_str (pa_cons (hp _ _) pa_nil))))).run pins s' σ H' D I ⟨h1, h2, h3⟩
  case read =>
    refine ⟨_, fun cls d σ' H' h' => ?_, rfl, hc, h⟩
    obtain ⟨he, ha⟩ := h'
    refine ⟨he, fun a na hl => ?_⟩
    obtain ⟨z, v, hcg, hq⟩ := ha a na
    have hlt : 1 < σ'.length := by
      rw [hl]
      exact (by decide : 1 < 2)
    have e1 : (σ'.set 1 (some (V.ref a)))[1]? = some (some (.ref a)) := List.getElem?_set_self hlt
    have hcg2 := hcg
    obtain ⟨C, dd, fs, h1, h2, h3, h4, h5, h6⟩ := hcg2
    refine ⟨_, e1, a, C, dd, fs, _, rfl, h1, h2, h3, h4, h5, _, e1, a, z, v, rfl, hcg, fun H2 sm => ?_⟩
    exact ⟨(show 2 ≤ sizeLine by decide), fun p np => hq H2 sm p np⟩
abbrev s__law_tries : Stmt := topS 39
theorem sc__law_tries : FnScope ["_law_asks", "_law_ask"] ["_law_asks"] (defScope s__law_tries) := ⟨rfl, rfl, rfl, by decide +kernel, rfl, by decide +kernel, by decide +kernel⟩
theorem ok__law_tries {b0 : Heap} {k : Nat} {f g fF C1 C2 C3 : Addr} {fd fdg fdF : FuncData} (F : Fun K "_law_tries" "_law_tries" s__law_tries f fd) (m : Mod K mg b0) (sub : ∀ b o, b0.get? b = some o → base.get? b = some o) (sz : b0.objs.size ≤ base.objs.size)
    (G : Fun K "_law_try" "_law_try" s__law_try g fdg) (mG : mg "_law_try" = some (.ref g)) (bG : Binds K fdg ["_law_ask"] [])
    (FF : FnW P w K mg base 1 fF fdF ["_law_e"] (sp__law_field K)) (mF : mg "_law_field" = some (.ref fF)) (kF : PySem.W.keepIn K (.ref fF) = true) (bF : Binds K fdF ["_law_e"] [])
    (g1 : mg "HouseError" = some (.ref C1)) (g2 : mg "Missing" = some (.ref C2)) (g3 : mg "NothingLeft" = some (.ref C3)) :
    FnOk P w K mg base CX0 (k + 4) f fd ["_law_asks"] (sp_tries P w K mg b0 base k [.ref C1, .ref C2, .ref C3]) := by
  obtain ⟨oc, od, kV, doc, pm, an, cdv, ct, osl, rfl, lk, hcd⟩ := G.ex
  refine F.ok sc__law_tries (fun vs H Q E h => ?_) (fun cdv A outer s H vs Q E hr h => ?_)
  · obtain ⟨l, fs, rfl, _⟩ := h
    rfl
  obtain ⟨l, fs, rfl, hn, hl, hc⟩ := h
  refine ⟨_, pss_one (ps_ret (pe_lc (own := [("_law_ask", 1)]) (g := gName 1) (te := tItem P w K mg b0 base k [.ref C1, .ref C2, .ref C3] 1) (by rfl) sc__law_tries.nd (pi_list (pv 0)) (blkOk_by (N := ["_law_asks", "_law_ask"]) (sc := defScope s__law_tries) (by decide +kernel)) (fun _ _ _ _ _ => pg_name (i := 1) sc__law_tries.nd rfl (.inl rfl)) (fun _ _ _ _ _ => pts_nil)
    (fun s1 H1 C cl fp => pe_item (a := "_law_ask") m sub sz (by rfl) mG G.kp lk hcd bG sc__law_try rfl (.inl rfl) (fun q => gives__law_try FF mF kF bF g1 g2 g3 hr) (hr.mono (by omega)) rfl (.inl rfl)))), ?_⟩
  refine ⟨.ref l, rfl, l, rfl, ⟨_, .inl (.inl hl)⟩, fun D nD => ?_⟩
  exact chain_walk (fun x => rfl) (show 1 < 2 by decide) hn nD hl (hc D nD)
abbrev s_Book_len : Stmt := inCls (topS 31) 11
theorem sc_Book_len : FnScope ["self"] ["self"] (defScope s_Book_len) := ⟨rfl, rfl, rfl, by decide +kernel, rfl, by decide +kernel, by decide +kernel⟩
def sp_Book_len (K : PySem.W.Frag) (CB : Addr) : Sp := fun vs H Q _ => ∃ (x : Addr) (F C : List Nat) (ls : List LineV), vs = [.ref x] ∧ BookAt K CB H x F C ls ∧ Q (.int (ls.length : Int)) H
theorem ok_Book_len {f CB : Addr} {fd : FuncData} (F : Fun K "__len__" "Book.__len__" s_Book_len f fd) (T : Z mg) (BC : BookC K CB) : FnOk P w K mg base CX0 1 f fd ["self"] (sp_Book_len K CB) := by
  refine F.ok sc_Book_len (fun vs H Q E h => ?_) (fun cdv A outer s H vs Q E hr h => ?_)
  · obtain ⟨x, F, C, ls, rfl, _⟩ := h
    rfl
  obtain ⟨x, F, C, ls, rfl, hB, q⟩ := h
  refine ⟨_, (pss_one (ps_ret (pe_callB call_len_seq (by rfl) T.z_len (by decide +kernel) (pa_cons (pe_fld (pv 0) rfl) pa_nil)))), ?_⟩
  obtain ⟨dx, tl, hx, ht⟩ := hB.at_
  refine ⟨_, rfl, x, CB, dx, _, _, rfl, hx, BC.c, BC.nl, rfl, tl, _, rfl, .inr (SqT.of ht), ?_⟩
  rwa [List.length_map]
end
end FW
namespace FW
open PySem PySem.Spec PyProof.Rows L2
/-- errors that bear a line's number -/
theorem fi_line {K : PySem.W.Frag} {C : Addr} {z : Str} (h : decide (z ∈ (["InvalidText", "InvalidPage"] : List Str)) = true) (nf : PySem.W.findIn K (.ref C) (Str.ofString "line") = some none) (v : V) : FieldIs K C [("code", .str z), (Str.ofString "line", v)] z v := by
  have h' := of_decide_eq_true h
  have no : ∀ L : List Str, (["InvalidText", "InvalidPage"] : List Str).all (fun y => !decide (y ∈ L)) = true → z ∉ L := fun L hL m => by
    have := List.all_eq_true.mp hL z h'
    rw [decide_eq_true m] at this
    cases this
  unfold FieldIs
  rw [if_neg (no _ (by decide +kernel)), if_neg (no _ (by decide +kernel)), if_pos h']
  exact ⟨nf, rfl⟩
end FW
namespace FW
open PySem PySem.Spec PyProof.Rows L2
-- more
section
variable {P : Program} {w : World} {K : PySem.W.Frag} {mg : Str → Option Value} {base : Heap}
abbrev s_law : Stmt := topS 52
theorem sc_law : FnScope ["_law_script", "_law_bag", "_law_turn", "_law_spec", "_law_text", "_law_at", "_law_sign", "_law_late", "_law_due", "_law_found", "_law_rows", "_law_bad", "_law_asks", "_law_heads", "_law_odd"] ["_law_script"] (defScope s_law) := ⟨rfl, rfl, rfl, by decide +kernel, rfl, by decide +kernel, by decide +kernel⟩
abbrev lm (s : Stmt) (j : Nat) : Arguments × Expr × Scope := lamParts ((listOf s).getD j (.Constant .none 0 ⟨0, 0, 0, 0⟩))
abbrev XL (P : Program) (w : World) (K : PySem.W.Frag) (mg : Str → Option Value) (base : Heap) (f c : Addr) (A : Around) (outer : List Env) (s : Shared) (H : Hp) (E : XK) : Cx :=
  (cxOf CX0 P w K mg base ["_law_script", "_law_bag", "_law_turn", "_law_spec", "_law_text", "_law_at", "_law_sign", "_law_late", "_law_due", "_law_found", "_law_rows", "_law_bad", "_law_asks", "_law_heads", "_law_odd"] "law" (defScope s_law) f (.ref c) A outer s H E).nox
def sp_law (K : PySem.W.Frag) (Pt : Addr) : Sp := fun vs H Q _ => ∃ (a : Addr) (ns : List Int), vs = [.ref a] ∧ SqL K H a (ns.map V.int) ∧ ns.length ≤ 63 ∧ H Pt = some (.tbl #[]) ∧ ∀ H', Q (.bl true) H'
theorem Bag.ext {H H' : Hp} {b l : Addr} (B : Bag H b l) (e : LamX.ExtN H H') : Bag H' b l := by
  obtain ⟨ns, i, r, m, c, h1, h2, q⟩ := B
  exact ⟨ns, i, r, m, c, e _ _ h1 (fun _ z => by cases z), e _ _ h2 (fun _ z => by cases z), q⟩
theorem ErrF.caught {K : PySem.W.Frag} {mg : Str → Option Value} {C : Addr} {f z : String} {cs : List Value} {H1 : Hp} {v : V} {d a : Addr} (T : ErrF K mg C f z cs) (nd : H1 d = none) (na : (upd H1 d (Err1 f z v)) a = none) : Caught K (upd (upd H1 d (Err1 f z v)) a (ExK (.ref C) (some d) a)) a (Str.ofString z) v := by
  obtain ⟨fI, k⟩ := T.kls
  have hne : d ≠ a := fun e => by
    rw [← e, upd_same] at na
    cases na
  exact ⟨C, d, _, upd_same, (upd_ne hne).trans upd_same, k.xf, k.ncode, rfl, T.fi v⟩
theorem pe_joinE {X : Cx} {K : PySem.W.Frag} (h : X.K = K) {o e : Expr} {to te : TE} {apos pos : Pos} (ho : PE X o to) (he : PE X e te) (hs : starEach [e] X.env = [(false, eval e X.env)] := by rfl) (hbase : attributeBase o "join" X.env (eval o X.env) = eval o X.env := by rfl) (hline : (apos.endLine == pos.line) = true := by rfl) :
    PE X (.Call (.Attribute o "join" apos) [e] [] pos) (tM1 (fun x xs H Q => ∃ a p, ∃ ys : List Str, x = .str a ∧ xs = [.ref p] ∧ (SqL K H p (ys.map V.str) ∨ SqT K H p (ys.map V.str)) ∧
      (ys.map (·.length)).sum + ys.length * a.length ≤ 16777216 ∧ Q (.str (Txt.join a ys)) H) to te) := by
  subst h
  exact pe_join ho he hs hbase hline
theorem tabs_drawn {T : List (Addr × Str)} {H H' : Hp} {b l : Addr} (t : LamX.Tabs T H) (B : Bag H b l) (s : But b H H') : LamX.Tabs T H' := fun p hp => by
  obtain ⟨xs, hb⟩ := B.la
  obtain ⟨ps, h1, h2, h3⟩ := t p hp
  refine ⟨ps, s _ _ (fun z => ?_) h1, h2, fun pos cv hc => ?_⟩
  · rw [z, hb] at h1
    cases h1
  · obtain ⟨c, e1, e2⟩ := h3 pos cv hc
    refine ⟨c, e1, s _ _ (fun z => ?_) e2⟩
    rw [z, hb] at e2
    cases e2
abbrev tabL (Pt f c : Addr) : List (Addr × Str) := [(Pt, (envOfC "law" (defScope s_law) 0 f (.ref c)).qual ++ "<lambda>")]
theorem cut_le (z : Str) (lo hi : Option Int) : (cutS z lo hi).length ≤ z.length := by
  show (List.toArray _).size ≤ z.cps.size
  rw [List.size_toArray, List.length_take, List.length_drop, ← Array.length_toList]
  omega
theorem part_len {p L : List Nat} (h : bPart (.str (S p)) L = true) : p.length ≤ L.length + 1 := by
  rw [part_ok] at h
  unfold okP at h
  rcases Bool.or_eq_true_iff.mp h with h | h
  · rw [of_decide_eq_true h]
    show 1 ≤ _
    omega
  · unfold goesB at h
    simp only [Bool.and_eq_true, List.all_eq_true, decide_eq_true_eq] at h
    have := nodup_le (asc_nd h.2.2) h.2.1
    omega
theorem cut_len3 {u F : List Nat} (h : (decide (V.str (S u) = V.str "") || bCut (.str (S u)) (S F)) = true) : u.length ≤ 3 := by
  rcases Bool.or_eq_true_iff.mp h with h | h
  · rw [S_inj0 (V.str.inj (of_decide_eq_true h))]
    exact Nat.zero_le _
  · rw [bCut_S] at h
    simp only [Bool.and_eq_true, decide_eq_true_eq] at h
    omega
theorem row_short {w : W6} {F C : List Nat} (hF : F.length ≤ 4) (hC : C.length ≤ 4) (h : bLine w.1 w.2.1 w.2.2.1 w.2.2.2.1 w.2.2.2.2.1 w.2.2.2.2.2 F C = true) : (rowW w).cps.toList.length ≤ 40 := by
  obtain ⟨a, b, c, d, e, u⟩ := w
  have h' : (([a, b, c, d].all fun p => bPart (.str (S p)) F) && bPart (.str (S e)) C && (decide (V.str (S u) = V.str "") || bCut (.str (S u)) (S F))) = true := h
  simp only [Bool.and_eq_true, List.all_cons, List.all_nil, Bool.and_true] at h'
  obtain ⟨⟨⟨ha, hb, hc, hd⟩, he⟩, hu⟩ := h'
  have la := part_len ha
  have lb := part_len hb
  have lc := part_len hc
  have ld := part_len hd
  have le := part_len he
  have lu := cut_len3 hu
  have hw : (wordU u).length ≤ 4 := by
    unfold wordU
    split
    · decide
    · omega
  show (rowT a b c d e u).cps.toList.length ≤ 40
  unfold rowT
  rw [show (" " : Str) = S [32] from rfl, SX.join_S]
  show (a ++ ([32] ++ (b ++ ([32] ++ (c ++ ([32] ++ (d ++ ([32] ++ (e ++ ([32] ++ wordU u)))))))))).length ≤ 40
  simp only [List.length_append, List.length_cons, List.length_nil]
  omega
theorem text_short {F C : List Nat} {ws : List W6} (hF : F.length ≤ 4) (hC : C.length ≤ 4) (hw : ws.length ≤ 6) (h : ∀ w ∈ ws, bLine w.1 w.2.1 w.2.2.1 w.2.2.2.1 w.2.2.2.2.1 w.2.2.2.2.2 F C = true) : (bookT F C ws).length ≤ 400 := by
  have e : bookT F C ws = S (TL.joinL [10] ((headT F C :: ws.map rowW).map fun z => z.cps.toList)) := by
    unfold bookT
    rw [show (headT F C :: ws.map rowW) = (((headT F C :: ws.map rowW).map fun z => z.cps.toList).map S) from by
      rw [List.map_map]
      exact (List.map_id' _).symm.trans (List.map_congr_left fun z _ => (S_tl z).symm), show ("\n" : Str) = S [10] from rfl, SX.join_S]
    rw [List.map_map, List.map_map]
    congr 2
  rw [e, S_len]
  refine Nat.le_trans (joinL_le (m := 40) fun p hp => ?_) ?_
  · obtain ⟨z, hz, rfl⟩ := List.mem_map.mp hp
    rcases List.mem_cons.mp hz with rfl | hz
    · unfold headT
      rw [show (" " : Str) = S [32] from rfl, SX.join_S]
      show (F ++ ([32] ++ C)).length ≤ 40
      simp only [List.length_append, List.length_cons, List.length_nil]
      omega
    · obtain ⟨w, hw2, rfl⟩ := List.mem_map.mp hz
      exact row_short hF hC (h w hw2)
  · rw [List.length_map, List.length_cons, List.length_map]
    show (ws.length + 1) * 41 ≤ 400
    omega
abbrev row0 : Str := ". . . . . none"
abbrev rows9 : List Str := [row0, row0, row0, row0, row0, row0, row0, row0, row0]
abbrev rows8 : List Str := [row0, row0, row0, row0, row0, row0, row0, row0]
abbrev bads : List Str := ["", ". . . . none", ". . . . . x", ". . . . . none ", " . . . . none"]
def ReadE (k : Nat) (s : Str) : Prop := s.cps.toList.length ≤ 1000 ∧ dueR s.cps.toList = some k
def ReadO (n : Nat) (s : Str) : Prop := s.cps.toList.length ≤ 1000 ∧ dueR s.cps.toList = none ∧ (sp1 10 s.cps.toList).length = n + 1
instance {k : Nat} {s : Str} : Decidable (ReadE k s) := inferInstanceAs (Decidable (_ ∧ _))
instance {k : Nat} {s : Str} : Decidable (ReadO k s) := inferInstanceAs (Decidable (_ ∧ _))
theorem redE {K : PySem.W.Frag} {CB CT : Addr} {H : Hp} {Q : VK} {E : XK} {k : Nat} {s : Str} (h : ReadE k s) (q : ∀ H' d, Same H H' → H' d = none → E (.ref CT) (some d) (upd H' d (Err1 "line" "InvalidText" (.int (k : Nat))))) : sp_Book_readX K CB CT [.str s] H Q E :=
  ⟨.str s, rfl, .inl ⟨s.cps.toList, by rw [S_tl], h.1, fun j hj => by
    obtain rfl := Option.some.inj (h.2.symm.trans hj)
    exact q, fun hn => by rw [h.2] at hn; cases hn⟩⟩
theorem redO {K : PySem.W.Frag} {CB CT : Addr} {H : Hp} {Q : VK} {E : XK} {n : Nat} {s : Str} (h : ReadO n s) (q : ∀ H' x F C ls, Same H H' → H x = none → BookAt K CB H' x F C ls → bookT F C (ls.map (·.2)) = s → ls.length = n → Q (.ref x) H') : sp_Book_readX K CB CT [.str s] H Q E :=
  ⟨.str s, rfl, .inl ⟨s.cps.toList, by rw [S_tl], h.1, (fun j hj => by
    rw [h.2.1] at hj
    cases hj), fun _ H' x F C ls s' nx hB hT hl => q H' x F C ls s' nx hB (by rw [hT, S_tl]) (by have := h.2.2; omega)⟩⟩
theorem red9 : ReadE 9 (Txt.join "\n" ("a A" :: rows9)) := by decide +kernel
theorem red8 : ReadO 8 (Txt.join "\n" ("a A" :: rows8)) := by decide +kernel
theorem redb9 : ∀ b ∈ bads, ReadE 9 (Txt.join "\n" ("a A" :: (rows8 ++ [b]))) := by decide +kernel
theorem redb2 : ∀ b ∈ bads, ReadE 2 (Txt.join "\n" ["a A", row0, b, b]) := by decide +kernel
theorem redh1 : ReadE 0 "abcdefg A" := by decide +kernel
theorem redh2 : ReadE 0 "a ABCDE" := by decide +kernel
theorem redh3 : ReadO 0 "abcdef ABCD" := by decide +kernel
theorem redh4 : ∀ b ∈ bads, ReadE 0 (("abcdefg ABCDE\n" : Str) ++ b) := by decide +kernel
theorem sum9 : ∀ b ∈ bads, (((("a A" :: (rows8 ++ [b])) : List Str).map (·.length)).sum + (("a A" :: (rows8 ++ [b])) : List Str).length * ("\n" : Str).length ≤ 16777216) := by decide +kernel
theorem sum2 : ∀ b ∈ bads, (((["a A", row0, b, b] : List Str).map (·.length)).sum + (["a A", row0, b, b] : List Str).length * ("\n" : Str).length ≤ 16777216) := by decide +kernel
theorem cut8 : cutV (rows9.map V.str) none (some 8) = rows8.map V.str := by decide +kernel
theorem sumh : ∀ b ∈ bads, ("abcdefg ABCDE\n" : Str).length + b.length ≤ sizeLine := by decide +kernel
abbrev odds : List Str := ["", "a", "a A ", " a A", "a  A", "A a", "a A\n"]
theorem redo : ∀ z ∈ odds, ReadE (if z = "a A\n" then 1 else 0) z ∧ SeqAt.shaped (.str z) = true ∧ PyData.eqv (.str z) (.str "a A\n") = decide (z = "a A\n") ∧ z.cps.size ≤ 100 := by decide +kernel
/-- a value asked to be read, with what is due -/
structure OddT (K : PySem.W.Frag) (b : Addr) (H : Hp) (v : V) (d : PyData) (k : Nat) : Prop where
  od : OddD K b H v d
  sh : SeqAt.shaped d = true
  eq : PyData.eqv d (.str "a A\n") = decide (k = 1)
  le : k ≤ 1
  rd : (∃ z : Str, v = .str z ∧ ReadE k z) ∨ isStr v = false ∧ k = 0
theorem OddT.read {K : PySem.W.Frag} {b CB CT : Addr} {H H' : Hp} {v : V} {d : PyData} {k : Nat} {Q : VK} {E : XK} (o : OddT K b H v d k) (ox : OddX K H' v d) (q : ∀ H2 d', Same H' H2 → H2 d' = none → E (.ref CT) (some d') (upd H2 d' (Err1 "line" "InvalidText" (.int (k : Nat))))) : sp_Book_readX K CB CT [v] H' Q E := by
  rcases o.rd with ⟨z, rfl, h⟩ | ⟨h, rfl⟩
  · exact redE h q
  · rcases ox.kind with ⟨h', _⟩ | n
    · rw [h] at h'
      cases h'
    · exact ⟨v, rfl, .inr ⟨h, n.not.2, q⟩⟩
theorem oddT_str {K : PySem.W.Frag} {b : Addr} {H : Hp} {z : Str} (h : z ∈ odds) : OddT K b H (.str z) (.str z) (if z = "a A\n" then 1 else 0) := by
  obtain ⟨h1, h2, h3, h4⟩ := redo z h
  refine ⟨oddD_of fun _ => oddX_str h4, h2, ?_, ?_, .inl ⟨z, rfl, h1⟩⟩
  · rw [h3]
    split <;> simp [*]
  · split <;> decide
theorem oddT_non {K : PySem.W.Frag} {b : Addr} {H : Hp} : OddT K b H .non .none 0 := ⟨oddD_of fun _ => oddX_non, by decide +kernel, by decide +kernel, by decide, .inr ⟨rfl, rfl⟩⟩
theorem oddT_int {K : PySem.W.Frag} {b : Addr} {H : Hp} : OddT K b H (.int 3) (.int 3) 0 := ⟨oddD_of fun _ => oddX_int 3, by decide +kernel, by decide +kernel, by decide, .inr ⟨rfl, rfl⟩⟩
theorem oddT_bl {K : PySem.W.Frag} {b : Addr} {H : Hp} : OddT K b H (.bl true) (.bool true) 0 := ⟨oddD_of fun _ => oddX_bl true, by decide +kernel, by decide +kernel, by decide, .inr ⟨rfl, rfl⟩⟩
theorem oddT_lst {K : PySem.W.Frag} {b p : Addr} {H : Hp} (n : p ≠ b) (h : H p = some (.lst [V.str "a A"])) : OddT K b H (.ref p) (.list [.str "a A"]) 0 := ⟨oddD_lst ["a A"] n h (by decide), by decide +kernel, by decide +kernel, by decide, .inr ⟨rfl, rfl⟩⟩
theorem oddT_tup {K : PySem.W.Frag} {b p : Addr} {H : Hp} (n : p ≠ b) (h : H p = some (.tup [V.str "a A"])) : OddT K b H (.ref p) (.tuple [.str "a A"]) 0 := ⟨oddD_tup ["a A"] n h (by decide), by decide +kernel, by decide +kernel, by decide, .inr ⟨rfl, rfl⟩⟩
theorem textsh : SeqAt.shaped (.str "a A\n") = true := by decide +kernel
theorem ok_law {f c Pt fT C1 C2 C3 CB CT f_len fR fT1 fF : Addr} {oc kV doc pm ct : Value} {od an : Option Addr} {osl : Array (Option Value)} {fdT : FuncData}  {fdR : FuncData} {ocT kVT docT pmT cdT ctT : Value} {odT anT : Option Addr} {oslT : Array (Option Value)} {fdF : FuncData} (T : Z mg)
    (lk : K.lookup f = some ⟨oc, od, .func (PySem.W.fnOf "law" "law" (defArgs s_law) (defBody s_law) (defScope s_law) .none kV doc pm an (.ref c) ct), osl⟩) (hcd : PySem.W.codeIn K (.ref c) "law" = true) (TB : LamX.TabB base mg c Pt)
    (gB : mg "Book" = some (.ref CB)) (BC : BookC K CB) (TI : ErrF K mg CT "line" "InvalidText" [.ref C1, .ref C2, .ref C3])
    (mT : mg "_law_tries" = some (.ref fT)) (kT : PySem.W.keepIn K (.ref fT) = true) (bT : L2.Binds K fdT ["_law_asks"] [])
    (FT : ∀ b2 : Heap, Mod K mg base → (∀ b o, base.get? b = some o → b2.get? b = some o) → base.objs.size ≤ b2.objs.size → FnOk P w K mg b2 CX0 15 fT fdT ["_law_asks"] (sp_tries P w K mg base b2 11 [.ref C1, .ref C2, .ref C3]))
    (c__law_same : Cal P w K mg base CX0 5 "_law_same" s__law_same ["_law_found", "_law_due"] (sp__law_same K 3))
    (SR : Sta K CB "read" fR) (FRX : FnOk P w K mg base (L2.CX P w) 8 fR fdR ["text"] (sp_Book_readX K CB CT)) (bR : L2.Binds K fdR ["text"] [])
    (mT1 : mg "_law_try" = some (.ref fT1)) (kT1 : PySem.W.keepIn K (.ref fT1) = true) (lkT1 : K.lookup fT1 = some ⟨ocT, odT, .func (PySem.W.fnOf "_law_try" "_law_try" (defArgs s__law_try) (defBody s__law_try) (defScope s__law_try) .none kVT docT pmT anT cdT ctT), oslT⟩) (hcT1 : PySem.W.codeIn K cdT "_law_try" = true)
    (bT1 : L2.Binds K (PySem.W.fnOf "_law_try" "_law_try" (defArgs s__law_try) (defBody s__law_try) (defScope s__law_try) .none kVT docT pmT anT cdT ctT) ["_law_ask"] [])
    (FF : FnW P w K mg base 1 fF fdF ["_law_e"] (sp__law_field K)) (mF : mg "_law_field" = some (.ref fF)) (kF : PySem.W.keepIn K (.ref fF) = true) (bF : L2.Binds K fdF ["_law_e"] [])
    (gH : mg "HouseError" = some (.ref C1)) (gM : mg "Missing" = some (.ref C2)) (gN : mg "NothingLeft" = some (.ref C3))
    (c__law_of : Cal P w K mg base CX0 2 "_law_of" s__law_of ["_law_bag", "_law_things"] (sp__law_of K))
    (c_text : MCal P w K mg base CX0 CB 2 "text" ["self"] (sp_Book_text K CB))
    (hLn : PySem.W.findIn K (.ref CB) "__len__" = some (some (.ref f_len))) (hLf : PySem.W.isFn K (.ref f_len) = true) (FL : FnR P w K mg base CX0 1 f_len (sp_Book_len K CB))
    (c__law_text_due : Cal P w K mg base CX0 3 "_law_text_due" s__law_text_due ["_law_text"] (sp__law_text_due K))
    (c__law_draw : Cal P w K mg base CX0 1 "_law_draw" s__law_draw ["_law_bag", "_law_many"] (sp__law_draw K))
    (c__law_book_text : Cal P w K mg base CX0 2 "_law_book_text" s__law_book_text ["_law_spec"] (sp__law_book_text K))
    (c__law_some_book : Cal P w K mg base CX0 5 "_law_some_book" s__law_some_book ["_law_bag", "_law_sizes"] (sp__law_some_book K))
    (c__law_open : Cal P w K mg base CX0 1 "_law_open" s__law_open ["_law_script"] (sp__law_open K)) : FnOk P w K mg base CX0 18 f (PySem.W.fnOf "law" "law" (defArgs s_law) (defBody s_law) (defScope s_law) .none kV doc pm an (.ref c) ct) ["_law_script"] (sp_law K Pt) := by
  refine fn_of lk hcd sc_law (fun vs H Q E h => ?_) (fun A outer s H vs Q E hr h => ?_)
  · obtain ⟨a, ns, rfl, _⟩ := h
    rfl
  obtain ⟨a, ns, rfl, hS, hlen, hP, q⟩ := h
  refine ⟨_, PSs.nox (pss_cons (ps_set (i := 1) sc_law.nd rfl (.inl rfl) (pe_c c__law_open hr (by decide) (by rfl) (pa_cons (pv 0) pa_nil)))
      (pss_cons (ps_for PassesOwn.never rfl (pi_range1 (by rfl) T.z_range (pa_cons pe_int pa_nil)) (pg_name (i := 2) sc_law.nd rfl (.inl rfl))
        (pss_cons (ps_set (i := 3) sc_law.nd rfl (.inl rfl) (pe_c c__law_some_book hr (by decide) (by rfl) (pa_cons (pv 1) (pa_cons (pe_lst (pa_cons pe_int (pa_cons pe_int (pa_cons pe_int pa_nil)))) pa_nil))))
      (pss_cons (ps_set (i := 4) sc_law.nd rfl (.inl rfl) (pe_c c__law_book_text hr (by decide) (by rfl) (pa_cons (pv 3) pa_nil)))
      (pss_cons (ps_set (i := 5) sc_law.nd rfl (.inl rfl) (pe_c c__law_draw hr (by decide) (by rfl) (pa_cons (pv 1) (pa_cons (pe_op op_add (pe_callB call_len_str (by rfl) T.z_len (by decide +kernel) (pa_cons (pv 4) pa_nil)) pe_int) pa_nil))))
      (pss_cons (ps_set (i := 6) sc_law.nd rfl (.inl rfl) (pe_c c__law_of hr (by decide) (by rfl) (pa_cons (pv 1) (pa_cons (pe_lst (pa_cons pe_str (pa_cons pe_str (pa_cons pe_str (pa_cons pe_str (pa_cons pe_str (pa_cons pe_str (pa_cons pe_str (pa_cons pe_str (pa_cons pe_str (pa_cons pe_str (pa_cons pe_str (pa_cons pe_str pa_nil))))))))))))) pa_nil))))
      (pss_cons (ps_set (i := 7) sc_law.nd rfl (.inr rfl) (pe_op op_add_str (pe_op op_add_str (pe_slice sl_str (pv 4) po_none (po_some (pv 5))) (pv 6)) (pe_slice sl_str (pv 4) (po_some (pe_op op_add (pv 5) (pe_c c__law_draw hr (by decide) (by rfl) (pa_cons (pv 1) (pa_cons pe_int pa_nil))))) po_none)))
      (pss_cons (ps_par (i := 8) (j := 9) (by rfl) sc_law.nd rfl rfl (by decide) rfl rfl (pa_cons (pe_c c__law_text_due hr (by decide) (by rfl) (pa_cons (pv 7) pa_nil)) (pa_cons (LamX.pe_lamcall (T := [(Pt, (envOfC "law" (defScope s_law) 0 f (.ref c)).qual ++ "<lambda>")]) (k := 10) (by rfl) mT1 kT1 lkT1 hcT1 bT1 sc__law_try rfl (.inl rfl) (gives__law_try (k := 10) FF mF kF bF gH gM gN (hr.mono (by decide))) TB rfl (List.mem_singleton.mpr rfl) (fun p hp _ => congrArg Prod.snd (List.mem_singleton.mp hp)) (hr.mono (by decide)) (LamX.lamS_by (show LamX.lamSB (defScope s_law) _ = true by decide +kernel)) (by rfl) (fun _ _ _ _ _ => by rfl)
        (fun A outer s H E f c' hr => (pe_static (E := E) (by rfl) gB SR FRX (hr.mono (by decide)) bR .nil (passes_call (takes_of rfl rfl rfl rfl) (fun _ _ _ _ h => h)) (pa_cons (pv 7) pa_nil)))) pa_nil)) (by rfl))
      (pss_cons (ps_if (PW.pt (pw_and (pt_cmpR op_ge (pv 8) pe_int (nomark _)) (pw_and1 (pt_not (pt_val (pe_c c__law_same hr (by decide) (by rfl) (pa_cons (pv 9) (pa_cons (pe_tup (pa_cons pe_str (pa_cons (pv 8) pa_nil))) pa_nil)))))))) (pss_one (ps_ret pe_bl)) pss_nil)
      (pss_one (ps_if (PW.pt (pw_and (pt_cmpR op_lt (pv 8) pe_int (nomark _)) (pw_and1 (PW.pt (pw_or (pt_cmpR op_ne (pe_ix ix_tup (pv 9) pe_int (fun _ _ => rfl)) pe_str (nomark _)) (pw_or1 (pt_cmpR op_ne (pe_m0 c_text BC.c hr (by decide) (pe_ix ix_tup (pv 9) pe_int (fun _ _ => rfl))) (pv 7) (nomark _)))))))) (pss_one (ps_ret pe_bl)) pss_nil))))))))))
      (pss_cons (ps_set (i := 10) sc_law.nd rfl (.inr rfl) (pe_op op_rep (pe_lst (pa_cons pe_str pa_nil)) pe_int))
      (pss_cons (ps_set (i := 11) sc_law.nd rfl (.inr rfl) (pe_c c__law_of hr (by decide) (by rfl) (pa_cons (pv 1) (pa_cons (pe_lst (pa_cons pe_str (pa_cons pe_str (pa_cons pe_str (pa_cons pe_str (pa_cons pe_str pa_nil)))))) pa_nil))))
      (pss_cons (ps_set (i := 12) sc_law.nd rfl (.inl rfl) (pe_lst (pa_cons (pe_lam0 (T := [(Pt, (envOfC "law" (defScope s_law) 0 f (.ref c)).qual ++ "<lambda>")]) TB rfl (List.mem_singleton.mpr rfl) (fun p hp _ => congrArg Prod.snd (List.mem_singleton.mp hp)) (by rfl) (show lamFree (defScope s_law) _ = true by decide +kernel)) (pa_cons (pe_lam1 (T := [(Pt, (envOfC "law" (defScope s_law) 0 f (.ref c)).qual ++ "<lambda>")]) TB rfl (List.mem_singleton.mpr rfl) (fun p hp _ => congrArg Prod.snd (List.mem_singleton.mp hp)) rfl rfl (show lamFree (defScope s_law) _ = true by decide +kernel)) (pa_cons (pe_lam1 (T := [(Pt, (envOfC "law" (defScope s_law) 0 f (.ref c)).qual ++ "<lambda>")]) TB rfl (List.mem_singleton.mpr rfl) (fun p hp _ => congrArg Prod.snd (List.mem_singleton.mp hp)) rfl rfl (show lamFree (defScope s_law) _ = true by decide +kernel)) (pa_cons (pe_lam1 (T := [(Pt, (envOfC "law" (defScope s_law) 0 f (.ref c)).qual ++ "<lambda>")]) TB rfl (List.mem_singleton.mpr rfl) (fun p hp _ => congrArg Prod.snd (List.mem_singleton.mp hp)) rfl rfl (show lamFree (defScope s_law) _ = true by decide +kernel)) pa_nil))))))
      (pss_cons (ps_if (pt_not (pt_val (pe_c c__law_same hr (by decide) (by rfl) (pa_cons (pe_tries (cs := [.ref C1, .ref C2, .ref C3]) (k := 11) (kk := 15)
        [ask0 (X := XL P w K mg base f c A outer s H E) (k := 10) (lm ((defBody s_law).getD 4 (.Pass ⟨0, 0, 0, 0⟩)) 0).1 (lm ((defBody s_law).getD 4 (.Pass ⟨0, 0, 0, 0⟩)) 0).2.1 (lm ((defBody s_law).getD 4 (.Pass ⟨0, 0, 0, 0⟩)) 0).2.2 ["_law_rows"] ["_law_rows"] [10] (by decide +kernel) (show NdefX.ndefB (defScope s_law) (lm ((defBody s_law).getD 4 (.Pass ⟨0, 0, 0, 0⟩)) 0).2.2 _ = true by decide +kernel) rfl (fun _ _ _ _ _ _ => by rfl)
            (fun c' dV A outer s H E f hr => (pe_static (E := E) (by rfl) gB SR FRX (hr.mono (by decide)) bR .nil (passes_call (takes_of rfl rfl rfl rfl) (fun _ _ _ _ h => h)) (pa_cons (pe_joinE (K := K) rfl pe_str (pe_op op_cat (pe_lst (pa_cons pe_str pa_nil)) (pv 0))) pa_nil))),
          ask1 (X := XL P w K mg base f c A outer s H E) (k := 10) (lm ((defBody s_law).getD 4 (.Pass ⟨0, 0, 0, 0⟩)) 1).1 (lm ((defBody s_law).getD 4 (.Pass ⟨0, 0, 0, 0⟩)) 1).2.1 (lm ((defBody s_law).getD 4 (.Pass ⟨0, 0, 0, 0⟩)) 1).2.2 "_law_one" 0 ["_law_one", "_law_rows", "_law_bad"] ["_law_rows", "_law_bad"] [10, 11] (by decide +kernel) (show NdefX.ndefB (defScope s_law) (lm ((defBody s_law).getD 4 (.Pass ⟨0, 0, 0, 0⟩)) 1).2.2 _ = true by decide +kernel) rfl (fun _ _ _ _ _ _ _ => ⟨_, rfl, fun _ => rfl⟩)
            (fun c' dV A outer s H E f hr => (pe_static (E := E) (by rfl) gB SR FRX (hr.mono (by decide)) bR .nil (passes_call (takes_of rfl rfl rfl rfl) (fun _ _ _ _ h => h)) (pa_cons (pe_joinE (K := K) rfl pe_str (pe_op op_cat (pe_op op_cat (pe_lst (pa_cons pe_str pa_nil)) (pe_slice (sl_listE (K := K) rfl) (pv 1) po_none (po_some pe_int))) (pe_lst (pa_cons (pv 2) pa_nil)))) pa_nil))),
          ask1 (X := XL P w K mg base f c A outer s H E) (k := 10) (lm ((defBody s_law).getD 4 (.Pass ⟨0, 0, 0, 0⟩)) 2).1 (lm ((defBody s_law).getD 4 (.Pass ⟨0, 0, 0, 0⟩)) 2).2.1 (lm ((defBody s_law).getD 4 (.Pass ⟨0, 0, 0, 0⟩)) 2).2.2 "_law_two" 0 ["_law_two", "_law_rows"] ["_law_rows"] [10] (by decide +kernel) (show NdefX.ndefB (defScope s_law) (lm ((defBody s_law).getD 4 (.Pass ⟨0, 0, 0, 0⟩)) 2).2.2 _ = true by decide +kernel) rfl (fun _ _ _ _ _ _ _ => ⟨_, rfl, fun _ => rfl⟩)
            (fun c' dV A outer s H E f hr => (pe_callB (cr_lenO hLn hLf FL (hr.mono (by decide)) pass0) (by rfl) T.z_len (by decide +kernel) (pa_cons (pe_static (E := E) (by rfl) gB SR FRX (hr.mono (by decide)) bR .nil (passes_call (takes_of rfl rfl rfl rfl) (fun _ _ _ _ h => h)) (pa_cons (pe_joinE (K := K) rfl pe_str (pe_op op_cat (pe_lst (pa_cons pe_str pa_nil)) (pe_slice (sl_listE (K := K) rfl) (pv 1) po_none (po_some pe_int)))) pa_nil)) pa_nil))),
          ask1 (X := XL P w K mg base f c A outer s H E) (k := 10) (lm ((defBody s_law).getD 4 (.Pass ⟨0, 0, 0, 0⟩)) 3).1 (lm ((defBody s_law).getD 4 (.Pass ⟨0, 0, 0, 0⟩)) 3).2.1 (lm ((defBody s_law).getD 4 (.Pass ⟨0, 0, 0, 0⟩)) 3).2.2 "_law_three" 0 ["_law_three", "_law_rows", "_law_bad"] ["_law_rows", "_law_bad"] [10, 11] (by decide +kernel) (show NdefX.ndefB (defScope s_law) (lm ((defBody s_law).getD 4 (.Pass ⟨0, 0, 0, 0⟩)) 3).2.2 _ = true by decide +kernel) rfl (fun _ _ _ _ _ _ _ => ⟨_, rfl, fun _ => rfl⟩)
            (fun c' dV A outer s H E f hr => (pe_static (E := E) (by rfl) gB SR FRX (hr.mono (by decide)) bR .nil (passes_call (takes_of rfl rfl rfl rfl) (fun _ _ _ _ h => h)) (pa_cons (pe_joinE (K := K) rfl pe_str (pe_lst (pa_cons pe_str (pa_cons (pe_ix (ix_listE (K := K) rfl) (pv 1) pe_int (fun _ _ => rfl)) (pa_cons (pv 2) (pa_cons (pv 2) pa_nil)))))) pa_nil)))]
        (show 4 < sizeLine by decide) (fun _ => rfl) rfl rfl FT (hr.mono (by decide)) (by rfl) mT kT bT (pa_cons (pv 12) pa_nil)) (pa_cons (pe_lst (pa_cons (pe_tup (pa_cons pe_str (pa_cons pe_int pa_nil))) (pa_cons (pe_tup (pa_cons pe_str (pa_cons pe_int pa_nil))) (pa_cons (pe_tup (pa_cons pe_str (pa_cons pe_int pa_nil))) (pa_cons (pe_tup (pa_cons pe_str (pa_cons pe_int pa_nil))) pa_nil))))) pa_nil))))) (pss_one (ps_ret pe_bl)) pss_nil)
      (pss_cons (ps_set (i := 13) sc_law.nd rfl (.inl rfl) (pe_lst (pa_cons (pe_lam1 (T := [(Pt, (envOfC "law" (defScope s_law) 0 f (.ref c)).qual ++ "<lambda>")]) TB rfl (List.mem_singleton.mpr rfl) (fun p hp _ => congrArg Prod.snd (List.mem_singleton.mp hp)) rfl rfl (show lamFree (defScope s_law) _ = true by decide +kernel)) (pa_cons (pe_lam1 (T := [(Pt, (envOfC "law" (defScope s_law) 0 f (.ref c)).qual ++ "<lambda>")]) TB rfl (List.mem_singleton.mpr rfl) (fun p hp _ => congrArg Prod.snd (List.mem_singleton.mp hp)) rfl rfl (show lamFree (defScope s_law) _ = true by decide +kernel)) (pa_cons (pe_lam1 (T := [(Pt, (envOfC "law" (defScope s_law) 0 f (.ref c)).qual ++ "<lambda>")]) TB rfl (List.mem_singleton.mpr rfl) (fun p hp _ => congrArg Prod.snd (List.mem_singleton.mp hp)) rfl rfl (show lamFree (defScope s_law) _ = true by decide +kernel)) (pa_cons (pe_lam1 (T := [(Pt, (envOfC "law" (defScope s_law) 0 f (.ref c)).qual ++ "<lambda>")]) TB rfl (List.mem_singleton.mpr rfl) (fun p hp _ => congrArg Prod.snd (List.mem_singleton.mp hp)) rfl rfl (show lamFree (defScope s_law) _ = true by decide +kernel)) pa_nil))))))
      (pss_cons (ps_if (pt_not (pt_val (pe_c c__law_same hr (by decide) (by rfl) (pa_cons (pe_tries (cs := [.ref C1, .ref C2, .ref C3]) (k := 11) (kk := 15)
        [ask1 (X := XL P w K mg base f c A outer s H E) (k := 10) (lm ((defBody s_law).getD 6 (.Pass ⟨0, 0, 0, 0⟩)) 0).1 (lm ((defBody s_law).getD 6 (.Pass ⟨0, 0, 0, 0⟩)) 0).2.1 (lm ((defBody s_law).getD 6 (.Pass ⟨0, 0, 0, 0⟩)) 0).2.2 "_law_a" 0 ["_law_a"] [] [] (by decide +kernel) (show NdefX.ndefB (defScope s_law) (lm ((defBody s_law).getD 6 (.Pass ⟨0, 0, 0, 0⟩)) 0).2.2 _ = true by decide +kernel) rfl (fun _ _ _ _ _ _ _ => ⟨_, rfl, fun _ => rfl⟩)
            (fun c' dV A outer s H E f hr => (pe_static (E := E) (by rfl) gB SR FRX (hr.mono (by decide)) bR .nil (passes_call (takes_of rfl rfl rfl rfl) (fun _ _ _ _ h => h)) (pa_cons pe_str pa_nil))),
          ask1 (X := XL P w K mg base f c A outer s H E) (k := 10) (lm ((defBody s_law).getD 6 (.Pass ⟨0, 0, 0, 0⟩)) 1).1 (lm ((defBody s_law).getD 6 (.Pass ⟨0, 0, 0, 0⟩)) 1).2.1 (lm ((defBody s_law).getD 6 (.Pass ⟨0, 0, 0, 0⟩)) 1).2.2 "_law_b" 0 ["_law_b"] [] [] (by decide +kernel) (show NdefX.ndefB (defScope s_law) (lm ((defBody s_law).getD 6 (.Pass ⟨0, 0, 0, 0⟩)) 1).2.2 _ = true by decide +kernel) rfl (fun _ _ _ _ _ _ _ => ⟨_, rfl, fun _ => rfl⟩)
            (fun c' dV A outer s H E f hr => (pe_static (E := E) (by rfl) gB SR FRX (hr.mono (by decide)) bR .nil (passes_call (takes_of rfl rfl rfl rfl) (fun _ _ _ _ h => h)) (pa_cons pe_str pa_nil))),
          ask1 (X := XL P w K mg base f c A outer s H E) (k := 10) (lm ((defBody s_law).getD 6 (.Pass ⟨0, 0, 0, 0⟩)) 2).1 (lm ((defBody s_law).getD 6 (.Pass ⟨0, 0, 0, 0⟩)) 2).2.1 (lm ((defBody s_law).getD 6 (.Pass ⟨0, 0, 0, 0⟩)) 2).2.2 "_law_d" 0 ["_law_d"] [] [] (by decide +kernel) (show NdefX.ndefB (defScope s_law) (lm ((defBody s_law).getD 6 (.Pass ⟨0, 0, 0, 0⟩)) 2).2.2 _ = true by decide +kernel) rfl (fun _ _ _ _ _ _ _ => ⟨_, rfl, fun _ => rfl⟩)
            (fun c' dV A outer s H E f hr => (pe_m0 c_text BC.c hr (by decide) (pe_static (E := E) (by rfl) gB SR FRX (hr.mono (by decide)) bR .nil (passes_call (takes_of rfl rfl rfl rfl) (fun _ _ _ _ h => h)) (pa_cons pe_str pa_nil)))),
          ask1 (X := XL P w K mg base f c A outer s H E) (k := 10) (lm ((defBody s_law).getD 6 (.Pass ⟨0, 0, 0, 0⟩)) 3).1 (lm ((defBody s_law).getD 6 (.Pass ⟨0, 0, 0, 0⟩)) 3).2.1 (lm ((defBody s_law).getD 6 (.Pass ⟨0, 0, 0, 0⟩)) 3).2.2 "_law_f" 0 ["_law_f", "_law_bad"] ["_law_bad"] [11] (by decide +kernel) (show NdefX.ndefB (defScope s_law) (lm ((defBody s_law).getD 6 (.Pass ⟨0, 0, 0, 0⟩)) 3).2.2 _ = true by decide +kernel) rfl (fun _ _ _ _ _ _ _ => ⟨_, rfl, fun _ => rfl⟩)
            (fun c' dV A outer s H E f hr => (pe_m0 c_text BC.c hr (by decide) (pe_static (E := E) (by rfl) gB SR FRX (hr.mono (by decide)) bR .nil (passes_call (takes_of rfl rfl rfl rfl) (fun _ _ _ _ h => h)) (pa_cons (pe_op op_add_str pe_str (pv 1)) pa_nil))))]
        (show 4 < sizeLine by decide) (fun _ => rfl) rfl rfl FT (hr.mono (by decide)) (by rfl) mT kT bT (pa_cons (pv 13) pa_nil)) (pa_cons (pe_lst (pa_cons (pe_tup (pa_cons pe_str (pa_cons pe_int pa_nil))) (pa_cons (pe_tup (pa_cons pe_str (pa_cons pe_int pa_nil))) (pa_cons (pe_tup (pa_cons pe_str (pa_cons pe_str pa_nil))) (pa_cons (pe_tup (pa_cons pe_str (pa_cons pe_int pa_nil))) pa_nil))))) pa_nil))))) (pss_one (ps_ret pe_bl)) pss_nil)
      (pss_cons (ps_set (i := 14) sc_law.nd rfl (.inr rfl) (pe_c c__law_of hr (by decide) (by rfl) (pa_cons (pv 1) (pa_cons (pe_lst (pa_cons pe_non (pa_cons pe_int (pa_cons pe_bl (pa_cons (pe_lst (pa_cons pe_str pa_nil)) (pa_cons (pe_tup (pa_cons pe_str pa_nil)) (pa_cons pe_str (pa_cons pe_str (pa_cons pe_str (pa_cons pe_str (pa_cons pe_str (pa_cons pe_str (pa_cons pe_str pa_nil))))))))))))) pa_nil))))
      (pss_one (ps_ret (pe_c c__law_same hr (by decide) (by rfl) (pa_cons (LamX.pe_lamcall (T := [(Pt, (envOfC "law" (defScope s_law) 0 f (.ref c)).qual ++ "<lambda>")]) (k := 10) (by rfl) mT1 kT1 lkT1 hcT1 bT1 sc__law_try rfl (.inl rfl) (gives__law_try (k := 10) FF mF kF bF gH gM gN (hr.mono (by decide))) TB rfl (List.mem_singleton.mpr rfl) (fun p hp _ => congrArg Prod.snd (List.mem_singleton.mp hp)) (hr.mono (by decide)) (LamX.lamS_by (show LamX.lamSB (defScope s_law) _ = true by decide +kernel)) (by rfl) (fun _ _ _ _ _ => by rfl)
        (fun A outer s H E f c' hr => (pe_static (E := E) (by rfl) gB SR FRX (hr.mono (by decide)) bR .nil (passes_call (takes_of rfl rfl rfl rfl) (fun _ _ _ _ h => h)) (pa_cons (pv 14) pa_nil)))) (pa_cons (pe_tup (pa_cons pe_str (pa_cons (pe_callTy call_int1 (by rfl) T.z_int (by decide +kernel) (pa_cons (pe_cmpR (op_eqD hr.units) (pv 14) pe_str (nomark _)) pa_nil)) pa_nil))) pa_nil)))))))))))))), ?_⟩
  refine ⟨_, rfl, a, ns, rfl, hS, hlen, fun H1 b l nb nl s1 B1 => ?_⟩
  have hPb : Pt ≠ b := ne_of_none hP nb
  have hP1 := s1 _ _ hP
  have T1 : LamX.Tabs (tabL Pt f c) H1 := fun p' hp' => by rw [List.mem_singleton.mp hp']; exact LamX.TabS.nil hP1
  clear hS s1 nb nl hP
  -- six turns
  refine ⟨6, rfl, by decide, by decide, for_range (n := (6 : Int).toNat) (fun i σ H' => ∃ y2 y3 y4 y5 y6 y7 y8 y9 : Option V, σ = [some (.ref a), some (.ref b), y2, y3, y4, y5, y6, y7, y8, y9, none, none, none, none, none] ∧ Bag H' b l ∧ LamX.Tabs (tabL Pt f c) H') ⟨none, none, none, none, none, none, none, none, rfl, B1, T1⟩ ?_ ?_⟩
  · rintro i σ H2 hi ⟨y2, y3, y4, y5, y6, y7, y8, y9, rfl, B2, T2⟩
    refine ⟨_, rfl, (show 3 ≤ sizeLine by decide), fun p1 n1 => ⟨b, l, p1, 4, 3, 5, rfl, B2.same (same_upd n1), B2.ne n1, SqL.of upd_same, by decide, by decide, by decide, by decide, by decide, fun H3 p lp F C' ls ok lF lC lz b3 B3 np nlp hs => ?_⟩⟩
    have T3 := tabs_drawn (T2.ext (same_upd n1)) (B2.same (same_upd n1)) b3
    refine ⟨_, rfl, p, lp, b, F, C', ls, rfl, hs, by omega, by omega, by omega, fun r hr1 => (ok.w6 r hr1).ln, fun H4 s4 => ?_⟩
    have B4 := B3.same s4
    have T4 := T3.ext s4
    have htx : (bookT F C' (ls.map (·.2))).length ≤ 400 := text_short (by omega) (by omega) (by rw [List.length_map]; omega) (fun w hw => by
      obtain ⟨r, hr1, rfl⟩ := List.mem_map.mp hw
      exact (ok.w6 r hr1).ok)
    generalize bookT F C' (ls.map (·.2)) = tx at htx ⊢
    clear hs b3 np nlp s4 B3 T3 n1 ok lF lC lz T2 B2
    refine ⟨_, rfl, _, rfl, tx, rfl, Nat.le_trans htx (by decide), _, _, rfl, rfl, b, l, _, rfl, B4, by omega, by omega, fun H5 z z0 z1 b5 B5 => ?_⟩
    have T5 := tabs_drawn T4 B4 b5
    refine ⟨_, rfl, (show 12 ≤ sizeLine by decide), fun p2 n2 => ⟨b, l, .ref p2, _, rfl, B5.same (same_upd n2), .inl ⟨p2, B5.ne n2, rfl, SqL.of upd_same⟩, Nat.succ_pos _, (show 12 ≤ 100000 by decide), fun H6 v hv b6 B6 => ?_⟩⟩
    have T6 := tabs_drawn (T5.ext (same_upd n2)) (B5.same (same_upd n2)) b6
    obtain ⟨sg, rfl, hsg⟩ : ∃ sg : Str, v = .str sg ∧ sg.length ≤ 10 := by
      simp only [List.mem_cons, List.not_mem_nil, or_false] at hv
      rcases hv with rfl | rfl | rfl | rfl | rfl | rfl | rfl | rfl | rfl | rfl | rfl | rfl <;> exact ⟨_, rfl, by decide +kernel⟩
    clear hv b6 n2 b5 T5 B5 B4 T4
    refine ⟨_, rfl, _, rfl, z, rfl, tx, rfl, Nat.le_trans htx (by decide), _, rfl, _, _, rfl, rfl, ?_, ?_⟩
    · have := cut_le tx none (some z)
      exact Nat.le_trans (show (cutS tx none (some z)).length + sg.length ≤ 1000 by omega) (by decide)
    refine ⟨_, rfl, _, rfl, _, rfl, b, l, 3, rfl, B6, by decide, by decide, fun H7 z3 z30 z31 b7 B7 => ?_⟩
    have T7 := tabs_drawn T6 B6 b7
    have cat_len : ∀ x y : Str, (x ++ y).length = x.length + y.length := fun x y => by
      show (x.cps ++ y.cps).size = _
      rw [Array.size_append]
      rfl
    have hl1 := cut_le tx none (some z)
    have hl2 := cut_le tx (some (z + z3)) none
    refine ⟨_, _, rfl, rfl, _, rfl, tx, rfl, Nat.le_trans htx (by decide), _, _, rfl, rfl, ?_, ?_⟩
    · rw [cat_len]
      exact Nat.le_trans (show (cutS tx none (some z)).length + sg.length + (cutS tx (some (z + z3)) none).length ≤ 1000 by omega) (by decide)
    have hlt : (cutS tx none (some z) ++ sg ++ cutS tx (some (z + z3)) none).length ≤ 1000 := by
      rw [cat_len, cat_len]
      omega
    obtain ⟨t, et⟩ : ∃ t : List Nat, cutS tx none (some z) ++ sg ++ cutS tx (some (z + z3)) none = S t := ⟨_, (S_tl _).symm⟩
    rw [et, S_len] at hlt
    rw [et]
    clear et hl1 hl2 cat_len b7 T6 B6 z30 z31 z0 z1 htx hsg
    -- what is due, what is found
    refine ⟨_, rfl, t, rfl, hlt, fun H8 s8 => ?_⟩
    have T8 := T7.ext s8
    have B8 := B7.same s8
    refine ⟨T8, fun H9 e9 T9 => ?_⟩
    have B9 := B8.ext e9
    clear T7 B7 s8 T8 B8 e9
    refine ⟨_, rfl, .str (S t), rfl, .inl ⟨t, rfl, hlt, fun k hk H10 d10 s10 nd10 => ?_, fun hn H10 x F1 C1 ls1 s10 nx hB hT _ => ?_⟩⟩
    · refine ⟨TI.hex, fun a6 na6 => ⟨_, _, TI.caught nd10 na6, fun H11 s11 p11 np11 => ?_⟩⟩
      have ss : Same H9 (upd H11 p11 (HO.tup [V.str "InvalidText", V.int (k : Nat)])) := (s10.trans (same_upd nd10)).trans ((same_upd na6).trans (s11.trans (same_upd np11)))
      have T10 := T9.ext ss
      have B10 := B9.same ss
      generalize H12e : upd H11 p11 (HO.tup [V.str "InvalidText", V.int (k : Nat)]) = H12 at ss T10 B10 ⊢
      have h12 : H12 p11 = some (.tup [V.str "InvalidText", V.int (k : Nat)]) := by rw [← H12e]; exact upd_same
      clear H12e np11 s11 na6 nd10 s10 ss
      have hd : dueI t = (k : Int) := by unfold dueI; rw [hk]
      rw [hd]
      refine ⟨_, _, rfl, ?_⟩
      refine ⟨_, rfl, _, _, rfl, rfl, _, rfl, ite2 (fun _ => ?_) (fun h => absurd (decide_eq_true (Int.natCast_nonneg k)) h)⟩
      refine ⟨_, rfl, _, rfl, (show 2 ≤ sizeLine by decide), fun t1 nt1 => ?_⟩
      have w1 := same_upd (o := HO.tup [V.str "InvalidText", V.int (k : Nat)]) nt1
      refine ⟨_, _, .tuple [.str "InvalidText", .int k], rfl, .tup (SqT.of (w1 _ _ h12)) (.cons (.str _) (.cons (.int _) .nil)), .tup (SqT.of upd_same) (.cons (.str _) (.cons (.int _) .nil)), deep_tup (show 2 ≤ 1000 by decide) (fun d hd => ?_), fun H13 s13 => ?_⟩
      · simp only [List.mem_cons, List.not_mem_nil, or_false] at hd
        rcases hd with rfl | rfl
        · exact deep_str
        · exact deep_int
      refine ⟨_, rfl, iteF ?_⟩
      refine ⟨_, rfl, _, _, rfl, rfl, _, rfl, ite2 (fun h => absurd (of_decide_eq_true h) (by omega)) (fun _ => iteF ?_)⟩
      exact ⟨_, _, _, _, _, _, _, _, rfl, B10.same (w1.trans s13), T10.ext (w1.trans s13)⟩
    · have hd : dueI t = -1 := by unfold dueI; rw [hn]
      rw [hd]
      refine ⟨(show 2 ≤ sizeLine by decide), fun p11 np11 => ?_⟩
      have ss := s10.trans (same_upd (o := HO.tup [V.str "", V.ref x]) np11)
      have T10 := T9.ext ss
      have B10 := B9.same ss
      have hB1 := hB.same (same_upd (o := HO.tup [V.str "", V.ref x]) np11)
      generalize H12e : upd H10 p11 (HO.tup [V.str "", V.ref x]) = H12 at ss T10 B10 hB1 ⊢
      have h12 : H12 p11 = some (.tup [V.str "", V.ref x]) := by rw [← H12e]; exact upd_same
      clear H12e np11 s10 ss
      refine ⟨_, _, rfl, ?_⟩
      refine ⟨_, rfl, _, _, rfl, rfl, _, rfl, iteF (iteF ?_)⟩
      refine ⟨_, rfl, _, _, rfl, rfl, _, rfl, iteT ?_⟩
      refine ⟨_, rfl, p11, _, 0, _, rfl, rfl, SqT.of h12, rfl, rfl, _, rfl, iteF ?_⟩
      obtain ⟨dx, tl, hx, _⟩ := hB1.at_
      refine ⟨_, rfl, p11, _, 1, _, rfl, rfl, SqT.of h12, rfl, x, dx, _, rfl, hx, rfl, x, F1, C1, ls1, rfl, hB1, fun H13 s13 => ?_⟩
      rw [hT]
      refine ⟨_, rfl, rfl, _, rfl, ?_⟩
      rw [decide_eq_true rfl]
      refine iteF ?_
      exact ⟨_, _, _, _, _, _, _, _, rfl, B10.same s13, T10.ext s13⟩
  rintro σ H2 ⟨y2, y3, y4, y5, y6, y7, y8, y9, rfl, B2, T2⟩
  refine ⟨(show 1 ≤ sizeLine by decide), fun p1 n1 => ⟨p1, 9, _, rfl, rfl, upd_same, by decide, by decide, (show 1 * 9 ≤ sizeLine by decide), fun lr nr => ?_⟩⟩
  have hlr : (upd (upd H2 p1 (.lst [V.str ". . . . . none"])) lr (.lst (List.replicate (9 : Int).toNat [V.str ". . . . . none"]).flatten)) lr = some (.lst (rows9.map V.str)) := upd_same
  have s1 : Same H2 (upd (upd H2 p1 (.lst [V.str ". . . . . none"])) lr (.lst (List.replicate (9 : Int).toNat [V.str ". . . . . none"]).flatten)) := (same_upd n1).trans (same_upd nr)
  have nrb : lr ≠ b := (B2.same (same_upd n1)).ne nr
  replace B2 := B2.same s1
  replace T2 := T2.ext s1
  generalize upd (upd H2 p1 (.lst [V.str ". . . . . none"])) lr (.lst (List.replicate (9 : Int).toNat [V.str ". . . . . none"]).flatten) = H3 at B2 T2 hlr ⊢
  clear s1 n1 nr
  refine ⟨_, rfl, (show 5 ≤ sizeLine by decide), fun p2 n2 => ⟨b, l, .ref p2, _, rfl, B2.same (same_upd n2), .inl ⟨p2, B2.ne n2, rfl, SqL.of upd_same⟩, Nat.succ_pos _, (show 5 ≤ 100000 by decide), fun H6 v hv b6 B6 => ?_⟩⟩
  have T6 := tabs_drawn (T2.ext (same_upd n2)) (B2.same (same_upd n2)) b6
  have hlr6 := b6 _ _ nrb ((same_upd n2) _ _ hlr)
  obtain ⟨bad, rfl, hbad⟩ : ∃ bad : Str, v = .str bad ∧ bad ∈ bads := by
    simp only [List.mem_cons, List.not_mem_nil, or_false] at hv
    rcases hv with rfl | rfl | rfl | rfl | rfl <;> exact ⟨_, rfl, by simp [bads]⟩
  clear hv b6 n2 T2 B2 hlr
  -- the lambdas
  refine ⟨T6, fun f1 c1 v1 G1 e1 T1 m1 la1 => ?_⟩
  refine ⟨T1, fun f2 c2 v2 G2 e2 T2 m2 la2 => ?_⟩
  refine ⟨T2, fun f3 c3 v3 G3 e3 T3 m3 la3 => ?_⟩
  refine ⟨T3, fun f4 c4 v4 G4 e4 T4 m4 la4 => ?_⟩
  have ex := e1.trans (e2.trans (e3.trans e4))
  replace la1 := (((la1.ext e2).ext e3).ext e4)
  replace la2 := ((la2.ext e3).ext e4)
  replace la3 := (la3.ext e4)
  replace B6 := B6.ext ex
  replace hlr6 := ex _ _ hlr6 (fun _ z => by cases z)
  clear ex e1 e2 e3 e4 T1 T2 T3 T6 m1 m2 m3 m4
  refine ⟨(show 4 ≤ sizeLine by decide), fun l7 nl7 => ?_⟩
  have sl := same_upd (o := HO.lst [V.ref f1, .ref f2, .ref f3, .ref f4]) nl7
  have hl7 : (upd G4 l7 (.lst [V.ref f1, .ref f2, .ref f3, .ref f4])) l7 = some (.lst ([f1, f2, f3, f4].map V.ref)) := upd_same
  replace la1 := la1.same sl
  replace la2 := la2.same sl
  replace la3 := la3.same sl
  replace la4 := la4.same sl
  replace B6 := B6.same sl
  replace T4 := T4.ext sl
  replace hlr6 := sl _ _ hlr6
  generalize upd G4 l7 (.lst [V.ref f1, .ref f2, .ref f3, .ref f4]) = G7 at la1 la2 la3 la4 B6 T4 hlr6 hl7 ⊢
  clear sl nl7
  refine ⟨_, rfl, l7, [f1, f2, f3, f4], rfl, rfl, hl7, tries_run [.tuple [.str "InvalidText", .int 9], .tuple [.str "InvalidText", .int 9], .tuple [.str "", .int 8], .tuple [.str "InvalidText", .int 2]] hl7 (fun D nD => ?_) (fun H7 D s7 nD hD => ?_)⟩
  · refine ⟨?_, ?_, ?_, ?_, trivial⟩
    · refine oneAsk_err (v := .int 9) TI nD la1 (.int _) fun H s E Q h => ?_
      refine ⟨⟨_, rfl⟩, (show 1 ≤ sizeLine by decide), fun pa npa => ⟨_, rfl, pa, lr, _, _, rfl, rfl, upd_same, (same_upd npa) _ _ (s _ _ hlr6), (show 1 + 9 ≤ sizeLine by decide), fun pc npc => ⟨_, pc, "a A" :: rows9, rfl, rfl, .inl (SqL.of upd_same), by decide +kernel, ?_⟩⟩⟩
      exact redE red9 fun H' d s' nd => h H' d (((same_upd npa).trans (same_upd npc)).trans s') nd
    · refine oneAsk_err (v := .int 9) TI nD la2 (.int _) fun H s E Q h => ?_
      refine ⟨⟨_, rfl⟩, (show 1 ≤ sizeLine by decide), fun pa npa => ⟨_, rfl, _, rfl, lr, _, rfl, SqL.of ((same_upd npa) _ _ (s _ _ hlr6)), fun pb npb => ?_⟩⟩
      rw [cut8]
      refine ⟨pa, pb, _, _, rfl, rfl, (same_upd npb) _ _ upd_same, upd_same, (show 1 + 8 ≤ sizeLine by decide), fun pc npc => ⟨_, rfl, (show 1 ≤ sizeLine by decide), fun pd npd => ⟨pc, pd, _, _, rfl, rfl, (same_upd npd) _ _ upd_same, upd_same, (show 9 + 1 ≤ sizeLine by decide), fun pe npe => ⟨_, pe, "a A" :: (rows8 ++ [bad]), rfl, rfl, .inl (SqL.of upd_same), sum9 bad hbad, ?_⟩⟩⟩⟩
      exact redE (redb9 bad hbad) fun H' d s' nd => h H' d ((((((same_upd npa).trans (same_upd npb)).trans (same_upd npc)).trans (same_upd npd)).trans (same_upd npe)).trans s') nd
    · refine oneAsk_ok nD la3 fun H s hD E Q h => ?_
      refine ⟨⟨_, rfl⟩, (show 1 ≤ sizeLine by decide), fun pa npa => ⟨_, rfl, _, rfl, lr, _, rfl, SqL.of ((same_upd npa) _ _ (s _ _ hlr6)), fun pb npb => ?_⟩⟩
      rw [cut8]
      refine ⟨pa, pb, _, _, rfl, rfl, (same_upd npb) _ _ upd_same, upd_same, (show 1 + 8 ≤ sizeLine by decide), fun pc npc => ⟨_, pc, "a A" :: rows8, rfl, rfl, .inl (SqL.of upd_same), by decide +kernel, ?_⟩⟩
      refine ⟨_, rfl, .inl ⟨(Txt.join "\n" ("a A" :: rows8)).cps.toList, congrArg V.str (S_tl _).symm, red8.1, (fun j hj => nomatch red8.2.1.symm.trans hj), fun _ H' x F1 C1 ls1 s' nx hB hT hl => ?_⟩⟩
      have h8 : ls1.length = 8 := by
        have := red8.2.2
        omega
      obtain ⟨dx, tl, hx, _⟩ := hB.at_
      refine ⟨x, dx, _, rfl, hx, x, F1, C1, ls1, rfl, hB, ⟨_, rfl, by omega, by omega⟩, ?_⟩
      rw [h8]
      exact h _ _ (((((same_upd npa).trans (same_upd npb)).trans (same_upd npc))).trans s') fun _ _ => .int _
    · refine oneAsk_err (v := .int 2) TI nD la4 (.int _) fun H s E Q h => ?_
      refine ⟨⟨_, rfl⟩, _, rfl, lr, _, 0, _, rfl, rfl, SqL.of (s _ _ hlr6), rfl, _, rfl, _, rfl, (show 4 ≤ sizeLine by decide), fun pa npa => ⟨_, pa, ["a A", row0, bad, bad], rfl, rfl, .inl (SqL.of upd_same), sum2 bad hbad, ?_⟩⟩
      exact redE (redb2 bad hbad) fun H' d s' nd => h H' d ((same_upd npa).trans s') nd
  refine ⟨(show 2 ≤ sizeLine by decide), fun t1 nt1 => ?_⟩
  have w1 := same_upd (o := HO.tup [V.str "InvalidText", V.int 9]) nt1
  refine ⟨(show 2 ≤ sizeLine by decide), fun t2 nt2 => ?_⟩
  have w2 := same_upd (o := HO.tup [V.str "InvalidText", V.int 9]) nt2
  refine ⟨(show 2 ≤ sizeLine by decide), fun t3 nt3 => ?_⟩
  have w3 := same_upd (o := HO.tup [V.str "", V.int 8]) nt3
  refine ⟨(show 2 ≤ sizeLine by decide), fun t4 nt4 => ?_⟩
  have w4 := same_upd (o := HO.tup [V.str "InvalidText", V.int 2]) nt4
  refine ⟨(show 4 ≤ sizeLine by decide), fun t5 nt5 => ?_⟩
  have w5 := same_upd (o := HO.lst [V.ref t1, V.ref t2, V.ref t3, V.ref t4]) nt5
  have w45 := w4.trans w5
  have w35 := w3.trans w45
  have w25 := w2.trans w35
  have w15 := w1.trans w25
  have dt : ∀ (z : Str) (d : PyData), Deep 1 d → Deep 2 (.tuple [.str z, d]) := fun z d h => deep_tup (show 2 ≤ 1000 by decide) fun d' hd => by
    simp only [List.mem_cons, List.not_mem_nil, or_false] at hd
    rcases hd with rfl | rfl
    · exact deep_str
    · exact h
  refine ⟨_, _, _, rfl, Dp.same w15 hD, .lst (SqL.of upd_same) (.cons (.tup (SqT.of (w25 _ _ upd_same)) (.cons (.str _) (.cons (.int _) .nil))) (.cons (.tup (SqT.of (w35 _ _ upd_same)) (.cons (.str _) (.cons (.int _) .nil))) (.cons (.tup (SqT.of (w45 _ _ upd_same)) (.cons (.str _) (.cons (.int _) .nil))) (.cons (.tup (SqT.of (w5 _ _ upd_same)) (.cons (.str _) (.cons (.int _) .nil))) .nil)))), deep_list (show 4 ≤ 1000 by decide) (fun d hd => ?_), fun H8 s8 => ?_⟩
  · simp only [List.mem_cons, List.not_mem_nil, or_false] at hd
    rcases hd with rfl | rfl | rfl | rfl <;> exact dt _ _ deep_int
  have ss := s7.trans (w15.trans s8)
  have B8 := B6.same ss
  have T8 := T4.ext ss
  refine ⟨_, rfl, iteF ?_⟩
  clear ss s8 w15 w25 w35 w45 w1 w2 w3 w4 w5 nt1 nt2 nt3 nt4 nt5 hD nD s7 hl7 la1 la2 la3 la4 B6 T4 hlr6
  refine ⟨T8, fun g1 k1 u1 G1 e1 T1 m1 la1 => ?_⟩
  refine ⟨T1, fun g2 k2 u2 G2 e2 T2 m2 la2 => ?_⟩
  refine ⟨T2, fun g3 k3 u3 G3 e3 T3 m3 la3 => ?_⟩
  refine ⟨T3, fun g4 k4 u4 G4 e4 T4 m4 la4 => ?_⟩
  have ex := e1.trans (e2.trans (e3.trans e4))
  replace la1 := (((la1.ext e2).ext e3).ext e4)
  replace la2 := ((la2.ext e3).ext e4)
  replace la3 := (la3.ext e4)
  replace B8 := B8.ext ex
  clear ex e1 e2 e3 e4 T1 T2 T3 T8 m1 m2 m3 m4
  refine ⟨(show 4 ≤ sizeLine by decide), fun l8 nl8 => ?_⟩
  have sl := same_upd (o := HO.lst [V.ref g1, .ref g2, .ref g3, .ref g4]) nl8
  have hl8 : (upd G4 l8 (.lst [V.ref g1, .ref g2, .ref g3, .ref g4])) l8 = some (.lst ([g1, g2, g3, g4].map V.ref)) := upd_same
  replace la1 := la1.same sl
  replace la2 := la2.same sl
  replace la3 := la3.same sl
  replace la4 := la4.same sl
  replace B8 := B8.same sl
  replace T4 := T4.ext sl
  generalize upd G4 l8 (.lst [V.ref g1, .ref g2, .ref g3, .ref g4]) = G7 at la1 la2 la3 la4 B8 T4 hl8 ⊢
  clear sl nl8
  refine ⟨_, rfl, l8, [g1, g2, g3, g4], rfl, rfl, hl8, tries_run [.tuple [.str "InvalidText", .int 0], .tuple [.str "InvalidText", .int 0], .tuple [.str "", .str "abcdef ABCD"], .tuple [.str "InvalidText", .int 0]] hl8 (fun D nD => ?_) (fun H7 D s7 nD hD => ?_)⟩
  · refine ⟨?_, ?_, ?_, ?_, trivial⟩
    · refine oneAsk_err (v := .int 0) TI nD la1 (.int _) fun H s E Q h => ?_
      exact redE redh1 fun H' d s' nd => h H' d s' nd
    · refine oneAsk_err (v := .int 0) TI nD la2 (.int _) fun H s E Q h => ?_
      exact redE redh2 fun H' d s' nd => h H' d s' nd
    · refine oneAsk_ok nD la3 fun H s hD E Q h => ?_
      refine ⟨_, rfl, .inl ⟨("abcdef ABCD" : Str).cps.toList, congrArg V.str (S_tl _).symm, redh3.1, (fun j hj => nomatch redh3.2.1.symm.trans hj), fun _ H' x F1 C1 ls1 s' nx hB hT _ => ?_⟩⟩
      rw [S_tl] at hT
      obtain ⟨dx, tl, hx, _⟩ := hB.at_
      refine ⟨x, dx, _, rfl, hx, rfl, x, F1, C1, ls1, rfl, hB, fun H'' s'' => ?_⟩
      rw [hT]
      exact h _ _ (s'.trans s'') fun _ _ => .str _
    · refine oneAsk_err (v := .int 0) TI nD la4 (.int _) fun H s E Q h => ?_
      refine ⟨_, rfl, _, _, rfl, rfl, sumh bad hbad, ?_⟩
      exact ⟨_, rfl, .inl ⟨(("abcdefg ABCDE\n" : Str) ++ bad).cps.toList, congrArg V.str (S_tl _).symm, (redh4 bad hbad).1, (fun j hj H' d s' nd => by
        obtain rfl := Option.some.inj ((redh4 bad hbad).2.symm.trans hj)
        exact h H' d s' nd), fun hn => nomatch (redh4 bad hbad).2.symm.trans hn⟩⟩
  refine ⟨(show 2 ≤ sizeLine by decide), fun t1 nt1 => ?_⟩
  have w1 := same_upd (o := HO.tup [V.str "InvalidText", V.int 0]) nt1
  refine ⟨(show 2 ≤ sizeLine by decide), fun t2 nt2 => ?_⟩
  have w2 := same_upd (o := HO.tup [V.str "InvalidText", V.int 0]) nt2
  refine ⟨(show 2 ≤ sizeLine by decide), fun t3 nt3 => ?_⟩
  have w3 := same_upd (o := HO.tup [V.str "", V.str "abcdef ABCD"]) nt3
  refine ⟨(show 2 ≤ sizeLine by decide), fun t4 nt4 => ?_⟩
  have w4 := same_upd (o := HO.tup [V.str "InvalidText", V.int 0]) nt4
  refine ⟨(show 4 ≤ sizeLine by decide), fun t5 nt5 => ?_⟩
  have w5 := same_upd (o := HO.lst [V.ref t1, V.ref t2, V.ref t3, V.ref t4]) nt5
  have w45 := w4.trans w5
  have w35 := w3.trans w45
  have w25 := w2.trans w35
  have w15 := w1.trans w25
  refine ⟨_, _, _, rfl, Dp.same w15 hD, .lst (SqL.of upd_same) (.cons (.tup (SqT.of (w25 _ _ upd_same)) (.cons (.str _) (.cons (.int _) .nil))) (.cons (.tup (SqT.of (w35 _ _ upd_same)) (.cons (.str _) (.cons (.int _) .nil))) (.cons (.tup (SqT.of (w45 _ _ upd_same)) (.cons (.str _) (.cons (.str _) .nil))) (.cons (.tup (SqT.of (w5 _ _ upd_same)) (.cons (.str _) (.cons (.int _) .nil))) .nil)))), deep_list (show 4 ≤ 1000 by decide) (fun d hd => ?_), fun H8 s8 => ?_⟩
  · simp only [List.mem_cons, List.not_mem_nil, or_false] at hd
    rcases hd with rfl | rfl | rfl | rfl
    · exact dt _ _ deep_int
    · exact dt _ _ deep_int
    · exact dt _ _ deep_str
    · exact dt _ _ deep_int
  have ss := s7.trans (w15.trans s8)
  replace B8 := B8.same ss
  have T8 := T4.ext ss
  refine ⟨_, rfl, iteF ?_⟩
  clear ss s8 w15 w25 w35 w45 w1 w2 w3 w4 w5 nt1 nt2 nt3 nt4 nt5 hD nD s7 hl8 la1 la2 la3 la4 T4
  refine ⟨_, rfl, (show 1 ≤ sizeLine by decide), fun o1 no1 => ⟨(show 1 ≤ sizeLine by decide), fun o2 no2 => ⟨(show 12 ≤ sizeLine by decide), fun p2 n2 => ?_⟩⟩⟩
  have sA := same_upd (o := HO.lst [V.str "a A"]) no1
  have sB := same_upd (o := HO.tup [V.str "a A"]) no2
  have hA := (B8).ne no1
  have hB := (B8.same sA).ne no2
  refine ⟨b, l, .ref p2, _, rfl, ((B8.same sA).same sB).same (same_upd n2), .inl ⟨p2, ((B8.same sA).same sB).ne n2, rfl, SqL.of upd_same⟩, Nat.succ_pos _, (show 12 ≤ 100000 by decide), fun H9 v hv b9 B9 => ?_⟩
  have T9 := tabs_drawn (((T8.ext sA).ext sB).ext (same_upd n2)) (((B8.same sA).same sB).same (same_upd n2)) b9
  obtain ⟨d, k, od⟩ : ∃ d k, OddT K b H9 v d k := by
    have ho1 := b9 _ _ hA ((same_upd n2) _ _ (sB _ _ upd_same))
    have ho2 := b9 _ _ hB ((same_upd n2) _ _ upd_same)
    simp only [List.mem_cons, List.not_mem_nil, or_false] at hv
    rcases hv with rfl | rfl | rfl | rfl | rfl | rfl | rfl | rfl | rfl | rfl | rfl | rfl
    · exact ⟨_, _, oddT_non⟩
    · exact ⟨_, _, oddT_int⟩
    · exact ⟨_, _, oddT_bl⟩
    · exact ⟨_, _, oddT_lst hA ho1⟩
    · exact ⟨_, _, oddT_tup hB ho2⟩
    all_goals exact ⟨_, _, oddT_str (by simp [odds])⟩
  clear hv b9 n2 no1 no2 sA sB hA hB B8 T8
  refine ⟨T9, fun H10 e10 T10 => ?_⟩
  refine ⟨_, rfl, ?_⟩
  unfold tNil
  refine od.read (od.od.now.ext e10) fun H11 d11 s11 nd11 => ?_
  refine ⟨TI.hex, fun a6 na6 => ⟨_, _, TI.caught nd11 na6, fun H12 s12 p12 np12 => ?_⟩⟩
  have ss : Same H10 (upd H12 p12 (HO.tup [V.str "InvalidText", V.int (k : Nat)])) := (s11.trans (same_upd nd11)).trans ((same_upd na6).trans (s12.trans (same_upd np12)))
  have od1 := (od.od.now.ext e10).same ss
  generalize H13e : upd H12 p12 (HO.tup [V.str "InvalidText", V.int (k : Nat)]) = H13 at ss od1 ⊢
  have h13 : H13 p12 = some (.tup [V.str "InvalidText", V.int (k : Nat)]) := by rw [← H13e]; exact upd_same
  refine ⟨_, rfl, _, _, od1.dp, .str _, od.sh, textsh, .inr ⟨_, rfl, ?_⟩⟩
  rw [od.eq, show (if decide (k = 1) = true then (1 : Int) else 0) = (k : Int) from by
    have := od.le
    by_cases h1 : k = 1
    · rw [decide_eq_true h1, if_pos rfl, h1]
      rfl
    · rw [decide_eq_false h1, if_neg Bool.false_ne_true]
      omega]
  refine ⟨(show 2 ≤ sizeLine by decide), fun t1 nt1 => ?_⟩
  have w1 := same_upd (o := HO.tup [V.str "InvalidText", V.int (k : Nat)]) nt1
  refine ⟨_, _, .tuple [.str "InvalidText", .int k], rfl, .tup (SqT.of (w1 _ _ h13)) (.cons (.str _) (.cons (.int _) .nil)), .tup (SqT.of upd_same) (.cons (.str _) (.cons (.int _) .nil)), deep_tup (show 2 ≤ 1000 by decide) (fun d hd => ?_), fun H14 s14 => q _⟩
  simp only [List.mem_cons, List.not_mem_nil, or_false] at hd
  rcases hd with rfl | rfl
  · exact deep_str
  · exact deep_int
end
end FW
namespace FW
open PySem PySem.Spec PyProof.Rows L2
/-- the end of a law row whose law's own text holds a lambda: the law's table at P, its code object at c -/
theorem walk_tab {l : PySem.W.OpenLaw} {n k : Nat} {q : Program} {loose : List Str} {XP : (Str → Option Value) → Heap → Prop} {YP : World → Heap → Prop} {d : DefRec} {K : Params → PySem.W.Frag} {x : Str} {sp : PySem.W.Frag → Addr → Sp} {c P : Addr}
    (hn : l.most = some n) (hn2 : n ≤ sizeLine) (hdf : d.params.defaults = []) (hr : Room k callerA) (hY : ∀ (w : World) (h : Heap), YP w h → (K w.params).In h)
    (hT : ∀ (w : World) (h : Heap), YP w h → h.get? P = some (PySem.W.tabObj #[])) (hnP : ∀ pr : Params, (K pr).lookup P = none)
    (F : ∀ (w : World) (mg : Str → Option Value) (fa : Addr) (h : Heap), (K w.params).In h → h.Ns mainGlobals mg → mg d.name = some (.ref fa) →
      ∃ fd : FuncData, (∀ (s : Shared) (u : Value), BindsTo s fd ⟨[u], []⟩ [(x, u)]) ∧ ∀ base : Heap, (K w.params).In base → base.Ns mainGlobals mg → LamX.TabB base mg c P → FnOk l.prog w (K w.params) mg base L2.CX0 k fa fd [x] (sp (K w.params) P))
    (hc : ∀ pr : Params, PySem.W.codeHdIn (K pr) c P = true) (hsp : ∀ (pr : Params) (H : Hp) (a : Addr) (ns : List Int), ns.length ≤ n → H P = some (.tbl #[]) → SqL (K pr) H a (ns.map V.int) → sp (K pr) P [.ref a] H (fun v _ => v = .bl true) fun _ _ _ => False) :
    PySem.W.WalkO q loose XP YP l.row.toRowW d [] (fun f vs => PySem.call f vs) := by
  refine Att.attach_callB hn hdf fun w s₀ s₁ mg mb fa o pm cd doc a vs ns G Y ho hd hcd hmg hobj hints hlen hbits hg => ?_
  have X := hY w _ Y
  obtain ⟨fd, hb, hF⟩ := F w mg fa _ X G.T.g hmg
  have hP := hT w _ Y
  refine LamX.law_callTs (cs := [(c, P)]) X G.T.g G.T.b G.T.builtins G.T.nolimit hg (fun p hp => ?_) (fun p hp => ?_) (fun p hp => ?_) G.T.bmain hobj hints (Nat.le_trans hlen hn2) hr
    (fun base h1 h2 h3 => hF base h1 h2 (h3 _ List.mem_cons_self)) hb (fun H hH hS => hsp w.params H a ns hlen (hH _ List.mem_cons_self) hS) (fun _ _ _ z => z)
  · rw [List.mem_singleton.mp hp]
    exact hP
  · rw [List.mem_singleton.mp hp]
    exact hnP w.params
  · rw [List.mem_singleton.mp hp]
    exact PySem.W.codeHd_of_K X (hc w.params)
end FW
namespace FW
open PySem PySem.Spec PyProof.Rows L2
theorem all_mk {l : PySem.W.OpenLaw} {w : World} {K : PySem.W.Frag} {h : Heap} {mg : Str → Option Value} {fa : Addr} {CB C_InvalidText fI_InvalidText NC_InvalidText C1 C2 C3 f__law_tries f__law_try f__law_field f__law_same p_read f_B_read f_Bi f_is_string f_is_ascending f_is_choice f_is_faces f_is_cutters f_is_letter f_is_part f_is_cut f_is_line f_head_of f_line_of f__law_draw f__law_of f_B_text f_row_of f_B_len f__law_goes f__law_read_line f__law_text_due f__law_line_text f__law_book_text f__law_part f__law_some_cut f__law_letters f__law_some_faces f__law_some_cutters f__law_some_line f__law_some_book f__law_open f_law c Pt : Addr} {t8 tk_InvalidText tk__LOWER tk__MOST_FACES tk__UPPER tk__MOST_CUTTERS : Tok} {nm_InvalidText qn_InvalidText : Str} {bs_InvalidText bm_InvalidText sub_InvalidText r_read : List Value} {sn_InvalidText : List Str} {ab_InvalidText : Bool} {col_InvalidText : Option Bool} {k0_InvalidText k1_InvalidText k3_InvalidText k5_InvalidText : Option Value} {dd_InvalidText odI_InvalidText anI_InvalidText od__law_tries an__law_tries od__law_try an__law_try od__law_field an__law_field od__law_same an__law_same od_B_read an_B_read od_Bi an_Bi od_is_string an_is_string od_is_ascending an_is_ascending od_is_choice an_is_choice od_is_faces an_is_faces od_is_cutters an_is_cutters od_is_letter an_is_letter od_is_part an_is_part od_is_cut an_is_cut od_is_line an_is_line od_head_of an_head_of od_line_of an_line_of od__law_draw an__law_draw od__law_of an__law_of od_B_text an_B_text od_row_of an_row_of od_B_len an_B_len od__law_goes an__law_goes od__law_read_line an__law_read_line od__law_text_due an__law_text_due od__law_line_text an__law_line_text od__law_book_text an__law_book_text od__law_part an__law_part od__law_some_cut an__law_some_cut od__law_letters an__law_letters od__law_some_faces an__law_some_faces od__law_some_cutters an__law_some_cutters od__law_some_line an__law_some_line od__law_some_book an__law_some_book od__law_open an__law_open od_law an_law : Option Addr} {slI_InvalidText sl__law_tries sl__law_try sl__law_field sl__law_same sl_B_read sl_Bi sl_is_string sl_is_ascending sl_is_choice sl_is_faces sl_is_cutters sl_is_letter sl_is_part sl_is_cut sl_is_line sl_head_of sl_line_of sl__law_draw sl__law_of sl_B_text sl_row_of sl_B_len sl__law_goes sl__law_read_line sl__law_text_due sl__law_line_text sl__law_book_text sl__law_part sl__law_some_cut sl__law_letters sl__law_some_faces sl__law_some_cutters sl__law_some_line sl__law_some_book sl__law_open sl_law : Array (Option Value)} {ocI_InvalidText kVI_InvalidText dcI_InvalidText pmI_InvalidText cdI_InvalidText ctI_InvalidText oc__law_tries kV__law_tries dc__law_tries pm__law_tries cd__law_tries ct__law_tries oc__law_try kV__law_try dc__law_try pm__law_try cd__law_try ct__law_try oc__law_field kV__law_field dc__law_field pm__law_field cd__law_field ct__law_field oc__law_same kV__law_same dc__law_same pm__law_same cd__law_same ct__law_same oc_B_read kV_B_read dc_B_read pm_B_read cd_B_read ct_B_read oc_Bi kV_Bi dc_Bi pm_Bi cd_Bi ct_Bi oc_is_string kV_is_string dc_is_string pm_is_string cd_is_string ct_is_string oc_is_ascending kV_is_ascending dc_is_ascending pm_is_ascending cd_is_ascending ct_is_ascending oc_is_choice kV_is_choice dc_is_choice pm_is_choice cd_is_choice ct_is_choice oc_is_faces kV_is_faces dc_is_faces pm_is_faces cd_is_faces ct_is_faces oc_is_cutters kV_is_cutters dc_is_cutters pm_is_cutters cd_is_cutters ct_is_cutters oc_is_letter kV_is_letter dc_is_letter pm_is_letter cd_is_letter ct_is_letter oc_is_part kV_is_part dc_is_part pm_is_part cd_is_part ct_is_part oc_is_cut kV_is_cut dc_is_cut pm_is_cut cd_is_cut ct_is_cut oc_is_line kV_is_line dc_is_line pm_is_line cd_is_line ct_is_line oc_head_of kV_head_of dc_head_of pm_head_of cd_head_of ct_head_of oc_line_of kV_line_of dc_line_of pm_line_of cd_line_of ct_line_of oc__law_draw kV__law_draw dc__law_draw pm__law_draw cd__law_draw ct__law_draw oc__law_of kV__law_of dc__law_of pm__law_of cd__law_of ct__law_of oc_B_text kV_B_text dc_B_text pm_B_text cd_B_text ct_B_text oc_row_of kV_row_of dc_row_of pm_row_of cd_row_of ct_row_of oc_B_len kV_B_len dc_B_len pm_B_len cd_B_len ct_B_len oc__law_goes kV__law_goes dc__law_goes pm__law_goes cd__law_goes ct__law_goes oc__law_read_line kV__law_read_line dc__law_read_line pm__law_read_line cd__law_read_line ct__law_read_line oc__law_text_due kV__law_text_due dc__law_text_due pm__law_text_due cd__law_text_due ct__law_text_due oc__law_line_text kV__law_line_text dc__law_line_text pm__law_line_text cd__law_line_text ct__law_line_text oc__law_book_text kV__law_book_text dc__law_book_text pm__law_book_text cd__law_book_text ct__law_book_text oc__law_part kV__law_part dc__law_part pm__law_part cd__law_part ct__law_part oc__law_some_cut kV__law_some_cut dc__law_some_cut pm__law_some_cut cd__law_some_cut ct__law_some_cut oc__law_letters kV__law_letters dc__law_letters pm__law_letters cd__law_letters ct__law_letters oc__law_some_faces kV__law_some_faces dc__law_some_faces pm__law_some_faces cd__law_some_faces ct__law_some_faces oc__law_some_cutters kV__law_some_cutters dc__law_some_cutters pm__law_some_cutters cd__law_some_cutters ct__law_some_cutters oc__law_some_line kV__law_some_line dc__law_some_line pm__law_some_line cd__law_some_line ct__law_some_line oc__law_some_book kV__law_some_book dc__law_some_book pm__law_some_book cd__law_some_book ct__law_some_book oc__law_open kV__law_open dc__law_open pm__law_open cd__law_open ct__law_open oc_law kV_law dc_law pm_law ct_law : Value} (X : K.In h) (G : h.Ns mainGlobals mg) (hfa : mg "law" = some (.ref fa))
    (B_g : PySem.W.nsIn K mainGlobals "Book" = some (some (.ref CB)))
    (B_pg : PySem.W.plainGet K CB Str.empty = true)
    (B_hd : PySem.W.hasDictIn K CB = true)
    (B_po : PySem.W.plainOver K CB = true)
    (B_sa : PySem.W.findIn K (.ref CB) "__setattr__" = some (some (.builtin "object.__setattr__")))
    (B_nf : PySem.W.findIn K (.ref CB) "faces" = some none)
    (B_nc : PySem.W.findIn K (.ref CB) "cutters" = some none)
    (B_nl : PySem.W.findIn K (.ref CB) "_lines" = some none)
    (B_mk : PySem.W.makesIn K CB = true)
    (B_kp : PySem.W.keepIn K (.ref CB) = true)
    (B_rd : PySem.W.readsIn K CB (.type "type") = true)
    (B_sg : PySem.W.specialIn K (.ref CB) "__getattribute__" = some (some (.builtin "type.__getattribute__")))
    (B_most : PySem.W.findCls K (.ref CB) (.type "type") "MOST" = some (.val (.int 8 t8)))
    (gs1 : PySem.W.specialIn K (.builtin "object.__class__") "__get__" = some (some (.builtin "getset_descriptor.__get__")))
    (gs2 : PySem.W.takesIn K (.builtin "object.__class__") = some true)
    (eg_InvalidText : PySem.W.nsIn K mainGlobals "InvalidText" = some (some (.ref C_InvalidText)))
    (el_InvalidText : K.lookup C_InvalidText = some (excClassObj nm_InvalidText qn_InvalidText C_InvalidText NC_InvalidText bs_InvalidText bm_InvalidText true sn_InvalidText sub_InvalidText ab_InvalidText col_InvalidText dd_InvalidText k0_InvalidText k1_InvalidText (some (.str "InvalidText" tk_InvalidText)) k3_InvalidText k5_InvalidText "ValueError.__new__"))
    (eb_InvalidText : PySem.HandSPX.refsVE bm_InvalidText = true)
    (esa_InvalidText : PySem.W.findIn K (.ref C_InvalidText) "__setattr__" = some (some (.builtin "object.__setattr__")))
    (ex_InvalidText : PySem.W.subIn K (.ref C_InvalidText) (.type "BaseException") = some true)
    (ety_InvalidText : PySem.W.typeIn K (.ref C_InvalidText) = some (.type "type"))
    (ek_InvalidText : PySem.W.keepIn K (.ref C_InvalidText) = true)
    (ecl_InvalidText : (PySem.W.clsIn K C_InvalidText).isSome = true)
    (ega_InvalidText : PySem.W.findIn K (.ref C_InvalidText) "__getattribute__" = some (some (.builtin "BaseException.__getattribute__")))
    (egg_InvalidText : PySem.W.findIn K (.ref C_InvalidText) "__getattr__" = some none)
    (efc_InvalidText : PySem.W.findIn K (.ref C_InvalidText) "__class__" = some (some (.builtin "object.__class__")))
    (eob_InvalidText : PySem.W.mroIn K C_InvalidText (.type "object") = some true)
    (ehd_InvalidText : PySem.W.hasDictIn K C_InvalidText = true)
    (enc_InvalidText : PySem.W.findIn K (.ref C_InvalidText) "code" = some none)
    (enf_InvalidText : PySem.W.findIn K (.ref C_InvalidText) "line" = some none)
    (eini_InvalidText : PySem.W.findIn K (.ref C_InvalidText) "__init__" = some (some (.ref fI_InvalidText)))
    (etI_InvalidText : PySem.W.typeIn K (.ref fI_InvalidText) = some (.type "function"))
    (elI_InvalidText : K.lookup fI_InvalidText = some ⟨ocI_InvalidText, odI_InvalidText, .func (PySem.W.fnOf "__init__" "InvalidText.__init__" (defArgs s_InvalidText_init) (defBody s_InvalidText_init) (defScope s_InvalidText_init) .none kVI_InvalidText dcI_InvalidText pmI_InvalidText anI_InvalidText cdI_InvalidText ctI_InvalidText), slI_InvalidText⟩)
    (ecI_InvalidText : PySem.W.codeIn K cdI_InvalidText "InvalidText.__init__" = true)
    (ekI_InvalidText : PySem.W.keepIn K (.ref fI_InvalidText) = true)
    (erd_InvalidText : PySem.W.readsIn K C_InvalidText (.type "type") = true)
    (efdn_InvalidText : PySem.W.findCls K (.ref C_InvalidText) (.type "type") "__name__" = some (.get (.builtin "getset_descriptor.__get__") (.builtin "type.__name__") (.ref C_InvalidText) (.type "type")))
    (e_C1 : PySem.W.nsIn K mainGlobals "HouseError" = some (some (.ref C1)))
    (e_C2 : PySem.W.nsIn K mainGlobals "Missing" = some (some (.ref C2)))
    (e_C3 : PySem.W.nsIn K mainGlobals "NothingLeft" = some (some (.ref C3)))
    (hx_InvalidText : PySem.W.exmAny K (.ref C_InvalidText) [.ref C1, .ref C2, .ref C3] = some true)
    (a__law_tries : PySem.W.nsIn K mainGlobals "_law_tries" = some (some (.ref f__law_tries)))
    (l__law_tries : K.lookup f__law_tries = some ⟨oc__law_tries, od__law_tries, .func (PySem.W.fnOf "_law_tries" "_law_tries" (defArgs s__law_tries) (defBody s__law_tries) (defScope s__law_tries) .none kV__law_tries dc__law_tries pm__law_tries an__law_tries cd__law_tries ct__law_tries), sl__law_tries⟩)
    (c__law_tries : PySem.W.codeIn K cd__law_tries "_law_tries" = true)
    (k__law_tries : PySem.W.keepIn K (.ref f__law_tries) = true)
    (a__law_try : PySem.W.nsIn K mainGlobals "_law_try" = some (some (.ref f__law_try)))
    (l__law_try : K.lookup f__law_try = some ⟨oc__law_try, od__law_try, .func (PySem.W.fnOf "_law_try" "_law_try" (defArgs s__law_try) (defBody s__law_try) (defScope s__law_try) .none kV__law_try dc__law_try pm__law_try an__law_try cd__law_try ct__law_try), sl__law_try⟩)
    (c__law_try : PySem.W.codeIn K cd__law_try "_law_try" = true)
    (k__law_try : PySem.W.keepIn K (.ref f__law_try) = true)
    (a__law_field : PySem.W.nsIn K mainGlobals "_law_field" = some (some (.ref f__law_field)))
    (l__law_field : K.lookup f__law_field = some ⟨oc__law_field, od__law_field, .func (PySem.W.fnOf "_law_field" "_law_field" (defArgs s__law_field) (defBody s__law_field) (defScope s__law_field) .none kV__law_field dc__law_field pm__law_field an__law_field cd__law_field ct__law_field), sl__law_field⟩)
    (c__law_field : PySem.W.codeIn K cd__law_field "_law_field" = true)
    (k__law_field : PySem.W.keepIn K (.ref f__law_field) = true)
    (a__law_same : PySem.W.nsIn K mainGlobals "_law_same" = some (some (.ref f__law_same)))
    (l__law_same : K.lookup f__law_same = some ⟨oc__law_same, od__law_same, .func (PySem.W.fnOf "_law_same" "_law_same" (defArgs s__law_same) (defBody s__law_same) (defScope s__law_same) .none kV__law_same dc__law_same pm__law_same an__law_same cd__law_same ct__law_same), sl__law_same⟩)
    (c__law_same : PySem.W.codeIn K cd__law_same "_law_same" = true)
    (k__law_same : PySem.W.keepIn K (.ref f__law_same) = true)
    (S_fd : PySem.W.findCls K (.ref CB) (.type "type") "read" = some (.get (.builtin "staticmethod.__get__") (.ref p_read) .none (.ref CB)))
    (S_rc : PySem.W.recIn K p_read "staticmethod" = some (.ref f_B_read :: r_read))
    (l_B_read : K.lookup f_B_read = some ⟨oc_B_read, od_B_read, .func (PySem.W.fnOf "read" "Book.read" (defArgs s_Book_read) (defBody s_Book_read) (defScope s_Book_read) .none kV_B_read dc_B_read pm_B_read an_B_read cd_B_read ct_B_read), sl_B_read⟩)
    (c_B_read : PySem.W.codeIn K cd_B_read "Book.read" = true)
    (k_B_read : PySem.W.keepIn K (.ref f_B_read) = true)
    (B_init : PySem.W.findIn K (.ref CB) "__init__" = some (some (.ref f_Bi)))
    (B_ifn : PySem.W.isFn K (.ref f_Bi) = true)
    (l_Bi : K.lookup f_Bi = some ⟨oc_Bi, od_Bi, .func (PySem.W.fnOf "__init__" "Book.__init__" (defArgs s_Book_init) (defBody s_Book_init) (defScope s_Book_init) .none kV_Bi dc_Bi pm_Bi an_Bi cd_Bi ct_Bi), sl_Bi⟩)
    (c_Bi : PySem.W.codeIn K cd_Bi "Book.__init__" = true)
    (k_Bi : PySem.W.keepIn K (.ref f_Bi) = true)
    (z__LOWER : PySem.W.nsIn K mainGlobals "_LOWER" = some (some (.str "abcdefghijklmnopqrstuvwxyz" tk__LOWER)))
    (z__MOST_FACES : PySem.W.nsIn K mainGlobals "_MOST_FACES" = some (some (.int 6 tk__MOST_FACES)))
    (a_is_string : PySem.W.nsIn K mainGlobals "is_string" = some (some (.ref f_is_string)))
    (l_is_string : K.lookup f_is_string = some ⟨oc_is_string, od_is_string, .func (PySem.W.fnOf "is_string" "is_string" (defArgs s_is_string) (defBody s_is_string) (defScope s_is_string) .none kV_is_string dc_is_string pm_is_string an_is_string cd_is_string ct_is_string), sl_is_string⟩)
    (c_is_string : PySem.W.codeIn K cd_is_string "is_string" = true)
    (k_is_string : PySem.W.keepIn K (.ref f_is_string) = true)
    (a_is_ascending : PySem.W.nsIn K mainGlobals "is_ascending" = some (some (.ref f_is_ascending)))
    (l_is_ascending : K.lookup f_is_ascending = some ⟨oc_is_ascending, od_is_ascending, .func (PySem.W.fnOf "is_ascending" "is_ascending" (defArgs s_is_ascending) (defBody s_is_ascending) (defScope s_is_ascending) .none kV_is_ascending dc_is_ascending pm_is_ascending an_is_ascending cd_is_ascending ct_is_ascending), sl_is_ascending⟩)
    (c_is_ascending : PySem.W.codeIn K cd_is_ascending "is_ascending" = true)
    (k_is_ascending : PySem.W.keepIn K (.ref f_is_ascending) = true)
    (a_is_choice : PySem.W.nsIn K mainGlobals "is_choice" = some (some (.ref f_is_choice)))
    (l_is_choice : K.lookup f_is_choice = some ⟨oc_is_choice, od_is_choice, .func (PySem.W.fnOf "is_choice" "is_choice" (defArgs s_is_choice) (defBody s_is_choice) (defScope s_is_choice) .none kV_is_choice dc_is_choice pm_is_choice an_is_choice cd_is_choice ct_is_choice), sl_is_choice⟩)
    (c_is_choice : PySem.W.codeIn K cd_is_choice "is_choice" = true)
    (k_is_choice : PySem.W.keepIn K (.ref f_is_choice) = true)
    (a_is_faces : PySem.W.nsIn K mainGlobals "is_faces" = some (some (.ref f_is_faces)))
    (l_is_faces : K.lookup f_is_faces = some ⟨oc_is_faces, od_is_faces, .func (PySem.W.fnOf "is_faces" "is_faces" (defArgs s_is_faces) (defBody s_is_faces) (defScope s_is_faces) .none kV_is_faces dc_is_faces pm_is_faces an_is_faces cd_is_faces ct_is_faces), sl_is_faces⟩)
    (c_is_faces : PySem.W.codeIn K cd_is_faces "is_faces" = true)
    (k_is_faces : PySem.W.keepIn K (.ref f_is_faces) = true)
    (z__UPPER : PySem.W.nsIn K mainGlobals "_UPPER" = some (some (.str "ABCDEFGHIJKLMNOPQRSTUVWXYZ" tk__UPPER)))
    (z__MOST_CUTTERS : PySem.W.nsIn K mainGlobals "_MOST_CUTTERS" = some (some (.int 4 tk__MOST_CUTTERS)))
    (a_is_cutters : PySem.W.nsIn K mainGlobals "is_cutters" = some (some (.ref f_is_cutters)))
    (l_is_cutters : K.lookup f_is_cutters = some ⟨oc_is_cutters, od_is_cutters, .func (PySem.W.fnOf "is_cutters" "is_cutters" (defArgs s_is_cutters) (defBody s_is_cutters) (defScope s_is_cutters) .none kV_is_cutters dc_is_cutters pm_is_cutters an_is_cutters cd_is_cutters ct_is_cutters), sl_is_cutters⟩)
    (c_is_cutters : PySem.W.codeIn K cd_is_cutters "is_cutters" = true)
    (k_is_cutters : PySem.W.keepIn K (.ref f_is_cutters) = true)
    (a_is_letter : PySem.W.nsIn K mainGlobals "is_letter" = some (some (.ref f_is_letter)))
    (l_is_letter : K.lookup f_is_letter = some ⟨oc_is_letter, od_is_letter, .func (PySem.W.fnOf "is_letter" "is_letter" (defArgs s_is_letter) (defBody s_is_letter) (defScope s_is_letter) .none kV_is_letter dc_is_letter pm_is_letter an_is_letter cd_is_letter ct_is_letter), sl_is_letter⟩)
    (c_is_letter : PySem.W.codeIn K cd_is_letter "is_letter" = true)
    (k_is_letter : PySem.W.keepIn K (.ref f_is_letter) = true)
    (a_is_part : PySem.W.nsIn K mainGlobals "is_part" = some (some (.ref f_is_part)))
    (l_is_part : K.lookup f_is_part = some ⟨oc_is_part, od_is_part, .func (PySem.W.fnOf "is_part" "is_part" (defArgs s_is_part) (defBody s_is_part) (defScope s_is_part) .none kV_is_part dc_is_part pm_is_part an_is_part cd_is_part ct_is_part), sl_is_part⟩)
    (c_is_part : PySem.W.codeIn K cd_is_part "is_part" = true)
    (k_is_part : PySem.W.keepIn K (.ref f_is_part) = true)
    (a_is_cut : PySem.W.nsIn K mainGlobals "is_cut" = some (some (.ref f_is_cut)))
    (l_is_cut : K.lookup f_is_cut = some ⟨oc_is_cut, od_is_cut, .func (PySem.W.fnOf "is_cut" "is_cut" (defArgs s_is_cut) (defBody s_is_cut) (defScope s_is_cut) .none kV_is_cut dc_is_cut pm_is_cut an_is_cut cd_is_cut ct_is_cut), sl_is_cut⟩)
    (c_is_cut : PySem.W.codeIn K cd_is_cut "is_cut" = true)
    (k_is_cut : PySem.W.keepIn K (.ref f_is_cut) = true)
    (a_is_line : PySem.W.nsIn K mainGlobals "is_line" = some (some (.ref f_is_line)))
    (l_is_line : K.lookup f_is_line = some ⟨oc_is_line, od_is_line, .func (PySem.W.fnOf "is_line" "is_line" (defArgs s_is_line) (defBody s_is_line) (defScope s_is_line) .none kV_is_line dc_is_line pm_is_line an_is_line cd_is_line ct_is_line), sl_is_line⟩)
    (c_is_line : PySem.W.codeIn K cd_is_line "is_line" = true)
    (k_is_line : PySem.W.keepIn K (.ref f_is_line) = true)
    (a_head_of : PySem.W.nsIn K mainGlobals "head_of" = some (some (.ref f_head_of)))
    (l_head_of : K.lookup f_head_of = some ⟨oc_head_of, od_head_of, .func (PySem.W.fnOf "head_of" "head_of" (defArgs s_head_of) (defBody s_head_of) (defScope s_head_of) .none kV_head_of dc_head_of pm_head_of an_head_of cd_head_of ct_head_of), sl_head_of⟩)
    (c_head_of : PySem.W.codeIn K cd_head_of "head_of" = true)
    (k_head_of : PySem.W.keepIn K (.ref f_head_of) = true)
    (a_line_of : PySem.W.nsIn K mainGlobals "line_of" = some (some (.ref f_line_of)))
    (l_line_of : K.lookup f_line_of = some ⟨oc_line_of, od_line_of, .func (PySem.W.fnOf "line_of" "line_of" (defArgs s_line_of) (defBody s_line_of) (defScope s_line_of) .none kV_line_of dc_line_of pm_line_of an_line_of cd_line_of ct_line_of), sl_line_of⟩)
    (c_line_of : PySem.W.codeIn K cd_line_of "line_of" = true)
    (k_line_of : PySem.W.keepIn K (.ref f_line_of) = true)
    (a__law_draw : PySem.W.nsIn K mainGlobals "_law_draw" = some (some (.ref f__law_draw)))
    (l__law_draw : K.lookup f__law_draw = some ⟨oc__law_draw, od__law_draw, .func (PySem.W.fnOf "_law_draw" "_law_draw" (defArgs s__law_draw) (defBody s__law_draw) (defScope s__law_draw) .none kV__law_draw dc__law_draw pm__law_draw an__law_draw cd__law_draw ct__law_draw), sl__law_draw⟩)
    (c__law_draw : PySem.W.codeIn K cd__law_draw "_law_draw" = true)
    (k__law_draw : PySem.W.keepIn K (.ref f__law_draw) = true)
    (a__law_of : PySem.W.nsIn K mainGlobals "_law_of" = some (some (.ref f__law_of)))
    (l__law_of : K.lookup f__law_of = some ⟨oc__law_of, od__law_of, .func (PySem.W.fnOf "_law_of" "_law_of" (defArgs s__law_of) (defBody s__law_of) (defScope s__law_of) .none kV__law_of dc__law_of pm__law_of an__law_of cd__law_of ct__law_of), sl__law_of⟩)
    (c__law_of : PySem.W.codeIn K cd__law_of "_law_of" = true)
    (k__law_of : PySem.W.keepIn K (.ref f__law_of) = true)
    (at_B_text : PySem.W.findIn K (.ref CB) "text" = some (some (.ref f_B_text)))
    (fn_B_text : PySem.W.isFn K (.ref f_B_text) = true)
    (l_B_text : K.lookup f_B_text = some ⟨oc_B_text, od_B_text, .func (PySem.W.fnOf "text" "Book.text" (defArgs s_Book_text) (defBody s_Book_text) (defScope s_Book_text) .none kV_B_text dc_B_text pm_B_text an_B_text cd_B_text ct_B_text), sl_B_text⟩)
    (c_B_text : PySem.W.codeIn K cd_B_text "Book.text" = true)
    (k_B_text : PySem.W.keepIn K (.ref f_B_text) = true)
    (a_row_of : PySem.W.nsIn K mainGlobals "row_of" = some (some (.ref f_row_of)))
    (l_row_of : K.lookup f_row_of = some ⟨oc_row_of, od_row_of, .func (PySem.W.fnOf "row_of" "row_of" (defArgs s_row_of) (defBody s_row_of) (defScope s_row_of) .none kV_row_of dc_row_of pm_row_of an_row_of cd_row_of ct_row_of), sl_row_of⟩)
    (c_row_of : PySem.W.codeIn K cd_row_of "row_of" = true)
    (k_row_of : PySem.W.keepIn K (.ref f_row_of) = true)
    (at_B_len : PySem.W.findIn K (.ref CB) "__len__" = some (some (.ref f_B_len)))
    (fn_B_len : PySem.W.isFn K (.ref f_B_len) = true)
    (l_B_len : K.lookup f_B_len = some ⟨oc_B_len, od_B_len, .func (PySem.W.fnOf "__len__" "Book.__len__" (defArgs s_Book_len) (defBody s_Book_len) (defScope s_Book_len) .none kV_B_len dc_B_len pm_B_len an_B_len cd_B_len ct_B_len), sl_B_len⟩)
    (c_B_len : PySem.W.codeIn K cd_B_len "Book.__len__" = true)
    (k_B_len : PySem.W.keepIn K (.ref f_B_len) = true)
    (a__law_goes : PySem.W.nsIn K mainGlobals "_law_goes" = some (some (.ref f__law_goes)))
    (l__law_goes : K.lookup f__law_goes = some ⟨oc__law_goes, od__law_goes, .func (PySem.W.fnOf "_law_goes" "_law_goes" (defArgs s__law_goes) (defBody s__law_goes) (defScope s__law_goes) .none kV__law_goes dc__law_goes pm__law_goes an__law_goes cd__law_goes ct__law_goes), sl__law_goes⟩)
    (c__law_goes : PySem.W.codeIn K cd__law_goes "_law_goes" = true)
    (k__law_goes : PySem.W.keepIn K (.ref f__law_goes) = true)
    (a__law_read_line : PySem.W.nsIn K mainGlobals "_law_read_line" = some (some (.ref f__law_read_line)))
    (l__law_read_line : K.lookup f__law_read_line = some ⟨oc__law_read_line, od__law_read_line, .func (PySem.W.fnOf "_law_read_line" "_law_read_line" (defArgs s__law_read_line) (defBody s__law_read_line) (defScope s__law_read_line) .none kV__law_read_line dc__law_read_line pm__law_read_line an__law_read_line cd__law_read_line ct__law_read_line), sl__law_read_line⟩)
    (c__law_read_line : PySem.W.codeIn K cd__law_read_line "_law_read_line" = true)
    (k__law_read_line : PySem.W.keepIn K (.ref f__law_read_line) = true)
    (a__law_text_due : PySem.W.nsIn K mainGlobals "_law_text_due" = some (some (.ref f__law_text_due)))
    (l__law_text_due : K.lookup f__law_text_due = some ⟨oc__law_text_due, od__law_text_due, .func (PySem.W.fnOf "_law_text_due" "_law_text_due" (defArgs s__law_text_due) (defBody s__law_text_due) (defScope s__law_text_due) .none kV__law_text_due dc__law_text_due pm__law_text_due an__law_text_due cd__law_text_due ct__law_text_due), sl__law_text_due⟩)
    (c__law_text_due : PySem.W.codeIn K cd__law_text_due "_law_text_due" = true)
    (k__law_text_due : PySem.W.keepIn K (.ref f__law_text_due) = true)
    (a__law_line_text : PySem.W.nsIn K mainGlobals "_law_line_text" = some (some (.ref f__law_line_text)))
    (l__law_line_text : K.lookup f__law_line_text = some ⟨oc__law_line_text, od__law_line_text, .func (PySem.W.fnOf "_law_line_text" "_law_line_text" (defArgs s__law_line_text) (defBody s__law_line_text) (defScope s__law_line_text) .none kV__law_line_text dc__law_line_text pm__law_line_text an__law_line_text cd__law_line_text ct__law_line_text), sl__law_line_text⟩)
    (c__law_line_text : PySem.W.codeIn K cd__law_line_text "_law_line_text" = true)
    (k__law_line_text : PySem.W.keepIn K (.ref f__law_line_text) = true)
    (a__law_book_text : PySem.W.nsIn K mainGlobals "_law_book_text" = some (some (.ref f__law_book_text)))
    (l__law_book_text : K.lookup f__law_book_text = some ⟨oc__law_book_text, od__law_book_text, .func (PySem.W.fnOf "_law_book_text" "_law_book_text" (defArgs s__law_book_text) (defBody s__law_book_text) (defScope s__law_book_text) .none kV__law_book_text dc__law_book_text pm__law_book_text an__law_book_text cd__law_book_text ct__law_book_text), sl__law_book_text⟩)
    (c__law_book_text : PySem.W.codeIn K cd__law_book_text "_law_book_text" = true)
    (k__law_book_text : PySem.W.keepIn K (.ref f__law_book_text) = true)
    (a__law_part : PySem.W.nsIn K mainGlobals "_law_part" = some (some (.ref f__law_part)))
    (l__law_part : K.lookup f__law_part = some ⟨oc__law_part, od__law_part, .func (PySem.W.fnOf "_law_part" "_law_part" (defArgs s__law_part) (defBody s__law_part) (defScope s__law_part) .none kV__law_part dc__law_part pm__law_part an__law_part cd__law_part ct__law_part), sl__law_part⟩)
    (c__law_part : PySem.W.codeIn K cd__law_part "_law_part" = true)
    (k__law_part : PySem.W.keepIn K (.ref f__law_part) = true)
    (a__law_some_cut : PySem.W.nsIn K mainGlobals "_law_some_cut" = some (some (.ref f__law_some_cut)))
    (l__law_some_cut : K.lookup f__law_some_cut = some ⟨oc__law_some_cut, od__law_some_cut, .func (PySem.W.fnOf "_law_some_cut" "_law_some_cut" (defArgs s__law_some_cut) (defBody s__law_some_cut) (defScope s__law_some_cut) .none kV__law_some_cut dc__law_some_cut pm__law_some_cut an__law_some_cut cd__law_some_cut ct__law_some_cut), sl__law_some_cut⟩)
    (c__law_some_cut : PySem.W.codeIn K cd__law_some_cut "_law_some_cut" = true)
    (k__law_some_cut : PySem.W.keepIn K (.ref f__law_some_cut) = true)
    (a__law_letters : PySem.W.nsIn K mainGlobals "_law_letters" = some (some (.ref f__law_letters)))
    (l__law_letters : K.lookup f__law_letters = some ⟨oc__law_letters, od__law_letters, .func (PySem.W.fnOf "_law_letters" "_law_letters" (defArgs s__law_letters) (defBody s__law_letters) (defScope s__law_letters) .none kV__law_letters dc__law_letters pm__law_letters an__law_letters cd__law_letters ct__law_letters), sl__law_letters⟩)
    (c__law_letters : PySem.W.codeIn K cd__law_letters "_law_letters" = true)
    (k__law_letters : PySem.W.keepIn K (.ref f__law_letters) = true)
    (a__law_some_faces : PySem.W.nsIn K mainGlobals "_law_some_faces" = some (some (.ref f__law_some_faces)))
    (l__law_some_faces : K.lookup f__law_some_faces = some ⟨oc__law_some_faces, od__law_some_faces, .func (PySem.W.fnOf "_law_some_faces" "_law_some_faces" (defArgs s__law_some_faces) (defBody s__law_some_faces) (defScope s__law_some_faces) .none kV__law_some_faces dc__law_some_faces pm__law_some_faces an__law_some_faces cd__law_some_faces ct__law_some_faces), sl__law_some_faces⟩)
    (c__law_some_faces : PySem.W.codeIn K cd__law_some_faces "_law_some_faces" = true)
    (k__law_some_faces : PySem.W.keepIn K (.ref f__law_some_faces) = true)
    (a__law_some_cutters : PySem.W.nsIn K mainGlobals "_law_some_cutters" = some (some (.ref f__law_some_cutters)))
    (l__law_some_cutters : K.lookup f__law_some_cutters = some ⟨oc__law_some_cutters, od__law_some_cutters, .func (PySem.W.fnOf "_law_some_cutters" "_law_some_cutters" (defArgs s__law_some_cutters) (defBody s__law_some_cutters) (defScope s__law_some_cutters) .none kV__law_some_cutters dc__law_some_cutters pm__law_some_cutters an__law_some_cutters cd__law_some_cutters ct__law_some_cutters), sl__law_some_cutters⟩)
    (c__law_some_cutters : PySem.W.codeIn K cd__law_some_cutters "_law_some_cutters" = true)
    (k__law_some_cutters : PySem.W.keepIn K (.ref f__law_some_cutters) = true)
    (a__law_some_line : PySem.W.nsIn K mainGlobals "_law_some_line" = some (some (.ref f__law_some_line)))
    (l__law_some_line : K.lookup f__law_some_line = some ⟨oc__law_some_line, od__law_some_line, .func (PySem.W.fnOf "_law_some_line" "_law_some_line" (defArgs s__law_some_line) (defBody s__law_some_line) (defScope s__law_some_line) .none kV__law_some_line dc__law_some_line pm__law_some_line an__law_some_line cd__law_some_line ct__law_some_line), sl__law_some_line⟩)
    (c__law_some_line : PySem.W.codeIn K cd__law_some_line "_law_some_line" = true)
    (k__law_some_line : PySem.W.keepIn K (.ref f__law_some_line) = true)
    (a__law_some_book : PySem.W.nsIn K mainGlobals "_law_some_book" = some (some (.ref f__law_some_book)))
    (l__law_some_book : K.lookup f__law_some_book = some ⟨oc__law_some_book, od__law_some_book, .func (PySem.W.fnOf "_law_some_book" "_law_some_book" (defArgs s__law_some_book) (defBody s__law_some_book) (defScope s__law_some_book) .none kV__law_some_book dc__law_some_book pm__law_some_book an__law_some_book cd__law_some_book ct__law_some_book), sl__law_some_book⟩)
    (c__law_some_book : PySem.W.codeIn K cd__law_some_book "_law_some_book" = true)
    (k__law_some_book : PySem.W.keepIn K (.ref f__law_some_book) = true)
    (a__law_open : PySem.W.nsIn K mainGlobals "_law_open" = some (some (.ref f__law_open)))
    (l__law_open : K.lookup f__law_open = some ⟨oc__law_open, od__law_open, .func (PySem.W.fnOf "_law_open" "_law_open" (defArgs s__law_open) (defBody s__law_open) (defScope s__law_open) .none kV__law_open dc__law_open pm__law_open an__law_open cd__law_open ct__law_open), sl__law_open⟩)
    (c__law_open : PySem.W.codeIn K cd__law_open "_law_open" = true)
    (k__law_open : PySem.W.keepIn K (.ref f__law_open) = true)
    (a_law : PySem.W.nsIn K mainGlobals "law" = some (some (.ref f_law)))
    (l_law : K.lookup f_law = some ⟨oc_law, od_law, .func (PySem.W.fnOf "law" "law" (defArgs s_law) (defBody s_law) (defScope s_law) .none kV_law dc_law pm_law an_law (.ref c) ct_law), sl_law⟩)
    (c_law : PySem.W.codeIn K (.ref c) "law" = true)
    (y_isinstance : PySem.W.nsIn K mainGlobals "isinstance" = some none)
    (y_str : PySem.W.nsIn K mainGlobals "str" = some none)
    (y_all : PySem.W.nsIn K mainGlobals "all" = some none)
    (y_any : PySem.W.nsIn K mainGlobals "any" = some none)
    (y_len : PySem.W.nsIn K mainGlobals "len" = some none)
    (y_int : PySem.W.nsIn K mainGlobals "int" = some none)
    (y_list : PySem.W.nsIn K mainGlobals "list" = some none)
    (y_abs : PySem.W.nsIn K mainGlobals "abs" = some none)
    (y_bool : PySem.W.nsIn K mainGlobals "bool" = some none)
    (y_tuple : PySem.W.nsIn K mainGlobals "tuple" = some none)
    (y_zip : PySem.W.nsIn K mainGlobals "zip" = some none)
    (y_range : PySem.W.nsIn K mainGlobals "range" = some none)
    (y_enumerate : PySem.W.nsIn K mainGlobals "enumerate" = some none)
    (y_sorted : PySem.W.nsIn K mainGlobals "sorted" = some none)
    (y_dict : PySem.W.nsIn K mainGlobals "dict" = some none)
    (y_set : PySem.W.nsIn K mainGlobals "set" = some none)
    (y_sum : PySem.W.nsIn K mainGlobals "sum" = some none)
    (y_min : PySem.W.nsIn K mainGlobals "min" = some none)
    (y_max : PySem.W.nsIn K mainGlobals "max" = some none)
    (y_reversed : PySem.W.nsIn K mainGlobals "reversed" = some none)
    (y_repr : PySem.W.nsIn K mainGlobals "repr" = some none)
    (y_ord : PySem.W.nsIn K mainGlobals "ord" = some none)
    : ∃ fd : FuncData, (∀ (s : Shared) (v : Value), BindsTo s fd ⟨[v], []⟩ [("_law_script", v)]) ∧ ∀ base : Heap, K.In base → base.Ns mainGlobals mg → LamX.TabB base mg c Pt → FnOk l.prog w K mg base L2.CX0 18 fa fd ["_law_script"] (sp_law K Pt) := by
  have e := hfa.symm.trans (PySem.W.mg_of X G a_law)
  cases e
  have T : Z mg := ⟨PySem.W.mg_none_of X G y_isinstance, PySem.W.mg_none_of X G y_str, PySem.W.mg_none_of X G y_all, PySem.W.mg_none_of X G y_any, PySem.W.mg_none_of X G y_len, PySem.W.mg_none_of X G y_int, PySem.W.mg_none_of X G y_list, PySem.W.mg_none_of X G y_abs, PySem.W.mg_none_of X G y_bool, PySem.W.mg_none_of X G y_tuple, PySem.W.mg_none_of X G y_zip, PySem.W.mg_none_of X G y_range, PySem.W.mg_none_of X G y_enumerate, PySem.W.mg_none_of X G y_sorted, PySem.W.mg_none_of X G y_dict, PySem.W.mg_none_of X G y_set, PySem.W.mg_none_of X G y_sum, PySem.W.mg_none_of X G y_min, PySem.W.mg_none_of X G y_max, PySem.W.mg_none_of X G y_reversed, PySem.W.mg_none_of X G y_repr, PySem.W.mg_none_of X G y_ord⟩
  have gB := PySem.W.mg_of X G B_g
  have BC : BookC K CB := ⟨⟨B_pg, B_hd, B_po, B_sa⟩, B_nf, B_nc, B_nl⟩
  have rC : ClX.CRead K CB (.type "type") := ⟨B_rd, B_sg⟩
  have vM : ClX.CVal K CB (.type "type") "MOST" (.int 8) (.int 8 t8) := ⟨B_most, ⟨t8, rfl⟩⟩
  have hC := BC.c
  have nf := BC.nf
  have nc := BC.nc
  have nl := BC.nl
  have GS : GsK K := ⟨gs1, gs2⟩
  have Fi_InvalidText := fun_mk (st := s_InvalidText_init) elI_InvalidText ecI_InvalidText ekI_InvalidText
  have bI_InvalidText := Fi_InvalidText.binds (ps := ["self", "line"]) fun _ _ _ _ _ _ us hl => match us, hl with | [_, _], _ => rfl
  have Kls_InvalidText : Kls K mg C_InvalidText fI_InvalidText "InvalidText" := ⟨PySem.W.mg_of X G eg_InvalidText, ⟨⟨_, _, _, _, _, _, _, _, _, _, _, _, _, _, _, el_InvalidText, eb_InvalidText⟩, esa_InvalidText, ex_InvalidText, ety_InvalidText, ek_InvalidText⟩, ⟨ecl_InvalidText, ega_InvalidText, egg_InvalidText, ex_InvalidText, efc_InvalidText, eob_InvalidText⟩, ⟨⟨_, tk_InvalidText, el_InvalidText, rfl⟩, ety_InvalidText, erd_InvalidText, efdn_InvalidText⟩, ⟨ega_InvalidText, egg_InvalidText, ex_InvalidText, ehd_InvalidText⟩, enc_InvalidText, eini_InvalidText, etI_InvalidText⟩
  have nf_InvalidText := enf_InvalidText
  have g_C1 := PySem.W.mg_of X G e_C1
  have g_C2 := PySem.W.mg_of X G e_C2
  have g_C3 := PySem.W.mg_of X G e_C3
  have Err_InvalidText : ErrF K mg C_InvalidText "line" "InvalidText" [.ref C1, .ref C2, .ref C3] := ⟨⟨_, Kls_InvalidText⟩, nf_InvalidText, hx_InvalidText, fun v => fi_line (z := Str.ofString "InvalidText") (by decide +kernel) nf_InvalidText v⟩
  have F__law_tries := fun_mk (st := s__law_tries) l__law_tries c__law_tries k__law_tries
  have b__law_tries := F__law_tries.binds (ps := ["_law_asks"]) fun _ _ _ _ _ _ us hl => match us, hl with | [_], _ => rfl
  have m__law_tries := PySem.W.mg_of X G a__law_tries
  have F__law_try := fun_mk (st := s__law_try) l__law_try c__law_try k__law_try
  have b__law_try := F__law_try.binds (ps := ["_law_ask"]) fun _ _ _ _ _ _ us hl => match us, hl with | [_], _ => rfl
  have m__law_try := PySem.W.mg_of X G a__law_try
  have F__law_field := fun_mk (st := s__law_field) l__law_field c__law_field k__law_field
  have b__law_field := F__law_field.binds (ps := ["_law_e"]) fun _ _ _ _ _ _ us hl => match us, hl with | [_], _ => rfl
  have m__law_field := PySem.W.mg_of X G a__law_field
  have F__law_same := fun_mk (st := s__law_same) l__law_same c__law_same k__law_same
  have b__law_same := F__law_same.binds (ps := ["_law_found", "_law_due"]) fun _ _ _ _ _ _ us hl => match us, hl with | [_, _], _ => rfl
  have m__law_same := PySem.W.mg_of X G a__law_same
  have F_B_read := fun_mk (st := s_Book_read) l_B_read c_B_read k_B_read
  have b_B_read := F_B_read.binds (ps := ["text"]) fun _ _ _ _ _ _ us hl => match us, hl with | [_], _ => rfl
  have SR : Sta K CB "read" f_B_read := ⟨B_rd, ⟨_, _, S_fd, S_rc⟩, B_sg, k_B_read⟩
  have bR := b_B_read
  have F_Bi := fun_mk (st := s_Book_init) l_Bi c_Bi k_Bi
  have M : Mk K CB f_Bi := ⟨B_mk, B_init, B_ifn, B_kp⟩
  have g__LOWER := PySem.W.mg_of X G z__LOWER
  have g__MOST_FACES := PySem.W.mg_of X G z__MOST_FACES
  have F_is_string := fun_mk (st := s_is_string) l_is_string c_is_string k_is_string
  have b_is_string := F_is_string.binds (ps := ["value", "faces"]) fun _ _ _ _ _ _ us hl => match us, hl with | [_, _], _ => rfl
  have m_is_string := PySem.W.mg_of X G a_is_string
  have F_is_ascending := fun_mk (st := s_is_ascending) l_is_ascending c_is_ascending k_is_ascending
  have b_is_ascending := F_is_ascending.binds (ps := ["text"]) fun _ _ _ _ _ _ us hl => match us, hl with | [_], _ => rfl
  have m_is_ascending := PySem.W.mg_of X G a_is_ascending
  have F_is_choice := fun_mk (st := s_is_choice) l_is_choice c_is_choice k_is_choice
  have b_is_choice := F_is_choice.binds (ps := ["value", "letters", "most"]) fun _ _ _ _ _ _ us hl => match us, hl with | [_, _, _], _ => rfl
  have m_is_choice := PySem.W.mg_of X G a_is_choice
  have F_is_faces := fun_mk (st := s_is_faces) l_is_faces c_is_faces k_is_faces
  have b_is_faces := F_is_faces.binds (ps := ["value"]) fun _ _ _ _ _ _ us hl => match us, hl with | [_], _ => rfl
  have m_is_faces := PySem.W.mg_of X G a_is_faces
  have g__UPPER := PySem.W.mg_of X G z__UPPER
  have g__MOST_CUTTERS := PySem.W.mg_of X G z__MOST_CUTTERS
  have F_is_cutters := fun_mk (st := s_is_cutters) l_is_cutters c_is_cutters k_is_cutters
  have b_is_cutters := F_is_cutters.binds (ps := ["value"]) fun _ _ _ _ _ _ us hl => match us, hl with | [_], _ => rfl
  have m_is_cutters := PySem.W.mg_of X G a_is_cutters
  have F_is_letter := fun_mk (st := s_is_letter) l_is_letter c_is_letter k_is_letter
  have b_is_letter := F_is_letter.binds (ps := ["value", "letters"]) fun _ _ _ _ _ _ us hl => match us, hl with | [_, _], _ => rfl
  have m_is_letter := PySem.W.mg_of X G a_is_letter
  have F_is_part := fun_mk (st := s_is_part) l_is_part c_is_part k_is_part
  have b_is_part := F_is_part.binds (ps := ["value", "letters"]) fun _ _ _ _ _ _ us hl => match us, hl with | [_, _], _ => rfl
  have m_is_part := PySem.W.mg_of X G a_is_part
  have F_is_cut := fun_mk (st := s_is_cut) l_is_cut c_is_cut k_is_cut
  have b_is_cut := F_is_cut.binds (ps := ["value", "faces"]) fun _ _ _ _ _ _ us hl => match us, hl with | [_, _], _ => rfl
  have m_is_cut := PySem.W.mg_of X G a_is_cut
  have F_is_line := fun_mk (st := s_is_line) l_is_line c_is_line k_is_line
  have b_is_line := F_is_line.binds (ps := ["value", "faces", "cutters"]) fun _ _ _ _ _ _ us hl => match us, hl with | [_, _, _], _ => rfl
  have m_is_line := PySem.W.mg_of X G a_is_line
  have F_head_of := fun_mk (st := s_head_of) l_head_of c_head_of k_head_of
  have b_head_of := F_head_of.binds (ps := ["row"]) fun _ _ _ _ _ _ us hl => match us, hl with | [_], _ => rfl
  have m_head_of := PySem.W.mg_of X G a_head_of
  have F_line_of := fun_mk (st := s_line_of) l_line_of c_line_of k_line_of
  have b_line_of := F_line_of.binds (ps := ["row", "faces", "cutters"]) fun _ _ _ _ _ _ us hl => match us, hl with | [_, _, _], _ => rfl
  have m_line_of := PySem.W.mg_of X G a_line_of
  have F__law_draw := fun_mk (st := s__law_draw) l__law_draw c__law_draw k__law_draw
  have b__law_draw := F__law_draw.binds (ps := ["_law_bag", "_law_many"]) fun _ _ _ _ _ _ us hl => match us, hl with | [_, _], _ => rfl
  have m__law_draw := PySem.W.mg_of X G a__law_draw
  have F__law_of := fun_mk (st := s__law_of) l__law_of c__law_of k__law_of
  have b__law_of := F__law_of.binds (ps := ["_law_bag", "_law_things"]) fun _ _ _ _ _ _ us hl => match us, hl with | [_, _], _ => rfl
  have m__law_of := PySem.W.mg_of X G a__law_of
  have F_B_text := fun_mk (st := s_Book_text) l_B_text c_B_text k_B_text
  have b_B_text := F_B_text.binds (ps := ["self"]) fun _ _ _ _ _ _ us hl => match us, hl with | [_], _ => rfl
  have mt_B_text : Meth K CB "text" f_B_text := ⟨at_B_text, fn_B_text, k_B_text⟩
  have F_row_of := fun_mk (st := s_row_of) l_row_of c_row_of k_row_of
  have b_row_of := F_row_of.binds (ps := ["line"]) fun _ _ _ _ _ _ us hl => match us, hl with | [_], _ => rfl
  have m_row_of := PySem.W.mg_of X G a_row_of
  have F_B_len := fun_mk (st := s_Book_len) l_B_len c_B_len k_B_len
  have b_B_len := F_B_len.binds (ps := ["self"]) fun _ _ _ _ _ _ us hl => match us, hl with | [_], _ => rfl
  have hLn := at_B_len
  have hLf := fn_B_len
  have F__law_goes := fun_mk (st := s__law_goes) l__law_goes c__law_goes k__law_goes
  have b__law_goes := F__law_goes.binds (ps := ["_law_word", "_law_letters_here"]) fun _ _ _ _ _ _ us hl => match us, hl with | [_, _], _ => rfl
  have m__law_goes := PySem.W.mg_of X G a__law_goes
  have F__law_read_line := fun_mk (st := s__law_read_line) l__law_read_line c__law_read_line k__law_read_line
  have b__law_read_line := F__law_read_line.binds (ps := ["_law_row", "_law_spec"]) fun _ _ _ _ _ _ us hl => match us, hl with | [_, _], _ => rfl
  have m__law_read_line := PySem.W.mg_of X G a__law_read_line
  have F__law_text_due := fun_mk (st := s__law_text_due) l__law_text_due c__law_text_due k__law_text_due
  have b__law_text_due := F__law_text_due.binds (ps := ["_law_text"]) fun _ _ _ _ _ _ us hl => match us, hl with | [_], _ => rfl
  have m__law_text_due := PySem.W.mg_of X G a__law_text_due
  have F__law_line_text := fun_mk (st := s__law_line_text) l__law_line_text c__law_line_text k__law_line_text
  have b__law_line_text := F__law_line_text.binds (ps := ["_law_line"]) fun _ _ _ _ _ _ us hl => match us, hl with | [_], _ => rfl
  have m__law_line_text := PySem.W.mg_of X G a__law_line_text
  have F__law_book_text := fun_mk (st := s__law_book_text) l__law_book_text c__law_book_text k__law_book_text
  have b__law_book_text := F__law_book_text.binds (ps := ["_law_spec"]) fun _ _ _ _ _ _ us hl => match us, hl with | [_], _ => rfl
  have m__law_book_text := PySem.W.mg_of X G a__law_book_text
  have F__law_part := fun_mk (st := s__law_part) l__law_part c__law_part k__law_part
  have b__law_part := F__law_part.binds (ps := ["_law_bag", "_law_letters_here"]) fun _ _ _ _ _ _ us hl => match us, hl with | [_, _], _ => rfl
  have m__law_part := PySem.W.mg_of X G a__law_part
  have F__law_some_cut := fun_mk (st := s__law_some_cut) l__law_some_cut c__law_some_cut k__law_some_cut
  have b__law_some_cut := F__law_some_cut.binds (ps := ["_law_bag", "_law_faces"]) fun _ _ _ _ _ _ us hl => match us, hl with | [_, _], _ => rfl
  have m__law_some_cut := PySem.W.mg_of X G a__law_some_cut
  have F__law_letters := fun_mk (st := s__law_letters) l__law_letters c__law_letters k__law_letters
  have b__law_letters := F__law_letters.binds (ps := ["_law_bag", "_law_letters_here", "_law_many"]) fun _ _ _ _ _ _ us hl => match us, hl with | [_, _, _], _ => rfl
  have m__law_letters := PySem.W.mg_of X G a__law_letters
  have F__law_some_faces := fun_mk (st := s__law_some_faces) l__law_some_faces c__law_some_faces k__law_some_faces
  have b__law_some_faces := F__law_some_faces.binds (ps := ["_law_bag", "_law_most"]) fun _ _ _ _ _ _ us hl => match us, hl with | [_, _], _ => rfl
  have m__law_some_faces := PySem.W.mg_of X G a__law_some_faces
  have F__law_some_cutters := fun_mk (st := s__law_some_cutters) l__law_some_cutters c__law_some_cutters k__law_some_cutters
  have b__law_some_cutters := F__law_some_cutters.binds (ps := ["_law_bag", "_law_most"]) fun _ _ _ _ _ _ us hl => match us, hl with | [_, _], _ => rfl
  have m__law_some_cutters := PySem.W.mg_of X G a__law_some_cutters
  have F__law_some_line := fun_mk (st := s__law_some_line) l__law_some_line c__law_some_line k__law_some_line
  have b__law_some_line := F__law_some_line.binds (ps := ["_law_bag", "_law_faces", "_law_cutters"]) fun _ _ _ _ _ _ us hl => match us, hl with | [_, _, _], _ => rfl
  have m__law_some_line := PySem.W.mg_of X G a__law_some_line
  have F__law_some_book := fun_mk (st := s__law_some_book) l__law_some_book c__law_some_book k__law_some_book
  have b__law_some_book := F__law_some_book.binds (ps := ["_law_bag", "_law_sizes"]) fun _ _ _ _ _ _ us hl => match us, hl with | [_, _], _ => rfl
  have m__law_some_book := PySem.W.mg_of X G a__law_some_book
  have F__law_open := fun_mk (st := s__law_open) l__law_open c__law_open k__law_open
  have b__law_open := F__law_open.binds (ps := ["_law_script"]) fun _ _ _ _ _ _ us hl => match us, hl with | [_], _ => rfl
  have m__law_open := PySem.W.mg_of X G a__law_open
  refine ⟨PySem.W.fnOf "law" "law" (defArgs s_law) (defBody s_law) (defScope s_law) .none kV_law dc_law pm_law an_law (.ref c) ct_law, fun s v => .of_eq rfl, fun base _ _ TB => ?_⟩
  have FI_InvalidText := ok_InvalidText_init (P := l.prog) (w := w) (mg := mg) (base := base) Fi_InvalidText GS
  have g0 : Cal l.prog w K mg base CX0 1 "_law_same" s__law_same ["_law_found", "_law_due"] (fun _ _ _ _ => False) := ⟨_, _, nk_false, m__law_same, F__law_same, b__law_same⟩
  have g1 : Cal l.prog w K mg base CX0 2 "_law_same" s__law_same ["_law_found", "_law_due"] (sp__law_same K 0) := ⟨_, _, ok__law_same_step (n := 0) F__law_same T g0 (fun m _ _ _ _ e => absurd e (Nat.succ_ne_zero m).symm), m__law_same, F__law_same, b__law_same⟩
  have g2 : Cal l.prog w K mg base CX0 3 "_law_same" s__law_same ["_law_found", "_law_due"] (sp__law_same K 1) := ⟨_, _, ok__law_same_step (n := 1) F__law_same T g1 (fun m _ _ _ _ e h => by cases e; exact h), m__law_same, F__law_same, b__law_same⟩
  have g3 : Cal l.prog w K mg base CX0 4 "_law_same" s__law_same ["_law_found", "_law_due"] (sp__law_same K 2) := ⟨_, _, ok__law_same_step (n := 2) F__law_same T g2 (fun m _ _ _ _ e h => by cases e; exact h), m__law_same, F__law_same, b__law_same⟩
  have c__law_same : Cal l.prog w K mg base CX0 5 "_law_same" s__law_same ["_law_found", "_law_due"] (sp__law_same K 3) := ⟨_, _, ok__law_same_step (n := 3) F__law_same T g3 (fun m _ _ _ _ e h => by cases e; exact h), m__law_same, F__law_same, b__law_same⟩
  have c_is_string : Cal l.prog w K mg base CX0 1 "is_string" s_is_string _ _ := ⟨_, _, ok_is_string F_is_string T, m_is_string, F_is_string, b_is_string⟩
  have c_is_ascending : Cal l.prog w K mg base CX0 1 "is_ascending" s_is_ascending _ _ := ⟨_, _, ok_is_ascending F_is_ascending T, m_is_ascending, F_is_ascending, b_is_ascending⟩
  have c_is_choice : Cal l.prog w K mg base CX0 2 "is_choice" s_is_choice _ _ := ⟨_, _, ok_is_choice F_is_choice T c_is_string c_is_ascending, m_is_choice, F_is_choice, b_is_choice⟩
  have c_is_faces : Cal l.prog w K mg base CX0 3 "is_faces" s_is_faces _ _ := ⟨_, _, ok_is_faces F_is_faces g__LOWER g__MOST_FACES c_is_choice, m_is_faces, F_is_faces, b_is_faces⟩
  have c_is_cutters : Cal l.prog w K mg base CX0 3 "is_cutters" s_is_cutters _ _ := ⟨_, _, ok_is_cutters F_is_cutters g__UPPER g__MOST_CUTTERS c_is_choice, m_is_cutters, F_is_cutters, b_is_cutters⟩
  have c_is_letter : Cal l.prog w K mg base CX0 1 "is_letter" s_is_letter _ _ := ⟨_, _, ok_is_letter F_is_letter T, m_is_letter, F_is_letter, b_is_letter⟩
  have c_is_part : Cal l.prog w K mg base CX0 3 "is_part" s_is_part _ _ := ⟨_, _, ok_is_part F_is_part T c_is_letter c_is_choice, m_is_part, F_is_part, b_is_part⟩
  have c_is_cut : Cal l.prog w K mg base CX0 2 "is_cut" s_is_cut _ _ := ⟨_, _, ok_is_cut F_is_cut T c_is_string, m_is_cut, F_is_cut, b_is_cut⟩
  have c_is_line : Cal l.prog w K mg base CX0 4 "is_line" s_is_line _ _ := ⟨_, _, ok_is_line F_is_line T c_is_part c_is_cut, m_is_line, F_is_line, b_is_line⟩
  have FB := fn_Book_init (P := l.prog) (w := w) (mg := mg) (base := base) F_Bi T gB rC vM c_is_faces c_is_cutters c_is_line
  have cx_head_of : Cal l.prog w K mg base CX0 4 "head_of" s_head_of _ _ := ⟨_, _, okx_head_of F_head_of T c_is_faces c_is_cutters, m_head_of, F_head_of, b_head_of⟩
  have cx_line_of : Cal l.prog w K mg base CX0 5 "line_of" s_line_of _ _ := ⟨_, _, okx_line_of F_line_of T c_is_line, m_line_of, F_line_of, b_line_of⟩
  have FRX := okx_Book_read (P := l.prog) (w := w) (mg := mg) (base := base) F_B_read T gB rC vM M hC nf nc nl Kls_InvalidText nf_InvalidText FI_InvalidText bI_InvalidText FB cx_head_of cx_line_of
  have FFW := ok__law_field (P := l.prog) (w := w) (mg := mg) (base := base) F__law_field
  have c__law_draw : Cal l.prog w K mg base CX0 1 "_law_draw" s__law_draw _ _ := ⟨_, _, ok__law_draw F__law_draw T, m__law_draw, F__law_draw, b__law_draw⟩
  have c__law_of : Cal l.prog w K mg base CX0 2 "_law_of" s__law_of _ _ := ⟨_, _, ok__law_of F__law_of T c__law_draw, m__law_of, F__law_of, b__law_of⟩
  have c_row_of : Cal l.prog w K mg base CX0 1 "row_of" s_row_of _ _ := ⟨_, _, ok_row_of F_row_of, m_row_of, F_row_of, b_row_of⟩
  have ok_B_text := ok_Book_text (P := l.prog) (w := w) (mg := mg) (base := base) F_B_text BC c_row_of
  have cm_B_text : MCal l.prog w K mg base CX0 CB 2 "text" _ _ := ⟨_, _, mt_B_text, ok_B_text, b_B_text⟩
  have c_text := cm_B_text
  have FL : FnR l.prog w K mg base CX0 1 f_B_len (sp_Book_len K CB) := ((ok_Book_len (P := l.prog) (w := w) (mg := mg) (base := base) F_B_len T BC).raw b_B_len .nil).imp fun vs H Q E h => by rw [List.append_nil]; exact h
  have c__law_goes : Cal l.prog w K mg base CX0 1 "_law_goes" s__law_goes _ _ := ⟨_, _, ok__law_goes F__law_goes T, m__law_goes, F__law_goes, b__law_goes⟩
  have c__law_read_line : Cal l.prog w K mg base CX0 2 "_law_read_line" s__law_read_line _ _ := ⟨_, _, ok__law_read_line F__law_read_line T c__law_goes, m__law_read_line, F__law_read_line, b__law_read_line⟩
  have c__law_text_due : Cal l.prog w K mg base CX0 3 "_law_text_due" s__law_text_due _ _ := ⟨_, _, ok__law_text_due F__law_text_due T c__law_goes c__law_read_line, m__law_text_due, F__law_text_due, b__law_text_due⟩
  have c__law_line_text : Cal l.prog w K mg base CX0 1 "_law_line_text" s__law_line_text _ _ := ⟨_, _, ok__law_line_text F__law_line_text T, m__law_line_text, F__law_line_text, b__law_line_text⟩
  have c__law_book_text : Cal l.prog w K mg base CX0 2 "_law_book_text" s__law_book_text _ _ := ⟨_, _, ok__law_book_text F__law_book_text T c__law_line_text, m__law_book_text, F__law_book_text, b__law_book_text⟩
  have c__law_part : Cal l.prog w K mg base CX0 2 "_law_part" s__law_part _ _ := ⟨_, _, ok__law_part F__law_part T c__law_draw, m__law_part, F__law_part, b__law_part⟩
  have c__law_some_cut : Cal l.prog w K mg base CX0 3 "_law_some_cut" s__law_some_cut _ _ := ⟨_, _, ok__law_some_cut F__law_some_cut c__law_of, m__law_some_cut, F__law_some_cut, b__law_some_cut⟩
  have c__law_letters : Cal l.prog w K mg base CX0 2 "_law_letters" s__law_letters _ _ := ⟨_, _, ok__law_letters F__law_letters T c__law_draw, m__law_letters, F__law_letters, b__law_letters⟩
  have c__law_some_faces : Cal l.prog w K mg base CX0 3 "_law_some_faces" s__law_some_faces _ _ := ⟨_, _, ok__law_some_faces F__law_some_faces T c__law_draw c__law_letters, m__law_some_faces, F__law_some_faces, b__law_some_faces⟩
  have c__law_some_cutters : Cal l.prog w K mg base CX0 3 "_law_some_cutters" s__law_some_cutters _ _ := ⟨_, _, ok__law_some_cutters F__law_some_cutters T c__law_draw c__law_letters, m__law_some_cutters, F__law_some_cutters, b__law_some_cutters⟩
  have c__law_some_line : Cal l.prog w K mg base CX0 4 "_law_some_line" s__law_some_line _ _ := ⟨_, _, ok__law_some_line F__law_some_line T c__law_draw c__law_part c__law_some_cut, m__law_some_line, F__law_some_line, b__law_some_line⟩
  have c__law_some_book : Cal l.prog w K mg base CX0 5 "_law_some_book" s__law_some_book _ _ := ⟨_, _, ok__law_some_book F__law_some_book T c__law_draw c__law_part c__law_some_cut c__law_some_faces c__law_some_cutters c__law_some_line, m__law_some_book, F__law_some_book, b__law_some_book⟩
  have c__law_open : Cal l.prog w K mg base CX0 1 "_law_open" s__law_open _ _ := ⟨_, _, ok__law_open F__law_open T, m__law_open, F__law_open, b__law_open⟩
  exact ok_law T l_law c_law TB gB BC Err_InvalidText m__law_tries k__law_tries b__law_tries (fun b2 m sub sz => ok__law_tries (P := l.prog) (w := w) (base := b2) (k := 11) F__law_tries m sub sz F__law_try m__law_try b__law_try (ok__law_field (P := l.prog) (w := w) (mg := mg) (base := b2) F__law_field) m__law_field k__law_field b__law_field g_C1 g_C2 g_C3) c__law_same SR FRX bR m__law_try k__law_try l__law_try c__law_try b__law_try FFW m__law_field k__law_field b__law_field g_C1 g_C2 g_C3 c__law_of cm_B_text hLn hLf FL c__law_text_due c__law_draw c__law_book_text c__law_some_book c__law_open
end FW
open PySem PySem.W PyProof.Rows
set_option maxHeartbeats 0 in
theorem PySem.Challenge.cw_fourwalls_k10_texts_of_books_refused_holds : PySem.Challenge.rw_fourwalls_k10_texts_of_books_refused.Holds := by
  w_on; o_law
  refine FW.head_kmJ0 (r := FW.hR) (q := FW.hq) (K := FW.hk0.heap_1) (as := FW.has) (ts := FW.hts) (e := FW.hasE) (M := 20000) (loose := FW.hnames) (d := HandSHeadRun.topDef FW.hR.prog 52) (kwd := []) _ rfl (by kernel_rfl) (fun s => by kernel_rfl) FW.hRA FW.hRB FW.hRC (by kernel_rfl) (by kernel_rfl) (by kernel_rfl) (by rfl) (by first | assumption | decide +kernel) (by decide +kernel) ⟨rfl, rfl, rfl, rfl, rfl, by decide +kernel⟩ ?hw ?hc
  case hw => w_witness2
  k_fill
  refine' FW.walk_tab (l := PySem.Challenge.rw_fourwalls_k10_texts_of_books_refused) (n := 63) (k := 18) (x := "_law_script") (sp := FW.sp_law) rfl (by decide) (by kernel_rfl) ⟨rfl, by decide, by decide⟩ (fun w h Y => PySem.W.km_in_of Y) (fun w h Y => PySem.W.km_tabs_of Y _ List.mem_cons_self) ?hnP ?F ?hcode ?hsp
  case hsp => exact fun pr H a ns hl hP hS => ⟨a, ns, rfl, hS, hl, hP, fun _ => rfl⟩
  case hnP => exact fun pr => by kernel_rfl
  case F =>
    intro w mg fa h KX G hmg0
    have hmg : mg ("law" : PySem.Str) = some (.ref fa) := by
      have e : (HandSHeadRun.topDef FW.hR.prog 52).name = ("law" : PySem.Str) := by kernel_rfl
      rw [← e]
      exact hmg0
    refine' FW.all_mk KX G hmg ?B_g ?B_pg ?B_hd ?B_po ?B_sa ?B_nf ?B_nc ?B_nl ?B_mk ?B_kp ?B_rd ?B_sg ?B_most ?gs1 ?gs2 ?eg_InvalidText ?el_InvalidText ?eb_InvalidText ?esa_InvalidText ?ex_InvalidText ?ety_InvalidText ?ek_InvalidText ?ecl_InvalidText ?ega_InvalidText ?egg_InvalidText ?efc_InvalidText ?eob_InvalidText ?ehd_InvalidText ?enc_InvalidText ?enf_InvalidText ?eini_InvalidText ?etI_InvalidText ?elI_InvalidText ?ecI_InvalidText ?ekI_InvalidText ?erd_InvalidText ?efdn_InvalidText ?e_C1 ?e_C2 ?e_C3 ?hx_InvalidText ?a__law_tries ?l__law_tries ?c__law_tries ?k__law_tries ?a__law_try ?l__law_try ?c__law_try ?k__law_try ?a__law_field ?l__law_field ?c__law_field ?k__law_field ?a__law_same ?l__law_same ?c__law_same ?k__law_same ?S_fd ?S_rc ?l_B_read ?c_B_read ?k_B_read ?B_init ?B_ifn ?l_Bi ?c_Bi ?k_Bi ?z__LOWER ?z__MOST_FACES ?a_is_string ?l_is_string ?c_is_string ?k_is_string ?a_is_ascending ?l_is_ascending ?c_is_ascending ?k_is_ascending ?a_is_choice ?l_is_choice ?c_is_choice ?k_is_choice ?a_is_faces ?l_is_faces ?c_is_faces ?k_is_faces ?z__UPPER ?z__MOST_CUTTERS ?a_is_cutters ?l_is_cutters ?c_is_cutters ?k_is_cutters ?a_is_letter ?l_is_letter ?c_is_letter ?k_is_letter ?a_is_part ?l_is_part ?c_is_part ?k_is_part ?a_is_cut ?l_is_cut ?c_is_cut ?k_is_cut ?a_is_line ?l_is_line ?c_is_line ?k_is_line ?a_head_of ?l_head_of ?c_head_of ?k_head_of ?a_line_of ?l_line_of ?c_line_of ?k_line_of ?a__law_draw ?l__law_draw ?c__law_draw ?k__law_draw ?a__law_of ?l__law_of ?c__law_of ?k__law_of ?at_B_text ?fn_B_text ?l_B_text ?c_B_text ?k_B_text ?a_row_of ?l_row_of ?c_row_of ?k_row_of ?at_B_len ?fn_B_len ?l_B_len ?c_B_len ?k_B_len ?a__law_goes ?l__law_goes ?c__law_goes ?k__law_goes ?a__law_read_line ?l__law_read_line ?c__law_read_line ?k__law_read_line ?a__law_text_due ?l__law_text_due ?c__law_text_due ?k__law_text_due ?a__law_line_text ?l__law_line_text ?c__law_line_text ?k__law_line_text ?a__law_book_text ?l__law_book_text ?c__law_book_text ?k__law_book_text ?a__law_part ?l__law_part ?c__law_part ?k__law_part ?a__law_some_cut ?l__law_some_cut ?c__law_some_cut ?k__law_some_cut ?a__law_letters ?l__law_letters ?c__law_letters ?k__law_letters ?a__law_some_faces ?l__law_some_faces ?c__law_some_faces ?k__law_some_faces ?a__law_some_cutters ?l__law_some_cutters ?c__law_some_cutters ?k__law_some_cutters ?a__law_some_line ?l__law_some_line ?c__law_some_line ?k__law_some_line ?a__law_some_book ?l__law_some_book ?c__law_some_book ?k__law_some_book ?a__law_open ?l__law_open ?c__law_open ?k__law_open ?a_law ?l_law ?c_law ?y_isinstance ?y_str ?y_all ?y_any ?y_len ?y_int ?y_list ?y_abs ?y_bool ?y_tuple ?y_zip ?y_range ?y_enumerate ?y_sorted ?y_dict ?y_set ?y_sum ?y_min ?y_max ?y_reversed ?y_repr ?y_ord
    case B_g => first | k_is | kernel_rfl
    case B_pg => first | k_is | kernel_rfl
    case B_hd => first | k_is | kernel_rfl
    case B_po => first | k_is | kernel_rfl
    case B_sa => first | k_is | kernel_rfl
    case B_nf => first | k_is | kernel_rfl
    case B_nc => first | k_is | kernel_rfl
    case B_nl => first | k_is | kernel_rfl
    case B_mk => first | k_is | kernel_rfl
    case B_kp => first | k_is | kernel_rfl
    case B_rd => first | k_is | kernel_rfl
    case B_sg => first | k_is | kernel_rfl
    case B_most => first | k_is | kernel_rfl
    case gs1 => first | k_is | kernel_rfl
    case gs2 => first | k_is | kernel_rfl
    case eg_InvalidText => first | k_is | kernel_rfl
    case el_InvalidText => first | k_is | kernel_rfl
    case eb_InvalidText => first | k_is | kernel_rfl
    case esa_InvalidText => first | k_is | kernel_rfl
    case ex_InvalidText => first | k_is | kernel_rfl
    case ety_InvalidText => first | k_is | kernel_rfl
    case ek_InvalidText => first | k_is | kernel_rfl
    case ecl_InvalidText => first | k_is | kernel_rfl
    case ega_InvalidText => first | k_is | kernel_rfl
    case egg_InvalidText => first | k_is | kernel_rfl
    case efc_InvalidText => first | k_is | kernel_rfl
    case eob_InvalidText => first | k_is | kernel_rfl
    case ehd_InvalidText => first | k_is | kernel_rfl
    case enc_InvalidText => first | k_is | kernel_rfl
    case enf_InvalidText => first | k_is | kernel_rfl
    case eini_InvalidText => first | k_is | kernel_rfl
    case etI_InvalidText => first | k_is | kernel_rfl
    case elI_InvalidText => first | k_is | kernel_rfl
    case ecI_InvalidText => first | k_is | kernel_rfl
    case ekI_InvalidText => first | k_is | kernel_rfl
    case erd_InvalidText => first | k_is | kernel_rfl
    case efdn_InvalidText => first | k_is | kernel_rfl
    case e_C1 => first | k_is | kernel_rfl
    case e_C2 => first | k_is | kernel_rfl
    case e_C3 => first | k_is | kernel_rfl
    case hx_InvalidText => first | k_is | kernel_rfl
    case a__law_tries => first | k_is | kernel_rfl
    case l__law_tries => first | k_is | kernel_rfl
    case c__law_tries => first | k_is | kernel_rfl
    case k__law_tries => first | k_is | kernel_rfl
    case a__law_try => first | k_is | kernel_rfl
    case l__law_try => first | k_is | kernel_rfl
    case c__law_try => first | k_is | kernel_rfl
    case k__law_try => first | k_is | kernel_rfl
    case a__law_field => first | k_is | kernel_rfl
    case l__law_field => first | k_is | kernel_rfl
    case c__law_field => first | k_is | kernel_rfl
    case k__law_field => first | k_is | kernel_rfl
    case a__law_same => first | k_is | kernel_rfl
    case l__law_same => first | k_is | kernel_rfl
    case c__law_same => first | k_is | kernel_rfl
    case k__law_same => first | k_is | kernel_rfl
    case S_fd => first | k_is | kernel_rfl
    case S_rc => first | k_is | kernel_rfl
    case l_B_read => first | k_is | kernel_rfl
    case c_B_read => first | k_is | kernel_rfl
    case k_B_read => first | k_is | kernel_rfl
    case B_init => first | k_is | kernel_rfl
    case B_ifn => first | k_is | kernel_rfl
    case l_Bi => first | k_is | kernel_rfl
    case c_Bi => first | k_is | kernel_rfl
    case k_Bi => first | k_is | kernel_rfl
    case z__LOWER => first | k_is | kernel_rfl
    case z__MOST_FACES => first | k_is | kernel_rfl
    case a_is_string => first | k_is | kernel_rfl
    case l_is_string => first | k_is | kernel_rfl
    case c_is_string => first | k_is | kernel_rfl
    case k_is_string => first | k_is | kernel_rfl
    case a_is_ascending => first | k_is | kernel_rfl
    case l_is_ascending => first | k_is | kernel_rfl
    case c_is_ascending => first | k_is | kernel_rfl
    case k_is_ascending => first | k_is | kernel_rfl
    case a_is_choice => first | k_is | kernel_rfl
    case l_is_choice => first | k_is | kernel_rfl
    case c_is_choice => first | k_is | kernel_rfl
    case k_is_choice => first | k_is | kernel_rfl
    case a_is_faces => first | k_is | kernel_rfl
    case l_is_faces => first | k_is | kernel_rfl
    case c_is_faces => first | k_is | kernel_rfl
    case k_is_faces => first | k_is | kernel_rfl
    case z__UPPER => first | k_is | kernel_rfl
    case z__MOST_CUTTERS => first | k_is | kernel_rfl
    case a_is_cutters => first | k_is | kernel_rfl
    case l_is_cutters => first | k_is | kernel_rfl
    case c_is_cutters => first | k_is | kernel_rfl
    case k_is_cutters => first | k_is | kernel_rfl
    case a_is_letter => first | k_is | kernel_rfl
    case l_is_letter => first | k_is | kernel_rfl
    case c_is_letter => first | k_is | kernel_rfl
    case k_is_letter => first | k_is | kernel_rfl
    case a_is_part => first | k_is | kernel_rfl
    case l_is_part => first | k_is | kernel_rfl
    case c_is_part => first | k_is | kernel_rfl
    case k_is_part => first | k_is | kernel_rfl
    case a_is_cut => first | k_is | kernel_rfl
    case l_is_cut => first | k_is | kernel_rfl
    case c_is_cut => first | k_is | kernel_rfl
    case k_is_cut => first | k_is | kernel_rfl
    case a_is_line => first | k_is | kernel_rfl
    case l_is_line => first | k_is | kernel_rfl
    case c_is_line => first | k_is | kernel_rfl
    case k_is_line => first | k_is | kernel_rfl
    case a_head_of => first | k_is | kernel_rfl
    case l_head_of => first | k_is | kernel_rfl
    case c_head_of => first | k_is | kernel_rfl
    case k_head_of => first | k_is | kernel_rfl
    case a_line_of => first | k_is | kernel_rfl
    case l_line_of => first | k_is | kernel_rfl
    case c_line_of => first | k_is | kernel_rfl
    case k_line_of => first | k_is | kernel_rfl
    case a__law_draw => first | k_is | kernel_rfl
    case l__law_draw => first | k_is | kernel_rfl
    case c__law_draw => first | k_is | kernel_rfl
    case k__law_draw => first | k_is | kernel_rfl
    case a__law_of => first | k_is | kernel_rfl
    case l__law_of => first | k_is | kernel_rfl
    case c__law_of => first | k_is | kernel_rfl
    case k__law_of => first | k_is | kernel_rfl
    case at_B_text => first | k_is | kernel_rfl
    case fn_B_text => first | k_is | kernel_rfl
    case l_B_text => first | k_is | kernel_rfl
    case c_B_text => first | k_is | kernel_rfl
    case k_B_text => first | k_is | kernel_rfl
    case a_row_of => first | k_is | kernel_rfl
    case l_row_of => first | k_is | kernel_rfl
    case c_row_of => first | k_is | kernel_rfl
    case k_row_of => first | k_is | kernel_rfl
    case at_B_len => first | k_is | kernel_rfl
    case fn_B_len => first | k_is | kernel_rfl
    case l_B_len => first | k_is | kernel_rfl
    case c_B_len => first | k_is | kernel_rfl
    case k_B_len => first | k_is | kernel_rfl
    case a__law_goes => first | k_is | kernel_rfl
    case l__law_goes => first | k_is | kernel_rfl
    case c__law_goes => first | k_is | kernel_rfl
    case k__law_goes => first | k_is | kernel_rfl
    case a__law_read_line => first | k_is | kernel_rfl
    case l__law_read_line => first | k_is | kernel_rfl
    case c__law_read_line => first | k_is | kernel_rfl
    case k__law_read_line => first | k_is | kernel_rfl
    case a__law_text_due => first | k_is | kernel_rfl
    case l__law_text_due => first | k_is | kernel_rfl
    case c__law_text_due => first | k_is | kernel_rfl
    case k__law_text_due => first | k_is | kernel_rfl
    case a__law_line_text => first | k_is | kernel_rfl
    case l__law_line_text => first | k_is | kernel_rfl
    case c__law_line_text => first | k_is | kernel_rfl
    case k__law_line_text => first | k_is | kernel_rfl
    case a__law_book_text => first | k_is | kernel_rfl
    case l__law_book_text => first | k_is | kernel_rfl
    case c__law_book_text => first | k_is | kernel_rfl
    case k__law_book_text => first | k_is | kernel_rfl
    case a__law_part => first | k_is | kernel_rfl
    case l__law_part => first | k_is | kernel_rfl
    case c__law_part => first | k_is | kernel_rfl
    case k__law_part => first | k_is | kernel_rfl
    case a__law_some_cut => first | k_is | kernel_rfl
    case l__law_some_cut => first | k_is | kernel_rfl
    case c__law_some_cut => first | k_is | kernel_rfl
    case k__law_some_cut => first | k_is | kernel_rfl
    case a__law_letters => first | k_is | kernel_rfl
    case l__law_letters => first | k_is | kernel_rfl
    case c__law_letters => first | k_is | kernel_rfl
    case k__law_letters => first | k_is | kernel_rfl
    case a__law_some_faces => first | k_is | kernel_rfl
    case l__law_some_faces => first | k_is | kernel_rfl
    case c__law_some_faces => first | k_is | kernel_rfl
    case k__law_some_faces => first | k_is | kernel_rfl
    case a__law_some_cutters => first | k_is | kernel_rfl
    case l__law_some_cutters => first | k_is | kernel_rfl
    case c__law_some_cutters => first | k_is | kernel_rfl
    case k__law_some_cutters => first | k_is | kernel_rfl
    case a__law_some_line => first | k_is | kernel_rfl
    case l__law_some_line => first | k_is | kernel_rfl
    case c__law_some_line => first | k_is | kernel_rfl
    case k__law_some_line => first | k_is | kernel_rfl
    case a__law_some_book => first | k_is | kernel_rfl
    case l__law_some_book => first | k_is | kernel_rfl
    case c__law_some_book => first | k_is | kernel_rfl
    case k__law_some_book => first | k_is | kernel_rfl
    case a__law_open => first | k_is | kernel_rfl
    case l__law_open => first | k_is | kernel_rfl
    case c__law_open => first | k_is | kernel_rfl
    case k__law_open => first | k_is | kernel_rfl
    case a_law => first | k_is | kernel_rfl
    case l_law => first | k_is | kernel_rfl
    case c_law => first | k_is | kernel_rfl
    case y_isinstance => first | k_is | kernel_rfl
    case y_str => first | k_is | kernel_rfl
    case y_all => first | k_is | kernel_rfl
    case y_any => first | k_is | kernel_rfl
    case y_len => first | k_is | kernel_rfl
    case y_int => first | k_is | kernel_rfl
    case y_list => first | k_is | kernel_rfl
    case y_abs => first | k_is | kernel_rfl
    case y_bool => first | k_is | kernel_rfl
    case y_tuple => first | k_is | kernel_rfl
    case y_zip => first | k_is | kernel_rfl
    case y_range => first | k_is | kernel_rfl
    case y_enumerate => first | k_is | kernel_rfl
    case y_sorted => first | k_is | kernel_rfl
    case y_dict => first | k_is | kernel_rfl
    case y_set => first | k_is | kernel_rfl
    case y_sum => first | k_is | kernel_rfl
    case y_min => first | k_is | kernel_rfl
    case y_max => first | k_is | kernel_rfl
    case y_reversed => first | k_is | kernel_rfl
    case y_repr => first | k_is | kernel_rfl
    case y_ord => first | k_is | kernel_rfl
  case hcode => exact fun pr => by kernel_rfl
