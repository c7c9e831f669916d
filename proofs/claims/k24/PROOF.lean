import PyProof.Rows.All
import Wide.All
import OpenK.AllK
import Wide.FinOn
import KE.KNestM
import KE.KStateDown
import HandS.Head0
import HandS.Head1
import HandS.Head2
import HandS.Head3
import KE.KTypeName
import KE.KExcIs
import HandS.Base
import HandS.Call
import HandS.Exc
import HandS.ExcInit
import HandS.ExcField
import KE.KTryMore
import HandS.HotCalls
import HandS.Lambda
import HandS.Words
import HandS.WordsExc
import PyProof.EqAt
import PyProof.EqKinds
import PyProof.TupleCall
import KE.KUnpack
import HandS.List
import HandS.Comp
import HandS.Iter
import HandS.Text
import HandS.WordsList
import KE.GoesMore
import HandS.Walk
import HandS.IsInst
import HandS.Ends
import HandS.Zip
import HandS.Codes
import HandS.Style
import KE.KRevSl
import KE.GoesEnum
import HandS.Star
import HandS.SlotsOwn
import PyProof.InstEq
import HandS.More
import HandS.Conv
import HandS.FStr
import HandS.ClsMeth
import HandS.EndTab
import HandS.HeadHook4
import HandS.SortRule
import KE.KSortTupAny
import PyProof.Rows.SortShellAny
import HandS.ListItems
import HandS.Nested
import PyProof.StrBlock2
import HandS.TupMul
import HandS.NoneIn
import PyProof.Rows.Range3
import PyProof.Conv_bool
import HandS.MethStar
import PySem.Challenge.RW_fourwalls_k24_whole_members_of_views
set_option Elab.async false
set_option linter.all false
set_option maxRecDepth 100000
set_option maxHeartbeats 16000000
/-! the head of a law with tables in one run of the kernel: the objects read off the tree -/
namespace FW
open PySem PySem.W PySem.Calls PyProof.Rows HandSHeadRun
noncomputable def obK (as ts : List Addr) (s : SharedT) : List (Option Obj) × List (Option Obj) := (as.map (getT s), ts.map (getT s))
theorem head_km {r : OpenRow} {q : Program} {K : Params → Frag} {as ts : List Addr} {e : ∀ P, as = (K P).map (·.1)} {M : Nat} {loose : List PySem.Str} {d : DefRec} {kwd : List (PySem.Str × PySem.Expr)}
    (H : Hook) (hH : H = kmHook K as e ts)
    (eo : opening r.prog = plainProg r.prog.main.scope.names) (f : ∀ s, fenceModules? r.prog s = some s) (run : ∀ w, RunEq r q (kmHook K as e ts) (obK as ts) M loose w)
    (hdef : defOf q r.name = some (d, kwd)) (hp : r.prog.theDef r.name = some (d.params, d.body, d.scope)) (hk : kwWritten? d.params.kwonlyargs d.params.kw_defaults = some kwd)
    (hwr : (!r.writes || r.records.isEmpty) = true) (k1 : r.wellSaid = true) (ok : (chainsOk q && opensWell r.prog && (frees r.toRowW && r.within.isEmpty)) = true) (hb : r.prog.bare) (hw : r.toRowW.promised)
    (call : WalkO q loose (XL q []) (kmHook K as e ts).says r.toRowW d kwd fun f vs => PySem.call f vs) : r.Holds := by
  refine head_any (H := kmHook K as e ts) (ob := obK as ts) (M := M) (loose := loose) (d := d) (kwd := kwd) (fun s => ?_) eo f run hdef hp hk hwr k1 ok hb hw call
  show (as.map (getT s), ts.map (getT s)) = (as.map s.abs.heap.get?, ts.map s.abs.heap.get?)
  rw [show getT s = s.abs.heap.get? from funext (getT_eq s)]
theorem head_kk {r : OpenRow} {q : Program} {K : Params → Frag} {as : List Addr} {e : ∀ P, as = (K P).map (·.1)} {M : Nat} {loose : List PySem.Str} {d : DefRec} {kwd : List (PySem.Str × PySem.Expr)}
    (H : Hook) (hH : H = kHook K as e)
    (eo : opening r.prog = plainProg r.prog.main.scope.names) (f : ∀ s, fenceModules? r.prog s = some s) (run : ∀ w, RunEq r q (kHook K as e) (fun s => as.map (getT s)) M loose w)
    (hdef : defOf q r.name = some (d, kwd)) (hp : r.prog.theDef r.name = some (d.params, d.body, d.scope)) (hk : kwWritten? d.params.kwonlyargs d.params.kw_defaults = some kwd)
    (hwr : (!r.writes || r.records.isEmpty) = true) (k1 : r.wellSaid = true) (ok : (chainsOk q && opensWell r.prog && (frees r.toRowW && r.within.isEmpty)) = true) (hb : r.prog.bare) (hw : r.toRowW.promised)
    (call : WalkO q loose (XL q []) (kHook K as e).says r.toRowW d kwd fun f vs => PySem.call f vs) : r.Holds := by
  refine head_any (H := kHook K as e) (ob := fun s => as.map (getT s)) (M := M) (loose := loose) (d := d) (kwd := kwd) (fun s => ?_) eo f run hdef hp hk hwr k1 ok hb hw call
  show as.map (getT s) = as.map s.abs.heap.get?
  rw [show getT s = s.abs.heap.get? from funext (getT_eq s)]
theorem head_kmI {r : OpenRow} {q : Program} {K : Params → Frag} {as ts : List Addr} {e : ∀ P, as = (K P).map (·.1)} {M : Nat} {loose : List PySem.Str} {d : DefRec} {kwd : List (PySem.Str × PySem.Expr)}
    (H : Hook) (hH : H = kmHook K as e ts) (run : ∀ w, RunEqI r q (kmHook K as e ts) (obK as ts) M loose w)
    (hdef : defOf q r.name = some (d, kwd)) (hp : r.prog.theDef r.name = some (d.params, d.body, d.scope)) (hk : kwWritten? d.params.kwonlyargs d.params.kw_defaults = some kwd)
    (hwr : (!r.writes || r.records.isEmpty) = true) (k1 : r.wellSaid = true) (ok : (chainsOk q && opensWell r.prog && (frees r.toRowW && r.within.isEmpty)) = true) (hb : r.prog.bare) (hw : r.toRowW.promised)
    (call : WalkO q loose (XL q []) (kmHook K as e ts).says r.toRowW d kwd fun f vs => PySem.call f vs) : r.Holds := by
  refine head_imp (H := kmHook K as e ts) (ob := obK as ts) (M := M) (loose := loose) (d := d) (kwd := kwd) (fun s => ?_) run hdef hp hk hwr k1 ok hb hw call
  show (as.map (getT s), ts.map (getT s)) = (as.map s.abs.heap.get?, ts.map s.abs.heap.get?)
  rw [show getT s = s.abs.heap.get? from funext (getT_eq s)]
theorem head_kkI {r : OpenRow} {q : Program} {K : Params → Frag} {as : List Addr} {e : ∀ P, as = (K P).map (·.1)} {M : Nat} {loose : List PySem.Str} {d : DefRec} {kwd : List (PySem.Str × PySem.Expr)}
    (H : Hook) (hH : H = kHook K as e) (run : ∀ w, RunEqI r q (kHook K as e) (fun s => as.map (getT s)) M loose w)
    (hdef : defOf q r.name = some (d, kwd)) (hp : r.prog.theDef r.name = some (d.params, d.body, d.scope)) (hk : kwWritten? d.params.kwonlyargs d.params.kw_defaults = some kwd)
    (hwr : (!r.writes || r.records.isEmpty) = true) (k1 : r.wellSaid = true) (ok : (chainsOk q && opensWell r.prog && (frees r.toRowW && r.within.isEmpty)) = true) (hb : r.prog.bare) (hw : r.toRowW.promised)
    (call : WalkO q loose (XL q []) (kHook K as e).says r.toRowW d kwd fun f vs => PySem.call f vs) : r.Holds := by
  refine head_imp (H := kHook K as e) (ob := fun s => as.map (getT s)) (M := M) (loose := loose) (d := d) (kwd := kwd) (fun s => ?_) run hdef hp hk hwr k1 ok hb hw call
  show as.map (getT s) = as.map s.abs.heap.get?
  rw [show getT s = s.abs.heap.get? from funext (getT_eq s)]
theorem opt_pair {α β γ : Type} {X : Option α} {f : α → β} {g : α → γ} {a : β} {b : γ} (h1 : X.map f = some a) (h2 : X.map g = some b) : X.map (fun s => (f s, g s)) = some (a, b) := by
  cases X with
  | none => cases h1
  | some s =>
    cases h1
    cases h2
    rfl
/-- the three looks at the run's end, each a run of its own -/
def RunA (r : OpenRow) (M : Nat) (w : World) : Prop := (wholeF (fun p => stepQ (denQ tabQ) p w) fenceQ M r.prog).map (fun x => looksF r.prog x.1.heap x.2.abs) = some true
def RunB (r : OpenRow) (q : Program) (M : Nat) (loose : List PySem.Str) (w : World) : Prop := (wholeF (fun p => stepQ (denQ tabQ) p w) fenceQ M r.prog).map (fun x => seenQ q loose (importedModules r.prog.main.body) (fun s => xlAt q [] s && recOk r.toRowW.records s) x.2.abs) = some (openGood q loose)
def RunC (r : OpenRow) (H : Hook) (ob : SharedT → H.α) (M : Nat) (w : World) : Prop := (wholeF (fun p => stepQ (denQ tabQ) p w) fenceQ M r.prog).map (fun x => ob x.2) = some (H.val w)
theorem run_abc {r : OpenRow} {q : Program} {H : Hook} {ob : SharedT → H.α} {M : Nat} {loose : List PySem.Str} {w : World} (a : RunA r M w) (b : RunB r q M loose w) (c : RunC r H ob M w) : RunEqI r q H ob M loose w := opt_pair a (opt_pair b c)
theorem head_kmJ {r : OpenRow} {q : Program} {K : Params → Frag} {as ts : List Addr} {e : ∀ P, as = (K P).map (·.1)} {M : Nat} {loose : List PySem.Str} {d : DefRec} {kwd : List (PySem.Str × PySem.Expr)}
    (H : Hook) (hH : H = kmHook K as e ts) (ra : ∀ w, RunA r M w) (rb : ∀ w, RunB r q M loose w) (run : ∀ w, RunC r (kmHook K as e ts) (obK as ts) M w)
    (hdef : defOf q r.name = some (d, kwd)) (hp : r.prog.theDef r.name = some (d.params, d.body, d.scope)) (hk : kwWritten? d.params.kwonlyargs d.params.kw_defaults = some kwd)
    (hwr : (!r.writes || r.records.isEmpty) = true) (k1 : r.wellSaid = true) (ok : (chainsOk q && opensWell r.prog && (frees r.toRowW && r.within.isEmpty)) = true) (hb : r.prog.bare) (hw : r.toRowW.promised)
    (call : WalkO q loose (XL q []) (kmHook K as e ts).says r.toRowW d kwd fun f vs => PySem.call f vs) : r.Holds :=
  head_kmI H hH (fun w => run_abc (ra w) (rb w) (run w)) hdef hp hk hwr k1 ok hb hw call
theorem keepH {r : OpenRow} (h : r.Holds) (H : Hook) : r.Holds := h
noncomputable def obK1 (as : List Addr) (s : SharedT) : List (Option Obj) := as.map (getT s)
theorem head_kkJ {r : OpenRow} {q : Program} {K : Params → Frag} {as : List Addr} {e : ∀ P, as = (K P).map (·.1)} {M : Nat} {loose : List PySem.Str} {d : DefRec} {kwd : List (PySem.Str × PySem.Expr)}
    (H : Hook) (hH : H = kHook K as e) (ra : ∀ w, RunA r M w) (rb : ∀ w, RunB r q M loose w) (run : ∀ w, RunC r (kHook K as e) (obK1 as) M w)
    (hdef : defOf q r.name = some (d, kwd)) (hp : r.prog.theDef r.name = some (d.params, d.body, d.scope)) (hk : kwWritten? d.params.kwonlyargs d.params.kw_defaults = some kwd)
    (hwr : (!r.writes || r.records.isEmpty) = true) (k1 : r.wellSaid = true) (ok : (chainsOk q && opensWell r.prog && (frees r.toRowW && r.within.isEmpty)) = true) (hb : r.prog.bare) (hw : r.toRowW.promised)
    (call : WalkO q loose (XL q []) (kHook K as e).says r.toRowW d kwd fun f vs => PySem.call f vs) : r.Holds :=
  head_kkI H hH (fun w => run_abc (ra w) (rb w) (run w)) hdef hp hk hwr k1 ok hb hw call
/-- .. of a program without imports -/
def RunA0 (r : OpenRow) (M : Nat) (w : World) : Prop := ∀ os : OsState, (endF (stepQ (denQ tabQ) r.prog w) M r.prog w os).map (fun s => looksF r.prog (boot_heap w.params) s.abs) = some true
def RunB0 (r : OpenRow) (q : Program) (M : Nat) (loose : List PySem.Str) (w : World) : Prop := ∀ os : OsState, (endF (stepQ (denQ tabQ) r.prog w) M r.prog w os).map (fun s => seenQ q loose (importedModules r.prog.main.body) (fun s => xlAt q [] s && recOk r.toRowW.records s) s.abs) = some (openGood q loose)
def RunC0 (r : OpenRow) (H : Hook) (ob : SharedT → H.α) (M : Nat) (w : World) : Prop := ∀ os : OsState, (endF (stepQ (denQ tabQ) r.prog w) M r.prog w os).map ob = some (H.val w)
theorem run_abc0 {r : OpenRow} {q : Program} {H : Hook} {ob : SharedT → H.α} {M : Nat} {loose : List PySem.Str} {w : World} (a : RunA0 r M w) (b : RunB0 r q M loose w) (c : RunC0 r H ob M w) : RunEq r q H ob M loose w := fun os => opt_pair (a os) (opt_pair (b os) (c os))
theorem head_kmJ0 {r : OpenRow} {q : Program} {K : Params → Frag} {as ts : List Addr} {e : ∀ P, as = (K P).map (·.1)} {M : Nat} {loose : List PySem.Str} {d : DefRec} {kwd : List (PySem.Str × PySem.Expr)}
    (H : Hook) (hH : H = kmHook K as e ts) (eo : opening r.prog = plainProg r.prog.main.scope.names) (f : ∀ s, fenceModules? r.prog s = some s) (ra : ∀ w, RunA0 r M w) (rb : ∀ w, RunB0 r q M loose w) (run : ∀ w, RunC0 r (kmHook K as e ts) (obK as ts) M w)
    (hdef : defOf q r.name = some (d, kwd)) (hp : r.prog.theDef r.name = some (d.params, d.body, d.scope)) (hk : kwWritten? d.params.kwonlyargs d.params.kw_defaults = some kwd)
    (hwr : (!r.writes || r.records.isEmpty) = true) (k1 : r.wellSaid = true) (ok : (chainsOk q && opensWell r.prog && (frees r.toRowW && r.within.isEmpty)) = true) (hb : r.prog.bare) (hw : r.toRowW.promised)
    (call : WalkO q loose (XL q []) (kmHook K as e ts).says r.toRowW d kwd fun f vs => PySem.call f vs) : r.Holds :=
  head_km H hH eo f (fun w => run_abc0 (ra w) (rb w) (run w)) hdef hp hk hwr k1 ok hb hw call
theorem head_kkJ0 {r : OpenRow} {q : Program} {K : Params → Frag} {as : List Addr} {e : ∀ P, as = (K P).map (·.1)} {M : Nat} {loose : List PySem.Str} {d : DefRec} {kwd : List (PySem.Str × PySem.Expr)}
    (H : Hook) (hH : H = kHook K as e) (eo : opening r.prog = plainProg r.prog.main.scope.names) (f : ∀ s, fenceModules? r.prog s = some s) (ra : ∀ w, RunA0 r M w) (rb : ∀ w, RunB0 r q M loose w) (run : ∀ w, RunC0 r (kHook K as e) (obK1 as) M w)
    (hdef : defOf q r.name = some (d, kwd)) (hp : r.prog.theDef r.name = some (d.params, d.body, d.scope)) (hk : kwWritten? d.params.kwonlyargs d.params.kw_defaults = some kwd)
    (hwr : (!r.writes || r.records.isEmpty) = true) (k1 : r.wellSaid = true) (ok : (chainsOk q && opensWell r.prog && (frees r.toRowW && r.within.isEmpty)) = true) (hb : r.prog.bare) (hw : r.toRowW.promised)
    (call : WalkO q loose (XL q []) (kHook K as e).says r.toRowW d kwd fun f vs => PySem.call f vs) : r.Holds :=
  head_kk H hH eo f (fun w => run_abc0 (ra w) (rb w) (run w)) hdef hp hk hwr k1 ok hb hw call
end FW
namespace FW
abbrev hR : PySem.W.OpenRow := PySem.W.OpenLaw.row PySem.Challenge.rw_fourwalls_k24_whole_members_of_views
abbrev hq : PySem.Program := PySem.W.view hR.prog [78]
def hn0 : List PySem.Str := ["_wall", "__name__", "HouseError", "Missing", "InvalidFaces", "InvalidCutters", "InvalidLine", "InvalidRoom", "InvalidCutter", "InvalidView", "InvalidText", "NothingLeft", "_LOWER", "_UPPER", "_MOST_FACES", "_MOST_CUTTERS", "is_ascending", "is_choice", "is_faces", "is_cutters", "is_string", "is_letter", "is_room", "is_cut", "parts_of", "check_room", "VIEWS", "NAMED", "_UPRIGHT", "_LEVEL"]
def hn1 : List PySem.Str := ["is_view", "check_view", "rule", "splits", "members", "is_part", "is_line", "fits", "head_of", "line_of", "row_of", "Book", "_law_open", "_law_draw", "_law_of", "_law_same", "_law_field", "_law_try", "_law_tries", "_law_letters", "_law_some_faces", "_law_some_cutters", "_law_part", "_law_some_room", "_law_some_cut", "_law_some_line", "_law_some_book", "_law_line_text", "_law_book_text", "_law_book"]
def hn2 : List PySem.Str := ["_law_fits", "_law_line_at", "_law_cut", "_law_split", "_law_parts", "_law_turns", "_law_used", "_law_rule", "_law_members", "_law_some_history", "_law_rows", "_law_odd_room", "_law_odd_view"]
def hnames : List PySem.Str := hn0 ++ hn1 ++ hn2
section
open PySem PySem.W PyProof.Rows
local macro_rules | `(tactic| o_head $H) => `(tactic| (refine FW.keepH ?_ $H; assumption))
theorem hk0 (X : hR.Holds) : hR.Holds := by
  w_on; k_head
end
def has : List PySem.Addr := [2, 3, 15, 17, 18, 20, 21, 22, 29, 30, 31, 32, 35, 42, 43, 44, 45, 48, 55, 57, 58, 60, 61, 62, 63, 64, 67, 74, 76, 77, 79, 80, 81, 82, 83, 86, 93, 95, 96, 98, 99, 100, 101, 102, 105, 112, 114, 115, 117, 118, 119, 120, 121, 124, 131, 133, 134, 136, 137, 138, 139, 140, 143, 150, 152, 153, 155, 156, 157, 158, 159, 162, 169, 171, 172, 174, 175, 176, 177, 178, 181, 188, 190, 191, 193, 194, 195, 196, 197, 198, 201, 204, 205, 206, 208, 209, 211, 212, 213, 215, 216, 218, 219, 220, 222, 223, 225, 226, 227, 230, 231, 232, 234, 235, 237, 238, 239, 241, 242, 244, 245, 246, 248, 249, 251, 252, 253, 255, 256, 258, 259, 260, 262, 263, 265, 266, 267, 268, 269, 270, 271, 272, 273, 274, 276, 277, 279, 280, 281, 283, 284, 286, 287, 288, 290, 291, 293, 294, 295, 297, 298, 300, 301, 302, 304, 305, 307, 308, 309, 311, 312, 314, 315, 316, 319, 320, 321, 324, 325, 326, 328, 329, 331, 332, 333, 335, 336, 338, 339, 340, 342, 343, 345, 346, 354, 356, 357, 359, 360, 361, 363, 364, 366, 367, 368, 370, 371, 373, 374, 375, 377, 378, 380, 381, 382, 384, 385, 387, 388, 389, 391, 392, 394, 395, 396, 398, 399, 401, 402, 403, 406, 407, 408, 410, 411, 413, 414, 415, 416, 417, 418, 420, 421, 423, 424, 425, 427, 428, 430, 431, 432, 434, 435, 437, 438, 439, 441, 442, 444, 445, 446, 447, 448, 449, 450, 453, 455, 456, 458, 459, 460, 462, 463, 465, 466, 467, 469, 470, 472, 473, 474, 477, 478, 479, 481, 482, 484, 485, 486, 488, 489, 491, 492, 493, 496, 497, 498, 500, 501, 503, 504, 505, 507, 508, 510, 511, 512, 514, 515, 517, 518, 519, 522, 523, 524, 526, 527, 529, 530, 531, 533, 534, 536, 537, 538, 541, 542, 543, 546, 547, 548, 550, 551, 553, 554, 555, 558, 559, 560, 562, 563, 565, 566, 567, 570, 571, 572, 574, 575, 577, 578, 579, 581, 582, 584, 585, 586, 588, 589, 591, 592, 593, 595, 596, 598, 599, 600, 603, 604, 605, 607, 608, 610, 611, 612, 614, 615, 617, 618, 619, 622, 623, 624, 627, 628, 629, 632, 633, 634, 637, 638, 639, 641, 642, 644, 645, 646, 649, 650]
def hts : List PySem.Addr := [647]
theorem hasE : ∀ P, has = (hk0.heap_1 P).map (·.1) := fun _ => by kernel_rfl
theorem hRC (w : PySem.World) : FW.RunC0 FW.hR (PySem.W.kmHook hk0.heap_1 has hasE hts) (FW.obK has hts) 20000 w := by
  refine PySem.W.byRow2 "special-get-raises" (P := fun w => FW.RunC0 FW.hR (PySem.W.kmHook hk0.heap_1 has hasE hts) (FW.obK has hts) 20000 w) (fun w => ?_) (fun w => ?_) w
  · intro os
    kernel_rfl
  · intro os
    kernel_rfl
theorem hRA (w : PySem.World) : FW.RunA0 FW.hR 20000 w := by
  refine PySem.W.byRow2 "special-get-raises" (P := fun w => FW.RunA0 FW.hR 20000 w) (fun w => ?_) (fun w => ?_) w
  · intro os
    kernel_rfl
  · intro os
    kernel_rfl
theorem hRB (w : PySem.World) : FW.RunB0 FW.hR FW.hq 20000 FW.hnames w := by
  refine PySem.W.byRow2 "special-get-raises" (P := fun w => FW.RunB0 FW.hR FW.hq 20000 FW.hnames w) (fun w => ?_) (fun w => ?_) w
  · intro os
    kernel_rfl
  · intro os
    kernel_rfl
end FW
namespace FW
open PySem PySem.Spec PyProof.Rows L2 Builtin Builtin.Getset_descriptor PySem.W
/-! ### the name of a class of the program -/
theorem own_dga (d tp : Value) (C : Addr) : descrGetArgs ⟨[d, .ref C, tp], []⟩ = pure (d, some (.ref C), given tp) := by kernel_rfl
section
variable {prog : Program} {w : World} {A : Around} {E : Value → Shared → Prop} {s : Shared} {K : PySem.W.Frag}
theorem own_get {C : Addr} {tp : Value} {R : Result → Shared → Prop} {o : Obj} {z : Str} {tk : Tok} (X : K.In s.heap) (ht : PySem.W.typeIn K (.ref C) = some (.type "type")) (ho : s.heap.get? C = some o) (hs : o.slots[2]? = some (some (.str z tk)))
    (h : R (.ok (.ret (.str z tk))) s) :
    codeAny (model prog w) A (.call (.builtin "getset_descriptor.__get__") ⟨[.builtin "type.__name__", .ref C, tp], []⟩) R s := by
  obtain ⟨hh, g, dr, t, os⟩ := s
  have t1 : Looks (model prog w) hh (typeOf (.ref C)) (.type "type") := looks_typeIn X ht
  have t2 : Looks (model prog w) hh (isSubtype (.type "type") (.type "type")) true := .of_pure (by
    rw [isSubtype_type]
    kernel_rfl)
  refine codeAny_call_builtin KF.slot_gs.plain KF.entry_gs
    (KF.slot_gs.check _ _ _ _ _ _ _ _
      ktyn_type (KF.args_gs _ _ _) ?_)
  unfold Builtin.«getset_descriptor.__get__» descrGet
  rw [own_dga]
  refine wpAny_bind (wpAny_pure ?_)
  unfold descrGetter descrCheckInstance descrNameAndClass isInstance
  simp only [ktyn_owner]
  repeat lk
  refine ⟨Code.quiet_builtin _ (by decide +kernel), codeAny_builtin
    ktyn_entry ?_⟩
  unfold Builtin.«type.__name__»
  dsimp only
  unfold keptObject PySem.slotAt
  dsimp only
  refine wpAny_bind (wpAny_bind (wpAny_loadPart ho (wpAny_pure ?_)))
  rw [hs]
  exact wpAny_pure h
/-- the name that a class of the program was made with -/
structure NameC (K : PySem.W.Frag) (C : Addr) (z : Str) : Prop where
  ob : ∃ (o : Obj) (tk : Tok), K.lookup C = some o ∧ o.slots[2]? = some (some (.str z tk))
  ty : PySem.W.typeIn K (.ref C) = some (.type "type")
  rd : readsIn K C (.type "type") = true
  fd : findCls K (.ref C) (.type "type") "__name__" = some (.get (.builtin "getset_descriptor.__get__") (.builtin "type.__name__") (.ref C) (.type "type"))
theorem name_get {C : Addr} {z : Str} {ex : Bool} {Q : Value → Shared → Prop} (X : K.In s.heap) (N : NameC K C z) (h : ∀ tk u, Q (.str z tk) { s with toks := u }) : wpAny (model prog w) A (getAttr (.ref C) "__name__" ex) Q E s := by
  obtain ⟨o, tk, ho, hs⟩ := N.ob
  refine cls_bind X N.rd N.fd (wpAny_call ?_)
  exact own_get (s := { s with toks := s.toks + 1 }) X N.ty (X _ _ ho) hs (handed_on rfl (h tk _))
/-- what an exception class has for the reading of e.__class__ -/
structure ClsE (K : PySem.W.Frag) (C : Addr) : Prop where
  cl : (clsIn K C).isSome = true
  ga : PySem.W.findIn K (.ref C) "__getattribute__" = some (some (.builtin "BaseException.__getattribute__"))
  gg : PySem.W.findIn K (.ref C) "__getattr__" = some none
  ex : PySem.W.subIn K (.ref C) (.type "BaseException") = some true
  fc : PySem.W.findIn K (.ref C) "__class__" = some (some (.builtin "object.__class__"))
  ob : PySem.W.mroIn K C (.type "object") = some true
structure GsK (K : PySem.W.Frag) : Prop where
  sp : specialIn K (.builtin "object.__class__") "__get__" = some (some (.builtin "getset_descriptor.__get__"))
  tk : takesIn K (.builtin "object.__class__") = some true
theorem cls_get {x C : Addr} {ox : Obj} {od : Option Obj} {ex : Bool} {Q : Value → Shared → Prop} (X : K.In s.heap) (I : InstAt s.heap x ox C od) (T : ClsE K C) (G : GsK K) (h : ∀ u, Q (.ref C) { s with toks := u }) : wpAny (model prog w) A (getAttr (.ref x) "__class__" ex) Q E s := by
  obtain ⟨hp, g, d, t, os⟩ := s
  have hf : findObj K C od "__class__" = some (.bind (.builtin "getset_descriptor.__get__") (.builtin "object.__class__")) := findObj_dataE T.cl T.fc G.sp G.tk
  have l0 := I.type (M := model prog w)
  have l1 := looks_findIn (M := model prog w) X T.ga
  have l2 := looks_findIn (M := model prog w) X T.gg
  have l3 := looks_find (M := model prog w) X I hf
  have sub : Looks (model prog w) hp (isInstance (.ref x) (.type "BaseException")) true := l0.andThen (looks_subIn X T.ex)
  have n0 : (ex && onTheHeap (Value.builtin "BaseException.__getattribute__")) = false := by cases ex <;> rfl
  have n2 : (Value.builtin "BaseException.__getattribute__" == Value.builtin "object.__getattribute__") = false := by
    decide +kernel
  have n1 : (onTheHeap (.ref C) && Value.builtin "BaseException.__getattribute__" == Value.builtin "object.__getattribute__") = false := (congrArg (onTheHeap (.ref C) && ·) n2).trans (Bool.and_false _)
  unfold getAttr getAttrBy
  refine wpAny_bind (wpAny_mkText (wpAny_holding (wpAny_bind (l0.at (wpAny_bind (l1.at ?_))))))
  dsimp only
  rw [n1, if_neg Bool.false_ne_true]
  unfold getAttrByItsOwn hookBefore
  refine wpAny_bind ?_
  rw [if_pos (by rfl)]
  refine l2.at ?_
  refine wpAny_bind (wpAny_attempt (wpAny_holding ?_))
  unfold callGetattribute
  rw [n0, if_neg Bool.false_ne_true]
  unfold boundAndCalled
  rw [PySem.F.excAttr_ValueError.ga.bind (.ref x)]
  refine wpAny_bind (wpAny_pure ?_)
  refine wpAny_call (codeAny_call_builtin PySem.F.excAttr_ValueError.ga.plain
    PySem.F.entry_bexc_ga ?_)
  refine @PySem.W.check_slot (model prog w) _ _ ⟨hp, g, d, t + 1, os⟩ "BaseException.__getattribute__" "BaseException" "__getattribute__" (.ref x)
    [.str "__class__" t] [] _ (by decide +kernel) (by decide +kernel) sub (PySem.F.args_bexc_ga (.ref x) (.str "__class__" t)) ?_
  unfold Builtin.«object.__getattribute__»
  refine wpAny_bind (wpAny_of_eq (a := ((Value.ref x : Value), [Value.str "__class__" t]))
    (by first | rfl | (simp only [slotArgs]; rfl)) ?_)
  refine wpAny_bind (wpAny_pure (wpAny_bind (l0.at (wpAny_bind (l3.at ?_)))))
  refine wpAny_bind (wpAny_holding (wpAny_call
    (class_get (s := ⟨hp, g, d, t + 1, os⟩) (ox := ox) (od := od) X I T.ob ?_)))
  refine wpAny_pure ?_
  exact handed_on rfl (h _)
end
/-! ### the readings -/
section
variable {X : Cx} {e : Expr} {te : TE} {p : Pos}
/-- the object at a is an exception that is being made -/
def Exo (H : Hp) (a C : Addr) : Prop := H a = some (exo a C none) ∨ ∃ (d : Addr) (fs : List (Str × V)), H a = some (exo a C (some d)) ∧ H d = some (exd d fs)
theorem Exo.inst {P : Program} {w : World} {H : Hp} {h : Heap} {a C : Addr} (x : Exo H a C) (hok : HOk P w H h) : ∃ (ox : Obj) (od : Option Obj), InstAt h a ox C od := by
  rcases x with q | ⟨d, fs, q, q2⟩
  · obtain ⟨t1, ho⟩ := exo_at hok q
    exact ⟨_, none, ho, rfl, rfl, True.intro⟩
  · obtain ⟨t1, ho⟩ := exo_at hok q
    obtain ⟨mA, ⟨od, es, ep, h1, _⟩, _⟩ := exd_at hok q2
    exact ⟨_, some od, ho, rfl, rfl, h1⟩
theorem pe_cls (G : GsK X.K) (he : PE X e te) (hb : attributeBase e "__class__" X.env (eval e X.env) = eval e X.env := by rfl) : PE X (.Attribute e "__class__" p) (fun σ H Q => te σ H fun x H1 => ∃ a C : Addr, x = .ref a ∧ Exo H1 a C ∧ ClsE X.K C ∧ Q (.ref C) H1) := by
  refine ⟨fun pins s σ H Q I h => attr_of hb (thn (he.run pins s σ H _ I h) fun u s1 hh => ?_)⟩
  obtain ⟨x, H1, I1, rx, a, C, ex, xo, T, q⟩ := hh
  subst ex
  obtain rfl : u = Value.ref a := rx
  obtain ⟨ox, od, J⟩ := xo.inst I1.hok
  exact cls_get I1.kIn J T G fun u => ⟨.ref C, H1, I1.tok _, rfl, q⟩
theorem pe_name (he : PE X e te) (hb : attributeBase e "__name__" X.env (eval e X.env) = eval e X.env := by rfl) : PE X (.Attribute e "__name__" p) (fun σ H Q => te σ H fun x H1 => ∃ (C : Addr) (z : Str), x = .ref C ∧ NameC X.K C z ∧ Q (.str z) H1) := by
  refine ⟨fun pins s σ H Q I h => attr_of hb (thn (he.run pins s σ H _ I h) fun u s1 hh => ?_)⟩
  obtain ⟨x, H1, I1, rx, C, z, ex, N, q⟩ := hh
  subst ex
  obtain rfl : u = Value.ref C := rx
  exact name_get I1.kIn N fun tk u => ⟨.str z, H1, I1.tok _, ⟨tk, rfl⟩, q⟩
end
end FW
namespace FW
open PySem PySem.Spec PyProof.Rows L2
/-! ### a caught exception as one of the things that the heap is known to hold -/
def ExK (cls : Value) (d : Option Addr) (a : Addr) : HO := .ext fun h => ∃ (oe : Obj) (vs : Array Value), h.get? a = some oe ∧ Zc cls d oe ∧ oe.data = .fields vs
theorem exk_ok {P : Program} {w : World} {H : Hp} {h : Heap} {a : Addr} {cls : Value} {d : Option Addr} {oe : Obj} {vs : Array Value} (ha : h.get? a = some oe) (hz : Zc cls d oe) (hd : oe.data = .fields vs) : ObjOk P w H h a (ExK cls d a) :=
  ⟨⟨oe, vs, ha, hz, hd⟩, ⟨oe, ha⟩, fun _ _ ⟨o, v, q1, q2, q3⟩ st => ⟨o, v, st _ q1, q2, q3⟩⟩
theorem exk_at {P : Program} {w : World} {H : Hp} {h : Heap} {a : Addr} {cls : Value} {d : Option Addr} (ok : HOk P w H h) (e : H a = some (ExK cls d a)) : ∃ (oe : Obj) (vs : Array Value), h.get? a = some oe ∧ Zc cls d oe ∧ oe.data = .fields vs := by
  have z : ObjOk P w H h a (.ext fun h => ∃ (oe : Obj) (vs : Array Value), h.get? a = some oe ∧ Zc cls d oe ∧ oe.data = .fields vs) := ok a _ e
  exact z.1
section
variable {X : Cx} {pins : List (Addr × Obj)} {σ : L2.St} {H : Hp} {s : Shared}
theorem adopt {a : Addr} {cls : Value} {d : Option Addr} {oe : Obj} {vs : Array Value} (I : Inv X pins σ H s) (ha : s.heap.get? a = some oe) (hz : Zc cls d oe) (hd : oe.data = .fields vs) (na : H a = none) (nL : a ≠ X.env.locals)
    (n0 : X.s_0.heap.get? a = none) (np : ∀ p ∈ X.pn ++ pins, p.1 ≠ a) : Inv X pins σ (upd H a (ExK cls d a)) s where
  ok := I.ok
  os := I.os
  bare := I.bare
  base :=
    { keep := I.base.keep
      slot := I.base.slot
      free := fun b o e n hx => (upd_ne (fun z => by rw [z, n0] at e; cases e)).trans (I.base.free b o e n hx)
      there := I.base.there
      tups := fun b xs q => (upd_ne (ne_of_none (I.base.tups b xs q) na)).trans (I.base.tups b xs q)
      frzs := fun b o u q => (upd_ne (ne_of_none (I.base.frzs b o u q) na)).trans (I.base.frzs b o u q)
      tbls := fun b ps q => by
        obtain ⟨more, e⟩ := I.base.tbls b ps q
        exact ⟨more, (upd_ne (ne_of_none e na)).trans e⟩ }
  loc := I.loc
  cell := I.cell
  free := (upd_ne (Ne.symm nL)).trans I.free
  freeC := fun x c e => (upd_ne (fun z => by
    obtain ⟨v, o, ho, hc⟩ := I.cell x c e
    rw [z, ha] at ho
    cases ho
    rw [hd] at hc
    cases hc)).trans (I.freeC x c e)
  pin := fun p hp => by
    obtain ⟨q1, q2, q3, q4, q5⟩ := I.pin p hp
    exact ⟨q1, (upd_ne (np p hp)).trans q2, q3, q4, q5⟩
  hok := fun b o e => by
    by_cases hb : b = a
    · subst hb
      rw [upd_same] at e
      cases e
      exact exk_ok ha hz hd
    · rw [upd_ne hb] at e
      exact (I.hok b o e).stay (fun _ _ _ q => q) (fun c q => (upd_ne (ne_of_none q na)).trans q) fun c xs q => (upd_ne (ne_of_none q na)).trans q
  len := I.len
theorem in_suite {a : Addr} (I : Inv X pins σ H s) : Inv (X.suite a (X.pn ++ pins)) [] σ H s :=
  ⟨I.ok.suite _ _, I.os, I.bare, I.base, I.loc, I.cell, I.free, I.freeC, fun p hp => I.pin p ((List.append_nil (X.pn ++ pins)) ▸ hp), I.hok, I.len⟩
theorem of_suite {a : Addr} {pn' : List (Addr × Obj)} (I : Inv (X.suite a (X.pn ++ pins)) pn' σ H s) (ok : X.Ok) : Inv X pins σ H s :=
  ⟨ok, I.os, I.bare, I.base, I.loc, I.cell, I.free, I.freeC, fun p hp => I.pin p (List.mem_append_left _ hp), I.hok, I.len⟩
end
theorem flying_kept {B h h' : Heap} {l : List Env} {a : Addr} {Z : Obj → Prop} (x : HandSPX.FlyingZ B l a Z h) (k : ∀ b o, h.get? b = some o → h'.get? b = some o) : HandSPX.FlyingZ B l a Z h' := by
  obtain ⟨k1, k2, k3, oe, vs, T, oT, ts, h1, h2, h3, h4, h5, h6, h7, h8, h9⟩ := x
  exact ⟨fun b o e => k b o (k1 b o e), k2, k3.of_keeps fun b o e _ => ⟨o, k b o e, rfl⟩, oe, vs, T, oT, ts, k a _ h1, h2, h3, h4, h5, h6, k T _ h7, h8, h9⟩
/-- what 'except (x1, x2, x3) as n' wishes: it takes the exception; slot i is n's -/
def wIn (K : PySem.W.Frag) (m : Nat) (cs : List Value) (i : Nat) (ts : TS) (D : Ends) : WX := fun cls d σ H =>
  PySem.W.exmAny K cls cs = some true ∧ ∀ a, H a = none → σ.length = m → ts { nx := fun σ' H' => D.nx (σ'.set i none) H', rt := D.rt, bk := fun σ' H' => D.bk (σ'.set i none) H', ct := fun σ' H' => D.ct (σ'.set i none) H' } (σ.set i (some (.ref a))) (upd H a (ExK cls d a))
section
variable {X : Cx} {x1 x2 x3 n : Str} {C1 C2 C3 : Addr} {i : Nat} {body suite : List Stmt} {b₀ : Stmt} {q1 q2 q3 qt pos pos' : Pos} {tb : WX → TS} {ts : TS}
theorem ps_try3 {cx} (hs : X.stack = X.env :: X.outer) (hf : X.env.frame = some X.env.locals) (hex : X.ex = []) (hN : X.N.Nodup) (hi : X.N[i]? = some n) (hln : X.env.kindOf n = some .local)
    (g1 : Gl X x1) (m1 : X.mg x1 = some (.ref C1)) (g2 : Gl X x2) (m2 : X.mg x2 = some (.ref C2)) (g3 : Gl X x3) (m3 : X.mg x3 = some (.ref C3))
    (hb : ∀ (W : WX) (pn : List (Addr × Obj)) (xe : Value → Shared → Prop), Takes (X.tr pn xe) W → PassesOwn (model X.prog X.w) X.A X.env xe → PSs (X.tr pn xe) body (tb W))
    (hsu : ∀ (a : Addr) (pn : List (Addr × Obj)), PSs (X.suite a pn) (b₀ :: suite) ts)
    (d1 : (x1 == ("__debug__" : Str)) = false := by decide) (d2 : (x2 == ("__debug__" : Str)) = false := by decide) (d3 : (x3 == ("__debug__" : Str)) = false := by decide) :
    PS X (.Try body [.ExceptHandler (some (.Tuple [.Name x1 q1, .Name x2 q2, .Name x3 q3] cx qt)) (some n) (b₀ :: suite) pos'] [] [] pos) (fun D σ H => tb (wIn X.K X.N.length [.ref C1, .ref C2, .ref C3] i ts D) D σ H) := by
  refine ⟨fun pins s σ H D I h => wpAny_Try_except ?_⟩
  have ok := I.ok
  have fr : X.A.frames = some (X.env :: X.outer) := ok.frames.trans (congrArg some hs)
  have hl : Loc X.env.scope n := .inl hln
  generalize hhd : [ExceptHandler.ExceptHandler (some (.Tuple [.Name x1 q1, .Name x2 q2, .Name x3 q3] cx qt)) (some n) (b₀ :: suite) pos'] = hd
  let xe' : Value → Shared → Prop := fun e s1 => wpAny (model X.prog X.w) X.A (noteFrame e X.env)
    (fun _ s2 => wpAny (model X.prog X.w) X.A (setFlight e none)
      (fun _ s3 => wpAny (model X.prog X.w) X.A (handleBy e X.env hd) (SP X pins D) X.xe s3) X.xe s2) X.xe s1
  have caught : Takes (X.tr (X.pn ++ pins) xe') (wIn X.K X.N.length [.ref C1, .ref C2, .ref C3] i ts D) := by
    rintro u s' ⟨a, B, sI, pins', σ', H', cls, d, rfl, J', nb, up, sky, na, os, ag, w1, w2⟩
    have J : Inv X pins σ' H' sI := J'.ofTry ok
    have sk : Sky B (X.env :: X.outer) a (Zc cls d) X.env.locals s'.heap := hs ▸ sky
    show wpAny (model X.prog X.w) X.A (noteFrame (.ref a) X.env) _ _ _
    refine Sky.land Zc.steady fr hf sk fun h3 fl up3 => ?_
    have J3 : Inv X pins σ' H' { s' with heap := h3 } := J.landed nb fl.1 (up.trans up3) os ag
    obtain ⟨oe, vs, he, hz, hdt⟩ := fl.there
    have out : a ∉ frs (X.env :: X.outer) := fun hm => by
      obtain ⟨_, o, e', hn⟩ := fl.2.2.1.mem hm
      rw [he] at e'
      cases e'
      exact hn _ hdt
    have nL : a ≠ X.env.locals := fun z => out (List.mem_filterMap.mpr ⟨X.env, List.mem_cons_self, hf.trans (congrArg some z.symm)⟩)
    have nB : B.get? a = none := fl.2.1
    have notI : ∀ o, sI.heap.get? a ≠ some o := fun o e => by
      rw [nb a o e (hs ▸ out)] at nB
      cases nB
    have n0 : X.s_0.heap.get? a = none := by
      cases e : X.s_0.heap.get? a with
      | none => rfl
      | some o =>
        obtain ⟨o', e'⟩ := J.base.there a o e (by rw [hex]; exact List.not_mem_nil)
        exact absurd e' (notI o')
    have np : ∀ p ∈ X.pn ++ pins, p.1 ≠ a := fun p hp z => notI p.2 (z ▸ (J.pin p hp).1)
    subst hhd
    refine wpAny_handleBy_cons (codeAny_handlers_test ?_) (fun q => by cases q)
    have S3 : Inv (X.suite a (X.pn ++ pins)) [] σ' H' { s' with heap := h3 } := in_suite J3
    refine wpAny_Tuple_spliced (Calls.spliced_cons (ld_glob (X := X.suite a (X.pn ++ pins)) S3 g1 m1 ?_ d1))
    refine Calls.spliced_cons (ld_glob (X := X.suite a (X.pn ++ pins)) S3 g2 m2 ?_ d2)
    refine Calls.spliced_cons (ld_glob (X := X.suite a (X.pn ++ pins)) S3 g3 m3 ?_ d3)
    refine Calls.spliced_nil ⟨(show 3 ≤ sizeLine by decide), ?_⟩
    have kp : ∀ b o, h3.get? b = some o → (h3.push { cls := .type "tuple", data := .seq [Value.ref C1, .ref C2, .ref C3].toArray }).get? b = some o := fun b o e => Heap.get?_push_of_some _ e
    have tp := Heap.get?_push_size h3 (o := { cls := .type "tuple", data := .seq [Value.ref C1, .ref C2, .ref C3].toArray }) rfl
    have fl2 := flying_kept fl kp
    generalize (h3.push { cls := .type "tuple", data := .seq [Value.ref C1, .ref C2, .ref C3].toArray }) = h4 at kp tp fl2
    have up4 : h3.UpToSlots h4 := .of_keeps kp
    have ty : PySem.W.Looks (model X.prog X.w) h4 (typeOf (.ref a)) cls := fun _ _ _ _ k q => wpAny_typeOf_ref (k _ _ (kp _ _ he)) (by rw [hz.1]; exact q)
    refine (PySem.W.exm_tup3 (M := model X.prog X.w) (J3.kIn.keeps kp) ty tp w1).here ?_
    refine codeAny_handlers_suite_as ?_
    refine HandSPX.lands_againZ fl2 fun h5 fl5 up5 => ?_
    have J5 : Inv X pins σ' H' { s' with heap := h5 } := J.landed nb fl5.1 (((up.trans up3).trans up4).trans up5) os ag
    obtain ⟨oe5, vs5, he5, hz5, hd5⟩ := fl5.there
    have S5 : Inv (X.suite a (X.pn ++ pins)) [] σ' (upd H' a (ExK cls d a)) { s' with heap := h5 } := in_suite (adopt J5 he5 hz5 hd5 na nL n0 np)
    refine store_ok (X := X.suite a (X.pn ++ pins)) (v := .ref a) S5 hN hi hl rfl (fun s6 S6 => ?_) (.inr hln)
    refine wpAny_mono ((hsu a (X.pn ++ pins)).run [] s6 _ _ _ S6 (w2 a na J.len)) (fun f s7 hsp => ?_) (fun _ _ z => False.elim z)
    have gone : ∀ {σ7 : L2.St} {H7 : Hp} {Q : Shared → Prop}, Inv (X.suite a (X.pn ++ pins)) [] σ7 H7 s7 → (∀ s8, Inv X pins (σ7.set i none) H7 s8 → Q s8) →
        wpAny (model X.prog X.w) X.A (do bindName X.env n .none; unbindBehindTheSuite X.env n pos') (fun _ s8 => Q s8) X.xe s7 := fun S7 hq => gone_ok (of_suite S7 ok) hN hi hln hq
    cases f with
    | next =>
      obtain ⟨σ7, H7, S7, q7⟩ := hsp
      exact gone S7 fun _ J8 => ⟨_, _, J8, q7⟩
    | brk =>
      obtain ⟨σ7, H7, S7, q7⟩ := hsp
      exact gone S7 fun _ J8 => ⟨_, _, J8, q7⟩
    | cont =>
      obtain ⟨σ7, H7, S7, q7⟩ := hsp
      exact gone S7 fun _ J8 => ⟨_, _, J8, q7⟩
    | ret u =>
      obtain ⟨v7, σ7, H7, S7, r7, q7⟩ := hsp
      exact gone S7 fun _ J8 => ⟨_, _, _, J8, r7, q7⟩
  refine wpAny_mono ((hb _ (X.pn ++ pins) xe' caught PassesOwn.looking).run [] s σ H D (I.toTry _) h) (fun f s1 hsp => ?_) (fun _ _ z => z)
  cases f with
  | next =>
    obtain ⟨σ2, H2, J2, q⟩ := hsp
    exact wpAny_execs_nil ⟨σ2, H2, J2.ofTry ok, q⟩
  | brk =>
    obtain ⟨σ2, H2, J2, q⟩ := hsp
    exact ⟨σ2, H2, J2.ofTry ok, q⟩
  | cont =>
    obtain ⟨σ2, H2, J2, q⟩ := hsp
    exact ⟨σ2, H2, J2.ofTry ok, q⟩
  | ret u =>
    obtain ⟨v, σ2, H2, J2, r, q⟩ := hsp
    exact ⟨v, σ2, H2, J2.ofTry ok, r, q⟩
end
/-! ### a field of such a thing -/
def tXk (K : PySem.W.Frag) (f : Str) (te : TE) : TE := fun σ H Q => te σ H fun x H1 => ∃ (a C dd : Addr) (fs : List (Str × V)) (v : V), x = .ref a ∧ H1 a = some (ExK (.ref C) (some dd) a) ∧ H1 dd = some (.xd fs) ∧
  XfC K C ∧ PySem.W.findIn K (.ref C) f = some none ∧ fs.lookup f = some v ∧ Q v H1
theorem pe_xk {X : Cx} {e : Expr} {te : TE} {pos : Pos} {f : Str} (he : PE X e te) (hb : attributeBase e f X.env (eval e X.env) = eval e X.env := by rfl) : PE X (.Attribute e f pos) (tXk X.K f te) := by
  refine ⟨fun pins s σ H Q I h => attr_of hb (thn (he.run pins s σ H _ I h) fun u s1 hh => ?_)⟩
  obtain ⟨x, H1, I1, rx, a, C, dd, fs, v, ex, ea, ed, T, hno, l, q⟩ := hh
  subst ex
  obtain rfl : u = Value.ref a := rx
  obtain ⟨oe, vs, ha, hz, hd⟩ := exk_at I1.hok ea
  have hx : ObjOk X.prog X.w H1 s1.heap dd (.xd fs) := I1.hok dd _ ed
  obtain ⟨mA, hns, hr⟩ := hx
  obtain ⟨od, ho, hl⟩ := lookIn_ns hns
  obtain ⟨u, hu, ru⟩ := RelO.some_of (v := v) (o := mA f) (by rw [← l]; exact hr f)
  have J : PySem.W.InstAt s1.heap a oe C (some od) := ⟨ha, hz.1, (by unfold PySem.W.notCls; rw [hd] <;> rfl), (by rw [hz.2]; exact ho)⟩
  exact HandSPX.exc_get I1.kIn J T.ga T.gg T.exC (PySem.W.findObj_own T.hdC hno rfl ((hl f).trans (congrArg some hu))) (handed_of ru)
    ⟨v, H1, I1.tok _, ru, q⟩
end FW
namespace FW
open PySem PySem.Spec PyProof.Rows L2
/-! ### defs that are called while an exception is handled; they raise nothing -/
structure FnW (P : Program) (w : World) (K : PySem.W.Frag) (mg : Str → Option Value) (base : Heap) (k : Nat) (f : Addr) (fd : FuncData) (ps : List Str) (sp : Sp) : Prop where
  len : ∀ vs H Q E, sp vs H Q E → vs.length = ps.length
  run : ∀ (A : Around) (outer : List Env) (s : Shared) (H : Hp) (args : Args) (us : List Value) (vs : List V) (Q : VK), L2H.RoomH k A → Env0 P w K mg base A outer s H → BindsTo s fd args (ps.zip us) → Vals vs us → sp vs H Q E0 →
    codeAny (model P w) A (.call (.ref f) args) (CR L2.CX0 outer P w H s Q E0) s
section
variable {P : Program} {w : World} {K : PySem.W.Frag} {mg : Str → Option Value} {base : Heap}
theorem okW {x qual : Str} {st : Stmt} {f : Addr} {fd : FuncData} {N ps : List Str} {k : Nat} {sp : Sp} (F : Fun K x qual st f fd) (S : FnScope N ps (defScope st)) (len : ∀ vs H Q E, sp vs H Q E → vs.length = ps.length)
    (hbody : ∀ (cdv : Value) (A : Around) (outer : List Env) (s : Shared) (H : Hp) (vs : List V) (Q : VK) (p : Addr × Obj), L2H.RoomH k (A.deeper (envOfC qual (defScope st) s.heap.objs.size f cdv)) → sp vs H Q E0 →
      ∃ t, PSs (L2H.cxH L2.CX0 P w K mg base N qual (defScope st) f cdv A outer s H E0 p).nox (defBody st) t ∧ t { nx := fun _ H' => Q .non H', rt := Q } (L2.start N vs) H) : FnW P w K mg base (k + 1) f fd ps sp := by
  obtain ⟨oc, od, kV, doc, pm, an, cdv, ct, osl, rfl, lk, hcd⟩ := F.ex
  refine ⟨len, fun A outer s H args us vs Q hr e0 hb r hsp => ?_⟩
  have there : ∀ b o, K.lookup b = some o → s.heap.get? b = some o ∧ H b = none := fun b o e => e0.bs b o (e0.mod.kin b o e)
  obtain ⟨fat, fnn⟩ := there _ _ lk
  have nfr : f ∉ frs outer := fun hm => by
    have z := (e0.funs.mem hm).1
    rw [e0.mod.kin _ _ lk] at z
    cases z
  have pin : L2H.PinOk outer H s (f, _) := ⟨fat, fnn, nfr, fun v z => by cases z⟩
  have KX : K.In s.heap := fun b o e => (there b o e).1
  have ks : ∀ y ∈ ps.zip us, (defScope st).names.lookup y.1 = some .local ∨ ((defScope st).names.lookup y.1 = some .cell ∧ ((cellsFrom (s.heap.objs.size + 1) (defScope st).names []).lookup y.1).isSome = true) := by
    rintro ⟨n, v⟩ hy
    exact (S.par n (List.of_mem_zip hy).1).imp id fun q => ⟨q, PySem.W.cellsFrom_some _ _ _ (.inl q)⟩
  refine codeAny_call_function hr.depth fat rfl S.co S.gen rfl (PySem.W.codeRec_of KX hcd) (hb _ _ _ _ ?_)
  refine wpAny_newFunctionEnv_cells S.kind ks fun env he s1 x => ?_
  subst he
  refine ⟨(e0.mod.nolimit.keeps fun b o e => (e0.bs b o e).1).keeps x.toInCall.keep, codeAny_func ?_⟩
  obtain ⟨t, ht, hq⟩ := hbody cdv A outer s H vs Q _ (hr.deeper _) hsp
  have I := L2H.inv_startH (CX := L2.CX0) (E := E0) (base := base) (mg := mg) (w := w) (P := P) S pin e0 (len _ _ _ _ hsp) r x
  refine wpAny_mono (ht.nox.run [] s1 _ H _ I hq) (fun fl s' hs => ?_) (fun _ _ hs => hs)
  cases fl with
  | ret u =>
    obtain ⟨v, σ', H', J, rv, q⟩ := hs
    exact ⟨v, H', J.os, J.bare, J.base, J.hok, rv, q⟩
  | next =>
    obtain ⟨σ', H', J, q⟩ := hs
    exact ⟨V.non, H', J.os, J.bare, J.base, J.hok, rfl, q⟩
  | brk =>
    obtain ⟨_, _, _, q⟩ := hs
    exact q.elim
  | cont =>
    obtain ⟨_, _, _, q⟩ := hs
    exact q.elim
end
section
variable {X : Cx} {k : Nat} {f : Addr} {fd : FuncData} {ps : List Str} {sp : Sp} {x : Str} {p pos : Pos} {e : Expr} {es : List Expr} {t : TA}
theorem pe_callW (F : FnW X.prog X.w X.K X.mg X.base k f fd ps sp) (hr : L2H.RoomH k X.A) (hg : Gl X x) (hm : X.mg x = some (.ref f)) (hk : PySem.W.keepIn X.K (.ref f) = true) (hb : Binds X.K fd ps [])
    (ha : PA X (e :: es) t) (hdb : (x == ("__debug__" : Str)) = false := by decide) (he : starEach (e :: es) X.env = (false, eval e X.env) :: starEach es X.env := by rfl)
    (hpl : (backTo pos (starEach es X.env)).any (·.1) = false := by rfl) : PE X (.Call (.Name x p) (e :: es) [] pos) (fun σ H Q => t σ H fun vs H1 => sp vs H1 Q E0) := by
  refine ⟨fun pins s σ H Q I h => wpAny_Call_Name_kw (ld_glob I hg hm ?_ hdb)⟩
  refine PySem.W.callWith_K (h₀ := X.base) I.ok.mod.kin hk (thn (ha.run pos pins s σ H _ I h) ?_) he hpl
  rintro us s1 ⟨vs, H1, I1, r, q⟩
  have hl : us.length = ps.length := r.length.symm.trans (F.len _ _ _ _ q)
  have hb' : BindsTo s1 fd ⟨us, []⟩ (ps.zip us) := by
    have z := hb s1 us I1.kIn (by rw [List.append_nil]; exact hl)
    rwa [List.append_nil] at z
  refine ⟨I1.kIn, wpAny_call (codeAny_mono (F.run X.A X.stack s1 H1 ⟨us, []⟩ us vs Q hr I1.env0 hb' r q) fun r s' hq => ?_)⟩
  cases r with
  | error e => exact hq.elim
  | ok fl =>
    cases fl with
    | ret u => exact I1.after hq
    | next => exact hq.elim
    | brk => exact hq.elim
    | cont => exact hq.elim
end
end FW
namespace L2
open PySem PySem.Spec PySem.Calls PyProof.Rows
/-! ### a text unpacked into names -/
abbrev sgn (c : Nat) : V := .str ⟨#[c]⟩
section
variable {prog : Program} {w : World} {A : Around} {E : Value → Shared → Prop}
theorem draw_str {it : Addr} {x : Str} {t : Tok} {ty : String} (hty : ty = "str_ascii_iterator" ∨ ty = "str_iterator") : ∀ (n i : Nat) (s : Shared) (Q : List Value → Shared → Prop), s.heap.IsStrIter it ty x t i → i + n ≤ x.cps.size →
    (∀ h' tk us, h'.IsStrIter it ty x t (i + n) → Heap.SameBut it s.heap h' → Vals (((x.cps.toList.drop i).take n).map sgn) us → Q us { s with heap := h', toks := tk }) → wpAny (model prog w) A (draw (.ref it) n) Q E s
  | 0, i, s, Q, hit, _, hQ => by
    show wpAny _ _ (pure []) Q E s
    exact wpAny_pure (hQ s.heap s.toks [] hit (Heap.SameBut.refl ..) .nil)
  | n + 1, i, s, Q, hit, hle, hQ => by
    have hlt : i < x.cps.size := by omega
    show wpAny _ _ (pyNext (.ref it) >>= _) Q E s
    have hx : x.cps[i]? = some x.cps[i] := Array.getElem?_eq_getElem hlt
    have hd : x.cps.toList.drop i = x.cps[i] :: x.cps.toList.drop (i + 1) := by
      rw [List.drop_eq_getElem_cons (by simpa using hlt)]
      simp
    have go : ∀ h₁, h₁.IsStrIter it ty x t (i + 1) → Heap.SameBut it s.heap h₁ → wpAny (model prog w) A (match (some (.str ⟨#[x.cps[i]]⟩ s.toks) : Option Value) with
        | none => pure []
        | some v => do return v :: (← holding [v] (draw (.ref it) n))) Q E { s with heap := h₁, toks := s.toks + 1 } := fun h₁ hit₁ hs₁ => by
      refine wpAny_bind (wpAny_holding (draw_str hty n (i + 1) _ _ hit₁ (by omega) fun h₂ tk us hit₂ hs₂ r => wpAny_pure ?_))
      refine hQ h₂ tk _ (by rw [show i + (n + 1) = i + 1 + n by omega]; exact hit₂) (hs₁.trans hs₂) ?_
      rw [hd, List.take_succ_cons, List.map_cons]
      exact .cons ⟨_, rfl⟩ r
    rcases hty with e | e
    · subst e
      exact wpAny_bind (wpAny_pyNext_ascii_item hit hx fun h₁ hit₁ hs₁ => go h₁ hit₁ hs₁)
    · subst e
      exact wpAny_bind (wpAny_pyNext_wide_item hit hx fun h₁ hit₁ hs₁ => go h₁ hit₁ hs₁)
theorem items_str {x : Str} {t : Tok} {s : Shared} {Q : List Value → Shared → Prop} (hh : A.handled = none)
    (hQ : ∀ h' tk us, Heap.ExtBut s.heap.objs.size s.heap h' → Vals (x.cps.toList.map sgn) us → Q us { s with heap := h', toks := tk }) : wpAny (model prog w) A (unpackItems (.str x t) x.cps.size none) Q E s := by
  unfold unpackItems
  refine wpAny_bind ?_
  unfold notIterableAtAll
  refine wpAny_bind (wpAny_specialOf (typeIs_str s x t) F.slot_str_iter.lookup ?_)
  refine wpAny_pure ?_
  simp only [Bool.false_eq_true, if_false]
  have go : ∀ (ty : String), ty = "str_ascii_iterator" ∨ ty = "str_iterator" → ∀ s₁ : Shared, s₁ = { s with heap := s.heap.push { cls := .type ty, data := .fields #[.str x t, .int 0 0] } } → 
      wpAny (model prog w) A (do
        let items ← holding [.ref s.heap.objs.size] (draw (.ref s.heap.objs.size) x.cps.size)
        if items.length < x.cps.size then
          rule "unpack.too-few"; raiseError "ValueError" s!"not enough values to unpack (expected {x.cps.size}, got {items.length})"
        if (← holding items (pyNext (.ref s.heap.objs.size))).isSome then
          rule "unpack.too-many"; raiseError "ValueError" s!"too many values to unpack (expected {x.cps.size})"
        return items) Q E s₁ := fun ty hty s₁ hs => by
    subst hs
    have hit0 : (s.heap.push { cls := .type ty, data := .fields #[.str x t, .int 0 0] }).IsStrIter s.heap.objs.size ty x t 0 := ⟨_, Heap.get?_push_size _ rfl, rfl, rfl⟩
    refine wpAny_bind (wpAny_holding (draw_str hty x.cps.size 0 _ _ hit0 (by omega) fun h₁ tk us hit₁ hs₁ r => ?_))
    have hall : (x.cps.toList.drop 0).take x.cps.size = x.cps.toList := by
      rw [List.drop_zero]; exact List.take_of_length_le (by simp)
    rw [hall] at r
    have hl : us.length = x.cps.size := by rw [← r.length, List.length_map]; simp
    rw [if_neg (by omega)]
    have fin : ∀ h₂, Heap.ExtBut s.heap.objs.size h₁ h₂ → Heap.ExtBut s.heap.objs.size s.heap h₂ := fun h₂ he₂ b o hb e => he₂ b o hb (hs₁.extBut b o hb (Heap.get?_push_of_some _ e))
    have hend : x.cps[0 + x.cps.size]? = none := Array.getElem?_eq_none (by omega)
    rcases hty with e | e
    · subst e
      refine wpAny_bind (wpAny_holding (wpAny_pyNext_ascii_end (s := { s with heap := h₁, toks := tk }) hh hit₁ hend fun h₂ he₂ => ?_))
      simp only [Option.isSome_none, Bool.false_eq_true, if_false]
      exact wpAny_pure (hQ h₂ tk us (fin h₂ he₂) r)
    · subst e
      refine wpAny_bind (wpAny_holding (wpAny_pyNext_wide_end (s := { s with heap := h₁, toks := tk }) hh hit₁ hend fun h₂ he₂ => ?_))
      simp only [Option.isSome_none, Bool.false_eq_true, if_false]
      exact wpAny_pure (hQ h₂ tk us (fin h₂ he₂) r)
  cases ha : x.cps.all (· < 128)
  · exact wpAny_bind (wpAny_holding (wpAny_pyIter_wide ha (go _ (.inr rfl) _ rfl)))
  · exact wpAny_bind (wpAny_holding (wpAny_pyIter_ascii ha (go _ (.inl rfl) _ rfl)))
end
section
variable {X : Cx} {pos : Pos}
/-- (a, b, ..) = a text of that many signs -/
def gUstr (n : Nat) (t : TGs) : TG := fun v σ H Q => ∃ z : Str, v = .str z ∧ z.cps.size = n ∧ t (z.cps.toList.map sgn) σ H Q
theorem pg_ustr {es : List Expr} {k : Nat} {t : TGs} {n : Nat} (hc : X.calm = true) (h : PGs X es t)
    (hn : (assignEach es X.env).length = n := by rfl) (hst : (assignEach es X.env).findIdx? (·.1) = none := by rfl) : PG X (.Tuple es k pos) (gUstr n t) := by
  refine ⟨fun pins s σ H v u Q I r hw => ?_⟩
  obtain ⟨z, e1, hz, hw⟩ := hw
  subst e1
  obtain ⟨tk0, rfl⟩ := r
  have hn' : (assignEach es X.env).length = z.cps.size := hn.trans hz.symm
  rw [PyProof.Rows.assign_Tuple]
  refine wpAny_bind (wpAny_standAt ?_)
  unfold unpack
  rw [hn', hst]
  refine wpAny_bind (wpAny_holding (items_str (I.ok.hd hc) fun h' tk us hx r => ?_))
  have I1 : Inv X pins σ H { s with heap := h', toks := tk } := I.kept (t' := tk) fun b o e => hx b o (Nat.ne_of_lt (Heap.lt_size e)) e
  exact h.run pins _ σ H _ us Q I1 r hw
end
/-! ### a call by keywords alone -/
section
variable {X : Cx} {CX : CXT} {k : Nat} {f : Addr} {fd : FuncData} {ps ks : List Str} {sp : Sp} {E : XK} {x : Str} {p pos kpos : Pos} {e : Expr} {kws : List Keyword} {tk : TA} {nm : Option Str} {g : List Value → List Value → List Value} {gV : List V → List V → List V}
theorem pe_callK0 (F : FnOk X.prog X.w X.K X.mg X.base CX k f fd ps sp) (hr : Room k X.A) (hg : Gl X x) (hm : X.mg x = some (.ref f)) (hk : PySem.W.keepIn X.K (.ref f) = true) (hb : KBinds X.K fd ps ks g gV) (hx : Passes CX X E)
    (hkw : PK X kws tk) (hall : (backToKw pos (keywordEach kws X.env)).all (·.1.isSome) = true := by rfl) (hks : (backToKw pos (keywordEach kws X.env)).filterMap (·.1) = ks := by rfl)
    (hdb : (x == ("__debug__" : Str)) = false := by decide)
    (hpl : ((backTo pos (starEach [] X.env)).any (·.1) || (backToKw pos (keywordEach kws X.env)).any (·.1.isNone)) = false := by rfl) :
    PE X (.Call (.Name x p) [] kws pos) (tCallK sp gV E tNil tk) := by
  refine ⟨fun pins s σ H Q I h => ?_⟩
  refine wpAny_Call_Name_kw (ld_glob I hg hm ?_ hdb)
  refine PySem.W.callWith_KW0 (h₀ := X.base) I.ok.mod.kin hk hall (thn (hkw.run pos pins s σ H _ I h) fun ws s2 ⟨zs, H2, I2, rz, q2⟩ => ⟨I2.kIn, ?_⟩) hpl
  rw [hks]
  exact run_fnk F hr hb hx I2 .nil rz q2
end
/-! ### a def of the module, by its name -/
structure Cal (P : Program) (w : World) (K : PySem.W.Frag) (mg : Str → Option Value) (base : Heap) (CX : CXT) (k : Nat) (x : Str) (st : Stmt) (ps : List Str) (sp : Sp) : Prop where
  ex : ∃ (f : Addr) (fd : FuncData), FnOk P w K mg base CX k f fd ps sp ∧ mg x = some (.ref f) ∧ Fun K x x st f fd ∧ Binds K fd ps []
/-- how a call with keywords binds, for every such def's data -/
def KB (K : PySem.W.Frag) (x : Str) (st : Stmt) (ps ks : List Str) (g : List Value → List Value → List Value) (gV : List V → List V → List V) : Prop := ∀ (f : Addr) (fd : FuncData), Fun K x x st f fd → KBinds K fd ps ks g gV
section
variable {X : Cx} {CX : CXT} {k j : Nat} {x : Str} {st : Stmt} {ps ks : List Str} {sp : Sp} {E : XK} {p pos : Pos} {e : Expr} {es : List Expr} {kws : List Keyword} {t tk : TA} {g : List Value → List Value → List Value} {gV : List V → List V → List V}
theorem pe_cx (c : Cal X.prog X.w X.K X.mg X.base CX k x st ps sp) (hr : Room j X.A) (hk : k ≤ j) (hg : Gl X x) (hx : Passes CX X E) (ha : PA X (e :: es) t)
    (hdb : (x == ("__debug__" : Str)) = false := by decide) (he : starEach (e :: es) X.env = (false, eval e X.env) :: starEach es X.env := by rfl) (hpl : (backTo pos (starEach es X.env)).any (·.1) = false := by rfl) :
    PE X (.Call (.Name x p) (e :: es) [] pos) (tCall sp [] E t) := by
  obtain ⟨f, fd, F, hm, fn, b⟩ := c.ex
  exact pe_call F (hr.mono hk) hg hm fn.kp b .nil hx ha hdb he hpl
theorem pe_cx0 (c : Cal X.prog X.w X.K X.mg X.base CX k x st ps sp) (hr : Room j X.A) (hk : k ≤ j) (hg : Gl X x) (hx : Passes CX X E)
    (hdb : (x == ("__debug__" : Str)) = false := by decide) : PE X (.Call (.Name x p) [] [] pos) (tCall sp [] E tNil) := by
  obtain ⟨f, fd, F, hm, fn, b⟩ := c.ex
  exact pe_call0 F (hr.mono hk) hg hm fn.kp b .nil hx hdb
theorem pe_c (c : Cal X.prog X.w X.K X.mg X.base CX0 k x st ps sp) (hr : Room j X.A) (hk : k ≤ j) (hg : Gl X x) (ha : PA X (e :: es) t)
    (hdb : (x == ("__debug__" : Str)) = false := by decide) (he : starEach (e :: es) X.env = (false, eval e X.env) :: starEach es X.env := by rfl) (hpl : (backTo pos (starEach es X.env)).any (·.1) = false := by rfl) :
    PE X (.Call (.Name x p) (e :: es) [] pos) (tCall sp [] E0 t) := pe_cx c hr hk hg pass0 ha hdb he hpl
theorem pe_ck (c : Cal X.prog X.w X.K X.mg X.base CX0 k x st ps sp) (b : KB X.K x st ps ks g gV) (hr : Room j X.A) (hk : k ≤ j) (hg : Gl X x) (ha : PA X (e :: es) t) (hkw : PK X kws tk)
    (hall : (backToKw pos (keywordEach kws X.env)).all (·.1.isSome) = true := by rfl) (hks : (backToKw pos (keywordEach kws X.env)).filterMap (·.1) = ks := by rfl)
    (hdb : (x == ("__debug__" : Str)) = false := by decide) (he : starEach (e :: es) X.env = (false, eval e X.env) :: starEach es X.env := by rfl)
    (hpl : ((backTo pos (starEach (e :: es) X.env)).any (·.1) || (backToKw pos (keywordEach kws X.env)).any (·.1.isNone)) = false := by rfl) :
    PE X (.Call (.Name x p) (e :: es) kws pos) (tCallK sp gV E0 t tk) := by
  obtain ⟨f, fd, F, hm, fn, _⟩ := c.ex
  exact pe_callK F (hr.mono hk) hg hm fn.kp (b f fd fn) pass0 ha hkw hall hks hdb he hpl
theorem pe_ck0 (c : Cal X.prog X.w X.K X.mg X.base CX0 k x st ps sp) (b : KB X.K x st ps ks g gV) (hr : Room j X.A) (hk : k ≤ j) (hg : Gl X x) (hkw : PK X kws tk)
    (hall : (backToKw pos (keywordEach kws X.env)).all (·.1.isSome) = true := by rfl) (hks : (backToKw pos (keywordEach kws X.env)).filterMap (·.1) = ks := by rfl)
    (hdb : (x == ("__debug__" : Str)) = false := by decide) 
    (hpl : ((backTo pos (starEach [] X.env)).any (·.1) || (backToKw pos (keywordEach kws X.env)).any (·.1.isNone)) = false := by rfl) :
    PE X (.Call (.Name x p) [] kws pos) (tCallK sp gV E0 tNil tk) := by
  obtain ⟨f, fd, F, hm, fn, _⟩ := c.ex
  exact pe_callK0 F (hr.mono hk) hg hm fn.kp (b f fd fn) pass0 hkw hall hks hdb hpl
end
/-! ### heaps -/
theorem same_upd {H : Hp} {p : Addr} {o : HO} (h : H p = none) : Same H (upd H p o) := fun b x e => by
  rw [upd_ne (ne_of_none e h)]
  exact e
/-- all that was tracked but what stands at b -/
def But (b : Addr) (H H' : Hp) : Prop := ∀ a o, a ≠ b → H a = some o → H' a = some o
theorem But.refl (b : Addr) (H : Hp) : But b H H := fun _ _ _ h => h
theorem But.trans {b : Addr} {H H1 H2 : Hp} (x : But b H H1) (y : But b H1 H2) : But b H H2 := fun a o n h => y a o n (x a o n h)
theorem Same.but {b : Addr} {H H' : Hp} (x : Same H H') : But b H H' := fun a o _ h => x a o h
theorem But.seq {K : PySem.W.Frag} {b a : Addr} {H H' : Hp} {xs : List V} (e : But b H H') (n : a ≠ b) (h : SqL K H a xs) : SqL K H' a xs := by
  rcases h with (h | ⟨o, h⟩) | h
  · exact .inl (.inl (e _ _ n h))
  · exact .inl (.inr ⟨o, e _ _ n h⟩)
  · exact .inr h
theorem But.upd {b : Addr} {H0 H : Hp} {o : HO} (s : But b H0 H) : But b H0 (upd H b o) := fun a x n e => by
  rw [upd_ne n]
  exact s a x n e
theorem Same.tup {K : PySem.W.Frag} {a : Addr} {H H' : Hp} {xs : List V} (e : Same H H') (h : SqT K H a xs) : SqT K H' a xs := by
  rcases h with (h | ⟨o, h⟩) | h
  · exact .inl (.inl (e _ _ h))
  · exact .inl (.inr ⟨o, e _ _ h⟩)
  · exact .inr h
theorem But.tup {K : PySem.W.Frag} {b a : Addr} {H H' : Hp} {xs : List V} (e : But b H H') (n : a ≠ b) (h : SqT K H a xs) : SqT K H' a xs := by
  rcases h with (h | ⟨o, h⟩) | h
  · exact .inl (.inl (e _ _ n h))
  · exact .inl (.inr ⟨o, e _ _ n h⟩)
  · exact .inr h
end L2
namespace L2
open PySem PySem.Spec PySem.Calls PyProof.Rows
/-! ### zip of lists, tuples and texts in any mix -/
/-- what such a thing is: a list or a tuple at an address, a text -/
inductive SK where
  | l (a : Addr) | t (a : Addr) | s (x : Str) (k : Tok)
def SK.iter : SK → Addr → Nat → Heap → Prop
  | .l a, it, i, h => h.IsListIter it a i
  | .t a, it, i, h => h.IsTupleIter it a i
  | .s x k, it, i, h => h.IsStrIter it (strIterType x) x k i
def SK.at : SK → Addr → Prop
  | .l a, c => c = a
  | .t a, c => c = a
  | .s _ _, _ => False
def SK.val : SK → V
  | .l a => .ref a
  | .t a => .ref a
  | .s x _ => .str x
/-- its items, by the abstract heap -/
inductive Src (K : PySem.W.Frag) (H : Hp) : V → List V → Prop where
  | l {a : Addr} {xs : List V} (h : SqL K H a xs) : Src K H (.ref a) xs
  | t {a : Addr} {xs : List V} (h : SqT K H a xs) : Src K H (.ref a) xs
  | s {x : Str} {xs : List V} (h : xs = x.cps.toList.map sgn) : Src K H (.str x) xs
/-- .. of a known kind -/
def SK.src (K : PySem.W.Frag) (H : Hp) : SK → List V → Prop
  | .l a, xs => SqL K H a xs
  | .t a, xs => SqT K H a xs
  | .s x _, xs => xs = x.cps.toList.map sgn
def SK.obj : SK → Obj
  | .l a => { cls := .type "list_iterator", data := .fields #[.ref a, .int 0 0] }
  | .t a => { cls := .type "tuple_iterator", data := .fields #[.ref a, .int 0 0] }
  | .s x k => { cls := .type (strIterType x), data := .fields #[.str x k, .int 0 0] }
def SK.raw : SK → Value
  | .l a => .ref a
  | .t a => .ref a
  | .s x k => .str x k
theorem SK.iter_keep {k : SK} {it : Addr} {i : Nat} {h h' : Heap} (s : k.iter it i h) (q : ∀ o, h.get? it = some o → h'.get? it = some o) : k.iter it i h' := by
  cases k with
  | l a => exact Heap.IsListIter.at s q
  | t a => exact Heap.IsTupleIter.at s q
  | s x k => exact let ⟨o, ho, r⟩ := s; ⟨o, q o ho, r⟩
theorem SK.iter_obj {k : SK} {it : Addr} {i : Nat} {h : Heap} (s : k.iter it i h) : ∃ o, h.get? it = some o ∧ ∀ v, o.data ≠ .cell v := by
  cases k with
  | l a => obtain ⟨o, e, _, d⟩ := s; exact ⟨o, e, fun v q => by rw [d] at q; cases q⟩
  | t a => obtain ⟨o, e, _, d⟩ := s; exact ⟨o, e, fun v q => by rw [d] at q; cases q⟩
  | s x k => obtain ⟨o, e, _, d⟩ := s; exact ⟨o, e, fun v q => by rw [d] at q; cases q⟩
/-- what the iterator draws while the thing stands so -/
theorem SK.draws {X : Cx} {pins : List (Addr × Obj)} {σ : St} {H : Hp} {s : Shared} {k : SK} {it : Addr} {xs : List V} (I : Inv X pins σ H s) (hc : X.calm = true) (hs : k.src X.K H xs) (hn : ∀ c, k.at c → c ≠ it) :
    ∃ (fp : List Addr) (P : Nat → Value → Prop) (S : Nat → Heap → Prop), Draws X.prog X.w X.A.in1 it fp xs.length P S ∧ (∀ i, k.iter it i s.heap → S i s.heap) ∧ (∀ i h', S i h' → k.iter it i h') ∧
      (∀ i u, P i u → ∃ v, xs[i]? = some v ∧ RelV v u) ∧ it ∈ fp ∧ ∀ c ∈ fp, c = it ∨ k.at c := by
  have hh : X.A.in1.handled = none := I.ok.hd hc
  cases k with
  | l a =>
    obtain ⟨its, rv, p, _⟩ := I.list hs
    refine ⟨[it, a], fun i v => its.toArray[i]? = some v, fun i h => h.IsListIter it a i ∧ h.IsList a its.toArray, by rw [show xs.length = its.toArray.size from rv.length.trans (by simp)]; exact Draws.list hh it a (hn a rfl) its.toArray, fun i q => ⟨q, p.isList⟩, fun i h' q => q.1, fun i u q => ?_, by simp, fun c hc => by
      rcases List.mem_cons.mp hc with e | e
      · exact .inl e
      · exact .inr (List.mem_singleton.mp e)⟩
    have q : its.toArray[i]? = some u := q
    cases e : xs[i]? with
    | none =>
      have := rv.none_of e
      rw [List.getElem?_toArray, this] at q
      cases q
    | some v =>
      obtain ⟨w', h1, h2⟩ := rv.get e
      rw [List.getElem?_toArray, h1] at q
      cases q
      exact ⟨v, rfl, h2⟩
  | t a =>
    obtain ⟨its, rv, p, _⟩ := I.tuple hs
    refine ⟨[it, a], fun i v => its.toArray[i]? = some v, fun i h => h.IsTupleIter it a i ∧ h.IsTuple a its.toArray, by rw [show xs.length = its.toArray.size from rv.length.trans (by simp)]; exact Draws.tuple hh it a (hn a rfl) its.toArray, fun i q => ⟨q, show s.heap.IsTuple a its.toArray from p⟩, fun i h' q => q.1, fun i u q => ?_, by simp, fun c hc => by
      rcases List.mem_cons.mp hc with e | e
      · exact .inl e
      · exact .inr (List.mem_singleton.mp e)⟩
    have q : its.toArray[i]? = some u := q
    cases e : xs[i]? with
    | none =>
      have := rv.none_of e
      rw [List.getElem?_toArray, this] at q
      cases q
    | some v =>
      obtain ⟨w', h1, h2⟩ := rv.get e
      rw [List.getElem?_toArray, h1] at q
      cases q
      exact ⟨v, rfl, h2⟩
  | s x tk =>
    have hs' : xs = x.cps.toList.map sgn := hs
    subst hs'
    refine ⟨[it], fun i v => ∃ c u, x.cps[i]? = some c ∧ v = .str ⟨#[c]⟩ u, fun i h => h.IsStrIter it (strIterType x) x tk i, by rw [show (x.cps.toList.map sgn).length = x.cps.size by simp]; exact Draws.text hh it x tk, fun i q => q, fun i h' q => q, fun i u q => ?_, by simp, fun c hc => .inl (List.mem_singleton.mp hc)⟩
    obtain ⟨c, t, h1, rfl⟩ := q
    refine ⟨sgn c, ?_, ⟨t, rfl⟩⟩
    rw [List.getElem?_map, Array.getElem?_toList, h1]
    rfl
/-- the items as they stand at each turn, in new pairs -/
def ItzG (K : PySem.W.Frag) (k1 k2 : SK) : It :=
  ⟨fun i H => ∃ (xs ys : List V) (x y : V), k1.src K H xs ∧ k2.src K H ys ∧ xs[i]? = some x ∧ ys[i]? = some y,
    fun i H v H' => ∃ T x y, v = .ref T ∧ H T = none ∧ H' = upd H T (.tup [x, y]) ∧ (∀ xs, k1.src K H xs → xs[i]? = some x) ∧ ∀ ys, k2.src K H ys → ys[i]? = some y,
    fun i H => ∃ xs ys : List V, k1.src K H xs ∧ k2.src K H ys ∧ i ≤ xs.length ∧ i ≤ ys.length ∧ (i = xs.length ∨ i = ys.length)⟩
theorem SK.inj {X : Cx} {pins : List (Addr × Obj)} {σ : St} {H : Hp} {s : Shared} {k : SK} {xs ys : List V} (I : Inv X pins σ H s) (h1 : k.src X.K H xs) (h2 : k.src X.K H ys) : xs = ys := by
  cases k with
  | l a => exact I.list_inj h1 h2
  | t a => exact I.tuple_inj h1 h2
  | s x t => exact (show xs = _ from h1).trans (show ys = _ from h2).symm
theorem turn_zipG {P : Program} {w : World} {K : PySem.W.Frag} {elts : List Expr} {kk : Nat} {tpos : Pos} {z TI TO i1 i2 : Addr} {k1 k2 : SK}
    (d1 : TI ≠ z) (d2 : TO ≠ z) (d3 : TI ≠ TO) (d4 : TI ≠ i1) (d5 : TI ≠ i2) (d6 : z ≠ i1) (d7 : z ≠ i2) (d8 : TO ≠ i1) (d9 : TO ≠ i2) (d10 : i1 ≠ i2)
    (a1 : ∀ c, k1.at c → c ≠ z ∧ c ≠ TO ∧ c ≠ i1 ∧ c ≠ i2) (a2 : ∀ c, k2.at c → c ≠ z ∧ c ≠ TO ∧ c ≠ i1 ∧ c ≠ i2) :
    Turn P w K (.Tuple elts kk tpos) (ItzG K k1 k2) [z, TI, TO, i1, i2] z (fun i h => IsZip h z TI TO .none ∧ IsTupOf2 h TI (.ref i1) (.ref i2) ∧ (∃ x y, IsTupOf2 h TO x y) ∧ k1.iter i1 i h ∧ k2.iter i2 i h) where
  mem := by simp
  obj := fun i h st c hc => by
    obtain ⟨hz, hTI, ⟨x, y, hTO⟩, s1, s2⟩ := st
    have e' : c = z ∨ c = TI ∨ c = TO ∨ c = i1 ∨ c = i2 := by simpa using hc
    rcases e' with q | q | q | q | q
    · rw [q]; exact ⟨_, hz, fun v q => nomatch q⟩
    · rw [q]; exact ⟨_, hTI, fun v q => nomatch q⟩
    · rw [q]; exact ⟨_, hTO, fun v q => nomatch q⟩
    · rw [q]; exact SK.iter_obj s1
    · rw [q]; exact SK.iter_obj s2
  keep := fun i h h' st k => by
    obtain ⟨hz, hTI, ⟨x, y, hTO⟩, s1, s2⟩ := st
    exact ⟨k z (by simp) _ hz, k TI (by simp) _ hTI, ⟨x, y, k TO (by simp) _ hTO⟩, SK.iter_keep s1 fun o q => k i1 (by simp) o q, SK.iter_keep s2 fun o q => k i2 (by simp) o q⟩
  item := by
    intro X hP hw hK hc i pins s σ H E I hf st hg
    subst hP hw hK
    obtain ⟨hz, hTI, ⟨x0, y0, hTO⟩, s1, s2⟩ := st
    obtain ⟨xs, ys, x, y, hqx, hqy, hx, hy⟩ := hg
    obtain ⟨fp1, P1, S1, D1, g1, b1, r1, m1, f1⟩ := SK.draws I hc hqx fun c q => (a1 c q).2.2.1
    obtain ⟨fp2, P2, S2, D2, g2, b2, r2, m2, f2⟩ := SK.draws I hc hqy fun c q => (a2 c q).2.2.2
    have Z : ZipSep2 z TI TO i1 i2 fp1 fp2 :=
      { TIz := d1, TOz := d2, TITO := d3, TIi1 := d4, mem1 := m1, TIi2 := d5, mem2 := m2,
        zf1 := fun q => by rcases f1 z q with e | e; exact d6 e; exact (a1 z e).1 rfl
        Tf1 := fun q => by rcases f1 TO q with e | e; exact d8 e; exact (a1 TO e).2.1 rfl
        zf2 := fun q => by rcases f2 z q with e | e; exact d7 e; exact (a2 z e).1 rfl
        Tf2 := fun q => by rcases f2 TO q with e | e; exact d9 e; exact (a2 TO e).2.1 rfl
        sep1_2 := fun q => by rcases f2 i1 q with e | e; exact d10 e; exact (a2 i1 e).2.2.1 rfl
        sep2_1 := fun q => by rcases f1 i2 q with e | e; exact d10 e.symm; exact (a1 i2 e).2.2.2 rfl }
    have lx : i < xs.length := (List.getElem?_eq_some_iff.mp hx).1
    have ly : i < ys.length := (List.getElem?_eq_some_iff.mp hy).1
    have hzl : z < s.heap.objs.size := Heap.lt_size hz
    refine wpAny_pyNext_zipD2_item Z D1 D2 hz hTI hTO (g1 i s1) (g2 i s2) lx ly fun u1 u2 h' tk p1 p2 z' TO' s1' s2' hT hsz hk => ?_
    obtain ⟨v1, e1, ru⟩ := r1 i u1 p1
    obtain ⟨v2, e2, ru2⟩ := r2 i u2 p2
    have ev1 : v1 = x := Option.some.inj (e1.symm.trans hx)
    have ev2 : v2 = y := Option.some.inj (e2.symm.trans hy)
    subst ev1 ev2
    refine ⟨_, rfl, wpAny_letOwnedTupleGo_zip (s := { s with heap := h', toks := tk }) z' fun h'' z'' sb => ?_⟩
    have hT2 : h''.get? s.heap.objs.size = some { cls := .type "tuple", data := .seq #[u1, u2] } := (sb.2 _ (Nat.ne_of_gt hzl)).trans hT
    have new : ObjOk X.prog X.w (upd H s.heap.objs.size (.tup [v1, v2])) h'' s.heap.objs.size (.tup [v1, v2]) :=
      ⟨by show 2 ≤ sizeLine; decide, [u1, u2], .cons ru (.cons ru2 .nil), ⟨_, hT2, rfl, _, rfl⟩⟩
    have I1 : Inv X pins σ (upd H s.heap.objs.size (.tup [v1, v2])) { s with heap := h'', toks := tk } :=
      I.turnedNew (t' := tk) (ch := [z, TI, TO, i1, i2]) (fun c o hb q => (sb.2 c (fun q' => hb (by simp [q']))).trans (hk c o (fun q' => hb (by simp [q'])) (fun q' => hb (by simp [q'])) (fun q' => hb (by simp [q'])) (fun q' => hb (by simp [q'])) q)) hf (Nat.le_refl _) new
    refine ⟨.ref s.heap.objs.size, _, I1, rfl, ⟨_, v1, v2, rfl, I.hok.fresh (Nat.le_refl _), rfl, fun l hl => by rw [SK.inj I hl hqx]; exact hx, fun l hl => by rw [SK.inj I hl hqy]; exact hy⟩, ⟨z'', ?_, ⟨u1, u2, ?_⟩, ?_, ?_⟩, fun c hcm => ?_⟩
    · exact (sb.2 _ d1).trans (hk _ _ d1 d3 d4 d5 hTI)
    · exact (sb.2 _ d2).trans TO'
    · exact SK.iter_keep (b1 _ _ s1') fun o q => (sb.2 _ d6.symm).trans q
    · exact SK.iter_keep (b2 _ _ s2') fun o q => (sb.2 _ d7.symm).trans q
    · have hlt : c < s.heap.objs.size := by
        have e' : c = z ∨ c = TI ∨ c = TO ∨ c = i1 ∨ c = i2 := by simpa using hcm
        rcases e' with q | q | q | q | q
        · rw [q]; exact hzl
        · rw [q]; exact Heap.lt_size hTI
        · rw [q]; exact Heap.lt_size hTO
        · rw [q]; obtain ⟨_, e, _⟩ := SK.iter_obj s1; exact Heap.lt_size e
        · rw [q]; obtain ⟨_, e, _⟩ := SK.iter_obj s2; exact Heap.lt_size e
      rw [upd_ne (Nat.ne_of_lt hlt)]
      exact (hf c hcm).1
  done := by
    intro X hP hw hK hc i pins s σ H E I hf st hg
    subst hP hw hK
    obtain ⟨hz, hTI, ⟨x0, y0, hTO⟩, s1, s2⟩ := st
    obtain ⟨xs, ys, hqx, hqy, hlx, hly, hend⟩ := hg
    obtain ⟨fp1, P1, S1, D1, g1, b1, r1, m1, f1⟩ := SK.draws I hc hqx fun c q => (a1 c q).2.2.1
    obtain ⟨fp2, P2, S2, D2, g2, b2, r2, m2, f2⟩ := SK.draws I hc hqy fun c q => (a2 c q).2.2.2
    have Z : ZipSep2 z TI TO i1 i2 fp1 fp2 :=
      { TIz := d1, TOz := d2, TITO := d3, TIi1 := d4, mem1 := m1, TIi2 := d5, mem2 := m2,
        zf1 := fun q => by rcases f1 z q with e | e; exact d6 e; exact (a1 z e).1 rfl
        Tf1 := fun q => by rcases f1 TO q with e | e; exact d8 e; exact (a1 TO e).2.1 rfl
        zf2 := fun q => by rcases f2 z q with e | e; exact d7 e; exact (a2 z e).1 rfl
        Tf2 := fun q => by rcases f2 TO q with e | e; exact d9 e; exact (a2 TO e).2.1 rfl
        sep1_2 := fun q => by rcases f2 i1 q with e | e; exact d10 e; exact (a2 i1 e).2.2.1 rfl
        sep2_1 := fun q => by rcases f1 i2 q with e | e; exact d10 e.symm; exact (a1 i2 e).2.2.2 rfl }
    exact wpAny_pyNext_zipD2_end Z D1 D2 hz hTI hTO (g1 i s1) (g2 i s2) hlx hly hend fun h' tk hk => ⟨rfl, I.turnedL (t' := tk) (ch := [z, TI, TO, i1, i2]) (fun c o hb q =>
      hk c o (fun q' => hb (by simp [q'])) (fun q' => hb (by simp [q'])) (fun q' => hb (by simp [q'])) (fun q' => hb (by simp [q'])) q) hf⟩
  self := fun A i s Q E st h => wpAny_pyIter_zip st.1 h
def iZipG (K : PySem.W.Frag) (ta : TA) : TI := fun σ H R => ta σ H fun vs H1 => ∃ (x y : V) (xs ys : List V), vs = [x, y] ∧ Src K H1 x xs ∧ Src K H1 y ys ∧
  ∀ k1 k2 : SK, k1.val = x → k2.val = y → k1.src K H1 xs → k2.src K H1 ys → R (ItzG K k1 k2) H1
/-- the kind of a value with items -/
theorem Src.kind {X : Cx} {pins : List (Addr × Obj)} {σ : St} {H : Hp} {s : Shared} {x : V} {u : Value} {xs : List V} (I : Inv X pins σ H s) (h : Src X.K H x xs) (r : RelV x u) :
    ∃ k : SK, k.val = x ∧ k.raw = u ∧ k.src X.K H xs ∧ (∀ c, k.at c → c < s.heap.objs.size) ∧ ∃ B : Heap → Prop, Begins u k.obj B ∧ B s.heap := by
  cases h with
  | @l a xs h =>
    cases (show u = Value.ref a from r)
    obtain ⟨its, rv, p, _⟩ := I.list h
    exact ⟨.l a, rfl, rfl, h, fun c e => by rw [show c = a from e]; exact p.lt, _, begins_list a its.toArray, p.isList⟩
  | @t a xs h =>
    cases (show u = Value.ref a from r)
    obtain ⟨its, rv, p, _⟩ := I.tuple h
    have p' : s.heap.IsTuple a its.toArray := p
    exact ⟨.t a, rfl, rfl, h, fun c e => by rw [show c = a from e]; obtain ⟨o, e, _⟩ := p'; exact Heap.lt_size e, _, begins_tuple a its.toArray, p'⟩
  | @s z xs h =>
    obtain ⟨t, rfl⟩ := (show ∃ t, u = Value.str z t from r)
    exact ⟨.s z t, rfl, rfl, h, fun c e => False.elim e, _, begins_text z t, trivial⟩
theorem SK.begun {k : SK} {it : Addr} {h : Heap} (e : h.get? it = some k.obj) : k.iter it 0 h := by
  cases k with
  | l a => exact ⟨_, e, rfl, rfl⟩
  | t a => exact ⟨_, e, rfl, rfl⟩
  | s x t => exact ⟨_, e, rfl, rfl⟩
theorem neN {a b : Nat} (h : a < b ∨ b < a) : a ≠ b := by omega
theorem pi_zipG {X : Cx} {e e2 : Expr} {ta : TA} {p pos tpos : Pos} {elts : List Expr} {kk : Nat} (hg : Gl X "zip") (hm : X.mg "zip" = none) (ha : PA X [e, e2] ta)
    (hs : starEach [e, e2] X.env = (false, eval e X.env) :: starEach [e2] X.env := by rfl) (hpl : (backTo pos (starEach [e2] X.env)).any (·.1) = false := by rfl) :
    PI X (.Tuple elts kk tpos) (.Call (.Name "zip" p) [e, e2] [] pos) (iZipG X.K ta) := by
  refine ⟨fun pins s σ H R I h => ?_⟩
  refine Call_ (ld_blt I hg hm PyProof.Rows.boot_zip (PyProof.Rows.callWith_type1 (thn (ha.run pos pins s σ H _ I h) fun us s1 ⟨vs, H1, I1, r1, q1⟩ => ?_) hs hpl))
  obtain ⟨x, y, xs, ys, ex, sx, sy, q⟩ := q1
  subst ex
  cases r1 with
  | cons r rr =>
    cases rr with
    | cons r' rr =>
      cases rr
      obtain ⟨k1, ev1, _, src1, lt1, B1, b1, hb1⟩ := sx.kind I1 r
      obtain ⟨k2, ev2, _, src2, lt2, B2, b2, hb2⟩ := sy.kind I1 r'
      have fresh5 : ∀ c, c ∈ [s1.heap.objs.size + 4, s1.heap.objs.size + 2, s1.heap.objs.size + 3, s1.heap.objs.size, s1.heap.objs.size + 1] → FpOk X pins H1 c := fun c hcm => by
        have e' : c = s1.heap.objs.size + 4 ∨ c = s1.heap.objs.size + 2 ∨ c = s1.heap.objs.size + 3 ∨ c = s1.heap.objs.size ∨ c = s1.heap.objs.size + 1 := by simpa using hcm
        have hle : s1.heap.objs.size ≤ c := by omega
        exact I1.fpOk hle (I1.hok.fresh hle)
      refine zip_begins2 b1 b2 hb1 hb2 fun h' hz hTI hTO h1 h2 hsz hk => wpAny_pyIter_zip hz ?_
      have I2 : Inv X pins σ H1 { s1 with heap := h' } := I1.kept (t' := s1.toks) hk
      have TT := turn_zipG (P := X.prog) (w := X.w) (K := X.K) (elts := elts) (kk := kk) (tpos := tpos) (z := s1.heap.objs.size + 4) (TI := s1.heap.objs.size + 2) (TO := s1.heap.objs.size + 3) (i1 := s1.heap.objs.size) (i2 := s1.heap.objs.size + 1) (k1 := k1) (k2 := k2)
        (neN (by omega)) (neN (by omega)) (neN (by omega)) (neN (by omega)) (neN (by omega)) (neN (by omega)) (neN (by omega)) (neN (by omega)) (neN (by omega)) (neN (by omega))
        (fun c hc => have h : c < s1.heap.objs.size := lt1 c hc; ⟨Nat.ne_of_lt (Nat.lt_of_lt_of_le h (Nat.le_add_right _ _)), Nat.ne_of_lt (Nat.lt_of_lt_of_le h (Nat.le_add_right _ _)), Nat.ne_of_lt h, Nat.ne_of_lt (Nat.lt_of_lt_of_le h (Nat.le_add_right _ _))⟩) (fun c hc => have h : c < s1.heap.objs.size := lt2 c hc; ⟨Nat.ne_of_lt (Nat.lt_of_lt_of_le h (Nat.le_add_right _ _)), Nat.ne_of_lt (Nat.lt_of_lt_of_le h (Nat.le_add_right _ _)), Nat.ne_of_lt h, Nat.ne_of_lt (Nat.lt_of_lt_of_le h (Nat.le_add_right _ _))⟩)
      exact ⟨s1.heap.objs.size + 4, [s1.heap.objs.size + 4, s1.heap.objs.size + 2, s1.heap.objs.size + 3, s1.heap.objs.size, s1.heap.objs.size + 1], _, _, H1, rfl, I2, TT, ⟨hz, hTI, ⟨_, _, hTO⟩, SK.begun h1, SK.begun h2⟩, fresh5, q k1 k2 ev1 ev2 src1 src2⟩
theorem walk_zipG {K : PySem.W.Frag} {k1 k2 : SK} {xs ys : List V} {n : Nat} (hn : n = min xs.length ys.length) : Walk (ItzG K k1 k2) n (fun H => k1.src K H xs ∧ k2.src K H ys) (YPair (fun i => xs[i]?) (fun i => ys[i]?)) := by
  subst hn
  refine ⟨fun i _ hi q => ?_, fun _ q => ⟨xs, ys, q.1, q.2, by omega, by omega, by omega⟩, fun i H v H' _ q y => ?_⟩
  · have h1 : i < xs.length := by omega
    have h2 : i < ys.length := by omega
    exact ⟨xs, ys, xs[i], ys[i], q.1, q.2, by simp [h1], by simp [h2]⟩
  · obtain ⟨T, x, z, h1, h2, h3, h4, h5⟩ := y
    exact ⟨T, x, z, h1, h2, h3, h4 xs q.1, h5 ys q.2⟩
end L2
namespace FW
open PySem PySem.Spec PyProof.Rows L2
/-- the built-in names that stand as they were -/
structure Z (mg : Str → Option Value) : Prop where
  z_isinstance : mg "isinstance" = none
  z_str : mg "str" = none
  z_all : mg "all" = none
  z_any : mg "any" = none
  z_len : mg "len" = none
  z_int : mg "int" = none
  z_list : mg "list" = none
  z_abs : mg "abs" = none
  z_bool : mg "bool" = none
  z_tuple : mg "tuple" = none
  z_zip : mg "zip" = none
  z_range : mg "range" = none
  z_enumerate : mg "enumerate" = none
  z_sorted : mg "sorted" = none
  z_dict : mg "dict" = none
  z_set : mg "set" = none
  z_sum : mg "sum" = none
  z_min : mg "min" = none
  z_max : mg "max" = none
  z_reversed : mg "reversed" = none
  z_repr : mg "repr" = none
  z_ord : mg "ord" = none
section
variable {P : Program} {w : World} {K : PySem.W.Frag} {mg : Str → Option Value} {base : Heap}
/-- a value that is no text -/
def NotS (K : PySem.W.Frag) (H : Hp) (v : V) : Prop := ∃ T : String, TyX K H v (.type T) ∧ kitB T "str" = some false
def isStr : V → Bool
  | .str _ => true
  | _ => false
def strOf : V → Str
  | .str z => z
  | _ => ⟨#[]⟩
theorem str_of {v : V} (h : isStr v = true) : ∃ z, v = .str z := by
  cases v with
  | str z => exact ⟨z, rfl⟩
  | _ => exact absurd (show false = true from h) Bool.false_ne_true
theorem sz {n : Nat} (h : n ≤ 100000) : n ≤ sizeLine := Nat.le_trans h (by decide)
theorem sz1 {n : Nat} (h : n ≤ 100000) : n < sizeLine := Nat.lt_of_le_of_lt h (by decide)
def bString (v : V) (fs : Str) : Bool := isStr v && (strOf v).cps.toList.all fun c => decide (c ∈ fs.cps.toList)
def sp_is_string (K : PySem.W.Frag) : Sp := fun vs H Q _ => ∃ (v : V) (fs : Str), vs = [v, .str fs] ∧ ((isStr v = true ∧ (strOf v).cps.size ≤ 100000) ∨ (isStr v = false ∧ NotS K H v)) ∧ ∀ H', Same H H' → Q (.bl (bString v fs)) H'
theorem NotS.same {H H' : Hp} {v : V} (n : NotS K H v) (q : ∀ T, TyX K H v T → TyX K H' v T) : NotS K H' v := let ⟨T, t, k⟩ := n; ⟨T, q _ t, k⟩
def bRoom (v : V) (fs : Str) : Bool := bString v fs && decide ((strOf v).cps.size = 4)
def sp_is_room (K : PySem.W.Frag) : Sp := fun vs H Q _ => ∃ (v : V) (fs : Str), vs = [v, .str fs] ∧ ((isStr v = true ∧ (strOf v).cps.size ≤ 100000) ∨ (isStr v = false ∧ NotS K H v)) ∧ ∀ H', Same H H' → Q (.bl (bRoom v fs)) H'
def bCut (v : V) (fs : Str) : Bool := isStr v && decide ((strOf v).cps.size = 3) && decide ((strOf v).cps.toList.getD 0 0 ∈ ("|-" : Str).cps.toList) && ((strOf v).cps.toList.drop 1).all fun c => decide (c ∈ fs.cps.toList)
def sp_is_cut (K : PySem.W.Frag) : Sp := fun vs H Q _ => ∃ (v : V) (fs : Str), vs = [v, .str fs] ∧ ((isStr v = true ∧ (strOf v).cps.size ≤ 100000) ∨ (isStr v = false ∧ NotS K H v)) ∧ ∀ H', Same H H' → Q (.bl (bCut v fs)) H'
theorem cutS_from {z : Str} (h : 1 ≤ z.cps.size) : cutS z (some 1) none = ⟨(z.cps.toList.drop 1).toArray⟩ := by
  unfold cutS
  rw [HT.sIx_none, show HT.sIx z.length 0 (some 1) = min 1 z.length from HT.sIx_nat z.length 0 1]
  have e : min 1 z.length = 1 := Nat.min_eq_left h
  rw [e, List.take_of_length_le]
  simp [Str.length]
def S4 (a b c d : Nat) : Str := ⟨#[a, b, c, d]⟩
def S3 (a b c : Nat) : Str := ⟨#[a, b, c]⟩
/-- both parts of a room by a cut; the codes of the signs: 124 upright -/
def partsC (n e s w sg x y : Nat) : List Str := if sg = 124 then [S4 n x s w, S4 n e s y] else [S4 n e x w, S4 y e s w]
def sp_parts_of (K : PySem.W.Frag) : Sp := fun vs H Q _ => ∃ (n e s w : Nat) (cut : Str), vs = [.str (S4 n e s w), .str cut] ∧
  ((cut = ("" : Str) ∧ ∀ p, H p = none → Q (.ref p) (upd H p (.lst [.str (S4 n e s w)]))) ∨ ∃ sg x y, cut = S3 sg x y ∧ ∀ p, H p = none → Q (.ref p) (upd H p (.lst ((partsC n e s w sg x y).map V.str))))
def Bag (H : Hp) (b l : Addr) : Prop := ∃ (ns : List Int) (i r m c : Int), H b = some (.lst [.ref l, .int i, .int r, .int m, .int c]) ∧ H l = some (.lst (ns.map V.int)) ∧ ns.length ≤ 1000 ∧ 0 ≤ i ∧ 0 ≤ m ∧ m < 2147483648
theorem bag_ne {l : Addr} {ns : List Int} {i r m c : Int} : HO.lst (ns.map V.int) ≠ HO.lst [.ref l, .int i, .int r, .int m, .int c] := by
  intro e
  have e1 := HO.lst.inj e
  cases ns with
  | nil => cases e1
  | cons n ns =>
    have e2 := List.head_eq_of_cons_eq e1
    cases e2
theorem Bag.same {H H' : Hp} {b l : Addr} (B : Bag H b l) (s : Same H H') : Bag H' b l := by
  obtain ⟨ns, i, r, m, c, h1, h2, q⟩ := B
  exact ⟨ns, i, r, m, c, s _ _ h1, s _ _ h2, q⟩
theorem Bag.la {H : Hp} {b l : Addr} (B : Bag H b l) : ∃ xs, H b = some (.lst xs) := let ⟨_, _, _, _, _, h, _⟩ := B; ⟨_, h⟩
theorem Bag.lb {H : Hp} {b l : Addr} (B : Bag H b l) : ∃ xs, H l = some (.lst xs) := let ⟨_, _, _, _, _, _, h, _⟩ := B; ⟨_, h⟩
/-- what is new is not the bag -/
theorem Bag.ne {H : Hp} {b l p : Addr} (B : Bag H b l) (h : H p = none) : p ≠ b := fun e => by
  obtain ⟨xs, h1⟩ := B.la
  rw [e, h1] at h
  cases h
theorem Bag.ne2 {H : Hp} {b l p : Addr} (B : Bag H b l) (h : H p = none) : p ≠ l := fun e => by
  obtain ⟨xs, h1⟩ := B.lb
  rw [e, h1] at h
  cases h
/-- another object changes -/
theorem Bag.upd {H : Hp} {b l p : Addr} {o : HO} (B : Bag H b l) (h1 : p ≠ b) (h2 : p ≠ l) : Bag (L2.upd H p o) b l := by
  obtain ⟨ns, i, r, m, c, g1, g2, q⟩ := B
  exact ⟨ns, i, r, m, c, by rw [upd_ne h1.symm]; exact g1, by rw [upd_ne h2.symm]; exact g2, q⟩
def sp__law_open (K : PySem.W.Frag) : Sp := fun vs H Q _ => ∃ (a : Addr) (ns : List Int), vs = [.ref a] ∧ SqL K H a (ns.map V.int) ∧ ns.length ≤ 63 ∧ ∀ H' b l, H b = none → H l = none → Same H H' → Bag H' b l → Q (.ref b) H'
theorem cutV_to {xs : List V} {k : Nat} : cutV xs none (some (k : Int)) = xs.take k := by
  unfold cutV
  rw [HT.sIx_none, HT.sIx_nat]
  show List.take (min k xs.length - 0) (List.drop 0 xs) = _
  rw [List.drop_zero, Nat.sub_zero, List.take_eq_take_iff]
  omega
def sp__law_draw (K : PySem.W.Frag) : Sp := fun vs H Q _ => ∃ (b l : Addr) (k : Int), vs = [.ref b, .int k] ∧ Bag H b l ∧ 0 < k ∧ k < 1073741824 ∧ ∀ H' z, 0 ≤ z → z < k → But b H H' → Bag H' b l → Q (.int z) H'
/-- behind the first part of a draw -/
def BagAt (H0 H : Hp) (b l : Addr) (ns : List Int) : Prop := But b H0 H ∧ H l = some (.lst (ns.map V.int)) ∧ ∃ i r m c : Int, H b = some (.lst [.ref l, .int i, .int r, .int m, .int c]) ∧ 0 ≤ i ∧ 0 ≤ m ∧ m < 2147483648
abbrev S (l : List Nat) : Str := ⟨l.toArray⟩
theorem S_cat (a b : List Nat) : S a ++ S b = S (a ++ b) := SX.S_cat a b
theorem S_len (a : List Nat) : (S a).length = a.length := SX.S_len a
theorem S_tl (x : Str) : S x.cps.toList = x := SX.S_tl x
theorem atI_of {α : Type} {xs : List α} {z : Int} {j : Nat} {v : α} (e : z = (j : Int)) (h : xs[j]? = some v) : atI xs z = some v := by
  rw [e]
  exact atI_nat h
theorem S_sub (l : List Nat) (i : Nat) : cutS (S l) (some (i : Int)) none = S (l.drop i) := by
  unfold cutS
  rw [HT.sIx_none, HT.sIx_nat]
  show (⟨(List.take ((S l).length - min i (S l).length) (List.drop (min i (S l).length) l)).toArray⟩ : Str) = ⟨(l.drop i).toArray⟩
  rw [S_len]
  have e : List.take (l.length - min i l.length) (List.drop (min i l.length) l) = l.drop i := by
    by_cases h : i ≤ l.length
    · rw [Nat.min_eq_left h]
      exact List.take_of_length_le (by rw [List.length_drop]; exact Nat.le_refl _)
    · rw [Nat.min_eq_right (by omega), List.drop_eq_nil_of_le (as := l) (i := i) (by omega)]
      simp
  rw [e]
theorem S_to (l : List Nat) (i : Nat) : cutS (S l) none (some (i : Int)) = S (l.take i) := by
  unfold cutS
  rw [HT.sIx_none, HT.sIx_nat]
  show (⟨(List.take (min i (S l).length - 0) (List.drop 0 l)).toArray⟩ : Str) = ⟨(l.take i).toArray⟩
  rw [S_len, List.drop_zero, Nat.sub_zero]
  have e : List.take (min i l.length) l = l.take i := by
    rw [List.take_eq_take_iff]
    omega
  rw [e]
def Items (K : PySem.W.Frag) (H : Hp) (b : Addr) (x : V) (xs : List V) : Prop := (∃ a, a ≠ b ∧ x = .ref a ∧ SqL K H a xs) ∨ (∃ a, a ≠ b ∧ x = .ref a ∧ SqT K H a xs) ∨ ∃ l, x = .str (S l) ∧ xs = l.map sgn
def sp__law_of (K : PySem.W.Frag) : Sp := fun vs H Q _ => ∃ (b l : Addr) (x : V) (xs : List V), vs = [.ref b, x] ∧ Bag H b l ∧ Items K H b x xs ∧ 0 < xs.length ∧ xs.length ≤ 100000 ∧ ∀ H' v, v ∈ xs → But b H H' → Bag H' b l → Q v H'
mutual
/-- data that nest at most so deep -/
def Deep : Nat → PyData → Prop
  | _, .none => True
  | _, .bool _ => True
  | _, .int _ => True
  | _, .str _ => True
  | 0, .list _ => False
  | 0, .tuple _ => False
  | n + 1, .list ds => ds.length ≤ 1000 ∧ ∀ d ∈ ds, Deep n d
  | n + 1, .tuple ds => ds.length ≤ 1000 ∧ ∀ d ∈ ds, Deep n d
  | _, .dict _ => False
end
def sp__law_same (K : PySem.W.Frag) (n : Nat) : Sp := fun vs H Q _ => ∃ (x y : V) (d : PyData), vs = [x, y] ∧ Dp K H x d ∧ Dp K H y d ∧ Deep n d ∧ ∀ H', Same H H' → Q (.bl true) H'
theorem tyL {H : Hp} {a : Addr} {xs : List V} (h : SqL K H a xs) : TyX K H (.ref a) (.type "list") := by
  rcases h with (h | ⟨o, h⟩) | ⟨o, its, n, h, c, _⟩
  · exact .base (.lst h)
  · exact .base (.frz h)
  · exact .kList h c
theorem tyT {H : Hp} {a : Addr} {xs : List V} (h : SqT K H a xs) : TyX K H (.ref a) (.type "tuple") := by
  rcases h with (h | ⟨o, h⟩) | ⟨o, its, n, h, c, _⟩
  · exact .base (.tup h)
  · exact .fTuple h
  · exact .kTuple h c
theorem Dp.same {H H' : Hp} (s : Same H H') : ∀ {v : V} {d : PyData}, Dp K H v d → Dp K H' v d := by
  intro v d h
  exact @Dp.rec K H (fun v d _ => Dp K H' v d) (fun vs ds _ => DpAll K H' vs ds) .non (fun b => .bl b) (fun i => .int i) (fun x => .str x) (fun h _ ih => .lst (s.seq h) ih) (fun h _ ih => .tup (s.tup h) ih) .nil (fun _ _ i1 i2 => .cons i1 i2) v d h
theorem DpAll.same {H H' : Hp} (s : Same H H') : ∀ {vs : List V} {ds : List PyData}, DpAll K H vs ds → DpAll K H' vs ds
  | _, _, .nil => .nil
  | _, _, .cons h t => .cons (Dp.same s h) (DpAll.same s t)
theorem DpAll.len {H : Hp} : ∀ {vs : List V} {ds : List PyData}, DpAll K H vs ds → vs.length = ds.length
  | _, _, .nil => rfl
  | _, _, .cons _ t => congrArg (· + 1) (DpAll.len t)
theorem DpAll.at {H : Hp} : ∀ {vs : List V} {ds : List PyData} {i : Nat} {v : V}, DpAll K H vs ds → vs[i]? = some v → ∃ d, ds[i]? = some d ∧ Dp K H v d
  | _, _, _, _, .nil, e => by simp at e
  | _, _, 0, v, .cons h _, e => by
    have e1 := Option.some.inj (show some _ = some v from e)
    exact ⟨_, rfl, e1 ▸ h⟩
  | _, _, i + 1, v, .cons _ t, e => DpAll.at (i := i) t e
theorem walk_zipT {a b : Addr} {xs ys : List V} {n : Nat} (hn : n = min xs.length ys.length) : Walk (RZ.ItzT K a b) n (fun H => SqT K H a xs ∧ SqT K H b ys) (YPair (fun i => xs[i]?) (fun i => ys[i]?)) := by
  subst hn
  refine ⟨fun i _ hi q => ?_, fun _ q => ⟨xs, ys, q.1, q.2, by omega⟩, fun i H v H' _ q y => ?_⟩
  · have h1 : i < xs.length := by omega
    have h2 : i < ys.length := by omega
    exact ⟨xs, ys, xs[i], ys[i], q.1, q.2, by simp [h1], by simp [h2]⟩
  · obtain ⟨T, x, z, h1, h2, h3, h4, h5⟩ := y
    exact ⟨T, x, z, h1, h2, h3, h4 xs q.1, h5 ys q.2⟩
/-- the answers of isinstance(x, (list, tuple)) -/
theorem kitAny_lt {T : String} {r1 r2 : Bool} (h1 : kitB T "list" = some r1) (h2 : kitB T "tuple" = some r2) : PySem.W.kitAny K (.type T) [.type "list", .type "tuple"] = some (r1 || r2) := by
  refine kitAny_cons (kit_ty h1) (fun e => ?_) (fun e => by rw [e]; rfl)
  subst e
  refine kitAny_cons (kit_ty h2) (fun e => ?_) (fun e => by rw [e]; rfl)
  subst e
  rfl
theorem seq_but {H H' : Hp} {D a : Addr} {xs : List V} (nD : ∀ c u, H c = some u → c ≠ D) (bt : But D H H') (h : SqL K H a xs) : SqL K H' a xs := by
  rcases h with (h | ⟨o, h⟩) | h
  · exact .inl (.inl (bt _ _ (nD _ _ h) h))
  · exact .inl (.inr ⟨o, bt _ _ (nD _ _ h) h⟩)
  · exact .inr h
theorem tup_but {H H' : Hp} {D a : Addr} {xs : List V} (nD : ∀ c u, H c = some u → c ≠ D) (bt : But D H H') (h : SqT K H a xs) : SqT K H' a xs := by
  rcases h with (h | ⟨o, h⟩) | h
  · exact .inl (.inl (bt _ _ (nD _ _ h) h))
  · exact .inl (.inr ⟨o, bt _ _ (nD _ _ h) h⟩)
  · exact .inr h
theorem nk_false {k : Nat} {f : Addr} {fd : FuncData} {ps : List Str} : FnOk P w K mg base CX0 k f fd ps (fun _ _ _ _ => False) := ⟨fun _ _ _ _ h => h.elim, fun _ _ _ _ _ _ _ _ _ _ _ _ _ h => h.elim⟩
def sp__law_letters (K : PySem.W.Frag) : Sp := fun vs H Q _ => ∃ (b lb : Addr) (L : List Nat) (k : Nat), vs = [.ref b, .str (S L), .int k] ∧ Bag H b lb ∧ k ≤ L.length ∧ L.length ≤ 1000 ∧ ∀ H' r, List.Sublist r L → r.length = k → But b H H' → Bag H' b lb → Q (.str (S r)) H'
theorem sub_next {L r : List Nat} {low z : Nat} (h : List.Sublist r (L.take low)) (hl : low ≤ z) (hz : z < L.length) : List.Sublist (r ++ [L[z]]) (L.take (z + 1)) := by
  rw [List.take_add_one, List.getElem?_eq_getElem hz]
  refine List.Sublist.append ?_ (List.Sublist.refl _)
  exact h.trans (List.take_sublist_take_left hl)
def lower : List Nat := ("abcdefghijklmnopqrstuvwxyz" : Str).cps.toList
def sp__law_some_faces (K : PySem.W.Frag) : Sp := fun vs H Q _ => ∃ (b lb : Addr) (m : Nat), vs = [.ref b, .int m] ∧ Bag H b lb ∧ 0 < m ∧ m ≤ 26 ∧ ∀ H' r, List.Sublist r lower → 0 < r.length → r.length ≤ m → But b H H' → Bag H' b lb → Q (.str (S r)) H'
theorem lower_len : lower.length = 26 := by decide +kernel
/-- a sign of a text -/
theorem of_str {H : Hp} {b : Addr} {l : List Nat} {v : V} (h : v ∈ l.map sgn) : ∃ c ∈ l, v = sgn c := by
  obtain ⟨c, hc, e⟩ := List.mem_map.mp h
  exact ⟨c, hc, e.symm⟩
def sp__law_some_room (K : PySem.W.Frag) : Sp := fun vs H Q _ => ∃ (b lb : Addr) (fs : List Nat), vs = [.ref b, .str (S fs)] ∧ Bag H b lb ∧ 0 < fs.length ∧ fs.length ≤ 100 ∧ ∀ H' n e s w, n ∈ fs → e ∈ fs → s ∈ fs → w ∈ fs → But b H H' → Bag H' b lb → Q (.str (S4 n e s w)) H'
def sp__law_some_cut (K : PySem.W.Frag) : Sp := fun vs H Q _ => ∃ (b lb : Addr) (fs : List Nat), vs = [.ref b, .str (S fs)] ∧ Bag H b lb ∧ 0 < fs.length ∧ fs.length ≤ 100 ∧ ∀ H' g x y, (g = 124 ∨ g = 45) → x ∈ fs → y ∈ fs → But b H H' → Bag H' b lb → Q (.str (S3 g x y)) H'
def sp__law_string (K : PySem.W.Frag) : Sp := fun vs H Q _ => ∃ (b lb : Addr) (fs : List Nat) (m : Nat), vs = [.ref b, .str (S fs), .int m] ∧ Bag H b lb ∧ 0 < fs.length ∧ fs.length ≤ 100 ∧ m ≤ 1000 ∧ ∀ H' r, (∀ c ∈ r, c ∈ fs) → r.length ≤ m → But b H H' → Bag H' b lb → Q (.str (S r)) H'
theorem joinL_ones : ∀ r : List Nat, TL.joinL [] (r.map fun c => [c]) = r
  | [] => rfl
  | [c] => rfl
  | c :: d :: r => by
    show [c] ++ ([] ++ TL.joinL [] ((d :: r).map fun c => [c])) = c :: d :: r
    rw [joinL_ones (d :: r)]
    rfl
theorem join_ones (r : List Nat) : Txt.join (S []) ((r.map fun c => [c]).map S) = S r := by
  rw [SX.join_S, joinL_ones]
theorem lens_ones (r : List Nat) : (((r.map fun c => [c]).map S).map (·.length)).sum = r.length := by
  induction r with
  | nil => rfl
  | cons c r ih =>
    rw [List.map_cons, List.map_cons, List.map_cons, List.sum_cons, ih, List.length_cons]
    show 1 + r.length = r.length + 1
    omega
def sp__law_split (K : PySem.W.Frag) : Sp := fun vs H Q _ => ∃ (n e s w sg x y : Nat), vs = [.str (S4 n e s w), .str (S3 sg x y)] ∧ ∀ p, H p = none → Q (.ref p) (upd H p (.lst ((partsC n e s w sg x y).map V.str)))
theorem sub4_1 {a b c d : Nat} : cutS (S4 a b c d) (some 1) none = S [b, c, d] := S_sub [a, b, c, d] 1
theorem sub4_2 {a b c d : Nat} : cutS (S4 a b c d) (some 2) none = S [c, d] := S_sub [a, b, c, d] 2
theorem to4_2 {a b c d : Nat} : cutS (S4 a b c d) none (some 2) = S [a, b] := S_to [a, b, c, d] 2
theorem to4_3 {a b c d : Nat} : cutS (S4 a b c d) none (some 3) = S [a, b, c] := S_to [a, b, c, d] 3
def swp {α : Type} : List α → List α → List α
  | [], [a, b] => [b, a]
  | _, _ => []
theorem swp_vals {vs : List V} {us : List Value} {zs : List V} {ws : List Value} (r : Vals vs us) (q : Vals zs ws) : Vals (swp vs zs) (swp us ws) := by
  cases r with
  | cons _ _ => exact .nil
  | nil =>
    cases q with
    | nil => exact .nil
    | cons q1 t =>
      cases t with
      | nil => exact .nil
      | cons q2 t =>
        cases t with
        | nil => exact .cons q2 (.cons q1 .nil)
        | cons _ _ => exact .nil
theorem kb_swap {K : PySem.W.Frag} {x : Str} {st : Stmt} {p1 p2 : Str}
    (h : ∀ (kV doc pm : Value) (an : Option Addr) (cdv ct : Value) (u v : Value), bindArgs (PySem.W.fnOf x x (defArgs st) (defBody st) (defScope st) .none kV doc pm an cdv ct) ⟨[], [(p2, u), (p1, v)]⟩ = pure [(p1, v), (p2, u)]) :
    KB K x st [p1, p2] [p2, p1] swp swp := by
  intro f fd F
  obtain ⟨oc, od, kV, doc, pm, an, cdv, ct, osl, rfl, lk, hcd⟩ := F.ex
  refine ⟨fun s us ws _ hl => ?_, fun r q => swp_vals r q⟩
  match us, ws, hl with
  | [], [u, v], _ => exact .of_eq (h kV doc pm an cdv ct u v)
  | [], [], hl => exact absurd (show 0 = 2 from hl) (by decide)
  | [], [_], hl => exact absurd (show 0 = 2 from hl) (by decide)
  | [], _ :: _ :: _ :: _, hl => exact absurd (show 0 = 2 from hl) (by decide)
  | _ :: _, ws, hl => exact absurd (show 0 = 2 from hl) (by decide)
structure St3 (H : Hp) (b l g : Addr) (gl : List Nat) : Prop where
  bag : Bag H b l
  gn : H g = some (.lst (gl.map sgn))
  gb : g ≠ b
  gz : g ≠ l
theorem St3.same (s : St3 H b l g gl) (q : Same H H') : St3 H' b l g gl := ⟨s.bag.same q, q _ _ s.gn, s.gb, s.gz⟩
theorem St3.new (s : St3 H b l g gl) (n : H p = none) : St3 (upd H p o) b l g gl := s.same (same_upd n)
theorem St3.drawn (s : St3 H b l g gl) (q : But b H H') (B : Bag H' b l) : St3 H' b l g gl := ⟨B, q _ _ s.gb s.gn, s.gb, s.gz⟩
/-- a value that is no text, by the heap -/
def NS (H : Hp) (v : V) : Prop := v = .non ∨ (∃ i, v = .int i) ∨ (∃ c, v = .bl c) ∨ (∃ p xs, v = .ref p ∧ H p = some (.lst xs)) ∨ ∃ p xs, v = .ref p ∧ H p = some (.tup xs)
theorem NS.same {H H' : Hp} {v : V} (n : NS H v) (q : Same H H') : NS H' v := by
  rcases n with e | e | e | ⟨p, xs, e, h⟩ | ⟨p, xs, e, h⟩
  · exact .inl e
  · exact .inr (.inl e)
  · exact .inr (.inr (.inl e))
  · exact .inr (.inr (.inr (.inl ⟨p, xs, e, q _ _ h⟩)))
  · exact .inr (.inr (.inr (.inr ⟨p, xs, e, q _ _ h⟩)))
theorem NS.not {K : PySem.W.Frag} {H : Hp} {v : V} (n : NS H v) : isStr v = false ∧ NotS K H v := by
  rcases n with rfl | ⟨i, rfl⟩ | ⟨c, rfl⟩ | ⟨p, xs, rfl, h⟩ | ⟨p, xs, rfl, h⟩
  · exact ⟨rfl, "NoneType", .base .non, by decide +kernel⟩
  · exact ⟨rfl, "int", .base (.int i), by decide +kernel⟩
  · exact ⟨rfl, "bool", .base (.bl c), by decide +kernel⟩
  · exact ⟨rfl, "list", .base (.lst h), by decide +kernel⟩
  · exact ⟨rfl, "tuple", .base (.tup h), by decide +kernel⟩
theorem NS.b {H : Hp} {v : V} (n : NS H v) (fs : Str) : bString v fs = false ∧ bRoom v fs = false ∧ bCut v fs = false := by
  have e := (n.not (K := default)).1
  refine ⟨?_, ?_, ?_⟩
  · unfold bString
    rw [e]
    rfl
  · unfold bRoom bString
    rw [e]
    rfl
  · unfold bCut
    rw [e]
    rfl
theorem mem_all {l fs : List Nat} (h : ∀ c ∈ l, c ∈ fs) : (l.all fun c => decide (c ∈ fs)) = true := by
  rw [List.all_eq_true]
  intro c hc
  exact decide_eq_true (h c hc)
theorem not_all {l fs : List Nat} {c : Nat} (hc : c ∈ l) (h : c ∉ fs) : (l.all fun c => decide (c ∈ fs)) = false := by
  rw [List.all_eq_false]
  exact ⟨c, hc, by rw [decide_eq_false h]; exact Bool.false_ne_true⟩
theorem bString_yes {l fs : List Nat} (h : ∀ c ∈ l, c ∈ fs) : bString (.str (S l)) (S fs) = true := mem_all h
theorem bString_no {l fs : List Nat} {c : Nat} (hc : c ∈ l) (h : c ∉ fs) : bString (.str (S l)) (S fs) = false := not_all hc h
theorem bRoom_no {l fs : List Nat} {c : Nat} (hc : c ∈ l) (h : c ∉ fs) : bRoom (.str (S l)) (S fs) = false := by
  unfold bRoom
  rw [bString_no hc h]
  rfl
theorem bRoom_len {l fs : List Nat} (h : l.length ≠ 4) : bRoom (.str (S l)) (S fs) = false := by
  unfold bRoom
  rw [show decide ((strOf (.str (S l))).cps.size = 4) = false from decide_eq_false h, Bool.and_false]
theorem bRoom_is {l fs : List Nat} (h : ∀ c ∈ l, c ∈ fs) : bRoom (.str (S l)) (S fs) = decide (l.length = 4) := by
  unfold bRoom
  rw [bString_yes h]
  rfl
theorem bCut_S (l fs : List Nat) : bCut (.str (S l)) (S fs) = (decide (l.length = 3) && decide (l.getD 0 0 ∈ [124, 45]) && (l.drop 1).all fun c => decide (c ∈ fs)) := rfl
theorem bCut_yes {g x y : Nat} {fs : List Nat} (hg : g = 124 ∨ g = 45) (hx : x ∈ fs) (hy : y ∈ fs) : bCut (.str (S3 g x y)) (S fs) = true := by
  show bCut (.str (S [g, x, y])) (S fs) = true
  rw [bCut_S, show ([g, x, y].drop 1) = [x, y] from rfl, mem_all (by
    intro c hc
    rcases List.mem_cons.mp hc with e | e
    · rw [e]
      exact hx
    · rw [List.mem_singleton.mp e]
      exact hy)]
  rcases hg with rfl | rfl <;> rfl
theorem bCut_len {l fs : List Nat} (h : l.length ≠ 3) : bCut (.str (S l)) (S fs) = false := by
  rw [bCut_S, decide_eq_false h]
  rfl
theorem bCut_sign {g x y : Nat} {fs : List Nat} (h1 : g ≠ 124) (h2 : g ≠ 45) : bCut (.str (S [g, x, y])) (S fs) = false := by
  rw [bCut_S, show decide (([g, x, y] : List Nat).getD 0 0 ∈ [124, 45]) = false from decide_eq_false (by
    intro q
    rcases List.mem_cons.mp q with e | e
    · exact h1 e
    · exact h2 (List.mem_singleton.mp e)), Bool.and_false]
  rfl
theorem bCut_face {g x y c : Nat} {fs : List Nat} (hc : c = x ∨ c = y) (h : c ∉ fs) : bCut (.str (S [g, x, y])) (S fs) = false := by
  rw [bCut_S, show ([g, x, y].drop 1) = [x, y] from rfl, not_all (c := c) (by
    rcases hc with rfl | rfl
    · exact List.mem_cons_self
    · exact List.mem_cons_of_mem _ List.mem_cons_self) h, Bool.and_false]
/-- the letters that are none of few letters -/
theorem gone_pos : ∀ (L fs : List Nat), L.Nodup → L.length ≤ (L.filter fun c => !decide (c ∈ fs)).length + fs.length
  | L, [], _ => by
    rw [List.filter_eq_self.mpr (fun c _ => by simp)]
    exact Nat.le_add_right _ _
  | L, f :: fs, nd => by
    have ih := gone_pos L fs nd
    have h : (L.filter fun c => !decide (c ∈ fs)).length ≤ (L.filter fun c => !decide (c ∈ f :: fs)).length + 1 := by
      have e : (L.filter fun c => !decide (c ∈ f :: fs)) = (L.filter fun c => !decide (c ∈ fs)).filter fun c => !decide (c = f) := by
        rw [List.filter_filter]
        refine List.filter_congr fun c _ => ?_
        by_cases h1 : c = f
        · subst h1
          simp
        · by_cases h2 : c ∈ fs <;> simp [h1, h2]
      rw [e]
      have nd2 : (L.filter fun c => !decide (c ∈ fs)).Nodup := nd.filter _
      generalize (L.filter fun c => !decide (c ∈ fs)) = M at nd2
      clear e ih
      induction M with
      | nil => exact Nat.zero_le _
      | cons m M ihM =>
        have nd3 := List.nodup_cons.mp nd2
        rw [List.filter_cons]
        by_cases hm : m = f
        · subst hm
          have e2 : (M.filter fun c => !decide (c = m)) = M := List.filter_eq_self.mpr fun c hc => by
            have : c ≠ m := fun q => nd3.1 (q ▸ hc)
            simp [this]
          rw [if_neg (by simp), e2, List.length_cons]
          exact Nat.le_refl _
        · rw [if_pos (by simp [hm]), List.length_cons, List.length_cons]
          have := ihM nd3.2
          omega
    rw [List.length_cons]
    omega
theorem lower_nd : lower.Nodup := by decide +kernel
theorem low_range {c : Nat} (h : c ∈ lower) : 97 ≤ c ∧ c ≤ 122 := by
  have : ∀ c ∈ lower, 97 ≤ c ∧ c ≤ 122 := by decide +kernel
  exact this c h
/-- lists of truth values as data -/
theorem dp_bls {K : PySem.W.Frag} {H : Hp} : ∀ bs : List Bool, DpAll K H (bs.map V.bl) (bs.map PyData.bool)
  | [] => .nil
  | b :: bs => .cons (.bl b) (dp_bls bs)
theorem deep_bls {bs : List Bool} (h : bs.length ≤ 1000) : Deep 3 (.list (bs.map PyData.bool)) := by
  unfold Deep
  refine ⟨by rw [List.length_map]; exact h, fun d hd => ?_⟩
  obtain ⟨c, _, rfl⟩ := List.mem_map.mp hd
  unfold Deep
  trivial
theorem dp_strs {K : PySem.W.Frag} {H : Hp} : ∀ zs : List Str, DpAll K H (zs.map V.str) (zs.map PyData.str)
  | [] => .nil
  | b :: bs => .cons (.str b) (dp_strs bs)
theorem deep_list {n : Nat} {ds : List PyData} (h : ds.length ≤ 1000) (q : ∀ d ∈ ds, Deep n d) : Deep (n + 1) (.list ds) := by
  unfold Deep
  exact ⟨h, q⟩
theorem deep_strs {n : Nat} {zs : List Str} (h : zs.length ≤ 1000) : Deep (n + 1) (.list (zs.map PyData.str)) := by
  unfold Deep
  refine ⟨by rw [List.length_map]; exact h, fun d hd => ?_⟩
  obtain ⟨c, _, rfl⟩ := List.mem_map.mp hd
  unfold Deep
  trivial
theorem parts_len {n e s w g x y : Nat} : (partsC n e s w g x y).length = 2 := by
  unfold partsC
  split <;> rfl
theorem same_bls {H : Hp} {p p' : Addr} {bs : List Bool} {Q : VK} {E : XK} (h : H p = some (.lst (bs.map V.bl))) (h' : H p' = some (.lst (bs.map V.bl))) (hl : bs.length ≤ 1000) (q : ∀ H', Same H H' → Q (.bl true) H') : sp__law_same K 3 [.ref p, .ref p'] H Q E :=
  ⟨_, _, .list (bs.map PyData.bool), rfl, .lst (SqL.of h) (dp_bls bs), .lst (SqL.of h') (dp_bls bs), deep_bls hl, q⟩
end
end FW
namespace L2
open PySem PySem.Spec PySem.Calls PyProof.Rows
section
variable {X : Cx}
/-! ### a text backwards -/
def tRevS (te : TE) : TE := fun σ H Q => te σ H fun x H1 => ∃ z : Str, x = .str z ∧ z.length ≤ sizeLine ∧ Q (.str ⟨z.cps.toList.reverse.toArray⟩) H1
theorem rev_pick (z : Str) : (Builtin.Str.strSliceIndices none none (-1) z.length).filterMap (z.cps[·]?) = z.cps.toList.reverse := by
  have e : Builtin.Str.strSliceIndices none none (-1) z.length = (List.range z.cps.size).reverse := by
    unfold Builtin.Str.strSliceIndices
    show sliceRange ((z.cps.size : Int) - 1) (-1) (-1) = _
    rw [PySem.W.krv_sliceRange, PySem.W.krv_range]
  rw [e, List.filterMap_reverse]
  have h := PySem.W.krv_all z.cps
  rw [h]
theorem pe_revS {e : Expr} {te : TE} {k : Nat} {p1 p2 p3 pos : Pos} (he : PE X e te) : PE X (.Subscript e (.Slice none none (some (.UnaryOp .USub (.Constant (.int 1) k p1) p2)) p3) pos) (tRevS te) := by
  refine ⟨fun pins s σ H Q I h => ?_⟩
  refine Subscript_ (thn (he.run pins s σ H _ I h) fun v s1 ⟨x, H1, I1, r1, q1⟩ => ?_)
  obtain ⟨z, ex, hz, q⟩ := q1
  subst ex
  obtain ⟨t, rfl⟩ := r1
  have hst : PO X (some (.UnaryOp .USub (.Constant (.int 1) k p1) p2)) (tPart (tUn (rU fun i => .int (-i)) (tC (.int 1)))) := po_some (pe_un un_neg pe_int)
  refine wpAny_Slice (thn (po_none.run pins s1 σ H1 (fun o H2 => o = none ∧ H2 = H1) I1 ⟨rfl, rfl⟩) fun vl s2 ⟨l, H2, I2, pl, el, e2⟩ => ?_)
  subst el e2
  refine thn (po_none.run pins s2 σ H2 (fun o H3 => o = none ∧ H3 = H2) I2 ⟨rfl, rfl⟩) fun vu s3 ⟨u, H3, I3, pu, eu, e3⟩ => ?_
  subst eu e3
  refine thn (hst.run pins s3 σ H3 (fun o H4 => o = some (-1) ∧ H4 = H3) I3 ⟨1, rfl, -1, rfl, rfl, rfl⟩) fun vs s4 ⟨o, H4, I4, ps, eo, e4⟩ => ?_
  subst eo e4
  obtain ⟨lo, rfl, el⟩ := IsPart.raw pl
  obtain ⟨up, rfl, eu⟩ := IsPart.raw pu
  obtain ⟨st, rfl, es⟩ := IsPart.raw ps
  have I5 : Inv X pins σ H4 { s4 with heap := s4.heap.push { cls := .type "slice", data := .fields #[partValue lo, partValue up, partValue st] } } := I4.kept (t' := s4.toks) fun b ob q => Heap.get?_push_of_some _ q
  show wpAny (model X.prog X.w) X.A (subscriptTail e (.Slice none none (some (.UnaryOp .USub (.Constant (.int 1) k p1) p2)) p3) (.str z t) (.ref s4.heap.objs.size)) (EP X pins σ Q) X.xe { s4 with heap := s4.heap.push { cls := .type "slice", data := .fields #[partValue lo, partValue up, partValue st] } }
  refine tail_any (ops := [.str z t, .ref s4.heap.objs.size]) (typeIs_str _ z t) (PySem.F.slot_str_getitem.lookup) ?_ (by with_unfolding_all rfl)
  refine wpAny_getItem_str_slice (l := lo) (u := up) (st := st) ⟨_, Heap.get?_push_size _ rfl, rfl, rfl⟩ (by rw [es]; rfl) ?_
  have hl : z.cps.toList.reverse.length ≤ sizeLine := by
    rw [List.length_reverse, Array.length_toList]
    exact hz
  have em : PySem.sliceMade z t lo up st = Made.str ⟨z.cps.toList.reverse.toArray⟩ := by
    unfold PySem.sliceMade PySem.slicePicked
    rw [el, eu, es]
    show (if (((-1 : Int) == 1) && _) = true then _ else Made.str ⟨((Builtin.Str.strSliceIndices none none (-1) z.length).filterMap (z.cps[·]?)).toArray⟩) = _
    rw [rev_pick]
    rfl
  rw [em]
  exact ⟨by show z.cps.toList.reverse.toArray.size ≤ sizeLine; rw [List.size_toArray]; exact hl, .str _, H4, I5.tok _, ⟨_, rfl⟩, q⟩
end
end L2
namespace FW
open PySem PySem.Spec PyProof.Rows L2
section
variable {P : Program} {w : World} {K : PySem.W.Frag} {mg : Str → Option Value} {base : Heap}
/-! ### ascending choices of letters -/
def ascB : List Nat → Bool
  | [] => true
  | [_] => true
  | a :: b :: r => decide (a < b) && ascB (b :: r)
theorem asc_next : ∀ (l : List Nat) (i : Nat) (h : i + 1 < l.length), ascB (l.take (i + 1 + 1)) = (ascB (l.take (i + 1)) && decide (l[i] < l[i + 1]))
  | [], _, h => absurd h (Nat.not_lt_zero _)
  | [_], i, h => absurd h (by simp)
  | a :: b :: r, 0, h => by
    show (decide (a < b) && ascB [b]) = (true && decide (a < b))
    show (decide (a < b) && true) = (true && decide (a < b))
    rw [Bool.and_true, Bool.true_and]
  | a :: b :: r, i + 1, h => by
    have ih := asc_next (b :: r) i (by simpa using h)
    show (decide (a < b) && ascB ((b :: r).take (i + 1 + 1))) = ((decide (a < b) && ascB ((b :: r).take (i + 1))) && _)
    rw [ih, Bool.and_assoc]
    rfl
theorem asc_sorted : ∀ {l : List Nat}, l.Pairwise (· < ·) → ascB l = true
  | [], _ => rfl
  | [_], _ => rfl
  | a :: b :: r, h => by
    have h1 := List.pairwise_cons.mp h
    show (decide (a < b) && ascB (b :: r)) = true
    rw [decide_eq_true (h1.1 b List.mem_cons_self), asc_sorted h1.2]
    rfl
theorem lt_sgn (x y : Nat) : decide (([x] : List Nat) < [y]) = decide (x < y) := by
  by_cases h : x < y
  · rw [decide_eq_true h]
    exact decide_eq_true (List.Lex.rel h)
  · rw [decide_eq_false h]
    refine decide_eq_false fun q => h ?_
    cases q with
    | rel r => exact r
    | cons r => cases r
def bChoice (v : V) (L : List Nat) (m : Int) : Bool := isStr v && (decide ((1 : Int) ≤ ((strOf v).cps.size : Int)) && decide (((strOf v).cps.size : Int) ≤ m)) && ((strOf v).cps.toList.all fun c => decide (c ∈ L)) && ascB (strOf v).cps.toList
theorem bChoice_1 {z : Str} {L : List Nat} {m : Int} (h : decide ((1 : Int) ≤ (z.length : Int)) = false) : bChoice (.str z) L m = false := by
  unfold bChoice
  rw [show decide ((1 : Int) ≤ ((strOf (V.str z)).cps.size : Int)) = false from h, Bool.false_and, Bool.and_false, Bool.false_and, Bool.false_and]
theorem bChoice_2 {z : Str} {L : List Nat} {m : Int} (h : decide ((z.length : Int) ≤ m) = false) : bChoice (.str z) L m = false := by
  unfold bChoice
  rw [show decide (((strOf (V.str z)).cps.size : Int) ≤ m) = false from h, Bool.and_false, Bool.and_false, Bool.false_and, Bool.false_and]
theorem bChoice_3 {z : Str} {L : List Nat} {m : Int} (h : decide ((1 : Int) ≤ (z.length : Int)) = true) (h2 : decide ((z.length : Int) ≤ m) = true) : bChoice (.str z) L m = (bString (.str z) (S L) && ascB z.cps.toList) := by
  unfold bChoice
  rw [show decide ((1 : Int) ≤ ((strOf (V.str z)).cps.size : Int)) = true from h, show decide (((strOf (V.str z)).cps.size : Int) ≤ m) = true from h2]
  rfl
/-- a value that may be asked: a text that is not too long, or another thing of known kind -/
def Askd (K : PySem.W.Frag) (H : Hp) (v : V) : Prop := (isStr v = true ∧ (strOf v).cps.size ≤ 100000) ∨ (isStr v = false ∧ NotS K H v)
def upper : List Nat := ("ABCDEFGHIJKLMNOPQRSTUVWXYZ" : Str).cps.toList
abbrev bFaces (v : V) : Bool := bChoice v lower 6
abbrev bCutters (v : V) : Bool := bChoice v upper 4
def bAddress (v : V) : Bool := bString v (S [48, 49])
def sp_is_ascending (K : PySem.W.Frag) : Sp := fun vs H Q _ => ∃ l : List Nat, vs = [.str (S l)] ∧ l.length ≤ 100000 ∧ ∀ H', Same H H' → Q (.bl (ascB l)) H'
def sp_is_choice (K : PySem.W.Frag) : Sp := fun vs H Q _ => ∃ (v : V) (L : List Nat) (m : Int), vs = [v, .str (S L), .int m] ∧ Askd K H v ∧ ∀ H', Same H H' → Q (.bl (bChoice v L m)) H'
def sp_is_faces (K : PySem.W.Frag) : Sp := fun vs H Q _ => ∃ v : V, vs = [v] ∧ Askd K H v ∧ ∀ H', Same H H' → Q (.bl (bFaces v)) H'
def sp_is_cutters (K : PySem.W.Frag) : Sp := fun vs H Q _ => ∃ v : V, vs = [v] ∧ Askd K H v ∧ ∀ H', Same H H' → Q (.bl (bCutters v)) H'
def sp_is_address (K : PySem.W.Frag) : Sp := fun vs H Q _ => ∃ v : V, vs = [v] ∧ Askd K H v ∧ ∀ H', Same H H' → Q (.bl (bAddress v)) H'
/-- numbers -/
def bNumber (v : V) (lo hi : Int) : Bool := match v with
  | .int i => decide (lo ≤ i) && decide (i ≤ hi)
  | _ => false
def isNum : V → Bool
  | .int _ => true
  | .bl _ => true
  | _ => false
def NotI (K : PySem.W.Frag) (H : Hp) (v : V) : Prop := ∃ T : String, TyX K H v (.type T) ∧ kitB T "int" = some false
def sp_is_number (K : PySem.W.Frag) : Sp := fun vs H Q _ => ∃ (v : V) (lo hi : Int), vs = [v, .int lo, .int hi] ∧ (isNum v = true ∨ (isNum v = false ∧ NotI K H v)) ∧ Q (.bl (bNumber v lo hi)) H
def sp__law_rising (K : PySem.W.Frag) : Sp := fun vs H Q _ => ∃ (l L : List Nat) (m : Int), vs = [.str (S l), .str (S L), .int m] ∧ l.length ≤ 100000 ∧ ∀ H', Same H H' → Q (.bl (bChoice (.str (S l)) L m)) H'
/-- one keyword; three keywords backwards -/
def one1 {α : Type} : List α → List α → List α
  | [], [a] => [a]
  | _, _ => []
def rev3 {α : Type} : List α → List α → List α
  | [], [a, b, c] => [c, b, a]
  | _, _ => []
theorem one1_vals {vs : List V} {us : List Value} {zs : List V} {ws : List Value} (r : Vals vs us) (q : Vals zs ws) : Vals (one1 vs zs) (one1 us ws) := by
  cases r with
  | cons _ _ => exact .nil
  | nil =>
    cases q with
    | nil => exact .nil
    | cons q1 t =>
      cases t with
      | nil => exact .cons q1 .nil
      | cons _ _ => exact .nil
theorem rev3_vals {vs : List V} {us : List Value} {zs : List V} {ws : List Value} (r : Vals vs us) (q : Vals zs ws) : Vals (rev3 vs zs) (rev3 us ws) := by
  cases r with
  | cons _ _ => exact .nil
  | nil =>
    cases q with
    | nil => exact .nil
    | cons q1 t =>
      cases t with
      | nil => exact .nil
      | cons q2 t =>
        cases t with
        | nil => exact .nil
        | cons q3 t =>
          cases t with
          | nil => exact .cons q3 (.cons q2 (.cons q1 .nil))
          | cons _ _ => exact .nil
theorem kb_one {K : PySem.W.Frag} {x : Str} {st : Stmt} {p1 : Str}
    (h : ∀ (kV doc pm : Value) (an : Option Addr) (cdv ct : Value) (u : Value), bindArgs (PySem.W.fnOf x x (defArgs st) (defBody st) (defScope st) .none kV doc pm an cdv ct) ⟨[], [(p1, u)]⟩ = pure [(p1, u)]) :
    KB K x st [p1] [p1] one1 one1 := by
  intro f fd F
  obtain ⟨oc, od, kV, doc, pm, an, cdv, ct, osl, rfl, lk, hcd⟩ := F.ex
  refine ⟨fun s us ws _ hl => ?_, fun r q => one1_vals r q⟩
  match us, ws, hl with
  | [], [u], _ => exact .of_eq (h kV doc pm an cdv ct u)
  | [], [], hl => exact absurd (show 0 = 1 from hl) (by decide)
  | [], _ :: _ :: _, hl => exact absurd (show 0 = 1 from hl) (by decide)
  | _ :: _, ws, hl => exact absurd (show 0 = 1 from hl) (by decide)
theorem kb_rev3 {K : PySem.W.Frag} {x : Str} {st : Stmt} {p1 p2 p3 : Str}
    (h : ∀ (kV doc pm : Value) (an : Option Addr) (cdv ct : Value) (u v t : Value), bindArgs (PySem.W.fnOf x x (defArgs st) (defBody st) (defScope st) .none kV doc pm an cdv ct) ⟨[], [(p3, u), (p2, v), (p1, t)]⟩ = pure [(p1, t), (p2, v), (p3, u)]) :
    KB K x st [p1, p2, p3] [p3, p2, p1] rev3 rev3 := by
  intro f fd F
  obtain ⟨oc, od, kV, doc, pm, an, cdv, ct, osl, rfl, lk, hcd⟩ := F.ex
  refine ⟨fun s us ws _ hl => ?_, fun r q => rev3_vals r q⟩
  match us, ws, hl with
  | [], [u, v, t], _ => exact .of_eq (h kV doc pm an cdv ct u v t)
  | [], [], hl => exact absurd (show 0 = 3 from hl) (by decide)
  | [], [_], hl => exact absurd (show 0 = 3 from hl) (by decide)
  | [], [_, _], hl => exact absurd (show 0 = 3 from hl) (by decide)
  | [], _ :: _ :: _ :: _ :: _, hl => exact absurd (show 0 = 3 from hl) (by decide)
  | _ :: _, ws, hl => exact absurd (show 0 = 3 from hl) (by decide)
theorem but_fresh {H H1 H' : Hp} {D : Addr} (s : Same H H1) (n : H1 D = none) (b : But D H1 H') : Same H H' := fun c u e => b c u (ne_of_none (s _ _ e) n) (s _ _ e)
end
end FW
namespace FW
open PySem PySem.Spec PyProof.Rows L2
def inCls (c : Stmt) (j : Nat) : Stmt := match c with
  | .ClassDef _ _ _ b _ _ _ _ _ _ _ => b.getD j (.Pass ⟨0, 0, 0, 0⟩)
  | s => s
def bLetter (v : V) (L : List Nat) : Bool := isStr v && decide ((strOf v).cps.size = 1) && decide ((strOf v).cps.toList.getD 0 0 ∈ L)
section
variable {P : Program} {w : World} {K : PySem.W.Frag} {mg : Str → Option Value} {base : Heap}
def sp_is_letter (K : PySem.W.Frag) : Sp := fun vs H Q _ => ∃ (v : V) (L : List Nat), vs = [v, .str (S L)] ∧ Askd K H v ∧ ∀ H', Same H H' → Q (.bl (bLetter v L)) H'
/-- what is told of an error class of the program: its name, its __init__ at fI -/
structure Kls (K : PySem.W.Frag) (mg : Str → Option Value) (C fI : Addr) (z : String) : Prop where
  g : mg (Str.ofString z) = some (.ref C)
  oex : OexC K C
  cle : ClsE K C
  nam : NameC K C (Str.ofString z)
  xf : XfC K C
  ncode : PySem.W.findIn K (.ref C) "code" = some none
  init : PySem.W.findIn K (.ref C) "__init__" = some (some (.ref fI))
  tI : PySem.W.typeIn K (.ref fI) = some (.type "function")
/-- __init__(self, f): self.f = f; self.code = the class's name -/
def sp_init (K : PySem.W.Frag) (f : String) : Sp := fun vs H Q _ => ∃ (a C : Addr) (v : V) (z : Str), vs = [.ref a, v] ∧ H a = some (exo a C none) ∧ OexC K C ∧ ClsE K C ∧ NameC K C z ∧ PySem.W.findIn K (.ref C) (Str.ofString f) = some none ∧ PySem.W.findIn K (.ref C) "code" = some none ∧
  ∀ dx, H dx = none → dx ≠ a → Q .non (upd (upd (upd H dx (exd dx [(Str.ofString f, v)])) a (exo a C (some dx))) dx (exd dx [("code", .str z), (Str.ofString f, v)]))
/-- the dict of an error that bears one value -/
def Err1 (f : String) (z : String) (v : V) : HO := .xd [("code", .str (Str.ofString z)), (Str.ofString f, v)]
theorem err_heap {H : Hp} {a d : Addr} {o1 o2 o3 o4 u : HO} (na : H a = none) (hda : d ≠ a) : upd (del (upd (upd (upd (upd H a o1) d o2) a o3) d o4) a) d u = upd H d u := by
  funext b
  by_cases hb : b = d
  · rw [hb, upd_same, upd_same]
  · rw [upd_ne hb, upd_ne hb]
    by_cases ha : b = a
    · rw [ha, del_same, na]
    · rw [del_ne ha, upd_ne hb, upd_ne ha, upd_ne hb, upd_ne ha]
/-- C(e): the error that its __init__ leaves -/
theorem mk1 {x f : String} {C fI : Addr} {H1 : Hp} {v : V} {Q : XK} {E : XK} (T : Kls K mg C fI x) (nf : PySem.W.findIn K (.ref C) (Str.ofString f) = some none) (h : ∀ d, H1 d = none → Q (.ref C) (some d) (upd H1 d (Err1 f x v))) :
    [v].length ≤ 1000 ∧ ∀ a, H1 a = none → sp_init K f (.ref a :: ([v] ++ [])) (upd H1 a (exo a C none)) (fun v H2 => v = .non ∧ ∃ (d : Addr) (fs : List (Str × V)), H2 a = some (exo a C (some d)) ∧ H2 d = some (exd d fs) ∧ H1 d = none ∧ Q (.ref C) (some d) (upd (del H2 a) d (.xd fs))) E := by
  refine ⟨(show 1 ≤ 1000 by decide), fun a na => ⟨a, C, v, Str.ofString x, rfl, upd_same, T.oex, T.cle, T.nam, nf, T.ncode, fun d hd hda => ⟨rfl, d, _, ?_, upd_same, ?_, ?_⟩⟩⟩
  · rw [upd_ne (Ne.symm hda), upd_same]
  · rwa [upd_ne hda] at hd
  · rw [upd_ne hda] at hd
    rw [err_heap na hda]
    exact h d hd
/-- the promise of a def that checks its first argument -/
def FieldIs (K : PySem.W.Frag) (C : Addr) (fs : List (Str × V)) (z : Str) (v : V) : Prop :=
  if z ∈ (["InvalidLine", "InvalidStep", "InvalidTable", "InvalidBad", "InvalidPlan", "UnknownRoom"] : List Str) then PySem.W.findIn K (.ref C) "at" = some none ∧ fs.lookup (Str.ofString "at") = some v
  else if z ∈ (["TooMany", "Full"] : List Str) then PySem.W.findIn K (.ref C) "most" = some none ∧ fs.lookup (Str.ofString "most") = some v
  else if z ∈ (["InvalidText", "InvalidPage"] : List Str) then PySem.W.findIn K (.ref C) "line" = some none ∧ fs.lookup (Str.ofString "line") = some v
  else if z = "UnknownState" then PySem.W.findIn K (.ref C) "state" = some none ∧ fs.lookup (Str.ofString "state") = some v
  else if z ∈ (["InvalidPaper", "OtherFaces", "OtherCutters", "NothingLeft"] : List Str) then v = .non
  else PySem.W.findIn K (.ref C) "given" = some none ∧ fs.lookup (Str.ofString "given") = some v
/-- a caught error of the program: its class, its dict, its code, what it bears -/
def Caught (K : PySem.W.Frag) (H : Hp) (a : Addr) (z : Str) (v : V) : Prop := ∃ (C dd : Addr) (fs : List (Str × V)), H a = some (ExK (.ref C) (some dd) a) ∧ H dd = some (.xd fs) ∧ XfC K C ∧ PySem.W.findIn K (.ref C) "code" = some none ∧ fs.lookup (Str.ofString "code") = some (.str z) ∧ FieldIs K C fs z v
theorem Caught.same {H H' : Hp} {a : Addr} {z : Str} {v : V} (h : Same H H') : Caught K H a z v → Caught K H' a z v := fun ⟨C, dd, fs, h1, h2, r⟩ => ⟨C, dd, fs, h _ _ h1, h _ _ h2, r⟩
def sp__law_field (K : PySem.W.Frag) : Sp := fun vs H Q _ => ∃ (a : Addr) (z : Str) (v : V), vs = [.ref a] ∧ Caught K H a z v ∧ ∀ H', Same H H' → Q v H'
/-- what _law_try makes of what it asks -/
def TTry (K : PySem.W.Frag) (cs : List Value) : (XK → Hp → VK → Prop) → Hp → VK → Prop := fun tl H Q =>
  tl (fun cls d H1 => PySem.W.exmAny K cls cs = some true ∧ ∀ a, H1 a = none → ∃ (z : Str) (v : V), Caught K (upd H1 a (ExK cls d a)) a z v ∧ ∀ H2, Same (upd H1 a (ExK cls d a)) H2 → ∀ p, H2 p = none → Q (.ref p) (upd H2 p (.tup [.str z, v])))
    H (fun v H1 => [V.str "", v].length ≤ sizeLine ∧ ∀ p, H1 p = none → Q (.ref p) (upd H1 p (.tup [.str "", v])))
end
end FW
namespace FW
open PySem PySem.Spec PyProof.Rows L2
section
variable {X : Cx} {k j : Nat} {x : Str} {st : Stmt} {ps ks : List Str} {sp : Sp} {p pos : Pos} {e : Expr} {es : List Expr} {kws : List Keyword} {t tk : TA} {g : List Value → List Value → List Value} {gV : List V → List V → List V}
/-- a def that may raise, called where it raises nothing -/
theorem pe_cE (c : Cal X.prog X.w X.K X.mg X.base (L2.CX X.prog X.w) k x st ps sp) (hr : Room j X.A) (hk : k ≤ j) (hg : Gl X x) (ha : PA X (e :: es) t)
    (hdb : (x == ("__debug__" : Str)) = false := by decide) (he : starEach (e :: es) X.env = (false, eval e X.env) :: starEach es X.env := by rfl) (hpl : (backTo pos (starEach es X.env)).any (·.1) = false := by rfl) :
    PE X (.Call (.Name x p) (e :: es) [] pos) (tCall sp [] E0 t) := pe_cx c hr hk hg passL ha hdb he hpl
theorem pe_ck0E (c : Cal X.prog X.w X.K X.mg X.base (L2.CX X.prog X.w) k x st ps sp) (b : KB X.K x st ps ks g gV) (hr : Room j X.A) (hk : k ≤ j) (hg : Gl X x) (hkw : PK X kws tk)
    (hall : (backToKw pos (keywordEach kws X.env)).all (·.1.isSome) = true := by rfl) (hks : (backToKw pos (keywordEach kws X.env)).filterMap (·.1) = ks := by rfl)
    (hdb : (x == ("__debug__" : Str)) = false := by decide)
    (hpl : ((backTo pos (starEach [] X.env)).any (·.1) || (backToKw pos (keywordEach kws X.env)).any (·.1.isNone)) = false := by rfl) :
    PE X (.Call (.Name x p) [] kws pos) (tCallK sp gV E0 tNil tk) := by
  obtain ⟨f, fd, F, hm, fn, _⟩ := c.ex
  exact pe_callK0 F (hr.mono hk) hg hm fn.kp (b f fd fn) passL hkw hall hks hdb hpl
end
/-! ### what stands when only tables grow -/
section
variable {K : PySem.W.Frag} {H H' : Hp}
theorem ext_seq {a : Addr} {xs : List V} (e : LamX.ExtN H H') (h : SqL K H a xs) : SqL K H' a xs := by
  rcases h with (h | ⟨o, h⟩) | h
  · exact .inl (.inl (e _ _ h (fun _ z => by cases z)))
  · exact .inl (.inr ⟨o, e _ _ h (fun _ z => by cases z)⟩)
  · exact .inr h
theorem ext_tup {a : Addr} {xs : List V} (e : LamX.ExtN H H') (h : SqT K H a xs) : SqT K H' a xs := by
  rcases h with (h | ⟨o, h⟩) | h
  · exact .inl (.inl (e _ _ h (fun _ z => by cases z)))
  · exact .inl (.inr ⟨o, e _ _ h (fun _ z => by cases z)⟩)
  · exact .inr h
theorem dp_ext (e : LamX.ExtN H H') {v : V} {d : PyData} (h : Dp K H v d) : Dp K H' v d :=
  @Dp.rec K H (fun v d _ => Dp K H' v d) (fun vs ds _ => DpAll K H' vs ds) .non (fun b => .bl b) (fun i => .int i) (fun x => .str x) (fun h _ ih => .lst (ext_seq e h) ih) (fun h _ ih => .tup (ext_tup e h) ih) .nil (fun _ _ i1 i2 => .cons i1 i2) v d h
theorem ns_ext (e : LamX.ExtN H H') {v : V} (n : NS H v) : NS H' v := by
  rcases n with n | n | n | ⟨p, xs, z, h⟩ | ⟨p, xs, z, h⟩
  · exact .inl n
  · exact .inr (.inl n)
  · exact .inr (.inr (.inl n))
  · exact .inr (.inr (.inr (.inl ⟨p, xs, z, e _ _ h (fun _ q => by cases q)⟩)))
  · exact .inr (.inr (.inr (.inr ⟨p, xs, z, e _ _ h (fun _ q => by cases q)⟩)))
end
end FW
namespace FW
open PySem PySem.Spec PyProof.Rows L2
/-! ### a walk over a list or a tuple -/
def iSeq (K : PySem.W.Frag) (tl : TE) : TI := fun σ H R => tl σ H fun x H1 => ∃ a, x = .ref a ∧ (((∃ xs, SqL K H1 a xs) ∧ R (Itl K a) H1) ∨ ((∃ xs, SqT K H1 a xs) ∧ R (Itt K a) H1))
theorem pi_seq {X : Cx} {tg l : Expr} {tl : TE} (hl : PE X l tl) : PI X tg l (iSeq X.K tl) := by
  refine ⟨fun pins s σ H R I h => thn (hl.run pins s σ H _ I h) ?_⟩
  rintro v s1 ⟨x, H1, I1, r1, a, e, q1⟩
  subst e
  obtain rfl : v = Value.ref a := r1
  have fp : ∀ b ∈ [s1.heap.objs.size], FpOk X pins H1 b := fun b hb => by
    rw [List.mem_singleton.mp hb]
    exact I1.fpOk (Nat.le_refl _) (I1.hok.fresh (Nat.le_refl _))
  rcases q1 with ⟨⟨xs, hq⟩, q⟩ | ⟨⟨xs, hq⟩, q⟩
  · obtain ⟨its, rv, p, hz⟩ := I1.list hq
    exact wpAny_pyIter_list p.isList ⟨s1.heap.objs.size, [s1.heap.objs.size], _, _, H1, rfl, I1.kept (t' := s1.toks) fun b o e => Heap.get?_push_of_some _ e, turn_list a _,
      ⟨_, Heap.get?_push_size _ rfl, rfl, rfl⟩, fp, q⟩
  · obtain ⟨its, rv, p, hz⟩ := I1.tuple hq
    exact wpAny_pyIter_tuple (show s1.heap.IsTuple a its.toArray from p) ⟨s1.heap.objs.size, [s1.heap.objs.size], _, _, H1, rfl, I1.kept (t' := s1.toks) fun b o e => Heap.get?_push_of_some _ e, turn_tuple a _,
      ⟨_, Heap.get?_push_size _ rfl, rfl, rfl⟩, fp, q⟩
end FW
namespace FW
open PySem PySem.Spec PyProof.Rows L2
/-! ### enumerate(x): a list, a tuple or a text -/
theorem meets_enum1 {v : Value} {o : Obj} {B0 : Heap → Prop} (B : Begins v o B0) :
    Meets (Builtin.«enumerate.__new__» ⟨[.type "enumerate", v], []⟩) (fun _ R s => B0 s.heap ∧
      R (.ok (.ret (.ref (s.heap.push o).objs.size))) { s with heap := (s.heap.push o).push { cls := .type "enumerate", data := .fields #[.none, .bool false, .ref s.heap.objs.size, rawInt 0, .none, .none] } }) :=
  .of_wp fun prog w A R s hh => by
    obtain ⟨hp, gg, dd, tk, os⟩ := s
    obtain ⟨hb, hr⟩ := hh
    have hsub := sub_enumerate
    have go : ∀ {A' : Around} {E : Value → Shared → Prop} {Q : Value → Shared → Prop}, Q (.ref hp.objs.size) ⟨hp.push o, gg, dd, tk, os⟩ → wpAny (model prog w) A' (pyIter v) Q E ⟨hp, gg, dd, tk, os⟩ := fun q => B.iter prog w _ _ ⟨hp, gg, dd, tk, os⟩ _ hb q
    wp_walk using go
    refine wpAny_stack_any fun st => wpAny_pure ?_
    split
    · rename_i c _ _ _ _ _
      cases (c == Value.type "enumerate")
      · wp_walk using go
        exact ⟨_, rfl, hr⟩
      · wp_walk using go
        exact ⟨_, rfl, hr⟩
    · wp_walk using go
      exact ⟨_, rfl, hr⟩
section
variable {prog : Program} {w : World} {A : Around} {E : Value → Shared → Prop} {s : Shared}
theorem enum_begin1 {v : Value} {o : Obj} {B0 : Heap → Prop} {Q : Value → Shared → Prop} (B : Begins v o B0) (hb : B0 s.heap)
    (h : ∀ h', IsEnum h' (s.heap.objs.size + 1) s.heap.objs.size 0 .none → h'.get? s.heap.objs.size = some o → (∀ b u, s.heap.get? b = some u → h'.get? b = some u) → Q (.ref (s.heap.objs.size + 1)) { s with heap := h' }) :
    wpAny (model prog w) A (call (.type "enumerate") [v]) Q E s := by
  refine callType_new F.called_enumerate (by decide) (F.typeCall_enumerate_1 _) (F.newCall_enumerate_1 _) (fun obj => F.args_object_init_2 obj _)
    F.entry_enumerate_new (meets_enum1 B) ⟨hb, ?_⟩
  have sz1 : (s.heap.push o).objs.size = s.heap.objs.size + 1 := Heap.size_push ..
  show _ ∧ _
  rw [sz1]
  have en : IsEnum ((s.heap.push o).push { cls := .type "enumerate", data := .fields #[.none, .bool false, .ref s.heap.objs.size, rawInt 0, .none, .none] }) (s.heap.objs.size + 1) s.heap.objs.size 0 .none := by
    have z := Heap.get?_push_size (s.heap.push o) (o := { cls := .type "enumerate", data := .fields #[.none, .bool false, .ref s.heap.objs.size, rawInt 0, .none, .none] }) rfl
    rwa [sz1] at z
  exact ⟨⟨_, en, rfl⟩, h _ en (Heap.get?_push_of_some _ (Heap.get?_push_size _ B.free)) fun b u x => Heap.get?_push_of_some _ (Heap.get?_push_of_some _ x)⟩
end
def IteG (K : PySem.W.Frag) (k : SK) : It :=
  ⟨fun i H => ∃ (xs : List V) (x : V), k.src K H xs ∧ xs[i]? = some x, fun i H v H' => ∃ T x, v = .ref T ∧ H T = none ∧ H' = upd H T (.tup [.int (i : Nat), x]) ∧ ∀ xs, k.src K H xs → xs[i]? = some x, fun i H => ∃ xs : List V, k.src K H xs ∧ i = xs.length⟩
theorem turn_enumG {P : Program} {w : World} {K : PySem.W.Frag} {elts : List Expr} {kk : Nat} {tpos : Pos} {e it : Addr} {k : SK} (hne : e ≠ it) (ha : ∀ c, k.at c → c ≠ e ∧ c ≠ it) :
    Turn P w K (.Tuple elts kk tpos) (IteG K k) [e, it] e (fun i h => (∃ old, IsEnum h e it ((i : Nat) : Int) old) ∧ k.iter it i h) where
  mem := List.mem_cons_self
  obj := fun i h st b hb => by
    obtain ⟨⟨old, he⟩, hi⟩ := st
    have e' : b = e ∨ b = it := by simpa using hb
    rcases e' with z | z
    · rw [z]
      exact ⟨_, he, fun v q => nomatch q⟩
    · rw [z]
      exact SK.iter_obj hi
  keep := fun i h h' st k => by
    obtain ⟨⟨old, he⟩, hi⟩ := st
    exact ⟨⟨old, k e (by simp) _ he⟩, SK.iter_keep hi fun o q => k it (by simp) o q⟩
  item := by
    intro X hP hw hK hc i pins s σ H E I hf st hg
    subst hP hw hK
    obtain ⟨⟨old, he⟩, hi⟩ := st
    obtain ⟨xs, x, hq, hx⟩ := hg
    obtain ⟨fp, Pp, Sp, D, g1, b1, r1, m1, f1⟩ := SK.draws I hc hq fun c q => (ha c q).2
    have lx : i < xs.length := (List.getElem?_eq_some_iff.mp hx).1
    have hel : e < s.heap.objs.size := Heap.lt_size he
    have hil : it < s.heap.objs.size := by
      obtain ⟨_, q, _⟩ := SK.iter_obj hi
      exact Heap.lt_size q
    have hef : e ∉ fp := fun q => by
      rcases f1 e q with z | z
      · exact hne z
      · exact (ha e z).1 rfl
    refine wpAny_pyNext_enum_itemD D he (g1 i hi) lx hne hef fun u h' tk p ho hs hT hsz hk => ?_
    obtain ⟨v1, e1, ru⟩ := r1 i u p
    obtain rfl : v1 = x := Option.some.inj (e1.symm.trans hx)
    refine ⟨_, rfl, wpAny_letOwnedTupleGo_enum (s := { s with heap := h', toks := tk + 1 }) ho fun h'' he' sb => ?_⟩
    have hT2 : h''.get? s.heap.objs.size = some { cls := .type "tuple", data := .seq #[.int i tk, u] } := (sb.2 _ (Nat.ne_of_gt hel)).trans hT
    have new : ObjOk X.prog X.w (upd H s.heap.objs.size (.tup [.int (i : Nat), v1])) h'' s.heap.objs.size (.tup [.int (i : Nat), v1]) :=
      ⟨(show 2 ≤ sizeLine by decide), [.int i tk, u], .cons ⟨_, rfl⟩ (.cons ru .nil), ⟨_, hT2, rfl, _, rfl⟩⟩
    have I1 : Inv X pins σ (upd H s.heap.objs.size (.tup [.int (i : Nat), v1])) { s with heap := h'', toks := tk + 1 } :=
      I.turnedNew (ch := [e, it]) (fun b ob hb q => (sb.2 b (fun z => hb (by simp [z]))).trans (hk b ob (fun z => hb (by simp [z])) (fun z => hb (by simp [z])) q)) hf (Nat.le_refl _) new
    refine ⟨.ref s.heap.objs.size, _, I1, rfl, ⟨_, v1, rfl, I.hok.fresh (Nat.le_refl _), rfl, fun ys hy => by rw [SK.inj I hy hq]; exact hx⟩, ⟨⟨u, ?_⟩, SK.iter_keep (b1 _ _ hs) fun o q => (sb.2 it (Ne.symm hne)).trans q⟩, fun b hb => ?_⟩
    · rw [show ((i + 1 : Nat) : Int) = (i : Int) + 1 by omega]
      exact he'
    · have e' : b = e ∨ b = it := by simpa using hb
      have hb' : b < s.heap.objs.size := by
        rcases e' with z | z
        · rw [z]
          exact hel
        · rw [z]
          exact hil
      rw [upd_ne (Nat.ne_of_lt hb')]
      exact (hf b hb).1
  done := by
    intro X hP hw hK hc i pins s σ H E I hf st hg
    subst hP hw hK
    obtain ⟨⟨old, he⟩, hi⟩ := st
    obtain ⟨xs, hq, rfl⟩ := hg
    obtain ⟨fp, Pp, Sp, D, g1, b1, r1, m1, f1⟩ := SK.draws I hc hq fun c q => (ha c q).2
    obtain ⟨f0, f1', f2, f3, f4, f5⟩ := hf it (by simp)
    exact wpAny_pyNext_enum_endD D he (g1 _ hi) fun h' eb => ⟨rfl, I.turned (t' := s.toks) (fun b o hb q => eb b o hb q) f0 f1' f3 f4 f5⟩
  self := fun A i s Q E st h => by
    obtain ⟨⟨old, he⟩, _⟩ := st
    exact wpAny_pyIter_enum he h
def iEnumG (K : PySem.W.Frag) (ta : TA) : TI := fun σ H R => ta σ H fun vs H1 => ∃ (x : V) (xs : List V), vs = [x] ∧ Src K H1 x xs ∧ ∀ k : SK, k.val = x → k.src K H1 xs → R (IteG K k) H1
theorem pi_enumG {X : Cx} {e : Expr} {ta : TA} {p pos tpos : Pos} {elts : List Expr} {kk : Nat} (hg : Gl X "enumerate") (hm : X.mg "enumerate" = none) (ha : PA X [e] ta) (hs : starEach [e] X.env = [(false, eval e X.env)] := by rfl) :
    PI X (.Tuple elts kk tpos) (.Call (.Name "enumerate" p) [e] [] pos) (iEnumG X.K ta) := by
  refine ⟨fun pins s σ H R I h => ?_⟩
  refine Call_ (ld_blt I hg hm boot_enumerate (PyProof.Rows.callWith_type1 (thn (ha.run pos pins s σ H _ I h) ?_) hs rfl))
  rintro us s1 ⟨vs, H1, I1, r1, x, xs, ex, sx, q⟩
  subst ex
  cases r1 with
  | cons r rr =>
    cases rr
    obtain ⟨k, ev, _, src, lt, B0, b0, hb0⟩ := sx.kind I1 r
    refine enum_begin1 b0 hb0 fun h' he hi hk => wpAny_pyIter_enum he ?_
    have I2 : Inv X pins σ H1 { s1 with heap := h' } := I1.kept (t' := s1.toks) hk
    refine ⟨s1.heap.objs.size + 1, [s1.heap.objs.size + 1, s1.heap.objs.size], _, _, H1, rfl, I2, turn_enumG (k := k) (Nat.succ_ne_self _) (fun c hc => ?_), ⟨⟨.none, he⟩, SK.begun hi⟩, fun b hb => ?_, q k ev src⟩
    · have hlt := lt c hc
      exact ⟨Nat.ne_of_lt (Nat.lt_succ_of_lt hlt), Nat.ne_of_lt hlt⟩
    · have e' : b = s1.heap.objs.size + 1 ∨ b = s1.heap.objs.size := by simpa using hb
      have hle : s1.heap.objs.size ≤ b := by
        rcases e' with z | z
        · rw [z]
          exact Nat.le_add_right _ _
        · rw [z]
          exact Nat.le_refl _
      exact I1.fpOk hle (I1.hok.fresh hle)
theorem walk_enumG {K : PySem.W.Frag} {k : SK} {xs : List V} : Walk (IteG K k) xs.length (fun H => k.src K H xs) (YPair (fun i => some (.int (i : Nat))) (fun i => xs[i]?)) := by
  refine ⟨fun i _ hi q => ⟨xs, xs[i], q, by simp [hi]⟩, fun _ q => ⟨xs, q, rfl⟩, fun i H v H' _ q y => ?_⟩
  obtain ⟨T, x, h1, h2, h3, h4⟩ := y
  exact ⟨T, .int (i : Nat), x, h1, h2, h3, rfl, h4 xs q⟩
end FW
namespace FW
open PySem PySem.Spec PyProof.Rows L2
/-! ### C.m(..), m a static method of the class at C over the function at f -/
structure Sta (K : PySem.W.Frag) (C : Addr) (m : Str) (f : Addr) : Prop where
  rd : PySem.W.readsIn K C (.type "type") = true
  fd : ∃ (p : Addr) (rest : List Value), PySem.W.findCls K (.ref C) (.type "type") m = some (.get (.builtin "staticmethod.__get__") (.ref p) .none (.ref C)) ∧ PySem.W.recIn K p "staticmethod" = some (.ref f :: rest)
  sg : PySem.W.specialIn K (.ref C) "__getattribute__" = some (some (.builtin "type.__getattribute__"))
  kp : PySem.W.keepIn K (.ref f) = true
theorem static_get {prog : Program} {w : World} {A : Around} {E : Value → Shared → Prop} {s : Shared} {K : PySem.W.Frag} {C f : Addr} {m : Str} {pl : Sem Bool} {Q : Value × List Value → Shared → Prop} (X : K.In s.heap) (S : Sta K C m f)
    (h : ∀ u, Q (.ref f, []) { s with toks := u }) : wpAny (model prog w) A (getMethod (.ref C) m pl) Q E s := by
  obtain ⟨p, rest, fd, rc⟩ := S.fd
  exact PySem.W.method_cls X S.sg (PySem.W.cls_bind X S.rd fd (wpAny_call (PySem.W.sm_get (s := { s with toks := s.toks + 1 }) X rc (PySem.W.handed_on rfl (h _)))))
section
variable {X : Cx} {CX : CXT} {k : Nat} {f C : Addr} {fd : FuncData} {ps : List Str} {sp : Sp} {dvs : List V} {ds : List Value} {E : XK} {x m : Str} {p1 pos apos : Pos} {e : Expr} {es : List Expr} {t : TA}
theorem pe_static {pl : Sem Bool} (hg : Gl X x) (hm : X.mg x = some (.ref C)) (S : Sta X.K C m f) (F : FnOk X.prog X.w X.K X.mg X.base CX k f fd ps sp) (hr : Room k X.A) (hb : L2.Binds X.K fd ps ds) (hd : Vals dvs ds) (hx : Passes CX X E) (ha : PA X (e :: es) t)
    (hdb : (x == ("__debug__" : Str)) = false := by decide)
    (hc : eval (.Call (.Attribute (.Name x p1) m apos) (e :: es) [] pos) X.env = (do
      let oc ← eval (.Name x p1) X.env
      standAt apos.atName
      let (fc, fst) ← holding [oc] (getMethod oc m pl)
      callWith pos fc fst (backTo pos (starEach (e :: es) X.env)) (backToKw pos (keywordEach [] X.env))) := by rfl)
    (he : starEach (e :: es) X.env = (false, eval e X.env) :: starEach es X.env := by rfl) (hpl : (backTo pos (starEach es X.env)).any (·.1) = false := by rfl) :
    PE X (.Call (.Attribute (.Name x p1) m apos) (e :: es) [] pos) (tCall sp dvs E t) := by
  refine ⟨fun pins s σ H Q I h => PySem.W.methodCall_KW (pl := pl) (ld_glob I hg hm ?_ hdb) hc⟩
  refine static_get I.kIn S fun u => ?_
  have I1 : Inv X pins σ H { s with toks := u } := I.tok _
  refine PySem.W.callWith_K (first := []) (h₀ := X.base) I.ok.mod.kin S.kp (thn (ha.run pos pins _ σ H _ I1 h) ?_) he hpl
  rintro us s2 ⟨vs, H2, I2, r, q2⟩
  exact ⟨I2.kIn, run_fn F hr hb hd hx I2 r q2⟩
end
end FW
namespace FW
open PySem PySem.Spec PyProof.Rows L2 StX
/-- three parameters ahead of the starred one -/
theorem bind_star3 {B : List Value → Sem (List (Str × Value))} {p1 p2 p3 pv : Str} (h0 : ∀ a b c, B [a, b, c] = (newTuple [] >>= fun t => pure [(p1, a), (p2, b), (p3, c), (pv, t)]))
    (h1 : ∀ a b c r rs, B (a :: b :: c :: r :: rs) = (newTuple (r :: rs) >>= fun t => pure [(p1, a), (p2, b), (p3, c), (pv, t)])) :
    ∀ us rest : List Value, us.length = [p1, p2, p3].length → B (us ++ rest) = (newTuple rest >>= fun t => pure ([p1, p2, p3].zip us ++ [(pv, t)]))
  | [a, b, c], [], _ => h0 a b c
  | [a, b, c], r :: rs, _ => h1 a b c r rs
section
variable {X : Cx} {CX : CXT} {k : Nat} {f C : Addr} {sp : Sp} {E : XK} {x : Str} {e : Expr} {es : List Expr} {t : TA} {p pos : Pos}
/-- C(e, .., *y) -/
theorem pe_makeS (M : Mk X.K C f) (F : FnR X.prog X.w X.K X.mg X.base CX k f sp) (hr : Room (k + 1) X.A) (hg : Gl X x) (hm : X.mg x = some (.ref C)) (hx : Passes CX X E) (ha : PA X (e :: es) t) (hd : (x == ("__debug__" : Str)) = false := by decide)
    (he : starEach (e :: es) X.env = (false, eval e X.env) :: starEach es X.env := by rfl) (hst : (backTo pos (starEach es X.env)).any (·.1) = true := by rfl) :
    PE X (.Call (.Name x p) (e :: es) [] pos) (tMakeR C sp E t) := by
  refine ⟨fun pins s σ H Q I h => wpAny_Call_Name_kw (ld_glob I hg hm ?_ hd)⟩
  refine PySem.W.callWith_S2 (h₀ := X.base) I.ok.mod.kin M.kp (thn (ha.run pos pins s σ H _ I h) ?_) he hst
  rintro us s1 ⟨vs, H1, I1, r, q⟩
  exact ⟨I1.kIn, run_makeR M F hr hx I1 r q⟩
end
end FW
namespace FW
open PySem PySem.Spec PyProof.Rows L2
/-! ### tests, and what may be forgotten behind an expression -/
theorem ite_dec {p : Prop} [d : Decidable p] {A B : Prop} (h1 : p → A) (h2 : ¬ p → B) : if decide p = true then A else B := by
  by_cases h : p
  · rw [decide_eq_true h]
    exact iteT (h1 h)
  · rw [decide_eq_false h]
    exact iteF (h2 h)
theorem ite_ndec {p : Prop} [d : Decidable p] {A B : Prop} (h1 : ¬ p → A) (h2 : p → B) : if (!decide p) = true then A else B := by
  by_cases h : p
  · rw [decide_eq_true h]
    exact iteF (h2 h)
  · rw [decide_eq_false h]
    exact iteT (h1 h)
theorem ite_bl {c : Bool} {A B : Prop} (h1 : c = true → A) (h2 : c = false → B) : if c = true then A else B := by
  cases c with
  | true => exact iteT (h1 rfl)
  | false => exact iteF (h2 rfl)
theorem ite_nbl {c : Bool} {A B : Prop} (h1 : c = false → A) (h2 : c = true → B) : if (!c) = true then A else B := by
  cases c with
  | true => exact iteF (h2 rfl)
  | false => exact iteT (h1 rfl)
section
variable {X : Cx}
/-- an expression, and what is kept of its value and the heap -/
def tAs (t : TE) : TE := fun σ H Q => ∃ R : V → Hp → Prop, t σ H R ∧ ∀ v H', R v H' → Q v H'
theorem pe_as {e : Expr} {t : TE} (h : PE X e t) : PE X e (tAs t) := ⟨fun pins s σ H Q I hw => by
  obtain ⟨R, hR, hq⟩ := hw
  exact thn (h.run pins s σ H R I hR) fun v s1 ⟨x, H1, I1, r1, q1⟩ => ⟨x, H1, I1, r1, hq _ _ q1⟩⟩
/-- a test, and what is kept -/
def tAsT (t : TT) : TT := fun σ H Q => ∃ R : Bool → Hp → Prop, t σ H R ∧ ∀ v H', R v H' → Q v H'
theorem pt_as {e : Expr} {t : TT} (h : PT X e t) : PT X e (tAsT t) := ⟨fun pins s σ H Q I hw => by
  obtain ⟨R, hR, hq⟩ := hw
  exact thn (h.run pins s σ H R I hR) fun v s1 ⟨H1, I1, q1⟩ => ⟨H1, I1, hq _ _ q1⟩⟩
/-- a statement, and what is kept behind it where it goes on -/
def tAsS (t : TS) : TS := fun D σ H => ∃ R : L2.St → Hp → Prop, t { D with nx := R } σ H ∧ ∀ σ' H', R σ' H' → D.nx σ' H'
theorem ps_as {st : Stmt} {t : TS} (h : PS X st t) : PS X st (tAsS t) := ⟨fun pins s σ H D I hw => by
  obtain ⟨R, hR, hq⟩ := hw
  refine thn (h.run pins s σ H _ I hR) fun f s1 z => ?_
  cases f with
  | next => exact (let ⟨σ', H1, I1, q1⟩ := z; ⟨σ', H1, I1, hq _ _ q1⟩)
  | _ => exact z⟩
end
end FW
namespace FW
open PySem PySem.Spec PyProof.Rows L2
/-! ### == and != by an own __eq__ -/
/-- what the type of a value is -/
inductive Kd (H : Hp) : V → Value → Prop
  | ins {b C dy : Addr} {gs : List (Str × V)} (e : H b = some (.ins C dy gs)) : Kd H (.ref b) (.ref C)
  | non : Kd H .non (.type "NoneType")
  | str (z : Str) : Kd H (.str z) (.type "str")
  | int (i : Int) : Kd H (.int i) (.type "int")
  | lst {b : Addr} {xs : List V} (e : H b = some (.lst xs)) : Kd H (.ref b) (.type "list")
  | tup {b : Addr} {xs : List V} (e : H b = some (.tup xs)) : Kd H (.ref b) (.type "tuple")
section
variable {X : Cx} {CX : CXT} {pins : List (Addr × Obj)} {σ : L2.St} {H : Hp} {s : Shared} {C f : Addr} {n : Nat} {sp : Sp} {E : XK}
theorem looks_kd {y : V} {u t : Value} (I : Inv X pins σ H s) (r : RelV y u) (k : Kd H y t) : PySem.W.Looks (model X.prog X.w) s.heap (typeOf u) t := by
  cases k with
  | ins e =>
    cases r
    obtain ⟨mA, J, _⟩ := ins_get I.hok e
    obtain ⟨od, J, _⟩ := J.look
    exact J.type
  | non => cases r; exact .of_pure rfl
  | str z => obtain ⟨t, rfl⟩ := r; exact .of_pure rfl
  | int z => obtain ⟨t, rfl⟩ := r; exact .of_pure rfl
  | lst e =>
    cases r
    obtain ⟨z, its, k, r, e⟩ := I.hok _ _ e
    exact (PySem.W.Looks.ld e).andThen .now
  | tup e =>
    cases r
    obtain ⟨its, k, r, p⟩ := I.hok _ _ e
    obtain ⟨⟨cls, dd, data, sl⟩, ho, hc, _⟩ := id p
    simp only at hc
    subst hc
    exact (PySem.W.Looks.ld ho).andThen .now
/-- a op y, a an instance of the class at C with its own __eq__ -/
def rOwnI (K : PySem.W.Frag) (C : Addr) (sp : Sp) (E : XK) (neg : Bool) : R2 := fun x y H Q => ∃ a dx fs t, x = .ref a ∧ H a = some (.ins C dx fs) ∧ Kd H y t ∧ PySem.W.notFirst K C t = true ∧ sp [x, y] H (fun v H' => ∃ c : Bool, v = .bl c ∧ Q (.bl (c != neg)) H') E
theorem op_eqI (hs : PySem.W.findIn X.K (.ref C) "__eq__" = some (some (.ref f))) (hf : PySem.W.isFn X.K (.ref f) = true) (F : FnR X.prog X.w X.K X.mg X.base CX n f sp)
    (hr : Room n X.A) (hx : Passes CX X E) : OpR X (compareOp .Eq) (rOwnI X.K C sp E false) := by
  intro pins s σ H x y v u Q I rx ry h
  obtain ⟨a, dx, fs, t, rfl, ha, k, hn, q⟩ := h
  cases (show v = Value.ref a from rx)
  obtain ⟨mA, J, _⟩ := ins_get I.hok ha
  obtain ⟨od, J, _⟩ := J.look
  obtain ⟨m, hF⟩ := I.fr
  show wpAny _ _ (richCompare .Eq _ _) _ _ s
  refine PySem.W.cmp_K (op := .Eq) (tb := t) hr.units0 hF I.ok.mod.kin J (looks_kd I ry k) hn hs hf ?_
  refine wpAny_mono (wpAny_call (run_fnR (us := [.ref a, u]) (vs := [.ref a, y]) F hr hx I (.cons rfl (.cons ry .nil)) q)) (fun w s' z => ?_) fun _ _ x => x
  obtain ⟨z', H', I', rz, c, rfl, qz⟩ := z
  refine SlX.cmpback rz ⟨.bl c, H', I', rz, ?_⟩
  cases c <;> exact qz
theorem ne_K {prog : Program} {w : World} {A : Around} {E : Value → Shared → Prop} {s : Shared} {K : PySem.W.Frag} {x C L : Addr} {h₀ : Heap} {m : Str → Option Value} {ox : Obj} {od : Option Obj} {tb b : Value} {Q : Value → Shared → Prop} (hu : A.units + 1 < cLine)
    (F : Fr h₀ L s.heap m) (X₀ : K.In h₀) (I : PySem.W.InstAt s.heap x ox C od) (hb : PySem.W.Looks (model prog w) s.heap (typeOf b) tb) (hn : PySem.W.notFirst K C tb = true)
    (hs : PySem.W.findIn K (.ref C) "__eq__" = some (some (.ref f))) (hf : PySem.W.isFn K (.ref f) = true) (hne : PySem.W.findIn K (.ref C) "__ne__" = some (some (.builtin "object.__ne__"))) (hob : PySem.W.mroIn K C (.type "object") = some true)
    (h : wpAny (model prog w) A.in1 (call (.ref f) [.ref x, b]) (fun v s' => ∃ c : Bool, v = .bool c ∧ Q (.bool (!c)) s') E s) : wpAny (model prog w) A (richCompare .NotEq (.ref x) b) Q E s := by
  have X := X₀.keeps F.keep
  have S := (PySem.F.cmp_object).ne
  have bi : wpAny (model prog w) A (call (.builtin "object.__ne__") [.ref x, b]) (fun v s' => ∃ c : Bool, v = .bool (!c) ∧ Q (.bool (!c)) s') E s := by
    refine wpAny_call (codeAny_call_builtin S.plain PySem.F.cmpEntry_ne (PySem.W.check_slot PySem.F.cmpKind_ne PySem.F.cmpSplit_ne ?_ (PySem.F.cmpArgs_ne _ _) ?_))
    · exact fun A E Q s' k q => by
        unfold isInstance
        exact wpAny_bind ((I.type.keeps k).here ((PySem.W.looks_mroIn (X.keeps k) hob).here q))
    unfold Builtin.«object.__ne__»
    have fin2 : wpAny (model prog w) A.in1 (callSpecialIfBound? (.ref x) "__eq__" [b]) (fun r s' => ∃ c : Bool, r = some (.bool c) ∧ Q (.bool (!c)) s') E s :=
      PySem.W.ifBound_K X I hs hf (wpAny_mono h (fun v s' ⟨c, e, q⟩ => ⟨c, by rw [e], q⟩) fun _ _ e => e)
    repeat (first
      | with_reducible refine wpAny_cRoomFor (Nat.lt_of_le_of_lt (Nat.le_refl _) hu) ?_
      | (refine wpAny_bind (m := callSpecialIfBound? (.ref x) (Str.ofString "__eq__") [b]) (wpAny_mono fin2 (fun r s' hr => by
          obtain ⟨c, rfl, hq⟩ := hr
          repeat (first | exact ⟨c, rfl, hq⟩ | exact wpAny_pure ⟨c, rfl, hq⟩ | (refine wpAny_bind (m := truthy (.bool _)) (wpAny_truthy_bool ?_)) | wp_step)) fun _ _ e => e))
      | wp_step)
  have one : wpAny (model prog w) A (tryCompare (.ref x) "__ne__" b) (fun r s' => ∃ v, r = some v ∧ Q v s') E s := by
    unfold tryCompare
    refine wpAny_bind ?_
    simp only [callSpecialIfBound?, bindSpecialIfBound?]
    refine wpAny_holding (wpAny_bind (wpAny_bind (wpAny_bind (I.type.here ((PySem.W.looks_findIn X hne).here ?_)))))
    refine wpAny_bind (wpAny_askSetting (wpAny_ite ?_))
    simp only [S.bind]
    have fin : wpAny (model prog w) A (call (.builtin "object.__ne__") ([.ref x] ++ [b]) >>= fun v => pure (some v)) (fun r s' => wpAny (model prog w) A (match r with | some .notImplemented | none => pure none | some v => pure (some v)) (fun r s' => ∃ v, r = some v ∧ Q v s') E s') E s := by
      refine wpAny_bind (wpAny_mono bi (fun v s' hv => ?_) fun _ _ e => e)
      obtain ⟨c, rfl, hq⟩ := hv
      exact wpAny_pure (wpAny_pure ⟨_, rfl, hq⟩)
    split
    · exact wpAny_bind (wpAny_pure (wpAny_pure fin))
    · exact wpAny_tryCatch (wpAny_bind (wpAny_pure (wpAny_pure fin)))
  unfold richCompare
  simp only [oneThing_ref]
  refine wpAny_holding (wpAny_bind (wpAny_cRoomFor (Nat.lt_of_succ_lt hu) ?_))
  refine wpAny_bind (I.type.here (wpAny_bind (hb.here ?_)))
  split
  · rename_i q
    have e : PySem.W.subIn K tb (.ref C) = some false := by
      rcases Bool.or_eq_true_iff.mp hn with e | e
      · rw [beq_iff_eq.mp e] at q; simp at q
      · exact beq_iff_eq.mp e
    refine wpAny_bind ((PySem.W.looks_subIn X e).here ?_)
    simp only [Bool.false_eq_true, if_false]
    refine wpAny_bind (wpAny_mono one (fun r s' z => ?_) fun _ _ e => e)
    obtain ⟨v, rfl, hq⟩ := z
    exact wpAny_pure hq
  · refine wpAny_bind (wpAny_pure ?_)
    simp only [Bool.false_eq_true, if_false]
    refine wpAny_bind (wpAny_mono one (fun r s' z => ?_) fun _ _ e => e)
    obtain ⟨v, rfl, hq⟩ := z
    exact wpAny_pure hq
theorem op_neI (hs : PySem.W.findIn X.K (.ref C) "__eq__" = some (some (.ref f))) (hf : PySem.W.isFn X.K (.ref f) = true) (hne : PySem.W.findIn X.K (.ref C) "__ne__" = some (some (.builtin "object.__ne__"))) (hob : PySem.W.mroIn X.K C (.type "object") = some true)
    (F : FnR X.prog X.w X.K X.mg X.base CX n f sp) (hr : Room (n + 1) X.A) (hx : Passes CX X E) : OpR X (compareOp .NotEq) (rOwnI X.K C sp E true) := by
  intro pins s σ H x y v u Q I rx ry h
  obtain ⟨a, dx, fs, t, rfl, ha, k, hn, q⟩ := h
  cases (show v = Value.ref a from rx)
  obtain ⟨mA, J, _⟩ := ins_get I.hok ha
  obtain ⟨od, J, _⟩ := J.look
  obtain ⟨m, hF⟩ := I.fr
  show wpAny _ _ (richCompare .NotEq _ _) _ _ s
  refine ne_K (by have := hr.un; omega) hF I.ok.mod.kin J (looks_kd I ry k) hn hs hf hne hob ?_
  refine wpAny_mono (wpAny_call (SlX.run_at (us := [.ref a, u]) (ws := [.ref a, y]) F hr.in1 I.env0.in1 hx I (.cons rfl (.cons ry .nil)) q)) (fun w s' z => ?_) fun _ _ x => x
  obtain ⟨z', H', I', rz, c, rfl, qz⟩ := z
  cases (show w = Value.bool c from rz)
  refine ⟨c, rfl, .bl (!c), H', I', rfl, ?_⟩
  cases c <;> exact qz
end
end FW
namespace FW
open PySem PySem.Spec PyProof.Rows L2
section
variable {X : Cx} {CX : CXT} {k : Nat} {f C : Addr} {fd : FuncData} {ps ks : List Str} {sp : Sp} {E : XK} {x m : Str} {p1 pos apos : Pos} {kws : List Keyword} {tk : TA} {g : List Value → List Value → List Value} {gV : List V → List V → List V}
/-- C.m(k=e, ..), m a static method -/
theorem pe_staticK0 {pl : Sem Bool} (hg : Gl X x) (hm : X.mg x = some (.ref C)) (S : Sta X.K C m f) (F : FnOk X.prog X.w X.K X.mg X.base CX k f fd ps sp) (hr : Room k X.A) (hb : KBinds X.K fd ps ks g gV) (hx : Passes CX X E) (hkw : PK X kws tk)
    (hall : (backToKw pos (keywordEach kws X.env)).all (·.1.isSome) = true := by rfl) (hks : (backToKw pos (keywordEach kws X.env)).filterMap (·.1) = ks := by rfl)
    (hdb : (x == ("__debug__" : Str)) = false := by decide)
    (hc : eval (.Call (.Attribute (.Name x p1) m apos) [] kws pos) X.env = (do
      let oc ← eval (.Name x p1) X.env
      standAt apos.atName
      let (fc, fst) ← holding [oc] (getMethod oc m pl)
      callWith pos fc fst (backTo pos (starEach [] X.env)) (backToKw pos (keywordEach kws X.env))) := by rfl)
    (hpl : ((backTo pos (starEach [] X.env)).any (·.1) || (backToKw pos (keywordEach kws X.env)).any (·.1.isNone)) = false := by rfl) :
    PE X (.Call (.Attribute (.Name x p1) m apos) [] kws pos) (tCallK sp gV E tNil tk) := by
  refine ⟨fun pins s σ H Q I h => PySem.W.methodCall_KW (pl := pl) (ld_glob I hg hm ?_ hdb) hc⟩
  refine static_get I.kIn S fun u => ?_
  have I1 : Inv X pins σ H { s with toks := u } := I.tok _
  refine PySem.W.callWith_KW0 (h₀ := X.base) I.ok.mod.kin S.kp hall (thn (hkw.run pos pins _ σ H _ I1 h) fun ws s2 ⟨zs, H2, I2, rz, q2⟩ => ⟨I2.kIn, ?_⟩) hpl
  rw [hks]
  exact run_fnk F hr hb hx I2 .nil rz q2
end
end FW
namespace FW
open PySem PySem.Spec PyProof.Rows L2
/-! ### data that may be compared -/
/-- data that nest at most so deep, all of whose texts may be laid -/
inductive Lay : Nat → PyData → Prop
  | non {n : Nat} : Lay n .none
  | bl {n : Nat} (b : Bool) : Lay n (.bool b)
  | int {n : Nat} (i : Int) : Lay n (.int i)
  | str {n : Nat} {x : Str} (h : PyData.strOk x = true) : Lay n (.str x)
  | lst {n : Nat} {ds : List PyData} (h : ∀ d ∈ ds, Lay n d) : Lay (n + 1) (.list ds)
  | tup {n : Nat} {ds : List PyData} (h : ∀ d ∈ ds, Lay n d) : Lay (n + 1) (.tuple ds)
theorem lay_all {n : Nat} : ∀ {ds : List PyData}, (∀ d ∈ ds, d.canLay0 = true ∧ d.depth ≤ n) → PyData.canLayAll0 ds = true ∧ PyData.depthAll ds ≤ n
  | [], _ => ⟨rfl, Nat.zero_le _⟩
  | d :: ds, h => by
    have h1 := h d List.mem_cons_self
    have h2 := lay_all (ds := ds) fun x hx => h x (List.mem_cons_of_mem _ hx)
    refine ⟨?_, ?_⟩
    · show (d.canLay0 && PyData.canLayAll0 ds) = true
      rw [h1.1, h2.1]
      rfl
    · show max d.depth (PyData.depthAll ds) ≤ n
      exact Nat.max_le.mpr ⟨h1.2, h2.2⟩
theorem Lay.ok {n : Nat} {d : PyData} (h : Lay n d) : d.canLay0 = true ∧ d.depth ≤ n := by
  induction h with
  | non => exact ⟨rfl, Nat.zero_le _⟩
  | bl b => exact ⟨rfl, Nat.zero_le _⟩
  | int i => exact ⟨rfl, Nat.zero_le _⟩
  | str h => exact ⟨h, Nat.zero_le _⟩
  | lst h ih => exact ⟨(lay_all ih).1, Nat.succ_le_succ (lay_all ih).2⟩
  | tup h ih => exact ⟨(lay_all ih).1, Nat.succ_le_succ (lay_all ih).2⟩
theorem Lay.shaped {n : Nat} {d : PyData} (h : Lay n d) (hn : n ≤ 64) : SeqAt.shaped d = true := by
  unfold SeqAt.shaped
  rw [h.ok.1, decide_eq_true (Nat.le_trans h.ok.2 hn)]
  rfl
theorem eqvAll_map {α : Type} [DecidableEq α] {f : α → PyData} (h : ∀ x y, PyData.eqv (f x) (f y) = decide (x = y)) : ∀ xs ys : List α, PyData.eqvAll (xs.map f) (ys.map f) = decide (xs = ys)
  | [], [] => by
    rw [decide_eq_true rfl]
    rfl
  | [], y :: ys => by
    rw [decide_eq_false (by simp)]
    rfl
  | x :: xs, [] => by
    rw [decide_eq_false (by simp)]
    rfl
  | x :: xs, y :: ys => by
    show (PyData.eqv (f x) (f y) && PyData.eqvAll (xs.map f) (ys.map f)) = _
    rw [h, eqvAll_map h xs ys, ← Bool.decide_and]
    exact decide_eq_decide.mpr (by simp)
theorem eqv_S (a b : List Nat) : PyData.eqv (.str (S a)) (.str (S b)) = decide (a = b) := by
  show (S a == S b) = _
  by_cases h : a = b
  · subst h
    rw [decide_eq_true rfl]
    exact beq_self_eq_true _
  · rw [decide_eq_false h]
    refine beq_eq_false_iff_ne.mpr fun e => h ?_
    have := congrArg (fun z : Str => z.cps.toList) e
    exact this
theorem eqv_tupS (a b : List (List Nat)) : PyData.eqv (.tuple (a.map fun p => .str (S p))) (.tuple (b.map fun p => .str (S p))) = decide (a = b) := by
  show PyData.eqvAll _ _ = _
  exact eqvAll_map eqv_S a b
end FW
namespace FW
open PySem PySem.Spec PyProof.Rows L2
def topS (i : Nat) : Stmt := PySem.Challenge.pw_fourwalls_k24_whole_members_of_views.main.body.getD i (.Pass ⟨0, 0, 0, 0⟩)
section
variable {P : Program} {w : World} {K : PySem.W.Frag} {mg : Str → Option Value} {base : Heap}
abbrev s__law_open : Stmt := topS 47
theorem sc__law_open : FnScope ["_law_script", "_law_mixed", "_law_cell"] ["_law_script"] (defScope s__law_open) := ⟨rfl, rfl, rfl, by decide +kernel, rfl, by decide +kernel, by decide +kernel⟩
theorem ok__law_open {f : Addr} {fd : FuncData} (F : Fun K "_law_open" "_law_open" s__law_open f fd) (T : Z mg) : FnOk P w K mg base CX0 1 f fd ["_law_script"] (sp__law_open K) := by
  refine F.ok sc__law_open (fun vs H Q E h => ?_) (fun cdv A outer s H vs Q E hr h => ?_)
  · obtain ⟨a, ns, rfl, _⟩ := h
    rfl
  · obtain ⟨a, ns, rfl, hS, hlen, q⟩ := h
    refine ⟨_, (pss_cons (ps_set (i := 1) sc__law_open.nd rfl (.inl rfl) pe_int)
      (pss_cons (ps_for PassesOwn.never rfl (pi_list (pe_slice sl_list (pv 0) po_none (po_some pe_int))) (pg_name (i := 2) sc__law_open.nd rfl (.inl rfl))
        (pss_one (ps_set (i := 1) sc__law_open.nd rfl (.inl rfl) (pe_op op_mod (pe_callTy call_int1 (by rfl) T.z_int (by decide +kernel) (pa_cons (pe_op op_add (pe_op op_add (pe_op op_mul (pv 1) pe_int) (pe_op op_mul (pe_op op_mod (pe_callTy call_int1 (by rfl) T.z_int (by decide +kernel) (pa_cons (pv 2) pa_nil)) pe_int) pe_int)) pe_int) pa_nil)) pe_int))))
      (pss_one (ps_ret (pe_lst (pa_cons (pe_callTy call_list_of (by rfl) T.z_list (by decide +kernel) (pa_cons (pe_slice sl_list (pv 0) po_none (po_some pe_int)) pa_nil)) (pa_cons pe_int (pa_cons pe_int (pa_cons (pv 1) (pa_cons pe_int pa_nil)))))))))), ?_⟩
    have ecut : cutV (ns.map V.int) none (some 63) = ns.map V.int := by
      rw [show (63 : Int) = ((63 : Nat) : Int) from rfl, cutV_to]
      exact List.take_of_length_le (by rw [List.length_map]; exact hlen)
    refine ⟨_, rfl, 63, rfl, a, _, rfl, hS, fun p np => ?_⟩
    rw [ecut]
    have s1 : Same H (upd H p (.lst (ns.map V.int))) := same_upd np
    refine ⟨p, rfl, ⟨_, SqL.of upd_same⟩, for_it (walk_list (xs := ns.map V.int)) (fun i σ H' => ∃ m y, σ = [some (.ref a), some (.int m), y] ∧ 0 ≤ m ∧ m < 2147483648 ∧ H' = upd H p (.lst (ns.map V.int)))
      ⟨10042, none, rfl, by decide, by decide, rfl⟩ (fun i σ H' _ ⟨_, _, _, _, _, e⟩ => by rw [e]; exact SqL.of upd_same) ?_ ?_⟩
    · rintro i x σ _ _ hi ⟨m, y, rfl, h0, h1, rfl⟩ ⟨rfl, hx⟩
      obtain ⟨z, rfl⟩ : ∃ z, x = V.int z := by
        rw [List.getElem?_map] at hx
        cases e : ns[i]? with
        | none => rw [e] at hx; cases hx
        | some u => rw [e] at hx; exact ⟨u, (Option.some.inj hx).symm⟩
      refine ⟨_, rfl, _, _, rfl, rfl, .inr ⟨by decide, by decide⟩, _, rfl, .inl ⟨_, rfl, _, _, rfl, rfl, (show (0 : Int) < 1000033 by decide), _, _, rfl, rfl, .inr ⟨by decide, by decide⟩, _, _, rfl, rfl, _, _, rfl, rfl, .inl ⟨_, rfl, _, _, rfl, rfl, (show (0 : Int) < 2147483549 by decide), ?_⟩⟩⟩
      refine ⟨_, _, rfl, Int.emod_nonneg _ (by decide), ?_, rfl⟩
      exact Int.lt_trans (Int.emod_lt_of_pos _ (by decide)) (by decide)
    · rintro σ _ ⟨m, y, rfl, h0, h1, rfl⟩
      refine ⟨_, rfl, 63, rfl, a, _, rfl, s1.seq hS, fun p2 np2 => ?_⟩
      rw [ecut]
      have s2 := same_upd (o := HO.lst (ns.map V.int)) np2
      refine ⟨p2, _, rfl, .inl (SqL.of upd_same), fun l nl => ?_⟩
      have s3 := same_upd (o := HO.lst (ns.map V.int)) nl
      refine ⟨_, rfl, (show 5 ≤ sizeLine by decide), fun b nb => ?_⟩
      have s4 := same_upd (o := HO.lst [V.ref l, V.int 0, V.int 0, V.int m, V.int 0]) nb
      have s5 := (s1.trans s2).trans s3
      refine q _ b l (s5.free nb) ((s1.trans s2).free nl) (s5.trans s4) ⟨ns, 0, 0, m, 0, upd_same, s4 _ _ upd_same, by omega, by decide, h0, h1⟩
abbrev s__law_draw : Stmt := topS 48
theorem sc__law_draw : FnScope ["_law_bag", "_law_many", "_law_cell", "_law_digit", "_law_twice"] ["_law_bag", "_law_many"] (defScope s__law_draw) := ⟨rfl, rfl, rfl, by decide +kernel, rfl, by decide +kernel, by decide +kernel⟩
theorem ok__law_draw {f : Addr} {fd : FuncData} (F : Fun K "_law_draw" "_law_draw" s__law_draw f fd) (T : Z mg) : FnOk P w K mg base CX0 1 f fd ["_law_bag", "_law_many"] (sp__law_draw K) := by
  refine F.ok sc__law_draw (fun vs H Q E h => ?_) (fun cdv A outer s H vs Q E hr h => ?_)
  · obtain ⟨b, l, k, rfl, _⟩ := h
    rfl
  · obtain ⟨b, l, k, rfl, ⟨ns, i, r, m, c, hb, hL, hlen, hi, hm0, hm1⟩, hk, hk2, q⟩ := h
    have nlb : l ≠ b := ne_of hL hb bag_ne
    refine ⟨_, (pss_cons (ps_asg (pe_op op_add (pe_ix ix_list (pv 0) pe_int (fun _ _ => rfl)) pe_int) (pg_sub (pv 0) pe_int set_list))
      (C8.pss_cut (ps_if (PW.pt (pw_and (pt_cmpR op_eq (pe_ix ix_list (pv 0) pe_int (fun _ _ => rfl)) pe_int (nomark _)) (pw_and1 (pt_cmpR op_lt (pe_ix ix_list (pv 0) pe_int (fun _ _ => rfl)) (pe_callB call_len (by rfl) T.z_len (by decide +kernel) (pa_cons (pe_ix ix_list (pv 0) pe_int (fun _ _ => rfl)) pa_nil)) (nomark _))))) (pss_cons (ps_set (i := 2) sc__law_draw.nd rfl (.inl rfl) (pe_ix ix_list (pe_ix ix_list (pv 0) pe_int (fun _ _ => rfl)) (pe_ix ix_list (pv 0) pe_int (fun _ _ => rfl)) (fun _ _ => rfl)))
      (pss_cons (ps_asg (pe_op op_add (pe_ix ix_list (pv 0) pe_int (fun _ _ => rfl)) pe_int) (pg_sub (pv 0) pe_int set_list))
      (pss_one (ps_if (pt_cmpR op_ge (pe_callB call_abs (by rfl) T.z_abs (by decide +kernel) (pa_cons (pv 2) pa_nil)) (pe_op op_pow pe_int pe_int) (nomark _)) (pss_one (ps_asg (pe_callB call_abs (by rfl) T.z_abs (by decide +kernel) (pa_cons (pv 2) pa_nil)) (pg_sub (pv 0) pe_int set_list))) (pss_one (ps_asg (pe_op op_mod (pe_callTy call_int1 (by rfl) T.z_int (by decide +kernel) (pa_cons (pe_op op_add (pe_op op_add (pe_op op_mul (pe_ix ix_list (pv 0) pe_int (fun _ _ => rfl)) pe_int) (pe_op op_mul (pe_op op_mod (pe_callTy call_int1 (by rfl) T.z_int (by decide +kernel) (pa_cons (pv 2) pa_nil)) pe_int) pe_int)) pe_int) pa_nil)) pe_int) (pg_sub (pv 0) pe_int set_list))))))) pss_nil)
      (pss_cons (ps_if (pt_cmpR op_gt (pe_ix ix_list (pv 0) pe_int (fun _ _ => rfl)) pe_int (nomark _)) (pss_cons (ps_set (i := 3) sc__law_draw.nd rfl (.inl rfl) (pe_op op_mod (pe_callTy call_int1 (by rfl) T.z_int (by decide +kernel) (pa_cons (pe_ix ix_list (pv 0) pe_int (fun _ _ => rfl)) pa_nil)) (pv 1)))
      (pss_cons (ps_asg (pe_op op_fdivN (pe_ix ix_list (pv 0) pe_int (fun _ _ => rfl)) (pv 1)) (pg_sub (pv 0) pe_int set_list))
      (pss_one (ps_ret (pv 3))))) pss_nil)
      (pss_cons (ps_set (i := 4) sc__law_draw.nd rfl (.inl rfl) (pe_op op_mod (pe_callTy call_int1 (by rfl) T.z_int (by decide +kernel) (pa_cons (pe_op op_add (pe_op op_mul (pe_ix ix_list (pv 0) pe_int (fun _ _ => rfl)) (pe_ix ix_list (pv 0) pe_int (fun _ _ => rfl))) (pe_op op_mul (pe_ix ix_list (pv 0) pe_int (fun _ _ => rfl)) pe_int)) pa_nil)) pe_int))
      (pss_cons (ps_asg (pe_op op_mod (pe_callTy call_int1 (by rfl) T.z_int (by decide +kernel) (pa_cons (pe_op op_add (pe_op op_add (pe_op op_mul (pv 4) pe_int) (pe_op op_mul (pe_ix ix_list (pv 0) pe_int (fun _ _ => rfl)) pe_int)) pe_int) pa_nil)) pe_int) (pg_sub (pv 0) pe_int set_list))
      (pss_one (ps_ret (pe_op op_mod (pe_callTy call_int1 (by rfl) T.z_int (by decide +kernel) (pa_cons (pe_op op_fdivN (pe_ix ix_list (pv 0) pe_int (fun _ _ => rfl)) pe_int) pa_nil)) (pv 1))))))))), ?_⟩
    -- bag[4] += 1
    refine ⟨_, rfl, b, _, 4, _, rfl, rfl, SqL.of hb, rfl, _, _, rfl, rfl, _, rfl, b, _, 4, 4, rfl, rfl, hb, rfl, ?_⟩
    have B1 : BagAt H (upd H b (.lst [.ref l, .int i, .int r, .int m, .int (c + 1)])) b l ns := ⟨(But.refl b H).upd, by rw [upd_ne nlb]; exact hL, i, r, m, c + 1, upd_same, hi, hm0, hm1⟩
    refine ⟨fun σ' H1 => ∃ x2 x3 x4, σ' = [some (.ref b), some (.int k), x2, x3, x4] ∧ BagAt H H1 b l ns, ?_, ?_⟩
    · have hL1 : (upd H b (.lst [.ref l, .int i, .int r, .int m, .int (c + 1)])) l = some (.lst (ns.map V.int)) := by rw [upd_ne nlb]; exact hL
      refine ⟨_, rfl, b, _, 2, _, rfl, rfl, SqL.of upd_same, rfl, rfl, _, rfl, ite2 (fun _ => ?_) (fun _ => ?_)⟩
      · refine ⟨_, rfl, b, _, 1, _, rfl, rfl, SqL.of upd_same, rfl, _, rfl, b, _, 0, _, rfl, rfl, SqL.of upd_same, rfl, _, _, rfl, .inl ⟨_, SqL.of hL1, rfl⟩, _, _, rfl, rfl, _, rfl, ite2 (fun hlt => ?_) (fun _ => ?_)⟩
        · have hlt : i < ((ns.map V.int).length : Int) := of_decide_eq_true hlt
          rw [List.length_map] at hlt
          have hin : i.toNat < ns.length := by omega
          have hat : atI (ns.map V.int) i = some (.int ns[i.toNat]) := by
            have e : i = ((i.toNat : Nat) : Int) := by omega
            refine at_of e ?_
            rw [List.getElem?_map, List.getElem?_eq_getElem hin]
            rfl
          refine ⟨_, rfl, b, _, 0, _, rfl, rfl, SqL.of upd_same, rfl, _, rfl, b, _, 1, _, rfl, rfl, SqL.of upd_same, rfl, l, _, i, _, rfl, rfl, SqL.of hL1, hat, ?_⟩
          refine ⟨_, rfl, b, _, 1, _, rfl, rfl, SqL.of upd_same, rfl, _, _, rfl, rfl, _, rfl, b, _, 1, 1, rfl, rfl, upd_same, rfl, ?_⟩
          refine ⟨_, rfl, _, rfl, _, _, rfl, rfl, ⟨by decide, by decide, by decide⟩, _, _, rfl, rfl, _, rfl, ite2 (fun _ => ?_) (fun _ => ?_)⟩
          · refine ⟨_, rfl, _, rfl, _, rfl, b, _, 2, 2, rfl, rfl, upd_same, rfl, _, _, _, rfl, (((But.refl b H).upd).upd).upd, ?_, _, _, _, _, upd_same, ?_, hm0, hm1⟩
            · rw [upd_ne nlb, upd_ne nlb]
              exact hL1
            · omega
          · refine ⟨_, rfl, b, _, 3, _, rfl, rfl, SqL.of upd_same, rfl, _, _, rfl, rfl, .inr ⟨by decide, by decide⟩, _, rfl, .inl ⟨_, rfl, _, _, rfl, rfl, (show (0 : Int) < 1000033 by decide), _, _, rfl, rfl, .inr ⟨by decide, by decide⟩, _, _, rfl, rfl, _, _, rfl, rfl, .inl ⟨_, rfl, _, _, rfl, rfl, (show (0 : Int) < 2147483587 by decide), ?_⟩⟩⟩
            refine ⟨_, rfl, b, _, 3, 3, rfl, rfl, upd_same, rfl, _, _, _, rfl, (((But.refl b H).upd).upd).upd, ?_, _, _, _, _, upd_same, ?_, Int.emod_nonneg _ (by decide), Int.lt_trans (Int.emod_lt_of_pos _ (by decide)) (by decide)⟩
            · rw [upd_ne nlb, upd_ne nlb]
              exact hL1
            · omega
        · exact ⟨_, _, _, rfl, B1⟩
      · exact ⟨_, _, _, rfl, B1⟩
    · rintro σ' H1 ⟨x2, x3, x4, rfl, hbut, hL1, i1, r1, m1, c1, hb1, hi1, hm01, hm11⟩
      have fin : ∀ H2, But b H H2 → H2 l = some (.lst (ns.map V.int)) → ∀ i2 r2 m2 c2 : Int, H2 b = some (.lst [.ref l, .int i2, .int r2, .int m2, .int c2]) → 0 ≤ i2 → 0 ≤ m2 → m2 < 2147483648 → Bag H2 b l := fun H2 _ h2 i2 r2 m2 c2 h3 h4 h5 h6 => ⟨ns, i2, r2, m2, c2, h3, h2, hlen, h4, h5, h6⟩
      refine ⟨_, rfl, b, _, 2, _, rfl, rfl, SqL.of hb1, rfl, _, _, rfl, rfl, _, rfl, ite2 (fun _ => ?_) (fun _ => ?_)⟩
      · refine ⟨_, rfl, b, _, 2, _, rfl, rfl, SqL.of hb1, rfl, .inl ⟨_, rfl, _, rfl, _, _, rfl, rfl, hk, ?_⟩⟩
        refine ⟨_, rfl, b, _, 2, _, rfl, rfl, SqL.of hb1, rfl, _, rfl, _, _, rfl, rfl, ⟨by omega, by omega⟩, _, rfl, b, _, 2, 2, rfl, rfl, hb1, rfl, _, rfl, ?_⟩
        refine q _ _ (Int.emod_nonneg _ (by omega)) (Int.emod_lt_of_pos _ hk) hbut.upd (fin _ hbut.upd (by rw [upd_ne nlb]; exact hL1) _ _ _ _ upd_same hi1 hm01 hm11)
      · refine ⟨_, rfl, b, _, 3, _, rfl, rfl, SqL.of hb1, rfl, _, rfl, b, _, 3, _, rfl, rfl, SqL.of hb1, rfl, _, _, rfl, rfl, .inl ⟨by omega, by omega⟩, _, rfl, b, _, 4, _, rfl, rfl, SqL.of hb1, rfl, _, _, rfl, rfl, .inr ⟨by decide, by decide⟩, _, _, rfl, rfl, .inl ⟨_, rfl, _, _, rfl, rfl, (show (0 : Int) < 2147483629 by decide), ?_⟩⟩
        refine ⟨_, rfl, _, _, rfl, rfl, .inr ⟨by decide, by decide⟩, _, rfl, b, _, 3, _, rfl, rfl, SqL.of hb1, rfl, _, _, rfl, rfl, .inr ⟨by decide, by decide⟩, _, _, rfl, rfl, _, _, rfl, rfl, .inl ⟨_, rfl, _, _, rfl, rfl, (show (0 : Int) < 2147483587 by decide), ?_⟩⟩
        refine ⟨_, rfl, b, _, 3, 3, rfl, rfl, hb1, rfl, ?_⟩
        refine ⟨_, rfl, b, _, 3, _, rfl, rfl, SqL.of upd_same, rfl, _, _, rfl, rfl, ⟨by decide, by decide⟩, .inl ⟨_, rfl, _, rfl, _, _, rfl, rfl, hk, ?_⟩⟩
        refine q _ _ (Int.emod_nonneg _ (by omega)) (Int.emod_lt_of_pos _ hk) hbut.upd (fin _ hbut.upd (by rw [upd_ne nlb]; exact hL1) _ _ _ _ upd_same hi1 (Int.emod_nonneg _ (by decide)) (Int.lt_trans (Int.emod_lt_of_pos _ (by decide)) (by decide)))
abbrev s__law_of : Stmt := topS 49
theorem sc__law_of : FnScope ["_law_bag", "_law_things"] ["_law_bag", "_law_things"] (defScope s__law_of) := ⟨rfl, rfl, rfl, by decide +kernel, rfl, by decide +kernel, by decide +kernel⟩
theorem ok__law_of {f : Addr} {fd : FuncData} (F : Fun K "_law_of" "_law_of" s__law_of f fd) (T : Z mg) (c__law_draw : Cal P w K mg base CX0 1 "_law_draw" s__law_draw ["_law_bag", "_law_many"] (sp__law_draw K)) : FnOk P w K mg base CX0 2 f fd ["_law_bag", "_law_things"] (sp__law_of K) := by
  refine F.ok sc__law_of (fun vs H Q E h => ?_) (fun cdv A outer s H vs Q E hr h => ?_)
  · obtain ⟨b, lb, x, xs, rfl, _⟩ := h
    rfl
  · obtain ⟨b, lb, x, xs, rfl, B, hI, h0, h1, q⟩ := h
    refine ⟨_, (pss_one (ps_ret (pe_ix ix_seq (pv 1) (pe_c c__law_draw hr (by decide) (by rfl) (pa_cons (pv 0) (pa_cons (pe_callB call_len (by rfl) T.z_len (by decide +kernel) (pa_cons (pv 1) pa_nil)) pa_nil))) (fun _ _ => rfl)))), ?_⟩
    have pick : ∀ z : Int, 0 ≤ z → z < (xs.length : Int) → ∃ v, atI xs z = some v ∧ v ∈ xs := fun z z0 z1 => by
      have hin : z.toNat < xs.length := by omega
      exact ⟨xs[z.toNat], at_of (show z = ((z.toNat : Nat) : Int) by omega) (List.getElem?_eq_getElem hin), List.getElem_mem hin⟩
    refine ⟨_, rfl, _, rfl, _, rfl, x, xs.length, rfl, ?_, ?_⟩
    · rcases hI with ⟨a, _, rfl, hS⟩ | ⟨a, _, rfl, hS⟩ | ⟨l, rfl, rfl⟩
      · exact .inl ⟨_, hS, rfl⟩
      · exact .inr ⟨_, hS, rfl⟩
      · rw [List.length_map] at h1 ⊢
        exact ⟨by rw [S_len]; exact sz h1, (S_len l).symm⟩
    · refine ⟨b, lb, xs.length, rfl, B, by omega, by omega, fun H' z z0 z1 hb B' => ?_⟩
      obtain ⟨v, ha, hm⟩ := pick z z0 z1
      rcases hI with ⟨a, na, rfl, hS⟩ | ⟨a, na, rfl, hS⟩ | ⟨l, rfl, rfl⟩
      · exact .inl ⟨a, xs, z, v, rfl, rfl, hb.seq na hS, ha, q _ _ hm hb B'⟩
      · exact .inr (.inl ⟨a, xs, z, v, rfl, rfl, hb.tup na hS, ha, q _ _ hm hb B'⟩)
      · refine .inr (.inr ?_)
        obtain ⟨c, hc⟩ : ∃ c, atI l z = some c := by
          have hin : z.toNat < l.length := by
            rw [List.length_map] at z1
            omega
          exact ⟨l[z.toNat], atI_of (show z = ((z.toNat : Nat) : Int) by omega) (List.getElem?_eq_getElem hin)⟩
        have ev : v = sgn c := by
          have z2 : z < (l.length : Int) := by
            rw [List.length_map] at z1
            exact z1
          have e1 : ixN l.length z = some z.toNat := by
            unfold ixN
            rw [if_pos z0, if_pos z2]
          unfold atI at ha hc
          rw [List.length_map, e1] at ha
          rw [e1] at hc
          have hc' : l[z.toNat]? = some c := hc
          have ha' : (l.map sgn)[z.toNat]? = some v := ha
          rw [List.getElem?_map, hc'] at ha'
          exact (Option.some.inj ha').symm
        rw [List.length_map] at h1
        exact ⟨S l, z, c, rfl, rfl, by rw [S_len]; exact sz h1, hc, by rw [ev] at hm; exact q _ _ hm hb B'⟩
abbrev s__law_same : Stmt := topS 50
theorem sc__law_same : FnScope ["_law_found", "_law_due", "_law_a", "_law_b"] ["_law_found", "_law_due"] (defScope s__law_same) := ⟨rfl, rfl, rfl, by decide +kernel, rfl, by decide +kernel, by decide +kernel⟩
theorem ok__law_same_step {f : Addr} {fd : FuncData} {n : Nat} {sp : Sp} (F : Fun K "_law_same" "_law_same" s__law_same f fd) (T : Z mg)
    (c__law_same : Cal P w K mg base CX0 (n + 1) "_law_same" s__law_same ["_law_found", "_law_due"] sp) (hsp : ∀ m vs H Q E, n = m + 1 → sp__law_same K m vs H Q E → sp vs H Q E) : FnOk P w K mg base CX0 (n + 2) f fd ["_law_found", "_law_due"] (sp__law_same K n) := by
  refine F.ok sc__law_same (fun vs H Q E h => ?_) (fun cdv A outer s H vs Q E hr h => ?_)
  · obtain ⟨x, y, d, rfl, _⟩ := h
    rfl
  · obtain ⟨x, y, d, rfl, hx, hy, hd, q⟩ := h
    refine ⟨_, (pss_cons (ps_if (PW.pt (pw_or (pt_cmpR op_isN (pv 1) pe_non (nomark _)) (pw_or1 (pt_cmpR op_isN (pv 0) pe_non (nomark _))))) (pss_one (ps_ret (pe_and (pe_cmpR op_isN (pv 1) pe_non (nomark _)) (pe_one (pe_cmpR op_isN (pv 0) pe_non (nomark _)))))) pss_nil)
      (pss_cons (ps_if (pt_val (pe_callB call_isiT (by rfl) T.z_isinstance (by decide +kernel) (pa_cons (pv 1) (pa_cons (pe_tup (pa_cons (pe_bltn (v := .ty "list") (u := .type "list") (by rfl) T.z_list (by decide +kernel) rfl) (pa_cons (pe_bltn (v := .ty "tuple") (u := .type "tuple") (by rfl) T.z_tuple (by decide +kernel) rfl) pa_nil))) pa_nil)))) (pss_cons (ps_if (pt_cmpR op_ne (pe_callB call_isi (by rfl) T.z_isinstance (by decide +kernel) (pa_cons (pv 0) (pa_cons (pe_bltn (v := .ty "list") (u := .type "list") (by rfl) T.z_list (by decide +kernel) rfl) pa_nil))) (pe_callB call_isi (by rfl) T.z_isinstance (by decide +kernel) (pa_cons (pv 1) (pa_cons (pe_bltn (v := .ty "list") (u := .type "list") (by rfl) T.z_list (by decide +kernel) rfl) pa_nil))) (nomark _)) (pss_one (ps_ret pe_bl)) pss_nil)
      (pss_cons (ps_if (PW.pt (pw_or (pt_cmpR op_ne (pe_callB call_isi (by rfl) T.z_isinstance (by decide +kernel) (pa_cons (pv 0) (pa_cons (pe_bltn (v := .ty "tuple") (u := .type "tuple") (by rfl) T.z_tuple (by decide +kernel) rfl) pa_nil))) (pe_callB call_isi (by rfl) T.z_isinstance (by decide +kernel) (pa_cons (pv 1) (pa_cons (pe_bltn (v := .ty "tuple") (u := .type "tuple") (by rfl) T.z_tuple (by decide +kernel) rfl) pa_nil))) (nomark _)) (pw_or1 (pt_cmpR op_ne (pe_callB call_len (by rfl) T.z_len (by decide +kernel) (pa_cons (pv 0) pa_nil)) (pe_callB call_len (by rfl) T.z_len (by decide +kernel) (pa_cons (pv 1) pa_nil)) (nomark _))))) (pss_one (ps_ret pe_bl)) pss_nil)
      (pss_one (ps_ret (pe_callB (cr_all rfl) (by rfl) T.z_all (by decide +kernel) (pa_cons (pe_lc (own := [("_law_a", 2), ("_law_b", 3)]) (g := (gTup K 2 (gCons (gName 2) (gCons (gName 3) gNil)))) (by rfl) sc__law_same.nd (RZ.pi_zipA (by rfl) T.z_zip (pa_cons (pv 0) (pa_cons (pv 1) pa_nil))) (blkOk_by (N := ["_law_found", "_law_due", "_law_a", "_law_b"]) (sc := defScope s__law_same) (by decide +kernel)) (fun _ _ _ _ _ => (pg_tup rfl (pgs_cons (pg_name (i := 2) sc__law_same.nd rfl (.inl rfl)) (pgs_cons (pg_name (i := 3) sc__law_same.nd rfl (.inl rfl)) pgs_nil)))) (fun _ _ _ _ _ => pts_nil) (fun _ _ _ _ _ => (pe_c c__law_same hr (Nat.le_refl _) (by rfl) (pa_cons (pv 2) (pa_cons (pv 3) pa_nil))))) pa_nil)))))) pss_nil)
      (pss_cons (ps_if (pt_val (pe_callB call_isiT (by rfl) T.z_isinstance (by decide +kernel) (pa_cons (pv 0) (pa_cons (pe_tup (pa_cons (pe_bltn (v := .ty "list") (u := .type "list") (by rfl) T.z_list (by decide +kernel) rfl) (pa_cons (pe_bltn (v := .ty "tuple") (u := .type "tuple") (by rfl) T.z_tuple (by decide +kernel) rfl) pa_nil))) pa_nil)))) (pss_one (ps_ret pe_bl)) pss_nil)
      (pss_cons (ps_if (pt_cmpR op_ne (pe_callB call_isi (by rfl) T.z_isinstance (by decide +kernel) (pa_cons (pv 0) (pa_cons (pe_bltn (v := .ty "bool") (u := .type "bool") (by rfl) T.z_bool (by decide +kernel) rfl) pa_nil))) (pe_callB call_isi (by rfl) T.z_isinstance (by decide +kernel) (pa_cons (pv 1) (pa_cons (pe_bltn (v := .ty "bool") (u := .type "bool") (by rfl) T.z_bool (by decide +kernel) rfl) pa_nil))) (nomark _)) (pss_one (ps_ret pe_bl)) pss_nil)
      (pss_cons (ps_if (pt_cmpR op_ne (pe_callB call_isi (by rfl) T.z_isinstance (by decide +kernel) (pa_cons (pv 0) (pa_cons (pe_bltn (v := .ty "int") (u := .type "int") (by rfl) T.z_int (by decide +kernel) rfl) pa_nil))) (pe_callB call_isi (by rfl) T.z_isinstance (by decide +kernel) (pa_cons (pv 1) (pa_cons (pe_bltn (v := .ty "int") (u := .type "int") (by rfl) T.z_int (by decide +kernel) rfl) pa_nil))) (nomark _)) (pss_one (ps_ret pe_bl)) pss_nil)
      (pss_one (ps_ret (pe_and (pe_cmpR op_eq (pe_callB call_isi (by rfl) T.z_isinstance (by decide +kernel) (pa_cons (pv 0) (pa_cons (pe_bltn (v := .ty "str") (u := .type "str") (by rfl) T.z_str (by decide +kernel) rfl) pa_nil))) (pe_callB call_isi (by rfl) T.z_isinstance (by decide +kernel) (pa_cons (pv 1) (pa_cons (pe_bltn (v := .ty "str") (u := .type "str") (by rfl) T.z_str (by decide +kernel) rfl) pa_nil))) (nomark _)) (pe_one (pe_cmpR op_eq (pv 0) (pv 1) (nomark _))))))))))), ?_⟩
    have kinds : (x = .non ∧ y = .non) ∨ (∃ (Ty : String) (r1 r2 r3 : Bool), x = y ∧ x ≠ .non ∧ (∀ H', TyX K H' x (.type Ty)) ∧ kitB Ty "list" = some false ∧ kitB Ty "tuple" = some false ∧ kitB Ty "bool" = some r1 ∧ kitB Ty "int" = some r2 ∧ kitB Ty "str" = some r3 ∧ scal x x = true) ∨
        (∃ (m : Nat) (a b : Addr) (xs ys : List V) (ds : List PyData), n = m + 1 ∧ x = .ref a ∧ y = .ref b ∧ SqL K H a xs ∧ SqL K H b ys ∧ DpAll K H xs ds ∧ DpAll K H ys ds ∧ ds.length ≤ 1000 ∧ ∀ d ∈ ds, Deep m d) ∨
        (∃ (m : Nat) (a b : Addr) (xs ys : List V) (ds : List PyData), n = m + 1 ∧ x = .ref a ∧ y = .ref b ∧ SqT K H a xs ∧ SqT K H b ys ∧ DpAll K H xs ds ∧ DpAll K H ys ds ∧ ds.length ≤ 1000 ∧ ∀ d ∈ ds, Deep m d) := by
      cases hx with
      | non =>
        cases hy
        exact .inl ⟨rfl, rfl⟩
      | bl b =>
        cases hy
        exact .inr (.inl ⟨"bool", true, true, false, rfl, (fun e => by cases e), fun _ => .base (.bl b), by decide +kernel, by decide +kernel, by decide +kernel, by decide +kernel, by decide +kernel, rfl⟩)
      | int b =>
        cases hy
        exact .inr (.inl ⟨"int", false, true, false, rfl, (fun e => by cases e), fun _ => .base (.int b), by decide +kernel, by decide +kernel, by decide +kernel, by decide +kernel, by decide +kernel, rfl⟩)
      | str b =>
        cases hy
        exact .inr (.inl ⟨"str", false, false, true, rfl, (fun e => by cases e), fun _ => .base (.str b), by decide +kernel, by decide +kernel, by decide +kernel, by decide +kernel, by decide +kernel, rfl⟩)
      | lst h1 h2 =>
        cases hy with
        | lst h3 h4 =>
          cases n with
          | zero =>
            unfold Deep at hd
            exact hd.elim
          | succ m =>
            unfold Deep at hd
            exact .inr (.inr (.inl ⟨m, _, _, _, _, _, rfl, rfl, rfl, h1, h3, h2, h4, hd.1, hd.2⟩))
      | tup h1 h2 =>
        cases hy with
        | tup h3 h4 =>
          cases n with
          | zero =>
            unfold Deep at hd
            exact hd.elim
          | succ m =>
            unfold Deep at hd
            exact .inr (.inr (.inr ⟨m, _, _, _, _, _, rfl, rfl, rfl, h1, h3, h2, h4, hd.1, hd.2⟩))
    rcases kinds with ⟨rfl, rfl⟩ | ⟨Ty, r1, r2, r3, rfl, hn, ht, k1, k2, k3, k4, k5, hs⟩ | ⟨m, a, b, xs, ys, ds, hm, rfl, rfl, hSx, hSy, hDx, hDy, hdl, hdd⟩ | ⟨m, a, b, xs, ys, ds, hm, rfl, rfl, hSx, hSy, hDx, hDy, hdl, hdd⟩
    · refine ⟨_, rfl, rfl, _, rfl, ite2 (fun _ => ?_) (fun h => absurd (decide_eq_true rfl) h)⟩
      refine iteT ?_
      refine ⟨_, rfl, rfl, _, rfl, ite2 (fun _ => ?_) (fun h => absurd (decide_eq_true rfl) h)⟩
      refine ⟨_, rfl, rfl, ?_⟩
      rw [decide_eq_true rfl]
      exact q _ (Same.refl H)
    · refine ⟨_, rfl, rfl, _, rfl, ite2 (fun h => absurd (of_decide_eq_true h) hn) (fun _ => ?_)⟩
      refine ⟨_, rfl, rfl, _, rfl, ite2 (fun h => absurd (of_decide_eq_true h) hn) (fun _ => ?_)⟩
      refine ⟨_, rfl, (show 2 ≤ sizeLine by decide), fun p np => ⟨_, p, _, _, _, false, rfl, upd_same, .cons (.ty _) (.cons (.ty _) .nil), ht _, kitAny_lt k1 k2, _, rfl, iteF ?_⟩⟩
      have s1 := same_upd (o := HO.tup [V.ty "list", V.ty "tuple"]) np
      refine ⟨_, rfl, (show 2 ≤ sizeLine by decide), fun p2 np2 => ⟨_, p2, _, _, _, false, rfl, upd_same, .cons (.ty _) (.cons (.ty _) .nil), ht _, kitAny_lt k1 k2, _, rfl, iteF ?_⟩⟩
      have s2 := s1.trans (same_upd (o := HO.tup [V.ty "list", V.ty "tuple"]) np2)
      refine ⟨_, rfl, _, _, _, _, r1, rfl, .ty _, ht _, kit_ty k3, _, rfl, _, _, _, _, r1, rfl, .ty _, ht _, kit_ty k3, rfl, _, rfl, iteNS rfl ?_⟩
      refine ⟨_, rfl, _, _, _, _, r2, rfl, .ty _, ht _, kit_ty k4, _, rfl, _, _, _, _, r2, rfl, .ty _, ht _, kit_ty k4, rfl, _, rfl, iteNS rfl ?_⟩
      refine ⟨_, rfl, _, _, _, _, r3, rfl, .ty _, ht _, kit_ty k5, _, rfl, _, _, _, _, r3, rfl, .ty _, ht _, kit_ty k5, rfl, _, rfl, ite2 (fun _ => ?_) (fun h => absurd (decide_eq_true rfl) h)⟩
      refine ⟨_, rfl, _, rfl, hs, ?_⟩
      rw [decide_eq_true rfl]
      exact q _ s2
    · refine ⟨_, rfl, rfl, _, rfl, ite2 (fun h => absurd (of_decide_eq_true h) (fun e => by cases e)) (fun _ => ?_)⟩
      refine ⟨_, rfl, rfl, _, rfl, ite2 (fun h => absurd (of_decide_eq_true h) (fun e => by cases e)) (fun _ => ?_)⟩
      refine ⟨_, rfl, (show 2 ≤ sizeLine by decide), fun p np => ?_⟩
      have s1 := same_upd (o := HO.tup [V.ty "list", V.ty "tuple"]) np
      have hSx1 := s1.seq hSx
      have hSy1 := s1.seq hSy
      refine ⟨_, p, _, _, _, true, rfl, upd_same, .cons (.ty _) (.cons (.ty _) .nil), tyL hSy1, kitAny_lt (r1 := true) (r2 := false) (by decide +kernel) (by decide +kernel), _, rfl, iteT ?_⟩
      refine ⟨_, rfl, _, _, _, _, true, rfl, .ty _, tyL hSx1, kit_ty (by decide +kernel), _, rfl, _, _, _, _, true, rfl, .ty _, tyL hSy1, kit_ty (by decide +kernel), rfl, _, rfl, iteNS rfl ?_⟩
      refine ⟨_, rfl, _, _, _, _, false, rfl, .ty _, tyL hSx1, kit_ty (by decide +kernel), _, rfl, _, _, _, _, false, rfl, .ty _, tyL hSy1, kit_ty (by decide +kernel), rfl, _, rfl, iteNS rfl ?_⟩
      refine ⟨_, rfl, _, _, rfl, .inl ⟨_, hSx1, rfl⟩, _, rfl, _, _, rfl, .inl ⟨_, hSy1, rfl⟩, rfl, _, rfl, iteNS (by rw [DpAll.len hDx, DpAll.len hDy]) ?_⟩
      refine ⟨_, rfl, _, rfl, a, b, xs, ys, rfl, .inl ⟨hSx1, hSy1, fun D hD => ?_⟩⟩
      refine lc_it (walk_zip (xs := xs) (ys := ys) (n := ds.length) (by rw [DpAll.len hDx, DpAll.len hDy, Nat.min_self])) (fun i H' => But D (upd H p (.tup [.ty "list", .ty "tuple"])) H' ∧ H' D = some (.lst (List.replicate i (.bl true)))) ⟨(same_upd hD).but, upd_same⟩ (fun i H' _ pv => ?_) ?_ ?_
      · have nD : ∀ c u, (upd H p (.tup [.ty "list", .ty "tuple"])) c = some u → c ≠ D := fun c u e => ne_of_none e hD
        exact ⟨seq_but nD pv.1 hSx1, seq_but nD pv.1 hSy1⟩
      · rintro i _ H' _ hi ⟨bt, hDD⟩ ⟨T', x1, y1, rfl, nT, rfl, hx1, hy1⟩
        obtain ⟨d1, e1, g1⟩ := DpAll.at hDx hx1
        obtain ⟨d2, e2, g2⟩ := DpAll.at hDy hy1
        have ed : d1 = d2 := Option.some.inj (e1.symm.trans e2)
        subst ed
        have nDT : D ≠ T' := ne_of_none hDD nT
        have sT := same_upd (o := HO.tup [x1, y1]) nT
        have nD : ∀ c u, H c = some u → c ≠ D := fun c u e => ne_of_none (s1 _ _ e) hD
        have sH : Same H (upd H' T' (.tup [x1, y1])) := fun c u e => sT _ _ (bt c u (nD c u e) (s1 _ _ e))
        refine ⟨T', [x1, y1], rfl, SqT.of upd_same, rfl, x1, [y1], rfl, y1, [], rfl, rfl, rfl, ?_⟩
        refine ⟨_, rfl, _, rfl, hsp m _ _ _ _ hm ⟨x1, y1, d1, rfl, Dp.same sH g1, Dp.same sH g2, hdd d1 (List.mem_of_getElem? e1), fun H2 s2 => ?_⟩⟩
        refine ⟨_, s2 _ _ (sT _ _ hDD), ?_, fun c u n e => ?_, ?_⟩
        · rw [List.length_replicate]
          exact sz1 (by omega)
        · rw [upd_ne n]
          exact s2 _ _ (sT _ _ (bt c u n e))
        · rw [upd_same, ← List.replicate_succ']
      · rintro H' ⟨bt, hDD⟩
        refine ⟨D, List.replicate ds.length true, rfl, SqL.of (by rw [hDD, List.map_replicate]), ?_⟩
        rw [show (List.replicate ds.length true).all id = true from by rw [List.all_eq_true]; intro z hz; rw [List.eq_of_mem_replicate hz]; rfl]
        exact q _ fun c u e => bt c u (ne_of_none (s1 _ _ e) hD) (s1 _ _ e)
    · refine ⟨_, rfl, rfl, _, rfl, ite2 (fun h => absurd (of_decide_eq_true h) (fun e => by cases e)) (fun _ => ?_)⟩
      refine ⟨_, rfl, rfl, _, rfl, ite2 (fun h => absurd (of_decide_eq_true h) (fun e => by cases e)) (fun _ => ?_)⟩
      refine ⟨_, rfl, (show 2 ≤ sizeLine by decide), fun p np => ?_⟩
      have s1 := same_upd (o := HO.tup [V.ty "list", V.ty "tuple"]) np
      have hSx1 := s1.tup hSx
      have hSy1 := s1.tup hSy
      refine ⟨_, p, _, _, _, true, rfl, upd_same, .cons (.ty _) (.cons (.ty _) .nil), tyT hSy1, kitAny_lt (r1 := false) (r2 := true) (by decide +kernel) (by decide +kernel), _, rfl, iteT ?_⟩
      refine ⟨_, rfl, _, _, _, _, false, rfl, .ty _, tyT hSx1, kit_ty (by decide +kernel), _, rfl, _, _, _, _, false, rfl, .ty _, tyT hSy1, kit_ty (by decide +kernel), rfl, _, rfl, iteNS rfl ?_⟩
      refine ⟨_, rfl, _, _, _, _, true, rfl, .ty _, tyT hSx1, kit_ty (by decide +kernel), _, rfl, _, _, _, _, true, rfl, .ty _, tyT hSy1, kit_ty (by decide +kernel), rfl, _, rfl, iteNS rfl ?_⟩
      refine ⟨_, rfl, _, _, rfl, .inr ⟨_, hSx1, rfl⟩, _, rfl, _, _, rfl, .inr ⟨_, hSy1, rfl⟩, rfl, _, rfl, iteNS (by rw [DpAll.len hDx, DpAll.len hDy]) ?_⟩
      refine ⟨_, rfl, _, rfl, a, b, xs, ys, rfl, .inr ⟨hSx1, hSy1, fun D hD => ?_⟩⟩
      refine lc_it (walk_zipT (xs := xs) (ys := ys) (n := ds.length) (by rw [DpAll.len hDx, DpAll.len hDy, Nat.min_self])) (fun i H' => But D (upd H p (.tup [.ty "list", .ty "tuple"])) H' ∧ H' D = some (.lst (List.replicate i (.bl true)))) ⟨(same_upd hD).but, upd_same⟩ (fun i H' _ pv => ?_) ?_ ?_
      · have nD : ∀ c u, (upd H p (.tup [.ty "list", .ty "tuple"])) c = some u → c ≠ D := fun c u e => ne_of_none e hD
        exact ⟨tup_but nD pv.1 hSx1, tup_but nD pv.1 hSy1⟩
      · rintro i _ H' _ hi ⟨bt, hDD⟩ ⟨T', x1, y1, rfl, nT, rfl, hx1, hy1⟩
        obtain ⟨d1, e1, g1⟩ := DpAll.at hDx hx1
        obtain ⟨d2, e2, g2⟩ := DpAll.at hDy hy1
        have ed : d1 = d2 := Option.some.inj (e1.symm.trans e2)
        subst ed
        have nDT : D ≠ T' := ne_of_none hDD nT
        have sT := same_upd (o := HO.tup [x1, y1]) nT
        have nD : ∀ c u, H c = some u → c ≠ D := fun c u e => ne_of_none (s1 _ _ e) hD
        have sH : Same H (upd H' T' (.tup [x1, y1])) := fun c u e => sT _ _ (bt c u (nD c u e) (s1 _ _ e))
        refine ⟨T', [x1, y1], rfl, SqT.of upd_same, rfl, x1, [y1], rfl, y1, [], rfl, rfl, rfl, ?_⟩
        refine ⟨_, rfl, _, rfl, hsp m _ _ _ _ hm ⟨x1, y1, d1, rfl, Dp.same sH g1, Dp.same sH g2, hdd d1 (List.mem_of_getElem? e1), fun H2 s2 => ?_⟩⟩
        refine ⟨_, s2 _ _ (sT _ _ hDD), ?_, fun c u n e => ?_, ?_⟩
        · rw [List.length_replicate]
          exact sz1 (by omega)
        · rw [upd_ne n]
          exact s2 _ _ (sT _ _ (bt c u n e))
        · rw [upd_same, ← List.replicate_succ']
      · rintro H' ⟨bt, hDD⟩
        refine ⟨D, List.replicate ds.length true, rfl, SqL.of (by rw [hDD, List.map_replicate]), ?_⟩
        rw [show (List.replicate ds.length true).all id = true from by rw [List.all_eq_true]; intro z hz; rw [List.eq_of_mem_replicate hz]; rfl]
        exact q _ fun c u e => bt c u (ne_of_none (s1 _ _ e) hD) (s1 _ _ e)
abbrev s__law_letters : Stmt := topS 54
theorem sc__law_letters : FnScope ["_law_bag", "_law_letters_here", "_law_many", "_law_found", "_law_low", "_law_k", "_law_at"] ["_law_bag", "_law_letters_here", "_law_many"] (defScope s__law_letters) := ⟨rfl, rfl, rfl, by decide +kernel, rfl, by decide +kernel, by decide +kernel⟩
theorem ok__law_letters {f : Addr} {fd : FuncData} (F : Fun K "_law_letters" "_law_letters" s__law_letters f fd) (T : Z mg) (c__law_draw : Cal P w K mg base CX0 1 "_law_draw" s__law_draw ["_law_bag", "_law_many"] (sp__law_draw K)) : FnOk P w K mg base CX0 2 f fd ["_law_bag", "_law_letters_here", "_law_many"] (sp__law_letters K) := by
  refine F.ok sc__law_letters (fun vs H Q E h => ?_) (fun cdv A outer s H vs Q E hr h => ?_)
  · obtain ⟨b, lb, L, k, rfl, _⟩ := h
    rfl
  · obtain ⟨b, lb, L, k, rfl, B, hk, hL, q⟩ := h
    refine ⟨_, (pss_cons (ps_asg (pe_tup (pa_cons pe_str (pa_cons pe_int pa_nil))) (pg_tup rfl (pgs_cons (pg_name (i := 3) sc__law_letters.nd rfl (.inl rfl)) (pgs_cons (pg_name (i := 4) sc__law_letters.nd rfl (.inl rfl)) pgs_nil))))
      (pss_cons (ps_for PassesOwn.never rfl (pi_range1 (by rfl) T.z_range (pa_cons (pv 2) pa_nil)) (pg_name (i := 5) sc__law_letters.nd rfl (.inl rfl))
        (pss_cons (ps_set (i := 6) sc__law_letters.nd rfl (.inl rfl) (pe_op op_add (pv 4) (pe_c c__law_draw hr (by decide) (by rfl) (pa_cons (pv 0) (pa_cons (pe_op op_sub (pe_op op_sub (pe_callB call_len_str (by rfl) T.z_len (by decide +kernel) (pa_cons (pv 1) pa_nil)) (pv 4)) (pe_op op_sub (pe_op op_sub (pv 2) pe_int) (pv 5))) pa_nil)))))
      (pss_one (ps_par (i := 3) (j := 4) (by rfl) sc__law_letters.nd rfl rfl (by decide) rfl rfl (pa_cons (pe_op op_add_str (pv 3) (pe_ix ix_str (pv 1) (pv 6) (fun _ _ => rfl))) (pa_cons (pe_op op_add (pv 6) pe_int) pa_nil)) (by rfl)))))
      (pss_one (ps_ret (pv 3))))), ?_⟩
    refine ⟨(show 2 ≤ sizeLine by decide), fun p np => ⟨p, _, rfl, SqT.of upd_same, rfl, _, _, rfl, _, _, rfl, rfl, _, rfl, k, rfl, by omega, by omega, ?_⟩⟩
    have s0 := same_upd (o := HO.tup [V.str "", V.int 0]) np
    refine for_range (n := ((k : Nat) : Int).toNat) (fun i σ H' => ∃ (r : List Nat) (low : Nat) (y5 y6 : Option V), σ = [some (.ref b), some (.str (S L)), some (.int k), some (.str (S r)), some (.int low), y5, y6] ∧ But b H H' ∧ Bag H' b lb ∧ List.Sublist r (L.take low) ∧ r.length = i ∧ low + (k - i) ≤ L.length)
      ⟨[], 0, none, none, rfl, s0.but, B.same s0, List.nil_sublist _, rfl, by omega⟩ ?_ ?_
    · rintro i σ H' hi ⟨r, low, y5, y6, rfl, hb, B', hs, hr', hlow⟩
      have hi : i < k := by omega
      refine ⟨_, rfl, _, rfl, _, rfl, _, rfl, by rw [S_len]; exact sz (by omega), _, rfl, _, _, rfl, rfl, _, rfl, _, _, rfl, rfl, _, rfl, _, _, rfl, rfl, _, _, rfl, rfl, ?_⟩
      rw [S_len]
      refine ⟨b, lb, _, rfl, B', by omega, by omega, fun H2 z z0 z1 hb2 B2 => ?_⟩
      refine ⟨_, _, rfl, rfl, ?_⟩
      have hz : low + z.toNat < L.length := by omega
      refine ⟨_, rfl, _, rfl, _, rfl, S L, _, L[low + z.toNat], rfl, rfl, by rw [S_len]; exact sz (by omega), atI_of (show (low : Int) + z = ((low + z.toNat : Nat) : Int) by omega) (List.getElem?_eq_getElem hz), _, _, rfl, rfl, ?_, _, rfl, _, _, rfl, rfl, _, _, rfl, ?_⟩
      · rw [S_len]
        exact sz (by show r.length + 1 ≤ 100000; omega)
      · refine ⟨r ++ [L[low + z.toNat]], low + z.toNat + 1, some (.int (0 + (i : Int))), some (.int ((low : Int) + z)), ?_, hb.trans hb2, B2, sub_next hs (by omega) hz, by rw [List.length_append, hr']; rfl, by omega⟩
        rw [← S_cat]
        have e : ((low : Int) + z + 1) = (((low + z.toNat + 1 : Nat)) : Int) := by omega
        rw [← e]
        rfl
    · rintro σ H' ⟨r, low, y5, y6, rfl, hb, B', hs, hr', hlow⟩
      exact ⟨_, rfl, q _ _ (hs.trans (List.take_sublist _ _)) (by omega) hb B'⟩
abbrev s__law_some_faces : Stmt := topS 55
theorem sc__law_some_faces : FnScope ["_law_bag", "_law_most"] ["_law_bag", "_law_most"] (defScope s__law_some_faces) := ⟨rfl, rfl, rfl, by decide +kernel, rfl, by decide +kernel, by decide +kernel⟩
theorem ok__law_some_faces {f : Addr} {fd : FuncData} (F : Fun K "_law_some_faces" "_law_some_faces" s__law_some_faces f fd) (T : Z mg) (c__law_draw : Cal P w K mg base CX0 1 "_law_draw" s__law_draw ["_law_bag", "_law_many"] (sp__law_draw K))
    (c__law_letters : Cal P w K mg base CX0 2 "_law_letters" s__law_letters ["_law_bag", "_law_letters_here", "_law_many"] (sp__law_letters K)) : FnOk P w K mg base CX0 3 f fd ["_law_bag", "_law_most"] (sp__law_some_faces K) := by
  refine F.ok sc__law_some_faces (fun vs H Q E h => ?_) (fun cdv A outer s H vs Q E hr h => ?_)
  · obtain ⟨b, lb, m, rfl, _⟩ := h
    rfl
  · obtain ⟨b, lb, m, rfl, B, h0, h1, q⟩ := h
    refine ⟨_, (pss_one (ps_ret (pe_c c__law_letters hr (by decide) (by rfl) (pa_cons (pv 0) (pa_cons pe_str (pa_cons (pe_op op_add pe_int (pe_c c__law_draw hr (by decide) (by rfl) (pa_cons (pv 0) (pa_cons (pv 1) pa_nil)))) pa_nil)))))), ?_⟩
    refine ⟨_, rfl, _, rfl, _, rfl, b, lb, _, rfl, B, by omega, by omega, fun H1 z z0 z1 hb B1 => ?_⟩
    refine ⟨_, _, rfl, rfl, b, lb, lower, 1 + z.toNat, ?_, B1, by rw [lower_len]; omega, by rw [lower_len]; omega, fun H2 r hs hr' hb2 B2 => ?_⟩
    · have e : (1 : Int) + z = ((1 + z.toNat : Nat) : Int) := by omega
      rw [← e]
      rfl
    · exact q _ r hs (by omega) (by omega) (hb.trans hb2) B2
abbrev s__law_some_cutters : Stmt := topS 56
theorem sc__law_some_cutters : FnScope ["_law_bag", "_law_most"] ["_law_bag", "_law_most"] (defScope s__law_some_cutters) := ⟨rfl, rfl, rfl, by decide +kernel, rfl, by decide +kernel, by decide +kernel⟩
theorem upper_len : upper.length = 26 := by decide +kernel
def sp__law_some_cutters (K : PySem.W.Frag) : Sp := fun vs H Q _ => ∃ (b lb : Addr) (m : Nat), vs = [.ref b, .int m] ∧ Bag H b lb ∧ 0 < m ∧ m ≤ 26 ∧ ∀ H' r, List.Sublist r upper → 0 < r.length → r.length ≤ m → But b H H' → Bag H' b lb → Q (.str (S r)) H'
theorem ok__law_some_cutters {f : Addr} {fd : FuncData} (F : Fun K "_law_some_cutters" "_law_some_cutters" s__law_some_cutters f fd) (T : Z mg) (c__law_draw : Cal P w K mg base CX0 1 "_law_draw" s__law_draw ["_law_bag", "_law_many"] (sp__law_draw K))
    (c__law_letters : Cal P w K mg base CX0 2 "_law_letters" s__law_letters ["_law_bag", "_law_letters_here", "_law_many"] (sp__law_letters K)) : FnOk P w K mg base CX0 3 f fd ["_law_bag", "_law_most"] (sp__law_some_cutters K) := by
  refine F.ok sc__law_some_cutters (fun vs H Q E h => ?_) (fun cdv A outer s H vs Q E hr h => ?_)
  · obtain ⟨b, lb, m, rfl, _⟩ := h
    rfl
  · obtain ⟨b, lb, m, rfl, B, h0, h1, q⟩ := h
    refine ⟨_, (pss_one (ps_ret (pe_c c__law_letters hr (by decide) (by rfl) (pa_cons (pv 0) (pa_cons pe_str (pa_cons (pe_op op_add pe_int (pe_c c__law_draw hr (by decide) (by rfl) (pa_cons (pv 0) (pa_cons (pv 1) pa_nil)))) pa_nil)))))), ?_⟩
    refine ⟨_, rfl, _, rfl, _, rfl, b, lb, _, rfl, B, by omega, by omega, fun H1 z z0 z1 hb B1 => ?_⟩
    refine ⟨_, _, rfl, rfl, b, lb, upper, 1 + z.toNat, ?_, B1, by rw [upper_len]; omega, by rw [upper_len]; omega, fun H2 r hs hr' hb2 B2 => ?_⟩
    · have e : (1 : Int) + z = ((1 + z.toNat : Nat) : Int) := by omega
      rw [← e]
      rfl
    · exact q _ r hs (by omega) (by omega) (hb.trans hb2) B2
abbrev s__law_part : Stmt := topS 57
theorem sc__law_part : FnScope ["_law_bag", "_law_letters_here", "_law_chosen", "_law_letter"] ["_law_bag", "_law_letters_here"] (defScope s__law_part) := ⟨rfl, rfl, rfl, by decide +kernel, rfl, by decide +kernel, by decide +kernel⟩
/-- a part of a drawn line -/
def PartR (r L : List Nat) : Prop := r = [46] ∨ (List.Sublist r L ∧ 0 < r.length)
def sp__law_part (K : PySem.W.Frag) : Sp := fun vs H Q _ => ∃ (b lb : Addr) (L : List Nat), vs = [.ref b, .str (S L)] ∧ Bag H b lb ∧ L.length ≤ 100 ∧ ∀ H' r, PartR r L → But b H H' → Bag H' b lb → Q (.str (S r)) H'
theorem ok__law_part {f : Addr} {fd : FuncData} (F : Fun K "_law_part" "_law_part" s__law_part f fd) (T : Z mg) (c__law_draw : Cal P w K mg base CX0 1 "_law_draw" s__law_draw ["_law_bag", "_law_many"] (sp__law_draw K)) : FnOk P w K mg base CX0 2 f fd ["_law_bag", "_law_letters_here"] (sp__law_part K) := by
  refine F.ok sc__law_part (fun vs H Q E h => ?_) (fun cdv A outer s H vs Q E hr h => ?_)
  · obtain ⟨b, lb, L, rfl, _⟩ := h
    rfl
  obtain ⟨b, lb, L, rfl, B, hL, q⟩ := h
  refine ⟨_, (pss_cons (ps_set (i := 2) sc__law_part.nd rfl (.inl rfl) (pe_join pe_str (pe_lc (own := [("_law_letter", 3)]) (g := (gName 3)) (by rfl) sc__law_part.nd (pi_str (pv 1)) (blkOk_by (N := ["_law_bag", "_law_letters_here", "_law_chosen", "_law_letter"]) (sc := defScope s__law_part) (by decide +kernel)) (fun _ _ _ _ _ => (pg_name (i := 3) sc__law_part.nd rfl (.inl rfl))) (fun _ _ _ _ _ => (pts_one (pt_cmpR op_eq (pe_c c__law_draw hr (by decide) (by rfl) (pa_cons (pv 0) (pa_cons pe_int pa_nil))) pe_int (nomark _)))) (fun _ _ _ _ _ => (pv 3)))))
      (pss_one (ps_ret (pe_ifExp (PW.pt (pw_and (pt_cmpR op_ne (pv 2) pe_str (nomark _)) (pw_and1 (pt_cmpR op_gt (pe_c c__law_draw hr (by decide) (by rfl) (pa_cons (pv 0) (pa_cons pe_int pa_nil))) pe_int (nomark _))))) (pv 2) pe_str)))), ?_⟩
  refine ⟨⟨_, rfl⟩, _, rfl, S L, rfl, fun D hD => ?_⟩
  have nDb : D ≠ b := B.ne hD
  have nDl : D ≠ lb := B.ne2 hD
  have nD : ∀ a o, H a = some o → a ≠ D := fun a o e => ne_of_none e hD
  refine lc_it walk_str (fun i H' => ∃ r : List Nat, List.Sublist r (L.take i) ∧ H' D = some (.lst (r.map sgn)) ∧ Bag H' b lb ∧ But b H H') ⟨[], List.nil_sublist _, upd_same, B.same (same_upd hD), (same_upd hD).but⟩ (fun _ _ _ _ => trivial) ?_ ?_
  · rintro i x H' _ hi ⟨r, hr', hDD, B', ho⟩ ⟨rfl, c, hc, rfl⟩
    have hi' : i < L.length := hi
    have hci : L[i]? = some c := by
      have : L.toArray[i]? = some c := hc
      rwa [List.getElem?_toArray] at this
    refine ⟨rfl, _, rfl, b, lb, _, rfl, B', by decide, by decide, fun H2 z z0 z1 b2 B2 => ?_⟩
    have hsub : ∀ s, List.Sublist r s → List.Sublist (r ++ [c]) (s ++ [c]) := fun s h => h.append (List.Sublist.refl _)
    have htk : L.take (i + 1) = L.take i ++ [c] := by rw [List.take_add_one, hci]; rfl
    have hl : r.length ≤ 100 := Nat.le_trans hr'.length_le (Nat.le_trans (List.length_take_le _ _) (by omega))
    refine ⟨rfl, _, rfl, ite_dec (fun _ => ?_) (fun _ => ?_)⟩
    · refine ⟨_, rfl, _, b2 _ _ nDb hDD, by rw [List.length_map]; exact sz1 (by omega), r ++ [c], by rw [htk]; exact hsub _ hr', ?_, ?_, fun a o n e => ?_⟩
      · rw [upd_same, List.map_append]
        rfl
      · exact B2.upd nDb nDl
      · rw [upd_ne (nD a o e)]
        exact b2 _ _ n (ho a o n e)
    · exact ⟨r, by rw [htk]; exact hr'.trans (List.sublist_append_left _ _), b2 _ _ nDb hDD, B2, ho.trans b2⟩
  · rintro H' ⟨r, hr', hDD, B', ho⟩
    have hrl : r.length ≤ 100 := Nat.le_trans hr'.length_le (Nat.le_trans (List.length_take_le _ _) (by omega))
    have hrs : List.Sublist r L := hr'.trans (List.take_sublist _ _)
    refine ⟨S [], D, (r.map fun c => [c]).map S, rfl, rfl, .inl (SqL.of ?_), ?_, ?_⟩
    · rw [hDD, List.map_map, List.map_map]
      rfl
    · rw [lens_ones]
      show r.length + _ * 0 ≤ _
      omega
    rw [join_ones]
    refine ⟨_, rfl, rfl, _, rfl, ite_ndec (fun e => ?_) (fun e => iteF (q _ [46] (.inl rfl) ho B'))⟩
    have h0 : 0 < r.length := Nat.pos_of_ne_zero fun h0 => e (by rw [List.eq_nil_of_length_eq_zero h0]; rfl)
    exact ⟨_, rfl, b, lb, _, rfl, B', by decide, by decide, fun H2 z z0 z1 b2 B2 => ⟨_, _, rfl, rfl, _, rfl, ite_dec (fun _ => ⟨_, rfl, q _ r (.inr ⟨hrs, h0⟩) (ho.trans b2) B2⟩) (fun _ => q _ [46] (.inl rfl) (ho.trans b2) B2)⟩⟩
abbrev s__law_some_cut : Stmt := topS 59
theorem sc__law_some_cut : FnScope ["_law_bag", "_law_faces"] ["_law_bag", "_law_faces"] (defScope s__law_some_cut) := ⟨rfl, rfl, rfl, by decide +kernel, rfl, by decide +kernel, by decide +kernel⟩
theorem ok__law_some_cut {f : Addr} {fd : FuncData} (F : Fun K "_law_some_cut" "_law_some_cut" s__law_some_cut f fd) (c__law_of : Cal P w K mg base CX0 2 "_law_of" s__law_of ["_law_bag", "_law_things"] (sp__law_of K)) : FnOk P w K mg base CX0 3 f fd ["_law_bag", "_law_faces"] (sp__law_some_cut K) := by
  refine F.ok sc__law_some_cut (fun vs H Q E h => ?_) (fun cdv A outer s H vs Q E hr h => ?_)
  · obtain ⟨b, lb, m, rfl, _⟩ := h
    rfl
  · obtain ⟨b, lb, fs, rfl, B, h0, h1, q⟩ := h
    refine ⟨_, (pss_one (ps_ret (pe_op op_add_str (pe_op op_add_str (pe_c c__law_of hr (by decide) (by rfl) (pa_cons (pv 0) (pa_cons pe_str pa_nil))) (pe_c c__law_of hr (by decide) (by rfl) (pa_cons (pv 0) (pa_cons (pv 1) pa_nil)))) (pe_c c__law_of hr (by decide) (by rfl) (pa_cons (pv 0) (pa_cons (pv 1) pa_nil)))))), ?_⟩
    have ln : 0 < (fs.map sgn).length := by rw [List.length_map]; exact h0
    have lm : (fs.map sgn).length ≤ 100000 := by rw [List.length_map]; omega
    refine ⟨_, rfl, b, lb, _, [124, 45].map sgn, rfl, B, .inr (.inr ⟨[124, 45], rfl, rfl⟩), by decide, by decide, fun H1 v1 m1 b1 B1 => ?_⟩
    obtain ⟨c1, n1, rfl⟩ := of_str (H := H) (b := b) m1
    refine ⟨_, rfl, _, rfl, b, lb, _, fs.map sgn, rfl, B1, .inr (.inr ⟨fs, rfl, rfl⟩), ln, lm, fun H2 v2 m2 b2 B2 => ?_⟩
    obtain ⟨c2, n2, rfl⟩ := of_str (H := H) (b := b) m2
    refine ⟨_, _, rfl, rfl, (show 2 ≤ sizeLine by decide), _, rfl, _, rfl, b, lb, _, fs.map sgn, rfl, B2, .inr (.inr ⟨fs, rfl, rfl⟩), ln, lm, fun H3 v3 m3 b3 B3 => ?_⟩
    obtain ⟨c3, n3, rfl⟩ := of_str (H := H) (b := b) m3
    refine ⟨_, _, rfl, rfl, (show 3 ≤ sizeLine by decide), ?_⟩
    refine q H3 c1 c2 c3 ?_ n2 n3 ((b1.trans b2).trans b3) B3
    rcases List.mem_cons.mp n1 with e | e
    · exact .inl e
    · exact .inr (List.mem_singleton.mp e)
abbrev s__law_some_room : Stmt := topS 58
theorem sc__law_some_room : FnScope ["_law_bag", "_law_faces"] ["_law_bag", "_law_faces"] (defScope s__law_some_room) := ⟨rfl, rfl, rfl, by decide +kernel, rfl, by decide +kernel, by decide +kernel⟩
theorem ok__law_some_room {f : Addr} {fd : FuncData} (F : Fun K "_law_some_room" "_law_some_room" s__law_some_room f fd) (c__law_of : Cal P w K mg base CX0 2 "_law_of" s__law_of ["_law_bag", "_law_things"] (sp__law_of K)) : FnOk P w K mg base CX0 3 f fd ["_law_bag", "_law_faces"] (sp__law_some_room K) := by
  refine F.ok sc__law_some_room (fun vs H Q E h => ?_) (fun cdv A outer s H vs Q E hr h => ?_)
  · obtain ⟨b, lb, m, rfl, _⟩ := h
    rfl
  · obtain ⟨b, lb, fs, rfl, B, h0, h1, q⟩ := h
    refine ⟨_, (pss_one (ps_ret (pe_op op_add_str (pe_op op_add_str (pe_op op_add_str (pe_c c__law_of hr (by decide) (by rfl) (pa_cons (pv 0) (pa_cons (pv 1) pa_nil))) (pe_c c__law_of hr (by decide) (by rfl) (pa_cons (pv 0) (pa_cons (pv 1) pa_nil)))) (pe_c c__law_of hr (by decide) (by rfl) (pa_cons (pv 0) (pa_cons (pv 1) pa_nil)))) (pe_c c__law_of hr (by decide) (by rfl) (pa_cons (pv 0) (pa_cons (pv 1) pa_nil)))))), ?_⟩
    have ln : 0 < (fs.map sgn).length := by rw [List.length_map]; exact h0
    have lm : (fs.map sgn).length ≤ 100000 := by rw [List.length_map]; omega
    refine ⟨_, rfl, _, rfl, b, lb, _, fs.map sgn, rfl, B, .inr (.inr ⟨fs, rfl, rfl⟩), ln, lm, fun H1 v1 m1 b1 B1 => ?_⟩
    refine ⟨_, rfl, _, rfl, b, lb, _, fs.map sgn, rfl, B1, .inr (.inr ⟨fs, rfl, rfl⟩), ln, lm, fun H2 v2 m2 b2 B2 => ?_⟩
    obtain ⟨c1, n1, rfl⟩ := of_str (H := H) (b := b) m1
    obtain ⟨c2, n2, rfl⟩ := of_str (H := H) (b := b) m2
    refine ⟨_, _, rfl, rfl, (show 2 ≤ sizeLine by decide), _, rfl, _, rfl, b, lb, _, fs.map sgn, rfl, B2, .inr (.inr ⟨fs, rfl, rfl⟩), ln, lm, fun H3 v3 m3 b3 B3 => ?_⟩
    obtain ⟨c3, n3, rfl⟩ := of_str (H := H) (b := b) m3
    refine ⟨_, _, rfl, rfl, (show 3 ≤ sizeLine by decide), _, rfl, _, rfl, b, lb, _, fs.map sgn, rfl, B3, .inr (.inr ⟨fs, rfl, rfl⟩), ln, lm, fun H4 v4 m4 b4 B4 => ?_⟩
    obtain ⟨c4, n4, rfl⟩ := of_str (H := H) (b := b) m4
    refine ⟨_, _, rfl, rfl, (show 4 ≤ sizeLine by decide), ?_⟩
    exact q H4 c1 c2 c3 c4 n1 n2 n3 n4 (((b1.trans b2).trans b3).trans b4) B4
abbrev s_is_string : Stmt := topS 21
theorem sc_is_string : FnScope ["value", "faces", "face"] ["value", "faces"] (defScope s_is_string) := ⟨rfl, rfl, rfl, by decide +kernel, rfl, by decide +kernel, by decide +kernel⟩
theorem ok_is_string {f : Addr} {fd : FuncData} (F : Fun K "is_string" "is_string" s_is_string f fd) (T : Z mg) : FnOk P w K mg base CX0 1 f fd ["value", "faces"] (sp_is_string K) := by
  refine F.ok sc_is_string (fun vs H Q E h => ?_) (fun cdv A outer s H vs Q E hr h => ?_)
  · obtain ⟨v, fs, rfl, _⟩ := h
    rfl
  · obtain ⟨v, fs, rfl, hv, q⟩ := h
    refine ⟨_, (pss_one (ps_ret (pe_and (pe_callB call_isi (by rfl) T.z_isinstance (by decide +kernel) (pa_cons (pv 0) (pa_cons (pe_bltn (v := .ty "str") (u := .type "str") (by rfl) T.z_str (by decide +kernel) rfl) pa_nil))) (pe_one (pe_callB (cr_all rfl) (by rfl) T.z_all (by decide +kernel) (pa_cons (pe_lc (own := [("face", 2)]) (g := (gName 2)) (by rfl) sc_is_string.nd (pi_str (pv 0)) (blkOk_by (N := ["value", "faces", "face"]) (sc := defScope s_is_string) (by decide +kernel)) (fun _ _ _ _ _ => (pg_name (i := 2) sc_is_string.nd rfl (.inl rfl))) (fun _ _ _ _ _ => pts_nil) (fun _ _ _ _ _ => (pe_cmpR op_in_sign (pv 2) (pv 1) rfl))) pa_nil)))))), ?_⟩
    rcases hv with ⟨hs, hl⟩ | ⟨hs, T, ht, hk⟩
    · obtain ⟨z, rfl⟩ := str_of hs
      refine ⟨_, rfl, _, _, _, _, true, rfl, .ty _, .base (.str z), kit_ty (by decide +kernel), true, rfl, iteT ?_⟩
      refine ⟨_, rfl, z, rfl, fun D hD => lc_it walk_str (fun i H' => H' = upd H D (.lst ((z.cps.toList.take i).map fun c => V.bl (decide (c ∈ fs.cps.toList))))) rfl (fun _ _ _ _ => trivial) ?_ ?_⟩
      · rintro i x _ _ hi rfl ⟨rfl, c, hc, rfl⟩
        refine ⟨rfl, ?_⟩
        refine ⟨_, rfl, _, rfl, c, fs, rfl, rfl, _, upd_same, ?_, ?_⟩
        · rw [List.length_map, List.length_take]
          have hl : z.cps.size ≤ 100000 := hl
          exact sz1 (Nat.le_trans (Nat.min_le_left _ _) (by omega))
        · rw [upd_upd]
          have e : z.cps.toList.take (i + 1) = z.cps.toList.take i ++ [c] := by
            rw [List.take_add_one]
            have : z.cps.toList[i]? = some c := by rw [Array.getElem?_toList]; exact hc
            rw [this]
            rfl
          rw [e, List.map_append]
          rfl
      · rintro H' rfl
        refine ⟨D, z.cps.toList.map fun c => decide (c ∈ fs.cps.toList), rfl, SqL.of ?_, ?_⟩
        · rw [upd_same, List.take_of_length_le (by simp), List.map_map]
          rfl
        · have e : (z.cps.toList.map fun c => decide (c ∈ fs.cps.toList)).all id = bString (.str z) fs := by
            unfold bString isStr strOf
            rw [List.all_map]
            rfl
          rw [e]
          exact q _ (same_upd hD)
    · refine ⟨_, rfl, _, _, _, _, false, rfl, .ty _, ht, kit_ty hk, false, rfl, iteF ?_⟩
      have e : bString v fs = false := by
        unfold bString
        rw [hs]
        rfl
      rw [e] at q
      exact q _ (Same.refl H)
theorem kb_is_string_0_faces_value : KB K "is_string" s_is_string ["value", "faces"] ["faces", "value"] swp swp := kb_swap fun _ _ _ _ _ _ _ _ => rfl
abbrev s_is_ascending : Stmt := topS 17
theorem sc_is_ascending : FnScope ["text", "one", "other"] ["text"] (defScope s_is_ascending) := ⟨rfl, rfl, rfl, by decide +kernel, rfl, by decide +kernel, by decide +kernel⟩
theorem ok_is_ascending {f : Addr} {fd : FuncData} (F : Fun K "is_ascending" "is_ascending" s_is_ascending f fd) (T : Z mg) : FnOk P w K mg base CX0 1 f fd ["text"] (sp_is_ascending K) := by
  refine F.ok sc_is_ascending (fun vs H Q E h => ?_) (fun cdv A outer s H vs Q E hr h => ?_)
  · obtain ⟨l, rfl, _⟩ := h
    rfl
  · obtain ⟨l, rfl, hl, q⟩ := h
    refine ⟨_, (pss_one (ps_ret (pe_callB (cr_all rfl) (by rfl) T.z_all (by decide +kernel) (pa_cons (pe_lc (own := [("one", 1), ("other", 2)]) (g := (gTup K 2 (gCons (gName 1) (gCons (gName 2) gNil)))) (by rfl) sc_is_ascending.nd (pi_zipG (by rfl) T.z_zip (pa_cons (pv 0) (pa_cons (pe_slice sl_str (pv 0) (po_some pe_int) po_none) pa_nil))) (blkOk_by (N := ["text", "one", "other"]) (sc := defScope s_is_ascending) (by decide +kernel)) (fun _ _ _ _ _ => (pg_tup rfl (pgs_cons (pg_name (i := 1) sc_is_ascending.nd rfl (.inl rfl)) (pgs_cons (pg_name (i := 2) sc_is_ascending.nd rfl (.inl rfl)) pgs_nil)))) (fun _ _ _ _ _ => pts_nil) (fun _ _ _ _ _ => (pe_cmpR op_lt_str (pv 1) (pv 2) (nomark _)))) pa_nil)))), ?_⟩
    refine ⟨_, rfl, _, rfl, 1, rfl, _, rfl, by rw [S_len]; exact sz hl, ?_⟩
    rw [show cutS (S l) (some 1) none = S (l.drop 1) from S_sub l 1]
    refine ⟨_, _, l.map sgn, (l.drop 1).map sgn, rfl, .s rfl, .s rfl, fun k1 k2 _ _ g1 g2 D hD => ?_⟩
    have stay : ∀ (k : SK) (H' : Hp) (xs : List V), (k.val = .str (S l) ∨ k.val = .str (S (l.drop 1))) → k.src K H xs → k.src K H' xs := fun k H' xs h q => by
      cases k with
      | l a => rcases h with h | h <;> cases h
      | t a => rcases h with h | h <;> cases h
      | s x t => exact q
    have hk1 : ∀ H', k1.src K H' (l.map sgn) := fun H' => stay k1 H' _ (.inl (by assumption)) g1
    have hk2 : ∀ H', k2.src K H' ((l.drop 1).map sgn) := fun H' => stay k2 H' _ (.inr (by assumption)) g2
    refine lc_it (walk_zipG (xs := l.map sgn) (ys := (l.drop 1).map sgn) (n := l.length - 1) (by rw [List.length_map, List.length_map, List.length_drop]; omega)) (fun i H' => But D H H' ∧ ∃ bs : List Bool, H' D = some (.lst (bs.map V.bl)) ∧ bs.length = i ∧ bs.all id = ascB (l.take (i + 1)))
      ⟨(same_upd hD).but, [], upd_same, rfl, ?_⟩ (fun i H' _ _ => ⟨hk1 H', hk2 H'⟩) ?_ ?_
    · cases l with
      | nil => rfl
      | cons a r => rfl
    · rintro i _ H' _ hi ⟨bt, bs, hDD, hbl, hba⟩ ⟨T', x1, y1, rfl, nT, rfl, hx1, hy1⟩
      have h1 : i + 1 < l.length := by omega
      have ex : x1 = sgn l[i] := by
        have : (l.map sgn)[i]? = some x1 := hx1
        rw [List.getElem?_map, List.getElem?_eq_getElem (by omega)] at this
        exact (Option.some.inj this).symm
      have ey : y1 = sgn l[i + 1] := by
        have : ((l.drop 1).map sgn)[i]? = some y1 := hy1
        rw [List.getElem?_map, List.getElem?_drop, Nat.add_comm 1 i, List.getElem?_eq_getElem h1] at this
        exact (Option.some.inj this).symm
      subst ex ey
      have nDT : D ≠ T' := ne_of_none hDD nT
      refine ⟨T', _, rfl, SqT.of upd_same, rfl, _, _, rfl, _, [], rfl, rfl, rfl, ?_⟩
      refine ⟨_, rfl, _, rfl, _, _, rfl, rfl, _, (same_upd nT) _ _ hDD, by rw [List.length_map]; exact sz1 (by omega), fun a o n e => ?_, bs ++ [decide (l[i] < l[i + 1])], ?_, by rw [List.length_append, hbl]; rfl, ?_⟩
      · rw [upd_ne n]
        exact (same_upd nT) _ _ (bt a o n e)
      · rw [upd_same, List.map_append]
        exact congrArg (fun z => some (HO.lst (bs.map V.bl ++ [V.bl z]))) (lt_sgn _ _)
      · rw [List.all_append, hba, asc_next l i h1]
        show (_ && (_ && true)) = _
        rw [Bool.and_true]
        rfl
    · rintro H' ⟨bt, bs, hDD, hbl, hba⟩
      refine ⟨D, bs, rfl, SqL.of hDD, ?_⟩
      rw [hba, List.take_of_length_le (by omega)]
      exact q _ (but_fresh (Same.refl H) hD bt)
abbrev s_is_choice : Stmt := topS 18
theorem sc_is_choice : FnScope ["value", "letters", "most"] ["value", "letters", "most"] (defScope s_is_choice) := ⟨rfl, rfl, rfl, by decide +kernel, rfl, by decide +kernel, by decide +kernel⟩
theorem ok_is_choice {f : Addr} {fd : FuncData} (F : Fun K "is_choice" "is_choice" s_is_choice f fd) (T : Z mg) (c_is_string : Cal P w K mg base CX0 1 "is_string" s_is_string ["value", "faces"] (sp_is_string K))
    (c_is_ascending : Cal P w K mg base CX0 1 "is_ascending" s_is_ascending ["text"] (sp_is_ascending K)) : FnOk P w K mg base CX0 2 f fd ["value", "letters", "most"] (sp_is_choice K) := by
  refine F.ok sc_is_choice (fun vs H Q E h => ?_) (fun cdv A outer s H vs Q E hr h => ?_)
  · obtain ⟨v, L, m, rfl, _⟩ := h
    rfl
  · obtain ⟨v, L, m, rfl, hv, q⟩ := h
    refine ⟨_, (pss_cons (ps_if (PW.pt (pw_or (pt_not (pt_val (pe_callB call_isi (by rfl) T.z_isinstance (by decide +kernel) (pa_cons (pv 0) (pa_cons (pe_bltn (v := .ty "str") (u := .type "str") (by rfl) T.z_str (by decide +kernel) rfl) pa_nil))))) (pw_or1 (pt_not (pt_chain op_le op_le pe_int (pe_callB call_len_str (by rfl) T.z_len (by decide +kernel) (pa_cons (pv 0) pa_nil)) (pv 2)))))) (pss_one (ps_ret pe_bl)) pss_nil)
      (pss_one (ps_ret (pe_and (pe_c c_is_string hr (by decide) (by rfl) (pa_cons (pv 0) (pa_cons (pv 1) pa_nil))) (pe_one (pe_c c_is_ascending hr (by decide) (by rfl) (pa_cons (pv 0) pa_nil))))))), ?_⟩
    rcases hv with ⟨hs, hl⟩ | ⟨hs, Ty, ht, hk⟩
    · obtain ⟨z, rfl⟩ := str_of hs
      have hl : z.cps.size ≤ 100000 := hl
      refine ⟨_, rfl, _, _, _, _, true, rfl, .ty _, .base (.str z), kit_ty (by decide +kernel), true, rfl, iteF ?_⟩
      refine ⟨_, rfl, z, rfl, sz hl, _, _, rfl, rfl, _, rfl, ?_⟩
      cases h1 : decide ((1 : Int) ≤ (z.length : Int)) with
      | false =>
        refine iteF ⟨_, rfl, iteT ?_⟩
        have e : bChoice (.str z) L m = false := bChoice_1 h1
        rw [e] at q
        exact q _ (Same.refl H)
      | true =>
        refine iteT ⟨_, rfl, _, _, rfl, rfl, _, rfl, ?_⟩
        cases h2 : decide ((z.length : Int) ≤ m) with
        | false =>
          refine iteT ?_
          have e : bChoice (.str z) L m = false := bChoice_2 h2
          rw [e] at q
          exact q _ (Same.refl H)
        | true =>
          refine iteF ?_
          refine ⟨_, rfl, _, rfl, _, _, rfl, .inl ⟨rfl, hl⟩, fun H1 s1 => ⟨_, rfl, ?_⟩⟩
          have e : bChoice (.str z) L m = (bString (.str z) (S L) && ascB z.cps.toList) := bChoice_3 h1 h2
          cases h3 : bString (.str z) (S L) with
          | false =>
            rw [h3] at e
            rw [e] at q
            exact iteF (q _ s1)
          | true =>
            rw [h3] at e
            refine iteT ⟨_, rfl, z.cps.toList, by rw [S_tl z]; rfl, by simpa using hl, fun H2 s2 => ?_⟩
            rw [e] at q
            exact q _ (s1.trans s2)
    · refine ⟨_, rfl, _, _, _, _, false, rfl, .ty _, ht, kit_ty hk, false, rfl, iteT (iteT ?_)⟩
      have e : bChoice v L m = false := by
        unfold bChoice
        rw [hs]
        rfl
      rw [e] at q
      exact q _ (Same.refl H)
abbrev s_is_faces : Stmt := topS 19
theorem sc_is_faces : FnScope ["value"] ["value"] (defScope s_is_faces) := ⟨rfl, rfl, rfl, by decide +kernel, rfl, by decide +kernel, by decide +kernel⟩
theorem ok_is_faces {f : Addr} {fd : FuncData} (F : Fun K "is_faces" "is_faces" s_is_faces f fd) {t1 t2 : Tok} (g__LOWER : mg "_LOWER" = some (.str "abcdefghijklmnopqrstuvwxyz" t1)) (g__MOST_FACES : mg "_MOST_FACES" = some (.int 6 t2))
    (c_is_choice : Cal P w K mg base CX0 2 "is_choice" s_is_choice ["value", "letters", "most"] (sp_is_choice K)) : FnOk P w K mg base CX0 3 f fd ["value"] (sp_is_faces K) := by
  refine F.ok sc_is_faces (fun vs H Q E h => ?_) (fun cdv A outer s H vs Q E hr h => ?_)
  · obtain ⟨v, rfl, _⟩ := h
    rfl
  · obtain ⟨v, rfl, hv, q⟩ := h
    refine ⟨_, (pss_one (ps_ret (pe_c c_is_choice hr (by decide) (by rfl) (pa_cons (pv 0) (pa_cons (pe_glob (v := .str "abcdefghijklmnopqrstuvwxyz") rfl g__LOWER ⟨_, rfl⟩) (pa_cons (pe_glob (v := .int 6) rfl g__MOST_FACES ⟨_, rfl⟩) pa_nil)))))), ?_⟩
    exact ⟨_, rfl, v, lower, 6, rfl, hv, q⟩
abbrev s_is_cutters : Stmt := topS 20
theorem sc_is_cutters : FnScope ["value"] ["value"] (defScope s_is_cutters) := ⟨rfl, rfl, rfl, by decide +kernel, rfl, by decide +kernel, by decide +kernel⟩
theorem ok_is_cutters {f : Addr} {fd : FuncData} (F : Fun K "is_cutters" "is_cutters" s_is_cutters f fd) {t1 t2 : Tok} (g__UPPER : mg "_UPPER" = some (.str "ABCDEFGHIJKLMNOPQRSTUVWXYZ" t1)) (g__MOST_CUTTERS : mg "_MOST_CUTTERS" = some (.int 4 t2))
    (c_is_choice : Cal P w K mg base CX0 2 "is_choice" s_is_choice ["value", "letters", "most"] (sp_is_choice K)) : FnOk P w K mg base CX0 3 f fd ["value"] (sp_is_cutters K) := by
  refine F.ok sc_is_cutters (fun vs H Q E h => ?_) (fun cdv A outer s H vs Q E hr h => ?_)
  · obtain ⟨v, rfl, _⟩ := h
    rfl
  · obtain ⟨v, rfl, hv, q⟩ := h
    refine ⟨_, (pss_one (ps_ret (pe_c c_is_choice hr (by decide) (by rfl) (pa_cons (pv 0) (pa_cons (pe_glob (v := .str "ABCDEFGHIJKLMNOPQRSTUVWXYZ") rfl g__UPPER ⟨_, rfl⟩) (pa_cons (pe_glob (v := .int 4) rfl g__MOST_CUTTERS ⟨_, rfl⟩) pa_nil)))))), ?_⟩
    exact ⟨_, rfl, v, upper, 4, rfl, hv, q⟩
theorem kb_is_cutters_0_value : KB K "is_cutters" s_is_cutters ["value"] ["value"] one1 one1 := kb_one fun _ _ _ _ _ _ _ => rfl
abbrev s_is_letter : Stmt := topS 22
theorem sc_is_letter : FnScope ["value", "letters"] ["value", "letters"] (defScope s_is_letter) := ⟨rfl, rfl, rfl, by decide +kernel, rfl, by decide +kernel, by decide +kernel⟩
theorem ok_is_letter {f : Addr} {fd : FuncData} (F : Fun K "is_letter" "is_letter" s_is_letter f fd) (T : Z mg) : FnOk P w K mg base CX0 1 f fd ["value", "letters"] (sp_is_letter K) := by
  refine F.ok sc_is_letter (fun vs H Q E h => ?_) (fun cdv A outer s H vs Q E hr h => ?_)
  · obtain ⟨v, L, rfl, _⟩ := h
    rfl
  · obtain ⟨v, L, rfl, hv, q⟩ := h
    refine ⟨_, (pss_one (ps_ret (pe_and (pe_callB call_isi (by rfl) T.z_isinstance (by decide +kernel) (pa_cons (pv 0) (pa_cons (pe_bltn (v := .ty "str") (u := .type "str") (by rfl) T.z_str (by decide +kernel) rfl) pa_nil))) (pe_and (pe_cmpR op_eq (pe_callB call_len_str (by rfl) T.z_len (by decide +kernel) (pa_cons (pv 0) pa_nil)) pe_int (nomark _)) (pe_one (pe_cmpR op_in_sign (pv 0) (pv 1) rfl)))))), ?_⟩
    have q1 := q _ (Same.refl H)
    rcases hv with ⟨hs, hl⟩ | ⟨hs, Ty, ht, hk⟩
    · obtain ⟨z, rfl⟩ := str_of hs
      refine ⟨_, rfl, _, _, _, _, true, rfl, .ty _, .base (.str z), kit_ty (by decide +kernel), true, rfl, iteT ?_⟩
      refine ⟨_, rfl, z, rfl, sz hl, rfl, _, rfl, ?_⟩
      by_cases h1 : z.cps.size = 1
      · rw [show decide (V.int (z.length : Int) = V.int 1) = true from decide_eq_true (by rw [show z.length = 1 from h1]; rfl)]
        refine iteT ?_
        obtain ⟨c, rfl⟩ : ∃ c, z = S [c] := by
          obtain ⟨⟨l⟩⟩ := z
          match l, h1 with
          | [c], _ => exact ⟨c, rfl⟩
        refine ⟨_, rfl, _, rfl, c, _, rfl, rfl, ?_⟩
        exact q1
      · rw [show decide (V.int (z.length : Int) = V.int 1) = false from decide_eq_false fun e => h1 (by
          have e1 := V.int.inj e
          show z.length = 1
          omega)]
        refine iteF ?_
        have e : bLetter (.str z) L = false := by
          unfold bLetter
          rw [show decide ((strOf (V.str z)).cps.size = 1) = false from decide_eq_false h1, Bool.and_false, Bool.false_and]
        rw [e] at q1
        exact q1
    · refine ⟨_, rfl, _, _, _, _, false, rfl, .ty _, ht, kit_ty hk, false, rfl, iteF ?_⟩
      have e : bLetter v L = false := by
        unfold bLetter
        rw [hs, Bool.false_and, Bool.false_and]
      rw [e] at q1
      exact q1
abbrev s_is_room : Stmt := topS 23
theorem sc_is_room : FnScope ["value", "faces"] ["value", "faces"] (defScope s_is_room) := ⟨rfl, rfl, rfl, by decide +kernel, rfl, by decide +kernel, by decide +kernel⟩
theorem ok_is_room {f : Addr} {fd : FuncData} (F : Fun K "is_room" "is_room" s_is_room f fd) (T : Z mg) (c_is_string : Cal P w K mg base CX0 1 "is_string" s_is_string ["value", "faces"] (sp_is_string K)) : FnOk P w K mg base CX0 2 f fd ["value", "faces"] (sp_is_room K) := by
  refine F.ok sc_is_room (fun vs H Q E h => ?_) (fun cdv A outer s H vs Q E hr h => ?_)
  · obtain ⟨v, fs, rfl, _⟩ := h
    rfl
  · obtain ⟨v, fs, rfl, hv, q⟩ := h
    refine ⟨_, (pss_one (ps_ret (pe_and (pe_c c_is_string hr (by decide) (by rfl) (pa_cons (pv 0) (pa_cons (pv 1) pa_nil))) (pe_one (pe_cmpR op_eq (pe_callB call_len_str (by rfl) T.z_len (by decide +kernel) (pa_cons (pv 0) pa_nil)) pe_int (nomark _)))))), ?_⟩
    refine ⟨_, rfl, _, rfl, v, fs, rfl, hv, fun H1 sm => ⟨_, rfl, ?_⟩⟩
    cases hb : bString v fs with
    | false =>
      refine iteF ?_
      have e : bRoom v fs = false := by
        unfold bRoom
        rw [hb]
        rfl
      rw [e] at q
      exact q _ sm
    | true =>
      refine iteT ?_
      have hs : isStr v = true := by
        unfold bString at hb
        rw [Bool.and_eq_true] at hb
        exact hb.1
      rcases hv with ⟨_, hl⟩ | ⟨h0, _⟩
      · obtain ⟨z, rfl⟩ := str_of hs
        refine ⟨_, rfl, z, rfl, sz hl, rfl, ?_⟩
        have e : bRoom (.str z) fs = decide (V.int (z.length : Int) = V.int 4) := by
          unfold bRoom
          rw [hb]
          by_cases h4 : z.cps.size = 4
          · rw [decide_eq_true (show V.int (z.length : Int) = V.int 4 by rw [show z.length = 4 from h4]; rfl)]
            exact decide_eq_true h4
          · rw [decide_eq_false (show ¬ V.int (z.length : Int) = V.int 4 from fun q => h4 (by
              have q1 := V.int.inj q
              show z.length = 4
              omega))]
            exact decide_eq_false h4
        rw [e] at q
        exact q _ sm
      · rw [hs] at h0
        cases h0
abbrev s_is_cut : Stmt := topS 24
theorem sc_is_cut : FnScope ["value", "faces"] ["value", "faces"] (defScope s_is_cut) := ⟨rfl, rfl, rfl, by decide +kernel, rfl, by decide +kernel, by decide +kernel⟩
theorem ok_is_cut {f : Addr} {fd : FuncData} (F : Fun K "is_cut" "is_cut" s_is_cut f fd) (T : Z mg) (c_is_string : Cal P w K mg base CX0 1 "is_string" s_is_string ["value", "faces"] (sp_is_string K)) : FnOk P w K mg base CX0 2 f fd ["value", "faces"] (sp_is_cut K) := by
  refine F.ok sc_is_cut (fun vs H Q E h => ?_) (fun cdv A outer s H vs Q E hr h => ?_)
  · obtain ⟨v, fs, rfl, _⟩ := h
    rfl
  · obtain ⟨v, fs, rfl, hv, q⟩ := h
    refine ⟨_, (pss_cons (ps_if (PW.pt (pw_or (pt_not (pt_val (pe_callB call_isi (by rfl) T.z_isinstance (by decide +kernel) (pa_cons (pv 0) (pa_cons (pe_bltn (v := .ty "str") (u := .type "str") (by rfl) T.z_str (by decide +kernel) rfl) pa_nil))))) (pw_or1 (pt_cmpR op_ne (pe_callB call_len_str (by rfl) T.z_len (by decide +kernel) (pa_cons (pv 0) pa_nil)) pe_int (nomark _))))) (pss_one (ps_ret pe_bl)) pss_nil)
      (pss_one (ps_ret (pe_and (pe_cmpR op_in_sign (pe_ix ix_str (pv 0) pe_int (fun _ _ => rfl)) pe_str rfl) (pe_one (pe_c c_is_string hr (by decide) (by rfl) (pa_cons (pe_slice sl_str (pv 0) (po_some pe_int) po_none) (pa_cons (pv 1) pa_nil)))))))), ?_⟩
    rcases hv with ⟨hs, hl⟩ | ⟨hs, Ty, ht, hk⟩
    · obtain ⟨z, rfl⟩ := str_of hs
      refine ⟨_, rfl, _, _, _, _, true, rfl, .ty _, .base (.str z), kit_ty (by decide +kernel), true, rfl, iteF ?_⟩
      refine ⟨_, rfl, z, rfl, sz hl, rfl, _, rfl, ?_⟩
      by_cases h3 : z.cps.size = 3
      · have e3 : decide (V.int (z.length : Int) = V.int 3) = true := decide_eq_true (by rw [show z.length = 3 from h3]; rfl)
        rw [e3]
        refine iteF ?_
        have h0 : atI z.cps.toList 0 = some (z.cps.toList.getD 0 0) := by
          refine atI_nat (j := 0) ?_
          rw [List.getD_eq_getElem?_getD]
          have : 0 < z.cps.toList.length := by simp; omega
          rw [List.getElem?_eq_getElem this]
          rfl
        refine ⟨_, rfl, z, 0, _, rfl, rfl, sz hl, h0, _, _, rfl, rfl, _, rfl, ?_⟩
        cases hb : decide (z.cps.toList.getD 0 0 ∈ ("|-" : Str).cps.toList) with
        | false =>
          refine iteF ?_
          have e : bCut (.str z) fs = false := by
            unfold bCut
            show ((true && decide (z.cps.size = 3)) && decide (z.cps.toList.getD 0 0 ∈ ("|-" : Str).cps.toList) && _) = false
            rw [hb, Bool.and_false, Bool.false_and]
          rw [e] at q
          exact q _ (Same.refl H)
        | true =>
          refine iteT ?_
          refine ⟨_, rfl, 1, rfl, z, rfl, sz hl, _, rfl, _, fs, rfl, .inl ⟨rfl, ?_⟩, fun H' sm => ?_⟩
          · rw [cutS_from (by omega)]
            show (z.cps.toList.drop 1).toArray.size ≤ 100000
            simp
            omega
          · have e : bCut (.str z) fs = bString (.str (cutS z (some 1) none)) fs := by
              rw [cutS_from (by omega)]
              unfold bCut bString
              show ((true && decide (z.cps.size = 3)) && decide (z.cps.toList.getD 0 0 ∈ ("|-" : Str).cps.toList) && _) = _
              rw [hb, decide_eq_true h3]
              rfl
            rw [e] at q
            exact q _ sm
      · have e3 : decide (V.int (z.length : Int) = V.int 3) = false := decide_eq_false fun q => h3 (by
          have q1 := V.int.inj q
          show z.length = 3
          omega)
        rw [e3]
        refine iteT ?_
        have e : bCut (.str z) fs = false := by
          unfold bCut
          show ((true && decide (z.cps.size = 3)) && _ && _) = false
          rw [decide_eq_false h3]
          rfl
        rw [e] at q
        exact q _ (Same.refl H)
    · refine ⟨_, rfl, _, _, _, _, false, rfl, .ty _, ht, kit_ty hk, false, rfl, iteT ?_⟩
      refine iteT ?_
      have e : bCut v fs = false := by
        unfold bCut
        rw [hs]
        rfl
      rw [e] at q
      exact q _ (Same.refl H)
theorem kb_is_cut_0_faces_value : KB K "is_cut" s_is_cut ["value", "faces"] ["faces", "value"] swp swp := kb_swap fun _ _ _ _ _ _ _ _ => rfl
abbrev s_parts_of : Stmt := topS 25
theorem sc_parts_of : FnScope ["room", "cut", "north", "east", "south", "west", "sign", "one", "other"] ["room", "cut"] (defScope s_parts_of) := ⟨rfl, rfl, rfl, by decide +kernel, rfl, by decide +kernel, by decide +kernel⟩
theorem ok_parts_of {f : Addr} {fd : FuncData} (F : Fun K "parts_of" "parts_of" s_parts_of f fd) : FnOk P w K mg base CX0 1 f fd ["room", "cut"] (sp_parts_of K) := by
  refine F.ok sc_parts_of (fun vs H Q E h => ?_) (fun cdv A outer s H vs Q E hr h => ?_)
  · obtain ⟨n, e, so, we, cut, rfl, _⟩ := h
    rfl
  · obtain ⟨n, e, so, we, cut, rfl, hq⟩ := h
    refine ⟨_, (pss_cons (ps_if (pt_cmpR op_eq (pv 1) pe_str (nomark _)) (pss_one (ps_ret (pe_lst (pa_cons (pv 0) pa_nil)))) pss_nil)
      (pss_cons (ps_asg (pv 0) (pg_ustr (by rfl) (pgs_cons (pg_name (i := 2) sc_parts_of.nd rfl (.inl rfl)) (pgs_cons (pg_name (i := 3) sc_parts_of.nd rfl (.inl rfl)) (pgs_cons (pg_name (i := 4) sc_parts_of.nd rfl (.inl rfl)) (pgs_cons (pg_name (i := 5) sc_parts_of.nd rfl (.inl rfl)) pgs_nil))))))
      (pss_cons (ps_asg (pv 1) (pg_ustr (by rfl) (pgs_cons (pg_name (i := 6) sc_parts_of.nd rfl (.inl rfl)) (pgs_cons (pg_name (i := 7) sc_parts_of.nd rfl (.inl rfl)) (pgs_cons (pg_name (i := 8) sc_parts_of.nd rfl (.inl rfl)) pgs_nil)))))
      (pss_cons (ps_if (pt_cmpR op_eq (pv 6) pe_str (nomark _)) (pss_one (ps_ret (pe_lst (pa_cons (pe_op op_add_str (pe_op op_add_str (pe_op op_add_str (pv 2) (pv 7)) (pv 4)) (pv 5)) (pa_cons (pe_op op_add_str (pe_op op_add_str (pe_op op_add_str (pv 2) (pv 3)) (pv 4)) (pv 8)) pa_nil))))) pss_nil)
      (pss_one (ps_ret (pe_lst (pa_cons (pe_op op_add_str (pe_op op_add_str (pe_op op_add_str (pv 2) (pv 3)) (pv 7)) (pv 5)) (pa_cons (pe_op op_add_str (pe_op op_add_str (pe_op op_add_str (pv 8) (pv 3)) (pv 4)) (pv 5)) pa_nil))))))))), ?_⟩
    rcases hq with ⟨rfl, q⟩ | ⟨sg, x, y, rfl, q⟩
    · refine ⟨_, rfl, rfl, _, rfl, ?_⟩
      rw [decide_eq_true rfl]
      refine iteT ?_
      exact ⟨_, rfl, by show 1 ≤ sizeLine; decide, q⟩
    · refine ⟨_, rfl, rfl, _, rfl, ?_⟩
      have e1 : decide (V.str (S3 sg x y) = V.str ("" : Str)) = false := decide_eq_false fun q => by
        have q1 : (S3 sg x y).cps.size = ("" : Str).cps.size := by rw [V.str.inj q]
        exact absurd q1 (by show ¬ 3 = 0; decide)
      rw [e1]
      refine iteF ?_
      refine ⟨_, rfl, _, rfl, rfl, _, _, rfl, _, _, rfl, _, _, rfl, _, _, rfl, rfl, ?_⟩
      refine ⟨_, rfl, _, rfl, rfl, _, _, rfl, _, _, rfl, _, _, rfl, rfl, ?_⟩
      refine ⟨_, rfl, rfl, _, rfl, ?_⟩
      by_cases hs : sg = 124
      · subst hs
        refine ite2 (fun _ => ?_) (fun hn => absurd (decide_eq_true rfl) hn)
        refine ⟨_, rfl, _, rfl, _, _, rfl, rfl, (show 2 ≤ sizeLine by decide), _, rfl, _, _, rfl, rfl, (show 3 ≤ sizeLine by decide), _, rfl, _, _, rfl, rfl, (show 4 ≤ sizeLine by decide), ?_⟩
        refine ⟨_, rfl, _, rfl, _, _, rfl, rfl, (show 2 ≤ sizeLine by decide), _, rfl, _, _, rfl, rfl, (show 3 ≤ sizeLine by decide), _, rfl, _, _, rfl, rfl, (show 4 ≤ sizeLine by decide), by show 2 ≤ sizeLine; decide, ?_⟩
        exact q
      · refine ite2 (fun hn => ?_) (fun _ => ?_)
        · exact absurd (by
            have q1 := V.str.inj (of_decide_eq_true hn)
            have q2 := congrArg (fun z : Str => z.cps.toList) q1
            exact List.head_eq_of_cons_eq q2) hs
        · refine ⟨_, rfl, _, rfl, _, _, rfl, rfl, (show 2 ≤ sizeLine by decide), _, rfl, _, _, rfl, rfl, (show 3 ≤ sizeLine by decide), _, rfl, _, _, rfl, rfl, (show 4 ≤ sizeLine by decide), ?_⟩
          refine ⟨_, rfl, _, rfl, _, _, rfl, rfl, (show 2 ≤ sizeLine by decide), _, rfl, _, _, rfl, rfl, (show 3 ≤ sizeLine by decide), _, rfl, _, _, rfl, rfl, (show 4 ≤ sizeLine by decide), by show 2 ≤ sizeLine; decide, ?_⟩
          have e2 : partsC n e so we sg x y = [S4 n e x we, S4 y e so we] := if_neg hs
          rw [e2] at q
          exact q
theorem kb_parts_of_0_cut_room : KB K "parts_of" s_parts_of ["room", "cut"] ["cut", "room"] swp swp := kb_swap fun _ _ _ _ _ _ _ _ => rfl
abbrev s_is_part : Stmt := topS 39
theorem sc_is_part : FnScope ["value", "letters"] ["value", "letters"] (defScope s_is_part) := ⟨rfl, rfl, rfl, by decide +kernel, rfl, by decide +kernel, by decide +kernel⟩
def bPart (v : V) (L : List Nat) : Bool := bLetter v [46] || bChoice v L (L.length : Int)
def sp_is_part (K : PySem.W.Frag) : Sp := fun vs H Q _ => ∃ (z : Str) (L : List Nat), vs = [.str z, .str (S L)] ∧ z.cps.size ≤ 100000 ∧ L.length ≤ 1000 ∧ ∀ H', Same H H' → Q (.bl (bPart (.str z) L)) H'
theorem ok_is_part {f : Addr} {fd : FuncData} (F : Fun K "is_part" "is_part" s_is_part f fd) (T : Z mg) (c_is_letter : Cal P w K mg base CX0 1 "is_letter" s_is_letter ["value", "letters"] (sp_is_letter K))
    (c_is_choice : Cal P w K mg base CX0 2 "is_choice" s_is_choice ["value", "letters", "most"] (sp_is_choice K)) : FnOk P w K mg base CX0 3 f fd ["value", "letters"] (sp_is_part K) := by
  refine F.ok sc_is_part (fun vs H Q E h => ?_) (fun cdv A outer s H vs Q E hr h => ?_)
  · obtain ⟨z, L, rfl, _⟩ := h
    rfl
  · obtain ⟨z, L, rfl, hz, hL, q⟩ := h
    refine ⟨_, (pss_one (ps_ret (pe_or (pe_c c_is_letter hr (by decide) (by rfl) (pa_cons (pv 0) (pa_cons pe_str pa_nil))) (pe_one (pe_c c_is_choice hr (by decide) (by rfl) (pa_cons (pv 0) (pa_cons (pv 1) (pa_cons (pe_callB call_len_str (by rfl) T.z_len (by decide +kernel) (pa_cons (pv 1) pa_nil)) pa_nil)))))))), ?_⟩
    refine ⟨_, rfl, .str z, [46], rfl, .inl ⟨rfl, hz⟩, fun H1 s1 => ⟨_, rfl, ?_⟩⟩
    cases e : bLetter (.str z) [46] with
    | true =>
      refine iteT ?_
      have q1 := q _ s1
      unfold bPart at q1
      rw [e] at q1
      exact q1
    | false =>
      refine iteF ⟨_, rfl, _, rfl, _, rfl, S L, rfl, by rw [S_len]; exact sz (by omega), .str z, L, _, congrArg (fun n : Nat => [V.str z, V.str (S L), V.int n]) (S_len L), .inl ⟨rfl, hz⟩, fun H2 s2 => ?_⟩
      have q1 := q _ (s1.trans s2)
      unfold bPart at q1
      rw [e] at q1
      exact q1
abbrev s_fits : Stmt := topS 41
theorem sc_fits : FnScope ["line", "room", "cutter", "part", "letter"] ["line", "room", "cutter"] (defScope s_fits) := ⟨rfl, rfl, rfl, by decide +kernel, rfl, by decide +kernel, by decide +kernel⟩
/-- a part takes a sign -/
def takesB (p : List Nat) (c : Nat) : Bool := decide (V.str (S p) = V.str ".") || decide (c ∈ p)
def fitsB (ps : List (List Nat)) (cs : List Nat) : Bool := (ps.zip cs).all fun q => takesB q.1 q.2
def sp_fits (K : PySem.W.Frag) : Sp := fun vs H Q _ => ∃ (t : Addr) (ps : List (List Nat)) (r c : List Nat), vs = [.ref t, .str (S r), .str (S c)] ∧ SqT K H t (ps.map fun p => V.str (S p)) ∧ ps.length ≤ 100 ∧ (∀ p ∈ ps, p.length ≤ 1000) ∧ r.length ≤ 100 ∧ c.length ≤ 100 ∧ ∀ H', Same H H' → Q (.bl (fitsB ps (r ++ c))) H'
theorem ok_fits {f : Addr} {fd : FuncData} (F : Fun K "fits" "fits" s_fits f fd) (T : Z mg) : FnOk P w K mg base CX0 1 f fd ["line", "room", "cutter"] (sp_fits K) := by
  refine F.ok sc_fits (fun vs H Q E h => ?_) (fun cdv A outer s H vs Q E hr h => ?_)
  · obtain ⟨t, ps, r, c, rfl, _⟩ := h
    rfl
  · obtain ⟨t, ps, r, c, rfl, hS, hp, hps, hr1, hc1, q⟩ := h
    refine ⟨_, (pss_one (ps_ret (pe_callB (cr_all rfl) (by rfl) T.z_all (by decide +kernel) (pa_cons (pe_lc (own := [("part", 3), ("letter", 4)]) (g := (gTup K 2 (gCons (gName 3) (gCons (gName 4) gNil)))) (by rfl) sc_fits.nd (pi_zipG (by rfl) T.z_zip (pa_cons (pv 0) (pa_cons (pe_op op_add_str (pv 1) (pv 2)) pa_nil))) (blkOk_by (N := ["line", "room", "cutter", "part", "letter"]) (sc := defScope s_fits) (by decide +kernel)) (fun _ _ _ _ _ => (pg_tup rfl (pgs_cons (pg_name (i := 3) sc_fits.nd rfl (.inl rfl)) (pgs_cons (pg_name (i := 4) sc_fits.nd rfl (.inl rfl)) pgs_nil)))) (fun _ _ _ _ _ => pts_nil) (fun _ _ _ _ _ => (pe_or (pe_cmpR op_eq (pv 3) pe_str (nomark _)) (pe_one (pe_cmpR op_in_sign (pv 4) (pv 3) rfl))))) pa_nil)))), ?_⟩
    refine ⟨_, rfl, _, rfl, _, rfl, _, _, rfl, rfl, by rw [S_len, S_len]; exact Nat.le_trans (Nat.add_le_add hr1 hc1) (by decide), ?_⟩
    rw [S_cat]
    generalize hcs : r ++ c = cs at q
    have hcl : cs.length ≤ 200 := by
      rw [← hcs, List.length_append]
      omega
    refine ⟨_, _, ps.map fun p => V.str (S p), cs.map sgn, rfl, .t hS, .s rfl, fun k1 k2 e1 e2 g1 g2 D hD => ?_⟩
    have hk1 : ∀ H', But D H H' → k1.src K H' (ps.map fun p => V.str (S p)) := fun H' bt => by
      cases k1 with
      | l a => cases e1; exact (but_fresh (Same.refl H) hD bt).seq g1
      | t a => cases e1; exact (but_fresh (Same.refl H) hD bt).tup g1
      | s x t => cases e1
    have hk2 : ∀ H', k2.src K H' (cs.map sgn) := fun H' => by
      cases k2 with
      | l a => cases e2
      | t a => cases e2
      | s x t => exact g2
    have hzl : (ps.zip cs).length = min ps.length cs.length := List.length_zip
    refine lc_it (walk_zipG (xs := ps.map fun p => V.str (S p)) (ys := cs.map sgn) (n := (ps.zip cs).length) (by rw [List.length_map, List.length_map, hzl])) (fun i H' => But D H H' ∧ H' D = some (.lst (((ps.zip cs).take i).map fun q => V.bl (takesB q.1 q.2))))
      ⟨(same_upd hD).but, upd_same⟩ (fun i H' _ pv => ⟨hk1 H' pv.1, hk2 H'⟩) ?_ ?_
    · rintro i _ H' _ hi ⟨bt, hDD⟩ ⟨T', x1, y1, rfl, nT, rfl, hx1, hy1⟩
      have hi1 : i < ps.length := by omega
      have hi2 : i < cs.length := by omega
      have ex : x1 = V.str (S ps[i]) := by
        have : (ps.map fun p => V.str (S p))[i]? = some x1 := hx1
        rw [List.getElem?_map, List.getElem?_eq_getElem hi1] at this
        exact (Option.some.inj this).symm
      have ey : y1 = sgn cs[i] := by
        have : (cs.map sgn)[i]? = some y1 := hy1
        rw [List.getElem?_map, List.getElem?_eq_getElem hi2] at this
        exact (Option.some.inj this).symm
      subst ex ey
      have nDT : D ≠ T' := ne_of_none hDD nT
      have hD2 : (upd H' T' (HO.tup [V.str (S ps[i]), sgn cs[i]])) D = some (.lst (((ps.zip cs).take i).map fun q => V.bl (takesB q.1 q.2))) := (same_upd nT) _ _ hDD
      have fin : ∀ bb, takesB ps[i] cs[i] = bb → ∃ acc, (upd H' T' (HO.tup [V.str (S ps[i]), sgn cs[i]])) D = some (.lst acc) ∧ acc.length < sizeLine ∧ (But D H (upd (upd H' T' (HO.tup [V.str (S ps[i]), sgn cs[i]])) D (.lst (acc ++ [V.bl bb]))) ∧ (upd (upd H' T' (HO.tup [V.str (S ps[i]), sgn cs[i]])) D (.lst (acc ++ [V.bl bb]))) D = some (.lst (((ps.zip cs).take (i + 1)).map fun q => V.bl (takesB q.1 q.2)))) := fun bb e => by
        refine ⟨_, hD2, by rw [List.length_map, List.length_take]; exact sz1 (by omega), fun a o n e => ?_, ?_⟩
        · rw [upd_ne n]
          exact (same_upd nT) _ _ (bt a o n e)
        · rw [upd_same, List.take_add_one, List.getElem?_eq_getElem hi, List.map_append, List.getElem_zip, ← e]
          rfl
      refine ⟨T', _, rfl, SqT.of upd_same, rfl, _, _, rfl, _, [], rfl, rfl, rfl, ?_⟩
      refine ⟨_, rfl, rfl, _, rfl, ?_⟩
      cases e : decide (V.str (S ps[i]) = V.str ".") with
      | true => exact iteT (fin true (by unfold takesB; rw [e]; rfl))
      | false => exact iteF ⟨_, rfl, _, rfl, cs[i], S ps[i], rfl, rfl, fin _ (by unfold takesB; rw [e]; rfl)⟩
    · rintro H' ⟨bt, hDD⟩
      rw [List.take_of_length_le (Nat.le_refl _)] at hDD
      refine ⟨D, (ps.zip cs).map fun q => takesB q.1 q.2, rfl, SqL.of (hDD.trans ?_), ?_⟩
      · rw [List.map_map]
        rfl
      · rw [List.all_map]
        exact q _ (but_fresh (Same.refl H) hD bt)
abbrev s_is_line : Stmt := topS 40
theorem sc_is_line : FnScope ["value", "faces", "cutters", "part"] ["value", "faces", "cutters"] (defScope s_is_line) := ⟨rfl, rfl, rfl, by decide +kernel, rfl, by decide +kernel, by decide +kernel⟩
/-- six texts that are a line -/
def bLine (a b c d e u F C : List Nat) : Bool := ([a, b, c, d].all fun p => bPart (.str (S p)) F) && bPart (.str (S e)) C && (decide (V.str (S u) = V.str "") || bCut (.str (S u)) (S F))
def sp_is_line (K : PySem.W.Frag) : Sp := fun vs H Q _ => ∃ (t : Addr) (a b c d e u F C : List Nat), vs = [.ref t, .str (S F), .str (S C)] ∧ SqT K H t [.str (S a), .str (S b), .str (S c), .str (S d), .str (S e), .str (S u)] ∧
  (∀ p ∈ [a, b, c, d, e, u, F, C], p.length ≤ 1000) ∧ ∀ H', Same H H' → Q (.bl (bLine a b c d e u F C)) H'
theorem ok_is_line {f : Addr} {fd : FuncData} (F : Fun K "is_line" "is_line" s_is_line f fd) (T : Z mg) (c_is_part : Cal P w K mg base CX0 3 "is_part" s_is_part ["value", "letters"] (sp_is_part K))
    (c_is_cut : Cal P w K mg base CX0 2 "is_cut" s_is_cut ["value", "faces"] (sp_is_cut K)) : FnOk P w K mg base CX0 4 f fd ["value", "faces", "cutters"] (sp_is_line K) := by
  refine F.ok sc_is_line (fun vs H Q E h => ?_) (fun cdv A outer s H vs Q E hr h => ?_)
  · obtain ⟨t, a, b, c, d, e, u, F, C, rfl, _⟩ := h
    rfl
  · obtain ⟨t, a, b, c, d, e, u, fs, cs, rfl, hS, hl, q⟩ := h
    have la : ∀ p ∈ [a, b, c, d, e, u], (S p).cps.size ≤ 100000 := fun p hp => Nat.le_trans (hl p (List.mem_append_left [fs, cs] hp)) (by decide)
    refine ⟨_, (pss_cons (ps_if (PW.pt (pw_or (pt_not (pt_val (pe_callB call_isi (by rfl) T.z_isinstance (by decide +kernel) (pa_cons (pv 0) (pa_cons (pe_bltn (v := .ty "tuple") (u := .type "tuple") (by rfl) T.z_tuple (by decide +kernel) rfl) pa_nil))))) (pw_or1 (pt_cmpR op_ne (pe_callB call_len_seq (by rfl) T.z_len (by decide +kernel) (pa_cons (pv 0) pa_nil)) pe_int (nomark _))))) (pss_one (ps_ret pe_bl)) pss_nil)
      (pss_cons (ps_if (PW.pt (pw_or (pt_not (pt_val (pe_callB (cr_all rfl) (by rfl) T.z_all (by decide +kernel) (pa_cons (pe_lc (own := [("part", 3)]) (g := (gName 3)) (by rfl) sc_is_line.nd (pi_tup (pe_slice sl_tup (pv 0) po_none (po_some pe_int))) (blkOk_by (N := ["value", "faces", "cutters", "part"]) (sc := defScope s_is_line) (by decide +kernel)) (fun _ _ _ _ _ => (pg_name (i := 3) sc_is_line.nd rfl (.inl rfl))) (fun _ _ _ _ _ => pts_nil) (fun _ _ _ _ _ => (pe_c c_is_part hr (by decide) (by rfl) (pa_cons (pv 3) (pa_cons (pv 1) pa_nil))))) pa_nil)))) (pw_or1 (pt_not (pt_val (pe_c c_is_part hr (by decide) (by rfl) (pa_cons (pe_ix ix_tup (pv 0) pe_int (fun _ _ => rfl)) (pa_cons (pv 2) pa_nil)))))))) (pss_one (ps_ret pe_bl)) pss_nil)
      (pss_one (ps_ret (pe_or (pe_cmpR op_eq (pe_ix ix_tup (pv 0) pe_int (fun _ _ => rfl)) pe_str (nomark _)) (pe_one (pe_c c_is_cut hr (by decide) (by rfl) (pa_cons (pe_ix ix_tup (pv 0) pe_int (fun _ _ => rfl)) (pa_cons (pv 1) pa_nil))))))))), ?_⟩
    refine ⟨_, rfl, _, _, _, _, true, rfl, .ty _, tyT hS, kit_ty (by decide +kernel), true, rfl, iteF ?_⟩
    refine ⟨_, rfl, t, _, rfl, .inr hS, rfl, _, rfl, ?_⟩
    refine iteF ?_
    refine ⟨_, rfl, 4, rfl, t, _, rfl, hS, (show ¬ (HT.sIx 6 0 none = 0 ∧ HT.sIx 6 6 (some 4) = 6) by decide), fun p np => ?_⟩
    have s1 := same_upd (o := HO.tup [V.str (S a), V.str (S b), V.str (S c), V.str (S d)]) np
    have hP : SqT K (upd H p (HO.tup [V.str (S a), V.str (S b), V.str (S c), V.str (S d)])) p ([a, b, c, d].map fun x => V.str (S x)) := SqT.of upd_same
    refine ⟨p, rfl, ⟨_, hP⟩, fun D hD => ?_⟩
    have hpD : p ≠ D := fun z => by
      rw [← z, upd_same] at hD
      cases hD
    refine lc_it (walk_tup (xs := [a, b, c, d].map fun x => V.str (S x))) (fun i H' => But D (upd H p (HO.tup [V.str (S a), V.str (S b), V.str (S c), V.str (S d)])) H' ∧ H' D = some (.lst (([a, b, c, d].take i).map fun x => V.bl (bPart (.str (S x)) fs))))
      ⟨(same_upd hD).but, upd_same⟩ (fun i H' _ pv => pv.1.tup hpD hP) ?_ ?_
    · rintro i x H' _ hi ⟨bt, hDD⟩ ⟨rfl, hx⟩
      rw [List.getElem?_map] at hx
      obtain ⟨y, hy, rfl⟩ := Option.map_eq_some_iff.mp hx
      have hm : y ∈ [a, b, c, d] := List.mem_of_getElem? hy
      refine ⟨rfl, ?_⟩
      refine ⟨_, rfl, _, rfl, S y, fs, rfl, la y (List.mem_append_left [e, u] hm), hl fs (by simp), fun H2 s2 => ?_⟩
      refine ⟨_, s2 _ _ hDD, by rw [List.length_map, List.length_take]; exact sz1 (Nat.le_trans (Nat.min_le_right _ _) (show 4 ≤ 100000 by decide)), fun z o n e => ?_, ?_⟩
      · rw [upd_ne n]
        exact s2 _ _ (bt z o n e)
      · rw [upd_same, List.take_add_one, hy, List.map_append]
        rfl
    rintro H1 ⟨bt, hDD⟩
    have sH : Same H H1 := s1.trans (but_fresh (Same.refl _) hD bt)
    refine ⟨D, [a, b, c, d].map fun x => bPart (.str (S x)) fs, rfl, SqL.of (hDD.trans ?_), _, rfl, ?_⟩
    · rw [List.map_map]
      rfl
    rw [List.all_map]
    have q0 : ∀ v, bLine a b c d e u fs cs = v → ∀ H', Same H H' → Q (.bl v) H' := fun v e => e ▸ q
    unfold bLine at q0
    cases e1 : ([a, b, c, d].all (id ∘ fun x => bPart (V.str (S x)) fs)) with
    | false => exact iteT (iteT (q0 _ (by rw [show ([a, b, c, d].all fun p => bPart (.str (S p)) fs) = false from e1]; rfl) _ sH))
    | true =>
      refine iteF ?_
      refine ⟨_, rfl, t, _, 4, _, rfl, rfl, sH.tup hS, rfl, _, rfl, S e, cs, rfl, la e (by simp), hl cs (by simp), fun H2 s2 => ⟨_, rfl, ?_⟩⟩
      cases e2 : bPart (.str (S e)) cs with
      | false => exact iteT (q0 _ (by rw [show ([a, b, c, d].all fun p => bPart (.str (S p)) fs) = true from e1, e2]; rfl) _ (sH.trans s2))
      | true =>
        refine iteF ?_
        have s3 := sH.trans s2
        refine ⟨_, rfl, t, _, 5, _, rfl, rfl, s3.tup hS, rfl, rfl, _, rfl, ?_⟩
        have eu : (([a, b, c, d].all fun p => bPart (.str (S p)) fs) && bPart (.str (S e)) cs && (decide (V.str (S u) = V.str "") || bCut (.str (S u)) (S fs))) = (decide (V.str (S u) = V.str "") || bCut (.str (S u)) (S fs)) := by
          rw [show ([a, b, c, d].all fun p => bPart (.str (S p)) fs) = true from e1, e2]
          rfl
        cases e3 : decide (V.str (S u) = V.str "") with
        | true => exact iteT (q0 _ (by rw [eu, e3]; rfl) _ s3)
        | false => exact iteF ⟨_, rfl, t, _, 5, _, rfl, rfl, s3.tup hS, rfl, _, rfl, .str (S u), S fs, rfl, .inl ⟨rfl, la u (by simp)⟩, fun H3 s4 => q0 _ (by rw [eu, e3]; rfl) _ (s3.trans s4)⟩
abbrev s_line_of : Stmt := topS 43
theorem sc_line_of : FnScope ["row", "faces", "cutters", "words", "line"] ["row", "faces", "cutters"] (defScope s_line_of) := ⟨rfl, rfl, rfl, by decide +kernel, rfl, by decide +kernel, by decide +kernel⟩
def noneL : List Nat := [110, 111, 110, 101]
/-- the last word of a line's text -/
def wordU (u : List Nat) : List Nat := if u = [] then noneL else u
def rowT (a b c d e u : List Nat) : Str := Txt.join " " ([a, b, c, d, e, wordU u].map S)
theorem rowT_len {a b c d e u : List Nat} (h : ∀ p ∈ [a, b, c, d, e, u], p.length ≤ 1000) : (rowT a b c d e u).length ≤ 7000 := by
  unfold rowT
  rw [show (" " : Str) = S [32] from rfl, SX.join_S, S_len]
  have hw : (wordU u).length ≤ 1004 := by
    unfold wordU
    split
    · exact (show 4 ≤ 1004 by decide)
    · exact Nat.le_trans (h u (by simp)) (by decide)
  have h1 := h a (by simp)
  have h2 := h b (by simp)
  have h3 := h c (by simp)
  have h4 := h d (by simp)
  have h5 := h e (by simp)
  show (a ++ ([32] ++ (b ++ ([32] ++ (c ++ ([32] ++ (d ++ ([32] ++ (e ++ ([32] ++ wordU u)))))))))).length ≤ 7000
  simp only [List.length_append, List.length_cons, List.length_nil]
  omega
def sp_line_of (K : PySem.W.Frag) : Sp := fun vs H Q _ => ∃ (a b c d e u F C : List Nat), vs = [.str (rowT a b c d e u), .str (S F), .str (S C)] ∧ (∀ p ∈ [a, b, c, d, e, u, F, C], p.length ≤ 1000) ∧ (∀ p ∈ [a, b, c, d, e, u], 32 ∉ p) ∧ u ≠ noneL ∧ bLine a b c d e u F C = true ∧
  ∀ H' p, Same H H' → H p = none → H' p = some (.tup [.str (S a), .str (S b), .str (S c), .str (S d), .str (S e), .str (S u)]) → Q (.ref p) H'
theorem ok_line_of {f : Addr} {fd : FuncData} (F : Fun K "line_of" "line_of" s_line_of f fd) (T : Z mg)
    (c_is_line : Cal P w K mg base CX0 4 "is_line" s_is_line ["value", "faces", "cutters"] (sp_is_line K)) : FnOk P w K mg base CX0 5 f fd ["row", "faces", "cutters"] (sp_line_of K) := by
  refine F.ok sc_line_of (fun vs H Q E h => ?_) (fun cdv A outer s H vs Q E hr h => ?_)
  · obtain ⟨a, b, c, d, e, u, F, C, rfl, _⟩ := h
    rfl
  · obtain ⟨a, b, c, d, e, u, fs, cs, rfl, hl, hs, hn, hb, q⟩ := h
    refine ⟨_, (pss_cons (ps_set (i := 3) sc_line_of.nd rfl (.inl rfl) (pe_split (pv 0) pe_str))
      (pss_cons (ps_if (PW.pt (pw_or (pt_cmpR op_ne (pe_callB call_len_seq (by rfl) T.z_len (by decide +kernel) (pa_cons (pv 3) pa_nil)) pe_int (nomark _)) (pw_or1 (pt_cmpR op_eq (pe_ix ix_list (pv 3) pe_int (fun _ _ => rfl)) pe_str (nomark _))))) (pss_one (ps_ret pe_non)) pss_nil)
      (pss_cons (ps_if (pt_cmpR op_eq (pe_ix ix_list (pv 3) pe_int (fun _ _ => rfl)) pe_str (nomark _)) (pss_one (ps_asg pe_str (pg_sub (pv 3) pe_int set_list))) pss_nil)
      (pss_cons (ps_set (i := 4) sc_line_of.nd rfl (.inl rfl) (pe_tupleOf (by rfl) T.z_tuple (pv 3)))
      (pss_one (ps_ret (pe_ifExp (pt_val (pe_c c_is_line hr (by decide) (by rfl) (pa_cons (pv 4) (pa_cons (pv 1) (pa_cons (pv 2) pa_nil))))) (pv 4) pe_non))))))), ?_⟩
    have hl6 : ∀ p ∈ [a, b, c, d, e, u], p.length ≤ 1000 := fun p hp => hl p (List.mem_append_left [fs, cs] hp)
    have hw32 : 32 ∉ wordU u := by
      unfold wordU
      split
      · decide
      · exact hs u (by simp)
    have hsp : Txt.split (rowT a b c d e u) " " = [a, b, c, d, e, wordU u].map S := TL.split_join (s := 32) (S := []) rfl (by decide +kernel) (by simp) (fun p hp => by
      obtain ⟨x, hx, rfl⟩ := List.mem_map.mp hp
      show 32 ∉ x
      simp only [List.mem_cons, List.not_mem_nil, or_false] at hx
      rcases hx with rfl | rfl | rfl | rfl | rfl | rfl
      · exact hs _ (by simp)
      · exact hs _ (by simp)
      · exact hs _ (by simp)
      · exact hs _ (by simp)
      · exact hs _ (by simp)
      · exact hw32)
    refine ⟨_, rfl, ⟨_, rfl⟩, _, _, rfl, rfl, rfl, Nat.le_trans (Nat.add_le_add_right (rowT_len hl6) 2) (by decide), fun p np => ?_⟩
    rw [hsp]
    have hu0 : wordU u ≠ [] := by
      unfold wordU
      split
      · decide
      · assumption
    have g5 : (upd H p (.lst (([a, b, c, d, e, wordU u].map S).map V.str))) p = some (.lst [V.str (S a), V.str (S b), V.str (S c), V.str (S d), V.str (S e), V.str (S (wordU u))]) := upd_same
    have sp := same_upd (o := HO.lst (([a, b, c, d, e, wordU u].map S).map V.str)) np
    generalize upd H p (.lst (([a, b, c, d, e, wordU u].map S).map V.str)) = H1 at g5 sp
    refine ⟨_, rfl, p, _, rfl, .inl (SqL.of g5), rfl, _, rfl, ?_⟩
    refine iteF ⟨_, rfl, p, _, 5, _, rfl, rfl, SqL.of g5, rfl, rfl, _, rfl, ?_⟩
    rw [show decide (V.str (S (wordU u)) = V.str "") = false from decide_eq_false fun z => hu0 (congrArg (fun x : Str => x.cps.toList) (V.str.inj z))]
    refine iteF ?_
    refine ⟨_, rfl, p, _, 5, _, rfl, rfl, SqL.of g5, rfl, rfl, _, rfl, ?_⟩
    -- behind the last word
    have fin : ∀ H2, (∀ b o, b ≠ p → H1 b = some o → H2 b = some o) → ∀ t, H2 t = none → ∀ H', Same (upd H2 t (.tup [V.str (S a), V.str (S b), V.str (S c), V.str (S d), V.str (S e), V.str (S u)])) H' → Q (.ref t) H' := fun H2 kp t nt H' s' => by
      have s2 : Same H H2 := fun z o hz => kp z o (ne_of_none hz np) (sp z o hz)
      have nt0 : H t = none := by
        cases z : H t with
        | none => rfl
        | some o => rw [s2 _ _ z] at nt; cases nt
      exact q _ t ((s2.trans (same_upd nt)).trans s') nt0 (s' _ _ upd_same)
    by_cases hu : u = []
    · have ew : wordU u = noneL := if_pos hu
      rw [show decide (V.str (S (wordU u)) = V.str "none") = true from decide_eq_true (by rw [ew]; rfl)]
      refine iteT ?_
      refine ⟨_, rfl, p, _, 5, 5, rfl, rfl, g5, rfl, ?_⟩
      have g6 : (upd H1 p (.lst [V.str (S a), V.str (S b), V.str (S c), V.str (S d), V.str (S e), V.str ""])) p = some (.lst [V.str (S a), V.str (S b), V.str (S c), V.str (S d), V.str (S e), V.str (S u)]) := by
        rw [upd_same, hu]
        rfl
      have kp : ∀ z o, z ≠ p → H1 z = some o → (upd H1 p (.lst [V.str (S a), V.str (S b), V.str (S c), V.str (S d), V.str (S e), V.str ""])) z = some o := fun z o n h => (upd_ne n).trans h
      refine ⟨_, rfl, .inl ⟨p, _, rfl, SqL.of g6, fun t nt => ?_⟩⟩
      refine ⟨_, rfl, _, rfl, _, rfl, t, a, b, c, d, e, u, fs, cs, rfl, SqT.of upd_same, hl, fun H' s' => ⟨_, rfl, ?_⟩⟩
      rw [hb]
      exact iteT ⟨_, rfl, fin _ kp t nt H' s'⟩
    · have ew : wordU u = u := if_neg hu
      rw [ew] at g5
      rw [show decide (V.str (S (wordU u)) = V.str "none") = false from decide_eq_false fun z => hn (by
        rw [ew] at z
        exact congrArg (fun x : Str => x.cps.toList) (V.str.inj z))]
      refine iteF ?_
      refine ⟨_, rfl, .inl ⟨p, _, rfl, SqL.of g5, fun t nt => ?_⟩⟩
      refine ⟨_, rfl, _, rfl, _, rfl, t, a, b, c, d, e, u, fs, cs, rfl, SqT.of upd_same, hl, fun H' s' => ⟨_, rfl, ?_⟩⟩
      rw [hb]
      exact iteT ⟨_, rfl, fin H1 (fun _ _ _ h => h) t nt H' s'⟩
abbrev s_head_of : Stmt := topS 42
theorem sc_head_of : FnScope ["row", "words"] ["row"] (defScope s_head_of) := ⟨rfl, rfl, rfl, by decide +kernel, rfl, by decide +kernel, by decide +kernel⟩
def headT (F C : List Nat) : Str := Txt.join " " ([F, C].map S)
def sp_head_of (K : PySem.W.Frag) : Sp := fun vs H Q _ => ∃ (F C : List Nat), vs = [.str (headT F C)] ∧ F.length ≤ 1000 ∧ C.length ≤ 1000 ∧ 32 ∉ F ∧ 32 ∉ C ∧ bFaces (.str (S F)) = true ∧ bCutters (.str (S C)) = true ∧
  ∀ H' p, Same H H' → H p = none → H' p = some (.tup [.str (S F), .str (S C)]) → Q (.ref p) H'
theorem ok_head_of {f : Addr} {fd : FuncData} (F : Fun K "head_of" "head_of" s_head_of f fd) (T : Z mg) (c_is_faces : Cal P w K mg base CX0 3 "is_faces" s_is_faces ["value"] (sp_is_faces K))
    (c_is_cutters : Cal P w K mg base CX0 3 "is_cutters" s_is_cutters ["value"] (sp_is_cutters K)) : FnOk P w K mg base CX0 4 f fd ["row"] (sp_head_of K) := by
  refine F.ok sc_head_of (fun vs H Q E h => ?_) (fun cdv A outer s H vs Q E hr h => ?_)
  · obtain ⟨F, C, rfl, _⟩ := h
    rfl
  · obtain ⟨fs, cs, rfl, l1, l2, h1, h2, b1, b2, q⟩ := h
    refine ⟨_, (pss_cons (ps_set (i := 1) sc_head_of.nd rfl (.inl rfl) (pe_split (pv 0) pe_str))
      (pss_cons (ps_if (PW.pt (pw_or (pt_cmpR op_ne (pe_callB call_len_seq (by rfl) T.z_len (by decide +kernel) (pa_cons (pv 1) pa_nil)) pe_int (nomark _)) (pw_or (pt_not (pt_val (pe_c c_is_faces hr (by decide) (by rfl) (pa_cons (pe_ix ix_list (pv 1) pe_int (fun _ _ => rfl)) pa_nil)))) (pw_or1 (pt_not (pt_val (pe_c c_is_cutters hr (by decide) (by rfl) (pa_cons (pe_ix ix_list (pv 1) pe_int (fun _ _ => rfl)) pa_nil)))))))) (pss_one (ps_ret pe_non)) pss_nil)
      (pss_one (ps_ret (pe_tup (pa_cons (pe_ix ix_list (pv 1) pe_int (fun _ _ => rfl)) (pa_cons (pe_ix ix_list (pv 1) pe_int (fun _ _ => rfl)) pa_nil))))))), ?_⟩
    have hlen : (headT fs cs).length ≤ 3000 := by
      unfold headT
      rw [show (" " : Str) = S [32] from rfl, SX.join_S, S_len]
      show (fs ++ ([32] ++ cs)).length ≤ 3000
      simp only [List.length_append, List.length_cons, List.length_nil]
      omega
    have hsp : Txt.split (headT fs cs) " " = [fs, cs].map S := TL.split_join (s := 32) (S := []) rfl (by decide +kernel) (by simp) (fun p hp => by
      obtain ⟨x, hx, rfl⟩ := List.mem_map.mp hp
      show 32 ∉ x
      simp only [List.mem_cons, List.not_mem_nil, or_false] at hx
      rcases hx with rfl | rfl
      · exact h1
      · exact h2)
    refine ⟨_, rfl, ⟨_, rfl⟩, _, _, rfl, rfl, rfl, Nat.le_trans (Nat.add_le_add_right hlen 2) (by decide), fun p np => ?_⟩
    rw [hsp]
    have g5 : (upd H p (.lst (([fs, cs].map S).map V.str))) p = some (.lst [V.str (S fs), V.str (S cs)]) := upd_same
    have sp := same_upd (o := HO.lst (([fs, cs].map S).map V.str)) np
    generalize upd H p (.lst (([fs, cs].map S).map V.str)) = H1 at g5 sp
    refine ⟨_, rfl, p, _, rfl, .inl (SqL.of g5), rfl, _, rfl, ?_⟩
    refine iteF ⟨_, rfl, p, _, 0, _, rfl, rfl, SqL.of g5, rfl, .str (S fs), rfl, .inl ⟨rfl, (show fs.length ≤ 100000 by omega)⟩, fun H2 s2 => ⟨_, rfl, ?_⟩⟩
    rw [b1]
    refine iteF ⟨_, rfl, p, _, 1, _, rfl, rfl, SqL.of (s2 _ _ g5), rfl, .str (S cs), rfl, .inl ⟨rfl, (show cs.length ≤ 100000 by omega)⟩, fun H3 s3 => ⟨_, rfl, ?_⟩⟩
    rw [b2]
    refine iteF ?_
    have s4 := s2.trans s3
    refine ⟨_, rfl, p, _, 0, _, rfl, rfl, SqL.of (s4 _ _ g5), rfl, _, rfl, p, _, 1, _, rfl, rfl, SqL.of (s4 _ _ g5), rfl, (show 2 ≤ sizeLine by decide), fun t nt => ?_⟩
    have s5 := sp.trans s4
    have nt0 : H t = none := by
      cases z : H t with
      | none => rfl
      | some o =>
        rw [s5 _ _ z] at nt
        cases nt
    exact q _ t (s5.trans (same_upd nt)) nt0 upd_same
abbrev s_Book_init : Stmt := inCls (topS 45) 1
theorem sc_Book_init : FnScope ["self", "faces", "cutters", "lines", "at", "line"] ["self", "faces", "cutters", "lines"] (defScope s_Book_init) := ⟨rfl, rfl, rfl, by decide +kernel, rfl, by decide +kernel, by decide +kernel⟩
/-- one line of a book: where its tuple stands, its six texts -/
abbrev LineV : Type := Addr × List Nat × List Nat × List Nat × List Nat × List Nat × List Nat
def LineV.tup (r : LineV) : HO := .tup [.str (S r.2.1), .str (S r.2.2.1), .str (S r.2.2.2.1), .str (S r.2.2.2.2.1), .str (S r.2.2.2.2.2.1), .str (S r.2.2.2.2.2.2)]
structure LineOk (r : LineV) (F C : List Nat) : Prop where
  ln : ∀ p ∈ [r.2.1, r.2.2.1, r.2.2.2.1, r.2.2.2.2.1, r.2.2.2.2.2.1, r.2.2.2.2.2.2], p.length ≤ 1000
  ok : bLine r.2.1 r.2.2.1 r.2.2.2.1 r.2.2.2.2.1 r.2.2.2.2.2.1 r.2.2.2.2.2.2 F C = true
/-- the lines as they stand -/
structure LinesAt (H : Hp) (ls : List LineV) (F C : List Nat) : Prop where
  at_ : ∀ r ∈ ls, H r.1 = some r.tup
  ok : ∀ r ∈ ls, LineOk r F C
  few : ls.length ≤ 8
theorem LinesAt.same {H H' : Hp} {ls : List LineV} {F C : List Nat} (h : LinesAt H ls F C) (s : Same H H') : LinesAt H' ls F C := ⟨fun r hr => s _ _ (h.at_ r hr), h.ok, h.few⟩
def bookF (F C : List Nat) (tl : Addr) : List (Str × V) := [("faces", .str (S F)), ("cutters", .str (S C)), ("_lines", .ref tl)]
def sp_Book_init (K : PySem.W.Frag) : Sp := fun vs H Q _ => ∃ (x CB dx tl : Addr) (F C : List Nat) (ls : List LineV), vs = [.ref x, .str (S F), .str (S C), .ref tl] ∧ H x = some (.ins CB dx []) ∧ Cls K CB ∧ NoAttr K CB "faces" ∧ NoAttr K CB "cutters" ∧ NoAttr K CB "_lines" ∧
  bFaces (.str (S F)) = true ∧ bCutters (.str (S C)) = true ∧ F.length ≤ 1000 ∧ C.length ≤ 1000 ∧ H tl = some (.tup (ls.map fun r => V.ref r.1)) ∧ LinesAt H ls F C ∧ ∀ H', Same H H' → Q .non (upd H' x (.ins CB dx (bookF F C tl)))
theorem fn_Book_init {f CB : Addr} {fd : FuncData} {t8 : Tok} {mc : Value} (F : Fun K "__init__" "Book.__init__" s_Book_init f fd) (T : Z mg) (gB : mg "Book" = some (.ref CB)) (rC : ClX.CRead K CB mc) (vM : ClX.CVal K CB mc "MOST" (.int 8) (.int 8 t8))
    (c_is_faces : Cal P w K mg base CX0 3 "is_faces" s_is_faces ["value"] (sp_is_faces K)) (c_is_cutters : Cal P w K mg base CX0 3 "is_cutters" s_is_cutters ["value"] (sp_is_cutters K))
    (c_is_line : Cal P w K mg base CX0 4 "is_line" s_is_line ["value", "faces", "cutters"] (sp_is_line K)) :
    FnR P w K mg base CX0 6 f (fun vs H Q E => ∃ ws rest, vs = ws ++ rest ∧ ws.length = ["self", "faces", "cutters"].length ∧ rest.length ≤ sizeLine ∧ ∀ p, H p = none → sp_Book_init K (ws ++ [V.ref p]) (upd H p (.tup rest)) Q E) := by
  obtain ⟨oc, od, kV, doc, pm, an, cdv, ct, osl, rfl, lk, hcd⟩ := F.ex
  refine StX.fn_star (ps := ["self", "faces", "cutters"]) (pv := "lines") lk hcd sc_Book_init StX.cxUp_none (bind_star3 (B := fun us => bindArgs (PySem.W.fnOf "__init__" "Book.__init__" (defArgs s_Book_init) (defBody s_Book_init) (defScope s_Book_init) .none kV doc pm an cdv ct) ⟨us, []⟩) (p1 := "self") (p2 := "faces") (p3 := "cutters") (pv := "lines") (fun _ _ _ => rfl) (fun _ _ _ _ _ => rfl)) (fun A outer s H vs Q E hr h => ?_)
  obtain ⟨x, CB', dx, tl, fs, cs, ls, rfl, hx, hC, nf, nc, nl, b1, b2, l1, l2, ht, hL, q⟩ := h
  refine ⟨_, PSs.nox (pss_cons (ps_if (pt_not (pt_val (pe_c c_is_faces hr (by decide) (by rfl) (pa_cons (pv 1) pa_nil)))) pss_never pss_nil)
    (pss_cons (ps_if (pt_not (pt_val (pe_c c_is_cutters hr (by decide) (by rfl) (pa_cons (pv 2) pa_nil)))) pss_never pss_nil)
    (pss_cons (ps_for PassesOwn.never rfl (pi_enumG (by rfl) T.z_enumerate (pa_cons (pv 3) pa_nil)) (pg_tup rfl (pgs_cons (pg_name (i := 4) sc_Book_init.nd rfl (.inl rfl)) (pgs_cons (pg_name (i := 5) sc_Book_init.nd rfl (.inl rfl)) pgs_nil)))
      (pss_one (ps_if (PW.pt (pw_or (pt_cmpR op_ge (pv 4) (ClX.pe_cval (pe_glob (v := .ref CB) rfl gB rfl)) (nomark _)) (pw_or1 (pt_not (pt_val (pe_c c_is_line hr (by decide) (by rfl) (pa_cons (pv 5) (pa_cons (pv 1) (pa_cons (pv 2) pa_nil))))))))) pss_never pss_nil)))
    (pss_cons (ps_fld (pv 0) (pv 1) rfl)
    (pss_cons (ps_fld (pv 0) (pv 2) rfl)
    (pss_one (ps_fld (pv 0) (pv 3) rfl))))))), ?_⟩
  refine ⟨_, rfl, .str (S fs), rfl, .inl ⟨rfl, (show fs.length ≤ 100000 by omega)⟩, fun H1 s1 => ⟨_, rfl, ?_⟩⟩
  rw [b1]
  refine iteF ⟨_, rfl, .str (S cs), rfl, .inl ⟨rfl, (show cs.length ≤ 100000 by omega)⟩, fun H2 s2 => ⟨_, rfl, ?_⟩⟩
  rw [b2]
  refine iteF ?_
  have s12 := s1.trans s2
  refine ⟨_, rfl, .ref tl, ls.map fun r => V.ref r.1, rfl, .t (SqT.of (s12 _ _ ht)), fun k ev src => ?_⟩
  have stay : ∀ H', Same H2 H' → k.src K H' (ls.map fun r => V.ref r.1) := fun H' s => by
    cases k with
    | l a => exact s.seq src
    | t a => exact s.tup src
    | s z t => cases ev
  refine for_it walk_enumG (fun i σ H' => ∃ y4 y5 : Option V, σ = [some (.ref x), some (.str (S fs)), some (.str (S cs)), some (.ref tl), y4, y5] ∧ Same H2 H') ⟨_, _, rfl, Same.refl _⟩ (fun i σ H' _ ⟨_, _, _, s⟩ => stay H' s) ?_ ?_
  · rintro i v σ H3 H4 hi ⟨y4, y5, rfl, s3⟩ ⟨T', a1, b1', rfl, nT, rfl, hx1, hy1⟩
    obtain rfl : V.int (i : Nat) = a1 := Option.some.inj hx1
    have hy2 : (ls.map fun r => V.ref r.1)[i]? = some b1' := hy1
    rw [List.getElem?_map] at hy2
    obtain ⟨r, hr1, rfl⟩ := Option.map_eq_some_iff.mp hy2
    have hm := List.mem_of_getElem? hr1
    have hi8 : i < 8 := Nat.lt_of_lt_of_le (by simpa using hi) hL.few
    have s4 := (s12.trans s3).trans (same_upd (o := HO.tup [V.int (i : Nat), V.ref r.1]) nT)
    have hok := hL.ok r hm
    refine ⟨T', _, rfl, SqT.of upd_same, rfl, _, _, rfl, _, [], rfl, rfl, ?_⟩
    refine ⟨_, rfl, CB, mc, .int 8, _, rfl, rC, vM, _, _, rfl, rfl, _, rfl, ?_⟩
    rw [show decide ((8 : Int) ≤ ((i : Nat) : Int)) = false from decide_eq_false (by omega)]
    refine iteF ?_
    have hat := s4 _ _ (hL.at_ r hm)
    refine ⟨_, rfl, _, rfl, _, rfl, r.1, _, _, _, _, _, _, fs, cs, rfl, SqT.of hat, fun p hp => ?_, fun H5 s5 => ⟨_, rfl, ?_⟩⟩
    · have hp' : p ∈ [r.2.1, r.2.2.1, r.2.2.2.1, r.2.2.2.2.1, r.2.2.2.2.2.1, r.2.2.2.2.2.2] ++ [fs, cs] := hp
      rcases List.mem_append.mp hp' with h | h
      · exact hok.ln p h
      · simp only [List.mem_cons, List.not_mem_nil, or_false] at h
        rcases h with rfl | rfl
        · exact l1
        · exact l2
    · rw [hok.ok]
      exact iteF ⟨_, _, rfl, (s3.trans (same_upd nT)).trans s5⟩
  · rintro σ H3 ⟨y4, y5, rfl, s3⟩
    have s4 := s12.trans s3
    refine ⟨_, rfl, _, rfl, x, CB', dx, [], rfl, s4 _ _ hx, hC, nf, by decide, ?_⟩
    refine ⟨_, rfl, _, rfl, x, CB', dx, _, rfl, upd_same, hC, nc, (show 1 < 1000 by decide), ?_⟩
    refine ⟨_, rfl, _, rfl, x, CB', dx, _, rfl, upd_same, hC, nl, (show 2 < 1000 by decide), ?_⟩
    rw [upd_upd, upd_upd]
    exact q _ s4
abbrev s_Book_read : Stmt := inCls (topS 45) 9
theorem sc_Book_read : FnScope ["text", "rows", "head", "faces", "cutters", "lines", "at", "line"] ["text"] (defScope s_Book_read) := ⟨rfl, rfl, rfl, by decide +kernel, rfl, by decide +kernel, by decide +kernel⟩
/-- six words of a line's text, as a line has them -/
abbrev W6 : Type := List Nat × List Nat × List Nat × List Nat × List Nat × List Nat
def rowW (w : W6) : Str := rowT w.1 w.2.1 w.2.2.1 w.2.2.2.1 w.2.2.2.2.1 w.2.2.2.2.2
def w6L (w : W6) : List (List Nat) := [w.1, w.2.1, w.2.2.1, w.2.2.2.1, w.2.2.2.2.1, w.2.2.2.2.2]
def bookT (F C : List Nat) (ws : List W6) : Str := Txt.join "\n" (headT F C :: ws.map rowW)
structure W6Ok (w : W6) (F C : List Nat) : Prop where
  ln : ∀ p ∈ w6L w, p.length ≤ 1000
  sp : ∀ p ∈ w6L w, 32 ∉ p ∧ 10 ∉ p
  nn : w.2.2.2.2.2 ≠ noneL
  ok : bLine w.1 w.2.1 w.2.2.1 w.2.2.2.1 w.2.2.2.2.1 w.2.2.2.2.2 F C = true
theorem tl_row {a b c d e u : List Nat} {x : Nat} (h : ∀ p ∈ [a, b, c, d, e, u], x ∉ p) (h1 : x ≠ 32) (h2 : x ∉ noneL) : x ∉ (rowT a b c d e u).cps.toList := by
  unfold rowT
  rw [show (" " : Str) = S [32] from rfl, SX.join_S]
  have hw : x ∉ wordU u := by
    unfold wordU
    split
    · exact h2
    · exact h u (by simp)
  show x ∉ a ++ ([32] ++ (b ++ ([32] ++ (c ++ ([32] ++ (d ++ ([32] ++ (e ++ ([32] ++ wordU u)))))))))
  simp only [List.mem_append, List.mem_singleton, not_or]
  exact ⟨h a (by simp), h1, h b (by simp), h1, h c (by simp), h1, h d (by simp), h1, h e (by simp), h1, hw⟩
theorem tl_head {F C : List Nat} {x : Nat} (h : x ∉ F) (h2 : x ∉ C) (h1 : x ≠ 32) : x ∉ (headT F C).cps.toList := by
  unfold headT
  rw [show (" " : Str) = S [32] from rfl, SX.join_S]
  show x ∉ F ++ ([32] ++ C)
  simp only [List.mem_append, List.mem_singleton, not_or]
  exact ⟨h, h1, h2⟩
theorem joinL_le {s : List Nat} {m : Nat} : ∀ {ps : List (List Nat)}, (∀ p ∈ ps, p.length ≤ m) → (TL.joinL s ps).length ≤ ps.length * (m + s.length)
  | [], _ => Nat.zero_le _
  | [p], h => by
    show p.length ≤ 1 * (m + s.length)
    have := h p List.mem_cons_self
    omega
  | p :: q :: r, h => by
    show (p ++ (s ++ TL.joinL s (q :: r))).length ≤ _
    have ih := joinL_le (s := s) (m := m) (ps := q :: r) fun x hx => h x (List.mem_cons_of_mem _ hx)
    have hp := h p List.mem_cons_self
    simp only [List.length_append, List.length_cons] at ih ⊢
    rw [Nat.add_mul (r.length + 1) 1 (m + s.length), Nat.one_mul]
    omega
theorem head_len {F C : List Nat} (l1 : F.length ≤ 1000) (l2 : C.length ≤ 1000) : (headT F C).length ≤ 7000 := by
  unfold headT
  rw [show (" " : Str) = S [32] from rfl, SX.join_S, S_len]
  show (F ++ ([32] ++ C)).length ≤ 7000
  simp only [List.length_append, List.length_cons, List.length_nil]
  omega
def sp_Book_read (K : PySem.W.Frag) (CB : Addr) : Sp := fun vs H Q _ => ∃ (F C : List Nat) (ws : List W6), vs = [.str (bookT F C ws)] ∧ F.length ≤ 1000 ∧ C.length ≤ 1000 ∧ (32 ∉ F ∧ 10 ∉ F) ∧ (32 ∉ C ∧ 10 ∉ C) ∧ bFaces (.str (S F)) = true ∧ bCutters (.str (S C)) = true ∧
  ws.length ≤ 8 ∧ (∀ w ∈ ws, W6Ok w F C) ∧ ∀ H' x dx tl ls, Same H H' → H x = none → H' x = some (.ins CB dx (bookF F C tl)) → H' tl = some (.tup (ls.map fun r : LineV => V.ref r.1)) → LinesAt H' ls F C → ls.map (·.2) = ws → Q (.ref x) H'
theorem bookT_split {F C : List Nat} {ws : List W6} (h1 : 10 ∉ F) (h2 : 10 ∉ C) (h : ∀ w ∈ ws, W6Ok w F C) : Txt.split (bookT F C ws) "\n" = headT F C :: ws.map rowW :=
  TL.split_join (s := 10) (S := []) rfl (by decide +kernel) (by simp) (fun p hp => by
    rcases List.mem_cons.mp hp with rfl | hp
    · exact tl_head h1 h2 (by decide)
    · obtain ⟨w, hw, rfl⟩ := List.mem_map.mp hp
      exact tl_row (fun p hp => ((h w hw).sp p hp).2) (by decide) (by decide))
theorem bookT_len {F C : List Nat} {ws : List W6} (l1 : F.length ≤ 1000) (l2 : C.length ≤ 1000) (hw : ws.length ≤ 8) (h : ∀ w ∈ ws, W6Ok w F C) : (bookT F C ws).length + 2 ≤ sizeLine := by
  have e : bookT F C ws = S (TL.joinL [10] ((headT F C :: ws.map rowW).map fun z => z.cps.toList)) := by
    unfold bookT
    rw [show (headT F C :: ws.map rowW) = (((headT F C :: ws.map rowW).map fun z => z.cps.toList).map S) from by
      rw [List.map_map]
      exact (List.map_id' _).symm.trans (List.map_congr_left fun z _ => (S_tl z).symm), show ("\n" : Str) = S [10] from rfl, SX.join_S]
    rw [List.map_map, List.map_map]
    congr 2
  rw [e, S_len]
  refine Nat.le_trans (Nat.add_le_add_right (joinL_le (m := 7000) fun p hp => ?_) 2) ?_
  · obtain ⟨z, hz, rfl⟩ := List.mem_map.mp hp
    rcases List.mem_cons.mp hz with rfl | hz
    · exact head_len l1 l2
    · obtain ⟨w, hw2, rfl⟩ := List.mem_map.mp hz
      exact rowT_len (h w hw2).ln
  · rw [List.length_map, List.length_cons, List.length_map]
    exact Nat.le_trans (show (ws.length + 1) * 7001 + 2 ≤ 63011 by omega) (by decide)
theorem ok_Book_read {f CB fB : Addr} {fd : FuncData} {t8 : Tok} {mc : Value} (F : Fun K "read" "Book.read" s_Book_read f fd) (T : Z mg) (gB : mg "Book" = some (.ref CB)) (rC : ClX.CRead K CB mc) (vM : ClX.CVal K CB mc "MOST" (.int 8) (.int 8 t8))
    (M : Mk K CB fB) (hC : Cls K CB) (nf : NoAttr K CB "faces") (nc : NoAttr K CB "cutters") (nl : NoAttr K CB "_lines")
    (FB : FnR P w K mg base CX0 6 fB (fun vs H Q E => ∃ ws rest, vs = ws ++ rest ∧ ws.length = ["self", "faces", "cutters"].length ∧ rest.length ≤ sizeLine ∧ ∀ p, H p = none → sp_Book_init K (ws ++ [V.ref p]) (upd H p (.tup rest)) Q E))
    (c_head_of : Cal P w K mg base CX0 4 "head_of" s_head_of ["row"] (sp_head_of K)) (c_line_of : Cal P w K mg base CX0 5 "line_of" s_line_of ["row", "faces", "cutters"] (sp_line_of K)) :
    FnOk P w K mg base CX0 8 f fd ["text"] (sp_Book_read K CB) := by
  refine F.ok sc_Book_read (fun vs H Q E h => ?_) (fun cdv A outer s H vs Q E hr h => ?_)
  · obtain ⟨F, C, ws, rfl, _⟩ := h
    rfl
  obtain ⟨fs, cs, ws, rfl, l1, l2, ⟨f32, f10⟩, ⟨c32, c10⟩, b1, b2, hw8, hws, q⟩ := h
  refine ⟨_, (pss_cons (ps_if (pt_not (pt_val (pe_callB call_isi (by rfl) T.z_isinstance (by decide +kernel) (pa_cons (pv 0) (pa_cons (pe_bltn (v := .ty "str") (u := .type "str") (by rfl) T.z_str (by decide +kernel) rfl) pa_nil))))) pss_never pss_nil)
    (pss_cons (ps_set (i := 1) sc_Book_read.nd rfl (.inl rfl) (pe_split (pv 0) pe_str))
    (pss_cons (ps_set (i := 2) sc_Book_read.nd rfl (.inl rfl) (pe_c c_head_of hr (by decide) (by rfl) (pa_cons (pe_ix ix_list (pv 1) pe_int (fun _ _ => rfl)) pa_nil)))
    (pss_cons (ps_if (pt_cmp (pc_isN (pv 2))) pss_never pss_nil)
    (pss_cons (ps_asg (pv 2) (pg_tup rfl (pgs_cons (pg_name (i := 3) sc_Book_read.nd rfl (.inl rfl)) (pgs_cons (pg_name (i := 4) sc_Book_read.nd rfl (.inl rfl)) pgs_nil))))
    (pss_cons (ps_set (i := 5) sc_Book_read.nd rfl (.inl rfl) (pe_lst pa_nil))
    (pss_cons (ps_for PassesOwn.never rfl (pi_range2 (by rfl) T.z_range (pa_cons pe_int (pa_cons (pe_callB call_len_seq (by rfl) T.z_len (by decide +kernel) (pa_cons (pv 1) pa_nil)) pa_nil))) (pg_name (i := 6) sc_Book_read.nd rfl (.inl rfl))
      (pss_cons (ps_set (i := 7) sc_Book_read.nd rfl (.inl rfl) (pe_c c_line_of hr (by decide) (by rfl) (pa_cons (pe_ix ix_list (pv 1) (pv 6) (fun _ _ => rfl)) (pa_cons (pv 3) (pa_cons (pv 4) pa_nil)))))
      (pss_cons (ps_if (PW.pt (pw_or (pt_cmp (pc_isN (pv 7))) (pw_or1 (pt_cmpR op_gt (pv 6) (ClX.pe_cval (pe_glob (v := .ref CB) rfl gB rfl)) (nomark _))))) pss_never pss_nil)
      (pss_one (ps_expr (pe_bm PySem.F.plainAttrs_list PySem.F.slot_list_append PySem.F.type_list_append mt_append (pv 5) (pa_cons (pv 7) pa_nil)))))))
    (pss_one (ps_ret (pe_makeS M FB hr (by rfl) gB pass0 (pa_cons (pv 3) (pa_cons (pv 4) (StX.pa_star (pv 5) pa_nil))))))))))))), ?_⟩
  refine ⟨_, rfl, _, _, _, _, true, rfl, .ty _, .base (.str _), kit_ty (by decide +kernel), true, rfl, iteF ?_⟩
  refine ⟨_, rfl, ⟨_, rfl⟩, _, _, rfl, rfl, rfl, bookT_len l1 l2 hw8 hws, fun pr npr => ?_⟩
  rw [bookT_split f10 c10 hws]
  have sr := same_upd (o := HO.lst ((headT fs cs :: ws.map rowW).map V.str)) npr
  have gr : (upd H pr (.lst ((headT fs cs :: ws.map rowW).map V.str))) pr = some (.lst ((headT fs cs :: ws.map rowW).map V.str)) := upd_same
  generalize upd H pr (.lst ((headT fs cs :: ws.map rowW).map V.str)) = H1 at sr gr
  refine ⟨_, rfl, pr, _, 0, _, rfl, rfl, SqL.of gr, at_of (show (0 : Int) = ((0 : Nat) : Int) from rfl) rfl, fs, cs, rfl, l1, l2, f32, c32, b1, b2, fun H2 ph s2 nph hph => ?_⟩
  refine ⟨_, rfl, _, rfl, iteF ?_⟩
  refine ⟨_, rfl, ph, _, rfl, SqT.of hph, rfl, _, _, rfl, _, [], rfl, rfl, ?_⟩
  refine ⟨(show 0 ≤ sizeLine by decide), fun pl npl => ?_⟩
  have s02 := sr.trans s2
  have gr2 := s2 _ _ gr
  have npl0 : H pl = none := by
    cases z : H pl with
    | none => rfl
    | some o =>
      rw [s02 _ _ z] at npl
      cases npl
  have hlen : ((headT fs cs :: ws.map rowW).map V.str).length = ws.length + 1 := by
    rw [List.length_map, List.length_cons, List.length_map]
  refine ⟨_, rfl, pr, _, rfl, .inl (SqL.of ((same_upd npl) _ _ gr2)), 1, _, rfl, ?_, ?_⟩
  · rw [hlen]
    omega
  rw [hlen, show (((ws.length + 1 : Nat) : Int) - 1).toNat = ws.length by omega]
  refine for_it walk_range (fun i σ H' => ∃ (y6 y7 : Option V) (ls : List LineV), σ = [some (.str (bookT fs cs ws)), some (.ref pr), some (.ref ph), some (.str (S fs)), some (.str (S cs)), some (.ref pl), y6, y7] ∧ Same H H' ∧ H' pr = some (.lst ((headT fs cs :: ws.map rowW).map V.str)) ∧
      H' pl = some (.lst (ls.map fun r => V.ref r.1)) ∧ (∀ r ∈ ls, H' r.1 = some r.tup) ∧ ls.map (·.2) = ws.take i)
    ⟨_, _, [], rfl, s02.trans (same_upd npl), (same_upd npl) _ _ gr2, upd_same, (fun _ h => by cases h), rfl⟩ (fun _ _ _ _ _ => trivial) ?_ ?_
  · rintro i x σ H3 H4 hi ⟨y6, y7, ls, rfl, s3, gr3, gl3, at3, e3⟩ ⟨rfl, rfl⟩
    have hiw : ws[i]? = some ws[i] := List.getElem?_eq_getElem hi
    generalize ws[i] = w at hiw
    have hw := hws w (List.mem_of_getElem? hiw)
    have hrow : ((headT fs cs :: ws.map rowW).map V.str)[1 + i]? = some (.str (rowW w)) := by
      rw [Nat.add_comm, List.map_cons, List.getElem?_cons_succ, List.map_map, List.getElem?_map, hiw]
      rfl
    refine ⟨_, rfl, _, rfl, pr, _, 1 + (i : Int), _, rfl, rfl, SqL.of gr3, at_of (show 1 + (i : Int) = ((1 + i : Nat) : Int) by omega) hrow, _, rfl, _, rfl, w.1, w.2.1, w.2.2.1, w.2.2.2.1, w.2.2.2.2.1, w.2.2.2.2.2, fs, cs, rfl, fun p hp => ?_, fun p hp => (hw.sp p hp).1, hw.nn, hw.ok, fun H5 pn s5 npn hpn => ?_⟩
    · have hp' : p ∈ w6L w ++ [fs, cs] := hp
      rcases List.mem_append.mp hp' with h | h
      · exact hw.ln p h
      · simp only [List.mem_cons, List.not_mem_nil, or_false] at h
        rcases h with rfl | rfl
        · exact l1
        · exact l2
    refine ⟨_, rfl, _, rfl, iteF ?_⟩
    refine ⟨_, rfl, CB, mc, .int 8, _, rfl, rC, vM, _, _, rfl, rfl, _, rfl, ?_⟩
    rw [show decide ((8 : Int) < 1 + ((i : Nat) : Int)) = false from decide_eq_false (by omega)]
    refine iteF ?_
    have gl5 := s5 _ _ gl3
    have prl : pr ≠ pl := ne_of_none gr2 npl
    have nep : pn ≠ pl := fun z => by
      rw [z, gl3] at npn
      cases npn
    refine ⟨_, rfl, .inl ⟨rfl, _, SqL.of gl5⟩, _, rfl, pl, _, _, rfl, rfl, gl5, ?_, ?_⟩
    · rw [List.length_map]
      have e4 := congrArg List.length e3
      rw [List.length_map, List.length_take] at e4
      exact sz1 (by omega)
    refine ⟨_, _, ls ++ [(pn, w)], rfl, fun z o hz => (upd_ne (ne_of_none hz npl0)).trans (s5 _ _ (s3 _ _ hz)), (upd_ne prl).trans (s5 _ _ gr3), ?_, fun r hr => ?_, ?_⟩
    · rw [upd_same, List.map_append]
      rfl
    · rcases List.mem_append.mp hr with h | h
      · have h3 := at3 r h
        have hne : r.1 ≠ pl := fun z => by
          rw [z, gl3] at h3
          cases h3
        exact (upd_ne hne).trans (s5 _ _ h3)
      · rw [List.mem_singleton.mp h]
        exact (upd_ne nep).trans hpn
    · rw [List.map_append, e3, List.take_add_one, hiw]
      rfl
  · rintro σ H3 ⟨y6, y7, ls, rfl, s3, gr3, gl3, at3, e3⟩
    rw [List.take_of_length_le (Nat.le_refl _)] at e3
    have hls : ls.length ≤ 8 := by
      have e4 := congrArg List.length e3
      rw [List.length_map] at e4
      omega
    refine ⟨_, rfl, _, rfl, _, rfl, pl, _, rfl, .inr (SqL.of gl3), fun x dx nx ndx hne => ?_⟩
    have nx0 : H x = none := by
      cases z : H x with
      | none => rfl
      | some o =>
        rw [s3 _ _ z] at nx
        cases nx
    have hxm : (upd (upd H3 dx (.own x)) x (.ins CB dx [])) x = some (.ins CB dx []) := upd_same
    have sm : Same H3 (upd (upd H3 dx (.own x)) x (.ins CB dx [])) := fun z o hz => (upd_ne (ne_of_none hz nx)).trans ((upd_ne (ne_of_none hz ndx)).trans hz)
    refine ⟨[.ref x, .str (S fs), .str (S cs)], ls.map fun r => V.ref r.1, by rw [List.append_nil]; rfl, rfl, ?_, fun tl ntl => ?_⟩
    · rw [List.length_map]
      exact Nat.le_trans hls (by decide)
    have htx : tl ≠ x := fun z => by
      rw [z, hxm] at ntl
      cases ntl
    have st := same_upd (o := HO.tup (ls.map fun r => V.ref r.1)) ntl
    have lat : ∀ r ∈ ls, LineOk r fs cs := fun r hr => by
      have hm : r.2 ∈ ws := by
        rw [← e3]
        exact List.mem_map.mpr ⟨r, hr, rfl⟩
      exact ⟨(hws _ hm).ln, (hws _ hm).ok⟩
    refine ⟨x, CB, dx, tl, fs, cs, ls, rfl, st _ _ hxm, hC, nf, nc, nl, b1, b2, l1, l2, upd_same, ⟨fun r hr => st _ _ (sm _ _ (at3 r hr)), lat, hls⟩, fun H' s' => ⟨rfl, ?_⟩⟩
    have far : ∀ z o, z ≠ x → (upd (upd (upd H3 dx (.own x)) x (.ins CB dx [])) tl (.tup (ls.map fun r => V.ref r.1))) z = some o → (upd H' x (.ins CB dx (bookF fs cs tl))) z = some o := fun z o n h => (upd_ne n).trans (s' _ _ h)
    refine q _ x dx tl ls (fun z o hz => far z o (ne_of_none hz nx0) (st _ _ (sm _ _ (s3 _ _ hz)))) nx0 upd_same (far _ _ htx upd_same) ⟨fun r hr => far _ _ (fun z => ?_) (st _ _ (sm _ _ (at3 r hr))), lat, hls⟩ e3
    have h3 := at3 r hr
    rw [z, nx] at h3
    cases h3
end
end FW
namespace FW
open PySem PySem.Spec PyProof.Rows L2
/-! ### methods and static methods by their names -/
structure MCal (P : Program) (w : World) (K : PySem.W.Frag) (mg : Str → Option Value) (base : Heap) (CX : CXT) (C : Addr) (k : Nat) (m : Str) (ps : List Str) (sp : Sp) : Prop where
  ex : ∃ (f : Addr) (fd : FuncData), Meth K C m f ∧ FnOk P w K mg base CX k f fd ps sp ∧ L2.Binds K fd ps []
structure SCal (P : Program) (w : World) (K : PySem.W.Frag) (mg : Str → Option Value) (base : Heap) (CX : CXT) (x : Str) (C : Addr) (k : Nat) (m : Str) (st : Stmt) (ps : List Str) (sp : Sp) : Prop where
  g : mg x = some (.ref C)
  ex : ∃ (f : Addr) (fd : FuncData) (q : Str), Sta K C m f ∧ FnOk P w K mg base CX k f fd ps sp ∧ L2.Binds K fd ps [] ∧ Fun K m q st f fd
section
variable {X : Cx} {k j : Nat} {C : Addr} {x m : Str} {st : Stmt} {ps ks : List Str} {sp : Sp} {o e : Expr} {es : List Expr} {kws : List Keyword} {apos pos p1 : Pos} {ta : TE} {t tk : TA} {CX : CXT} {E : XK} {g : List Value → List Value → List Value} {gV : List V → List V → List V}
theorem pe_mx {pl : Sem Bool} (c : MCal X.prog X.w X.K X.mg X.base CX C k m ps sp) (hC : Cls X.K C) (hr : Room j X.A) (hk : k ≤ j) (hx : Passes CX X E) (he : PE X o ta) (ha : PA X (e :: es) t)
    (hst : starEach (e :: es) X.env = (false, eval e X.env) :: starEach es X.env := by rfl) (hpl : (backTo pos (starEach es X.env)).any (·.1) = false := by rfl)
    (ht : eval (.Call (.Attribute o m apos) (e :: es) [] pos) X.env = (do
      let ov ← eval o X.env
      standAt apos.atName
      let (f, first) ← holding [ov] (getMethod ov m pl)
      callWith pos f first (backTo pos (starEach (e :: es) X.env)) (backToKw pos (keywordEach [] X.env))) := by rfl) :
    PE X (.Call (.Attribute o m apos) (e :: es) [] pos) (tMeth C m sp [] E ta t) := by
  obtain ⟨f, fd, M, F, b⟩ := c.ex
  exact pe_meth he hC M F (hr.mono hk) b .nil hx ha hst hpl ht
theorem pe_mx0 {pl : Sem Bool} (c : MCal X.prog X.w X.K X.mg X.base CX C k m ps sp) (hC : Cls X.K C) (hr : Room j X.A) (hk : k ≤ j) (hx : Passes CX X E) (he : PE X o ta)
    (ht : eval (.Call (.Attribute o m apos) [] [] pos) X.env = (do
      let ov ← eval o X.env
      standAt apos.atName
      let (f, first) ← holding [ov] (getMethod ov m pl)
      callWith pos f first (backTo pos (starEach [] X.env)) (backToKw pos (keywordEach [] X.env))) := by rfl) :
    PE X (.Call (.Attribute o m apos) [] [] pos) (tMeth C m sp [] E ta tNil) := by
  obtain ⟨f, fd, M, F, b⟩ := c.ex
  exact pe_meth0 he hC M F (hr.mono hk) b .nil hx ht
theorem pe_m {pl : Sem Bool} (c : MCal X.prog X.w X.K X.mg X.base CX0 C k m ps sp) (hC : Cls X.K C) (hr : Room j X.A) (hk : k ≤ j) (he : PE X o ta) (ha : PA X (e :: es) t)
    (hst : starEach (e :: es) X.env = (false, eval e X.env) :: starEach es X.env := by rfl) (hpl : (backTo pos (starEach es X.env)).any (·.1) = false := by rfl)
    (ht : eval (.Call (.Attribute o m apos) (e :: es) [] pos) X.env = (do
      let ov ← eval o X.env
      standAt apos.atName
      let (f, first) ← holding [ov] (getMethod ov m pl)
      callWith pos f first (backTo pos (starEach (e :: es) X.env)) (backToKw pos (keywordEach [] X.env))) := by rfl) :
    PE X (.Call (.Attribute o m apos) (e :: es) [] pos) (tMeth C m sp [] E0 ta t) := pe_mx c hC hr hk pass0 he ha hst hpl ht
theorem pe_m0 {pl : Sem Bool} (c : MCal X.prog X.w X.K X.mg X.base CX0 C k m ps sp) (hC : Cls X.K C) (hr : Room j X.A) (hk : k ≤ j) (he : PE X o ta)
    (ht : eval (.Call (.Attribute o m apos) [] [] pos) X.env = (do
      let ov ← eval o X.env
      standAt apos.atName
      let (f, first) ← holding [ov] (getMethod ov m pl)
      callWith pos f first (backTo pos (starEach [] X.env)) (backToKw pos (keywordEach [] X.env))) := by rfl) :
    PE X (.Call (.Attribute o m apos) [] [] pos) (tMeth C m sp [] E0 ta tNil) := pe_mx0 c hC hr hk pass0 he ht
theorem pe_s {pl : Sem Bool} (c : SCal X.prog X.w X.K X.mg X.base CX0 x C k m st ps sp) (hr : Room j X.A) (hk : k ≤ j) (hg : Gl X x) (ha : PA X (e :: es) t)
    (hdb : (x == ("__debug__" : Str)) = false := by decide)
    (hc : eval (.Call (.Attribute (.Name x p1) m apos) (e :: es) [] pos) X.env = (do
      let oc ← eval (.Name x p1) X.env
      standAt apos.atName
      let (fc, fst) ← holding [oc] (getMethod oc m pl)
      callWith pos fc fst (backTo pos (starEach (e :: es) X.env)) (backToKw pos (keywordEach [] X.env))) := by rfl)
    (he : starEach (e :: es) X.env = (false, eval e X.env) :: starEach es X.env := by rfl) (hpl : (backTo pos (starEach es X.env)).any (·.1) = false := by rfl) :
    PE X (.Call (.Attribute (.Name x p1) m apos) (e :: es) [] pos) (tCall sp [] E0 t) := by
  obtain ⟨f, fd, q, S, F, b, _⟩ := c.ex
  exact pe_static hg c.g S F (hr.mono hk) b .nil pass0 ha hdb hc he hpl
theorem pe_sk0 {pl : Sem Bool} (c : SCal X.prog X.w X.K X.mg X.base CX0 x C k m st ps sp) (hb : ∀ f fd q, Fun X.K m q st f fd → KBinds X.K fd ps ks g gV) (hr : Room j X.A) (hk : k ≤ j) (hg : Gl X x) (hkw : PK X kws tk)
    (hall : (backToKw pos (keywordEach kws X.env)).all (·.1.isSome) = true := by rfl) (hks : (backToKw pos (keywordEach kws X.env)).filterMap (·.1) = ks := by rfl)
    (hdb : (x == ("__debug__" : Str)) = false := by decide)
    (hc : eval (.Call (.Attribute (.Name x p1) m apos) [] kws pos) X.env = (do
      let oc ← eval (.Name x p1) X.env
      standAt apos.atName
      let (fc, fst) ← holding [oc] (getMethod oc m pl)
      callWith pos fc fst (backTo pos (starEach [] X.env)) (backToKw pos (keywordEach kws X.env))) := by rfl)
    (hpl : ((backTo pos (starEach [] X.env)).any (·.1) || (backToKw pos (keywordEach kws X.env)).any (·.1.isNone)) = false := by rfl) :
    PE X (.Call (.Attribute (.Name x p1) m apos) [] kws pos) (tCallK sp gV E0 tNil tk) := by
  obtain ⟨f, fd, q, S, F, b, fn⟩ := c.ex
  exact pe_staticK0 hg c.g S F (hr.mono hk) (hb f fd q fn) pass0 hkw hall hks hdb hc hpl
theorem kbs_one {K : PySem.W.Frag} {x p1 : Str} {st : Stmt}
    (h : ∀ (q : Str) (kV doc pm : Value) (an : Option Addr) (cdv ct : Value) (u : Value), bindArgs (PySem.W.fnOf x q (defArgs st) (defBody st) (defScope st) .none kV doc pm an cdv ct) ⟨[], [(p1, u)]⟩ = pure [(p1, u)]) :
    ∀ f fd q, Fun K x q st f fd → KBinds K fd [p1] [p1] one1 one1 := by
  intro f fd q F
  obtain ⟨oc, od, kV, doc, pm, an, cdv, ct, osl, rfl, lk, hcd⟩ := F.ex
  refine ⟨fun s us ws _ hl => ?_, fun r q => one1_vals r q⟩
  match us, ws, hl with
  | [], [u], _ => exact .of_eq (h q kV doc pm an cdv ct u)
  | [], [], hl => exact absurd (show 0 = 1 from hl) (by decide)
  | [], _ :: _ :: _, hl => exact absurd (show 0 = 1 from hl) (by decide)
  | _ :: _, ws, hl => exact absurd (show 0 = 1 from hl) (by decide)
structure OwnE (P : Program) (w : World) (K : PySem.W.Frag) (mg : Str → Option Value) (base : Heap) (C : Addr) (k : Nat) (sp : Sp) : Prop where
  ex : ∃ f : Addr, PySem.W.findIn K (.ref C) "__eq__" = some (some (.ref f)) ∧ PySem.W.isFn K (.ref f) = true ∧ FnR P w K mg base CX0 k f sp
  ne : PySem.W.findIn K (.ref C) "__ne__" = some (some (.builtin "object.__ne__"))
  ob : PySem.W.mroIn K C (.type "object") = some true
  nf : PySem.W.notFirst K C (.ref C) = true
theorem op_eqO (o : OwnE X.prog X.w X.K X.mg X.base C k sp) (hr : Room j X.A) (hk : k ≤ j) : OpR X (compareOp .Eq) (rOwnI X.K C sp E0 false) := by
  obtain ⟨f, h1, h2, F⟩ := o.ex
  exact op_eqI h1 h2 F (hr.mono hk) pass0
theorem op_neO (o : OwnE X.prog X.w X.K X.mg X.base C k sp) (hr : Room j X.A) (hk : k + 1 ≤ j) : OpR X (compareOp .NotEq) (rOwnI X.K C sp E0 true) := by
  obtain ⟨f, h1, h2, F⟩ := o.ex
  exact op_neI h1 h2 o.ne o.ob F (hr.mono hk) pass0
end
end FW
namespace FW
open PySem PySem.Spec PyProof.Rows L2
/-! ### sorted: pairs of texts -/
abbrev cl (x : Str) : List Nat := x.cps.toList
def lexS (p q : Str × Str) : Bool := if p.1 = q.1 then decide (cl p.2 < cl q.2) else decide (cl p.1 < cl q.1)
theorem cl_inj {x y : Str} (h : cl x = cl y) : x = y := by
  obtain ⟨⟨a⟩⟩ := x
  obtain ⟨⟨b⟩⟩ := y
  have : a = b := h
  rw [this]
theorem lexS_iff {p q : Str × Str} : lexS p q = true ↔ cl p.1 < cl q.1 ∨ (cl p.1 = cl q.1 ∧ cl p.2 < cl q.2) := by
  unfold lexS
  by_cases e : p.1 = q.1
  · rw [if_pos e, decide_eq_true_eq, e]
    exact ⟨fun h => .inr ⟨rfl, h⟩, fun h => h.elim (fun z => absurd z (List.lt_irrefl _)) (·.2)⟩
  · rw [if_neg e, decide_eq_true_eq]
    exact ⟨.inl, fun h => h.elim id fun z => absurd (cl_inj z.1) e⟩
theorem lexS_no {p q : Str × Str} : lexS p q = false ↔ ¬ (cl p.1 < cl q.1 ∨ (cl p.1 = cl q.1 ∧ cl p.2 < cl q.2)) := by
  rw [← lexS_iff]
  cases lexS p q <;> simp
theorem lt_or {a b : List Nat} (h : ¬ a < b) : b < a ∨ a = b := by
  by_cases e : a = b
  · exact .inr e
  · refine .inl ?_
    have h1 : b ≤ a := h
    rcases Classical.em (b < a) with z | z
    · exact z
    · exact absurd (List.le_antisymm (show a ≤ b from z) h1) e
theorem swo_S {α : Type} (k : α → Str × Str) : SrtO.Swo fun v u => lexS (k v) (k u) := by
  refine ⟨fun x y h => ?_, fun x y z h1 h2 => ?_⟩
  · have a := lexS_iff.mp h
    refine lexS_no.mpr fun b => ?_
    rcases a with a | ⟨e, a⟩
    · rcases b with b | ⟨e, b⟩
      · exact List.lt_irrefl _ (List.lt_trans a b)
      · rw [e] at a
        exact List.lt_irrefl _ a
    · rcases b with b | ⟨_, b⟩
      · rw [e] at b
        exact List.lt_irrefl _ b
      · exact List.lt_irrefl _ (List.lt_trans a b)
  · have a := lexS_no.mp h1
    have b := lexS_no.mp h2
    refine lexS_no.mpr fun c => ?_
    simp only [not_or, not_and] at a b
    rcases c with c | ⟨e, c⟩
    · rcases lt_or a.1 with a1 | a1
      · rcases lt_or b.1 with b1 | b1
        · exact List.lt_irrefl _ (List.lt_trans (List.lt_trans c a1) b1)
        · have c2 := List.lt_trans c a1
          rw [b1] at c2
          exact List.lt_irrefl _ c2
      · rw [← a1] at c
        exact b.1 c
    · rcases lt_or a.1 with a1 | a1
      · rcases lt_or b.1 with b1 | b1
        · rw [e] at b1
          exact List.lt_irrefl _ (List.lt_trans a1 b1)
        · rw [← b1, e] at a1
          exact List.lt_irrefl _ a1
      · have b0 : cl (k z).1 = cl (k y).1 := e.trans a1.symm
        rcases lt_or (a.2 a1) with a2 | a2
        · rcases lt_or (b.2 b0) with b2 | b2
          · exact List.lt_irrefl _ (List.lt_trans (List.lt_trans c a2) b2)
          · rw [b2] at c
            exact List.lt_irrefl _ (List.lt_trans a2 c)
        · rw [← a2] at c
          exact b.2 b0 c
def IsPairS (h : Heap) (v : Value) (x y : Str) : Prop := ∃ a o t u n, v = .ref a ∧ h.get? a = some o ∧ o.cls = .type "tuple" ∧ o.data = .seq #[.str x t, .str y u] n
theorem IsPairS.keeps {h h' : Heap} {v : Value} {x y : Str} (p : IsPairS h v x y) (k : ∀ b o, h.get? b = some o → o.cls = .type "tuple" → h'.get? b = some o) : IsPairS h' v x y := by
  obtain ⟨a, o, t, u, n, e, ho, hc, hd⟩ := p
  exact ⟨a, o, t, u, n, e, k _ _ ho hc, hc, hd⟩
theorem firsts_S {h : Heap} : ∀ {vs : List Value}, (∀ v ∈ vs, ∃ x y, IsPairS h v x y) → ∃ fs : List Value, PySem.W.KatTups h vs fs ∧ fs.length = vs.length ∧ ∀ f ∈ fs, ∃ x t, f = Value.str x t
  | [], _ => ⟨[], PySem.W.KatTups.nil, rfl, fun _ hm => by simp at hm⟩
  | v :: vs, x => by
    obtain ⟨fs, k, hl, hi⟩ := firsts_S (vs := vs) fun u hu => x u (List.mem_cons_of_mem _ hu)
    obtain ⟨z, y, a, o, t, u, n, rfl, ho, hc, hd⟩ := x v (List.mem_cons_self ..)
    refine ⟨.str z t :: fs, PySem.W.KatTups.cons ho hc hd rfl k, by rw [List.length_cons, List.length_cons, hl], fun f hf => ?_⟩
    rcases List.mem_cons.mp hf with rfl | hf
    · exact ⟨z, t, rfl⟩
    · exact hi f hf
section
variable {prog : Program} {w : World} {A : Around} {E : Value → Shared → Prop} {s : Shared}
open SrtO
theorem pair_cmpS {vs : List Value} {k : Value → Str × Str} (hp : ∀ v ∈ vs, IsPairS s.heap v (k v).1 (k v).2) : Cmp prog w A s (tuples' true) (fun p => p.1 ∈ vs) (lt2 fun v u => lexS (k v) (k u)) := by
  intro p q hm hm'
  have h1 := hp _ hm
  have h2 := hp _ hm'
  show wpAny (model prog w) A (keyLt' (tuples' true) p.1 q.1) (fun r s' => s' = s ∧ r = lexS (k p.1) (k q.1)) (fun _ _ => False) s
  unfold lexS
  generalize (k p.1).1 = x at h1 ⊢
  generalize (k p.1).2 = y at h1 ⊢
  generalize (k q.1).1 = x' at h2 ⊢
  generalize (k q.1).2 = y' at h2 ⊢
  obtain ⟨a, o, t, u, n, e, ho, hc, hd⟩ := h1
  obtain ⟨a', o', t', u', n', e', ho', hc', hd'⟩ := h2
  rw [e, e']
  refine PySem.W.kat_lt ho hd ho' hd' ?_
  show PySem.W.KatLex prog w A true (decide (2 < 2)) _ [(.str x t, .str x' t'), (.str y u, .str y' u')] 0 s
  refine PySem.W.kat_cons (SeqAt.EqAt.str_str x t x' t' prog w _ _ ?_)
  refine PySem.W.kat_go (fun e1 => ?_) (fun e1 => ?_)
  · have ex : x = x' := by simpa using e1
    refine PySem.W.kat_yes (PySem.W.kat_cons (SeqAt.EqAt.str_str y u y' u' prog w _ _ ?_))
    refine PySem.W.kat_go (fun e2 => ?_) (fun e2 => ?_)
    · have ey : y = y' := by simpa using e2
      have e3 : (if x = x' then decide (cl y < cl y') else decide (cl x < cl x')) = false := by
        rw [if_pos ex, ey]
        exact decide_eq_false (List.lt_irrefl _)
      exact PySem.W.kat_yes (PySem.W.kat_nil ⟨rfl, e3.symm⟩)
    · have e3 : (if x = x' then decide (cl y < cl y') else decide (cl x < cl x')) = decide (cl y < cl y') := if_pos ex
      exact PySem.W.kat_no (PyProof.Rows.oneLt_any_str ⟨rfl, e3.symm⟩)
  · have ex : ¬ x = x' := by simpa using e1
    have e3 : (if x = x' then decide (cl y < cl y') else decide (cl x < cl x')) = decide (cl x < cl x') := if_neg ex
    exact PySem.W.kat_no (PyProof.Rows.oneLt_any_str ⟨rfl, e3.symm⟩)
theorem pairs_sortableS {a : Addr} {vs : List Value} {k : Value → Str × Str} (h0 : 0 < vs.length) (hp : ∀ v ∈ vs, IsPairS s.heap v (k v).1 (k v).2) (ha : ∀ o, s.heap.get? a = some o → o.cls ≠ .type "tuple") : SortableO prog w A s a vs fun v u => lexS (k v) (k u) := by
  intro h' keep
  have hp' : ∀ v ∈ vs, IsPairS h' v (k v).1 (k v).2 := fun v hm => (hp v hm).keeps fun b o e c => keep b o (fun z => by subst z; exact ha o e c) e
  obtain ⟨fs, h1, h2, h3⟩ := firsts_S fun v hm => ⟨_, _, hp' v hm⟩
  refine ⟨tuples' true, fun Q E hq => ?_, pair_cmpS hp'⟩
  refine PySem.W.kat_kind (T := .type "str") h1 (by omega) (fun f hm => ?_) (by rfl) ?_
  · obtain ⟨x, t, rfl⟩ := h3 f hm
    exact PySem.W.Looks.now
  · have e : (Value.type "str" != Value.type "tuple") = true := by first | decide +kernel | rfl | decide
    rw [e]
    exact hq
theorem sorted_pairsS {l : Addr} {vs : List Value} {k : Value → Str × Str} {Q : Value → Shared → Prop} (hl : s.heap.IsList l vs.toArray) (hz : vs.length ≤ sizeLine) (hp : ∀ v ∈ vs, IsPairS s.heap v (k v).1 (k v).2)
    (h : ∀ (h' : Heap) (d : Addr) (out : List Value), Srtd (fun v u => lexS (k v) (k u)) out → Stb (fun v u => lexS (k v) (k u)) out vs → (∀ b o, s.heap.get? b = some o → h'.get? b = some o) → s.heap.objs.size ≤ d → (∃ n, h'.get? d = some (seqObj "list" out.toArray n)) → Q (.ref d) { s with heap := h' }) :
    wpAny (model prog w) A (call (.builtin "sorted") [.ref l]) Q E s := by
  refine sorted_ord (swo_S k) hl hz (fun h2 h₁ a ha kk => ?_) fun out hs hb => ?_
  · refine pairs_sortableS (s := { s with heap := h₁ }) (by omega) (fun v hm => (hp v hm).keeps fun b o e _ => (kk b o e).2) fun o e => ?_
    have e' : some o = some (seqObj "list" vs.toArray 0) := e.symm.trans ha
    cases e'
    intro c
    exact absurd (Value.type.inj c) (by decide)
  · exact h _ _ out hs hb (fun b o e => sortedAll_old e) (Nat.le_succ _) (sortedAll_at s.heap vs out.toArray)
end
/-- sorted(xs), xs a list of pairs of texts (k says which) -/
def rSortedSS (K : PySem.W.Frag) : List V → Hp → VK → Prop := fun vs H Q => ∃ (a : Addr) (xs : List V) (k : V → Str × Str), vs = [V.ref a] ∧ SqL K H a xs ∧ (∀ x ∈ xs, ∃ t, x = V.ref t ∧ H t = some (.tup [.str (k x).1, .str (k x).2])) ∧
  ∀ ys p, ys.Pairwise (fun x y => lexS (k y) (k x) = false) → ys.Perm xs → H p = none → Q (.ref p) (upd H p (.lst ys))
section
variable {X : Cx}
theorem cr_sortedSS : CallR X (.builtin "sorted") (rSortedSS X.K) := by
  intro pins s σ H vs us Q I r h
  obtain ⟨a, xs, k, rfl, hs, hx, q⟩ := h
  obtain ⟨its, rv, hl, hz⟩ := I.list hs
  obtain ⟨u, rfl, ru⟩ := vals1 r
  obtain rfl : u = Value.ref a := ru
  obtain ⟨e1, e2⟩ := refs_back rv fun x m => by
    obtain ⟨t, e, _⟩ := hx x m
    exact ⟨t, e⟩
  refine sorted_pairsS (k := fun u => k (backV u)) hl.isList (by rw [← rv.length]; exact hz) (fun v hv => ?_) fun h' d out h1 h2 kp hd hn => ?_
  · obtain ⟨t, rfl⟩ := e2 v hv
    have hm : V.ref t ∈ xs := by rw [e1]; exact List.mem_map.mpr ⟨_, hv, rfl⟩
    obtain ⟨t', e, ht⟩ := hx _ hm
    cases e
    obtain ⟨_, its2, r2, o, ho, hc, n, hd⟩ := I.hok _ _ ht
    obtain ⟨u1, u2, rfl, ri, rj⟩ := vals2 r2
    obtain ⟨t1, rfl⟩ := ri
    obtain ⟨t2, rfl⟩ := rj
    exact ⟨t, o, t1, t2, n, rfl, ho, hc, hd⟩
  · have h3 : ∀ u ∈ out, ∃ a, u = Value.ref a := fun u hu => e2 u (h2.perm.mem_iff.mp hu)
    obtain ⟨n, hn⟩ := hn
    have hb : SrtO.Stb (fun x y => lexS (k x) (k y)) (out.map backV) xs := by
      rw [e1]
      exact SrtO.Stb.map (swo_S k) backV h2
    refine ⟨.ref d, upd H d (.lst (out.map backV)), I.laid (t' := s.toks) kp hd ⟨?_, out, n, vals_back h3, hn⟩, rfl, q _ d (SrtO.srtd_map (lt := fun x y => lexS (k x) (k y)) h1) hb.perm (I.hok.fresh hd)⟩
    rw [hb.len]
    exact hz
end
end FW
namespace FW
open PySem PySem.Spec PyProof.Rows L2
-- more
section
variable {P : Program} {w : World} {K : PySem.W.Frag} {mg : Str → Option Value} {base : Heap}
/-- a book as it stands -/
structure BookAt (K : PySem.W.Frag) (CB : Addr) (H : Hp) (x : Addr) (F C : List Nat) (ls : List LineV) : Prop where
  at_ : ∃ dx tl : Addr, H x = some (.ins CB dx (bookF F C tl)) ∧ H tl = some (.tup (ls.map fun r => V.ref r.1))
  lines : LinesAt H ls F C
  lens : F.length ≤ 1000 ∧ C.length ≤ 1000
  chr : (∀ c ∈ F, c < 128) ∧ ∀ c ∈ C, c < 128
theorem BookAt.same {CB : Addr} {H H' : Hp} {x : Addr} {F C : List Nat} {ls : List LineV} (s : Same H H') (b : BookAt K CB H x F C ls) : BookAt K CB H' x F C ls := by
  obtain ⟨dx, tl, h1, h2⟩ := b.at_
  exact ⟨⟨dx, tl, s _ _ h1, s _ _ h2⟩, b.lines.same s, b.lens, b.chr⟩
/-- what a class of books has -/
structure BookC (K : PySem.W.Frag) (CB : Addr) : Prop where
  c : Cls K CB
  nf : NoAttr K CB "faces"
  nc : NoAttr K CB "cutters"
  nl : NoAttr K CB "_lines"
theorem part_chr {p L : List Nat} (h : bPart (.str (S p)) L = true) (hL : ∀ c ∈ L, c < 128) : ∀ c ∈ p, c < 128 := by
  unfold bPart at h
  rcases Bool.or_eq_true_iff.mp h with h | h
  · have h' : (true && decide (p.length = 1) && decide (p.getD 0 0 ∈ [46])) = true := h
    simp only [Bool.true_and, Bool.and_eq_true, decide_eq_true_eq] at h'
    match p, h'.1 with
    | [x], _ =>
      intro c hc
      have e : x = 46 := List.mem_singleton.mp h'.2
      rw [List.mem_singleton.mp hc, e]
      decide
  · have h' : (true && (decide ((1 : Int) ≤ (p.length : Int)) && decide ((p.length : Int) ≤ (L.length : Int))) && (p.all fun c => decide (c ∈ L)) && ascB p) = true := h
    simp only [Bool.true_and, Bool.and_eq_true] at h'
    intro c hc
    exact hL c (of_decide_eq_true (List.all_eq_true.mp h'.1.2 c hc))
theorem cut_chr {u F : List Nat} (h : (decide (V.str (S u) = V.str "") || bCut (.str (S u)) (S F)) = true) (hF : ∀ c ∈ F, c < 128) : ∀ c ∈ u, c < 128 := by
  rcases Bool.or_eq_true_iff.mp h with h | h
  · have z2 := congrArg (fun z : Str => z.cps.toList) (V.str.inj (of_decide_eq_true h))
    have z3 : u = [] := z2
    rw [z3]
    intro c hc
    cases hc
  · rw [bCut_S] at h
    simp only [Bool.and_eq_true, decide_eq_true_eq] at h
    obtain ⟨⟨h1, h2⟩, h3⟩ := h
    match u, h1 with
    | [g, x, y], _ =>
      intro c hc
      rcases List.mem_cons.mp hc with rfl | hc
      · have : c ∈ [124, 45] := h2
        simp only [List.mem_cons, List.not_mem_nil, or_false] at this
        omega
      · exact hF c (of_decide_eq_true (List.all_eq_true.mp h3 c hc))
theorem LineOk.chr {r : LineV} {F C : List Nat} (h : LineOk r F C) (hF : ∀ c ∈ F, c < 128) (hC : ∀ c ∈ C, c < 128) : ∀ p ∈ w6L r.2, ∀ c ∈ p, c < 128 := by
  have ok := h.ok
  unfold bLine at ok
  simp only [Bool.and_eq_true, List.all_eq_true] at ok
  obtain ⟨⟨h1, h2⟩, h3⟩ := ok
  intro p hp
  simp only [w6L, List.mem_cons, List.not_mem_nil, or_false] at hp
  rcases hp with rfl | rfl | rfl | rfl | rfl | rfl
  · exact part_chr (h1 _ (by simp)) hF
  · exact part_chr (h1 _ (by simp)) hF
  · exact part_chr (h1 _ (by simp)) hF
  · exact part_chr (h1 _ (by simp)) hF
  · exact part_chr h2 hC
  · exact cut_chr h3 hF
def decL : DecidableEq (List Nat) := inferInstance
def decP {α : Type} (d : DecidableEq α) : DecidableEq (List Nat × α) := @instDecidableEqProd _ _ decL d
instance instW6 : DecidableEq W6 := decP (decP (decP (decP (decP decL))))
/-- what stands in lines, without where -/
def wsOf (ls : List LineV) : List W6 := ls.map (·.2)
/-- a line as data -/
def dLine (w : W6) : PyData := .tuple ((w6L w).map fun p => .str (S p))
theorem chr_ok {p : List Nat} (h : ∀ c ∈ p, c < 128) : PyData.strOk (S p) = true := by
  show (p.toArray.all fun c => decide (c < 0x110000)) = true
  rw [Array.all_eq_true_iff_forall_mem]
  intro c hc
  have := h c (by simpa using hc)
  exact decide_eq_true (by omega)
theorem lay_line {r : LineV} {F C : List Nat} (h : LineOk r F C) (hF : ∀ c ∈ F, c < 128) (hC : ∀ c ∈ C, c < 128) : Lay 1 (dLine r.2) := by
  refine .tup fun d hd => ?_
  obtain ⟨p, hp, rfl⟩ := List.mem_map.mp hd
  exact .str (chr_ok (h.chr hF hC p hp))
theorem eqv_line (a b : W6) : PyData.eqv (dLine a) (dLine b) = decide (a = b) := by
  unfold dLine
  rw [eqv_tupS]
  refine decide_eq_decide.mpr ⟨fun e => ?_, fun e => by rw [e]⟩
  obtain ⟨a1, a2, a3, a4, a5, a6⟩ := a
  obtain ⟨b1, b2, b3, b4, b5, b6⟩ := b
  simp only [w6L, List.cons.injEq, and_true] at e
  obtain ⟨rfl, rfl, rfl, rfl, rfl, rfl⟩ := e
  rfl
theorem dp_line {H : Hp} {r : LineV} (h : H r.1 = some r.tup) : Dp K H (.ref r.1) (dLine r.2) := .tup (SqT.of h) (.cons (.str _) (.cons (.str _) (.cons (.str _) (.cons (.str _) (.cons (.str _) (.cons (.str _) .nil))))))
theorem dp_lines {H : Hp} : ∀ {ls : List LineV}, (∀ r ∈ ls, H r.1 = some r.tup) → DpAll K H (ls.map fun r => V.ref r.1) (ls.map fun r => dLine r.2)
  | [], _ => .nil
  | r :: ls, h => .cons (dp_line (h r List.mem_cons_self)) (dp_lines fun x hx => h x (List.mem_cons_of_mem _ hx))
theorem deep_line (n : Nat) (w : W6) : Deep (n + 1) (dLine w) := by
  unfold dLine Deep
  refine ⟨by simp [w6L], fun d hd => ?_⟩
  obtain ⟨p, hp, rfl⟩ := List.mem_map.mp hd
  unfold Deep
  trivial
theorem deep_lines {n : Nat} {ls : List LineV} (h : ls.length ≤ 1000) : ∀ d ∈ ls.map fun r => dLine r.2, Deep (n + 1) d := fun d hd => by
  obtain ⟨r, _, rfl⟩ := List.mem_map.mp hd
  exact deep_line n r.2
abbrev s__law_some_line : Stmt := topS 60
theorem sc__law_some_line : FnScope ["_law_bag", "_law_faces", "_law_cutters", "_law_cut_here", "_law_parts_here", "_law_k"] ["_law_bag", "_law_faces", "_law_cutters"] (defScope s__law_some_line) := ⟨rfl, rfl, rfl, by decide +kernel, rfl, by decide +kernel, by decide +kernel⟩
/-- a drawn cut, or none -/
def CutR (u F : List Nat) : Prop := u = [] ∨ ∃ g x y, u = [g, x, y] ∧ (g = 124 ∨ g = 45) ∧ x ∈ F ∧ y ∈ F
/-- a drawn line -/
structure LineR (w : W6) (F C : List Nat) : Prop where
  a : PartR w.1 F
  b : PartR w.2.1 F
  c : PartR w.2.2.1 F
  d : PartR w.2.2.2.1 F
  e : PartR w.2.2.2.2.1 C
  u : CutR w.2.2.2.2.2 F
def w6T (w : W6) : HO := .tup ((w6L w).map fun p => V.str (S p))
def sp__law_some_line (K : PySem.W.Frag) : Sp := fun vs H Q _ => ∃ (b lb : Addr) (F C : List Nat), vs = [.ref b, .str (S F), .str (S C)] ∧ Bag H b lb ∧ 0 < F.length ∧ F.length ≤ 100 ∧ C.length ≤ 100 ∧
  ∀ H' p w, LineR w F C → But b H H' → Bag H' b lb → H p = none → H' p = some (w6T w) → Q (.ref p) H'
theorem ok__law_some_line {f : Addr} {fd : FuncData} (F : Fun K "_law_some_line" "_law_some_line" s__law_some_line f fd) (T : Z mg) (c__law_draw : Cal P w K mg base CX0 1 "_law_draw" s__law_draw ["_law_bag", "_law_many"] (sp__law_draw K))
    (c__law_part : Cal P w K mg base CX0 2 "_law_part" s__law_part ["_law_bag", "_law_letters_here"] (sp__law_part K)) (c__law_some_cut : Cal P w K mg base CX0 3 "_law_some_cut" s__law_some_cut ["_law_bag", "_law_faces"] (sp__law_some_cut K)) : FnOk P w K mg base CX0 4 f fd ["_law_bag", "_law_faces", "_law_cutters"] (sp__law_some_line K) := by
  refine F.ok sc__law_some_line (fun vs H Q E h => ?_) (fun cdv A outer s H vs Q E hr h => ?_)
  · obtain ⟨b, lb, F, C, rfl, _⟩ := h
    rfl
  obtain ⟨b, lb, F, C, rfl, B, hF0, hF, hC, q⟩ := h
  refine ⟨_, (pss_cons (ps_set (i := 3) sc__law_some_line.nd rfl (.inl rfl) (pe_as (pe_ifExp (pt_cmpR op_gt (pe_c c__law_draw hr (by decide) (by rfl) (pa_cons (pv 0) (pa_cons pe_int pa_nil))) pe_int (nomark _)) (pe_c c__law_some_cut hr (by decide) (by rfl) (pa_cons (pv 0) (pa_cons (pv 1) pa_nil))) pe_str)))
      (pss_cons (ps_setLc (i := 4) (own := [("_law_k", 5)]) (g := (gName 5)) (by rfl) sc__law_some_line.nd rfl rfl (sw_true rfl rfl rfl (by decide +kernel)) (pi_range1 (by rfl) T.z_range (pa_cons pe_int pa_nil)) (blkOk_by (N := ["_law_bag", "_law_faces", "_law_cutters", "_law_cut_here", "_law_parts_here", "_law_k"]) (sc := defScope s__law_some_line) (by decide +kernel)) (fun _ _ _ _ _ => (pg_name (i := 5) sc__law_some_line.nd rfl (.inl rfl))) (fun _ _ _ _ _ => pts_nil) (fun _ _ _ _ _ => (pe_as (pe_ifExp (pt_cmpR op_eq (pe_c c__law_draw hr (by decide) (by rfl) (pa_cons (pv 0) (pa_cons pe_int pa_nil))) pe_int (nomark _)) (pe_c c__law_part hr (by decide) (by rfl) (pa_cons (pv 0) (pa_cons (pv 1) pa_nil))) pe_str))))
      (pss_one (ps_ret (pe_tup (pa_cons (pe_ix ix_list (pv 4) pe_int (fun _ _ => rfl)) (pa_cons (pe_ix ix_list (pv 4) pe_int (fun _ _ => rfl)) (pa_cons (pe_ix ix_list (pv 4) pe_int (fun _ _ => rfl)) (pa_cons (pe_ix ix_list (pv 4) pe_int (fun _ _ => rfl)) (pa_cons (pe_c c__law_part hr (by decide) (by rfl) (pa_cons (pv 0) (pa_cons (pv 2) pa_nil))) (pa_cons (pv 3) pa_nil))))))))))), ?_⟩
  refine ⟨fun v H1 => ∃ u, v = .str (S u) ∧ CutR u F ∧ But b H H1 ∧ Bag H1 b lb, ?_, ?_⟩
  · refine ⟨_, rfl, b, lb, _, rfl, B, by decide, by decide, fun H1 z z0 z1 b1 B1 => ⟨_, _, rfl, rfl, _, rfl, ite_dec (fun _ => ?_) (fun _ => ⟨[], rfl, .inl rfl, b1, B1⟩)⟩⟩
    exact ⟨_, rfl, _, rfl, b, lb, F, rfl, B1, hF0, hF, fun H2 g x y hg hx hy b2 B2 => ⟨[g, x, y], rfl, .inr ⟨g, x, y, rfl, hg, hx, hy⟩, b1.trans b2, B2⟩⟩
  rintro _ H1 ⟨u, rfl, hu, b1, B1⟩
  refine ⟨_, rfl, by decide, by decide, fun D hD => ?_⟩
  have nDb : D ≠ b := B1.ne hD
  have nDl : D ≠ lb := B1.ne2 hD
  have nD : ∀ a o, H1 a = some o → a ≠ D := fun a o e => ne_of_none e hD
  refine lc_range (n := 4) (fun i H' => ∃ rs : List (List Nat), rs.length = i ∧ (∀ r ∈ rs, PartR r F) ∧ H' D = some (.lst (rs.map fun r => V.str (S r))) ∧ Bag H' b lb ∧ But b H1 H') ⟨[], rfl, (by simp), upd_same, B1.same (same_upd hD), (same_upd hD).but⟩ ?_ ?_
  · rintro i H' hi ⟨rs, hl, hr', hDD, B', ho⟩
    refine ⟨rfl, ?_⟩
    refine ⟨fun v H2 => ∃ r, v = .str (S r) ∧ PartR r F ∧ But b H' H2 ∧ Bag H2 b lb, ?_, ?_⟩
    · refine ⟨_, rfl, b, lb, _, rfl, B', by decide, by decide, fun H2 z z0 z1 b2 B2 => ⟨rfl, _, rfl, ite_dec (fun _ => ?_) (fun _ => ⟨[46], rfl, .inl rfl, b2, B2⟩)⟩⟩
      exact ⟨_, rfl, _, rfl, b, lb, F, rfl, B2, hF, fun H3 r hr3 b3 B3 => ⟨r, rfl, hr3, b2.trans b3, B3⟩⟩
    rintro _ H2 ⟨r, rfl, hr3, b2, B2⟩
    refine ⟨_, b2 _ _ nDb hDD, by rw [List.length_map]; exact sz1 (by omega), rs ++ [r], by rw [List.length_append, hl]; rfl, ?_, ?_, B2.upd nDb nDl, fun a o n e => ?_⟩
    · intro x hx
      rcases List.mem_append.mp hx with e | e
      · exact hr' x e
      · rw [List.mem_singleton.mp e]
        exact hr3
    · rw [upd_same, List.map_append]
      rfl
    · rw [upd_ne (nD a o e)]
      exact b2 _ _ n (ho a o n e)
  · rintro H' ⟨rs, hl, hr', hDD, B', ho⟩
    obtain ⟨r1, r2, r3, r4, rfl⟩ : ∃ a b c d, rs = [a, b, c, d] := by
      match rs, hl with
      | [a, b, c, d], _ => exact ⟨a, b, c, d, rfl⟩
    have hS := SqL.of (K := K) hDD
    refine ⟨_, rfl, D, _, _, _, rfl, rfl, hS, rfl, _, rfl, D, _, _, _, rfl, rfl, hS, rfl, _, rfl, D, _, _, _, rfl, rfl, hS, rfl, _, rfl, D, _, _, _, rfl, rfl, hS, rfl, _, rfl, _, rfl, b, lb, C, rfl, B', hC, fun H2 r5 hr5 b2 B2 => ?_⟩
    refine ⟨_, rfl, (show 6 ≤ sizeLine by decide), fun p np => ?_⟩
    have s2 := same_upd (o := w6T (r1, r2, r3, r4, r5, u)) np
    exact q _ p (r1, r2, r3, r4, r5, u) ⟨hr' _ (by simp), hr' _ (by simp), hr' _ (by simp), hr' _ (by simp), hr5, hu⟩ ((b1.trans (ho.trans b2)).trans s2.but) (B2.same s2) (by
      cases e : H p with
      | none => rfl
      | some o =>
        have n : p ≠ b := B2.ne np
        have := b2 _ _ n (ho _ _ n (b1 _ _ n e))
        rw [np] at this
        cases this) upd_same
abbrev s__law_some_book : Stmt := topS 61
theorem sc__law_some_book : FnScope ["_law_bag", "_law_sizes", "_law_faces", "_law_cutters", "_law_lines", "_law_k"] ["_law_bag", "_law_sizes"] (defScope s__law_some_book) := ⟨rfl, rfl, rfl, by decide +kernel, rfl, by decide +kernel, by decide +kernel⟩
/-- a told book: faces, cutters, lines; the list of them is at p, that of the lines at lp -/
structure SpecAt (H : Hp) (b p lp : Addr) (F C : List Nat) (ls : List LineV) : Prop where
  top : H p = some (.lst [.str (S F), .str (S C), .ref lp])
  rows : H lp = some (.lst (ls.map fun r => V.ref r.1))
  at_ : ∀ r ∈ ls, H r.1 = some r.tup
  pb : p ≠ b
  lb : lp ≠ b
  rb : ∀ r ∈ ls, r.1 ≠ b
theorem SpecAt.drawn {H H' : Hp} {b p lp : Addr} {F C : List Nat} {ls : List LineV} (s : SpecAt H b p lp F C ls) (q : But b H H') : SpecAt H' b p lp F C ls :=
  ⟨q _ _ s.pb s.top, q _ _ s.lb s.rows, fun r hr => q _ _ (s.rb r hr) (s.at_ r hr), s.pb, s.lb, s.rb⟩
theorem SpecAt.same {H H' : Hp} {b p lp : Addr} {F C : List Nat} {ls : List LineV} (s : SpecAt H b p lp F C ls) (q : Same H H') : SpecAt H' b p lp F C ls := s.drawn q.but
structure SpecOk (F C : List Nat) (ls : List LineV) : Prop where
  f : List.Sublist F lower
  c : List.Sublist C upper
  f0 : 0 < F.length
  c0 : 0 < C.length
  f6 : F.length ≤ 6
  c4 : C.length ≤ 4
  ls : ∀ r ∈ ls, LineR r.2 F C
theorem none_but {b p : Addr} {H H' : Hp} (n : p ≠ b) (q : But b H H') (e : H' p = none) : H p = none := by
  cases z : H p with
  | none => rfl
  | some o =>
    rw [q _ _ n z] at e
    cases e
def sp__law_some_book (K : PySem.W.Frag) : Sp := fun vs H Q _ => ∃ (b lb a : Addr) (x y z : Nat), vs = [.ref b, .ref a] ∧ Bag H b lb ∧ a ≠ b ∧ SqL K H a [.int x, .int y, .int z] ∧ 0 < x ∧ x ≤ 6 ∧ 0 < y ∧ y ≤ 4 ∧ z ≤ 1000 ∧
  ∀ H' p lp F C ls, SpecOk F C ls → F.length ≤ x → C.length ≤ y → ls.length ≤ z → But b H H' → Bag H' b lb → H p = none → H lp = none → SpecAt H' b p lp F C ls → Q (.ref p) H'
theorem ok__law_some_book {f : Addr} {fd : FuncData} (F : Fun K "_law_some_book" "_law_some_book" s__law_some_book f fd) (T : Z mg) (c__law_draw : Cal P w K mg base CX0 1 "_law_draw" s__law_draw ["_law_bag", "_law_many"] (sp__law_draw K))
    (c__law_part : Cal P w K mg base CX0 2 "_law_part" s__law_part ["_law_bag", "_law_letters_here"] (sp__law_part K)) (c__law_some_cut : Cal P w K mg base CX0 3 "_law_some_cut" s__law_some_cut ["_law_bag", "_law_faces"] (sp__law_some_cut K))
    (c__law_some_faces : Cal P w K mg base CX0 3 "_law_some_faces" s__law_some_faces ["_law_bag", "_law_most"] (sp__law_some_faces K)) (c__law_some_cutters : Cal P w K mg base CX0 3 "_law_some_cutters" s__law_some_cutters ["_law_bag", "_law_most"] (sp__law_some_cutters K))
    (c__law_some_line : Cal P w K mg base CX0 4 "_law_some_line" s__law_some_line ["_law_bag", "_law_faces", "_law_cutters"] (sp__law_some_line K)) : FnOk P w K mg base CX0 5 f fd ["_law_bag", "_law_sizes"] (sp__law_some_book K) := by
  refine F.ok sc__law_some_book (fun vs H Q E h => ?_) (fun cdv A outer s H vs Q E hr h => ?_)
  · obtain ⟨b, lb, a, x, y, z, rfl, _⟩ := h
    rfl
  obtain ⟨b, lb, a, x, y, z, rfl, B, nab, hS, x0, x6, y0, y4, z8, q⟩ := h
  refine ⟨_, (pss_cons (ps_asg (pe_tup (pa_cons (pe_c c__law_some_faces hr (by decide) (by rfl) (pa_cons (pv 0) (pa_cons (pe_ix ix_list (pv 1) pe_int (fun _ _ => rfl)) pa_nil))) (pa_cons (pe_c c__law_some_cutters hr (by decide) (by rfl) (pa_cons (pv 0) (pa_cons (pe_ix ix_list (pv 1) pe_int (fun _ _ => rfl)) pa_nil))) pa_nil))) (pg_tup rfl (pgs_cons (pg_name (i := 2) sc__law_some_book.nd rfl (.inr rfl)) (pgs_cons (pg_name (i := 3) sc__law_some_book.nd rfl (.inr rfl)) pgs_nil))))
      (pss_cons (ps_setLc (i := 4) (own := [("_law_k", 5)]) (g := (gName 5)) (by rfl) sc__law_some_book.nd rfl rfl (sw_true rfl rfl rfl (by decide +kernel)) (pi_range1 (by rfl) T.z_range (pa_cons (pe_c c__law_draw hr (by decide) (by rfl) (pa_cons (pv 0) (pa_cons (pe_op op_add (pe_ix ix_list (pv 1) pe_int (fun _ _ => rfl)) pe_int) pa_nil))) pa_nil)) (blkOk_by (N := ["_law_bag", "_law_sizes", "_law_faces", "_law_cutters", "_law_lines", "_law_k"]) (sc := defScope s__law_some_book) (by decide +kernel)) (fun _ _ _ _ _ => (pg_name (i := 5) sc__law_some_book.nd rfl (.inl rfl))) (fun _ _ _ _ _ => pts_nil) (fun _ _ _ _ _ => (pe_c c__law_some_line hr (by decide) (by rfl) (pa_cons (pv 0) (pa_cons (pv 2) (pa_cons (pv 3) pa_nil))))))
      (pss_cons (ps_as (ps_if (PW.pt (pw_and (pt_cmpR op_gt (pe_c c__law_draw hr (by decide) (by rfl) (pa_cons (pv 0) (pa_cons pe_int pa_nil))) pe_int (nomark _)) (pw_and1 (pt_cmpR op_lt (pe_callB call_len_seq (by rfl) T.z_len (by decide +kernel) (pa_cons (pv 4) pa_nil)) (pe_ix ix_list (pv 1) pe_int (fun _ _ => rfl)) (nomark _))))) (pss_one (ps_expr (pe_bm PySem.F.plainAttrs_list PySem.F.slot_list_append PySem.F.type_list_append mt_append (pv 4) (pa_cons (pe_tup (pa_cons pe_str (pa_cons pe_str (pa_cons pe_str (pa_cons pe_str (pa_cons (pe_c c__law_part hr (by decide) (by rfl) (pa_cons (pv 0) (pa_cons (pv 3) pa_nil))) (pa_cons (pe_c c__law_some_cut hr (by decide) (by rfl) (pa_cons (pv 0) (pa_cons (pv 2) pa_nil))) pa_nil))))))) pa_nil)))) pss_nil))
      (pss_one (ps_ret (pe_lst (pa_cons (pv 2) (pa_cons (pv 3) (pa_cons (pv 4) pa_nil))))))))), ?_⟩
  -- faces and cutters
  refine ⟨_, rfl, _, rfl, a, _, _, _, rfl, rfl, hS, rfl, b, lb, x, rfl, B, x0, by omega, fun H1 fs hfs hf0 hf1 b1 B1 => ?_⟩
  have hS1 := b1.seq nab hS
  refine ⟨_, rfl, _, rfl, a, _, _, _, rfl, rfl, hS1, rfl, b, lb, y, rfl, B1, y0, by omega, fun H2 cs hcs hc0 hc1 b2 B2 => ?_⟩
  refine ⟨(show 2 ≤ sizeLine by decide), fun pt npt => ⟨pt, _, rfl, SqT.of upd_same, rfl, _, _, rfl, _, _, rfl, rfl, ?_⟩⟩
  have b3 : But b H _ := (b1.trans b2).trans (same_upd (o := HO.tup [V.str (S fs), V.str (S cs)]) npt).but
  have B3 := B2.same (same_upd (o := HO.tup [V.str (S fs), V.str (S cs)]) npt)
  generalize upd H2 pt (HO.tup [V.str (S fs), V.str (S cs)]) = H3 at b3 B3
  clear b1 b2 B1 B2 npt hS1
  have hS3 := b3.seq nab hS
  -- the lines
  refine ⟨_, rfl, _, rfl, a, _, _, _, rfl, rfl, hS3, rfl, _, _, rfl, rfl, b, lb, _, rfl, B3, by omega, by omega, fun H4 n n0 n1 b4 B4 => ⟨_, rfl, by omega, by omega, fun D hD => ?_⟩⟩
  have nDb : D ≠ b := B4.ne hD
  have nDl : D ≠ lb := B4.ne2 hD
  have nD : ∀ a o, H4 a = some o → a ≠ D := fun a o e => ne_of_none e hD
  have hD0 : H D = none := none_but nDb (b3.trans b4) hD
  refine lc_range (n := n.toNat) (fun i H' => ∃ ls : List LineV, ls.length = i ∧ (∀ r ∈ ls, LineR r.2 fs cs ∧ H' r.1 = some r.tup ∧ r.1 ≠ b ∧ r.1 ≠ D) ∧ H' D = some (.lst (ls.map fun r => V.ref r.1)) ∧ Bag H' b lb ∧ But b H4 H') ⟨[], rfl, (by simp), upd_same, B4.same (same_upd hD), (same_upd hD).but⟩ ?_ ?_
  · rintro i H' hi ⟨ls, hl, hls, hDD, B', ho⟩
    refine ⟨rfl, ?_⟩
    refine ⟨_, rfl, _, rfl, _, rfl, b, lb, fs, cs, rfl, B', hf0, by omega, by omega, fun H5 p w hw b5 B5 np h5 => ?_⟩
    have hD5 := b5 _ _ nDb hDD
    have npD : p ≠ D := fun e => by
      rw [e, hDD] at np
      cases np
    have npb : p ≠ b := B'.ne np
    refine ⟨_, hD5, by rw [List.length_map]; exact sz1 (by omega), ls ++ [(p, w)], by rw [List.length_append, hl]; rfl, ?_, ?_, B5.upd nDb nDl, fun a o n e => ?_⟩
    · intro r hr5
      rcases List.mem_append.mp hr5 with e | e
      · obtain ⟨h1, h2, h3, h4⟩ := hls r e
        exact ⟨h1, by rw [upd_ne h4]; exact b5 _ _ h3 h2, h3, h4⟩
      · rw [List.mem_singleton.mp e]
        exact ⟨hw, by rw [upd_ne npD]; exact h5, npb, npD⟩
    · rw [upd_same, List.map_append]
      rfl
    · rw [upd_ne (nD a o e)]
      exact b5 _ _ n (ho a o n e)
  rintro H5 ⟨ls, hl, hls, hDD, B5, b5⟩
  have hS5 := (b4.trans b5).seq nab hS3
  -- one more
  refine ⟨fun σ H6 => ∃ ls' : List LineV, σ = [some (.ref b), some (.ref a), some (.str (S fs)), some (.str (S cs)), some (.ref D), none] ∧ ls'.length ≤ z ∧ (∀ r ∈ ls', LineR r.2 fs cs ∧ H6 r.1 = some r.tup ∧ r.1 ≠ b ∧ r.1 ≠ D) ∧ H6 D = some (.lst (ls'.map fun r => V.ref r.1)) ∧ Bag H6 b lb ∧ But b H H6, ?_, ?_⟩
  · have bH5 := b3.trans (b4.trans b5)
    refine ⟨_, rfl, b, lb, _, rfl, B5, by decide, by decide, fun H6 k k0 k1 b6 B6 => ?_⟩
    have hls6 : ∀ r ∈ ls, LineR r.2 fs cs ∧ H6 r.1 = some r.tup ∧ r.1 ≠ b ∧ r.1 ≠ D := fun r hr6 => let ⟨h1, h2, h3, h4⟩ := hls r hr6; ⟨h1, b6 _ _ h3 h2, h3, h4⟩
    have hD6 := b6 _ _ nDb hDD
    have hlz : ls.length ≤ z := by omega
    refine ⟨_, _, rfl, rfl, _, rfl, ite_dec (fun _ => ?_) (fun _ => iteF ⟨ls, rfl, hlz, hls6, hD6, B6, bH5.trans b6⟩)⟩
    refine ⟨_, rfl, D, _, rfl, .inl (SqL.of hD6), _, rfl, a, _, _, _, rfl, rfl, b6.seq nab hS5, rfl, _, _, rfl, rfl, _, rfl, ite_dec (fun hlt => ?_) (fun _ => ⟨ls, rfl, hlz, hls6, hD6, B6, bH5.trans b6⟩)⟩
    rw [List.length_map] at hlt
    refine ⟨_, rfl, .inl ⟨rfl, _, SqL.of hD6⟩, _, rfl, _, rfl, b, lb, cs, rfl, B6, by omega, fun H7 r5 hr5 b7 B7 => ?_⟩
    refine ⟨_, rfl, _, rfl, b, lb, fs, rfl, B7, hf0, by omega, fun H8 g gx gy hg hgx hgy b8 B8 => ?_⟩
    refine ⟨(show 6 ≤ sizeLine by decide), fun p np => ?_⟩
    have s9 := same_upd (o := w6T ([46], [46], [46], [46], r5, [g, gx, gy])) np
    have hD8 := (b7.trans b8) _ _ nDb hD6
    have npD : p ≠ D := fun e => by
      rw [e, hD8] at np
      cases np
    have npb : p ≠ b := B8.ne np
    refine ⟨D, _, _, rfl, rfl, s9 _ _ hD8, by rw [List.length_map]; exact sz1 (by omega), ls ++ [(p, [46], [46], [46], [46], r5, [g, gx, gy])], rfl, by rw [List.length_append, List.length_singleton]; omega, ?_, ?_, (B8.same s9).upd nDb nDl, fun a' o n e => ?_⟩
    · intro r hr9
      rcases List.mem_append.mp hr9 with e | e
      · obtain ⟨h1, h2, h3, h4⟩ := hls6 r e
        exact ⟨h1, by rw [upd_ne h4]; exact s9 _ _ (b8 _ _ h3 (b7 _ _ h3 h2)), h3, h4⟩
      · rw [List.mem_singleton.mp e]
        exact ⟨⟨.inl rfl, .inl rfl, .inl rfl, .inl rfl, hr5, .inr ⟨g, gx, gy, rfl, hg, hgx, hgy⟩⟩, by rw [upd_ne npD]; exact upd_same, npb, npD⟩
    · rw [upd_same, List.map_append]
      rfl
    · have naD : a' ≠ D := fun e' => by
        rw [e', hD0] at e
        cases e
      rw [upd_ne naD]
      exact s9 _ _ (b8 _ _ n (b7 _ _ n ((bH5.trans b6) _ _ n e)))
  rintro σ H6 ⟨ls', rfl, hl', hls', hD6, B6, b6⟩
  refine ⟨_, rfl, _, rfl, _, rfl, (show 3 ≤ sizeLine by decide), fun p np => ?_⟩
  have s7 := same_upd (o := HO.lst [V.str (S fs), V.str (S cs), V.ref D]) np
  have npb : p ≠ b := B6.ne np
  exact q _ p D fs cs ls' ⟨hfs, hcs, hf0, hc0, by omega, by omega, fun r hr7 => (hls' r hr7).1⟩ (by omega) (by omega) hl' (b6.trans s7.but) (B6.same s7) (none_but npb b6 np) hD0
    ⟨upd_same, s7 _ _ hD6, fun r hr7 => s7 _ _ (hls' r hr7).2.1, npb, nDb, fun r hr7 => (hls' r hr7).2.2.1⟩
/-! what is drawn is right -/
theorem lower_asc : lower.Pairwise (· < ·) := by decide +kernel
theorem upper_asc : upper.Pairwise (· < ·) := by decide +kernel
theorem lower_range : ∀ c ∈ lower, 97 ≤ c ∧ c ≤ 122 := by decide +kernel
theorem upper_range : ∀ c ∈ upper, 65 ≤ c ∧ c ≤ 90 := by decide +kernel
theorem choice_sub {r L : List Nat} {m : Int} (hL : L.Pairwise (· < ·)) (s : List.Sublist r L) (h0 : 0 < r.length) (hm : (r.length : Int) ≤ m) : bChoice (.str (S r)) L m = true := by
  show (true && (decide ((1 : Int) ≤ (r.length : Int)) && decide ((r.length : Int) ≤ m)) && (r.all fun c => decide (c ∈ L)) && ascB r) = true
  rw [decide_eq_true (by omega), decide_eq_true hm, mem_all (fun c hc => s.subset hc), asc_sorted (hL.sublist s)]
  rfl
theorem PartR.ok {r L : List Nat} (hL : L.Pairwise (· < ·)) (h : PartR r L) : bPart (.str (S r)) L = true := by
  unfold bPart
  rcases h with rfl | ⟨s, h0⟩
  · rfl
  · rw [choice_sub hL s h0 (by have := s.length_le; omega), Bool.or_true]
theorem PartR.len {r L : List Nat} {m : Nat} (h : PartR r L) (hm : L.length ≤ m) (h1 : 1 ≤ m) : r.length ≤ m := by
  rcases h with rfl | ⟨s, h0⟩
  · exact h1
  · exact Nat.le_trans s.length_le hm
theorem PartR.no {r L : List Nat} {x : Nat} (h : PartR r L) (hx : x ∉ L) (h1 : x ≠ 46) : x ∉ r := by
  rcases h with rfl | ⟨s, h0⟩
  · simpa using h1
  · exact fun e => hx (s.subset e)
theorem CutR.ok {u F : List Nat} (h : CutR u F) : (decide (V.str (S u) = V.str "") || bCut (.str (S u)) (S F)) = true := by
  rcases h with rfl | ⟨g, x, y, rfl, hg, hx, hy⟩
  · have e : decide (V.str (S []) = V.str "") = true := decide_eq_true rfl
    rw [e]
    rfl
  · rw [show bCut (.str (S [g, x, y])) (S F) = true from bCut_yes hg hx hy, Bool.or_true]
theorem CutR.len {u F : List Nat} (h : CutR u F) : u.length ≤ 3 := by
  rcases h with rfl | ⟨g, x, y, rfl, _⟩
  · exact Nat.zero_le _
  · exact Nat.le_refl _
theorem CutR.no {u F : List Nat} {z : Nat} (h : CutR u F) (hz : z ∉ F) (h1 : z ≠ 124) (h2 : z ≠ 45) : z ∉ u := by
  rcases h with rfl | ⟨g, x, y, rfl, hg, hx, hy⟩
  · simp
  · intro e
    simp only [List.mem_cons, List.not_mem_nil, or_false] at e
    rcases e with rfl | rfl | rfl
    · exact hg.elim h1 h2
    · exact hz hx
    · exact hz hy
theorem LineR.line {w : W6} {F C : List Nat} (h : LineR w F C) (hF : F.Pairwise (· < ·)) (hC : C.Pairwise (· < ·)) : bLine w.1 w.2.1 w.2.2.1 w.2.2.2.1 w.2.2.2.2.1 w.2.2.2.2.2 F C = true := by
  unfold bLine
  rw [h.u.ok, h.e.ok hC]
  show (bPart (.str (S w.1)) F && (bPart (.str (S w.2.1)) F && (bPart (.str (S w.2.2.1)) F && (bPart (.str (S w.2.2.2.1)) F && true))) && true && true) = true
  rw [h.a.ok hF, h.b.ok hF, h.c.ok hF, h.d.ok hF]
  rfl
theorem w6_all {P : List Nat → Prop} {w : W6} (a : P w.1) (b : P w.2.1) (c : P w.2.2.1) (d : P w.2.2.2.1) (e : P w.2.2.2.2.1) (u : P w.2.2.2.2.2) : ∀ p ∈ w6L w, P p := by
  intro p hp
  simp only [w6L, List.mem_cons, List.not_mem_nil, or_false] at hp
  rcases hp with rfl | rfl | rfl | rfl | rfl | rfl
  · exact a
  · exact b
  · exact c
  · exact d
  · exact e
  · exact u
theorem LineR.len {w : W6} {F C : List Nat} (h : LineR w F C) (lf : F.length ≤ 100) (lc : C.length ≤ 100) : ∀ p ∈ w6L w, p.length ≤ 100 :=
  w6_all (P := fun p => p.length ≤ 100) (h.a.len lf (by decide)) (h.b.len lf (by decide)) (h.c.len lf (by decide)) (h.d.len lf (by decide)) (h.e.len lc (by decide)) (Nat.le_trans h.u.len (by decide))
theorem LineR.no {w : W6} {F C : List Nat} {x : Nat} (h : LineR w F C) (hf : x ∉ F) (hc : x ∉ C) (h1 : x ≠ 46) (h2 : x ≠ 124) (h3 : x ≠ 45) : ∀ p ∈ w6L w, x ∉ p :=
  w6_all (P := fun p => x ∉ p) (h.a.no hf h1) (h.b.no hf h1) (h.c.no hf h1) (h.d.no hf h1) (h.e.no hc h1) (h.u.no hf h2 h3)
theorem LineR.w6 {w : W6} {F C : List Nat} (h : LineR w F C) (hF : List.Sublist F lower) (hC : List.Sublist C upper) (lf : F.length ≤ 100) (lc : C.length ≤ 100) : W6Ok w F C := by
  have f1 : ∀ x, x < 65 → x ∉ F := fun x hx e => by
    have := (lower_range x (hF.subset e)).1
    omega
  have c1 : ∀ x, x < 65 → x ∉ C := fun x hx e => by
    have := (upper_range x (hC.subset e)).1
    omega
  refine ⟨fun p hp => Nat.le_trans (h.len lf lc p hp) (by decide), fun p hp => ⟨h.no (f1 32 (by decide)) (c1 32 (by decide)) (by decide) (by decide) (by decide) p hp, h.no (f1 10 (by decide)) (c1 10 (by decide)) (by decide) (by decide) (by decide) p hp⟩, fun e => ?_, h.line (lower_asc.sublist hF) (upper_asc.sublist hC)⟩
  have := h.u.len
  rw [e] at this
  exact absurd this (by decide)
theorem SpecOk.w6 {F C : List Nat} {ls : List LineV} (s : SpecOk F C ls) : ∀ r ∈ ls, W6Ok r.2 F C := fun r hr => (s.ls r hr).w6 s.f s.c (by have := s.f6; omega) (by have := s.c4; omega)
theorem SpecOk.bf {F C : List Nat} {ls : List LineV} (s : SpecOk F C ls) : bFaces (.str (S F)) = true := choice_sub lower_asc s.f s.f0 (by have := s.f6; omega)
theorem SpecOk.bc {F C : List Nat} {ls : List LineV} (s : SpecOk F C ls) : bCutters (.str (S C)) = true := choice_sub upper_asc s.c s.c0 (by have := s.c4; omega)
theorem SpecOk.nf {F C : List Nat} {ls : List LineV} (s : SpecOk F C ls) {x : Nat} (hx : x < 65) : x ∉ F := fun e => by
  have := (lower_range x (s.f.subset e)).1
  omega
theorem SpecOk.nc {F C : List Nat} {ls : List LineV} (s : SpecOk F C ls) {x : Nat} (hx : x < 65) : x ∉ C := fun e => by
  have := (upper_range x (s.c.subset e)).1
  omega
theorem SpecOk.chr {F C : List Nat} {ls : List LineV} (s : SpecOk F C ls) : (∀ c ∈ F, c < 128) ∧ ∀ c ∈ C, c < 128 := ⟨fun c hc => by have := (lower_range c (s.f.subset hc)).2; omega, fun c hc => by have := (upper_range c (s.c.subset hc)).2; omega⟩
theorem BookAt.drawn {CB : Addr} {H H' : Hp} {b l x : Addr} {F C : List Nat} {ls : List LineV} (k : BookAt K CB H x F C ls) (B : Bag H b l) (q : But b H H') : BookAt K CB H' x F C ls := by
  obtain ⟨xs, hb⟩ := B.la
  have ne : ∀ (a : Addr) (o : HO), H a = some o → (∀ ys, o ≠ .lst ys) → a ≠ b := fun a o e n z => by
    rw [z, hb] at e
    exact n xs (Option.some.inj e).symm
  obtain ⟨dx, tl, h1, h2⟩ := k.at_
  exact ⟨⟨dx, tl, q _ _ (ne _ _ h1 fun _ z => by cases z) h1, q _ _ (ne _ _ h2 fun _ z => by cases z) h2⟩, ⟨fun r hr => q _ _ (ne _ _ (k.lines.at_ r hr) fun _ z => by cases z) (k.lines.at_ r hr), k.lines.ok, k.lines.few⟩, k.lens, k.chr⟩
abbrev s__law_line_text : Stmt := topS 62
theorem sc__law_line_text : FnScope ["_law_line"] ["_law_line"] (defScope s__law_line_text) := ⟨rfl, rfl, rfl, by decide +kernel, rfl, by decide +kernel, by decide +kernel⟩
def sp__law_line_text (K : PySem.W.Frag) : Sp := fun vs H Q _ => ∃ (t : Addr) (w : W6), vs = [.ref t] ∧ SqT K H t ((w6L w).map fun p => V.str (S p)) ∧ (∀ p ∈ w6L w, p.length ≤ 1000) ∧ ∀ H', Same H H' → Q (.str (rowW w)) H'
theorem ok__law_line_text {f : Addr} {fd : FuncData} (F : Fun K "_law_line_text" "_law_line_text" s__law_line_text f fd) (T : Z mg) : FnOk P w K mg base CX0 1 f fd ["_law_line"] (sp__law_line_text K) := by
  refine F.ok sc__law_line_text (fun vs H Q E h => ?_) (fun cdv A outer s H vs Q E hr h => ?_)
  · obtain ⟨t, w, rfl, _⟩ := h
    rfl
  obtain ⟨t, ⟨a, b, c, d, e, u⟩, rfl, hS, hl, q⟩ := h
  refine ⟨_, (pss_one (ps_ret (pe_join pe_str (pe_op op_cat (pe_callTy call_list_of (by rfl) T.z_list (by decide +kernel) (pa_cons (pe_slice sl_tup (pv 0) po_none (po_some pe_int)) pa_nil)) (pe_lst (pa_cons (pe_as (pe_ifExp (pt_cmpR op_ne (pe_ix ix_tup (pv 0) pe_int (fun _ _ => rfl)) pe_str (nomark _)) (pe_ix ix_tup (pv 0) pe_int (fun _ _ => rfl)) pe_str)) pa_nil)))))), ?_⟩
  refine ⟨⟨_, rfl⟩, _, rfl, 5, rfl, t, _, rfl, hS, (show ¬ (HT.sIx 6 0 none = 0 ∧ HT.sIx 6 6 (some 5) = 6) by decide), fun p np => ?_⟩
  have s1 := same_upd (o := HO.tup [V.str (S a), V.str (S b), V.str (S c), V.str (S d), V.str (S e)]) np
  refine ⟨p, _, rfl, .inr (SqT.of upd_same), fun l nl => ?_⟩
  have s2 := same_upd (o := HO.lst [V.str (S a), V.str (S b), V.str (S c), V.str (S d), V.str (S e)]) nl
  have hS2 := (s1.trans s2).tup hS
  refine ⟨fun v H' => v = .str (S (wordU u)) ∧ H' = (upd (upd H p (HO.tup [V.str (S a), V.str (S b), V.str (S c), V.str (S d), V.str (S e)])) l (HO.lst [V.str (S a), V.str (S b), V.str (S c), V.str (S d), V.str (S e)])), ?_, ?_⟩
  · refine ⟨_, rfl, t, _, _, _, rfl, rfl, hS2, rfl, rfl, _, rfl, ite_ndec (fun ne => ?_) (fun eq => ?_)⟩
    · refine ⟨_, rfl, t, _, _, _, rfl, rfl, hS2, rfl, ?_, rfl⟩
      unfold wordU
      rw [if_neg fun z => ne (by rw [z]; rfl)]
    · refine ⟨?_, rfl⟩
      have e0 : u = [] := by
        have z1 : S u = ("" : Str) := V.str.inj eq
        have z2 := congrArg (fun z : Str => z.cps.toList) z1
        exact z2
      subst e0
      rfl
  rintro _ _ ⟨rfl, rfl⟩
  refine ⟨(show 1 ≤ sizeLine by decide), fun l2 nl2 => ?_⟩
  have s3 := same_upd (o := HO.lst [V.str (S (wordU u))]) nl2
  refine ⟨l, l2, _, _, rfl, rfl, s3 _ _ upd_same, upd_same, (show 6 ≤ sizeLine by decide), fun r nr => ?_⟩
  refine ⟨" ", r, [a, b, c, d, e, wordU u].map S, rfl, rfl, .inl (SqL.of upd_same), ?_, q _ (((s1.trans s2).trans s3).trans (same_upd nr))⟩
  have hu : (wordU u).length ≤ 1000 := by
    unfold wordU
    split
    · decide
    · exact hl u (by simp [w6L])
  have ha := hl a (by simp [w6L])
  have hb := hl b (by simp [w6L])
  have hc := hl c (by simp [w6L])
  have hd := hl d (by simp [w6L])
  have he := hl e (by simp [w6L])
  simp only [List.map_cons, List.map_nil, List.sum_cons, List.sum_nil, List.length_cons, List.length_nil, S_len]
  show _ + 6 * 1 ≤ 16777216
  omega
abbrev s__law_book_text : Stmt := topS 63
theorem sc__law_book_text : FnScope ["_law_spec", "_law_line"] ["_law_spec"] (defScope s__law_book_text) := ⟨rfl, rfl, rfl, by decide +kernel, rfl, by decide +kernel, by decide +kernel⟩
def sp__law_book_text (K : PySem.W.Frag) : Sp := fun vs H Q _ => ∃ (p lp b : Addr) (F C : List Nat) (ls : List LineV), vs = [.ref p] ∧ SpecAt H b p lp F C ls ∧ F.length ≤ 100 ∧ C.length ≤ 100 ∧ ls.length ≤ 100 ∧ (∀ r ∈ ls, ∀ x ∈ w6L r.2, x.length ≤ 1000) ∧
  ∀ H', Same H H' → Q (.str (bookT F C (ls.map (·.2)))) H'
theorem headT_eq (F C : List Nat) : S F ++ (" " : Str) ++ S C = headT F C := by
  unfold headT
  rw [show (" " : Str) = S [32] from rfl, SX.join_S, S_cat, S_cat]
  show S (F ++ [32] ++ C) = S (F ++ ([32] ++ C))
  rw [List.append_assoc]
theorem rowW_len {w : W6} (h : ∀ p ∈ w6L w, p.length ≤ 1000) : (rowW w).length ≤ 7000 := rowT_len h
theorem sum_le {m : Nat} : ∀ {ns : List Nat}, (∀ n ∈ ns, n ≤ m) → ns.sum ≤ ns.length * m
  | [], _ => Nat.zero_le _
  | n :: ns, h => by
    have h1 := h n List.mem_cons_self
    have h2 := sum_le (ns := ns) fun x hx => h x (List.mem_cons_of_mem _ hx)
    rw [List.sum_cons, List.length_cons, Nat.add_mul, Nat.one_mul]
    omega
theorem ok__law_book_text {f : Addr} {fd : FuncData} (F : Fun K "_law_book_text" "_law_book_text" s__law_book_text f fd) (T : Z mg) (c__law_line_text : Cal P w K mg base CX0 1 "_law_line_text" s__law_line_text ["_law_line"] (sp__law_line_text K)) : FnOk P w K mg base CX0 2 f fd ["_law_spec"] (sp__law_book_text K) := by
  refine F.ok sc__law_book_text (fun vs H Q E h => ?_) (fun cdv A outer s H vs Q E hr h => ?_)
  · obtain ⟨p, lp, b, F, C, ls, rfl, _⟩ := h
    rfl
  obtain ⟨p, lp, b, F, C, ls, rfl, hs, lF, lC, lls, lw, q⟩ := h
  refine ⟨_, (pss_one (ps_ret (pe_join pe_str (pe_op op_cat (pe_lst (pa_cons (pe_op op_add_str (pe_op op_add_str (pe_ix ix_list (pv 0) pe_int (fun _ _ => rfl)) pe_str) (pe_ix ix_list (pv 0) pe_int (fun _ _ => rfl))) pa_nil)) (pe_lc (own := [("_law_line", 1)]) (g := (gName 1)) (by rfl) sc__law_book_text.nd (pi_list (pe_ix ix_list (pv 0) pe_int (fun _ _ => rfl))) (blkOk_by (N := ["_law_spec", "_law_line"]) (sc := defScope s__law_book_text) (by decide +kernel)) (fun _ _ _ _ _ => (pg_name (i := 1) sc__law_book_text.nd rfl (.inl rfl))) (fun _ _ _ _ _ => pts_nil) (fun _ _ _ _ _ => (pe_c c__law_line_text hr (by decide) (by rfl) (pa_cons (pv 1) pa_nil)))))))), ?_⟩
  have hT := SqL.of (K := K) hs.top
  have z1 : (S F).length + (" " : Str).length ≤ sizeLine := by
    rw [S_len]
    exact sz (show F.length + 1 ≤ 100000 by omega)
  have z2 : (S F ++ (" " : Str)).length + (S C).length ≤ sizeLine := by
    rw [show (" " : Str) = S [32] from rfl, S_cat, S_len, S_len, List.length_append]
    exact sz (show F.length + 1 + C.length ≤ 100000 by omega)
  refine ⟨⟨_, rfl⟩, _, rfl, p, _, _, _, rfl, rfl, hT, rfl, _, _, rfl, rfl, z1, _, rfl, p, _, _, _, rfl, rfl, hT, rfl, _, _, rfl, rfl, z2, (show 1 ≤ sizeLine by decide), fun l nl => ?_⟩
  have s1 := same_upd (o := HO.lst [V.str (S F ++ (" " : Str) ++ S C)]) nl
  have hs1 := hs.same s1
  refine ⟨_, rfl, p, _, _, _, rfl, rfl, SqL.of hs1.top, rfl, lp, rfl, ⟨_, SqL.of hs1.rows⟩, fun D hD => ?_⟩
  have nlD : l ≠ D := ne_of_none upd_same hD
  have nD : ∀ a o, H a = some o → a ≠ D := fun a o e => ne_of_none (s1 _ _ e) hD
  have nlp : lp ≠ D := nD _ _ hs.rows
  generalize hH1 : upd H l (HO.lst [V.str (S F ++ (" " : Str) ++ S C)]) = H1 at s1 hs1 hD
  have hl1 : H1 l = some (.lst [V.str (headT F C)]) := by
    rw [← hH1, upd_same, headT_eq]
  refine lc_list (xs := ls.map fun r => V.ref r.1) (fun i H' => But D H1 H' ∧ H' D = some (.lst ((ls.take i).map fun r => V.str (rowW r.2)))) ⟨(same_upd hD).but, upd_same⟩ (fun i H' _ pv => SqL.of (pv.1 _ _ nlp hs1.rows)) ?_ ?_
  · rintro i x H' hx ⟨bt, hDD⟩
    rw [List.getElem?_map] at hx
    obtain ⟨r, hr1, rfl⟩ := Option.map_eq_some_iff.mp hx
    have hm := List.mem_of_getElem? hr1
    have hrD : r.1 ≠ D := nD _ _ (hs.at_ r hm)
    have hil : i < ls.length := (List.getElem?_eq_some_iff.mp hr1).1
    refine ⟨rfl, _, rfl, r.1, r.2, rfl, SqT.of (bt _ _ hrD (hs1.at_ r hm)), lw r hm, fun H2 s2 => ?_⟩
    refine ⟨_, s2 _ _ hDD, by rw [List.length_map, List.length_take]; exact sz1 (by omega), fun a o n e => ?_, ?_⟩
    · rw [upd_ne n]
      exact s2 _ _ (bt _ _ n e)
    · rw [upd_same, List.take_add_one, hr1, List.map_append]
      rfl
  · rintro H2 ⟨bt, hDD⟩
    rw [List.length_map, List.take_of_length_le (Nat.le_refl _)] at hDD
    have hl2 := bt _ _ nlD hl1
    refine ⟨l, D, _, _, rfl, rfl, hl2, hDD, ?_, fun r nr => ?_⟩
    · rw [List.length_map]
      exact sz (show 1 + ls.length ≤ 100000 by omega)
    refine ⟨"\n", r, headT F C :: (ls.map (·.2)).map rowW, rfl, rfl, .inl (SqL.of ?_), ?_, ?_⟩
    · rw [upd_same, List.map_map, List.map_cons, List.map_map]
      rfl
    · rw [List.map_cons, List.sum_cons, List.length_cons, List.map_map, List.length_map, List.length_map]
      have h1 := head_len (F := F) (C := C) (by omega) (by omega)
      have h2 := sum_le (m := 7000) (ns := (ls.map (·.2)).map ((fun x : Str => x.length) ∘ rowW)) (by
        intro n hn
        rw [List.map_map] at hn
        obtain ⟨r, hr2, rfl⟩ := List.mem_map.mp hn
        exact rowW_len (lw r hr2))
      rw [List.length_map, List.length_map] at h2
      show (headT F C).length + _ + (ls.length + 1) * 1 ≤ 16777216
      omega
    · exact q _ ((but_fresh s1 hD bt).trans (same_upd nr))
abbrev s_row_of : Stmt := topS 44
theorem sc_row_of : FnScope ["line", "cut"] ["line"] (defScope s_row_of) := ⟨rfl, rfl, rfl, by decide +kernel, rfl, by decide +kernel, by decide +kernel⟩
def sp_row_of (K : PySem.W.Frag) : Sp := fun vs H Q _ => ∃ (t : Addr) (w : W6), vs = [.ref t] ∧ SqT K H t ((w6L w).map fun p => V.str (S p)) ∧ (∀ p ∈ w6L w, p.length ≤ 1000) ∧ ∀ H', Same H H' → Q (.str (rowW w)) H'
theorem str_nil {u : List Nat} (e : V.str (S u) = V.str "") : u = [] := by
  have z2 := congrArg (fun z : Str => z.cps.toList) (V.str.inj e)
  exact z2
theorem rowW_sum {a b c d e u : List Nat} (hl : ∀ p ∈ w6L (a, b, c, d, e, u), p.length ≤ 1000) : (([a, b, c, d, e, wordU u].map S).map (·.length)).sum + ([a, b, c, d, e, wordU u].map S).length * (" " : Str).length ≤ 16777216 := by
  have hu : (wordU u).length ≤ 1000 := by
    unfold wordU
    split
    · decide
    · exact hl u (by simp [w6L])
  have ha := hl a (by simp [w6L])
  have hb := hl b (by simp [w6L])
  have hc := hl c (by simp [w6L])
  have hd := hl d (by simp [w6L])
  have he := hl e (by simp [w6L])
  simp only [List.map_cons, List.map_nil, List.sum_cons, List.sum_nil, List.length_cons, List.length_nil, S_len]
  show _ + 6 * 1 ≤ 16777216
  omega
theorem ok_row_of {f : Addr} {fd : FuncData} (F : Fun K "row_of" "row_of" s_row_of f fd) : FnOk P w K mg base CX0 1 f fd ["line"] (sp_row_of K) := by
  refine F.ok sc_row_of (fun vs H Q E h => ?_) (fun cdv A outer s H vs Q E hr h => ?_)
  · obtain ⟨t, w, rfl, _⟩ := h
    rfl
  obtain ⟨t, ⟨a, b, c, d, e, u⟩, rfl, hS, hl, q⟩ := h
  refine ⟨_, (pss_cons (ps_set (i := 1) sc_row_of.nd rfl (.inl rfl) (pe_as (pe_ifExp (pt_cmpR op_eq (pe_ix ix_tup (pv 0) pe_int (fun _ _ => rfl)) pe_str (nomark _)) pe_str (pe_ix ix_tup (pv 0) pe_int (fun _ _ => rfl)))))
      (pss_one (ps_ret (pe_join pe_str (pe_lst (pa_cons (pe_ix ix_tup (pv 0) pe_int (fun _ _ => rfl)) (pa_cons (pe_ix ix_tup (pv 0) pe_int (fun _ _ => rfl)) (pa_cons (pe_ix ix_tup (pv 0) pe_int (fun _ _ => rfl)) (pa_cons (pe_ix ix_tup (pv 0) pe_int (fun _ _ => rfl)) (pa_cons (pe_ix ix_tup (pv 0) pe_int (fun _ _ => rfl)) (pa_cons (pv 1) pa_nil))))))))))), ?_⟩
  refine ⟨fun v H' => v = .str (S (wordU u)) ∧ H' = H, ?_, ?_⟩
  · refine ⟨_, rfl, t, _, _, _, rfl, rfl, hS, rfl, rfl, _, rfl, ite_dec (fun eq => ?_) (fun ne => ?_)⟩
    · obtain rfl := str_nil eq
      exact ⟨rfl, rfl⟩
    · refine ⟨_, rfl, t, _, _, _, rfl, rfl, hS, rfl, ?_, rfl⟩
      unfold wordU
      rw [if_neg fun z => ne (by rw [z]; rfl)]
  rintro _ H1 ⟨rfl, e1⟩
  subst e1
  refine ⟨⟨_, rfl⟩, _, rfl, t, _, _, _, rfl, rfl, hS, rfl, _, rfl, t, _, _, _, rfl, rfl, hS, rfl, _, rfl, t, _, _, _, rfl, rfl, hS, rfl, _, rfl, t, _, _, _, rfl, rfl, hS, rfl, _, rfl, t, _, _, _, rfl, rfl, hS, rfl, _, rfl, (show 6 ≤ sizeLine by decide), fun r nr => ?_⟩
  exact ⟨" ", r, [a, b, c, d, e, wordU u].map S, rfl, rfl, .inl (SqL.of upd_same), rowW_sum hl, q _ (same_upd nr)⟩
abbrev s__law_book : Stmt := topS 64
theorem sc__law_book : FnScope ["_law_spec"] ["_law_spec"] (defScope s__law_book) := ⟨rfl, rfl, rfl, by decide +kernel, rfl, by decide +kernel, by decide +kernel⟩
def sp__law_book (K : PySem.W.Frag) (CB : Addr) : Sp := fun vs H Q _ => ∃ (p lp b : Addr) (F C : List Nat) (ls : List LineV), vs = [.ref p] ∧ SpecAt H b p lp F C ls ∧ SpecOk F C ls ∧ ls.length ≤ 8 ∧
  ∀ H' x ls', Same H H' → H x = none → BookAt K CB H' x F C ls' → ls'.map (·.2) = ls.map (·.2) → Q (.ref x) H'
theorem ok__law_book {f CB fR : Addr} {fd fdR : FuncData} (F : Fun K "_law_book" "_law_book" s__law_book f fd) (T : Z mg) (gB : mg "Book" = some (.ref CB)) (SR : Sta K CB "read" fR)
    (FR : FnOk P w K mg base CX0 8 fR fdR ["text"] (sp_Book_read K CB)) (bR : L2.Binds K fdR ["text"] []) (c__law_book_text : Cal P w K mg base CX0 2 "_law_book_text" s__law_book_text ["_law_spec"] (sp__law_book_text K)) : FnOk P w K mg base CX0 9 f fd ["_law_spec"] (sp__law_book K CB) := by
  refine F.ok sc__law_book (fun vs H Q E h => ?_) (fun cdv A outer s H vs Q E hr h => ?_)
  · obtain ⟨p, lp, b, F, C, ls, rfl, _⟩ := h
    rfl
  obtain ⟨p, lp, b, F, C, ls, rfl, hs, ok, h8, q⟩ := h
  refine ⟨_, (pss_one (ps_ret (pe_static (by rfl) gB SR FR hr bR .nil pass0 (pa_cons (pe_c c__law_book_text hr (by decide) (by rfl) (pa_cons (pv 0) pa_nil)) pa_nil)))), ?_⟩
  have lF := ok.f6
  have lC := ok.c4
  refine ⟨_, rfl, p, lp, b, F, C, ls, rfl, hs, by omega, by omega, by omega, fun r hr1 => (ok.w6 r hr1).ln, fun H1 s1 => ?_⟩
  refine ⟨F, C, ls.map (·.2), rfl, by omega, by omega, ⟨ok.nf (by decide), ok.nf (by decide)⟩, ⟨ok.nc (by decide), ok.nc (by decide)⟩, ok.bf, ok.bc, by rw [List.length_map]; exact h8, fun w hw => ?_, fun H2 x dx tl ls' s2 nx hx ht hls e => ?_⟩
  · obtain ⟨r, hr1, rfl⟩ := List.mem_map.mp hw
    exact ok.w6 r hr1
  · exact q _ x ls' (s1.trans s2) (by
      cases z : H x with
      | none => rfl
      | some o =>
        rw [s1 _ _ z] at nx
        cases nx) ⟨⟨dx, tl, hx, ht⟩, hls, ⟨by omega, by omega⟩, ok.chr⟩ e
abbrev s_Book_line_at : Stmt := inCls (topS 45) 5
theorem sc_Book_line_at : FnScope ["self", "room", "cutter", "at", "line"] ["self", "room", "cutter"] (defScope s_Book_line_at) := ⟨rfl, rfl, rfl, by decide +kernel, rfl, by decide +kernel, by decide +kernel⟩
def lineFits (r : LineV) (room : List Nat) (c : Nat) : Bool := fitsB (w6L r.2) (room ++ [c])
def lineAt (ls : List LineV) (room : List Nat) (c : Nat) : Option Nat := ls.findIdx? fun r => lineFits r room c
def optV : Option Nat → V
  | some i => .int (i : Nat)
  | none => .non
def sp_Book_line_at (K : PySem.W.Frag) (CB : Addr) : Sp := fun vs H Q _ => ∃ (x : Addr) (F C : List Nat) (ls : List LineV) (room : List Nat) (c : Nat), vs = [.ref x, .str (S room), .str (S [c])] ∧ BookAt K CB H x F C ls ∧ room.length = 4 ∧ (∀ y ∈ room, y ∈ F) ∧ c ∈ C ∧
  ∀ H', Same H H' → Q (optV (lineAt ls room c)) H'
theorem ok_Book_line_at {f CB : Addr} {fd : FuncData} (F : Fun K "line_at" "Book.line_at" s_Book_line_at f fd) (T : Z mg) (BC : BookC K CB)
    (c_is_room : Cal P w K mg base CX0 2 "is_room" s_is_room ["value", "faces"] (sp_is_room K)) (c_is_letter : Cal P w K mg base CX0 1 "is_letter" s_is_letter ["value", "letters"] (sp_is_letter K))
    (c_fits : Cal P w K mg base CX0 1 "fits" s_fits ["line", "room", "cutter"] (sp_fits K)) : FnOk P w K mg base CX0 3 f fd ["self", "room", "cutter"] (sp_Book_line_at K CB) := by
  refine F.ok sc_Book_line_at (fun vs H Q E h => ?_) (fun cdv A outer s H vs Q E hr h => ?_)
  · obtain ⟨x, F, C, ls, room, c, rfl, _⟩ := h
    rfl
  obtain ⟨x, fs, cs, ls, room, c, rfl, hB, hr4, hrf, hcc, q⟩ := h
  refine ⟨_, (pss_cons (ps_if (pt_not (pt_val (pe_c c_is_room hr (by decide) (by rfl) (pa_cons (pv 1) (pa_cons (pe_fld (pv 0) rfl) pa_nil))))) pss_never pss_nil)
    (pss_cons (ps_if (pt_not (pt_val (pe_c c_is_letter hr (by decide) (by rfl) (pa_cons (pv 2) (pa_cons (pe_fld (pv 0) rfl) pa_nil))))) pss_never pss_nil)
    (pss_cons (ps_for PassesOwn.never rfl (pi_enumG (by rfl) T.z_enumerate (pa_cons (pe_fld (pv 0) rfl) pa_nil)) (pg_tup rfl (pgs_cons (pg_name (i := 3) sc_Book_line_at.nd rfl (.inl rfl)) (pgs_cons (pg_name (i := 4) sc_Book_line_at.nd rfl (.inl rfl)) pgs_nil)))
      (pss_one (ps_if (pt_val (pe_c c_fits hr (by decide) (by rfl) (pa_cons (pv 4) (pa_cons (pv 1) (pa_cons (pv 2) pa_nil))))) (pss_one (ps_ret (pv 3))) pss_nil)))
    (pss_one (ps_ret pe_non))))), ?_⟩
  obtain ⟨dx, tl, hx, ht⟩ := hB.at_
  obtain ⟨lf, lc⟩ := hB.lens
  have hroom : bRoom (.str (S room)) (S fs) = true := by
    unfold bRoom
    rw [bString_yes hrf, show decide ((strOf (V.str (S room))).cps.size = 4) = true from decide_eq_true hr4]
    rfl
  refine ⟨_, rfl, _, rfl, x, CB, dx, _, _, rfl, hx, BC.c, BC.nf, rfl, .str (S room), S fs, rfl, .inl ⟨rfl, (show room.length ≤ 100000 by omega)⟩, fun H1 s1 => ⟨_, rfl, ?_⟩⟩
  rw [hroom]
  refine iteF ?_
  have hlet : bLetter (.str (S [c])) cs = true := by
    unfold bLetter
    rw [show decide ((strOf (V.str (S [c]))).cps.toList.getD 0 0 ∈ cs) = true from decide_eq_true hcc]
    rfl
  refine ⟨_, rfl, _, rfl, x, CB, dx, _, _, rfl, s1 _ _ hx, BC.c, BC.nc, rfl, .str (S [c]), cs, rfl, .inl ⟨rfl, (show 1 ≤ 100000 by decide)⟩, fun H2 s2 => ⟨_, rfl, ?_⟩⟩
  rw [hlet]
  refine iteF ?_
  have s12 := s1.trans s2
  refine ⟨_, rfl, x, CB, dx, _, _, rfl, s12 _ _ hx, BC.c, BC.nl, rfl, .ref tl, ls.map fun r => V.ref r.1, rfl, .t (SqT.of (s12 _ _ ht)), fun k ev src => ?_⟩
  have stay : ∀ H', Same H2 H' → k.src K H' (ls.map fun r => V.ref r.1) := fun H' s => by
    cases k with
    | l a => exact s.seq src
    | t a => exact s.tup src
    | s z t => cases ev
  refine for_it walk_enumG (fun i σ H' => ∃ y3 y4 : Option V, σ = [some (.ref x), some (.str (S room)), some (.str (S [c])), y3, y4] ∧ Same H2 H' ∧ ∀ r' ∈ ls.take i, lineFits r' room c = false) ⟨_, _, rfl, Same.refl _, fun _ h => by cases h⟩ (fun i σ H' _ ⟨_, _, _, s, _⟩ => stay H' s) ?_ ?_
  · rintro i v σ H3 H4 hi ⟨y3, y4, rfl, s3, hno⟩ ⟨T', a1, b1', rfl, nT, rfl, hx1, hy1⟩
    obtain rfl : V.int (i : Nat) = a1 := Option.some.inj hx1
    have hy2 : (ls.map fun r => V.ref r.1)[i]? = some b1' := hy1
    rw [List.getElem?_map] at hy2
    obtain ⟨r, hr1, rfl⟩ := Option.map_eq_some_iff.mp hy2
    have hm := List.mem_of_getElem? hr1
    have s4 := (s12.trans s3).trans (same_upd (o := HO.tup [V.int (i : Nat), V.ref r.1]) nT)
    have hok := hB.lines.ok r hm
    refine ⟨T', _, rfl, SqT.of upd_same, rfl, _, _, rfl, _, [], rfl, rfl, ?_⟩
    refine ⟨_, rfl, _, rfl, _, rfl, r.1, w6L r.2, room, [c], rfl, SqT.of (s4 _ _ (hB.lines.at_ r hm)), (show 6 ≤ 100 by decide), hok.ln, by omega, (show 1 ≤ 100 by decide), fun H5 s5 => ⟨_, rfl, ?_⟩⟩
    have q0 : ∀ v, lineAt ls room c = v → ∀ H', Same H H' → Q (optV v) H' := fun v e => e ▸ q
    cases e : fitsB (w6L r.2) (room ++ [c]) with
    | true =>
      refine iteT ⟨_, rfl, q0 (some i) (List.findIdx?_eq_some_iff_getElem.mpr ?_) _ (s4.trans s5)⟩
      obtain ⟨hlt, hget⟩ := List.getElem?_eq_some_iff.mp hr1
      refine ⟨hlt, by rw [hget]; exact e, fun j hj => ?_⟩
      have hjm : ls[j] ∈ ls.take i := List.mem_take_iff_getElem.mpr ⟨j, by omega, rfl⟩
      rw [hno _ hjm]
      exact Bool.false_ne_true
    | false =>
      refine iteF ⟨_, _, rfl, (s3.trans (same_upd nT)).trans s5, fun r' hr' => ?_⟩
      rw [List.take_add_one, hr1] at hr'
      rcases List.mem_append.mp hr' with h | h
      · exact hno r' h
      · rw [show r' = r from List.mem_singleton.mp h]
        exact e
  · rintro σ H3 ⟨y3, y4, rfl, s3, hno⟩
    rw [List.take_of_length_le (by simp)] at hno
    have e : optV (lineAt ls room c) = .non := by
      rw [show lineAt ls room c = none from List.findIdx?_eq_none_iff.mpr hno]
      rfl
    rw [e] at q
    exact q _ (s12.trans s3)
abbrev s_Book_cut : Stmt := inCls (topS 45) 3
theorem sc_Book_cut : FnScope ["self", "room", "cutter", "at"] ["self", "room", "cutter"] (defScope s_Book_cut) := ⟨rfl, rfl, rfl, by decide +kernel, rfl, by decide +kernel, by decide +kernel⟩
/-- the cut of a room by a cutter -/
def cutL (ls : List LineV) (room : List Nat) (c : Nat) : List Nat := match lineAt ls room c with
  | some i => (ls[i]?.map fun r => r.2.2.2.2.2.2).getD []
  | none => []
def sp_Book_cut (K : PySem.W.Frag) (CB : Addr) : Sp := fun vs H Q _ => ∃ (x : Addr) (F C : List Nat) (ls : List LineV) (room : List Nat) (c : Nat), vs = [.ref x, .str (S room), .str (S [c])] ∧ BookAt K CB H x F C ls ∧ room.length = 4 ∧ (∀ y ∈ room, y ∈ F) ∧ c ∈ C ∧
  ∀ H', Same H H' → Q (.str (S (cutL ls room c))) H'
theorem ok_Book_cut {f CB fL : Addr} {fd fdL : FuncData} (F : Fun K "cut" "Book.cut" s_Book_cut f fd) (BC : BookC K CB) (mL : Meth K CB "line_at" fL)
    (FL : FnOk P w K mg base CX0 3 fL fdL ["self", "room", "cutter"] (sp_Book_line_at K CB)) (bL : L2.Binds K fdL ["self", "room", "cutter"] []) : FnOk P w K mg base CX0 4 f fd ["self", "room", "cutter"] (sp_Book_cut K CB) := by
  refine F.ok sc_Book_cut (fun vs H Q E h => ?_) (fun cdv A outer s H vs Q E hr h => ?_)
  · obtain ⟨x, F, C, ls, room, c, rfl, _⟩ := h
    rfl
  obtain ⟨x, fs, cs, ls, room, c, rfl, hB, hr4, hrf, hcc, q⟩ := h
  refine ⟨_, (pss_cons (ps_set (i := 3) sc_Book_cut.nd rfl (.inl rfl) (pe_meth (pv 0) BC.c mL FL hr bL .nil pass0 (pa_cons (pv 1) (pa_cons (pv 2) pa_nil))))
    (pss_one (ps_ret (pe_ifExp (pt_cmp (pc_isN (pv 3))) pe_str (pe_ix ix_tup (pe_ix ix_tup (pe_fld (pv 0) rfl) (pv 3) (fun _ _ => rfl)) pe_int (fun _ _ => rfl)))))), ?_⟩
  obtain ⟨dx, tl, hx, ht⟩ := hB.at_
  refine ⟨_, rfl, x, dx, _, rfl, hx, rfl, _, rfl, _, rfl, x, fs, cs, ls, room, c, rfl, hB, hr4, hrf, hcc, fun H1 s1 => ?_⟩
  have q1 := q _ s1
  unfold cutL at q1
  cases e : lineAt ls room c with
  | none =>
    rw [e] at q1
    exact ⟨_, rfl, _, rfl, iteT q1⟩
  | some i =>
    rw [e] at q1
    obtain ⟨hlt, _⟩ := List.findIdx?_eq_some_iff_getElem.mp e
    have hi : ls[i]? = some ls[i] := List.getElem?_eq_getElem hlt
    have hm := List.mem_of_getElem? hi
    generalize ls[i] = r at hi hm
    dsimp only at q1
    rw [hi] at q1
    have hgi : (ls.map fun r => V.ref r.1)[i]? = some (.ref r.1) := by
      rw [List.getElem?_map, hi]
      rfl
    refine ⟨_, rfl, _, rfl, iteF ?_⟩
    refine ⟨_, rfl, x, CB, dx, _, _, rfl, s1 _ _ hx, BC.c, BC.nl, rfl, _, rfl, tl, _, (i : Int), _, rfl, rfl, SqT.of (s1 _ _ ht), at_of (j := i) rfl hgi, r.1, _, 5, _, rfl, rfl, SqT.of (s1 _ _ (hB.lines.at_ r hm)), rfl, q1⟩
/-! the parts of a room, as lists -/
def splitL (room cut : List Nat) : List (List Nat) := match room, cut with
  | [n, e, s, w], [sg, x, y] => if sg = 124 then [[n, x, s, w], [n, e, s, y]] else [[n, e, x, w], [y, e, s, w]]
  | r, _ => [r]
theorem splitL_none (room : List Nat) : splitL room [] = [room] := by
  unfold splitL
  split
  · rename_i h
    cases h
  · rfl
theorem splitL_parts (n e s w sg x y : Nat) : (splitL [n, e, s, w] [sg, x, y]).map S = partsC n e s w sg x y := by
  unfold splitL partsC
  dsimp only
  split <;> rfl
theorem room4 {room : List Nat} (h : room.length = 4) : ∃ n e s w, room = [n, e, s, w] := by
  match room, h with
  | [n, e, s, w], _ => exact ⟨n, e, s, w, rfl⟩
/-- the cut of a line is none, or one of the faces -/
theorem LineOk.cut {r : LineV} {F C : List Nat} (h : LineOk r F C) : CutR r.2.2.2.2.2.2 F := by
  have ok := h.ok
  unfold bLine at ok
  simp only [Bool.and_eq_true, Bool.or_eq_true] at ok
  rcases ok.2 with h | h
  · exact .inl (congrArg (fun z : Str => z.cps.toList) (V.str.inj (of_decide_eq_true h)))
  · rw [bCut_S] at h
    simp only [Bool.and_eq_true, decide_eq_true_eq] at h
    obtain ⟨⟨h1, h2⟩, h3⟩ := h
    match r.2.2.2.2.2.2, h1, h2, h3 with
    | [g, x, y], _, h2, h3 =>
      have h2' : g ∈ [124, 45] := h2
      simp only [List.mem_cons, List.not_mem_nil, or_false] at h2'
      have h3' : ([x, y].all fun c => decide (c ∈ F)) = true := h3
      simp only [List.all_cons, List.all_nil, Bool.and_true, Bool.and_eq_true, decide_eq_true_eq] at h3'
      exact .inr ⟨g, x, y, rfl, h2', h3'.1, h3'.2⟩
theorem cutL_form {ls : List LineV} {room F : List Nat} {c : Nat} (h : ∀ r ∈ ls, CutR r.2.2.2.2.2.2 F) : CutR (cutL ls room c) F := by
  unfold cutL
  split
  · rename_i i _
    cases e : ls[i]? with
    | none => exact .inl rfl
    | some r => exact h r (List.mem_of_getElem? e)
  · exact .inl rfl
theorem splitL_in {room cut F : List Nat} (hr : room.length = 4) (hf : ∀ y ∈ room, y ∈ F) (hc : CutR cut F) : ∀ p ∈ splitL room cut, p.length = 4 ∧ ∀ y ∈ p, y ∈ F := by
  obtain ⟨n, e, s, w, rfl⟩ := room4 hr
  have h1 : n ∈ F := hf n (by simp)
  have h2 : e ∈ F := hf e (by simp)
  have h3 : s ∈ F := hf s (by simp)
  have h4 : w ∈ F := hf w (by simp)
  have all4 : ∀ a b c d : Nat, a ∈ F → b ∈ F → c ∈ F → d ∈ F → ([a, b, c, d].length = 4 ∧ ∀ y ∈ [a, b, c, d], y ∈ F) := fun a b c d ha hb hc hd => ⟨rfl, fun y hy => by
    simp only [List.mem_cons, List.not_mem_nil, or_false] at hy
    rcases hy with rfl | rfl | rfl | rfl <;> assumption⟩
  rcases hc with rfl | ⟨g, x, y, rfl, hg, hx, hy⟩
  · intro p hp
    rw [splitL_none] at hp
    rw [List.mem_singleton.mp hp]
    exact all4 _ _ _ _ h1 h2 h3 h4
  · intro p hp
    unfold splitL at hp
    dsimp only at hp
    split at hp
    · simp only [List.mem_cons, List.not_mem_nil, or_false] at hp
      rcases hp with rfl | rfl
      · exact all4 _ _ _ _ h1 hx h3 h4
      · exact all4 _ _ _ _ h1 h2 h3 hy
    · simp only [List.mem_cons, List.not_mem_nil, or_false] at hp
      rcases hp with rfl | rfl
      · exact all4 _ _ _ _ h1 h2 hx h4
      · exact all4 _ _ _ _ hy h2 h3 h4
theorem wsOf_cut {ls ls' : List LineV} (e : ls'.map (·.2) = ls.map (·.2)) (room : List Nat) (c : Nat) : lineAt ls' room c = lineAt ls room c ∧ cutL ls' room c = cutL ls room c := by
  have h1 : ∀ l : List LineV, lineAt l room c = (l.map (·.2)).findIdx? fun w => fitsB (w6L w) (room ++ [c]) := fun l => by
    unfold lineAt lineFits
    rw [List.findIdx?_map]
    rfl
  have h2 : lineAt ls' room c = lineAt ls room c := by rw [h1, h1, e]
  refine ⟨h2, ?_⟩
  unfold cutL
  rw [h2]
  have h3 : ∀ (l : List LineV) (i : Nat), (l[i]?.map fun r : LineV => r.2.2.2.2.2.2) = ((l.map (·.2))[i]?).map fun w : W6 => w.2.2.2.2.2 := fun l i => by
    rw [List.getElem?_map, Option.map_map]
    rfl
  split
  · rename_i i _
    rw [h3, h3, e]
  · rfl
abbrev s_Book_parts : Stmt := inCls (topS 45) 4
theorem sc_Book_parts : FnScope ["self", "room", "cutter"] ["self", "room", "cutter"] (defScope s_Book_parts) := ⟨rfl, rfl, rfl, by decide +kernel, rfl, by decide +kernel, by decide +kernel⟩
def sp_Book_parts (K : PySem.W.Frag) (CB : Addr) : Sp := fun vs H Q _ => ∃ (x : Addr) (F C : List Nat) (ls : List LineV) (room : List Nat) (c : Nat), vs = [.ref x, .str (S room), .str (S [c])] ∧ BookAt K CB H x F C ls ∧ room.length = 4 ∧ (∀ y ∈ room, y ∈ F) ∧ c ∈ C ∧
  ∀ H' p, Same H H' → H' p = none → Q (.ref p) (upd H' p (.lst ((splitL room (cutL ls room c)).map fun r => V.str (S r))))
theorem ok_Book_parts {f CB : Addr} {fd : FuncData} (F : Fun K "parts" "Book.parts" s_Book_parts f fd) (BC : BookC K CB) (c_cut : MCal P w K mg base CX0 CB 4 "cut" ["self", "room", "cutter"] (sp_Book_cut K CB))
    (c_parts_of : Cal P w K mg base CX0 1 "parts_of" s_parts_of ["room", "cut"] (sp_parts_of K)) : FnOk P w K mg base CX0 5 f fd ["self", "room", "cutter"] (sp_Book_parts K CB) := by
  refine F.ok sc_Book_parts (fun vs H Q E h => ?_) (fun cdv A outer s H vs Q E hr h => ?_)
  · obtain ⟨x, F, C, ls, room, c, rfl, _⟩ := h
    rfl
  obtain ⟨x, fs, cs, ls, room, c, rfl, hB, hr4, hrf, hcc, q⟩ := h
  refine ⟨_, (pss_one (ps_ret (pe_c c_parts_of hr (by decide) (by rfl) (pa_cons (pv 1) (pa_cons (pe_m c_cut BC.c hr (by decide) (pv 0) (pa_cons (pv 1) (pa_cons (pv 2) pa_nil))) pa_nil))))), ?_⟩
  obtain ⟨dx, tl, hx, ht⟩ := hB.at_
  refine ⟨_, rfl, _, rfl, x, dx, _, rfl, hx, rfl, _, rfl, _, rfl, x, fs, cs, ls, room, c, rfl, hB, hr4, hrf, hcc, fun H1 s1 => ?_⟩
  have cf := cutL_form (room := room) (c := c) fun r hr' => (hB.lines.ok r hr').cut
  have q1 := q H1
  generalize cutL ls room c = u at cf q1
  obtain ⟨n, e, so, we, rfl⟩ := room4 hr4
  refine ⟨n, e, so, we, S u, rfl, ?_⟩
  rcases cf with rfl | ⟨g, a, b, rfl, _⟩
  · refine .inl ⟨rfl, fun p np => ?_⟩
    have q2 := q1 p s1 np
    rw [splitL_none] at q2
    exact q2
  · refine .inr ⟨g, a, b, rfl, fun p np => ?_⟩
    have q2 := q1 p s1 np
    rw [← splitL_parts, List.map_map]
    exact q2
end
end FW
namespace FW
open PySem PySem.Spec PyProof.Rows L2
-- more
section
variable {P : Program} {w : World} {K : PySem.W.Frag} {mg : Str → Option Value} {base : Heap}
abbrev s__law_fits : Stmt := topS 65
theorem sc__law_fits : FnScope ["_law_line", "_law_room", "_law_cutter", "_law_part_here", "_law_face"] ["_law_line", "_law_room", "_law_cutter"] (defScope s__law_fits) := ⟨rfl, rfl, rfl, by decide +kernel, rfl, by decide +kernel, by decide +kernel⟩
def sp__law_fits (K : PySem.W.Frag) : Sp := fun vs H Q _ => ∃ (t : Addr) (w : W6) (room : List Nat) (c : Nat), vs = [.ref t, .str (S room), .str (S [c])] ∧ SqT K H t ((w6L w).map fun p => V.str (S p)) ∧ (∀ p ∈ w6L w, p.length ≤ 1000) ∧ room.length = 4 ∧
  ∀ H', Same H H' → Q (.bl (fitsB (w6L w) (room ++ [c]))) H'
theorem fits_eq (a b c' d e5 u : List Nat) (n e s w c : Nat) : fitsB [a, b, c', d, e5, u] ([n, e, s, w] ++ [c]) = (takesB e5 c && fitsB [a, b, c', d] [n, e, s, w]) := by
  show (takesB a n && (takesB b e && (takesB c' s && (takesB d w && (takesB e5 c && true))))) = (takesB e5 c && (takesB a n && (takesB b e && (takesB c' s && (takesB d w && true)))))
  cases takesB a n <;> cases takesB b e <;> cases takesB c' s <;> cases takesB d w <;> cases takesB e5 c <;> rfl
theorem ok__law_fits {f : Addr} {fd : FuncData} (F : Fun K "_law_fits" "_law_fits" s__law_fits f fd) (T : Z mg) : FnOk P w K mg base CX0 1 f fd ["_law_line", "_law_room", "_law_cutter"] (sp__law_fits K) := by
  refine F.ok sc__law_fits (fun vs H Q E h => ?_) (fun cdv A outer s H vs Q E hr h => ?_)
  · obtain ⟨t, w, room, c, rfl, _⟩ := h
    rfl
  obtain ⟨t, ⟨a, b, c', d, e5, u⟩, room, c, rfl, hS, hl, hr4, q⟩ := h
  refine ⟨_, (pss_cons (ps_if (pt_as (PW.pt (pw_and (pt_cmpR op_ne (pe_ix ix_tup (pv 0) pe_int (fun _ _ => rfl)) pe_str (nomark _)) (pw_and1 (pt_cmpR op_notIn_sign (pv 2) (pe_ix ix_tup (pv 0) pe_int (fun _ _ => rfl)) rfl))))) (pss_one (ps_ret pe_bl)) pss_nil)
      (pss_one (ps_ret (pe_callB (cr_all rfl) (by rfl) T.z_all (by decide +kernel) (pa_cons (pe_lc (own := [("_law_part_here", 3), ("_law_face", 4)]) (g := (gTup K 2 (gCons (gName 3) (gCons (gName 4) gNil)))) (by rfl) sc__law_fits.nd (pi_zipG (by rfl) T.z_zip (pa_cons (pe_slice sl_tup (pv 0) po_none (po_some pe_int)) (pa_cons (pv 1) pa_nil))) (blkOk_by (N := ["_law_line", "_law_room", "_law_cutter", "_law_part_here", "_law_face"]) (sc := defScope s__law_fits) (by decide +kernel)) (fun _ _ _ _ _ => (pg_tup rfl (pgs_cons (pg_name (i := 3) sc__law_fits.nd rfl (.inl rfl)) (pgs_cons (pg_name (i := 4) sc__law_fits.nd rfl (.inl rfl)) pgs_nil)))) (fun _ _ _ _ _ => pts_nil) (fun _ _ _ _ _ => (pe_or (pe_cmpR op_eq (pv 3) pe_str (nomark _)) (pe_one (pe_cmpR op_in_sign (pv 4) (pv 3) rfl))))) pa_nil))))), ?_⟩
  obtain ⟨n, e, so, we, rfl⟩ := room4 hr4
  have q0 : ∀ v, fitsB [a, b, c', d, e5, u] ([n, e, so, we] ++ [c]) = v → ∀ H', Same H H' → Q (.bl v) H' := fun v e => e ▸ q
  refine ⟨fun v H' => v = (!takesB e5 c) ∧ H' = H, ?_, ?_⟩
  · refine ⟨_, rfl, t, _, _, _, rfl, rfl, hS, rfl, rfl, _, rfl, ite_ndec (fun ne => ?_) (fun eq => ?_)⟩
    · refine ⟨_, rfl, _, rfl, t, _, _, _, rfl, rfl, hS, rfl, c, S e5, rfl, rfl, _, rfl, ?_, rfl⟩
      unfold takesB
      rw [show decide (V.str (S e5) = V.str ".") = false from decide_eq_false ne]
      rfl
    · refine ⟨?_, rfl⟩
      unfold takesB
      rw [show decide (V.str (S e5) = V.str ".") = true from decide_eq_true eq]
      rfl
  rintro _ H1 ⟨rfl, e1⟩
  subst e1
  cases et : takesB e5 c with
  | false => exact iteT (q0 false (by rw [fits_eq, et]; rfl) _ (Same.refl _))
  | true =>
    refine iteF ?_
    refine ⟨_, rfl, 4, rfl, t, _, rfl, hS, (show ¬ (HT.sIx 6 0 none = 0 ∧ HT.sIx 6 6 (some 4) = 6) by decide), fun p np => ?_⟩
    have s1 := same_upd (o := HO.tup (cutV ((w6L (a, b, c', d, e5, u)).map fun p => V.str (S p)) none (some 4))) np
    have hS1 : SqT K (upd H1 p (HO.tup (cutV ((w6L (a, b, c', d, e5, u)).map fun p => V.str (S p)) none (some 4)))) p ([a, b, c', d].map fun p => V.str (S p)) := SqT.of (upd_same.trans (congrArg (fun z => some (HO.tup z)) (show cutV ((w6L (a, b, c', d, e5, u)).map fun p => V.str (S p)) none (some 4) = [a, b, c', d].map fun p => V.str (S p) from rfl)))
    generalize upd H1 p (HO.tup (cutV ((w6L (a, b, c', d, e5, u)).map fun p => V.str (S p)) none (some 4))) = H at s1 hS1
    have q1 : ∀ H', Same H H' → Q (.bl (fitsB [a, b, c', d] [n, e, so, we])) H' := fun H' s => q0 _ (by rw [fits_eq, et]; rfl) H' (s1.trans s)
    have hps : [a, b, c', d].length = 4 := rfl
    have hcs : [n, e, so, we].length = 4 := rfl
    generalize [a, b, c', d] = ps at hS1 q1 hps
    generalize [n, e, so, we] = cs at q1 hcs
    refine ⟨_, rfl, _, _, ps.map fun p => V.str (S p), cs.map sgn, rfl, .t hS1, .s rfl, fun k1 k2 e1 e2 g1 g2 D hD => ?_⟩
    have hk1 : ∀ H', But D H H' → k1.src K H' (ps.map fun p => V.str (S p)) := fun H' bt => by
      cases k1 with
      | l a => cases e1; exact (but_fresh (Same.refl H) hD bt).seq g1
      | t a => cases e1; exact (but_fresh (Same.refl H) hD bt).tup g1
      | s x t => cases e1
    have hk2 : ∀ H', k2.src K H' (cs.map sgn) := fun H' => by
      cases k2 with
      | l a => cases e2
      | t a => cases e2
      | s x t => exact g2
    have hzl : (ps.zip cs).length = min ps.length cs.length := List.length_zip
    refine lc_it (walk_zipG (xs := ps.map fun p => V.str (S p)) (ys := cs.map sgn) (n := (ps.zip cs).length) (by rw [List.length_map, List.length_map, hzl])) (fun i H' => But D H H' ∧ H' D = some (.lst (((ps.zip cs).take i).map fun q => V.bl (takesB q.1 q.2))))
      ⟨(same_upd hD).but, upd_same⟩ (fun i H' _ pv => ⟨hk1 H' pv.1, hk2 H'⟩) ?_ ?_
    · rintro i _ H' _ hi ⟨bt, hDD⟩ ⟨T', x1, y1, rfl, nT, rfl, hx1, hy1⟩
      have hi1 : i < ps.length := by omega
      have hi2 : i < cs.length := by omega
      have ex : x1 = V.str (S ps[i]) := by
        have : (ps.map fun p => V.str (S p))[i]? = some x1 := hx1
        rw [List.getElem?_map, List.getElem?_eq_getElem hi1] at this
        exact (Option.some.inj this).symm
      have ey : y1 = sgn cs[i] := by
        have : (cs.map sgn)[i]? = some y1 := hy1
        rw [List.getElem?_map, List.getElem?_eq_getElem hi2] at this
        exact (Option.some.inj this).symm
      subst ex ey
      have nDT : D ≠ T' := ne_of_none hDD nT
      have hD2 : (upd H' T' (HO.tup [V.str (S ps[i]), sgn cs[i]])) D = some (.lst (((ps.zip cs).take i).map fun q => V.bl (takesB q.1 q.2))) := (same_upd nT) _ _ hDD
      have fin : ∀ bb, takesB ps[i] cs[i] = bb → ∃ acc, (upd H' T' (HO.tup [V.str (S ps[i]), sgn cs[i]])) D = some (.lst acc) ∧ acc.length < sizeLine ∧ (But D H (upd (upd H' T' (HO.tup [V.str (S ps[i]), sgn cs[i]])) D (.lst (acc ++ [V.bl bb]))) ∧ (upd (upd H' T' (HO.tup [V.str (S ps[i]), sgn cs[i]])) D (.lst (acc ++ [V.bl bb]))) D = some (.lst (((ps.zip cs).take (i + 1)).map fun q => V.bl (takesB q.1 q.2)))) := fun bb e => by
        refine ⟨_, hD2, by rw [List.length_map, List.length_take]; exact sz1 (by omega), fun a o n e => ?_, ?_⟩
        · rw [upd_ne n]
          exact (same_upd nT) _ _ (bt a o n e)
        · rw [upd_same, List.take_add_one, List.getElem?_eq_getElem hi, List.map_append, List.getElem_zip, ← e]
          rfl
      refine ⟨T', _, rfl, SqT.of upd_same, rfl, _, _, rfl, _, [], rfl, rfl, rfl, ?_⟩
      refine ⟨_, rfl, rfl, _, rfl, ?_⟩
      cases e : decide (V.str (S ps[i]) = V.str ".") with
      | true => exact iteT (fin true (by unfold takesB; rw [e]; rfl))
      | false => exact iteF ⟨_, rfl, _, rfl, cs[i], S ps[i], rfl, rfl, fin _ (by unfold takesB; rw [e]; rfl)⟩
    · rintro H' ⟨bt, hDD⟩
      rw [List.take_of_length_le (Nat.le_refl _)] at hDD
      refine ⟨D, (ps.zip cs).map fun q => takesB q.1 q.2, rfl, SqL.of (hDD.trans ?_), ?_⟩
      · rw [List.map_map]
        rfl
      · rw [List.all_map]
        exact q1 _ (but_fresh (Same.refl H) hD bt)
abbrev s__law_line_at : Stmt := topS 66
theorem sc__law_line_at : FnScope ["_law_spec", "_law_room", "_law_cutter", "_law_at", "_law_line"] ["_law_spec", "_law_room", "_law_cutter"] (defScope s__law_line_at) := ⟨rfl, rfl, rfl, by decide +kernel, rfl, by decide +kernel, by decide +kernel⟩
/-- a told book whose lines are short -/
def SpecS (ls : List LineV) : Prop := ls.length ≤ 1000 ∧ ∀ r ∈ ls, ∀ p ∈ w6L r.2, p.length ≤ 1000
def sp__law_line_at (K : PySem.W.Frag) : Sp := fun vs H Q _ => ∃ (p lp b : Addr) (F C : List Nat) (ls : List LineV) (room : List Nat) (c : Nat), vs = [.ref p, .str (S room), .str (S [c])] ∧ SpecAt H b p lp F C ls ∧ SpecS ls ∧ room.length = 4 ∧
  ∀ H', Same H H' → Q (optV (lineAt ls room c)) H'
theorem ok__law_line_at {f : Addr} {fd : FuncData} (F : Fun K "_law_line_at" "_law_line_at" s__law_line_at f fd) (T : Z mg) (c__law_fits : Cal P w K mg base CX0 1 "_law_fits" s__law_fits ["_law_line", "_law_room", "_law_cutter"] (sp__law_fits K)) : FnOk P w K mg base CX0 2 f fd ["_law_spec", "_law_room", "_law_cutter"] (sp__law_line_at K) := by
  refine F.ok sc__law_line_at (fun vs H Q E h => ?_) (fun cdv A outer s H vs Q E hr h => ?_)
  · obtain ⟨p, lp, b, F, C, ls, room, c, rfl, _⟩ := h
    rfl
  obtain ⟨p, lp, b, F, C, ls, room, c, rfl, hs, hl, hr4, q⟩ := h
  refine ⟨_, (pss_cons (ps_for PassesOwn.never rfl (pi_enumG (by rfl) T.z_enumerate (pa_cons (pe_ix ix_list (pv 0) pe_int (fun _ _ => rfl)) pa_nil)) (pg_tup rfl (pgs_cons (pg_name (i := 3) sc__law_line_at.nd rfl (.inl rfl)) (pgs_cons (pg_name (i := 4) sc__law_line_at.nd rfl (.inl rfl)) pgs_nil)))
        (pss_one (ps_if (pt_val (pe_c c__law_fits hr (by decide) (by rfl) (pa_cons (pv 4) (pa_cons (pv 1) (pa_cons (pv 2) pa_nil))))) (pss_one (ps_ret (pv 3))) pss_nil)))
      (pss_one (ps_ret pe_non))), ?_⟩
  refine ⟨_, rfl, p, _, _, _, rfl, rfl, SqL.of hs.top, rfl, .ref lp, ls.map fun r => V.ref r.1, rfl, .l (SqL.of hs.rows), fun k ev src => ?_⟩
  have stay : ∀ H', Same H H' → k.src K H' (ls.map fun r => V.ref r.1) := fun H' s => by
    cases k with
    | l a => exact s.seq src
    | t a => exact s.tup src
    | s z t => cases ev
  refine for_it walk_enumG (fun i σ H' => ∃ y3 y4 : Option V, σ = [some (.ref p), some (.str (S room)), some (.str (S [c])), y3, y4] ∧ Same H H' ∧ ∀ r' ∈ ls.take i, lineFits r' room c = false) ⟨_, _, rfl, Same.refl _, fun _ h => by cases h⟩ (fun i σ H' _ ⟨_, _, _, s, _⟩ => stay H' s) ?_ ?_
  · rintro i v σ H3 H4 hi ⟨y3, y4, rfl, s3, hno⟩ ⟨T', a1, b1', rfl, nT, rfl, hx1, hy1⟩
    obtain rfl : V.int (i : Nat) = a1 := Option.some.inj hx1
    have hy2 : (ls.map fun r => V.ref r.1)[i]? = some b1' := hy1
    rw [List.getElem?_map] at hy2
    obtain ⟨r, hr1, rfl⟩ := Option.map_eq_some_iff.mp hy2
    have hm := List.mem_of_getElem? hr1
    have s4 := s3.trans (same_upd (o := HO.tup [V.int (i : Nat), V.ref r.1]) nT)
    refine ⟨T', _, rfl, SqT.of upd_same, rfl, _, _, rfl, _, [], rfl, rfl, ?_⟩
    refine ⟨_, rfl, _, rfl, _, rfl, r.1, r.2, room, c, rfl, SqT.of (s4 _ _ (hs.at_ r hm)), hl.2 r hm, hr4, fun H5 s5 => ⟨_, rfl, ?_⟩⟩
    have q0 : ∀ v, lineAt ls room c = v → ∀ H', Same H H' → Q (optV v) H' := fun v e => e ▸ q
    cases e : fitsB (w6L r.2) (room ++ [c]) with
    | true =>
      refine iteT ⟨_, rfl, q0 (some i) (List.findIdx?_eq_some_iff_getElem.mpr ?_) _ (s4.trans s5)⟩
      obtain ⟨hlt, hget⟩ := List.getElem?_eq_some_iff.mp hr1
      refine ⟨hlt, by rw [hget]; exact e, fun j hj => ?_⟩
      have hjm : ls[j] ∈ ls.take i := List.mem_take_iff_getElem.mpr ⟨j, by omega, rfl⟩
      rw [hno _ hjm]
      exact Bool.false_ne_true
    | false =>
      refine iteF ⟨_, _, rfl, s4.trans s5, fun r' hr' => ?_⟩
      rw [List.take_add_one, hr1] at hr'
      rcases List.mem_append.mp hr' with h | h
      · exact hno r' h
      · rw [show r' = r from List.mem_singleton.mp h]
        exact e
  · rintro σ H3 ⟨y3, y4, rfl, s3, hno⟩
    rw [List.take_of_length_le (by simp)] at hno
    have e : optV (lineAt ls room c) = .non := by
      rw [show lineAt ls room c = none from List.findIdx?_eq_none_iff.mpr hno]
      rfl
    rw [e] at q
    exact q _ s3
abbrev s__law_cut : Stmt := topS 67
theorem sc__law_cut : FnScope ["_law_spec", "_law_room", "_law_cutter", "_law_at"] ["_law_spec", "_law_room", "_law_cutter"] (defScope s__law_cut) := ⟨rfl, rfl, rfl, by decide +kernel, rfl, by decide +kernel, by decide +kernel⟩
def sp__law_cut (K : PySem.W.Frag) : Sp := fun vs H Q _ => ∃ (p lp b : Addr) (F C : List Nat) (ls : List LineV) (room : List Nat) (c : Nat), vs = [.ref p, .str (S room), .str (S [c])] ∧ SpecAt H b p lp F C ls ∧ SpecS ls ∧ room.length = 4 ∧
  ∀ H', Same H H' → Q (.str (S (cutL ls room c))) H'
theorem ok__law_cut {f : Addr} {fd : FuncData} (F : Fun K "_law_cut" "_law_cut" s__law_cut f fd) (c__law_line_at : Cal P w K mg base CX0 2 "_law_line_at" s__law_line_at ["_law_spec", "_law_room", "_law_cutter"] (sp__law_line_at K)) : FnOk P w K mg base CX0 3 f fd ["_law_spec", "_law_room", "_law_cutter"] (sp__law_cut K) := by
  refine F.ok sc__law_cut (fun vs H Q E h => ?_) (fun cdv A outer s H vs Q E hr h => ?_)
  · obtain ⟨p, lp, b, F, C, ls, room, c, rfl, _⟩ := h
    rfl
  obtain ⟨p, lp, b, F, C, ls, room, c, rfl, hs, hl, hr4, q⟩ := h
  refine ⟨_, (pss_cons (ps_set (i := 3) sc__law_cut.nd rfl (.inl rfl) (pe_c c__law_line_at hr (by decide) (by rfl) (pa_cons (pv 0) (pa_cons (pv 1) (pa_cons (pv 2) pa_nil)))))
      (pss_one (ps_ret (pe_ifExp (pt_cmp (pc_isN (pv 3))) pe_str (pe_ix ix_tup (pe_ix ix_list (pe_ix ix_list (pv 0) pe_int (fun _ _ => rfl)) (pv 3) (fun _ _ => rfl)) pe_int (fun _ _ => rfl)))))), ?_⟩
  refine ⟨_, rfl, _, rfl, _, rfl, p, lp, b, F, C, ls, room, c, rfl, hs, hl, hr4, fun H1 s1 => ?_⟩
  have q1 := q _ s1
  unfold cutL at q1
  have hs1 := hs.same s1
  cases e : lineAt ls room c with
  | none =>
    rw [e] at q1
    exact ⟨_, rfl, _, rfl, iteT q1⟩
  | some i =>
    rw [e] at q1
    obtain ⟨hlt, _⟩ := List.findIdx?_eq_some_iff_getElem.mp e
    have hi : ls[i]? = some ls[i] := List.getElem?_eq_getElem hlt
    have hm := List.mem_of_getElem? hi
    generalize ls[i] = r at hi hm
    dsimp only at q1
    rw [hi] at q1
    have hgi : (ls.map fun r => V.ref r.1)[i]? = some (.ref r.1) := by
      rw [List.getElem?_map, hi]
      rfl
    refine ⟨_, rfl, _, rfl, iteF ?_⟩
    exact ⟨_, rfl, p, _, _, _, rfl, rfl, SqL.of hs1.top, rfl, _, rfl, lp, _, (i : Int), _, rfl, rfl, SqL.of hs1.rows, at_of (j := i) rfl hgi, r.1, _, 5, _, rfl, rfl, SqT.of (hs1.at_ r hm), rfl, q1⟩
abbrev s__law_split : Stmt := topS 68
theorem sc__law_split : FnScope ["_law_room", "_law_cut_here"] ["_law_room", "_law_cut_here"] (defScope s__law_split) := ⟨rfl, rfl, rfl, by decide +kernel, rfl, by decide +kernel, by decide +kernel⟩
def sp__law_split0 (K : PySem.W.Frag) : Sp := fun vs H Q _ => ∃ (room u F : List Nat), vs = [.str (S room), .str (S u)] ∧ room.length = 4 ∧ CutR u F ∧ ∀ p, H p = none → Q (.ref p) (upd H p (.lst ((splitL room u).map fun r => V.str (S r))))
theorem ok__law_split {f : Addr} {fd : FuncData} (F : Fun K "_law_split" "_law_split" s__law_split f fd) : FnOk P w K mg base CX0 1 f fd ["_law_room", "_law_cut_here"] (sp__law_split0 K) := by
  refine F.ok sc__law_split (fun vs H Q E h => ?_) (fun cdv A outer s H vs Q E hr h => ?_)
  · obtain ⟨room, u, F, rfl, _⟩ := h
    rfl
  obtain ⟨room, u, fs, rfl, hr4, hu, q⟩ := h
  refine ⟨_, (pss_cons (ps_if (pt_cmpR op_eq (pv 1) pe_str (nomark _)) (pss_one (ps_ret (pe_lst (pa_cons (pv 0) pa_nil)))) pss_nil)
      (pss_cons (ps_if (pt_cmpR op_eq (pe_ix ix_str (pv 1) pe_int (fun _ _ => rfl)) pe_str (nomark _)) (pss_one (ps_ret (pe_lst (pa_cons (pe_op op_add_str (pe_op op_add_str (pe_ix ix_str (pv 0) pe_int (fun _ _ => rfl)) (pe_ix ix_str (pv 1) pe_int (fun _ _ => rfl))) (pe_slice sl_str (pv 0) (po_some pe_int) po_none)) (pa_cons (pe_op op_add_str (pe_slice sl_str (pv 0) po_none (po_some pe_int)) (pe_ix ix_str (pv 1) pe_int (fun _ _ => rfl))) pa_nil))))) pss_nil)
      (pss_one (ps_ret (pe_lst (pa_cons (pe_op op_add_str (pe_op op_add_str (pe_slice sl_str (pv 0) po_none (po_some pe_int)) (pe_ix ix_str (pv 1) pe_int (fun _ _ => rfl))) (pe_ix ix_str (pv 0) pe_int (fun _ _ => rfl))) (pa_cons (pe_op op_add_str (pe_ix ix_str (pv 1) pe_int (fun _ _ => rfl)) (pe_slice sl_str (pv 0) (po_some pe_int) po_none)) pa_nil))))))), ?_⟩
  obtain ⟨n, e, so, we, rfl⟩ := room4 hr4
  rcases hu with rfl | ⟨g, x, y, rfl, hg, _⟩
  · refine ⟨_, rfl, rfl, _, rfl, ite_dec (fun _ => ?_) (fun ne => absurd (rfl : V.str (S []) = V.str "") ne)⟩
    exact ⟨_, rfl, (show 1 ≤ sizeLine by decide), fun p np => by
      have := q p np
      rw [splitL_none] at this
      exact this⟩
  · have q1 : ∀ p, H p = none → Q (.ref p) (upd H p (.lst ((partsC n e so we g x y).map V.str))) := by
      rw [← splitL_parts, List.map_map]
      exact q
    have q := q1
    refine ⟨_, rfl, rfl, _, rfl, ite_dec (fun eq => absurd (str_nil eq) (by simp)) (fun _ => ?_)⟩
    refine ⟨_, rfl, _, 0, g, rfl, rfl, (show 3 ≤ sizeLine by decide), rfl, rfl, _, rfl, ?_⟩
    by_cases hs : g = 124
    · subst hs
      refine ite2 (fun _ => ?_) (fun hn => absurd (decide_eq_true rfl) hn)
      refine ⟨_, rfl, _, 0, n, rfl, rfl, (show 4 ≤ sizeLine by decide), rfl, _, rfl, _, 1, x, rfl, rfl, (show 3 ≤ sizeLine by decide), rfl, _, _, rfl, rfl, (show 2 ≤ sizeLine by decide), _, rfl, 2, rfl, _, rfl, (show 4 ≤ sizeLine by decide), ?_⟩
      rw [show cutS (S [n, e, so, we]) (some 2) none = S [so, we] from S_sub [n, e, so, we] 2]
      refine ⟨_, _, rfl, rfl, (show 4 ≤ sizeLine by decide), _, rfl, 3, rfl, _, rfl, (show 4 ≤ sizeLine by decide), ?_⟩
      rw [show cutS (S [n, e, so, we]) none (some 3) = S [n, e, so] from S_to [n, e, so, we] 3]
      refine ⟨_, rfl, _, 2, y, rfl, rfl, (show 3 ≤ sizeLine by decide), rfl, _, _, rfl, rfl, (show 4 ≤ sizeLine by decide), (show 2 ≤ sizeLine by decide), ?_⟩
      exact q
    · refine ite2 (fun hn => ?_) (fun _ => ?_)
      · exact absurd (by
          have q1 := V.str.inj (of_decide_eq_true hn)
          have q2 := congrArg (fun z : Str => z.cps.toList) q1
          exact List.head_eq_of_cons_eq q2) hs
      · refine ⟨_, rfl, 2, rfl, _, rfl, (show 4 ≤ sizeLine by decide), ?_⟩
        rw [show cutS (S [n, e, so, we]) none (some 2) = S [n, e] from S_to [n, e, so, we] 2]
        refine ⟨_, rfl, _, 1, x, rfl, rfl, (show 3 ≤ sizeLine by decide), rfl, _, _, rfl, rfl, (show 3 ≤ sizeLine by decide), _, rfl, _, 3, we, rfl, rfl, (show 4 ≤ sizeLine by decide), rfl, _, _, rfl, rfl, (show 4 ≤ sizeLine by decide), ?_⟩
        refine ⟨_, rfl, _, 2, y, rfl, rfl, (show 3 ≤ sizeLine by decide), rfl, _, rfl, 1, rfl, _, rfl, (show 4 ≤ sizeLine by decide), ?_⟩
        rw [show cutS (S [n, e, so, we]) (some 1) none = S [e, so, we] from S_sub [n, e, so, we] 1]
        refine ⟨_, _, rfl, rfl, (show 4 ≤ sizeLine by decide), (show 2 ≤ sizeLine by decide), ?_⟩
        have e2 : partsC n e so we g x y = [S4 n e x we, S4 y e so we] := if_neg hs
        rw [e2] at q
        exact q
abbrev s__law_parts : Stmt := topS 69
theorem sc__law_parts : FnScope ["_law_spec", "_law_room", "_law_cutter"] ["_law_spec", "_law_room", "_law_cutter"] (defScope s__law_parts) := ⟨rfl, rfl, rfl, by decide +kernel, rfl, by decide +kernel, by decide +kernel⟩
def sp__law_parts (K : PySem.W.Frag) : Sp := fun vs H Q _ => ∃ (p lp b : Addr) (F C : List Nat) (ls : List LineV) (room : List Nat) (c : Nat), vs = [.ref p, .str (S room), .str (S [c])] ∧ SpecAt H b p lp F C ls ∧ SpecS ls ∧ room.length = 4 ∧ (∀ r ∈ ls, CutR r.2.2.2.2.2.2 F) ∧
  ∀ H' q, Same H H' → H' q = none → Q (.ref q) (upd H' q (.lst ((splitL room (cutL ls room c)).map fun r => V.str (S r))))
theorem ok__law_parts {f : Addr} {fd : FuncData} (F : Fun K "_law_parts" "_law_parts" s__law_parts f fd) (c__law_split : Cal P w K mg base CX0 1 "_law_split" s__law_split ["_law_room", "_law_cut_here"] (sp__law_split0 K))
    (c__law_cut : Cal P w K mg base CX0 3 "_law_cut" s__law_cut ["_law_spec", "_law_room", "_law_cutter"] (sp__law_cut K)) : FnOk P w K mg base CX0 4 f fd ["_law_spec", "_law_room", "_law_cutter"] (sp__law_parts K) := by
  refine F.ok sc__law_parts (fun vs H Q E h => ?_) (fun cdv A outer s H vs Q E hr h => ?_)
  · obtain ⟨p, lp, b, F, C, ls, room, c, rfl, _⟩ := h
    rfl
  obtain ⟨p, lp, b, F, C, ls, room, c, rfl, hs, hl, hr4, hc, q⟩ := h
  refine ⟨_, (pss_one (ps_ret (pe_c c__law_split hr (by decide) (by rfl) (pa_cons (pv 1) (pa_cons (pe_c c__law_cut hr (by decide) (by rfl) (pa_cons (pv 0) (pa_cons (pv 1) (pa_cons (pv 2) pa_nil)))) pa_nil))))), ?_⟩
  exact ⟨_, rfl, _, rfl, _, rfl, _, rfl, p, lp, b, F, C, ls, room, c, rfl, hs, hl, hr4, fun H1 s1 => ⟨room, cutL ls room c, F, rfl, hr4, cutL_form hc, fun q' nq => q H1 q' s1 nq⟩⟩
end
end FW
namespace FW
open PySem PySem.Spec PyProof.Rows L2
-- more
section
variable {P : Program} {w : World} {K : PySem.W.Frag} {mg : Str → Option Value} {base : Heap}
/-! the tree of a history: all rooms that ever stood, by their addresses, and the cuts -/
abbrev AR : Type := List Nat × List Nat
def lk (l : List AR) (a : List Nat) : Option (List Nat) := (l.find? fun r => decide (r.1 = a)).map (·.2)
def kvR (l : List AR) : List (Key × V) := l.map fun r => (.inr (S r.1), .str (S r.2))
theorem S_inj {a b : List Nat} (h : S a = S b) : a = b := congrArg (fun z : Str => z.cps.toList) h
theorem inr_S {a b : List Nat} : ((.inr (S a) : Key) = .inr (S b)) ↔ a = b := ⟨fun h => S_inj (Sum.inr.inj h), fun h => by rw [h]⟩
theorem valV_kvR (a : List Nat) : ∀ l : List AR, valV (kvR l) (.inr (S a)) = (lk l a).map fun r => V.str (S r)
  | [] => rfl
  | r :: l => by
    by_cases e : r.1 = a
    · have e1 : lk (r :: l) a = some r.2 := by simp [lk, List.find?_cons, e]
      rw [e1]
      exact valV_pos (p := ((Sum.inr (S r.1), V.str (S r.2)) : Key × V)) (inr_S.mpr e)
    · have e1 : lk (r :: l) a = lk l a := by simp [lk, List.find?_cons, e]
      rw [e1, ← valV_kvR a l]
      exact valV_neg (p := ((Sum.inr (S r.1), V.str (S r.2)) : Key × V)) (fun h => e (inr_S.mp h))
theorem dropK_kvR (a : List Nat) : ∀ l : List AR, dropK (kvR l) (.inr (S a)) = kvR (l.filter fun r => decide (r.1 ≠ a))
  | [] => rfl
  | r :: l => by
    have ih := dropK_kvR a l
    unfold dropK kvR at ih ⊢
    rw [List.map_cons, List.filter_cons, List.filter_cons]
    by_cases e : r.1 = a
    · rw [if_neg (by simp [inr_S, e]), if_neg (by simp [e])]
      exact ih
    · rw [if_pos (by simp [inr_S, e]), if_pos (by simp [e]), List.map_cons, ih]
theorem lk_none {l : List AR} {a : List Nat} (h : a ∉ l.map (·.1)) : lk l a = none := by
  unfold lk
  rw [List.find?_eq_none.mpr (fun r hr => by
    intro e
    exact h (List.mem_map.mpr ⟨r, hr, of_decide_eq_true e⟩))]
  rfl
theorem lk_some {l : List AR} {a r : List Nat} (h : lk l a = some r) : (a, r) ∈ l := by
  unfold lk at h
  obtain ⟨x, hx, rfl⟩ := Option.map_eq_some_iff.mp h
  have h1 := List.find?_some hx
  have h2 := List.mem_of_find?_eq_some hx
  have e : x.1 = a := of_decide_eq_true h1
  rw [← e]
  exact h2
theorem lk_of {l : List AR} {a r : List Nat} (nd : (l.map (·.1)).Nodup) (h : (a, r) ∈ l) : lk l a = some r := by
  induction l with
  | nil => cases h
  | cons x l ih =>
    rw [List.map_cons, List.nodup_cons] at nd
    rcases List.mem_cons.mp h with e | h
    · rw [← e]
      simp [lk, List.find?_cons]
    · have ne : ¬ x.1 = a := fun e => nd.1 (e ▸ List.mem_map.mpr ⟨(a, r), h, rfl⟩)
      have e1 : lk (x :: l) a = lk l a := by simp [lk, List.find?_cons, ne]
      rw [e1]
      exact ih nd.2 h
theorem putK_kvR {l : List AR} {a r : List Nat} (h : a ∉ l.map (·.1)) : putK (kvR l) (.inr (S a)) (.str (S r)) = kvR (l ++ [(a, r)]) := by
  rw [putK_new _ (by rw [valV_kvR, lk_none h]; rfl)]
  unfold kvR
  rw [List.map_append]
  rfl
structure Tr where
  rooms : List AR
  cuts : List (List Nat × List Nat × Nat)
def Tr.isCut (t : Tr) (a : List Nat) : Bool := t.cuts.any fun c => decide (c.1 = a)
def Tr.stand (t : Tr) : List AR := t.rooms.filter fun r => !t.isCut r.1
def Tr.cutAt (t : Tr) (a p0 p1 room : List Nat) (c : Nat) : Tr := ⟨t.rooms ++ [(a ++ [48], p0), (a ++ [49], p1)], t.cuts ++ [(a, room, c)]⟩
def Tr.step (cut : List Nat → Nat → List Nat) (t : Tr) (s : List Nat × Nat) : Tr := match lk t.rooms s.1 with
  | none => t
  | some room => match splitL room (cut room s.2) with
    | [p0, p1] => t.cutAt s.1 p0 p1 room s.2
    | _ => t
def Tr.run (cut : List Nat → Nat → List Nat) (t : Tr) (ss : List (List Nat × Nat)) : Tr := ss.foldl (Tr.step cut) t
def Tr.start (room : List Nat) : Tr := ⟨[([], room)], []⟩
structure Tr.Ok (F : List Nat) (t : Tr) : Prop where
  nd : (t.rooms.map (·.1)).Nodup
  form : ∀ r ∈ t.rooms, r.2.length = 4 ∧ ∀ y ∈ r.2, y ∈ F
  par : ∀ r ∈ t.rooms, r.1 = [] ∨ ∃ p d, r.1 = p ++ [d] ∧ t.isCut p = true
  bit : ∀ r ∈ t.rooms, ∀ d ∈ r.1, d = 48 ∨ d = 49
  len : ∀ r ∈ t.rooms, r.1.length ≤ t.cuts.length
  few : t.rooms.length = 2 * t.cuts.length + 1
  cin : ∀ c ∈ t.cuts, (c.1, c.2.1) ∈ t.rooms
  ne : t.stand ≠ []
theorem Tr.start_ok {F room : List Nat} (h4 : room.length = 4) (hF : ∀ y ∈ room, y ∈ F) : (Tr.start room).Ok F := by
  refine ⟨by simp [Tr.start], fun r hr => ?_, fun r hr => ?_, fun r hr => ?_, fun r hr => ?_, rfl, fun c hc => (by cases hc), List.cons_ne_nil _ _⟩
  all_goals rw [List.mem_singleton.mp hr]
  · exact ⟨h4, hF⟩
  · exact .inl rfl
  · intro d hd
    cases hd
  · exact Nat.zero_le _
theorem Tr.start_stand (room : List Nat) : (Tr.start room).stand = [([], room)] := rfl
theorem Tr.stand_sub {t : Tr} {r : AR} (h : r ∈ t.stand) : r ∈ t.rooms ∧ t.isCut r.1 = false := by
  obtain ⟨h1, h2⟩ := List.mem_filter.mp h
  exact ⟨h1, by simpa using h2⟩
theorem Tr.Ok.stand_nd {F : List Nat} {t : Tr} (h : t.Ok F) : (t.stand.map (·.1)).Nodup := h.nd.sublist (List.Sublist.map _ (List.filter_sublist ..))
theorem Tr.fresh {F : List Nat} {t : Tr} (h : t.Ok F) {a : List Nat} (hc : t.isCut a = false) (d : Nat) : a ++ [d] ∉ t.rooms.map (·.1) := by
  intro e
  obtain ⟨r, hr, e1⟩ := List.mem_map.mp e
  rcases h.par r hr with e2 | ⟨p, d', e2, hp⟩
  · rw [e2] at e1
    exact absurd e1 (by simp)
  · rw [e2] at e1
    have : p = a := (List.append_inj' e1 rfl).1
    rw [this, hc] at hp
    cases hp
theorem isCut_snoc (t : Tr) (a p0 p1 room b : List Nat) (c : Nat) : (t.cutAt a p0 p1 room c).isCut b = (t.isCut b || decide (a = b)) := by
  unfold Tr.isCut Tr.cutAt
  rw [List.any_append]
  simp
/-- what a cut does to the rooms that stand -/
theorem Tr.cut_stand {F : List Nat} {t : Tr} (h : t.Ok F) {a p0 p1 room : List Nat} {c : Nat} (hs : (a, room) ∈ t.stand) : (t.cutAt a p0 p1 room c).stand = (t.stand.filter fun r => decide (r.1 ≠ a)) ++ [(a ++ [48], p0), (a ++ [49], p1)] := by
  have hc := (Tr.stand_sub hs).2
  unfold Tr.stand
  have e1 : (fun r : AR => !(t.cutAt a p0 p1 room c).isCut r.1) = fun r => (!t.isCut r.1 && decide (r.1 ≠ a)) := by
    funext r
    rw [isCut_snoc]
    by_cases e : a = r.1
    · simp [e]
    · simp [e, Ne.symm e]
  rw [e1, show (t.cutAt a p0 p1 room c).rooms = t.rooms ++ [(a ++ [48], p0), (a ++ [49], p1)] from rfl, List.filter_append, List.filter_filter]
  have e2 : ([(a ++ [48], p0), (a ++ [49], p1)] : List AR).filter (fun r => (!t.isCut r.1 && decide (r.1 ≠ a))) = [(a ++ [48], p0), (a ++ [49], p1)] := by
    refine List.filter_eq_self.mpr fun r hr => ?_
    have hn : ∀ d : Nat, t.isCut (a ++ [d]) = false := fun d => by
      cases z : t.isCut (a ++ [d]) with
      | false => rfl
      | true =>
        unfold Tr.isCut at z
        obtain ⟨x, hx, e⟩ := List.any_eq_true.mp z
        have e' : x.1 = a ++ [d] := of_decide_eq_true e
        have := h.cin x hx
        rw [e'] at this
        exact absurd (List.mem_map.mpr ⟨((a ++ [d], x.2.1) : AR), this, rfl⟩) (Tr.fresh h hc d)
    simp only [List.mem_cons, List.not_mem_nil, or_false] at hr
    rcases hr with rfl | rfl
    · simp [hn]
    · simp [hn]
  rw [e2]
  congr 1
  refine List.filter_congr fun r _ => ?_
  rw [Bool.and_comm]
theorem Tr.cut_ok {F : List Nat} {t : Tr} (h : t.Ok F) {a p0 p1 room : List Nat} {c : Nat} (hs : (a, room) ∈ t.stand) (h0 : p0.length = 4 ∧ ∀ y ∈ p0, y ∈ F) (h1 : p1.length = 4 ∧ ∀ y ∈ p1, y ∈ F) : (t.cutAt a p0 p1 room c).Ok F := by
  obtain ⟨hr, hc⟩ := Tr.stand_sub hs
  have mem : ∀ r ∈ (t.cutAt a p0 p1 room c).rooms, r ∈ t.rooms ∨ r = (a ++ [48], p0) ∨ r = (a ++ [49], p1) := fun r hr => by
    rcases List.mem_append.mp hr with h | h
    · exact .inl h
    · simp only [List.mem_cons, List.not_mem_nil, or_false] at h
      exact .inr h
  have hcl : (t.cutAt a p0 p1 room c).cuts.length = t.cuts.length + 1 := by simp [Tr.cutAt]
  refine ⟨?_, fun r hr' => ?_, fun r hr' => ?_, fun r hr' => ?_, fun r hr' => ?_, ?_, fun x hx => ?_, by rw [Tr.cut_stand h hs]; simp⟩
  · show List.Nodup (List.map (fun r : AR => r.1) (t.rooms ++ [(a ++ [48], p0), (a ++ [49], p1)]))
    rw [List.map_append, List.nodup_append]
    refine ⟨h.nd, by simp, fun x hx y hy => ?_⟩
    have hy' : y ∈ [a ++ [48], a ++ [49]] := hy
    simp only [List.mem_cons, List.not_mem_nil, or_false] at hy'
    rintro rfl
    rcases hy' with rfl | rfl
    · exact Tr.fresh h hc 48 hx
    · exact Tr.fresh h hc 49 hx
  · rcases mem r hr' with z | rfl | rfl
    · exact h.form r z
    · exact h0
    · exact h1
  · rcases mem r hr' with z | rfl | rfl
    · rcases h.par r z with e | ⟨p, d, e, hp⟩
      · exact .inl e
      · exact .inr ⟨p, d, e, by rw [isCut_snoc, hp]; rfl⟩
    · exact .inr ⟨a, 48, rfl, by rw [isCut_snoc, decide_eq_true rfl, Bool.or_true]⟩
    · exact .inr ⟨a, 49, rfl, by rw [isCut_snoc, decide_eq_true rfl, Bool.or_true]⟩
  · rcases mem r hr' with z | rfl | rfl
    · exact h.bit r z
    · intro d hd
      rcases List.mem_append.mp hd with e | e
      · exact h.bit _ hr d e
      · exact .inl (List.mem_singleton.mp e)
    · intro d hd
      rcases List.mem_append.mp hd with e | e
      · exact h.bit _ hr d e
      · exact .inr (List.mem_singleton.mp e)
  · rw [hcl]
    rcases mem r hr' with z | rfl | rfl
    · exact Nat.le_succ_of_le (h.len r z)
    · have := h.len _ hr
      simp only [List.length_append, List.length_singleton]
      simpa using this
    · have := h.len _ hr
      simp only [List.length_append, List.length_singleton]
      simpa using this
  · rw [hcl]
    show (t.rooms ++ _).length = _
    rw [List.length_append, h.few]
    show _ + 2 = _
    omega
  · rcases List.mem_append.mp hx with z | z
    · exact List.mem_append_left _ (h.cin x z)
    · rw [List.mem_singleton.mp z]
      exact List.mem_append_left _ hr
/-- a cut makes two parts or none -/
theorem split_two {room u F : List Nat} (h4 : room.length = 4) (hu : CutR u F) : (u = [] ∧ splitL room u = [room]) ∨ ∃ p0 p1, splitL room u = [p0, p1] := by
  rcases hu with rfl | ⟨g, x, y, rfl, _⟩
  · exact .inl ⟨rfl, splitL_none room⟩
  · obtain ⟨n, e, s, w, rfl⟩ := room4 h4
    right
    unfold splitL
    dsimp only
    split
    · exact ⟨_, _, rfl⟩
    · exact ⟨_, _, rfl⟩
/-- the steps are to rooms that stand, with cutters of the book -/
def Valid (cut : List Nat → Nat → List Nat) (C : List Nat) : Tr → List (List Nat × Nat) → Prop
  | _, [] => True
  | t, s :: r => lk t.stand s.1 ≠ none ∧ s.2 ∈ C ∧ Valid cut C (t.step cut s) r
theorem Tr.lk_rooms {F : List Nat} {t : Tr} (h : t.Ok F) {a room : List Nat} (hs : lk t.stand a = some room) : lk t.rooms a = some room := lk_of h.nd (Tr.stand_sub (lk_some hs)).1
theorem Tr.step_cases {F : List Nat} {t : Tr} (h : t.Ok F) {cut : List Nat → Nat → List Nat} (hcut : ∀ r c, CutR (cut r c) F) {a room : List Nat} {c : Nat} (hs : lk t.stand a = some room) :
    (splitL room (cut room c) = [room] ∧ t.step cut (a, c) = t) ∨ ∃ p0 p1, splitL room (cut room c) = [p0, p1] ∧ t.step cut (a, c) = t.cutAt a p0 p1 room c ∧ (t.cutAt a p0 p1 room c).Ok F := by
  have hr := Tr.lk_rooms h hs
  have hf := h.form _ (lk_some hr)
  have e1 : t.step cut (a, c) = (match splitL room (cut room c) with
    | [p0, p1] => t.cutAt a p0 p1 room c
    | _ => t) := by
    show (match lk t.rooms a with
      | none => t
      | some room => match splitL room (cut room c) with
        | [p0, p1] => t.cutAt a p0 p1 room c
        | _ => t) = _
    rw [hr]
  rcases split_two hf.1 (hcut room c) with ⟨_, e⟩ | ⟨p0, p1, e⟩
  · exact .inl ⟨e, by rw [e1, e]⟩
  · have hin := splitL_in hf.1 hf.2 (hcut room c)
    rw [e] at hin
    exact .inr ⟨p0, p1, e, by rw [e1, e], Tr.cut_ok h (lk_some hs) (hin p0 (by simp)) (hin p1 (by simp))⟩
theorem Tr.step_ok {F : List Nat} {t : Tr} (h : t.Ok F) {cut : List Nat → Nat → List Nat} (hcut : ∀ r c, CutR (cut r c) F) {s : List Nat × Nat} (hs : lk t.stand s.1 ≠ none) : (t.step cut s).Ok F ∧ (t.step cut s).cuts.length ≤ t.cuts.length + 1 := by
  cases e : lk t.stand s.1 with
  | none => exact absurd e hs
  | some room =>
    rcases Tr.step_cases h hcut (c := s.2) e with ⟨_, e2⟩ | ⟨p0, p1, _, e2, ok⟩
    · have : t.step cut s = t := e2
      rw [this]
      exact ⟨h, Nat.le_succ _⟩
    · have : t.step cut s = t.cutAt s.1 p0 p1 room s.2 := e2
      rw [this]
      exact ⟨ok, by simp [Tr.cutAt]⟩
abbrev s_check_room : Stmt := topS 27
theorem sc_check_room : FnScope ["book", "room"] ["book", "room"] (defScope s_check_room) := ⟨rfl, rfl, rfl, by decide +kernel, rfl, by decide +kernel, by decide +kernel⟩
def sp_check_room (K : PySem.W.Frag) (CB : Addr) : Sp := fun vs H Q _ => ∃ (x : Addr) (F C : List Nat) (ls : List LineV) (room : List Nat), vs = [.ref x, .str (S room)] ∧ BookAt K CB H x F C ls ∧ room.length = 4 ∧ (∀ y ∈ room, y ∈ F) ∧ ∀ H', Same H H' → Q .non H'
theorem bRoom_ok {room F : List Nat} (h4 : room.length = 4) (hf : ∀ y ∈ room, y ∈ F) : bRoom (.str (S room)) (S F) = true := by
  unfold bRoom
  rw [bString_yes hf, show decide ((strOf (V.str (S room))).cps.size = 4) = true from decide_eq_true h4]
  rfl
theorem ok_check_room {f CB : Addr} {fd : FuncData} (F : Fun K "check_room" "check_room" s_check_room f fd) (BC : BookC K CB) (c_is_room : Cal P w K mg base CX0 2 "is_room" s_is_room ["value", "faces"] (sp_is_room K)) : FnOk P w K mg base CX0 3 f fd ["book", "room"] (sp_check_room K CB) := by
  refine F.ok sc_check_room (fun vs H Q E h => ?_) (fun cdv A outer s H vs Q E hr h => ?_)
  · obtain ⟨x, F, C, ls, room, rfl, _⟩ := h
    rfl
  obtain ⟨x, fs, cs, ls, room, rfl, hB, hr4, hrf, q⟩ := h
  refine ⟨_, (pss_one (ps_if (pt_not (pt_val (pe_c c_is_room hr (by decide) (by rfl) (pa_cons (pv 1) (pa_cons (pe_fld (pv 0) rfl) pa_nil))))) pss_never pss_nil)), ?_⟩
  obtain ⟨dx, tl, hx, ht⟩ := hB.at_
  refine ⟨_, rfl, _, rfl, x, CB, dx, _, _, rfl, hx, BC.c, BC.nf, rfl, .str (S room), S fs, rfl, .inl ⟨rfl, (show room.length ≤ 100000 by omega)⟩, fun H1 s1 => ⟨_, rfl, ?_⟩⟩
  rw [bRoom_ok hr4 hrf]
  exact iteF (q _ s1)
end
end FW
namespace FW
open PySem PySem.Spec PyProof.Rows L2
-- more
section
variable {P : Program} {w : World} {K : PySem.W.Frag} {mg : Str → Option Value} {base : Heap}
/-- a list or a tuple -/
def Sq (K : PySem.W.Frag) (H : Hp) (v : V) (xs : List V) : Prop := (∃ a, v = .ref a ∧ SqL K H a xs) ∨ ∃ a, v = .ref a ∧ SqT K H a xs
theorem Sq.same {H H' : Hp} {v : V} {xs : List V} (h : Sq K H v xs) (s : Same H H') : Sq K H' v xs := by
  rcases h with ⟨a, e, h⟩ | ⟨a, e, h⟩
  · exact .inl ⟨a, e, s.seq h⟩
  · exact .inr ⟨a, e, s.tup h⟩
abbrev Stp : Type := List Nat × Nat
/-- the steps as they stand -/
def StepsAt (K : PySem.W.Frag) (H : Hp) (ts : List Addr) (ss : List Stp) : Prop := ts.length = ss.length ∧ ∀ (i : Nat) (t : Addr) (s : Stp), ts[i]? = some t → ss[i]? = some s → SqT K H t [.str (S s.1), .str (S [s.2])]
theorem StepsAt.same {H H' : Hp} {ts : List Addr} {ss : List Stp} (h : StepsAt K H ts ss) (s : Same H H') : StepsAt K H' ts ss := ⟨h.1, fun i t x h1 h2 => s.tup (h.2 i t x h1 h2)⟩
/-- the dict of the cuts -/
def CutsAt (H : Hp) (c : Addr) (cs : List (List Nat × List Nat × Nat)) : Prop := ∃ us : List Addr, us.length = cs.length ∧ H c = some (.dK ((cs.zip us).map fun q => ((Sum.inr (S q.1.1) : Key), V.ref q.2))) ∧ ∀ q ∈ cs.zip us, H q.2 = some (.tup [.str (S q.1.2.1), .str (S [q.1.2.2])])
theorem Valid.run {cut : List Nat → Nat → List Nat} {C F : List Nat} (hcut : ∀ r c, CutR (cut r c) F) : ∀ {ss : List Stp} {t : Tr}, t.Ok F → Valid cut C t ss → ∀ i, i ≤ ss.length → (Tr.run cut t (ss.take i)).Ok F ∧ Valid cut C (Tr.run cut t (ss.take i)) (ss.drop i) ∧ (Tr.run cut t (ss.take i)).cuts.length ≤ t.cuts.length + i
  | [], t, h, v, i, hi => by
    have : i = 0 := by simpa using hi
    subst this
    exact ⟨h, v, Nat.le_refl _⟩
  | s :: ss, t, h, v, 0, _ => ⟨h, v, Nat.le_refl _⟩
  | s :: ss, t, h, v, i + 1, hi => by
    obtain ⟨ok, hl⟩ := Tr.step_ok h hcut v.1
    obtain ⟨a, b, c⟩ := Valid.run hcut ok v.2.2 i (by simpa using hi)
    exact ⟨a, b, by
      have c' : (Tr.run cut t ((s :: ss).take (i + 1))).cuts.length ≤ (t.step cut s).cuts.length + i := c
      omega⟩
theorem run_snoc {cut : List Nat → Nat → List Nat} {t : Tr} {ss : List Stp} {i : Nat} {s : Stp} (h : ss[i]? = some s) : Tr.run cut t (ss.take (i + 1)) = (Tr.run cut t (ss.take i)).step cut s := by
  unfold Tr.run
  rw [List.take_add_one, h, List.foldl_append]
  rfl
theorem cuts_put {H : Hp} {c : Addr} {t : Tr} {a : List Nat} {v : V} (hc : t.isCut a = false) {us : List Addr} : putK ((t.cuts.zip us).map fun q => ((Sum.inr (S q.1.1) : Key), V.ref q.2)) (.inr (S a)) v = ((t.cuts.zip us).map fun q => ((Sum.inr (S q.1.1) : Key), V.ref q.2)) ++ [(.inr (S a), v)] := by
  refine putK_new _ ?_
  unfold valV
  rw [List.find?_eq_none.mpr]
  · rfl
  · intro x hx e
    obtain ⟨y, hy, rfl⟩ := List.mem_map.mp hx
    have e1 : y.1.1 = a := inr_S.mp (of_decide_eq_true e)
    have hm := (List.of_mem_zip (a := y.1) (b := y.2) hy).1
    unfold Tr.isCut at hc
    have := List.any_eq_false.mp hc _ hm
    exact this (decide_eq_true e1)
theorem CutsAt.put {H H' : Hp} {c tu : Addr} {t : Tr} {a p0 p1 room : List Nat} {x : Nat} (h : CutsAt H c t.cuts) (hc : t.isCut a = false) (keep : ∀ b o, H b = some o → b ≠ c → (∀ kvs, o ≠ .dK kvs) → H' b = some o)
    (ht : H' tu = some (.tup [.str (S room), .str (S [x])])) (hH : ∀ kvs, H c = some (.dK kvs) → H' c = some (.dK (putK kvs (.inr (S a)) (.ref tu)))) : CutsAt H' c (t.cutAt a p0 p1 room x).cuts := by
  obtain ⟨us, hl, h1, h2⟩ := h
  have ez : (t.cuts ++ [(a, room, x)]).zip (us ++ [tu]) = t.cuts.zip us ++ [((a, room, x), tu)] := by
    rw [List.zip_append hl.symm]
    rfl
  refine ⟨us ++ [tu], by simp [Tr.cutAt, hl], ?_, ?_⟩
  · rw [hH _ h1, cuts_put (H := H) (c := c) hc]
    show some (HO.dK _) = some (HO.dK ((((t.cuts ++ [(a, room, x)]).zip (us ++ [tu])).map _)))
    rw [ez, List.map_append]
    rfl
  · intro q hq
    have hq' : q ∈ (t.cuts ++ [(a, room, x)]).zip (us ++ [tu]) := hq
    rw [ez] at hq'
    rcases List.mem_append.mp hq' with e | e
    · exact keep _ _ (h2 q e) (fun z => by
        have := h2 q e
        rw [z, h1] at this
        cases this) (fun _ z => by cases z)
    · rw [List.mem_singleton.mp e]
      exact ht
end
end FW
namespace FW
open PySem PySem.Spec PyProof.Rows L2
-- more
section
variable {P : Program} {w : World} {K : PySem.W.Frag} {mg : Str → Option Value} {base : Heap}
/-! the rooms that stand, ascending -/
def Asc (l m : List AR) : Prop := l.Perm m ∧ l.Pairwise (fun x y => x.1 < y.1)
theorem asc_uniq {l l' m : List AR} (h : Asc l m) (h' : Asc l' m) : l = l' :=
  List.Perm.eq_of_pairwise (le := fun x y : AR => x.1 < y.1) (fun a b _ _ h1 h2 => absurd (List.lt_trans h1 h2) (List.lt_irrefl _)) h.2 h'.2 (h.1.trans h'.1.symm)
theorem strict_of {l : List AR} (h : l.Pairwise (fun x y => ¬ y.1 < x.1)) (nd : (l.map (·.1)).Nodup) : l.Pairwise (fun x y => x.1 < y.1) := by
  have h2 : l.Pairwise (fun x y => x.1 ≠ y.1) := List.pairwise_map.mp nd
  exact (h.and h2).imp fun ⟨a, b⟩ => (lt_or a).elim id fun e => absurd e.symm b
/-- what pair of texts stands there -/
noncomputable def prS (H : Hp) (v : V) : AR := by
  classical
  exact if h : ∃ q : Addr × AR, v = .ref q.1 ∧ H q.1 = some (.tup [.str (S q.2.1), .str (S q.2.2)]) then h.choose.2 else ([], [])
theorem prS_eq {H : Hp} {t : Addr} {r : AR} (h : H t = some (.tup [.str (S r.1), .str (S r.2)])) : prS H (.ref t) = r := by
  classical
  unfold prS
  have hx : ∃ q : Addr × AR, V.ref t = .ref q.1 ∧ H q.1 = some (.tup [.str (S q.2.1), .str (S q.2.2)]) := ⟨(t, r), rfl, h⟩
  rw [dif_pos hx]
  obtain ⟨e1, e2⟩ := hx.choose_spec
  generalize hx.choose = q at e1 e2
  have e3 : t = q.1 := V.ref.inj e1
  rw [← e3, h] at e2
  have e4 := HO.tup.inj (Option.some.inj e2)
  have a1 : S r.1 = S q.2.1 := V.str.inj (List.cons.inj e4).1
  have a2 : S r.2 = S q.2.2 := V.str.inj (List.cons.inj (List.cons.inj e4).2).1
  exact Prod.ext (S_inj a1).symm (S_inj a2).symm
def adr : V → Addr
  | .ref a => a
  | _ => 0
/-- pairs of texts as they stand -/
def PairsAt (H : Hp) (qs : List (Addr × AR)) : Prop := ∀ q ∈ qs, H q.1 = some (.tup [.str (S q.2.1), .str (S q.2.2)])
theorem PairsAt.same {H H' : Hp} {qs : List (Addr × AR)} (h : PairsAt H qs) (s : Same H H') : PairsAt H' qs := fun q hq => s _ _ (h q hq)
theorem paired_map {H : Hp} : ∀ {ts : List Addr} {l : List AR}, Paired (fun (t : Addr) (q : Key × V) => H t = some (.tup [kV q.1, q.2])) ts (kvR l) → (ts.map V.ref).map (prS H) = l ∧ ∀ t ∈ ts, ∃ r ∈ l, H t = some (.tup [.str (S r.1), .str (S r.2)])
  | [], [], _ => ⟨rfl, fun _ h => by cases h⟩
  | [], r :: l, h => by cases h
  | t :: ts, [], h => by cases h
  | t :: ts, r :: l, h => by
    cases h with
    | cons h1 h2 =>
      obtain ⟨e, q⟩ := paired_map (l := l) h2
      have h1' : H t = some (.tup [.str (S r.1), .str (S r.2)]) := h1
      refine ⟨?_, fun t' ht => ?_⟩
      · rw [List.map_cons, List.map_cons, prS_eq h1', e]
      · rcases List.mem_cons.mp ht with rfl | ht
        · exact ⟨r, List.mem_cons_self, h1'⟩
        · obtain ⟨r', a, b⟩ := q t' ht
          exact ⟨r', List.mem_cons_of_mem _ a, b⟩
theorem sorted_stand {H : Hp} {ts : List Addr} {l : List AR} {ys : List V} (hp : Paired (fun (t : Addr) (q : Key × V) => H t = some (.tup [kV q.1, q.2])) ts (kvR l)) (nd : (l.map (·.1)).Nodup) (hs : ys.Pairwise (fun x y => lexS (S (prS H y).1, S (prS H y).2) (S (prS H x).1, S (prS H x).2) = false)) (pm : ys.Perm (ts.map V.ref)) :
    ∃ qs : List (Addr × AR), ys = qs.map (fun q => V.ref q.1) ∧ PairsAt H qs ∧ Asc (qs.map (·.2)) l := by
  obtain ⟨e, hts⟩ := paired_map hp
  have hy : ∀ v ∈ ys, ∃ t, v = .ref t ∧ ∃ r ∈ l, H t = some (.tup [.str (S r.1), .str (S r.2)]) := fun v hv => by
    obtain ⟨t, ht, rfl⟩ := List.mem_map.mp (pm.mem_iff.mp hv)
    exact ⟨t, rfl, hts t ht⟩
  refine ⟨ys.map fun v => (adr v, prS H v), ?_, ?_, ?_, ?_⟩
  · rw [List.map_map]
    have : ys.map id = ys.map ((fun q : Addr × AR => V.ref q.1) ∘ fun v => (adr v, prS H v)) := List.map_congr_left fun v hv => by
      obtain ⟨t, rfl, _⟩ := hy v hv
      rfl
    rw [← this, List.map_id]
  · intro q hq
    obtain ⟨v, hv, rfl⟩ := List.mem_map.mp hq
    obtain ⟨t, rfl, r, _, h⟩ := hy v hv
    show H t = some (.tup [.str (S (prS H (.ref t)).1), .str (S (prS H (.ref t)).2)])
    rw [prS_eq h, h]
  · rw [List.map_map]
    have := pm.map (prS H)
    rw [e] at this
    exact this
  · have pm2 : (ys.map (prS H)).Perm l := by
      have := pm.map (prS H)
      rwa [e] at this
    have e2 : (ys.map fun v => (adr v, prS H v)).map (·.2) = ys.map (prS H) := by rw [List.map_map]; rfl
    rw [e2]
    refine strict_of (List.pairwise_map.mpr (hs.imp fun {a b} h => ?_)) ((pm2.map (·.1)).nodup_iff.mpr nd)
    have := lexS_no.mp h
    exact fun z => this (.inl z)
theorem sortedS_pw : ∀ {ys : List Str}, PyProof.Rows.sortedS ys = true → ys.Pairwise (fun x y => ¬ cl y < cl x)
  | [], _ => .nil
  | [_], _ => List.pairwise_singleton _ _
  | x :: y :: r, h => by
    have h' : (!ltCps (cl y) (cl x) && PyProof.Rows.sortedS (y :: r)) = true := h
    simp only [Bool.and_eq_true, Bool.not_eq_true'] at h'
    have h1 : ¬ cl y < cl x := by
      have := h'.1
      rw [PyProof.Rows.ltCps_eq] at this
      exact of_decide_eq_false this
    have ih := sortedS_pw (ys := y :: r) h'.2
    refine .cons (fun z hz => ?_) ih
    rcases List.mem_cons.mp hz with rfl | hz
    · exact h1
    · have h2 : ¬ cl z < cl y := List.rel_of_pairwise_cons ih hz
      intro q
      rcases lt_or h1 with a | a
      · exact h2 (List.lt_trans q a)
      · rw [← a] at q
        exact h2 q
/-- sorted keys, and what stands of them -/
theorem keys_sorted {T : Tr} {F : List Nat} (ok : T.Ok F) {ys : List Str} (pm : ys.Perm (T.rooms.map fun r => S r.1)) (hs : PyProof.Rows.sortedS ys = true) :
    ∃ as : List (List Nat), ys = as.map S ∧ (∀ a ∈ as, ∃ r, lk T.rooms a = some r) ∧ Asc ((as.filter fun a => !T.isCut a).map fun a => (a, (lk T.rooms a).getD [])) T.stand := by
  have e0 : ys = (ys.map cl).map S := by
    rw [List.map_map]
    have : ys.map id = ys.map (S ∘ cl) := List.map_congr_left fun y _ => (S_tl y).symm
    rw [← this, List.map_id]
  have pm1 : (ys.map cl).Perm (T.rooms.map (·.1)) := by
    have := pm.map cl
    rw [List.map_map] at this
    exact this
  refine ⟨ys.map cl, e0, fun a ha => ?_, ?_, ?_⟩
  · obtain ⟨r, hr, rfl⟩ := List.mem_map.mp (pm1.mem_iff.mp ha)
    exact ⟨r.2, lk_of ok.nd hr⟩
  · have p2 := (pm1.filter fun a => !T.isCut a).map fun a => (a, (lk T.rooms a).getD [])
    refine p2.trans (List.Perm.of_eq ?_)
    unfold Tr.stand
    rw [List.filter_map, List.map_map]
    have : (T.rooms.filter fun r => !T.isCut r.1).map id = (T.rooms.filter ((fun a => !T.isCut a) ∘ fun r : AR => r.1)).map ((fun a => (a, (lk T.rooms a).getD [])) ∘ fun r : AR => r.1) := List.map_congr_left fun r hr => by
      have hr' := (List.mem_filter.mp hr).1
      show r = (r.1, (lk T.rooms r.1).getD [])
      rw [lk_of (r := r.2) ok.nd hr']
      rfl
    rw [← this, List.map_id]
  · refine strict_of (List.pairwise_map.mpr ?_) ?_
    · exact ((List.pairwise_map.mpr (sortedS_pw hs)).sublist (List.filter_sublist ..))
    · rw [List.map_map]
      have e : ((ys.map cl).filter fun a => !T.isCut a).map ((fun r : AR => r.1) ∘ fun a => (a, (lk T.rooms a).getD [])) = (ys.map cl).filter fun a => !T.isCut a := by
        have : ((ys.map cl).filter fun a => !T.isCut a).map id = ((ys.map cl).filter fun a => !T.isCut a).map ((fun r : AR => r.1) ∘ fun a => (a, (lk T.rooms a).getD [])) := List.map_congr_left fun a _ => rfl
        rw [← this, List.map_id]
      rw [e]
      exact (pm1.nodup_iff.mpr ok.nd).sublist (List.filter_sublist ..)
end
end FW
namespace FW
open PySem PySem.Spec PyProof.Rows L2
/-! ### sorted: texts, as many as there are -/
theorem strs_vals : ∀ {xs : List Str} {us : List Value}, Vals (xs.map V.str) us → StrsAre us xs
  | [], [], _ => .nil
  | [], _ :: _, h => by cases h
  | _ :: _, [], h => by cases h
  | x :: xs, u :: us, h => by
    have h1 : L2.RelV (.str x) u ∧ Vals (xs.map V.str) us := by
      cases h with
      | cons a b => exact ⟨a, b⟩
    obtain ⟨t, rfl⟩ := h1.1
    exact .cons x t (strs_vals h1.2)
theorem vals_strs {xs : List Str} {us : List Value} (h : StrsAre us xs) : Vals (xs.map V.str) us := by
  induction h with
  | nil => exact .nil
  | cons y t h ih => exact .cons ⟨t, rfl⟩ ih
def rSortedSA (K : PySem.W.Frag) : List V → Hp → VK → Prop := fun vs H Q => ∃ (a : Addr) (xs : List Str), vs = [V.ref a] ∧ SqL K H a (xs.map V.str) ∧ ∀ (ys : List Str) (p : Addr), ys.Perm xs → PyProof.Rows.sortedS ys = true → H p = none → Q (.ref p) (upd H p (.lst (ys.map V.str)))
section
variable {X : Cx}
theorem cr_sortedSA : CallR X (.builtin "sorted") (rSortedSA X.K) := by
  intro pins s σ H vs us Q I r h
  obtain ⟨a, xs, rfl, hs, q⟩ := h
  obtain ⟨its, rv, hl, hz⟩ := I.list hs
  obtain ⟨u, rfl, ru⟩ := L2.vals1 r
  obtain rfl : u = Value.ref a := ru
  have hst := strs_vals rv
  refine sorted_strsAny hl.isList hst (by rw [← rv.length]; exact hz) fun out ss' ho hp hso => ?_
  obtain ⟨n, hn⟩ := sortedAll_at s.heap its out
  refine ⟨.ref (s.heap.objs.size + 1), upd H (s.heap.objs.size + 1) (.lst (ss'.map V.str)), I.laid (t' := s.toks) (fun b o e => sortedAll_old e) (Nat.le_succ _) ⟨?_, out.toList, n, vals_strs ho, ?_⟩, rfl, q _ _ hp hso (I.hok.fresh (Nat.le_succ _))⟩
  · rw [List.length_map, hp.length_eq]
    rwa [List.length_map] at hz
  · rw [Array.toArray_toList]
    exact hn
end
end FW
namespace FW
open PySem PySem.Spec PyProof.Rows L2
-- more
section
variable {P : Program} {w : World} {K : PySem.W.Frag} {mg : Str → Option Value} {base : Heap}
theorem none_same {H H' : Hp} {p : Addr} (s : Same H H') (e : H' p = none) : H p = none := by
  cases z : H p with
  | none => rfl
  | some o =>
    rw [s _ _ z] at e
    cases e
/-! texts in lists of texts -/
theorem eqV_S (a b : List Nat) : eqV (.str (S a)) (.str (S b)) = decide (a = b) := by
  show decide _ = _
  exact decide_eq_decide.mpr ⟨fun h => S_inj h, fun h => by rw [h]⟩
theorem inV_S (a : List Nat) (l : List (List Nat)) : inV (.str (S a)) (l.map fun p => V.str (S p)) = decide (a ∈ l) := by
  unfold inV
  rw [List.any_map, Bool.eq_iff_iff, List.any_eq_true, decide_eq_true_iff]
  constructor
  · rintro ⟨x, hx, e⟩
    have e' : eqV (.str (S x)) (.str (S a)) = true := e
    rw [eqV_S] at e'
    rw [← of_decide_eq_true e']
    exact hx
  · intro h
    refine ⟨a, h, ?_⟩
    show eqV (.str (S a)) (.str (S a)) = true
    rw [eqV_S]
    exact decide_eq_true rfl
theorem flat_S (l : List (List Nat)) : (l.map fun p => V.str (S p)).all flatV = true := by
  rw [List.all_map, List.all_eq_true]
  intro x _
  rfl
/-! the rooms that can come -/
abbrev Rm : Type := List Nat
inductive Reach (cut : Rm → Nat → Rm) (C : List Nat) (start : Rm) : Rm → Prop
  | base : Reach cut C start start
  | step {r p : Rm} {c : Nat} : Reach cut C start r → c ∈ C → p ∈ splitL r (cut r c) → Reach cut C start p
/-- each room that can come, once -/
structure Whole (cut : Rm → Nat → Rm) (C : List Nat) (start : Rm) (L : List Rm) : Prop where
  nd : L.Nodup
  all : ∀ r, r ∈ L ↔ Reach cut C start r
theorem Whole.of {cut : Rm → Nat → Rm} {C : List Nat} {start : Rm} {L : List Rm} (nd : L.Nodup) (hs : start ∈ L) (hr : ∀ r ∈ L, Reach cut C start r) (hc : ∀ r ∈ L, ∀ c ∈ C, ∀ p ∈ splitL r (cut r c), p ∈ L) : Whole cut C start L := by
  refine ⟨nd, fun r => ⟨hr r, fun h => ?_⟩⟩
  induction h with
  | base => exact hs
  | step _ h2 h3 ih => exact hc _ ih _ h2 _ h3
theorem perm_of_mem {α : Type} [DecidableEq α] : ∀ {l m : List α}, l.Nodup → m.Nodup → (∀ x, x ∈ l ↔ x ∈ m) → l.Perm m
  | [], m, _, _, h => by
    have : m = [] := List.eq_nil_iff_forall_not_mem.mpr fun x hx => absurd ((h x).mpr hx) (by simp)
    rw [this]
  | x :: l, m, nl, nm, h => by
    rw [List.nodup_cons] at nl
    have hx : x ∈ m := (h x).mp List.mem_cons_self
    refine (List.Perm.cons x (perm_of_mem nl.2 (nm.erase x) fun y => ?_)).trans (List.perm_cons_erase hx).symm
    constructor
    · intro hy
      exact (List.mem_erase_of_ne (fun e => nl.1 (by rw [← e]; exact hy))).mpr ((h y).mp (List.mem_cons_of_mem _ hy))
    · intro hy
      have hne : y ≠ x := fun e => by
        rw [e] at hy
        exact (List.Nodup.not_mem_erase nm) hy
      have := (h y).mpr (List.mem_of_mem_erase hy)
      rcases List.mem_cons.mp this with e | e
      · exact absurd e hne
      · exact e
theorem Whole.perm {cut : Rm → Nat → Rm} {C : List Nat} {start : Rm} {L M : List Rm} (h : Whole cut C start L) (g : Whole cut C start M) : L.Perm M := perm_of_mem h.nd g.nd fun r => (h.all r).trans (g.all r).symm
/-- sorted texts of equal rooms are equal -/
theorem sortedS_uniq {l m : List Str} (hp : l.Perm m) (hl : PyProof.Rows.sortedS l = true) (hm : PyProof.Rows.sortedS m = true) : l = m := by
  refine List.Perm.eq_of_pairwise (le := fun x y : Str => ¬ cl y < cl x) (fun a b _ _ h1 h2 => ?_) (sortedS_pw hl) (sortedS_pw hm) hp
  rcases lt_or h1 with e | e
  · exact absurd e h2
  · exact (cl_inj e).symm
/-! how many there are -/
theorem nodup_le {α : Type} [DecidableEq α] : ∀ {l m : List α}, l.Nodup → (∀ x ∈ l, x ∈ m) → l.length ≤ m.length
  | [], _, _, _ => Nat.zero_le _
  | x :: l, m, nd, h => by
    rw [List.nodup_cons] at nd
    have hx : x ∈ m := h x List.mem_cons_self
    have e := (List.perm_cons_erase hx).length_eq
    have := nodup_le (m := m.erase x) nd.2 fun y hy => (List.mem_erase_of_ne (fun e => nd.1 (by rw [← e]; exact hy))).mpr (h y (List.mem_cons_of_mem _ hy))
    rw [List.length_cons] at e ⊢
    omega
theorem flat_len {α β : Type} {f : α → List β} {k : Nat} : ∀ {l : List α}, (∀ x ∈ l, (f x).length ≤ k) → (l.flatMap f).length ≤ l.length * k
  | [], _ => by simp
  | x :: l, h => by
    have h1 := h x List.mem_cons_self
    have h2 := flat_len (l := l) fun y hy => h y (List.mem_cons_of_mem _ hy)
    rw [List.flatMap_cons, List.length_append, List.length_cons, Nat.succ_mul]
    omega
def prod4 (A B C D : List Nat) : List Rm := A.flatMap fun a => B.flatMap fun b => C.flatMap fun c => D.map fun d => [a, b, c, d]
theorem prod4_len {A B C D : List Nat} {k : Nat} (hA : A.length ≤ k) (hB : B.length ≤ k) (hC : C.length ≤ k) (hD : D.length ≤ k) : (prod4 A B C D).length ≤ k * (k * (k * k)) := by
  unfold prod4
  have h1 : ∀ a b c : Nat, (D.map fun d => ([a, b, c, d] : Rm)).length ≤ k := fun a b c => by
    rw [List.length_map]
    exact hD
  have h2 : ∀ a b : Nat, (C.flatMap fun c => D.map fun d => ([a, b, c, d] : Rm)).length ≤ k * k := fun a b => Nat.le_trans (flat_len fun c _ => h1 a b c) (Nat.mul_le_mul_right _ hC)
  have h3 : ∀ a : Nat, (B.flatMap fun b => C.flatMap fun c => D.map fun d => ([a, b, c, d] : Rm)).length ≤ k * (k * k) := fun a => Nat.le_trans (flat_len fun b _ => h2 a b) (Nat.mul_le_mul_right _ hB)
  exact Nat.le_trans (flat_len fun a _ => h3 a) (Nat.mul_le_mul_right _ hA)
theorem prod4_mem {A B C D : List Nat} {a b c d : Nat} (hA : a ∈ A) (hB : b ∈ B) (hC : c ∈ C) (hD : d ∈ D) : ([a, b, c, d] : Rm) ∈ prod4 A B C D :=
  List.mem_flatMap.mpr ⟨a, hA, List.mem_flatMap.mpr ⟨b, hB, List.mem_flatMap.mpr ⟨c, hC, List.mem_map.mpr ⟨d, hD, rfl⟩⟩⟩⟩
theorem prod4_inv {A B C D : List Nat} {r : Rm} (h : r ∈ prod4 A B C D) : ∃ a b c d, r = [a, b, c, d] ∧ a ∈ A ∧ b ∈ B ∧ c ∈ C ∧ d ∈ D := by
  obtain ⟨a, hA, h⟩ := List.mem_flatMap.mp h
  obtain ⟨b, hB, h⟩ := List.mem_flatMap.mp h
  obtain ⟨c, hC, h⟩ := List.mem_flatMap.mp h
  obtain ⟨d, hD, rfl⟩ := List.mem_map.mp h
  exact ⟨a, b, c, d, rfl, hA, hB, hC, hD⟩
def xsOf (ls : List LineV) : List Nat := ls.map fun r => r.2.2.2.2.2.2.getD 1 0
def ysOf (ls : List LineV) : List Nat := ls.map fun r => r.2.2.2.2.2.2.getD 2 0
theorem cutL_mem (ls : List LineV) (r : Rm) (c : Nat) : cutL ls r c = [] ∨ ∃ l ∈ ls, cutL ls r c = l.2.2.2.2.2.2 := by
  unfold cutL
  split
  · rename_i i _
    cases e : ls[i]? with
    | none => exact .inl rfl
    | some l => exact .inr ⟨l, List.mem_of_getElem? e, rfl⟩
  · exact .inl rfl
def domL (ls : List LineV) (start : Rm) : List Rm := prod4 (start.getD 0 0 :: ysOf ls) (start.getD 1 0 :: xsOf ls) (start.getD 2 0 :: xsOf ls) (start.getD 3 0 :: ysOf ls)
theorem dom_len (ls : List LineV) (start : Rm) : (domL ls start).length ≤ (ls.length + 1) * ((ls.length + 1) * ((ls.length + 1) * (ls.length + 1))) := by
  refine prod4_len ?_ ?_ ?_ ?_ <;> simp [xsOf, ysOf]
theorem reach_dom {ls : List LineV} {F C : List Nat} {start : Rm} (hcu : ∀ r ∈ ls, CutR r.2.2.2.2.2.2 F) (h4 : start.length = 4) {r : Rm} (h : Reach (cutL ls) C start r) : r ∈ domL ls start := by
  induction h with
  | base =>
    obtain ⟨n, e, s, w, rfl⟩ := room4 h4
    exact prod4_mem List.mem_cons_self List.mem_cons_self List.mem_cons_self List.mem_cons_self
  | @step r p c h1 h2 h3 ih =>
    obtain ⟨n, e, s, w, rfl, hn, he, hs, hw⟩ := prod4_inv ih
    rcases cutL_mem ls [n, e, s, w] c with z | ⟨l, hl, z⟩
    · rw [z, splitL_none] at h3
      rw [List.mem_singleton.mp h3]
      exact ih
    · rcases hcu l hl with u | ⟨g, x, y, u, _⟩
      · rw [z, u, splitL_none] at h3
        rw [List.mem_singleton.mp h3]
        exact ih
      · have hx : x ∈ xsOf ls := List.mem_map.mpr ⟨l, hl, by rw [u]; rfl⟩
        have hy : y ∈ ysOf ls := List.mem_map.mpr ⟨l, hl, by rw [u]; rfl⟩
        rw [z, u] at h3
        have h3' : p ∈ (if g = 124 then [[n, x, s, w], [n, e, s, y]] else [[n, e, x, w], [y, e, s, w]]) := h3
        split at h3'
        · simp only [List.mem_cons, List.not_mem_nil, or_false] at h3'
          rcases h3' with rfl | rfl
          · exact prod4_mem hn (List.mem_cons_of_mem _ hx) hs hw
          · exact prod4_mem hn he hs (List.mem_cons_of_mem _ hy)
        · simp only [List.mem_cons, List.not_mem_nil, or_false] at h3'
          rcases h3' with rfl | rfl
          · exact prod4_mem hn he (List.mem_cons_of_mem _ hx) hw
          · exact prod4_mem (List.mem_cons_of_mem _ hy) he hs hw
theorem reach_len {ls : List LineV} {F C : List Nat} {start : Rm} (hcu : ∀ r ∈ ls, CutR r.2.2.2.2.2.2 F) (h4 : start.length = 4) (hl : ls.length ≤ 4) {L : List Rm} (nd : L.Nodup) (hr : ∀ r ∈ L, Reach (cutL ls) C start r) : L.length ≤ 625 := by
  refine Nat.le_trans (nodup_le nd fun r h => reach_dom hcu h4 (hr r h)) (Nat.le_trans (dom_len ls start) ?_)
  have h5 : ls.length + 1 ≤ 5 := by omega
  exact Nat.le_trans (Nat.mul_le_mul h5 (Nat.mul_le_mul h5 (Nat.mul_le_mul h5 h5))) (by decide)
theorem reach_form {cut : Rm → Nat → Rm} {F C : List Nat} {start : Rm} (hcut : ∀ r c, CutR (cut r c) F) (h4 : start.length = 4) (hF : ∀ y ∈ start, y ∈ F) {r : Rm} (h : Reach cut C start r) : r.length = 4 ∧ ∀ y ∈ r, y ∈ F := by
  induction h with
  | base => exact ⟨h4, hF⟩
  | step h1 h2 h3 ih => exact splitL_in ih.1 ih.2 (hcut _ _) _ h3
/-- two equal parts are the room itself -/
theorem split_nodup {cut r : Rm} {F : List Nat} (h4 : r.length = 4) (hu : CutR cut F) {L : List Rm} (hr : r ∈ L) : ((splitL r cut).filter fun p => !decide (p ∈ L)).Nodup := by
  rcases hu with rfl | ⟨g, x, y, rfl, _⟩
  · rw [splitL_none]
    simp [hr]
  · obtain ⟨n, e, s, w, rfl⟩ := room4 h4
    show (List.filter (fun p => !decide (p ∈ L)) (if g = 124 then [[n, x, s, w], [n, e, s, y]] else [[n, e, x, w], [y, e, s, w]])).Nodup
    split
    · by_cases q : ([n, x, s, w] : Rm) = [n, e, s, y]
      · have q1 : x = e := (List.cons.inj (List.cons.inj q).2).1
        have q2 : w = y := (List.cons.inj (List.cons.inj (List.cons.inj (List.cons.inj q).2).2).2).1
        subst q1
        subst q2
        simp [hr]
      · exact List.Nodup.sublist (List.filter_sublist ..) (List.nodup_cons.mpr ⟨fun h => q (List.mem_singleton.mp h), List.nodup_cons.mpr ⟨by simp, .nil⟩⟩)
    · by_cases q : ([n, e, x, w] : Rm) = [y, e, s, w]
      · have q1 : n = y := (List.cons.inj q).1
        have q2 : x = s := (List.cons.inj (List.cons.inj (List.cons.inj q).2).2).1
        subst q1
        subst q2
        simp [hr]
      · exact List.Nodup.sublist (List.filter_sublist ..) (List.nodup_cons.mpr ⟨fun h => q (List.mem_singleton.mp h), List.nodup_cons.mpr ⟨by simp, .nil⟩⟩)
/-- what stands behind a history can come -/
theorem tree_reach {cut : Rm → Nat → Rm} {F C : List Nat} {start : Rm} (hcut : ∀ r c, CutR (cut r c) F) : ∀ {ss : List Stp} {t : Tr}, t.Ok F → (∀ r ∈ t.rooms, Reach cut C start r.2) → Valid cut C t ss → ∀ r ∈ (Tr.run cut t ss).rooms, Reach cut C start r.2
  | [], _, _, h, _ => h
  | s :: ss, t, ok, h, v => by
    obtain ⟨a, c⟩ := s
    refine tree_reach hcut (ss := ss) (t := t.step cut (a, c)) (Tr.step_ok ok hcut v.1).1 ?_ v.2.2
    cases e : lk t.stand a with
    | none => exact absurd e v.1
    | some room =>
      rcases Tr.step_cases ok hcut (c := c) e with ⟨_, e2⟩ | ⟨p0, p1, es, e2, _⟩
      · rw [e2]
        exact h
      · rw [e2]
        intro r hr
        rcases List.mem_append.mp hr with g | g
        · exact h r g
        · have hroom := h _ (lk_some (Tr.lk_rooms ok e))
          have hm : r.2 ∈ splitL room (cut room c) := by
            rw [es]
            simp only [List.mem_cons, List.not_mem_nil, or_false] at g
            rcases g with rfl | rfl <;> simp
          exact .step hroom v.2.1 hm
end
end FW
namespace FW
open PySem PySem.Spec PyProof.Rows L2
-- more
section
variable {P : Program} {w : World} {K : PySem.W.Frag} {mg : Str → Option Value} {base : Heap}
abbrev s_InvalidRoom_init : Stmt := inCls (topS 7) 0
theorem sc_InvalidRoom_init : FnScope ["self", "given"] ["self", "given"] (defScope s_InvalidRoom_init) := ⟨rfl, rfl, rfl, by decide +kernel, rfl, by decide +kernel, by decide +kernel⟩
theorem ok_InvalidRoom_init {f : Addr} {fd : FuncData} (F : Fun K "__init__" "InvalidRoom.__init__" s_InvalidRoom_init f fd) (G : GsK K) : FnOk P w K mg base CX0 1 f fd ["self", "given"] (sp_init K "given") := by
  refine F.ok sc_InvalidRoom_init (fun vs H Q E h => ?_) (fun cdv A outer s H vs Q E hr h => ?_)
  · obtain ⟨a, C, v, z, rfl, _⟩ := h
    rfl
  · obtain ⟨a, C, v, z, rfl, ha, T, Te, Tn, nf, nc, q⟩ := h
    refine ⟨_, (pss_cons (ps_ost (pv 0) (pv 1)) (pss_one (ps_ost (pv 0) (pe_name (pe_cls G (pv 0)))))), ?_⟩
    refine ⟨_, rfl, _, rfl, a, C, rfl, T, nf, .inl ⟨ha, fun dx hd hda => ?_⟩⟩
    have e1 : (upd (upd H dx (exd dx [(Str.ofString "given", v)])) a (exo a C (some dx))) a = some (exo a C (some dx)) := upd_same
    have e2 : (upd (upd H dx (exd dx [(Str.ofString "given", v)])) a (exo a C (some dx))) dx = some (exd dx [(Str.ofString "given", v)]) := by
      rw [upd_ne hda, upd_same]
    refine ⟨_, rfl, a, C, rfl, .inr ⟨dx, _, e1, e2⟩, Te, C, z, rfl, Tn, _, rfl, a, C, rfl, T, nc, .inr ⟨dx, _, e1, e2, (show 1 ≤ 900 by decide), ?_⟩⟩
    exact q dx hd hda
abbrev s_InvalidView_init : Stmt := inCls (topS 9) 0
theorem sc_InvalidView_init : FnScope ["self", "given"] ["self", "given"] (defScope s_InvalidView_init) := ⟨rfl, rfl, rfl, by decide +kernel, rfl, by decide +kernel, by decide +kernel⟩
theorem ok_InvalidView_init {f : Addr} {fd : FuncData} (F : Fun K "__init__" "InvalidView.__init__" s_InvalidView_init f fd) (G : GsK K) : FnOk P w K mg base CX0 1 f fd ["self", "given"] (sp_init K "given") := by
  refine F.ok sc_InvalidView_init (fun vs H Q E h => ?_) (fun cdv A outer s H vs Q E hr h => ?_)
  · obtain ⟨a, C, v, z, rfl, _⟩ := h
    rfl
  · obtain ⟨a, C, v, z, rfl, ha, T, Te, Tn, nf, nc, q⟩ := h
    refine ⟨_, (pss_cons (ps_ost (pv 0) (pv 1)) (pss_one (ps_ost (pv 0) (pe_name (pe_cls G (pv 0)))))), ?_⟩
    refine ⟨_, rfl, _, rfl, a, C, rfl, T, nf, .inl ⟨ha, fun dx hd hda => ?_⟩⟩
    have e1 : (upd (upd H dx (exd dx [(Str.ofString "given", v)])) a (exo a C (some dx))) a = some (exo a C (some dx)) := upd_same
    have e2 : (upd (upd H dx (exd dx [(Str.ofString "given", v)])) a (exo a C (some dx))) dx = some (exd dx [(Str.ofString "given", v)]) := by
      rw [upd_ne hda, upd_same]
    refine ⟨_, rfl, a, C, rfl, .inr ⟨dx, _, e1, e2⟩, Te, C, z, rfl, Tn, _, rfl, a, C, rfl, T, nc, .inr ⟨dx, _, e1, e2, (show 1 ≤ 900 by decide), ?_⟩⟩
    exact q dx hd hda
def sp_check_roomX (K : PySem.W.Frag) (CB C : Addr) : Sp := fun vs H Q E => ∃ (x : Addr) (F Cc : List Nat) (ls : List LineV) (v : V), vs = [.ref x, v] ∧ BookAt K CB H x F Cc ls ∧ Askd K H v ∧ (bRoom v (S F) = true → ∀ H', Same H H' → Q .non H') ∧ (bRoom v (S F) = false → ∀ H' d, Same H H' → H' d = none → E (.ref C) (some d) (upd H' d (Err1 "given" "InvalidRoom" v)))
theorem okx_check_room {f CB C fI : Addr} {fd fdI : FuncData} (F : Fun K "check_room" "check_room" s_check_room f fd) (BC : BookC K CB) (TR : Kls K mg C fI "InvalidRoom") (nfg : PySem.W.findIn K (.ref C) (Str.ofString "given") = some none)
    (FI : FnOk P w K mg base CX0 1 fI fdI ["self", "given"] (sp_init K "given")) (bI : Binds K fdI ["self", "given"] [])
    (c_is_room : Cal P w K mg base CX0 2 "is_room" s_is_room ["value", "faces"] (sp_is_room K)) : FnOk P w K mg base (L2.CX P w) 3 f fd ["book", "room"] (sp_check_roomX K CB C) := by
  refine F.okX sc_check_room (fun vs H Q E h => ?_) (fun cdv A outer s H vs Q E hr h => ?_)
  · obtain ⟨x, F, Cc, ls, v, rfl, _⟩ := h
    rfl
  obtain ⟨x, fs, cs, ls, v, rfl, hB, hv, q1, q2⟩ := h
  refine ⟨_, (pss_one (ps_if (pt_not (pt_val (pe_c c_is_room hr (by decide) (by rfl) (pa_cons (pv 1) (pa_cons (pe_fld (pv 0) rfl) pa_nil)))))
    (pss_one (ps_raise rfl (takes_of rfl rfl rfl rfl) (pmk_oex TR.oex TR.init TR.tI FI (hr.mono (by decide)) bI .nil pass0 (by rfl) TR.g (pa_cons (pv 1) pa_nil)))) pss_nil)), ?_⟩
  obtain ⟨dx, tl, hx, ht⟩ := hB.at_
  refine ⟨_, rfl, _, rfl, x, CB, dx, _, _, rfl, hx, BC.c, BC.nf, rfl, v, S fs, rfl, hv, fun H1 s1 => ⟨_, rfl, ?_⟩⟩
  cases e : bRoom v (S fs) with
  | true => exact iteF (q1 e _ s1)
  | false =>
    refine iteT ⟨_, rfl, mk1 TR nfg fun d hd => ?_⟩
    exact q2 e _ d s1 hd
abbrev s_is_view : Stmt := topS 33
theorem sc_is_view : FnScope ["value"] ["value"] (defScope s_is_view) := ⟨rfl, rfl, rfl, by decide +kernel, rfl, by decide +kernel, by decide +kernel⟩
def viewL : List Nat := ("NESWAD" : Str).cps.toList
def sp_is_view (K : PySem.W.Frag) : Sp := fun vs H Q _ => ∃ v : V, vs = [v] ∧ Askd K H v ∧ ∀ H', Same H H' → Q (.bl (bLetter v viewL)) H'
theorem ok_is_view {f : Addr} {fd : FuncData} (F : Fun K "is_view" "is_view" s_is_view f fd) {t1 : Tok} (g_VIEWS : mg "VIEWS" = some (.str "NESWAD" t1))
    (c_is_letter : Cal P w K mg base CX0 1 "is_letter" s_is_letter ["value", "letters"] (sp_is_letter K)) : FnOk P w K mg base CX0 2 f fd ["value"] (sp_is_view K) := by
  refine F.ok sc_is_view (fun vs H Q E h => ?_) (fun cdv A outer s H vs Q E hr h => ?_)
  · obtain ⟨v, rfl, _⟩ := h
    rfl
  · obtain ⟨v, rfl, hv, q⟩ := h
    refine ⟨_, (pss_one (ps_ret (pe_c c_is_letter hr (by decide) (by rfl) (pa_cons (pv 0) (pa_cons (pe_glob (v := .str "NESWAD") rfl g_VIEWS ⟨_, rfl⟩) pa_nil))))), ?_⟩
    exact ⟨_, rfl, v, viewL, rfl, hv, q⟩
abbrev s_check_view : Stmt := topS 34
theorem sc_check_view : FnScope ["view"] ["view"] (defScope s_check_view) := ⟨rfl, rfl, rfl, by decide +kernel, rfl, by decide +kernel, by decide +kernel⟩
def sp_check_view (K : PySem.W.Frag) (C : Addr) : Sp := fun vs H Q E => ∃ v : V, vs = [v] ∧ Askd K H v ∧ (bLetter v viewL = true → ∀ H', Same H H' → Q .non H') ∧ (bLetter v viewL = false → ∀ H' d, Same H H' → H' d = none → E (.ref C) (some d) (upd H' d (Err1 "given" "InvalidView" v)))
theorem ok_check_view {f C fI : Addr} {fd fdI : FuncData} (F : Fun K "check_view" "check_view" s_check_view f fd) (T : Kls K mg C fI "InvalidView") (nf : PySem.W.findIn K (.ref C) (Str.ofString "given") = some none)
    (FI : FnOk P w K mg base CX0 1 fI fdI ["self", "given"] (sp_init K "given")) (bI : Binds K fdI ["self", "given"] [])
    (c_is_view : Cal P w K mg base CX0 2 "is_view" s_is_view ["value"] (sp_is_view K)) : FnOk P w K mg base (L2.CX P w) 3 f fd ["view"] (sp_check_view K C) := by
  refine F.okX sc_check_view (fun vs H Q E h => ?_) (fun cdv A outer s H vs Q E hr h => ?_)
  · obtain ⟨v, rfl, _⟩ := h
    rfl
  · obtain ⟨v, rfl, hv, q1, q2⟩ := h
    refine ⟨_, (pss_one (ps_if (pt_not (pt_val (pe_c c_is_view hr (by decide) (by rfl) (pa_cons (pv 0) pa_nil))))
      (pss_one (ps_raise rfl (takes_of rfl rfl rfl rfl) (pmk_oex T.oex T.init T.tI FI (hr.mono (by decide)) bI .nil pass0 (by rfl) T.g (pa_cons (pv 0) pa_nil)))) pss_nil)), ?_⟩
    refine ⟨_, rfl, v, rfl, hv, fun H' sm => ⟨_, rfl, ?_⟩⟩
    cases e : bLetter v viewL with
    | true => exact iteF (q1 e _ sm)
    | false =>
      refine iteT ⟨_, rfl, mk1 T nf fun d hd => ?_⟩
      exact q2 e _ d sm hd
abbrev s_rule : Stmt := topS 35
theorem sc_rule : FnScope ["view", "cut"] ["view", "cut"] (defScope s_rule) := ⟨rfl, rfl, rfl, by decide +kernel, rfl, by decide +kernel, by decide +kernel⟩
/-- the words of the two tables -/
def uprightOf (z : Str) : Str := if z = "N" then "both" else if z = "E" then "second" else if z = "S" then "both" else if z = "W" then "first" else if z = "A" then "both" else "either"
def levelOf (z : Str) : Str := if z = "N" then "first" else if z = "E" then "both" else if z = "S" then "second" else if z = "W" then "both" else if z = "A" then "either" else "both"
def viewsT : List Str := ["N", "E", "S", "W", "A", "D"]
def sp_rule (K : PySem.W.Frag) (C : Addr) : Sp := fun vs H Q E => ∃ (v : V) (c : Nat) (r : List Nat), vs = [v, .str (S (c :: r))] ∧ r.length ≤ 99999 ∧ Askd K H v ∧ (∀ z ∈ viewsT, v = .str z → ∀ H', Same H H' → Q (.str (if c = 124 then uprightOf z else levelOf z)) H') ∧
  (bLetter v viewL = false → ∀ H' d, Same H H' → H' d = none → E (.ref C) (some d) (upd H' d (Err1 "given" "InvalidView" v)))
theorem view_of {v : V} (h : bLetter v viewL = true) : ∃ z ∈ viewsT, v = .str z := by
  unfold bLetter at h
  simp only [Bool.and_eq_true, decide_eq_true_eq] at h
  obtain ⟨⟨h1, h2⟩, h3⟩ := h
  obtain ⟨z, rfl⟩ := str_of h1
  obtain ⟨c, rfl⟩ : ∃ c, z = S [c] := by
    obtain ⟨⟨l⟩⟩ := z
    match l, h2 with
    | [c], _ => exact ⟨c, rfl⟩
  refine ⟨S [c], ?_, rfl⟩
  have h4 : c ∈ viewL := h3
  have e : viewL = [78, 69, 83, 87, 65, 68] := by decide +kernel
  rw [e] at h4
  simp only [List.mem_cons, List.not_mem_nil, or_false] at h4
  rcases h4 with rfl | rfl | rfl | rfl | rfl | rfl <;> decide +kernel
theorem ok_rule {f C aU aL : Addr} {fd : FuncData} (F : Fun K "rule" "rule" s_rule f fd) (g__UPRIGHT : mg "_UPRIGHT" = some (.ref aU)) (g__LEVEL : mg "_LEVEL" = some (.ref aL)) (hU : ∀ z ∈ viewsT, KDct K w aU z (.str (uprightOf z))) (hL : ∀ z ∈ viewsT, KDct K w aL z (.str (levelOf z)))
    (c_check_view : Cal P w K mg base (L2.CX P w) 3 "check_view" s_check_view ["view"] (sp_check_view K C)) : FnOk P w K mg base (L2.CX P w) 4 f fd ["view", "cut"] (sp_rule K C) := by
  refine F.okX sc_rule (fun vs H Q E h => ?_) (fun cdv A outer s H vs Q E hr h => ?_)
  · obtain ⟨v, c, r, rfl, _⟩ := h
    rfl
  · obtain ⟨v, c, r, rfl, hr2, hv, q1, q2⟩ := h
    refine ⟨_, (pss_cons (ps_expr (pe_cx (E := E) c_check_view hr (by decide) (by rfl) (passes_call (takes_of rfl rfl rfl rfl) (fun _ _ _ _ h => h)) (pa_cons (pv 0) pa_nil)))
      (pss_one (ps_ret (pe_ifExp (pt_cmpR op_eq (pe_ix ix_str (pv 1) pe_int (fun _ _ => rfl)) pe_str (nomark _)) (pe_ix ix_kdict (pe_glob (v := .ref aU) rfl g__UPRIGHT rfl) (pv 0) (fun _ _ => rfl)) (pe_ix ix_kdict (pe_glob (v := .ref aL) rfl g__LEVEL rfl) (pv 0) (fun _ _ => rfl)))))), ?_⟩
    refine ⟨_, rfl, v, rfl, hv, fun hb H' sm => ?_, fun hb H' d sm hd => q2 hb H' d sm hd⟩
    obtain ⟨z, hz, rfl⟩ := view_of hb
    have q := q1 z hz rfl H' sm
    refine ⟨_, rfl, S (c :: r), 0, _, rfl, rfl, by rw [S_len]; exact sz (by show r.length + 1 ≤ 100000; omega), atI_nat (j := 0) rfl, ?_⟩
    refine ⟨rfl, _, rfl, ?_⟩
    by_cases hc : c = 124
    · rw [show decide (V.str (S [c]) = V.str "|") = true from decide_eq_true (by rw [hc]; rfl)]
      rw [if_pos hc] at q
      exact iteT ⟨_, rfl, aU, z, _, rfl, rfl, hU z hz, q⟩
    · rw [show decide (V.str (S [c]) = V.str "|") = false from decide_eq_false fun e => hc (by
        have e1 : ([c] : List Nat) = [124] := congrArg (fun x : Str => x.cps.toList) (V.str.inj e)
        exact (List.cons.inj e1).1)]
      rw [if_neg hc] at q
      exact iteF ⟨_, rfl, aL, z, _, rfl, rfl, hL z hz, q⟩
end
end FW
namespace FW
open PySem PySem.Spec PyProof.Rows L2
-- more
section
variable {P : Program} {w : World} {K : PySem.W.Frag} {mg : Str → Option Value} {base : Heap}
/-! the rooms behind a view -/
def idxW (wd : Str) : List Nat := if wd = "first" then [0] else if wd = "second" then [1] else [0, 1]
def wordV (z : Str) : List Nat → Str
  | [] => "both"
  | g :: _ => if g = 124 then uprightOf z else levelOf z
inductive VR (cut : Rm → Nat → Rm) (C : List Nat) (z : Str) (start : Rm) : Rm → Prop
  | base : VR cut C z start start
  | step {r p : Rm} {c i : Nat} : VR cut C z start r → c ∈ C → cut r c ≠ [] → i ∈ idxW (wordV z (cut r c)) → (splitL r (cut r c))[i]? = some p → VR cut C z start p
theorem VR.reach {cut : Rm → Nat → Rm} {C : List Nat} {z : Str} {start r : Rm} (h : VR cut C z start r) : Reach cut C start r := by
  induction h with
  | base => exact .base
  | step _ h2 _ _ h5 ih => exact .step ih h2 (List.mem_of_getElem? h5)
structure WholeV (cut : Rm → Nat → Rm) (C : List Nat) (z : Str) (start : Rm) (L : List Rm) : Prop where
  nd : L.Nodup
  all : ∀ r, r ∈ L ↔ VR cut C z start r
theorem WholeV.of {cut : Rm → Nat → Rm} {C : List Nat} {z : Str} {start : Rm} {L : List Rm} (nd : L.Nodup) (hs : start ∈ L) (hr : ∀ r ∈ L, VR cut C z start r)
    (hc : ∀ r ∈ L, ∀ c ∈ C, cut r c ≠ [] → ∀ i ∈ idxW (wordV z (cut r c)), ∀ p, (splitL r (cut r c))[i]? = some p → p ∈ L) : WholeV cut C z start L := by
  refine ⟨nd, fun r => ⟨hr r, fun h => ?_⟩⟩
  induction h with
  | base => exact hs
  | step _ h2 h3 h4 h5 ih => exact hc _ ih _ h2 h3 _ h4 _ h5
theorem WholeV.perm {cut : Rm → Nat → Rm} {C : List Nat} {z : Str} {start : Rm} {L M : List Rm} (h : WholeV cut C z start L) (g : WholeV cut C z start M) : L.Perm M := perm_of_mem h.nd g.nd fun r => (h.all r).trans (g.all r).symm
theorem idx_lt {wd : Str} {i : Nat} (h : i ∈ idxW wd) : i < 2 := by
  unfold idxW at h
  split at h
  · rw [List.mem_singleton.mp h]
    decide
  · split at h
    · rw [List.mem_singleton.mp h]
      decide
    · simp only [List.mem_cons, List.not_mem_nil, or_false] at h
      rcases h with rfl | rfl <;> decide
/-- a cut leaves two parts -/
theorem split_cut {r u F : List Nat} (h4 : r.length = 4) (hu : CutR u F) (h : u ≠ []) : ∃ g x y p0 p1, u = [g, x, y] ∧ (g = 124 ∨ g = 45) ∧ splitL r u = [p0, p1] := by
  rcases hu with rfl | ⟨g, x, y, rfl, hg, _⟩
  · exact absurd rfl h
  · rcases split_two (F := F) h4 (.inr ⟨g, x, y, rfl, hg, by assumption⟩) with ⟨e, _⟩ | ⟨p0, p1, e⟩
    · cases e
    · exact ⟨g, x, y, p0, p1, rfl, hg, e⟩
def inAD (z : Str) : Bool := decide (z = "A") || decide (z = "D")
def inNS (z : Str) : Bool := decide (z = "N") || decide (z = "S")
def inNW (z : Str) : Bool := decide (z = "N") || decide (z = "W")
theorem occAD : ∀ z ∈ viewsT, (!(Builtin.Str.occurrences "AD" z 0 ("AD" : Str).length 1).isEmpty) = inAD z := by decide +kernel
theorem occNS : ∀ z ∈ viewsT, (!(Builtin.Str.occurrences "NS" z 0 ("NS" : Str).length 1).isEmpty) = inNS z := by decide +kernel
theorem occNW : ∀ z ∈ viewsT, (!(Builtin.Str.occurrences "NW" z 0 ("NW" : Str).length 1).isEmpty) = inNW z := by decide +kernel
theorem used_eq : ∀ z ∈ viewsT, ∀ g ∈ [124, 45], (if (inAD z || (inNS z == decide (g = 124))) = true then [0, 1] else if inNW z = true then [0] else [1]) = idxW (if g = 124 then uprightOf z else levelOf z) := by decide +kernel
theorem rule_eq : ∀ z ∈ viewsT, ∀ g ∈ [124, 45], (if idxW (if g = 124 then uprightOf z else levelOf z) = [0, 1] then (if (z = "A" ∧ g = 45) ∨ (z = "D" ∧ g = 124) then ("either" : Str) else "both") else if idxW (if g = 124 then uprightOf z else levelOf z) = [0] then "first" else "second") = (if g = 124 then uprightOf z else levelOf z) := by decide +kernel
def wordsT : List Str := ["both", "first", "second", "either"]
theorem word_in : ∀ z ∈ viewsT, ∀ g ∈ [124, 45], (if g = 124 then uprightOf z else levelOf z) ∈ wordsT := by decide +kernel
abbrev s_splits : Stmt := topS 36
theorem sc_splits : FnScope ["book", "view", "room", "found", "cutter", "cut"] ["book", "view", "room"] (defScope s_splits) := ⟨rfl, rfl, rfl, by decide +kernel, rfl, by decide +kernel, by decide +kernel⟩
/-- what stands of each cut: the tuple, the list of the parts, the cutter -/
structure SpAt (H : Hp) (z : Str) (room : Rm) (cut : Nat → Rm) (q : Addr × Addr × Nat) : Prop where
  ne : cut q.2.2 ≠ []
  t : H q.1 = some (.tup [.str (S [q.2.2]), .str (wordV z (cut q.2.2)), .ref q.2.1])
  l : H q.2.1 = some (.lst ((splitL room (cut q.2.2)).map fun r => V.str (S r)))
theorem SpAt.same {H H' : Hp} {z : Str} {room : Rm} {cut : Nat → Rm} {q : Addr × Addr × Nat} (h : SpAt H z room cut q) (s : Same H H') : SpAt H' z room cut q := ⟨h.ne, s _ _ h.t, s _ _ h.l⟩
def sp_splits (K : PySem.W.Frag) (CB : Addr) : Sp := fun vs H Q _ => ∃ (x : Addr) (F C : List Nat) (ls : List LineV) (z : Str) (room : List Nat), vs = [.ref x, .str z, .str (S room)] ∧ BookAt K CB H x F C ls ∧ z ∈ viewsT ∧ room.length = 4 ∧ (∀ y ∈ room, y ∈ F) ∧ C.length ≤ 100 ∧
  ∀ (H' : Hp) (p : Addr) (D : List (Addr × Addr × Nat)), Same H H' → H p = none → H' p = some (.lst (D.map fun q => V.ref q.1)) → (∀ q ∈ D, SpAt H' z room (cutL ls room) q ∧ H q.2.1 = none) → D.map (·.2.2) = C.filter (fun c => !decide (cutL ls room c = [])) → Q (.ref p) H'
theorem ok_splits {f CB CV : Addr} {fd : FuncData} (F : Fun K "splits" "splits" s_splits f fd) (T : Z mg) (BC : BookC K CB) (c_cut : MCal P w K mg base CX0 CB 4 "cut" ["self", "room", "cutter"] (sp_Book_cut K CB))
    (c_parts_of : Cal P w K mg base CX0 1 "parts_of" s_parts_of ["room", "cut"] (sp_parts_of K)) (cx_rule : Cal P w K mg base (L2.CX P w) 4 "rule" s_rule ["view", "cut"] (sp_rule K CV)) : FnOk P w K mg base CX0 6 f fd ["book", "view", "room"] (sp_splits K CB) := by
  refine F.ok sc_splits (fun vs H Q E h => ?_) (fun cdv A outer s H vs Q E hr h => ?_)
  · obtain ⟨x, F, C, ls, z, room, rfl, _⟩ := h
    rfl
  obtain ⟨x, fs, cs, ls, z, room, rfl, hB, hz, hr4, hrf, hC, q⟩ := h
  refine ⟨_, (pss_cons (ps_set (i := 3) sc_splits.nd rfl (.inl rfl) (pe_lst pa_nil))
      (pss_cons (ps_for PassesOwn.never rfl (pi_str (pe_fld (pv 0) rfl)) (pg_name (i := 4) sc_splits.nd rfl (.inl rfl))
        (pss_cons (ps_set (i := 5) sc_splits.nd rfl (.inl rfl) (pe_m c_cut BC.c hr (by decide) (pv 0) (pa_cons (pv 2) (pa_cons (pv 4) pa_nil))))
      (pss_one (ps_if (pt_cmpR op_ne (pv 5) pe_str (nomark _)) (pss_one (ps_expr (pe_bm PySem.F.plainAttrs_list PySem.F.slot_list_append PySem.F.type_list_append mt_append (pv 3) (pa_cons (pe_tup (pa_cons (pv 4) (pa_cons (pe_cE cx_rule hr (by decide) (by rfl) (pa_cons (pv 1) (pa_cons (pv 5) pa_nil))) (pa_cons (pe_c c_parts_of hr (by decide) (by rfl) (pa_cons (pv 2) (pa_cons (pv 5) pa_nil))) pa_nil)))) pa_nil)))) pss_nil))))
      (pss_one (ps_ret (pv 3))))), ?_⟩
  obtain ⟨dx, tl, hx, ht⟩ := hB.at_
  have hcu : ∀ r ∈ ls, CutR r.2.2.2.2.2.2 fs := fun l hl => (hB.lines.ok l hl).cut
  have hcut : ∀ r c, CutR (cutL ls r c) fs := fun r c => cutL_form hcu
  have two : ∀ z ∈ viewsT, (z : Str).length ≤ 100 := by decide +kernel
  refine ⟨(show 0 ≤ sizeLine by decide), fun f0 nf0 => ?_⟩
  have s1 := same_upd (o := HO.lst ([] : List V)) nf0
  have hf1 : (upd H f0 (.lst [])) f0 = some (.lst (([] : List (Addr × Addr × Nat)).map fun q => V.ref q.1)) := upd_same
  generalize upd H f0 (.lst []) = H1 at s1 hf1 ⊢
  refine ⟨_, rfl, x, CB, dx, _, _, rfl, s1 _ _ hx, BC.c, BC.nc, rfl, S cs, rfl, ?_⟩
  refine for_it (walk_str (z := S cs)) (fun j σ H' => ∃ (D : List (Addr × Addr × Nat)) (y4 y5 : Option V), σ = [some (.ref x), some (.str z), some (.str (S room)), some (.ref f0), y4, y5] ∧ Same H H' ∧ H' f0 = some (.lst (D.map fun q => V.ref q.1)) ∧ (∀ q ∈ D, SpAt H' z room (cutL ls room) q) ∧ (∀ q ∈ D, q.2.1 ≠ f0 ∧ H q.2.1 = none) ∧ D.map (·.2.2) = (cs.take j).filter (fun c => !decide (cutL ls room c = []))) ⟨[], _, _, rfl, s1, hf1, (fun q hq => by cases hq), (fun q hq => by cases hq), rfl⟩ (fun _ _ _ _ _ => trivial) ?_ ?_
  · rintro j v σ H2 _ hj ⟨D, y4, y5, rfl, s2, hf2, hD2, hDf, hDm⟩ ⟨rfl, c, hc, rfl⟩
    have hc1 : cs[j]? = some c := by
      rw [← hc]
      show cs[j]? = cs.toArray[j]?
      rw [List.getElem?_toArray]
    have hcm := List.mem_of_getElem? hc1
    have et : cs.take (j + 1) = cs.take j ++ [c] := by
      rw [List.take_add_one, hc1]
      rfl
    have hDl : D.length ≤ 100 := by
      have := congrArg List.length hDm
      rw [List.length_map] at this
      have h2 := List.length_filter_le (fun c => !decide (cutL ls room c = [])) (cs.take j)
      rw [List.length_take] at h2
      omega
    refine ⟨_, rfl, x, dx, _, rfl, s2 _ _ hx, rfl, _, rfl, _, rfl, x, fs, cs, ls, room, c, rfl, hB.same s2, hr4, hrf, hcm, fun H3 s3 => ?_⟩
    have s23 := s2.trans s3
    have hf3 := s3 _ _ hf2
    have hD3 : ∀ q ∈ D, SpAt H3 z room (cutL ls room) q := fun q hq => (hD2 q hq).same s3
    have hg : ∀ (o : Bool), (!decide (cutL ls room c = [])) = o → (cs.take (j + 1)).filter (fun c => !decide (cutL ls room c = [])) = (cs.take j).filter (fun c => !decide (cutL ls room c = [])) ++ (if o = true then [c] else []) := fun o ho => by
      rw [et, List.filter_append, List.filter_cons, ho]
      rfl
    refine ⟨_, rfl, rfl, _, rfl, ite_ndec (fun hne => ?_) (fun he => ?_)⟩
    · have hne2 : cutL ls room c ≠ [] := fun e => hne (by rw [e]; rfl)
      obtain ⟨g, a, b, p0, p1, eu, hgs, esp⟩ := split_cut hr4 (hcut room c) hne2
      have hgm : g ∈ [124, 45] := by rcases hgs with rfl | rfl <;> decide
      obtain ⟨n, e, so, we, eroom⟩ := room4 hr4
      refine ⟨_, rfl, .inl ⟨rfl, _, SqL.of hf3⟩, _, rfl, _, rfl, _, rfl, .str z, g, [a, b], by rw [eu]; rfl, (show 2 ≤ 99999 by decide), .inl ⟨rfl, Nat.le_trans (two z hz) (by decide)⟩, fun z' hz' ez H4 s4 => ?_, fun hb => ?_⟩
      · obtain rfl : z = z' := V.str.inj ez
        have hf4 := s4 _ _ hf3
        refine ⟨_, rfl, _, rfl, n, e, so, we, S (cutL ls room c), by rw [eroom]; rfl, .inr ⟨g, a, b, by rw [eu]; rfl, fun pp npp => ?_⟩⟩
        have s5 := same_upd (o := HO.lst ((partsC n e so we g a b).map V.str)) npp
        have hp5 : (upd H4 pp (.lst ((partsC n e so we g a b).map V.str))) pp = some (.lst ((splitL room (cutL ls room c)).map fun r => V.str (S r))) := by
          rw [upd_same, eu, eroom, ← splitL_parts, List.map_map]
          rfl
        have s35 := s4.trans s5
        generalize upd H4 pp (.lst ((partsC n e so we g a b).map V.str)) = H5 at s5 hp5 s35 ⊢
        refine ⟨(show 3 ≤ sizeLine by decide), fun tu ntu => ?_⟩
        have ew : (if g = 124 then uprightOf z else levelOf z) = wordV z (cutL ls room c) := by rw [eu]; rfl
        rw [ew]
        have s6 := same_upd (o := HO.tup [V.str (S [c]), V.str (wordV z (cutL ls room c)), V.ref pp]) ntu
        have ht6 : (upd H5 tu (HO.tup [V.str (S [c]), V.str (wordV z (cutL ls room c)), V.ref pp])) tu = some (.tup [V.str (S [c]), V.str (wordV z (cutL ls room c)), V.ref pp]) := upd_same
        have s36 := s35.trans s6
        have hf6 := s36 _ _ hf3
        have hp6 := s6 _ _ hp5
        have hD6 : ∀ q ∈ D, SpAt (upd H5 tu (HO.tup [V.str (S [c]), V.str (wordV z (cutL ls room c)), V.ref pp])) z room (cutL ls room) q := fun q hq => (hD3 q hq).same s36
        have s06 := s23.trans s36
        generalize upd H5 tu (HO.tup [V.str (S [c]), V.str (wordV z (cutL ls room c)), V.ref pp]) = H6 at ht6 hf6 hp6 hD6 s06 ⊢
        refine ⟨f0, _, _, rfl, rfl, hf6, by rw [List.length_map]; exact sz1 (by omega), ?_⟩
        have ppf : pp ≠ f0 := fun w => by
          rw [w, hf4] at npp
          cases npp
        refine ⟨D ++ [(tu, pp, c)], _, _, rfl, fun b' o' e' => ?_, ?_, fun y hy => ?_, fun y hy => ?_, ?_⟩
        · rw [upd_ne (ne_of_none e' nf0)]
          exact s06 _ _ e'
        · rw [upd_same, List.map_append]
          rfl
        · have h6 : SpAt H6 z room (cutL ls room) y := by
            rcases List.mem_append.mp hy with w | w
            · exact hD6 y w
            · rw [List.mem_singleton.mp w]
              exact ⟨hne2, ht6, hp6⟩
          refine ⟨h6.ne, ?_, ?_⟩
          · rw [upd_ne (fun w => by have := h6.t; rw [w, hf6] at this; cases this)]
            exact h6.t
          · have h7 := h6.l
            have hyf : y.2.1 ≠ f0 := by
              rcases List.mem_append.mp hy with w | w
              · exact (hDf y w).1
              · rw [List.mem_singleton.mp w]
                exact ppf
            rw [upd_ne hyf]
            exact h7
        · rcases List.mem_append.mp hy with w | w
          · exact hDf y w
          · rw [List.mem_singleton.mp w]
            exact ⟨ppf, none_same (s23.trans s4) npp⟩
        · rw [hg true (by rw [decide_eq_false hne2]; rfl), List.map_append, hDm]
          rfl
      · exfalso
        revert hb
        have : ∀ z ∈ viewsT, ¬ bLetter (.str z) viewL = false := by decide +kernel
        exact this z hz
    · have he2 : cutL ls room c = [] := S_inj (V.str.inj he)
      refine ⟨D, _, _, rfl, s23, hf3, hD3, hDf, ?_⟩
      rw [hg false (by rw [decide_eq_true he2]; rfl), if_neg Bool.false_ne_true, List.append_nil]
      exact hDm
  · rintro σ H2 ⟨D, y4, y5, rfl, s2, hf2, hD2, hDf, hDm⟩
    rw [show cs.take (S cs).cps.size = cs from List.take_of_length_le (by rw [show (S cs).cps.size = cs.length from List.size_toArray ..]; exact Nat.le_refl _)] at hDm
    exact ⟨_, rfl, q H2 f0 D s2 nf0 hf2 (fun y hy => ⟨hD2 y hy, (hDf y hy).2⟩) hDm⟩
end
end FW
namespace FW
open PySem PySem.Spec PyProof.Rows L2
-- more
section
variable {P : Program} {w : World} {K : PySem.W.Frag} {mg : Str → Option Value} {base : Heap}
abbrev s_members : Stmt := topS 37
theorem sc_members : FnScope ["book", "start", "view", "found", "waiting", "room", "_", "how", "parts", "index"] ["book", "start", "view"] (defScope s_members) := ⟨rfl, rfl, rfl, by decide +kernel, rfl, by decide +kernel, by decide +kernel⟩
def keyS (r : Rm) : Key := Sum.inr (S r)
theorem valV_keys {r : Rm} : ∀ {kv : List (Key × V)} {L : List Rm}, kv.map (·.1) = L.map keyS → (valV kv (keyS r)).isSome = decide (r ∈ L)
  | [], [], _ => rfl
  | [], _ :: _, h => by cases h
  | _ :: _, [], h => by cases h
  | q :: kv, x :: L, h => by
    rw [List.map_cons, List.map_cons] at h
    obtain ⟨h1, h2⟩ := List.cons.inj h
    by_cases e : x = r
    · have : q.1 = keyS r := by rw [h1, e]
      rw [valV_pos this]
      simp [e]
    · have ne : ¬ q.1 = keyS r := fun z => e (inr_S.mp (h1.symm.trans z))
      rw [valV_neg ne, valV_keys h2]
      exact decide_eq_decide.mpr ⟨fun h => List.mem_cons_of_mem _ h, fun h => (List.mem_cons.mp h).elim (fun z => absurd z.symm e) id⟩
theorem room_of {v : V} {F : List Nat} (h : bRoom v (S F) = true) : ∃ start : List Nat, v = .str (S start) ∧ start.length = 4 ∧ ∀ y ∈ start, y ∈ F := by
  unfold bRoom bString at h
  simp only [Bool.and_eq_true, decide_eq_true_eq, List.all_eq_true] at h
  obtain ⟨⟨h1, h2⟩, h3⟩ := h
  obtain ⟨z, rfl⟩ := str_of h1
  refine ⟨cl z, by rw [S_tl], ?_, fun y hy => h2 y hy⟩
  exact h3
/-- the dict of what stands, the list of what waits -/
structure MSt (H H' : Hp) (d wl : Addr) (Ks wt : List Rm) (cut : Rm → Nat → Rm) (C : List Nat) (z : Str) (start : Rm) : Prop where
  keep : Same H H'
  hd : ∃ kv : List (Key × V), H' d = some (.dK kv) ∧ kv.map (·.1) = Ks.map keyS
  hw : H' wl = some (.lst (wt.map fun r => V.str (S r)))
  sub : ∀ r ∈ wt, r ∈ Ks
  nd : Ks.Nodup
  rc : ∀ r ∈ Ks, VR cut C z start r
  few : wt.length ≤ Ks.length
theorem MSt.same {H H' H2 : Hp} {d wl : Addr} {Ks wt : List Rm} {cut : Rm → Nat → Rm} {C : List Nat} {z : Str} {start : Rm} (h : MSt H H' d wl Ks wt cut C z start) (s : Same H' H2) : MSt H H2 d wl Ks wt cut C z start := by
  obtain ⟨kv, h1, h2⟩ := h.hd
  exact ⟨h.keep.trans s, ⟨kv, s _ _ h1, h2⟩, s _ _ h.hw, h.sub, h.nd, h.rc, h.few⟩
/-- while a room's cuts are gone through -/
structure MIn (H H7 H' : Hp) (d wl : Addr) (Ks wt0 Ks' wt' : List Rm) (cut : Rm → Nat → Rm) (C : List Nat) (z : Str) (start : Rm) : Prop where
  st : MSt H H' d wl Ks' wt' cut C z start
  far : ∀ b o, H7 b = some o → b ≠ d → b ≠ wl → H' b = some o
  up : ∀ q ∈ Ks, q ∈ Ks'
  upw : ∀ q ∈ wt0, q ∈ wt'
  down : ∀ q ∈ Ks', q ∈ Ks ∨ q ∈ wt'
  cnt : wt'.length + Ks.length = wt0.length + Ks'.length
/-- the tables of the words: each word's indexes stand as a tuple in the written part -/
def NamedAt (K : PySem.W.Frag) (w : World) (aN : Addr) : Prop := ∀ wd ∈ wordsT, ∃ t : Addr, KDct K w aN wd (.ref t) ∧ ∀ H, SqT K H t ((idxW wd).map fun i => V.int (i : Nat))
def sp_members (K : PySem.W.Frag) (CB C CV : Addr) : Sp := fun vs H Q E => ∃ (x : Addr) (F Cc : List Nat) (ls : List LineV) (v u : V), vs = [.ref x, v, u] ∧ BookAt K CB H x F Cc ls ∧ (∀ H', Same H H' → Askd K H' v) ∧ (∀ H', Same H H' → Askd K H' u) ∧ ls.length ≤ 4 ∧ Cc.length ≤ 100 ∧
  (bRoom v (S F) = false → ∀ H' d, Same H H' → H' d = none → E (.ref C) (some d) (upd H' d (Err1 "given" "InvalidRoom" v))) ∧
  (bRoom v (S F) = true → bLetter u viewL = false → ∀ H' d, Same H H' → H' d = none → E (.ref CV) (some d) (upd H' d (Err1 "given" "InvalidView" u))) ∧
  (∀ (start : List Nat) (z : Str), v = .str (S start) → u = .str z → z ∈ viewsT → start.length = 4 → (∀ y ∈ start, y ∈ F) → ∀ H' p ys L, Same H H' → H p = none → H' p = some (.lst (ys.map V.str)) → ys.Perm (L.map S) → PyProof.Rows.sortedS ys = true → WholeV (cutL ls) Cc z start L → L.length ≤ 625 → Q (.ref p) H')
theorem ok_members {f CB C CV aN : Addr} {fd : FuncData} (F : Fun K "members" "members" s_members f fd) (T : Z mg) (g_NAMED : mg "NAMED" = some (.ref aN)) (hN : NamedAt K w aN) (cx_check_room : Cal P w K mg base (L2.CX P w) 3 "check_room" s_check_room ["book", "room"] (sp_check_roomX K CB C))
    (cx_check_view : Cal P w K mg base (L2.CX P w) 3 "check_view" s_check_view ["view"] (sp_check_view K CV)) (c_splits : Cal P w K mg base CX0 6 "splits" s_splits ["book", "view", "room"] (sp_splits K CB)) : FnOk P w K mg base (L2.CX P w) 7 f fd ["book", "start", "view"] (sp_members K CB C CV) := by
  refine F.okX sc_members (fun vs H Q E h => ?_) (fun cdv A outer s H vs Q E hr h => ?_)
  · obtain ⟨x, F, Cc, ls, v, u, rfl, _⟩ := h
    rfl
  obtain ⟨x, fs, cs, ls, v, u, rfl, hB, hv, hu, hl4, hC, q1, q2, q3⟩ := h
  refine ⟨_, (pss_cons (ps_expr (pe_cx (E := E) cx_check_room hr (by decide) (by rfl) (passes_call (takes_of rfl rfl rfl rfl) (fun _ _ _ _ h => h)) (pa_cons (pv 0) (pa_cons (pv 1) pa_nil))))
      (pss_cons (ps_expr (pe_cx (E := E) cx_check_view hr (by decide) (by rfl) (passes_call (takes_of rfl rfl rfl rfl) (fun _ _ _ _ h => h)) (pa_cons (pv 2) pa_nil)))
      (pss_cons (ps_set (i := 3) sc_members.nd rfl (.inl rfl) (pe_disp (pps_cons (pv 1) pe_bl pps_nil) (by rfl) (by rfl) (fun z => by cases z) (by decide)))
      (pss_cons (ps_set (i := 4) sc_members.nd rfl (.inl rfl) (pe_lst (pa_cons (pv 1) pa_nil)))
      (pss_cons (ps_while (passes_of rfl) (pt_truth (pv 4) (by intro _; rfl)) (pss_cons (ps_set (i := 5) sc_members.nd rfl (.inl rfl) (pe_bm0 PySem.F.plainAttrs_list PySem.F.slot_list_pop PySem.F.type_list_pop mt_pop (pv 4)))
      (pss_one (ps_for (passes_of rfl) rfl (pi_list (pe_c c_splits hr (by decide) (by rfl) (pa_cons (pv 0) (pa_cons (pv 2) (pa_cons (pv 5) pa_nil))))) (pg_tup rfl (pgs_cons (pg_name (i := 6) sc_members.nd rfl (.inl rfl)) (pgs_cons (pg_name (i := 7) sc_members.nd rfl (.inl rfl)) (pgs_cons (pg_name (i := 8) sc_members.nd rfl (.inl rfl)) pgs_nil))))
        (pss_one (ps_for (passes_of rfl) rfl (pi_tup (pe_ix ix_kdict (pe_glob (v := .ref aN) rfl g_NAMED rfl) (pv 7) (fun _ _ => rfl))) (pg_name (i := 9) sc_members.nd rfl (.inl rfl))
        (pss_one (ps_if (pt_cmp (pc_dnotin (hu_of hr) (pe_ix ix_list (pv 8) (pv 9) (fun _ _ => rfl)) (pv 3))) (pss_cons (ps_dput (hu_of hr) (pv 3) (pe_ix ix_list (pv 8) (pv 9) (fun _ _ => rfl)) pe_bl rfl)
      (pss_one (ps_expr (pe_bm PySem.F.plainAttrs_list PySem.F.slot_list_append PySem.F.type_list_append mt_append (pv 4) (pa_cons (pe_ix ix_list (pv 8) (pv 9) (fun _ _ => rfl)) pa_nil))))) pss_nil))))))))
      (pss_one (ps_ret (pe_callB cr_sortedSA (by rfl) T.z_sorted (by decide +kernel) (pa_cons (pe_callTy (call_list_dK rfl) (by rfl) T.z_list (by decide +kernel) (pa_cons (pv 3) pa_nil)) pa_nil))))))))), ?_⟩
  refine ⟨_, rfl, _, rfl, x, fs, cs, ls, v, rfl, hB, hv _ (Same.refl _), fun hb H1 s1 => ?_, fun hb H1 d s1 nd => q1 hb H1 d s1 nd⟩
  refine ⟨_, rfl, u, rfl, hu _ s1, fun hb2 H2 s2 => ?_, fun hb2 H2 d s2 nd => q2 hb hb2 H2 d (s1.trans s2) nd⟩
  obtain ⟨start, rfl, hr4, hrf⟩ := room_of hb
  obtain ⟨z, hz, rfl⟩ := view_of hb2
  have qq := q3 start z rfl rfl hz hr4 hrf
  have s02 := s1.trans s2
  have hcu : ∀ r ∈ ls, CutR r.2.2.2.2.2.2 fs := fun l hl => (hB.lines.ok l hl).cut
  have hcut : ∀ r c, CutR (cutL ls r c) fs := fun r c => cutL_form hcu
  have hlen : ∀ {L : List Rm}, L.Nodup → (∀ r ∈ L, VR (cutL ls) cs z start r) → L.length ≤ 625 := fun nd h => reach_len hcu hr4 hl4 nd fun r hr => (h r hr).reach
  refine fun d nd => ⟨_, rfl, upd_same, [(keyS start, .bl true)], rfl, (show 1 ≤ 15 by decide), ?_⟩
  have ed : upd (upd H2 d (.dK [])) d (.dK (mergeK [] [(keyS start, V.bl true)])) = upd H2 d (.dK [(keyS start, .bl true)]) := upd_upd
  rw [ed]
  have nd0 := none_same s02 nd
  have s3 := same_upd (o := HO.dK [(keyS start, V.bl true)]) nd
  have hd3 : (upd H2 d (.dK [(keyS start, .bl true)])) d = some (.dK [(keyS start, .bl true)]) := upd_same
  have s03 := s02.trans s3
  generalize upd H2 d (.dK [(keyS start, .bl true)]) = H3 at s3 hd3 s03 ⊢
  refine ⟨_, rfl, (show 1 ≤ sizeLine by decide), fun wl nwl => ?_⟩
  have nwl0 := none_same s03 nwl
  have s4 := same_upd (o := HO.lst [V.str (S start)]) nwl
  have hw4 : (upd H3 wl (.lst [V.str (S start)])) wl = some (.lst (([start] : List Rm).map fun r => V.str (S r))) := upd_same
  have hd4 := s4 _ _ hd3
  have s04 := s03.trans s4
  generalize upd H3 wl (.lst [V.str (S start)]) = H4 at s4 hw4 hd4 s04 ⊢
  clear s1 s2 s3 s4 hd3 nwl nd ed s02 s03
  have m0 : MSt H H4 d wl [start] [start] (cutL ls) cs z start := ⟨s04, ⟨_, hd4, rfl⟩, hw4, (fun r hr => hr), (by simp), (fun r hr => by rw [List.mem_singleton.mp hr]; exact .base), Nat.le_refl _⟩
  let cntO : Option HO → Nat := fun o => match o with
    | some (.dK kv) => kv.length
    | some (.lst xs) => xs.length
    | _ => 0
  dsimp only [gName, tSeq]
  refine while_by (fun σ H' => ∃ (Ks wt : List Rm) (y5 y6 y7 y8 y9 : Option V), σ = [some (.ref x), some (.str (S start)), some (.str z), some (.ref d), some (.ref wl), y5, y6, y7, y8, y9] ∧ MSt H H' d wl Ks wt (cutL ls) cs z start ∧ start ∈ Ks ∧
    ∀ r ∈ Ks, r ∉ wt → ∀ c ∈ cs, cutL ls r c ≠ [] → ∀ i ∈ idxW (wordV z (cutL ls r c)), ∀ p, (splitL r (cutL ls r c))[i]? = some p → p ∈ Ks) (fun σ H' => 2000 + cntO (H' wl) - 2 * cntO (H' d)) ⟨[start], [start], _, _, _, _, _, rfl, m0, List.mem_cons_self, fun r hr hn => absurd hr hn⟩ ?_ (fun σ H' Q Q' h ⟨v, hv, k, t, q⟩ => ⟨v, hv, k, t, h _ _ q⟩)
  rintro σ H5 ⟨Ks, wt, y5, y6, y7, y8, y9, rfl, m5, hsK, hcl⟩
  refine ⟨_, rfl, !(wt.map fun r => V.str (S r)).isEmpty, .inl ⟨_, SqL.of m5.hw, rfl⟩, ?_⟩
  have wcc : wt = [] ∨ ∃ wt0 r, wt = wt0 ++ [r] := by
    rcases List.eq_nil_or_concat wt with e | ⟨wt0, r, e⟩
    · exact .inl e
    · exact .inr ⟨wt0, r, by rw [e, List.concat_eq_append]⟩
  rcases wcc with rfl | ⟨wt0, r, rfl⟩
  · refine iteF ?_
    obtain ⟨kv, hd5, hkv⟩ := m5.hd
    have hw : WholeV (cutL ls) cs z start Ks := WholeV.of m5.nd hsK m5.rc fun r hr c hc hne i hi p hp => hcl r hr (fun h => nomatch h) c hc hne i hi p hp
    refine ⟨_, rfl, d, kv, rfl, hd5, fun kq nkq => ?_⟩
    have ek : (kv.map fun q => kV q.1) = (Ks.map S).map V.str := by
      have := congrArg (List.map kV) hkv
      rw [List.map_map, List.map_map] at this
      rw [List.map_map]
      exact this
    rw [ek]
    have s6 := same_upd (o := HO.lst ((Ks.map S).map V.str)) nkq
    refine ⟨kq, Ks.map S, rfl, SqL.of upd_same, fun ys p hp hs np => ?_⟩
    have s7 := same_upd (o := HO.lst (ys.map V.str)) np
    have s06 := m5.keep.trans s6
    exact qq _ p ys Ks (s06.trans s7) (none_same s06 np) upd_same hp hs hw (hlen m5.nd m5.rc)
  · have hll : (wt0 ++ [r]).length = wt0.length + 1 := by rw [List.length_append, List.length_singleton]
    rw [show (!((wt0 ++ [r]).map fun r => V.str (S r)).isEmpty) = true from by simp]
    refine iteT ?_
    have hrK : r ∈ Ks := m5.sub r (List.mem_append_right _ (List.mem_singleton.mpr rfl))
    have hrR := (m5.rc r hrK).reach
    have hrf' := reach_form hcut hr4 hrf hrR
    have hK625 := hlen m5.nd m5.rc
    have hdw : d ≠ wl := fun e => by
      obtain ⟨kv, h1, _⟩ := m5.hd
      rw [e, m5.hw] at h1
      cases h1
    refine ⟨_, rfl, .inl ⟨rfl, _, SqL.of m5.hw⟩, wl, _, .str (S r), rfl, rfl, m5.hw, ?_, ?_⟩
    · rw [List.length_map, hll, List.getElem?_map, Nat.add_sub_cancel, List.getElem?_append_right (Nat.le_refl _), Nat.sub_self]
      rfl
    have edl : ((wt0 ++ [r]).map fun r => V.str (S r)).dropLast = wt0.map fun r => V.str (S r) := by
      rw [List.map_append, List.map_singleton, List.dropLast_concat]
    rw [edl]
    have m6 : MSt H (upd H5 wl (.lst (wt0.map fun r => V.str (S r)))) d wl Ks wt0 (cutL ls) cs z start := by
      obtain ⟨kv, h1, h2⟩ := m5.hd
      refine ⟨fun b o e => ?_, ⟨kv, ?_, h2⟩, upd_same, fun y hy => m5.sub y (List.mem_append_left _ hy), m5.nd, m5.rc, by have := m5.few; omega⟩
      · rw [upd_ne (ne_of_none e nwl0)]
        exact m5.keep _ _ e
      · rw [upd_ne hdw]
        exact h1
    have hcnt5 : cntO (H5 wl) = wt0.length + 1 := by
      rw [m5.hw]
      show ((wt0 ++ [r]).map fun r => V.str (S r)).length = _
      rw [List.length_map, hll]
    have hcnt5d : cntO (H5 d) = Ks.length := by
      obtain ⟨kv, h1, h2⟩ := m5.hd
      rw [h1]
      show kv.length = _
      have := congrArg List.length h2
      rwa [List.length_map, List.length_map] at this
    generalize upd H5 wl (.lst (wt0.map fun r => V.str (S r))) = H6 at m6 ⊢
    refine ⟨_, rfl, _, rfl, _, rfl, x, fs, cs, ls, z, r, rfl, hB.same m6.keep, hz, hrf'.1, hrf'.2, hC, fun H7 p D s7 np hp7 hD7 hDm => ?_⟩
    have m7 := m6.same s7
    have hpw : p ≠ wl := fun e => by
      rw [e, m6.hw] at np
      cases np
    have hpd : p ≠ d := fun e => by
      obtain ⟨kv, h1, _⟩ := m6.hd
      rw [e, h1] at np
      cases np
    have in0 : MIn H H7 H7 d wl Ks wt0 Ks wt0 (cutL ls) cs z start := ⟨m7, fun _ _ h _ _ => h, fun _ h => h, fun _ h => h, fun _ h => .inl h, by omega⟩
    refine ⟨p, rfl, ⟨_, SqL.of hp7⟩, for_list (xs := D.map fun q => V.ref q.1) (fun i σ H' => ∃ (Ks' wt' : List Rm) (y6 y7 y8 y9 : Option V), σ = [some (.ref x), some (.str (S start)), some (.str z), some (.ref d), some (.ref wl), some (.str (S r)), y6, y7, y8, y9] ∧ MIn H H7 H' d wl Ks wt0 Ks' wt' (cutL ls) cs z start ∧
        ∀ q ∈ D.take i, ∀ k ∈ idxW (wordV z (cutL ls r q.2.2)), ∀ y, (splitL r (cutL ls r q.2.2))[k]? = some y → y ∈ Ks')
      ⟨Ks, wt0, _, _, _, _, rfl, in0, (fun q hq => by cases hq)⟩ (fun i σ H' _ ⟨_, _, _, _, _, _, _, n, _⟩ => SqL.of (n.far _ _ hp7 hpd hpw)) ?_ ?_⟩
    · rintro i v σ H8 hv ⟨Ks', wt', y6, y7, y8, y9, rfl, in8, cov⟩
      rw [List.getElem?_map] at hv
      obtain ⟨q, hq1, rfl⟩ := Option.map_eq_some_iff.mp hv
      have hqm := List.mem_of_getElem? hq1
      obtain ⟨sp, nq2⟩ := hD7 q hqm
      have hcm : q.2.2 ∈ cs := by
        have : q.2.2 ∈ D.map (·.2.2) := List.mem_map.mpr ⟨q, hqm, rfl⟩
        rw [hDm] at this
        exact (List.mem_filter.mp this).1
      obtain ⟨g, a, b, p0, p1, eu, hgs, esp⟩ := split_cut hrf'.1 (hcut r q.2.2) sp.ne
      have hgm : g ∈ [124, 45] := by rcases hgs with rfl | rfl <;> decide
      have hwd : wordV z (cutL ls r q.2.2) ∈ wordsT := by
        rw [eu]
        exact word_in z hz g hgm
      obtain ⟨tN, hKD, hTN⟩ := hN _ hwd
      obtain ⟨kv7, hd7, hkv7⟩ := m7.hd
      have q1d : q.1 ≠ d := fun e => by
        have := sp.t
        rw [e, hd7] at this
        cases this
      have q1w : q.1 ≠ wl := fun e => by
        have := sp.t
        rw [e, m7.hw] at this
        cases this
      have q2d : q.2.1 ≠ d := fun e => by
        have := sp.l
        rw [e, hd7] at this
        cases this
      have q2w : q.2.1 ≠ wl := fun e => by
        rw [e, m6.hw] at nq2
        cases nq2
      have ht8 := in8.far _ _ sp.t q1d q1w
      refine ⟨q.1, _, rfl, SqT.of ht8, rfl, _, _, rfl, _, _, rfl, _, _, rfl, rfl, ?_⟩
      refine ⟨_, rfl, aN, _, _, rfl, rfl, hKD, tN, rfl, ⟨_, hTN _⟩, for_tup (xs := (idxW (wordV z (cutL ls r q.2.2))).map fun i => V.int (i : Nat)) (fun j σ H' => ∃ (Ks' wt' : List Rm) (y9 : Option V), σ = [some (.ref x), some (.str (S start)), some (.str z), some (.ref d), some (.ref wl), some (.str (S r)), some (.str (S [q.2.2])), some (.str (wordV z (cutL ls r q.2.2))), some (.ref q.2.1), y9] ∧ MIn H H7 H' d wl Ks wt0 Ks' wt' (cutL ls) cs z start ∧
          (∀ q ∈ D.take i, ∀ k ∈ idxW (wordV z (cutL ls r q.2.2)), ∀ y, (splitL r (cutL ls r q.2.2))[k]? = some y → y ∈ Ks') ∧ ∀ k ∈ (idxW (wordV z (cutL ls r q.2.2))).take j, ∀ y, (splitL r (cutL ls r q.2.2))[k]? = some y → y ∈ Ks')
        ⟨Ks', wt', _, rfl, in8, cov, (fun k hk => by cases hk)⟩ (fun _ _ _ _ _ => hTN _) ?_ ?_⟩
      · rintro j v σ H9 hv ⟨Ks2, wt2, y9, rfl, in9, cov9, ck9⟩
        rw [List.getElem?_map] at hv
        obtain ⟨k, hk1, rfl⟩ := Option.map_eq_some_iff.mp hv
        have hkm := List.mem_of_getElem? hk1
        have hk2 := idx_lt hkm
        obtain ⟨pt, hpt⟩ : ∃ pt, (splitL r (cutL ls r q.2.2))[k]? = some pt := by
          rw [esp]
          have : k = 0 ∨ k = 1 := by omega
          rcases this with rfl | rfl
          · exact ⟨p0, rfl⟩
          · exact ⟨p1, rfl⟩
        have et : (idxW (wordV z (cutL ls r q.2.2))).take (j + 1) = (idxW (wordV z (cutL ls r q.2.2))).take j ++ [k] := by
          rw [List.take_add_one, hk1]
          rfl
        have hl9 := in9.far _ _ sp.l q2d q2w
        have hat : atI ((splitL r (cutL ls r q.2.2)).map fun r => V.str (S r)) ((k : Nat) : Int) = some (.str (S pt)) := atI_nat (j := k) (by rw [List.getElem?_map, hpt]; rfl)
        obtain ⟨kv9, hd9, hkv9⟩ := in9.st.hd
        have hvk := valV_keys (r := pt) hkv9
        refine ⟨_, rfl, _, rfl, q.2.1, _, _, _, rfl, rfl, SqL.of hl9, hat, _, rfl, d, valV kv9 (keyS pt), rfl, DGet.k (k := keyS pt) hd9, _, rfl, ?_⟩
        rw [hvk]
        have hVR : VR (cutL ls) cs z start pt := .step (m5.rc r hrK) hcm sp.ne hkm hpt
        have h625 := hlen in9.st.nd in9.st.rc
        have hfew := in9.st.few
        refine ite_ndec (fun hne => ?_) (fun hin => ⟨Ks2, wt2, _, rfl, in9, cov9, fun k' hk' y hy => ?_⟩)
        · have hnone : valV kv9 (keyS pt) = none := by
            rw [decide_eq_false hne] at hvk
            cases w : valV kv9 (keyS pt) with
            | none => rfl
            | some v =>
              rw [w] at hvk
              cases hvk
          have hkl : kv9.length = Ks2.length := by
            have := congrArg List.length hkv9
            rwa [List.length_map, List.length_map] at this
          refine ⟨_, rfl, _, rfl, _, rfl, q.2.1, _, _, _, rfl, rfl, SqL.of hl9, hat, d, _, rfl, DPut.k (k := keyS pt) hd9 (sz1 (by omega)), ?_⟩
          rw [putK_new _ hnone]
          have hw10 : (upd H9 d (.dK (kv9 ++ [(keyS pt, V.bl true)]))) wl = some (.lst (wt2.map fun r => V.str (S r))) := by
            rw [upd_ne hdw.symm]
            exact in9.st.hw
          have hl10 : (upd H9 d (.dK (kv9 ++ [(keyS pt, V.bl true)]))) q.2.1 = some (.lst ((splitL r (cutL ls r q.2.2)).map fun r => V.str (S r))) := by
            rw [upd_ne q2d]
            exact hl9
          refine ⟨_, rfl, .inl ⟨rfl, _, SqL.of hw10⟩, _, rfl, _, rfl, q.2.1, _, _, _, rfl, rfl, SqL.of hl10, hat, wl, _, _, rfl, rfl, hw10, by rw [List.length_map]; exact sz1 (by omega), ?_⟩
          have hnd2 : (Ks2 ++ [pt]).Nodup := by
            rw [List.nodup_append]
            refine ⟨in9.st.nd, by simp, fun a ha b hb => ?_⟩
            rw [List.mem_singleton.mp hb]
            rintro rfl
            exact hne ha
          refine ⟨Ks2 ++ [pt], wt2 ++ [pt], _, rfl, ⟨⟨fun b o e => ?_, ⟨kv9 ++ [(keyS pt, V.bl true)], ?_, ?_⟩, ?_, fun y hy => ?_, hnd2, fun y hy => ?_, ?_⟩, fun b o e n1 n2 => ?_, fun y hy => List.mem_append_left _ (in9.up y hy), fun y hy => List.mem_append_left _ (in9.upw y hy), fun y hy => ?_, ?_⟩, fun q' hq' k' hk' y hy => List.mem_append_left _ (cov9 q' hq' k' hk' y hy), fun k' hk' y hy => ?_⟩
          · rw [upd_ne (ne_of_none e nwl0), upd_ne (ne_of_none e nd0)]
            exact in9.st.keep _ _ e
          · rw [upd_ne hdw]
            exact upd_same
          · rw [List.map_append, hkv9]
            exact (List.map_append (l₁ := Ks2) (l₂ := [pt]) (f := keyS)).symm
          · rw [upd_same, List.map_append]
            rfl
          · rcases List.mem_append.mp hy with w | w
            · exact List.mem_append_left _ (in9.st.sub y w)
            · exact List.mem_append_right _ w
          · rcases List.mem_append.mp hy with w | w
            · exact in9.st.rc y w
            · rw [List.mem_singleton.mp w]
              exact hVR
          · rw [List.length_append, List.length_append, List.length_singleton]
            omega
          · rw [upd_ne n2, upd_ne n1]
            exact in9.far _ _ e n1 n2
          · rcases List.mem_append.mp hy with w | w
            · exact (in9.down y w).imp id fun w2 => List.mem_append_left _ w2
            · exact .inr (List.mem_append_right _ w)
          · have := in9.cnt
            rw [List.length_append, List.length_append, List.length_singleton]
            omega
          · rw [et] at hk'
            rcases List.mem_append.mp hk' with w | w
            · exact List.mem_append_left _ (ck9 k' w y hy)
            · rw [List.mem_singleton.mp w, hpt] at hy
              obtain rfl : pt = y := Option.some.inj hy
              exact List.mem_append_right _ (List.mem_singleton.mpr rfl)
        · rw [et] at hk'
          rcases List.mem_append.mp hk' with w | w
          · exact ck9 k' w y hy
          · rw [List.mem_singleton.mp w, hpt] at hy
            obtain rfl : pt = y := Option.some.inj hy
            exact hin
      · rintro σ H9 ⟨Ks2, wt2, y9, rfl, in9, cov9, ck9⟩
        rw [List.take_of_length_le (by rw [List.length_map]; exact Nat.le_refl _)] at ck9
        refine ⟨Ks2, wt2, _, _, _, _, rfl, in9, fun q' hq' => ?_⟩
        rw [List.take_add_one, hq1] at hq'
        rcases List.mem_append.mp hq' with w | w
        · exact cov9 q' w
        · rw [List.mem_singleton.mp w]
          exact ck9
    · rintro σ H8 ⟨Ks2, wt2, y6, y7, y8, y9, rfl, in8, cov⟩
      rw [List.take_of_length_le (by rw [List.length_map]; exact Nat.le_refl _)] at cov
      have h625 := hlen in8.st.nd in8.st.rc
      refine ⟨⟨Ks2, wt2, _, _, _, _, _, rfl, in8.st, in8.up _ hsK, fun y hy hny c hc hne k hk w hw => ?_⟩, ?_⟩
      · rcases in8.down y hy with hyK | hyw
        · by_cases eyr : y = r
          · rw [eyr] at hw hk hne
            have : c ∈ D.map (·.2.2) := by
              rw [hDm]
              exact List.mem_filter.mpr ⟨hc, by simp [hne]⟩
            obtain ⟨q, hq, rfl⟩ := List.mem_map.mp this
            exact cov q hq k hk w hw
          · refine in8.up _ (hcl y hyK (fun h => ?_) c hc hne k hk w hw)
            rcases List.mem_append.mp h with v | v
            · exact hny (in8.upw y v)
            · exact eyr (List.mem_singleton.mp v)
        · exact absurd hyw hny
      · obtain ⟨kv8, hd8, hkv8⟩ := in8.st.hd
        have hkl8 : kv8.length = Ks2.length := by
          have := congrArg List.length hkv8
          rwa [List.length_map, List.length_map] at this
        have hc8 := in8.cnt
        have hmono := nodup_le m5.nd in8.up
        show 2000 + cntO (H8 wl) - 2 * cntO (H8 d) < 2000 + cntO (H5 wl) - 2 * cntO (H5 d)
        rw [hcnt5, hcnt5d, hd8, in8.st.hw]
        show 2000 + (wt2.map fun r => V.str (S r)).length - 2 * kv8.length < _
        rw [List.length_map, hkl8]
        omega
end
end FW
namespace FW
open PySem PySem.Spec PyProof.Rows L2
/-! ### a lambda as a thing of the heap; with defaults or without -/
/-- its names, cells and code object; what it answers; its defaults' tuple -/
structure LF where
  F : NdefX.NF
  e : Expr
  dV : Value
abbrev LF.fd (l : LF) (doc pm ctv : Value) : FuncData := PySem.W.kdv_fn l.F.name l.F.qual l.F.params (.expr l.e) l.F.scope l.F.cl l.dV doc pm (.ref l.F.c) ctv
abbrev LF.ob (l : LF) (doc pm ctv : Value) : Obj := { cls := .type "function", data := .func (l.fd doc pm ctv) }
def LamO (f : Addr) (l : LF) : HO := .ext fun h => ∃ doc pm ctv : Value, h.get? f = some (l.ob doc pm ctv)
theorem lamO_ne {f : Addr} {l : LF} (ps : Array Value) : LamO f l ≠ .tbl ps := by
  intro z
  unfold LamO at z
  cases z
theorem lamO_at {P : Program} {w : World} {H : Hp} {h : Heap} {f : Addr} {l : LF} (ok : HOk P w H h) (e : H f = some (LamO f l)) : ∃ doc pm ctv : Value, h.get? f = some (l.ob doc pm ctv) := (ok f _ e).1
/-- the lambda l stands at f, its code object too, its defaults are dvs -/
structure LamAt (H : Hp) (f : Addr) (l : LF) (dvs : List V) : Prop where
  fn : H f = some (LamO f l)
  co : H l.F.c = some (LamX.CodeO l.F.c l.F.qual)
  df : (dvs = [] ∧ l.dV = .none) ∨ (dvs ≠ [] ∧ ∃ T, l.dV = .ref T ∧ H T = some (.tup dvs))
theorem LamAt.ext {H H' : Hp} {f : Addr} {l : LF} {dvs : List V} (a : LamAt H f l dvs) (e : LamX.ExtN H H') : LamAt H' f l dvs :=
  ⟨e _ _ a.fn lamO_ne, e _ _ a.co LamX.codeO_ne, a.df.imp id fun ⟨n, T, h1, h2⟩ => ⟨n, T, h1, e _ _ h2 (fun _ z => by cases z)⟩⟩
theorem LamAt.same {H H' : Hp} {f : Addr} {l : LF} {dvs : List V} (a : LamAt H f l dvs) (e : Same H H') : LamAt H' f l dvs := a.ext fun b o h _ => e b o h
section
variable {X : Cx} {pins : List (Addr × Obj)} {σ : L2.St} {H : Hp} {s : Shared}
theorem inv_lam {l : LF} {t' : Nat} {doc pm ctv : Value} (I : Inv X pins σ H s) : Inv X pins σ (upd H s.heap.objs.size (LamO s.heap.objs.size l)) { s with heap := s.heap.push (l.ob doc pm ctv), toks := t' } := by
  have e : (s.heap.push (l.ob doc pm ctv)).get? s.heap.objs.size = some (l.ob doc pm ctv) := Heap.get?_push_size _ rfl
  exact I.laid (a := s.heap.objs.size) (fun _ _ q => Heap.get?_push_of_some _ q) (Nat.le_refl _) ⟨⟨doc, pm, ctv, e⟩, ⟨_, e⟩, fun h1 h2 ⟨d, p, t, z⟩ st => ⟨d, p, t, st _ z⟩⟩
/-- a lambda's object is made; its code object is new, or stands in the table -/
theorem lamD_make {T : List (Addr × Str)} {c P : Addr} {params : Arguments} {body : Expr} {scope : Scope} {pos : Pos} {dV : Value} {E Q : Value → Shared → Prop} (I : Inv X pins σ H s) (TB : LamX.TabB X.base X.mg c P)
    (hcode : X.env.code = .ref c) (hm : (P, X.env.qual ++ "<lambda>") ∈ T) (hu : ∀ p ∈ T, p.1 = P → p.2 = X.env.qual ++ "<lambda>")
    (hT : LamX.Tabs T H) (hfree : ∀ y ∈ scope.names, y.2 = .free → ∃ c, X.env.cells.lookup y.1 = some c)
    (h : ∀ (f c' : Addr) (H1 : Hp) (s' : Shared), Inv X pins σ H1 s' → LamX.ExtN H H1 → LamX.Tabs T H1 → H f = none →
      H1 f = some (LamO f ⟨⟨"<lambda>", X.env.qual ++ "<lambda>", params, [], scope, cloFrom X.env.cells scope.names [], c'⟩, body, dV⟩) → H1 c' = some (LamX.CodeO c' (X.env.qual ++ "<lambda>")) → Q (.ref f) s') :
    wpAny (model X.prog X.w) X.A (makeTail "<lambda>" (X.env.qual ++ "<lambda>") params (.expr body) scope X.env dV .none none pos pos.line) Q E s := by
  obtain ⟨ps, atP, tri, among⟩ := (show LamX.TabS H P (X.env.qual ++ "<lambda>") from hT _ hm)
  have bP := TB.bm.keeps I.bk
  have obP : s.heap.get? P = some { cls := .none, data := .fields ps } := I.hok P _ atP
  have tabStep : ∀ {H1 : Hp} {f : Addr} {l : LF}, LamX.Tabs T H1 → H1 f = none → LamX.Tabs T (upd H1 f (LamO f l)) := fun t n => t.ext fun b o e => by rw [upd_ne (ne_of_none e n)]; exact e
  have extStep : ∀ {H1 : Hp} {f : Addr} {l : LF}, LamX.ExtN H H1 → H1 f = none → LamX.ExtN H (upd H1 f (LamO f l)) := fun t n b o e q => by
    have z := t b o e q
    rw [upd_ne (ne_of_none z n)]
    exact z
  cases hc : codeAmong pos ps.toList with
  | some cv =>
    obtain ⟨c', rfl, hco⟩ := among pos cv hc
    refine PySem.W.kdv_makeTailHit (mg := X.mg) (c := c) (P := P) (ps := ps) (closure_ok hfree) I.ok.glob (I.mod.glob.keeps I.bk) hcode (TB.code.keeps I.bk) obP tri hc bP fun ctv doc h' tk hx hsz => ?_
    have I1 : Inv X pins σ H { s with heap := h', toks := tk } := I.kept hx
    have nF : H h'.objs.size = none := I1.hok.fresh (Nat.le_refl _)
    refine h h'.objs.size c' _ _ (inv_lam (t' := tk) I1) (extStep (LamX.ExtN.refl H) nF) (tabStep hT nF) nF upd_same ?_
    rw [upd_ne (ne_of_none hco nF)]
    exact hco
  | none =>
    refine PySem.W.kdv_makeTail (mg := X.mg) (c := c) (P := P) (ps := ps) (closure_ok hfree) I.ok.glob (I.mod.glob.keeps I.bk) hcode (TB.code.keeps I.bk) obP tri hc TB.gP bP fun c' ctv doc h' tk hx hge hlt hrec htb => ?_
    obtain ⟨c2, oc, vs, t, e2, hoc, hd, hv⟩ := hrec
    cases e2
    have nC : H c' = none := I.hok.fresh hge
    have I1 := LamX.inv_table (t' := tk) (more := #[rawInt pos.line, rawInt pos.col, .ref c']) I atP hx htb hge ⟨oc, vs, t, hoc, hd, hv⟩
    generalize hH1 : upd (upd H P (.tbl (ps ++ #[rawInt pos.line, rawInt pos.col, .ref c']))) c' (LamX.CodeO c' (X.env.qual ++ "<lambda>")) = H1 at I1
    have at1 : H1 c' = some (LamX.CodeO c' (X.env.qual ++ "<lambda>")) := by
      rw [← hH1]
      exact upd_same
    have hE : LamX.ExtN H H1 := fun b o e n => by
      rw [← hH1, upd_ne (ne_of_none e nC), upd_ne (fun z => n ps (by rw [z, atP] at e; exact (Option.some.inj e).symm))]
      exact e
    have T1 : LamX.Tabs T H1 := by
      intro p hp
      by_cases hb : p.1 = P
      · rw [hu p hp hb, hb]
        refine ⟨ps ++ #[rawInt pos.line, rawInt pos.col, .ref c'], ?_, ?_, fun p' cv hcv => ?_⟩
        · rw [← hH1, upd_ne (ne_of_none atP nC), upd_same]
        · rw [Array.toList_append]
          exact PySem.TriplesOk_snoc _ _ _ _ tri
        · rw [Array.toList_append] at hcv
          rcases LamX.among_app _ tri hcv with z | z
          · obtain ⟨c0, e1, e2⟩ := among p' cv z
            exact ⟨c0, e1, hE _ _ e2 LamX.codeO_ne⟩
          · exact ⟨c', z, at1⟩
      · obtain ⟨ps', a1, a2, a3⟩ := hT p hp
        refine ⟨ps', ?_, a2, fun p' cv hcv => ?_⟩
        · rw [← hH1, upd_ne (ne_of_none a1 nC), upd_ne hb]
          exact a1
        · obtain ⟨c0, e1, e2⟩ := a3 p' cv hcv
          exact ⟨c0, e1, hE _ _ e2 LamX.codeO_ne⟩
    have nF : H1 h'.objs.size = none := I1.hok.fresh (Nat.le_refl _)
    refine h h'.objs.size c' _ _ (inv_lam (t' := tk) I1) (extStep hE nF) (tabStep T1 nF) (I.hok.fresh (Nat.le_trans hge (Nat.le_of_lt hlt))) upd_same ?_
    rw [upd_ne (ne_of_none at1 nF)]
    exact at1
end
/-- the reading of a lambda as a value -/
def tLamV (T : List (Addr × Str)) (mk : Addr → Value → LF) (dvs : List V) : TE := fun σ H Q => LamX.Tabs T H ∧ ∀ (f c' : Addr) (dV : Value) (H1 : Hp), LamX.ExtN H H1 → LamX.Tabs T H1 → H f = none → LamAt H1 f (mk c' dV) dvs → Q (.ref f) H1
abbrev lamF (X : Cx) (params : Arguments) (body : Expr) (scope : Scope) (c' : Addr) (dV : Value) : LF := ⟨⟨"<lambda>", X.env.qual ++ "<lambda>", params, [], scope, cloFrom X.env.cells scope.names [], c'⟩, body, dV⟩
def lamFree (sc scope : Scope) : Bool := scope.names.all fun y => !decide (y.2 = .free) || decide (sc.names.lookup y.1 = some .cell) || decide (sc.names.lookup y.1 = some .free)
theorem lam_free {X : Cx} {scope : Scope} (h : lamFree X.env.scope scope = true) (ok : X.Ok) : ∀ y ∈ scope.names, y.2 = .free → ∃ c, X.env.cells.lookup y.1 = some c := by
  unfold lamFree at h
  rw [List.all_eq_true] at h
  intro y hy e
  have z := h y hy
  simp only [e, decide_true, Bool.not_true, Bool.false_or, Bool.or_eq_true, decide_eq_true_eq] at z
  exact ok.has _ z
section
variable {X : Cx}
/-- lambda: body -/
theorem pe_lam0 {T : List (Addr × Str)} {c P : Addr} {params : Arguments} {body : Expr} {scope : Scope} {pos : Pos} (TB : LamX.TabB X.base X.mg c P) (hcode : X.env.code = .ref c) (hm : (P, X.env.qual ++ "<lambda>") ∈ T)
    (hu : ∀ p ∈ T, p.1 = P → p.2 = X.env.qual ++ "<lambda>") (hdef : defaultsOf params X.env = ([], [])) (hfree : lamFree X.env.scope scope = true) :
    PE X (.Lambda params body scope pos) (tLamV T (lamF X params body scope) []) := by
  refine ⟨fun pins s σ H Q I h => ?_⟩
  obtain ⟨hT, h⟩ := h
  refine PySem.W.kla_eval hdef ?_
  rw [makeFunction_eq]
  simp only [List.zip_nil_right, List.filterMap_nil, List.isEmpty_nil, if_true, pure_bind]
  exact lamD_make I TB hcode hm hu hT (lam_free hfree I.ok) fun f c' H1 s' I1 e1 t1 n1 f1 c1 => ⟨.ref f, H1, I1, rfl, h f c' .none H1 e1 t1 n1 ⟨f1, c1, .inl ⟨rfl, rfl⟩⟩⟩
/-- lambda name=n: body -/
theorem pe_lam1 {T : List (Addr × Str)} {c P : Addr} {params : Arguments} {body : Expr} {scope : Scope} {pos : Pos} {n : Int} {j : Nat} {dp : Pos} (TB : LamX.TabB X.base X.mg c P) (hcode : X.env.code = .ref c) (hm : (P, X.env.qual ++ "<lambda>") ∈ T)
    (hu : ∀ p ∈ T, p.1 = P → p.2 = X.env.qual ++ "<lambda>") (hd : params.defaults = [.Constant (.int n) j dp]) (hk : params.kw_defaults = []) (hfree : lamFree X.env.scope scope = true) :
    PE X (.Lambda params body scope pos) (tLamV T (lamF X params body scope) [.int n]) := by
  refine ⟨fun pins s σ H Q I h => ?_⟩
  obtain ⟨hT, h⟩ := h
  refine PySem.W.kdv_lam (by rw [hd]; rfl) hk ?_
  rw [hd]
  refine PySem.W.kdv_all1 (thn ((pe_int (X := X)).run pins s σ H (fun v H1 => v = .int n ∧ H1 = H) I ⟨rfl, rfl⟩) fun u s1 ⟨v, H1, I1, r, e1, e2⟩ => PySem.W.kdv_all0 ?_)
  subst e1
  subst e2
  rw [makeFunction_eq]
  simp only [List.zip_nil_right, List.filterMap_nil, List.isEmpty_nil, List.isEmpty_cons, if_true, pure_bind, Bool.false_eq_true, if_false]
  refine wpAny_bind (wpAny_newTextTuple ?_)
  have nT : H1 s1.heap.objs.size = none := I1.hok.fresh (Nat.le_refl _)
  have I2 : Inv X pins σ (upd H1 s1.heap.objs.size (.tup [.int n])) { s1 with heap := s1.heap.push { cls := .type "tuple", data := .seq [u].toArray }, toks := s1.toks } :=
    I1.laid (fun _ _ q => Heap.get?_push_of_some _ q) (Nat.le_refl _) ⟨sz1 (by decide), [u], .cons r .nil, ⟨_, Heap.get?_push_size _ rfl, rfl, _, rfl⟩⟩
  have ex : ∀ b o, H1 b = some o → upd H1 s1.heap.objs.size (.tup [.int n]) b = some o := fun b o q => by
    rw [upd_ne (ne_of_none q nT)]
    exact q
  refine lamD_make I2 TB hcode hm hu (hT.ext ex) (lam_free hfree I.ok) fun f c' H3 s' I3 e3 t3 n3 f3 c3 => ⟨.ref f, H3, I3, rfl, ?_⟩
  refine h f c' (.ref s1.heap.objs.size) H3 ((LamX.ExtN.of ex).trans e3) t3 ?_ ⟨f3, c3, .inr ⟨by simp, _, rfl, e3 _ _ upd_same (fun _ z => by cases z)⟩⟩
  exact NdefX.upd_none n3
end
end FW
namespace FW
open PySem PySem.Spec PyProof.Rows L2
/-! ### lambdas in a list, each called two frames below the def that made them -/
theorem mod_more {K : PySem.W.Frag} {mg : Str → Option Value} {base b2 : Heap} (m : Mod K mg base) (k : ∀ b o, base.get? b = some o → b2.get? b = some o) : Mod K mg b2 := by
  obtain ⟨m1, m2, ⟨mb, m3, m4⟩, m5⟩ := m
  exact ⟨m1.keeps k, m2.keeps k, ⟨mb, m3.keeps k, m4⟩, m5.keeps k⟩
theorem funs_more {h base b2 : Heap} : ∀ {l : List Env}, h.FunFrames base l → (∀ b ∈ frs l, b2.get? b = none) → h.FunFrames b2 l
  | [], _, _ => trivial
  | env :: r, ⟨h1, ⟨L, o, hf, hn, ho, hd⟩, h3⟩, n => by
    have e : frs (env :: r) = L :: frs r := by
      unfold frs
      rw [List.filterMap_cons, hf]
    rw [e] at n
    exact ⟨h1, ⟨L, o, hf, n L (List.mem_cons_self), ho, hd⟩, funs_more h3 fun b hb => n b (List.mem_cons_of_mem _ hb)⟩
/-- a ground that holds less -/
theorem env0_less {P : Program} {w : World} {K : PySem.W.Frag} {mg : Str → Option Value} {base b2 : Heap} {A : Around} {outer : List Env} {s : Shared} {H : Hp} (e0 : Env0 P w K mg b2 A outer s H) (m : Mod K mg base) (sub : ∀ b o, base.get? b = some o → b2.get? b = some o)
    (sz : base.objs.size ≤ b2.objs.size) : Env0 P w K mg base A outer s H := by
  refine ⟨e0.frames, m, fun b o e => e0.bs b o (sub b o e), Nat.le_trans sz e0.bsz, ?_, e0.frf, e0.hok, e0.bare⟩
  refine funs_more e0.funs fun b hb => ?_
  cases e : base.get? b with
  | none => rfl
  | some o =>
    have z := (e0.funs.mem hb).1
    rw [sub b o e] at z
    cases z
/-- the ground, with the cells of the def that runs -/
theorem ground_cells {X : Cx} {pins : List (Addr × Obj)} {σ : L2.St} {H : Hp} {s : Shared} (I : Inv X pins σ H s) (hfn : ∀ x, X.fn x = true) (hst : X.stack = X.env :: X.outer) (hf : X.env.frame = some X.env.locals) :
    ∃ b2 : Heap, (∀ b o, X.base.get? b = some o → b2.get? b = some o) ∧ X.base.objs.size ≤ b2.objs.size ∧ Env0 X.prog X.w X.K X.mg b2 X.A X.stack s H ∧ ∀ y c, X.env.cells.lookup y = some c → ∀ v, s.heap.IsCell c v → b2.IsCell c v := by
  let isC : Addr → Bool := fun b => X.env.cells.any fun p => decide (X.env.cells.lookup p.1 = some b)
  have hC1 : ∀ b, isC b = true → ∃ y, X.env.cells.lookup y = some b := fun b e => by
    obtain ⟨p, _, hp⟩ := List.any_eq_true.mp e
    exact ⟨p.1, of_decide_eq_true hp⟩
  have hC2 : ∀ y b, X.env.cells.lookup y = some b → isC b = true := fun y b e => List.any_eq_true.mpr ⟨(y, b), PySem.mem_of_lookup e, decide_eq_true e⟩
  let hid : List Addr := (List.range s.heap.objs.size).filter fun b => (X.base.get? b).isNone && !isC b
  have up : ∀ b o, X.base.get? b = some o → (PySem.W.hideAll s.heap hid).get? b = some o := fun b o e => by
    refine PySem.W.hideAll_get hid (I.bk b o e) fun hm => ?_
    have z := (List.mem_filter.mp hm).2
    rw [e] at z
    simp at z
  have dn : ∀ b o, (PySem.W.hideAll s.heap hid).get? b = some o → s.heap.get? b = some o ∧ ((∃ u, X.base.get? b = some u) ∨ ∃ y, X.env.cells.lookup y = some b) := fun b o e => by
    have e1 := PySem.W.of_hideAll hid e
    refine ⟨e1, ?_⟩
    cases q : X.base.get? b with
    | some u => exact .inl ⟨u, rfl⟩
    | none =>
      cases q2 : isC b with
      | true => exact .inr (hC1 b q2)
      | false =>
        have hm : b ∈ hid := List.mem_filter.mpr ⟨List.mem_range.mpr (Heap.lt_size e1), by rw [q, q2]; rfl⟩
        have z := PySem.W.hideAll_none hid (h := s.heap) hm
        rw [e] at z
        cases z
  have sz : (PySem.W.hideAll s.heap hid).objs.size = s.heap.objs.size := PySem.W.hideAll_size hid s.heap
  have e0 := I.env0
  refine ⟨PySem.W.hideAll s.heap hid, up, by rw [sz]; exact e0.bsz, ⟨e0.frames, mod_more e0.mod up, fun b o e => ?_, Nat.le_of_eq sz, ?_, e0.frf, e0.hok, e0.bare⟩, fun y c e v ⟨o, ho, hd⟩ => ?_⟩
  · obtain ⟨e1, z⟩ := dn b o e
    refine ⟨e1, ?_⟩
    rcases z with ⟨u, z⟩ | ⟨y, z⟩
    · exact (e0.bs b u z).2
    · exact I.freeC y b z
  · refine funs_more e0.funs fun b hb => ?_
    cases q : (PySem.W.hideAll s.heap hid).get? b with
    | none => rfl
    | some o =>
      exfalso
      rcases (dn b o q).2 with ⟨u, z⟩ | ⟨y, z⟩
      · have z2 := (e0.funs.mem hb).1
        rw [z] at z2
        cases z2
      · rcases List.mem_cons.mp (I.stkSub b hb) with e | e
        · exact I.cne y b z e
        · obtain ⟨_, o2, ho2, _⟩ := I.ok.funs.mem e
          exact absurd (Nat.lt_of_lt_of_le (Heap.lt_size ho2) (I.ok.cab y b (hfn y) z)) (Nat.lt_irrefl _)
  · refine ⟨o, PySem.W.hideAll_get hid ho fun hm => ?_, hd⟩
    have z := (List.mem_filter.mp hm).2
    rw [hC2 y c e] at z
    simp at z
/-- what the cells hold, told of the ground -/
abbrev CellsIn (cl : List (Str × Addr)) (fr : List Str) (ws : List (Option V)) (g : Heap) : Prop := NdefX.CellsAt cl fr ws g fun _ => none
theorem cells_in {X : Cx} {b2 : Heap} {H : Hp} {s : Shared} {cl : List (Str × Addr)} {fr : List Str} {ws : List (Option V)} (C : NdefX.CellsAt cl fr ws s.heap H) (hs : ∀ y c, cl.lookup y = some c → ∃ y', X.env.cells.lookup y' = some c)
    (k : ∀ y c, X.env.cells.lookup y = some c → ∀ v, s.heap.IsCell c v → b2.IsCell c v) : CellsIn cl fr ws b2 := by
  have k2 : ∀ y c, cl.lookup y = some c → ∀ v, s.heap.IsCell c v → b2.IsCell c v := fun y c e v z => by
    obtain ⟨y', e'⟩ := hs y c e
    exact k y' c e' v z
  refine ⟨C.len, fun y c e => ?_, C.inj, fun i y e => ?_⟩
  · obtain ⟨_, v, z⟩ := C.all y c e
    exact ⟨rfl, v, k2 y c e v z⟩
  · obtain ⟨c, hc, hv⟩ := C.has i y e
    refine ⟨c, hc, fun v ev => ?_⟩
    obtain ⟨u, r, z⟩ := hv v ev
    exact ⟨u, r, k2 y c hc _ z⟩
theorem cells_out {b2 : Heap} {H : Hp} {h : Heap} {cl : List (Str × Addr)} {fr : List Str} {ws : List (Option V)} (C : CellsIn cl fr ws b2) (bs : ∀ b o, b2.get? b = some o → h.get? b = some o ∧ H b = none) : NdefX.CellsAt cl fr ws h H := by
  have k : ∀ c v, b2.IsCell c v → h.IsCell c v ∧ H c = none := fun c v ⟨o, ho, hd⟩ => ⟨⟨o, (bs c o ho).1, hd⟩, (bs c o ho).2⟩
  refine ⟨C.len, fun y c e => ?_, C.inj, fun i y e => ?_⟩
  · obtain ⟨_, v, z⟩ := C.all y c e
    exact ⟨(k c _ z).2, v, (k c _ z).1⟩
  · obtain ⟨c, hc, hv⟩ := C.has i y e
    refine ⟨c, hc, fun v ev => ?_⟩
    obtain ⟨u, r, z⟩ := hv v ev
    exact ⟨u, r, (k c _ z).1⟩
/-- what a call of the lambda does, by what its cells hold -/
def LamRun (P : Program) (w : World) (K : PySem.W.Frag) (mg : Str → Option Value) (base : Heap) (k : Nat) (l : LF) (dvs : List V) (fr : List Str) (tb : List (Option V) → XK → Hp → VK → Prop) : Prop :=
  ∀ (A : Around) (outer : List Env) (s : Shared) (H : Hp) (f : Addr) (ws : List (Option V)) (Q : VK) (E : XK), Room k A → Env0 P w K mg base A outer s H → LamAt H f l dvs → NdefX.CellsAt l.F.cl fr ws s.heap H → tb ws E H Q →
    codeAny (model P w) A (.call (.ref f) ⟨[], []⟩) (CR (L2.CX P w) outer P w H s Q E) s
/-- what its parameters are bound to -/
def LamBinds (P : Program) (w : World) (l : LF) (dvs : List V) (ps : List Str) : Prop :=
  ∀ (s : Shared) (H : Hp) (f : Addr), HOk P w H s.heap → LamAt H f l dvs → ∀ doc pm ctv : Value, ∃ us, Vals dvs us ∧ BindsTo s (l.fd doc pm ctv) ⟨[], []⟩ (ps.zip us)
theorem lam_run {P : Program} {w : World} {K : PySem.W.Frag} {mg : Str → Option Value} {base : Heap} {k : Nat} {l : LF} {dvs : List V} {N ps fr : List Str} {tb : XK → TE} (S : NdefX.NScope N ps fr l.F.scope) (hl : dvs.length = ps.length) (hb : LamBinds P w l dvs ps)
    (hbody : ∀ (A : Around) (outer : List Env) (s : Shared) (H : Hp) (E : XK) (f : Addr), Room k (A.deeper (NdefX.envF l.F f s.heap.objs.size)) → PE (NdefX.ncx (L2.CX P w) P w K mg base N l.F f A outer s H E) l.e (tb E)) :
    LamRun P w K mg base (k + 1) l dvs fr fun ws E H Q => tb E (NdefX.startF N dvs ws) H Q := by
  intro A outer s H f ws Q E hr e0 la C h
  obtain ⟨doc, pm, ctv, ho⟩ := lamO_at e0.hok la.fn
  obtain ⟨us, r, hbd⟩ := hb s H f e0.hok la doc pm ctv
  have lim : s.heap.NoLimit := e0.mod.nolimit.keeps fun b o e => (e0.bs b o e).1
  refine PySem.W.kla_callFunE hr.depth ho rfl S.co S.gen rfl (NdefX.codeO_at e0.hok la.co) ?_
  refine hbd _ _ _ _ (wpAny_newFunctionEnv S.nocell (fun ⟨n, _⟩ hy => S.par n (List.of_mem_zip hy).1) (fun h₁ hns hsb => ⟨lim.fresh _ hsb, ?_⟩) S.kind)
  show codeAny _ _ (.expr l.e (NdefX.envF l.F f s.heap.objs.size)) _ _
  have kp : ∀ b o, s.heap.get? b = some o → h₁.get? b = some o := fun b o e => hsb.extBut b o (Nat.ne_of_lt (Heap.lt_size e)) (Heap.get?_push_of_some _ e)
  have I : Inv (NdefX.ncx (L2.CX P w) P w K mg base N l.F f A outer s H E) [] (NdefX.startF N dvs ws) H { s with heap := h₁, toks := s.toks + (ps.zip us).length } := NdefX.inv_startN S hr.hd e0 hl r C hns kp
  refine PySem.W.kla_codeExpr (wpAny_mono ((hbody A outer s H E f (hr.deeper _)).run [] _ _ H Q I h) (fun v s' hq => ?_) fun e s' hq => hq)
  obtain ⟨w', H', J', rv, q⟩ := hq
  exact ⟨w', H', J'.os, J'.bare, J'.base, J'.hok, rv, q⟩
theorem binds_0 {P : Program} {w : World} {l : LF} (h : l.dV = .none → ∀ doc pm ctv : Value, bindArgs (l.fd doc pm ctv) ⟨[], []⟩ = pure []) : LamBinds P w l [] [] := fun s H f _ la doc pm ctv => by
  rcases la.df with ⟨_, e⟩ | ⟨n, _⟩
  · exact ⟨[], .nil, BindsTo.of_eq (h e doc pm ctv)⟩
  · exact absurd rfl n
theorem binds_1 {P : Program} {w : World} {l : LF} {x : V} {p : Str} (h : ∀ doc pm ctv : Value, ∃ k : Option (Array Value) → Sem (List (Str × Value)), bindArgs (l.fd doc pm ctv) ⟨[], []⟩ = seqItems? l.dV >>= k ∧ ∀ u : Value, k (some #[u]) = pure [(p, u)]) : LamBinds P w l [x] [p] := by
  intro s H f ok la doc pm ctv
  rcases la.df with ⟨z, _⟩ | ⟨_, T, e1, e2⟩
  · cases z
  · obtain ⟨_, its, r, ob, hob, _, n, hd⟩ := ok T _ e2
    cases r with
    | cons r rr =>
      cases rr
      obtain ⟨k, h1, h2⟩ := h doc pm ctv
      exact ⟨[_], .cons r .nil, BindsTo.of_defaults (T := T) (o := ob) (n := n) (k := k) e1 hob hd h1 (h2 _)⟩
section
variable {Z : Cx}
/-- a(), a a local that holds the lambda; the ground tells what its cells hold -/
theorem pe_ask {base : Heap} {k : Nat} {f : Addr} {l : LF} {dvs : List V} {fr : List Str} {ws : List (Option V)} {tb : List (Option V) → XK → Hp → VK → Prop} {a : Str} {E : XK} {p1 p2 : Pos} (lr : LamRun Z.prog Z.w Z.K Z.mg base k l dvs fr tb) (C : CellsIn l.F.cl fr ws Z.base)
    (m : Mod Z.K Z.mg base) (sub : ∀ b o, base.get? b = some o → Z.base.get? b = some o) (sz : base.objs.size ≤ Z.base.objs.size) (hr : Room k Z.A) (hx : Passes (L2.CX Z.prog Z.w) Z E) (hN : Z.N[0]? = some a) (hv : Vis Z.env.scope a) (hd : (a == ("__debug__" : Str)) = false) (hcd : (a == ("__classdict__" : Str)) = false) :
    PE Z (.Call (.Name a p1) [] [] p2) (fun σ H Q => σ[0]? = some (some (.ref f)) ∧ H l.F.c = some (LamX.CodeO l.F.c l.F.qual) ∧ LamAt H f l dvs ∧ tb ws E H Q) := by
  refine ⟨fun pins s σ H Q I h => ?_⟩
  obtain ⟨hs, hc, la, ht⟩ := h
  refine wpAny_Call_Name_kw (thn ((pe_var (pos := p1) (i := 0) hN hv hd hcd).run pins s σ H (fun v H1 => v = .ref f ∧ H1 = H) I ⟨.ref f, hs, rfl, rfl⟩) fun u s1 ⟨v, H1, I1, r1, q1⟩ => ?_)
  obtain ⟨ev, eH⟩ := q1
  subst ev
  rw [eH] at I1
  obtain rfl : u = Value.ref f := r1
  obtain ⟨doc, pm, ctv, ho⟩ := lamO_at I1.hok la.fn
  refine PySem.W.callWith_F0 (first := []) ⟨_, _, _, _, ho⟩ ?_
  show wpAny _ _ (call (.ref f) []) _ _ _
  refine wpAny_call (codeAny_mono (lr Z.A Z.stack s1 H f ws Q E hr (env0_less I1.env0 m sub sz) la (cells_out C I1.bs) ht) fun r s' hq => ?_)
  cases r with
  | error e => exact hx pins σ H s1 e s' I1 hq
  | ok fl =>
    cases fl with
    | ret u => exact I1.after hq
    | next => exact False.elim hq
    | brk => exact False.elim hq
    | cont => exact False.elim hq
end
/-- x(y) where y holds a lambda that x calls and whose errors it takes -/
def LamIt (P : Program) (w : World) (K : PySem.W.Frag) (mg : Str → Option Value) (base b2 : Heap) (k : Nat) (cs : List Value) (f : Addr) (H : Hp) (Q : VK) : Prop := ∃ (l : LF) (dvs : List V) (fr : List Str) (ws : List (Option V)) (tb : List (Option V) → XK → Hp → VK → Prop),
  LamAt H f l dvs ∧ LamRun P w K mg base k l dvs fr tb ∧ CellsIn l.F.cl fr ws b2 ∧ ∃ Q0 : VK, TTry K cs (tb ws) H Q0 ∧ ∀ v H', Q0 v H' → Q v H'
def tItem (P : Program) (w : World) (K : PySem.W.Frag) (mg : Str → Option Value) (base b2 : Heap) (k : Nat) (cs : List Value) (i : Nat) : TE := fun σ H Q => ∃ f : Addr, σ[i]? = some (some (.ref f)) ∧ LamIt P w K mg base b2 k cs f H Q
section
variable {X : Cx}
theorem pe_item {base : Heap} {k i : Nat} {cs : List Value} {x a y : Str} {g : Addr} {pg : Arguments} {bg : List Stmt} {sg : Scope} {dV kV doc pm cdv ct oc : Value} {an od : Option Addr} {osl : Array (Option Value)} {Ng : List Str} {p py pos : Pos}
    (m : Mod X.K X.mg base) (sub : ∀ b o, base.get? b = some o → X.base.get? b = some o) (sz : base.objs.size ≤ X.base.objs.size)
    (hg : Gl X x) (hm : X.mg x = some (.ref g)) (hk : PySem.W.keepIn X.K (.ref g) = true) (lk : X.K.lookup g = some ⟨oc, od, .func (PySem.W.fnOf x x pg bg sg dV kV doc pm an cdv ct), osl⟩) (hcg : PySem.W.codeIn X.K cdv x = true)
    (hb : L2.Binds X.K (PySem.W.fnOf x x pg bg sg dV kV doc pm an cdv ct) [a] []) (Sg : FnScope Ng [a] sg) (hNg : Ng[0]? = some a) (hva : Vis sg a) (hG : ∀ q : Str, LamX.GivesTo X Ng x sg g cdv bg a q (TTry X.K cs)) (hr : Room (k + 1) X.A)
    (hN : X.N[i]? = some y) (hv : Vis X.env.scope y)
    (hdb : (x == ("__debug__" : Str)) = false := by decide) (hd : (a == ("__debug__" : Str)) = false := by decide) (hcd : (a == ("__classdict__" : Str)) = false := by decide) (hyd : (y == ("__debug__" : Str)) = false := by decide) (hyc : (y == ("__classdict__" : Str)) = false := by decide) :
    PE X (.Call (.Name x p) [.Name y py] [] pos) (tItem X.prog X.w X.K X.mg base X.base k cs i) := by
  refine ⟨fun pins s σ H Q I h => ?_⟩
  obtain ⟨f, hs, l, dvs, fr, ws, tb, la, lr, C, Q0, ht, hQ⟩ := h
  refine wpAny_Call_Name_kw (ld_glob I hg hm ?_ hdb)
  refine PySem.W.callWith_K (h₀ := X.base) I.ok.mod.kin hk ?_ (by rfl) (by rfl)
  show wpAny _ _ (spliced ((false, eval (.Name y py) X.env) :: backTo pos (starEach [] X.env))) _ _ s
  refine Calls.spliced_cons (thn ((pe_var (pos := py) (i := i) hN hv hyd hyc).run pins s σ H (fun v H1 => v = .ref f ∧ H1 = H) I ⟨.ref f, hs, rfl, rfl⟩) fun u s1 ⟨v, H1, I1, r1, q1⟩ => ?_)
  obtain ⟨ev, eH⟩ := q1
  subst ev
  rw [eH] at I1
  obtain rfl : u = Value.ref f := r1
  refine Calls.spliced_nil ⟨I1.kIn, ?_⟩
  have rc : codeAny (model X.prog X.w) X.A (.call (.ref g) ⟨[.ref f], []⟩) (CR C8.CX0 X.stack X.prog X.w H s1 Q0 C8.E0) s1 := by
    refine LamX.run_ofS (N := Ng) (ps := [a]) (us := [.ref f]) (vs := [.ref f]) lk hcg Sg hr I1.env0 (hb s1 [.ref f] I1.kIn rfl) (.cons rfl .nil) rfl fun hr' => ?_
    obtain ⟨t', ht', hq'⟩ := hG l.F.qual f l.F.c s1 H Q0 (fun E H' Q' => LamAt H' f l dvs ∧ tb ws E H' Q') (fun W pn xe E p1 p2 tk hW => pe_ask (Z := (cxOf C8.CX0 X.prog X.w X.K X.mg X.base Ng x sg g cdv X.A X.stack s1 H C8.E0).tr pn xe) (base := base) lr C m sub sz hr' (passes_call tk hW) hNg hva hd hcd)
      la.co ⟨la, ht⟩
    exact ⟨t', ht'.nox, hq'⟩
  refine wpAny_call (codeAny_mono rc fun r s2 hq => ?_)
  cases r with
  | error e => exact (show False from hq).elim
  | ok fl =>
    cases fl with
    | ret u =>
      obtain ⟨v, H', I', rv, q⟩ := I1.after hq
      exact ⟨v, H', I', rv, hQ v H' q⟩
    | next => exact False.elim hq
    | brk => exact False.elim hq
    | cont => exact False.elim hq
end
/-- the list l of the lambdas fs, walked; D the new list -/
def ChainI (it : Addr → Hp → VK → Prop) (l D : Addr) (all : List V) (Q : VK) : List Addr → List V → Hp → Prop
  | [], _, H => Q (.ref D) H
  | f :: r, acc, H => it f H fun v H1 => H1 l = some (.lst all) ∧ H1 D = some (.lst acc) ∧ ChainI it l D all Q r (acc ++ [v]) (upd H1 D (.lst (acc ++ [v])))
def sp_tries (P : Program) (w : World) (K : PySem.W.Frag) (mg : Str → Option Value) (base b2 : Heap) (k : Nat) (cs : List Value) : Sp := fun vs H Q _ => ∃ (l : Addr) (fs : List Addr), vs = [.ref l] ∧ fs.length < sizeLine ∧ H l = some (.lst (fs.map V.ref)) ∧
  ∀ D, H D = none → ChainI (LamIt P w K mg base b2 k cs) l D (fs.map V.ref) Q fs [] (upd H D (.lst []))
/-- [x(y) for y in l], the list's items by turns -/
theorem chain_walk {P : Program} {w : World} {K : PySem.W.Frag} {mg : Str → Option Value} {base b2 : Heap} {k : Nat} {cs : List Value} {σ : L2.St} {H1 : Hp} {l D : Addr} {fs : List Addr} {vs : List Nat} {i : Nat} {Q : VK} (hi : ∀ x : V, wipe ((wipe σ vs).set i (some x)) vs = wipe σ vs) (hl2 : i < (wipe σ vs).length)
    (sz : fs.length < sizeLine) (nD : H1 D = none) (hl : H1 l = some (.lst (fs.map V.ref))) (h : ChainI (LamIt P w K mg base b2 k cs) l D (fs.map V.ref) Q fs [] (upd H1 D (.lst []))) :
    ∃ W : Nat → Nat → Hp → Prop, (∃ m, W 0 m (upd H1 D (.lst []))) ∧ ∀ j m H, W j m H →
      ((Itl K l).stop j H ∧ Q (.ref D) H) ∨ ((Itl K l).go j H ∧ ∃ Nx : Hp → Prop, (∀ H', Nx H' → ∃ m', m' < m ∧ W (j + 1) m' H') ∧ ∀ x H', (Itl K l).yld j H x H' → gName i x (wipe σ vs) H' fun σ2 H2 => wipe σ2 vs = wipe σ vs ∧ tYes σ2 H2 fun b H3 =>
        if b = true then tItem P w K mg base b2 k cs i σ2 H3 fun y H4 => ∃ acc, H4 D = some (.lst acc) ∧ acc.length < sizeLine ∧ Nx (upd H4 D (.lst (acc ++ [y]))) else Nx H3) := by
  have nl : l ≠ D := ne_of_none hl nD
  refine lc_list (K := K) (a := l) (xs := fs.map V.ref) (fun j H => ∃ acc : List V, acc.length = j ∧ H l = some (.lst (fs.map V.ref)) ∧ H D = some (.lst acc) ∧ ChainI (LamIt P w K mg base b2 k cs) l D (fs.map V.ref) Q (fs.drop j) acc H) ⟨[], rfl, by rw [upd_ne nl]; exact hl, upd_same, h⟩
    (fun j H _ pv => .inl (.inl (by obtain ⟨_, _, z, _⟩ := pv; exact z))) (fun j x H ex pv => ?_) fun H pv => ?_
  · obtain ⟨acc, ha, h1, h2, hc⟩ := pv
    have hj : j < fs.length := by
      have z := (List.getElem?_eq_some_iff.mp ex).1
      rw [List.length_map] at z
      exact z
    have ex2 : x = V.ref fs[j] := by
      rw [List.getElem?_map, List.getElem?_eq_getElem hj] at ex
      exact (Option.some.inj ex).symm
    subst ex2
    rw [List.drop_eq_getElem_cons hj] at hc
    refine ⟨hi _, ?_⟩
    show tItem P w K mg base b2 k cs i _ H _
    refine ⟨fs[j], List.getElem?_set_self hl2, ?_⟩
    obtain ⟨lf, dvs, fr, ws, tb, la, lr, C, ht⟩ := hc
    refine ⟨lf, dvs, fr, ws, tb, la, lr, C, ?_⟩
    obtain ⟨Q0, ht, hQ⟩ := ht
    refine ⟨Q0, ht, fun v H4 q => ?_⟩
    obtain ⟨c1, c2, c3⟩ := hQ v H4 q
    have hlen : acc.length < sizeLine := by omega
    refine ⟨acc, c2, hlen, acc ++ [v], ?_, ?_, upd_same, c3⟩
    · rw [List.length_append, ha]
      rfl
    · rw [upd_ne nl]
      exact c1
  · obtain ⟨acc, ha, h1, h2, hc⟩ := pv
    rw [List.length_map, List.drop_length] at hc
    exact hc
/-- a lambda of the law's list: how it is made, what its call does -/
structure AskS (X : Cx) (k : Nat) where
  lam : Addr → Value → LF
  dvs : List V
  fr : List Str
  js : List Nat
  tb : List (Option V) → XK → Hp → VK → Prop
  run : ∀ c' dV, LamRun X.prog X.w X.K X.mg X.base k (lam c' dV) dvs fr tb
  caps : X.Ok → ∀ c' dV, NdefX.Caps X (lam c' dV).F.cl fr js
/-- told at the law: each lambda of the list l tried, D the new list -/
def ChainL (X : Cx) (k : Nat) (cs : List Value) (σ : L2.St) (l D : Addr) (all : List V) (Q : VK) : List (Addr × AskS X k) → List V → Hp → Prop
  | [], _, H => Q (.ref D) H
  | (f, a) :: r, acc, H => (∃ c' dV, LamAt H f (a.lam c' dV) a.dvs) ∧ TTry X.K cs (a.tb (a.js.map (NdefX.slotAt σ))) H fun v H1 => H1 l = some (.lst all) ∧ H1 D = some (.lst acc) ∧ ChainL X k cs σ l D all Q r (acc ++ [v]) (upd H1 D (.lst (acc ++ [v])))
def tTries {X : Cx} {k : Nat} (cs : List Value) (asks : List (AskS X k)) (t : TA) : TE := fun σ H Q => t σ H fun vs H1 => ∃ (l : Addr) (fs : List Addr), vs = [.ref l] ∧ fs.length = asks.length ∧ H1 l = some (.lst (fs.map V.ref)) ∧
  ∀ D, H1 D = none → ChainL X k cs σ l D (fs.map V.ref) Q (fs.zip asks) [] (upd H1 D (.lst []))
section
variable {X : Cx} {pins : List (Addr × Obj)} {σ : L2.St} {H0 : Hp} {s : Shared} {k : Nat} {cs : List Value} {b2 : Heap}
theorem chain_in (I : Inv X pins σ H0 s) (kc : ∀ y c, X.env.cells.lookup y = some c → ∀ v, s.heap.IsCell c v → b2.IsCell c v) {l D : Addr} {all : List V} {Q : VK} : ∀ (r : List (Addr × AskS X k)) (acc : List V) (H : Hp),
    ChainL X k cs σ l D all Q r acc H → ChainI (LamIt X.prog X.w X.K X.mg X.base b2 k cs) l D all Q (r.map (·.1)) acc H
  | [], _, _, h => h
  | (f, a) :: r, acc, H, ⟨⟨c', dV, la⟩, ht⟩ => by
    have cp := a.caps I.ok c' dV
    refine ⟨a.lam c' dV, a.dvs, a.fr, a.js.map (NdefX.slotAt σ), a.tb, la, a.run c' dV, cells_in (NdefX.cells_of I cp) (fun y c e => ⟨y, cp.sub y c e⟩) kc, _, ht, fun v H1 ⟨q1, q2, q3⟩ => ⟨q1, q2, chain_in I kc r _ _ q3⟩⟩
end
section
variable {X : Cx}
/-- x(e): the lambdas of the list e tried, one by one -/
theorem pe_tries {k kk : Nat} {cs : List Value} {x a : Str} {g : Addr} {fd : FuncData} {e : Expr} {t : TA} {p pos : Pos} (asks : List (AskS X k)) (hn : asks.length < sizeLine) (hfn : ∀ x, X.fn x = true) (hst : X.stack = X.env :: X.outer) (hf : X.env.frame = some X.env.locals)
    (F : ∀ b2 : Heap, Mod X.K X.mg X.base → (∀ b o, X.base.get? b = some o → b2.get? b = some o) → X.base.objs.size ≤ b2.objs.size → FnOk X.prog X.w X.K X.mg b2 C8.CX0 kk g fd [a] (sp_tries X.prog X.w X.K X.mg X.base b2 k cs))
    (hr : Room kk X.A) (hg : Gl X x) (hm : X.mg x = some (.ref g)) (hk : PySem.W.keepIn X.K (.ref g) = true) (hb : L2.Binds X.K fd [a] []) (ha : PA X [e] t)
    (hdb : (x == ("__debug__" : Str)) = false := by decide) (he : starEach [e] X.env = [(false, eval e X.env)] := by rfl) : PE X (.Call (.Name x p) [e] [] pos) (tTries cs asks t) := by
  refine ⟨fun pins s σ H Q I h => ?_⟩
  refine wpAny_Call_Name_kw (ld_glob I hg hm ?_ hdb)
  refine PySem.W.callWith_K (h₀ := X.base) I.ok.mod.kin hk (thn (ha.run pos pins s σ H _ I h) fun us s1 ⟨vs, H1, I1, r, q⟩ => ⟨I1.kIn, ?_⟩) he (by rfl)
  obtain ⟨l, fs, rfl, hl, hH, hc⟩ := q
  obtain ⟨b2, sub, sz, e0, kc⟩ := ground_cells I1 hfn hst hf
  have hlen : us.length = [a].length := by
    rw [← r.length]
    rfl
  have hz : (fs.zip asks).map (·.1) = fs := by
    rw [List.map_fst_zip]
    omega
  have hsp : sp_tries X.prog X.w X.K X.mg X.base b2 k cs [.ref l] H1 Q C8.E0 := ⟨l, fs, rfl, by omega, hH, fun D nD => by
    have z := chain_in (b2 := b2) I1 kc _ _ _ (hc D nD)
    rw [hz] at z
    exact z⟩
  refine wpAny_call (codeAny_mono ((F b2 I1.ok.mod sub sz).run X.A X.stack s1 H1 ⟨us, []⟩ us [.ref l] Q C8.E0 hr e0 (by have z := hb s1 us I1.kIn (by rw [List.append_nil]; exact hlen); rw [List.append_nil] at z; exact z) r hsp) fun r s' hq => ?_)
  cases r with
  | error e => exact (show False from hq).elim
  | ok fl =>
    cases fl with
    | ret u => exact I1.after hq
    | next => exact False.elim hq
    | brk => exact False.elim hq
    | cont => exact False.elim hq
end
end FW
namespace FW
open PySem PySem.Spec PyProof.Rows L2
/-! ### the lambdas of a list, by their texts -/
def lamParts : Expr → Arguments × Expr × Scope
  | .Lambda p b s _ => (p, b, s)
  | e => (⟨[], [], none, [], [], none, []⟩, e, default)
def listOf : Stmt → List Expr
  | .Assign _ (.List es _) _ => es
  | _ => []
section
variable {X : Cx} {k : Nat}
def ask0 (params : Arguments) (body : Expr) (scope : Scope) (N fr : List Str) (js : List Nat) {tb : XK → TE} (hS : NdefX.nscB N [] fr scope = true) (hB : NdefX.ndefB X.env.scope scope fr = true) (hjs : js.map (fun j => X.N[j]?) = fr.map some)
    (hb : ∀ (q : Str) (cl : List (Str × Addr)) (doc pm cv ctv : Value), bindArgs (PySem.W.kdv_fn "<lambda>" q params (.expr body) scope cl .none doc pm cv ctv) ⟨[], []⟩ = pure [])
    (hbody : ∀ (c' : Addr) (dV : Value) (A : Around) (outer : List Env) (s : Shared) (H : Hp) (E : XK) (f : Addr), Room k (A.deeper (NdefX.envF (lamF X params body scope c' dV).F f s.heap.objs.size)) →
      PE (NdefX.ncx (L2.CX X.prog X.w) X.prog X.w X.K X.mg X.base N (lamF X params body scope c' dV).F f A outer s H E) body (tb E)) : AskS X (k + 1) where
  lam := lamF X params body scope
  dvs := []
  fr := fr
  js := js
  tb := fun ws E H Q => tb E (NdefX.startF N [] ws) H Q
  run := fun c' dV => lam_run (tb := tb) (NdefX.nscope_by hS) rfl (binds_0 fun e doc pm ctv => by
    have e : dV = .none := e
    subst e
    exact hb _ _ _ _ _ _) (hbody c' dV)
  caps := fun ok c' dV => NdefX.Caps.made ok (NdefX.ndef_free hB) (NdefX.ndef_fr hB) hjs
def ask1 (params : Arguments) (body : Expr) (scope : Scope) (p : Str) (n : Int) (N fr : List Str) (js : List Nat) {tb : XK → TE} (hS : NdefX.nscB N [p] fr scope = true) (hB : NdefX.ndefB X.env.scope scope fr = true) (hjs : js.map (fun j => X.N[j]?) = fr.map some)
    (hb : ∀ (q : Str) (cl : List (Str × Addr)) (dV doc pm cv ctv : Value), ∃ k : Option (Array Value) → Sem (List (Str × Value)), bindArgs (PySem.W.kdv_fn "<lambda>" q params (.expr body) scope cl dV doc pm cv ctv) ⟨[], []⟩ = seqItems? dV >>= k ∧ ∀ u : Value, k (some #[u]) = pure [(p, u)])
    (hbody : ∀ (c' : Addr) (dV : Value) (A : Around) (outer : List Env) (s : Shared) (H : Hp) (E : XK) (f : Addr), Room k (A.deeper (NdefX.envF (lamF X params body scope c' dV).F f s.heap.objs.size)) →
      PE (NdefX.ncx (L2.CX X.prog X.w) X.prog X.w X.K X.mg X.base N (lamF X params body scope c' dV).F f A outer s H E) body (tb E)) : AskS X (k + 1) where
  lam := lamF X params body scope
  dvs := [.int n]
  fr := fr
  js := js
  tb := fun ws E H Q => tb E (NdefX.startF N [.int n] ws) H Q
  run := fun c' dV => lam_run (tb := tb) (NdefX.nscope_by hS) rfl (binds_1 fun doc pm ctv => hb _ _ _ _ _ _ _) (hbody c' dV)
  caps := fun ok c' dV => NdefX.Caps.made ok (NdefX.ndef_free hB) (NdefX.ndef_fr hB) hjs
end
/-! ### o.m(k = e, ..) -/
section
variable {X : Cx} {CX : CXT} {k j : Nat} {f C : Addr} {fd : FuncData} {ps ks : List Str} {sp : Sp} {E : XK} {m : Str} {pos apos : Pos} {o : Expr} {kws : List Keyword} {ta : TE} {tk : TA} {g : List Value → List Value → List Value} {gV : List V → List V → List V}
def tMethK (C : Addr) (m : Str) (sp : Sp) (gV : List V → List V → List V) (E : XK) (ta : TE) (tk : TA) : TE := fun σ H Q => ta σ H fun x H1 => ∃ a dx fs, x = .ref a ∧ H1 a = some (.ins C dx fs) ∧ fs.lookup m = none ∧ tk σ H1 fun zs H2 => sp (gV [x] zs) H2 Q E
theorem pe_methK0 {pl : Sem Bool} (he : PE X o ta) (c : Cls X.K C) (hm : Meth X.K C m f) (F : FnOk X.prog X.w X.K X.mg X.base CX k f fd ps sp) (hr : Room k X.A) (hb : KBinds X.K fd ps ks g gV) (hx : Passes CX X E) (hkw : PK X kws tk)
    (hall : (backToKw pos (keywordEach kws X.env)).all (·.1.isSome) = true := by rfl) (hks : (backToKw pos (keywordEach kws X.env)).filterMap (·.1) = ks := by rfl) (hpl : ((backTo pos (starEach [] X.env)).any (·.1) || (backToKw pos (keywordEach kws X.env)).any (·.1.isNone)) = false := by rfl)
    (ht : eval (.Call (.Attribute o m apos) [] kws pos) X.env = (do
      let ov ← eval o X.env
      standAt apos.atName
      let (f, first) ← holding [ov] (getMethod ov m pl)
      callWith pos f first (backTo pos (starEach [] X.env)) (backToKw pos (keywordEach kws X.env))) := by rfl) :
    PE X (.Call (.Attribute o m apos) [] kws pos) (tMethK C m sp gV E ta tk) := by
  refine ⟨fun pins s σ H Q I h => ?_⟩
  refine PySem.W.methodCall_KW (pl := pl) (thn (he.run pins s σ H _ I h) fun u s1 ⟨x, H1, I1, rx, a, dx, fs, ex, ea, l, q⟩ => ?_) ht
  subst ex
  obtain rfl : u = Value.ref a := rx
  refine getmeth_ok I1 ea c hm l ?_
  refine PySem.W.callWith_KW0 (first := [.ref a]) (h₀ := X.base) I1.ok.mod.kin hm.kp hall (thn (hkw.run pos pins s1 σ H1 _ I1 q) fun ws s2 ⟨zs, H2, I2, rz, q2⟩ => ⟨I2.kIn, ?_⟩) hpl
  rw [hks]
  exact run_fnk (us := [.ref a]) (vs := [.ref a]) F hr hb hx I2 (.cons rfl .nil) rz q2
structure MCalK (P : Program) (w : World) (K : PySem.W.Frag) (mg : Str → Option Value) (base : Heap) (CX : CXT) (C : Addr) (k : Nat) (m : Str) (ps ks : List Str) (g : List Value → List Value → List Value) (gV : List V → List V → List V) (sp : Sp) : Prop where
  ex : ∃ (f : Addr) (fd : FuncData), Meth K C m f ∧ FnOk P w K mg base CX k f fd ps sp ∧ KBinds K fd ps ks g gV
theorem pe_mk0 {pl : Sem Bool} (c : MCalK X.prog X.w X.K X.mg X.base CX0 C k m ps ks g gV sp) (hC : Cls X.K C) (hr : Room j X.A) (hk : k ≤ j) (he : PE X o ta) (hkw : PK X kws tk)
    (hall : (backToKw pos (keywordEach kws X.env)).all (·.1.isSome) = true := by rfl) (hks : (backToKw pos (keywordEach kws X.env)).filterMap (·.1) = ks := by rfl) (hpl : ((backTo pos (starEach [] X.env)).any (·.1) || (backToKw pos (keywordEach kws X.env)).any (·.1.isNone)) = false := by rfl)
    (ht : eval (.Call (.Attribute o m apos) [] kws pos) X.env = (do
      let ov ← eval o X.env
      standAt apos.atName
      let (f, first) ← holding [ov] (getMethod ov m pl)
      callWith pos f first (backTo pos (starEach [] X.env)) (backToKw pos (keywordEach kws X.env))) := by rfl) :
    PE X (.Call (.Attribute o m apos) [] kws pos) (tMethK C m sp gV E0 ta tk) := by
  obtain ⟨f, fd, hm, F, b⟩ := c.ex
  exact pe_methK0 he hC hm F (hr.mono hk) b pass0 hkw hall hks hpl ht
end
def swp1 {α : Type} : List α → List α → List α
  | [a], [u, v] => [a, v, u]
  | _, _ => []
theorem swp1_vals {vs : List V} {us : List Value} {zs : List V} {ws : List Value} (r : Vals vs us) (q : Vals zs ws) : Vals (swp1 vs zs) (swp1 us ws) := by
  cases r with
  | nil => exact .nil
  | cons r0 rr =>
    cases rr with
    | cons _ _ => exact .nil
    | nil =>
      cases q with
      | nil => exact .nil
      | cons q0 qq =>
        cases qq with
        | nil => exact .nil
        | cons q1 qqq =>
          cases qqq with
          | nil => exact .cons r0 (.cons q1 (.cons q0 .nil))
          | cons _ _ => exact .nil
theorem kbm_swap {K : PySem.W.Frag} {x qual : Str} {st : Stmt} {f : Addr} {fd : FuncData} {p0 p1 p2 : Str} (F : Fun K x qual st f fd)
    (h : ∀ (kV doc pm : Value) (an : Option Addr) (cdv ct : Value) (a u v : Value), bindArgs (PySem.W.fnOf x qual (defArgs st) (defBody st) (defScope st) .none kV doc pm an cdv ct) ⟨[a], [(p2, u), (p1, v)]⟩ = pure [(p0, a), (p1, v), (p2, u)]) :
    KBinds K fd [p0, p1, p2] [p2, p1] swp1 swp1 := by
  obtain ⟨oc, od, kV, doc, pm, an, cdv, ct, osl, rfl, lk, hcd⟩ := F.ex
  refine ⟨fun s us ws _ hl => ?_, fun r q => swp1_vals r q⟩
  match us, ws, hl with
  | [a], [u, v], _ => exact .of_eq (h kV doc pm an cdv ct a u v)
  | [], ws, hl => exact absurd (show 0 = 3 from hl) (by decide)
  | [_], [], hl => exact absurd (show 0 = 3 from hl) (by decide)
  | [_], [_], hl => exact absurd (show 0 = 3 from hl) (by decide)
  | [_], _ :: _ :: _ :: _, hl => exact absurd (show 0 = 3 from hl) (by decide)
  | _ :: _ :: _, ws, hl => exact absurd (show 0 = 3 from hl) (by decide)
/-- an error class of the program that the law's own try takes; f: what its error bears -/
structure ErrF (K : PySem.W.Frag) (mg : Str → Option Value) (C : Addr) (f z : String) (cs : List Value) : Prop where
  kls : ∃ fI, Kls K mg C fI z
  nf : PySem.W.findIn K (.ref C) (Str.ofString f) = some none
  hex : PySem.W.exmAny K (.ref C) cs = some true
  fi : ∀ v, FieldIs K C [("code", .str (Str.ofString z)), (Str.ofString f, v)] (Str.ofString z) v
abbrev ErrK (K : PySem.W.Frag) (mg : Str → Option Value) (C : Addr) (z : String) (cs : List Value) : Prop := ErrF K mg C "given" z cs
def givenB (z : Str) : Bool := !decide (z ∈ (["InvalidLine", "InvalidStep", "InvalidTable", "InvalidBad", "InvalidPlan", "UnknownRoom"] : List Str)) && !decide (z ∈ (["TooMany", "Full"] : List Str)) && !decide (z ∈ (["InvalidText", "InvalidPage"] : List Str)) && !decide (z = "UnknownState") && !decide (z ∈ (["InvalidPaper", "OtherFaces", "OtherCutters", "NothingLeft"] : List Str))
theorem fi_given {K : PySem.W.Frag} {C : Addr} {z : Str} (h : givenB z = true) (nf : PySem.W.findIn K (.ref C) (Str.ofString "given") = some none) (v : V) : FieldIs K C [("code", .str z), (Str.ofString "given", v)] z v := by
  unfold givenB at h
  simp only [Bool.and_eq_true, Bool.not_eq_true', decide_eq_false_iff_not] at h
  obtain ⟨⟨⟨⟨h1, h2⟩, h3⟩, h4⟩, h5⟩ := h
  unfold FieldIs
  rw [if_neg h1, if_neg h2, if_neg h3, if_neg h4, if_neg h5]
  exact ⟨nf, rfl⟩
theorem fi_at {K : PySem.W.Frag} {C : Addr} {z : Str} (h : decide (z ∈ (["InvalidLine", "InvalidStep", "InvalidTable", "InvalidBad", "InvalidPlan", "UnknownRoom"] : List Str)) = true) (nf : PySem.W.findIn K (.ref C) (Str.ofString "at") = some none) (v : V) : FieldIs K C [("code", .str z), (Str.ofString "at", v)] z v := by
  unfold FieldIs
  rw [if_pos (of_decide_eq_true h)]
  exact ⟨nf, rfl⟩
/-- what the law's try makes of such an error -/
theorem ErrF.tried {K : PySem.W.Frag} {mg : Str → Option Value} {C : Addr} {f z : String} {cs : List Value} {Q : VK} {H1 : Hp} {v : V} {d : Addr} (T : ErrF K mg C f z cs) (nd : H1 d = none) (h : ∀ H2 p, Same H1 H2 → H2 p = none → Q (.ref p) (upd H2 p (.tup [.str (Str.ofString z), v]))) :
    PySem.W.exmAny K (.ref C) cs = some true ∧ ∀ a, (upd H1 d (Err1 f z v)) a = none → ∃ (z' : Str) (v' : V), Caught K (upd (upd H1 d (Err1 f z v)) a (ExK (.ref C) (some d) a)) a z' v' ∧ ∀ H2, Same (upd (upd H1 d (Err1 f z v)) a (ExK (.ref C) (some d) a)) H2 → ∀ p, H2 p = none → Q (.ref p) (upd H2 p (.tup [.str z', v'])) := by
  obtain ⟨fI, k⟩ := T.kls
  refine ⟨T.hex, fun a na => ⟨Str.ofString z, v, ?_, fun H2 s2 p np => h H2 p (((same_upd nd).trans (same_upd na)).trans s2) np⟩⟩
  have hne : d ≠ a := fun e => by
    rw [← e, upd_same] at na
    cases na
  exact ⟨C, d, _, upd_same, (upd_ne hne).trans upd_same, k.xf, k.ncode, rfl, T.fi v⟩
end FW
namespace FW
open PySem PySem.Spec PyProof.Rows L2
/-! ### a text so many times -/
def rMulS : R2 := fun x y H Q => ∃ (z : Str) (n : Int), x = .str z ∧ y = .int n ∧ MulOk z n ∧ Q (.str (Txt.mul z n)) H
theorem op_mulS {X : Cx} : OpR X (binaryOp .Mult) rMulS := by
  intro pins s σ H x y v u Q I rx ry h
  obtain ⟨z, n, rfl, rfl, ok, q⟩ := h
  obtain ⟨t, rfl⟩ := rx
  obtain ⟨t', rfl⟩ := ry
  exact SB.mul ok fun t'' k => ⟨.str _, H, I.tok _, ⟨_, rfl⟩, q⟩
theorem mulOk1 (c : Nat) {n : Int} (h : n = 3 ∨ n = 4 ∨ n = 5) : MulOk (S [c]) n := by
  rcases h with rfl | rfl | rfl
  · exact ⟨by decide, fun _ _ => (by decide : ¬ ((1 : Nat) : Int) > (2 ^ 63 - 1) / 3), fun _ _ => (by decide : Builtin.Str.tooLong (1 * 3) = false)⟩
  · exact ⟨by decide, fun _ _ => (by decide : ¬ ((1 : Nat) : Int) > (2 ^ 63 - 1) / 4), fun _ _ => (by decide : Builtin.Str.tooLong (1 * 4) = false)⟩
  · exact ⟨by decide, fun _ _ => (by decide : ¬ ((1 : Nat) : Int) > (2 ^ 63 - 1) / 5), fun _ _ => (by decide : Builtin.Str.tooLong (1 * 5) = false)⟩
theorem mul3 (c : Nat) : Txt.mul (S [c]) 3 = S [c, c, c] := rfl
theorem mul4 (c : Nat) : Txt.mul (S [c]) 4 = S [c, c, c, c] := rfl
theorem mul5 (c : Nat) : Txt.mul (S [c]) 5 = S [c, c, c, c, c] := rfl
end FW
namespace FW
open PySem PySem.Spec PyProof.Rows L2
/-! ### helpers of many laws -/
theorem lastOf {α : Type} {l : List α} (h : 0 < l.length) : ∃ i z, l = i ++ [z] := ⟨l.dropLast, l.getLast (List.ne_nil_of_length_pos h), (List.dropLast_concat_getLast _).symm⟩
theorem atI_lst {α : Type} {i : List α} {z : α} : atI (i ++ [z]) (-1) = some z := by
  have h : ixN (i ++ [z]).length (-1) = some i.length := by
    unfold ixN
    rw [List.length_append]
    show (if (0 : Int) ≤ -1 then _ else _) = _
    rw [if_neg (by omega), if_pos (by show -((i.length + 1 : Nat) : Int) ≤ -1; omega)]
    congr 1
    show ((-1 : Int) + ((i.length + 1 : Nat) : Int)).toNat = i.length
    omega
  unfold atI
  rw [h]
  show (i ++ [z])[i.length]? = some z
  rw [List.getElem?_append_right (Nat.le_refl _), Nat.sub_self]
  rfl
theorem rep_flat {α : Type} (x : α) (k : Nat) : (List.replicate (k : Int).toNat [x]).flatten = List.replicate k x := by
  rw [Int.toNat_natCast]
  induction k with
  | zero => rfl
  | succ k ih => rw [List.replicate_succ, List.replicate_succ, List.flatten_cons, ih]; rfl
/-- a comprehension over the signs of a text: tests and items that leave the heap -/
theorem lc_strP {z : Str} {σ : L2.St} {vs : List Nat} {H1 : Hp} {D : Addr} {Qd : Hp → Prop} {i : Nat} {tt : TT} {te : TE} (t : Nat → Bool) (v : Nat → V) (nD : H1 D = none) (hz : z.cps.size < sizeLine) (hw : ∀ x : V, wipe ((wipe σ vs).set i (some x)) vs = wipe σ vs)
    (hT : ∀ c ∈ z.cps.toList, ∀ H, Same H1 H → ∀ R : Bool → Hp → Prop, R (t c) H → tt ((wipe σ vs).set i (some (sgn c))) H R)
    (hE : ∀ c ∈ z.cps.toList, t c = true → ∀ H, Same H1 H → ∀ R : VK, R (v c) H → te ((wipe σ vs).set i (some (sgn c))) H R)
    (q : Qd (upd H1 D (.lst ((z.cps.toList.filter t).map v)))) :
    ∃ W : Nat → Nat → Hp → Prop, (∃ m, W 0 m (upd H1 D (.lst []))) ∧ ∀ j m H, W j m H →
      ((Its z).stop j H ∧ Qd H) ∨ ((Its z).go j H ∧ ∃ Nx : Hp → Prop, (∀ H', Nx H' → ∃ m', m' < m ∧ W (j + 1) m' H') ∧ ∀ x H', (Its z).yld j H x H' → gName i x (wipe σ vs) H' fun σ2 H2 => wipe σ2 vs = wipe σ vs ∧ tt σ2 H2 fun b H3 =>
        if b = true then te σ2 H3 fun y H4 => ∃ acc, H4 D = some (.lst acc) ∧ acc.length < sizeLine ∧ Nx (upd H4 D (.lst (acc ++ [y]))) else Nx H3) := by
  refine lc_it walk_str (fun i H' => H' = upd H1 D (.lst (((z.cps.toList.take i).filter t).map v))) rfl (fun _ _ _ _ => trivial) ?_ ?_
  · rintro j x _ _ hj rfl ⟨rfl, c, hc, rfl⟩
    have hc1 : z.cps.toList[j]? = some c := by rw [Array.getElem?_toList]; exact hc
    have e : z.cps.toList.take (j + 1) = z.cps.toList.take j ++ [c] := by
      rw [List.take_add_one, hc1]
      rfl
    have hm := List.mem_of_getElem? hc1
    refine ⟨hw _, hT c hm _ (same_upd nD) _ ?_⟩
    rw [e, List.filter_append, List.filter_cons]
    cases h : t c with
    | true =>
      rw [if_pos rfl]
      refine hE c hm h _ (same_upd nD) _ ⟨_, upd_same, ?_, ?_⟩
      · rw [List.length_map]
        refine Nat.lt_of_le_of_lt (List.length_filter_le _ _) (Nat.lt_of_le_of_lt (List.length_take_le' _ _) hz)
      · rw [upd_upd, if_pos rfl, List.map_append]
        rfl
    | false =>
      rw [if_neg Bool.false_ne_true, if_neg Bool.false_ne_true, List.filter_nil, List.append_nil]
  · rintro _ rfl
    rw [List.take_of_length_le (show z.cps.toList.length ≤ z.cps.size from Nat.le_refl _)]
    exact q
/-- the same over a list -/
theorem lc_listP {K : PySem.W.Frag} {a : Addr} {xs : List V} {σ : L2.St} {vs : List Nat} {H1 : Hp} {D : Addr} {Qd : Hp → Prop} {i : Nat} {tt : TT} {te : TE} (t : V → Bool) (v : V → V) (ha : SqL K H1 a xs) (nD : H1 D = none) (hz : xs.length < sizeLine) (hw : ∀ x : V, wipe ((wipe σ vs).set i (some x)) vs = wipe σ vs)
    (hT : ∀ x ∈ xs, ∀ H, Same H1 H → ∀ R : Bool → Hp → Prop, R (t x) H → tt ((wipe σ vs).set i (some x)) H R)
    (hE : ∀ x ∈ xs, t x = true → ∀ H, Same H1 H → ∀ R : VK, R (v x) H → te ((wipe σ vs).set i (some x)) H R)
    (q : Qd (upd H1 D (.lst ((xs.filter t).map v)))) :
    ∃ W : Nat → Nat → Hp → Prop, (∃ m, W 0 m (upd H1 D (.lst []))) ∧ ∀ j m H, W j m H →
      ((Itl K a).stop j H ∧ Qd H) ∨ ((Itl K a).go j H ∧ ∃ Nx : Hp → Prop, (∀ H', Nx H' → ∃ m', m' < m ∧ W (j + 1) m' H') ∧ ∀ x H', (Itl K a).yld j H x H' → gName i x (wipe σ vs) H' fun σ2 H2 => wipe σ2 vs = wipe σ vs ∧ tt σ2 H2 fun b H3 =>
        if b = true then te σ2 H3 fun y H4 => ∃ acc, H4 D = some (.lst acc) ∧ acc.length < sizeLine ∧ Nx (upd H4 D (.lst (acc ++ [y]))) else Nx H3) := by
  refine lc_it (walk_list (xs := xs)) (fun i H' => H' = upd H1 D (.lst (((xs.take i).filter t).map v))) rfl (fun j H' _ e => by rw [e]; exact (same_upd nD).seq ha) ?_ ?_
  · rintro j x _ H' hj rfl ⟨rfl, hc1⟩
    have e : xs.take (j + 1) = xs.take j ++ [x] := by
      rw [List.take_add_one, hc1]
      rfl
    have hm := List.mem_of_getElem? hc1
    refine ⟨hw _, hT x hm _ (same_upd nD) _ ?_⟩
    rw [e, List.filter_append, List.filter_cons]
    cases h : t x with
    | true =>
      rw [if_pos rfl]
      refine hE x hm h _ (same_upd nD) _ ⟨_, upd_same, ?_, ?_⟩
      · rw [List.length_map]
        refine Nat.lt_of_le_of_lt (List.length_filter_le _ _) (Nat.lt_of_le_of_lt (List.length_take_le' _ _) hz)
      · rw [upd_upd, if_pos rfl, List.map_append]
        rfl
    | false =>
      rw [if_neg Bool.false_ne_true, if_neg Bool.false_ne_true, List.filter_nil, List.append_nil]
  · rintro _ rfl
    rw [List.take_of_length_le (Nat.le_refl _)]
    exact q
section
variable {K : PySem.W.Frag}
/-- a value of some kind, no error's own -/
structure OddX (K : PySem.W.Frag) (H : Hp) (v : V) (d : PyData) : Prop where
  kind : (isStr v = true ∧ (strOf v).cps.size ≤ 100) ∨ NS H v
  dp : Dp K H v d
  deep : ∀ n, Deep (n + 1) d
theorem OddX.same {H H' : Hp} {v : V} {d : PyData} (o : OddX K H v d) (s : Same H H') : OddX K H' v d := ⟨o.kind.imp id fun n => n.same s, Dp.same s o.dp, o.deep⟩
theorem OddX.ext {H H' : Hp} {v : V} {d : PyData} (o : OddX K H v d) (e : LamX.ExtN H H') : OddX K H' v d := ⟨o.kind.imp id fun n => ns_ext e n, dp_ext e o.dp, o.deep⟩
theorem OddX.askd {H : Hp} {v : V} {d : PyData} (o : OddX K H v d) : Askd K H v := o.kind.elim (fun h => .inl ⟨h.1, Nat.le_trans h.2 (by decide)⟩) fun n => .inr n.not
theorem oddX_str {H : Hp} {z : Str} (h : z.cps.size ≤ 100) : OddX K H (.str z) (.str z) := ⟨.inl ⟨rfl, h⟩, .str z, fun _ => by unfold Deep; trivial⟩
theorem oddX_non {H : Hp} : OddX K H .non .none := ⟨.inr (.inl rfl), .non, fun _ => by unfold Deep; trivial⟩
theorem oddX_int {H : Hp} (n : Int) : OddX K H (.int n) (.int n) := ⟨.inr (.inr (.inl ⟨_, rfl⟩)), .int n, fun _ => by unfold Deep; trivial⟩
theorem oddX_bl {H : Hp} (c : Bool) : OddX K H (.bl c) (.bool c) := ⟨.inr (.inr (.inr (.inl ⟨_, rfl⟩))), .bl c, fun _ => by unfold Deep; trivial⟩
theorem oddX_lst {H : Hp} {p : Addr} (zs : List Str) (h : H p = some (.lst (zs.map V.str))) (hl : zs.length ≤ 100) : OddX K H (.ref p) (.list (zs.map PyData.str)) :=
  ⟨.inr (.inr (.inr (.inr (.inl ⟨p, _, rfl, h⟩)))), .lst (SqL.of h) (dp_strs zs), fun n => deep_strs (by omega)⟩
theorem oddX_tup {H : Hp} {p : Addr} (zs : List Str) (h : H p = some (.tup (zs.map V.str))) (hl : zs.length ≤ 100) : OddX K H (.ref p) (.tuple (zs.map PyData.str)) :=
  ⟨.inr (.inr (.inr (.inr (.inr ⟨p, _, rfl, h⟩)))), .tup (SqT.of h) (dp_strs zs), fun n => by
    unfold Deep
    refine ⟨by rw [List.length_map]; omega, fun d hd => ?_⟩
    obtain ⟨c, _, rfl⟩ := List.mem_map.mp hd
    unfold Deep
    trivial⟩
/-- the same, and it stays while the bag alone changes -/
def OddD (K : PySem.W.Frag) (b : Addr) (H : Hp) (v : V) (d : PyData) : Prop := ∀ H', But b H H' → OddX K H' v d
theorem OddD.now {H : Hp} {b : Addr} {v : V} {d : PyData} (o : OddD K b H v d) : OddX K H v d := o H (Same.refl H).but
theorem OddD.drawn {H H' : Hp} {b : Addr} {v : V} {d : PyData} (o : OddD K b H v d) (s : But b H H') : OddD K b H' v d := fun H2 s2 => o H2 (s.trans s2)
theorem OddD.same {H H' : Hp} {b : Addr} {v : V} {d : PyData} (o : OddD K b H v d) (s : Same H H') : OddD K b H' v d := o.drawn s.but
theorem oddD_of {H : Hp} {b : Addr} {v : V} {d : PyData} (h : ∀ H', OddX K H' v d) : OddD K b H v d := fun H' _ => h H'
theorem oddD_lst {H : Hp} {b p : Addr} (zs : List Str) (n : p ≠ b) (h : H p = some (.lst (zs.map V.str))) (hl : zs.length ≤ 100) : OddD K b H (.ref p) (.list (zs.map PyData.str)) := fun H' s => oddX_lst zs (s _ _ n h) hl
theorem oddD_tup {H : Hp} {b p : Addr} (zs : List Str) (n : p ≠ b) (h : H p = some (.tup (zs.map V.str))) (hl : zs.length ≤ 100) : OddD K b H (.ref p) (.tuple (zs.map PyData.str)) := fun H' s => oddX_tup zs (s _ _ n h) hl
theorem ns_letter {H : Hp} {v : V} (n : NS H v) (L : List Nat) : bLetter v L = false := by
  unfold bLetter
  rw [(n.not (K := default)).1]
  rfl
theorem str_room {l F : List Nat} (h : l.length ≠ 4 ∨ ∃ c ∈ l, c ∉ F) : bRoom (.str (S l)) (S F) = false := by
  unfold bRoom
  rcases h with h | ⟨c, hc, hF⟩
  · rw [show decide ((strOf (V.str (S l))).cps.size = 4) = false from decide_eq_false h, Bool.and_false]
  · rw [show bString (.str (S l)) (S F) = false from by
      unfold bString
      rw [show ((strOf (V.str (S l))).cps.toList.all fun c => decide (c ∈ (S F).cps.toList)) = false from by
        rw [List.all_eq_false]
        exact ⟨c, hc, by simpa using hF⟩]
      rfl, Bool.false_and]
theorem str_letter {l L : List Nat} (h : l.length ≠ 1 ∨ ∃ c, l = [c] ∧ c ∉ L) : bLetter (.str (S l)) L = false := by
  unfold bLetter
  rcases h with h | ⟨c, rfl, hc⟩
  · rw [show decide ((strOf (V.str (S l))).cps.size = 1) = false from decide_eq_false h]
    rfl
  · rw [show decide ((strOf (V.str (S [c]))).cps.toList.getD 0 0 ∈ L) = false from decide_eq_false hc, Bool.and_false]
/-- a number or None as data -/
def dOptN : Option Nat → PyData
  | some i => .int (i : Nat)
  | none => .none
theorem deep_non {n : Nat} : Deep n .none := by unfold Deep; trivial
theorem deep_bool {n : Nat} {b : Bool} : Deep n (.bool b) := by unfold Deep; trivial
theorem deep_int {n : Nat} {i : Int} : Deep n (.int i) := by unfold Deep; trivial
theorem deep_str {n : Nat} {z : Str} : Deep n (.str z) := by unfold Deep; trivial
theorem deep_tup {n : Nat} {ds : List PyData} (h : ds.length ≤ 1000) (q : ∀ d ∈ ds, Deep n d) : Deep (n + 1) (.tuple ds) := by
  unfold Deep
  exact ⟨h, q⟩
theorem deep_optN {n : Nat} (o : Option Nat) : Deep n (dOptN o) := by
  cases o
  · exact deep_non
  · exact deep_int
theorem deep_mono : ∀ (n : Nat) {d : PyData}, Deep n d → Deep (n + 1) d
  | n, .none, _ => deep_non
  | n, .bool _, _ => deep_bool
  | n, .int _, _ => deep_int
  | n, .str _, _ => deep_str
  | 0, .list _, h => by unfold Deep at h; exact h.elim
  | 0, .tuple _, h => by unfold Deep at h; exact h.elim
  | n + 1, .list ds, h => by
    unfold Deep at h
    exact deep_list h.1 fun d hd => deep_mono n (h.2 d hd)
  | n + 1, .tuple ds, h => by
    unfold Deep at h
    exact deep_tup h.1 fun d hd => deep_mono n (h.2 d hd)
  | 0, .dict _, h => by unfold Deep at h; exact h.elim
  | n + 1, .dict _, h => by unfold Deep at h; exact h.elim
end
end FW
namespace FW
open PySem PySem.Spec PyProof.Rows L2
/-! ### the lambdas of a list, tried one by one: what is told of each -/
section
variable {X : Cx} {k : Nat} {cs : List Value} {σ : L2.St}
/-- one lambda of the list: D is the list that is filled -/
def OneAsk (cs : List Value) (σ : L2.St) (Hn : Hp) (D : Addr) (fa : Addr × AskS X k) (d : PyData) : Prop :=
  ∀ H, Same Hn H → (∃ acc, H D = some (.lst acc)) → (∃ c' dV, LamAt H fa.1 (fa.2.lam c' dV) fa.2.dvs) ∧
    ∀ Q' : VK, (∀ H' v, Same H H' → (∀ Hx, But D H' Hx → Dp X.K Hx v d) → Q' v H') → TTry X.K cs (fa.2.tb (fa.2.js.map (NdefX.slotAt σ))) H Q'
def AllAsk (cs : List Value) (σ : L2.St) (Hn : Hp) (D : Addr) : List (Addr × AskS X k) → List PyData → Prop
  | [], [] => True
  | fa :: r, d :: ds => OneAsk cs σ Hn D fa d ∧ AllAsk cs σ Hn D r ds
  | _, _ => False
theorem dpAll_snoc {K : PySem.W.Frag} {H : Hp} : ∀ {vs : List V} {ds : List PyData} {v : V} {d : PyData}, DpAll K H vs ds → Dp K H v d → DpAll K H (vs ++ [v]) (ds ++ [d])
  | _, _, _, _, .nil, h => .cons h .nil
  | _, _, _, _, .cons a t, h => .cons a (dpAll_snoc t h)
theorem chain_run {Hn : Hp} {l D : Addr} {all : List V} {Q : VK} (nD : Hn D = none) (hl : Hn l = some (.lst all)) : ∀ (r : List (Addr × AskS X k)) (ds : List PyData) (acc : List V) (dacc : List PyData) (H : Hp), Same Hn H → H D = some (.lst acc) →
    (∀ Hx, But D H Hx → DpAll X.K Hx acc dacc) → AllAsk cs σ Hn D r ds → (∀ H' vs, Same Hn H' → H' D = some (.lst vs) → DpAll X.K H' vs (dacc ++ ds) → Q (.ref D) H') → ChainL X k cs σ l D all Q r acc H
  | [], [], acc, dacc, H, s, hD, hd, _, q => q H acc s hD (by rw [List.append_nil]; exact hd H fun _ _ _ e => e)
  | [], _ :: _, _, _, _, _, _, _, a, _ => a.elim
  | _ :: _, [], _, _, _, _, _, _, a, _ => a.elim
  | (f, a) :: r, d :: ds, acc, dacc, H, s, hD, hd, ⟨h1, h2⟩, q => by
    obtain ⟨la, ht⟩ := h1 H s ⟨acc, hD⟩
    refine ⟨la, ht _ fun H' v s' hv => ⟨s' _ _ (s _ _ hl), s' _ _ hD, ?_⟩⟩
    have sn : Same Hn (upd H' D (.lst (acc ++ [v]))) := fun c o e => (upd_ne (ne_of_none e nD)).trans (s' _ _ (s _ _ e))
    refine chain_run nD hl r ds (acc ++ [v]) (dacc ++ [d]) _ sn upd_same (fun Hx bx => ?_) h2 (fun H2 vs s2 h2 hd2 => q H2 vs s2 h2 (by rw [List.append_assoc] at hd2; exact hd2))
    have b1 : But D H' Hx := fun c o n e => bx c o n ((upd_ne n).trans e)
    exact dpAll_snoc (hd Hx fun c o n e => b1 c o n (s' _ _ e)) (hv Hx b1)
theorem tries_run {H1 : Hp} {l : Addr} {fs : List Addr} {asks : List (AskS X k)} {Q : VK} (ds : List PyData) (hl : H1 l = some (.lst (fs.map V.ref))) (one : ∀ D, H1 D = none → AllAsk cs σ H1 D (fs.zip asks) ds) (q : ∀ H' D, Same H1 H' → H1 D = none → Dp X.K H' (.ref D) (.list ds) → Q (.ref D) H') :
    ∀ D, H1 D = none → ChainL X k cs σ l D (fs.map V.ref) Q (fs.zip asks) [] (upd H1 D (.lst [])) := fun D nD =>
  chain_run nD hl _ ds [] [] _ (same_upd nD) upd_same (fun _ _ => .nil) (one D nD) fun H' vs s hD hd => q H' D s nD (.lst (SqL.of hD) hd)
/-- an ask that raises -/
theorem oneAsk_err {Hn : Hp} {D f : Addr} {a : AskS X k} {mg : Str → Option Value} {C : Addr} {fld z : String} {v : V} {dv : PyData} {c' : Addr} {dV : Value} (T : ErrF X.K mg C fld z cs) (nD : Hn D = none) (la : LamAt Hn f (a.lam c' dV) a.dvs) (hv : Dp X.K Hn v dv)
    (h : ∀ H, Same Hn H → ∀ (E : XK) (Q : VK), (∀ H' d, Same H H' → H' d = none → E (.ref C) (some d) (upd H' d (Err1 fld z v))) → a.tb (a.js.map (NdefX.slotAt σ)) E H Q) : OneAsk cs σ Hn D (f, a) (.tuple [.str (Str.ofString z), dv]) := by
  refine fun H s hD => ⟨⟨c', dV, la.same s⟩, fun Q' q => h H s _ _ fun H' d s' nd => T.tried nd fun H2 p s2 np => ?_⟩
  have st := same_upd (o := HO.tup [.str (Str.ofString z), v]) np
  refine q _ _ (s'.trans (s2.trans st)) fun Hx bx => ?_
  obtain ⟨acc, hD⟩ := hD
  have hpD : p ≠ D := fun e => by
    rw [e, s2 _ _ (s' _ _ hD)] at np
    cases np
  have sx : Same Hn Hx := fun c o e => bx c o (ne_of_none e nD) (st _ _ (s2 _ _ (s' _ _ (s _ _ e))))
  exact .tup (SqT.of (bx _ _ hpD upd_same)) (.cons (.str _) (.cons (Dp.same sx hv) .nil))
/-- an ask that answers -/
theorem oneAsk_ok {Hn : Hp} {D f : Addr} {a : AskS X k} {dv : PyData} {c' : Addr} {dV : Value} (nD : Hn D = none) (la : LamAt Hn f (a.lam c' dV) a.dvs)
    (h : ∀ H, Same Hn H → (∃ acc, H D = some (.lst acc)) → ∀ (E : XK) (Q : VK), (∀ H' v, Same H H' → (∀ Hx, But D H' Hx → Dp X.K Hx v dv) → Q v H') → a.tb (a.js.map (NdefX.slotAt σ)) E H Q) : OneAsk cs σ Hn D (f, a) (.tuple [.str "", dv]) := by
  refine fun H s hD => ⟨⟨c', dV, la.same s⟩, fun Q' q => h H s hD _ _ fun H' v s' hv => ⟨(show 2 ≤ sizeLine by decide), fun p np => ?_⟩⟩
  have st := same_upd (o := HO.tup [.str "", v]) np
  refine q _ _ (s'.trans st) fun Hx bx => ?_
  obtain ⟨acc, hD⟩ := hD
  have hpD : p ≠ D := fun e => by
    rw [e, s' _ _ hD] at np
    cases np
  have b1 : But D H' Hx := fun c o n e => bx c o n (st _ _ e)
  exact .tup (SqT.of (bx _ _ hpD upd_same)) (.cons (.str _) (.cons (hv Hx b1) .nil))
end
end FW
namespace FW
open PySem PySem.Spec PyProof.Rows L2
/-! ### len, repr and bool of own objects -/
section
variable {X : Cx} {CX : CXT} {C f : Addr} {n : Nat} {sp : Sp} {E : XK}
def rOwn1 (C : Addr) (sp : Sp) (E : XK) (ok : V → Prop) : List V → Hp → VK → Prop := fun xs H Q => ∃ a dx fs, xs = [V.ref a] ∧ H a = some (.ins C dx fs) ∧ sp [.ref a] H (fun v H' => ok v ∧ Q v H') E
theorem cr_lenO (hs : PySem.W.findIn X.K (.ref C) "__len__" = some (some (.ref f))) (hf : PySem.W.isFn X.K (.ref f) = true) (F : FnR X.prog X.w X.K X.mg X.base CX n f sp) (hr : Room (n + 1) X.A) (hx : Passes CX X E) :
    CallR X (.builtin "len") (rOwn1 C sp E fun v => ∃ i : Int, v = .int i ∧ 0 ≤ i ∧ i < 2 ^ 63) := by
  intro pins s σ H vs us Q I r h
  obtain ⟨a, dx, fs, rfl, ha, q⟩ := h
  obtain ⟨u, rfl, ru⟩ := L2.vals1 r
  obtain rfl : u = Value.ref a := ru
  obtain ⟨mA, J, _⟩ := ins_get I.hok ha
  obtain ⟨od, J, _⟩ := J.look
  obtain ⟨m, hF⟩ := I.fr
  refine PySem.W.len_K hF I.ok.mod.kin J hs hf ?_
  refine wpAny_mono (wpAny_call (SlX.run_at (us := [.ref a]) (ws := [.ref a]) F hr.in1 I.env0.in1 hx I (.cons rfl .nil) q)) (fun w s' z => ?_) fun _ _ x => x
  obtain ⟨z', H', I', rz, ⟨i, rfl, h0, h1⟩, qz⟩ := z
  obtain ⟨t, rfl⟩ := rz
  exact ⟨⟨h0, h1⟩, .int i, H', I'.tok _, ⟨_, rfl⟩, qz⟩
theorem cr_reprO (hs : PySem.W.findIn X.K (.ref C) "__repr__" = some (some (.ref f))) (hf : PySem.W.isFn X.K (.ref f) = true) (F : FnR X.prog X.w X.K X.mg X.base CX n f sp) (hr : Room (n + 1) X.A) (hx : Passes CX X E) :
    CallR X (.builtin "repr") (rOwn1 C sp E fun v => ∃ z : Str, v = .str z) := by
  intro pins s σ H vs us Q I r h
  obtain ⟨a, dx, fs, rfl, ha, q⟩ := h
  obtain ⟨u, rfl, ru⟩ := L2.vals1 r
  obtain rfl : u = Value.ref a := ru
  obtain ⟨mA, J, _⟩ := ins_get I.hok ha
  obtain ⟨od, J, _⟩ := J.look
  obtain ⟨m, hF⟩ := I.fr
  refine PySem.W.repr_K (by have := hr.in1.un; omega) hF I.ok.mod.kin J hs hf ?_
  refine wpAny_mono (wpAny_call (SlX.run_at (us := [.ref a]) (ws := [.ref a]) F hr.in1 I.env0.in1 hx I (.cons rfl .nil) q)) (fun w s' z => ?_) fun _ _ x => x
  obtain ⟨z', H', I', rz, ⟨z, rfl⟩, qz⟩ := z
  obtain ⟨t, rfl⟩ := rz
  exact ⟨.str z, H', I', ⟨_, rfl⟩, qz⟩
theorem cr_boolO (hs : PySem.W.findIn X.K (.ref C) "__bool__" = some (some (.ref f))) (hf : PySem.W.isFn X.K (.ref f) = true) (F : FnR X.prog X.w X.K X.mg X.base CX n f sp) (hr : Room (n + 2) X.A) (hx : Passes CX X E) :
    CallR X (.type "bool") (rOwn1 C sp E fun v => ∃ b : Bool, v = .bl b) := by
  intro pins s σ H vs us Q I r h
  obtain ⟨a, dx, fs, rfl, ha, q⟩ := h
  obtain ⟨u, rfl, ru⟩ := L2.vals1 r
  obtain rfl : u = Value.ref a := ru
  obtain ⟨mA, J, _⟩ := ins_get I.hok ha
  obtain ⟨od, J, _⟩ := J.look
  obtain ⟨m, hF⟩ := I.fr
  refine callType_newIn PySem.F.called_bool (by decide) (PySem.F.typeCall_bool_1 _) (PySem.F.newCall_bool_1 _) (fun obj => PySem.F.args_object_init_2 obj _) PySem.F.entry_bool_new
    (S := fun A R s => wpAny (model X.prog X.w) A.in1 (truthy (.ref a)) (fun b s' => R (.ok (.ret (.bool b))) s') (fun e s' => R (.error e) s') s) ?_ ?_
  · intro A R s h
    unfold Builtin.«bool.__new__»
    repeat (first | (refine wpAny_bind (m := truthy _) (wpAny_mono h (fun b s' hb => ?_) fun _ _ e => e)) | wp_step)
    exact hb
  · refine PySem.W.truthy_K hF I.ok.mod.kin J hs hf ?_
    refine wpAny_mono (wpAny_call (SlX.run_at (us := [.ref a]) (ws := [.ref a]) F hr.in1.in1 I.env0.in1.in1 hx I (.cons rfl .nil) q)) (fun w s' z => ?_) fun _ _ x => x
    obtain ⟨z', H', I', rz, ⟨b, rfl⟩, qz⟩ := z
    obtain rfl : w = Value.bool b := rz
    exact ⟨PySem.typeIs_bool _ b, .bl b, H', I', rfl, qz⟩
end
end FW
namespace FW
open PySem PySem.Spec PyProof.Rows L2
/-! ### rules with the frag given; methods that take any number of values -/
theorem ix_listE {X : Cx} {K : PySem.W.Frag} (h : X.K = K) : IxR X (rIxL K) := by
  subst h
  exact ix_list
theorem ix_tupE {X : Cx} {K : PySem.W.Frag} (h : X.K = K) : IxR X (rIxT K) := by
  subst h
  exact ix_tup
theorem op_inE {X : Cx} {K : PySem.W.Frag} (h : X.K = K) : OpR X (compareOp .In) (rIn K false) := by
  subst h
  exact op_in_seq
theorem op_notInE {X : Cx} {K : PySem.W.Frag} (h : X.K = K) : OpR X (compareOp .NotIn) (rIn K true) := by
  subst h
  exact op_notIn_seq
theorem sl_tupE {X : Cx} {K : PySem.W.Frag} (h : X.K = K) : SlR X (rSlT K) := by
  subst h
  exact sl_tup
theorem op_catTE {X : Cx} {K : PySem.W.Frag} (h : X.K = K) : OpR X (binaryOp .Add) (rCatT K) := by
  subst h
  exact op_catT
theorem noneS {H H' : Hp} {p : Addr} (s : Same H H') (n : H' p = none) : H p = none := by
  cases z : H p with
  | none => rfl
  | some o =>
    rw [s _ _ z] at n
    cases n
/-- flat values as data -/
def flD : V → PyData
  | .bl b => .bool b
  | .int i => .int i
  | .str z => .str z
  | _ => .none
theorem dp_fl {K : PySem.W.Frag} {H : Hp} {v : V} (h : flatV v = true) : Dp K H v (flD v) := by
  cases v with
  | non => exact .non
  | bl b => exact .bl b
  | int i => exact .int i
  | str z => exact .str z
  | _ => exact absurd (show false = true from h) Bool.false_ne_true
theorem dp_flat {K : PySem.W.Frag} {H : Hp} : ∀ {xs : List V}, xs.all flatV = true → DpAll K H xs (xs.map flD)
  | [], _ => .nil
  | x :: r, h => by
    have h' : (flatV x && r.all flatV) = true := h
    obtain ⟨h1, h2⟩ := Bool.and_eq_true_iff.mp h'
    exact .cons (dp_fl h1) (dp_flat h2)
theorem deep_fl {n : Nat} (v : V) : Deep n (flD v) := by
  cases v <;> first | exact deep_non | exact deep_bool | exact deep_int | exact deep_str
theorem deep_flat {n : Nat} {xs : List V} (h : xs.length ≤ 1000) : Deep (n + 1) (.list (xs.map flD)) := deep_list (by rw [List.length_map]; exact h) fun d hd => by
  obtain ⟨v, _, rfl⟩ := List.mem_map.mp hd
  exact deep_fl v
theorem deep_flatT {n : Nat} {xs : List V} (h : xs.length ≤ 1000) : Deep (n + 1) (.tuple (xs.map flD)) := deep_tup (by rw [List.length_map]; exact h) fun d hd => by
  obtain ⟨v, _, rfl⟩ := List.mem_map.mp hd
  exact deep_fl v
theorem oddX_lstF {K : PySem.W.Frag} {H : Hp} {p : Addr} (xs : List V) (hf : xs.all flatV = true) (h : H p = some (.lst xs)) (hl : xs.length ≤ 100) : OddX K H (.ref p) (.list (xs.map flD)) :=
  ⟨.inr (.inr (.inr (.inr (.inl ⟨p, _, rfl, h⟩)))), .lst (SqL.of h) (dp_flat hf), fun _ => deep_flat (by omega)⟩
theorem oddX_tupF {K : PySem.W.Frag} {H : Hp} {p : Addr} (xs : List V) (hf : xs.all flatV = true) (h : H p = some (.tup xs)) (hl : xs.length ≤ 100) : OddX K H (.ref p) (.tuple (xs.map flD)) :=
  ⟨.inr (.inr (.inr (.inr (.inr ⟨p, _, rfl, h⟩)))), .tup (SqT.of h) (dp_flat hf), fun _ => deep_flatT (by omega)⟩
theorem oddD_lstF {K : PySem.W.Frag} {H : Hp} {b p : Addr} (xs : List V) (hf : xs.all flatV = true) (n : p ≠ b) (h : H p = some (.lst xs)) (hl : xs.length ≤ 100) : OddD K b H (.ref p) (.list (xs.map flD)) := fun H' s => oddX_lstF xs hf (s _ _ n h) hl
theorem oddD_tupF {K : PySem.W.Frag} {H : Hp} {b p : Addr} (xs : List V) (hf : xs.all flatV = true) (n : p ≠ b) (h : H p = some (.tup xs)) (hl : xs.length ≤ 100) : OddD K b H (.ref p) (.tuple (xs.map flD)) := fun H' s => oddX_tupF xs hf (s _ _ n h) hl
/-- asked whether it is a number -/
def AskN (K : PySem.W.Frag) (H : Hp) (v : V) : Prop := isNum v = true ∨ (isNum v = false ∧ NotI K H v)
theorem OddX.askn {K : PySem.W.Frag} {H : Hp} {v : V} {d : PyData} (o : OddX K H v d) : AskN K H v := by
  rcases o.kind with ⟨h, _⟩ | rfl | ⟨i, rfl⟩ | ⟨c, rfl⟩ | ⟨p, xs, rfl, h⟩ | ⟨p, xs, rfl, h⟩
  · obtain ⟨z, rfl⟩ := str_of h
    exact .inr ⟨rfl, "str", .base (.str z), by decide +kernel⟩
  · exact .inr ⟨rfl, "NoneType", .base .non, by decide +kernel⟩
  · exact .inl rfl
  · exact .inl rfl
  · exact .inr ⟨rfl, "list", .base (.lst h), by decide +kernel⟩
  · exact .inr ⟨rfl, "tuple", .base (.tup h), by decide +kernel⟩
section
variable {X : Cx} {CX : CXT} {k j : Nat} {f C : Addr} {sp : Sp} {E : XK} {m : Str} {o e : Expr} {es : List Expr} {ta : TE} {t : TA} {pos apos : Pos}
def tMethR (C : Addr) (m : Str) (sp : Sp) (E : XK) (ta : TE) (t : TA) : TE := fun σ H Q => ta σ H fun x H1 => ∃ a dx fs, x = .ref a ∧ H1 a = some (.ins C dx fs) ∧ fs.lookup m = none ∧ t σ H1 fun vs H2 => sp (V.ref a :: vs) H2 Q E
/-- o.m(e, ..), m told of by what it is called with -/
theorem pe_methR {pl : Sem Bool} (he : PE X o ta) (c : Cls X.K C) (hm : Meth X.K C m f) (F : FnR X.prog X.w X.K X.mg X.base CX k f sp) (hr : Room k X.A) (hx : Passes CX X E) (ha : PA X (e :: es) t)
    (hst : starEach (e :: es) X.env = (false, eval e X.env) :: starEach es X.env := by rfl) (hpl : (backTo pos (starEach es X.env)).any (·.1) = false := by rfl)
    (ht : eval (.Call (.Attribute o m apos) (e :: es) [] pos) X.env = (do
      let ov ← eval o X.env
      standAt apos.atName
      let (f, first) ← holding [ov] (getMethod ov m pl)
      callWith pos f first (backTo pos (starEach (e :: es) X.env)) (backToKw pos (keywordEach [] X.env))) := by rfl) :
    PE X (.Call (.Attribute o m apos) (e :: es) [] pos) (tMethR C m sp E ta t) := by
  refine ⟨fun pins s σ H Q I h => ?_⟩
  refine PySem.W.methodCall_KW (pl := pl) (thn (he.run pins s σ H _ I h) fun u s1 ⟨x, H1, I1, rx, a, dx, fs, ex, ea, l, q⟩ => ?_) ht
  subst ex
  obtain rfl : u = Value.ref a := rx
  refine getmeth_ok I1 ea c hm l ?_
  refine PySem.W.callWith_K (first := [.ref a]) (h₀ := X.base) I.ok.mod.kin hm.kp (thn (ha.run pos pins s1 σ H1 _ I1 q) fun us s2 ⟨vs, H2, I2, r, q2⟩ => ⟨I2.kIn, ?_⟩) hst hpl
  exact wpAny_call (L2.run_fnR (us := .ref a :: us) (vs := .ref a :: vs) F hr hx I2 (.cons rfl r) q2)
/-- o.m() -/
theorem pe_methR0 {pl : Sem Bool} (he : PE X o ta) (c : Cls X.K C) (hm : Meth X.K C m f) (F : FnR X.prog X.w X.K X.mg X.base CX k f sp) (hr : Room k X.A) (hx : Passes CX X E)
    (ht : eval (.Call (.Attribute o m apos) [] [] pos) X.env = (do
      let ov ← eval o X.env
      standAt apos.atName
      let (f, first) ← holding [ov] (getMethod ov m pl)
      callWith pos f first (backTo pos (starEach [] X.env)) (backToKw pos (keywordEach [] X.env))) := by rfl) :
    PE X (.Call (.Attribute o m apos) [] [] pos) (tMethR C m sp E ta tNil) := by
  refine ⟨fun pins s σ H Q I h => ?_⟩
  refine PySem.W.methodCall_KW (pl := pl) (thn (he.run pins s σ H _ I h) fun u s1 ⟨x, H1, I1, rx, a, dx, fs, ex, ea, l, q⟩ => ?_) ht
  subst ex
  obtain rfl : u = Value.ref a := rx
  refine getmeth_ok I1 ea c hm l ?_
  exact PySem.W.callWith_K0 (first := [.ref a]) I1.kIn hm.kp (wpAny_call (L2.run_fnR (us := [.ref a]) (vs := [.ref a]) F hr hx I1 (.cons rfl .nil) q))
structure MCalR (P : Program) (w : World) (K : PySem.W.Frag) (mg : Str → Option Value) (base : Heap) (CX : CXT) (C : Addr) (k : Nat) (m : Str) (sp : Sp) : Prop where
  ex : ∃ f : Addr, Meth K C m f ∧ FnR P w K mg base CX k f sp
theorem pe_mR {pl : Sem Bool} (c : MCalR X.prog X.w X.K X.mg X.base CX0 C k m sp) (hC : Cls X.K C) (hr : Room j X.A) (hk : k ≤ j) (he : PE X o ta) (ha : PA X (e :: es) t)
    (hst : starEach (e :: es) X.env = (false, eval e X.env) :: starEach es X.env := by rfl) (hpl : (backTo pos (starEach es X.env)).any (·.1) = false := by rfl)
    (ht : eval (.Call (.Attribute o m apos) (e :: es) [] pos) X.env = (do
      let ov ← eval o X.env
      standAt apos.atName
      let (f, first) ← holding [ov] (getMethod ov m pl)
      callWith pos f first (backTo pos (starEach (e :: es) X.env)) (backToKw pos (keywordEach [] X.env))) := by rfl) :
    PE X (.Call (.Attribute o m apos) (e :: es) [] pos) (tMethR C m sp E0 ta t) := by
  obtain ⟨f, hm, F⟩ := c.ex
  exact pe_methR he hC hm F (hr.mono hk) pass0 ha hst hpl ht
theorem pe_mR0 {pl : Sem Bool} (c : MCalR X.prog X.w X.K X.mg X.base CX0 C k m sp) (hC : Cls X.K C) (hr : Room j X.A) (hk : k ≤ j) (he : PE X o ta)
    (ht : eval (.Call (.Attribute o m apos) [] [] pos) X.env = (do
      let ov ← eval o X.env
      standAt apos.atName
      let (f, first) ← holding [ov] (getMethod ov m pl)
      callWith pos f first (backTo pos (starEach [] X.env)) (backToKw pos (keywordEach [] X.env))) := by rfl) :
    PE X (.Call (.Attribute o m apos) [] [] pos) (tMethR C m sp E0 ta tNil) := by
  obtain ⟨f, hm, F⟩ := c.ex
  exact pe_methR0 he hC hm F (hr.mono hk) pass0 ht
theorem pe_mRx {pl : Sem Bool} (c : MCalR X.prog X.w X.K X.mg X.base CX C k m sp) (hC : Cls X.K C) (hr : Room j X.A) (hk : k ≤ j) (hx : Passes CX X E) (he : PE X o ta) (ha : PA X (e :: es) t)
    (hst : starEach (e :: es) X.env = (false, eval e X.env) :: starEach es X.env := by rfl) (hpl : (backTo pos (starEach es X.env)).any (·.1) = false := by rfl)
    (ht : eval (.Call (.Attribute o m apos) (e :: es) [] pos) X.env = (do
      let ov ← eval o X.env
      standAt apos.atName
      let (f, first) ← holding [ov] (getMethod ov m pl)
      callWith pos f first (backTo pos (starEach (e :: es) X.env)) (backToKw pos (keywordEach [] X.env))) := by rfl) :
    PE X (.Call (.Attribute o m apos) (e :: es) [] pos) (tMethR C m sp E ta t) := by
  obtain ⟨f, hm, F⟩ := c.ex
  exact pe_methR he hC hm F (hr.mono hk) hx ha hst hpl ht
end
end FW
namespace FW
open PySem PySem.Spec PyProof.Rows L2
-- more
section
variable {P : Program} {w : World} {K : PySem.W.Frag} {mg : Str → Option Value} {base : Heap}
abbrev s__law_used : Stmt := topS 71
theorem sc__law_used : FnScope ["_law_view_z", "_law_cut_here", "_law_across"] ["_law_view_z", "_law_cut_here"] (defScope s__law_used) := ⟨rfl, rfl, rfl, by decide +kernel, rfl, by decide +kernel, by decide +kernel⟩
def idxL (z : Str) (u : Rm) : List V := (idxW (wordV z u)).map fun i => V.int (i : Nat)
def sp__law_used (K : PySem.W.Frag) : Sp := fun vs H Q _ => ∃ (z : Str) (g a b : Nat), vs = [.str z, .str (S [g, a, b])] ∧ z ∈ viewsT ∧ (g = 124 ∨ g = 45) ∧ ∀ p, H p = none → Q (.ref p) (upd H p (.lst (idxL z [g, a, b])))
theorem ok__law_used {f : Addr} {fd : FuncData} (F : Fun K "_law_used" "_law_used" s__law_used f fd) (T : Z mg) : FnOk P w K mg base CX0 1 f fd ["_law_view_z", "_law_cut_here"] (sp__law_used K) := by
  refine F.ok sc__law_used (fun vs H Q E h => ?_) (fun cdv A outer s H vs Q E hr h => ?_)
  · obtain ⟨z, g, a, b, rfl, _⟩ := h
    rfl
  obtain ⟨z, g, a, b, rfl, hz, hg, q⟩ := h
  refine ⟨_, (pss_cons (ps_set (i := 2) sc__law_used.nd rfl (.inl rfl) (pe_cmpR op_eq (pe_ix ix_str (pv 1) pe_int (fun _ _ => rfl)) pe_str (nomark _)))
      (pss_cons (ps_if (PW.pt (pw_or (pt_cmpR op_in_str (pv 0) pe_str (by rfl)) (pw_or1 (pt_cmpR op_eq (pe_cmpR op_in_str (pv 0) pe_str (by rfl)) (pv 2) (nomark _))))) (pss_one (ps_ret (pe_lst (pa_cons pe_int (pa_cons pe_int pa_nil))))) pss_nil)
      (pss_one (ps_ret (pe_ifExp (pt_cmpR op_in_str (pv 0) pe_str (by rfl)) (pe_lst (pa_cons pe_int pa_nil)) (pe_lst (pa_cons pe_int pa_nil))))))), ?_⟩
  have hgm : g ∈ [124, 45] := by rcases hg with rfl | rfl <;> decide
  have ue := used_eq z hz g hgm
  have fin : ∀ {l : List Nat}, l = idxW (if g = 124 then uprightOf z else levelOf z) → ∀ p, H p = none → Q (.ref p) (upd H p (.lst (l.map fun i => V.int (i : Nat)))) := fun e p np => by
    rw [e]
    exact q p np
  have eg : decide (V.str (S [g]) = V.str "|") = decide (g = 124) := decide_eq_decide.mpr ⟨fun e => by
    have e1 : ([g] : List Nat) = [124] := congrArg (fun x : Str => x.cps.toList) (V.str.inj e)
    exact (List.cons.inj e1).1, fun e => by rw [e]; rfl⟩
  refine ⟨_, rfl, S [g, a, b], 0, _, rfl, rfl, (show 3 ≤ sizeLine by decide), atI_nat (j := 0) rfl, rfl, ?_⟩
  rw [eg]
  dsimp only [gName, tSeq]
  refine ⟨_, rfl, z, "AD", rfl, rfl, _, rfl, ?_⟩
  rw [occAD z hz]
  cases e1 : inAD z with
  | true =>
    rw [e1, Bool.true_or, if_pos rfl] at ue
    exact iteT (iteT ⟨(show 2 ≤ sizeLine by decide), fin ue⟩)
  | false =>
    rw [e1, Bool.false_or] at ue
    refine iteF ⟨_, rfl, z, "NS", rfl, rfl, _, rfl, rfl, _, rfl, ?_⟩
    rw [occNS z hz]
    refine ite_dec (fun e => ?_) (fun ne => ?_)
    · rw [V.bl.inj e, beq_self_eq_true, if_pos rfl] at ue
      exact ⟨(show 2 ≤ sizeLine by decide), fin ue⟩
    · have e2 : (inNS z == decide (g = 124)) = false := beq_false_of_ne fun w => ne (by rw [w])
      rw [e2, if_neg Bool.false_ne_true] at ue
      refine ⟨_, rfl, z, "NW", rfl, rfl, _, rfl, ?_⟩
      rw [occNW z hz]
      cases e3 : inNW z with
      | true =>
        rw [e3, if_pos rfl] at ue
        exact iteT ⟨(show 1 ≤ sizeLine by decide), fin ue⟩
      | false =>
        rw [e3, if_neg Bool.false_ne_true] at ue
        exact iteF ⟨(show 1 ≤ sizeLine by decide), fin ue⟩
abbrev s__law_rule : Stmt := topS 72
theorem sc__law_rule : FnScope ["_law_view_z", "_law_cut_here", "_law_used_here"] ["_law_view_z", "_law_cut_here"] (defScope s__law_rule) := ⟨rfl, rfl, rfl, by decide +kernel, rfl, by decide +kernel, by decide +kernel⟩
def dN (l : List Nat) : PyData := .list (l.map fun i => .int (i : Nat))
theorem dp_N {H : Hp} : ∀ l : List Nat, DpAll K H (l.map fun i => V.int (i : Nat)) (l.map fun i => PyData.int (i : Nat))
  | [] => .nil
  | i :: l => .cons (.int _) (dp_N l)
theorem dN_shaped (l : List Nat) : SeqAt.shaped (dN l) = true := by
  refine Lay.shaped (n := 1) (.lst fun d hd => ?_) (by decide)
  obtain ⟨z, _, rfl⟩ := List.mem_map.mp hd
  exact .int _
def sp__law_rule (K : PySem.W.Frag) : Sp := fun vs H Q _ => ∃ (z : Str) (g a b : Nat), vs = [.str z, .str (S [g, a, b])] ∧ z ∈ viewsT ∧ (g = 124 ∨ g = 45) ∧ ∀ H', Same H H' → Q (.str (wordV z [g, a, b])) H'
theorem eqv_idx : ∀ z ∈ viewsT, ∀ g ∈ [124, 45], ∀ l ∈ [[0, 1], [0]], PyData.eqv (dN (idxW (if g = 124 then uprightOf z else levelOf z))) (dN l) = decide (idxW (if g = 124 then uprightOf z else levelOf z) = l) := by decide +kernel
theorem ok__law_rule {f : Addr} {fd : FuncData} (F : Fun K "_law_rule" "_law_rule" s__law_rule f fd) (T : Z mg) (c__law_used : Cal P w K mg base CX0 1 "_law_used" s__law_used ["_law_view_z", "_law_cut_here"] (sp__law_used K)) : FnOk P w K mg base CX0 2 f fd ["_law_view_z", "_law_cut_here"] (sp__law_rule K) := by
  refine F.ok sc__law_rule (fun vs H Q E h => ?_) (fun cdv A outer s H vs Q E hr h => ?_)
  · obtain ⟨z, g, a, b, rfl, _⟩ := h
    rfl
  obtain ⟨z, g, a, b, rfl, hz, hg, q⟩ := h
  refine ⟨_, (pss_cons (ps_set (i := 2) sc__law_rule.nd rfl (.inl rfl) (pe_c c__law_used hr (by decide) (by rfl) (pa_cons (pv 0) (pa_cons (pv 1) pa_nil))))
      (pss_cons (ps_if (pt_cmpR (op_eqD hr.units) (pv 2) (pe_lst (pa_cons pe_int (pa_cons pe_int pa_nil))) (nomark _)) (pss_one (ps_ret (pe_ifExp (PW.pt (pw_or (PW.pt (pw_and (pt_cmpR op_eq (pv 0) pe_str (nomark _)) (pw_and1 (pt_cmpR op_eq (pe_ix ix_str (pv 1) pe_int (fun _ _ => rfl)) pe_str (nomark _))))) (pw_or1 (PW.pt (pw_and (pt_cmpR op_eq (pv 0) pe_str (nomark _)) (pw_and1 (pt_cmpR op_eq (pe_ix ix_str (pv 1) pe_int (fun _ _ => rfl)) pe_str (nomark _)))))))) pe_str pe_str))) pss_nil)
      (pss_one (ps_ret (pe_ifExp (pt_cmpR (op_eqD hr.units) (pv 2) (pe_lst (pa_cons pe_int pa_nil)) (nomark _)) pe_str pe_str))))), ?_⟩
  have hgm : g ∈ [124, 45] := by rcases hg with rfl | rfl <;> decide
  have re := rule_eq z hz g hgm
  have ev := eqv_idx z hz g hgm
  have fin : ∀ {t : Str}, t = (if g = 124 then uprightOf z else levelOf z) → ∀ H', Same H H' → Q (.str t) H' := fun e H' s' => by
    rw [e]
    exact q H' s'
  have eg : ∀ (n : Nat) (t : Str), t = S [n] → decide (V.str (S [g]) = V.str t) = decide (g = n) := fun n t ht => by
    rw [ht]
    exact decide_eq_decide.mpr ⟨fun e => (List.cons.inj (S_inj (V.str.inj e))).1, fun e => by rw [e]⟩
  refine ⟨_, rfl, _, rfl, z, g, a, b, rfl, hz, hg, fun p np => ?_⟩
  have s1 := same_upd (o := HO.lst (idxL z [g, a, b])) np
  have hp1 : (upd H p (.lst (idxL z [g, a, b]))) p = some (.lst ((idxW (if g = 124 then uprightOf z else levelOf z)).map fun i => V.int (i : Nat))) := upd_same
  generalize upd H p (.lst (idxL z [g, a, b])) = H1 at s1 hp1 ⊢
  refine ⟨_, rfl, (show 2 ≤ sizeLine by decide), fun p2 np2 => ?_⟩
  have s2 := same_upd (o := HO.lst [V.int 0, V.int 1]) np2
  have hp2 : (upd H1 p2 (.lst [V.int 0, V.int 1])) p2 = some (.lst (([0, 1] : List Nat).map fun i => V.int (i : Nat))) := upd_same
  have hp12 := s2 _ _ hp1
  have s02 := s1.trans s2
  generalize upd H1 p2 (.lst [V.int 0, V.int 1]) = H2 at hp2 hp12 s02 ⊢
  refine ⟨dN (idxW (if g = 124 then uprightOf z else levelOf z)), dN [0, 1], .lst (SqL.of hp12) (dp_N _), .lst (SqL.of hp2) (dp_N _), dN_shaped _, dN_shaped _, _, rfl, ?_⟩
  rw [ev _ (by decide)]
  refine ite_dec (fun e01 => ?_) (fun n01 => ?_)
  · rw [if_pos e01] at re
    refine ⟨_, rfl, rfl, _, rfl, ite_dec (fun eA => ?_) (fun nA => ?_)⟩
    · have zA : z = "A" := V.str.inj eA
      refine ⟨_, rfl, S [g, a, b], 0, _, rfl, rfl, (show 3 ≤ sizeLine by decide), atI_nat (j := 0) rfl, rfl, _, rfl, ?_⟩
      rw [eg 45 "-" (by decide +kernel)]
      refine ite_dec (fun e45 => ?_) (fun n45 => ?_)
      · exact iteT (fin (by rw [← re, if_pos (.inl ⟨zA, e45⟩)]) _ s02)
      · refine ⟨_, rfl, rfl, _, rfl, ite_dec (fun eD => ?_) (fun nD => ?_)⟩
        · exact absurd (zA.symm.trans (V.str.inj eD)) (by decide +kernel)
        · exact iteF (fin (by rw [← re, if_neg (fun w => w.elim (fun w => n45 w.2) (fun w => nD (by rw [w.1])))]) _ s02)
    · refine ⟨_, rfl, rfl, _, rfl, ite_dec (fun eD => ?_) (fun nD => ?_)⟩
      · have zD : z = "D" := V.str.inj eD
        refine ⟨_, rfl, S [g, a, b], 0, _, rfl, rfl, (show 3 ≤ sizeLine by decide), atI_nat (j := 0) rfl, rfl, _, rfl, ?_⟩
        rw [eg 124 "|" (by decide +kernel)]
        refine ite_dec (fun e124 => ?_) (fun n124 => ?_)
        · exact fin (by rw [← re, if_pos (.inr ⟨zD, e124⟩)]) _ s02
        · exact fin (by rw [← re, if_neg (fun w => w.elim (fun w => nA (by rw [w.1])) (fun w => n124 w.2))]) _ s02
      · exact iteF (fin (by rw [← re, if_neg (fun w => w.elim (fun w => nA (by rw [w.1])) (fun w => nD (by rw [w.1])))]) _ s02)
  · rw [if_neg n01] at re
    refine ⟨_, rfl, (show 1 ≤ sizeLine by decide), fun p3 np3 => ?_⟩
    have s3 := same_upd (o := HO.lst [V.int 0]) np3
    have hp3 : (upd H2 p3 (.lst [V.int 0])) p3 = some (.lst (([0] : List Nat).map fun i => V.int (i : Nat))) := upd_same
    have hp13 := s3 _ _ hp12
    have s03 := s02.trans s3
    generalize upd H2 p3 (.lst [V.int 0]) = H3 at hp3 hp13 s03 ⊢
    refine ⟨dN (idxW (if g = 124 then uprightOf z else levelOf z)), dN [0], .lst (SqL.of hp13) (dp_N _), .lst (SqL.of hp3) (dp_N _), dN_shaped _, dN_shaped _, _, rfl, ?_⟩
    rw [ev _ (by decide)]
    refine ite_dec (fun e0 => ?_) (fun n0 => ?_)
    · rw [if_pos e0] at re
      exact fin re _ s03
    · rw [if_neg n0] at re
      exact fin re _ s03
end
end FW
namespace FW
open PySem PySem.Spec PyProof.Rows L2
-- more
section
variable {P : Program} {w : World} {K : PySem.W.Frag} {mg : Str → Option Value} {base : Heap}
abbrev s__law_some_history : Stmt := topS 74
theorem sc__law_some_history : FnScope ["_law_bag", "_law_spec", "_law_start_z", "_law_many", "_law_steps", "_law_rooms", "_law_cuts", "_law_k", "_law_spots", "_law_address", "_law_cutter", "_law_parts_here"] ["_law_bag", "_law_spec", "_law_start_z", "_law_many"] (defScope s__law_some_history) := ⟨rfl, rfl, rfl, by decide +kernel, rfl, by decide +kernel, by decide +kernel⟩
def cutD (cs : List (List Nat × List Nat × Nat)) : List (Key × V) := cs.map fun c => (.inr (S c.1), .str (S [c.2.2]))
theorem valV_cutD (t : Tr) (a : List Nat) : (valV (cutD t.cuts) (.inr (S a))).isSome = t.isCut a := by
  rw [← valV_any]
  unfold cutD Tr.isCut
  rw [List.any_map]
  congr 1
  funext c
  exact decide_eq_decide.mpr inr_S
theorem cutD_put {t : Tr} {a p0 p1 room : List Nat} {c : Nat} (h : t.isCut a = false) : putK (cutD t.cuts) (.inr (S a)) (.str (S [c])) = cutD (t.cutAt a p0 p1 room c).cuts := by
  have e : valV (cutD t.cuts) (.inr (S a)) = none := by
    have := valV_cutD t a
    rw [h] at this
    cases z : valV (cutD t.cuts) (.inr (S a)) with
    | none => rfl
    | some v => rw [z] at this; cases this
  rw [putK_new _ e]
  unfold cutD Tr.cutAt
  rw [List.map_append]
  rfl
/-- a drawn history and its tree -/
structure HistAt (K : PySem.W.Frag) (H : Hp) (b q sl rd cd : Addr) (ts : List Addr) (ss : List Stp) (T : Tr) : Prop where
  top : H q = some (.lst [.ref sl, .ref rd, .ref cd])
  steps : H sl = some (.lst (ts.map V.ref))
  sts : ts.length = ss.length ∧ ∀ (i : Nat) (t : Addr) (s : Stp), ts[i]? = some t → ss[i]? = some s → H t = some (.tup [.str (S s.1), .str (S [s.2])])
  rooms : H rd = some (.dK (kvR T.rooms))
  cuts : H cd = some (.dK (cutD T.cuts))
  qb : q ≠ b
  sb : sl ≠ b
  rb : rd ≠ b
  cb : cd ≠ b
theorem HistAt.drawn {H H' : Hp} {b l q sl rd cd : Addr} {ts : List Addr} {ss : List Stp} {T : Tr} (h : HistAt K H b q sl rd cd ts ss T) (B : Bag H b l) (s : But b H H') : HistAt K H' b q sl rd cd ts ss T := by
  obtain ⟨xs, hb⟩ := B.la
  exact ⟨s _ _ h.qb h.top, s _ _ h.sb h.steps, ⟨h.sts.1, fun i t x h1 h2 => s _ _ (fun z => by
    have := h.sts.2 i t x h1 h2
    rw [z, hb] at this
    cases this) (h.sts.2 i t x h1 h2)⟩, s _ _ h.rb h.rooms, s _ _ h.cb h.cuts, h.qb, h.sb, h.rb, h.cb⟩
theorem HistAt.same {H H' : Hp} {b q sl rd cd : Addr} {ts : List Addr} {ss : List Stp} {T : Tr} (h : HistAt K H b q sl rd cd ts ss T) (s : Same H H') : HistAt K H' b q sl rd cd ts ss T :=
  ⟨s _ _ h.top, s _ _ h.steps, ⟨h.sts.1, fun i t x h1 h2 => s _ _ (h.sts.2 i t x h1 h2)⟩, s _ _ h.rooms, s _ _ h.cuts, h.qb, h.sb, h.rb, h.cb⟩
theorem HistAt.stepsAt {H : Hp} {b q sl rd cd : Addr} {ts : List Addr} {ss : List Stp} {T : Tr} (h : HistAt K H b q sl rd cd ts ss T) : StepsAt K H ts ss := ⟨h.sts.1, fun i t s h1 h2 => SqT.of (h.sts.2 i t s h1 h2)⟩
theorem valid_snoc {cut : List Nat → Nat → List Nat} {C : List Nat} : ∀ {ss : List Stp} {t : Tr} {s : Stp}, Valid cut C t ss → lk (Tr.run cut t ss).stand s.1 ≠ none → s.2 ∈ C → Valid cut C t (ss ++ [s])
  | [], _, _, _, h1, h2 => ⟨h1, h2, trivial⟩
  | _ :: _, _, _, v, h1, h2 => ⟨v.1, v.2.1, valid_snoc v.2.2 h1 h2⟩
theorem run_app {cut : List Nat → Nat → List Nat} {t : Tr} {ss : List Stp} {s : Stp} : Tr.run cut t (ss ++ [s]) = (Tr.run cut t ss).step cut s := by
  unfold Tr.run
  rw [List.foldl_append]
  rfl
def sp__law_some_history (K : PySem.W.Frag) : Sp := fun vs H Q _ => ∃ (b lb p lp : Addr) (F C : List Nat) (ls : List LineV) (start : List Nat) (m : Nat), vs = [.ref b, .ref p, .str (S start), .int m] ∧ Bag H b lb ∧ SpecAt H b p lp F C ls ∧ SpecS ls ∧ (∀ r ∈ ls, CutR r.2.2.2.2.2.2 F) ∧
  0 < C.length ∧ C.length ≤ 100 ∧ start.length = 4 ∧ (∀ y ∈ start, y ∈ F) ∧ m ≤ 31 ∧
  ∀ H' q sl rd cd ts ss, But b H H' → Bag H' b lb → H q = none → ss.length ≤ m → Valid (cutL ls) C (Tr.start start) ss → HistAt K H' b q sl rd cd ts ss (Tr.run (cutL ls) (Tr.start start) ss) → Q (.ref q) H'
theorem ok__law_some_history {f : Addr} {fd : FuncData} (F : Fun K "_law_some_history" "_law_some_history" s__law_some_history f fd) (T : Z mg) (c__law_of : Cal P w K mg base CX0 2 "_law_of" s__law_of ["_law_bag", "_law_things"] (sp__law_of K))
    (c__law_parts : Cal P w K mg base CX0 4 "_law_parts" s__law_parts ["_law_spec", "_law_room", "_law_cutter"] (sp__law_parts K)) : FnOk P w K mg base CX0 5 f fd ["_law_bag", "_law_spec", "_law_start_z", "_law_many"] (sp__law_some_history K) := by
  refine F.ok sc__law_some_history (fun vs H Q E h => ?_) (fun cdv A outer s H vs Q E hr h => ?_)
  · obtain ⟨b, lb, p, lp, F, C, ls, start, m, rfl, _⟩ := h
    rfl
  obtain ⟨b, lb, p, lp, fs, cs, ls, start, m, rfl, B, hs, hl, hcu, hC0, hC1, hr4, hrf, hm, q⟩ := h
  refine ⟨_, (pss_cons (ps_asg (pe_tup (pa_cons (pe_lst pa_nil) (pa_cons (pe_disp (pps_cons pe_str (pv 2) pps_nil) (by rfl) (by rfl) (fun z => by cases z) (by decide)) (pa_cons pe_dnewK pa_nil)))) (pg_tup rfl (pgs_cons (pg_name (i := 4) sc__law_some_history.nd rfl (.inl rfl)) (pgs_cons (pg_name (i := 5) sc__law_some_history.nd rfl (.inl rfl)) (pgs_cons (pg_name (i := 6) sc__law_some_history.nd rfl (.inr rfl)) pgs_nil)))))
      (pss_cons (ps_for PassesOwn.never rfl (pi_range1 (by rfl) T.z_range (pa_cons (pv 3) pa_nil)) (pg_name (i := 7) sc__law_some_history.nd rfl (.inl rfl))
        (pss_cons (ps_set (i := 8) sc__law_some_history.nd rfl (.inl rfl) (pe_callB cr_sortedS (by rfl) T.z_sorted (by decide +kernel) (pa_cons (pe_lc (own := [("_law_address", 9)]) (g := (gName 9)) (by rfl) sc__law_some_history.nd (pi_list (pe_callTy (call_list_dK rfl) (by rfl) T.z_list (by decide +kernel) (pa_cons (pv 5) pa_nil))) (blkOk_by (N := ["_law_bag", "_law_spec", "_law_start_z", "_law_many", "_law_steps", "_law_rooms", "_law_cuts", "_law_k", "_law_spots", "_law_address", "_law_cutter", "_law_parts_here"]) (sc := defScope s__law_some_history) (by decide +kernel)) (fun _ _ _ _ _ => (pg_name (i := 9) sc__law_some_history.nd rfl (.inl rfl))) (fun _ _ _ _ _ => (pts_one (pt_cmp (pc_dnotin (hu_of hr) (pv 9) (pv 6))))) (fun _ _ _ _ _ => (pv 9))) pa_nil)))
      (pss_cons (ps_par (i := 9) (j := 10) (by rfl) sc__law_some_history.nd rfl rfl (by decide) rfl rfl (pa_cons (pe_c c__law_of hr (by decide) (by rfl) (pa_cons (pv 0) (pa_cons (pv 8) pa_nil))) (pa_cons (pe_c c__law_of hr (by decide) (by rfl) (pa_cons (pv 0) (pa_cons (pe_ix ix_list (pv 1) pe_int (fun _ _ => rfl)) pa_nil))) pa_nil)) (by rfl))
      (pss_cons (ps_expr (pe_bm PySem.F.plainAttrs_list PySem.F.slot_list_append PySem.F.type_list_append mt_append (pv 4) (pa_cons (pe_tup (pa_cons (pv 9) (pa_cons (pv 10) pa_nil))) pa_nil)))
      (pss_cons (ps_set (i := 11) sc__law_some_history.nd rfl (.inl rfl) (pe_c c__law_parts hr (by decide) (by rfl) (pa_cons (pv 1) (pa_cons (pe_dget (hu_of hr) (pv 5) (pv 9) (fun _ _ => rfl)) (pa_cons (pv 10) pa_nil)))))
      (pss_one (ps_if (pt_cmpR op_eq (pe_callB call_len_seq (by rfl) T.z_len (by decide +kernel) (pa_cons (pv 11) pa_nil)) pe_int (nomark _)) (pss_cons (ps_dput (hu_of hr) (pv 6) (pv 9) (pv 10) rfl)
      (pss_cons (ps_dput (hu_of hr) (pv 5) (pe_op op_add_str (pv 9) pe_str) (pe_ix ix_list (pv 11) pe_int (fun _ _ => rfl)) rfl)
      (pss_one (ps_dput (hu_of hr) (pv 5) (pe_op op_add_str (pv 9) pe_str) (pe_ix ix_list (pv 11) pe_int (fun _ _ => rfl)) rfl)))) pss_nil)))))))
      (pss_one (ps_ret (pe_lst (pa_cons (pv 4) (pa_cons (pv 5) (pa_cons (pv 6) pa_nil)))))))), ?_⟩
  have hcut : ∀ r c, CutR (cutL ls r c) fs := fun r c => cutL_form hcu
  -- the list, the two dicts
  refine ⟨(show 0 ≤ sizeLine by decide), fun sl nsl => fun rd nrd => ⟨_, rfl, upd_same, [(Sum.inr "", .str (S start))], rfl, (show 1 ≤ 15 by decide), fun cd ncd => ⟨(show 3 ≤ sizeLine by decide), fun pt npt => ⟨pt, _, rfl, SqT.of upd_same, rfl, _, _, rfl, _, _, rfl, _, _, rfl, rfl, ?_⟩⟩⟩⟩
  have nsl0 := nsl
  have s0 : Same H (upd H sl (.lst [])) := same_upd nsl
  have nrd0 : H rd = none := none_same s0 nrd
  have nslrd : sl ≠ rd := ne_of_none (upd_same : (upd H sl (.lst [])) sl = some (.lst [])) nrd
  have e1 : upd (upd (upd H sl (.lst [])) rd (.dK [])) rd (.dK (mergeK [] [(Sum.inr "", .str (S start))])) = upd (upd H sl (.lst [])) rd (.dK (kvR (Tr.start start).rooms)) := upd_upd
  rw [e1] at ncd npt ⊢
  have s1 := s0.trans (same_upd (o := HO.dK (kvR (Tr.start start).rooms)) nrd)
  have hrd1 : (upd (upd H sl (.lst [])) rd (.dK (kvR (Tr.start start).rooms))) rd = some (.dK (kvR (Tr.start start).rooms)) := upd_same
  have hsl1 : (upd (upd H sl (.lst [])) rd (.dK (kvR (Tr.start start).rooms))) sl = some (.lst []) := by
    rw [upd_ne nslrd]
    exact upd_same
  generalize upd (upd H sl (.lst [])) rd (.dK (kvR (Tr.start start).rooms)) = H1 at s1 hrd1 hsl1 ncd npt ⊢
  have ncd0 : H cd = none := none_same s1 ncd
  have nslcd : sl ≠ cd := ne_of_none hsl1 ncd
  have nrdcd : rd ≠ cd := ne_of_none hrd1 ncd
  have s2 := same_upd (o := HO.dK []) ncd
  have hcd2 : (upd H1 cd (.dK [])) cd = some (.dK (cutD (Tr.start start).cuts)) := upd_same
  have hsl2 := s2 _ _ hsl1
  have hrd2 := s2 _ _ hrd1
  generalize upd H1 cd (.dK []) = H2 at s2 hcd2 hsl2 hrd2 npt ⊢
  have s3 := same_upd (o := HO.tup [V.ref sl, V.ref rd, V.ref cd]) npt
  have hcd3 := s3 _ _ hcd2
  have hsl3 := s3 _ _ hsl2
  have hrd3 := s3 _ _ hrd2
  have s03 : Same H _ := (s1.trans s2).trans s3
  generalize upd H2 pt (.tup [V.ref sl, V.ref rd, V.ref cd]) = H3 at s3 hcd3 hsl3 hrd3 s03 ⊢
  clear s0 s1 s2 s3 hsl1 hrd1 hsl2 hrd2 hcd2 ncd nrd npt nsl e1
  have B3 := B.same s03
  have hslb : sl ≠ b := B.ne nsl0
  have hrdb : rd ≠ b := B.ne nrd0
  have hcdb : cd ≠ b := B.ne ncd0
  have hslb2 : sl ≠ lb := B.ne2 nsl0
  have hrdb2 : rd ≠ lb := B.ne2 nrd0
  have hcdb2 : cd ≠ lb := B.ne2 ncd0
  refine ⟨_, rfl, (m : Int), rfl, by omega, by omega, for_range (n := ((m : Nat) : Int).toNat) (fun i σ H' => ∃ (ts : List Addr) (ss : List Stp) (y7 y8 y9 y10 y11 : Option V), σ = [some (.ref b), some (.ref p), some (.str (S start)), some (.int m), some (.ref sl), some (.ref rd), some (.ref cd), y7, y8, y9, y10, y11] ∧ ss.length = i ∧ Valid (cutL ls) cs (Tr.start start) ss ∧
    H' sl = some (.lst (ts.map V.ref)) ∧ (ts.length = ss.length ∧ ∀ (i : Nat) (t : Addr) (s : Stp), ts[i]? = some t → ss[i]? = some s → H' t = some (.tup [.str (S s.1), .str (S [s.2])])) ∧ H' rd = some (.dK (kvR (Tr.run (cutL ls) (Tr.start start) ss).rooms)) ∧ H' cd = some (.dK (cutD (Tr.run (cutL ls) (Tr.start start) ss).cuts)) ∧ Bag H' b lb ∧ But b H H') ⟨[], [], _, _, _, _, _, rfl, rfl, trivial, hsl3, ⟨rfl, fun i t s h => by cases h⟩, hrd3, hcd3, B3, s03.but⟩ ?_ ?_⟩
  · rintro i σ H4 hi ⟨ts, ss, y7, y8, y9, y10, y11, rfl, hl, val, hsl4, hts, hrd4, hcd4, B4, b4⟩
    have ok0 := Tr.start_ok hr4 hrf
    obtain ⟨tok, _, tlen⟩ := Valid.run hcut ok0 val ss.length (Nat.le_refl _)
    rw [List.take_length] at tok tlen
    have im : i < m := by
      have : ((m : Nat) : Int).toNat = m := Int.toNat_natCast m
      omega
    have h0 : (Tr.start start).cuts.length = 0 := rfl
    rw [h0] at tlen
    have hfew := tok.few
    have hrun : ∀ s, Tr.run (cutL ls) (Tr.start start) (ss ++ [s]) = (Tr.run (cutL ls) (Tr.start start) ss).step (cutL ls) s := fun s => run_app
    have hval : ∀ s, lk (Tr.run (cutL ls) (Tr.start start) ss).stand s.1 ≠ none → s.2 ∈ cs → Valid (cutL ls) cs (Tr.start start) (ss ++ [s]) := fun s h1 h2 => valid_snoc val h1 h2
    generalize Tr.run (cutL ls) (Tr.start start) ss = tr at hrd4 hcd4 tok tlen hfew hrun hval
    have nkv : ∀ l : List AR, (kvR l).length = l.length := fun l => List.length_map _
    refine ⟨_, rfl, ?_⟩
    refine ⟨rd, _, rfl, hrd4, fun kq nkq => ?_⟩
    have sk := same_upd (o := HO.lst ((kvR tr.rooms).map fun q => kV q.1)) nkq
    have hkq : (upd H4 kq (HO.lst ((kvR tr.rooms).map fun q => kV q.1))) kq = some (HO.lst ((kvR tr.rooms).map fun q => kV q.1)) := upd_same
    have ek : ((kvR tr.rooms).map fun q => kV q.1) = tr.rooms.map fun r => V.str (S r.1) := by
      unfold kvR
      rw [List.map_map]
      rfl
    rw [ek] at hkq sk
    refine ⟨kq, rfl, ⟨_, SqL.of upd_same⟩, fun D nD => ?_⟩
    rw [ek] at nD ⊢
    generalize upd H4 kq (HO.lst (tr.rooms.map fun r => V.str (S r.1))) = H5 at sk hkq nD ⊢
    have hkD : kq ≠ D := ne_of_none hkq nD
    have sD := same_upd (o := HO.lst ([] : List V)) nD
    refine lc_it (walk_list (xs := tr.rooms.map fun r => V.str (S r.1))) (fun i H' => H' = upd H5 D (.lst (((tr.rooms.take i).filter fun r => !tr.isCut r.1).map fun r => V.str (S r.1)))) rfl (fun i H' _ e => ?_) ?_ ?_
    · rw [e]
      exact SqL.of (by
        rw [upd_ne hkD]
        exact hkq)
    · rintro j x _ _ hj rfl ⟨rfl, hx⟩
      rw [List.getElem?_map] at hx
      obtain ⟨r, hr1, rfl⟩ := Option.map_eq_some_iff.mp hx
      have hcdD : cd ≠ D := ne_of_none (sk _ _ hcd4) nD
      have hg : DGet (upd H5 D (.lst (((tr.rooms.take j).filter fun r => !tr.isCut r.1).map fun r => V.str (S r.1)))) cd (.str (S r.1)) (valV (cutD tr.cuts) (.inr (S r.1))) := DGet.k (k := Sum.inr (S r.1)) (by
        rw [upd_ne hcdD]
        exact sk _ _ hcd4)
      refine ⟨rfl, _, rfl, _, rfl, cd, _, rfl, hg, _, rfl, ?_⟩
      rw [valV_cutD]
      have e : tr.rooms.take (j + 1) = tr.rooms.take j ++ [r] := by
        rw [List.take_add_one, hr1]
        rfl
      rw [e, List.filter_append]
      have hlt : ((tr.rooms.take j).filter fun r => !tr.isCut r.1).length ≤ 63 := by
        have h1 := List.length_filter_le (fun r : AR => !tr.isCut r.1) (tr.rooms.take j)
        have h2 : (tr.rooms.take j).length ≤ tr.rooms.length := by rw [List.length_take]; exact Nat.min_le_right _ _
        omega
      cases hc : tr.isCut r.1 with
      | true =>
        refine iteF ?_
        rw [show ([r].filter fun r : AR => !tr.isCut r.1) = [] from by simp [hc], List.append_nil]
      | false =>
        refine iteT ⟨_, rfl, _, upd_same, ?_, ?_⟩
        · rw [List.length_map]
          exact sz1 (by omega)
        · rw [upd_upd, show ([r].filter fun r : AR => !tr.isCut r.1) = [r] from by simp [hc], List.map_append]
          rfl
    rintro _ rfl
    rw [List.take_of_length_le (by rw [List.length_map]; exact Nat.le_refl _)]
    rw [show (tr.rooms.filter fun r => !tr.isCut r.1) = tr.stand from rfl]
    have hstl : tr.stand.length ≤ 63 := by
      have h1 : tr.stand.length ≤ tr.rooms.length := List.length_filter_le _ _
      omega
    have est : (tr.stand.map fun r => V.str (S r.1)) = (tr.stand.map fun r => S r.1).map V.str := by
      rw [List.map_map]
      rfl
    have s6 := sk.trans (same_upd (o := HO.lst (tr.stand.map fun r => V.str (S r.1))) nD)
    refine ⟨D, tr.stand.map fun r => S r.1, rfl, SqL.of (by rw [← est]; exact upd_same), by rw [List.length_map]; omega, fun ys ks hperm _ nks => ?_⟩
    have s7 := s6.trans (same_upd (o := HO.lst (ys.map V.str)) nks)
    have hks : (upd (upd H5 D (.lst (tr.stand.map fun r => V.str (S r.1)))) ks (HO.lst (ys.map V.str))) ks = some (.lst (ys.map V.str)) := upd_same
    have nks0 := none_same s6 nks
    generalize upd (upd H5 D (.lst (tr.stand.map fun r => V.str (S r.1)))) ks (HO.lst (ys.map V.str)) = H7 at s7 hks ⊢
    clear s6 sk sD nD nks nkq hkq hkD
    have B7 := B4.same s7
    have nksb : ks ≠ b := B4.ne nks0
    have hyl : ys.length = tr.stand.length := by rw [hperm.length_eq, List.length_map]
    have hne : tr.stand.length ≠ 0 := fun e => tok.ne (List.length_eq_zero_iff.mp e)
    refine ⟨_, rfl, _, rfl, b, lb, .ref ks, ys.map V.str, rfl, B7, .inl ⟨ks, nksb, rfl, SqL.of hks⟩, by rw [List.length_map]; omega, by rw [List.length_map]; omega, fun H8 v hv b8 B8 => ?_⟩
    obtain ⟨y, hy, rfl⟩ := List.mem_map.mp hv
    obtain ⟨r, hr1, rfl⟩ := List.mem_map.mp (hperm.mem_iff.mp hy)
    have b48 : But b H4 H8 := s7.but.trans b8
    have hs8 := (hs.drawn b4).drawn b48
    refine ⟨_, rfl, _, rfl, p, _, _, _, rfl, rfl, SqL.of hs8.top, rfl, b, lb, .str (S cs), cs.map sgn, rfl, B8, .inr (.inr ⟨cs, rfl, rfl⟩), by rw [List.length_map]; exact hC0, by rw [List.length_map]; omega, fun H9 v hv b9 B9 => ?_⟩
    obtain ⟨c, hc, rfl⟩ := List.mem_map.mp hv
    have b49 := b48.trans b9
    clear b8 b9 B8 b48 B7 s7 hs8 hks nks0 nksb hv
    refine ⟨_, _, rfl, ?_⟩
    have B9 := B9
    have hsl9 := b49 _ _ hslb hsl4
    have hrd9 := b49 _ _ hrdb hrd4
    have hcd9 := b49 _ _ hcdb hcd4
    have hs9 := (hs.drawn b4).drawn b49
    obtain ⟨xsb, hbb⟩ := B4.la
    have hts9 : ∀ (i : Nat) (t : Addr) (s : Stp), ts[i]? = some t → ss[i]? = some s → H9 t = some (.tup [.str (S s.1), .str (S [s.2])]) := fun i t x h1 h2 => b49 _ _ (fun z => by
      have := hts.2 i t x h1 h2
      rw [z, hbb] at this
      cases this) (hts.2 i t x h1 h2)
    refine ⟨_, rfl, .inl ⟨rfl, _, SqL.of hsl9⟩, _, rfl, _, rfl, (show 2 ≤ sizeLine by decide), fun tu ntu => ?_⟩
    have s10 := same_upd (o := HO.tup [V.str (S r.1), V.str (S [c])]) ntu
    have htu : (upd H9 tu (.tup [V.str (S r.1), V.str (S [c])])) tu = some (.tup [V.str (S r.1), V.str (S [c])]) := upd_same
    have ntub : tu ≠ b := B9.ne ntu
    have htsl : tu ≠ sl := fun z => by
      rw [z, hsl9] at ntu
      cases ntu
    have hsl10 := s10 _ _ hsl9
    have hrd10 := s10 _ _ hrd9
    have hcd10 := s10 _ _ hcd9
    have hs10 := hs9.same s10
    have B10 := B9.same s10
    have hts10 : ∀ (i : Nat) (t : Addr) (s : Stp), ts[i]? = some t → ss[i]? = some s → _ := fun i t x h1 h2 => s10 _ _ (hts9 i t x h1 h2)
    have b410 := b49.trans s10.but
    generalize upd H9 tu (.tup [V.str (S r.1), V.str (S [c])]) = H10 at s10 htu hsl10 hrd10 hcd10 hs10 B10 hts10 b410 ⊢
    clear hsl9 hrd9 hcd9 hs9 hts9 b49 B9 s10 ntu
    refine ⟨sl, _, _, rfl, rfl, hsl10, by rw [List.length_map, hts.1]; exact sz1 (by omega), ?_⟩
    have nslrd : sl ≠ rd := fun z => by
      rw [z, hrd10] at hsl10
      cases hsl10
    have nslcd : sl ≠ cd := fun z => by
      rw [z, hcd10] at hsl10
      cases hsl10
    have nrdcd : kvR tr.rooms = cutD tr.cuts ∨ rd ≠ cd := by
      by_cases z : rd = cd
      · rw [z, hcd10] at hrd10
        exact .inl (HO.dK.inj (Option.some.inj hrd10)).symm
      · exact .inr z
    have e11 : ts.map V.ref ++ [V.ref tu] = (ts ++ [tu]).map V.ref := by
      rw [List.map_append]
      rfl
    rw [e11]
    have hsl11 : (upd H10 sl (.lst ((ts ++ [tu]).map V.ref))) sl = some (.lst ((ts ++ [tu]).map V.ref)) := upd_same
    have keep : ∀ a o, H10 a = some o → a ≠ sl → (upd H10 sl (.lst ((ts ++ [tu]).map V.ref))) a = some o := fun a o e n => by
      rw [upd_ne n]
      exact e
    have hrd11 := keep _ _ hrd10 nslrd.symm
    have hcd11 := keep _ _ hcd10 nslcd.symm
    have htu11 := keep _ _ htu htsl
    have hts11 : ∀ (i : Nat) (t : Addr) (s : Stp), (ts ++ [tu])[i]? = some t → (ss ++ [(r.1, c)])[i]? = some s → (upd H10 sl (.lst ((ts ++ [tu]).map V.ref))) t = some (.tup [.str (S s.1), .str (S [s.2])]) := fun j t x h1 h2 => by
      by_cases hj : j < ts.length
      · rw [List.getElem?_append_left hj] at h1
        rw [List.getElem?_append_left (by rw [← hts.1]; exact hj)] at h2
        exact keep _ _ (hts10 j t x h1 h2) (fun z => by
          have := hts10 j t x h1 h2
          rw [z, hsl10] at this
          cases this)
      · have hj2 : j < ts.length + 1 := by
          have := (List.getElem?_eq_some_iff.mp h1).1
          rwa [List.length_append] at this
        have hj3 : j = ts.length := by omega
        subst hj3
        rw [List.getElem?_append_right (Nat.le_refl _), Nat.sub_self] at h1
        rw [hts.1, List.getElem?_append_right (Nat.le_refl _), Nat.sub_self] at h2
        cases h1
        cases h2
        exact htu11
    have B11 : Bag (upd H10 sl (.lst ((ts ++ [tu]).map V.ref))) b lb := B10.upd hslb hslb2
    have b0 : But b H (upd H10 sl (.lst ((ts ++ [tu]).map V.ref))) := fun a o n e => by
      have nsl : a ≠ sl := fun z => by
        rw [z, nsl0] at e
        cases e
      exact keep _ _ (b410 _ _ n (b4 _ _ n e)) nsl
    have hs11 := hs.drawn b0
    generalize upd H10 sl (.lst ((ts ++ [tu]).map V.ref)) = H11 at hsl11 hrd11 hcd11 htu11 hts11 B11 b0 hs11 ⊢
    clear keep hts10 b410 B10 hs10 hcd10 hrd10 hsl10 htu htsl htu11
    have hlk : lk tr.stand r.1 = some r.2 := lk_of tok.stand_nd hr1
    have hform := tok.form _ (Tr.stand_sub hr1).1
    have hg : DGet H11 rd (.str (S r.1)) (some (.str (S r.2))) := by
      have := DGet.k (k := Sum.inr (S r.1)) hrd11
      rw [valV_kvR, Tr.lk_rooms tok hlk] at this
      exact this
    have hlen11 : (ts ++ [tu]).length = (ss ++ [(r.1, c)]).length := by simp [hts.1]
    have hssl : (ss ++ [(r.1, c)]).length = i + 1 := by simp [hl]
    have hv11 := hval (r.1, c) (by rw [hlk]; exact Option.some_ne_none _) hc
    have htr11 := hrun (r.1, c)
    refine ⟨_, rfl, _, rfl, _, rfl, rd, _, rfl, hg, _, rfl, p, lp, b, fs, cs, ls, r.2, c, rfl, hs11, ‹SpecS ls›, hform.1, hcu, fun H12 pq s12 npq => ?_⟩
    have s13 := s12.trans (same_upd (o := HO.lst ((splitL r.2 (cutL ls r.2 c)).map fun r => V.str (S r))) npq)
    have hpq : (upd H12 pq (HO.lst ((splitL r.2 (cutL ls r.2 c)).map fun r => V.str (S r)))) pq = some (HO.lst ((splitL r.2 (cutL ls r.2 c)).map fun r => V.str (S r))) := upd_same
    generalize upd H12 pq (HO.lst ((splitL r.2 (cutL ls r.2 c)).map fun r => V.str (S r))) = H13 at s13 hpq ⊢
    have hsl13 := s13 _ _ hsl11
    have hrd13 := s13 _ _ hrd11
    have hcd13 := s13 _ _ hcd11
    have B13 := B11.same s13
    have b013 : But b H H13 := b0.trans s13.but
    have hts13 : ∀ (i : Nat) (t : Addr) (s : Stp), (ts ++ [tu])[i]? = some t → (ss ++ [(r.1, c)])[i]? = some s → H13 t = some (.tup [.str (S s.1), .str (S [s.2])]) := fun i t x h1 h2 => s13 _ _ (hts11 i t x h1 h2)
    clear s12 npq hg hs11 b0 B11 hts11 hcd11 hrd11 hsl11 s13
    refine ⟨_, rfl, pq, _, rfl, .inl (SqL.of hpq), rfl, _, rfl, ?_⟩
    rcases Tr.step_cases tok hcut (c := c) hlk with ⟨es, et⟩ | ⟨p0', p1', es, et, okn⟩
    · rw [et] at htr11
      rw [es]
      exact ite_dec (fun e => absurd (V.int.inj e) (show ¬ ((1 : Nat) : Int) = 2 by decide)) (fun _ => ⟨ts ++ [tu], ss ++ [(r.1, c)], _, _, _, _, _, rfl, hssl, hv11, hsl13, ⟨hlen11, hts13⟩, by rw [htr11]; exact hrd13, by rw [htr11]; exact hcd13, B13, b013⟩)
    · rw [es] at hpq ⊢
      rw [et] at htr11
      refine ite_dec (fun _ => ?_) (fun ne => absurd rfl ne)
      have hcut0 := (Tr.stand_sub hr1).2
      have ncdl : (cutD tr.cuts).length = tr.cuts.length := List.length_map _
      have hrc : rd ≠ cd := fun z => by
        rw [z, hcd13] at hrd13
        have e2 := congrArg List.length (HO.dK.inj (Option.some.inj hrd13))
        rw [ncdl, nkv] at e2
        omega
      have sal : (S r.1).length + 1 ≤ sizeLine := by
        have h1 := tok.len _ (Tr.stand_sub hr1).1
        rw [S_len]
        exact sz (by omega)
      refine ⟨_, rfl, _, rfl, _, rfl, cd, _, rfl, DPut.k (k := Sum.inr (S r.1)) hcd13 (by rw [ncdl]; exact sz1 (by omega)), ?_⟩
      rw [cutD_put (p0 := p0') (p1 := p1') (room := r.2) hcut0]
      have nslrd : sl ≠ rd := fun z => by
        rw [z, hrd13] at hsl13
        cases hsl13
      have nslcd : sl ≠ cd := fun z => by
        rw [z, hcd13] at hsl13
        cases hsl13
      have npqcd : pq ≠ cd := fun z => by
        rw [z, hcd13] at hpq
        cases hpq
      have npqrd : pq ≠ rd := fun z => by
        rw [z, hrd13] at hpq
        cases hpq
      have hcd14 : (upd H13 cd (.dK (cutD (tr.cutAt r.1 p0' p1' r.2 c).cuts))) cd = some (.dK (cutD (tr.cutAt r.1 p0' p1' r.2 c).cuts)) := upd_same
      have hrd14 : (upd H13 cd (.dK (cutD (tr.cutAt r.1 p0' p1' r.2 c).cuts))) rd = some (.dK (kvR tr.rooms)) := by
        rw [upd_ne hrc]
        exact hrd13
      have hpq14 : (upd H13 cd (.dK (cutD (tr.cutAt r.1 p0' p1' r.2 c).cuts))) pq = some (.lst ([p0', p1'].map fun r => V.str (S r))) := by
        rw [upd_ne npqcd]
        exact hpq
      have B14 : Bag (upd H13 cd (.dK (cutD (tr.cutAt r.1 p0' p1' r.2 c).cuts))) b lb := B13.upd hcdb hcdb2
      have hsl14 : (upd H13 cd (.dK (cutD (tr.cutAt r.1 p0' p1' r.2 c).cuts))) sl = _ := (upd_ne nslcd).trans hsl13
      have keep14 : ∀ a o, H13 a = some o → (∀ kvs, o ≠ .dK kvs) → (upd H13 cd (.dK (cutD (tr.cutAt r.1 p0' p1' r.2 c).cuts))) a = some o := fun a o e n => by
        rw [upd_ne (fun z => by
          rw [z, hcd13] at e
          exact n _ (Option.some.inj e).symm)]
        exact e
      have b14 : But b H (upd H13 cd (.dK (cutD (tr.cutAt r.1 p0' p1' r.2 c).cuts))) := fun a o n e => by
        rw [upd_ne (ne_of_none e ncd0)]
        exact b013 _ _ n e
      generalize upd H13 cd (.dK (cutD (tr.cutAt r.1 p0' p1' r.2 c).cuts)) = H14 at hcd14 hrd14 hpq14 B14 hsl14 keep14 b14 ⊢
      have hfr : ∀ d : Nat, r.1 ++ [d] ∉ tr.rooms.map (·.1) := fun d => Tr.fresh tok hcut0 d
      have e0 : S r.1 ++ ("0" : Str) = S (r.1 ++ [48]) := S_cat r.1 [48]
      have e1 : S r.1 ++ ("1" : Str) = S (r.1 ++ [49]) := S_cat r.1 [49]
      have fl1 : (kvR tr.rooms).length < sizeLine := by
        rw [nkv]
        exact sz1 (by omega)
      refine ⟨_, rfl, pq, _, _, _, rfl, rfl, SqL.of hpq14, rfl, _, rfl, _, rfl, _, _, rfl, rfl, sal, rd, _, rfl, by rw [e0]; exact DPut.k (k := Sum.inr (S (r.1 ++ [48]))) hrd14 fl1, ?_⟩
      rw [putK_kvR (hfr 48)]
      have fl2 : (kvR (tr.rooms ++ [(r.1 ++ [48], p0')])).length < sizeLine := by
        rw [nkv, List.length_append]
        exact sz1 (by show _ + 1 ≤ _; omega)
      have hfr2 : r.1 ++ [49] ∉ List.map (fun r : AR => r.1) (tr.rooms ++ [(r.1 ++ [48], p0')]) := by
        rw [List.map_append]
        intro h
        rcases List.mem_append.mp h with h | h
        · exact hfr 49 h
        · have h' : r.1 ++ [49] = r.1 ++ [48] := List.mem_singleton.mp h
          exact absurd (List.append_cancel_left h') (by decide)
      refine ⟨_, rfl, pq, _, _, _, rfl, rfl, SqL.of (by rw [upd_ne npqrd]; exact hpq14), rfl, _, rfl, _, rfl, _, _, rfl, rfl, sal, rd, _, rfl, by rw [e1]; exact DPut.k (k := Sum.inr (S (r.1 ++ [49]))) upd_same fl2, ?_⟩
      rw [putK_kvR hfr2, upd_upd]
      have erm : (tr.cutAt r.1 p0' p1' r.2 c).rooms = tr.rooms ++ [(r.1 ++ [48], p0')] ++ [(r.1 ++ [49], p1')] := by
        rw [List.append_assoc]
        rfl
      rw [← erm]
      refine ⟨ts ++ [tu], ss ++ [(r.1, c)], _, _, _, _, _, rfl, hssl, hv11, by rw [upd_ne nslrd]; exact hsl14, ⟨hlen11, fun j t x h1 h2 => ?_⟩, by rw [htr11]; exact upd_same, by rw [htr11, upd_ne hrc.symm]; exact hcd14, B14.upd hrdb hrdb2, fun a o n e => ?_⟩
      · have := hts13 j t x h1 h2
        rw [upd_ne (fun z => by
          rw [z, hrd13] at this
          cases this)]
        exact keep14 _ _ this (fun _ z => by cases z)
      · rw [upd_ne (ne_of_none e nrd0)]
        exact b14 _ _ n e
  · rintro σ H4 ⟨ts, ss, y7, y8, y9, y10, y11, rfl, hl, val, hsl4, hts, hrd4, hcd4, B4, b4⟩
    refine ⟨_, rfl, _, rfl, _, rfl, (show 3 ≤ sizeLine by decide), fun q' nq => ?_⟩
    have s5 := same_upd (o := HO.lst [V.ref sl, V.ref rd, V.ref cd]) nq
    have nqb : q' ≠ b := B4.ne nq
    exact q _ q' sl rd cd ts ss (b4.trans s5.but) (B4.same s5) (none_but nqb b4 nq) (by omega) val ⟨upd_same, s5 _ _ hsl4, ⟨hts.1, fun i t x h1 h2 => s5 _ _ (hts.2 i t x h1 h2)⟩, s5 _ _ hrd4, s5 _ _ hcd4, nqb, hslb, hrdb, hcdb⟩
end
end FW
namespace FW
open PySem PySem.Spec PyProof.Rows L2
-- more
section
variable {P : Program} {w : World} {K : PySem.W.Frag} {mg : Str → Option Value} {base : Heap}
/-! trees: what each cut leaves -/
structure TrC (cut : Rm → Nat → Rm) (C : List Nat) (t : Tr) : Prop where
  of : ∀ c ∈ t.cuts, (c.1, c.2.1) ∈ t.rooms ∧ c.2.2 ∈ C ∧ ∃ p0 p1, splitL c.2.1 (cut c.2.1 c.2.2) = [p0, p1] ∧ (c.1 ++ [48], p0) ∈ t.rooms ∧ (c.1 ++ [49], p1) ∈ t.rooms
theorem tree_cuts {cut : Rm → Nat → Rm} {F C : List Nat} (hcut : ∀ r c, CutR (cut r c) F) : ∀ {ss : List Stp} {t : Tr}, t.Ok F → TrC cut C t → Valid cut C t ss → TrC cut C (Tr.run cut t ss)
  | [], _, _, h, _ => h
  | s :: ss, t, ok, h, v => by
    obtain ⟨a, c⟩ := s
    refine tree_cuts hcut (ss := ss) (t := t.step cut (a, c)) (Tr.step_ok ok hcut v.1).1 ?_ v.2.2
    cases e : lk t.stand a with
    | none => exact absurd e v.1
    | some room =>
      rcases Tr.step_cases ok hcut (c := c) e with ⟨_, e2⟩ | ⟨p0, p1, es, e2, _⟩
      · rw [e2]
        exact h
      · rw [e2]
        refine ⟨fun x hx => ?_⟩
        rcases List.mem_append.mp hx with g | g
        · obtain ⟨h1, h2, q0, q1, h3, h4, h5⟩ := h.of x g
          exact ⟨List.mem_append_left _ h1, h2, q0, q1, h3, List.mem_append_left _ h4, List.mem_append_left _ h5⟩
        · rw [List.mem_singleton.mp g]
          exact ⟨List.mem_append_left _ (lk_some (Tr.lk_rooms ok e)), v.2.1, p0, p1, es, List.mem_append_right _ (by simp), List.mem_append_right _ (by simp)⟩
theorem valV_cut {a : List Nat} {v : V} : ∀ {cs : List (List Nat × List Nat × Nat)}, valV (cutD cs) (.inr (S a)) = some v → ∃ x ∈ cs, x.1 = a ∧ v = .str (S [x.2.2])
  | [], h => by cases h
  | y :: cs, h => by
    by_cases e : y.1 = a
    · rw [show cutD (y :: cs) = (Sum.inr (S y.1), V.str (S [y.2.2])) :: cutD cs from rfl, valV_pos (show (Sum.inr (S y.1) : Key) = .inr (S a) by rw [e])] at h
      exact ⟨y, List.mem_cons_self, e, (Option.some.inj h).symm⟩
    · rw [show cutD (y :: cs) = (Sum.inr (S y.1), V.str (S [y.2.2])) :: cutD cs from rfl, valV_neg (fun w => e (inr_S.mp w))] at h
      obtain ⟨x, hx, h1, h2⟩ := valV_cut h
      exact ⟨x, List.mem_cons_of_mem _ hx, h1, h2⟩
/-- how many cuts lie at an address and behind it -/
def cnt (t : Tr) (a : List Nat) : Nat := t.cuts.countP fun c => decide (a <+: c.1)
theorem pre_ne {a x : List Nat} (h0 : a ++ [48] <+: x) (h1 : a ++ [49] <+: x) : False := by
  obtain ⟨u, hu⟩ := h0
  obtain ⟨w, hw⟩ := h1
  rw [← hu, List.append_assoc, List.append_assoc] at hw
  have := List.append_cancel_left hw
  cases this
theorem pre_up {a x : List Nat} {d : Nat} (h : a ++ [d] <+: x) : a <+: x ∧ x ≠ a := by
  obtain ⟨u, hu⟩ := h
  refine ⟨⟨[d] ++ u, by rw [← hu, List.append_assoc]⟩, fun e => ?_⟩
  have := congrArg List.length hu
  rw [e, List.length_append, List.length_append, List.length_singleton] at this
  omega
theorem cnt_sum (a : List Nat) : ∀ X : List (List Nat × List Nat × Nat), X.countP (fun c => decide (c.1 = a)) + X.countP (fun c => decide (a ++ [48] <+: c.1)) + X.countP (fun c => decide (a ++ [49] <+: c.1)) ≤ X.countP (fun c => decide (a <+: c.1))
  | [] => Nat.le_refl _
  | x :: X => by
    have ih := cnt_sum a X
    simp only [List.countP_cons]
    by_cases h : x.1 = a
    · have n0 : ¬ a ++ [48] <+: x.1 := fun w => (pre_up w).2 h
      have n1 : ¬ a ++ [49] <+: x.1 := fun w => (pre_up w).2 h
      have y : a <+: x.1 := by rw [h]; exact List.prefix_refl _
      simp only [h, n0, n1, y, decide_true, decide_false, if_true, if_false]
      rw [h] at n0 n1
      simp [n0, n1]
      omega
    · by_cases h0 : a ++ [48] <+: x.1
      · have n1 : ¬ a ++ [49] <+: x.1 := fun w => pre_ne h0 w
        simp [h, h0, n1, (pre_up h0).1]
        omega
      · by_cases h1 : a ++ [49] <+: x.1
        · simp [h, h0, h1, (pre_up h1).1]
          omega
        · simp [h, h0, h1]
          split <;> omega
theorem cnt_cut {t : Tr} {a : List Nat} {c : List Nat × List Nat × Nat} (hc : c ∈ t.cuts) (ha : c.1 = a) : cnt t (a ++ [48]) + cnt t (a ++ [49]) + 1 ≤ cnt t a := by
  have h := cnt_sum a t.cuts
  have h1 : 0 < t.cuts.countP (fun c => decide (c.1 = a)) := List.countP_pos_iff.mpr ⟨c, hc, decide_eq_true ha⟩
  unfold cnt
  omega
theorem pow_sum {a b c : Nat} (h : a + b + 1 ≤ c) : 2 ^ a + 2 ^ b ≤ 2 ^ c := by
  have h1 : 2 ^ a ≤ 2 ^ (a + b) := Nat.pow_le_pow_right (by decide) (by omega)
  have h2 : 2 ^ b ≤ 2 ^ (a + b) := Nat.pow_le_pow_right (by decide) (by omega)
  have h3 : 2 ^ (a + b + 1) ≤ 2 ^ c := Nat.pow_le_pow_right (by decide) h
  rw [Nat.pow_succ] at h3
  omega
theorem pow_mul {a b c : Nat} (h : a + b + 1 ≤ c) : 2 ^ a * 2 ^ b ≤ 2 ^ c := by
  rw [← Nat.pow_add]
  exact Nat.pow_le_pow_right (by decide) (by omega)
end
end FW
namespace FW
open PySem PySem.Spec PyProof.Rows L2
-- more
section
variable {P : Program} {w : World} {K : PySem.W.Frag} {mg : Str → Option Value} {base : Heap}
abbrev s__law_turns : Stmt := topS 70
theorem sc__law_turns : FnScope ["_law_spec", "_law_rooms", "_law_found", "_law_room", "_law_cutter"] ["_law_spec", "_law_rooms"] (defScope s__law_turns) := ⟨rfl, rfl, rfl, by decide +kernel, rfl, by decide +kernel, by decide +kernel⟩
def refT (D : List (Addr × Rm × Nat)) : List V := D.map fun q => V.ref q.1
def TurnAt (H : Hp) (D : List (Addr × Rm × Nat)) : Prop := ∀ q ∈ D, H q.1 = some (.tup [.str (S q.2.1), .str (S [q.2.2])])
theorem TurnAt.same {H H' : Hp} {D : List (Addr × Rm × Nat)} (h : TurnAt H D) (s : Same H H') : TurnAt H' D := fun q hq => s _ _ (h q hq)
def turnsL (cut : Rm → Nat → Rm) (C : List Nat) (L : List Rm) : List (Rm × Nat) := L.flatMap fun r => (C.filter fun c => !decide (cut r c = [])).map fun c => (r, c)
theorem turnsL_len {cut : Rm → Nat → Rm} {C : List Nat} (h : C.length ≤ 100) (L : List Rm) : (turnsL cut C L).length ≤ L.length * 100 := flat_len fun r _ => by
  rw [List.length_map]
  exact Nat.le_trans (List.length_filter_le _ _) h
def sp__law_turns (K : PySem.W.Frag) : Sp := fun vs H Q _ => ∃ (p lp b rl : Addr) (F C : List Nat) (ls : List LineV) (L : List Rm), vs = [.ref p, .ref rl] ∧ SpecAt H b p lp F C ls ∧ SpecS ls ∧ H rl = some (.lst (L.map fun r => V.str (S r))) ∧ (∀ r ∈ L, r.length = 4) ∧ L.length ≤ 700 ∧ C.length ≤ 100 ∧
  ∀ (H' : Hp) (q : Addr) (D : List (Addr × Rm × Nat)), Same H H' → H q = none → H' q = some (.lst (refT D)) → TurnAt H' D → D.map (·.2) = turnsL (cutL ls) C L → Q (.ref q) H'
theorem ok__law_turns {f : Addr} {fd : FuncData} (F : Fun K "_law_turns" "_law_turns" s__law_turns f fd) (T : Z mg) (c__law_cut : Cal P w K mg base CX0 3 "_law_cut" s__law_cut ["_law_spec", "_law_room", "_law_cutter"] (sp__law_cut K)) : FnOk P w K mg base CX0 4 f fd ["_law_spec", "_law_rooms"] (sp__law_turns K) := by
  refine F.ok sc__law_turns (fun vs H Q E h => ?_) (fun cdv A outer s H vs Q E hr h => ?_)
  · obtain ⟨p, lp, b, rl, F, C, ls, L, rfl, _⟩ := h
    rfl
  obtain ⟨p, lp, b, rl, fs, cs, ls, L, rfl, hs, hsS, hrl, hL4, hL, hC, q⟩ := h
  refine ⟨_, (pss_cons (ps_set (i := 2) sc__law_turns.nd rfl (.inl rfl) (pe_lst pa_nil))
      (pss_cons (ps_for PassesOwn.never rfl (pi_list (pv 1)) (pg_name (i := 3) sc__law_turns.nd rfl (.inr rfl))
        (pss_one (ps_set (i := 2) sc__law_turns.nd rfl (.inl rfl) (pe_op op_cat (pv 2) (pe_lc (own := [("_law_cutter", 4)]) (g := (gName 4)) (by rfl) sc__law_turns.nd (pi_str (pe_ix ix_list (pv 0) pe_int (fun _ _ => rfl))) (blkOk_by (N := ["_law_spec", "_law_rooms", "_law_found", "_law_room", "_law_cutter"]) (sc := defScope s__law_turns) (by decide +kernel)) (fun _ _ _ _ _ => (pg_name (i := 4) sc__law_turns.nd rfl (.inl rfl))) (fun _ _ _ _ _ => (pts_one (pt_cmpR op_ne (pe_c c__law_cut hr (by decide) (by rfl) (pa_cons (pv 0) (pa_cons (pv 3) (pa_cons (pv 4) pa_nil)))) pe_str (nomark _)))) (fun _ _ _ _ _ => (pe_tup (pa_cons (pv 3) (pa_cons (pv 4) pa_nil)))))))))
      (pss_one (ps_ret (pv 2))))), ?_⟩
  refine ⟨(show 0 ≤ sizeLine by decide), fun f0 nf0 => ?_⟩
  have s1 := same_upd (o := HO.lst ([] : List V)) nf0
  have hf1 : (upd H f0 (.lst [])) f0 = some (.lst (refT [])) := upd_same
  generalize upd H f0 (.lst []) = H1 at s1 hf1 ⊢
  refine ⟨_, rfl, rl, rfl, ⟨_, SqL.of (s1 _ _ hrl)⟩, for_list (xs := L.map fun r => V.str (S r)) (fun i σ H' => ∃ (q : Addr) (D : List (Addr × Rm × Nat)) (y3 : Option V), σ = [some (.ref p), some (.ref rl), some (.ref q), y3, none] ∧ Same H H' ∧ H q = none ∧ H' q = some (.lst (refT D)) ∧ TurnAt H' D ∧ D.map (·.2) = turnsL (cutL ls) cs (L.take i))
    ⟨f0, [], _, rfl, s1, nf0, hf1, (fun q hq => by cases hq), rfl⟩ (fun i σ H' _ ⟨_, _, _, _, s, _⟩ => SqL.of (s _ _ hrl)) ?_ ?_⟩
  · rintro i v σ H2 hv ⟨q0, D, y3, rfl, s2, nq0, hq2, hD2, hDm⟩
    rw [List.getElem?_map] at hv
    obtain ⟨r, hr1, rfl⟩ := Option.map_eq_some_iff.mp hv
    have hrm := List.mem_of_getElem? hr1
    have hiL : i < L.length := (List.getElem?_eq_some_iff.mp hr1).1
    have et : L.take (i + 1) = L.take i ++ [r] := by
      rw [List.take_add_one, hr1]
      rfl
    have hDl : D.length ≤ 70000 := by
      have h1 := congrArg List.length hDm
      rw [List.length_map] at h1
      have h2 := turnsL_len (cut := cutL ls) hC (L.take i)
      rw [List.length_take] at h2
      have h3 : min i L.length * 100 ≤ 700 * 100 := Nat.mul_le_mul_right _ (by omega)
      omega
    have hs2 := hs.same s2
    refine ⟨_, rfl, _, rfl, p, _, 1, _, rfl, rfl, SqL.of hs2.top, rfl, S cs, rfl, fun G nG => ?_⟩
    have nGq : q0 ≠ G := ne_of_none hq2 nG
    refine lc_it (walk_str (z := S cs)) (fun k H' => ∃ N : List (Addr × Rm × Nat), But G H2 H' ∧ H' G = some (.lst (refT N)) ∧ TurnAt H' N ∧ N.map (·.2) = ((cs.take k).filter fun c => !decide (cutL ls r c = [])).map fun c => (r, c)) ⟨[], (same_upd nG).but, upd_same, (fun q hq => by cases hq), rfl⟩ (fun _ _ _ _ => trivial) ?_ ?_
    · rintro k v _ H3 hk ⟨N, bt, hG3, hN3, hNm⟩ ⟨rfl, c, hc, rfl⟩
      have hc1 : cs[k]? = some c := by
        rw [← hc]
        show cs[k]? = cs.toArray[k]?
        rw [List.getElem?_toArray]
      have ek : cs.take (k + 1) = cs.take k ++ [c] := by
        rw [List.take_add_one, hc1]
        rfl
      have hkC : k < cs.length := (List.getElem?_eq_some_iff.mp hc1).1
      have s23 : Same H2 H3 := fun c' o' e' => bt _ _ (ne_of_none e' nG) e'
      have hNl : N.length ≤ 100 := by
        have h1 := congrArg List.length hNm
        rw [List.length_map, List.length_map] at h1
        have h2 := List.length_filter_le (fun c => !decide (cutL ls r c = [])) (cs.take k)
        rw [List.length_take] at h2
        omega
      rw [ek]
      refine ⟨rfl, _, rfl, _, rfl, _, rfl, p, lp, b, fs, cs, ls, r, c, rfl, hs2.same s23, hsS, hL4 r hrm, fun H4 s4 => ?_⟩
      have hG4 := s4 _ _ hG3
      have hN4 := hN3.same s4
      have b4 : But G H2 H4 := bt.trans s4.but
      refine ⟨rfl, _, rfl, ite_ndec (fun hne => ?_) (fun he => ?_)⟩
      · have hne2 : cutL ls r c ≠ [] := fun e => hne (by rw [e]; rfl)
        refine ⟨_, rfl, _, rfl, (show 2 ≤ sizeLine by decide), fun tu ntu => ?_⟩
        have s5 := same_upd (o := HO.tup [V.str (S r), V.str (S [c])]) ntu
        have ht5 : (upd H4 tu (HO.tup [V.str (S r), V.str (S [c])])) tu = some (.tup [V.str (S r), V.str (S [c])]) := upd_same
        have hG5 := s5 _ _ hG4
        have hN5 := hN4.same s5
        have b5 := b4.trans s5.but (b := G)
        generalize upd H4 tu (HO.tup [V.str (S r), V.str (S [c])]) = H5 at ht5 hG5 hN5 b5 ⊢
        refine ⟨_, hG5, by unfold refT; rw [List.length_map]; exact sz1 (by omega), N ++ [(tu, r, c)], fun b' o' n' e' => ?_, ?_, fun y hy => ?_, ?_⟩
        · rw [upd_ne n']
          exact b5 _ _ n' e'
        · rw [upd_same]
          unfold refT
          rw [List.map_append]
          rfl
        · have h6 : H5 y.1 = some (.tup [.str (S y.2.1), .str (S [y.2.2])]) := by
            rcases List.mem_append.mp hy with w | w
            · exact hN5 y w
            · rw [List.mem_singleton.mp w]
              exact ht5
          rw [upd_ne (fun w => by rw [w, hG5] at h6; cases h6)]
          exact h6
        · rw [List.map_append, hNm, List.filter_append, List.map_append, List.filter_cons, decide_eq_false hne2]
          rfl
      · have he2 : cutL ls r c = [] := S_inj (V.str.inj he)
        refine ⟨N, b4, hG4, hN4, ?_⟩
        rw [hNm, List.filter_append, List.filter_cons, decide_eq_true he2]
        simp
    · rintro H3 ⟨N, bt, hG3, hN3, hNm⟩
      rw [show cs.take (S cs).cps.size = cs from List.take_of_length_le (by rw [show (S cs).cps.size = cs.length from List.size_toArray ..]; exact Nat.le_refl _)] at hNm
      have s23 : Same H2 H3 := fun c' o' e' => bt _ _ (ne_of_none e' nG) e'
      have hNl : N.length ≤ 100 := by
        have h1 := congrArg List.length hNm
        rw [List.length_map, List.length_map] at h1
        have h2 := List.length_filter_le (fun c => !decide (cutL ls r c = [])) cs
        omega
      refine ⟨q0, G, _, _, rfl, rfl, s23 _ _ hq2, hG3, sz (by unfold refT; rw [List.length_map, List.length_map]; omega), fun q2 nq2 => ?_⟩
      have s4 := same_upd (o := HO.lst (refT D ++ refT N)) nq2
      have s03 := s2.trans s23
      refine ⟨q2, D ++ N, _, rfl, s03.trans s4, none_same s03 nq2, ?_, fun y hy => s4 _ _ ?_, ?_⟩
      · rw [upd_same]
        unfold refT
        rw [List.map_append]
      · rcases List.mem_append.mp hy with w | w
        · exact s23 _ _ (hD2 y w)
        · exact hN3 y w
      · rw [List.map_append, hDm, hNm, et]
        unfold turnsL
        rw [List.flatMap_append]
        simp
  · rintro σ H2 ⟨q0, D, y3, rfl, s2, nq0, hq2, hD2, hDm⟩
    rw [List.take_of_length_le (by rw [List.length_map]; exact Nat.le_refl _)] at hDm
    exact ⟨_, rfl, q H2 q0 D s2 nq0 hq2 hD2 hDm⟩
end
end FW
namespace FW
open PySem PySem.Spec PyProof.Rows L2
-- more
section
variable {P : Program} {w : World} {K : PySem.W.Frag} {mg : Str → Option Value} {base : Heap}
abbrev s__law_members : Stmt := topS 73
theorem sc__law_members : FnScope ["_law_spec", "_law_start_z", "_law_view_z", "_law_found", "_law_done", "_law_turn", "_law_room", "_law_cutter", "_law_parts_here", "_law_used_here", "_law_one", "_law_at"] ["_law_spec", "_law_start_z", "_law_view_z"] (defScope s__law_members) := ⟨rfl, rfl, rfl, by decide +kernel, rfl, by decide +kernel, by decide +kernel⟩
def pk (parts : List Rm) (idx : List Nat) : List Rm := idx.map fun i => parts.getD i []
theorem pk_sub (p0 p1 : Rm) (wd : Str) : (pk [p0, p1] (idxW wd)).Sublist [p0, p1] := by
  unfold idxW
  split
  · exact .cons₂ _ (.cons _ .slnil)
  · split
    · exact .cons _ (.cons₂ _ .slnil)
    · exact .cons₂ _ (.cons₂ _ .slnil)
theorem pk_mem {p0 p1 : Rm} {wd : Str} {y : Rm} : y ∈ pk [p0, p1] (idxW wd) ↔ ∃ k ∈ idxW wd, ([p0, p1] : List Rm)[k]? = some y := by
  unfold pk
  rw [List.mem_map]
  constructor
  · rintro ⟨k, hk, rfl⟩
    refine ⟨k, hk, ?_⟩
    have := idx_lt hk
    have h2 : k = 0 ∨ k = 1 := by omega
    rcases h2 with rfl | rfl <;> rfl
  · rintro ⟨k, hk, e⟩
    refine ⟨k, hk, ?_⟩
    rw [List.getD_eq_getElem?_getD, e]
    rfl
def sp__law_members (K : PySem.W.Frag) : Sp := fun vs H Q _ => ∃ (b p lp : Addr) (F C : List Nat) (ls : List LineV) (start : List Nat) (z : Str), vs = [.ref p, .str (S start), .str z] ∧ SpecAt H b p lp F C ls ∧ SpecS ls ∧ (∀ r ∈ ls, CutR r.2.2.2.2.2.2 F) ∧ start.length = 4 ∧ (∀ y ∈ start, y ∈ F) ∧ ls.length ≤ 4 ∧ C.length ≤ 100 ∧ z ∈ viewsT ∧
  ∀ (H' : Hp) (q : Addr) (L : List Rm), Same H H' → H q = none → H' q = some (.lst (L.map fun r : Rm => V.str (S r))) → WholeV (cutL ls) C z start L → L.length ≤ 625 → Q (.ref q) H'
theorem ok__law_members {f : Addr} {fd : FuncData} (F : Fun K "_law_members" "_law_members" s__law_members f fd) (T : Z mg) (c__law_parts : Cal P w K mg base CX0 4 "_law_parts" s__law_parts ["_law_spec", "_law_room", "_law_cutter"] (sp__law_parts K))
    (c__law_cut : Cal P w K mg base CX0 3 "_law_cut" s__law_cut ["_law_spec", "_law_room", "_law_cutter"] (sp__law_cut K)) (c__law_turns : Cal P w K mg base CX0 4 "_law_turns" s__law_turns ["_law_spec", "_law_rooms"] (sp__law_turns K))
    (c__law_used : Cal P w K mg base CX0 1 "_law_used" s__law_used ["_law_view_z", "_law_cut_here"] (sp__law_used K)) : FnOk P w K mg base CX0 5 f fd ["_law_spec", "_law_start_z", "_law_view_z"] (sp__law_members K) := by
  refine F.ok sc__law_members (fun vs H Q E h => ?_) (fun cdv A outer s H vs Q E hr h => ?_)
  · obtain ⟨b, p, lp, F, C, ls, start, z, rfl, _⟩ := h
    rfl
  obtain ⟨b, p, lp, fs, cs, ls, start, z, rfl, hs, hsS, hcu, hr4, hrf, hl4, hC, hz, qq⟩ := h
  refine ⟨_, (pss_cons (ps_asg (pe_tup (pa_cons (pe_lst (pa_cons (pv 1) pa_nil)) (pa_cons pe_int pa_nil))) (pg_tup rfl (pgs_cons (pg_name (i := 3) sc__law_members.nd rfl (.inr rfl)) (pgs_cons (pg_name (i := 4) sc__law_members.nd rfl (.inl rfl)) pgs_nil))))
      (pss_cons (ps_for PassesOwn.never rfl (pi_range1 (by rfl) T.z_range (pa_cons pe_int pa_nil)) (pg_name (i := 5) sc__law_members.nd rfl (.inl rfl))
        (pss_cons (ps_if (pt_cmpR op_eq (pv 4) (pe_callB call_len_seq (by rfl) T.z_len (by decide +kernel) (pa_cons (pv 3) pa_nil)) (nomark _)) (pss_one (ps_ret (pv 3))) pss_nil)
      (pss_cons (ps_set (i := 6) sc__law_members.nd rfl (.inl rfl) (pe_ix ix_list (pv 3) (pv 4) (fun _ _ => rfl)))
      (pss_cons (ps_for PassesOwn.never rfl (pi_list (pe_lc (own := [("_law_one", 10)]) (g := (gName 10)) (by rfl) sc__law_members.nd (pi_list (pe_c c__law_turns hr (by decide) (by rfl) (pa_cons (pv 0) (pa_cons (pe_lst (pa_cons (pv 6) pa_nil)) pa_nil)))) (blkOk_by (N := ["_law_spec", "_law_start_z", "_law_view_z", "_law_found", "_law_done", "_law_turn", "_law_room", "_law_cutter", "_law_parts_here", "_law_used_here", "_law_one", "_law_at"]) (sc := defScope s__law_members) (by decide +kernel)) (fun _ _ _ _ _ => (pg_name (i := 10) sc__law_members.nd rfl (.inl rfl))) (fun _ _ _ _ _ => pts_nil) (fun _ _ _ _ _ => (pe_ix (ix_tupE (K := K) rfl) (pv 10) pe_int (fun _ _ => rfl))))) (pg_name (i := 7) sc__law_members.nd rfl (.inl rfl))
        (pss_cons (ps_asg (pe_tup (pa_cons (pe_c c__law_parts hr (by decide) (by rfl) (pa_cons (pv 0) (pa_cons (pv 6) (pa_cons (pv 7) pa_nil)))) (pa_cons (pe_c c__law_used hr (by decide) (by rfl) (pa_cons (pv 2) (pa_cons (pe_c c__law_cut hr (by decide) (by rfl) (pa_cons (pv 0) (pa_cons (pv 6) (pa_cons (pv 7) pa_nil)))) pa_nil))) pa_nil))) (pg_tup rfl (pgs_cons (pg_name (i := 8) sc__law_members.nd rfl (.inr rfl)) (pgs_cons (pg_name (i := 9) sc__law_members.nd rfl (.inl rfl)) pgs_nil))))
      (pss_one (ps_set (i := 3) sc__law_members.nd rfl (.inr rfl) (pe_op op_cat (pv 3) (pe_lc (own := [("_law_at", 11)]) (g := (gName 11)) (by rfl) sc__law_members.nd (pi_list (pv 9)) (blkOk_by (N := ["_law_spec", "_law_start_z", "_law_view_z", "_law_found", "_law_done", "_law_turn", "_law_room", "_law_cutter", "_law_parts_here", "_law_used_here", "_law_one", "_law_at"]) (sc := defScope s__law_members) (by decide +kernel)) (fun _ _ _ _ _ => (pg_name (i := 11) sc__law_members.nd rfl (.inl rfl))) (fun _ _ _ _ _ => (pts_one (pt_cmpR (op_notInE (K := K) rfl) (pe_ix (ix_listE (K := K) rfl) (pv 8) (pv 11) (fun _ _ => rfl)) (pv 3) (by rfl)))) (fun _ _ _ _ _ => (pe_ix (ix_listE (K := K) rfl) (pv 8) (pv 11) (fun _ _ => rfl)))))))))
      (pss_one (ps_set (i := 4) sc__law_members.nd rfl (.inl rfl) (pe_op op_add (pv 4) pe_int)))))))
      (pss_one (ps_ret (pv 3))))), ?_⟩
  have hcut : ∀ r c, CutR (cutL ls r c) fs := fun r c => cutL_form hcu
  have hlen : ∀ {L : List Rm}, L.Nodup → (∀ r ∈ L, VR (cutL ls) cs z start r) → L.length ≤ 625 := fun nd h => reach_len hcu hr4 hl4 nd fun r hr => (h r hr).reach
  refine ⟨_, rfl, (show 1 ≤ sizeLine by decide), fun f0 nf0 => ?_⟩
  have s1 := same_upd (o := HO.lst [V.str (S start)]) nf0
  have hf1 : (upd H f0 (.lst [V.str (S start)])) f0 = some (.lst (([start] : List Rm).map fun r => V.str (S r))) := upd_same
  generalize upd H f0 (.lst [V.str (S start)]) = H1 at s1 hf1 ⊢
  refine ⟨(show 2 ≤ sizeLine by decide), fun pt npt => ⟨pt, _, rfl, SqT.of upd_same, rfl, _, _, rfl, _, _, rfl, rfl, ?_⟩⟩
  have s2 := same_upd (o := HO.tup [V.ref f0, V.int 0]) npt
  have s02 := s1.trans s2
  have hf2 := s2 _ _ hf1
  generalize upd H1 pt (.tup [V.ref f0, V.int 0]) = H2 at s02 hf2 ⊢
  clear s1 s2 hf1 npt
  refine ⟨1296, rfl, by decide, by decide, for_range (n := (1296 : Int).toNat) (fun i σ H' => ∃ (q : Addr) (L : List Rm) (y5 y6 y7 y8 y9 : Option V), σ = [some (.ref p), some (.str (S start)), some (.str z), some (.ref q), some (.int (i : Nat)), y5, y6, y7, y8, y9, none, none] ∧ H' q = some (.lst (L.map fun r => V.str (S r))) ∧ H q = none ∧ Same H H' ∧ L.Nodup ∧ start ∈ L ∧ (∀ r ∈ L, VR (cutL ls) cs z start r) ∧ i ≤ L.length ∧
    ∀ r ∈ L.take i, ∀ c ∈ cs, cutL ls r c ≠ [] → ∀ k ∈ idxW (wordV z (cutL ls r c)), ∀ y, (splitL r (cutL ls r c))[k]? = some y → y ∈ L) ⟨f0, [start], _, _, _, _, _, rfl, hf2, nf0, s02, (by simp), List.mem_cons_self, (fun r hr => by rw [List.mem_singleton.mp hr]; exact .base), Nat.zero_le _, (fun r hr => by cases hr)⟩ ?_ ?_⟩
  · rintro i σ H3 hi ⟨q, L, y5, y6, y7, y8, y9, rfl, hq3, nq, s3, ndL, hsL, rcL, hiL, hcl⟩
    refine ⟨_, rfl, _, rfl, q, _, rfl, .inl (SqL.of hq3), rfl, _, rfl, ite_dec (fun e => ?_) (fun ne => ?_)⟩
    · rw [List.length_map] at e
      have hi2 : i = L.length := by
        have := V.int.inj e
        omega
      rw [hi2, List.take_length] at hcl
      exact ⟨_, rfl, qq H3 q L s3 nq hq3 (WholeV.of ndL hsL rcL hcl) (hlen ndL rcL)⟩
    · rw [List.length_map] at ne
      have hi2 : i < L.length := by
        rcases Nat.lt_or_ge i L.length with w | w
        · exact w
        · have : i = L.length := by omega
          exact absurd (by rw [this]) ne
      have hri : L[i]? = some L[i] := List.getElem?_eq_getElem hi2
      generalize L[i] = r at hri
      have hrm := List.mem_of_getElem? hri
      have hrR := rcL r hrm
      have hrf' := reach_form hcut hr4 hrf hrR.reach
      refine ⟨_, rfl, _, rfl, q, _, (i : Int), _, rfl, rfl, SqL.of hq3, atI_nat (j := i) (by rw [List.getElem?_map, hri]; rfl), ?_⟩
      -- the cutters that cut
      refine ⟨_, rfl, _, rfl, (show 1 ≤ sizeLine by decide), fun rl nrl => ?_⟩
      have s4 := same_upd (o := HO.lst [V.str (S r)]) nrl
      have hrl : (upd H3 rl (.lst [V.str (S r)])) rl = some (.lst (([r] : List Rm).map fun r => V.str (S r))) := upd_same
      have s34 := s3.trans s4
      have hq4 := s4 _ _ hq3
      generalize upd H3 rl (.lst [V.str (S r)]) = H4 at hrl s34 hq4 ⊢
      refine ⟨p, lp, b, rl, fs, cs, ls, [r], rfl, hs.same s34, hsS, hrl, (fun y hy => by rw [List.mem_singleton.mp hy]; exact hrf'.1), (show 1 ≤ 700 by decide), hC, fun H5 tl D s5 ntl htl hD hDm => ?_⟩
      have s05 := s34.trans s5
      have hq5 := s5 _ _ hq4
      have eDm : D.map (·.2) = (cs.filter fun c => !decide (cutL ls r c = [])).map fun c => (r, c) := by
        rw [hDm]
        unfold turnsL
        simp
      have hDl : D.length ≤ 100 := by
        have h1 := congrArg List.length eDm
        rw [List.length_map, List.length_map] at h1
        have h2 := List.length_filter_le (fun c => !decide (cutL ls r c = [])) cs
        omega
      refine ⟨tl, rfl, ⟨_, SqL.of htl⟩, fun G nG => ?_⟩
      refine lc_it (walk_list (xs := refT D)) (fun k H' => But G H5 H' ∧ H' G = some (.lst ((D.take k).map fun q => V.str (S [q.2.2])))) ⟨(same_upd nG).but, upd_same⟩ (fun k H' _ pv => SqL.of (pv.1 _ _ (ne_of_none htl nG) htl)) ?_ ?_
      · rintro k v _ H' hk ⟨bt, hGG⟩ ⟨rfl, hx⟩
        unfold refT at hx
        rw [List.getElem?_map] at hx
        obtain ⟨qd, hq1, rfl⟩ := Option.map_eq_some_iff.mp hx
        have hqt := hD qd (List.mem_of_getElem? hq1)
        have hqt' := bt _ _ (ne_of_none hqt nG) hqt
        refine ⟨rfl, _, rfl, qd.1, _, 1, _, rfl, rfl, SqT.of hqt', rfl, _, hGG, by rw [List.length_map, List.length_take]; exact sz1 (by omega), fun c' o' n' e' => ?_, ?_⟩
        · rw [upd_ne n']
          exact bt _ _ n' e'
        · rw [upd_same, List.take_add_one, hq1, List.map_append]
          rfl
      rintro H6 ⟨bt, hGG⟩
      rw [show (refT D).length = D.length from by unfold refT; rw [List.length_map], List.take_length] at hGG
      have s56 : Same H5 H6 := fun c' o' e' => bt _ _ (ne_of_none e' nG) e'
      have s06 := s05.trans s56
      have hq6 := s56 _ _ hq5
      have hGc : H6 G = some (.lst ((cs.filter fun c => !decide (cutL ls r c = [])).map fun c => V.str (S [c]))) := by
        rw [hGG]
        have : (D.map fun q => V.str (S [q.2.2])) = (D.map (·.2)).map fun x => V.str (S [x.2]) := by
          rw [List.map_map]
          rfl
        rw [this, eDm, List.map_map]
        rfl
      generalize hCs : (cs.filter fun c => !decide (cutL ls r c = [])) = Cs at hGc
      have hCsm : ∀ c, c ∈ Cs ↔ c ∈ cs ∧ cutL ls r c ≠ [] := fun c => by
        rw [← hCs, List.mem_filter]
        simp
      have hCsl : Cs.length ≤ 100 := by
        rw [← hCs]
        exact Nat.le_trans (List.length_filter_le _ _) hC
      clear hGG bt hCs eDm hDm hD htl s5 s56 hrl hq5 hq4 s34 s05
      refine ⟨G, rfl, ⟨_, SqL.of hGc⟩, for_list (xs := Cs.map fun c => V.str (S [c])) (fun j σ H' => ∃ (q : Addr) (L : List Rm) (y7 y8 y9 : Option V), σ = [some (.ref p), some (.str (S start)), some (.str z), some (.ref q), some (.int (i : Nat)), some (.int (0 + (i : Nat))), some (.str (S r)), y7, y8, y9, none, none] ∧ H' q = some (.lst (L.map fun r => V.str (S r))) ∧ H q = none ∧ Same H H' ∧ Same H6 H' ∧ L.Nodup ∧ start ∈ L ∧ (∀ r ∈ L, VR (cutL ls) cs z start r) ∧ L[i]? = some r ∧
          (∀ r ∈ L.take i, ∀ c ∈ cs, cutL ls r c ≠ [] → ∀ k ∈ idxW (wordV z (cutL ls r c)), ∀ y, (splitL r (cutL ls r c))[k]? = some y → y ∈ L) ∧ ∀ c ∈ Cs.take j, ∀ k ∈ idxW (wordV z (cutL ls r c)), ∀ y, (splitL r (cutL ls r c))[k]? = some y → y ∈ L)
        ⟨q, L, _, _, _, rfl, hq6, nq, s06, Same.refl _, ndL, hsL, rcL, hri, hcl, (fun c hc => by cases hc)⟩ (fun j σ H' _ ⟨_, _, _, _, _, _, _, _, _, s, _⟩ => SqL.of (s _ _ hGc)) ?_ ?_⟩
      · rintro j v σ H7 hv ⟨q, L, y7, y8, y9, rfl, hq7, nq, s7, s67, ndL, hsL, rcL, hri, hcl, hcc⟩
        rw [List.getElem?_map] at hv
        obtain ⟨c, hc1, rfl⟩ := Option.map_eq_some_iff.mp hv
        have hcC := (hCsm c).mp (List.mem_of_getElem? hc1)
        have hrm := List.mem_of_getElem? hri
        have hiL2 : i < L.length := (List.getElem?_eq_some_iff.mp hri).1
        have hll := hlen ndL rcL
        obtain ⟨g, a, b', p0, p1, eu, hgs, esp⟩ := split_cut hrf'.1 (hcut r c) hcC.2
        have et : Cs.take (j + 1) = Cs.take j ++ [c] := by
          rw [List.take_add_one, hc1]
          rfl
        refine ⟨_, rfl, _, rfl, _, rfl, p, lp, b, fs, cs, ls, r, c, rfl, hs.same s7, hsS, hrf'.1, hcu, fun H8 pp s8 npp => ?_⟩
        have s9 := s8.trans (same_upd (o := HO.lst ((splitL r (cutL ls r c)).map fun r => V.str (S r))) npp)
        have hpp : (upd H8 pp (.lst ((splitL r (cutL ls r c)).map fun r => V.str (S r)))) pp = some (.lst ((splitL r (cutL ls r c)).map fun r => V.str (S r))) := upd_same
        have hq9 := s9 _ _ hq7
        generalize upd H8 pp (.lst ((splitL r (cutL ls r c)).map fun r => V.str (S r))) = H9 at s9 hpp hq9 ⊢
        have s09 := s7.trans s9
        refine ⟨_, rfl, _, rfl, _, rfl, _, rfl, p, lp, b, fs, cs, ls, r, c, rfl, hs.same s09, hsS, hrf'.1, fun H10 s10 => ?_⟩
        rw [show S (cutL ls r c) = S [g, a, b'] from by rw [eu]]
        refine ⟨z, g, a, b', rfl, hz, hgs, fun ul nul => ?_⟩
        rw [← eu]
        have s11 := s10.trans (same_upd (o := HO.lst (idxL z (cutL ls r c))) nul)
        have hul : (upd H10 ul (.lst (idxL z (cutL ls r c)))) ul = some (.lst ((idxW (wordV z (cutL ls r c))).map fun i => V.int (i : Nat))) := upd_same
        have hpp11 := s11 _ _ hpp
        have hq11 := s11 _ _ hq9
        generalize upd H10 ul (.lst (idxL z (cutL ls r c))) = H11 at s11 hul hpp11 hq11 ⊢
        have s011 := s09.trans s11
        have s611 := s67.trans (s9.trans s11)
        refine ⟨(show 2 ≤ sizeLine by decide), fun pt npt => ⟨pt, _, rfl, SqT.of upd_same, rfl, _, _, rfl, _, _, rfl, rfl, ?_⟩⟩
        have s12 := same_upd (o := HO.tup [V.ref pp, V.ref ul]) npt
        have hul12 := s12 _ _ hul
        have hpp12 := s12 _ _ hpp11
        have hq12 := s12 _ _ hq11
        have s012 := s011.trans s12
        have s612 := s611.trans s12
        generalize upd H11 pt (.tup [V.ref pp, V.ref ul]) = H12 at hul12 hpp12 hq12 s012 s612 ⊢
        generalize hix : idxW (wordV z (cutL ls r c)) = ix at hul12
        have hix2 : ix.length ≤ 2 := by
          have := (pk_sub p0 p1 (wordV z (cutL ls r c))).length_le
          rw [hix] at this
          unfold pk at this
          rwa [List.length_map] at this
        refine ⟨_, rfl, _, rfl, ul, rfl, ⟨_, SqL.of hul12⟩, fun D nD => ?_⟩
        have nDu : ul ≠ D := ne_of_none hul12 nD
        have nDp : pp ≠ D := ne_of_none hpp12 nD
        have nDq : q ≠ D := ne_of_none hq12 nD
        refine lc_it (walk_list (xs := ix.map fun i => V.int (i : Nat))) (fun k H' => H' = upd H12 D (.lst (((pk (splitL r (cutL ls r c)) (ix.take k)).filter fun p => !decide (p ∈ L)).map fun r => V.str (S r)))) rfl (fun k H' _ e => ?_) ?_ ?_
        · rw [e]
          exact SqL.of (by rw [upd_ne nDu]; exact hul12)
        · rintro k y _ _ hk rfl ⟨rfl, hx⟩
          rw [List.getElem?_map] at hx
          obtain ⟨m, hm1, rfl⟩ := Option.map_eq_some_iff.mp hx
          have hmm := List.mem_of_getElem? hm1
          have hm2 : m < 2 := idx_lt (wd := wordV z (cutL ls r c)) (by rw [hix]; exact hmm)
          obtain ⟨pt, hpt⟩ : ∃ pt, (splitL r (cutL ls r c))[m]? = some pt := by
            rw [esp]
            have : m = 0 ∨ m = 1 := by omega
            rcases this with rfl | rfl
            · exact ⟨p0, rfl⟩
            · exact ⟨p1, rfl⟩
          have hgd : (splitL r (cutL ls r c)).getD m [] = pt := by
            rw [List.getD_eq_getElem?_getD, hpt]
            rfl
          have e : pk (splitL r (cutL ls r c)) (ix.take (k + 1)) = pk (splitL r (cutL ls r c)) (ix.take k) ++ [pt] := by
            unfold pk
            rw [List.take_add_one, hm1, List.map_append]
            show _ ++ [(splitL r (cutL ls r c)).getD m []] = _
            rw [hgd]
          have hat : atI ((splitL r (cutL ls r c)).map fun r => V.str (S r)) ((m : Nat) : Int) = some (.str (S pt)) := atI_nat (j := m) (by rw [List.getElem?_map, hpt]; rfl)
          have hpp' : (upd H12 D (.lst (((pk (splitL r (cutL ls r c)) (ix.take k)).filter fun p => !decide (p ∈ L)).map fun r => V.str (S r)))) pp = some (.lst ((splitL r (cutL ls r c)).map fun r => V.str (S r))) := by
            rw [upd_ne nDp]
            exact hpp12
          rw [e, List.filter_append]
          refine ⟨rfl, _, rfl, _, rfl, pp, _, _, _, rfl, rfl, SqL.of hpp', hat, _, rfl, q, _, rfl, .inl (SqL.of (by rw [upd_ne nDq]; exact hq12)), rfl, flat_S _, !decide (pt ∈ L), congrArg V.bl ((if_pos rfl).trans (congrArg (fun b => !b) (inV_S _ _))), ?_⟩
          by_cases hm : pt ∈ L
          · rw [decide_eq_true hm]
            refine iteF ?_
            rw [show ([pt].filter fun p => !decide (p ∈ L)) = [] from by simp [hm], List.append_nil]
          · rw [decide_eq_false hm]
            refine iteT ⟨_, rfl, _, rfl, pp, _, _, _, rfl, rfl, SqL.of hpp', hat, _, upd_same, ?_, ?_⟩
            · rw [List.length_map]
              have h1 := List.length_filter_le (fun p => !decide (p ∈ L)) (pk (splitL r (cutL ls r c)) (ix.take k))
              unfold pk at h1
              rw [List.length_map, List.length_take] at h1
              exact sz1 (by unfold pk; omega)
            · rw [upd_upd, show ([pt].filter fun p => !decide (p ∈ L)) = [pt] from by simp [hm], List.map_append]
              rfl
        rintro _ rfl
        rw [List.take_of_length_le (by rw [List.length_map]; exact Nat.le_refl _)]
        have s13 := same_upd (o := HO.lst (((pk (splitL r (cutL ls r c)) ix).filter fun p => !decide (p ∈ L)).map fun r => V.str (S r))) nD
        have hD : (upd H12 D (.lst (((pk (splitL r (cutL ls r c)) ix).filter fun p => !decide (p ∈ L)).map fun r => V.str (S r)))) D = some (.lst (((pk (splitL r (cutL ls r c)) ix).filter fun p => !decide (p ∈ L)).map fun r => V.str (S r))) := upd_same
        have hq13 := s13 _ _ hq12
        generalize hN : ((pk (splitL r (cutL ls r c)) ix).filter fun p => !decide (p ∈ L)) = N at s13 hD hq13 ⊢
        have hNl : N.length ≤ 2 := by
          rw [← hN]
          refine Nat.le_trans (List.length_filter_le _ _) ?_
          unfold pk
          rw [List.length_map]
          exact hix2
        have hNnd : N.Nodup := by
          rw [← hN, ← hix, esp]
          have h1 := split_nodup hrf'.1 (hcut r c) hrm
          rw [esp] at h1
          exact h1.sublist ((pk_sub p0 p1 _).filter _)
        have hNm : ∀ y, y ∈ N ↔ (∃ k ∈ idxW (wordV z (cutL ls r c)), (splitL r (cutL ls r c))[k]? = some y) ∧ y ∉ L := fun y => by
          rw [← hN, List.mem_filter, ← hix, esp, pk_mem]
          simp
        have s613 := s612.trans s13
        have s013 := s012.trans s13
        generalize upd H12 D (.lst (N.map fun r => V.str (S r))) = H13 at hD hq13 s613 s013 ⊢
        refine ⟨q, D, _, _, rfl, rfl, hq13, hD, sz (by rw [List.length_map, List.length_map]; omega), fun q2 nq2 => ?_⟩
        have s14 := same_upd (o := HO.lst ((L.map fun r => V.str (S r)) ++ (N.map fun r => V.str (S r)))) nq2
        have inL : ∀ p, p ∈ L → p ∈ L ++ N := fun p h => List.mem_append_left _ h
        refine ⟨q2, L ++ N, _, _, _, rfl, ?_, none_same s013 nq2, s013.trans s14, s613.trans s14, ?_, inL _ hsL, ?_, ?_, ?_, ?_⟩
        · rw [upd_same, List.map_append]
        · rw [List.nodup_append]
          refine ⟨ndL, hNnd, fun a ha b hb => ?_⟩
          rintro rfl
          exact ((hNm a).mp hb).2 ha
        · intro r' hr'
          rcases List.mem_append.mp hr' with w | w
          · exact rcL r' w
          · obtain ⟨⟨k, hk, hy⟩, _⟩ := (hNm r').mp w
            exact .step (rcL r hrm) hcC.1 hcC.2 hk hy
        · rw [List.getElem?_append_left hiL2]
          exact hri
        · intro r' hr' c' hc' hne' k hk y hy
          rw [List.take_append_of_le_length (Nat.le_of_lt hiL2)] at hr'
          exact inL _ (hcl r' hr' c' hc' hne' k hk y hy)
        · intro c' hc' k hk y hy
          rw [et] at hc'
          rcases List.mem_append.mp hc' with w | w
          · exact inL _ (hcc c' w k hk y hy)
          · rw [List.mem_singleton.mp w] at hk hy
            by_cases hm : y ∈ L
            · exact inL _ hm
            · exact List.mem_append_right _ ((hNm y).mpr ⟨⟨k, hk, hy⟩, hm⟩)
      · rintro σ H7 ⟨q, L, y7, y8, y9, rfl, hq7, nq, s7, s67, ndL, hsL, rcL, hri, hcl, hcc⟩
        rw [List.take_of_length_le (by rw [List.length_map]; exact Nat.le_refl _)] at hcc
        have hiL2 : i < L.length := (List.getElem?_eq_some_iff.mp hri).1
        refine ⟨_, rfl, _, _, rfl, rfl, ?_⟩
        refine ⟨q, L, _, _, _, _, _, rfl, hq7, nq, s7, ndL, hsL, rcL, hiL2, fun r' hr' c hc hne => ?_⟩
        rw [List.take_add_one, hri] at hr'
        rcases List.mem_append.mp hr' with w | w
        · exact hcl r' w c hc hne
        · rw [List.mem_singleton.mp w] at hne ⊢
          exact hcc c ((hCsm c).mpr ⟨hc, hne⟩)
  · rintro σ H3 ⟨q, L, y5, y6, y7, y8, y9, rfl, hq3, nq, s3, ndL, hsL, rcL, hiL, hcl⟩
    have := hlen ndL rcL
    have h1296 : (1296 : Int).toNat = 1296 := rfl
    omega
end
end FW
namespace FW
open PySem PySem.Spec PyProof.Rows L2
-- more
section
variable {P : Program} {w : World} {K : PySem.W.Frag} {mg : Str → Option Value} {base : Heap}
abbrev s__law_rows : Stmt := topS 75
theorem sc__law_rows : FnScope ["_law_spec", "_law_tree", "_law_view_z", "_law_address", "_law_word", "_law_found", "_law_lots", "_law_at", "_law_digit", "_law_kept", "_law_left", "_law_right"] ["_law_spec", "_law_tree", "_law_view_z", "_law_address"] (defScope s__law_rows) := ⟨rfl, rfl, rfl, by decide +kernel, rfl, by decide +kernel, by decide +kernel⟩
abbrev RowT : Type := Addr × List (List Nat)
def refR (R : List RowT) : List V := R.map fun q => V.ref q.1
def Gd (t : Tr) (cut : Rm → Nat → Rm) (C : List Nat) (z : Str) (start : Rm) (a : List Nat) : Prop := ∃ r, lk t.rooms a = some r ∧ VR cut C z start r
structure RowOk (H0 H : Hp) (G : List Nat → Prop) (m : Nat) (x : RowT) : Prop where
  nw : H0 x.1 = none
  l : H x.1 = some (.lst (x.2.map fun a => V.str (S a)))
  g : ∀ a ∈ x.2, G a
  few : x.2.length ≤ m
theorem RowOk.same {H0 H H' : Hp} {G : List Nat → Prop} {m : Nat} {x : RowT} (h : RowOk H0 H G m x) (s : Same H H') : RowOk H0 H' G m x := ⟨h.nw, s _ _ h.l, h.g, h.few⟩
structure TreeAt (H : Hp) (tq sl rd cd : Addr) (t : Tr) : Prop where
  top : H tq = some (.lst [.ref sl, .ref rd, .ref cd])
  rooms : H rd = some (.dK (kvR t.rooms))
  cuts : H cd = some (.dK (cutD t.cuts))
theorem TreeAt.same {H H' : Hp} {tq sl rd cd : Addr} {t : Tr} (h : TreeAt H tq sl rd cd t) (s : Same H H') : TreeAt H' tq sl rd cd t := ⟨s _ _ h.top, s _ _ h.rooms, s _ _ h.cuts⟩
structure LotOk (H0 H : Hp) (l0 : Addr) (G : List Nat → Prop) (t : Tr) (a : List Nat) (j : Nat) (L : Addr × List RowT) : Prop where
  l : H L.1 = some (.lst (refR L.2))
  ne : L.1 ≠ l0
  rows : ∀ x ∈ L.2, RowOk H0 H G (cnt t (a ++ [48 + j]) + 1) x ∧ x.1 ≠ l0
  few : L.2.length ≤ 2 ^ cnt t (a ++ [48 + j])
theorem LotOk.same {H0 H H' : Hp} {l0 : Addr} {G : List Nat → Prop} {t : Tr} {a : List Nat} {j : Nat} {L : Addr × List RowT} (h : LotOk H0 H l0 G t a j L) (s : Same H H') : LotOk H0 H' l0 G t a j L := ⟨s _ _ h.l, h.ne, fun x hx => ⟨(h.rows x hx).1.same s, (h.rows x hx).2⟩, h.few⟩
theorem LotOk.but {H0 H H' : Hp} {l0 : Addr} {G : List Nat → Prop} {t : Tr} {a : List Nat} {j : Nat} {L : Addr × List RowT} (h : LotOk H0 H l0 G t a j L) (s : But l0 H H') : LotOk H0 H' l0 G t a j L := ⟨s _ _ h.ne h.l, h.ne, fun x hx => ⟨⟨(h.rows x hx).1.nw, s _ _ (h.rows x hx).2 (h.rows x hx).1.l, (h.rows x hx).1.g, (h.rows x hx).1.few⟩, (h.rows x hx).2⟩, h.few⟩
def sp__law_rows (K : PySem.W.Frag) (n : Nat) : Sp := fun vs H Q _ => ∃ (b p lp tq sl rd cd : Addr) (F C : List Nat) (ls : List LineV) (start r a : List Nat) (z : Str) (t : Tr), vs = [.ref p, .ref tq, .str z, .str (S a)] ∧ cnt t a < n ∧ n ≤ 8 ∧ SpecAt H b p lp F C ls ∧ SpecS ls ∧ (∀ r ∈ ls, CutR r.2.2.2.2.2.2 F) ∧ z ∈ viewsT ∧ TreeAt H tq sl rd cd t ∧ t.Ok F ∧ TrC (cutL ls) C t ∧ lk t.rooms a = some r ∧ VR (cutL ls) C z start r ∧ t.cuts.length ≤ 50 ∧
  ∀ (H' : Hp) (q : Addr) (R : List RowT), Same H H' → H q = none → H' q = some (.lst (refR R)) → (∀ x ∈ R, RowOk H H' (Gd t (cutL ls) C z start) (cnt t a + 1) x) → R.length ≤ 2 ^ cnt t a → Q (.ref q) H'
theorem kept_eq : ∀ wd ∈ wordsT, ∀ k ∈ [0, 1], inV (.str wd) [.str "both", .str "either", .str (if k = 0 then "first" else "second")] = decide (k ∈ idxW wd) := by decide +kernel
theorem ok__law_rows0 {f : Addr} {fd : FuncData} (F : Fun K "_law_rows" "_law_rows" s__law_rows f fd) (T : Z mg) : FnOk P w K mg base CX0 4 f fd ["_law_spec", "_law_tree", "_law_view_z", "_law_address"] (sp__law_rows K 0) := by
  refine F.ok sc__law_rows (fun vs H Q E h => ?_) (fun cdv A outer s H vs Q E hr h => ?_)
  · obtain ⟨b, p, lp, tq, sl, rd, cd, F, C, ls, start, r, a, z, t, rfl, h, _⟩ := h
    exact absurd h (Nat.not_lt_zero _)
  · obtain ⟨b, p, lp, tq, sl, rd, cd, F, C, ls, start, r, a, z, t, rfl, h, _⟩ := h
    exact absurd h (Nat.not_lt_zero _)
theorem ok__law_rows_step {f : Addr} {fd : FuncData} {n : Nat} (F : Fun K "_law_rows" "_law_rows" s__law_rows f fd) (T : Z mg) (c__law_rule : Cal P w K mg base CX0 2 "_law_rule" s__law_rule ["_law_view_z", "_law_cut_here"] (sp__law_rule K))
    (c__law_cut : Cal P w K mg base CX0 3 "_law_cut" s__law_cut ["_law_spec", "_law_room", "_law_cutter"] (sp__law_cut K)) (c__law_rows : Cal P w K mg base CX0 (n + 4) "_law_rows" s__law_rows ["_law_spec", "_law_tree", "_law_view_z", "_law_address"] (sp__law_rows K n)) : FnOk P w K mg base CX0 (n + 5) f fd ["_law_spec", "_law_tree", "_law_view_z", "_law_address"] (sp__law_rows K (n + 1)) := by
  refine F.ok sc__law_rows (fun vs H Q E h => ?_) (fun cdv A outer s H vs Q E hr h => ?_)
  · obtain ⟨b, p, lp, tq, sl, rd, cd, F, C, ls, start, r, a, z, t, rfl, _⟩ := h
    rfl
  obtain ⟨b, p, lp, tq, sl, rd, cd, fs, cs, ls, start, r, a, z, t, rfl, hn, hn8, hs, hsS, hcu, hz, hT, tok, tc, hlk, hVR, hct, q⟩ := h
  refine ⟨_, (pss_cons (ps_if (pt_cmp (pc_dnotin (hu_of hr) (pv 3) (pe_ix ix_list (pv 1) pe_int (fun _ _ => rfl)))) (pss_one (ps_ret (pe_lst (pa_cons (pe_lst (pa_cons (pv 3) pa_nil)) pa_nil)))) pss_nil)
      (pss_cons (ps_set (i := 4) sc__law_rows.nd rfl (.inl rfl) (pe_c c__law_rule hr (by omega) (by rfl) (pa_cons (pv 2) (pa_cons (pe_c c__law_cut hr (by omega) (by rfl) (pa_cons (pv 0) (pa_cons (pe_dget (hu_of hr) (pe_ix ix_list (pv 1) pe_int (fun _ _ => rfl)) (pv 3) (fun _ _ => rfl)) (pa_cons (pe_dget (hu_of hr) (pe_ix ix_list (pv 1) pe_int (fun _ _ => rfl)) (pv 3) (fun _ _ => rfl)) pa_nil)))) pa_nil))))
      (pss_cons (ps_par (i := 5) (j := 6) (by rfl) sc__law_rows.nd rfl rfl (by decide) rfl rfl (pa_cons (pe_lst pa_nil) (pa_cons (pe_lst pa_nil) pa_nil)) (by rfl))
      (pss_cons (ps_for PassesOwn.never rfl (pi_enumG (by rfl) T.z_enumerate (pa_cons pe_str pa_nil)) (pg_tup rfl (pgs_cons (pg_name (i := 7) sc__law_rows.nd rfl (.inl rfl)) (pgs_cons (pg_name (i := 8) sc__law_rows.nd rfl (.inl rfl)) pgs_nil)))
        (pss_cons (ps_set (i := 9) sc__law_rows.nd rfl (.inl rfl) (pe_cmpR op_in_seq (pv 4) (pe_lst (pa_cons pe_str (pa_cons pe_str (pa_cons (pe_ix ix_list (pe_lst (pa_cons pe_str (pa_cons pe_str pa_nil))) (pv 7) (fun _ _ => rfl)) pa_nil)))) (by rfl)))
      (pss_one (ps_expr (pe_bm PySem.F.plainAttrs_list PySem.F.slot_list_append PySem.F.type_list_append mt_append (pv 6) (pa_cons (pe_ifExp (pt_val (pv 9)) (pe_c c__law_rows hr (Nat.le_refl _) (by rfl) (pa_cons (pv 0) (pa_cons (pv 1) (pa_cons (pv 2) (pa_cons (pe_op op_add_str (pv 3) (pv 8)) pa_nil))))) (pe_lst pa_nil)) pa_nil))))))
      (pss_cons (ps_if (pt_cmpR op_ne (pv 4) pe_str (nomark _)) (pss_one (ps_ret (pe_op op_cat (pe_ix ix_list (pv 6) pe_int (fun _ _ => rfl)) (pe_ix ix_list (pv 6) pe_int (fun _ _ => rfl))))) pss_nil)
      (pss_cons (ps_for PassesOwn.never rfl (pi_list (pe_ix ix_list (pv 6) pe_int (fun _ _ => rfl))) (pg_name (i := 10) sc__law_rows.nd rfl (.inr rfl))
        (pss_one (ps_set (i := 5) sc__law_rows.nd rfl (.inl rfl) (pe_op op_cat (pv 5) (pe_lc (own := [("_law_right", 11)]) (g := (gName 11)) (by rfl) sc__law_rows.nd (pi_list (pe_ix ix_list (pv 6) pe_int (fun _ _ => rfl))) (blkOk_by (N := ["_law_spec", "_law_tree", "_law_view_z", "_law_address", "_law_word", "_law_found", "_law_lots", "_law_at", "_law_digit", "_law_kept", "_law_left", "_law_right"]) (sc := defScope s__law_rows) (by decide +kernel)) (fun _ _ _ _ _ => (pg_name (i := 11) sc__law_rows.nd rfl (.inl rfl))) (fun _ _ _ _ _ => pts_nil) (fun _ _ _ _ _ => (pe_op op_cat (pv 10) (pv 11))))))))
      (pss_one (ps_ret (pv 5))))))))), ?_⟩
  have hcut : ∀ r c, CutR (cutL ls r c) fs := fun r c => cutL_form hcu
  have p7 : ∀ {c : Nat}, c ≤ 7 → 2 ^ c ≤ 128 := fun {c} h => Nat.le_trans (Nat.pow_le_pow_right (by decide) h) (by decide)
  refine ⟨_, rfl, _, rfl, tq, _, 2, _, rfl, rfl, SqL.of hT.top, rfl, cd, valV (cutD t.cuts) (.inr (S a)), rfl, DGet.k (k := Sum.inr (S a)) hT.cuts, _, rfl, ?_⟩
  cases hv : valV (cutD t.cuts) (.inr (S a)) with
  | none =>
    refine iteT ⟨_, rfl, (show 1 ≤ sizeLine by decide), fun p1 np1 => ⟨(show 1 ≤ sizeLine by decide), fun p2 np2 => ?_⟩⟩
    have s1 := same_upd (o := HO.lst [V.str (S a)]) np1
    have h1 : (upd H p1 (.lst [V.str (S a)])) p1 = some (.lst [V.str (S a)]) := upd_same
    have s2 := same_upd (o := HO.lst [V.ref p1]) np2
    refine q _ p2 [(p1, [a])] (s1.trans s2) (none_same s1 np2) upd_same (fun x hx => ?_) (Nat.one_le_two_pow)
    rw [List.mem_singleton.mp hx]
    refine ⟨np1, s2 _ _ h1, fun a' ha' => ?_, (show 1 ≤ _ + 1 by omega)⟩
    rw [List.mem_singleton.mp ha']
    exact ⟨r, hlk, hVR⟩
  | some v =>
    obtain ⟨x, hx, rfl, rfl⟩ := valV_cut hv
    obtain ⟨hxr, hxc, p0, p1, esp, hp0, hp1⟩ := tc.of x hx
    have er : r = x.2.1 := by
      have := lk_of tok.nd hxr
      rw [hlk] at this
      exact Option.some.inj this
    have hk0 := lk_of tok.nd hp0
    have hk1 := lk_of tok.nd hp1
    have hform := tok.form _ hxr
    rw [← er] at hxr esp hform
    have hcs := cnt_cut hx rfl
    generalize hc : x.2.2 = c at hxc esp hv
    generalize x.1 = a at hlk hk0 hk1 hcs hv hn q
    clear hx hxr hp0 hp1 er
    have ha50 : a.length ≤ 50 := Nat.le_trans (tok.len _ (lk_some hlk)) hct
    have hne : cutL ls r c ≠ [] := fun e => by
      rw [e, splitL_none] at esp
      cases esp
    obtain ⟨g, x1, x2, q0, q1, eu, hgs, _⟩ := split_cut hform.1 (hcut r c) hne
    have hgm : g ∈ [124, 45] := by rcases hgs with rfl | rfl <;> decide
    have hgr : DGet H rd (.str (S a)) (some (.str (S r))) := by
      have := DGet.k (k := Sum.inr (S a)) hT.rooms
      rw [valV_kvR, hlk] at this
      exact this
    have hgc : DGet H cd (.str (S a)) (some (.str (S [c]))) := by
      have := DGet.k (k := Sum.inr (S a)) hT.cuts
      rw [hv] at this
      exact this
    refine iteF ⟨_, rfl, _, rfl, _, rfl, tq, _, 1, _, rfl, rfl, SqL.of hT.top, rfl, _, rfl, rd, _, rfl, hgr, _, rfl, tq, _, 2, _, rfl, rfl, SqL.of hT.top, rfl, _, rfl, cd, _, rfl, hgc, p, lp, b, fs, cs, ls, r, c, rfl, hs, hsS, hform.1, fun H1 s1 => ?_⟩
    rw [show S (cutL ls r c) = S [g, x1, x2] from by rw [eu]]
    refine ⟨z, g, x1, x2, rfl, hz, hgs, fun H2 s2 => ?_⟩
    rw [← eu]
    have hwd : wordV z (cutL ls r c) ∈ wordsT := by
      rw [eu]
      exact word_in z hz g hgm
    have step : ∀ k ∈ idxW (wordV z (cutL ls r c)), ∀ y, (splitL r (cutL ls r c))[k]? = some y → VR (cutL ls) cs z start y := fun k hk y hy => .step hVR hxc hne hk hy
    generalize wordV z (cutL ls r c) = wd at hwd step ⊢
    have s02 := s1.trans s2
    refine ⟨(show 0 ≤ sizeLine by decide), fun f0 nf0 => ⟨(show 0 ≤ sizeLine by decide), fun l0 nl0 => ?_⟩⟩
    have s3 := same_upd (o := HO.lst ([] : List V)) nf0
    have hf3 : (upd H2 f0 (.lst [])) f0 = some (.lst (refR [])) := upd_same
    have nf00 := none_same s02 nf0
    have s03 := s02.trans s3
    generalize upd H2 f0 (.lst []) = H3 at hf3 s03 nl0 ⊢
    have s4 := same_upd (o := HO.lst ([] : List V)) nl0
    have hl4 : (upd H3 l0 (.lst [])) l0 = some (.lst (([] : List (Addr × List RowT)).map fun L => V.ref L.1)) := upd_same
    have nl00 := none_same s03 nl0
    have hf4 := s4 _ _ hf3
    have s04 := s03.trans s4
    have fl : f0 ≠ l0 := ne_of_none hf3 nl0
    generalize upd H3 l0 (.lst []) = H4 at hl4 hf4 s04 ⊢
    clear s1 s2 s3 s4 hf3 nf0 nl0 s02 s03
    have hT4 := hT.same s04
    refine ⟨_, _, rfl, .str "01", [sgn 48, sgn 49], rfl, .s (by rfl), fun k ev src => ?_⟩
    have stay : ∀ H', k.src K H' [sgn 48, sgn 49] := fun H' => by
      cases k with
      | l a => cases ev
      | t a => cases ev
      | s z t => exact src
    refine for_it (walk_enumG (xs := [sgn 48, sgn 49])) (fun i σ H' => ∃ (LL : List (Addr × List RowT)) (y7 y8 y9 : Option V), σ = [some (.ref p), some (.ref tq), some (.str z), some (.str (S a)), some (.str wd), some (.ref f0), some (.ref l0), y7, y8, y9, none, none] ∧ Same H H' ∧ H' f0 = some (.lst (refR [])) ∧ H' l0 = some (.lst (LL.map fun L => V.ref L.1)) ∧ LL.length = i ∧ ∀ j L, LL[j]? = some L → LotOk H H' l0 (Gd t (cutL ls) cs z start) t a j L) ⟨[], _, _, _, rfl, s04, hf4, hl4, rfl, (fun j L h => by cases h)⟩ (fun i σ H' _ _ => stay H') ?_ ?_
    · rintro i v σ H5 H6 hi ⟨LL, y7, y8, y9, rfl, s5, hf5, hl5, hLL, ok5⟩ ⟨T', a1, b1', rfl, nT, rfl, hx1, hy1⟩
      obtain rfl : V.int (i : Nat) = a1 := Option.some.inj hx1
      have hi2 : i < 2 := hi
      have hi01 : i = 0 ∨ i = 1 := by omega
      have hy2 : ([sgn 48, sgn 49] : List V)[i]? = some b1' := hy1
      obtain rfl : .str (S [48 + i]) = b1' := by
        rcases hi01 with rfl | rfl <;> exact Option.some.inj hy2
      have him : i ∈ [0, 1] := by rcases hi01 with rfl | rfl <;> decide
      obtain ⟨pc, hpc, hlkc⟩ : ∃ pc, (splitL r (cutL ls r c))[i]? = some pc ∧ lk t.rooms (a ++ [48 + i]) = some pc := by
        rw [esp]
        rcases hi01 with rfl | rfl
        · exact ⟨p0, rfl, hk0⟩
        · exact ⟨p1, rfl, hk1⟩
      have hcn : cnt t (a ++ [48 + i]) + 1 ≤ cnt t a := by
        rcases hi01 with rfl | rfl
        · show cnt t (a ++ [48]) + 1 ≤ _
          omega
        · show cnt t (a ++ [49]) + 1 ≤ _
          omega
      have sT := same_upd (o := HO.tup [V.int (i : Nat), V.str (S [48 + i])]) nT
      have hTT : SqT K (upd H5 T' (HO.tup [V.int (i : Nat), V.str (S [48 + i])])) T' [V.int (i : Nat), V.str (S [48 + i])] := SqT.of upd_same
      refine ⟨T', _, rfl, hTT, rfl, _, _, rfl, _, [], rfl, rfl, ?_⟩
      have s6 := s5.trans sT
      have hf6 := sT _ _ hf5
      have hl6 := sT _ _ hl5
      have ok6 : ∀ j L, LL[j]? = some L → LotOk H (upd H5 T' (HO.tup [V.int (i : Nat), V.str (S [48 + i])])) l0 (Gd t (cutL ls) cs z start) t a j L := fun j L h => (ok5 j L h).same sT
      generalize upd H5 T' (HO.tup [V.int (i : Nat), V.str (S [48 + i])]) = H6 at s6 hf6 hl6 ok6 ⊢
      clear hTT sT nT hx1 hy1 hy2 hf5 hl5 ok5 s5
      have hat : atI [V.str "first", V.str "second"] ((i : Nat) : Int) = some (.str (if i = 0 then "first" else "second")) := by
        rcases hi01 with rfl | rfl <;> rfl
      refine ⟨_, rfl, (show 2 ≤ sizeLine by decide), fun pl npl => ⟨_, rfl, pl, _, _, _, rfl, rfl, SqL.of upd_same, hat, (show 3 ≤ sizeLine by decide), fun pm npm => ⟨pm, _, rfl, .inl (SqL.of upd_same), rfl, rfl, ?_⟩⟩⟩
      rw [if_neg Bool.false_ne_true, kept_eq wd hwd i him]
      have s7 := (same_upd (o := HO.lst [V.str "first", V.str "second"]) npl).trans (same_upd (o := HO.lst [V.str "both", V.str "either", V.str (if i = 0 then "first" else "second")]) npm)
      have s07 := s6.trans s7
      have hf7 := s7 _ _ hf6
      have hl7 := s7 _ _ hl6
      have ok7 : ∀ j L, LL[j]? = some L → LotOk H _ l0 (Gd t (cutL ls) cs z start) t a j L := fun j L h => (ok6 j L h).same s7
      generalize upd (upd H6 pl (.lst [V.str "first", V.str "second"])) pm (.lst [V.str "both", V.str "either", V.str (if i = 0 then "first" else "second")]) = H7 at s07 hf7 hl7 ok7 ⊢
      clear s7 npl npm hf6 hl6 ok6 s6
      have put : ∀ {H8 : Hp} {q8 : Addr} {R8 : List RowT}, Same H7 H8 → H7 q8 = none → H8 q8 = some (.lst (refR R8)) → (∀ y ∈ R8, RowOk H7 H8 (Gd t (cutL ls) cs z start) (cnt t (a ++ [48 + i]) + 1) y) → R8.length ≤ 2 ^ cnt t (a ++ [48 + i]) →
          Same H (upd H8 l0 (.lst ((LL.map fun L => V.ref L.1) ++ [V.ref q8]))) ∧ (upd H8 l0 (.lst ((LL.map fun L => V.ref L.1) ++ [V.ref q8]))) f0 = some (.lst (refR [])) ∧ (upd H8 l0 (.lst ((LL.map fun L => V.ref L.1) ++ [V.ref q8]))) l0 = some (.lst ((LL ++ [(q8, R8)]).map fun L => V.ref L.1)) ∧ (LL ++ [(q8, R8)]).length = i + 1 ∧ ∀ j L, (LL ++ [(q8, R8)])[j]? = some L → LotOk H (upd H8 l0 (.lst ((LL.map fun L => V.ref L.1) ++ [V.ref q8]))) l0 (Gd t (cutL ls) cs z start) t a j L := fun {H8 q8 R8} s8 nq8 hq8 hR8 fR8 => by
        have bt : But l0 H8 (upd H8 l0 (.lst ((LL.map fun L => V.ref L.1) ++ [V.ref q8]))) := fun b' o' n' e' => by
          rw [upd_ne n']
          exact e'
        have ql : q8 ≠ l0 := fun w => by
          rw [w, hl7] at nq8
          cases nq8
        refine ⟨fun b' o' e' => ?_, ?_, ?_, ?_, fun j L hL => ?_⟩
        · rw [upd_ne (ne_of_none e' nl00)]
          exact s8 _ _ (s07 _ _ e')
        · rw [upd_ne fl]
          exact s8 _ _ hf7
        · rw [upd_same, List.map_append]
          rfl
        · rw [List.length_append, List.length_singleton, hLL]
        · rcases Nat.lt_trichotomy j LL.length with w | w | w
          · rw [List.getElem?_append_left w] at hL
            exact ((ok7 j L hL).same s8).but bt
          · rw [List.getElem?_append_right (by omega), w, Nat.sub_self] at hL
            obtain rfl : (q8, R8) = L := Option.some.inj hL
            have ej : j = i := by omega
            rw [ej]
            refine LotOk.but ⟨hq8, ql, fun y hy => ?_, fR8⟩ bt
            have hy8 := hR8 y hy
            refine ⟨⟨none_same s07 hy8.nw, hy8.l, hy8.g, hy8.few⟩, fun w => ?_⟩
            have := hy8.nw
            rw [w, hl7] at this
            cases this
          · rw [List.getElem?_eq_none (by rw [List.length_append, List.length_singleton]; omega)] at hL
            cases hL
      have hLLs : (LL.map fun L => V.ref L.1).length < sizeLine := by
        rw [List.length_map]
        exact sz1 (by omega)
      refine ⟨_, rfl, .inl ⟨rfl, _, SqL.of hl7⟩, _, rfl, _, rfl, ite_dec (fun hk => ?_) (fun nk => ?_)⟩
      · have hzs : (S a).length + (S [48 + i]).length ≤ sizeLine := by
          rw [S_len, S_len]
          exact sz (by show a.length + 1 ≤ 100000; omega)
        refine ⟨_, rfl, _, rfl, _, rfl, _, rfl, _, rfl, _, _, rfl, rfl, hzs, ?_⟩
        rw [S_cat]
        refine ⟨b, p, lp, tq, sl, rd, cd, fs, cs, ls, start, pc, a ++ [48 + i], z, t, rfl, by omega, by omega, hs.same s07, hsS, hcu, hz, hT.same s07, tok, tc, hlkc, step i hk pc hpc, hct, fun H8 q8 R8 s8 nq8 hq8 hR8 fR8 => ?_⟩
        refine ⟨l0, _, _, rfl, rfl, s8 _ _ hl7, hLLs, ?_⟩
        obtain ⟨z1, z2, z3, z4, z5⟩ := put s8 nq8 hq8 hR8 fR8
        exact ⟨LL ++ [(q8, R8)], _, _, _, rfl, z1, z2, z3, z4, z5⟩
      · refine ⟨(show 0 ≤ sizeLine by decide), fun e0 ne0 => ?_⟩
        have s8 := same_upd (o := HO.lst ([] : List V)) ne0
        refine ⟨l0, _, _, rfl, rfl, s8 _ _ hl7, hLLs, ?_⟩
        obtain ⟨z1, z2, z3, z4, z5⟩ := put (R8 := []) s8 ne0 upd_same (fun y hy => by cases hy) (Nat.zero_le _)
        exact ⟨LL ++ [(e0, [])], _, _, _, rfl, z1, z2, z3, z4, z5⟩
    · rintro σ H5 ⟨LL, y7, y8, y9, rfl, s5, hf5, hl5, hLL, ok5⟩
      obtain ⟨L0, L1, rfl⟩ : ∃ L0 L1, LL = [L0, L1] := by
        match LL, hLL with
        | [x, y], _ => exact ⟨x, y, rfl⟩
      have ok0 := ok5 0 L0 rfl
      have ok1 := ok5 1 L1 rfl
      clear ok5 hLL
      have e0 : 48 + 0 = 48 := rfl
      have e1 : 48 + 1 = 49 := rfl
      have c0 : cnt t (a ++ [48]) ≤ 7 := by omega
      have c1 : cnt t (a ++ [49]) ≤ 7 := by omega
      have f0' : L0.2.length ≤ 2 ^ cnt t (a ++ [48]) := ok0.few
      have f1' : L1.2.length ≤ 2 ^ cnt t (a ++ [49]) := ok1.few
      have b0 := p7 c0
      have b1 := p7 c1
      have rows0 : ∀ y ∈ L0.2, RowOk H H5 (Gd t (cutL ls) cs z start) (cnt t (a ++ [48]) + 1) y := fun y hy => (ok0.rows y hy).1
      have rows1 : ∀ y ∈ L1.2, RowOk H H5 (Gd t (cutL ls) cs z start) (cnt t (a ++ [49]) + 1) y := fun y hy => (ok1.rows y hy).1
      have r0l : (refR L0.2).length = L0.2.length := List.length_map ..
      have r1l : (refR L1.2).length = L1.2.length := List.length_map ..
      refine ⟨_, rfl, rfl, _, rfl, ite_ndec (fun hne => ?_) (fun heq => ?_)⟩
      · refine ⟨_, rfl, l0, _, 0, _, rfl, rfl, SqL.of hl5, rfl, _, rfl, l0, _, 1, _, rfl, rfl, SqL.of hl5, rfl, L0.1, L1.1, _, _, rfl, rfl, ok0.l, ok1.l, sz (by omega), fun q9 nq9 => ?_⟩
        have s9 := same_upd (o := HO.lst (refR L0.2 ++ refR L1.2)) nq9
        refine q _ q9 (L0.2 ++ L1.2) (s5.trans s9) (none_same s5 nq9) (by rw [upd_same]; unfold refR; rw [List.map_append]) (fun y hy => ?_) ?_
        · rcases List.mem_append.mp hy with w | w
          · have := (rows0 y w).same s9
            exact ⟨this.nw, this.l, this.g, by have := this.few; omega⟩
          · have := (rows1 y w).same s9
            exact ⟨this.nw, this.l, this.g, by have := this.few; omega⟩
        · rw [List.length_append]
          have := pow_sum hcs
          omega
      · refine ⟨_, rfl, l0, _, 0, _, rfl, rfl, SqL.of hl5, rfl, L0.1, rfl, ⟨_, SqL.of ok0.l⟩, for_list (xs := refR L0.2) (fun i σ H' => ∃ (q5 : Addr) (R : List RowT) (y10 : Option V), σ = [some (.ref p), some (.ref tq), some (.str z), some (.str (S a)), some (.str wd), some (.ref q5), some (.ref l0), y7, y8, y9, y10, none] ∧ Same H5 H' ∧ H q5 = none ∧ H' q5 = some (.lst (refR R)) ∧ (∀ y ∈ R, RowOk H H' (Gd t (cutL ls) cs z start) (cnt t a + 1) y) ∧ R.length = i * L1.2.length)
          ⟨f0, [], _, rfl, Same.refl _, nf00, hf5, (fun y hy => by cases hy), by simp⟩ (fun i σ H' _ ⟨_, _, _, _, s, _⟩ => SqL.of (s _ _ ok0.l)) ?_ ?_⟩
        · rintro i v σ H6 hv ⟨q5, R, y10, rfl, s6, nq5, hq6, hR6, hRl⟩
          unfold refR at hv
          rw [List.getElem?_map] at hv
          obtain ⟨u, hu1, rfl⟩ := Option.map_eq_some_iff.mp hv
          have hum := List.mem_of_getElem? hu1
          have hiL : i < L0.2.length := (List.getElem?_eq_some_iff.mp hu1).1
          have hu6 := (rows0 u hum).same s6
          have hl6 := s6 _ _ hl5
          have hL16 := s6 _ _ ok1.l
          have hmul : i * L1.2.length ≤ 128 * 128 := Nat.mul_le_mul (by omega) (by omega)
          refine ⟨_, rfl, _, rfl, l0, _, 1, _, rfl, rfl, SqL.of hl6, rfl, L1.1, rfl, ⟨_, SqL.of hL16⟩, fun G nG => ?_⟩
          refine lc_it (walk_list (xs := refR L1.2)) (fun k H' => ∃ N : List RowT, But G H6 H' ∧ H' G = some (.lst (refR N)) ∧ (∀ y ∈ N, RowOk H H' (Gd t (cutL ls) cs z start) (cnt t a + 1) y ∧ y.1 ≠ G) ∧ N.length = k) ⟨[], (same_upd nG).but, upd_same, (fun y hy => by cases hy), rfl⟩ (fun k H' _ ⟨_, bt, _⟩ => SqL.of (bt _ _ (ne_of_none hL16 nG) hL16)) ?_ ?_
          · rintro k v _ H7 hk ⟨N, bt, hG7, hN7, hNl⟩ ⟨rfl, hx⟩
            unfold refR at hx
            rw [List.getElem?_map] at hx
            obtain ⟨w, hw1, rfl⟩ := Option.map_eq_some_iff.mp hx
            have hw6 := (rows1 w (List.mem_of_getElem? hw1)).same s6
            have hu7 := bt _ _ (ne_of_none hu6.l nG) hu6.l
            have hw7 := bt _ _ (ne_of_none hw6.l nG) hw6.l
            have hufew := hu6.few
            have hwfew := hw6.few
            have hkl : k < L1.2.length := (List.getElem?_eq_some_iff.mp hw1).1
            refine ⟨rfl, _, rfl, _, rfl, u.1, w.1, _, _, rfl, rfl, hu7, hw7, sz (by rw [List.length_map, List.length_map]; omega), fun qn nqn => ?_⟩
            have s8 := same_upd (o := HO.lst ((u.2.map fun a => V.str (S a)) ++ (w.2.map fun a => V.str (S a)))) nqn
            have hqn : (upd H7 qn (.lst ((u.2.map fun a => V.str (S a)) ++ (w.2.map fun a => V.str (S a))))) qn = some (.lst ((u.2 ++ w.2).map fun a => V.str (S a))) := by
              rw [upd_same, List.map_append]
            have hG8 := s8 _ _ hG7
            have hN8 : ∀ y ∈ N, RowOk H _ (Gd t (cutL ls) cs z start) (cnt t a + 1) y ∧ y.1 ≠ G := fun y hy => ⟨(hN7 y hy).1.same s8, (hN7 y hy).2⟩
            have b8 := bt.trans s8.but (b := G)
            have qnG : qn ≠ G := fun e => by
              rw [e, hG7] at nqn
              cases nqn
            have s67 : Same H6 H7 := fun c' o' e' => bt _ _ (ne_of_none e' nG) e'
            have nqn0 : H qn = none := none_same (s5.trans (s6.trans s67)) nqn
            generalize upd H7 qn (.lst ((u.2.map fun a => V.str (S a)) ++ (w.2.map fun a => V.str (S a)))) = H8 at hqn hG8 hN8 b8 ⊢
            refine ⟨_, hG8, by unfold refR; rw [List.length_map]; exact sz1 (by omega), N ++ [(qn, u.2 ++ w.2)], fun b' o' n' e' => ?_, ?_, fun y hy => ?_, ?_⟩
            · rw [upd_ne n']
              exact b8 _ _ n' e'
            · rw [upd_same]
              unfold refR
              rw [List.map_append]
              rfl
            · have h9 : RowOk H H8 (Gd t (cutL ls) cs z start) (cnt t a + 1) y ∧ y.1 ≠ G := by
                rcases List.mem_append.mp hy with v | v
                · exact hN8 y v
                · rw [List.mem_singleton.mp v]
                  refine ⟨⟨nqn0, hqn, fun a' ha' => ?_, ?_⟩, qnG⟩
                  · rcases List.mem_append.mp ha' with v2 | v2
                    · exact hu6.g a' v2
                    · exact hw6.g a' v2
                  · rw [List.length_append]
                    omega
              refine ⟨⟨h9.1.nw, ?_, h9.1.g, h9.1.few⟩, h9.2⟩
              rw [upd_ne h9.2]
              exact h9.1.l
            · rw [List.length_append, List.length_singleton, hNl]
          · rintro H7 ⟨N, bt, hG7, hN7, hNl⟩
            have s67 : Same H6 H7 := fun c' o' e' => bt _ _ (ne_of_none e' nG) e'
            rw [r1l] at hNl
            refine ⟨q5, G, _, _, rfl, rfl, s67 _ _ hq6, hG7, sz (by unfold refR; rw [List.length_map, List.length_map]; omega), fun q2 nq2 => ?_⟩
            have s8 := same_upd (o := HO.lst (refR R ++ refR N)) nq2
            have s58 := s6.trans (s67.trans s8)
            refine ⟨q2, R ++ N, _, rfl, s58, none_same (s5.trans (s6.trans s67)) nq2, ?_, fun y hy => ?_, ?_⟩
            · rw [upd_same]
              unfold refR
              rw [List.map_append]
            · rcases List.mem_append.mp hy with v | v
              · exact (hR6 y v).same (s67.trans s8)
              · exact (hN7 y v).1.same s8
            · rw [List.length_append, hRl, hNl, Nat.succ_mul]
        · rintro σ H6 ⟨q5, R, y10, rfl, s6, nq5, hq6, hR6, hRl⟩
          refine ⟨_, rfl, q H6 q5 R (s5.trans s6) nq5 hq6 hR6 ?_⟩
          rw [hRl, r0l]
          exact Nat.le_trans (Nat.mul_le_mul f0' f1') (pow_mul hcs)
end
end FW
namespace FW
open PySem PySem.Spec PyProof.Rows L2
-- more
section
variable {P : Program} {w : World} {K : PySem.W.Frag} {mg : Str → Option Value} {base : Heap}
abbrev s__law_field : Stmt := topS 51
theorem sc__law_field : FnScope ["_law_e"] ["_law_e"] (defScope s__law_field) := ⟨rfl, rfl, rfl, by decide +kernel, rfl, by decide +kernel, by decide +kernel⟩
theorem inV_strs (z : Str) : ∀ ts : List Str, inV (.str z) (ts.map V.str) = decide (z ∈ ts)
  | [] => rfl
  | t :: r => by
    have ih := inV_strs z r
    unfold inV at ih ⊢
    rw [List.map_cons, List.any_cons, ih]
    by_cases h : z = t
    · subst h
      rw [show eqV (.str z) (.str z) = true from beq_self_eq_true z, Bool.true_or]
      exact (decide_eq_true List.mem_cons_self).symm
    · rw [show eqV (.str t) (.str z) = false from beq_eq_false_iff_ne.mpr (Ne.symm h), Bool.false_or]
      by_cases h2 : z ∈ r
      · rw [decide_eq_true h2, decide_eq_true (List.mem_cons_of_mem _ h2)]
      · rw [decide_eq_false h2, decide_eq_false (fun q => (List.mem_cons.mp q).elim h h2)]
theorem all_strs : ∀ ts : List Str, (ts.map V.str).all flatV = true
  | [] => rfl
  | _ :: r => all_strs r
theorem ok__law_field {f : Addr} {fd : FuncData} (F : Fun K "_law_field" "_law_field" s__law_field f fd) : FnW P w K mg base 1 f fd ["_law_e"] (sp__law_field K) := by
  refine okW F sc__law_field (fun vs H Q E h => ?_) (fun cdv A outer s H vs Q p hr h => ?_)
  · obtain ⟨a, z, v, rfl, _⟩ := h
    rfl
  · obtain ⟨a, z, v, rfl, hc, q⟩ := h
    refine ⟨_, (pss_cons (ps_if (pt_cmpR op_in_seq (pe_xk (pv 0)) (pe_lst (pa_cons pe_str (pa_cons pe_str (pa_cons pe_str (pa_cons pe_str (pa_cons pe_str (pa_cons pe_str pa_nil))))))) (by rfl)) (pss_one (ps_ret (pe_xk (pv 0)))) pss_nil)
      (pss_cons (ps_if (pt_cmpR op_in_seq (pe_xk (pv 0)) (pe_lst (pa_cons pe_str (pa_cons pe_str pa_nil))) (by rfl)) (pss_one (ps_ret (pe_xk (pv 0)))) pss_nil)
      (pss_cons (ps_if (pt_cmpR op_in_seq (pe_xk (pv 0)) (pe_lst (pa_cons pe_str (pa_cons pe_str pa_nil))) (by rfl)) (pss_one (ps_ret (pe_xk (pv 0)))) pss_nil)
      (pss_cons (ps_if (pt_cmpR op_eq (pe_xk (pv 0)) pe_str (nomark _)) (pss_one (ps_ret (pe_xk (pv 0)))) pss_nil)
      (pss_one (ps_ret (pe_ifExp (pt_cmpR op_in_seq (pe_xk (pv 0)) (pe_lst (pa_cons pe_str (pa_cons pe_str (pa_cons pe_str (pa_cons pe_str pa_nil))))) (by rfl)) pe_non (pe_xk (pv 0))))))))), ?_⟩
    obtain ⟨C, dd, fs, h1, h2, h3, h4, h5, h6⟩ := hc
    unfold FieldIs at h6
    refine ⟨_, rfl, a, C, dd, fs, _, rfl, h1, h2, h3, h4, h5, ?_⟩
    refine ⟨(show 6 ≤ sizeLine by decide), fun p1 n1 => ?_⟩
    refine ⟨p1, (["InvalidLine", "InvalidStep", "InvalidTable", "InvalidBad", "InvalidPlan", "UnknownRoom"] : List Str).map V.str, rfl, .inl (SqL.of upd_same), rfl, all_strs _, _, rfl, ?_⟩
    have s1 : Same H _ := same_upd (o := HO.lst ((["InvalidLine", "InvalidStep", "InvalidTable", "InvalidBad", "InvalidPlan", "UnknownRoom"] : List Str).map V.str)) n1
    rw [if_neg Bool.false_ne_true, inV_strs]
    by_cases b1 : z ∈ (["InvalidLine", "InvalidStep", "InvalidTable", "InvalidBad", "InvalidPlan", "UnknownRoom"] : List Str)
    · rw [decide_eq_true b1]
      rw [if_pos b1] at h6
      exact iteT ⟨_, rfl, a, C, dd, fs, _, rfl, s1 _ _ h1, s1 _ _ h2, h3, h6.1, h6.2, q _ s1⟩
    rw [decide_eq_false b1]
    rw [if_neg b1] at h6
    refine iteF ?_
    refine ⟨_, rfl, a, C, dd, fs, _, rfl, s1 _ _ h1, s1 _ _ h2, h3, h4, h5, ?_⟩
    refine ⟨(show 2 ≤ sizeLine by decide), fun p2 n2 => ?_⟩
    refine ⟨p2, (["TooMany", "Full"] : List Str).map V.str, rfl, .inl (SqL.of upd_same), rfl, all_strs _, _, rfl, ?_⟩
    have s2 := s1.trans (same_upd (o := HO.lst ((["TooMany", "Full"] : List Str).map V.str)) n2)
    rw [if_neg Bool.false_ne_true, inV_strs]
    by_cases b2 : z ∈ (["TooMany", "Full"] : List Str)
    · rw [decide_eq_true b2]
      rw [if_pos b2] at h6
      exact iteT ⟨_, rfl, a, C, dd, fs, _, rfl, s2 _ _ h1, s2 _ _ h2, h3, h6.1, h6.2, q _ s2⟩
    rw [decide_eq_false b2]
    rw [if_neg b2] at h6
    refine iteF ?_
    refine ⟨_, rfl, a, C, dd, fs, _, rfl, s2 _ _ h1, s2 _ _ h2, h3, h4, h5, ?_⟩
    refine ⟨(show 2 ≤ sizeLine by decide), fun p3 n3 => ?_⟩
    refine ⟨p3, (["InvalidText", "InvalidPage"] : List Str).map V.str, rfl, .inl (SqL.of upd_same), rfl, all_strs _, _, rfl, ?_⟩
    have s3 := s2.trans (same_upd (o := HO.lst ((["InvalidText", "InvalidPage"] : List Str).map V.str)) n3)
    rw [if_neg Bool.false_ne_true, inV_strs]
    by_cases b3 : z ∈ (["InvalidText", "InvalidPage"] : List Str)
    · rw [decide_eq_true b3]
      rw [if_pos b3] at h6
      exact iteT ⟨_, rfl, a, C, dd, fs, _, rfl, s3 _ _ h1, s3 _ _ h2, h3, h6.1, h6.2, q _ s3⟩
    rw [decide_eq_false b3]
    rw [if_neg b3] at h6
    refine iteF ?_
    refine ⟨_, rfl, a, C, dd, fs, _, rfl, s3 _ _ h1, s3 _ _ h2, h3, h4, h5, rfl, _, rfl, ?_⟩
    by_cases b4 : z = "UnknownState"
    · rw [show decide (V.str z = V.str "UnknownState") = true from decide_eq_true (congrArg V.str b4)]
      rw [if_pos b4] at h6
      exact iteT ⟨_, rfl, a, C, dd, fs, _, rfl, s3 _ _ h1, s3 _ _ h2, h3, h6.1, h6.2, q _ s3⟩
    rw [show decide (V.str z = V.str "UnknownState") = false from decide_eq_false fun e => b4 (V.str.inj e)]
    rw [if_neg b4] at h6
    refine iteF ?_
    refine ⟨_, rfl, a, C, dd, fs, _, rfl, s3 _ _ h1, s3 _ _ h2, h3, h4, h5, ?_⟩
    refine ⟨(show 4 ≤ sizeLine by decide), fun p4 n4 => ?_⟩
    refine ⟨p4, (["InvalidPaper", "OtherFaces", "OtherCutters", "NothingLeft"] : List Str).map V.str, rfl, .inl (SqL.of upd_same), rfl, all_strs _, _, rfl, ?_⟩
    have s4 := s3.trans (same_upd (o := HO.lst ((["InvalidPaper", "OtherFaces", "OtherCutters", "NothingLeft"] : List Str).map V.str)) n4)
    rw [if_neg Bool.false_ne_true, inV_strs]
    by_cases b5 : z ∈ (["InvalidPaper", "OtherFaces", "OtherCutters", "NothingLeft"] : List Str)
    · rw [decide_eq_true b5]
      rw [if_pos b5] at h6
      subst h6
      exact iteT (q _ s4)
    rw [decide_eq_false b5]
    rw [if_neg b5] at h6
    exact iteF ⟨_, rfl, a, C, dd, fs, _, rfl, s4 _ _ h1, s4 _ _ h2, h3, h6.1, h6.2, q _ s4⟩
abbrev s__law_try : Stmt := topS 52
theorem sc__law_try : FnScope ["_law_ask", "_law_e"] ["_law_ask"] (defScope s__law_try) := ⟨rfl, rfl, rfl, by decide +kernel, rfl, by decide +kernel, by decide +kernel⟩
theorem gives__law_try {X : Cx} {g fF C1 C2 C3 : Addr} {fdF : FuncData} {cdg : Value} {q : Str} {k : Nat} (F : FnW X.prog X.w X.K X.mg X.base 1 fF fdF ["_law_e"] (sp__law_field X.K)) (mF : X.mg "_law_field" = some (.ref fF)) (kF : PySem.W.keepIn X.K (.ref fF) = true) (bF : Binds X.K fdF ["_law_e"] [])
    (g1 : X.mg "HouseError" = some (.ref C1)) (g2 : X.mg "Missing" = some (.ref C2)) (g3 : X.mg "NothingLeft" = some (.ref C3)) (hr : Room (k + 3) X.A) :
    LamX.GivesTo X ["_law_ask", "_law_e"] "_law_try" (defScope s__law_try) g cdg (defBody s__law_try) "_law_ask" q (TTry X.K [.ref C1, .ref C2, .ref C3]) := by
  intro f c' s H Q tl act hc h
  have hrm : ∀ (a : Addr) (env : Env), L2H.RoomH 1 ((X.A.deeper env).mark (some (.ref a))) := fun a env => ⟨by
    have z := hr.dp
    show X.A.depth + 1 + 3 * 1 + 5 < _
    omega, by
    have z := hr.un
    show X.A.units + 3 + 16 * 1 + 200 < _
    omega⟩
  refine ⟨_, pss_one (ps_try3 (X := (cxOf C8.CX0 X.prog X.w X.K X.mg X.base ["_law_ask", "_law_e"] "_law_try" (defScope s__law_try) g cdg X.A X.stack s H C8.E0).nox) (C1 := C1) (C2 := C2) (C3 := C3) (i := 1)
      (ts := tRet (tTup (tCons (tXk X.K "code" (tVar 1)) (tCons (fun σ H Q => tCons (tVar 1) tNil σ H fun vs H1 => sp__law_field X.K vs H1 Q E0) tNil))))
      (tb := fun W D σ H => ∃ Ech : XK, (∀ cls d σ' H', Ech cls d H' → W cls d σ' H') ∧ σ[0]? = some (some (.ref f)) ∧ H c' = some (LamX.CodeO c' q) ∧ tl Ech H fun v H1 => [V.str "", v].length ≤ sizeLine ∧ ∀ p, H1 p = none → D.rt (.ref p) (upd H1 p (.tup [.str "", v])))
      rfl rfl rfl sc__law_try.nd rfl rfl (by rfl) g1 (by rfl) g2 (by rfl) g3 (fun W pn xe tk _ => ?body) (fun a pn => ?suite)), ?read⟩
  case suite => exact pss_one (ps_ret (pe_tup (pa_cons (pe_xk (pv 1)) (pa_cons (pe_callW F (hrm a _) (by rfl) mF kF bF (pa_cons (pv 1) pa_nil)) pa_nil))))
  case body =>
    refine ⟨fun pins s' σ H' D I h' => ?_⟩
    obtain ⟨Ech, hW, h1, h2, h3⟩ := h'
    have hp := fun p1 p2 => act W pn xe Ech p1 p2 tk hW
    refine (pss_one (ps_ret (pe_tup (pa_cons pe_str (pa_cons (hp _ _) pa_nil))))).run pins s' σ H' D I ⟨h1, h2, h3⟩
  case read =>
    refine ⟨_, fun cls d σ' H' h' => ?_, rfl, hc, h⟩
    obtain ⟨he, ha⟩ := h'
    refine ⟨he, fun a na hl => ?_⟩
    obtain ⟨z, v, hcg, hq⟩ := ha a na
    have hlt : 1 < σ'.length := by
      rw [hl]
      exact (by decide : 1 < 2)
    have e1 : (σ'.set 1 (some (V.ref a)))[1]? = some (some (.ref a)) := List.getElem?_set_self hlt
    have hcg2 := hcg
    obtain ⟨C, dd, fs, h1, h2, h3, h4, h5, h6⟩ := hcg2
    refine ⟨_, e1, a, C, dd, fs, _, rfl, h1, h2, h3, h4, h5, _, e1, a, z, v, rfl, hcg, fun H2 sm => ?_⟩
    exact ⟨(show 2 ≤ sizeLine by decide), fun p np => hq H2 sm p np⟩
abbrev s__law_tries : Stmt := topS 53
theorem sc__law_tries : FnScope ["_law_asks", "_law_ask"] ["_law_asks"] (defScope s__law_tries) := ⟨rfl, rfl, rfl, by decide +kernel, rfl, by decide +kernel, by decide +kernel⟩
theorem ok__law_tries {b0 : Heap} {k : Nat} {f g fF C1 C2 C3 : Addr} {fd fdg fdF : FuncData} (F : Fun K "_law_tries" "_law_tries" s__law_tries f fd) (m : Mod K mg b0) (sub : ∀ b o, b0.get? b = some o → base.get? b = some o) (sz : b0.objs.size ≤ base.objs.size)
    (G : Fun K "_law_try" "_law_try" s__law_try g fdg) (mG : mg "_law_try" = some (.ref g)) (bG : Binds K fdg ["_law_ask"] [])
    (FF : FnW P w K mg base 1 fF fdF ["_law_e"] (sp__law_field K)) (mF : mg "_law_field" = some (.ref fF)) (kF : PySem.W.keepIn K (.ref fF) = true) (bF : Binds K fdF ["_law_e"] [])
    (g1 : mg "HouseError" = some (.ref C1)) (g2 : mg "Missing" = some (.ref C2)) (g3 : mg "NothingLeft" = some (.ref C3)) :
    FnOk P w K mg base CX0 (k + 4) f fd ["_law_asks"] (sp_tries P w K mg b0 base k [.ref C1, .ref C2, .ref C3]) := by
  obtain ⟨oc, od, kV, doc, pm, an, cdv, ct, osl, rfl, lk, hcd⟩ := G.ex
  refine F.ok sc__law_tries (fun vs H Q E h => ?_) (fun cdv A outer s H vs Q E hr h => ?_)
  · obtain ⟨l, fs, rfl, _⟩ := h
    rfl
  obtain ⟨l, fs, rfl, hn, hl, hc⟩ := h
  refine ⟨_, pss_one (ps_ret (pe_lc (own := [("_law_ask", 1)]) (g := gName 1) (te := tItem P w K mg b0 base k [.ref C1, .ref C2, .ref C3] 1) (by rfl) sc__law_tries.nd (pi_list (pv 0)) (blkOk_by (N := ["_law_asks", "_law_ask"]) (sc := defScope s__law_tries) (by decide +kernel)) (fun _ _ _ _ _ => pg_name (i := 1) sc__law_tries.nd rfl (.inl rfl)) (fun _ _ _ _ _ => pts_nil)
    (fun s1 H1 C cl fp => pe_item (a := "_law_ask") m sub sz (by rfl) mG G.kp lk hcd bG sc__law_try rfl (.inl rfl) (fun q => gives__law_try FF mF kF bF g1 g2 g3 hr) (hr.mono (by omega)) rfl (.inl rfl)))), ?_⟩
  refine ⟨.ref l, rfl, l, rfl, ⟨_, .inl (.inl hl)⟩, fun D nD => ?_⟩
  exact chain_walk (fun x => rfl) (show 1 < 2 by decide) hn nD hl (hc D nD)
abbrev s__law_odd_room : Stmt := topS 76
theorem sc__law_odd_room : FnScope ["_law_bag", "_law_faces", "_law_gone", "_law_letter"] ["_law_bag", "_law_faces"] (defScope s__law_odd_room) := ⟨rfl, rfl, rfl, by decide +kernel, rfl, by decide +kernel, by decide +kernel⟩
/-- a value that is no room -/
structure OddR (K : PySem.W.Frag) (H : Hp) (F : List Nat) (v : V) (d : PyData) : Prop where
  kind : (isStr v = true ∧ (strOf v).cps.size ≤ 100) ∨ NS H v
  odd : bRoom v (S F) = false
  dp : Dp K H v d
  deep : ∀ n, Deep (n + 1) d
theorem OddR.same {H H' : Hp} {F : List Nat} {v : V} {d : PyData} (s : Same H H') (o : OddR K H F v d) : OddR K H' F v d := ⟨o.kind.imp id fun n => n.same s, o.odd, Dp.same s o.dp, o.deep⟩
theorem OddR.ext {H H' : Hp} {F : List Nat} {v : V} {d : PyData} (o : OddR K H F v d) (e : LamX.ExtN H H') : OddR K H' F v d := ⟨o.kind.imp id (ns_ext e), o.odd, dp_ext e o.dp, o.deep⟩
theorem OddR.askd {H : Hp} {F : List Nat} {v : V} {d : PyData} (o : OddR K H F v d) : Askd K H v := o.kind.elim (fun h => .inl ⟨h.1, Nat.le_trans h.2 (by decide)⟩) fun n => .inr n.not
theorem bRoom_odd {l F : List Nat} (h : l.length ≠ 4 ∨ ∃ c ∈ l, c ∉ F) : bRoom (.str (S l)) (S F) = false := by
  unfold bRoom
  rcases h with h | ⟨c, hc, hF⟩
  · rw [show decide ((strOf (V.str (S l))).cps.size = 4) = false from decide_eq_false h, Bool.and_false]
  · rw [show bString (.str (S l)) (S F) = false from by
      unfold bString
      rw [show ((strOf (V.str (S l))).cps.toList.all fun c => decide (c ∈ (S F).cps.toList)) = false from by
        rw [List.all_eq_false]
        exact ⟨c, hc, by simpa using hF⟩]
      rfl, Bool.false_and]
def sp__law_odd_room (K : PySem.W.Frag) : Sp := fun vs H Q _ => ∃ (b l : Addr) (F : List Nat), vs = [.ref b, .str (S F)] ∧ Bag H b l ∧ 0 < F.length ∧ F.length ≤ 6 ∧ (∀ c ∈ F, 97 ≤ c ∧ c ≤ 122) ∧ ∀ H' v d, (∀ H2, But b H' H2 → OddR K H2 F v d) → But b H H' → Bag H' b l → Q v H'
theorem ok__law_odd_room {f : Addr} {fd : FuncData} (F : Fun K "_law_odd_room" "_law_odd_room" s__law_odd_room f fd)
    (c__law_of : Cal P w K mg base CX0 2 "_law_of" s__law_of ["_law_bag", "_law_things"] (sp__law_of K)) : FnOk P w K mg base CX0 3 f fd ["_law_bag", "_law_faces"] (sp__law_odd_room K) := by
  refine F.ok sc__law_odd_room (fun vs H Q E h => ?_) (fun cdv A outer s H vs Q E hr h => ?_)
  · obtain ⟨b, l, F, rfl, _⟩ := h
    rfl
  obtain ⟨b, l, fs, rfl, B, hf0, hf6, hlow, q⟩ := h
  obtain ⟨f0, fr, rfl⟩ : ∃ f0 fr, fs = f0 :: fr := by
    cases fs with
    | nil => exact absurd hf0 (by simp)
    | cons f0 fr => exact ⟨f0, fr, rfl⟩
  refine ⟨_, (pss_cons (ps_set (i := 2) sc__law_odd_room.nd rfl (.inl rfl) (pe_ix ix_list (pe_lc (own := [("_law_letter", 3)]) (g := (gName 3)) (by rfl) sc__law_odd_room.nd (pi_str pe_str) (blkOk_by (N := ["_law_bag", "_law_faces", "_law_gone", "_law_letter"]) (sc := defScope s__law_odd_room) (by decide +kernel)) (fun _ _ _ _ _ => (pg_name (i := 3) sc__law_odd_room.nd rfl (.inl rfl))) (fun _ _ _ _ _ => (pts_one (pt_cmpR op_notIn_sign (pv 3) (pv 1) (by rfl)))) (fun _ _ _ _ _ => (pv 3))) pe_int (fun _ _ => rfl)))
      (pss_one (ps_ret (pe_c c__law_of hr (by decide) (by rfl) (pa_cons (pv 0) (pa_cons (pe_lst (pa_cons pe_str (pa_cons (pe_op op_mulS (pe_ix ix_str (pv 1) pe_int (fun _ _ => rfl)) pe_int) (pa_cons (pe_op op_mulS (pe_ix ix_str (pv 1) pe_int (fun _ _ => rfl)) pe_int) (pa_cons (pe_op op_add_str (pe_op op_mulS (pe_ix ix_str (pv 1) pe_int (fun _ _ => rfl)) pe_int) (pv 2)) (pa_cons (pe_op op_add_str (pv 2) (pe_op op_mulS (pe_ix ix_str (pv 1) pe_int (fun _ _ => rfl)) pe_int)) (pa_cons pe_non (pa_cons pe_int (pa_cons pe_bl (pa_cons (pe_lst (pa_cons (pe_op op_mulS (pe_ix ix_str (pv 1) pe_int (fun _ _ => rfl)) pe_int) pa_nil)) (pa_cons (pe_op op_repT (pe_tup (pa_cons (pe_ix ix_str (pv 1) pe_int (fun _ _ => rfl)) pa_nil)) pe_int) (pa_cons (pe_op op_add_str pe_str (pe_op op_mulS (pe_ix ix_str (pv 1) pe_int (fun _ _ => rfl)) pe_int)) (pa_cons (pe_op op_mulS pe_str pe_int) (pa_cons (pe_op op_add_str (pe_op op_mulS (pe_ix ix_str (pv 1) pe_int (fun _ _ => rfl)) pe_int) pe_str) (pa_cons (pe_op op_add_str pe_str (pe_op op_mulS (pe_ix ix_str (pv 1) pe_int (fun _ _ => rfl)) pe_int)) pa_nil))))))))))))))) pa_nil)))))), ?_⟩
  refine ⟨_, rfl, fun g ng => ?_⟩
  have gb : g ≠ b := B.ne ng
  refine lc_it walk_str (fun i H' => H' = upd H g (.lst (((lower.take i).filter fun c => !decide (c ∈ f0 :: fr)).map sgn))) rfl (fun _ _ _ _ => trivial) ?_ ?_
  · rintro i x _ _ hi rfl ⟨rfl, c, hc, rfl⟩
    have e : lower.take (i + 1) = lower.take i ++ [c] := by
      rw [List.take_add_one]
      have : lower[i]? = some c := by
        rw [show lower = ("abcdefghijklmnopqrstuvwxyz" : Str).cps.toList from rfl, Array.getElem?_toList]
        exact hc
      rw [this]
      rfl
    refine ⟨rfl, _, rfl, _, rfl, c, S (f0 :: fr), rfl, rfl, _, rfl, ?_⟩
    rw [e, List.filter_append]
    by_cases hm : c ∈ f0 :: fr
    · rw [show (!decide (c ∈ (S (f0 :: fr)).cps.toList)) = false from by rw [decide_eq_true (show c ∈ (S (f0 :: fr)).cps.toList from hm)]; rfl]
      refine iteF ?_
      rw [show ([c].filter fun c => !decide (c ∈ f0 :: fr)) = [] from by rw [List.filter_cons, decide_eq_true hm]; rfl, List.append_nil]
    · rw [show (!decide (c ∈ (S (f0 :: fr)).cps.toList)) = true from by rw [decide_eq_false (show c ∉ (S (f0 :: fr)).cps.toList from hm)]; rfl]
      refine iteT ⟨_, rfl, _, upd_same, ?_, ?_⟩
      · rw [List.length_map]
        have h1 := List.length_filter_le (fun c => !decide (c ∈ f0 :: fr)) (lower.take i)
        have h2 : (lower.take i).length ≤ lower.length := by rw [List.length_take]; exact Nat.min_le_right _ _
        rw [lower_len] at h2
        exact sz1 (by omega)
      · rw [upd_upd, show ([c].filter fun c => !decide (c ∈ f0 :: fr)) = [c] from by rw [List.filter_cons, decide_eq_false hm]; rfl, List.map_append]
        rfl
  rintro _ rfl
  rw [show lower.take ("abcdefghijklmnopqrstuvwxyz" : Str).cps.size = lower from List.take_of_length_le (by rw [lower_len]; decide +kernel)]
  have hg1 : 20 ≤ (lower.filter fun c => !decide (c ∈ f0 :: fr)).length := by
    have := gone_pos lower (f0 :: fr) lower_nd
    rw [lower_len] at this
    omega
  have hg3 : ∀ c ∈ (lower.filter fun c => !decide (c ∈ f0 :: fr)), c ∉ f0 :: fr := fun c hc => by
    have h := (List.mem_filter.mp hc).2
    intro z
    rw [decide_eq_true z] at h
    cases h
  generalize (lower.filter fun c => !decide (c ∈ f0 :: fr)) = gl at hg1 hg3
  obtain ⟨gz, gr, rfl⟩ : ∃ gz gr, gl = gz :: gr := by
    cases gl with
    | nil => exact absurd hg1 (by decide)
    | cons a r => exact ⟨a, r, rfl⟩
  have hgz := hg3 gz List.mem_cons_self
  have s1 := same_upd (o := HO.lst ((gz :: gr).map sgn)) ng
  have hg : (upd H g (.lst ((gz :: gr).map sgn))) g = some (.lst ((gz :: gr).map sgn)) := upd_same
  have B1 := B.same s1
  generalize upd H g (.lst ((gz :: gr).map sgn)) = H1 at s1 hg B1 ⊢
  refine ⟨g, _, 0, _, rfl, rfl, SqL.of hg, atI_nat (j := 0) rfl, ?_⟩
  have hsz : (S (f0 :: fr)).length ≤ sizeLine := by
    rw [S_len]
    exact sz (by omega)
  have at0 : atI (S (f0 :: fr)).cps.toList 0 = some f0 := atI_nat (j := 0) rfl
  refine ⟨_, rfl, ?_⟩
  refine ⟨_, rfl, S (f0 :: fr), 0, f0, rfl, rfl, hsz, at0, S [f0], 3, rfl, rfl, mulOk1 f0 (.inl rfl), ?_⟩
  refine ⟨_, rfl, S (f0 :: fr), 0, f0, rfl, rfl, hsz, at0, S [f0], 5, rfl, rfl, mulOk1 f0 (.inr (.inr rfl)), ?_⟩
  refine ⟨_, rfl, S (f0 :: fr), 0, f0, rfl, rfl, hsz, at0, S [f0], 3, rfl, rfl, mulOk1 f0 (.inl rfl), _, rfl, S [f0, f0, f0], S [gz], rfl, rfl, (show 3 + 1 ≤ sizeLine by decide), ?_⟩
  refine ⟨_, rfl, _, rfl, S (f0 :: fr), 0, f0, rfl, rfl, hsz, at0, S [f0], 3, rfl, rfl, mulOk1 f0 (.inl rfl), S [gz], S [f0, f0, f0], rfl, rfl, (show 1 + 3 ≤ sizeLine by decide), ?_⟩
  refine ⟨_, rfl, S (f0 :: fr), 0, f0, rfl, rfl, hsz, at0, S [f0], 4, rfl, rfl, mulOk1 f0 (.inr (.inl rfl)), (show 1 ≤ sizeLine by decide), fun p1 n1 => ?_⟩
  have s2 := same_upd (o := HO.lst [V.str (Txt.mul (S [f0]) 4)]) n1
  have h2 : (upd H1 p1 (.lst [V.str (Txt.mul (S [f0]) 4)])) p1 = some (.lst [V.str (S [f0, f0, f0, f0])]) := upd_same
  generalize upd H1 p1 (.lst [V.str (Txt.mul (S [f0]) 4)]) = H2 at s2 h2 ⊢
  refine ⟨_, rfl, S (f0 :: fr), 0, f0, rfl, rfl, hsz, at0, (show 1 ≤ sizeLine by decide), fun p2 n2 => ?_⟩
  have s3 := same_upd (o := HO.tup [V.str (S [f0])]) n2
  have h3 : (upd H2 p2 (.tup [V.str (S [f0])])) p2 = some (.tup [V.str (S [f0])]) := upd_same
  refine ⟨p2, 4, [V.str (S [f0])], rfl, rfl, SqT.of h3, List.cons_ne_nil _ _, by decide, by decide, (show 1 ≤ 1000 by decide), ?_⟩
  generalize upd H2 p2 (.tup [V.str (S [f0])]) = H3 at s3 h3 ⊢
  refine fun p3 n3 => ?_
  have s4 := same_upd (o := HO.tup [V.str (S [f0]), V.str (S [f0]), V.str (S [f0]), V.str (S [f0])]) n3
  have h4 : (upd H3 p3 (.tup [V.str (S [f0]), V.str (S [f0]), V.str (S [f0]), V.str (S [f0])])) p3 = some (.tup [V.str (S [f0]), V.str (S [f0]), V.str (S [f0]), V.str (S [f0])]) := upd_same
  rw [show (List.replicate (4 : Int).toNat [V.str (S [f0])]).flatten = [V.str (S [f0]), V.str (S [f0]), V.str (S [f0]), V.str (S [f0])] from rfl]
  generalize upd H3 p3 (.tup [V.str (S [f0]), V.str (S [f0]), V.str (S [f0]), V.str (S [f0])]) = H4 at s4 h4 ⊢
  refine ⟨_, rfl, S (f0 :: fr), 0, f0, rfl, rfl, hsz, at0, S [f0], 3, rfl, rfl, mulOk1 f0 (.inl rfl), S [124], S [f0, f0, f0], rfl, rfl, (show 1 + 3 ≤ sizeLine by decide), ?_⟩
  refine ⟨S [65], 4, rfl, rfl, mulOk1 65 (.inr (.inl rfl)), ?_⟩
  refine ⟨_, rfl, S (f0 :: fr), 0, f0, rfl, rfl, hsz, at0, S [f0], 4, rfl, rfl, mulOk1 f0 (.inr (.inl rfl)), S [f0, f0, f0, f0], S [10], rfl, rfl, (show 4 + 1 ≤ sizeLine by decide), ?_⟩
  refine ⟨_, rfl, S (f0 :: fr), 0, f0, rfl, rfl, hsz, at0, S [f0], 3, rfl, rfl, mulOk1 f0 (.inl rfl), S [10], S [f0, f0, f0], rfl, rfl, (show 1 + 3 ≤ sizeLine by decide), ?_⟩
  refine ⟨(show 14 ≤ sizeLine by decide), fun p4 n4 => ?_⟩
  have s5 := same_upd (o := HO.lst [V.str (S []), V.str (S [f0, f0, f0]), V.str (S [f0, f0, f0, f0, f0]), V.str (S [f0, f0, f0, gz]), V.str (S [gz, f0, f0, f0]), V.non, V.int 3, V.bl true, V.ref p1, V.ref p3, V.str (S [124, f0, f0, f0]), V.str (S [65, 65, 65, 65]), V.str (S [f0, f0, f0, f0, 10]), V.str (S [10, f0, f0, f0])]) n4
  have h5 : (upd H4 p4 (.lst [V.str (S []), V.str (S [f0, f0, f0]), V.str (S [f0, f0, f0, f0, f0]), V.str (S [f0, f0, f0, gz]), V.str (S [gz, f0, f0, f0]), V.non, V.int 3, V.bl true, V.ref p1, V.ref p3, V.str (S [124, f0, f0, f0]), V.str (S [65, 65, 65, 65]), V.str (S [f0, f0, f0, f0, 10]), V.str (S [10, f0, f0, f0])])) p4 = some _ := upd_same
  have s14 := ((s2.trans s3).trans s4).trans s5
  have B4 := ((B1.same s2).same s3).same s4
  have p1b : p1 ≠ b := B1.ne n1
  have p3b : p3 ≠ b := ((B1.same s2).same s3).ne n3
  show sp__law_of K [.ref b, .ref p4] (upd H4 p4 (.lst [V.str (S []), V.str (S [f0, f0, f0]), V.str (S [f0, f0, f0, f0, f0]), V.str (S [f0, f0, f0, gz]), V.str (S [gz, f0, f0, f0]), V.non, V.int 3, V.bl true, V.ref p1, V.ref p3, V.str (S [124, f0, f0, f0]), V.str (S [65, 65, 65, 65]), V.str (S [f0, f0, f0, f0, 10]), V.str (S [10, f0, f0, f0])])) Q E0
  generalize upd H4 p4 (.lst [V.str (S []), V.str (S [f0, f0, f0]), V.str (S [f0, f0, f0, f0, f0]), V.str (S [f0, f0, f0, gz]), V.str (S [gz, f0, f0, f0]), V.non, V.int 3, V.bl true, V.ref p1, V.ref p3, V.str (S [124, f0, f0, f0]), V.str (S [65, 65, 65, 65]), V.str (S [f0, f0, f0, f0, 10]), V.str (S [10, f0, f0, f0])]) = H5 at s5 h5 s14 ⊢
  refine ⟨b, l, _, _, rfl, B4.same s5, .inl ⟨p4, B4.ne n4, rfl, SqL.of h5⟩, Nat.succ_pos _, (show 14 ≤ 100000 by decide), fun H' v hv bu B' => ?_⟩
  have e1 : ∀ H2, But b H' H2 → H2 p1 = some (.lst [V.str (S [f0, f0, f0, f0])]) := fun H2 bb => bb _ _ p1b (bu _ _ p1b (((s3.trans s4).trans s5) _ _ h2))
  have e3 : ∀ H2, But b H' H2 → H2 p3 = some (.tup [V.str (S [f0]), V.str (S [f0]), V.str (S [f0]), V.str (S [f0])]) := fun H2 bb => bb _ _ p3b (bu _ _ p3b (s5 _ _ h4))
  have bu2 : But b H H' := (s1.trans s14).but.trans bu
  have nf : ∀ c : Nat, (c < 97 ∨ 122 < c) → c ∉ f0 :: fr := fun c hc hm => by
    have := hlow c hm
    omega
  have txt : ∀ z : List Nat, z.length ≤ 100 → (z.length ≠ 4 ∨ ∃ c ∈ z, c ∉ f0 :: fr) → ∀ H2, But b H' H2 → OddR K H2 (f0 :: fr) (.str (S z)) (.str (S z)) := fun z h1 h2 _ _ => ⟨.inl ⟨rfl, h1⟩, bRoom_odd h2, .str _, (fun _ => by unfold Deep; trivial)⟩
  simp only [List.mem_cons, List.not_mem_nil, or_false] at hv
  rcases hv with rfl | rfl | rfl | rfl | rfl | rfl | rfl | rfl | rfl | rfl | rfl | rfl | rfl | rfl
  · exact q _ _ _ (txt [] (by decide) (.inl (by decide))) bu2 B'
  · exact q _ _ _ (txt [f0, f0, f0] (show 3 ≤ 100 by decide) (.inl (show 3 ≠ 4 by decide))) bu2 B'
  · exact q _ _ _ (txt [f0, f0, f0, f0, f0] (show 5 ≤ 100 by decide) (.inl (show 5 ≠ 4 by decide))) bu2 B'
  · exact q _ _ _ (txt [f0, f0, f0, gz] (show 4 ≤ 100 by decide) (.inr ⟨gz, by simp, hgz⟩)) bu2 B'
  · exact q _ _ _ (txt [gz, f0, f0, f0] (show 4 ≤ 100 by decide) (.inr ⟨gz, by simp, hgz⟩)) bu2 B'
  · exact q _ _ _ (fun _ _ => ⟨.inr (.inl rfl), rfl, .non, (fun _ => by unfold Deep; trivial)⟩) bu2 B'
  · exact q _ _ _ (fun _ _ => ⟨.inr (.inr (.inl ⟨_, rfl⟩)), rfl, .int _, (fun _ => by unfold Deep; trivial)⟩) bu2 B'
  · exact q _ _ _ (fun _ _ => ⟨.inr (.inr (.inr (.inl ⟨_, rfl⟩))), rfl, .bl _, (fun _ => by unfold Deep; trivial)⟩) bu2 B'
  · exact q _ _ _ (fun H2 bb => ⟨.inr (.inr (.inr (.inr (.inl ⟨p1, _, rfl, e1 H2 bb⟩)))), rfl, .lst (ds := [.str (S [f0, f0, f0, f0])]) (SqL.of (e1 H2 bb)) (.cons (.str _) .nil), (fun _ => by unfold Deep; exact ⟨(show 1 ≤ 1000 by decide), fun d hd => by rw [List.mem_singleton.mp hd]; unfold Deep; trivial⟩)⟩) bu2 B'
  · refine q _ _ _ (fun H2 bb => ⟨.inr (.inr (.inr (.inr (.inr ⟨p3, _, rfl, e3 H2 bb⟩)))), rfl, .tup (ds := [.str (S [f0]), .str (S [f0]), .str (S [f0]), .str (S [f0])]) (SqT.of (e3 H2 bb)) (.cons (.str _) (.cons (.str _) (.cons (.str _) (.cons (.str _) .nil)))), fun _ => ?_⟩) bu2 B'
    unfold Deep
    refine ⟨(show 4 ≤ 1000 by decide), fun d hd => ?_⟩
    simp only [List.mem_cons, List.not_mem_nil, or_false] at hd
    rcases hd with rfl | rfl | rfl | rfl <;> (unfold Deep; trivial)
  · exact q _ _ _ (txt [124, f0, f0, f0] (show 4 ≤ 100 by decide) (.inr ⟨124, by simp, nf 124 (.inr (by decide))⟩)) bu2 B'
  · exact q _ _ _ (txt [65, 65, 65, 65] (show 4 ≤ 100 by decide) (.inr ⟨65, by simp, nf 65 (.inl (by decide))⟩)) bu2 B'
  · exact q _ _ _ (txt [f0, f0, f0, f0, 10] (show 5 ≤ 100 by decide) (.inl (show 5 ≠ 4 by decide))) bu2 B'
  · exact q _ _ _ (txt [10, f0, f0, f0] (show 4 ≤ 100 by decide) (.inr ⟨10, by simp, nf 10 (.inl (by decide))⟩)) bu2 B'
abbrev s__law_odd_view : Stmt := topS 77
theorem sc__law_odd_view : FnScope ["_law_bag"] ["_law_bag"] (defScope s__law_odd_view) := ⟨rfl, rfl, rfl, by decide +kernel, rfl, by decide +kernel, by decide +kernel⟩
/-- a value that is no view -/
structure OddV (K : PySem.W.Frag) (H : Hp) (v : V) (d : PyData) : Prop where
  kind : (isStr v = true ∧ (strOf v).cps.size ≤ 100) ∨ NS H v
  odd : bLetter v viewL = false
  dp : Dp K H v d
  deep : Deep 1 d
theorem OddV.same {H H' : Hp} {v : V} {d : PyData} (s : Same H H') (o : OddV K H v d) : OddV K H' v d := ⟨o.kind.imp id fun n => n.same s, o.odd, Dp.same s o.dp, o.deep⟩
theorem OddV.askd {H : Hp} {v : V} {d : PyData} (o : OddV K H v d) : Askd K H v := o.kind.elim (fun h => .inl ⟨h.1, Nat.le_trans h.2 (by decide)⟩) fun n => .inr n.not
def sp__law_odd_view (K : PySem.W.Frag) : Sp := fun vs H Q _ => ∃ (b l : Addr), vs = [.ref b] ∧ Bag H b l ∧ ∀ H' v d, OddV K H' v d → But b H H' → Bag H' b l → Q v H'
theorem ok__law_odd_view {f : Addr} {fd : FuncData} (F : Fun K "_law_odd_view" "_law_odd_view" s__law_odd_view f fd)
    (c__law_of : Cal P w K mg base CX0 2 "_law_of" s__law_of ["_law_bag", "_law_things"] (sp__law_of K)) : FnOk P w K mg base CX0 3 f fd ["_law_bag"] (sp__law_odd_view K) := by
  refine F.ok sc__law_odd_view (fun vs H Q E h => ?_) (fun cdv A outer s H vs Q E hr h => ?_)
  · obtain ⟨b, l, rfl, _⟩ := h
    rfl
  · obtain ⟨b, l, rfl, B, q⟩ := h
    refine ⟨_, (pss_one (ps_ret (pe_c c__law_of hr (by decide) (by rfl) (pa_cons (pv 0) (pa_cons (pe_lst (pa_cons pe_str (pa_cons pe_str (pa_cons pe_str (pa_cons pe_str (pa_cons pe_non (pa_cons pe_int (pa_cons pe_bl (pa_cons (pe_lst (pa_cons pe_str pa_nil)) (pa_cons (pe_tup (pa_cons pe_str pa_nil)) (pa_cons pe_str (pa_cons pe_str pa_nil)))))))))))) pa_nil))))), ?_⟩
    refine ⟨_, rfl, ?_⟩
    refine ⟨(show 1 ≤ sizeLine by decide), fun p1 n1 => ?_⟩
    refine ⟨(show 1 ≤ sizeLine by decide), fun p2 n2 => ?_⟩
    refine ⟨(show 11 ≤ sizeLine by decide), fun p3 n3 => ?_⟩
    have v3 := same_upd (o := HO.lst [V.str "", V.str "n", V.str "NE", V.str "X", V.non, V.int 0, V.bl true, V.ref p1, V.ref p2, V.str "|", V.str " "]) n3
    have v2 := (same_upd (o := HO.tup [V.str "E"]) n2).trans v3
    have v1 := (same_upd (o := HO.lst [V.str "N"]) n1).trans v2
    have C1 := B.same (same_upd (o := HO.lst [V.str "N"]) n1)
    have C2 := C1.same (same_upd (o := HO.tup [V.str "E"]) n2)
    refine ⟨b, l, _, _, rfl, C2.same v3, .inl ⟨p3, C2.ne n3, rfl, SqL.of upd_same⟩, Nat.succ_pos _, (show 11 ≤ 100000 by decide), fun H' v hv bu B' => ?_⟩
    have e1 : H' p1 = some (.lst [V.str "N"]) := bu _ _ (B.ne n1) (v2 _ _ upd_same)
    have e2 : H' p2 = some (.tup [V.str "E"]) := bu _ _ (C1.ne n2) (v3 _ _ upd_same)
    have bu2 : But b H H' := v1.but.trans bu
    have txt : ∀ z : Str, z.cps.size ≤ 100 → bLetter (.str z) viewL = false → OddV K H' (.str z) (.str z) := fun z h1 h2 => ⟨.inl ⟨rfl, h1⟩, h2, .str z, (by unfold Deep; trivial)⟩
    simp only [List.mem_cons, List.not_mem_nil, or_false] at hv
    rcases hv with rfl | rfl | rfl | rfl | rfl | rfl | rfl | rfl | rfl | rfl | rfl
    · exact q _ _ _ (txt _ (by decide) (by decide +kernel)) bu2 B'
    · exact q _ _ _ (txt _ (by decide) (by decide +kernel)) bu2 B'
    · exact q _ _ _ (txt _ (by decide) (by decide +kernel)) bu2 B'
    · exact q _ _ _ (txt _ (by decide) (by decide +kernel)) bu2 B'
    · exact q _ _ _ ⟨.inr (.inl rfl), rfl, .non, (by unfold Deep; trivial)⟩ bu2 B'
    · exact q _ _ _ ⟨.inr (.inr (.inl ⟨_, rfl⟩)), rfl, .int _, (by unfold Deep; trivial)⟩ bu2 B'
    · exact q _ _ _ ⟨.inr (.inr (.inr (.inl ⟨_, rfl⟩))), rfl, .bl _, (by unfold Deep; trivial)⟩ bu2 B'
    · exact q _ _ _ ⟨.inr (.inr (.inr (.inr (.inl ⟨p1, _, rfl, e1⟩)))), rfl, .lst (ds := [.str "N"]) (SqL.of e1) (.cons (.str _) .nil), (by unfold Deep; exact ⟨(show 1 ≤ 1000 by decide), fun d hd => by rw [List.mem_singleton.mp hd]; unfold Deep; trivial⟩)⟩ bu2 B'
    · exact q _ _ _ ⟨.inr (.inr (.inr (.inr (.inr ⟨p2, _, rfl, e2⟩)))), rfl, .tup (ds := [.str "E"]) (SqT.of e2) (.cons (.str _) .nil), (by unfold Deep; exact ⟨(show 1 ≤ 1000 by decide), fun d hd => by rw [List.mem_singleton.mp hd]; unfold Deep; trivial⟩)⟩ bu2 B'
    · exact q _ _ _ (txt _ (by decide) (by decide +kernel)) bu2 B'
    · exact q _ _ _ (txt _ (by decide) (by decide +kernel)) bu2 B'
theorem lineAt_w (ls : List LineV) (room : List Nat) (c : Nat) : lineAt ls room c = lineAt ((ls.map (·.2)).map fun w => ((0 : Addr), w)) room c := by
  unfold lineAt
  rw [List.map_map, List.findIdx?_map]
  rfl
theorem cutL_w (ls : List LineV) : cutL ls = cutL ((ls.map (·.2)).map fun w => ((0 : Addr), w)) := by
  funext room c
  unfold cutL
  rw [← lineAt_w]
  cases lineAt ls room c with
  | none => rfl
  | some i =>
    dsimp only
    rw [List.getElem?_map, List.getElem?_map]
    cases ls[i]? <;> rfl
theorem cutL_eq {ls ls' : List LineV} (e : ls'.map (·.2) = ls.map (·.2)) : cutL ls' = cutL ls := by
  rw [cutL_w ls', cutL_w ls, e]
theorem map_dl {ls ls' : List LineV} (e : ls'.map (·.2) = ls.map (·.2)) : (ls'.map fun r => dLine r.2) = ls.map fun r => dLine r.2 := by
  have := congrArg (List.map dLine) e
  rwa [List.map_map, List.map_map] at this
theorem BookAt.butL {CB : Addr} {H H' : Hp} {x q : Addr} {F C : List Nat} {ls : List LineV} {ws : List V} (b : BookAt K CB H x F C ls) (e : H q = some (.lst ws)) (s : But q H H') : BookAt K CB H' x F C ls := by
  obtain ⟨dx, tl, h1, h2⟩ := b.at_
  exact ⟨⟨dx, tl, s _ _ (fun z => by rw [z, e] at h1; cases h1) h1, s _ _ (fun z => by rw [z, e] at h2; cases h2) h2⟩, ⟨fun r hr => s _ _ (fun z => by have h := b.lines.at_ r hr; rw [z, e] at h; cases h) (b.lines.at_ r hr), b.lines.ok, b.lines.few⟩, b.lens, b.chr⟩
theorem SpecAt.butL {H H' : Hp} {b p lp q : Addr} {F C : List Nat} {ls : List LineV} {ws : List V} (k : SpecAt H b p lp F C ls) (e : H q = some (.lst ws)) (hp : p ≠ q) (hl : lp ≠ q) (s : But q H H') : SpecAt H' b p lp F C ls :=
  ⟨s _ _ hp k.top, s _ _ hl k.rows, fun r hr => s _ _ (fun z => by have h := k.at_ r hr; rw [z, e] at h; cases h) (k.at_ r hr), k.pb, k.lb, k.rb⟩
theorem BookAt.ext {CB : Addr} {H H' : Hp} {x : Addr} {F C : List Nat} {ls : List LineV} (k : BookAt K CB H x F C ls) (e : LamX.ExtN H H') : BookAt K CB H' x F C ls := by
  obtain ⟨dx, tl, h1, h2⟩ := k.at_
  exact ⟨⟨dx, tl, e _ _ h1 (fun _ z => by cases z), e _ _ h2 (fun _ z => by cases z)⟩, ⟨fun r hr => e _ _ (k.lines.at_ r hr) (fun _ z => by cases z), k.lines.ok, k.lines.few⟩, k.lens, k.chr⟩
theorem SpecAt.ext {H H' : Hp} {b p lp : Addr} {F C : List Nat} {ls : List LineV} (s : SpecAt H b p lp F C ls) (e : LamX.ExtN H H') : SpecAt H' b p lp F C ls :=
  ⟨e _ _ s.top (fun _ z => by cases z), e _ _ s.rows (fun _ z => by cases z), fun r hr => e _ _ (s.at_ r hr) (fun _ z => by cases z), s.pb, s.lb, s.rb⟩
theorem upper_nd : upper.Nodup := by decide +kernel
end
end FW
namespace FW
open PySem PySem.Spec PyProof.Rows L2
-- more
section
variable {P : Program} {w : World} {K : PySem.W.Frag} {mg : Str → Option Value} {base : Heap}
abbrev s_law : Stmt := topS 78
theorem sc_law : FnScope ["_law_script", "_law_bag", "_law_spec", "_law_book_z", "_law_start_z", "_law_tree", "_law_view_z", "_law_due", "_law_told", "_law_row", "_law_odd", "_law_cold", "_law_asks", "_law_address"] ["_law_script"] (defScope s_law) := ⟨rfl, rfl, rfl, by decide +kernel, rfl, by decide +kernel, by decide +kernel⟩
abbrev lm (s : Stmt) (j : Nat) : Arguments × Expr × Scope := lamParts ((listOf s).getD j (.Constant .none 0 ⟨0, 0, 0, 0⟩))
abbrev XL (P : Program) (w : World) (K : PySem.W.Frag) (mg : Str → Option Value) (base : Heap) (f c : Addr) (A : Around) (outer : List Env) (s : Shared) (H : Hp) (E : XK) : Cx :=
  (cxOf CX0 P w K mg base ["_law_script", "_law_bag", "_law_spec", "_law_book_z", "_law_start_z", "_law_tree", "_law_view_z", "_law_due", "_law_told", "_law_row", "_law_odd", "_law_cold", "_law_asks", "_law_address"] "law" (defScope s_law) f (.ref c) A outer s H E).nox
def sp_law (K : PySem.W.Frag) (Pt : Addr) : Sp := fun vs H Q _ => ∃ (a : Addr) (ns : List Int), vs = [.ref a] ∧ SqL K H a (ns.map V.int) ∧ ns.length ≤ 63 ∧ H Pt = some (.tbl #[]) ∧ ∀ H', Q (.bl true) H'
theorem kb_members_0_view_start_book : KB K "members" s_members ["book", "start", "view"] ["view", "start", "book"] rev3 rev3 := kb_rev3 fun _ _ _ _ _ _ _ _ _ => rfl
theorem ErrF.caught {K : PySem.W.Frag} {mg : Str → Option Value} {C : Addr} {f z : String} {cs : List Value} {H1 : Hp} {v : V} {d a : Addr} (T : ErrF K mg C f z cs) (nd : H1 d = none) (na : (upd H1 d (Err1 f z v)) a = none) : Caught K (upd (upd H1 d (Err1 f z v)) a (ExK (.ref C) (some d) a)) a (Str.ofString z) v := by
  obtain ⟨fI, k⟩ := T.kls
  have hne : d ≠ a := fun e => by
    rw [← e, upd_same] at na
    cases na
  exact ⟨C, d, _, upd_same, (upd_ne hne).trans upd_same, k.xf, k.ncode, rfl, T.fi v⟩
theorem OddV.ext {K : PySem.W.Frag} {H H' : Hp} {v : V} {d : PyData} (o : OddV K H v d) (e : LamX.ExtN H H') : OddV K H' v d := ⟨o.kind.imp id (ns_ext e), o.odd, dp_ext e o.dp, o.deep⟩
theorem view_codes : ∀ c ∈ viewL, S [c] ∈ viewsT := by decide +kernel
theorem view_right : ∀ z ∈ viewsT, bLetter (.str z) viewL = true := by decide +kernel
theorem view_len : ∀ z ∈ viewsT, (z : Str).length ≤ 100 := by decide +kernel
theorem step_keeps {cut : Rm → Nat → Rm} {t : Tr} {s : List Nat × Nat} {x : AR} (h : x ∈ t.rooms) : x ∈ (t.step cut s).rooms := by
  unfold Tr.step
  split
  · exact h
  · split
    · exact List.mem_append_left _ h
    · exact h
theorem run_keeps {cut : Rm → Nat → Rm} {x : AR} : ∀ {ss : List Stp} {t : Tr}, x ∈ t.rooms → x ∈ (Tr.run cut t ss).rooms
  | [], _, h => h
  | _ :: ss, _, h => run_keeps (ss := ss) (step_keeps h)
theorem ok_law {f c Pt fT C1 C2 C3 C CV CB : Addr} {oc kV doc pm ct : Value} {od an : Option Addr} {osl : Array (Option Value)} {fdT : FuncData}  (T : Z mg)
    (lk : K.lookup f = some ⟨oc, od, .func (PySem.W.fnOf "law" "law" (defArgs s_law) (defBody s_law) (defScope s_law) .none kV doc pm an (.ref c) ct), osl⟩) (hcd : PySem.W.codeIn K (.ref c) "law" = true) (TB : LamX.TabB base mg c Pt)
    (BC : BookC K CB) (TI : ErrF K mg C "given" "InvalidRoom" [.ref C1, .ref C2, .ref C3]) (TV : ErrF K mg CV "given" "InvalidView" [.ref C1, .ref C2, .ref C3])
    (c__law_rows : Cal P w K mg base CX0 12 "_law_rows" s__law_rows ["_law_spec", "_law_tree", "_law_view_z", "_law_address"] (sp__law_rows K 8))
    (mT : mg "_law_tries" = some (.ref fT)) (kT : PySem.W.keepIn K (.ref fT) = true) (bT : L2.Binds K fdT ["_law_asks"] [])
    (FT : ∀ b2 : Heap, Mod K mg base → (∀ b o, base.get? b = some o → b2.get? b = some o) → base.objs.size ≤ b2.objs.size → FnOk P w K mg b2 CX0 14 fT fdT ["_law_asks"] (sp_tries P w K mg base b2 10 [.ref C1, .ref C2, .ref C3]))
    (c__law_same : Cal P w K mg base CX0 5 "_law_same" s__law_same ["_law_found", "_law_due"] (sp__law_same K 3))
    (cx_members : Cal P w K mg base (L2.CX P w) 7 "members" s_members ["book", "start", "view"] (sp_members K CB C CV))
    (c__law_odd_view : Cal P w K mg base CX0 3 "_law_odd_view" s__law_odd_view ["_law_bag"] (sp__law_odd_view K))
    (c__law_odd_room : Cal P w K mg base CX0 3 "_law_odd_room" s__law_odd_room ["_law_bag", "_law_faces"] (sp__law_odd_room K))
    (c__law_members : Cal P w K mg base CX0 5 "_law_members" s__law_members ["_law_spec", "_law_start_z", "_law_view_z"] (sp__law_members K))
    (c__law_some_history : Cal P w K mg base CX0 5 "_law_some_history" s__law_some_history ["_law_bag", "_law_spec", "_law_start_z", "_law_many"] (sp__law_some_history K))
    (c__law_some_room : Cal P w K mg base CX0 3 "_law_some_room" s__law_some_room ["_law_bag", "_law_faces"] (sp__law_some_room K))
    (c__law_book : Cal P w K mg base CX0 9 "_law_book" s__law_book ["_law_spec"] (sp__law_book K CB))
    (c__law_some_book : Cal P w K mg base CX0 5 "_law_some_book" s__law_some_book ["_law_bag", "_law_sizes"] (sp__law_some_book K))
    (c__law_open : Cal P w K mg base CX0 1 "_law_open" s__law_open ["_law_script"] (sp__law_open K)) : FnOk P w K mg base CX0 18 f (PySem.W.fnOf "law" "law" (defArgs s_law) (defBody s_law) (defScope s_law) .none kV doc pm an (.ref c) ct) ["_law_script"] (sp_law K Pt) := by
  refine fn_of lk hcd sc_law (fun vs H Q E h => ?_) (fun A outer s H vs Q E hr h => ?_)
  · obtain ⟨a, ns, rfl, _⟩ := h
    rfl
  obtain ⟨a, ns, rfl, hS, hlen, hP, q⟩ := h
  refine ⟨_, PSs.nox (pss_cons (ps_set (i := 1) sc_law.nd rfl (.inl rfl) (pe_c c__law_open hr (by decide) (by rfl) (pa_cons (pv 0) pa_nil)))
      (pss_cons (ps_set (i := 2) sc_law.nd rfl (.inl rfl) (pe_c c__law_some_book hr (by decide) (by rfl) (pa_cons (pv 1) (pa_cons (pe_lst (pa_cons pe_int (pa_cons pe_int (pa_cons pe_int pa_nil)))) pa_nil))))
      (pss_cons (ps_asg (pe_tup (pa_cons (pe_c c__law_book hr (by decide) (by rfl) (pa_cons (pv 2) pa_nil)) (pa_cons (pe_c c__law_some_room hr (by decide) (by rfl) (pa_cons (pv 1) (pa_cons (pe_ix ix_list (pv 2) pe_int (fun _ _ => rfl)) pa_nil))) pa_nil))) (pg_tup rfl (pgs_cons (pg_name (i := 3) sc_law.nd rfl (.inr rfl)) (pgs_cons (pg_name (i := 4) sc_law.nd rfl (.inr rfl)) pgs_nil))))
      (pss_cons (ps_set (i := 5) sc_law.nd rfl (.inr rfl) (pe_c c__law_some_history hr (by decide) (by rfl) (pa_cons (pv 1) (pa_cons (pv 2) (pa_cons (pv 4) (pa_cons pe_int pa_nil))))))
      (pss_cons (ps_for PassesOwn.never rfl (pi_str pe_str) (pg_name (i := 6) sc_law.nd rfl (.inl rfl))
        (pss_cons (ps_set (i := 7) sc_law.nd rfl (.inr rfl) (pe_callB cr_sortedSA (by rfl) T.z_sorted (by decide +kernel) (pa_cons (pe_c c__law_members hr (by decide) (by rfl) (pa_cons (pv 2) (pa_cons (pv 4) (pa_cons (pv 6) pa_nil)))) pa_nil)))
      (pss_cons (ps_set (i := 8) sc_law.nd rfl (.inl rfl) (pe_cE cx_members hr (by decide) (by rfl) (pa_cons (pv 3) (pa_cons (pv 4) (pa_cons (pv 6) pa_nil)))))
      (pss_cons (ps_if (pt_not (pt_val (pe_c c__law_same hr (by decide) (by rfl) (pa_cons (pv 8) (pa_cons (pv 7) pa_nil))))) (pss_one (ps_ret pe_bl)) pss_nil)
      (pss_cons (ps_expr (pe_bm PySem.F.plainAttrs_list PySem.F.slot_list_append PySem.F.type_list_append mt_append (pv 8) (pa_cons pe_str pa_nil)))
      (pss_cons (ps_if (pt_not (pt_val (pe_c c__law_same hr (by decide) (by rfl) (pa_cons (pe_ck0E cx_members (kb_members_0_view_start_book) hr (by decide) (by rfl) (pk_cons (pv 6) (pk_cons (pv 4) (pk_cons (pv 3) pk_nil)))) (pa_cons (pv 7) pa_nil))))) (pss_one (ps_ret pe_bl)) pss_nil)
      (pss_one (ps_for PassesOwn.never rfl (pi_list (pe_c c__law_rows hr (by decide) (by rfl) (pa_cons (pv 2) (pa_cons (pv 5) (pa_cons (pv 6) (pa_cons pe_str pa_nil)))))) (pg_name (i := 9) sc_law.nd rfl (.inl rfl))
        (pss_one (ps_if (pt_not (pt_val (pe_callB (cr_all rfl) (by rfl) T.z_all (by decide +kernel) (pa_cons (pe_lc (own := [("_law_address", 13)]) (g := (gName 13)) (by rfl) sc_law.nd (pi_list (pv 9)) (blkOk_by (N := ["_law_script", "_law_bag", "_law_spec", "_law_book_z", "_law_start_z", "_law_tree", "_law_view_z", "_law_due", "_law_told", "_law_row", "_law_odd", "_law_cold", "_law_asks", "_law_address"]) (sc := defScope s_law) (by decide +kernel)) (fun _ _ _ _ _ => (pg_name (i := 13) sc_law.nd rfl (.inl rfl))) (fun _ _ _ _ _ => pts_nil) (fun _ _ _ _ _ => (pe_cmpR (op_inE (K := K) rfl) (pe_dget (hu_of hr) (pe_ix (ix_listE (K := K) rfl) (pv 5) pe_int (fun _ _ => rfl)) (pv 13) (fun _ _ => rfl)) (pv 7) (by rfl)))) pa_nil)))) (pss_one (ps_ret pe_bl)) pss_nil))))))))))
      (pss_cons (ps_asg (pe_tup (pa_cons (pe_c c__law_odd_room hr (by decide) (by rfl) (pa_cons (pv 1) (pa_cons (pe_ix ix_list (pv 2) pe_int (fun _ _ => rfl)) pa_nil))) (pa_cons (pe_c c__law_odd_view hr (by decide) (by rfl) (pa_cons (pv 1) pa_nil)) pa_nil))) (pg_tup rfl (pgs_cons (pg_name (i := 10) sc_law.nd rfl (.inr rfl)) (pgs_cons (pg_name (i := 11) sc_law.nd rfl (.inr rfl)) pgs_nil))))
      (pss_cons (ps_set (i := 12) sc_law.nd rfl (.inl rfl) (pe_lst (pa_cons (pe_lam0 (T := [(Pt, (envOfC "law" (defScope s_law) 0 f (.ref c)).qual ++ "<lambda>")]) TB rfl (List.mem_singleton.mpr rfl) (fun p hp _ => congrArg Prod.snd (List.mem_singleton.mp hp)) (by rfl) (show lamFree (defScope s_law) _ = true by decide +kernel)) (pa_cons (pe_lam1 (T := [(Pt, (envOfC "law" (defScope s_law) 0 f (.ref c)).qual ++ "<lambda>")]) TB rfl (List.mem_singleton.mpr rfl) (fun p hp _ => congrArg Prod.snd (List.mem_singleton.mp hp)) rfl rfl (show lamFree (defScope s_law) _ = true by decide +kernel)) pa_nil))))
      (pss_one (ps_ret (pe_c c__law_same hr (by decide) (by rfl) (pa_cons (pe_tries (cs := [.ref C1, .ref C2, .ref C3]) (k := 10) (kk := 14)
        [ask0 (X := XL P w K mg base f c A outer s H E) (k := 9) (lm ((defBody s_law).getD 6 (.Pass ⟨0, 0, 0, 0⟩)) 0).1 (lm ((defBody s_law).getD 6 (.Pass ⟨0, 0, 0, 0⟩)) 0).2.1 (lm ((defBody s_law).getD 6 (.Pass ⟨0, 0, 0, 0⟩)) 0).2.2 ["_law_book_z", "_law_odd", "_law_cold"] ["_law_book_z", "_law_odd", "_law_cold"] [3, 10, 11] (by decide +kernel) (show NdefX.ndefB (defScope s_law) (lm ((defBody s_law).getD 6 (.Pass ⟨0, 0, 0, 0⟩)) 0).2.2 _ = true by decide +kernel) rfl (fun _ _ _ _ _ _ => by rfl)
            (fun c' dV A outer s H E f hr => (pe_cx (E := E) cx_members hr (by decide) (by rfl) (passes_call (takes_of rfl rfl rfl rfl) (fun _ _ _ _ h => h)) (pa_cons (pv 0) (pa_cons (pv 1) (pa_cons (pv 2) pa_nil))))),
          ask1 (X := XL P w K mg base f c A outer s H E) (k := 9) (lm ((defBody s_law).getD 6 (.Pass ⟨0, 0, 0, 0⟩)) 1).1 (lm ((defBody s_law).getD 6 (.Pass ⟨0, 0, 0, 0⟩)) 1).2.1 (lm ((defBody s_law).getD 6 (.Pass ⟨0, 0, 0, 0⟩)) 1).2.2 "_law_one" 0 ["_law_one", "_law_book_z", "_law_start_z", "_law_cold"] ["_law_book_z", "_law_start_z", "_law_cold"] [3, 4, 11] (by decide +kernel) (show NdefX.ndefB (defScope s_law) (lm ((defBody s_law).getD 6 (.Pass ⟨0, 0, 0, 0⟩)) 1).2.2 _ = true by decide +kernel) rfl (fun _ _ _ _ _ _ _ => ⟨_, rfl, fun _ => rfl⟩)
            (fun c' dV A outer s H E f hr => (pe_cx (E := E) cx_members hr (by decide) (by rfl) (passes_call (takes_of rfl rfl rfl rfl) (fun _ _ _ _ h => h)) (pa_cons (pv 1) (pa_cons (pv 2) (pa_cons (pv 3) pa_nil)))))]
        (show 2 < sizeLine by decide) (fun _ => rfl) rfl rfl FT (hr.mono (by decide)) (by rfl) mT kT bT (pa_cons (pv 12) pa_nil)) (pa_cons (pe_lst (pa_cons (pe_tup (pa_cons pe_str (pa_cons (pv 10) pa_nil))) (pa_cons (pe_tup (pa_cons pe_str (pa_cons (pv 11) pa_nil))) pa_nil))) pa_nil)))))))))))), ?_⟩
  refine ⟨_, rfl, a, ns, rfl, hS, hlen, fun H1 b l nb nl s1 B1 => ?_⟩
  have hPb : Pt ≠ b := ne_of_none hP nb
  have hP1 := s1 _ _ hP
  refine ⟨_, rfl, (show 3 ≤ sizeLine by decide), fun p1 n1 => ?_⟩
  have sp1 := same_upd (o := HO.lst [V.int 6, V.int 3, V.int 4]) n1
  have hP2 := sp1 _ _ hP1
  refine ⟨b, l, p1, 6, 3, 4, rfl, B1.same sp1, B1.ne n1, SqL.of upd_same, by decide, by decide, by decide, by decide, by decide, fun H3 p lp F C' ls ok lF lC lz b3 B3 np nlp hs => ?_⟩
  have hP3 := b3 _ _ hPb hP2
  refine ⟨_, rfl, p, lp, b, F, C', ls, rfl, hs, ok, by omega, fun H4 x ls4 s4 nx hB e4 => ?_⟩
  have hs4 := hs.same s4
  have B4 := B3.same s4
  refine ⟨_, rfl, _, rfl, p, _, _, _, rfl, rfl, SqL.of hs4.top, rfl, b, l, F, rfl, B4, ok.f0, by have := ok.f6; omega, fun H5 n e s' w' hn he hs' hw b5 B5 => ?_⟩
  have hs5 := hs4.drawn b5
  have hB5 := hB.drawn B4 b5
  have hP5 := b5 _ _ hPb (s4 _ _ hP3)
  clear hs hs4 hB B3 B4 b3 b5 B1 s4 np nlp nx hP3 hP2 hP1 sp1 n1 s1 hS
  have hr4 : [n, e, s', w'].length = 4 := rfl
  have hrf : ∀ y ∈ [n, e, s', w'], y ∈ F := by
    intro y hy
    simp only [List.mem_cons, List.not_mem_nil, or_false] at hy
    rcases hy with rfl | rfl | rfl | rfl <;> assumption
  rw [show S4 n e s' w' = S [n, e, s', w'] from rfl]
  generalize [n, e, s', w'] = start at hr4 hrf ⊢
  refine ⟨(show 2 ≤ sizeLine by decide), fun pt npt => ⟨pt, _, rfl, SqT.of upd_same, rfl, _, _, rfl, _, _, rfl, rfl, ?_⟩⟩
  have s6 := same_upd (o := HO.tup [V.ref x, V.str (S start)]) npt
  have hs6 := hs5.same s6
  have hB6 := hB5.same s6
  have B6 := B5.same s6
  have hP6 := s6 _ _ hP5
  generalize upd H5 pt (.tup [V.ref x, V.str (S start)]) = H6 at s6 hs6 hB6 B6 hP6 ⊢
  clear hs5 hB5 B5 hP5 npt s6
  have hcu : ∀ r ∈ ls, CutR r.2.2.2.2.2.2 F := fun r hr1 => (ok.ls r hr1).u
  have hss : SpecS ls := ⟨by omega, fun r hr1 => (ok.w6 r hr1).ln⟩
  have hcut : ∀ r c, CutR (cutL ls r c) F := fun r c => cutL_form hcu
  have ecut : cutL ls4 = cutL ls := cutL_eq e4
  have l44 : ls4.length ≤ 4 := by
    have := congrArg List.length e4
    rw [List.length_map, List.length_map] at this
    omega
  have askR : ∀ {r : Rm} (H' : Hp), r.length = 4 → Askd K H' (.str (S r)) := fun {r} H' h => .inl ⟨rfl, (show r.length ≤ 100000 by omega)⟩
  have yesR : ∀ {r : Rm}, r.length = 4 → (∀ y ∈ r, y ∈ F) → bRoom (.str (S r)) (S F) = true := fun h1 h2 => bRoom_ok h1 h2
  have hC100 : C'.length ≤ 100 := by have := ok.c4; omega
  -- a history
  refine ⟨_, rfl, _, rfl, _, rfl, b, l, p, lp, F, C', ls, start, 7, rfl, B6, hs6, hss, hcu, ok.c0, hC100, hr4, hrf, by decide, fun H7 q7 sl rd cd ts ss b7 B7 nq7 hsl val hh => ?_⟩
  have hs7 := hs6.drawn b7
  have hB7 := hB6.drawn B6 b7
  have hP7 := b7 _ _ hPb hP6
  clear hs6 hB6 B6 hP6 b7 nq7
  obtain ⟨tok, _, tlen⟩ := Valid.run hcut (Tr.start_ok hr4 hrf) val ss.length (Nat.le_refl _)
  rw [List.take_length] at tok tlen
  have h0 : (Tr.start start).cuts.length = 0 := rfl
  have tc := tree_cuts (C := C') hcut (Tr.start_ok hr4 hrf) ⟨fun c hc => nomatch hc⟩ val
  have hroot := run_keeps (cut := cutL ls) (ss := ss) (show ([], start) ∈ (Tr.start start).rooms from List.mem_cons_self)
  have hT7 : TreeAt H7 q7 sl rd cd (Tr.run (cutL ls) (Tr.start start) ss) := ⟨hh.top, hh.rooms, hh.cuts⟩
  generalize Tr.run (cutL ls) (Tr.start start) ss = t at tok tlen tc hroot hT7
  have hlk := lk_of tok.nd hroot
  have hct : t.cuts.length ≤ 7 := by omega
  have hcnt : cnt t [] < 8 := Nat.lt_succ_of_le (Nat.le_trans List.countP_le_length hct)
  clear hh val
  -- all views
  refine ⟨"NESWAD", rfl, ?_⟩
  refine for_it (walk_str (z := ("NESWAD" : Str))) (fun j σ H' => ∃ y6 y7 y8 y9 : Option V, σ = [some (.ref a), some (.ref b), some (.ref p), some (.ref x), some (.str (S start)), some (.ref q7), y6, y7, y8, y9, none, none, none, none] ∧ Same H7 H') ⟨_, _, _, _, rfl, Same.refl _⟩ (fun _ _ _ _ _ => trivial) ?_ ?_
  · rintro j v σ _ H8 hj ⟨y6, y7, y8, y9, rfl, s8⟩ ⟨rfl, zc, hzc, rfl⟩
    have hz : S [zc] ∈ viewsT := view_codes zc (by
      have h1 : ("NESWAD" : Str).cps.toList[j]? = some zc := by
        rw [Array.getElem?_toList]
        exact hzc
      exact List.mem_of_getElem? h1)
    rw [show (⟨#[zc]⟩ : Str) = S [zc] from rfl]
    generalize S [zc] = z at hz ⊢
    have hs8 := hs7.same s8
    have hB8 := hB7.same s8
    have askV : ∀ H' : Hp, Askd K H' (.str z) := fun H' => .inl ⟨rfl, Nat.le_trans (view_len z hz) (by decide)⟩
    -- what is due
    refine ⟨_, rfl, _, rfl, _, rfl, b, p, lp, F, C', ls, start, z, rfl, hs8, hss, hcu, hr4, hrf, lz, hC100, hz, fun H9 q9 L s9 nq9 hq9 hw hl => ?_⟩
    refine ⟨q9, L.map S, rfl, SqL.of (by rw [List.map_map]; exact hq9), fun ys due hpy hsy ndue => ?_⟩
    have s10 := s9.trans (same_upd (o := HO.lst (ys.map V.str)) ndue)
    have hdue : (upd H9 due (.lst (ys.map V.str))) due = some (.lst (ys.map V.str)) := upd_same
    generalize upd H9 due (.lst (ys.map V.str)) = H10 at s10 hdue ⊢
    have s710 := s8.trans s10
    have hB10 := hB8.same s10
    have hyl : ys.length ≤ 625 := by
      rw [hpy.length_eq, List.length_map]
      exact hl
    have uniq : ∀ {ys' : List Str} {L' : List Rm}, ys'.Perm (L'.map S) → PyProof.Rows.sortedS ys' = true → WholeV (cutL ls4) C' z start L' → ys' = ys := fun h1 h2 h3 => by
      rw [ecut] at h3
      exact sortedS_uniq (h1.trans (((h3.perm hw).map S).trans hpy.symm)) h2 hsy
    let DD : PyData := .list (ys.map PyData.str)
    have deepD : ∀ n, Deep (n + 1) DD := fun n => deep_strs (by omega)
    have mkD : ∀ {H' : Hp} {p' : Addr}, H' p' = some (.lst (ys.map V.str)) → Dp K H' (.ref p') DD := fun h => .lst (SqL.of h) (dp_strs _)
    -- members, twice
    refine ⟨_, rfl, _, rfl, _, rfl, x, F, C', ls4, .str (S start), .str z, rfl, hB10, (fun H' _ => askR H' hr4), (fun H' _ => askV H'), l44, hC100, (fun hb => absurd (hb.symm.trans (yesR hr4 hrf)) (by decide)), (fun _ hb => absurd (hb.symm.trans (view_right z hz)) (by decide)), fun st z' e1 e2 hz' h4' hF' H11 told ys2 L2 s11 nt ht pm so wh _ => ?_⟩
    obtain rfl : start = st := S_inj (V.str.inj e1)
    obtain rfl : z = z' := V.str.inj e2
    obtain rfl := uniq pm so wh
    have hdue11 := s11 _ _ hdue
    refine ⟨_, rfl, _, rfl, .ref told, .ref due, DD, rfl, mkD ht, mkD hdue11, deepD 2, fun H12 s12 => ⟨_, rfl, iteF ?_⟩⟩
    have ht12 := s12 _ _ ht
    refine ⟨_, rfl, .inl ⟨rfl, _, SqL.of ht12⟩, told, _, _, rfl, rfl, ht12, by rw [List.length_map]; exact sz1 (by omega), ?_⟩
    have s13 : Same H10 (upd H12 told (.lst (ys2.map V.str ++ [.str "x"]))) := fun c' o' e' => by
      rw [upd_ne (ne_of_none e' nt)]
      exact s12 _ _ (s11 _ _ e')
    generalize upd H12 told (.lst (ys2.map V.str ++ [.str "x"])) = H13 at s13 ⊢
    clear ht12 s12 hdue11 s11 ht nt wh so pm
    refine ⟨_, rfl, _, rfl, _, rfl, x, F, C', ls4, .str (S start), .str z, rfl, hB10.same s13, (fun H' _ => askR H' hr4), (fun H' _ => askV H'), l44, hC100, (fun hb => absurd (hb.symm.trans (yesR hr4 hrf)) (by decide)), (fun _ hb => absurd (hb.symm.trans (view_right z hz)) (by decide)), fun st z' e1 e2 hz' h4' hF' H14 told2 ys3 L3 s14 nt2 ht2 pm so wh _ => ?_⟩
    obtain rfl : start = st := S_inj (V.str.inj e1)
    obtain rfl : z = z' := V.str.inj e2
    obtain rfl := uniq pm so wh
    have s1014 := s13.trans s14
    refine ⟨_, rfl, .ref told2, .ref due, DD, rfl, mkD ht2, mkD (s1014 _ _ hdue), deepD 2, fun H15 s15 => ⟨_, rfl, iteF ?_⟩⟩
    have s1015 := s1014.trans s15
    have s715 := s710.trans s1015
    have hdue15 := s1015 _ _ hdue
    clear s1014 s15 ht2 nt2 s14 s13 wh so pm
    -- the rooms of the rows
    have hT15 := hT7.same s715
    refine ⟨_, rfl, _, rfl, _, rfl, b, p, lp, q7, sl, rd, cd, F, C', ls, start, start, [], z, t, rfl, hcnt, by decide, hs7.same s715, hss, hcu, hz, hT15, tok, tc, hlk, .base, by omega, fun H16 q16 R s16 nq16 hq16 hR16 _ => ?_⟩
    have hT16 := hT15.same s16
    have hdue16 := s16 _ _ hdue15
    have s716 := s715.trans s16
    refine ⟨q16, rfl, ⟨_, SqL.of hq16⟩, for_list (xs := refR R) (fun i σ H' => ∃ y9 : Option V, σ = [some (.ref a), some (.ref b), some (.ref p), some (.ref x), some (.str (S start)), some (.ref q7), some (.str z), some (.ref due), some (.ref told), y9, none, none, none, none] ∧ Same H16 H') ⟨_, rfl, Same.refl _⟩ (fun i σ H' _ ⟨_, _, s⟩ => SqL.of (s _ _ hq16)) ?_ ?_⟩
    · rintro i v σ H17 hv ⟨y9, rfl, s17⟩
      unfold refR at hv
      rw [List.getElem?_map] at hv
      obtain ⟨u, hu1, rfl⟩ := Option.map_eq_some_iff.mp hv
      have hu := (hR16 u (List.mem_of_getElem? hu1)).same s17
      have hT17 := hT16.same s17
      have hdue17 := s17 _ _ hdue16
      have hufew := hu.few
      refine ⟨_, rfl, u.1, rfl, ⟨_, SqL.of hu.l⟩, fun G nG => ?_⟩
      refine lc_it (walk_list (xs := u.2.map fun a => V.str (S a))) (fun k H' => But G H17 H' ∧ H' G = some (.lst (List.replicate k (.bl true)))) ⟨(same_upd nG).but, upd_same⟩ (fun k H' _ pv => SqL.of (pv.1 _ _ (ne_of_none hu.l nG) hu.l)) ?_ ?_
      · rintro k v _ H' hk ⟨bt, hGG⟩ ⟨rfl, hx⟩
        rw [List.getElem?_map] at hx
        obtain ⟨a', ha1, rfl⟩ := Option.map_eq_some_iff.mp hx
        obtain ⟨r', hlk', hVR'⟩ := hu.g a' (List.mem_of_getElem? ha1)
        rw [List.length_map] at hk
        have htop := bt _ _ (ne_of_none hT17.top nG) hT17.top
        have hrooms := bt _ _ (ne_of_none hT17.rooms nG) hT17.rooms
        have hduex := bt _ _ (ne_of_none hdue17 nG) hdue17
        have hgx : DGet H' rd (.str (S a')) (some (.str (S r'))) := by
          have := DGet.k (k := Sum.inr (S a')) hrooms
          rw [valV_kvR, hlk'] at this
          exact this
        have hin : S r' ∈ ys3 := hpy.mem_iff.mpr (List.mem_map.mpr ⟨r', (hw.all r').mpr hVR', rfl⟩)
        refine ⟨rfl, _, rfl, q7, _, 1, _, rfl, rfl, SqL.of htop, rfl, _, rfl, rd, _, rfl, hgx, _, rfl, due, _, rfl, .inl (SqL.of hduex), rfl, all_strs _, ?_⟩
        rw [if_neg Bool.false_ne_true, inV_strs, decide_eq_true hin]
        refine ⟨_, hGG, by rw [List.length_replicate]; exact sz1 (by omega), fun c' o' n' e' => ?_, ?_⟩
        · rw [upd_ne n']
          exact bt _ _ n' e'
        · rw [upd_same, ← List.replicate_succ']
      rintro H18 ⟨bt, hGG⟩
      rw [List.length_map] at hGG
      have s18 : Same H17 H18 := fun c' o' e' => bt _ _ (ne_of_none e' nG) e'
      refine ⟨G, List.replicate u.2.length true, rfl, SqL.of (by rw [hGG, List.map_replicate]), ?_⟩
      rw [show (List.replicate u.2.length true).all id = true from by rw [List.all_eq_true]; intro w hw'; rw [List.eq_of_mem_replicate hw']; rfl]
      exact ⟨_, rfl, iteF ⟨_, rfl, s17.trans s18⟩⟩
    · rintro σ H17 ⟨y9, rfl, s17⟩
      exact ⟨_, _, _, _, rfl, s716.trans s17⟩
  rintro σ H8 ⟨y6, y7, y8, y9, rfl, s8⟩
  have hs10 := hs7.same s8
  have hB10 := hB7.same s8
  have B10 := B7.same s8
  have hP10 := s8 _ _ hP7
  clear hs7 hB7 B7 hP7 s8 hT7
  -- odd values
  refine ⟨_, rfl, _, rfl, p, _, _, _, rfl, rfl, SqL.of hs10.top, rfl, b, l, F, rfl, B10, ok.f0, by have := ok.f6; omega, fun c' hc' => lower_range c' (ok.f.subset hc'), fun H11 odd dodd od1 b11 B11 => ?_⟩
  refine ⟨_, rfl, b, l, rfl, B11, fun H12 cold dcold oc b12 B12 => ?_⟩
  have hB12 := hB10.drawn B10 (b11.trans b12)
  have hP12 := (b11.trans b12) _ _ hPb hP10
  have od := od1 H12 b12
  clear hs10 hB10 hP10 b11 b12 B11 od1 B10
  refine ⟨(show 2 ≤ sizeLine by decide), fun pt npt => ⟨pt, _, rfl, SqT.of upd_same, rfl, _, _, rfl, _, _, rfl, rfl, ?_⟩⟩
  have st := same_upd (o := HO.tup [odd, cold]) npt
  replace hB12 := hB12.same st
  replace hP12 := st _ _ hP12
  replace od := od.same st
  replace oc := oc.same st
  generalize upd H12 pt (.tup [odd, cold]) = H13 at hB12 hP12 od oc ⊢
  clear st npt B12
  -- the lambdas
  refine ⟨fun p' hp' => by rw [List.mem_singleton.mp hp']; exact LamX.TabS.nil hP12, fun f1 c1 v1 G1 e1 T1 m1 la1 => ?_⟩
  refine ⟨T1, fun f2 c2 v2 G2 e2 T2 m2 la2 => ?_⟩
  have ex := e1.trans e2
  replace la1 := la1.ext e2
  replace hB12 := hB12.ext ex
  replace od := od.ext ex
  replace oc := oc.ext ex
  clear ex e1 e2 T1 T2 m1 m2
  refine ⟨(show 2 ≤ sizeLine by decide), fun l7 nl7 => ?_⟩
  have sl := same_upd (o := HO.lst [V.ref f1, .ref f2]) nl7
  have hl7 : (upd G2 l7 (.lst [V.ref f1, .ref f2])) l7 = some (.lst ([f1, f2].map V.ref)) := upd_same
  replace la1 := la1.same sl
  replace la2 := la2.same sl
  replace hB12 := hB12.same sl
  replace od := od.same sl
  replace oc := oc.same sl
  generalize upd G2 l7 (.lst [V.ref f1, .ref f2]) = G7 at la1 la2 hB12 od oc hl7 ⊢
  clear sl nl7
  have nodd : ∀ {v : V} {d : PyData}, OddR K G7 F v d → ∀ st : List Nat, v = .str (S st) → st.length = 4 → (∀ y ∈ st, y ∈ F) → False := fun o st e' h4' hF' => by
    have z1 := bRoom_ok h4' hF'
    rw [← e', o.odd] at z1
    cases z1
  have noB : ∀ {v : V} {d : PyData}, OddR K G7 F v d → bRoom v (S F) = true → False := fun o h => by
    rw [o.odd] at h
    cases h
  refine ⟨_, rfl, l7, [f1, f2], rfl, rfl, hl7, tries_run [.tuple [.str "InvalidRoom", dodd], .tuple [.str "InvalidView", dcold]] hl7 (fun D nD => ?_) (fun H7 D s7 nD hD => ?_)⟩
  · refine ⟨?_, ?_, trivial⟩
    · exact oneAsk_err TI nD la1 od.dp fun H s E Q h => ⟨_, rfl, _, rfl, _, rfl, x, F, C', ls4, odd, cold, rfl, hB12.same s, (fun H' s' => ((od.same s).same s').askd), (fun H' s' => ((oc.same s).same s').askd), l44, hC100, (fun _ H' d s' nd => h H' d s' nd), (fun hb => (noB od hb).elim), fun st z z1 z2 _ h4 hF => (nodd od st z1 h4 hF).elim⟩
    · exact oneAsk_err TV nD la2 oc.dp fun H s E Q h => ⟨_, rfl, _, rfl, _, rfl, x, F, C', ls4, .str (S start), cold, rfl, hB12.same s, (fun H' _ => askR H' hr4), (fun H' s' => ((oc.same s).same s').askd), l44, hC100, (fun hb => absurd (hb.symm.trans (yesR hr4 hrf)) (by decide)), (fun _ _ H' d s' nd => h H' d s' nd), fun st z z1 z2 hz' _ _ => by
        have h1 := view_right z hz'
        rw [← z2, oc.odd] at h1
        cases h1⟩
  refine ⟨_, rfl, (show 2 ≤ sizeLine by decide), fun t1 nt1 => ?_⟩
  have w1 := same_upd (o := HO.tup [V.str "InvalidRoom", odd]) nt1
  refine ⟨_, rfl, (show 2 ≤ sizeLine by decide), fun t2 nt2 => ?_⟩
  have w2 := same_upd (o := HO.tup [V.str "InvalidView", cold]) nt2
  refine ⟨(show 2 ≤ sizeLine by decide), fun t4 nt4 => ?_⟩
  have w4 := same_upd (o := HO.lst [V.ref t1, V.ref t2]) nt4
  have w24 := w2.trans w4
  have w14 := w1.trans w24
  have dt : ∀ (z : Str) (d : PyData), Deep 1 d → Deep 2 (.tuple [.str z, d]) := fun z d h => deep_tup (show 2 ≤ 1000 by decide) fun d' hd => by
    simp only [List.mem_cons, List.not_mem_nil, or_false] at hd
    rcases hd with rfl | rfl
    · exact deep_str
    · exact h
  refine ⟨_, _, _, rfl, Dp.same w14 hD, .lst (SqL.of upd_same) (.cons (.tup (SqT.of (w24 _ _ upd_same)) (.cons (.str _) (.cons (od.same (s7.trans w14)).dp .nil))) (.cons (.tup (SqT.of (w4 _ _ upd_same)) (.cons (.str _) (.cons (oc.same (s7.trans w14)).dp .nil))) .nil)), deep_list (show 2 ≤ 1000 by decide) (fun d hd => ?_), fun H8 s8 => q _⟩
  simp only [List.mem_cons, List.not_mem_nil, or_false] at hd
  rcases hd with rfl | rfl
  · exact dt _ _ (od.deep 0)
  · exact dt _ _ oc.deep
end
end FW
namespace FW
open PySem PySem.Spec PyProof.Rows L2
/-- the end of a law row whose law's own text holds a lambda: the law's table at P, its code object at c -/
theorem walk_tab {l : PySem.W.OpenLaw} {n k : Nat} {q : Program} {loose : List Str} {XP : (Str → Option Value) → Heap → Prop} {YP : World → Heap → Prop} {d : DefRec} {K : Params → PySem.W.Frag} {x : Str} {sp : PySem.W.Frag → Addr → Sp} {c P : Addr}
    (hn : l.most = some n) (hn2 : n ≤ sizeLine) (hdf : d.params.defaults = []) (hr : Room k callerA) (hY : ∀ (w : World) (h : Heap), YP w h → (K w.params).In h)
    (hT : ∀ (w : World) (h : Heap), YP w h → h.get? P = some (PySem.W.tabObj #[])) (hnP : ∀ pr : Params, (K pr).lookup P = none)
    (F : ∀ (w : World) (mg : Str → Option Value) (fa : Addr) (h : Heap), (K w.params).In h → h.Ns mainGlobals mg → mg d.name = some (.ref fa) →
      ∃ fd : FuncData, (∀ (s : Shared) (u : Value), BindsTo s fd ⟨[u], []⟩ [(x, u)]) ∧ ∀ base : Heap, (K w.params).In base → base.Ns mainGlobals mg → LamX.TabB base mg c P → FnOk l.prog w (K w.params) mg base L2.CX0 k fa fd [x] (sp (K w.params) P))
    (hc : ∀ pr : Params, PySem.W.codeHdIn (K pr) c P = true) (hsp : ∀ (pr : Params) (H : Hp) (a : Addr) (ns : List Int), ns.length ≤ n → H P = some (.tbl #[]) → SqL (K pr) H a (ns.map V.int) → sp (K pr) P [.ref a] H (fun v _ => v = .bl true) fun _ _ _ => False) :
    PySem.W.WalkO q loose XP YP l.row.toRowW d [] (fun f vs => PySem.call f vs) := by
  refine Att.attach_callB hn hdf fun w s₀ s₁ mg mb fa o pm cd doc a vs ns G Y ho hd hcd hmg hobj hints hlen hbits hg => ?_
  have X := hY w _ Y
  obtain ⟨fd, hb, hF⟩ := F w mg fa _ X G.T.g hmg
  have hP := hT w _ Y
  refine LamX.law_callTs (cs := [(c, P)]) X G.T.g G.T.b G.T.builtins G.T.nolimit hg (fun p hp => ?_) (fun p hp => ?_) (fun p hp => ?_) G.T.bmain hobj hints (Nat.le_trans hlen hn2) hr
    (fun base h1 h2 h3 => hF base h1 h2 (h3 _ List.mem_cons_self)) hb (fun H hH hS => hsp w.params H a ns hlen (hH _ List.mem_cons_self) hS) (fun _ _ _ z => z)
  · rw [List.mem_singleton.mp hp]
    exact hP
  · rw [List.mem_singleton.mp hp]
    exact hnP w.params
  · rw [List.mem_singleton.mp hp]
    exact PySem.W.codeHd_of_K X (hc w.params)
end FW
namespace FW
open PySem PySem.Spec PyProof.Rows L2
theorem all_mk {l : PySem.W.OpenLaw} {w : World} {K : PySem.W.Frag} {h : Heap} {mg : Str → Option Value} {fa : Addr} {CB C_InvalidRoom fI_InvalidRoom NC_InvalidRoom C1 C2 C3 C_InvalidView fI_InvalidView NC_InvalidView f__law_rows f__law_used f__law_rule f__law_fits f__law_line_at f__law_cut f__law_tries f__law_try f__law_field f__law_same a_tab_NAMED tp_NAMED_both tp_NAMED_first tp_NAMED_second tp_NAMED_either f_is_string f_is_room f_check_room f_is_letter f_is_view f_check_view f_B_cut f_B_line_at f_fits f_parts_of a_tab__UPRIGHT a_tab__LEVEL f_rule f_splits f_members f__law_draw f__law_of f__law_odd_view f__law_odd_room f__law_split f__law_parts f__law_turns f__law_members f__law_some_history f__law_some_room f_Bi f_is_ascending f_is_choice f_is_faces f_is_cutters f_is_part f_is_cut f_is_line f_head_of f_line_of p_read f_B_read f__law_line_text f__law_book_text f__law_book f__law_part f__law_some_cut f__law_letters f__law_some_faces f__law_some_cutters f__law_some_line f__law_some_book f__law_open f_law c Pt : Addr} {t8 tk_InvalidRoom tk_InvalidView tk0_tp_NAMED_both tk1_tp_NAMED_both tk0_tp_NAMED_first tk0_tp_NAMED_second tk0_tp_NAMED_either tk1_tp_NAMED_either tk_VIEWS tk_tab__UPRIGHT_N tk_tab__UPRIGHT_E tk_tab__UPRIGHT_S tk_tab__UPRIGHT_W tk_tab__UPRIGHT_A tk_tab__UPRIGHT_D tk_tab__LEVEL_N tk_tab__LEVEL_E tk_tab__LEVEL_S tk_tab__LEVEL_W tk_tab__LEVEL_A tk_tab__LEVEL_D tk__LOWER tk__MOST_FACES tk__UPPER tk__MOST_CUTTERS : Tok} {nm_InvalidRoom qn_InvalidRoom nm_InvalidView qn_InvalidView : Str} {bs_InvalidRoom bm_InvalidRoom sub_InvalidRoom bs_InvalidView bm_InvalidView sub_InvalidView r_read : List Value} {sn_InvalidRoom sn_InvalidView : List Str} {ab_InvalidRoom ab_InvalidView : Bool} {col_InvalidRoom col_InvalidView : Option Bool} {k0_InvalidRoom k1_InvalidRoom k3_InvalidRoom k5_InvalidRoom k0_InvalidView k1_InvalidView k3_InvalidView k5_InvalidView : Option Value} {dd_InvalidRoom odI_InvalidRoom anI_InvalidRoom dd_InvalidView odI_InvalidView anI_InvalidView od__law_rows an__law_rows od__law_used an__law_used od__law_rule an__law_rule od__law_fits an__law_fits od__law_line_at an__law_line_at od__law_cut an__law_cut od__law_tries an__law_tries od__law_try an__law_try od__law_field an__law_field od__law_same an__law_same od_tp_NAMED_both od_tp_NAMED_first od_tp_NAMED_second od_tp_NAMED_either od_is_string an_is_string od_is_room an_is_room od_check_room an_check_room od_is_letter an_is_letter od_is_view an_is_view od_check_view an_check_view od_B_cut an_B_cut od_B_line_at an_B_line_at od_fits an_fits od_parts_of an_parts_of od_rule an_rule od_splits an_splits od_members an_members od__law_draw an__law_draw od__law_of an__law_of od__law_odd_view an__law_odd_view od__law_odd_room an__law_odd_room od__law_split an__law_split od__law_parts an__law_parts od__law_turns an__law_turns od__law_members an__law_members od__law_some_history an__law_some_history od__law_some_room an__law_some_room od_Bi an_Bi od_is_ascending an_is_ascending od_is_choice an_is_choice od_is_faces an_is_faces od_is_cutters an_is_cutters od_is_part an_is_part od_is_cut an_is_cut od_is_line an_is_line od_head_of an_head_of od_line_of an_line_of od_B_read an_B_read od__law_line_text an__law_line_text od__law_book_text an__law_book_text od__law_book an__law_book od__law_part an__law_part od__law_some_cut an__law_some_cut od__law_letters an__law_letters od__law_some_faces an__law_some_faces od__law_some_cutters an__law_some_cutters od__law_some_line an__law_some_line od__law_some_book an__law_some_book od__law_open an__law_open od_law an_law : Option Addr} {slI_InvalidRoom slI_InvalidView sl__law_rows sl__law_used sl__law_rule sl__law_fits sl__law_line_at sl__law_cut sl__law_tries sl__law_try sl__law_field sl__law_same sl_tp_NAMED_both sl_tp_NAMED_first sl_tp_NAMED_second sl_tp_NAMED_either sl_is_string sl_is_room sl_check_room sl_is_letter sl_is_view sl_check_view sl_B_cut sl_B_line_at sl_fits sl_parts_of sl_rule sl_splits sl_members sl__law_draw sl__law_of sl__law_odd_view sl__law_odd_room sl__law_split sl__law_parts sl__law_turns sl__law_members sl__law_some_history sl__law_some_room sl_Bi sl_is_ascending sl_is_choice sl_is_faces sl_is_cutters sl_is_part sl_is_cut sl_is_line sl_head_of sl_line_of sl_B_read sl__law_line_text sl__law_book_text sl__law_book sl__law_part sl__law_some_cut sl__law_letters sl__law_some_faces sl__law_some_cutters sl__law_some_line sl__law_some_book sl__law_open sl_law : Array (Option Value)} {ocI_InvalidRoom kVI_InvalidRoom dcI_InvalidRoom pmI_InvalidRoom cdI_InvalidRoom ctI_InvalidRoom ocI_InvalidView kVI_InvalidView dcI_InvalidView pmI_InvalidView cdI_InvalidView ctI_InvalidView oc__law_rows kV__law_rows dc__law_rows pm__law_rows cd__law_rows ct__law_rows oc__law_used kV__law_used dc__law_used pm__law_used cd__law_used ct__law_used oc__law_rule kV__law_rule dc__law_rule pm__law_rule cd__law_rule ct__law_rule oc__law_fits kV__law_fits dc__law_fits pm__law_fits cd__law_fits ct__law_fits oc__law_line_at kV__law_line_at dc__law_line_at pm__law_line_at cd__law_line_at ct__law_line_at oc__law_cut kV__law_cut dc__law_cut pm__law_cut cd__law_cut ct__law_cut oc__law_tries kV__law_tries dc__law_tries pm__law_tries cd__law_tries ct__law_tries oc__law_try kV__law_try dc__law_try pm__law_try cd__law_try ct__law_try oc__law_field kV__law_field dc__law_field pm__law_field cd__law_field ct__law_field oc__law_same kV__law_same dc__law_same pm__law_same cd__law_same ct__law_same oc_is_string kV_is_string dc_is_string pm_is_string cd_is_string ct_is_string oc_is_room kV_is_room dc_is_room pm_is_room cd_is_room ct_is_room oc_check_room kV_check_room dc_check_room pm_check_room cd_check_room ct_check_room oc_is_letter kV_is_letter dc_is_letter pm_is_letter cd_is_letter ct_is_letter oc_is_view kV_is_view dc_is_view pm_is_view cd_is_view ct_is_view oc_check_view kV_check_view dc_check_view pm_check_view cd_check_view ct_check_view oc_B_cut kV_B_cut dc_B_cut pm_B_cut cd_B_cut ct_B_cut oc_B_line_at kV_B_line_at dc_B_line_at pm_B_line_at cd_B_line_at ct_B_line_at oc_fits kV_fits dc_fits pm_fits cd_fits ct_fits oc_parts_of kV_parts_of dc_parts_of pm_parts_of cd_parts_of ct_parts_of oc_rule kV_rule dc_rule pm_rule cd_rule ct_rule oc_splits kV_splits dc_splits pm_splits cd_splits ct_splits oc_members kV_members dc_members pm_members cd_members ct_members oc__law_draw kV__law_draw dc__law_draw pm__law_draw cd__law_draw ct__law_draw oc__law_of kV__law_of dc__law_of pm__law_of cd__law_of ct__law_of oc__law_odd_view kV__law_odd_view dc__law_odd_view pm__law_odd_view cd__law_odd_view ct__law_odd_view oc__law_odd_room kV__law_odd_room dc__law_odd_room pm__law_odd_room cd__law_odd_room ct__law_odd_room oc__law_split kV__law_split dc__law_split pm__law_split cd__law_split ct__law_split oc__law_parts kV__law_parts dc__law_parts pm__law_parts cd__law_parts ct__law_parts oc__law_turns kV__law_turns dc__law_turns pm__law_turns cd__law_turns ct__law_turns oc__law_members kV__law_members dc__law_members pm__law_members cd__law_members ct__law_members oc__law_some_history kV__law_some_history dc__law_some_history pm__law_some_history cd__law_some_history ct__law_some_history oc__law_some_room kV__law_some_room dc__law_some_room pm__law_some_room cd__law_some_room ct__law_some_room oc_Bi kV_Bi dc_Bi pm_Bi cd_Bi ct_Bi oc_is_ascending kV_is_ascending dc_is_ascending pm_is_ascending cd_is_ascending ct_is_ascending oc_is_choice kV_is_choice dc_is_choice pm_is_choice cd_is_choice ct_is_choice oc_is_faces kV_is_faces dc_is_faces pm_is_faces cd_is_faces ct_is_faces oc_is_cutters kV_is_cutters dc_is_cutters pm_is_cutters cd_is_cutters ct_is_cutters oc_is_part kV_is_part dc_is_part pm_is_part cd_is_part ct_is_part oc_is_cut kV_is_cut dc_is_cut pm_is_cut cd_is_cut ct_is_cut oc_is_line kV_is_line dc_is_line pm_is_line cd_is_line ct_is_line oc_head_of kV_head_of dc_head_of pm_head_of cd_head_of ct_head_of oc_line_of kV_line_of dc_line_of pm_line_of cd_line_of ct_line_of oc_B_read kV_B_read dc_B_read pm_B_read cd_B_read ct_B_read oc__law_line_text kV__law_line_text dc__law_line_text pm__law_line_text cd__law_line_text ct__law_line_text oc__law_book_text kV__law_book_text dc__law_book_text pm__law_book_text cd__law_book_text ct__law_book_text oc__law_book kV__law_book dc__law_book pm__law_book cd__law_book ct__law_book oc__law_part kV__law_part dc__law_part pm__law_part cd__law_part ct__law_part oc__law_some_cut kV__law_some_cut dc__law_some_cut pm__law_some_cut cd__law_some_cut ct__law_some_cut oc__law_letters kV__law_letters dc__law_letters pm__law_letters cd__law_letters ct__law_letters oc__law_some_faces kV__law_some_faces dc__law_some_faces pm__law_some_faces cd__law_some_faces ct__law_some_faces oc__law_some_cutters kV__law_some_cutters dc__law_some_cutters pm__law_some_cutters cd__law_some_cutters ct__law_some_cutters oc__law_some_line kV__law_some_line dc__law_some_line pm__law_some_line cd__law_some_line ct__law_some_line oc__law_some_book kV__law_some_book dc__law_some_book pm__law_some_book cd__law_some_book ct__law_some_book oc__law_open kV__law_open dc__law_open pm__law_open cd__law_open ct__law_open oc_law kV_law dc_law pm_law ct_law : Value} {es_tab_NAMED es_tab__UPRIGHT es_tab__LEVEL : Array DictEntry} {n_tab_NAMED n_tp_NAMED_both n_tp_NAMED_first n_tp_NAMED_second n_tp_NAMED_either n_tab__UPRIGHT n_tab__LEVEL : Nat} (X : K.In h) (G : h.Ns mainGlobals mg) (hfa : mg "law" = some (.ref fa))
    (B_g : PySem.W.nsIn K mainGlobals "Book" = some (some (.ref CB)))
    (B_pg : PySem.W.plainGet K CB Str.empty = true)
    (B_hd : PySem.W.hasDictIn K CB = true)
    (B_po : PySem.W.plainOver K CB = true)
    (B_sa : PySem.W.findIn K (.ref CB) "__setattr__" = some (some (.builtin "object.__setattr__")))
    (B_nf : PySem.W.findIn K (.ref CB) "faces" = some none)
    (B_nc : PySem.W.findIn K (.ref CB) "cutters" = some none)
    (B_nl : PySem.W.findIn K (.ref CB) "_lines" = some none)
    (B_mk : PySem.W.makesIn K CB = true)
    (B_kp : PySem.W.keepIn K (.ref CB) = true)
    (B_rd : PySem.W.readsIn K CB (.type "type") = true)
    (B_sg : PySem.W.specialIn K (.ref CB) "__getattribute__" = some (some (.builtin "type.__getattribute__")))
    (B_most : PySem.W.findCls K (.ref CB) (.type "type") "MOST" = some (.val (.int 8 t8)))
    (gs1 : PySem.W.specialIn K (.builtin "object.__class__") "__get__" = some (some (.builtin "getset_descriptor.__get__")))
    (gs2 : PySem.W.takesIn K (.builtin "object.__class__") = some true)
    (eg_InvalidRoom : PySem.W.nsIn K mainGlobals "InvalidRoom" = some (some (.ref C_InvalidRoom)))
    (el_InvalidRoom : K.lookup C_InvalidRoom = some (excClassObj nm_InvalidRoom qn_InvalidRoom C_InvalidRoom NC_InvalidRoom bs_InvalidRoom bm_InvalidRoom true sn_InvalidRoom sub_InvalidRoom ab_InvalidRoom col_InvalidRoom dd_InvalidRoom k0_InvalidRoom k1_InvalidRoom (some (.str "InvalidRoom" tk_InvalidRoom)) k3_InvalidRoom k5_InvalidRoom "ValueError.__new__"))
    (eb_InvalidRoom : PySem.HandSPX.refsVE bm_InvalidRoom = true)
    (esa_InvalidRoom : PySem.W.findIn K (.ref C_InvalidRoom) "__setattr__" = some (some (.builtin "object.__setattr__")))
    (ex_InvalidRoom : PySem.W.subIn K (.ref C_InvalidRoom) (.type "BaseException") = some true)
    (ety_InvalidRoom : PySem.W.typeIn K (.ref C_InvalidRoom) = some (.type "type"))
    (ek_InvalidRoom : PySem.W.keepIn K (.ref C_InvalidRoom) = true)
    (ecl_InvalidRoom : (PySem.W.clsIn K C_InvalidRoom).isSome = true)
    (ega_InvalidRoom : PySem.W.findIn K (.ref C_InvalidRoom) "__getattribute__" = some (some (.builtin "BaseException.__getattribute__")))
    (egg_InvalidRoom : PySem.W.findIn K (.ref C_InvalidRoom) "__getattr__" = some none)
    (efc_InvalidRoom : PySem.W.findIn K (.ref C_InvalidRoom) "__class__" = some (some (.builtin "object.__class__")))
    (eob_InvalidRoom : PySem.W.mroIn K C_InvalidRoom (.type "object") = some true)
    (ehd_InvalidRoom : PySem.W.hasDictIn K C_InvalidRoom = true)
    (enc_InvalidRoom : PySem.W.findIn K (.ref C_InvalidRoom) "code" = some none)
    (enf_InvalidRoom : PySem.W.findIn K (.ref C_InvalidRoom) "given" = some none)
    (eini_InvalidRoom : PySem.W.findIn K (.ref C_InvalidRoom) "__init__" = some (some (.ref fI_InvalidRoom)))
    (etI_InvalidRoom : PySem.W.typeIn K (.ref fI_InvalidRoom) = some (.type "function"))
    (elI_InvalidRoom : K.lookup fI_InvalidRoom = some ⟨ocI_InvalidRoom, odI_InvalidRoom, .func (PySem.W.fnOf "__init__" "InvalidRoom.__init__" (defArgs s_InvalidRoom_init) (defBody s_InvalidRoom_init) (defScope s_InvalidRoom_init) .none kVI_InvalidRoom dcI_InvalidRoom pmI_InvalidRoom anI_InvalidRoom cdI_InvalidRoom ctI_InvalidRoom), slI_InvalidRoom⟩)
    (ecI_InvalidRoom : PySem.W.codeIn K cdI_InvalidRoom "InvalidRoom.__init__" = true)
    (ekI_InvalidRoom : PySem.W.keepIn K (.ref fI_InvalidRoom) = true)
    (erd_InvalidRoom : PySem.W.readsIn K C_InvalidRoom (.type "type") = true)
    (efdn_InvalidRoom : PySem.W.findCls K (.ref C_InvalidRoom) (.type "type") "__name__" = some (.get (.builtin "getset_descriptor.__get__") (.builtin "type.__name__") (.ref C_InvalidRoom) (.type "type")))
    (e_C1 : PySem.W.nsIn K mainGlobals "HouseError" = some (some (.ref C1)))
    (e_C2 : PySem.W.nsIn K mainGlobals "Missing" = some (some (.ref C2)))
    (e_C3 : PySem.W.nsIn K mainGlobals "NothingLeft" = some (some (.ref C3)))
    (hx_InvalidRoom : PySem.W.exmAny K (.ref C_InvalidRoom) [.ref C1, .ref C2, .ref C3] = some true)
    (eg_InvalidView : PySem.W.nsIn K mainGlobals "InvalidView" = some (some (.ref C_InvalidView)))
    (el_InvalidView : K.lookup C_InvalidView = some (excClassObj nm_InvalidView qn_InvalidView C_InvalidView NC_InvalidView bs_InvalidView bm_InvalidView true sn_InvalidView sub_InvalidView ab_InvalidView col_InvalidView dd_InvalidView k0_InvalidView k1_InvalidView (some (.str "InvalidView" tk_InvalidView)) k3_InvalidView k5_InvalidView "ValueError.__new__"))
    (eb_InvalidView : PySem.HandSPX.refsVE bm_InvalidView = true)
    (esa_InvalidView : PySem.W.findIn K (.ref C_InvalidView) "__setattr__" = some (some (.builtin "object.__setattr__")))
    (ex_InvalidView : PySem.W.subIn K (.ref C_InvalidView) (.type "BaseException") = some true)
    (ety_InvalidView : PySem.W.typeIn K (.ref C_InvalidView) = some (.type "type"))
    (ek_InvalidView : PySem.W.keepIn K (.ref C_InvalidView) = true)
    (ecl_InvalidView : (PySem.W.clsIn K C_InvalidView).isSome = true)
    (ega_InvalidView : PySem.W.findIn K (.ref C_InvalidView) "__getattribute__" = some (some (.builtin "BaseException.__getattribute__")))
    (egg_InvalidView : PySem.W.findIn K (.ref C_InvalidView) "__getattr__" = some none)
    (efc_InvalidView : PySem.W.findIn K (.ref C_InvalidView) "__class__" = some (some (.builtin "object.__class__")))
    (eob_InvalidView : PySem.W.mroIn K C_InvalidView (.type "object") = some true)
    (ehd_InvalidView : PySem.W.hasDictIn K C_InvalidView = true)
    (enc_InvalidView : PySem.W.findIn K (.ref C_InvalidView) "code" = some none)
    (enf_InvalidView : PySem.W.findIn K (.ref C_InvalidView) "given" = some none)
    (eini_InvalidView : PySem.W.findIn K (.ref C_InvalidView) "__init__" = some (some (.ref fI_InvalidView)))
    (etI_InvalidView : PySem.W.typeIn K (.ref fI_InvalidView) = some (.type "function"))
    (elI_InvalidView : K.lookup fI_InvalidView = some ⟨ocI_InvalidView, odI_InvalidView, .func (PySem.W.fnOf "__init__" "InvalidView.__init__" (defArgs s_InvalidView_init) (defBody s_InvalidView_init) (defScope s_InvalidView_init) .none kVI_InvalidView dcI_InvalidView pmI_InvalidView anI_InvalidView cdI_InvalidView ctI_InvalidView), slI_InvalidView⟩)
    (ecI_InvalidView : PySem.W.codeIn K cdI_InvalidView "InvalidView.__init__" = true)
    (ekI_InvalidView : PySem.W.keepIn K (.ref fI_InvalidView) = true)
    (erd_InvalidView : PySem.W.readsIn K C_InvalidView (.type "type") = true)
    (efdn_InvalidView : PySem.W.findCls K (.ref C_InvalidView) (.type "type") "__name__" = some (.get (.builtin "getset_descriptor.__get__") (.builtin "type.__name__") (.ref C_InvalidView) (.type "type")))
    (hx_InvalidView : PySem.W.exmAny K (.ref C_InvalidView) [.ref C1, .ref C2, .ref C3] = some true)
    (a__law_rows : PySem.W.nsIn K mainGlobals "_law_rows" = some (some (.ref f__law_rows)))
    (l__law_rows : K.lookup f__law_rows = some ⟨oc__law_rows, od__law_rows, .func (PySem.W.fnOf "_law_rows" "_law_rows" (defArgs s__law_rows) (defBody s__law_rows) (defScope s__law_rows) .none kV__law_rows dc__law_rows pm__law_rows an__law_rows cd__law_rows ct__law_rows), sl__law_rows⟩)
    (c__law_rows : PySem.W.codeIn K cd__law_rows "_law_rows" = true)
    (k__law_rows : PySem.W.keepIn K (.ref f__law_rows) = true)
    (a__law_used : PySem.W.nsIn K mainGlobals "_law_used" = some (some (.ref f__law_used)))
    (l__law_used : K.lookup f__law_used = some ⟨oc__law_used, od__law_used, .func (PySem.W.fnOf "_law_used" "_law_used" (defArgs s__law_used) (defBody s__law_used) (defScope s__law_used) .none kV__law_used dc__law_used pm__law_used an__law_used cd__law_used ct__law_used), sl__law_used⟩)
    (c__law_used : PySem.W.codeIn K cd__law_used "_law_used" = true)
    (k__law_used : PySem.W.keepIn K (.ref f__law_used) = true)
    (a__law_rule : PySem.W.nsIn K mainGlobals "_law_rule" = some (some (.ref f__law_rule)))
    (l__law_rule : K.lookup f__law_rule = some ⟨oc__law_rule, od__law_rule, .func (PySem.W.fnOf "_law_rule" "_law_rule" (defArgs s__law_rule) (defBody s__law_rule) (defScope s__law_rule) .none kV__law_rule dc__law_rule pm__law_rule an__law_rule cd__law_rule ct__law_rule), sl__law_rule⟩)
    (c__law_rule : PySem.W.codeIn K cd__law_rule "_law_rule" = true)
    (k__law_rule : PySem.W.keepIn K (.ref f__law_rule) = true)
    (a__law_fits : PySem.W.nsIn K mainGlobals "_law_fits" = some (some (.ref f__law_fits)))
    (l__law_fits : K.lookup f__law_fits = some ⟨oc__law_fits, od__law_fits, .func (PySem.W.fnOf "_law_fits" "_law_fits" (defArgs s__law_fits) (defBody s__law_fits) (defScope s__law_fits) .none kV__law_fits dc__law_fits pm__law_fits an__law_fits cd__law_fits ct__law_fits), sl__law_fits⟩)
    (c__law_fits : PySem.W.codeIn K cd__law_fits "_law_fits" = true)
    (k__law_fits : PySem.W.keepIn K (.ref f__law_fits) = true)
    (a__law_line_at : PySem.W.nsIn K mainGlobals "_law_line_at" = some (some (.ref f__law_line_at)))
    (l__law_line_at : K.lookup f__law_line_at = some ⟨oc__law_line_at, od__law_line_at, .func (PySem.W.fnOf "_law_line_at" "_law_line_at" (defArgs s__law_line_at) (defBody s__law_line_at) (defScope s__law_line_at) .none kV__law_line_at dc__law_line_at pm__law_line_at an__law_line_at cd__law_line_at ct__law_line_at), sl__law_line_at⟩)
    (c__law_line_at : PySem.W.codeIn K cd__law_line_at "_law_line_at" = true)
    (k__law_line_at : PySem.W.keepIn K (.ref f__law_line_at) = true)
    (a__law_cut : PySem.W.nsIn K mainGlobals "_law_cut" = some (some (.ref f__law_cut)))
    (l__law_cut : K.lookup f__law_cut = some ⟨oc__law_cut, od__law_cut, .func (PySem.W.fnOf "_law_cut" "_law_cut" (defArgs s__law_cut) (defBody s__law_cut) (defScope s__law_cut) .none kV__law_cut dc__law_cut pm__law_cut an__law_cut cd__law_cut ct__law_cut), sl__law_cut⟩)
    (c__law_cut : PySem.W.codeIn K cd__law_cut "_law_cut" = true)
    (k__law_cut : PySem.W.keepIn K (.ref f__law_cut) = true)
    (a__law_tries : PySem.W.nsIn K mainGlobals "_law_tries" = some (some (.ref f__law_tries)))
    (l__law_tries : K.lookup f__law_tries = some ⟨oc__law_tries, od__law_tries, .func (PySem.W.fnOf "_law_tries" "_law_tries" (defArgs s__law_tries) (defBody s__law_tries) (defScope s__law_tries) .none kV__law_tries dc__law_tries pm__law_tries an__law_tries cd__law_tries ct__law_tries), sl__law_tries⟩)
    (c__law_tries : PySem.W.codeIn K cd__law_tries "_law_tries" = true)
    (k__law_tries : PySem.W.keepIn K (.ref f__law_tries) = true)
    (a__law_try : PySem.W.nsIn K mainGlobals "_law_try" = some (some (.ref f__law_try)))
    (l__law_try : K.lookup f__law_try = some ⟨oc__law_try, od__law_try, .func (PySem.W.fnOf "_law_try" "_law_try" (defArgs s__law_try) (defBody s__law_try) (defScope s__law_try) .none kV__law_try dc__law_try pm__law_try an__law_try cd__law_try ct__law_try), sl__law_try⟩)
    (c__law_try : PySem.W.codeIn K cd__law_try "_law_try" = true)
    (k__law_try : PySem.W.keepIn K (.ref f__law_try) = true)
    (a__law_field : PySem.W.nsIn K mainGlobals "_law_field" = some (some (.ref f__law_field)))
    (l__law_field : K.lookup f__law_field = some ⟨oc__law_field, od__law_field, .func (PySem.W.fnOf "_law_field" "_law_field" (defArgs s__law_field) (defBody s__law_field) (defScope s__law_field) .none kV__law_field dc__law_field pm__law_field an__law_field cd__law_field ct__law_field), sl__law_field⟩)
    (c__law_field : PySem.W.codeIn K cd__law_field "_law_field" = true)
    (k__law_field : PySem.W.keepIn K (.ref f__law_field) = true)
    (a__law_same : PySem.W.nsIn K mainGlobals "_law_same" = some (some (.ref f__law_same)))
    (l__law_same : K.lookup f__law_same = some ⟨oc__law_same, od__law_same, .func (PySem.W.fnOf "_law_same" "_law_same" (defArgs s__law_same) (defBody s__law_same) (defScope s__law_same) .none kV__law_same dc__law_same pm__law_same an__law_same cd__law_same ct__law_same), sl__law_same⟩)
    (c__law_same : PySem.W.codeIn K cd__law_same "_law_same" = true)
    (k__law_same : PySem.W.keepIn K (.ref f__law_same) = true)
    (d_tab_NAMED : PySem.W.nsIn K mainGlobals "NAMED" = some (some (.ref a_tab_NAMED)))
    (e_tab_NAMED : K.lookup a_tab_NAMED = some ⟨.type "dict", none, .dict es_tab_NAMED n_tab_NAMED, #[]⟩)
    (h_tab_NAMED : PySem.W.KeysLit w.params es_tab_NAMED.toList)
    (v_tab_NAMED_both : PySem.W.nsIn K a_tab_NAMED "both" = some (some (.ref tp_NAMED_both)))
    (l_tab_NAMED_both : K.lookup tp_NAMED_both = some ⟨.type "tuple", od_tp_NAMED_both, .seq #[.int 0 tk0_tp_NAMED_both, .int 1 tk1_tp_NAMED_both] n_tp_NAMED_both, sl_tp_NAMED_both⟩)
    (v_tab_NAMED_first : PySem.W.nsIn K a_tab_NAMED "first" = some (some (.ref tp_NAMED_first)))
    (l_tab_NAMED_first : K.lookup tp_NAMED_first = some ⟨.type "tuple", od_tp_NAMED_first, .seq #[.int 0 tk0_tp_NAMED_first] n_tp_NAMED_first, sl_tp_NAMED_first⟩)
    (v_tab_NAMED_second : PySem.W.nsIn K a_tab_NAMED "second" = some (some (.ref tp_NAMED_second)))
    (l_tab_NAMED_second : K.lookup tp_NAMED_second = some ⟨.type "tuple", od_tp_NAMED_second, .seq #[.int 1 tk0_tp_NAMED_second] n_tp_NAMED_second, sl_tp_NAMED_second⟩)
    (v_tab_NAMED_either : PySem.W.nsIn K a_tab_NAMED "either" = some (some (.ref tp_NAMED_either)))
    (l_tab_NAMED_either : K.lookup tp_NAMED_either = some ⟨.type "tuple", od_tp_NAMED_either, .seq #[.int 0 tk0_tp_NAMED_either, .int 1 tk1_tp_NAMED_either] n_tp_NAMED_either, sl_tp_NAMED_either⟩)
    (a_is_string : PySem.W.nsIn K mainGlobals "is_string" = some (some (.ref f_is_string)))
    (l_is_string : K.lookup f_is_string = some ⟨oc_is_string, od_is_string, .func (PySem.W.fnOf "is_string" "is_string" (defArgs s_is_string) (defBody s_is_string) (defScope s_is_string) .none kV_is_string dc_is_string pm_is_string an_is_string cd_is_string ct_is_string), sl_is_string⟩)
    (c_is_string : PySem.W.codeIn K cd_is_string "is_string" = true)
    (k_is_string : PySem.W.keepIn K (.ref f_is_string) = true)
    (a_is_room : PySem.W.nsIn K mainGlobals "is_room" = some (some (.ref f_is_room)))
    (l_is_room : K.lookup f_is_room = some ⟨oc_is_room, od_is_room, .func (PySem.W.fnOf "is_room" "is_room" (defArgs s_is_room) (defBody s_is_room) (defScope s_is_room) .none kV_is_room dc_is_room pm_is_room an_is_room cd_is_room ct_is_room), sl_is_room⟩)
    (c_is_room : PySem.W.codeIn K cd_is_room "is_room" = true)
    (k_is_room : PySem.W.keepIn K (.ref f_is_room) = true)
    (a_check_room : PySem.W.nsIn K mainGlobals "check_room" = some (some (.ref f_check_room)))
    (l_check_room : K.lookup f_check_room = some ⟨oc_check_room, od_check_room, .func (PySem.W.fnOf "check_room" "check_room" (defArgs s_check_room) (defBody s_check_room) (defScope s_check_room) .none kV_check_room dc_check_room pm_check_room an_check_room cd_check_room ct_check_room), sl_check_room⟩)
    (c_check_room : PySem.W.codeIn K cd_check_room "check_room" = true)
    (k_check_room : PySem.W.keepIn K (.ref f_check_room) = true)
    (z_VIEWS : PySem.W.nsIn K mainGlobals "VIEWS" = some (some (.str "NESWAD" tk_VIEWS)))
    (a_is_letter : PySem.W.nsIn K mainGlobals "is_letter" = some (some (.ref f_is_letter)))
    (l_is_letter : K.lookup f_is_letter = some ⟨oc_is_letter, od_is_letter, .func (PySem.W.fnOf "is_letter" "is_letter" (defArgs s_is_letter) (defBody s_is_letter) (defScope s_is_letter) .none kV_is_letter dc_is_letter pm_is_letter an_is_letter cd_is_letter ct_is_letter), sl_is_letter⟩)
    (c_is_letter : PySem.W.codeIn K cd_is_letter "is_letter" = true)
    (k_is_letter : PySem.W.keepIn K (.ref f_is_letter) = true)
    (a_is_view : PySem.W.nsIn K mainGlobals "is_view" = some (some (.ref f_is_view)))
    (l_is_view : K.lookup f_is_view = some ⟨oc_is_view, od_is_view, .func (PySem.W.fnOf "is_view" "is_view" (defArgs s_is_view) (defBody s_is_view) (defScope s_is_view) .none kV_is_view dc_is_view pm_is_view an_is_view cd_is_view ct_is_view), sl_is_view⟩)
    (c_is_view : PySem.W.codeIn K cd_is_view "is_view" = true)
    (k_is_view : PySem.W.keepIn K (.ref f_is_view) = true)
    (a_check_view : PySem.W.nsIn K mainGlobals "check_view" = some (some (.ref f_check_view)))
    (l_check_view : K.lookup f_check_view = some ⟨oc_check_view, od_check_view, .func (PySem.W.fnOf "check_view" "check_view" (defArgs s_check_view) (defBody s_check_view) (defScope s_check_view) .none kV_check_view dc_check_view pm_check_view an_check_view cd_check_view ct_check_view), sl_check_view⟩)
    (c_check_view : PySem.W.codeIn K cd_check_view "check_view" = true)
    (k_check_view : PySem.W.keepIn K (.ref f_check_view) = true)
    (at_B_cut : PySem.W.findIn K (.ref CB) "cut" = some (some (.ref f_B_cut)))
    (fn_B_cut : PySem.W.isFn K (.ref f_B_cut) = true)
    (l_B_cut : K.lookup f_B_cut = some ⟨oc_B_cut, od_B_cut, .func (PySem.W.fnOf "cut" "Book.cut" (defArgs s_Book_cut) (defBody s_Book_cut) (defScope s_Book_cut) .none kV_B_cut dc_B_cut pm_B_cut an_B_cut cd_B_cut ct_B_cut), sl_B_cut⟩)
    (c_B_cut : PySem.W.codeIn K cd_B_cut "Book.cut" = true)
    (k_B_cut : PySem.W.keepIn K (.ref f_B_cut) = true)
    (at_B_line_at : PySem.W.findIn K (.ref CB) "line_at" = some (some (.ref f_B_line_at)))
    (fn_B_line_at : PySem.W.isFn K (.ref f_B_line_at) = true)
    (l_B_line_at : K.lookup f_B_line_at = some ⟨oc_B_line_at, od_B_line_at, .func (PySem.W.fnOf "line_at" "Book.line_at" (defArgs s_Book_line_at) (defBody s_Book_line_at) (defScope s_Book_line_at) .none kV_B_line_at dc_B_line_at pm_B_line_at an_B_line_at cd_B_line_at ct_B_line_at), sl_B_line_at⟩)
    (c_B_line_at : PySem.W.codeIn K cd_B_line_at "Book.line_at" = true)
    (k_B_line_at : PySem.W.keepIn K (.ref f_B_line_at) = true)
    (a_fits : PySem.W.nsIn K mainGlobals "fits" = some (some (.ref f_fits)))
    (l_fits : K.lookup f_fits = some ⟨oc_fits, od_fits, .func (PySem.W.fnOf "fits" "fits" (defArgs s_fits) (defBody s_fits) (defScope s_fits) .none kV_fits dc_fits pm_fits an_fits cd_fits ct_fits), sl_fits⟩)
    (c_fits : PySem.W.codeIn K cd_fits "fits" = true)
    (k_fits : PySem.W.keepIn K (.ref f_fits) = true)
    (a_parts_of : PySem.W.nsIn K mainGlobals "parts_of" = some (some (.ref f_parts_of)))
    (l_parts_of : K.lookup f_parts_of = some ⟨oc_parts_of, od_parts_of, .func (PySem.W.fnOf "parts_of" "parts_of" (defArgs s_parts_of) (defBody s_parts_of) (defScope s_parts_of) .none kV_parts_of dc_parts_of pm_parts_of an_parts_of cd_parts_of ct_parts_of), sl_parts_of⟩)
    (c_parts_of : PySem.W.codeIn K cd_parts_of "parts_of" = true)
    (k_parts_of : PySem.W.keepIn K (.ref f_parts_of) = true)
    (d_tab__UPRIGHT : PySem.W.nsIn K mainGlobals "_UPRIGHT" = some (some (.ref a_tab__UPRIGHT)))
    (e_tab__UPRIGHT : K.lookup a_tab__UPRIGHT = some ⟨.type "dict", none, .dict es_tab__UPRIGHT n_tab__UPRIGHT, #[]⟩)
    (h_tab__UPRIGHT : PySem.W.KeysLit w.params es_tab__UPRIGHT.toList)
    (v_tab__UPRIGHT_N : PySem.W.nsIn K a_tab__UPRIGHT "N" = some (some (.str "both" tk_tab__UPRIGHT_N)))
    (v_tab__UPRIGHT_E : PySem.W.nsIn K a_tab__UPRIGHT "E" = some (some (.str "second" tk_tab__UPRIGHT_E)))
    (v_tab__UPRIGHT_S : PySem.W.nsIn K a_tab__UPRIGHT "S" = some (some (.str "both" tk_tab__UPRIGHT_S)))
    (v_tab__UPRIGHT_W : PySem.W.nsIn K a_tab__UPRIGHT "W" = some (some (.str "first" tk_tab__UPRIGHT_W)))
    (v_tab__UPRIGHT_A : PySem.W.nsIn K a_tab__UPRIGHT "A" = some (some (.str "both" tk_tab__UPRIGHT_A)))
    (v_tab__UPRIGHT_D : PySem.W.nsIn K a_tab__UPRIGHT "D" = some (some (.str "either" tk_tab__UPRIGHT_D)))
    (d_tab__LEVEL : PySem.W.nsIn K mainGlobals "_LEVEL" = some (some (.ref a_tab__LEVEL)))
    (e_tab__LEVEL : K.lookup a_tab__LEVEL = some ⟨.type "dict", none, .dict es_tab__LEVEL n_tab__LEVEL, #[]⟩)
    (h_tab__LEVEL : PySem.W.KeysLit w.params es_tab__LEVEL.toList)
    (v_tab__LEVEL_N : PySem.W.nsIn K a_tab__LEVEL "N" = some (some (.str "first" tk_tab__LEVEL_N)))
    (v_tab__LEVEL_E : PySem.W.nsIn K a_tab__LEVEL "E" = some (some (.str "both" tk_tab__LEVEL_E)))
    (v_tab__LEVEL_S : PySem.W.nsIn K a_tab__LEVEL "S" = some (some (.str "second" tk_tab__LEVEL_S)))
    (v_tab__LEVEL_W : PySem.W.nsIn K a_tab__LEVEL "W" = some (some (.str "both" tk_tab__LEVEL_W)))
    (v_tab__LEVEL_A : PySem.W.nsIn K a_tab__LEVEL "A" = some (some (.str "either" tk_tab__LEVEL_A)))
    (v_tab__LEVEL_D : PySem.W.nsIn K a_tab__LEVEL "D" = some (some (.str "both" tk_tab__LEVEL_D)))
    (a_rule : PySem.W.nsIn K mainGlobals "rule" = some (some (.ref f_rule)))
    (l_rule : K.lookup f_rule = some ⟨oc_rule, od_rule, .func (PySem.W.fnOf "rule" "rule" (defArgs s_rule) (defBody s_rule) (defScope s_rule) .none kV_rule dc_rule pm_rule an_rule cd_rule ct_rule), sl_rule⟩)
    (c_rule : PySem.W.codeIn K cd_rule "rule" = true)
    (k_rule : PySem.W.keepIn K (.ref f_rule) = true)
    (a_splits : PySem.W.nsIn K mainGlobals "splits" = some (some (.ref f_splits)))
    (l_splits : K.lookup f_splits = some ⟨oc_splits, od_splits, .func (PySem.W.fnOf "splits" "splits" (defArgs s_splits) (defBody s_splits) (defScope s_splits) .none kV_splits dc_splits pm_splits an_splits cd_splits ct_splits), sl_splits⟩)
    (c_splits : PySem.W.codeIn K cd_splits "splits" = true)
    (k_splits : PySem.W.keepIn K (.ref f_splits) = true)
    (a_members : PySem.W.nsIn K mainGlobals "members" = some (some (.ref f_members)))
    (l_members : K.lookup f_members = some ⟨oc_members, od_members, .func (PySem.W.fnOf "members" "members" (defArgs s_members) (defBody s_members) (defScope s_members) .none kV_members dc_members pm_members an_members cd_members ct_members), sl_members⟩)
    (c_members : PySem.W.codeIn K cd_members "members" = true)
    (k_members : PySem.W.keepIn K (.ref f_members) = true)
    (a__law_draw : PySem.W.nsIn K mainGlobals "_law_draw" = some (some (.ref f__law_draw)))
    (l__law_draw : K.lookup f__law_draw = some ⟨oc__law_draw, od__law_draw, .func (PySem.W.fnOf "_law_draw" "_law_draw" (defArgs s__law_draw) (defBody s__law_draw) (defScope s__law_draw) .none kV__law_draw dc__law_draw pm__law_draw an__law_draw cd__law_draw ct__law_draw), sl__law_draw⟩)
    (c__law_draw : PySem.W.codeIn K cd__law_draw "_law_draw" = true)
    (k__law_draw : PySem.W.keepIn K (.ref f__law_draw) = true)
    (a__law_of : PySem.W.nsIn K mainGlobals "_law_of" = some (some (.ref f__law_of)))
    (l__law_of : K.lookup f__law_of = some ⟨oc__law_of, od__law_of, .func (PySem.W.fnOf "_law_of" "_law_of" (defArgs s__law_of) (defBody s__law_of) (defScope s__law_of) .none kV__law_of dc__law_of pm__law_of an__law_of cd__law_of ct__law_of), sl__law_of⟩)
    (c__law_of : PySem.W.codeIn K cd__law_of "_law_of" = true)
    (k__law_of : PySem.W.keepIn K (.ref f__law_of) = true)
    (a__law_odd_view : PySem.W.nsIn K mainGlobals "_law_odd_view" = some (some (.ref f__law_odd_view)))
    (l__law_odd_view : K.lookup f__law_odd_view = some ⟨oc__law_odd_view, od__law_odd_view, .func (PySem.W.fnOf "_law_odd_view" "_law_odd_view" (defArgs s__law_odd_view) (defBody s__law_odd_view) (defScope s__law_odd_view) .none kV__law_odd_view dc__law_odd_view pm__law_odd_view an__law_odd_view cd__law_odd_view ct__law_odd_view), sl__law_odd_view⟩)
    (c__law_odd_view : PySem.W.codeIn K cd__law_odd_view "_law_odd_view" = true)
    (k__law_odd_view : PySem.W.keepIn K (.ref f__law_odd_view) = true)
    (a__law_odd_room : PySem.W.nsIn K mainGlobals "_law_odd_room" = some (some (.ref f__law_odd_room)))
    (l__law_odd_room : K.lookup f__law_odd_room = some ⟨oc__law_odd_room, od__law_odd_room, .func (PySem.W.fnOf "_law_odd_room" "_law_odd_room" (defArgs s__law_odd_room) (defBody s__law_odd_room) (defScope s__law_odd_room) .none kV__law_odd_room dc__law_odd_room pm__law_odd_room an__law_odd_room cd__law_odd_room ct__law_odd_room), sl__law_odd_room⟩)
    (c__law_odd_room : PySem.W.codeIn K cd__law_odd_room "_law_odd_room" = true)
    (k__law_odd_room : PySem.W.keepIn K (.ref f__law_odd_room) = true)
    (a__law_split : PySem.W.nsIn K mainGlobals "_law_split" = some (some (.ref f__law_split)))
    (l__law_split : K.lookup f__law_split = some ⟨oc__law_split, od__law_split, .func (PySem.W.fnOf "_law_split" "_law_split" (defArgs s__law_split) (defBody s__law_split) (defScope s__law_split) .none kV__law_split dc__law_split pm__law_split an__law_split cd__law_split ct__law_split), sl__law_split⟩)
    (c__law_split : PySem.W.codeIn K cd__law_split "_law_split" = true)
    (k__law_split : PySem.W.keepIn K (.ref f__law_split) = true)
    (a__law_parts : PySem.W.nsIn K mainGlobals "_law_parts" = some (some (.ref f__law_parts)))
    (l__law_parts : K.lookup f__law_parts = some ⟨oc__law_parts, od__law_parts, .func (PySem.W.fnOf "_law_parts" "_law_parts" (defArgs s__law_parts) (defBody s__law_parts) (defScope s__law_parts) .none kV__law_parts dc__law_parts pm__law_parts an__law_parts cd__law_parts ct__law_parts), sl__law_parts⟩)
    (c__law_parts : PySem.W.codeIn K cd__law_parts "_law_parts" = true)
    (k__law_parts : PySem.W.keepIn K (.ref f__law_parts) = true)
    (a__law_turns : PySem.W.nsIn K mainGlobals "_law_turns" = some (some (.ref f__law_turns)))
    (l__law_turns : K.lookup f__law_turns = some ⟨oc__law_turns, od__law_turns, .func (PySem.W.fnOf "_law_turns" "_law_turns" (defArgs s__law_turns) (defBody s__law_turns) (defScope s__law_turns) .none kV__law_turns dc__law_turns pm__law_turns an__law_turns cd__law_turns ct__law_turns), sl__law_turns⟩)
    (c__law_turns : PySem.W.codeIn K cd__law_turns "_law_turns" = true)
    (k__law_turns : PySem.W.keepIn K (.ref f__law_turns) = true)
    (a__law_members : PySem.W.nsIn K mainGlobals "_law_members" = some (some (.ref f__law_members)))
    (l__law_members : K.lookup f__law_members = some ⟨oc__law_members, od__law_members, .func (PySem.W.fnOf "_law_members" "_law_members" (defArgs s__law_members) (defBody s__law_members) (defScope s__law_members) .none kV__law_members dc__law_members pm__law_members an__law_members cd__law_members ct__law_members), sl__law_members⟩)
    (c__law_members : PySem.W.codeIn K cd__law_members "_law_members" = true)
    (k__law_members : PySem.W.keepIn K (.ref f__law_members) = true)
    (a__law_some_history : PySem.W.nsIn K mainGlobals "_law_some_history" = some (some (.ref f__law_some_history)))
    (l__law_some_history : K.lookup f__law_some_history = some ⟨oc__law_some_history, od__law_some_history, .func (PySem.W.fnOf "_law_some_history" "_law_some_history" (defArgs s__law_some_history) (defBody s__law_some_history) (defScope s__law_some_history) .none kV__law_some_history dc__law_some_history pm__law_some_history an__law_some_history cd__law_some_history ct__law_some_history), sl__law_some_history⟩)
    (c__law_some_history : PySem.W.codeIn K cd__law_some_history "_law_some_history" = true)
    (k__law_some_history : PySem.W.keepIn K (.ref f__law_some_history) = true)
    (a__law_some_room : PySem.W.nsIn K mainGlobals "_law_some_room" = some (some (.ref f__law_some_room)))
    (l__law_some_room : K.lookup f__law_some_room = some ⟨oc__law_some_room, od__law_some_room, .func (PySem.W.fnOf "_law_some_room" "_law_some_room" (defArgs s__law_some_room) (defBody s__law_some_room) (defScope s__law_some_room) .none kV__law_some_room dc__law_some_room pm__law_some_room an__law_some_room cd__law_some_room ct__law_some_room), sl__law_some_room⟩)
    (c__law_some_room : PySem.W.codeIn K cd__law_some_room "_law_some_room" = true)
    (k__law_some_room : PySem.W.keepIn K (.ref f__law_some_room) = true)
    (B_init : PySem.W.findIn K (.ref CB) "__init__" = some (some (.ref f_Bi)))
    (B_ifn : PySem.W.isFn K (.ref f_Bi) = true)
    (l_Bi : K.lookup f_Bi = some ⟨oc_Bi, od_Bi, .func (PySem.W.fnOf "__init__" "Book.__init__" (defArgs s_Book_init) (defBody s_Book_init) (defScope s_Book_init) .none kV_Bi dc_Bi pm_Bi an_Bi cd_Bi ct_Bi), sl_Bi⟩)
    (c_Bi : PySem.W.codeIn K cd_Bi "Book.__init__" = true)
    (k_Bi : PySem.W.keepIn K (.ref f_Bi) = true)
    (z__LOWER : PySem.W.nsIn K mainGlobals "_LOWER" = some (some (.str "abcdefghijklmnopqrstuvwxyz" tk__LOWER)))
    (z__MOST_FACES : PySem.W.nsIn K mainGlobals "_MOST_FACES" = some (some (.int 6 tk__MOST_FACES)))
    (a_is_ascending : PySem.W.nsIn K mainGlobals "is_ascending" = some (some (.ref f_is_ascending)))
    (l_is_ascending : K.lookup f_is_ascending = some ⟨oc_is_ascending, od_is_ascending, .func (PySem.W.fnOf "is_ascending" "is_ascending" (defArgs s_is_ascending) (defBody s_is_ascending) (defScope s_is_ascending) .none kV_is_ascending dc_is_ascending pm_is_ascending an_is_ascending cd_is_ascending ct_is_ascending), sl_is_ascending⟩)
    (c_is_ascending : PySem.W.codeIn K cd_is_ascending "is_ascending" = true)
    (k_is_ascending : PySem.W.keepIn K (.ref f_is_ascending) = true)
    (a_is_choice : PySem.W.nsIn K mainGlobals "is_choice" = some (some (.ref f_is_choice)))
    (l_is_choice : K.lookup f_is_choice = some ⟨oc_is_choice, od_is_choice, .func (PySem.W.fnOf "is_choice" "is_choice" (defArgs s_is_choice) (defBody s_is_choice) (defScope s_is_choice) .none kV_is_choice dc_is_choice pm_is_choice an_is_choice cd_is_choice ct_is_choice), sl_is_choice⟩)
    (c_is_choice : PySem.W.codeIn K cd_is_choice "is_choice" = true)
    (k_is_choice : PySem.W.keepIn K (.ref f_is_choice) = true)
    (a_is_faces : PySem.W.nsIn K mainGlobals "is_faces" = some (some (.ref f_is_faces)))
    (l_is_faces : K.lookup f_is_faces = some ⟨oc_is_faces, od_is_faces, .func (PySem.W.fnOf "is_faces" "is_faces" (defArgs s_is_faces) (defBody s_is_faces) (defScope s_is_faces) .none kV_is_faces dc_is_faces pm_is_faces an_is_faces cd_is_faces ct_is_faces), sl_is_faces⟩)
    (c_is_faces : PySem.W.codeIn K cd_is_faces "is_faces" = true)
    (k_is_faces : PySem.W.keepIn K (.ref f_is_faces) = true)
    (z__UPPER : PySem.W.nsIn K mainGlobals "_UPPER" = some (some (.str "ABCDEFGHIJKLMNOPQRSTUVWXYZ" tk__UPPER)))
    (z__MOST_CUTTERS : PySem.W.nsIn K mainGlobals "_MOST_CUTTERS" = some (some (.int 4 tk__MOST_CUTTERS)))
    (a_is_cutters : PySem.W.nsIn K mainGlobals "is_cutters" = some (some (.ref f_is_cutters)))
    (l_is_cutters : K.lookup f_is_cutters = some ⟨oc_is_cutters, od_is_cutters, .func (PySem.W.fnOf "is_cutters" "is_cutters" (defArgs s_is_cutters) (defBody s_is_cutters) (defScope s_is_cutters) .none kV_is_cutters dc_is_cutters pm_is_cutters an_is_cutters cd_is_cutters ct_is_cutters), sl_is_cutters⟩)
    (c_is_cutters : PySem.W.codeIn K cd_is_cutters "is_cutters" = true)
    (k_is_cutters : PySem.W.keepIn K (.ref f_is_cutters) = true)
    (a_is_part : PySem.W.nsIn K mainGlobals "is_part" = some (some (.ref f_is_part)))
    (l_is_part : K.lookup f_is_part = some ⟨oc_is_part, od_is_part, .func (PySem.W.fnOf "is_part" "is_part" (defArgs s_is_part) (defBody s_is_part) (defScope s_is_part) .none kV_is_part dc_is_part pm_is_part an_is_part cd_is_part ct_is_part), sl_is_part⟩)
    (c_is_part : PySem.W.codeIn K cd_is_part "is_part" = true)
    (k_is_part : PySem.W.keepIn K (.ref f_is_part) = true)
    (a_is_cut : PySem.W.nsIn K mainGlobals "is_cut" = some (some (.ref f_is_cut)))
    (l_is_cut : K.lookup f_is_cut = some ⟨oc_is_cut, od_is_cut, .func (PySem.W.fnOf "is_cut" "is_cut" (defArgs s_is_cut) (defBody s_is_cut) (defScope s_is_cut) .none kV_is_cut dc_is_cut pm_is_cut an_is_cut cd_is_cut ct_is_cut), sl_is_cut⟩)
    (c_is_cut : PySem.W.codeIn K cd_is_cut "is_cut" = true)
    (k_is_cut : PySem.W.keepIn K (.ref f_is_cut) = true)
    (a_is_line : PySem.W.nsIn K mainGlobals "is_line" = some (some (.ref f_is_line)))
    (l_is_line : K.lookup f_is_line = some ⟨oc_is_line, od_is_line, .func (PySem.W.fnOf "is_line" "is_line" (defArgs s_is_line) (defBody s_is_line) (defScope s_is_line) .none kV_is_line dc_is_line pm_is_line an_is_line cd_is_line ct_is_line), sl_is_line⟩)
    (c_is_line : PySem.W.codeIn K cd_is_line "is_line" = true)
    (k_is_line : PySem.W.keepIn K (.ref f_is_line) = true)
    (a_head_of : PySem.W.nsIn K mainGlobals "head_of" = some (some (.ref f_head_of)))
    (l_head_of : K.lookup f_head_of = some ⟨oc_head_of, od_head_of, .func (PySem.W.fnOf "head_of" "head_of" (defArgs s_head_of) (defBody s_head_of) (defScope s_head_of) .none kV_head_of dc_head_of pm_head_of an_head_of cd_head_of ct_head_of), sl_head_of⟩)
    (c_head_of : PySem.W.codeIn K cd_head_of "head_of" = true)
    (k_head_of : PySem.W.keepIn K (.ref f_head_of) = true)
    (a_line_of : PySem.W.nsIn K mainGlobals "line_of" = some (some (.ref f_line_of)))
    (l_line_of : K.lookup f_line_of = some ⟨oc_line_of, od_line_of, .func (PySem.W.fnOf "line_of" "line_of" (defArgs s_line_of) (defBody s_line_of) (defScope s_line_of) .none kV_line_of dc_line_of pm_line_of an_line_of cd_line_of ct_line_of), sl_line_of⟩)
    (c_line_of : PySem.W.codeIn K cd_line_of "line_of" = true)
    (k_line_of : PySem.W.keepIn K (.ref f_line_of) = true)
    (S_fd : PySem.W.findCls K (.ref CB) (.type "type") "read" = some (.get (.builtin "staticmethod.__get__") (.ref p_read) .none (.ref CB)))
    (S_rc : PySem.W.recIn K p_read "staticmethod" = some (.ref f_B_read :: r_read))
    (l_B_read : K.lookup f_B_read = some ⟨oc_B_read, od_B_read, .func (PySem.W.fnOf "read" "Book.read" (defArgs s_Book_read) (defBody s_Book_read) (defScope s_Book_read) .none kV_B_read dc_B_read pm_B_read an_B_read cd_B_read ct_B_read), sl_B_read⟩)
    (c_B_read : PySem.W.codeIn K cd_B_read "Book.read" = true)
    (k_B_read : PySem.W.keepIn K (.ref f_B_read) = true)
    (a__law_line_text : PySem.W.nsIn K mainGlobals "_law_line_text" = some (some (.ref f__law_line_text)))
    (l__law_line_text : K.lookup f__law_line_text = some ⟨oc__law_line_text, od__law_line_text, .func (PySem.W.fnOf "_law_line_text" "_law_line_text" (defArgs s__law_line_text) (defBody s__law_line_text) (defScope s__law_line_text) .none kV__law_line_text dc__law_line_text pm__law_line_text an__law_line_text cd__law_line_text ct__law_line_text), sl__law_line_text⟩)
    (c__law_line_text : PySem.W.codeIn K cd__law_line_text "_law_line_text" = true)
    (k__law_line_text : PySem.W.keepIn K (.ref f__law_line_text) = true)
    (a__law_book_text : PySem.W.nsIn K mainGlobals "_law_book_text" = some (some (.ref f__law_book_text)))
    (l__law_book_text : K.lookup f__law_book_text = some ⟨oc__law_book_text, od__law_book_text, .func (PySem.W.fnOf "_law_book_text" "_law_book_text" (defArgs s__law_book_text) (defBody s__law_book_text) (defScope s__law_book_text) .none kV__law_book_text dc__law_book_text pm__law_book_text an__law_book_text cd__law_book_text ct__law_book_text), sl__law_book_text⟩)
    (c__law_book_text : PySem.W.codeIn K cd__law_book_text "_law_book_text" = true)
    (k__law_book_text : PySem.W.keepIn K (.ref f__law_book_text) = true)
    (a__law_book : PySem.W.nsIn K mainGlobals "_law_book" = some (some (.ref f__law_book)))
    (l__law_book : K.lookup f__law_book = some ⟨oc__law_book, od__law_book, .func (PySem.W.fnOf "_law_book" "_law_book" (defArgs s__law_book) (defBody s__law_book) (defScope s__law_book) .none kV__law_book dc__law_book pm__law_book an__law_book cd__law_book ct__law_book), sl__law_book⟩)
    (c__law_book : PySem.W.codeIn K cd__law_book "_law_book" = true)
    (k__law_book : PySem.W.keepIn K (.ref f__law_book) = true)
    (a__law_part : PySem.W.nsIn K mainGlobals "_law_part" = some (some (.ref f__law_part)))
    (l__law_part : K.lookup f__law_part = some ⟨oc__law_part, od__law_part, .func (PySem.W.fnOf "_law_part" "_law_part" (defArgs s__law_part) (defBody s__law_part) (defScope s__law_part) .none kV__law_part dc__law_part pm__law_part an__law_part cd__law_part ct__law_part), sl__law_part⟩)
    (c__law_part : PySem.W.codeIn K cd__law_part "_law_part" = true)
    (k__law_part : PySem.W.keepIn K (.ref f__law_part) = true)
    (a__law_some_cut : PySem.W.nsIn K mainGlobals "_law_some_cut" = some (some (.ref f__law_some_cut)))
    (l__law_some_cut : K.lookup f__law_some_cut = some ⟨oc__law_some_cut, od__law_some_cut, .func (PySem.W.fnOf "_law_some_cut" "_law_some_cut" (defArgs s__law_some_cut) (defBody s__law_some_cut) (defScope s__law_some_cut) .none kV__law_some_cut dc__law_some_cut pm__law_some_cut an__law_some_cut cd__law_some_cut ct__law_some_cut), sl__law_some_cut⟩)
    (c__law_some_cut : PySem.W.codeIn K cd__law_some_cut "_law_some_cut" = true)
    (k__law_some_cut : PySem.W.keepIn K (.ref f__law_some_cut) = true)
    (a__law_letters : PySem.W.nsIn K mainGlobals "_law_letters" = some (some (.ref f__law_letters)))
    (l__law_letters : K.lookup f__law_letters = some ⟨oc__law_letters, od__law_letters, .func (PySem.W.fnOf "_law_letters" "_law_letters" (defArgs s__law_letters) (defBody s__law_letters) (defScope s__law_letters) .none kV__law_letters dc__law_letters pm__law_letters an__law_letters cd__law_letters ct__law_letters), sl__law_letters⟩)
    (c__law_letters : PySem.W.codeIn K cd__law_letters "_law_letters" = true)
    (k__law_letters : PySem.W.keepIn K (.ref f__law_letters) = true)
    (a__law_some_faces : PySem.W.nsIn K mainGlobals "_law_some_faces" = some (some (.ref f__law_some_faces)))
    (l__law_some_faces : K.lookup f__law_some_faces = some ⟨oc__law_some_faces, od__law_some_faces, .func (PySem.W.fnOf "_law_some_faces" "_law_some_faces" (defArgs s__law_some_faces) (defBody s__law_some_faces) (defScope s__law_some_faces) .none kV__law_some_faces dc__law_some_faces pm__law_some_faces an__law_some_faces cd__law_some_faces ct__law_some_faces), sl__law_some_faces⟩)
    (c__law_some_faces : PySem.W.codeIn K cd__law_some_faces "_law_some_faces" = true)
    (k__law_some_faces : PySem.W.keepIn K (.ref f__law_some_faces) = true)
    (a__law_some_cutters : PySem.W.nsIn K mainGlobals "_law_some_cutters" = some (some (.ref f__law_some_cutters)))
    (l__law_some_cutters : K.lookup f__law_some_cutters = some ⟨oc__law_some_cutters, od__law_some_cutters, .func (PySem.W.fnOf "_law_some_cutters" "_law_some_cutters" (defArgs s__law_some_cutters) (defBody s__law_some_cutters) (defScope s__law_some_cutters) .none kV__law_some_cutters dc__law_some_cutters pm__law_some_cutters an__law_some_cutters cd__law_some_cutters ct__law_some_cutters), sl__law_some_cutters⟩)
    (c__law_some_cutters : PySem.W.codeIn K cd__law_some_cutters "_law_some_cutters" = true)
    (k__law_some_cutters : PySem.W.keepIn K (.ref f__law_some_cutters) = true)
    (a__law_some_line : PySem.W.nsIn K mainGlobals "_law_some_line" = some (some (.ref f__law_some_line)))
    (l__law_some_line : K.lookup f__law_some_line = some ⟨oc__law_some_line, od__law_some_line, .func (PySem.W.fnOf "_law_some_line" "_law_some_line" (defArgs s__law_some_line) (defBody s__law_some_line) (defScope s__law_some_line) .none kV__law_some_line dc__law_some_line pm__law_some_line an__law_some_line cd__law_some_line ct__law_some_line), sl__law_some_line⟩)
    (c__law_some_line : PySem.W.codeIn K cd__law_some_line "_law_some_line" = true)
    (k__law_some_line : PySem.W.keepIn K (.ref f__law_some_line) = true)
    (a__law_some_book : PySem.W.nsIn K mainGlobals "_law_some_book" = some (some (.ref f__law_some_book)))
    (l__law_some_book : K.lookup f__law_some_book = some ⟨oc__law_some_book, od__law_some_book, .func (PySem.W.fnOf "_law_some_book" "_law_some_book" (defArgs s__law_some_book) (defBody s__law_some_book) (defScope s__law_some_book) .none kV__law_some_book dc__law_some_book pm__law_some_book an__law_some_book cd__law_some_book ct__law_some_book), sl__law_some_book⟩)
    (c__law_some_book : PySem.W.codeIn K cd__law_some_book "_law_some_book" = true)
    (k__law_some_book : PySem.W.keepIn K (.ref f__law_some_book) = true)
    (a__law_open : PySem.W.nsIn K mainGlobals "_law_open" = some (some (.ref f__law_open)))
    (l__law_open : K.lookup f__law_open = some ⟨oc__law_open, od__law_open, .func (PySem.W.fnOf "_law_open" "_law_open" (defArgs s__law_open) (defBody s__law_open) (defScope s__law_open) .none kV__law_open dc__law_open pm__law_open an__law_open cd__law_open ct__law_open), sl__law_open⟩)
    (c__law_open : PySem.W.codeIn K cd__law_open "_law_open" = true)
    (k__law_open : PySem.W.keepIn K (.ref f__law_open) = true)
    (a_law : PySem.W.nsIn K mainGlobals "law" = some (some (.ref f_law)))
    (l_law : K.lookup f_law = some ⟨oc_law, od_law, .func (PySem.W.fnOf "law" "law" (defArgs s_law) (defBody s_law) (defScope s_law) .none kV_law dc_law pm_law an_law (.ref c) ct_law), sl_law⟩)
    (c_law : PySem.W.codeIn K (.ref c) "law" = true)
    (y_isinstance : PySem.W.nsIn K mainGlobals "isinstance" = some none)
    (y_str : PySem.W.nsIn K mainGlobals "str" = some none)
    (y_all : PySem.W.nsIn K mainGlobals "all" = some none)
    (y_any : PySem.W.nsIn K mainGlobals "any" = some none)
    (y_len : PySem.W.nsIn K mainGlobals "len" = some none)
    (y_int : PySem.W.nsIn K mainGlobals "int" = some none)
    (y_list : PySem.W.nsIn K mainGlobals "list" = some none)
    (y_abs : PySem.W.nsIn K mainGlobals "abs" = some none)
    (y_bool : PySem.W.nsIn K mainGlobals "bool" = some none)
    (y_tuple : PySem.W.nsIn K mainGlobals "tuple" = some none)
    (y_zip : PySem.W.nsIn K mainGlobals "zip" = some none)
    (y_range : PySem.W.nsIn K mainGlobals "range" = some none)
    (y_enumerate : PySem.W.nsIn K mainGlobals "enumerate" = some none)
    (y_sorted : PySem.W.nsIn K mainGlobals "sorted" = some none)
    (y_dict : PySem.W.nsIn K mainGlobals "dict" = some none)
    (y_set : PySem.W.nsIn K mainGlobals "set" = some none)
    (y_sum : PySem.W.nsIn K mainGlobals "sum" = some none)
    (y_min : PySem.W.nsIn K mainGlobals "min" = some none)
    (y_max : PySem.W.nsIn K mainGlobals "max" = some none)
    (y_reversed : PySem.W.nsIn K mainGlobals "reversed" = some none)
    (y_repr : PySem.W.nsIn K mainGlobals "repr" = some none)
    (y_ord : PySem.W.nsIn K mainGlobals "ord" = some none)
    : ∃ fd : FuncData, (∀ (s : Shared) (v : Value), BindsTo s fd ⟨[v], []⟩ [("_law_script", v)]) ∧ ∀ base : Heap, K.In base → base.Ns mainGlobals mg → LamX.TabB base mg c Pt → FnOk l.prog w K mg base L2.CX0 18 fa fd ["_law_script"] (sp_law K Pt) := by
  have e := hfa.symm.trans (PySem.W.mg_of X G a_law)
  cases e
  have T : Z mg := ⟨PySem.W.mg_none_of X G y_isinstance, PySem.W.mg_none_of X G y_str, PySem.W.mg_none_of X G y_all, PySem.W.mg_none_of X G y_any, PySem.W.mg_none_of X G y_len, PySem.W.mg_none_of X G y_int, PySem.W.mg_none_of X G y_list, PySem.W.mg_none_of X G y_abs, PySem.W.mg_none_of X G y_bool, PySem.W.mg_none_of X G y_tuple, PySem.W.mg_none_of X G y_zip, PySem.W.mg_none_of X G y_range, PySem.W.mg_none_of X G y_enumerate, PySem.W.mg_none_of X G y_sorted, PySem.W.mg_none_of X G y_dict, PySem.W.mg_none_of X G y_set, PySem.W.mg_none_of X G y_sum, PySem.W.mg_none_of X G y_min, PySem.W.mg_none_of X G y_max, PySem.W.mg_none_of X G y_reversed, PySem.W.mg_none_of X G y_repr, PySem.W.mg_none_of X G y_ord⟩
  have gB := PySem.W.mg_of X G B_g
  have BC : BookC K CB := ⟨⟨B_pg, B_hd, B_po, B_sa⟩, B_nf, B_nc, B_nl⟩
  have rC : ClX.CRead K CB (.type "type") := ⟨B_rd, B_sg⟩
  have vM : ClX.CVal K CB (.type "type") "MOST" (.int 8) (.int 8 t8) := ⟨B_most, ⟨t8, rfl⟩⟩
  have hC := BC.c
  have nf := BC.nf
  have nc := BC.nc
  have nl := BC.nl
  have GS : GsK K := ⟨gs1, gs2⟩
  have Fi_InvalidRoom := fun_mk (st := s_InvalidRoom_init) elI_InvalidRoom ecI_InvalidRoom ekI_InvalidRoom
  have bI_InvalidRoom := Fi_InvalidRoom.binds (ps := ["self", "given"]) fun _ _ _ _ _ _ us hl => match us, hl with | [_, _], _ => rfl
  have Kls_InvalidRoom : Kls K mg C_InvalidRoom fI_InvalidRoom "InvalidRoom" := ⟨PySem.W.mg_of X G eg_InvalidRoom, ⟨⟨_, _, _, _, _, _, _, _, _, _, _, _, _, _, _, el_InvalidRoom, eb_InvalidRoom⟩, esa_InvalidRoom, ex_InvalidRoom, ety_InvalidRoom, ek_InvalidRoom⟩, ⟨ecl_InvalidRoom, ega_InvalidRoom, egg_InvalidRoom, ex_InvalidRoom, efc_InvalidRoom, eob_InvalidRoom⟩, ⟨⟨_, tk_InvalidRoom, el_InvalidRoom, rfl⟩, ety_InvalidRoom, erd_InvalidRoom, efdn_InvalidRoom⟩, ⟨ega_InvalidRoom, egg_InvalidRoom, ex_InvalidRoom, ehd_InvalidRoom⟩, enc_InvalidRoom, eini_InvalidRoom, etI_InvalidRoom⟩
  have nf_InvalidRoom := enf_InvalidRoom
  have g_C1 := PySem.W.mg_of X G e_C1
  have g_C2 := PySem.W.mg_of X G e_C2
  have g_C3 := PySem.W.mg_of X G e_C3
  have Err_InvalidRoom : ErrF K mg C_InvalidRoom "given" "InvalidRoom" [.ref C1, .ref C2, .ref C3] := ⟨⟨_, Kls_InvalidRoom⟩, nf_InvalidRoom, hx_InvalidRoom, fun v => fi_given (z := Str.ofString "InvalidRoom") (by decide +kernel) nf_InvalidRoom v⟩
  have Fi_InvalidView := fun_mk (st := s_InvalidView_init) elI_InvalidView ecI_InvalidView ekI_InvalidView
  have bI_InvalidView := Fi_InvalidView.binds (ps := ["self", "given"]) fun _ _ _ _ _ _ us hl => match us, hl with | [_, _], _ => rfl
  have Kls_InvalidView : Kls K mg C_InvalidView fI_InvalidView "InvalidView" := ⟨PySem.W.mg_of X G eg_InvalidView, ⟨⟨_, _, _, _, _, _, _, _, _, _, _, _, _, _, _, el_InvalidView, eb_InvalidView⟩, esa_InvalidView, ex_InvalidView, ety_InvalidView, ek_InvalidView⟩, ⟨ecl_InvalidView, ega_InvalidView, egg_InvalidView, ex_InvalidView, efc_InvalidView, eob_InvalidView⟩, ⟨⟨_, tk_InvalidView, el_InvalidView, rfl⟩, ety_InvalidView, erd_InvalidView, efdn_InvalidView⟩, ⟨ega_InvalidView, egg_InvalidView, ex_InvalidView, ehd_InvalidView⟩, enc_InvalidView, eini_InvalidView, etI_InvalidView⟩
  have nf_InvalidView := enf_InvalidView
  have Err_InvalidView : ErrF K mg C_InvalidView "given" "InvalidView" [.ref C1, .ref C2, .ref C3] := ⟨⟨_, Kls_InvalidView⟩, nf_InvalidView, hx_InvalidView, fun v => fi_given (z := Str.ofString "InvalidView") (by decide +kernel) nf_InvalidView v⟩
  have F__law_rows := fun_mk (st := s__law_rows) l__law_rows c__law_rows k__law_rows
  have b__law_rows := F__law_rows.binds (ps := ["_law_spec", "_law_tree", "_law_view_z", "_law_address"]) fun _ _ _ _ _ _ us hl => match us, hl with | [_, _, _, _], _ => rfl
  have m__law_rows := PySem.W.mg_of X G a__law_rows
  have F__law_used := fun_mk (st := s__law_used) l__law_used c__law_used k__law_used
  have b__law_used := F__law_used.binds (ps := ["_law_view_z", "_law_cut_here"]) fun _ _ _ _ _ _ us hl => match us, hl with | [_, _], _ => rfl
  have m__law_used := PySem.W.mg_of X G a__law_used
  have F__law_rule := fun_mk (st := s__law_rule) l__law_rule c__law_rule k__law_rule
  have b__law_rule := F__law_rule.binds (ps := ["_law_view_z", "_law_cut_here"]) fun _ _ _ _ _ _ us hl => match us, hl with | [_, _], _ => rfl
  have m__law_rule := PySem.W.mg_of X G a__law_rule
  have F__law_fits := fun_mk (st := s__law_fits) l__law_fits c__law_fits k__law_fits
  have b__law_fits := F__law_fits.binds (ps := ["_law_line", "_law_room", "_law_cutter"]) fun _ _ _ _ _ _ us hl => match us, hl with | [_, _, _], _ => rfl
  have m__law_fits := PySem.W.mg_of X G a__law_fits
  have F__law_line_at := fun_mk (st := s__law_line_at) l__law_line_at c__law_line_at k__law_line_at
  have b__law_line_at := F__law_line_at.binds (ps := ["_law_spec", "_law_room", "_law_cutter"]) fun _ _ _ _ _ _ us hl => match us, hl with | [_, _, _], _ => rfl
  have m__law_line_at := PySem.W.mg_of X G a__law_line_at
  have F__law_cut := fun_mk (st := s__law_cut) l__law_cut c__law_cut k__law_cut
  have b__law_cut := F__law_cut.binds (ps := ["_law_spec", "_law_room", "_law_cutter"]) fun _ _ _ _ _ _ us hl => match us, hl with | [_, _, _], _ => rfl
  have m__law_cut := PySem.W.mg_of X G a__law_cut
  have F__law_tries := fun_mk (st := s__law_tries) l__law_tries c__law_tries k__law_tries
  have b__law_tries := F__law_tries.binds (ps := ["_law_asks"]) fun _ _ _ _ _ _ us hl => match us, hl with | [_], _ => rfl
  have m__law_tries := PySem.W.mg_of X G a__law_tries
  have F__law_try := fun_mk (st := s__law_try) l__law_try c__law_try k__law_try
  have b__law_try := F__law_try.binds (ps := ["_law_ask"]) fun _ _ _ _ _ _ us hl => match us, hl with | [_], _ => rfl
  have m__law_try := PySem.W.mg_of X G a__law_try
  have F__law_field := fun_mk (st := s__law_field) l__law_field c__law_field k__law_field
  have b__law_field := F__law_field.binds (ps := ["_law_e"]) fun _ _ _ _ _ _ us hl => match us, hl with | [_], _ => rfl
  have m__law_field := PySem.W.mg_of X G a__law_field
  have F__law_same := fun_mk (st := s__law_same) l__law_same c__law_same k__law_same
  have b__law_same := F__law_same.binds (ps := ["_law_found", "_law_due"]) fun _ _ _ _ _ _ us hl => match us, hl with | [_, _], _ => rfl
  have m__law_same := PySem.W.mg_of X G a__law_same
  have g_tab_NAMED := PySem.W.mg_of X G d_tab_NAMED
  have t_tab_NAMED : NamedAt K w a_tab_NAMED := by
    intro wd hwd
    simp only [wordsT, List.mem_cons, List.not_mem_nil, or_false] at hwd
    rcases hwd with rfl | rfl | rfl | rfl
    · refine ⟨tp_NAMED_both, ⟨_, _, _, e_tab_NAMED, h_tab_NAMED, v_tab_NAMED_both, rfl⟩, fun H => .inr ⟨_, _, _, l_tab_NAMED_both, rfl, rfl, (show 2 ≤ sizeLine by decide), ?_⟩⟩
      rw [show idxW "both" = [0, 1] from by decide +kernel]
      exact .cons ⟨_, rfl⟩ (.cons ⟨_, rfl⟩ .nil)
    · refine ⟨tp_NAMED_first, ⟨_, _, _, e_tab_NAMED, h_tab_NAMED, v_tab_NAMED_first, rfl⟩, fun H => .inr ⟨_, _, _, l_tab_NAMED_first, rfl, rfl, (show 1 ≤ sizeLine by decide), ?_⟩⟩
      rw [show idxW "first" = [0] from by decide +kernel]
      exact .cons ⟨_, rfl⟩ .nil
    · refine ⟨tp_NAMED_second, ⟨_, _, _, e_tab_NAMED, h_tab_NAMED, v_tab_NAMED_second, rfl⟩, fun H => .inr ⟨_, _, _, l_tab_NAMED_second, rfl, rfl, (show 1 ≤ sizeLine by decide), ?_⟩⟩
      rw [show idxW "second" = [1] from by decide +kernel]
      exact .cons ⟨_, rfl⟩ .nil
    · refine ⟨tp_NAMED_either, ⟨_, _, _, e_tab_NAMED, h_tab_NAMED, v_tab_NAMED_either, rfl⟩, fun H => .inr ⟨_, _, _, l_tab_NAMED_either, rfl, rfl, (show 2 ≤ sizeLine by decide), ?_⟩⟩
      rw [show idxW "either" = [0, 1] from by decide +kernel]
      exact .cons ⟨_, rfl⟩ (.cons ⟨_, rfl⟩ .nil)
  have F_is_string := fun_mk (st := s_is_string) l_is_string c_is_string k_is_string
  have b_is_string := F_is_string.binds (ps := ["value", "faces"]) fun _ _ _ _ _ _ us hl => match us, hl with | [_, _], _ => rfl
  have m_is_string := PySem.W.mg_of X G a_is_string
  have F_is_room := fun_mk (st := s_is_room) l_is_room c_is_room k_is_room
  have b_is_room := F_is_room.binds (ps := ["value", "faces"]) fun _ _ _ _ _ _ us hl => match us, hl with | [_, _], _ => rfl
  have m_is_room := PySem.W.mg_of X G a_is_room
  have F_check_room := fun_mk (st := s_check_room) l_check_room c_check_room k_check_room
  have b_check_room := F_check_room.binds (ps := ["book", "room"]) fun _ _ _ _ _ _ us hl => match us, hl with | [_, _], _ => rfl
  have m_check_room := PySem.W.mg_of X G a_check_room
  have g_VIEWS := PySem.W.mg_of X G z_VIEWS
  have F_is_letter := fun_mk (st := s_is_letter) l_is_letter c_is_letter k_is_letter
  have b_is_letter := F_is_letter.binds (ps := ["value", "letters"]) fun _ _ _ _ _ _ us hl => match us, hl with | [_, _], _ => rfl
  have m_is_letter := PySem.W.mg_of X G a_is_letter
  have F_is_view := fun_mk (st := s_is_view) l_is_view c_is_view k_is_view
  have b_is_view := F_is_view.binds (ps := ["value"]) fun _ _ _ _ _ _ us hl => match us, hl with | [_], _ => rfl
  have m_is_view := PySem.W.mg_of X G a_is_view
  have F_check_view := fun_mk (st := s_check_view) l_check_view c_check_view k_check_view
  have b_check_view := F_check_view.binds (ps := ["view"]) fun _ _ _ _ _ _ us hl => match us, hl with | [_], _ => rfl
  have m_check_view := PySem.W.mg_of X G a_check_view
  have F_B_cut := fun_mk (st := s_Book_cut) l_B_cut c_B_cut k_B_cut
  have b_B_cut := F_B_cut.binds (ps := ["self", "room", "cutter"]) fun _ _ _ _ _ _ us hl => match us, hl with | [_, _, _], _ => rfl
  have mt_B_cut : Meth K CB "cut" f_B_cut := ⟨at_B_cut, fn_B_cut, k_B_cut⟩
  have F_B_line_at := fun_mk (st := s_Book_line_at) l_B_line_at c_B_line_at k_B_line_at
  have b_B_line_at := F_B_line_at.binds (ps := ["self", "room", "cutter"]) fun _ _ _ _ _ _ us hl => match us, hl with | [_, _, _], _ => rfl
  have mt_B_line_at : Meth K CB "line_at" f_B_line_at := ⟨at_B_line_at, fn_B_line_at, k_B_line_at⟩
  have F_fits := fun_mk (st := s_fits) l_fits c_fits k_fits
  have b_fits := F_fits.binds (ps := ["line", "room", "cutter"]) fun _ _ _ _ _ _ us hl => match us, hl with | [_, _, _], _ => rfl
  have m_fits := PySem.W.mg_of X G a_fits
  have F_parts_of := fun_mk (st := s_parts_of) l_parts_of c_parts_of k_parts_of
  have b_parts_of := F_parts_of.binds (ps := ["room", "cut"]) fun _ _ _ _ _ _ us hl => match us, hl with | [_, _], _ => rfl
  have m_parts_of := PySem.W.mg_of X G a_parts_of
  have g_tab__UPRIGHT := PySem.W.mg_of X G d_tab__UPRIGHT
  have t_tab__UPRIGHT : ∀ z ∈ viewsT, KDct K w a_tab__UPRIGHT z (.str (uprightOf z)) := by
    intro z hz
    simp only [viewsT, List.mem_cons, List.not_mem_nil, or_false] at hz
    rcases hz with rfl | rfl | rfl | rfl | rfl | rfl
    · exact ⟨_, _, _, e_tab__UPRIGHT, h_tab__UPRIGHT, v_tab__UPRIGHT_N, _, congrArg (fun x => Value.str x _) (show ("both" : Str) = uprightOf "N" by decide +kernel)⟩
    · exact ⟨_, _, _, e_tab__UPRIGHT, h_tab__UPRIGHT, v_tab__UPRIGHT_E, _, congrArg (fun x => Value.str x _) (show ("second" : Str) = uprightOf "E" by decide +kernel)⟩
    · exact ⟨_, _, _, e_tab__UPRIGHT, h_tab__UPRIGHT, v_tab__UPRIGHT_S, _, congrArg (fun x => Value.str x _) (show ("both" : Str) = uprightOf "S" by decide +kernel)⟩
    · exact ⟨_, _, _, e_tab__UPRIGHT, h_tab__UPRIGHT, v_tab__UPRIGHT_W, _, congrArg (fun x => Value.str x _) (show ("first" : Str) = uprightOf "W" by decide +kernel)⟩
    · exact ⟨_, _, _, e_tab__UPRIGHT, h_tab__UPRIGHT, v_tab__UPRIGHT_A, _, congrArg (fun x => Value.str x _) (show ("both" : Str) = uprightOf "A" by decide +kernel)⟩
    · exact ⟨_, _, _, e_tab__UPRIGHT, h_tab__UPRIGHT, v_tab__UPRIGHT_D, _, congrArg (fun x => Value.str x _) (show ("either" : Str) = uprightOf "D" by decide +kernel)⟩
  have g_tab__LEVEL := PySem.W.mg_of X G d_tab__LEVEL
  have t_tab__LEVEL : ∀ z ∈ viewsT, KDct K w a_tab__LEVEL z (.str (levelOf z)) := by
    intro z hz
    simp only [viewsT, List.mem_cons, List.not_mem_nil, or_false] at hz
    rcases hz with rfl | rfl | rfl | rfl | rfl | rfl
    · exact ⟨_, _, _, e_tab__LEVEL, h_tab__LEVEL, v_tab__LEVEL_N, _, congrArg (fun x => Value.str x _) (show ("first" : Str) = levelOf "N" by decide +kernel)⟩
    · exact ⟨_, _, _, e_tab__LEVEL, h_tab__LEVEL, v_tab__LEVEL_E, _, congrArg (fun x => Value.str x _) (show ("both" : Str) = levelOf "E" by decide +kernel)⟩
    · exact ⟨_, _, _, e_tab__LEVEL, h_tab__LEVEL, v_tab__LEVEL_S, _, congrArg (fun x => Value.str x _) (show ("second" : Str) = levelOf "S" by decide +kernel)⟩
    · exact ⟨_, _, _, e_tab__LEVEL, h_tab__LEVEL, v_tab__LEVEL_W, _, congrArg (fun x => Value.str x _) (show ("both" : Str) = levelOf "W" by decide +kernel)⟩
    · exact ⟨_, _, _, e_tab__LEVEL, h_tab__LEVEL, v_tab__LEVEL_A, _, congrArg (fun x => Value.str x _) (show ("either" : Str) = levelOf "A" by decide +kernel)⟩
    · exact ⟨_, _, _, e_tab__LEVEL, h_tab__LEVEL, v_tab__LEVEL_D, _, congrArg (fun x => Value.str x _) (show ("both" : Str) = levelOf "D" by decide +kernel)⟩
  have F_rule := fun_mk (st := s_rule) l_rule c_rule k_rule
  have b_rule := F_rule.binds (ps := ["view", "cut"]) fun _ _ _ _ _ _ us hl => match us, hl with | [_, _], _ => rfl
  have m_rule := PySem.W.mg_of X G a_rule
  have F_splits := fun_mk (st := s_splits) l_splits c_splits k_splits
  have b_splits := F_splits.binds (ps := ["book", "view", "room"]) fun _ _ _ _ _ _ us hl => match us, hl with | [_, _, _], _ => rfl
  have m_splits := PySem.W.mg_of X G a_splits
  have F_members := fun_mk (st := s_members) l_members c_members k_members
  have b_members := F_members.binds (ps := ["book", "start", "view"]) fun _ _ _ _ _ _ us hl => match us, hl with | [_, _, _], _ => rfl
  have m_members := PySem.W.mg_of X G a_members
  have F__law_draw := fun_mk (st := s__law_draw) l__law_draw c__law_draw k__law_draw
  have b__law_draw := F__law_draw.binds (ps := ["_law_bag", "_law_many"]) fun _ _ _ _ _ _ us hl => match us, hl with | [_, _], _ => rfl
  have m__law_draw := PySem.W.mg_of X G a__law_draw
  have F__law_of := fun_mk (st := s__law_of) l__law_of c__law_of k__law_of
  have b__law_of := F__law_of.binds (ps := ["_law_bag", "_law_things"]) fun _ _ _ _ _ _ us hl => match us, hl with | [_, _], _ => rfl
  have m__law_of := PySem.W.mg_of X G a__law_of
  have F__law_odd_view := fun_mk (st := s__law_odd_view) l__law_odd_view c__law_odd_view k__law_odd_view
  have b__law_odd_view := F__law_odd_view.binds (ps := ["_law_bag"]) fun _ _ _ _ _ _ us hl => match us, hl with | [_], _ => rfl
  have m__law_odd_view := PySem.W.mg_of X G a__law_odd_view
  have F__law_odd_room := fun_mk (st := s__law_odd_room) l__law_odd_room c__law_odd_room k__law_odd_room
  have b__law_odd_room := F__law_odd_room.binds (ps := ["_law_bag", "_law_faces"]) fun _ _ _ _ _ _ us hl => match us, hl with | [_, _], _ => rfl
  have m__law_odd_room := PySem.W.mg_of X G a__law_odd_room
  have F__law_split := fun_mk (st := s__law_split) l__law_split c__law_split k__law_split
  have b__law_split := F__law_split.binds (ps := ["_law_room", "_law_cut_here"]) fun _ _ _ _ _ _ us hl => match us, hl with | [_, _], _ => rfl
  have m__law_split := PySem.W.mg_of X G a__law_split
  have F__law_parts := fun_mk (st := s__law_parts) l__law_parts c__law_parts k__law_parts
  have b__law_parts := F__law_parts.binds (ps := ["_law_spec", "_law_room", "_law_cutter"]) fun _ _ _ _ _ _ us hl => match us, hl with | [_, _, _], _ => rfl
  have m__law_parts := PySem.W.mg_of X G a__law_parts
  have F__law_turns := fun_mk (st := s__law_turns) l__law_turns c__law_turns k__law_turns
  have b__law_turns := F__law_turns.binds (ps := ["_law_spec", "_law_rooms"]) fun _ _ _ _ _ _ us hl => match us, hl with | [_, _], _ => rfl
  have m__law_turns := PySem.W.mg_of X G a__law_turns
  have F__law_members := fun_mk (st := s__law_members) l__law_members c__law_members k__law_members
  have b__law_members := F__law_members.binds (ps := ["_law_spec", "_law_start_z", "_law_view_z"]) fun _ _ _ _ _ _ us hl => match us, hl with | [_, _, _], _ => rfl
  have m__law_members := PySem.W.mg_of X G a__law_members
  have F__law_some_history := fun_mk (st := s__law_some_history) l__law_some_history c__law_some_history k__law_some_history
  have b__law_some_history := F__law_some_history.binds (ps := ["_law_bag", "_law_spec", "_law_start_z", "_law_many"]) fun _ _ _ _ _ _ us hl => match us, hl with | [_, _, _, _], _ => rfl
  have m__law_some_history := PySem.W.mg_of X G a__law_some_history
  have F__law_some_room := fun_mk (st := s__law_some_room) l__law_some_room c__law_some_room k__law_some_room
  have b__law_some_room := F__law_some_room.binds (ps := ["_law_bag", "_law_faces"]) fun _ _ _ _ _ _ us hl => match us, hl with | [_, _], _ => rfl
  have m__law_some_room := PySem.W.mg_of X G a__law_some_room
  have F_Bi := fun_mk (st := s_Book_init) l_Bi c_Bi k_Bi
  have M : Mk K CB f_Bi := ⟨B_mk, B_init, B_ifn, B_kp⟩
  have g__LOWER := PySem.W.mg_of X G z__LOWER
  have g__MOST_FACES := PySem.W.mg_of X G z__MOST_FACES
  have F_is_ascending := fun_mk (st := s_is_ascending) l_is_ascending c_is_ascending k_is_ascending
  have b_is_ascending := F_is_ascending.binds (ps := ["text"]) fun _ _ _ _ _ _ us hl => match us, hl with | [_], _ => rfl
  have m_is_ascending := PySem.W.mg_of X G a_is_ascending
  have F_is_choice := fun_mk (st := s_is_choice) l_is_choice c_is_choice k_is_choice
  have b_is_choice := F_is_choice.binds (ps := ["value", "letters", "most"]) fun _ _ _ _ _ _ us hl => match us, hl with | [_, _, _], _ => rfl
  have m_is_choice := PySem.W.mg_of X G a_is_choice
  have F_is_faces := fun_mk (st := s_is_faces) l_is_faces c_is_faces k_is_faces
  have b_is_faces := F_is_faces.binds (ps := ["value"]) fun _ _ _ _ _ _ us hl => match us, hl with | [_], _ => rfl
  have m_is_faces := PySem.W.mg_of X G a_is_faces
  have g__UPPER := PySem.W.mg_of X G z__UPPER
  have g__MOST_CUTTERS := PySem.W.mg_of X G z__MOST_CUTTERS
  have F_is_cutters := fun_mk (st := s_is_cutters) l_is_cutters c_is_cutters k_is_cutters
  have b_is_cutters := F_is_cutters.binds (ps := ["value"]) fun _ _ _ _ _ _ us hl => match us, hl with | [_], _ => rfl
  have m_is_cutters := PySem.W.mg_of X G a_is_cutters
  have F_is_part := fun_mk (st := s_is_part) l_is_part c_is_part k_is_part
  have b_is_part := F_is_part.binds (ps := ["value", "letters"]) fun _ _ _ _ _ _ us hl => match us, hl with | [_, _], _ => rfl
  have m_is_part := PySem.W.mg_of X G a_is_part
  have F_is_cut := fun_mk (st := s_is_cut) l_is_cut c_is_cut k_is_cut
  have b_is_cut := F_is_cut.binds (ps := ["value", "faces"]) fun _ _ _ _ _ _ us hl => match us, hl with | [_, _], _ => rfl
  have m_is_cut := PySem.W.mg_of X G a_is_cut
  have F_is_line := fun_mk (st := s_is_line) l_is_line c_is_line k_is_line
  have b_is_line := F_is_line.binds (ps := ["value", "faces", "cutters"]) fun _ _ _ _ _ _ us hl => match us, hl with | [_, _, _], _ => rfl
  have m_is_line := PySem.W.mg_of X G a_is_line
  have F_head_of := fun_mk (st := s_head_of) l_head_of c_head_of k_head_of
  have b_head_of := F_head_of.binds (ps := ["row"]) fun _ _ _ _ _ _ us hl => match us, hl with | [_], _ => rfl
  have m_head_of := PySem.W.mg_of X G a_head_of
  have F_line_of := fun_mk (st := s_line_of) l_line_of c_line_of k_line_of
  have b_line_of := F_line_of.binds (ps := ["row", "faces", "cutters"]) fun _ _ _ _ _ _ us hl => match us, hl with | [_, _, _], _ => rfl
  have m_line_of := PySem.W.mg_of X G a_line_of
  have F_B_read := fun_mk (st := s_Book_read) l_B_read c_B_read k_B_read
  have b_B_read := F_B_read.binds (ps := ["text"]) fun _ _ _ _ _ _ us hl => match us, hl with | [_], _ => rfl
  have SR : Sta K CB "read" f_B_read := ⟨B_rd, ⟨_, _, S_fd, S_rc⟩, B_sg, k_B_read⟩
  have bR := b_B_read
  have F__law_line_text := fun_mk (st := s__law_line_text) l__law_line_text c__law_line_text k__law_line_text
  have b__law_line_text := F__law_line_text.binds (ps := ["_law_line"]) fun _ _ _ _ _ _ us hl => match us, hl with | [_], _ => rfl
  have m__law_line_text := PySem.W.mg_of X G a__law_line_text
  have F__law_book_text := fun_mk (st := s__law_book_text) l__law_book_text c__law_book_text k__law_book_text
  have b__law_book_text := F__law_book_text.binds (ps := ["_law_spec"]) fun _ _ _ _ _ _ us hl => match us, hl with | [_], _ => rfl
  have m__law_book_text := PySem.W.mg_of X G a__law_book_text
  have F__law_book := fun_mk (st := s__law_book) l__law_book c__law_book k__law_book
  have b__law_book := F__law_book.binds (ps := ["_law_spec"]) fun _ _ _ _ _ _ us hl => match us, hl with | [_], _ => rfl
  have m__law_book := PySem.W.mg_of X G a__law_book
  have F__law_part := fun_mk (st := s__law_part) l__law_part c__law_part k__law_part
  have b__law_part := F__law_part.binds (ps := ["_law_bag", "_law_letters_here"]) fun _ _ _ _ _ _ us hl => match us, hl with | [_, _], _ => rfl
  have m__law_part := PySem.W.mg_of X G a__law_part
  have F__law_some_cut := fun_mk (st := s__law_some_cut) l__law_some_cut c__law_some_cut k__law_some_cut
  have b__law_some_cut := F__law_some_cut.binds (ps := ["_law_bag", "_law_faces"]) fun _ _ _ _ _ _ us hl => match us, hl with | [_, _], _ => rfl
  have m__law_some_cut := PySem.W.mg_of X G a__law_some_cut
  have F__law_letters := fun_mk (st := s__law_letters) l__law_letters c__law_letters k__law_letters
  have b__law_letters := F__law_letters.binds (ps := ["_law_bag", "_law_letters_here", "_law_many"]) fun _ _ _ _ _ _ us hl => match us, hl with | [_, _, _], _ => rfl
  have m__law_letters := PySem.W.mg_of X G a__law_letters
  have F__law_some_faces := fun_mk (st := s__law_some_faces) l__law_some_faces c__law_some_faces k__law_some_faces
  have b__law_some_faces := F__law_some_faces.binds (ps := ["_law_bag", "_law_most"]) fun _ _ _ _ _ _ us hl => match us, hl with | [_, _], _ => rfl
  have m__law_some_faces := PySem.W.mg_of X G a__law_some_faces
  have F__law_some_cutters := fun_mk (st := s__law_some_cutters) l__law_some_cutters c__law_some_cutters k__law_some_cutters
  have b__law_some_cutters := F__law_some_cutters.binds (ps := ["_law_bag", "_law_most"]) fun _ _ _ _ _ _ us hl => match us, hl with | [_, _], _ => rfl
  have m__law_some_cutters := PySem.W.mg_of X G a__law_some_cutters
  have F__law_some_line := fun_mk (st := s__law_some_line) l__law_some_line c__law_some_line k__law_some_line
  have b__law_some_line := F__law_some_line.binds (ps := ["_law_bag", "_law_faces", "_law_cutters"]) fun _ _ _ _ _ _ us hl => match us, hl with | [_, _, _], _ => rfl
  have m__law_some_line := PySem.W.mg_of X G a__law_some_line
  have F__law_some_book := fun_mk (st := s__law_some_book) l__law_some_book c__law_some_book k__law_some_book
  have b__law_some_book := F__law_some_book.binds (ps := ["_law_bag", "_law_sizes"]) fun _ _ _ _ _ _ us hl => match us, hl with | [_, _], _ => rfl
  have m__law_some_book := PySem.W.mg_of X G a__law_some_book
  have F__law_open := fun_mk (st := s__law_open) l__law_open c__law_open k__law_open
  have b__law_open := F__law_open.binds (ps := ["_law_script"]) fun _ _ _ _ _ _ us hl => match us, hl with | [_], _ => rfl
  have m__law_open := PySem.W.mg_of X G a__law_open
  refine ⟨PySem.W.fnOf "law" "law" (defArgs s_law) (defBody s_law) (defScope s_law) .none kV_law dc_law pm_law an_law (.ref c) ct_law, fun s v => .of_eq rfl, fun base _ _ TB => ?_⟩
  have FI_InvalidRoom := ok_InvalidRoom_init (P := l.prog) (w := w) (mg := mg) (base := base) Fi_InvalidRoom GS
  have FI_InvalidView := ok_InvalidView_init (P := l.prog) (w := w) (mg := mg) (base := base) Fi_InvalidView GS
  have c__law_used : Cal l.prog w K mg base CX0 1 "_law_used" s__law_used _ _ := ⟨_, _, ok__law_used F__law_used T, m__law_used, F__law_used, b__law_used⟩
  have c__law_rule : Cal l.prog w K mg base CX0 2 "_law_rule" s__law_rule _ _ := ⟨_, _, ok__law_rule F__law_rule T c__law_used, m__law_rule, F__law_rule, b__law_rule⟩
  have c__law_fits : Cal l.prog w K mg base CX0 1 "_law_fits" s__law_fits _ _ := ⟨_, _, ok__law_fits F__law_fits T, m__law_fits, F__law_fits, b__law_fits⟩
  have c__law_line_at : Cal l.prog w K mg base CX0 2 "_law_line_at" s__law_line_at _ _ := ⟨_, _, ok__law_line_at F__law_line_at T c__law_fits, m__law_line_at, F__law_line_at, b__law_line_at⟩
  have c__law_cut : Cal l.prog w K mg base CX0 3 "_law_cut" s__law_cut _ _ := ⟨_, _, ok__law_cut F__law_cut c__law_line_at, m__law_cut, F__law_cut, b__law_cut⟩
  have r0 : Cal l.prog w K mg base CX0 4 "_law_rows" s__law_rows ["_law_spec", "_law_tree", "_law_view_z", "_law_address"] (sp__law_rows K 0) := ⟨_, _, ok__law_rows0 F__law_rows T, m__law_rows, F__law_rows, b__law_rows⟩
  have r1 : Cal l.prog w K mg base CX0 5 "_law_rows" s__law_rows ["_law_spec", "_law_tree", "_law_view_z", "_law_address"] (sp__law_rows K 1) := ⟨_, _, ok__law_rows_step (n := 0) F__law_rows T c__law_rule c__law_cut r0, m__law_rows, F__law_rows, b__law_rows⟩
  have r2 : Cal l.prog w K mg base CX0 6 "_law_rows" s__law_rows ["_law_spec", "_law_tree", "_law_view_z", "_law_address"] (sp__law_rows K 2) := ⟨_, _, ok__law_rows_step (n := 1) F__law_rows T c__law_rule c__law_cut r1, m__law_rows, F__law_rows, b__law_rows⟩
  have r3 : Cal l.prog w K mg base CX0 7 "_law_rows" s__law_rows ["_law_spec", "_law_tree", "_law_view_z", "_law_address"] (sp__law_rows K 3) := ⟨_, _, ok__law_rows_step (n := 2) F__law_rows T c__law_rule c__law_cut r2, m__law_rows, F__law_rows, b__law_rows⟩
  have r4 : Cal l.prog w K mg base CX0 8 "_law_rows" s__law_rows ["_law_spec", "_law_tree", "_law_view_z", "_law_address"] (sp__law_rows K 4) := ⟨_, _, ok__law_rows_step (n := 3) F__law_rows T c__law_rule c__law_cut r3, m__law_rows, F__law_rows, b__law_rows⟩
  have r5 : Cal l.prog w K mg base CX0 9 "_law_rows" s__law_rows ["_law_spec", "_law_tree", "_law_view_z", "_law_address"] (sp__law_rows K 5) := ⟨_, _, ok__law_rows_step (n := 4) F__law_rows T c__law_rule c__law_cut r4, m__law_rows, F__law_rows, b__law_rows⟩
  have r6 : Cal l.prog w K mg base CX0 10 "_law_rows" s__law_rows ["_law_spec", "_law_tree", "_law_view_z", "_law_address"] (sp__law_rows K 6) := ⟨_, _, ok__law_rows_step (n := 5) F__law_rows T c__law_rule c__law_cut r5, m__law_rows, F__law_rows, b__law_rows⟩
  have r7 : Cal l.prog w K mg base CX0 11 "_law_rows" s__law_rows ["_law_spec", "_law_tree", "_law_view_z", "_law_address"] (sp__law_rows K 7) := ⟨_, _, ok__law_rows_step (n := 6) F__law_rows T c__law_rule c__law_cut r6, m__law_rows, F__law_rows, b__law_rows⟩
  have c__law_rows : Cal l.prog w K mg base CX0 12 "_law_rows" s__law_rows ["_law_spec", "_law_tree", "_law_view_z", "_law_address"] (sp__law_rows K 8) := ⟨_, _, ok__law_rows_step (n := 7) F__law_rows T c__law_rule c__law_cut r7, m__law_rows, F__law_rows, b__law_rows⟩
  have g0 : Cal l.prog w K mg base CX0 1 "_law_same" s__law_same ["_law_found", "_law_due"] (fun _ _ _ _ => False) := ⟨_, _, nk_false, m__law_same, F__law_same, b__law_same⟩
  have g1 : Cal l.prog w K mg base CX0 2 "_law_same" s__law_same ["_law_found", "_law_due"] (sp__law_same K 0) := ⟨_, _, ok__law_same_step (n := 0) F__law_same T g0 (fun m _ _ _ _ e => absurd e (Nat.succ_ne_zero m).symm), m__law_same, F__law_same, b__law_same⟩
  have g2 : Cal l.prog w K mg base CX0 3 "_law_same" s__law_same ["_law_found", "_law_due"] (sp__law_same K 1) := ⟨_, _, ok__law_same_step (n := 1) F__law_same T g1 (fun m _ _ _ _ e h => by cases e; exact h), m__law_same, F__law_same, b__law_same⟩
  have g3 : Cal l.prog w K mg base CX0 4 "_law_same" s__law_same ["_law_found", "_law_due"] (sp__law_same K 2) := ⟨_, _, ok__law_same_step (n := 2) F__law_same T g2 (fun m _ _ _ _ e h => by cases e; exact h), m__law_same, F__law_same, b__law_same⟩
  have c__law_same : Cal l.prog w K mg base CX0 5 "_law_same" s__law_same ["_law_found", "_law_due"] (sp__law_same K 3) := ⟨_, _, ok__law_same_step (n := 3) F__law_same T g3 (fun m _ _ _ _ e h => by cases e; exact h), m__law_same, F__law_same, b__law_same⟩
  have c_is_string : Cal l.prog w K mg base CX0 1 "is_string" s_is_string _ _ := ⟨_, _, ok_is_string F_is_string T, m_is_string, F_is_string, b_is_string⟩
  have c_is_room : Cal l.prog w K mg base CX0 2 "is_room" s_is_room _ _ := ⟨_, _, ok_is_room F_is_room T c_is_string, m_is_room, F_is_room, b_is_room⟩
  have cx_check_room : Cal l.prog w K mg base (L2.CX l.prog w) 3 "check_room" s_check_room _ _ := ⟨_, _, okx_check_room F_check_room BC Kls_InvalidRoom nf_InvalidRoom FI_InvalidRoom bI_InvalidRoom c_is_room, m_check_room, F_check_room, b_check_room⟩
  have c_is_letter : Cal l.prog w K mg base CX0 1 "is_letter" s_is_letter _ _ := ⟨_, _, ok_is_letter F_is_letter T, m_is_letter, F_is_letter, b_is_letter⟩
  have c_is_view : Cal l.prog w K mg base CX0 2 "is_view" s_is_view _ _ := ⟨_, _, ok_is_view F_is_view g_VIEWS c_is_letter, m_is_view, F_is_view, b_is_view⟩
  have c_check_view : Cal l.prog w K mg base (L2.CX l.prog w) 3 "check_view" s_check_view _ _ := ⟨_, _, ok_check_view F_check_view Kls_InvalidView nf_InvalidView FI_InvalidView bI_InvalidView c_is_view, m_check_view, F_check_view, b_check_view⟩
  have c_fits : Cal l.prog w K mg base CX0 1 "fits" s_fits _ _ := ⟨_, _, ok_fits F_fits T, m_fits, F_fits, b_fits⟩
  have ok_B_line_at := ok_Book_line_at (P := l.prog) (w := w) (mg := mg) (base := base) F_B_line_at T BC c_is_room c_is_letter c_fits
  have cm_B_line_at : MCal l.prog w K mg base CX0 CB 3 "line_at" _ _ := ⟨_, _, mt_B_line_at, ok_B_line_at, b_B_line_at⟩
  have c_line_at := cm_B_line_at
  have ok_B_cut := ok_Book_cut (P := l.prog) (w := w) (mg := mg) (base := base) F_B_cut BC mt_B_line_at ok_B_line_at b_B_line_at
  have cm_B_cut : MCal l.prog w K mg base CX0 CB 4 "cut" _ _ := ⟨_, _, mt_B_cut, ok_B_cut, b_B_cut⟩
  have c_cut := cm_B_cut
  have c_parts_of : Cal l.prog w K mg base CX0 1 "parts_of" s_parts_of _ _ := ⟨_, _, ok_parts_of F_parts_of, m_parts_of, F_parts_of, b_parts_of⟩
  have c_rule : Cal l.prog w K mg base (L2.CX l.prog w) 4 "rule" s_rule _ _ := ⟨_, _, ok_rule F_rule g_tab__UPRIGHT g_tab__LEVEL t_tab__UPRIGHT t_tab__LEVEL c_check_view, m_rule, F_rule, b_rule⟩
  have c_splits : Cal l.prog w K mg base CX0 6 "splits" s_splits _ _ := ⟨_, _, ok_splits F_splits T BC cm_B_cut c_parts_of c_rule, m_splits, F_splits, b_splits⟩
  have c_members : Cal l.prog w K mg base (L2.CX l.prog w) 7 "members" s_members _ _ := ⟨_, _, ok_members F_members T g_tab_NAMED t_tab_NAMED cx_check_room c_check_view c_splits, m_members, F_members, b_members⟩
  have c__law_draw : Cal l.prog w K mg base CX0 1 "_law_draw" s__law_draw _ _ := ⟨_, _, ok__law_draw F__law_draw T, m__law_draw, F__law_draw, b__law_draw⟩
  have c__law_of : Cal l.prog w K mg base CX0 2 "_law_of" s__law_of _ _ := ⟨_, _, ok__law_of F__law_of T c__law_draw, m__law_of, F__law_of, b__law_of⟩
  have c__law_odd_view : Cal l.prog w K mg base CX0 3 "_law_odd_view" s__law_odd_view _ _ := ⟨_, _, ok__law_odd_view F__law_odd_view c__law_of, m__law_odd_view, F__law_odd_view, b__law_odd_view⟩
  have c__law_odd_room : Cal l.prog w K mg base CX0 3 "_law_odd_room" s__law_odd_room _ _ := ⟨_, _, ok__law_odd_room F__law_odd_room c__law_of, m__law_odd_room, F__law_odd_room, b__law_odd_room⟩
  have c__law_split : Cal l.prog w K mg base CX0 1 "_law_split" s__law_split _ _ := ⟨_, _, ok__law_split F__law_split, m__law_split, F__law_split, b__law_split⟩
  have c__law_parts : Cal l.prog w K mg base CX0 4 "_law_parts" s__law_parts _ _ := ⟨_, _, ok__law_parts F__law_parts c__law_split c__law_cut, m__law_parts, F__law_parts, b__law_parts⟩
  have c__law_turns : Cal l.prog w K mg base CX0 4 "_law_turns" s__law_turns _ _ := ⟨_, _, ok__law_turns F__law_turns T c__law_cut, m__law_turns, F__law_turns, b__law_turns⟩
  have c__law_members : Cal l.prog w K mg base CX0 5 "_law_members" s__law_members _ _ := ⟨_, _, ok__law_members F__law_members T c__law_parts c__law_cut c__law_turns c__law_used, m__law_members, F__law_members, b__law_members⟩
  have c__law_some_history : Cal l.prog w K mg base CX0 5 "_law_some_history" s__law_some_history _ _ := ⟨_, _, ok__law_some_history F__law_some_history T c__law_of c__law_parts, m__law_some_history, F__law_some_history, b__law_some_history⟩
  have c__law_some_room : Cal l.prog w K mg base CX0 3 "_law_some_room" s__law_some_room _ _ := ⟨_, _, ok__law_some_room F__law_some_room c__law_of, m__law_some_room, F__law_some_room, b__law_some_room⟩
  have c_is_ascending : Cal l.prog w K mg base CX0 1 "is_ascending" s_is_ascending _ _ := ⟨_, _, ok_is_ascending F_is_ascending T, m_is_ascending, F_is_ascending, b_is_ascending⟩
  have c_is_choice : Cal l.prog w K mg base CX0 2 "is_choice" s_is_choice _ _ := ⟨_, _, ok_is_choice F_is_choice T c_is_string c_is_ascending, m_is_choice, F_is_choice, b_is_choice⟩
  have c_is_faces : Cal l.prog w K mg base CX0 3 "is_faces" s_is_faces _ _ := ⟨_, _, ok_is_faces F_is_faces g__LOWER g__MOST_FACES c_is_choice, m_is_faces, F_is_faces, b_is_faces⟩
  have c_is_cutters : Cal l.prog w K mg base CX0 3 "is_cutters" s_is_cutters _ _ := ⟨_, _, ok_is_cutters F_is_cutters g__UPPER g__MOST_CUTTERS c_is_choice, m_is_cutters, F_is_cutters, b_is_cutters⟩
  have c_is_part : Cal l.prog w K mg base CX0 3 "is_part" s_is_part _ _ := ⟨_, _, ok_is_part F_is_part T c_is_letter c_is_choice, m_is_part, F_is_part, b_is_part⟩
  have c_is_cut : Cal l.prog w K mg base CX0 2 "is_cut" s_is_cut _ _ := ⟨_, _, ok_is_cut F_is_cut T c_is_string, m_is_cut, F_is_cut, b_is_cut⟩
  have c_is_line : Cal l.prog w K mg base CX0 4 "is_line" s_is_line _ _ := ⟨_, _, ok_is_line F_is_line T c_is_part c_is_cut, m_is_line, F_is_line, b_is_line⟩
  have FB := fn_Book_init (P := l.prog) (w := w) (mg := mg) (base := base) F_Bi T gB rC vM c_is_faces c_is_cutters c_is_line
  have c_head_of : Cal l.prog w K mg base CX0 4 "head_of" s_head_of _ _ := ⟨_, _, ok_head_of F_head_of T c_is_faces c_is_cutters, m_head_of, F_head_of, b_head_of⟩
  have c_line_of : Cal l.prog w K mg base CX0 5 "line_of" s_line_of _ _ := ⟨_, _, ok_line_of F_line_of T c_is_line, m_line_of, F_line_of, b_line_of⟩
  have FR := ok_Book_read (P := l.prog) (w := w) (mg := mg) (base := base) F_B_read T gB rC vM M hC nf nc nl FB c_head_of c_line_of
  have c_read : SCal l.prog w K mg base CX0 "Book" CB 8 "read" s_Book_read _ _ := ⟨gB, ⟨_, _, _, SR, FR, bR, F_B_read⟩⟩
  have c__law_line_text : Cal l.prog w K mg base CX0 1 "_law_line_text" s__law_line_text _ _ := ⟨_, _, ok__law_line_text F__law_line_text T, m__law_line_text, F__law_line_text, b__law_line_text⟩
  have c__law_book_text : Cal l.prog w K mg base CX0 2 "_law_book_text" s__law_book_text _ _ := ⟨_, _, ok__law_book_text F__law_book_text T c__law_line_text, m__law_book_text, F__law_book_text, b__law_book_text⟩
  have c__law_book : Cal l.prog w K mg base CX0 9 "_law_book" s__law_book _ _ := ⟨_, _, ok__law_book F__law_book T gB SR FR bR c__law_book_text, m__law_book, F__law_book, b__law_book⟩
  have c__law_part : Cal l.prog w K mg base CX0 2 "_law_part" s__law_part _ _ := ⟨_, _, ok__law_part F__law_part T c__law_draw, m__law_part, F__law_part, b__law_part⟩
  have c__law_some_cut : Cal l.prog w K mg base CX0 3 "_law_some_cut" s__law_some_cut _ _ := ⟨_, _, ok__law_some_cut F__law_some_cut c__law_of, m__law_some_cut, F__law_some_cut, b__law_some_cut⟩
  have c__law_letters : Cal l.prog w K mg base CX0 2 "_law_letters" s__law_letters _ _ := ⟨_, _, ok__law_letters F__law_letters T c__law_draw, m__law_letters, F__law_letters, b__law_letters⟩
  have c__law_some_faces : Cal l.prog w K mg base CX0 3 "_law_some_faces" s__law_some_faces _ _ := ⟨_, _, ok__law_some_faces F__law_some_faces T c__law_draw c__law_letters, m__law_some_faces, F__law_some_faces, b__law_some_faces⟩
  have c__law_some_cutters : Cal l.prog w K mg base CX0 3 "_law_some_cutters" s__law_some_cutters _ _ := ⟨_, _, ok__law_some_cutters F__law_some_cutters T c__law_draw c__law_letters, m__law_some_cutters, F__law_some_cutters, b__law_some_cutters⟩
  have c__law_some_line : Cal l.prog w K mg base CX0 4 "_law_some_line" s__law_some_line _ _ := ⟨_, _, ok__law_some_line F__law_some_line T c__law_draw c__law_part c__law_some_cut, m__law_some_line, F__law_some_line, b__law_some_line⟩
  have c__law_some_book : Cal l.prog w K mg base CX0 5 "_law_some_book" s__law_some_book _ _ := ⟨_, _, ok__law_some_book F__law_some_book T c__law_draw c__law_part c__law_some_cut c__law_some_faces c__law_some_cutters c__law_some_line, m__law_some_book, F__law_some_book, b__law_some_book⟩
  have c__law_open : Cal l.prog w K mg base CX0 1 "_law_open" s__law_open _ _ := ⟨_, _, ok__law_open F__law_open T, m__law_open, F__law_open, b__law_open⟩
  exact ok_law T l_law c_law TB BC Err_InvalidRoom Err_InvalidView c__law_rows m__law_tries k__law_tries b__law_tries (fun b2 m sub sz => ok__law_tries (P := l.prog) (w := w) (base := b2) (k := 10) F__law_tries m sub sz F__law_try m__law_try b__law_try (ok__law_field (P := l.prog) (w := w) (mg := mg) (base := b2) F__law_field) m__law_field k__law_field b__law_field g_C1 g_C2 g_C3) c__law_same c_members c__law_odd_view c__law_odd_room c__law_members c__law_some_history c__law_some_room c__law_book c__law_some_book c__law_open
end FW
open PySem PySem.W PyProof.Rows
set_option maxHeartbeats 0 in
theorem PySem.Challenge.cw_fourwalls_k24_whole_members_of_views_holds : PySem.Challenge.rw_fourwalls_k24_whole_members_of_views.Holds := by
  w_on; o_law
  refine FW.head_kmJ0 (r := FW.hR) (q := FW.hq) (K := FW.hk0.heap_1) (as := FW.has) (ts := FW.hts) (e := FW.hasE) (M := 20000) (loose := FW.hnames) (d := HandSHeadRun.topDef FW.hR.prog 78) (kwd := []) _ rfl (by kernel_rfl) (fun s => by kernel_rfl) FW.hRA FW.hRB FW.hRC (by kernel_rfl) (by kernel_rfl) (by kernel_rfl) (by rfl) (by first | assumption | decide +kernel) (by decide +kernel) ⟨rfl, rfl, rfl, rfl, rfl, by decide +kernel⟩ ?hw ?hc
  case hw => w_witness2
  k_fill
  refine' FW.walk_tab (l := PySem.Challenge.rw_fourwalls_k24_whole_members_of_views) (n := 63) (k := 18) (x := "_law_script") (sp := FW.sp_law) rfl (by decide) (by kernel_rfl) ⟨rfl, by decide, by decide⟩ (fun w h Y => PySem.W.km_in_of Y) (fun w h Y => PySem.W.km_tabs_of Y _ List.mem_cons_self) ?hnP ?F ?hcode ?hsp
  case hsp => exact fun pr H a ns hl hP hS => ⟨a, ns, rfl, hS, hl, hP, fun _ => rfl⟩
  case hnP => exact fun pr => by kernel_rfl
  case F =>
    intro w mg fa h KX G hmg0
    have hmg : mg ("law" : PySem.Str) = some (.ref fa) := by
      have e : (HandSHeadRun.topDef FW.hR.prog 78).name = ("law" : PySem.Str) := by kernel_rfl
      rw [← e]
      exact hmg0
    refine' FW.all_mk KX G hmg ?B_g ?B_pg ?B_hd ?B_po ?B_sa ?B_nf ?B_nc ?B_nl ?B_mk ?B_kp ?B_rd ?B_sg ?B_most ?gs1 ?gs2 ?eg_InvalidRoom ?el_InvalidRoom ?eb_InvalidRoom ?esa_InvalidRoom ?ex_InvalidRoom ?ety_InvalidRoom ?ek_InvalidRoom ?ecl_InvalidRoom ?ega_InvalidRoom ?egg_InvalidRoom ?efc_InvalidRoom ?eob_InvalidRoom ?ehd_InvalidRoom ?enc_InvalidRoom ?enf_InvalidRoom ?eini_InvalidRoom ?etI_InvalidRoom ?elI_InvalidRoom ?ecI_InvalidRoom ?ekI_InvalidRoom ?erd_InvalidRoom ?efdn_InvalidRoom ?e_C1 ?e_C2 ?e_C3 ?hx_InvalidRoom ?eg_InvalidView ?el_InvalidView ?eb_InvalidView ?esa_InvalidView ?ex_InvalidView ?ety_InvalidView ?ek_InvalidView ?ecl_InvalidView ?ega_InvalidView ?egg_InvalidView ?efc_InvalidView ?eob_InvalidView ?ehd_InvalidView ?enc_InvalidView ?enf_InvalidView ?eini_InvalidView ?etI_InvalidView ?elI_InvalidView ?ecI_InvalidView ?ekI_InvalidView ?erd_InvalidView ?efdn_InvalidView ?hx_InvalidView ?a__law_rows ?l__law_rows ?c__law_rows ?k__law_rows ?a__law_used ?l__law_used ?c__law_used ?k__law_used ?a__law_rule ?l__law_rule ?c__law_rule ?k__law_rule ?a__law_fits ?l__law_fits ?c__law_fits ?k__law_fits ?a__law_line_at ?l__law_line_at ?c__law_line_at ?k__law_line_at ?a__law_cut ?l__law_cut ?c__law_cut ?k__law_cut ?a__law_tries ?l__law_tries ?c__law_tries ?k__law_tries ?a__law_try ?l__law_try ?c__law_try ?k__law_try ?a__law_field ?l__law_field ?c__law_field ?k__law_field ?a__law_same ?l__law_same ?c__law_same ?k__law_same ?d_tab_NAMED ?e_tab_NAMED ?h_tab_NAMED ?v_tab_NAMED_both ?l_tab_NAMED_both ?v_tab_NAMED_first ?l_tab_NAMED_first ?v_tab_NAMED_second ?l_tab_NAMED_second ?v_tab_NAMED_either ?l_tab_NAMED_either ?a_is_string ?l_is_string ?c_is_string ?k_is_string ?a_is_room ?l_is_room ?c_is_room ?k_is_room ?a_check_room ?l_check_room ?c_check_room ?k_check_room ?z_VIEWS ?a_is_letter ?l_is_letter ?c_is_letter ?k_is_letter ?a_is_view ?l_is_view ?c_is_view ?k_is_view ?a_check_view ?l_check_view ?c_check_view ?k_check_view ?at_B_cut ?fn_B_cut ?l_B_cut ?c_B_cut ?k_B_cut ?at_B_line_at ?fn_B_line_at ?l_B_line_at ?c_B_line_at ?k_B_line_at ?a_fits ?l_fits ?c_fits ?k_fits ?a_parts_of ?l_parts_of ?c_parts_of ?k_parts_of ?d_tab__UPRIGHT ?e_tab__UPRIGHT ?h_tab__UPRIGHT ?v_tab__UPRIGHT_N ?v_tab__UPRIGHT_E ?v_tab__UPRIGHT_S ?v_tab__UPRIGHT_W ?v_tab__UPRIGHT_A ?v_tab__UPRIGHT_D ?d_tab__LEVEL ?e_tab__LEVEL ?h_tab__LEVEL ?v_tab__LEVEL_N ?v_tab__LEVEL_E ?v_tab__LEVEL_S ?v_tab__LEVEL_W ?v_tab__LEVEL_A ?v_tab__LEVEL_D ?a_rule ?l_rule ?c_rule ?k_rule ?a_splits ?l_splits ?c_splits ?k_splits ?a_members ?l_members ?c_members ?k_members ?a__law_draw ?l__law_draw ?c__law_draw ?k__law_draw ?a__law_of ?l__law_of ?c__law_of ?k__law_of ?a__law_odd_view ?l__law_odd_view ?c__law_odd_view ?k__law_odd_view ?a__law_odd_room ?l__law_odd_room ?c__law_odd_room ?k__law_odd_room ?a__law_split ?l__law_split ?c__law_split ?k__law_split ?a__law_parts ?l__law_parts ?c__law_parts ?k__law_parts ?a__law_turns ?l__law_turns ?c__law_turns ?k__law_turns ?a__law_members ?l__law_members ?c__law_members ?k__law_members ?a__law_some_history ?l__law_some_history ?c__law_some_history ?k__law_some_history ?a__law_some_room ?l__law_some_room ?c__law_some_room ?k__law_some_room ?B_init ?B_ifn ?l_Bi ?c_Bi ?k_Bi ?z__LOWER ?z__MOST_FACES ?a_is_ascending ?l_is_ascending ?c_is_ascending ?k_is_ascending ?a_is_choice ?l_is_choice ?c_is_choice ?k_is_choice ?a_is_faces ?l_is_faces ?c_is_faces ?k_is_faces ?z__UPPER ?z__MOST_CUTTERS ?a_is_cutters ?l_is_cutters ?c_is_cutters ?k_is_cutters ?a_is_part ?l_is_part ?c_is_part ?k_is_part ?a_is_cut ?l_is_cut ?c_is_cut ?k_is_cut ?a_is_line ?l_is_line ?c_is_line ?k_is_line ?a_head_of ?l_head_of ?c_head_of ?k_head_of ?a_line_of ?l_line_of ?c_line_of ?k_line_of ?S_fd ?S_rc ?l_B_read ?c_B_read ?k_B_read ?a__law_line_text ?l__law_line_text ?c__law_line_text ?k__law_line_text ?a__law_book_text ?l__law_book_text ?c__law_book_text ?k__law_book_text ?a__law_book ?l__law_book ?c__law_book ?k__law_book ?a__law_part ?l__law_part ?c__law_part ?k__law_part ?a__law_some_cut ?l__law_some_cut ?c__law_some_cut ?k__law_some_cut ?a__law_letters ?l__law_letters ?c__law_letters ?k__law_letters ?a__law_some_faces ?l__law_some_faces ?c__law_some_faces ?k__law_some_faces ?a__law_some_cutters ?l__law_some_cutters ?c__law_some_cutters ?k__law_some_cutters ?a__law_some_line ?l__law_some_line ?c__law_some_line ?k__law_some_line ?a__law_some_book ?l__law_some_book ?c__law_some_book ?k__law_some_book ?a__law_open ?l__law_open ?c__law_open ?k__law_open ?a_law ?l_law ?c_law ?y_isinstance ?y_str ?y_all ?y_any ?y_len ?y_int ?y_list ?y_abs ?y_bool ?y_tuple ?y_zip ?y_range ?y_enumerate ?y_sorted ?y_dict ?y_set ?y_sum ?y_min ?y_max ?y_reversed ?y_repr ?y_ord
    case B_g => first | k_is | kernel_rfl
    case B_pg => first | k_is | kernel_rfl
    case B_hd => first | k_is | kernel_rfl
    case B_po => first | k_is | kernel_rfl
    case B_sa => first | k_is | kernel_rfl
    case B_nf => first | k_is | kernel_rfl
    case B_nc => first | k_is | kernel_rfl
    case B_nl => first | k_is | kernel_rfl
    case B_mk => first | k_is | kernel_rfl
    case B_kp => first | k_is | kernel_rfl
    case B_rd => first | k_is | kernel_rfl
    case B_sg => first | k_is | kernel_rfl
    case B_most => first | k_is | kernel_rfl
    case gs1 => first | k_is | kernel_rfl
    case gs2 => first | k_is | kernel_rfl
    case eg_InvalidRoom => first | k_is | kernel_rfl
    case el_InvalidRoom => first | k_is | kernel_rfl
    case eb_InvalidRoom => first | k_is | kernel_rfl
    case esa_InvalidRoom => first | k_is | kernel_rfl
    case ex_InvalidRoom => first | k_is | kernel_rfl
    case ety_InvalidRoom => first | k_is | kernel_rfl
    case ek_InvalidRoom => first | k_is | kernel_rfl
    case ecl_InvalidRoom => first | k_is | kernel_rfl
    case ega_InvalidRoom => first | k_is | kernel_rfl
    case egg_InvalidRoom => first | k_is | kernel_rfl
    case efc_InvalidRoom => first | k_is | kernel_rfl
    case eob_InvalidRoom => first | k_is | kernel_rfl
    case ehd_InvalidRoom => first | k_is | kernel_rfl
    case enc_InvalidRoom => first | k_is | kernel_rfl
    case enf_InvalidRoom => first | k_is | kernel_rfl
    case eini_InvalidRoom => first | k_is | kernel_rfl
    case etI_InvalidRoom => first | k_is | kernel_rfl
    case elI_InvalidRoom => first | k_is | kernel_rfl
    case ecI_InvalidRoom => first | k_is | kernel_rfl
    case ekI_InvalidRoom => first | k_is | kernel_rfl
    case erd_InvalidRoom => first | k_is | kernel_rfl
    case efdn_InvalidRoom => first | k_is | kernel_rfl
    case e_C1 => first | k_is | kernel_rfl
    case e_C2 => first | k_is | kernel_rfl
    case e_C3 => first | k_is | kernel_rfl
    case hx_InvalidRoom => first | k_is | kernel_rfl
    case eg_InvalidView => first | k_is | kernel_rfl
    case el_InvalidView => first | k_is | kernel_rfl
    case eb_InvalidView => first | k_is | kernel_rfl
    case esa_InvalidView => first | k_is | kernel_rfl
    case ex_InvalidView => first | k_is | kernel_rfl
    case ety_InvalidView => first | k_is | kernel_rfl
    case ek_InvalidView => first | k_is | kernel_rfl
    case ecl_InvalidView => first | k_is | kernel_rfl
    case ega_InvalidView => first | k_is | kernel_rfl
    case egg_InvalidView => first | k_is | kernel_rfl
    case efc_InvalidView => first | k_is | kernel_rfl
    case eob_InvalidView => first | k_is | kernel_rfl
    case ehd_InvalidView => first | k_is | kernel_rfl
    case enc_InvalidView => first | k_is | kernel_rfl
    case enf_InvalidView => first | k_is | kernel_rfl
    case eini_InvalidView => first | k_is | kernel_rfl
    case etI_InvalidView => first | k_is | kernel_rfl
    case elI_InvalidView => first | k_is | kernel_rfl
    case ecI_InvalidView => first | k_is | kernel_rfl
    case ekI_InvalidView => first | k_is | kernel_rfl
    case erd_InvalidView => first | k_is | kernel_rfl
    case efdn_InvalidView => first | k_is | kernel_rfl
    case hx_InvalidView => first | k_is | kernel_rfl
    case a__law_rows => first | k_is | kernel_rfl
    case l__law_rows => first | k_is | kernel_rfl
    case c__law_rows => first | k_is | kernel_rfl
    case k__law_rows => first | k_is | kernel_rfl
    case a__law_used => first | k_is | kernel_rfl
    case l__law_used => first | k_is | kernel_rfl
    case c__law_used => first | k_is | kernel_rfl
    case k__law_used => first | k_is | kernel_rfl
    case a__law_rule => first | k_is | kernel_rfl
    case l__law_rule => first | k_is | kernel_rfl
    case c__law_rule => first | k_is | kernel_rfl
    case k__law_rule => first | k_is | kernel_rfl
    case a__law_fits => first | k_is | kernel_rfl
    case l__law_fits => first | k_is | kernel_rfl
    case c__law_fits => first | k_is | kernel_rfl
    case k__law_fits => first | k_is | kernel_rfl
    case a__law_line_at => first | k_is | kernel_rfl
    case l__law_line_at => first | k_is | kernel_rfl
    case c__law_line_at => first | k_is | kernel_rfl
    case k__law_line_at => first | k_is | kernel_rfl
    case a__law_cut => first | k_is | kernel_rfl
    case l__law_cut => first | k_is | kernel_rfl
    case c__law_cut => first | k_is | kernel_rfl
    case k__law_cut => first | k_is | kernel_rfl
    case a__law_tries => first | k_is | kernel_rfl
    case l__law_tries => first | k_is | kernel_rfl
    case c__law_tries => first | k_is | kernel_rfl
    case k__law_tries => first | k_is | kernel_rfl
    case a__law_try => first | k_is | kernel_rfl
    case l__law_try => first | k_is | kernel_rfl
    case c__law_try => first | k_is | kernel_rfl
    case k__law_try => first | k_is | kernel_rfl
    case a__law_field => first | k_is | kernel_rfl
    case l__law_field => first | k_is | kernel_rfl
    case c__law_field => first | k_is | kernel_rfl
    case k__law_field => first | k_is | kernel_rfl
    case a__law_same => first | k_is | kernel_rfl
    case l__law_same => first | k_is | kernel_rfl
    case c__law_same => first | k_is | kernel_rfl
    case k__law_same => first | k_is | kernel_rfl
    case d_tab_NAMED => first | k_is | kernel_rfl
    case e_tab_NAMED => first | k_is | kernel_rfl
    case h_tab_NAMED => exact ⟨⟨_, _, rfl, rfl⟩, ⟨_, _, rfl, rfl⟩, ⟨_, _, rfl, rfl⟩, ⟨_, _, rfl, rfl⟩, trivial⟩
    case v_tab_NAMED_both => first | k_is | kernel_rfl
    case l_tab_NAMED_both => first | k_is | kernel_rfl
    case v_tab_NAMED_first => first | k_is | kernel_rfl
    case l_tab_NAMED_first => first | k_is | kernel_rfl
    case v_tab_NAMED_second => first | k_is | kernel_rfl
    case l_tab_NAMED_second => first | k_is | kernel_rfl
    case v_tab_NAMED_either => first | k_is | kernel_rfl
    case l_tab_NAMED_either => first | k_is | kernel_rfl
    case a_is_string => first | k_is | kernel_rfl
    case l_is_string => first | k_is | kernel_rfl
    case c_is_string => first | k_is | kernel_rfl
    case k_is_string => first | k_is | kernel_rfl
    case a_is_room => first | k_is | kernel_rfl
    case l_is_room => first | k_is | kernel_rfl
    case c_is_room => first | k_is | kernel_rfl
    case k_is_room => first | k_is | kernel_rfl
    case a_check_room => first | k_is | kernel_rfl
    case l_check_room => first | k_is | kernel_rfl
    case c_check_room => first | k_is | kernel_rfl
    case k_check_room => first | k_is | kernel_rfl
    case z_VIEWS => first | k_is | kernel_rfl
    case a_is_letter => first | k_is | kernel_rfl
    case l_is_letter => first | k_is | kernel_rfl
    case c_is_letter => first | k_is | kernel_rfl
    case k_is_letter => first | k_is | kernel_rfl
    case a_is_view => first | k_is | kernel_rfl
    case l_is_view => first | k_is | kernel_rfl
    case c_is_view => first | k_is | kernel_rfl
    case k_is_view => first | k_is | kernel_rfl
    case a_check_view => first | k_is | kernel_rfl
    case l_check_view => first | k_is | kernel_rfl
    case c_check_view => first | k_is | kernel_rfl
    case k_check_view => first | k_is | kernel_rfl
    case at_B_cut => first | k_is | kernel_rfl
    case fn_B_cut => first | k_is | kernel_rfl
    case l_B_cut => first | k_is | kernel_rfl
    case c_B_cut => first | k_is | kernel_rfl
    case k_B_cut => first | k_is | kernel_rfl
    case at_B_line_at => first | k_is | kernel_rfl
    case fn_B_line_at => first | k_is | kernel_rfl
    case l_B_line_at => first | k_is | kernel_rfl
    case c_B_line_at => first | k_is | kernel_rfl
    case k_B_line_at => first | k_is | kernel_rfl
    case a_fits => first | k_is | kernel_rfl
    case l_fits => first | k_is | kernel_rfl
    case c_fits => first | k_is | kernel_rfl
    case k_fits => first | k_is | kernel_rfl
    case a_parts_of => first | k_is | kernel_rfl
    case l_parts_of => first | k_is | kernel_rfl
    case c_parts_of => first | k_is | kernel_rfl
    case k_parts_of => first | k_is | kernel_rfl
    case d_tab__UPRIGHT => first | k_is | kernel_rfl
    case e_tab__UPRIGHT => first | k_is | kernel_rfl
    case h_tab__UPRIGHT => exact ⟨⟨_, _, rfl, rfl⟩, ⟨_, _, rfl, rfl⟩, ⟨_, _, rfl, rfl⟩, ⟨_, _, rfl, rfl⟩, ⟨_, _, rfl, rfl⟩, ⟨_, _, rfl, rfl⟩, trivial⟩
    case v_tab__UPRIGHT_N => first | k_is | kernel_rfl
    case v_tab__UPRIGHT_E => first | k_is | kernel_rfl
    case v_tab__UPRIGHT_S => first | k_is | kernel_rfl
    case v_tab__UPRIGHT_W => first | k_is | kernel_rfl
    case v_tab__UPRIGHT_A => first | k_is | kernel_rfl
    case v_tab__UPRIGHT_D => first | k_is | kernel_rfl
    case d_tab__LEVEL => first | k_is | kernel_rfl
    case e_tab__LEVEL => first | k_is | kernel_rfl
    case h_tab__LEVEL => exact ⟨⟨_, _, rfl, rfl⟩, ⟨_, _, rfl, rfl⟩, ⟨_, _, rfl, rfl⟩, ⟨_, _, rfl, rfl⟩, ⟨_, _, rfl, rfl⟩, ⟨_, _, rfl, rfl⟩, trivial⟩
    case v_tab__LEVEL_N => first | k_is | kernel_rfl
    case v_tab__LEVEL_E => first | k_is | kernel_rfl
    case v_tab__LEVEL_S => first | k_is | kernel_rfl
    case v_tab__LEVEL_W => first | k_is | kernel_rfl
    case v_tab__LEVEL_A => first | k_is | kernel_rfl
    case v_tab__LEVEL_D => first | k_is | kernel_rfl
    case a_rule => first | k_is | kernel_rfl
    case l_rule => first | k_is | kernel_rfl
    case c_rule => first | k_is | kernel_rfl
    case k_rule => first | k_is | kernel_rfl
    case a_splits => first | k_is | kernel_rfl
    case l_splits => first | k_is | kernel_rfl
    case c_splits => first | k_is | kernel_rfl
    case k_splits => first | k_is | kernel_rfl
    case a_members => first | k_is | kernel_rfl
    case l_members => first | k_is | kernel_rfl
    case c_members => first | k_is | kernel_rfl
    case k_members => first | k_is | kernel_rfl
    case a__law_draw => first | k_is | kernel_rfl
    case l__law_draw => first | k_is | kernel_rfl
    case c__law_draw => first | k_is | kernel_rfl
    case k__law_draw => first | k_is | kernel_rfl
    case a__law_of => first | k_is | kernel_rfl
    case l__law_of => first | k_is | kernel_rfl
    case c__law_of => first | k_is | kernel_rfl
    case k__law_of => first | k_is | kernel_rfl
    case a__law_odd_view => first | k_is | kernel_rfl
    case l__law_odd_view => first | k_is | kernel_rfl
    case c__law_odd_view => first | k_is | kernel_rfl
    case k__law_odd_view => first | k_is | kernel_rfl
    case a__law_odd_room => first | k_is | kernel_rfl
    case l__law_odd_room => first | k_is | kernel_rfl
    case c__law_odd_room => first | k_is | kernel_rfl
    case k__law_odd_room => first | k_is | kernel_rfl
    case a__law_split => first | k_is | kernel_rfl
    case l__law_split => first | k_is | kernel_rfl
    case c__law_split => first | k_is | kernel_rfl
    case k__law_split => first | k_is | kernel_rfl
    case a__law_parts => first | k_is | kernel_rfl
    case l__law_parts => first | k_is | kernel_rfl
    case c__law_parts => first | k_is | kernel_rfl
    case k__law_parts => first | k_is | kernel_rfl
    case a__law_turns => first | k_is | kernel_rfl
    case l__law_turns => first | k_is | kernel_rfl
    case c__law_turns => first | k_is | kernel_rfl
    case k__law_turns => first | k_is | kernel_rfl
    case a__law_members => first | k_is | kernel_rfl
    case l__law_members => first | k_is | kernel_rfl
    case c__law_members => first | k_is | kernel_rfl
    case k__law_members => first | k_is | kernel_rfl
    case a__law_some_history => first | k_is | kernel_rfl
    case l__law_some_history => first | k_is | kernel_rfl
    case c__law_some_history => first | k_is | kernel_rfl
    case k__law_some_history => first | k_is | kernel_rfl
    case a__law_some_room => first | k_is | kernel_rfl
    case l__law_some_room => first | k_is | kernel_rfl
    case c__law_some_room => first | k_is | kernel_rfl
    case k__law_some_room => first | k_is | kernel_rfl
    case B_init => first | k_is | kernel_rfl
    case B_ifn => first | k_is | kernel_rfl
    case l_Bi => first | k_is | kernel_rfl
    case c_Bi => first | k_is | kernel_rfl
    case k_Bi => first | k_is | kernel_rfl
    case z__LOWER => first | k_is | kernel_rfl
    case z__MOST_FACES => first | k_is | kernel_rfl
    case a_is_ascending => first | k_is | kernel_rfl
    case l_is_ascending => first | k_is | kernel_rfl
    case c_is_ascending => first | k_is | kernel_rfl
    case k_is_ascending => first | k_is | kernel_rfl
    case a_is_choice => first | k_is | kernel_rfl
    case l_is_choice => first | k_is | kernel_rfl
    case c_is_choice => first | k_is | kernel_rfl
    case k_is_choice => first | k_is | kernel_rfl
    case a_is_faces => first | k_is | kernel_rfl
    case l_is_faces => first | k_is | kernel_rfl
    case c_is_faces => first | k_is | kernel_rfl
    case k_is_faces => first | k_is | kernel_rfl
    case z__UPPER => first | k_is | kernel_rfl
    case z__MOST_CUTTERS => first | k_is | kernel_rfl
    case a_is_cutters => first | k_is | kernel_rfl
    case l_is_cutters => first | k_is | kernel_rfl
    case c_is_cutters => first | k_is | kernel_rfl
    case k_is_cutters => first | k_is | kernel_rfl
    case a_is_part => first | k_is | kernel_rfl
    case l_is_part => first | k_is | kernel_rfl
    case c_is_part => first | k_is | kernel_rfl
    case k_is_part => first | k_is | kernel_rfl
    case a_is_cut => first | k_is | kernel_rfl
    case l_is_cut => first | k_is | kernel_rfl
    case c_is_cut => first | k_is | kernel_rfl
    case k_is_cut => first | k_is | kernel_rfl
    case a_is_line => first | k_is | kernel_rfl
    case l_is_line => first | k_is | kernel_rfl
    case c_is_line => first | k_is | kernel_rfl
    case k_is_line => first | k_is | kernel_rfl
    case a_head_of => first | k_is | kernel_rfl
    case l_head_of => first | k_is | kernel_rfl
    case c_head_of => first | k_is | kernel_rfl
    case k_head_of => first | k_is | kernel_rfl
    case a_line_of => first | k_is | kernel_rfl
    case l_line_of => first | k_is | kernel_rfl
    case c_line_of => first | k_is | kernel_rfl
    case k_line_of => first | k_is | kernel_rfl
    case S_fd => first | k_is | kernel_rfl
    case S_rc => first | k_is | kernel_rfl
    case l_B_read => first | k_is | kernel_rfl
    case c_B_read => first | k_is | kernel_rfl
    case k_B_read => first | k_is | kernel_rfl
    case a__law_line_text => first | k_is | kernel_rfl
    case l__law_line_text => first | k_is | kernel_rfl
    case c__law_line_text => first | k_is | kernel_rfl
    case k__law_line_text => first | k_is | kernel_rfl
    case a__law_book_text => first | k_is | kernel_rfl
    case l__law_book_text => first | k_is | kernel_rfl
    case c__law_book_text => first | k_is | kernel_rfl
    case k__law_book_text => first | k_is | kernel_rfl
    case a__law_book => first | k_is | kernel_rfl
    case l__law_book => first | k_is | kernel_rfl
    case c__law_book => first | k_is | kernel_rfl
    case k__law_book => first | k_is | kernel_rfl
    case a__law_part => first | k_is | kernel_rfl
    case l__law_part => first | k_is | kernel_rfl
    case c__law_part => first | k_is | kernel_rfl
    case k__law_part => first | k_is | kernel_rfl
    case a__law_some_cut => first | k_is | kernel_rfl
    case l__law_some_cut => first | k_is | kernel_rfl
    case c__law_some_cut => first | k_is | kernel_rfl
    case k__law_some_cut => first | k_is | kernel_rfl
    case a__law_letters => first | k_is | kernel_rfl
    case l__law_letters => first | k_is | kernel_rfl
    case c__law_letters => first | k_is | kernel_rfl
    case k__law_letters => first | k_is | kernel_rfl
    case a__law_some_faces => first | k_is | kernel_rfl
    case l__law_some_faces => first | k_is | kernel_rfl
    case c__law_some_faces => first | k_is | kernel_rfl
    case k__law_some_faces => first | k_is | kernel_rfl
    case a__law_some_cutters => first | k_is | kernel_rfl
    case l__law_some_cutters => first | k_is | kernel_rfl
    case c__law_some_cutters => first | k_is | kernel_rfl
    case k__law_some_cutters => first | k_is | kernel_rfl
    case a__law_some_line => first | k_is | kernel_rfl
    case l__law_some_line => first | k_is | kernel_rfl
    case c__law_some_line => first | k_is | kernel_rfl
    case k__law_some_line => first | k_is | kernel_rfl
    case a__law_some_book => first | k_is | kernel_rfl
    case l__law_some_book => first | k_is | kernel_rfl
    case c__law_some_book => first | k_is | kernel_rfl
    case k__law_some_book => first | k_is | kernel_rfl
    case a__law_open => first | k_is | kernel_rfl
    case l__law_open => first | k_is | kernel_rfl
    case c__law_open => first | k_is | kernel_rfl
    case k__law_open => first | k_is | kernel_rfl
    case a_law => first | k_is | kernel_rfl
    case l_law => first | k_is | kernel_rfl
    case c_law => first | k_is | kernel_rfl
    case y_isinstance => first | k_is | kernel_rfl
    case y_str => first | k_is | kernel_rfl
    case y_all => first | k_is | kernel_rfl
    case y_any => first | k_is | kernel_rfl
    case y_len => first | k_is | kernel_rfl
    case y_int => first | k_is | kernel_rfl
    case y_list => first | k_is | kernel_rfl
    case y_abs => first | k_is | kernel_rfl
    case y_bool => first | k_is | kernel_rfl
    case y_tuple => first | k_is | kernel_rfl
    case y_zip => first | k_is | kernel_rfl
    case y_range => first | k_is | kernel_rfl
    case y_enumerate => first | k_is | kernel_rfl
    case y_sorted => first | k_is | kernel_rfl
    case y_dict => first | k_is | kernel_rfl
    case y_set => first | k_is | kernel_rfl
    case y_sum => first | k_is | kernel_rfl
    case y_min => first | k_is | kernel_rfl
    case y_max => first | k_is | kernel_rfl
    case y_reversed => first | k_is | kernel_rfl
    case y_repr => first | k_is | kernel_rfl
    case y_ord => first | k_is | kernel_rfl
  case hcode => exact fun pr => by kernel_rfl
