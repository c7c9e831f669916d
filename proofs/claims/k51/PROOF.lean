import PyProof.Rows.All
import Wide.All
import OpenK.AllK
import Wide.FinOn
import KE.KNestM
import KE.KStateDown
import HandS.Head0
import HandS.Head1
import HandS.Head2
import HandS.Head3
import KE.KTypeName
import KE.KExcIs
import HandS.Base
import HandS.Call
import HandS.Exc
import HandS.ExcInit
import HandS.ExcField
import KE.KTryMore
import HandS.HotCalls
import HandS.Lambda
import HandS.Words
import HandS.WordsExc
import PyProof.EqAt
import PyProof.EqKinds
import PyProof.TupleCall
import KE.KUnpack
import HandS.List
import HandS.Comp
import HandS.Iter
import HandS.Text
import HandS.WordsList
import KE.GoesMore
import HandS.Walk
import HandS.IsInst
import HandS.Ends
import HandS.Zip
import HandS.Codes
import HandS.Style
import KE.KRevSl
import KE.GoesEnum
import HandS.Star
import HandS.SlotsOwn
import PyProof.InstEq
import HandS.More
import HandS.Conv
import HandS.FStr
import HandS.ClsMeth
import HandS.EndTab
import HandS.HeadHook4
import HandS.SortRule
import KE.KSortTupAny
import HandS.ListItems
import HandS.Nested
import PyProof.Rows.SortShellAny
import PyProof.StrBlock2
import HandS.TupMul
import HandS.NoneIn
import PyProof.Rows.Range3
import PyProof.Conv_bool
import HandS.MethStar
import PyProof.ListStr
import PyProof.ListRange
import OpenK.KMeth
import HandS.Wide
import HandS.Gcd
import HandS.MakeKw
import HandS.MakeKwOnly
import HandS.Defaults
import HandS.Replace
import HandS.ReplaceList
import HandS.SetKeys
import PyProof.DictMoreH
import HandS.TupAny
import HandS.TryMany
import HandS.Deep
import PySem.Challenge.RW_fourwalls_k51_walks_through_places
set_option Elab.async false
set_option linter.all false
set_option maxRecDepth 100000
set_option maxHeartbeats 16000000
/-! the head of a law with tables in one run of the kernel: the objects read off the tree -/
namespace FW
open PySem PySem.W PySem.Calls PyProof.Rows HandSHeadRun
noncomputable def obK (as ts : List Addr) (s : SharedT) : List (Option Obj) × List (Option Obj) := (as.map (getT s), ts.map (getT s))
theorem head_km {r : OpenRow} {q : Program} {K : Params → Frag} {as ts : List Addr} {e : ∀ P, as = (K P).map (·.1)} {M : Nat} {loose : List PySem.Str} {d : DefRec} {kwd : List (PySem.Str × PySem.Expr)}
    (H : Hook) (hH : H = kmHook K as e ts)
    (eo : opening r.prog = plainProg r.prog.main.scope.names) (f : ∀ s, fenceModules? r.prog s = some s) (run : ∀ w, RunEq r q (kmHook K as e ts) (obK as ts) M loose w)
    (hdef : defOf q r.name = some (d, kwd)) (hp : r.prog.theDef r.name = some (d.params, d.body, d.scope)) (hk : kwWritten? d.params.kwonlyargs d.params.kw_defaults = some kwd)
    (hwr : (!r.writes || r.records.isEmpty) = true) (k1 : r.wellSaid = true) (ok : (chainsOk q && opensWell r.prog && (frees r.toRowW && r.within.isEmpty)) = true) (hb : r.prog.bare) (hw : r.toRowW.promised)
    (call : WalkO q loose (XL q []) (kmHook K as e ts).says r.toRowW d kwd fun f vs => PySem.call f vs) : r.Holds := by
  refine head_any (H := kmHook K as e ts) (ob := obK as ts) (M := M) (loose := loose) (d := d) (kwd := kwd) (fun s => ?_) eo f run hdef hp hk hwr k1 ok hb hw call
  show (as.map (getT s), ts.map (getT s)) = (as.map s.abs.heap.get?, ts.map s.abs.heap.get?)
  rw [show getT s = s.abs.heap.get? from funext (getT_eq s)]
theorem head_kk {r : OpenRow} {q : Program} {K : Params → Frag} {as : List Addr} {e : ∀ P, as = (K P).map (·.1)} {M : Nat} {loose : List PySem.Str} {d : DefRec} {kwd : List (PySem.Str × PySem.Expr)}
    (H : Hook) (hH : H = kHook K as e)
    (eo : opening r.prog = plainProg r.prog.main.scope.names) (f : ∀ s, fenceModules? r.prog s = some s) (run : ∀ w, RunEq r q (kHook K as e) (fun s => as.map (getT s)) M loose w)
    (hdef : defOf q r.name = some (d, kwd)) (hp : r.prog.theDef r.name = some (d.params, d.body, d.scope)) (hk : kwWritten? d.params.kwonlyargs d.params.kw_defaults = some kwd)
    (hwr : (!r.writes || r.records.isEmpty) = true) (k1 : r.wellSaid = true) (ok : (chainsOk q && opensWell r.prog && (frees r.toRowW && r.within.isEmpty)) = true) (hb : r.prog.bare) (hw : r.toRowW.promised)
    (call : WalkO q loose (XL q []) (kHook K as e).says r.toRowW d kwd fun f vs => PySem.call f vs) : r.Holds := by
  refine head_any (H := kHook K as e) (ob := fun s => as.map (getT s)) (M := M) (loose := loose) (d := d) (kwd := kwd) (fun s => ?_) eo f run hdef hp hk hwr k1 ok hb hw call
  show as.map (getT s) = as.map s.abs.heap.get?
  rw [show getT s = s.abs.heap.get? from funext (getT_eq s)]
theorem head_kmI {r : OpenRow} {q : Program} {K : Params → Frag} {as ts : List Addr} {e : ∀ P, as = (K P).map (·.1)} {M : Nat} {loose : List PySem.Str} {d : DefRec} {kwd : List (PySem.Str × PySem.Expr)}
    (H : Hook) (hH : H = kmHook K as e ts) (run : ∀ w, RunEqI r q (kmHook K as e ts) (obK as ts) M loose w)
    (hdef : defOf q r.name = some (d, kwd)) (hp : r.prog.theDef r.name = some (d.params, d.body, d.scope)) (hk : kwWritten? d.params.kwonlyargs d.params.kw_defaults = some kwd)
    (hwr : (!r.writes || r.records.isEmpty) = true) (k1 : r.wellSaid = true) (ok : (chainsOk q && opensWell r.prog && (frees r.toRowW && r.within.isEmpty)) = true) (hb : r.prog.bare) (hw : r.toRowW.promised)
    (call : WalkO q loose (XL q []) (kmHook K as e ts).says r.toRowW d kwd fun f vs => PySem.call f vs) : r.Holds := by
  refine head_imp (H := kmHook K as e ts) (ob := obK as ts) (M := M) (loose := loose) (d := d) (kwd := kwd) (fun s => ?_) run hdef hp hk hwr k1 ok hb hw call
  show (as.map (getT s), ts.map (getT s)) = (as.map s.abs.heap.get?, ts.map s.abs.heap.get?)
  rw [show getT s = s.abs.heap.get? from funext (getT_eq s)]
theorem head_kkI {r : OpenRow} {q : Program} {K : Params → Frag} {as : List Addr} {e : ∀ P, as = (K P).map (·.1)} {M : Nat} {loose : List PySem.Str} {d : DefRec} {kwd : List (PySem.Str × PySem.Expr)}
    (H : Hook) (hH : H = kHook K as e) (run : ∀ w, RunEqI r q (kHook K as e) (fun s => as.map (getT s)) M loose w)
    (hdef : defOf q r.name = some (d, kwd)) (hp : r.prog.theDef r.name = some (d.params, d.body, d.scope)) (hk : kwWritten? d.params.kwonlyargs d.params.kw_defaults = some kwd)
    (hwr : (!r.writes || r.records.isEmpty) = true) (k1 : r.wellSaid = true) (ok : (chainsOk q && opensWell r.prog && (frees r.toRowW && r.within.isEmpty)) = true) (hb : r.prog.bare) (hw : r.toRowW.promised)
    (call : WalkO q loose (XL q []) (kHook K as e).says r.toRowW d kwd fun f vs => PySem.call f vs) : r.Holds := by
  refine head_imp (H := kHook K as e) (ob := fun s => as.map (getT s)) (M := M) (loose := loose) (d := d) (kwd := kwd) (fun s => ?_) run hdef hp hk hwr k1 ok hb hw call
  show as.map (getT s) = as.map s.abs.heap.get?
  rw [show getT s = s.abs.heap.get? from funext (getT_eq s)]
theorem opt_pair {α β γ : Type} {X : Option α} {f : α → β} {g : α → γ} {a : β} {b : γ} (h1 : X.map f = some a) (h2 : X.map g = some b) : X.map (fun s => (f s, g s)) = some (a, b) := by
  cases X with
  | none => cases h1
  | some s =>
    cases h1
    cases h2
    rfl
/-- the three looks at the run's end, each a run of its own -/
def RunA (r : OpenRow) (M : Nat) (w : World) : Prop := (wholeF (fun p => stepQ (denQ tabQ) p w) fenceQ M r.prog).map (fun x => looksF r.prog x.1.heap x.2.abs) = some true
def RunB (r : OpenRow) (q : Program) (M : Nat) (loose : List PySem.Str) (w : World) : Prop := (wholeF (fun p => stepQ (denQ tabQ) p w) fenceQ M r.prog).map (fun x => seenQ q loose (importedModules r.prog.main.body) (fun s => xlAt q [] s && recOk r.toRowW.records s) x.2.abs) = some (openGood q loose)
def RunC (r : OpenRow) (H : Hook) (ob : SharedT → H.α) (M : Nat) (w : World) : Prop := (wholeF (fun p => stepQ (denQ tabQ) p w) fenceQ M r.prog).map (fun x => ob x.2) = some (H.val w)
theorem run_abc {r : OpenRow} {q : Program} {H : Hook} {ob : SharedT → H.α} {M : Nat} {loose : List PySem.Str} {w : World} (a : RunA r M w) (b : RunB r q M loose w) (c : RunC r H ob M w) : RunEqI r q H ob M loose w := opt_pair a (opt_pair b c)
theorem head_kmJ {r : OpenRow} {q : Program} {K : Params → Frag} {as ts : List Addr} {e : ∀ P, as = (K P).map (·.1)} {M : Nat} {loose : List PySem.Str} {d : DefRec} {kwd : List (PySem.Str × PySem.Expr)}
    (H : Hook) (hH : H = kmHook K as e ts) (ra : ∀ w, RunA r M w) (rb : ∀ w, RunB r q M loose w) (run : ∀ w, RunC r (kmHook K as e ts) (obK as ts) M w)
    (hdef : defOf q r.name = some (d, kwd)) (hp : r.prog.theDef r.name = some (d.params, d.body, d.scope)) (hk : kwWritten? d.params.kwonlyargs d.params.kw_defaults = some kwd)
    (hwr : (!r.writes || r.records.isEmpty) = true) (k1 : r.wellSaid = true) (ok : (chainsOk q && opensWell r.prog && (frees r.toRowW && r.within.isEmpty)) = true) (hb : r.prog.bare) (hw : r.toRowW.promised)
    (call : WalkO q loose (XL q []) (kmHook K as e ts).says r.toRowW d kwd fun f vs => PySem.call f vs) : r.Holds :=
  head_kmI H hH (fun w => run_abc (ra w) (rb w) (run w)) hdef hp hk hwr k1 ok hb hw call
theorem keepH {r : OpenRow} (h : r.Holds) (H : Hook) : r.Holds := h
noncomputable def obK1 (as : List Addr) (s : SharedT) : List (Option Obj) := as.map (getT s)
theorem head_kkJ {r : OpenRow} {q : Program} {K : Params → Frag} {as : List Addr} {e : ∀ P, as = (K P).map (·.1)} {M : Nat} {loose : List PySem.Str} {d : DefRec} {kwd : List (PySem.Str × PySem.Expr)}
    (H : Hook) (hH : H = kHook K as e) (ra : ∀ w, RunA r M w) (rb : ∀ w, RunB r q M loose w) (run : ∀ w, RunC r (kHook K as e) (obK1 as) M w)
    (hdef : defOf q r.name = some (d, kwd)) (hp : r.prog.theDef r.name = some (d.params, d.body, d.scope)) (hk : kwWritten? d.params.kwonlyargs d.params.kw_defaults = some kwd)
    (hwr : (!r.writes || r.records.isEmpty) = true) (k1 : r.wellSaid = true) (ok : (chainsOk q && opensWell r.prog && (frees r.toRowW && r.within.isEmpty)) = true) (hb : r.prog.bare) (hw : r.toRowW.promised)
    (call : WalkO q loose (XL q []) (kHook K as e).says r.toRowW d kwd fun f vs => PySem.call f vs) : r.Holds :=
  head_kkI H hH (fun w => run_abc (ra w) (rb w) (run w)) hdef hp hk hwr k1 ok hb hw call
/-- .. of a program without imports -/
def RunA0 (r : OpenRow) (M : Nat) (w : World) : Prop := ∀ os : OsState, (endF (stepQ (denQ tabQ) r.prog w) M r.prog w os).map (fun s => looksF r.prog (boot_heap w.params) s.abs) = some true
def RunB0 (r : OpenRow) (q : Program) (M : Nat) (loose : List PySem.Str) (w : World) : Prop := ∀ os : OsState, (endF (stepQ (denQ tabQ) r.prog w) M r.prog w os).map (fun s => seenQ q loose (importedModules r.prog.main.body) (fun s => xlAt q [] s && recOk r.toRowW.records s) s.abs) = some (openGood q loose)
def RunC0 (r : OpenRow) (H : Hook) (ob : SharedT → H.α) (M : Nat) (w : World) : Prop := ∀ os : OsState, (endF (stepQ (denQ tabQ) r.prog w) M r.prog w os).map ob = some (H.val w)
theorem run_abc0 {r : OpenRow} {q : Program} {H : Hook} {ob : SharedT → H.α} {M : Nat} {loose : List PySem.Str} {w : World} (a : RunA0 r M w) (b : RunB0 r q M loose w) (c : RunC0 r H ob M w) : RunEq r q H ob M loose w := fun os => opt_pair (a os) (opt_pair (b os) (c os))
theorem head_kmJ0 {r : OpenRow} {q : Program} {K : Params → Frag} {as ts : List Addr} {e : ∀ P, as = (K P).map (·.1)} {M : Nat} {loose : List PySem.Str} {d : DefRec} {kwd : List (PySem.Str × PySem.Expr)}
    (H : Hook) (hH : H = kmHook K as e ts) (eo : opening r.prog = plainProg r.prog.main.scope.names) (f : ∀ s, fenceModules? r.prog s = some s) (ra : ∀ w, RunA0 r M w) (rb : ∀ w, RunB0 r q M loose w) (run : ∀ w, RunC0 r (kmHook K as e ts) (obK as ts) M w)
    (hdef : defOf q r.name = some (d, kwd)) (hp : r.prog.theDef r.name = some (d.params, d.body, d.scope)) (hk : kwWritten? d.params.kwonlyargs d.params.kw_defaults = some kwd)
    (hwr : (!r.writes || r.records.isEmpty) = true) (k1 : r.wellSaid = true) (ok : (chainsOk q && opensWell r.prog && (frees r.toRowW && r.within.isEmpty)) = true) (hb : r.prog.bare) (hw : r.toRowW.promised)
    (call : WalkO q loose (XL q []) (kmHook K as e ts).says r.toRowW d kwd fun f vs => PySem.call f vs) : r.Holds :=
  head_km H hH eo f (fun w => run_abc0 (ra w) (rb w) (run w)) hdef hp hk hwr k1 ok hb hw call
theorem head_kkJ0 {r : OpenRow} {q : Program} {K : Params → Frag} {as : List Addr} {e : ∀ P, as = (K P).map (·.1)} {M : Nat} {loose : List PySem.Str} {d : DefRec} {kwd : List (PySem.Str × PySem.Expr)}
    (H : Hook) (hH : H = kHook K as e) (eo : opening r.prog = plainProg r.prog.main.scope.names) (f : ∀ s, fenceModules? r.prog s = some s) (ra : ∀ w, RunA0 r M w) (rb : ∀ w, RunB0 r q M loose w) (run : ∀ w, RunC0 r (kHook K as e) (obK1 as) M w)
    (hdef : defOf q r.name = some (d, kwd)) (hp : r.prog.theDef r.name = some (d.params, d.body, d.scope)) (hk : kwWritten? d.params.kwonlyargs d.params.kw_defaults = some kwd)
    (hwr : (!r.writes || r.records.isEmpty) = true) (k1 : r.wellSaid = true) (ok : (chainsOk q && opensWell r.prog && (frees r.toRowW && r.within.isEmpty)) = true) (hb : r.prog.bare) (hw : r.toRowW.promised)
    (call : WalkO q loose (XL q []) (kHook K as e).says r.toRowW d kwd fun f vs => PySem.call f vs) : r.Holds :=
  head_kk H hH eo f (fun w => run_abc0 (ra w) (rb w) (run w)) hdef hp hk hwr k1 ok hb hw call
end FW
namespace FW
abbrev hR : PySem.W.OpenRow := PySem.W.OpenLaw.row PySem.Challenge.rw_fourwalls_k51_walks_through_places
abbrev hq : PySem.Program := PySem.W.view hR.prog [0, 88]
def hn0 : List PySem.Str := ["_wall", "__name__", "HouseError", "Missing", "InvalidFaces", "InvalidCutters", "InvalidLine", "InvalidRoom", "InvalidCutter", "InvalidView", "InvalidStep", "InvalidRatio", "InvalidText", "NothingLeft", "_LOWER", "_UPPER", "_MOST_FACES", "_MOST_CUTTERS", "is_ascending", "is_choice", "is_faces", "is_cutters", "is_integer", "is_string", "is_letter", "is_room", "is_cut", "parts_of", "Ratio", "check_room"]
def hn1 : List PySem.Str := ["_SIDES", "is_place", "is_placed_step", "boxes_at", "lay", "laid", "floor_behind", "check_walk", "walk_in", "walk_at", "is_part", "is_line", "fits", "head_of", "line_of", "row_of", "Book", "_law_open", "_law_draw", "_law_of", "_law_same", "_law_field", "_law_try", "_law_tries", "_law_letters", "_law_some_faces", "_law_some_cutters", "_law_part", "_law_some_room", "_law_some_cut"]
def hn2 : List PySem.Str := ["_law_some_line", "_law_some_book", "_law_line_text", "_law_book_text", "_law_book", "_law_fits", "_law_line_at", "_law_cut", "_law_split", "_law_parts", "_law_top", "_law_low", "_law_add", "_law_times", "_law_below", "_law_on_way", "_law_pair", "_law_some_place", "_law_some_placed", "_law_cut_box", "_law_raised_ratio"]
def hnames : List PySem.Str := hn0 ++ hn1 ++ hn2
section
open PySem PySem.W PyProof.Rows
local macro_rules | `(tactic| o_head $H) => `(tactic| (refine FW.keepH ?_ $H; assumption))
theorem hk0 (X : hR.Holds) : hR.Holds := by
  w_on; k_head
end
def has : List PySem.Addr := [2, 3, 43, 45, 46, 48, 49, 50, 57, 58, 59, 60, 63, 70, 71, 72, 73, 76, 83, 85, 86, 88, 89, 90, 91, 92, 95, 102, 104, 105, 107, 108, 109, 110, 111, 114, 121, 123, 124, 126, 127, 128, 129, 130, 133, 140, 142, 143, 145, 146, 147, 148, 149, 152, 159, 161, 162, 164, 165, 166, 167, 168, 171, 178, 180, 181, 183, 184, 185, 186, 187, 190, 197, 199, 200, 202, 203, 204, 205, 206, 209, 216, 218, 219, 221, 222, 223, 224, 225, 228, 235, 237, 238, 240, 241, 242, 243, 244, 247, 254, 256, 257, 259, 260, 261, 262, 263, 264, 267, 270, 271, 272, 274, 275, 277, 278, 279, 281, 282, 284, 285, 286, 288, 289, 291, 292, 293, 295, 296, 298, 299, 300, 303, 304, 305, 307, 308, 310, 311, 312, 314, 315, 317, 318, 319, 321, 322, 324, 325, 326, 328, 329, 331, 332, 340, 341, 343, 344, 346, 347, 348, 350, 351, 353, 354, 355, 357, 358, 360, 361, 362, 364, 365, 367, 368, 369, 371, 372, 374, 375, 376, 378, 379, 381, 382, 383, 385, 386, 388, 389, 390, 392, 393, 395, 396, 397, 398, 399, 400, 401, 404, 406, 407, 409, 410, 411, 412, 413, 414, 416, 417, 419, 420, 421, 423, 424, 426, 427, 428, 430, 431, 433, 434, 435, 437, 438, 440, 441, 442, 444, 445, 447, 448, 449, 451, 452, 454, 455, 456, 458, 459, 461, 462, 463, 465, 466, 468, 469, 470, 472, 473, 475, 476, 477, 479, 480, 482, 483, 484, 487, 488, 489, 492, 493, 494, 496, 497, 499, 500, 501, 503, 504, 506, 507, 508, 510, 511, 513, 514, 522, 524, 525, 527, 528, 529, 531, 532, 534, 535, 536, 538, 539, 541, 542, 543, 545, 546, 548, 549, 550, 552, 553, 555, 556, 557, 559, 560, 562, 563, 564, 566, 567, 569, 570, 571, 574, 575, 576, 578, 579, 581, 582, 583, 584, 585, 586, 588, 589, 591, 592, 593, 595, 596, 598, 599, 600, 602, 603, 605, 606, 607, 609, 610, 612, 613, 614, 615, 616, 617, 618, 621, 623, 624, 626, 627, 628, 630, 631, 633, 634, 635, 637, 638, 640, 641, 642, 645, 646, 647, 649, 650, 652, 653, 654, 656, 657, 659, 660, 661, 664, 665, 666, 668, 669, 671, 672, 673, 675, 676, 678, 679, 680, 682, 683, 685, 686, 687, 690, 691, 692, 694, 695, 697, 698, 699, 701, 702, 704, 705, 706, 709, 710, 711, 714, 715, 716, 718, 719, 721, 722, 723, 726, 727, 728, 730, 731, 733, 734, 735, 738, 739, 740, 742, 743, 745, 746, 747, 749, 750, 752, 753, 754, 756, 757, 759, 760, 761, 763, 764, 766, 767, 768, 770, 771, 773, 774, 775, 777, 778, 780, 781, 782, 784, 785, 787, 788, 789, 791, 792, 794, 795, 796, 798, 799, 801, 802, 803, 805, 806, 808, 809, 810, 812, 813, 815, 816, 817, 819, 820, 822, 823, 824, 826, 827, 829, 830, 831, 833, 834, 836, 837, 838, 840, 841, 843, 844, 845, 848, 849]
def hts : List PySem.Addr := [846]
theorem hasE : ∀ P, has = (hk0.heap_1 P).map (·.1) := fun _ => by kernel_rfl
theorem hRC (w : PySem.World) : FW.RunC FW.hR (PySem.W.kmHook hk0.heap_1 has hasE hts) (FW.obK has hts) 20000 w := by
  refine PySem.W.byRow2 "special-get-raises" (P := fun w => FW.RunC FW.hR (PySem.W.kmHook hk0.heap_1 has hasE hts) (FW.obK has hts) 20000 w) (fun w => ?_) (fun w => ?_) w
  · unfold FW.RunC
    kernel_rfl
  · unfold FW.RunC
    kernel_rfl
theorem hRA (w : PySem.World) : FW.RunA FW.hR 20000 w := by
  refine PySem.W.byRow2 "special-get-raises" (P := fun w => FW.RunA FW.hR 20000 w) (fun w => ?_) (fun w => ?_) w
  · unfold FW.RunA
    kernel_rfl
  · unfold FW.RunA
    kernel_rfl
theorem hRB (w : PySem.World) : FW.RunB FW.hR FW.hq 20000 FW.hnames w := by
  refine PySem.W.byRow2 "special-get-raises" (P := fun w => FW.RunB FW.hR FW.hq 20000 FW.hnames w) (fun w => ?_) (fun w => ?_) w
  · unfold FW.RunB
    kernel_rfl
  · unfold FW.RunB
    kernel_rfl
end FW
namespace FW
open PySem PySem.Spec PyProof.Rows L2 Builtin Builtin.Getset_descriptor PySem.W
/-! ### the name of a class of the program -/
theorem own_dga (d tp : Value) (C : Addr) : descrGetArgs ⟨[d, .ref C, tp], []⟩ = pure (d, some (.ref C), given tp) := by kernel_rfl
section
variable {prog : Program} {w : World} {A : Around} {E : Value → Shared → Prop} {s : Shared} {K : PySem.W.Frag}
theorem own_get {C : Addr} {tp : Value} {R : Result → Shared → Prop} {o : Obj} {z : Str} {tk : Tok} (X : K.In s.heap) (ht : PySem.W.typeIn K (.ref C) = some (.type "type")) (ho : s.heap.get? C = some o) (hs : o.slots[2]? = some (some (.str z tk)))
    (h : R (.ok (.ret (.str z tk))) s) :
    codeAny (model prog w) A (.call (.builtin "getset_descriptor.__get__") ⟨[.builtin "type.__name__", .ref C, tp], []⟩) R s := by
  obtain ⟨hh, g, dr, t, os⟩ := s
  have t1 : Looks (model prog w) hh (typeOf (.ref C)) (.type "type") := looks_typeIn X ht
  have t2 : Looks (model prog w) hh (isSubtype (.type "type") (.type "type")) true := .of_pure (by
    rw [isSubtype_type]
    kernel_rfl)
  refine codeAny_call_builtin KF.slot_gs.plain KF.entry_gs
    (KF.slot_gs.check _ _ _ _ _ _ _ _
      ktyn_type (KF.args_gs _ _ _) ?_)
  unfold Builtin.«getset_descriptor.__get__» descrGet
  rw [own_dga]
  refine wpAny_bind (wpAny_pure ?_)
  unfold descrGetter descrCheckInstance descrNameAndClass isInstance
  simp only [ktyn_owner]
  repeat lk
  refine ⟨Code.quiet_builtin _ (by decide +kernel), codeAny_builtin
    ktyn_entry ?_⟩
  unfold Builtin.«type.__name__»
  dsimp only
  unfold keptObject PySem.slotAt
  dsimp only
  refine wpAny_bind (wpAny_bind (wpAny_loadPart ho (wpAny_pure ?_)))
  rw [hs]
  exact wpAny_pure h
/-- the name that a class of the program was made with -/
structure NameC (K : PySem.W.Frag) (C : Addr) (z : Str) : Prop where
  ob : ∃ (o : Obj) (tk : Tok), K.lookup C = some o ∧ o.slots[2]? = some (some (.str z tk))
  ty : PySem.W.typeIn K (.ref C) = some (.type "type")
  rd : readsIn K C (.type "type") = true
  fd : findCls K (.ref C) (.type "type") "__name__" = some (.get (.builtin "getset_descriptor.__get__") (.builtin "type.__name__") (.ref C) (.type "type"))
theorem name_get {C : Addr} {z : Str} {ex : Bool} {Q : Value → Shared → Prop} (X : K.In s.heap) (N : NameC K C z) (h : ∀ tk u, Q (.str z tk) { s with toks := u }) : wpAny (model prog w) A (getAttr (.ref C) "__name__" ex) Q E s := by
  obtain ⟨o, tk, ho, hs⟩ := N.ob
  refine cls_bind X N.rd N.fd (wpAny_call ?_)
  exact own_get (s := { s with toks := s.toks + 1 }) X N.ty (X _ _ ho) hs (handed_on rfl (h tk _))
/-- what an exception class has for the reading of e.__class__ -/
structure ClsE (K : PySem.W.Frag) (C : Addr) : Prop where
  cl : (clsIn K C).isSome = true
  ga : PySem.W.findIn K (.ref C) "__getattribute__" = some (some (.builtin "BaseException.__getattribute__"))
  gg : PySem.W.findIn K (.ref C) "__getattr__" = some none
  ex : PySem.W.subIn K (.ref C) (.type "BaseException") = some true
  fc : PySem.W.findIn K (.ref C) "__class__" = some (some (.builtin "object.__class__"))
  ob : PySem.W.mroIn K C (.type "object") = some true
structure GsK (K : PySem.W.Frag) : Prop where
  sp : specialIn K (.builtin "object.__class__") "__get__" = some (some (.builtin "getset_descriptor.__get__"))
  tk : takesIn K (.builtin "object.__class__") = some true
theorem cls_get {x C : Addr} {ox : Obj} {od : Option Obj} {ex : Bool} {Q : Value → Shared → Prop} (X : K.In s.heap) (I : InstAt s.heap x ox C od) (T : ClsE K C) (G : GsK K) (h : ∀ u, Q (.ref C) { s with toks := u }) : wpAny (model prog w) A (getAttr (.ref x) "__class__" ex) Q E s := by
  obtain ⟨hp, g, d, t, os⟩ := s
  have hf : findObj K C od "__class__" = some (.bind (.builtin "getset_descriptor.__get__") (.builtin "object.__class__")) := findObj_dataE T.cl T.fc G.sp G.tk
  have l0 := I.type (M := model prog w)
  have l1 := looks_findIn (M := model prog w) X T.ga
  have l2 := looks_findIn (M := model prog w) X T.gg
  have l3 := looks_find (M := model prog w) X I hf
  have sub : Looks (model prog w) hp (isInstance (.ref x) (.type "BaseException")) true := l0.andThen (looks_subIn X T.ex)
  have n0 : (ex && onTheHeap (Value.builtin "BaseException.__getattribute__")) = false := by cases ex <;> rfl
  have n2 : (Value.builtin "BaseException.__getattribute__" == Value.builtin "object.__getattribute__") = false := by
    decide +kernel
  have n1 : (onTheHeap (.ref C) && Value.builtin "BaseException.__getattribute__" == Value.builtin "object.__getattribute__") = false := (congrArg (onTheHeap (.ref C) && ·) n2).trans (Bool.and_false _)
  unfold getAttr getAttrBy
  refine wpAny_bind (wpAny_mkText (wpAny_holding (wpAny_bind (l0.at (wpAny_bind (l1.at ?_))))))
  dsimp only
  rw [n1, if_neg Bool.false_ne_true]
  unfold getAttrByItsOwn hookBefore
  refine wpAny_bind ?_
  rw [if_pos (by rfl)]
  refine l2.at ?_
  refine wpAny_bind (wpAny_attempt (wpAny_holding ?_))
  unfold callGetattribute
  rw [n0, if_neg Bool.false_ne_true]
  unfold boundAndCalled
  rw [PySem.F.excAttr_ValueError.ga.bind (.ref x)]
  refine wpAny_bind (wpAny_pure ?_)
  refine wpAny_call (codeAny_call_builtin PySem.F.excAttr_ValueError.ga.plain
    PySem.F.entry_bexc_ga ?_)
  refine @PySem.W.check_slot (model prog w) _ _ ⟨hp, g, d, t + 1, os⟩ "BaseException.__getattribute__" "BaseException" "__getattribute__" (.ref x)
    [.str "__class__" t] [] _ (by decide +kernel) (by decide +kernel) sub (PySem.F.args_bexc_ga (.ref x) (.str "__class__" t)) ?_
  unfold Builtin.«object.__getattribute__»
  refine wpAny_bind (wpAny_of_eq (a := ((Value.ref x : Value), [Value.str "__class__" t]))
    (by first | rfl | (simp only [slotArgs]; rfl)) ?_)
  refine wpAny_bind (wpAny_pure (wpAny_bind (l0.at (wpAny_bind (l3.at ?_)))))
  refine wpAny_bind (wpAny_holding (wpAny_call
    (class_get (s := ⟨hp, g, d, t + 1, os⟩) (ox := ox) (od := od) X I T.ob ?_)))
  refine wpAny_pure ?_
  exact handed_on rfl (h _)
end
/-! ### the readings -/
section
variable {X : Cx} {e : Expr} {te : TE} {p : Pos}
/-- the object at a is an exception that is being made -/
def Exo (H : Hp) (a C : Addr) : Prop := H a = some (exo a C none) ∨ ∃ (d : Addr) (fs : List (Str × V)), H a = some (exo a C (some d)) ∧ H d = some (exd d fs)
theorem Exo.inst {P : Program} {w : World} {H : Hp} {h : Heap} {a C : Addr} (x : Exo H a C) (hok : HOk P w H h) : ∃ (ox : Obj) (od : Option Obj), InstAt h a ox C od := by
  rcases x with q | ⟨d, fs, q, q2⟩
  · obtain ⟨t1, ho⟩ := exo_at hok q
    exact ⟨_, none, ho, rfl, rfl, True.intro⟩
  · obtain ⟨t1, ho⟩ := exo_at hok q
    obtain ⟨mA, ⟨od, es, ep, h1, _⟩, _⟩ := exd_at hok q2
    exact ⟨_, some od, ho, rfl, rfl, h1⟩
theorem pe_cls (G : GsK X.K) (he : PE X e te) (hb : attributeBase e "__class__" X.env (eval e X.env) = eval e X.env := by rfl) : PE X (.Attribute e "__class__" p) (fun σ H Q => te σ H fun x H1 => ∃ a C : Addr, x = .ref a ∧ Exo H1 a C ∧ ClsE X.K C ∧ Q (.ref C) H1) := by
  refine ⟨fun pins s σ H Q I h => attr_of hb (thn (he.run pins s σ H _ I h) fun u s1 hh => ?_)⟩
  obtain ⟨x, H1, I1, rx, a, C, ex, xo, T, q⟩ := hh
  subst ex
  obtain rfl : u = Value.ref a := rx
  obtain ⟨ox, od, J⟩ := xo.inst I1.hok
  exact cls_get I1.kIn J T G fun u => ⟨.ref C, H1, I1.tok _, rfl, q⟩
theorem pe_name (he : PE X e te) (hb : attributeBase e "__name__" X.env (eval e X.env) = eval e X.env := by rfl) : PE X (.Attribute e "__name__" p) (fun σ H Q => te σ H fun x H1 => ∃ (C : Addr) (z : Str), x = .ref C ∧ NameC X.K C z ∧ Q (.str z) H1) := by
  refine ⟨fun pins s σ H Q I h => attr_of hb (thn (he.run pins s σ H _ I h) fun u s1 hh => ?_)⟩
  obtain ⟨x, H1, I1, rx, C, z, ex, N, q⟩ := hh
  subst ex
  obtain rfl : u = Value.ref C := rx
  exact name_get I1.kIn N fun tk u => ⟨.str z, H1, I1.tok _, ⟨tk, rfl⟩, q⟩
end
end FW
namespace FW
open PySem PySem.Spec PyProof.Rows L2
/-! ### a caught exception as one of the things that the heap is known to hold -/
def ExK (cls : Value) (d : Option Addr) (a : Addr) : HO := .ext fun h => ∃ (oe : Obj) (vs : Array Value), h.get? a = some oe ∧ Zc cls d oe ∧ oe.data = .fields vs
theorem exk_ok {P : Program} {w : World} {H : Hp} {h : Heap} {a : Addr} {cls : Value} {d : Option Addr} {oe : Obj} {vs : Array Value} (ha : h.get? a = some oe) (hz : Zc cls d oe) (hd : oe.data = .fields vs) : ObjOk P w H h a (ExK cls d a) :=
  ⟨⟨oe, vs, ha, hz, hd⟩, ⟨oe, ha⟩, fun _ _ ⟨o, v, q1, q2, q3⟩ st => ⟨o, v, st _ q1, q2, q3⟩⟩
theorem exk_at {P : Program} {w : World} {H : Hp} {h : Heap} {a : Addr} {cls : Value} {d : Option Addr} (ok : HOk P w H h) (e : H a = some (ExK cls d a)) : ∃ (oe : Obj) (vs : Array Value), h.get? a = some oe ∧ Zc cls d oe ∧ oe.data = .fields vs := by
  have z : ObjOk P w H h a (.ext fun h => ∃ (oe : Obj) (vs : Array Value), h.get? a = some oe ∧ Zc cls d oe ∧ oe.data = .fields vs) := ok a _ e
  exact z.1
section
variable {X : Cx} {pins : List (Addr × Obj)} {σ : L2.St} {H : Hp} {s : Shared}
theorem adopt {a : Addr} {cls : Value} {d : Option Addr} {oe : Obj} {vs : Array Value} (I : Inv X pins σ H s) (ha : s.heap.get? a = some oe) (hz : Zc cls d oe) (hd : oe.data = .fields vs) (na : H a = none) (nL : a ≠ X.env.locals)
    (n0 : X.s_0.heap.get? a = none) (np : ∀ p ∈ X.pn ++ pins, p.1 ≠ a) : Inv X pins σ (upd H a (ExK cls d a)) s where
  ok := I.ok
  os := I.os
  bare := I.bare
  base :=
    { keep := I.base.keep
      slot := I.base.slot
      free := fun b o e n hx => (upd_ne (fun z => by rw [z, n0] at e; cases e)).trans (I.base.free b o e n hx)
      there := I.base.there
      tups := fun b xs q => (upd_ne (ne_of_none (I.base.tups b xs q) na)).trans (I.base.tups b xs q)
      frzs := fun b o u q => (upd_ne (ne_of_none (I.base.frzs b o u q) na)).trans (I.base.frzs b o u q)
      tbls := fun b ps q => by
        obtain ⟨more, e⟩ := I.base.tbls b ps q
        exact ⟨more, (upd_ne (ne_of_none e na)).trans e⟩ }
  loc := I.loc
  cell := I.cell
  free := (upd_ne (Ne.symm nL)).trans I.free
  freeC := fun x c e => (upd_ne (fun z => by
    obtain ⟨v, o, ho, hc⟩ := I.cell x c e
    rw [z, ha] at ho
    cases ho
    rw [hd] at hc
    cases hc)).trans (I.freeC x c e)
  pin := fun p hp => by
    obtain ⟨q1, q2, q3, q4, q5⟩ := I.pin p hp
    exact ⟨q1, (upd_ne (np p hp)).trans q2, q3, q4, q5⟩
  hok := fun b o e => by
    by_cases hb : b = a
    · subst hb
      rw [upd_same] at e
      cases e
      exact exk_ok ha hz hd
    · rw [upd_ne hb] at e
      exact (I.hok b o e).stay (fun _ _ _ q => q) (fun c q => (upd_ne (ne_of_none q na)).trans q) fun c xs q => (upd_ne (ne_of_none q na)).trans q
  len := I.len
theorem in_suite {a : Addr} (I : Inv X pins σ H s) : Inv (X.suite a (X.pn ++ pins)) [] σ H s :=
  ⟨I.ok.suite _ _, I.os, I.bare, I.base, I.loc, I.cell, I.free, I.freeC, fun p hp => I.pin p ((List.append_nil (X.pn ++ pins)) ▸ hp), I.hok, I.len⟩
theorem of_suite {a : Addr} {pn' : List (Addr × Obj)} (I : Inv (X.suite a (X.pn ++ pins)) pn' σ H s) (ok : X.Ok) : Inv X pins σ H s :=
  ⟨ok, I.os, I.bare, I.base, I.loc, I.cell, I.free, I.freeC, fun p hp => I.pin p (List.mem_append_left _ hp), I.hok, I.len⟩
end
theorem flying_kept {B h h' : Heap} {l : List Env} {a : Addr} {Z : Obj → Prop} (x : HandSPX.FlyingZ B l a Z h) (k : ∀ b o, h.get? b = some o → h'.get? b = some o) : HandSPX.FlyingZ B l a Z h' := by
  obtain ⟨k1, k2, k3, oe, vs, T, oT, ts, h1, h2, h3, h4, h5, h6, h7, h8, h9⟩ := x
  exact ⟨fun b o e => k b o (k1 b o e), k2, k3.of_keeps fun b o e _ => ⟨o, k b o e, rfl⟩, oe, vs, T, oT, ts, k a _ h1, h2, h3, h4, h5, h6, k T _ h7, h8, h9⟩
/-- what 'except (x1, x2, x3) as n' wishes: it takes the exception; slot i is n's -/
def wIn (K : PySem.W.Frag) (m : Nat) (cs : List Value) (i : Nat) (ts : TS) (D : Ends) : WX := fun cls d σ H =>
  PySem.W.exmAny K cls cs = some true ∧ ∀ a, H a = none → σ.length = m → ts { nx := fun σ' H' => D.nx (σ'.set i none) H', rt := D.rt, bk := fun σ' H' => D.bk (σ'.set i none) H', ct := fun σ' H' => D.ct (σ'.set i none) H' } (σ.set i (some (.ref a))) (upd H a (ExK cls d a))
section
variable {X : Cx} {x1 x2 x3 n : Str} {C1 C2 C3 : Addr} {i : Nat} {body suite : List Stmt} {b₀ : Stmt} {q1 q2 q3 qt pos pos' : Pos} {tb : WX → TS} {ts : TS}
theorem ps_try3 {cx} (hs : X.stack = X.env :: X.outer) (hf : X.env.frame = some X.env.locals) (hex : X.ex = []) (hN : X.N.Nodup) (hi : X.N[i]? = some n) (hln : X.env.kindOf n = some .local)
    (g1 : Gl X x1) (m1 : X.mg x1 = some (.ref C1)) (g2 : Gl X x2) (m2 : X.mg x2 = some (.ref C2)) (g3 : Gl X x3) (m3 : X.mg x3 = some (.ref C3))
    (hb : ∀ (W : WX) (pn : List (Addr × Obj)) (xe : Value → Shared → Prop), Takes (X.tr pn xe) W → PassesOwn (model X.prog X.w) X.A X.env xe → PSs (X.tr pn xe) body (tb W))
    (hsu : ∀ (a : Addr) (pn : List (Addr × Obj)), PSs (X.suite a pn) (b₀ :: suite) ts)
    (d1 : (x1 == ("__debug__" : Str)) = false := by decide) (d2 : (x2 == ("__debug__" : Str)) = false := by decide) (d3 : (x3 == ("__debug__" : Str)) = false := by decide) :
    PS X (.Try body [.ExceptHandler (some (.Tuple [.Name x1 q1, .Name x2 q2, .Name x3 q3] cx qt)) (some n) (b₀ :: suite) pos'] [] [] pos) (fun D σ H => tb (wIn X.K X.N.length [.ref C1, .ref C2, .ref C3] i ts D) D σ H) := by
  refine ⟨fun pins s σ H D I h => wpAny_Try_except ?_⟩
  have ok := I.ok
  have fr : X.A.frames = some (X.env :: X.outer) := ok.frames.trans (congrArg some hs)
  have hl : Loc X.env.scope n := .inl hln
  generalize hhd : [ExceptHandler.ExceptHandler (some (.Tuple [.Name x1 q1, .Name x2 q2, .Name x3 q3] cx qt)) (some n) (b₀ :: suite) pos'] = hd
  let xe' : Value → Shared → Prop := fun e s1 => wpAny (model X.prog X.w) X.A (noteFrame e X.env)
    (fun _ s2 => wpAny (model X.prog X.w) X.A (setFlight e none)
      (fun _ s3 => wpAny (model X.prog X.w) X.A (handleBy e X.env hd) (SP X pins D) X.xe s3) X.xe s2) X.xe s1
  have caught : Takes (X.tr (X.pn ++ pins) xe') (wIn X.K X.N.length [.ref C1, .ref C2, .ref C3] i ts D) := by
    rintro u s' ⟨a, B, sI, pins', σ', H', cls, d, rfl, J', nb, up, sky, na, os, ag, w1, w2⟩
    have J : Inv X pins σ' H' sI := J'.ofTry ok
    have sk : Sky B (X.env :: X.outer) a (Zc cls d) X.env.locals s'.heap := hs ▸ sky
    show wpAny (model X.prog X.w) X.A (noteFrame (.ref a) X.env) _ _ _
    refine Sky.land Zc.steady fr hf sk fun h3 fl up3 => ?_
    have J3 : Inv X pins σ' H' { s' with heap := h3 } := J.landed nb fl.1 (up.trans up3) os ag
    obtain ⟨oe, vs, he, hz, hdt⟩ := fl.there
    have out : a ∉ frs (X.env :: X.outer) := fun hm => by
      obtain ⟨_, o, e', hn⟩ := fl.2.2.1.mem hm
      rw [he] at e'
      cases e'
      exact hn _ hdt
    have nL : a ≠ X.env.locals := fun z => out (List.mem_filterMap.mpr ⟨X.env, List.mem_cons_self, hf.trans (congrArg some z.symm)⟩)
    have nB : B.get? a = none := fl.2.1
    have notI : ∀ o, sI.heap.get? a ≠ some o := fun o e => by
      rw [nb a o e (hs ▸ out)] at nB
      cases nB
    have n0 : X.s_0.heap.get? a = none := by
      cases e : X.s_0.heap.get? a with
      | none => rfl
      | some o =>
        obtain ⟨o', e'⟩ := J.base.there a o e (by rw [hex]; exact List.not_mem_nil)
        exact absurd e' (notI o')
    have np : ∀ p ∈ X.pn ++ pins, p.1 ≠ a := fun p hp z => notI p.2 (z ▸ (J.pin p hp).1)
    subst hhd
    refine wpAny_handleBy_cons (codeAny_handlers_test ?_) (fun q => by cases q)
    have S3 : Inv (X.suite a (X.pn ++ pins)) [] σ' H' { s' with heap := h3 } := in_suite J3
    refine wpAny_Tuple_spliced (Calls.spliced_cons (ld_glob (X := X.suite a (X.pn ++ pins)) S3 g1 m1 ?_ d1))
    refine Calls.spliced_cons (ld_glob (X := X.suite a (X.pn ++ pins)) S3 g2 m2 ?_ d2)
    refine Calls.spliced_cons (ld_glob (X := X.suite a (X.pn ++ pins)) S3 g3 m3 ?_ d3)
    refine Calls.spliced_nil ⟨(show 3 ≤ sizeLine by decide), ?_⟩
    have kp : ∀ b o, h3.get? b = some o → (h3.push { cls := .type "tuple", data := .seq [Value.ref C1, .ref C2, .ref C3].toArray }).get? b = some o := fun b o e => Heap.get?_push_of_some _ e
    have tp := Heap.get?_push_size h3 (o := { cls := .type "tuple", data := .seq [Value.ref C1, .ref C2, .ref C3].toArray }) rfl
    have fl2 := flying_kept fl kp
    generalize (h3.push { cls := .type "tuple", data := .seq [Value.ref C1, .ref C2, .ref C3].toArray }) = h4 at kp tp fl2
    have up4 : h3.UpToSlots h4 := .of_keeps kp
    have ty : PySem.W.Looks (model X.prog X.w) h4 (typeOf (.ref a)) cls := fun _ _ _ _ k q => wpAny_typeOf_ref (k _ _ (kp _ _ he)) (by rw [hz.1]; exact q)
    refine (PySem.W.exm_tup3 (M := model X.prog X.w) (J3.kIn.keeps kp) ty tp w1).here ?_
    refine codeAny_handlers_suite_as ?_
    refine HandSPX.lands_againZ fl2 fun h5 fl5 up5 => ?_
    have J5 : Inv X pins σ' H' { s' with heap := h5 } := J.landed nb fl5.1 (((up.trans up3).trans up4).trans up5) os ag
    obtain ⟨oe5, vs5, he5, hz5, hd5⟩ := fl5.there
    have S5 : Inv (X.suite a (X.pn ++ pins)) [] σ' (upd H' a (ExK cls d a)) { s' with heap := h5 } := in_suite (adopt J5 he5 hz5 hd5 na nL n0 np)
    refine store_ok (X := X.suite a (X.pn ++ pins)) (v := .ref a) S5 hN hi hl rfl (fun s6 S6 => ?_) (.inr hln)
    refine wpAny_mono ((hsu a (X.pn ++ pins)).run [] s6 _ _ _ S6 (w2 a na J.len)) (fun f s7 hsp => ?_) (fun _ _ z => False.elim z)
    have gone : ∀ {σ7 : L2.St} {H7 : Hp} {Q : Shared → Prop}, Inv (X.suite a (X.pn ++ pins)) [] σ7 H7 s7 → (∀ s8, Inv X pins (σ7.set i none) H7 s8 → Q s8) →
        wpAny (model X.prog X.w) X.A (do bindName X.env n .none; unbindBehindTheSuite X.env n pos') (fun _ s8 => Q s8) X.xe s7 := fun S7 hq => gone_ok (of_suite S7 ok) hN hi hln hq
    cases f with
    | next =>
      obtain ⟨σ7, H7, S7, q7⟩ := hsp
      exact gone S7 fun _ J8 => ⟨_, _, J8, q7⟩
    | brk =>
      obtain ⟨σ7, H7, S7, q7⟩ := hsp
      exact gone S7 fun _ J8 => ⟨_, _, J8, q7⟩
    | cont =>
      obtain ⟨σ7, H7, S7, q7⟩ := hsp
      exact gone S7 fun _ J8 => ⟨_, _, J8, q7⟩
    | ret u =>
      obtain ⟨v7, σ7, H7, S7, r7, q7⟩ := hsp
      exact gone S7 fun _ J8 => ⟨_, _, _, J8, r7, q7⟩
  refine wpAny_mono ((hb _ (X.pn ++ pins) xe' caught PassesOwn.looking).run [] s σ H D (I.toTry _) h) (fun f s1 hsp => ?_) (fun _ _ z => z)
  cases f with
  | next =>
    obtain ⟨σ2, H2, J2, q⟩ := hsp
    exact wpAny_execs_nil ⟨σ2, H2, J2.ofTry ok, q⟩
  | brk =>
    obtain ⟨σ2, H2, J2, q⟩ := hsp
    exact ⟨σ2, H2, J2.ofTry ok, q⟩
  | cont =>
    obtain ⟨σ2, H2, J2, q⟩ := hsp
    exact ⟨σ2, H2, J2.ofTry ok, q⟩
  | ret u =>
    obtain ⟨v, σ2, H2, J2, r, q⟩ := hsp
    exact ⟨v, σ2, H2, J2.ofTry ok, r, q⟩
end
/-! ### a field of such a thing -/
def tXk (K : PySem.W.Frag) (f : Str) (te : TE) : TE := fun σ H Q => te σ H fun x H1 => ∃ (a C dd : Addr) (fs : List (Str × V)) (v : V), x = .ref a ∧ H1 a = some (ExK (.ref C) (some dd) a) ∧ H1 dd = some (.xd fs) ∧
  XfC K C ∧ PySem.W.findIn K (.ref C) f = some none ∧ fs.lookup f = some v ∧ Q v H1
theorem pe_xk {X : Cx} {e : Expr} {te : TE} {pos : Pos} {f : Str} (he : PE X e te) (hb : attributeBase e f X.env (eval e X.env) = eval e X.env := by rfl) : PE X (.Attribute e f pos) (tXk X.K f te) := by
  refine ⟨fun pins s σ H Q I h => attr_of hb (thn (he.run pins s σ H _ I h) fun u s1 hh => ?_)⟩
  obtain ⟨x, H1, I1, rx, a, C, dd, fs, v, ex, ea, ed, T, hno, l, q⟩ := hh
  subst ex
  obtain rfl : u = Value.ref a := rx
  obtain ⟨oe, vs, ha, hz, hd⟩ := exk_at I1.hok ea
  have hx : ObjOk X.prog X.w H1 s1.heap dd (.xd fs) := I1.hok dd _ ed
  obtain ⟨mA, hns, hr⟩ := hx
  obtain ⟨od, ho, hl⟩ := lookIn_ns hns
  obtain ⟨u, hu, ru⟩ := RelO.some_of (v := v) (o := mA f) (by rw [← l]; exact hr f)
  have J : PySem.W.InstAt s1.heap a oe C (some od) := ⟨ha, hz.1, (by unfold PySem.W.notCls; rw [hd] <;> rfl), (by rw [hz.2]; exact ho)⟩
  exact HandSPX.exc_get I1.kIn J T.ga T.gg T.exC (PySem.W.findObj_own T.hdC hno rfl ((hl f).trans (congrArg some hu))) (handed_of ru)
    ⟨v, H1, I1.tok _, ru, q⟩
end FW
namespace FW
open PySem PySem.Spec PyProof.Rows L2
/-! ### defs that are called while an exception is handled; they raise nothing -/
structure FnW (P : Program) (w : World) (K : PySem.W.Frag) (mg : Str → Option Value) (base : Heap) (k : Nat) (f : Addr) (fd : FuncData) (ps : List Str) (sp : Sp) : Prop where
  len : ∀ vs H Q E, sp vs H Q E → vs.length = ps.length
  run : ∀ (A : Around) (outer : List Env) (s : Shared) (H : Hp) (args : Args) (us : List Value) (vs : List V) (Q : VK), L2H.RoomH k A → Env0 P w K mg base A outer s H → BindsTo s fd args (ps.zip us) → Vals vs us → sp vs H Q E0 →
    codeAny (model P w) A (.call (.ref f) args) (CR L2.CX0 outer P w H s Q E0) s
section
variable {P : Program} {w : World} {K : PySem.W.Frag} {mg : Str → Option Value} {base : Heap}
theorem okW {x qual : Str} {st : Stmt} {f : Addr} {fd : FuncData} {N ps : List Str} {k : Nat} {sp : Sp} (F : Fun K x qual st f fd) (S : FnScope N ps (defScope st)) (len : ∀ vs H Q E, sp vs H Q E → vs.length = ps.length)
    (hbody : ∀ (cdv : Value) (A : Around) (outer : List Env) (s : Shared) (H : Hp) (vs : List V) (Q : VK) (p : Addr × Obj), L2H.RoomH k (A.deeper (envOfC qual (defScope st) s.heap.objs.size f cdv)) → sp vs H Q E0 →
      ∃ t, PSs (L2H.cxH L2.CX0 P w K mg base N qual (defScope st) f cdv A outer s H E0 p).nox (defBody st) t ∧ t { nx := fun _ H' => Q .non H', rt := Q } (L2.start N vs) H) : FnW P w K mg base (k + 1) f fd ps sp := by
  obtain ⟨oc, od, kV, doc, pm, an, cdv, ct, osl, rfl, lk, hcd⟩ := F.ex
  refine ⟨len, fun A outer s H args us vs Q hr e0 hb r hsp => ?_⟩
  have there : ∀ b o, K.lookup b = some o → s.heap.get? b = some o ∧ H b = none := fun b o e => e0.bs b o (e0.mod.kin b o e)
  obtain ⟨fat, fnn⟩ := there _ _ lk
  have nfr : f ∉ frs outer := fun hm => by
    have z := (e0.funs.mem hm).1
    rw [e0.mod.kin _ _ lk] at z
    cases z
  have pin : L2H.PinOk outer H s (f, _) := ⟨fat, fnn, nfr, fun v z => by cases z⟩
  have KX : K.In s.heap := fun b o e => (there b o e).1
  have ks : ∀ y ∈ ps.zip us, (defScope st).names.lookup y.1 = some .local ∨ ((defScope st).names.lookup y.1 = some .cell ∧ ((cellsFrom (s.heap.objs.size + 1) (defScope st).names []).lookup y.1).isSome = true) := by
    rintro ⟨n, v⟩ hy
    exact (S.par n (List.of_mem_zip hy).1).imp id fun q => ⟨q, PySem.W.cellsFrom_some _ _ _ (.inl q)⟩
  refine codeAny_call_function hr.depth fat rfl S.co S.gen rfl (PySem.W.codeRec_of KX hcd) (hb _ _ _ _ ?_)
  refine wpAny_newFunctionEnv_cells S.kind ks fun env he s1 x => ?_
  subst he
  refine ⟨(e0.mod.nolimit.keeps fun b o e => (e0.bs b o e).1).keeps x.toInCall.keep, codeAny_func ?_⟩
  obtain ⟨t, ht, hq⟩ := hbody cdv A outer s H vs Q _ (hr.deeper _) hsp
  have I := L2H.inv_startH (CX := L2.CX0) (E := E0) (base := base) (mg := mg) (w := w) (P := P) S pin e0 (len _ _ _ _ hsp) r x
  refine wpAny_mono (ht.nox.run [] s1 _ H _ I hq) (fun fl s' hs => ?_) (fun _ _ hs => hs)
  cases fl with
  | ret u =>
    obtain ⟨v, σ', H', J, rv, q⟩ := hs
    exact ⟨v, H', J.os, J.bare, J.base, J.hok, rv, q⟩
  | next =>
    obtain ⟨σ', H', J, q⟩ := hs
    exact ⟨V.non, H', J.os, J.bare, J.base, J.hok, rfl, q⟩
  | brk =>
    obtain ⟨_, _, _, q⟩ := hs
    exact q.elim
  | cont =>
    obtain ⟨_, _, _, q⟩ := hs
    exact q.elim
end
section
variable {X : Cx} {k : Nat} {f : Addr} {fd : FuncData} {ps : List Str} {sp : Sp} {x : Str} {p pos : Pos} {e : Expr} {es : List Expr} {t : TA}
theorem pe_callW (F : FnW X.prog X.w X.K X.mg X.base k f fd ps sp) (hr : L2H.RoomH k X.A) (hg : Gl X x) (hm : X.mg x = some (.ref f)) (hk : PySem.W.keepIn X.K (.ref f) = true) (hb : Binds X.K fd ps [])
    (ha : PA X (e :: es) t) (hdb : (x == ("__debug__" : Str)) = false := by decide) (he : starEach (e :: es) X.env = (false, eval e X.env) :: starEach es X.env := by rfl)
    (hpl : (backTo pos (starEach es X.env)).any (·.1) = false := by rfl) : PE X (.Call (.Name x p) (e :: es) [] pos) (fun σ H Q => t σ H fun vs H1 => sp vs H1 Q E0) := by
  refine ⟨fun pins s σ H Q I h => wpAny_Call_Name_kw (ld_glob I hg hm ?_ hdb)⟩
  refine PySem.W.callWith_K (h₀ := X.base) I.ok.mod.kin hk (thn (ha.run pos pins s σ H _ I h) ?_) he hpl
  rintro us s1 ⟨vs, H1, I1, r, q⟩
  have hl : us.length = ps.length := r.length.symm.trans (F.len _ _ _ _ q)
  have hb' : BindsTo s1 fd ⟨us, []⟩ (ps.zip us) := by
    have z := hb s1 us I1.kIn (by rw [List.append_nil]; exact hl)
    rwa [List.append_nil] at z
  refine ⟨I1.kIn, wpAny_call (codeAny_mono (F.run X.A X.stack s1 H1 ⟨us, []⟩ us vs Q hr I1.env0 hb' r q) fun r s' hq => ?_)⟩
  cases r with
  | error e => exact hq.elim
  | ok fl =>
    cases fl with
    | ret u => exact I1.after hq
    | next => exact hq.elim
    | brk => exact hq.elim
    | cont => exact hq.elim
end
end FW
namespace L2
open PySem PySem.Spec PySem.Calls PyProof.Rows
/-! ### a text unpacked into names -/
abbrev sgn (c : Nat) : V := .str ⟨#[c]⟩
section
variable {prog : Program} {w : World} {A : Around} {E : Value → Shared → Prop}
theorem draw_str {it : Addr} {x : Str} {t : Tok} {ty : String} (hty : ty = "str_ascii_iterator" ∨ ty = "str_iterator") : ∀ (n i : Nat) (s : Shared) (Q : List Value → Shared → Prop), s.heap.IsStrIter it ty x t i → i + n ≤ x.cps.size →
    (∀ h' tk us, h'.IsStrIter it ty x t (i + n) → Heap.SameBut it s.heap h' → Vals (((x.cps.toList.drop i).take n).map sgn) us → Q us { s with heap := h', toks := tk }) → wpAny (model prog w) A (draw (.ref it) n) Q E s
  | 0, i, s, Q, hit, _, hQ => by
    show wpAny _ _ (pure []) Q E s
    exact wpAny_pure (hQ s.heap s.toks [] hit (Heap.SameBut.refl ..) .nil)
  | n + 1, i, s, Q, hit, hle, hQ => by
    have hlt : i < x.cps.size := by omega
    show wpAny _ _ (pyNext (.ref it) >>= _) Q E s
    have hx : x.cps[i]? = some x.cps[i] := Array.getElem?_eq_getElem hlt
    have hd : x.cps.toList.drop i = x.cps[i] :: x.cps.toList.drop (i + 1) := by
      rw [List.drop_eq_getElem_cons (by simpa using hlt)]
      simp
    have go : ∀ h₁, h₁.IsStrIter it ty x t (i + 1) → Heap.SameBut it s.heap h₁ → wpAny (model prog w) A (match (some (.str ⟨#[x.cps[i]]⟩ s.toks) : Option Value) with
        | none => pure []
        | some v => do return v :: (← holding [v] (draw (.ref it) n))) Q E { s with heap := h₁, toks := s.toks + 1 } := fun h₁ hit₁ hs₁ => by
      refine wpAny_bind (wpAny_holding (draw_str hty n (i + 1) _ _ hit₁ (by omega) fun h₂ tk us hit₂ hs₂ r => wpAny_pure ?_))
      refine hQ h₂ tk _ (by rw [show i + (n + 1) = i + 1 + n by omega]; exact hit₂) (hs₁.trans hs₂) ?_
      rw [hd, List.take_succ_cons, List.map_cons]
      exact .cons ⟨_, rfl⟩ r
    rcases hty with e | e
    · subst e
      exact wpAny_bind (wpAny_pyNext_ascii_item hit hx fun h₁ hit₁ hs₁ => go h₁ hit₁ hs₁)
    · subst e
      exact wpAny_bind (wpAny_pyNext_wide_item hit hx fun h₁ hit₁ hs₁ => go h₁ hit₁ hs₁)
theorem items_str {x : Str} {t : Tok} {s : Shared} {Q : List Value → Shared → Prop} (hh : A.handled = none)
    (hQ : ∀ h' tk us, Heap.ExtBut s.heap.objs.size s.heap h' → Vals (x.cps.toList.map sgn) us → Q us { s with heap := h', toks := tk }) : wpAny (model prog w) A (unpackItems (.str x t) x.cps.size none) Q E s := by
  unfold unpackItems
  refine wpAny_bind ?_
  unfold notIterableAtAll
  refine wpAny_bind (wpAny_specialOf (typeIs_str s x t) F.slot_str_iter.lookup ?_)
  refine wpAny_pure ?_
  simp only [Bool.false_eq_true, if_false]
  have go : ∀ (ty : String), ty = "str_ascii_iterator" ∨ ty = "str_iterator" → ∀ s₁ : Shared, s₁ = { s with heap := s.heap.push { cls := .type ty, data := .fields #[.str x t, .int 0 0] } } → 
      wpAny (model prog w) A (do
        let items ← holding [.ref s.heap.objs.size] (draw (.ref s.heap.objs.size) x.cps.size)
        if items.length < x.cps.size then
          rule "unpack.too-few"; raiseError "ValueError" s!"not enough values to unpack (expected {x.cps.size}, got {items.length})"
        if (← holding items (pyNext (.ref s.heap.objs.size))).isSome then
          rule "unpack.too-many"; raiseError "ValueError" s!"too many values to unpack (expected {x.cps.size})"
        return items) Q E s₁ := fun ty hty s₁ hs => by
    subst hs
    have hit0 : (s.heap.push { cls := .type ty, data := .fields #[.str x t, .int 0 0] }).IsStrIter s.heap.objs.size ty x t 0 := ⟨_, Heap.get?_push_size _ rfl, rfl, rfl⟩
    refine wpAny_bind (wpAny_holding (draw_str hty x.cps.size 0 _ _ hit0 (by omega) fun h₁ tk us hit₁ hs₁ r => ?_))
    have hall : (x.cps.toList.drop 0).take x.cps.size = x.cps.toList := by
      rw [List.drop_zero]; exact List.take_of_length_le (by simp)
    rw [hall] at r
    have hl : us.length = x.cps.size := by rw [← r.length, List.length_map]; simp
    rw [if_neg (by omega)]
    have fin : ∀ h₂, Heap.ExtBut s.heap.objs.size h₁ h₂ → Heap.ExtBut s.heap.objs.size s.heap h₂ := fun h₂ he₂ b o hb e => he₂ b o hb (hs₁.extBut b o hb (Heap.get?_push_of_some _ e))
    have hend : x.cps[0 + x.cps.size]? = none := Array.getElem?_eq_none (by omega)
    rcases hty with e | e
    · subst e
      refine wpAny_bind (wpAny_holding (wpAny_pyNext_ascii_end (s := { s with heap := h₁, toks := tk }) hh hit₁ hend fun h₂ he₂ => ?_))
      simp only [Option.isSome_none, Bool.false_eq_true, if_false]
      exact wpAny_pure (hQ h₂ tk us (fin h₂ he₂) r)
    · subst e
      refine wpAny_bind (wpAny_holding (wpAny_pyNext_wide_end (s := { s with heap := h₁, toks := tk }) hh hit₁ hend fun h₂ he₂ => ?_))
      simp only [Option.isSome_none, Bool.false_eq_true, if_false]
      exact wpAny_pure (hQ h₂ tk us (fin h₂ he₂) r)
  cases ha : x.cps.all (· < 128)
  · exact wpAny_bind (wpAny_holding (wpAny_pyIter_wide ha (go _ (.inr rfl) _ rfl)))
  · exact wpAny_bind (wpAny_holding (wpAny_pyIter_ascii ha (go _ (.inl rfl) _ rfl)))
end
section
variable {X : Cx} {pos : Pos}
/-- (a, b, ..) = a text of that many signs -/
def gUstr (n : Nat) (t : TGs) : TG := fun v σ H Q => ∃ z : Str, v = .str z ∧ z.cps.size = n ∧ t (z.cps.toList.map sgn) σ H Q
theorem pg_ustr {es : List Expr} {k : Nat} {t : TGs} {n : Nat} (hc : X.calm = true) (h : PGs X es t)
    (hn : (assignEach es X.env).length = n := by rfl) (hst : (assignEach es X.env).findIdx? (·.1) = none := by rfl) : PG X (.Tuple es k pos) (gUstr n t) := by
  refine ⟨fun pins s σ H v u Q I r hw => ?_⟩
  obtain ⟨z, e1, hz, hw⟩ := hw
  subst e1
  obtain ⟨tk0, rfl⟩ := r
  have hn' : (assignEach es X.env).length = z.cps.size := hn.trans hz.symm
  rw [PyProof.Rows.assign_Tuple]
  refine wpAny_bind (wpAny_standAt ?_)
  unfold unpack
  rw [hn', hst]
  refine wpAny_bind (wpAny_holding (items_str (I.ok.hd hc) fun h' tk us hx r => ?_))
  have I1 : Inv X pins σ H { s with heap := h', toks := tk } := I.kept (t' := tk) fun b o e => hx b o (Nat.ne_of_lt (Heap.lt_size e)) e
  exact h.run pins _ σ H _ us Q I1 r hw
end
/-! ### a call by keywords alone -/
section
variable {X : Cx} {CX : CXT} {k : Nat} {f : Addr} {fd : FuncData} {ps ks : List Str} {sp : Sp} {E : XK} {x : Str} {p pos kpos : Pos} {e : Expr} {kws : List Keyword} {tk : TA} {nm : Option Str} {g : List Value → List Value → List Value} {gV : List V → List V → List V}
theorem pe_callK0 (F : FnOk X.prog X.w X.K X.mg X.base CX k f fd ps sp) (hr : Room k X.A) (hg : Gl X x) (hm : X.mg x = some (.ref f)) (hk : PySem.W.keepIn X.K (.ref f) = true) (hb : KBinds X.K fd ps ks g gV) (hx : Passes CX X E)
    (hkw : PK X kws tk) (hall : (backToKw pos (keywordEach kws X.env)).all (·.1.isSome) = true := by rfl) (hks : (backToKw pos (keywordEach kws X.env)).filterMap (·.1) = ks := by rfl)
    (hdb : (x == ("__debug__" : Str)) = false := by decide)
    (hpl : ((backTo pos (starEach [] X.env)).any (·.1) || (backToKw pos (keywordEach kws X.env)).any (·.1.isNone)) = false := by rfl) :
    PE X (.Call (.Name x p) [] kws pos) (tCallK sp gV E tNil tk) := by
  refine ⟨fun pins s σ H Q I h => ?_⟩
  refine wpAny_Call_Name_kw (ld_glob I hg hm ?_ hdb)
  refine PySem.W.callWith_KW0 (h₀ := X.base) I.ok.mod.kin hk hall (thn (hkw.run pos pins s σ H _ I h) fun ws s2 ⟨zs, H2, I2, rz, q2⟩ => ⟨I2.kIn, ?_⟩) hpl
  rw [hks]
  exact run_fnk F hr hb hx I2 .nil rz q2
end
/-! ### a def of the module, by its name -/
structure Cal (P : Program) (w : World) (K : PySem.W.Frag) (mg : Str → Option Value) (base : Heap) (CX : CXT) (k : Nat) (x : Str) (st : Stmt) (ps : List Str) (sp : Sp) : Prop where
  ex : ∃ (f : Addr) (fd : FuncData), FnOk P w K mg base CX k f fd ps sp ∧ mg x = some (.ref f) ∧ Fun K x x st f fd ∧ Binds K fd ps []
/-- how a call with keywords binds, for every such def's data -/
def KB (K : PySem.W.Frag) (x : Str) (st : Stmt) (ps ks : List Str) (g : List Value → List Value → List Value) (gV : List V → List V → List V) : Prop := ∀ (f : Addr) (fd : FuncData), Fun K x x st f fd → KBinds K fd ps ks g gV
section
variable {X : Cx} {CX : CXT} {k j : Nat} {x : Str} {st : Stmt} {ps ks : List Str} {sp : Sp} {E : XK} {p pos : Pos} {e : Expr} {es : List Expr} {kws : List Keyword} {t tk : TA} {g : List Value → List Value → List Value} {gV : List V → List V → List V}
theorem pe_cx (c : Cal X.prog X.w X.K X.mg X.base CX k x st ps sp) (hr : Room j X.A) (hk : k ≤ j) (hg : Gl X x) (hx : Passes CX X E) (ha : PA X (e :: es) t)
    (hdb : (x == ("__debug__" : Str)) = false := by decide) (he : starEach (e :: es) X.env = (false, eval e X.env) :: starEach es X.env := by rfl) (hpl : (backTo pos (starEach es X.env)).any (·.1) = false := by rfl) :
    PE X (.Call (.Name x p) (e :: es) [] pos) (tCall sp [] E t) := by
  obtain ⟨f, fd, F, hm, fn, b⟩ := c.ex
  exact pe_call F (hr.mono hk) hg hm fn.kp b .nil hx ha hdb he hpl
theorem pe_cx0 (c : Cal X.prog X.w X.K X.mg X.base CX k x st ps sp) (hr : Room j X.A) (hk : k ≤ j) (hg : Gl X x) (hx : Passes CX X E)
    (hdb : (x == ("__debug__" : Str)) = false := by decide) : PE X (.Call (.Name x p) [] [] pos) (tCall sp [] E tNil) := by
  obtain ⟨f, fd, F, hm, fn, b⟩ := c.ex
  exact pe_call0 F (hr.mono hk) hg hm fn.kp b .nil hx hdb
theorem pe_c (c : Cal X.prog X.w X.K X.mg X.base CX0 k x st ps sp) (hr : Room j X.A) (hk : k ≤ j) (hg : Gl X x) (ha : PA X (e :: es) t)
    (hdb : (x == ("__debug__" : Str)) = false := by decide) (he : starEach (e :: es) X.env = (false, eval e X.env) :: starEach es X.env := by rfl) (hpl : (backTo pos (starEach es X.env)).any (·.1) = false := by rfl) :
    PE X (.Call (.Name x p) (e :: es) [] pos) (tCall sp [] E0 t) := pe_cx c hr hk hg pass0 ha hdb he hpl
theorem pe_ck (c : Cal X.prog X.w X.K X.mg X.base CX0 k x st ps sp) (b : KB X.K x st ps ks g gV) (hr : Room j X.A) (hk : k ≤ j) (hg : Gl X x) (ha : PA X (e :: es) t) (hkw : PK X kws tk)
    (hall : (backToKw pos (keywordEach kws X.env)).all (·.1.isSome) = true := by rfl) (hks : (backToKw pos (keywordEach kws X.env)).filterMap (·.1) = ks := by rfl)
    (hdb : (x == ("__debug__" : Str)) = false := by decide) (he : starEach (e :: es) X.env = (false, eval e X.env) :: starEach es X.env := by rfl)
    (hpl : ((backTo pos (starEach (e :: es) X.env)).any (·.1) || (backToKw pos (keywordEach kws X.env)).any (·.1.isNone)) = false := by rfl) :
    PE X (.Call (.Name x p) (e :: es) kws pos) (tCallK sp gV E0 t tk) := by
  obtain ⟨f, fd, F, hm, fn, _⟩ := c.ex
  exact pe_callK F (hr.mono hk) hg hm fn.kp (b f fd fn) pass0 ha hkw hall hks hdb he hpl
theorem pe_ck0 (c : Cal X.prog X.w X.K X.mg X.base CX0 k x st ps sp) (b : KB X.K x st ps ks g gV) (hr : Room j X.A) (hk : k ≤ j) (hg : Gl X x) (hkw : PK X kws tk)
    (hall : (backToKw pos (keywordEach kws X.env)).all (·.1.isSome) = true := by rfl) (hks : (backToKw pos (keywordEach kws X.env)).filterMap (·.1) = ks := by rfl)
    (hdb : (x == ("__debug__" : Str)) = false := by decide) 
    (hpl : ((backTo pos (starEach [] X.env)).any (·.1) || (backToKw pos (keywordEach kws X.env)).any (·.1.isNone)) = false := by rfl) :
    PE X (.Call (.Name x p) [] kws pos) (tCallK sp gV E0 tNil tk) := by
  obtain ⟨f, fd, F, hm, fn, _⟩ := c.ex
  exact pe_callK0 F (hr.mono hk) hg hm fn.kp (b f fd fn) pass0 hkw hall hks hdb hpl
end
/-! ### heaps -/
theorem same_upd {H : Hp} {p : Addr} {o : HO} (h : H p = none) : Same H (upd H p o) := fun b x e => by
  rw [upd_ne (ne_of_none e h)]
  exact e
/-- all that was tracked but what stands at b -/
def But (b : Addr) (H H' : Hp) : Prop := ∀ a o, a ≠ b → H a = some o → H' a = some o
theorem But.refl (b : Addr) (H : Hp) : But b H H := fun _ _ _ h => h
theorem But.trans {b : Addr} {H H1 H2 : Hp} (x : But b H H1) (y : But b H1 H2) : But b H H2 := fun a o n h => y a o n (x a o n h)
theorem Same.but {b : Addr} {H H' : Hp} (x : Same H H') : But b H H' := fun a o _ h => x a o h
theorem But.seq {K : PySem.W.Frag} {b a : Addr} {H H' : Hp} {xs : List V} (e : But b H H') (n : a ≠ b) (h : SqL K H a xs) : SqL K H' a xs := by
  rcases h with (h | ⟨o, h⟩) | h
  · exact .inl (.inl (e _ _ n h))
  · exact .inl (.inr ⟨o, e _ _ n h⟩)
  · exact .inr h
theorem But.upd {b : Addr} {H0 H : Hp} {o : HO} (s : But b H0 H) : But b H0 (upd H b o) := fun a x n e => by
  rw [upd_ne n]
  exact s a x n e
theorem Same.tup {K : PySem.W.Frag} {a : Addr} {H H' : Hp} {xs : List V} (e : Same H H') (h : SqT K H a xs) : SqT K H' a xs := by
  rcases h with (h | ⟨o, h⟩) | h
  · exact .inl (.inl (e _ _ h))
  · exact .inl (.inr ⟨o, e _ _ h⟩)
  · exact .inr h
theorem But.tup {K : PySem.W.Frag} {b a : Addr} {H H' : Hp} {xs : List V} (e : But b H H') (n : a ≠ b) (h : SqT K H a xs) : SqT K H' a xs := by
  rcases h with (h | ⟨o, h⟩) | h
  · exact .inl (.inl (e _ _ n h))
  · exact .inl (.inr ⟨o, e _ _ n h⟩)
  · exact .inr h
end L2
namespace L2
open PySem PySem.Spec PySem.Calls PyProof.Rows
/-! ### zip of lists, tuples and texts in any mix -/
/-- what such a thing is: a list or a tuple at an address, a text -/
inductive SK where
  | l (a : Addr) | t (a : Addr) | s (x : Str) (k : Tok)
def SK.iter : SK → Addr → Nat → Heap → Prop
  | .l a, it, i, h => h.IsListIter it a i
  | .t a, it, i, h => h.IsTupleIter it a i
  | .s x k, it, i, h => h.IsStrIter it (strIterType x) x k i
def SK.at : SK → Addr → Prop
  | .l a, c => c = a
  | .t a, c => c = a
  | .s _ _, _ => False
def SK.val : SK → V
  | .l a => .ref a
  | .t a => .ref a
  | .s x _ => .str x
/-- its items, by the abstract heap -/
inductive Src (K : PySem.W.Frag) (H : Hp) : V → List V → Prop where
  | l {a : Addr} {xs : List V} (h : SqL K H a xs) : Src K H (.ref a) xs
  | t {a : Addr} {xs : List V} (h : SqT K H a xs) : Src K H (.ref a) xs
  | s {x : Str} {xs : List V} (h : xs = x.cps.toList.map sgn) : Src K H (.str x) xs
/-- .. of a known kind -/
def SK.src (K : PySem.W.Frag) (H : Hp) : SK → List V → Prop
  | .l a, xs => SqL K H a xs
  | .t a, xs => SqT K H a xs
  | .s x _, xs => xs = x.cps.toList.map sgn
def SK.obj : SK → Obj
  | .l a => { cls := .type "list_iterator", data := .fields #[.ref a, .int 0 0] }
  | .t a => { cls := .type "tuple_iterator", data := .fields #[.ref a, .int 0 0] }
  | .s x k => { cls := .type (strIterType x), data := .fields #[.str x k, .int 0 0] }
def SK.raw : SK → Value
  | .l a => .ref a
  | .t a => .ref a
  | .s x k => .str x k
theorem SK.iter_keep {k : SK} {it : Addr} {i : Nat} {h h' : Heap} (s : k.iter it i h) (q : ∀ o, h.get? it = some o → h'.get? it = some o) : k.iter it i h' := by
  cases k with
  | l a => exact Heap.IsListIter.at s q
  | t a => exact Heap.IsTupleIter.at s q
  | s x k => exact let ⟨o, ho, r⟩ := s; ⟨o, q o ho, r⟩
theorem SK.iter_obj {k : SK} {it : Addr} {i : Nat} {h : Heap} (s : k.iter it i h) : ∃ o, h.get? it = some o ∧ ∀ v, o.data ≠ .cell v := by
  cases k with
  | l a => obtain ⟨o, e, _, d⟩ := s; exact ⟨o, e, fun v q => by rw [d] at q; cases q⟩
  | t a => obtain ⟨o, e, _, d⟩ := s; exact ⟨o, e, fun v q => by rw [d] at q; cases q⟩
  | s x k => obtain ⟨o, e, _, d⟩ := s; exact ⟨o, e, fun v q => by rw [d] at q; cases q⟩
/-- what the iterator draws while the thing stands so -/
theorem SK.draws {X : Cx} {pins : List (Addr × Obj)} {σ : St} {H : Hp} {s : Shared} {k : SK} {it : Addr} {xs : List V} (I : Inv X pins σ H s) (hc : X.calm = true) (hs : k.src X.K H xs) (hn : ∀ c, k.at c → c ≠ it) :
    ∃ (fp : List Addr) (P : Nat → Value → Prop) (S : Nat → Heap → Prop), Draws X.prog X.w X.A.in1 it fp xs.length P S ∧ (∀ i, k.iter it i s.heap → S i s.heap) ∧ (∀ i h', S i h' → k.iter it i h') ∧
      (∀ i u, P i u → ∃ v, xs[i]? = some v ∧ RelV v u) ∧ it ∈ fp ∧ ∀ c ∈ fp, c = it ∨ k.at c := by
  have hh : X.A.in1.handled = none := I.ok.hd hc
  cases k with
  | l a =>
    obtain ⟨its, rv, p, _⟩ := I.list hs
    refine ⟨[it, a], fun i v => its.toArray[i]? = some v, fun i h => h.IsListIter it a i ∧ h.IsList a its.toArray, by rw [show xs.length = its.toArray.size from rv.length.trans (by simp)]; exact Draws.list hh it a (hn a rfl) its.toArray, fun i q => ⟨q, p.isList⟩, fun i h' q => q.1, fun i u q => ?_, by simp, fun c hc => by
      rcases List.mem_cons.mp hc with e | e
      · exact .inl e
      · exact .inr (List.mem_singleton.mp e)⟩
    have q : its.toArray[i]? = some u := q
    cases e : xs[i]? with
    | none =>
      have := rv.none_of e
      rw [List.getElem?_toArray, this] at q
      cases q
    | some v =>
      obtain ⟨w', h1, h2⟩ := rv.get e
      rw [List.getElem?_toArray, h1] at q
      cases q
      exact ⟨v, rfl, h2⟩
  | t a =>
    obtain ⟨its, rv, p, _⟩ := I.tuple hs
    refine ⟨[it, a], fun i v => its.toArray[i]? = some v, fun i h => h.IsTupleIter it a i ∧ h.IsTuple a its.toArray, by rw [show xs.length = its.toArray.size from rv.length.trans (by simp)]; exact Draws.tuple hh it a (hn a rfl) its.toArray, fun i q => ⟨q, show s.heap.IsTuple a its.toArray from p⟩, fun i h' q => q.1, fun i u q => ?_, by simp, fun c hc => by
      rcases List.mem_cons.mp hc with e | e
      · exact .inl e
      · exact .inr (List.mem_singleton.mp e)⟩
    have q : its.toArray[i]? = some u := q
    cases e : xs[i]? with
    | none =>
      have := rv.none_of e
      rw [List.getElem?_toArray, this] at q
      cases q
    | some v =>
      obtain ⟨w', h1, h2⟩ := rv.get e
      rw [List.getElem?_toArray, h1] at q
      cases q
      exact ⟨v, rfl, h2⟩
  | s x tk =>
    have hs' : xs = x.cps.toList.map sgn := hs
    subst hs'
    refine ⟨[it], fun i v => ∃ c u, x.cps[i]? = some c ∧ v = .str ⟨#[c]⟩ u, fun i h => h.IsStrIter it (strIterType x) x tk i, by rw [show (x.cps.toList.map sgn).length = x.cps.size by simp]; exact Draws.text hh it x tk, fun i q => q, fun i h' q => q, fun i u q => ?_, by simp, fun c hc => .inl (List.mem_singleton.mp hc)⟩
    obtain ⟨c, t, h1, rfl⟩ := q
    refine ⟨sgn c, ?_, ⟨t, rfl⟩⟩
    rw [List.getElem?_map, Array.getElem?_toList, h1]
    rfl
/-- the items as they stand at each turn, in new pairs -/
def ItzG (K : PySem.W.Frag) (k1 k2 : SK) : It :=
  ⟨fun i H => ∃ (xs ys : List V) (x y : V), k1.src K H xs ∧ k2.src K H ys ∧ xs[i]? = some x ∧ ys[i]? = some y,
    fun i H v H' => ∃ T x y, v = .ref T ∧ H T = none ∧ H' = upd H T (.tup [x, y]) ∧ (∀ xs, k1.src K H xs → xs[i]? = some x) ∧ ∀ ys, k2.src K H ys → ys[i]? = some y,
    fun i H => ∃ xs ys : List V, k1.src K H xs ∧ k2.src K H ys ∧ i ≤ xs.length ∧ i ≤ ys.length ∧ (i = xs.length ∨ i = ys.length)⟩
theorem SK.inj {X : Cx} {pins : List (Addr × Obj)} {σ : St} {H : Hp} {s : Shared} {k : SK} {xs ys : List V} (I : Inv X pins σ H s) (h1 : k.src X.K H xs) (h2 : k.src X.K H ys) : xs = ys := by
  cases k with
  | l a => exact I.list_inj h1 h2
  | t a => exact I.tuple_inj h1 h2
  | s x t => exact (show xs = _ from h1).trans (show ys = _ from h2).symm
theorem turn_zipG {P : Program} {w : World} {K : PySem.W.Frag} {elts : List Expr} {kk : Nat} {tpos : Pos} {z TI TO i1 i2 : Addr} {k1 k2 : SK}
    (d1 : TI ≠ z) (d2 : TO ≠ z) (d3 : TI ≠ TO) (d4 : TI ≠ i1) (d5 : TI ≠ i2) (d6 : z ≠ i1) (d7 : z ≠ i2) (d8 : TO ≠ i1) (d9 : TO ≠ i2) (d10 : i1 ≠ i2)
    (a1 : ∀ c, k1.at c → c ≠ z ∧ c ≠ TO ∧ c ≠ i1 ∧ c ≠ i2) (a2 : ∀ c, k2.at c → c ≠ z ∧ c ≠ TO ∧ c ≠ i1 ∧ c ≠ i2) :
    Turn P w K (.Tuple elts kk tpos) (ItzG K k1 k2) [z, TI, TO, i1, i2] z (fun i h => IsZip h z TI TO .none ∧ IsTupOf2 h TI (.ref i1) (.ref i2) ∧ (∃ x y, IsTupOf2 h TO x y) ∧ k1.iter i1 i h ∧ k2.iter i2 i h) where
  mem := by simp
  obj := fun i h st c hc => by
    obtain ⟨hz, hTI, ⟨x, y, hTO⟩, s1, s2⟩ := st
    have e' : c = z ∨ c = TI ∨ c = TO ∨ c = i1 ∨ c = i2 := by simpa using hc
    rcases e' with q | q | q | q | q
    · rw [q]; exact ⟨_, hz, fun v q => nomatch q⟩
    · rw [q]; exact ⟨_, hTI, fun v q => nomatch q⟩
    · rw [q]; exact ⟨_, hTO, fun v q => nomatch q⟩
    · rw [q]; exact SK.iter_obj s1
    · rw [q]; exact SK.iter_obj s2
  keep := fun i h h' st k => by
    obtain ⟨hz, hTI, ⟨x, y, hTO⟩, s1, s2⟩ := st
    exact ⟨k z (by simp) _ hz, k TI (by simp) _ hTI, ⟨x, y, k TO (by simp) _ hTO⟩, SK.iter_keep s1 fun o q => k i1 (by simp) o q, SK.iter_keep s2 fun o q => k i2 (by simp) o q⟩
  item := by
    intro X hP hw hK hc i pins s σ H E I hf st hg
    subst hP hw hK
    obtain ⟨hz, hTI, ⟨x0, y0, hTO⟩, s1, s2⟩ := st
    obtain ⟨xs, ys, x, y, hqx, hqy, hx, hy⟩ := hg
    obtain ⟨fp1, P1, S1, D1, g1, b1, r1, m1, f1⟩ := SK.draws I hc hqx fun c q => (a1 c q).2.2.1
    obtain ⟨fp2, P2, S2, D2, g2, b2, r2, m2, f2⟩ := SK.draws I hc hqy fun c q => (a2 c q).2.2.2
    have Z : ZipSep2 z TI TO i1 i2 fp1 fp2 :=
      { TIz := d1, TOz := d2, TITO := d3, TIi1 := d4, mem1 := m1, TIi2 := d5, mem2 := m2,
        zf1 := fun q => by rcases f1 z q with e | e; exact d6 e; exact (a1 z e).1 rfl
        Tf1 := fun q => by rcases f1 TO q with e | e; exact d8 e; exact (a1 TO e).2.1 rfl
        zf2 := fun q => by rcases f2 z q with e | e; exact d7 e; exact (a2 z e).1 rfl
        Tf2 := fun q => by rcases f2 TO q with e | e; exact d9 e; exact (a2 TO e).2.1 rfl
        sep1_2 := fun q => by rcases f2 i1 q with e | e; exact d10 e; exact (a2 i1 e).2.2.1 rfl
        sep2_1 := fun q => by rcases f1 i2 q with e | e; exact d10 e.symm; exact (a1 i2 e).2.2.2 rfl }
    have lx : i < xs.length := (List.getElem?_eq_some_iff.mp hx).1
    have ly : i < ys.length := (List.getElem?_eq_some_iff.mp hy).1
    have hzl : z < s.heap.objs.size := Heap.lt_size hz
    refine wpAny_pyNext_zipD2_item Z D1 D2 hz hTI hTO (g1 i s1) (g2 i s2) lx ly fun u1 u2 h' tk p1 p2 z' TO' s1' s2' hT hsz hk => ?_
    obtain ⟨v1, e1, ru⟩ := r1 i u1 p1
    obtain ⟨v2, e2, ru2⟩ := r2 i u2 p2
    have ev1 : v1 = x := Option.some.inj (e1.symm.trans hx)
    have ev2 : v2 = y := Option.some.inj (e2.symm.trans hy)
    subst ev1 ev2
    refine ⟨_, rfl, wpAny_letOwnedTupleGo_zip (s := { s with heap := h', toks := tk }) z' fun h'' z'' sb => ?_⟩
    have hT2 : h''.get? s.heap.objs.size = some { cls := .type "tuple", data := .seq #[u1, u2] } := (sb.2 _ (Nat.ne_of_gt hzl)).trans hT
    have new : ObjOk X.prog X.w (upd H s.heap.objs.size (.tup [v1, v2])) h'' s.heap.objs.size (.tup [v1, v2]) :=
      ⟨by show 2 ≤ sizeLine; decide, [u1, u2], .cons ru (.cons ru2 .nil), ⟨_, hT2, rfl, _, rfl⟩⟩
    have I1 : Inv X pins σ (upd H s.heap.objs.size (.tup [v1, v2])) { s with heap := h'', toks := tk } :=
      I.turnedNew (t' := tk) (ch := [z, TI, TO, i1, i2]) (fun c o hb q => (sb.2 c (fun q' => hb (by simp [q']))).trans (hk c o (fun q' => hb (by simp [q'])) (fun q' => hb (by simp [q'])) (fun q' => hb (by simp [q'])) (fun q' => hb (by simp [q'])) q)) hf (Nat.le_refl _) new
    refine ⟨.ref s.heap.objs.size, _, I1, rfl, ⟨_, v1, v2, rfl, I.hok.fresh (Nat.le_refl _), rfl, fun l hl => by rw [SK.inj I hl hqx]; exact hx, fun l hl => by rw [SK.inj I hl hqy]; exact hy⟩, ⟨z'', ?_, ⟨u1, u2, ?_⟩, ?_, ?_⟩, fun c hcm => ?_⟩
    · exact (sb.2 _ d1).trans (hk _ _ d1 d3 d4 d5 hTI)
    · exact (sb.2 _ d2).trans TO'
    · exact SK.iter_keep (b1 _ _ s1') fun o q => (sb.2 _ d6.symm).trans q
    · exact SK.iter_keep (b2 _ _ s2') fun o q => (sb.2 _ d7.symm).trans q
    · have hlt : c < s.heap.objs.size := by
        have e' : c = z ∨ c = TI ∨ c = TO ∨ c = i1 ∨ c = i2 := by simpa using hcm
        rcases e' with q | q | q | q | q
        · rw [q]; exact hzl
        · rw [q]; exact Heap.lt_size hTI
        · rw [q]; exact Heap.lt_size hTO
        · rw [q]; obtain ⟨_, e, _⟩ := SK.iter_obj s1; exact Heap.lt_size e
        · rw [q]; obtain ⟨_, e, _⟩ := SK.iter_obj s2; exact Heap.lt_size e
      rw [upd_ne (Nat.ne_of_lt hlt)]
      exact (hf c hcm).1
  done := by
    intro X hP hw hK hc i pins s σ H E I hf st hg
    subst hP hw hK
    obtain ⟨hz, hTI, ⟨x0, y0, hTO⟩, s1, s2⟩ := st
    obtain ⟨xs, ys, hqx, hqy, hlx, hly, hend⟩ := hg
    obtain ⟨fp1, P1, S1, D1, g1, b1, r1, m1, f1⟩ := SK.draws I hc hqx fun c q => (a1 c q).2.2.1
    obtain ⟨fp2, P2, S2, D2, g2, b2, r2, m2, f2⟩ := SK.draws I hc hqy fun c q => (a2 c q).2.2.2
    have Z : ZipSep2 z TI TO i1 i2 fp1 fp2 :=
      { TIz := d1, TOz := d2, TITO := d3, TIi1 := d4, mem1 := m1, TIi2 := d5, mem2 := m2,
        zf1 := fun q => by rcases f1 z q with e | e; exact d6 e; exact (a1 z e).1 rfl
        Tf1 := fun q => by rcases f1 TO q with e | e; exact d8 e; exact (a1 TO e).2.1 rfl
        zf2 := fun q => by rcases f2 z q with e | e; exact d7 e; exact (a2 z e).1 rfl
        Tf2 := fun q => by rcases f2 TO q with e | e; exact d9 e; exact (a2 TO e).2.1 rfl
        sep1_2 := fun q => by rcases f2 i1 q with e | e; exact d10 e; exact (a2 i1 e).2.2.1 rfl
        sep2_1 := fun q => by rcases f1 i2 q with e | e; exact d10 e.symm; exact (a1 i2 e).2.2.2 rfl }
    exact wpAny_pyNext_zipD2_end Z D1 D2 hz hTI hTO (g1 i s1) (g2 i s2) hlx hly hend fun h' tk hk => ⟨rfl, I.turnedL (t' := tk) (ch := [z, TI, TO, i1, i2]) (fun c o hb q =>
      hk c o (fun q' => hb (by simp [q'])) (fun q' => hb (by simp [q'])) (fun q' => hb (by simp [q'])) (fun q' => hb (by simp [q'])) q) hf⟩
  self := fun A i s Q E st h => wpAny_pyIter_zip st.1 h
def iZipG (K : PySem.W.Frag) (ta : TA) : TI := fun σ H R => ta σ H fun vs H1 => ∃ (x y : V) (xs ys : List V), vs = [x, y] ∧ Src K H1 x xs ∧ Src K H1 y ys ∧
  ∀ k1 k2 : SK, k1.val = x → k2.val = y → k1.src K H1 xs → k2.src K H1 ys → R (ItzG K k1 k2) H1
/-- the kind of a value with items -/
theorem Src.kind {X : Cx} {pins : List (Addr × Obj)} {σ : St} {H : Hp} {s : Shared} {x : V} {u : Value} {xs : List V} (I : Inv X pins σ H s) (h : Src X.K H x xs) (r : RelV x u) :
    ∃ k : SK, k.val = x ∧ k.raw = u ∧ k.src X.K H xs ∧ (∀ c, k.at c → c < s.heap.objs.size) ∧ ∃ B : Heap → Prop, Begins u k.obj B ∧ B s.heap := by
  cases h with
  | @l a xs h =>
    cases (show u = Value.ref a from r)
    obtain ⟨its, rv, p, _⟩ := I.list h
    exact ⟨.l a, rfl, rfl, h, fun c e => by rw [show c = a from e]; exact p.lt, _, begins_list a its.toArray, p.isList⟩
  | @t a xs h =>
    cases (show u = Value.ref a from r)
    obtain ⟨its, rv, p, _⟩ := I.tuple h
    have p' : s.heap.IsTuple a its.toArray := p
    exact ⟨.t a, rfl, rfl, h, fun c e => by rw [show c = a from e]; obtain ⟨o, e, _⟩ := p'; exact Heap.lt_size e, _, begins_tuple a its.toArray, p'⟩
  | @s z xs h =>
    obtain ⟨t, rfl⟩ := (show ∃ t, u = Value.str z t from r)
    exact ⟨.s z t, rfl, rfl, h, fun c e => False.elim e, _, begins_text z t, trivial⟩
theorem SK.begun {k : SK} {it : Addr} {h : Heap} (e : h.get? it = some k.obj) : k.iter it 0 h := by
  cases k with
  | l a => exact ⟨_, e, rfl, rfl⟩
  | t a => exact ⟨_, e, rfl, rfl⟩
  | s x t => exact ⟨_, e, rfl, rfl⟩
theorem neN {a b : Nat} (h : a < b ∨ b < a) : a ≠ b := by omega
theorem pi_zipG {X : Cx} {e e2 : Expr} {ta : TA} {p pos tpos : Pos} {elts : List Expr} {kk : Nat} (hg : Gl X "zip") (hm : X.mg "zip" = none) (ha : PA X [e, e2] ta)
    (hs : starEach [e, e2] X.env = (false, eval e X.env) :: starEach [e2] X.env := by rfl) (hpl : (backTo pos (starEach [e2] X.env)).any (·.1) = false := by rfl) :
    PI X (.Tuple elts kk tpos) (.Call (.Name "zip" p) [e, e2] [] pos) (iZipG X.K ta) := by
  refine ⟨fun pins s σ H R I h => ?_⟩
  refine Call_ (ld_blt I hg hm PyProof.Rows.boot_zip (PyProof.Rows.callWith_type1 (thn (ha.run pos pins s σ H _ I h) fun us s1 ⟨vs, H1, I1, r1, q1⟩ => ?_) hs hpl))
  obtain ⟨x, y, xs, ys, ex, sx, sy, q⟩ := q1
  subst ex
  cases r1 with
  | cons r rr =>
    cases rr with
    | cons r' rr =>
      cases rr
      obtain ⟨k1, ev1, _, src1, lt1, B1, b1, hb1⟩ := sx.kind I1 r
      obtain ⟨k2, ev2, _, src2, lt2, B2, b2, hb2⟩ := sy.kind I1 r'
      have fresh5 : ∀ c, c ∈ [s1.heap.objs.size + 4, s1.heap.objs.size + 2, s1.heap.objs.size + 3, s1.heap.objs.size, s1.heap.objs.size + 1] → FpOk X pins H1 c := fun c hcm => by
        have e' : c = s1.heap.objs.size + 4 ∨ c = s1.heap.objs.size + 2 ∨ c = s1.heap.objs.size + 3 ∨ c = s1.heap.objs.size ∨ c = s1.heap.objs.size + 1 := by simpa using hcm
        have hle : s1.heap.objs.size ≤ c := by omega
        exact I1.fpOk hle (I1.hok.fresh hle)
      refine zip_begins2 b1 b2 hb1 hb2 fun h' hz hTI hTO h1 h2 hsz hk => wpAny_pyIter_zip hz ?_
      have I2 : Inv X pins σ H1 { s1 with heap := h' } := I1.kept (t' := s1.toks) hk
      have TT := turn_zipG (P := X.prog) (w := X.w) (K := X.K) (elts := elts) (kk := kk) (tpos := tpos) (z := s1.heap.objs.size + 4) (TI := s1.heap.objs.size + 2) (TO := s1.heap.objs.size + 3) (i1 := s1.heap.objs.size) (i2 := s1.heap.objs.size + 1) (k1 := k1) (k2 := k2)
        (neN (by omega)) (neN (by omega)) (neN (by omega)) (neN (by omega)) (neN (by omega)) (neN (by omega)) (neN (by omega)) (neN (by omega)) (neN (by omega)) (neN (by omega))
        (fun c hc => have h : c < s1.heap.objs.size := lt1 c hc; ⟨Nat.ne_of_lt (Nat.lt_of_lt_of_le h (Nat.le_add_right _ _)), Nat.ne_of_lt (Nat.lt_of_lt_of_le h (Nat.le_add_right _ _)), Nat.ne_of_lt h, Nat.ne_of_lt (Nat.lt_of_lt_of_le h (Nat.le_add_right _ _))⟩) (fun c hc => have h : c < s1.heap.objs.size := lt2 c hc; ⟨Nat.ne_of_lt (Nat.lt_of_lt_of_le h (Nat.le_add_right _ _)), Nat.ne_of_lt (Nat.lt_of_lt_of_le h (Nat.le_add_right _ _)), Nat.ne_of_lt h, Nat.ne_of_lt (Nat.lt_of_lt_of_le h (Nat.le_add_right _ _))⟩)
      exact ⟨s1.heap.objs.size + 4, [s1.heap.objs.size + 4, s1.heap.objs.size + 2, s1.heap.objs.size + 3, s1.heap.objs.size, s1.heap.objs.size + 1], _, _, H1, rfl, I2, TT, ⟨hz, hTI, ⟨_, _, hTO⟩, SK.begun h1, SK.begun h2⟩, fresh5, q k1 k2 ev1 ev2 src1 src2⟩
theorem walk_zipG {K : PySem.W.Frag} {k1 k2 : SK} {xs ys : List V} {n : Nat} (hn : n = min xs.length ys.length) : Walk (ItzG K k1 k2) n (fun H => k1.src K H xs ∧ k2.src K H ys) (YPair (fun i => xs[i]?) (fun i => ys[i]?)) := by
  subst hn
  refine ⟨fun i _ hi q => ?_, fun _ q => ⟨xs, ys, q.1, q.2, by omega, by omega, by omega⟩, fun i H v H' _ q y => ?_⟩
  · have h1 : i < xs.length := by omega
    have h2 : i < ys.length := by omega
    exact ⟨xs, ys, xs[i], ys[i], q.1, q.2, by simp [h1], by simp [h2]⟩
  · obtain ⟨T, x, z, h1, h2, h3, h4, h5⟩ := y
    exact ⟨T, x, z, h1, h2, h3, h4 xs q.1, h5 ys q.2⟩
end L2
namespace FW
open PySem PySem.Spec PyProof.Rows L2
/-- the built-in names that stand as they were -/
structure Z (mg : Str → Option Value) : Prop where
  z_isinstance : mg "isinstance" = none
  z_str : mg "str" = none
  z_all : mg "all" = none
  z_any : mg "any" = none
  z_len : mg "len" = none
  z_int : mg "int" = none
  z_list : mg "list" = none
  z_abs : mg "abs" = none
  z_bool : mg "bool" = none
  z_tuple : mg "tuple" = none
  z_zip : mg "zip" = none
  z_range : mg "range" = none
  z_enumerate : mg "enumerate" = none
  z_sorted : mg "sorted" = none
  z_dict : mg "dict" = none
  z_set : mg "set" = none
  z_sum : mg "sum" = none
  z_min : mg "min" = none
  z_max : mg "max" = none
  z_reversed : mg "reversed" = none
  z_repr : mg "repr" = none
  z_ord : mg "ord" = none
section
variable {P : Program} {w : World} {K : PySem.W.Frag} {mg : Str → Option Value} {base : Heap}
/-- a value that is no text -/
def NotS (K : PySem.W.Frag) (H : Hp) (v : V) : Prop := ∃ T : String, TyX K H v (.type T) ∧ kitB T "str" = some false
def isStr : V → Bool
  | .str _ => true
  | _ => false
def strOf : V → Str
  | .str z => z
  | _ => ⟨#[]⟩
theorem str_of {v : V} (h : isStr v = true) : ∃ z, v = .str z := by
  cases v with
  | str z => exact ⟨z, rfl⟩
  | _ => exact absurd (show false = true from h) Bool.false_ne_true
theorem sz {n : Nat} (h : n ≤ 100000) : n ≤ sizeLine := Nat.le_trans h (by decide)
theorem sz1 {n : Nat} (h : n ≤ 100000) : n < sizeLine := Nat.lt_of_le_of_lt h (by decide)
def bString (v : V) (fs : Str) : Bool := isStr v && (strOf v).cps.toList.all fun c => decide (c ∈ fs.cps.toList)
def sp_is_string (K : PySem.W.Frag) : Sp := fun vs H Q _ => ∃ (v : V) (fs : Str), vs = [v, .str fs] ∧ ((isStr v = true ∧ (strOf v).cps.size ≤ 100000) ∨ (isStr v = false ∧ NotS K H v)) ∧ ∀ H', Same H H' → Q (.bl (bString v fs)) H'
theorem NotS.same {H H' : Hp} {v : V} (n : NotS K H v) (q : ∀ T, TyX K H v T → TyX K H' v T) : NotS K H' v := let ⟨T, t, k⟩ := n; ⟨T, q _ t, k⟩
def bRoom (v : V) (fs : Str) : Bool := bString v fs && decide ((strOf v).cps.size = 4)
def sp_is_room (K : PySem.W.Frag) : Sp := fun vs H Q _ => ∃ (v : V) (fs : Str), vs = [v, .str fs] ∧ ((isStr v = true ∧ (strOf v).cps.size ≤ 100000) ∨ (isStr v = false ∧ NotS K H v)) ∧ ∀ H', Same H H' → Q (.bl (bRoom v fs)) H'
def bCut (v : V) (fs : Str) : Bool := isStr v && decide ((strOf v).cps.size = 3) && decide ((strOf v).cps.toList.getD 0 0 ∈ ("|-" : Str).cps.toList) && ((strOf v).cps.toList.drop 1).all fun c => decide (c ∈ fs.cps.toList)
def sp_is_cut (K : PySem.W.Frag) : Sp := fun vs H Q _ => ∃ (v : V) (fs : Str), vs = [v, .str fs] ∧ ((isStr v = true ∧ (strOf v).cps.size ≤ 100000) ∨ (isStr v = false ∧ NotS K H v)) ∧ ∀ H', Same H H' → Q (.bl (bCut v fs)) H'
theorem cutS_from {z : Str} (h : 1 ≤ z.cps.size) : cutS z (some 1) none = ⟨(z.cps.toList.drop 1).toArray⟩ := by
  unfold cutS
  rw [HT.sIx_none, show HT.sIx z.length 0 (some 1) = min 1 z.length from HT.sIx_nat z.length 0 1]
  have e : min 1 z.length = 1 := Nat.min_eq_left h
  rw [e, List.take_of_length_le]
  simp [Str.length]
def S4 (a b c d : Nat) : Str := ⟨#[a, b, c, d]⟩
def S3 (a b c : Nat) : Str := ⟨#[a, b, c]⟩
/-- both parts of a room by a cut; the codes of the signs: 124 upright -/
def partsC (n e s w sg x y : Nat) : List Str := if sg = 124 then [S4 n x s w, S4 n e s y] else [S4 n e x w, S4 y e s w]
def sp_parts_of (K : PySem.W.Frag) : Sp := fun vs H Q _ => ∃ (n e s w : Nat) (cut : Str), vs = [.str (S4 n e s w), .str cut] ∧
  ((cut = ("" : Str) ∧ ∀ p, H p = none → Q (.ref p) (upd H p (.lst [.str (S4 n e s w)]))) ∨ ∃ sg x y, cut = S3 sg x y ∧ ∀ p, H p = none → Q (.ref p) (upd H p (.lst ((partsC n e s w sg x y).map V.str))))
def Bag (H : Hp) (b l : Addr) : Prop := ∃ (ns : List Int) (i r m c : Int), H b = some (.lst [.ref l, .int i, .int r, .int m, .int c]) ∧ H l = some (.lst (ns.map V.int)) ∧ ns.length ≤ 1000 ∧ 0 ≤ i ∧ 0 ≤ m ∧ m < 2147483648
theorem bag_ne {l : Addr} {ns : List Int} {i r m c : Int} : HO.lst (ns.map V.int) ≠ HO.lst [.ref l, .int i, .int r, .int m, .int c] := by
  intro e
  have e1 := HO.lst.inj e
  cases ns with
  | nil => cases e1
  | cons n ns =>
    have e2 := List.head_eq_of_cons_eq e1
    cases e2
theorem Bag.same {H H' : Hp} {b l : Addr} (B : Bag H b l) (s : Same H H') : Bag H' b l := by
  obtain ⟨ns, i, r, m, c, h1, h2, q⟩ := B
  exact ⟨ns, i, r, m, c, s _ _ h1, s _ _ h2, q⟩
theorem Bag.la {H : Hp} {b l : Addr} (B : Bag H b l) : ∃ xs, H b = some (.lst xs) := let ⟨_, _, _, _, _, h, _⟩ := B; ⟨_, h⟩
theorem Bag.lb {H : Hp} {b l : Addr} (B : Bag H b l) : ∃ xs, H l = some (.lst xs) := let ⟨_, _, _, _, _, _, h, _⟩ := B; ⟨_, h⟩
/-- what is new is not the bag -/
theorem Bag.ne {H : Hp} {b l p : Addr} (B : Bag H b l) (h : H p = none) : p ≠ b := fun e => by
  obtain ⟨xs, h1⟩ := B.la
  rw [e, h1] at h
  cases h
theorem Bag.ne2 {H : Hp} {b l p : Addr} (B : Bag H b l) (h : H p = none) : p ≠ l := fun e => by
  obtain ⟨xs, h1⟩ := B.lb
  rw [e, h1] at h
  cases h
/-- another object changes -/
theorem Bag.upd {H : Hp} {b l p : Addr} {o : HO} (B : Bag H b l) (h1 : p ≠ b) (h2 : p ≠ l) : Bag (L2.upd H p o) b l := by
  obtain ⟨ns, i, r, m, c, g1, g2, q⟩ := B
  exact ⟨ns, i, r, m, c, by rw [upd_ne h1.symm]; exact g1, by rw [upd_ne h2.symm]; exact g2, q⟩
def sp__law_open (K : PySem.W.Frag) : Sp := fun vs H Q _ => ∃ (a : Addr) (ns : List Int), vs = [.ref a] ∧ SqL K H a (ns.map V.int) ∧ ns.length ≤ 63 ∧ ∀ H' b l, H b = none → H l = none → Same H H' → Bag H' b l → Q (.ref b) H'
theorem cutV_to {xs : List V} {k : Nat} : cutV xs none (some (k : Int)) = xs.take k := by
  unfold cutV
  rw [HT.sIx_none, HT.sIx_nat]
  show List.take (min k xs.length - 0) (List.drop 0 xs) = _
  rw [List.drop_zero, Nat.sub_zero, List.take_eq_take_iff]
  omega
def sp__law_draw (K : PySem.W.Frag) : Sp := fun vs H Q _ => ∃ (b l : Addr) (k : Int), vs = [.ref b, .int k] ∧ Bag H b l ∧ 0 < k ∧ k < 1073741824 ∧ ∀ H' z, 0 ≤ z → z < k → But b H H' → Bag H' b l → Q (.int z) H'
/-- behind the first part of a draw -/
def BagAt (H0 H : Hp) (b l : Addr) (ns : List Int) : Prop := But b H0 H ∧ H l = some (.lst (ns.map V.int)) ∧ ∃ i r m c : Int, H b = some (.lst [.ref l, .int i, .int r, .int m, .int c]) ∧ 0 ≤ i ∧ 0 ≤ m ∧ m < 2147483648
abbrev S (l : List Nat) : Str := ⟨l.toArray⟩
theorem S_cat (a b : List Nat) : S a ++ S b = S (a ++ b) := SX.S_cat a b
theorem S_len (a : List Nat) : (S a).length = a.length := SX.S_len a
theorem S_tl (x : Str) : S x.cps.toList = x := SX.S_tl x
theorem atI_of {α : Type} {xs : List α} {z : Int} {j : Nat} {v : α} (e : z = (j : Int)) (h : xs[j]? = some v) : atI xs z = some v := by
  rw [e]
  exact atI_nat h
theorem S_sub (l : List Nat) (i : Nat) : cutS (S l) (some (i : Int)) none = S (l.drop i) := by
  unfold cutS
  rw [HT.sIx_none, HT.sIx_nat]
  show (⟨(List.take ((S l).length - min i (S l).length) (List.drop (min i (S l).length) l)).toArray⟩ : Str) = ⟨(l.drop i).toArray⟩
  rw [S_len]
  have e : List.take (l.length - min i l.length) (List.drop (min i l.length) l) = l.drop i := by
    by_cases h : i ≤ l.length
    · rw [Nat.min_eq_left h]
      exact List.take_of_length_le (by rw [List.length_drop]; exact Nat.le_refl _)
    · rw [Nat.min_eq_right (by omega), List.drop_eq_nil_of_le (as := l) (i := i) (by omega)]
      simp
  rw [e]
theorem S_to (l : List Nat) (i : Nat) : cutS (S l) none (some (i : Int)) = S (l.take i) := by
  unfold cutS
  rw [HT.sIx_none, HT.sIx_nat]
  show (⟨(List.take (min i (S l).length - 0) (List.drop 0 l)).toArray⟩ : Str) = ⟨(l.take i).toArray⟩
  rw [S_len, List.drop_zero, Nat.sub_zero]
  have e : List.take (min i l.length) l = l.take i := by
    rw [List.take_eq_take_iff]
    omega
  rw [e]
def Items (K : PySem.W.Frag) (H : Hp) (b : Addr) (x : V) (xs : List V) : Prop := (∃ a, a ≠ b ∧ x = .ref a ∧ SqL K H a xs) ∨ (∃ a, a ≠ b ∧ x = .ref a ∧ SqT K H a xs) ∨ ∃ l, x = .str (S l) ∧ xs = l.map sgn
def sp__law_of (K : PySem.W.Frag) : Sp := fun vs H Q _ => ∃ (b l : Addr) (x : V) (xs : List V), vs = [.ref b, x] ∧ Bag H b l ∧ Items K H b x xs ∧ 0 < xs.length ∧ xs.length ≤ 100000 ∧ ∀ H' v, v ∈ xs → But b H H' → Bag H' b l → Q v H'
mutual
/-- data that nest at most so deep -/
def Deep : Nat → PyData → Prop
  | _, .none => True
  | _, .bool _ => True
  | _, .int _ => True
  | _, .str _ => True
  | 0, .list _ => False
  | 0, .tuple _ => False
  | n + 1, .list ds => ds.length ≤ 1000 ∧ ∀ d ∈ ds, Deep n d
  | n + 1, .tuple ds => ds.length ≤ 1000 ∧ ∀ d ∈ ds, Deep n d
  | _, .dict _ => False
end
def sp__law_same (K : PySem.W.Frag) (n : Nat) : Sp := fun vs H Q _ => ∃ (x y : V) (d : PyData), vs = [x, y] ∧ Dp K H x d ∧ Dp K H y d ∧ Deep n d ∧ ∀ H', Same H H' → Q (.bl true) H'
theorem tyL {H : Hp} {a : Addr} {xs : List V} (h : SqL K H a xs) : TyX K H (.ref a) (.type "list") := by
  rcases h with (h | ⟨o, h⟩) | ⟨o, its, n, h, c, _⟩
  · exact .base (.lst h)
  · exact .base (.frz h)
  · exact .kList h c
theorem tyT {H : Hp} {a : Addr} {xs : List V} (h : SqT K H a xs) : TyX K H (.ref a) (.type "tuple") := by
  rcases h with (h | ⟨o, h⟩) | ⟨o, its, n, h, c, _⟩
  · exact .base (.tup h)
  · exact .fTuple h
  · exact .kTuple h c
theorem Dp.same {H H' : Hp} (s : Same H H') : ∀ {v : V} {d : PyData}, Dp K H v d → Dp K H' v d := by
  intro v d h
  exact @Dp.rec K H (fun v d _ => Dp K H' v d) (fun vs ds _ => DpAll K H' vs ds) .non (fun b => .bl b) (fun i => .int i) (fun x => .str x) (fun h _ ih => .lst (s.seq h) ih) (fun h _ ih => .tup (s.tup h) ih) .nil (fun _ _ i1 i2 => .cons i1 i2) v d h
theorem DpAll.same {H H' : Hp} (s : Same H H') : ∀ {vs : List V} {ds : List PyData}, DpAll K H vs ds → DpAll K H' vs ds
  | _, _, .nil => .nil
  | _, _, .cons h t => .cons (Dp.same s h) (DpAll.same s t)
theorem DpAll.len {H : Hp} : ∀ {vs : List V} {ds : List PyData}, DpAll K H vs ds → vs.length = ds.length
  | _, _, .nil => rfl
  | _, _, .cons _ t => congrArg (· + 1) (DpAll.len t)
theorem DpAll.at {H : Hp} : ∀ {vs : List V} {ds : List PyData} {i : Nat} {v : V}, DpAll K H vs ds → vs[i]? = some v → ∃ d, ds[i]? = some d ∧ Dp K H v d
  | _, _, _, _, .nil, e => by simp at e
  | _, _, 0, v, .cons h _, e => by
    have e1 := Option.some.inj (show some _ = some v from e)
    exact ⟨_, rfl, e1 ▸ h⟩
  | _, _, i + 1, v, .cons _ t, e => DpAll.at (i := i) t e
theorem walk_zipT {a b : Addr} {xs ys : List V} {n : Nat} (hn : n = min xs.length ys.length) : Walk (RZ.ItzT K a b) n (fun H => SqT K H a xs ∧ SqT K H b ys) (YPair (fun i => xs[i]?) (fun i => ys[i]?)) := by
  subst hn
  refine ⟨fun i _ hi q => ?_, fun _ q => ⟨xs, ys, q.1, q.2, by omega⟩, fun i H v H' _ q y => ?_⟩
  · have h1 : i < xs.length := by omega
    have h2 : i < ys.length := by omega
    exact ⟨xs, ys, xs[i], ys[i], q.1, q.2, by simp [h1], by simp [h2]⟩
  · obtain ⟨T, x, z, h1, h2, h3, h4, h5⟩ := y
    exact ⟨T, x, z, h1, h2, h3, h4 xs q.1, h5 ys q.2⟩
/-- the answers of isinstance(x, (list, tuple)) -/
theorem kitAny_lt {T : String} {r1 r2 : Bool} (h1 : kitB T "list" = some r1) (h2 : kitB T "tuple" = some r2) : PySem.W.kitAny K (.type T) [.type "list", .type "tuple"] = some (r1 || r2) := by
  refine kitAny_cons (kit_ty h1) (fun e => ?_) (fun e => by rw [e]; rfl)
  subst e
  refine kitAny_cons (kit_ty h2) (fun e => ?_) (fun e => by rw [e]; rfl)
  subst e
  rfl
theorem seq_but {H H' : Hp} {D a : Addr} {xs : List V} (nD : ∀ c u, H c = some u → c ≠ D) (bt : But D H H') (h : SqL K H a xs) : SqL K H' a xs := by
  rcases h with (h | ⟨o, h⟩) | h
  · exact .inl (.inl (bt _ _ (nD _ _ h) h))
  · exact .inl (.inr ⟨o, bt _ _ (nD _ _ h) h⟩)
  · exact .inr h
theorem tup_but {H H' : Hp} {D a : Addr} {xs : List V} (nD : ∀ c u, H c = some u → c ≠ D) (bt : But D H H') (h : SqT K H a xs) : SqT K H' a xs := by
  rcases h with (h | ⟨o, h⟩) | h
  · exact .inl (.inl (bt _ _ (nD _ _ h) h))
  · exact .inl (.inr ⟨o, bt _ _ (nD _ _ h) h⟩)
  · exact .inr h
theorem nk_false {k : Nat} {f : Addr} {fd : FuncData} {ps : List Str} : FnOk P w K mg base CX0 k f fd ps (fun _ _ _ _ => False) := ⟨fun _ _ _ _ h => h.elim, fun _ _ _ _ _ _ _ _ _ _ _ _ _ h => h.elim⟩
def sp__law_letters (K : PySem.W.Frag) : Sp := fun vs H Q _ => ∃ (b lb : Addr) (L : List Nat) (k : Nat), vs = [.ref b, .str (S L), .int k] ∧ Bag H b lb ∧ k ≤ L.length ∧ L.length ≤ 1000 ∧ ∀ H' r, List.Sublist r L → r.length = k → But b H H' → Bag H' b lb → Q (.str (S r)) H'
theorem sub_next {L r : List Nat} {low z : Nat} (h : List.Sublist r (L.take low)) (hl : low ≤ z) (hz : z < L.length) : List.Sublist (r ++ [L[z]]) (L.take (z + 1)) := by
  rw [List.take_add_one, List.getElem?_eq_getElem hz]
  refine List.Sublist.append ?_ (List.Sublist.refl _)
  exact h.trans (List.take_sublist_take_left hl)
def lower : List Nat := ("abcdefghijklmnopqrstuvwxyz" : Str).cps.toList
def sp__law_some_faces (K : PySem.W.Frag) : Sp := fun vs H Q _ => ∃ (b lb : Addr) (m : Nat), vs = [.ref b, .int m] ∧ Bag H b lb ∧ 0 < m ∧ m ≤ 26 ∧ ∀ H' r, List.Sublist r lower → 0 < r.length → r.length ≤ m → But b H H' → Bag H' b lb → Q (.str (S r)) H'
theorem lower_len : lower.length = 26 := by decide +kernel
/-- a sign of a text -/
theorem of_str {H : Hp} {b : Addr} {l : List Nat} {v : V} (h : v ∈ l.map sgn) : ∃ c ∈ l, v = sgn c := by
  obtain ⟨c, hc, e⟩ := List.mem_map.mp h
  exact ⟨c, hc, e.symm⟩
def sp__law_some_room (K : PySem.W.Frag) : Sp := fun vs H Q _ => ∃ (b lb : Addr) (fs : List Nat), vs = [.ref b, .str (S fs)] ∧ Bag H b lb ∧ 0 < fs.length ∧ fs.length ≤ 100 ∧ ∀ H' n e s w, n ∈ fs → e ∈ fs → s ∈ fs → w ∈ fs → But b H H' → Bag H' b lb → Q (.str (S4 n e s w)) H'
def sp__law_some_cut (K : PySem.W.Frag) : Sp := fun vs H Q _ => ∃ (b lb : Addr) (fs : List Nat), vs = [.ref b, .str (S fs)] ∧ Bag H b lb ∧ 0 < fs.length ∧ fs.length ≤ 100 ∧ ∀ H' g x y, (g = 124 ∨ g = 45) → x ∈ fs → y ∈ fs → But b H H' → Bag H' b lb → Q (.str (S3 g x y)) H'
def sp__law_string (K : PySem.W.Frag) : Sp := fun vs H Q _ => ∃ (b lb : Addr) (fs : List Nat) (m : Nat), vs = [.ref b, .str (S fs), .int m] ∧ Bag H b lb ∧ 0 < fs.length ∧ fs.length ≤ 100 ∧ m ≤ 1000 ∧ ∀ H' r, (∀ c ∈ r, c ∈ fs) → r.length ≤ m → But b H H' → Bag H' b lb → Q (.str (S r)) H'
theorem joinL_ones : ∀ r : List Nat, TL.joinL [] (r.map fun c => [c]) = r
  | [] => rfl
  | [c] => rfl
  | c :: d :: r => by
    show [c] ++ ([] ++ TL.joinL [] ((d :: r).map fun c => [c])) = c :: d :: r
    rw [joinL_ones (d :: r)]
    rfl
theorem join_ones (r : List Nat) : Txt.join (S []) ((r.map fun c => [c]).map S) = S r := by
  rw [SX.join_S, joinL_ones]
theorem lens_ones (r : List Nat) : (((r.map fun c => [c]).map S).map (·.length)).sum = r.length := by
  induction r with
  | nil => rfl
  | cons c r ih =>
    rw [List.map_cons, List.map_cons, List.map_cons, List.sum_cons, ih, List.length_cons]
    show 1 + r.length = r.length + 1
    omega
def sp__law_split (K : PySem.W.Frag) : Sp := fun vs H Q _ => ∃ (n e s w sg x y : Nat), vs = [.str (S4 n e s w), .str (S3 sg x y)] ∧ ∀ p, H p = none → Q (.ref p) (upd H p (.lst ((partsC n e s w sg x y).map V.str)))
theorem sub4_1 {a b c d : Nat} : cutS (S4 a b c d) (some 1) none = S [b, c, d] := S_sub [a, b, c, d] 1
theorem sub4_2 {a b c d : Nat} : cutS (S4 a b c d) (some 2) none = S [c, d] := S_sub [a, b, c, d] 2
theorem to4_2 {a b c d : Nat} : cutS (S4 a b c d) none (some 2) = S [a, b] := S_to [a, b, c, d] 2
theorem to4_3 {a b c d : Nat} : cutS (S4 a b c d) none (some 3) = S [a, b, c] := S_to [a, b, c, d] 3
def swp {α : Type} : List α → List α → List α
  | [], [a, b] => [b, a]
  | _, _ => []
theorem swp_vals {vs : List V} {us : List Value} {zs : List V} {ws : List Value} (r : Vals vs us) (q : Vals zs ws) : Vals (swp vs zs) (swp us ws) := by
  cases r with
  | cons _ _ => exact .nil
  | nil =>
    cases q with
    | nil => exact .nil
    | cons q1 t =>
      cases t with
      | nil => exact .nil
      | cons q2 t =>
        cases t with
        | nil => exact .cons q2 (.cons q1 .nil)
        | cons _ _ => exact .nil
theorem kb_swap {K : PySem.W.Frag} {x : Str} {st : Stmt} {p1 p2 : Str}
    (h : ∀ (kV doc pm : Value) (an : Option Addr) (cdv ct : Value) (u v : Value), bindArgs (PySem.W.fnOf x x (defArgs st) (defBody st) (defScope st) .none kV doc pm an cdv ct) ⟨[], [(p2, u), (p1, v)]⟩ = pure [(p1, v), (p2, u)]) :
    KB K x st [p1, p2] [p2, p1] swp swp := by
  intro f fd F
  obtain ⟨oc, od, kV, doc, pm, an, cdv, ct, osl, rfl, lk, hcd⟩ := F.ex
  refine ⟨fun s us ws _ hl => ?_, fun r q => swp_vals r q⟩
  match us, ws, hl with
  | [], [u, v], _ => exact .of_eq (h kV doc pm an cdv ct u v)
  | [], [], hl => exact absurd (show 0 = 2 from hl) (by decide)
  | [], [_], hl => exact absurd (show 0 = 2 from hl) (by decide)
  | [], _ :: _ :: _ :: _, hl => exact absurd (show 0 = 2 from hl) (by decide)
  | _ :: _, ws, hl => exact absurd (show 0 = 2 from hl) (by decide)
structure St3 (H : Hp) (b l g : Addr) (gl : List Nat) : Prop where
  bag : Bag H b l
  gn : H g = some (.lst (gl.map sgn))
  gb : g ≠ b
  gz : g ≠ l
theorem St3.same (s : St3 H b l g gl) (q : Same H H') : St3 H' b l g gl := ⟨s.bag.same q, q _ _ s.gn, s.gb, s.gz⟩
theorem St3.new (s : St3 H b l g gl) (n : H p = none) : St3 (upd H p o) b l g gl := s.same (same_upd n)
theorem St3.drawn (s : St3 H b l g gl) (q : But b H H') (B : Bag H' b l) : St3 H' b l g gl := ⟨B, q _ _ s.gb s.gn, s.gb, s.gz⟩
/-- a value that is no text, by the heap -/
def NS (H : Hp) (v : V) : Prop := v = .non ∨ (∃ i, v = .int i) ∨ (∃ c, v = .bl c) ∨ (∃ p xs, v = .ref p ∧ H p = some (.lst xs)) ∨ ∃ p xs, v = .ref p ∧ H p = some (.tup xs)
theorem NS.same {H H' : Hp} {v : V} (n : NS H v) (q : Same H H') : NS H' v := by
  rcases n with e | e | e | ⟨p, xs, e, h⟩ | ⟨p, xs, e, h⟩
  · exact .inl e
  · exact .inr (.inl e)
  · exact .inr (.inr (.inl e))
  · exact .inr (.inr (.inr (.inl ⟨p, xs, e, q _ _ h⟩)))
  · exact .inr (.inr (.inr (.inr ⟨p, xs, e, q _ _ h⟩)))
theorem NS.not {K : PySem.W.Frag} {H : Hp} {v : V} (n : NS H v) : isStr v = false ∧ NotS K H v := by
  rcases n with rfl | ⟨i, rfl⟩ | ⟨c, rfl⟩ | ⟨p, xs, rfl, h⟩ | ⟨p, xs, rfl, h⟩
  · exact ⟨rfl, "NoneType", .base .non, by decide +kernel⟩
  · exact ⟨rfl, "int", .base (.int i), by decide +kernel⟩
  · exact ⟨rfl, "bool", .base (.bl c), by decide +kernel⟩
  · exact ⟨rfl, "list", .base (.lst h), by decide +kernel⟩
  · exact ⟨rfl, "tuple", .base (.tup h), by decide +kernel⟩
theorem NS.b {H : Hp} {v : V} (n : NS H v) (fs : Str) : bString v fs = false ∧ bRoom v fs = false ∧ bCut v fs = false := by
  have e := (n.not (K := default)).1
  refine ⟨?_, ?_, ?_⟩
  · unfold bString
    rw [e]
    rfl
  · unfold bRoom bString
    rw [e]
    rfl
  · unfold bCut
    rw [e]
    rfl
theorem mem_all {l fs : List Nat} (h : ∀ c ∈ l, c ∈ fs) : (l.all fun c => decide (c ∈ fs)) = true := by
  rw [List.all_eq_true]
  intro c hc
  exact decide_eq_true (h c hc)
theorem not_all {l fs : List Nat} {c : Nat} (hc : c ∈ l) (h : c ∉ fs) : (l.all fun c => decide (c ∈ fs)) = false := by
  rw [List.all_eq_false]
  exact ⟨c, hc, by rw [decide_eq_false h]; exact Bool.false_ne_true⟩
theorem bString_yes {l fs : List Nat} (h : ∀ c ∈ l, c ∈ fs) : bString (.str (S l)) (S fs) = true := mem_all h
theorem bString_no {l fs : List Nat} {c : Nat} (hc : c ∈ l) (h : c ∉ fs) : bString (.str (S l)) (S fs) = false := not_all hc h
theorem bRoom_no {l fs : List Nat} {c : Nat} (hc : c ∈ l) (h : c ∉ fs) : bRoom (.str (S l)) (S fs) = false := by
  unfold bRoom
  rw [bString_no hc h]
  rfl
theorem bRoom_len {l fs : List Nat} (h : l.length ≠ 4) : bRoom (.str (S l)) (S fs) = false := by
  unfold bRoom
  rw [show decide ((strOf (.str (S l))).cps.size = 4) = false from decide_eq_false h, Bool.and_false]
theorem bRoom_is {l fs : List Nat} (h : ∀ c ∈ l, c ∈ fs) : bRoom (.str (S l)) (S fs) = decide (l.length = 4) := by
  unfold bRoom
  rw [bString_yes h]
  rfl
theorem bCut_S (l fs : List Nat) : bCut (.str (S l)) (S fs) = (decide (l.length = 3) && decide (l.getD 0 0 ∈ [124, 45]) && (l.drop 1).all fun c => decide (c ∈ fs)) := rfl
theorem bCut_yes {g x y : Nat} {fs : List Nat} (hg : g = 124 ∨ g = 45) (hx : x ∈ fs) (hy : y ∈ fs) : bCut (.str (S3 g x y)) (S fs) = true := by
  show bCut (.str (S [g, x, y])) (S fs) = true
  rw [bCut_S, show ([g, x, y].drop 1) = [x, y] from rfl, mem_all (by
    intro c hc
    rcases List.mem_cons.mp hc with e | e
    · rw [e]
      exact hx
    · rw [List.mem_singleton.mp e]
      exact hy)]
  rcases hg with rfl | rfl <;> rfl
theorem bCut_len {l fs : List Nat} (h : l.length ≠ 3) : bCut (.str (S l)) (S fs) = false := by
  rw [bCut_S, decide_eq_false h]
  rfl
theorem bCut_sign {g x y : Nat} {fs : List Nat} (h1 : g ≠ 124) (h2 : g ≠ 45) : bCut (.str (S [g, x, y])) (S fs) = false := by
  rw [bCut_S, show decide (([g, x, y] : List Nat).getD 0 0 ∈ [124, 45]) = false from decide_eq_false (by
    intro q
    rcases List.mem_cons.mp q with e | e
    · exact h1 e
    · exact h2 (List.mem_singleton.mp e)), Bool.and_false]
  rfl
theorem bCut_face {g x y c : Nat} {fs : List Nat} (hc : c = x ∨ c = y) (h : c ∉ fs) : bCut (.str (S [g, x, y])) (S fs) = false := by
  rw [bCut_S, show ([g, x, y].drop 1) = [x, y] from rfl, not_all (c := c) (by
    rcases hc with rfl | rfl
    · exact List.mem_cons_self
    · exact List.mem_cons_of_mem _ List.mem_cons_self) h, Bool.and_false]
/-- the letters that are none of few letters -/
theorem gone_pos : ∀ (L fs : List Nat), L.Nodup → L.length ≤ (L.filter fun c => !decide (c ∈ fs)).length + fs.length
  | L, [], _ => by
    rw [List.filter_eq_self.mpr (fun c _ => by simp)]
    exact Nat.le_add_right _ _
  | L, f :: fs, nd => by
    have ih := gone_pos L fs nd
    have h : (L.filter fun c => !decide (c ∈ fs)).length ≤ (L.filter fun c => !decide (c ∈ f :: fs)).length + 1 := by
      have e : (L.filter fun c => !decide (c ∈ f :: fs)) = (L.filter fun c => !decide (c ∈ fs)).filter fun c => !decide (c = f) := by
        rw [List.filter_filter]
        refine List.filter_congr fun c _ => ?_
        by_cases h1 : c = f
        · subst h1
          simp
        · by_cases h2 : c ∈ fs <;> simp [h1, h2]
      rw [e]
      have nd2 : (L.filter fun c => !decide (c ∈ fs)).Nodup := nd.filter _
      generalize (L.filter fun c => !decide (c ∈ fs)) = M at nd2
      clear e ih
      induction M with
      | nil => exact Nat.zero_le _
      | cons m M ihM =>
        have nd3 := List.nodup_cons.mp nd2
        rw [List.filter_cons]
        by_cases hm : m = f
        · subst hm
          have e2 : (M.filter fun c => !decide (c = m)) = M := List.filter_eq_self.mpr fun c hc => by
            have : c ≠ m := fun q => nd3.1 (q ▸ hc)
            simp [this]
          rw [if_neg (by simp), e2, List.length_cons]
          exact Nat.le_refl _
        · rw [if_pos (by simp [hm]), List.length_cons, List.length_cons]
          have := ihM nd3.2
          omega
    rw [List.length_cons]
    omega
theorem lower_nd : lower.Nodup := by decide +kernel
theorem low_range {c : Nat} (h : c ∈ lower) : 97 ≤ c ∧ c ≤ 122 := by
  have : ∀ c ∈ lower, 97 ≤ c ∧ c ≤ 122 := by decide +kernel
  exact this c h
/-- lists of truth values as data -/
theorem dp_bls {K : PySem.W.Frag} {H : Hp} : ∀ bs : List Bool, DpAll K H (bs.map V.bl) (bs.map PyData.bool)
  | [] => .nil
  | b :: bs => .cons (.bl b) (dp_bls bs)
theorem deep_bls {bs : List Bool} (h : bs.length ≤ 1000) : Deep 3 (.list (bs.map PyData.bool)) := by
  unfold Deep
  refine ⟨by rw [List.length_map]; exact h, fun d hd => ?_⟩
  obtain ⟨c, _, rfl⟩ := List.mem_map.mp hd
  unfold Deep
  trivial
theorem dp_strs {K : PySem.W.Frag} {H : Hp} : ∀ zs : List Str, DpAll K H (zs.map V.str) (zs.map PyData.str)
  | [] => .nil
  | b :: bs => .cons (.str b) (dp_strs bs)
theorem deep_list {n : Nat} {ds : List PyData} (h : ds.length ≤ 1000) (q : ∀ d ∈ ds, Deep n d) : Deep (n + 1) (.list ds) := by
  unfold Deep
  exact ⟨h, q⟩
theorem deep_strs {n : Nat} {zs : List Str} (h : zs.length ≤ 1000) : Deep (n + 1) (.list (zs.map PyData.str)) := by
  unfold Deep
  refine ⟨by rw [List.length_map]; exact h, fun d hd => ?_⟩
  obtain ⟨c, _, rfl⟩ := List.mem_map.mp hd
  unfold Deep
  trivial
theorem parts_len {n e s w g x y : Nat} : (partsC n e s w g x y).length = 2 := by
  unfold partsC
  split <;> rfl
theorem same_bls {H : Hp} {p p' : Addr} {bs : List Bool} {Q : VK} {E : XK} (h : H p = some (.lst (bs.map V.bl))) (h' : H p' = some (.lst (bs.map V.bl))) (hl : bs.length ≤ 1000) (q : ∀ H', Same H H' → Q (.bl true) H') : sp__law_same K 3 [.ref p, .ref p'] H Q E :=
  ⟨_, _, .list (bs.map PyData.bool), rfl, .lst (SqL.of h) (dp_bls bs), .lst (SqL.of h') (dp_bls bs), deep_bls hl, q⟩
end
end FW
namespace L2
open PySem PySem.Spec PySem.Calls PyProof.Rows
section
variable {X : Cx}
/-! ### a text backwards -/
def tRevS (te : TE) : TE := fun σ H Q => te σ H fun x H1 => ∃ z : Str, x = .str z ∧ z.length ≤ sizeLine ∧ Q (.str ⟨z.cps.toList.reverse.toArray⟩) H1
theorem rev_pick (z : Str) : (Builtin.Str.strSliceIndices none none (-1) z.length).filterMap (z.cps[·]?) = z.cps.toList.reverse := by
  have e : Builtin.Str.strSliceIndices none none (-1) z.length = (List.range z.cps.size).reverse := by
    unfold Builtin.Str.strSliceIndices
    show sliceRange ((z.cps.size : Int) - 1) (-1) (-1) = _
    rw [PySem.W.krv_sliceRange, PySem.W.krv_range]
  rw [e, List.filterMap_reverse]
  have h := PySem.W.krv_all z.cps
  rw [h]
theorem pe_revS {e : Expr} {te : TE} {k : Nat} {p1 p2 p3 pos : Pos} (he : PE X e te) : PE X (.Subscript e (.Slice none none (some (.UnaryOp .USub (.Constant (.int 1) k p1) p2)) p3) pos) (tRevS te) := by
  refine ⟨fun pins s σ H Q I h => ?_⟩
  refine Subscript_ (thn (he.run pins s σ H _ I h) fun v s1 ⟨x, H1, I1, r1, q1⟩ => ?_)
  obtain ⟨z, ex, hz, q⟩ := q1
  subst ex
  obtain ⟨t, rfl⟩ := r1
  have hst : PO X (some (.UnaryOp .USub (.Constant (.int 1) k p1) p2)) (tPart (tUn (rU fun i => .int (-i)) (tC (.int 1)))) := po_some (pe_un un_neg pe_int)
  refine wpAny_Slice (thn (po_none.run pins s1 σ H1 (fun o H2 => o = none ∧ H2 = H1) I1 ⟨rfl, rfl⟩) fun vl s2 ⟨l, H2, I2, pl, el, e2⟩ => ?_)
  subst el e2
  refine thn (po_none.run pins s2 σ H2 (fun o H3 => o = none ∧ H3 = H2) I2 ⟨rfl, rfl⟩) fun vu s3 ⟨u, H3, I3, pu, eu, e3⟩ => ?_
  subst eu e3
  refine thn (hst.run pins s3 σ H3 (fun o H4 => o = some (-1) ∧ H4 = H3) I3 ⟨1, rfl, -1, rfl, rfl, rfl⟩) fun vs s4 ⟨o, H4, I4, ps, eo, e4⟩ => ?_
  subst eo e4
  obtain ⟨lo, rfl, el⟩ := IsPart.raw pl
  obtain ⟨up, rfl, eu⟩ := IsPart.raw pu
  obtain ⟨st, rfl, es⟩ := IsPart.raw ps
  have I5 : Inv X pins σ H4 { s4 with heap := s4.heap.push { cls := .type "slice", data := .fields #[partValue lo, partValue up, partValue st] } } := I4.kept (t' := s4.toks) fun b ob q => Heap.get?_push_of_some _ q
  show wpAny (model X.prog X.w) X.A (subscriptTail e (.Slice none none (some (.UnaryOp .USub (.Constant (.int 1) k p1) p2)) p3) (.str z t) (.ref s4.heap.objs.size)) (EP X pins σ Q) X.xe { s4 with heap := s4.heap.push { cls := .type "slice", data := .fields #[partValue lo, partValue up, partValue st] } }
  refine tail_any (ops := [.str z t, .ref s4.heap.objs.size]) (typeIs_str _ z t) (PySem.F.slot_str_getitem.lookup) ?_ (by with_unfolding_all rfl)
  refine wpAny_getItem_str_slice (l := lo) (u := up) (st := st) ⟨_, Heap.get?_push_size _ rfl, rfl, rfl⟩ (by rw [es]; rfl) ?_
  have hl : z.cps.toList.reverse.length ≤ sizeLine := by
    rw [List.length_reverse, Array.length_toList]
    exact hz
  have em : PySem.sliceMade z t lo up st = Made.str ⟨z.cps.toList.reverse.toArray⟩ := by
    unfold PySem.sliceMade PySem.slicePicked
    rw [el, eu, es]
    show (if (((-1 : Int) == 1) && _) = true then _ else Made.str ⟨((Builtin.Str.strSliceIndices none none (-1) z.length).filterMap (z.cps[·]?)).toArray⟩) = _
    rw [rev_pick]
    rfl
  rw [em]
  exact ⟨by show z.cps.toList.reverse.toArray.size ≤ sizeLine; rw [List.size_toArray]; exact hl, .str _, H4, I5.tok _, ⟨_, rfl⟩, q⟩
end
end L2
namespace FW
open PySem PySem.Spec PyProof.Rows L2
section
variable {P : Program} {w : World} {K : PySem.W.Frag} {mg : Str → Option Value} {base : Heap}
/-! ### ascending choices of letters -/
def ascB : List Nat → Bool
  | [] => true
  | [_] => true
  | a :: b :: r => decide (a < b) && ascB (b :: r)
theorem asc_next : ∀ (l : List Nat) (i : Nat) (h : i + 1 < l.length), ascB (l.take (i + 1 + 1)) = (ascB (l.take (i + 1)) && decide (l[i] < l[i + 1]))
  | [], _, h => absurd h (Nat.not_lt_zero _)
  | [_], i, h => absurd h (by simp)
  | a :: b :: r, 0, h => by
    show (decide (a < b) && ascB [b]) = (true && decide (a < b))
    show (decide (a < b) && true) = (true && decide (a < b))
    rw [Bool.and_true, Bool.true_and]
  | a :: b :: r, i + 1, h => by
    have ih := asc_next (b :: r) i (by simpa using h)
    show (decide (a < b) && ascB ((b :: r).take (i + 1 + 1))) = ((decide (a < b) && ascB ((b :: r).take (i + 1))) && _)
    rw [ih, Bool.and_assoc]
    rfl
theorem asc_sorted : ∀ {l : List Nat}, l.Pairwise (· < ·) → ascB l = true
  | [], _ => rfl
  | [_], _ => rfl
  | a :: b :: r, h => by
    have h1 := List.pairwise_cons.mp h
    show (decide (a < b) && ascB (b :: r)) = true
    rw [decide_eq_true (h1.1 b List.mem_cons_self), asc_sorted h1.2]
    rfl
theorem lt_sgn (x y : Nat) : decide (([x] : List Nat) < [y]) = decide (x < y) := by
  by_cases h : x < y
  · rw [decide_eq_true h]
    exact decide_eq_true (List.Lex.rel h)
  · rw [decide_eq_false h]
    refine decide_eq_false fun q => h ?_
    cases q with
    | rel r => exact r
    | cons r => cases r
def bChoice (v : V) (L : List Nat) (m : Int) : Bool := isStr v && (decide ((1 : Int) ≤ ((strOf v).cps.size : Int)) && decide (((strOf v).cps.size : Int) ≤ m)) && ((strOf v).cps.toList.all fun c => decide (c ∈ L)) && ascB (strOf v).cps.toList
theorem bChoice_1 {z : Str} {L : List Nat} {m : Int} (h : decide ((1 : Int) ≤ (z.length : Int)) = false) : bChoice (.str z) L m = false := by
  unfold bChoice
  rw [show decide ((1 : Int) ≤ ((strOf (V.str z)).cps.size : Int)) = false from h, Bool.false_and, Bool.and_false, Bool.false_and, Bool.false_and]
theorem bChoice_2 {z : Str} {L : List Nat} {m : Int} (h : decide ((z.length : Int) ≤ m) = false) : bChoice (.str z) L m = false := by
  unfold bChoice
  rw [show decide (((strOf (V.str z)).cps.size : Int) ≤ m) = false from h, Bool.and_false, Bool.and_false, Bool.false_and, Bool.false_and]
theorem bChoice_3 {z : Str} {L : List Nat} {m : Int} (h : decide ((1 : Int) ≤ (z.length : Int)) = true) (h2 : decide ((z.length : Int) ≤ m) = true) : bChoice (.str z) L m = (bString (.str z) (S L) && ascB z.cps.toList) := by
  unfold bChoice
  rw [show decide ((1 : Int) ≤ ((strOf (V.str z)).cps.size : Int)) = true from h, show decide (((strOf (V.str z)).cps.size : Int) ≤ m) = true from h2]
  rfl
/-- a value that may be asked: a text that is not too long, or another thing of known kind -/
def Askd (K : PySem.W.Frag) (H : Hp) (v : V) : Prop := (isStr v = true ∧ (strOf v).cps.size ≤ 100000) ∨ (isStr v = false ∧ NotS K H v)
def upper : List Nat := ("ABCDEFGHIJKLMNOPQRSTUVWXYZ" : Str).cps.toList
abbrev bFaces (v : V) : Bool := bChoice v lower 6
abbrev bCutters (v : V) : Bool := bChoice v upper 4
def bAddress (v : V) : Bool := bString v (S [48, 49])
def sp_is_ascending (K : PySem.W.Frag) : Sp := fun vs H Q _ => ∃ l : List Nat, vs = [.str (S l)] ∧ l.length ≤ 100000 ∧ ∀ H', Same H H' → Q (.bl (ascB l)) H'
def sp_is_choice (K : PySem.W.Frag) : Sp := fun vs H Q _ => ∃ (v : V) (L : List Nat) (m : Int), vs = [v, .str (S L), .int m] ∧ Askd K H v ∧ ∀ H', Same H H' → Q (.bl (bChoice v L m)) H'
def sp_is_faces (K : PySem.W.Frag) : Sp := fun vs H Q _ => ∃ v : V, vs = [v] ∧ Askd K H v ∧ ∀ H', Same H H' → Q (.bl (bFaces v)) H'
def sp_is_cutters (K : PySem.W.Frag) : Sp := fun vs H Q _ => ∃ v : V, vs = [v] ∧ Askd K H v ∧ ∀ H', Same H H' → Q (.bl (bCutters v)) H'
def sp_is_address (K : PySem.W.Frag) : Sp := fun vs H Q _ => ∃ v : V, vs = [v] ∧ Askd K H v ∧ ∀ H', Same H H' → Q (.bl (bAddress v)) H'
/-- numbers -/
def bNumber (v : V) (lo hi : Int) : Bool := match v with
  | .int i => decide (lo ≤ i) && decide (i ≤ hi)
  | _ => false
def isNum : V → Bool
  | .int _ => true
  | .bl _ => true
  | _ => false
def NotI (K : PySem.W.Frag) (H : Hp) (v : V) : Prop := ∃ T : String, TyX K H v (.type T) ∧ kitB T "int" = some false
def sp_is_number (K : PySem.W.Frag) : Sp := fun vs H Q _ => ∃ (v : V) (lo hi : Int), vs = [v, .int lo, .int hi] ∧ (isNum v = true ∨ (isNum v = false ∧ NotI K H v)) ∧ Q (.bl (bNumber v lo hi)) H
def sp__law_rising (K : PySem.W.Frag) : Sp := fun vs H Q _ => ∃ (l L : List Nat) (m : Int), vs = [.str (S l), .str (S L), .int m] ∧ l.length ≤ 100000 ∧ ∀ H', Same H H' → Q (.bl (bChoice (.str (S l)) L m)) H'
/-- one keyword; three keywords backwards -/
def one1 {α : Type} : List α → List α → List α
  | [], [a] => [a]
  | _, _ => []
def rev3 {α : Type} : List α → List α → List α
  | [], [a, b, c] => [c, b, a]
  | _, _ => []
theorem one1_vals {vs : List V} {us : List Value} {zs : List V} {ws : List Value} (r : Vals vs us) (q : Vals zs ws) : Vals (one1 vs zs) (one1 us ws) := by
  cases r with
  | cons _ _ => exact .nil
  | nil =>
    cases q with
    | nil => exact .nil
    | cons q1 t =>
      cases t with
      | nil => exact .cons q1 .nil
      | cons _ _ => exact .nil
theorem rev3_vals {vs : List V} {us : List Value} {zs : List V} {ws : List Value} (r : Vals vs us) (q : Vals zs ws) : Vals (rev3 vs zs) (rev3 us ws) := by
  cases r with
  | cons _ _ => exact .nil
  | nil =>
    cases q with
    | nil => exact .nil
    | cons q1 t =>
      cases t with
      | nil => exact .nil
      | cons q2 t =>
        cases t with
        | nil => exact .nil
        | cons q3 t =>
          cases t with
          | nil => exact .cons q3 (.cons q2 (.cons q1 .nil))
          | cons _ _ => exact .nil
theorem kb_one {K : PySem.W.Frag} {x : Str} {st : Stmt} {p1 : Str}
    (h : ∀ (kV doc pm : Value) (an : Option Addr) (cdv ct : Value) (u : Value), bindArgs (PySem.W.fnOf x x (defArgs st) (defBody st) (defScope st) .none kV doc pm an cdv ct) ⟨[], [(p1, u)]⟩ = pure [(p1, u)]) :
    KB K x st [p1] [p1] one1 one1 := by
  intro f fd F
  obtain ⟨oc, od, kV, doc, pm, an, cdv, ct, osl, rfl, lk, hcd⟩ := F.ex
  refine ⟨fun s us ws _ hl => ?_, fun r q => one1_vals r q⟩
  match us, ws, hl with
  | [], [u], _ => exact .of_eq (h kV doc pm an cdv ct u)
  | [], [], hl => exact absurd (show 0 = 1 from hl) (by decide)
  | [], _ :: _ :: _, hl => exact absurd (show 0 = 1 from hl) (by decide)
  | _ :: _, ws, hl => exact absurd (show 0 = 1 from hl) (by decide)
theorem kb_rev3 {K : PySem.W.Frag} {x : Str} {st : Stmt} {p1 p2 p3 : Str}
    (h : ∀ (kV doc pm : Value) (an : Option Addr) (cdv ct : Value) (u v t : Value), bindArgs (PySem.W.fnOf x x (defArgs st) (defBody st) (defScope st) .none kV doc pm an cdv ct) ⟨[], [(p3, u), (p2, v), (p1, t)]⟩ = pure [(p1, t), (p2, v), (p3, u)]) :
    KB K x st [p1, p2, p3] [p3, p2, p1] rev3 rev3 := by
  intro f fd F
  obtain ⟨oc, od, kV, doc, pm, an, cdv, ct, osl, rfl, lk, hcd⟩ := F.ex
  refine ⟨fun s us ws _ hl => ?_, fun r q => rev3_vals r q⟩
  match us, ws, hl with
  | [], [u, v, t], _ => exact .of_eq (h kV doc pm an cdv ct u v t)
  | [], [], hl => exact absurd (show 0 = 3 from hl) (by decide)
  | [], [_], hl => exact absurd (show 0 = 3 from hl) (by decide)
  | [], [_, _], hl => exact absurd (show 0 = 3 from hl) (by decide)
  | [], _ :: _ :: _ :: _ :: _, hl => exact absurd (show 0 = 3 from hl) (by decide)
  | _ :: _, ws, hl => exact absurd (show 0 = 3 from hl) (by decide)
theorem but_fresh {H H1 H' : Hp} {D : Addr} (s : Same H H1) (n : H1 D = none) (b : But D H1 H') : Same H H' := fun c u e => b c u (ne_of_none (s _ _ e) n) (s _ _ e)
end
end FW
namespace FW
open PySem PySem.Spec PyProof.Rows L2
def inCls (c : Stmt) (j : Nat) : Stmt := match c with
  | .ClassDef _ _ _ b _ _ _ _ _ _ _ => b.getD j (.Pass ⟨0, 0, 0, 0⟩)
  | s => s
def bLetter (v : V) (L : List Nat) : Bool := isStr v && decide ((strOf v).cps.size = 1) && decide ((strOf v).cps.toList.getD 0 0 ∈ L)
section
variable {P : Program} {w : World} {K : PySem.W.Frag} {mg : Str → Option Value} {base : Heap}
def sp_is_letter (K : PySem.W.Frag) : Sp := fun vs H Q _ => ∃ (v : V) (L : List Nat), vs = [v, .str (S L)] ∧ Askd K H v ∧ ∀ H', Same H H' → Q (.bl (bLetter v L)) H'
/-- what is told of an error class of the program: its name, its __init__ at fI -/
structure Kls (K : PySem.W.Frag) (mg : Str → Option Value) (C fI : Addr) (z : String) : Prop where
  g : mg (Str.ofString z) = some (.ref C)
  oex : OexC K C
  cle : ClsE K C
  nam : NameC K C (Str.ofString z)
  xf : XfC K C
  ncode : PySem.W.findIn K (.ref C) "code" = some none
  init : PySem.W.findIn K (.ref C) "__init__" = some (some (.ref fI))
  tI : PySem.W.typeIn K (.ref fI) = some (.type "function")
/-- __init__(self, f): self.f = f; self.code = the class's name -/
def sp_init (K : PySem.W.Frag) (f : String) : Sp := fun vs H Q _ => ∃ (a C : Addr) (v : V) (z : Str), vs = [.ref a, v] ∧ H a = some (exo a C none) ∧ OexC K C ∧ ClsE K C ∧ NameC K C z ∧ PySem.W.findIn K (.ref C) (Str.ofString f) = some none ∧ PySem.W.findIn K (.ref C) "code" = some none ∧
  ∀ dx, H dx = none → dx ≠ a → Q .non (upd (upd (upd H dx (exd dx [(Str.ofString f, v)])) a (exo a C (some dx))) dx (exd dx [("code", .str z), (Str.ofString f, v)]))
/-- the dict of an error that bears one value -/
def Err1 (f : String) (z : String) (v : V) : HO := .xd [("code", .str (Str.ofString z)), (Str.ofString f, v)]
theorem err_heap {H : Hp} {a d : Addr} {o1 o2 o3 o4 u : HO} (na : H a = none) (hda : d ≠ a) : upd (del (upd (upd (upd (upd H a o1) d o2) a o3) d o4) a) d u = upd H d u := by
  funext b
  by_cases hb : b = d
  · rw [hb, upd_same, upd_same]
  · rw [upd_ne hb, upd_ne hb]
    by_cases ha : b = a
    · rw [ha, del_same, na]
    · rw [del_ne ha, upd_ne hb, upd_ne ha, upd_ne hb, upd_ne ha]
/-- C(e): the error that its __init__ leaves -/
theorem mk1 {x f : String} {C fI : Addr} {H1 : Hp} {v : V} {Q : XK} {E : XK} (T : Kls K mg C fI x) (nf : PySem.W.findIn K (.ref C) (Str.ofString f) = some none) (h : ∀ d, H1 d = none → Q (.ref C) (some d) (upd H1 d (Err1 f x v))) :
    [v].length ≤ 1000 ∧ ∀ a, H1 a = none → sp_init K f (.ref a :: ([v] ++ [])) (upd H1 a (exo a C none)) (fun v H2 => v = .non ∧ ∃ (d : Addr) (fs : List (Str × V)), H2 a = some (exo a C (some d)) ∧ H2 d = some (exd d fs) ∧ H1 d = none ∧ Q (.ref C) (some d) (upd (del H2 a) d (.xd fs))) E := by
  refine ⟨(show 1 ≤ 1000 by decide), fun a na => ⟨a, C, v, Str.ofString x, rfl, upd_same, T.oex, T.cle, T.nam, nf, T.ncode, fun d hd hda => ⟨rfl, d, _, ?_, upd_same, ?_, ?_⟩⟩⟩
  · rw [upd_ne (Ne.symm hda), upd_same]
  · rwa [upd_ne hda] at hd
  · rw [upd_ne hda] at hd
    rw [err_heap na hda]
    exact h d hd
/-- the promise of a def that checks its first argument -/
def FieldIs (K : PySem.W.Frag) (C : Addr) (fs : List (Str × V)) (z : Str) (v : V) : Prop :=
  if z ∈ (["InvalidLine", "InvalidStep", "InvalidTable", "InvalidBad", "InvalidPlan", "UnknownRoom"] : List Str) then PySem.W.findIn K (.ref C) "at" = some none ∧ fs.lookup (Str.ofString "at") = some v
  else if z ∈ (["TooMany", "Full"] : List Str) then PySem.W.findIn K (.ref C) "most" = some none ∧ fs.lookup (Str.ofString "most") = some v
  else if z ∈ (["InvalidText", "InvalidPage"] : List Str) then PySem.W.findIn K (.ref C) "line" = some none ∧ fs.lookup (Str.ofString "line") = some v
  else if z = "UnknownState" then PySem.W.findIn K (.ref C) "state" = some none ∧ fs.lookup (Str.ofString "state") = some v
  else if z ∈ (["InvalidPaper", "OtherFaces", "OtherCutters", "NothingLeft"] : List Str) then v = .non
  else PySem.W.findIn K (.ref C) "given" = some none ∧ fs.lookup (Str.ofString "given") = some v
/-- a caught error of the program: its class, its dict, its code, what it bears -/
def Caught (K : PySem.W.Frag) (H : Hp) (a : Addr) (z : Str) (v : V) : Prop := ∃ (C dd : Addr) (fs : List (Str × V)), H a = some (ExK (.ref C) (some dd) a) ∧ H dd = some (.xd fs) ∧ XfC K C ∧ PySem.W.findIn K (.ref C) "code" = some none ∧ fs.lookup (Str.ofString "code") = some (.str z) ∧ FieldIs K C fs z v
theorem Caught.same {H H' : Hp} {a : Addr} {z : Str} {v : V} (h : Same H H') : Caught K H a z v → Caught K H' a z v := fun ⟨C, dd, fs, h1, h2, r⟩ => ⟨C, dd, fs, h _ _ h1, h _ _ h2, r⟩
def sp__law_field (K : PySem.W.Frag) : Sp := fun vs H Q _ => ∃ (a : Addr) (z : Str) (v : V), vs = [.ref a] ∧ Caught K H a z v ∧ ∀ H', Same H H' → Q v H'
/-- what _law_try makes of what it asks -/
def TTry (K : PySem.W.Frag) (cs : List Value) : (XK → Hp → VK → Prop) → Hp → VK → Prop := fun tl H Q =>
  tl (fun cls d H1 => PySem.W.exmAny K cls cs = some true ∧ ∀ a, H1 a = none → ∃ (z : Str) (v : V), Caught K (upd H1 a (ExK cls d a)) a z v ∧ ∀ H2, Same (upd H1 a (ExK cls d a)) H2 → ∀ p, H2 p = none → Q (.ref p) (upd H2 p (.tup [.str z, v])))
    H (fun v H1 => [V.str "", v].length ≤ sizeLine ∧ ∀ p, H1 p = none → Q (.ref p) (upd H1 p (.tup [.str "", v])))
end
end FW
namespace FW
open PySem PySem.Spec PyProof.Rows L2
section
variable {X : Cx} {k j : Nat} {x : Str} {st : Stmt} {ps ks : List Str} {sp : Sp} {p pos : Pos} {e : Expr} {es : List Expr} {kws : List Keyword} {t tk : TA} {g : List Value → List Value → List Value} {gV : List V → List V → List V}
/-- a def that may raise, called where it raises nothing -/
theorem pe_cE (c : Cal X.prog X.w X.K X.mg X.base (L2.CX X.prog X.w) k x st ps sp) (hr : Room j X.A) (hk : k ≤ j) (hg : Gl X x) (ha : PA X (e :: es) t)
    (hdb : (x == ("__debug__" : Str)) = false := by decide) (he : starEach (e :: es) X.env = (false, eval e X.env) :: starEach es X.env := by rfl) (hpl : (backTo pos (starEach es X.env)).any (·.1) = false := by rfl) :
    PE X (.Call (.Name x p) (e :: es) [] pos) (tCall sp [] E0 t) := pe_cx c hr hk hg passL ha hdb he hpl
theorem pe_ck0E (c : Cal X.prog X.w X.K X.mg X.base (L2.CX X.prog X.w) k x st ps sp) (b : KB X.K x st ps ks g gV) (hr : Room j X.A) (hk : k ≤ j) (hg : Gl X x) (hkw : PK X kws tk)
    (hall : (backToKw pos (keywordEach kws X.env)).all (·.1.isSome) = true := by rfl) (hks : (backToKw pos (keywordEach kws X.env)).filterMap (·.1) = ks := by rfl)
    (hdb : (x == ("__debug__" : Str)) = false := by decide)
    (hpl : ((backTo pos (starEach [] X.env)).any (·.1) || (backToKw pos (keywordEach kws X.env)).any (·.1.isNone)) = false := by rfl) :
    PE X (.Call (.Name x p) [] kws pos) (tCallK sp gV E0 tNil tk) := by
  obtain ⟨f, fd, F, hm, fn, _⟩ := c.ex
  exact pe_callK0 F (hr.mono hk) hg hm fn.kp (b f fd fn) passL hkw hall hks hdb hpl
end
/-! ### what stands when only tables grow -/
section
variable {K : PySem.W.Frag} {H H' : Hp}
theorem ext_seq {a : Addr} {xs : List V} (e : LamX.ExtN H H') (h : SqL K H a xs) : SqL K H' a xs := by
  rcases h with (h | ⟨o, h⟩) | h
  · exact .inl (.inl (e _ _ h (fun _ z => by cases z)))
  · exact .inl (.inr ⟨o, e _ _ h (fun _ z => by cases z)⟩)
  · exact .inr h
theorem ext_tup {a : Addr} {xs : List V} (e : LamX.ExtN H H') (h : SqT K H a xs) : SqT K H' a xs := by
  rcases h with (h | ⟨o, h⟩) | h
  · exact .inl (.inl (e _ _ h (fun _ z => by cases z)))
  · exact .inl (.inr ⟨o, e _ _ h (fun _ z => by cases z)⟩)
  · exact .inr h
theorem dp_ext (e : LamX.ExtN H H') {v : V} {d : PyData} (h : Dp K H v d) : Dp K H' v d :=
  @Dp.rec K H (fun v d _ => Dp K H' v d) (fun vs ds _ => DpAll K H' vs ds) .non (fun b => .bl b) (fun i => .int i) (fun x => .str x) (fun h _ ih => .lst (ext_seq e h) ih) (fun h _ ih => .tup (ext_tup e h) ih) .nil (fun _ _ i1 i2 => .cons i1 i2) v d h
theorem ns_ext (e : LamX.ExtN H H') {v : V} (n : NS H v) : NS H' v := by
  rcases n with n | n | n | ⟨p, xs, z, h⟩ | ⟨p, xs, z, h⟩
  · exact .inl n
  · exact .inr (.inl n)
  · exact .inr (.inr (.inl n))
  · exact .inr (.inr (.inr (.inl ⟨p, xs, z, e _ _ h (fun _ q => by cases q)⟩)))
  · exact .inr (.inr (.inr (.inr ⟨p, xs, z, e _ _ h (fun _ q => by cases q)⟩)))
end
end FW
namespace FW
open PySem PySem.Spec PyProof.Rows L2
/-! ### a walk over a list or a tuple -/
def iSeq (K : PySem.W.Frag) (tl : TE) : TI := fun σ H R => tl σ H fun x H1 => ∃ a, x = .ref a ∧ (((∃ xs, SqL K H1 a xs) ∧ R (Itl K a) H1) ∨ ((∃ xs, SqT K H1 a xs) ∧ R (Itt K a) H1))
theorem pi_seq {X : Cx} {tg l : Expr} {tl : TE} (hl : PE X l tl) : PI X tg l (iSeq X.K tl) := by
  refine ⟨fun pins s σ H R I h => thn (hl.run pins s σ H _ I h) ?_⟩
  rintro v s1 ⟨x, H1, I1, r1, a, e, q1⟩
  subst e
  obtain rfl : v = Value.ref a := r1
  have fp : ∀ b ∈ [s1.heap.objs.size], FpOk X pins H1 b := fun b hb => by
    rw [List.mem_singleton.mp hb]
    exact I1.fpOk (Nat.le_refl _) (I1.hok.fresh (Nat.le_refl _))
  rcases q1 with ⟨⟨xs, hq⟩, q⟩ | ⟨⟨xs, hq⟩, q⟩
  · obtain ⟨its, rv, p, hz⟩ := I1.list hq
    exact wpAny_pyIter_list p.isList ⟨s1.heap.objs.size, [s1.heap.objs.size], _, _, H1, rfl, I1.kept (t' := s1.toks) fun b o e => Heap.get?_push_of_some _ e, turn_list a _,
      ⟨_, Heap.get?_push_size _ rfl, rfl, rfl⟩, fp, q⟩
  · obtain ⟨its, rv, p, hz⟩ := I1.tuple hq
    exact wpAny_pyIter_tuple (show s1.heap.IsTuple a its.toArray from p) ⟨s1.heap.objs.size, [s1.heap.objs.size], _, _, H1, rfl, I1.kept (t' := s1.toks) fun b o e => Heap.get?_push_of_some _ e, turn_tuple a _,
      ⟨_, Heap.get?_push_size _ rfl, rfl, rfl⟩, fp, q⟩
end FW
namespace FW
open PySem PySem.Spec PyProof.Rows L2
/-! ### enumerate(x): a list, a tuple or a text -/
theorem meets_enum1 {v : Value} {o : Obj} {B0 : Heap → Prop} (B : Begins v o B0) :
    Meets (Builtin.«enumerate.__new__» ⟨[.type "enumerate", v], []⟩) (fun _ R s => B0 s.heap ∧
      R (.ok (.ret (.ref (s.heap.push o).objs.size))) { s with heap := (s.heap.push o).push { cls := .type "enumerate", data := .fields #[.none, .bool false, .ref s.heap.objs.size, rawInt 0, .none, .none] } }) :=
  .of_wp fun prog w A R s hh => by
    obtain ⟨hp, gg, dd, tk, os⟩ := s
    obtain ⟨hb, hr⟩ := hh
    have hsub := sub_enumerate
    have go : ∀ {A' : Around} {E : Value → Shared → Prop} {Q : Value → Shared → Prop}, Q (.ref hp.objs.size) ⟨hp.push o, gg, dd, tk, os⟩ → wpAny (model prog w) A' (pyIter v) Q E ⟨hp, gg, dd, tk, os⟩ := fun q => B.iter prog w _ _ ⟨hp, gg, dd, tk, os⟩ _ hb q
    wp_walk using go
    refine wpAny_stack_any fun st => wpAny_pure ?_
    split
    · rename_i c _ _ _ _ _
      cases (c == Value.type "enumerate")
      · wp_walk using go
        exact ⟨_, rfl, hr⟩
      · wp_walk using go
        exact ⟨_, rfl, hr⟩
    · wp_walk using go
      exact ⟨_, rfl, hr⟩
section
variable {prog : Program} {w : World} {A : Around} {E : Value → Shared → Prop} {s : Shared}
theorem enum_begin1 {v : Value} {o : Obj} {B0 : Heap → Prop} {Q : Value → Shared → Prop} (B : Begins v o B0) (hb : B0 s.heap)
    (h : ∀ h', IsEnum h' (s.heap.objs.size + 1) s.heap.objs.size 0 .none → h'.get? s.heap.objs.size = some o → (∀ b u, s.heap.get? b = some u → h'.get? b = some u) → Q (.ref (s.heap.objs.size + 1)) { s with heap := h' }) :
    wpAny (model prog w) A (call (.type "enumerate") [v]) Q E s := by
  refine callType_new F.called_enumerate (by decide) (F.typeCall_enumerate_1 _) (F.newCall_enumerate_1 _) (fun obj => F.args_object_init_2 obj _)
    F.entry_enumerate_new (meets_enum1 B) ⟨hb, ?_⟩
  have sz1 : (s.heap.push o).objs.size = s.heap.objs.size + 1 := Heap.size_push ..
  show _ ∧ _
  rw [sz1]
  have en : IsEnum ((s.heap.push o).push { cls := .type "enumerate", data := .fields #[.none, .bool false, .ref s.heap.objs.size, rawInt 0, .none, .none] }) (s.heap.objs.size + 1) s.heap.objs.size 0 .none := by
    have z := Heap.get?_push_size (s.heap.push o) (o := { cls := .type "enumerate", data := .fields #[.none, .bool false, .ref s.heap.objs.size, rawInt 0, .none, .none] }) rfl
    rwa [sz1] at z
  exact ⟨⟨_, en, rfl⟩, h _ en (Heap.get?_push_of_some _ (Heap.get?_push_size _ B.free)) fun b u x => Heap.get?_push_of_some _ (Heap.get?_push_of_some _ x)⟩
end
def IteG (K : PySem.W.Frag) (k : SK) : It :=
  ⟨fun i H => ∃ (xs : List V) (x : V), k.src K H xs ∧ xs[i]? = some x, fun i H v H' => ∃ T x, v = .ref T ∧ H T = none ∧ H' = upd H T (.tup [.int (i : Nat), x]) ∧ ∀ xs, k.src K H xs → xs[i]? = some x, fun i H => ∃ xs : List V, k.src K H xs ∧ i = xs.length⟩
theorem turn_enumG {P : Program} {w : World} {K : PySem.W.Frag} {elts : List Expr} {kk : Nat} {tpos : Pos} {e it : Addr} {k : SK} (hne : e ≠ it) (ha : ∀ c, k.at c → c ≠ e ∧ c ≠ it) :
    Turn P w K (.Tuple elts kk tpos) (IteG K k) [e, it] e (fun i h => (∃ old, IsEnum h e it ((i : Nat) : Int) old) ∧ k.iter it i h) where
  mem := List.mem_cons_self
  obj := fun i h st b hb => by
    obtain ⟨⟨old, he⟩, hi⟩ := st
    have e' : b = e ∨ b = it := by simpa using hb
    rcases e' with z | z
    · rw [z]
      exact ⟨_, he, fun v q => nomatch q⟩
    · rw [z]
      exact SK.iter_obj hi
  keep := fun i h h' st k => by
    obtain ⟨⟨old, he⟩, hi⟩ := st
    exact ⟨⟨old, k e (by simp) _ he⟩, SK.iter_keep hi fun o q => k it (by simp) o q⟩
  item := by
    intro X hP hw hK hc i pins s σ H E I hf st hg
    subst hP hw hK
    obtain ⟨⟨old, he⟩, hi⟩ := st
    obtain ⟨xs, x, hq, hx⟩ := hg
    obtain ⟨fp, Pp, Sp, D, g1, b1, r1, m1, f1⟩ := SK.draws I hc hq fun c q => (ha c q).2
    have lx : i < xs.length := (List.getElem?_eq_some_iff.mp hx).1
    have hel : e < s.heap.objs.size := Heap.lt_size he
    have hil : it < s.heap.objs.size := by
      obtain ⟨_, q, _⟩ := SK.iter_obj hi
      exact Heap.lt_size q
    have hef : e ∉ fp := fun q => by
      rcases f1 e q with z | z
      · exact hne z
      · exact (ha e z).1 rfl
    refine wpAny_pyNext_enum_itemD D he (g1 i hi) lx hne hef fun u h' tk p ho hs hT hsz hk => ?_
    obtain ⟨v1, e1, ru⟩ := r1 i u p
    obtain rfl : v1 = x := Option.some.inj (e1.symm.trans hx)
    refine ⟨_, rfl, wpAny_letOwnedTupleGo_enum (s := { s with heap := h', toks := tk + 1 }) ho fun h'' he' sb => ?_⟩
    have hT2 : h''.get? s.heap.objs.size = some { cls := .type "tuple", data := .seq #[.int i tk, u] } := (sb.2 _ (Nat.ne_of_gt hel)).trans hT
    have new : ObjOk X.prog X.w (upd H s.heap.objs.size (.tup [.int (i : Nat), v1])) h'' s.heap.objs.size (.tup [.int (i : Nat), v1]) :=
      ⟨(show 2 ≤ sizeLine by decide), [.int i tk, u], .cons ⟨_, rfl⟩ (.cons ru .nil), ⟨_, hT2, rfl, _, rfl⟩⟩
    have I1 : Inv X pins σ (upd H s.heap.objs.size (.tup [.int (i : Nat), v1])) { s with heap := h'', toks := tk + 1 } :=
      I.turnedNew (ch := [e, it]) (fun b ob hb q => (sb.2 b (fun z => hb (by simp [z]))).trans (hk b ob (fun z => hb (by simp [z])) (fun z => hb (by simp [z])) q)) hf (Nat.le_refl _) new
    refine ⟨.ref s.heap.objs.size, _, I1, rfl, ⟨_, v1, rfl, I.hok.fresh (Nat.le_refl _), rfl, fun ys hy => by rw [SK.inj I hy hq]; exact hx⟩, ⟨⟨u, ?_⟩, SK.iter_keep (b1 _ _ hs) fun o q => (sb.2 it (Ne.symm hne)).trans q⟩, fun b hb => ?_⟩
    · rw [show ((i + 1 : Nat) : Int) = (i : Int) + 1 by omega]
      exact he'
    · have e' : b = e ∨ b = it := by simpa using hb
      have hb' : b < s.heap.objs.size := by
        rcases e' with z | z
        · rw [z]
          exact hel
        · rw [z]
          exact hil
      rw [upd_ne (Nat.ne_of_lt hb')]
      exact (hf b hb).1
  done := by
    intro X hP hw hK hc i pins s σ H E I hf st hg
    subst hP hw hK
    obtain ⟨⟨old, he⟩, hi⟩ := st
    obtain ⟨xs, hq, rfl⟩ := hg
    obtain ⟨fp, Pp, Sp, D, g1, b1, r1, m1, f1⟩ := SK.draws I hc hq fun c q => (ha c q).2
    obtain ⟨f0, f1', f2, f3, f4, f5⟩ := hf it (by simp)
    exact wpAny_pyNext_enum_endD D he (g1 _ hi) fun h' eb => ⟨rfl, I.turned (t' := s.toks) (fun b o hb q => eb b o hb q) f0 f1' f3 f4 f5⟩
  self := fun A i s Q E st h => by
    obtain ⟨⟨old, he⟩, _⟩ := st
    exact wpAny_pyIter_enum he h
def iEnumG (K : PySem.W.Frag) (ta : TA) : TI := fun σ H R => ta σ H fun vs H1 => ∃ (x : V) (xs : List V), vs = [x] ∧ Src K H1 x xs ∧ ∀ k : SK, k.val = x → k.src K H1 xs → R (IteG K k) H1
theorem pi_enumG {X : Cx} {e : Expr} {ta : TA} {p pos tpos : Pos} {elts : List Expr} {kk : Nat} (hg : Gl X "enumerate") (hm : X.mg "enumerate" = none) (ha : PA X [e] ta) (hs : starEach [e] X.env = [(false, eval e X.env)] := by rfl) :
    PI X (.Tuple elts kk tpos) (.Call (.Name "enumerate" p) [e] [] pos) (iEnumG X.K ta) := by
  refine ⟨fun pins s σ H R I h => ?_⟩
  refine Call_ (ld_blt I hg hm boot_enumerate (PyProof.Rows.callWith_type1 (thn (ha.run pos pins s σ H _ I h) ?_) hs rfl))
  rintro us s1 ⟨vs, H1, I1, r1, x, xs, ex, sx, q⟩
  subst ex
  cases r1 with
  | cons r rr =>
    cases rr
    obtain ⟨k, ev, _, src, lt, B0, b0, hb0⟩ := sx.kind I1 r
    refine enum_begin1 b0 hb0 fun h' he hi hk => wpAny_pyIter_enum he ?_
    have I2 : Inv X pins σ H1 { s1 with heap := h' } := I1.kept (t' := s1.toks) hk
    refine ⟨s1.heap.objs.size + 1, [s1.heap.objs.size + 1, s1.heap.objs.size], _, _, H1, rfl, I2, turn_enumG (k := k) (Nat.succ_ne_self _) (fun c hc => ?_), ⟨⟨.none, he⟩, SK.begun hi⟩, fun b hb => ?_, q k ev src⟩
    · have hlt := lt c hc
      exact ⟨Nat.ne_of_lt (Nat.lt_succ_of_lt hlt), Nat.ne_of_lt hlt⟩
    · have e' : b = s1.heap.objs.size + 1 ∨ b = s1.heap.objs.size := by simpa using hb
      have hle : s1.heap.objs.size ≤ b := by
        rcases e' with z | z
        · rw [z]
          exact Nat.le_add_right _ _
        · rw [z]
          exact Nat.le_refl _
      exact I1.fpOk hle (I1.hok.fresh hle)
theorem walk_enumG {K : PySem.W.Frag} {k : SK} {xs : List V} : Walk (IteG K k) xs.length (fun H => k.src K H xs) (YPair (fun i => some (.int (i : Nat))) (fun i => xs[i]?)) := by
  refine ⟨fun i _ hi q => ⟨xs, xs[i], q, by simp [hi]⟩, fun _ q => ⟨xs, q, rfl⟩, fun i H v H' _ q y => ?_⟩
  obtain ⟨T, x, h1, h2, h3, h4⟩ := y
  exact ⟨T, .int (i : Nat), x, h1, h2, h3, rfl, h4 xs q⟩
end FW
namespace FW
open PySem PySem.Spec PyProof.Rows L2
/-! ### C.m(..), m a static method of the class at C over the function at f -/
structure Sta (K : PySem.W.Frag) (C : Addr) (m : Str) (f : Addr) : Prop where
  rd : PySem.W.readsIn K C (.type "type") = true
  fd : ∃ (p : Addr) (rest : List Value), PySem.W.findCls K (.ref C) (.type "type") m = some (.get (.builtin "staticmethod.__get__") (.ref p) .none (.ref C)) ∧ PySem.W.recIn K p "staticmethod" = some (.ref f :: rest)
  sg : PySem.W.specialIn K (.ref C) "__getattribute__" = some (some (.builtin "type.__getattribute__"))
  kp : PySem.W.keepIn K (.ref f) = true
theorem static_get {prog : Program} {w : World} {A : Around} {E : Value → Shared → Prop} {s : Shared} {K : PySem.W.Frag} {C f : Addr} {m : Str} {pl : Sem Bool} {Q : Value × List Value → Shared → Prop} (X : K.In s.heap) (S : Sta K C m f)
    (h : ∀ u, Q (.ref f, []) { s with toks := u }) : wpAny (model prog w) A (getMethod (.ref C) m pl) Q E s := by
  obtain ⟨p, rest, fd, rc⟩ := S.fd
  exact PySem.W.method_cls X S.sg (PySem.W.cls_bind X S.rd fd (wpAny_call (PySem.W.sm_get (s := { s with toks := s.toks + 1 }) X rc (PySem.W.handed_on rfl (h _)))))
section
variable {X : Cx} {CX : CXT} {k : Nat} {f C : Addr} {fd : FuncData} {ps : List Str} {sp : Sp} {dvs : List V} {ds : List Value} {E : XK} {x m : Str} {p1 pos apos : Pos} {e : Expr} {es : List Expr} {t : TA}
theorem pe_static {pl : Sem Bool} (hg : Gl X x) (hm : X.mg x = some (.ref C)) (S : Sta X.K C m f) (F : FnOk X.prog X.w X.K X.mg X.base CX k f fd ps sp) (hr : Room k X.A) (hb : L2.Binds X.K fd ps ds) (hd : Vals dvs ds) (hx : Passes CX X E) (ha : PA X (e :: es) t)
    (hdb : (x == ("__debug__" : Str)) = false := by decide)
    (hc : eval (.Call (.Attribute (.Name x p1) m apos) (e :: es) [] pos) X.env = (do
      let oc ← eval (.Name x p1) X.env
      standAt apos.atName
      let (fc, fst) ← holding [oc] (getMethod oc m pl)
      callWith pos fc fst (backTo pos (starEach (e :: es) X.env)) (backToKw pos (keywordEach [] X.env))) := by rfl)
    (he : starEach (e :: es) X.env = (false, eval e X.env) :: starEach es X.env := by rfl) (hpl : (backTo pos (starEach es X.env)).any (·.1) = false := by rfl) :
    PE X (.Call (.Attribute (.Name x p1) m apos) (e :: es) [] pos) (tCall sp dvs E t) := by
  refine ⟨fun pins s σ H Q I h => PySem.W.methodCall_KW (pl := pl) (ld_glob I hg hm ?_ hdb) hc⟩
  refine static_get I.kIn S fun u => ?_
  have I1 : Inv X pins σ H { s with toks := u } := I.tok _
  refine PySem.W.callWith_K (first := []) (h₀ := X.base) I.ok.mod.kin S.kp (thn (ha.run pos pins _ σ H _ I1 h) ?_) he hpl
  rintro us s2 ⟨vs, H2, I2, r, q2⟩
  exact ⟨I2.kIn, run_fn F hr hb hd hx I2 r q2⟩
end
end FW
namespace FW
open PySem PySem.Spec PyProof.Rows L2 StX
/-- three parameters ahead of the starred one -/
theorem bind_star3 {B : List Value → Sem (List (Str × Value))} {p1 p2 p3 pv : Str} (h0 : ∀ a b c, B [a, b, c] = (newTuple [] >>= fun t => pure [(p1, a), (p2, b), (p3, c), (pv, t)]))
    (h1 : ∀ a b c r rs, B (a :: b :: c :: r :: rs) = (newTuple (r :: rs) >>= fun t => pure [(p1, a), (p2, b), (p3, c), (pv, t)])) :
    ∀ us rest : List Value, us.length = [p1, p2, p3].length → B (us ++ rest) = (newTuple rest >>= fun t => pure ([p1, p2, p3].zip us ++ [(pv, t)]))
  | [a, b, c], [], _ => h0 a b c
  | [a, b, c], r :: rs, _ => h1 a b c r rs
section
variable {X : Cx} {CX : CXT} {k : Nat} {f C : Addr} {sp : Sp} {E : XK} {x : Str} {e : Expr} {es : List Expr} {t : TA} {p pos : Pos}
/-- C(e, .., *y) -/
theorem pe_makeS (M : Mk X.K C f) (F : FnR X.prog X.w X.K X.mg X.base CX k f sp) (hr : Room (k + 1) X.A) (hg : Gl X x) (hm : X.mg x = some (.ref C)) (hx : Passes CX X E) (ha : PA X (e :: es) t) (hd : (x == ("__debug__" : Str)) = false := by decide)
    (he : starEach (e :: es) X.env = (false, eval e X.env) :: starEach es X.env := by rfl) (hst : (backTo pos (starEach es X.env)).any (·.1) = true := by rfl) :
    PE X (.Call (.Name x p) (e :: es) [] pos) (tMakeR C sp E t) := by
  refine ⟨fun pins s σ H Q I h => wpAny_Call_Name_kw (ld_glob I hg hm ?_ hd)⟩
  refine PySem.W.callWith_S2 (h₀ := X.base) I.ok.mod.kin M.kp (thn (ha.run pos pins s σ H _ I h) ?_) he hst
  rintro us s1 ⟨vs, H1, I1, r, q⟩
  exact ⟨I1.kIn, run_makeR M F hr hx I1 r q⟩
end
end FW
namespace FW
open PySem PySem.Spec PyProof.Rows L2
/-! ### tests, and what may be forgotten behind an expression -/
theorem ite_dec {p : Prop} [d : Decidable p] {A B : Prop} (h1 : p → A) (h2 : ¬ p → B) : if decide p = true then A else B := by
  by_cases h : p
  · rw [decide_eq_true h]
    exact iteT (h1 h)
  · rw [decide_eq_false h]
    exact iteF (h2 h)
theorem ite_ndec {p : Prop} [d : Decidable p] {A B : Prop} (h1 : ¬ p → A) (h2 : p → B) : if (!decide p) = true then A else B := by
  by_cases h : p
  · rw [decide_eq_true h]
    exact iteF (h2 h)
  · rw [decide_eq_false h]
    exact iteT (h1 h)
theorem ite_bl {c : Bool} {A B : Prop} (h1 : c = true → A) (h2 : c = false → B) : if c = true then A else B := by
  cases c with
  | true => exact iteT (h1 rfl)
  | false => exact iteF (h2 rfl)
theorem ite_nbl {c : Bool} {A B : Prop} (h1 : c = false → A) (h2 : c = true → B) : if (!c) = true then A else B := by
  cases c with
  | true => exact iteF (h2 rfl)
  | false => exact iteT (h1 rfl)
section
variable {X : Cx}
/-- an expression, and what is kept of its value and the heap -/
def tAs (t : TE) : TE := fun σ H Q => ∃ R : V → Hp → Prop, t σ H R ∧ ∀ v H', R v H' → Q v H'
theorem pe_as {e : Expr} {t : TE} (h : PE X e t) : PE X e (tAs t) := ⟨fun pins s σ H Q I hw => by
  obtain ⟨R, hR, hq⟩ := hw
  exact thn (h.run pins s σ H R I hR) fun v s1 ⟨x, H1, I1, r1, q1⟩ => ⟨x, H1, I1, r1, hq _ _ q1⟩⟩
/-- a test, and what is kept -/
def tAsT (t : TT) : TT := fun σ H Q => ∃ R : Bool → Hp → Prop, t σ H R ∧ ∀ v H', R v H' → Q v H'
theorem pt_as {e : Expr} {t : TT} (h : PT X e t) : PT X e (tAsT t) := ⟨fun pins s σ H Q I hw => by
  obtain ⟨R, hR, hq⟩ := hw
  exact thn (h.run pins s σ H R I hR) fun v s1 ⟨H1, I1, q1⟩ => ⟨H1, I1, hq _ _ q1⟩⟩
/-- a statement, and what is kept behind it where it goes on -/
def tAsS (t : TS) : TS := fun D σ H => ∃ R : L2.St → Hp → Prop, t { D with nx := R } σ H ∧ ∀ σ' H', R σ' H' → D.nx σ' H'
theorem ps_as {st : Stmt} {t : TS} (h : PS X st t) : PS X st (tAsS t) := ⟨fun pins s σ H D I hw => by
  obtain ⟨R, hR, hq⟩ := hw
  refine thn (h.run pins s σ H _ I hR) fun f s1 z => ?_
  cases f with
  | next => exact (let ⟨σ', H1, I1, q1⟩ := z; ⟨σ', H1, I1, hq _ _ q1⟩)
  | _ => exact z⟩
end
end FW
namespace FW
open PySem PySem.Spec PyProof.Rows L2
/-! ### == and != by an own __eq__ -/
/-- what the type of a value is -/
inductive Kd (H : Hp) : V → Value → Prop
  | ins {b C dy : Addr} {gs : List (Str × V)} (e : H b = some (.ins C dy gs)) : Kd H (.ref b) (.ref C)
  | non : Kd H .non (.type "NoneType")
  | str (z : Str) : Kd H (.str z) (.type "str")
  | int (i : Int) : Kd H (.int i) (.type "int")
  | lst {b : Addr} {xs : List V} (e : H b = some (.lst xs)) : Kd H (.ref b) (.type "list")
  | tup {b : Addr} {xs : List V} (e : H b = some (.tup xs)) : Kd H (.ref b) (.type "tuple")
section
variable {X : Cx} {CX : CXT} {pins : List (Addr × Obj)} {σ : L2.St} {H : Hp} {s : Shared} {C f : Addr} {n : Nat} {sp : Sp} {E : XK}
theorem looks_kd {y : V} {u t : Value} (I : Inv X pins σ H s) (r : RelV y u) (k : Kd H y t) : PySem.W.Looks (model X.prog X.w) s.heap (typeOf u) t := by
  cases k with
  | ins e =>
    cases r
    obtain ⟨mA, J, _⟩ := ins_get I.hok e
    obtain ⟨od, J, _⟩ := J.look
    exact J.type
  | non => cases r; exact .of_pure rfl
  | str z => obtain ⟨t, rfl⟩ := r; exact .of_pure rfl
  | int z => obtain ⟨t, rfl⟩ := r; exact .of_pure rfl
  | lst e =>
    cases r
    obtain ⟨z, its, k, r, e⟩ := I.hok _ _ e
    exact (PySem.W.Looks.ld e).andThen .now
  | tup e =>
    cases r
    obtain ⟨its, k, r, p⟩ := I.hok _ _ e
    obtain ⟨⟨cls, dd, data, sl⟩, ho, hc, _⟩ := id p
    simp only at hc
    subst hc
    exact (PySem.W.Looks.ld ho).andThen .now
/-- a op y, a an instance of the class at C with its own __eq__ -/
def rOwnI (K : PySem.W.Frag) (C : Addr) (sp : Sp) (E : XK) (neg : Bool) : R2 := fun x y H Q => ∃ a dx fs t, x = .ref a ∧ H a = some (.ins C dx fs) ∧ Kd H y t ∧ PySem.W.notFirst K C t = true ∧ sp [x, y] H (fun v H' => ∃ c : Bool, v = .bl c ∧ Q (.bl (c != neg)) H') E
theorem op_eqI (hs : PySem.W.findIn X.K (.ref C) "__eq__" = some (some (.ref f))) (hf : PySem.W.isFn X.K (.ref f) = true) (F : FnR X.prog X.w X.K X.mg X.base CX n f sp)
    (hr : Room n X.A) (hx : Passes CX X E) : OpR X (compareOp .Eq) (rOwnI X.K C sp E false) := by
  intro pins s σ H x y v u Q I rx ry h
  obtain ⟨a, dx, fs, t, rfl, ha, k, hn, q⟩ := h
  cases (show v = Value.ref a from rx)
  obtain ⟨mA, J, _⟩ := ins_get I.hok ha
  obtain ⟨od, J, _⟩ := J.look
  obtain ⟨m, hF⟩ := I.fr
  show wpAny _ _ (richCompare .Eq _ _) _ _ s
  refine PySem.W.cmp_K (op := .Eq) (tb := t) hr.units0 hF I.ok.mod.kin J (looks_kd I ry k) hn hs hf ?_
  refine wpAny_mono (wpAny_call (run_fnR (us := [.ref a, u]) (vs := [.ref a, y]) F hr hx I (.cons rfl (.cons ry .nil)) q)) (fun w s' z => ?_) fun _ _ x => x
  obtain ⟨z', H', I', rz, c, rfl, qz⟩ := z
  refine SlX.cmpback rz ⟨.bl c, H', I', rz, ?_⟩
  cases c <;> exact qz
theorem ne_K {prog : Program} {w : World} {A : Around} {E : Value → Shared → Prop} {s : Shared} {K : PySem.W.Frag} {x C L : Addr} {h₀ : Heap} {m : Str → Option Value} {ox : Obj} {od : Option Obj} {tb b : Value} {Q : Value → Shared → Prop} (hu : A.units + 1 < cLine)
    (F : Fr h₀ L s.heap m) (X₀ : K.In h₀) (I : PySem.W.InstAt s.heap x ox C od) (hb : PySem.W.Looks (model prog w) s.heap (typeOf b) tb) (hn : PySem.W.notFirst K C tb = true)
    (hs : PySem.W.findIn K (.ref C) "__eq__" = some (some (.ref f))) (hf : PySem.W.isFn K (.ref f) = true) (hne : PySem.W.findIn K (.ref C) "__ne__" = some (some (.builtin "object.__ne__"))) (hob : PySem.W.mroIn K C (.type "object") = some true)
    (h : wpAny (model prog w) A.in1 (call (.ref f) [.ref x, b]) (fun v s' => ∃ c : Bool, v = .bool c ∧ Q (.bool (!c)) s') E s) : wpAny (model prog w) A (richCompare .NotEq (.ref x) b) Q E s := by
  have X := X₀.keeps F.keep
  have S := (PySem.F.cmp_object).ne
  have bi : wpAny (model prog w) A (call (.builtin "object.__ne__") [.ref x, b]) (fun v s' => ∃ c : Bool, v = .bool (!c) ∧ Q (.bool (!c)) s') E s := by
    refine wpAny_call (codeAny_call_builtin S.plain PySem.F.cmpEntry_ne (PySem.W.check_slot PySem.F.cmpKind_ne PySem.F.cmpSplit_ne ?_ (PySem.F.cmpArgs_ne _ _) ?_))
    · exact fun A E Q s' k q => by
        unfold isInstance
        exact wpAny_bind ((I.type.keeps k).here ((PySem.W.looks_mroIn (X.keeps k) hob).here q))
    unfold Builtin.«object.__ne__»
    have fin2 : wpAny (model prog w) A.in1 (callSpecialIfBound? (.ref x) "__eq__" [b]) (fun r s' => ∃ c : Bool, r = some (.bool c) ∧ Q (.bool (!c)) s') E s :=
      PySem.W.ifBound_K X I hs hf (wpAny_mono h (fun v s' ⟨c, e, q⟩ => ⟨c, by rw [e], q⟩) fun _ _ e => e)
    repeat (first
      | with_reducible refine wpAny_cRoomFor (Nat.lt_of_le_of_lt (Nat.le_refl _) hu) ?_
      | (refine wpAny_bind (m := callSpecialIfBound? (.ref x) (Str.ofString "__eq__") [b]) (wpAny_mono fin2 (fun r s' hr => by
          obtain ⟨c, rfl, hq⟩ := hr
          repeat (first | exact ⟨c, rfl, hq⟩ | exact wpAny_pure ⟨c, rfl, hq⟩ | (refine wpAny_bind (m := truthy (.bool _)) (wpAny_truthy_bool ?_)) | wp_step)) fun _ _ e => e))
      | wp_step)
  have one : wpAny (model prog w) A (tryCompare (.ref x) "__ne__" b) (fun r s' => ∃ v, r = some v ∧ Q v s') E s := by
    unfold tryCompare
    refine wpAny_bind ?_
    simp only [callSpecialIfBound?, bindSpecialIfBound?]
    refine wpAny_holding (wpAny_bind (wpAny_bind (wpAny_bind (I.type.here ((PySem.W.looks_findIn X hne).here ?_)))))
    refine wpAny_bind (wpAny_askSetting (wpAny_ite ?_))
    simp only [S.bind]
    have fin : wpAny (model prog w) A (call (.builtin "object.__ne__") ([.ref x] ++ [b]) >>= fun v => pure (some v)) (fun r s' => wpAny (model prog w) A (match r with | some .notImplemented | none => pure none | some v => pure (some v)) (fun r s' => ∃ v, r = some v ∧ Q v s') E s') E s := by
      refine wpAny_bind (wpAny_mono bi (fun v s' hv => ?_) fun _ _ e => e)
      obtain ⟨c, rfl, hq⟩ := hv
      exact wpAny_pure (wpAny_pure ⟨_, rfl, hq⟩)
    split
    · exact wpAny_bind (wpAny_pure (wpAny_pure fin))
    · exact wpAny_tryCatch (wpAny_bind (wpAny_pure (wpAny_pure fin)))
  unfold richCompare
  simp only [oneThing_ref]
  refine wpAny_holding (wpAny_bind (wpAny_cRoomFor (Nat.lt_of_succ_lt hu) ?_))
  refine wpAny_bind (I.type.here (wpAny_bind (hb.here ?_)))
  split
  · rename_i q
    have e : PySem.W.subIn K tb (.ref C) = some false := by
      rcases Bool.or_eq_true_iff.mp hn with e | e
      · rw [beq_iff_eq.mp e] at q; simp at q
      · exact beq_iff_eq.mp e
    refine wpAny_bind ((PySem.W.looks_subIn X e).here ?_)
    simp only [Bool.false_eq_true, if_false]
    refine wpAny_bind (wpAny_mono one (fun r s' z => ?_) fun _ _ e => e)
    obtain ⟨v, rfl, hq⟩ := z
    exact wpAny_pure hq
  · refine wpAny_bind (wpAny_pure ?_)
    simp only [Bool.false_eq_true, if_false]
    refine wpAny_bind (wpAny_mono one (fun r s' z => ?_) fun _ _ e => e)
    obtain ⟨v, rfl, hq⟩ := z
    exact wpAny_pure hq
theorem op_neI (hs : PySem.W.findIn X.K (.ref C) "__eq__" = some (some (.ref f))) (hf : PySem.W.isFn X.K (.ref f) = true) (hne : PySem.W.findIn X.K (.ref C) "__ne__" = some (some (.builtin "object.__ne__"))) (hob : PySem.W.mroIn X.K C (.type "object") = some true)
    (F : FnR X.prog X.w X.K X.mg X.base CX n f sp) (hr : Room (n + 1) X.A) (hx : Passes CX X E) : OpR X (compareOp .NotEq) (rOwnI X.K C sp E true) := by
  intro pins s σ H x y v u Q I rx ry h
  obtain ⟨a, dx, fs, t, rfl, ha, k, hn, q⟩ := h
  cases (show v = Value.ref a from rx)
  obtain ⟨mA, J, _⟩ := ins_get I.hok ha
  obtain ⟨od, J, _⟩ := J.look
  obtain ⟨m, hF⟩ := I.fr
  show wpAny _ _ (richCompare .NotEq _ _) _ _ s
  refine ne_K (by have := hr.un; omega) hF I.ok.mod.kin J (looks_kd I ry k) hn hs hf hne hob ?_
  refine wpAny_mono (wpAny_call (SlX.run_at (us := [.ref a, u]) (ws := [.ref a, y]) F hr.in1 I.env0.in1 hx I (.cons rfl (.cons ry .nil)) q)) (fun w s' z => ?_) fun _ _ x => x
  obtain ⟨z', H', I', rz, c, rfl, qz⟩ := z
  cases (show w = Value.bool c from rz)
  refine ⟨c, rfl, .bl (!c), H', I', rfl, ?_⟩
  cases c <;> exact qz
end
end FW
namespace FW
open PySem PySem.Spec PyProof.Rows L2
section
variable {X : Cx} {CX : CXT} {k : Nat} {f C : Addr} {fd : FuncData} {ps ks : List Str} {sp : Sp} {E : XK} {x m : Str} {p1 pos apos : Pos} {kws : List Keyword} {tk : TA} {g : List Value → List Value → List Value} {gV : List V → List V → List V}
/-- C.m(k=e, ..), m a static method -/
theorem pe_staticK0 {pl : Sem Bool} (hg : Gl X x) (hm : X.mg x = some (.ref C)) (S : Sta X.K C m f) (F : FnOk X.prog X.w X.K X.mg X.base CX k f fd ps sp) (hr : Room k X.A) (hb : KBinds X.K fd ps ks g gV) (hx : Passes CX X E) (hkw : PK X kws tk)
    (hall : (backToKw pos (keywordEach kws X.env)).all (·.1.isSome) = true := by rfl) (hks : (backToKw pos (keywordEach kws X.env)).filterMap (·.1) = ks := by rfl)
    (hdb : (x == ("__debug__" : Str)) = false := by decide)
    (hc : eval (.Call (.Attribute (.Name x p1) m apos) [] kws pos) X.env = (do
      let oc ← eval (.Name x p1) X.env
      standAt apos.atName
      let (fc, fst) ← holding [oc] (getMethod oc m pl)
      callWith pos fc fst (backTo pos (starEach [] X.env)) (backToKw pos (keywordEach kws X.env))) := by rfl)
    (hpl : ((backTo pos (starEach [] X.env)).any (·.1) || (backToKw pos (keywordEach kws X.env)).any (·.1.isNone)) = false := by rfl) :
    PE X (.Call (.Attribute (.Name x p1) m apos) [] kws pos) (tCallK sp gV E tNil tk) := by
  refine ⟨fun pins s σ H Q I h => PySem.W.methodCall_KW (pl := pl) (ld_glob I hg hm ?_ hdb) hc⟩
  refine static_get I.kIn S fun u => ?_
  have I1 : Inv X pins σ H { s with toks := u } := I.tok _
  refine PySem.W.callWith_KW0 (h₀ := X.base) I.ok.mod.kin S.kp hall (thn (hkw.run pos pins _ σ H _ I1 h) fun ws s2 ⟨zs, H2, I2, rz, q2⟩ => ⟨I2.kIn, ?_⟩) hpl
  rw [hks]
  exact run_fnk F hr hb hx I2 .nil rz q2
end
end FW
namespace FW
open PySem PySem.Spec PyProof.Rows L2
/-! ### data that may be compared -/
/-- data that nest at most so deep, all of whose texts may be laid -/
inductive Lay : Nat → PyData → Prop
  | non {n : Nat} : Lay n .none
  | bl {n : Nat} (b : Bool) : Lay n (.bool b)
  | int {n : Nat} (i : Int) : Lay n (.int i)
  | str {n : Nat} {x : Str} (h : PyData.strOk x = true) : Lay n (.str x)
  | lst {n : Nat} {ds : List PyData} (h : ∀ d ∈ ds, Lay n d) : Lay (n + 1) (.list ds)
  | tup {n : Nat} {ds : List PyData} (h : ∀ d ∈ ds, Lay n d) : Lay (n + 1) (.tuple ds)
theorem lay_all {n : Nat} : ∀ {ds : List PyData}, (∀ d ∈ ds, d.canLay0 = true ∧ d.depth ≤ n) → PyData.canLayAll0 ds = true ∧ PyData.depthAll ds ≤ n
  | [], _ => ⟨rfl, Nat.zero_le _⟩
  | d :: ds, h => by
    have h1 := h d List.mem_cons_self
    have h2 := lay_all (ds := ds) fun x hx => h x (List.mem_cons_of_mem _ hx)
    refine ⟨?_, ?_⟩
    · show (d.canLay0 && PyData.canLayAll0 ds) = true
      rw [h1.1, h2.1]
      rfl
    · show max d.depth (PyData.depthAll ds) ≤ n
      exact Nat.max_le.mpr ⟨h1.2, h2.2⟩
theorem Lay.ok {n : Nat} {d : PyData} (h : Lay n d) : d.canLay0 = true ∧ d.depth ≤ n := by
  induction h with
  | non => exact ⟨rfl, Nat.zero_le _⟩
  | bl b => exact ⟨rfl, Nat.zero_le _⟩
  | int i => exact ⟨rfl, Nat.zero_le _⟩
  | str h => exact ⟨h, Nat.zero_le _⟩
  | lst h ih => exact ⟨(lay_all ih).1, Nat.succ_le_succ (lay_all ih).2⟩
  | tup h ih => exact ⟨(lay_all ih).1, Nat.succ_le_succ (lay_all ih).2⟩
theorem Lay.shaped {n : Nat} {d : PyData} (h : Lay n d) (hn : n ≤ 64) : SeqAt.shaped d = true := by
  unfold SeqAt.shaped
  rw [h.ok.1, decide_eq_true (Nat.le_trans h.ok.2 hn)]
  rfl
theorem eqvAll_map {α : Type} [DecidableEq α] {f : α → PyData} (h : ∀ x y, PyData.eqv (f x) (f y) = decide (x = y)) : ∀ xs ys : List α, PyData.eqvAll (xs.map f) (ys.map f) = decide (xs = ys)
  | [], [] => by
    rw [decide_eq_true rfl]
    rfl
  | [], y :: ys => by
    rw [decide_eq_false (by simp)]
    rfl
  | x :: xs, [] => by
    rw [decide_eq_false (by simp)]
    rfl
  | x :: xs, y :: ys => by
    show (PyData.eqv (f x) (f y) && PyData.eqvAll (xs.map f) (ys.map f)) = _
    rw [h, eqvAll_map h xs ys, ← Bool.decide_and]
    exact decide_eq_decide.mpr (by simp)
theorem eqv_S (a b : List Nat) : PyData.eqv (.str (S a)) (.str (S b)) = decide (a = b) := by
  show (S a == S b) = _
  by_cases h : a = b
  · subst h
    rw [decide_eq_true rfl]
    exact beq_self_eq_true _
  · rw [decide_eq_false h]
    refine beq_eq_false_iff_ne.mpr fun e => h ?_
    have := congrArg (fun z : Str => z.cps.toList) e
    exact this
theorem eqv_tupS (a b : List (List Nat)) : PyData.eqv (.tuple (a.map fun p => .str (S p))) (.tuple (b.map fun p => .str (S p))) = decide (a = b) := by
  show PyData.eqvAll _ _ = _
  exact eqvAll_map eqv_S a b
end FW
namespace FW
open PySem PySem.Spec PyProof.Rows L2
def topS (i : Nat) : Stmt := PySem.Challenge.pw_fourwalls_k51_walks_through_places.main.body.getD i (.Pass ⟨0, 0, 0, 0⟩)
section
variable {P : Program} {w : World} {K : PySem.W.Frag} {mg : Str → Option Value} {base : Heap}
abbrev s__law_open : Stmt := topS 54
theorem sc__law_open : FnScope ["_law_script", "_law_mixed", "_law_cell"] ["_law_script"] (defScope s__law_open) := ⟨rfl, rfl, rfl, by decide +kernel, rfl, by decide +kernel, by decide +kernel⟩
theorem ok__law_open {f : Addr} {fd : FuncData} (F : Fun K "_law_open" "_law_open" s__law_open f fd) (T : Z mg) : FnOk P w K mg base CX0 1 f fd ["_law_script"] (sp__law_open K) := by
  refine F.ok sc__law_open (fun vs H Q E h => ?_) (fun cdv A outer s H vs Q E hr h => ?_)
  · obtain ⟨a, ns, rfl, _⟩ := h
    rfl
  · obtain ⟨a, ns, rfl, hS, hlen, q⟩ := h
    refine ⟨_, (pss_cons (ps_set (i := 1) sc__law_open.nd rfl (.inl rfl) pe_int)
      (pss_cons (ps_for PassesOwn.never rfl (pi_list (pe_slice sl_list (pv 0) po_none (po_some pe_int))) (pg_name (i := 2) sc__law_open.nd rfl (.inl rfl))
        (pss_one (ps_set (i := 1) sc__law_open.nd rfl (.inl rfl) (pe_op op_mod (pe_callTy call_int1 (by rfl) T.z_int (by decide +kernel) (pa_cons (pe_op op_add (pe_op op_add (pe_op op_mul (pv 1) pe_int) (pe_op op_mul (pe_op op_mod (pe_callTy call_int1 (by rfl) T.z_int (by decide +kernel) (pa_cons (pv 2) pa_nil)) pe_int) pe_int)) pe_int) pa_nil)) pe_int))))
      (pss_one (ps_ret (pe_lst (pa_cons (pe_callTy call_list_of (by rfl) T.z_list (by decide +kernel) (pa_cons (pe_slice sl_list (pv 0) po_none (po_some pe_int)) pa_nil)) (pa_cons pe_int (pa_cons pe_int (pa_cons (pv 1) (pa_cons pe_int pa_nil)))))))))), ?_⟩
    have ecut : cutV (ns.map V.int) none (some 63) = ns.map V.int := by
      rw [show (63 : Int) = ((63 : Nat) : Int) from rfl, cutV_to]
      exact List.take_of_length_le (by rw [List.length_map]; exact hlen)
    refine ⟨_, rfl, 63, rfl, a, _, rfl, hS, fun p np => ?_⟩
    rw [ecut]
    have s1 : Same H (upd H p (.lst (ns.map V.int))) := same_upd np
    refine ⟨p, rfl, ⟨_, SqL.of upd_same⟩, for_it (walk_list (xs := ns.map V.int)) (fun i σ H' => ∃ m y, σ = [some (.ref a), some (.int m), y] ∧ 0 ≤ m ∧ m < 2147483648 ∧ H' = upd H p (.lst (ns.map V.int)))
      ⟨10042, none, rfl, by decide, by decide, rfl⟩ (fun i σ H' _ ⟨_, _, _, _, _, e⟩ => by rw [e]; exact SqL.of upd_same) ?_ ?_⟩
    · rintro i x σ _ _ hi ⟨m, y, rfl, h0, h1, rfl⟩ ⟨rfl, hx⟩
      obtain ⟨z, rfl⟩ : ∃ z, x = V.int z := by
        rw [List.getElem?_map] at hx
        cases e : ns[i]? with
        | none => rw [e] at hx; cases hx
        | some u => rw [e] at hx; exact ⟨u, (Option.some.inj hx).symm⟩
      refine ⟨_, rfl, _, _, rfl, rfl, .inr ⟨by decide, by decide⟩, _, rfl, .inl ⟨_, rfl, _, _, rfl, rfl, (show (0 : Int) < 1000033 by decide), _, _, rfl, rfl, .inr ⟨by decide, by decide⟩, _, _, rfl, rfl, _, _, rfl, rfl, .inl ⟨_, rfl, _, _, rfl, rfl, (show (0 : Int) < 2147483549 by decide), ?_⟩⟩⟩
      refine ⟨_, _, rfl, Int.emod_nonneg _ (by decide), ?_, rfl⟩
      exact Int.lt_trans (Int.emod_lt_of_pos _ (by decide)) (by decide)
    · rintro σ _ ⟨m, y, rfl, h0, h1, rfl⟩
      refine ⟨_, rfl, 63, rfl, a, _, rfl, s1.seq hS, fun p2 np2 => ?_⟩
      rw [ecut]
      have s2 := same_upd (o := HO.lst (ns.map V.int)) np2
      refine ⟨p2, _, rfl, .inl (SqL.of upd_same), fun l nl => ?_⟩
      have s3 := same_upd (o := HO.lst (ns.map V.int)) nl
      refine ⟨_, rfl, (show 5 ≤ sizeLine by decide), fun b nb => ?_⟩
      have s4 := same_upd (o := HO.lst [V.ref l, V.int 0, V.int 0, V.int m, V.int 0]) nb
      have s5 := (s1.trans s2).trans s3
      refine q _ b l (s5.free nb) ((s1.trans s2).free nl) (s5.trans s4) ⟨ns, 0, 0, m, 0, upd_same, s4 _ _ upd_same, by omega, by decide, h0, h1⟩
abbrev s__law_draw : Stmt := topS 55
theorem sc__law_draw : FnScope ["_law_bag", "_law_many", "_law_cell", "_law_digit", "_law_twice"] ["_law_bag", "_law_many"] (defScope s__law_draw) := ⟨rfl, rfl, rfl, by decide +kernel, rfl, by decide +kernel, by decide +kernel⟩
theorem ok__law_draw {f : Addr} {fd : FuncData} (F : Fun K "_law_draw" "_law_draw" s__law_draw f fd) (T : Z mg) : FnOk P w K mg base CX0 1 f fd ["_law_bag", "_law_many"] (sp__law_draw K) := by
  refine F.ok sc__law_draw (fun vs H Q E h => ?_) (fun cdv A outer s H vs Q E hr h => ?_)
  · obtain ⟨b, l, k, rfl, _⟩ := h
    rfl
  · obtain ⟨b, l, k, rfl, ⟨ns, i, r, m, c, hb, hL, hlen, hi, hm0, hm1⟩, hk, hk2, q⟩ := h
    have nlb : l ≠ b := ne_of hL hb bag_ne
    refine ⟨_, (pss_cons (ps_asg (pe_op op_add (pe_ix ix_list (pv 0) pe_int (fun _ _ => rfl)) pe_int) (pg_sub (pv 0) pe_int set_list))
      (C8.pss_cut (ps_if (PW.pt (pw_and (pt_cmpR op_eq (pe_ix ix_list (pv 0) pe_int (fun _ _ => rfl)) pe_int (nomark _)) (pw_and1 (pt_cmpR op_lt (pe_ix ix_list (pv 0) pe_int (fun _ _ => rfl)) (pe_callB call_len (by rfl) T.z_len (by decide +kernel) (pa_cons (pe_ix ix_list (pv 0) pe_int (fun _ _ => rfl)) pa_nil)) (nomark _))))) (pss_cons (ps_set (i := 2) sc__law_draw.nd rfl (.inl rfl) (pe_ix ix_list (pe_ix ix_list (pv 0) pe_int (fun _ _ => rfl)) (pe_ix ix_list (pv 0) pe_int (fun _ _ => rfl)) (fun _ _ => rfl)))
      (pss_cons (ps_asg (pe_op op_add (pe_ix ix_list (pv 0) pe_int (fun _ _ => rfl)) pe_int) (pg_sub (pv 0) pe_int set_list))
      (pss_one (ps_if (pt_cmpR op_ge (pe_callB call_abs (by rfl) T.z_abs (by decide +kernel) (pa_cons (pv 2) pa_nil)) (pe_op op_pow pe_int pe_int) (nomark _)) (pss_one (ps_asg (pe_callB call_abs (by rfl) T.z_abs (by decide +kernel) (pa_cons (pv 2) pa_nil)) (pg_sub (pv 0) pe_int set_list))) (pss_one (ps_asg (pe_op op_mod (pe_callTy call_int1 (by rfl) T.z_int (by decide +kernel) (pa_cons (pe_op op_add (pe_op op_add (pe_op op_mul (pe_ix ix_list (pv 0) pe_int (fun _ _ => rfl)) pe_int) (pe_op op_mul (pe_op op_mod (pe_callTy call_int1 (by rfl) T.z_int (by decide +kernel) (pa_cons (pv 2) pa_nil)) pe_int) pe_int)) pe_int) pa_nil)) pe_int) (pg_sub (pv 0) pe_int set_list))))))) pss_nil)
      (pss_cons (ps_if (pt_cmpR op_gt (pe_ix ix_list (pv 0) pe_int (fun _ _ => rfl)) pe_int (nomark _)) (pss_cons (ps_set (i := 3) sc__law_draw.nd rfl (.inl rfl) (pe_op op_mod (pe_callTy call_int1 (by rfl) T.z_int (by decide +kernel) (pa_cons (pe_ix ix_list (pv 0) pe_int (fun _ _ => rfl)) pa_nil)) (pv 1)))
      (pss_cons (ps_asg (pe_op op_fdivN (pe_ix ix_list (pv 0) pe_int (fun _ _ => rfl)) (pv 1)) (pg_sub (pv 0) pe_int set_list))
      (pss_one (ps_ret (pv 3))))) pss_nil)
      (pss_cons (ps_set (i := 4) sc__law_draw.nd rfl (.inl rfl) (pe_op op_mod (pe_callTy call_int1 (by rfl) T.z_int (by decide +kernel) (pa_cons (pe_op op_add (pe_op op_mul (pe_ix ix_list (pv 0) pe_int (fun _ _ => rfl)) (pe_ix ix_list (pv 0) pe_int (fun _ _ => rfl))) (pe_op op_mul (pe_ix ix_list (pv 0) pe_int (fun _ _ => rfl)) pe_int)) pa_nil)) pe_int))
      (pss_cons (ps_asg (pe_op op_mod (pe_callTy call_int1 (by rfl) T.z_int (by decide +kernel) (pa_cons (pe_op op_add (pe_op op_add (pe_op op_mul (pv 4) pe_int) (pe_op op_mul (pe_ix ix_list (pv 0) pe_int (fun _ _ => rfl)) pe_int)) pe_int) pa_nil)) pe_int) (pg_sub (pv 0) pe_int set_list))
      (pss_one (ps_ret (pe_op op_mod (pe_callTy call_int1 (by rfl) T.z_int (by decide +kernel) (pa_cons (pe_op op_fdivN (pe_ix ix_list (pv 0) pe_int (fun _ _ => rfl)) pe_int) pa_nil)) (pv 1))))))))), ?_⟩
    -- bag[4] += 1
    refine ⟨_, rfl, b, _, 4, _, rfl, rfl, SqL.of hb, rfl, _, _, rfl, rfl, _, rfl, b, _, 4, 4, rfl, rfl, hb, rfl, ?_⟩
    have B1 : BagAt H (upd H b (.lst [.ref l, .int i, .int r, .int m, .int (c + 1)])) b l ns := ⟨(But.refl b H).upd, by rw [upd_ne nlb]; exact hL, i, r, m, c + 1, upd_same, hi, hm0, hm1⟩
    refine ⟨fun σ' H1 => ∃ x2 x3 x4, σ' = [some (.ref b), some (.int k), x2, x3, x4] ∧ BagAt H H1 b l ns, ?_, ?_⟩
    · have hL1 : (upd H b (.lst [.ref l, .int i, .int r, .int m, .int (c + 1)])) l = some (.lst (ns.map V.int)) := by rw [upd_ne nlb]; exact hL
      refine ⟨_, rfl, b, _, 2, _, rfl, rfl, SqL.of upd_same, rfl, rfl, _, rfl, ite2 (fun _ => ?_) (fun _ => ?_)⟩
      · refine ⟨_, rfl, b, _, 1, _, rfl, rfl, SqL.of upd_same, rfl, _, rfl, b, _, 0, _, rfl, rfl, SqL.of upd_same, rfl, _, _, rfl, .inl ⟨_, SqL.of hL1, rfl⟩, _, _, rfl, rfl, _, rfl, ite2 (fun hlt => ?_) (fun _ => ?_)⟩
        · have hlt : i < ((ns.map V.int).length : Int) := of_decide_eq_true hlt
          rw [List.length_map] at hlt
          have hin : i.toNat < ns.length := by omega
          have hat : atI (ns.map V.int) i = some (.int ns[i.toNat]) := by
            have e : i = ((i.toNat : Nat) : Int) := by omega
            refine at_of e ?_
            rw [List.getElem?_map, List.getElem?_eq_getElem hin]
            rfl
          refine ⟨_, rfl, b, _, 0, _, rfl, rfl, SqL.of upd_same, rfl, _, rfl, b, _, 1, _, rfl, rfl, SqL.of upd_same, rfl, l, _, i, _, rfl, rfl, SqL.of hL1, hat, ?_⟩
          refine ⟨_, rfl, b, _, 1, _, rfl, rfl, SqL.of upd_same, rfl, _, _, rfl, rfl, _, rfl, b, _, 1, 1, rfl, rfl, upd_same, rfl, ?_⟩
          refine ⟨_, rfl, _, rfl, _, _, rfl, rfl, ⟨by decide, by decide, by decide⟩, _, _, rfl, rfl, _, rfl, ite2 (fun _ => ?_) (fun _ => ?_)⟩
          · refine ⟨_, rfl, _, rfl, _, rfl, b, _, 2, 2, rfl, rfl, upd_same, rfl, _, _, _, rfl, (((But.refl b H).upd).upd).upd, ?_, _, _, _, _, upd_same, ?_, hm0, hm1⟩
            · rw [upd_ne nlb, upd_ne nlb]
              exact hL1
            · omega
          · refine ⟨_, rfl, b, _, 3, _, rfl, rfl, SqL.of upd_same, rfl, _, _, rfl, rfl, .inr ⟨by decide, by decide⟩, _, rfl, .inl ⟨_, rfl, _, _, rfl, rfl, (show (0 : Int) < 1000033 by decide), _, _, rfl, rfl, .inr ⟨by decide, by decide⟩, _, _, rfl, rfl, _, _, rfl, rfl, .inl ⟨_, rfl, _, _, rfl, rfl, (show (0 : Int) < 2147483587 by decide), ?_⟩⟩⟩
            refine ⟨_, rfl, b, _, 3, 3, rfl, rfl, upd_same, rfl, _, _, _, rfl, (((But.refl b H).upd).upd).upd, ?_, _, _, _, _, upd_same, ?_, Int.emod_nonneg _ (by decide), Int.lt_trans (Int.emod_lt_of_pos _ (by decide)) (by decide)⟩
            · rw [upd_ne nlb, upd_ne nlb]
              exact hL1
            · omega
        · exact ⟨_, _, _, rfl, B1⟩
      · exact ⟨_, _, _, rfl, B1⟩
    · rintro σ' H1 ⟨x2, x3, x4, rfl, hbut, hL1, i1, r1, m1, c1, hb1, hi1, hm01, hm11⟩
      have fin : ∀ H2, But b H H2 → H2 l = some (.lst (ns.map V.int)) → ∀ i2 r2 m2 c2 : Int, H2 b = some (.lst [.ref l, .int i2, .int r2, .int m2, .int c2]) → 0 ≤ i2 → 0 ≤ m2 → m2 < 2147483648 → Bag H2 b l := fun H2 _ h2 i2 r2 m2 c2 h3 h4 h5 h6 => ⟨ns, i2, r2, m2, c2, h3, h2, hlen, h4, h5, h6⟩
      refine ⟨_, rfl, b, _, 2, _, rfl, rfl, SqL.of hb1, rfl, _, _, rfl, rfl, _, rfl, ite2 (fun _ => ?_) (fun _ => ?_)⟩
      · refine ⟨_, rfl, b, _, 2, _, rfl, rfl, SqL.of hb1, rfl, .inl ⟨_, rfl, _, rfl, _, _, rfl, rfl, hk, ?_⟩⟩
        refine ⟨_, rfl, b, _, 2, _, rfl, rfl, SqL.of hb1, rfl, _, rfl, _, _, rfl, rfl, ⟨by omega, by omega⟩, _, rfl, b, _, 2, 2, rfl, rfl, hb1, rfl, _, rfl, ?_⟩
        refine q _ _ (Int.emod_nonneg _ (by omega)) (Int.emod_lt_of_pos _ hk) hbut.upd (fin _ hbut.upd (by rw [upd_ne nlb]; exact hL1) _ _ _ _ upd_same hi1 hm01 hm11)
      · refine ⟨_, rfl, b, _, 3, _, rfl, rfl, SqL.of hb1, rfl, _, rfl, b, _, 3, _, rfl, rfl, SqL.of hb1, rfl, _, _, rfl, rfl, .inl ⟨by omega, by omega⟩, _, rfl, b, _, 4, _, rfl, rfl, SqL.of hb1, rfl, _, _, rfl, rfl, .inr ⟨by decide, by decide⟩, _, _, rfl, rfl, .inl ⟨_, rfl, _, _, rfl, rfl, (show (0 : Int) < 2147483629 by decide), ?_⟩⟩
        refine ⟨_, rfl, _, _, rfl, rfl, .inr ⟨by decide, by decide⟩, _, rfl, b, _, 3, _, rfl, rfl, SqL.of hb1, rfl, _, _, rfl, rfl, .inr ⟨by decide, by decide⟩, _, _, rfl, rfl, _, _, rfl, rfl, .inl ⟨_, rfl, _, _, rfl, rfl, (show (0 : Int) < 2147483587 by decide), ?_⟩⟩
        refine ⟨_, rfl, b, _, 3, 3, rfl, rfl, hb1, rfl, ?_⟩
        refine ⟨_, rfl, b, _, 3, _, rfl, rfl, SqL.of upd_same, rfl, _, _, rfl, rfl, ⟨by decide, by decide⟩, .inl ⟨_, rfl, _, rfl, _, _, rfl, rfl, hk, ?_⟩⟩
        refine q _ _ (Int.emod_nonneg _ (by omega)) (Int.emod_lt_of_pos _ hk) hbut.upd (fin _ hbut.upd (by rw [upd_ne nlb]; exact hL1) _ _ _ _ upd_same hi1 (Int.emod_nonneg _ (by decide)) (Int.lt_trans (Int.emod_lt_of_pos _ (by decide)) (by decide)))
abbrev s__law_of : Stmt := topS 56
theorem sc__law_of : FnScope ["_law_bag", "_law_things"] ["_law_bag", "_law_things"] (defScope s__law_of) := ⟨rfl, rfl, rfl, by decide +kernel, rfl, by decide +kernel, by decide +kernel⟩
theorem ok__law_of {f : Addr} {fd : FuncData} (F : Fun K "_law_of" "_law_of" s__law_of f fd) (T : Z mg) (c__law_draw : Cal P w K mg base CX0 1 "_law_draw" s__law_draw ["_law_bag", "_law_many"] (sp__law_draw K)) : FnOk P w K mg base CX0 2 f fd ["_law_bag", "_law_things"] (sp__law_of K) := by
  refine F.ok sc__law_of (fun vs H Q E h => ?_) (fun cdv A outer s H vs Q E hr h => ?_)
  · obtain ⟨b, lb, x, xs, rfl, _⟩ := h
    rfl
  · obtain ⟨b, lb, x, xs, rfl, B, hI, h0, h1, q⟩ := h
    refine ⟨_, (pss_one (ps_ret (pe_ix ix_seq (pv 1) (pe_c c__law_draw hr (by decide) (by rfl) (pa_cons (pv 0) (pa_cons (pe_callB call_len (by rfl) T.z_len (by decide +kernel) (pa_cons (pv 1) pa_nil)) pa_nil))) (fun _ _ => rfl)))), ?_⟩
    have pick : ∀ z : Int, 0 ≤ z → z < (xs.length : Int) → ∃ v, atI xs z = some v ∧ v ∈ xs := fun z z0 z1 => by
      have hin : z.toNat < xs.length := by omega
      exact ⟨xs[z.toNat], at_of (show z = ((z.toNat : Nat) : Int) by omega) (List.getElem?_eq_getElem hin), List.getElem_mem hin⟩
    refine ⟨_, rfl, _, rfl, _, rfl, x, xs.length, rfl, ?_, ?_⟩
    · rcases hI with ⟨a, _, rfl, hS⟩ | ⟨a, _, rfl, hS⟩ | ⟨l, rfl, rfl⟩
      · exact .inl ⟨_, hS, rfl⟩
      · exact .inr ⟨_, hS, rfl⟩
      · rw [List.length_map] at h1 ⊢
        exact ⟨by rw [S_len]; exact sz h1, (S_len l).symm⟩
    · refine ⟨b, lb, xs.length, rfl, B, by omega, by omega, fun H' z z0 z1 hb B' => ?_⟩
      obtain ⟨v, ha, hm⟩ := pick z z0 z1
      rcases hI with ⟨a, na, rfl, hS⟩ | ⟨a, na, rfl, hS⟩ | ⟨l, rfl, rfl⟩
      · exact .inl ⟨a, xs, z, v, rfl, rfl, hb.seq na hS, ha, q _ _ hm hb B'⟩
      · exact .inr (.inl ⟨a, xs, z, v, rfl, rfl, hb.tup na hS, ha, q _ _ hm hb B'⟩)
      · refine .inr (.inr ?_)
        obtain ⟨c, hc⟩ : ∃ c, atI l z = some c := by
          have hin : z.toNat < l.length := by
            rw [List.length_map] at z1
            omega
          exact ⟨l[z.toNat], atI_of (show z = ((z.toNat : Nat) : Int) by omega) (List.getElem?_eq_getElem hin)⟩
        have ev : v = sgn c := by
          have z2 : z < (l.length : Int) := by
            rw [List.length_map] at z1
            exact z1
          have e1 : ixN l.length z = some z.toNat := by
            unfold ixN
            rw [if_pos z0, if_pos z2]
          unfold atI at ha hc
          rw [List.length_map, e1] at ha
          rw [e1] at hc
          have hc' : l[z.toNat]? = some c := hc
          have ha' : (l.map sgn)[z.toNat]? = some v := ha
          rw [List.getElem?_map, hc'] at ha'
          exact (Option.some.inj ha').symm
        rw [List.length_map] at h1
        exact ⟨S l, z, c, rfl, rfl, by rw [S_len]; exact sz h1, hc, by rw [ev] at hm; exact q _ _ hm hb B'⟩
abbrev s__law_same : Stmt := topS 57
theorem sc__law_same : FnScope ["_law_found", "_law_due", "_law_a", "_law_b"] ["_law_found", "_law_due"] (defScope s__law_same) := ⟨rfl, rfl, rfl, by decide +kernel, rfl, by decide +kernel, by decide +kernel⟩
theorem ok__law_same_step {f : Addr} {fd : FuncData} {n : Nat} {sp : Sp} (F : Fun K "_law_same" "_law_same" s__law_same f fd) (T : Z mg)
    (c__law_same : Cal P w K mg base CX0 (n + 1) "_law_same" s__law_same ["_law_found", "_law_due"] sp) (hsp : ∀ m vs H Q E, n = m + 1 → sp__law_same K m vs H Q E → sp vs H Q E) : FnOk P w K mg base CX0 (n + 2) f fd ["_law_found", "_law_due"] (sp__law_same K n) := by
  refine F.ok sc__law_same (fun vs H Q E h => ?_) (fun cdv A outer s H vs Q E hr h => ?_)
  · obtain ⟨x, y, d, rfl, _⟩ := h
    rfl
  · obtain ⟨x, y, d, rfl, hx, hy, hd, q⟩ := h
    refine ⟨_, (pss_cons (ps_if (PW.pt (pw_or (pt_cmpR op_isN (pv 1) pe_non (nomark _)) (pw_or1 (pt_cmpR op_isN (pv 0) pe_non (nomark _))))) (pss_one (ps_ret (pe_and (pe_cmpR op_isN (pv 1) pe_non (nomark _)) (pe_one (pe_cmpR op_isN (pv 0) pe_non (nomark _)))))) pss_nil)
      (pss_cons (ps_if (pt_val (pe_callB call_isiT (by rfl) T.z_isinstance (by decide +kernel) (pa_cons (pv 1) (pa_cons (pe_tup (pa_cons (pe_bltn (v := .ty "list") (u := .type "list") (by rfl) T.z_list (by decide +kernel) rfl) (pa_cons (pe_bltn (v := .ty "tuple") (u := .type "tuple") (by rfl) T.z_tuple (by decide +kernel) rfl) pa_nil))) pa_nil)))) (pss_cons (ps_if (pt_cmpR op_ne (pe_callB call_isi (by rfl) T.z_isinstance (by decide +kernel) (pa_cons (pv 0) (pa_cons (pe_bltn (v := .ty "list") (u := .type "list") (by rfl) T.z_list (by decide +kernel) rfl) pa_nil))) (pe_callB call_isi (by rfl) T.z_isinstance (by decide +kernel) (pa_cons (pv 1) (pa_cons (pe_bltn (v := .ty "list") (u := .type "list") (by rfl) T.z_list (by decide +kernel) rfl) pa_nil))) (nomark _)) (pss_one (ps_ret pe_bl)) pss_nil)
      (pss_cons (ps_if (PW.pt (pw_or (pt_cmpR op_ne (pe_callB call_isi (by rfl) T.z_isinstance (by decide +kernel) (pa_cons (pv 0) (pa_cons (pe_bltn (v := .ty "tuple") (u := .type "tuple") (by rfl) T.z_tuple (by decide +kernel) rfl) pa_nil))) (pe_callB call_isi (by rfl) T.z_isinstance (by decide +kernel) (pa_cons (pv 1) (pa_cons (pe_bltn (v := .ty "tuple") (u := .type "tuple") (by rfl) T.z_tuple (by decide +kernel) rfl) pa_nil))) (nomark _)) (pw_or1 (pt_cmpR op_ne (pe_callB call_len (by rfl) T.z_len (by decide +kernel) (pa_cons (pv 0) pa_nil)) (pe_callB call_len (by rfl) T.z_len (by decide +kernel) (pa_cons (pv 1) pa_nil)) (nomark _))))) (pss_one (ps_ret pe_bl)) pss_nil)
      (pss_one (ps_ret (pe_callB (cr_all rfl) (by rfl) T.z_all (by decide +kernel) (pa_cons (pe_lc (own := [("_law_a", 2), ("_law_b", 3)]) (g := (gTup K 2 (gCons (gName 2) (gCons (gName 3) gNil)))) (by rfl) sc__law_same.nd (RZ.pi_zipA (by rfl) T.z_zip (pa_cons (pv 0) (pa_cons (pv 1) pa_nil))) (blkOk_by (N := ["_law_found", "_law_due", "_law_a", "_law_b"]) (sc := defScope s__law_same) (by decide +kernel)) (fun _ _ _ _ _ => (pg_tup rfl (pgs_cons (pg_name (i := 2) sc__law_same.nd rfl (.inl rfl)) (pgs_cons (pg_name (i := 3) sc__law_same.nd rfl (.inl rfl)) pgs_nil)))) (fun _ _ _ _ _ => pts_nil) (fun _ _ _ _ _ => (pe_c c__law_same hr (Nat.le_refl _) (by rfl) (pa_cons (pv 2) (pa_cons (pv 3) pa_nil))))) pa_nil)))))) pss_nil)
      (pss_cons (ps_if (pt_val (pe_callB call_isiT (by rfl) T.z_isinstance (by decide +kernel) (pa_cons (pv 0) (pa_cons (pe_tup (pa_cons (pe_bltn (v := .ty "list") (u := .type "list") (by rfl) T.z_list (by decide +kernel) rfl) (pa_cons (pe_bltn (v := .ty "tuple") (u := .type "tuple") (by rfl) T.z_tuple (by decide +kernel) rfl) pa_nil))) pa_nil)))) (pss_one (ps_ret pe_bl)) pss_nil)
      (pss_cons (ps_if (pt_cmpR op_ne (pe_callB call_isi (by rfl) T.z_isinstance (by decide +kernel) (pa_cons (pv 0) (pa_cons (pe_bltn (v := .ty "bool") (u := .type "bool") (by rfl) T.z_bool (by decide +kernel) rfl) pa_nil))) (pe_callB call_isi (by rfl) T.z_isinstance (by decide +kernel) (pa_cons (pv 1) (pa_cons (pe_bltn (v := .ty "bool") (u := .type "bool") (by rfl) T.z_bool (by decide +kernel) rfl) pa_nil))) (nomark _)) (pss_one (ps_ret pe_bl)) pss_nil)
      (pss_cons (ps_if (pt_cmpR op_ne (pe_callB call_isi (by rfl) T.z_isinstance (by decide +kernel) (pa_cons (pv 0) (pa_cons (pe_bltn (v := .ty "int") (u := .type "int") (by rfl) T.z_int (by decide +kernel) rfl) pa_nil))) (pe_callB call_isi (by rfl) T.z_isinstance (by decide +kernel) (pa_cons (pv 1) (pa_cons (pe_bltn (v := .ty "int") (u := .type "int") (by rfl) T.z_int (by decide +kernel) rfl) pa_nil))) (nomark _)) (pss_one (ps_ret pe_bl)) pss_nil)
      (pss_one (ps_ret (pe_and (pe_cmpR op_eq (pe_callB call_isi (by rfl) T.z_isinstance (by decide +kernel) (pa_cons (pv 0) (pa_cons (pe_bltn (v := .ty "str") (u := .type "str") (by rfl) T.z_str (by decide +kernel) rfl) pa_nil))) (pe_callB call_isi (by rfl) T.z_isinstance (by decide +kernel) (pa_cons (pv 1) (pa_cons (pe_bltn (v := .ty "str") (u := .type "str") (by rfl) T.z_str (by decide +kernel) rfl) pa_nil))) (nomark _)) (pe_one (pe_cmpR op_eq (pv 0) (pv 1) (nomark _))))))))))), ?_⟩
    have kinds : (x = .non ∧ y = .non) ∨ (∃ (Ty : String) (r1 r2 r3 : Bool), x = y ∧ x ≠ .non ∧ (∀ H', TyX K H' x (.type Ty)) ∧ kitB Ty "list" = some false ∧ kitB Ty "tuple" = some false ∧ kitB Ty "bool" = some r1 ∧ kitB Ty "int" = some r2 ∧ kitB Ty "str" = some r3 ∧ scal x x = true) ∨
        (∃ (m : Nat) (a b : Addr) (xs ys : List V) (ds : List PyData), n = m + 1 ∧ x = .ref a ∧ y = .ref b ∧ SqL K H a xs ∧ SqL K H b ys ∧ DpAll K H xs ds ∧ DpAll K H ys ds ∧ ds.length ≤ 1000 ∧ ∀ d ∈ ds, Deep m d) ∨
        (∃ (m : Nat) (a b : Addr) (xs ys : List V) (ds : List PyData), n = m + 1 ∧ x = .ref a ∧ y = .ref b ∧ SqT K H a xs ∧ SqT K H b ys ∧ DpAll K H xs ds ∧ DpAll K H ys ds ∧ ds.length ≤ 1000 ∧ ∀ d ∈ ds, Deep m d) := by
      cases hx with
      | non =>
        cases hy
        exact .inl ⟨rfl, rfl⟩
      | bl b =>
        cases hy
        exact .inr (.inl ⟨"bool", true, true, false, rfl, (fun e => by cases e), fun _ => .base (.bl b), by decide +kernel, by decide +kernel, by decide +kernel, by decide +kernel, by decide +kernel, rfl⟩)
      | int b =>
        cases hy
        exact .inr (.inl ⟨"int", false, true, false, rfl, (fun e => by cases e), fun _ => .base (.int b), by decide +kernel, by decide +kernel, by decide +kernel, by decide +kernel, by decide +kernel, rfl⟩)
      | str b =>
        cases hy
        exact .inr (.inl ⟨"str", false, false, true, rfl, (fun e => by cases e), fun _ => .base (.str b), by decide +kernel, by decide +kernel, by decide +kernel, by decide +kernel, by decide +kernel, rfl⟩)
      | lst h1 h2 =>
        cases hy with
        | lst h3 h4 =>
          cases n with
          | zero =>
            unfold Deep at hd
            exact hd.elim
          | succ m =>
            unfold Deep at hd
            exact .inr (.inr (.inl ⟨m, _, _, _, _, _, rfl, rfl, rfl, h1, h3, h2, h4, hd.1, hd.2⟩))
      | tup h1 h2 =>
        cases hy with
        | tup h3 h4 =>
          cases n with
          | zero =>
            unfold Deep at hd
            exact hd.elim
          | succ m =>
            unfold Deep at hd
            exact .inr (.inr (.inr ⟨m, _, _, _, _, _, rfl, rfl, rfl, h1, h3, h2, h4, hd.1, hd.2⟩))
    rcases kinds with ⟨rfl, rfl⟩ | ⟨Ty, r1, r2, r3, rfl, hn, ht, k1, k2, k3, k4, k5, hs⟩ | ⟨m, a, b, xs, ys, ds, hm, rfl, rfl, hSx, hSy, hDx, hDy, hdl, hdd⟩ | ⟨m, a, b, xs, ys, ds, hm, rfl, rfl, hSx, hSy, hDx, hDy, hdl, hdd⟩
    · refine ⟨_, rfl, rfl, _, rfl, ite2 (fun _ => ?_) (fun h => absurd (decide_eq_true rfl) h)⟩
      refine iteT ?_
      refine ⟨_, rfl, rfl, _, rfl, ite2 (fun _ => ?_) (fun h => absurd (decide_eq_true rfl) h)⟩
      refine ⟨_, rfl, rfl, ?_⟩
      rw [decide_eq_true rfl]
      exact q _ (Same.refl H)
    · refine ⟨_, rfl, rfl, _, rfl, ite2 (fun h => absurd (of_decide_eq_true h) hn) (fun _ => ?_)⟩
      refine ⟨_, rfl, rfl, _, rfl, ite2 (fun h => absurd (of_decide_eq_true h) hn) (fun _ => ?_)⟩
      refine ⟨_, rfl, (show 2 ≤ sizeLine by decide), fun p np => ⟨_, p, _, _, _, false, rfl, upd_same, .cons (.ty _) (.cons (.ty _) .nil), ht _, kitAny_lt k1 k2, _, rfl, iteF ?_⟩⟩
      have s1 := same_upd (o := HO.tup [V.ty "list", V.ty "tuple"]) np
      refine ⟨_, rfl, (show 2 ≤ sizeLine by decide), fun p2 np2 => ⟨_, p2, _, _, _, false, rfl, upd_same, .cons (.ty _) (.cons (.ty _) .nil), ht _, kitAny_lt k1 k2, _, rfl, iteF ?_⟩⟩
      have s2 := s1.trans (same_upd (o := HO.tup [V.ty "list", V.ty "tuple"]) np2)
      refine ⟨_, rfl, _, _, _, _, r1, rfl, .ty _, ht _, kit_ty k3, _, rfl, _, _, _, _, r1, rfl, .ty _, ht _, kit_ty k3, rfl, _, rfl, iteNS rfl ?_⟩
      refine ⟨_, rfl, _, _, _, _, r2, rfl, .ty _, ht _, kit_ty k4, _, rfl, _, _, _, _, r2, rfl, .ty _, ht _, kit_ty k4, rfl, _, rfl, iteNS rfl ?_⟩
      refine ⟨_, rfl, _, _, _, _, r3, rfl, .ty _, ht _, kit_ty k5, _, rfl, _, _, _, _, r3, rfl, .ty _, ht _, kit_ty k5, rfl, _, rfl, ite2 (fun _ => ?_) (fun h => absurd (decide_eq_true rfl) h)⟩
      refine ⟨_, rfl, _, rfl, hs, ?_⟩
      rw [decide_eq_true rfl]
      exact q _ s2
    · refine ⟨_, rfl, rfl, _, rfl, ite2 (fun h => absurd (of_decide_eq_true h) (fun e => by cases e)) (fun _ => ?_)⟩
      refine ⟨_, rfl, rfl, _, rfl, ite2 (fun h => absurd (of_decide_eq_true h) (fun e => by cases e)) (fun _ => ?_)⟩
      refine ⟨_, rfl, (show 2 ≤ sizeLine by decide), fun p np => ?_⟩
      have s1 := same_upd (o := HO.tup [V.ty "list", V.ty "tuple"]) np
      have hSx1 := s1.seq hSx
      have hSy1 := s1.seq hSy
      refine ⟨_, p, _, _, _, true, rfl, upd_same, .cons (.ty _) (.cons (.ty _) .nil), tyL hSy1, kitAny_lt (r1 := true) (r2 := false) (by decide +kernel) (by decide +kernel), _, rfl, iteT ?_⟩
      refine ⟨_, rfl, _, _, _, _, true, rfl, .ty _, tyL hSx1, kit_ty (by decide +kernel), _, rfl, _, _, _, _, true, rfl, .ty _, tyL hSy1, kit_ty (by decide +kernel), rfl, _, rfl, iteNS rfl ?_⟩
      refine ⟨_, rfl, _, _, _, _, false, rfl, .ty _, tyL hSx1, kit_ty (by decide +kernel), _, rfl, _, _, _, _, false, rfl, .ty _, tyL hSy1, kit_ty (by decide +kernel), rfl, _, rfl, iteNS rfl ?_⟩
      refine ⟨_, rfl, _, _, rfl, .inl ⟨_, hSx1, rfl⟩, _, rfl, _, _, rfl, .inl ⟨_, hSy1, rfl⟩, rfl, _, rfl, iteNS (by rw [DpAll.len hDx, DpAll.len hDy]) ?_⟩
      refine ⟨_, rfl, _, rfl, a, b, xs, ys, rfl, .inl ⟨hSx1, hSy1, fun D hD => ?_⟩⟩
      refine lc_it (walk_zip (xs := xs) (ys := ys) (n := ds.length) (by rw [DpAll.len hDx, DpAll.len hDy, Nat.min_self])) (fun i H' => But D (upd H p (.tup [.ty "list", .ty "tuple"])) H' ∧ H' D = some (.lst (List.replicate i (.bl true)))) ⟨(same_upd hD).but, upd_same⟩ (fun i H' _ pv => ?_) ?_ ?_
      · have nD : ∀ c u, (upd H p (.tup [.ty "list", .ty "tuple"])) c = some u → c ≠ D := fun c u e => ne_of_none e hD
        exact ⟨seq_but nD pv.1 hSx1, seq_but nD pv.1 hSy1⟩
      · rintro i _ H' _ hi ⟨bt, hDD⟩ ⟨T', x1, y1, rfl, nT, rfl, hx1, hy1⟩
        obtain ⟨d1, e1, g1⟩ := DpAll.at hDx hx1
        obtain ⟨d2, e2, g2⟩ := DpAll.at hDy hy1
        have ed : d1 = d2 := Option.some.inj (e1.symm.trans e2)
        subst ed
        have nDT : D ≠ T' := ne_of_none hDD nT
        have sT := same_upd (o := HO.tup [x1, y1]) nT
        have nD : ∀ c u, H c = some u → c ≠ D := fun c u e => ne_of_none (s1 _ _ e) hD
        have sH : Same H (upd H' T' (.tup [x1, y1])) := fun c u e => sT _ _ (bt c u (nD c u e) (s1 _ _ e))
        refine ⟨T', [x1, y1], rfl, SqT.of upd_same, rfl, x1, [y1], rfl, y1, [], rfl, rfl, rfl, ?_⟩
        refine ⟨_, rfl, _, rfl, hsp m _ _ _ _ hm ⟨x1, y1, d1, rfl, Dp.same sH g1, Dp.same sH g2, hdd d1 (List.mem_of_getElem? e1), fun H2 s2 => ?_⟩⟩
        refine ⟨_, s2 _ _ (sT _ _ hDD), ?_, fun c u n e => ?_, ?_⟩
        · rw [List.length_replicate]
          exact sz1 (by omega)
        · rw [upd_ne n]
          exact s2 _ _ (sT _ _ (bt c u n e))
        · rw [upd_same, ← List.replicate_succ']
      · rintro H' ⟨bt, hDD⟩
        refine ⟨D, List.replicate ds.length true, rfl, SqL.of (by rw [hDD, List.map_replicate]), ?_⟩
        rw [show (List.replicate ds.length true).all id = true from by rw [List.all_eq_true]; intro z hz; rw [List.eq_of_mem_replicate hz]; rfl]
        exact q _ fun c u e => bt c u (ne_of_none (s1 _ _ e) hD) (s1 _ _ e)
    · refine ⟨_, rfl, rfl, _, rfl, ite2 (fun h => absurd (of_decide_eq_true h) (fun e => by cases e)) (fun _ => ?_)⟩
      refine ⟨_, rfl, rfl, _, rfl, ite2 (fun h => absurd (of_decide_eq_true h) (fun e => by cases e)) (fun _ => ?_)⟩
      refine ⟨_, rfl, (show 2 ≤ sizeLine by decide), fun p np => ?_⟩
      have s1 := same_upd (o := HO.tup [V.ty "list", V.ty "tuple"]) np
      have hSx1 := s1.tup hSx
      have hSy1 := s1.tup hSy
      refine ⟨_, p, _, _, _, true, rfl, upd_same, .cons (.ty _) (.cons (.ty _) .nil), tyT hSy1, kitAny_lt (r1 := false) (r2 := true) (by decide +kernel) (by decide +kernel), _, rfl, iteT ?_⟩
      refine ⟨_, rfl, _, _, _, _, false, rfl, .ty _, tyT hSx1, kit_ty (by decide +kernel), _, rfl, _, _, _, _, false, rfl, .ty _, tyT hSy1, kit_ty (by decide +kernel), rfl, _, rfl, iteNS rfl ?_⟩
      refine ⟨_, rfl, _, _, _, _, true, rfl, .ty _, tyT hSx1, kit_ty (by decide +kernel), _, rfl, _, _, _, _, true, rfl, .ty _, tyT hSy1, kit_ty (by decide +kernel), rfl, _, rfl, iteNS rfl ?_⟩
      refine ⟨_, rfl, _, _, rfl, .inr ⟨_, hSx1, rfl⟩, _, rfl, _, _, rfl, .inr ⟨_, hSy1, rfl⟩, rfl, _, rfl, iteNS (by rw [DpAll.len hDx, DpAll.len hDy]) ?_⟩
      refine ⟨_, rfl, _, rfl, a, b, xs, ys, rfl, .inr ⟨hSx1, hSy1, fun D hD => ?_⟩⟩
      refine lc_it (walk_zipT (xs := xs) (ys := ys) (n := ds.length) (by rw [DpAll.len hDx, DpAll.len hDy, Nat.min_self])) (fun i H' => But D (upd H p (.tup [.ty "list", .ty "tuple"])) H' ∧ H' D = some (.lst (List.replicate i (.bl true)))) ⟨(same_upd hD).but, upd_same⟩ (fun i H' _ pv => ?_) ?_ ?_
      · have nD : ∀ c u, (upd H p (.tup [.ty "list", .ty "tuple"])) c = some u → c ≠ D := fun c u e => ne_of_none e hD
        exact ⟨tup_but nD pv.1 hSx1, tup_but nD pv.1 hSy1⟩
      · rintro i _ H' _ hi ⟨bt, hDD⟩ ⟨T', x1, y1, rfl, nT, rfl, hx1, hy1⟩
        obtain ⟨d1, e1, g1⟩ := DpAll.at hDx hx1
        obtain ⟨d2, e2, g2⟩ := DpAll.at hDy hy1
        have ed : d1 = d2 := Option.some.inj (e1.symm.trans e2)
        subst ed
        have nDT : D ≠ T' := ne_of_none hDD nT
        have sT := same_upd (o := HO.tup [x1, y1]) nT
        have nD : ∀ c u, H c = some u → c ≠ D := fun c u e => ne_of_none (s1 _ _ e) hD
        have sH : Same H (upd H' T' (.tup [x1, y1])) := fun c u e => sT _ _ (bt c u (nD c u e) (s1 _ _ e))
        refine ⟨T', [x1, y1], rfl, SqT.of upd_same, rfl, x1, [y1], rfl, y1, [], rfl, rfl, rfl, ?_⟩
        refine ⟨_, rfl, _, rfl, hsp m _ _ _ _ hm ⟨x1, y1, d1, rfl, Dp.same sH g1, Dp.same sH g2, hdd d1 (List.mem_of_getElem? e1), fun H2 s2 => ?_⟩⟩
        refine ⟨_, s2 _ _ (sT _ _ hDD), ?_, fun c u n e => ?_, ?_⟩
        · rw [List.length_replicate]
          exact sz1 (by omega)
        · rw [upd_ne n]
          exact s2 _ _ (sT _ _ (bt c u n e))
        · rw [upd_same, ← List.replicate_succ']
      · rintro H' ⟨bt, hDD⟩
        refine ⟨D, List.replicate ds.length true, rfl, SqL.of (by rw [hDD, List.map_replicate]), ?_⟩
        rw [show (List.replicate ds.length true).all id = true from by rw [List.all_eq_true]; intro z hz; rw [List.eq_of_mem_replicate hz]; rfl]
        exact q _ fun c u e => bt c u (ne_of_none (s1 _ _ e) hD) (s1 _ _ e)
abbrev s__law_letters : Stmt := topS 61
theorem sc__law_letters : FnScope ["_law_bag", "_law_letters_here", "_law_many", "_law_found", "_law_low_here", "_law_k", "_law_at_z"] ["_law_bag", "_law_letters_here", "_law_many"] (defScope s__law_letters) := ⟨rfl, rfl, rfl, by decide +kernel, rfl, by decide +kernel, by decide +kernel⟩
theorem ok__law_letters {f : Addr} {fd : FuncData} (F : Fun K "_law_letters" "_law_letters" s__law_letters f fd) (T : Z mg) (c__law_draw : Cal P w K mg base CX0 1 "_law_draw" s__law_draw ["_law_bag", "_law_many"] (sp__law_draw K)) : FnOk P w K mg base CX0 2 f fd ["_law_bag", "_law_letters_here", "_law_many"] (sp__law_letters K) := by
  refine F.ok sc__law_letters (fun vs H Q E h => ?_) (fun cdv A outer s H vs Q E hr h => ?_)
  · obtain ⟨b, lb, L, k, rfl, _⟩ := h
    rfl
  · obtain ⟨b, lb, L, k, rfl, B, hk, hL, q⟩ := h
    refine ⟨_, (pss_cons (ps_asg (pe_tup (pa_cons pe_str (pa_cons pe_int pa_nil))) (pg_tup rfl (pgs_cons (pg_name (i := 3) sc__law_letters.nd rfl (.inl rfl)) (pgs_cons (pg_name (i := 4) sc__law_letters.nd rfl (.inl rfl)) pgs_nil))))
      (pss_cons (ps_for PassesOwn.never rfl (pi_range1 (by rfl) T.z_range (pa_cons (pv 2) pa_nil)) (pg_name (i := 5) sc__law_letters.nd rfl (.inl rfl))
        (pss_cons (ps_set (i := 6) sc__law_letters.nd rfl (.inl rfl) (pe_op op_add (pv 4) (pe_c c__law_draw hr (by decide) (by rfl) (pa_cons (pv 0) (pa_cons (pe_op op_sub (pe_op op_sub (pe_callB call_len_str (by rfl) T.z_len (by decide +kernel) (pa_cons (pv 1) pa_nil)) (pv 4)) (pe_op op_sub (pe_op op_sub (pv 2) pe_int) (pv 5))) pa_nil)))))
      (pss_one (ps_par (i := 3) (j := 4) (by rfl) sc__law_letters.nd rfl rfl (by decide) rfl rfl (pa_cons (pe_op op_add_str (pv 3) (pe_ix ix_str (pv 1) (pv 6) (fun _ _ => rfl))) (pa_cons (pe_op op_add (pv 6) pe_int) pa_nil)) (by rfl)))))
      (pss_one (ps_ret (pv 3))))), ?_⟩
    refine ⟨(show 2 ≤ sizeLine by decide), fun p np => ⟨p, _, rfl, SqT.of upd_same, rfl, _, _, rfl, _, _, rfl, rfl, _, rfl, k, rfl, by omega, by omega, ?_⟩⟩
    have s0 := same_upd (o := HO.tup [V.str "", V.int 0]) np
    refine for_range (n := ((k : Nat) : Int).toNat) (fun i σ H' => ∃ (r : List Nat) (low : Nat) (y5 y6 : Option V), σ = [some (.ref b), some (.str (S L)), some (.int k), some (.str (S r)), some (.int low), y5, y6] ∧ But b H H' ∧ Bag H' b lb ∧ List.Sublist r (L.take low) ∧ r.length = i ∧ low + (k - i) ≤ L.length)
      ⟨[], 0, none, none, rfl, s0.but, B.same s0, List.nil_sublist _, rfl, by omega⟩ ?_ ?_
    · rintro i σ H' hi ⟨r, low, y5, y6, rfl, hb, B', hs, hr', hlow⟩
      have hi : i < k := by omega
      refine ⟨_, rfl, _, rfl, _, rfl, _, rfl, by rw [S_len]; exact sz (by omega), _, rfl, _, _, rfl, rfl, _, rfl, _, _, rfl, rfl, _, rfl, _, _, rfl, rfl, _, _, rfl, rfl, ?_⟩
      rw [S_len]
      refine ⟨b, lb, _, rfl, B', by omega, by omega, fun H2 z z0 z1 hb2 B2 => ?_⟩
      refine ⟨_, _, rfl, rfl, ?_⟩
      have hz : low + z.toNat < L.length := by omega
      refine ⟨_, rfl, _, rfl, _, rfl, S L, _, L[low + z.toNat], rfl, rfl, by rw [S_len]; exact sz (by omega), atI_of (show (low : Int) + z = ((low + z.toNat : Nat) : Int) by omega) (List.getElem?_eq_getElem hz), _, _, rfl, rfl, ?_, _, rfl, _, _, rfl, rfl, _, _, rfl, ?_⟩
      · rw [S_len]
        exact sz (by show r.length + 1 ≤ 100000; omega)
      · refine ⟨r ++ [L[low + z.toNat]], low + z.toNat + 1, some (.int (0 + (i : Int))), some (.int ((low : Int) + z)), ?_, hb.trans hb2, B2, sub_next hs (by omega) hz, by rw [List.length_append, hr']; rfl, by omega⟩
        rw [← S_cat]
        have e : ((low : Int) + z + 1) = (((low + z.toNat + 1 : Nat)) : Int) := by omega
        rw [← e]
        rfl
    · rintro σ H' ⟨r, low, y5, y6, rfl, hb, B', hs, hr', hlow⟩
      exact ⟨_, rfl, q _ _ (hs.trans (List.take_sublist _ _)) (by omega) hb B'⟩
abbrev s__law_some_faces : Stmt := topS 62
theorem sc__law_some_faces : FnScope ["_law_bag", "_law_most"] ["_law_bag", "_law_most"] (defScope s__law_some_faces) := ⟨rfl, rfl, rfl, by decide +kernel, rfl, by decide +kernel, by decide +kernel⟩
theorem ok__law_some_faces {f : Addr} {fd : FuncData} (F : Fun K "_law_some_faces" "_law_some_faces" s__law_some_faces f fd) (T : Z mg) (c__law_draw : Cal P w K mg base CX0 1 "_law_draw" s__law_draw ["_law_bag", "_law_many"] (sp__law_draw K))
    (c__law_letters : Cal P w K mg base CX0 2 "_law_letters" s__law_letters ["_law_bag", "_law_letters_here", "_law_many"] (sp__law_letters K)) : FnOk P w K mg base CX0 3 f fd ["_law_bag", "_law_most"] (sp__law_some_faces K) := by
  refine F.ok sc__law_some_faces (fun vs H Q E h => ?_) (fun cdv A outer s H vs Q E hr h => ?_)
  · obtain ⟨b, lb, m, rfl, _⟩ := h
    rfl
  · obtain ⟨b, lb, m, rfl, B, h0, h1, q⟩ := h
    refine ⟨_, (pss_one (ps_ret (pe_c c__law_letters hr (by decide) (by rfl) (pa_cons (pv 0) (pa_cons pe_str (pa_cons (pe_op op_add pe_int (pe_c c__law_draw hr (by decide) (by rfl) (pa_cons (pv 0) (pa_cons (pv 1) pa_nil)))) pa_nil)))))), ?_⟩
    refine ⟨_, rfl, _, rfl, _, rfl, b, lb, _, rfl, B, by omega, by omega, fun H1 z z0 z1 hb B1 => ?_⟩
    refine ⟨_, _, rfl, rfl, b, lb, lower, 1 + z.toNat, ?_, B1, by rw [lower_len]; omega, by rw [lower_len]; omega, fun H2 r hs hr' hb2 B2 => ?_⟩
    · have e : (1 : Int) + z = ((1 + z.toNat : Nat) : Int) := by omega
      rw [← e]
      rfl
    · exact q _ r hs (by omega) (by omega) (hb.trans hb2) B2
abbrev s__law_some_cutters : Stmt := topS 63
theorem sc__law_some_cutters : FnScope ["_law_bag", "_law_most"] ["_law_bag", "_law_most"] (defScope s__law_some_cutters) := ⟨rfl, rfl, rfl, by decide +kernel, rfl, by decide +kernel, by decide +kernel⟩
theorem upper_len : upper.length = 26 := by decide +kernel
def sp__law_some_cutters (K : PySem.W.Frag) : Sp := fun vs H Q _ => ∃ (b lb : Addr) (m : Nat), vs = [.ref b, .int m] ∧ Bag H b lb ∧ 0 < m ∧ m ≤ 26 ∧ ∀ H' r, List.Sublist r upper → 0 < r.length → r.length ≤ m → But b H H' → Bag H' b lb → Q (.str (S r)) H'
theorem ok__law_some_cutters {f : Addr} {fd : FuncData} (F : Fun K "_law_some_cutters" "_law_some_cutters" s__law_some_cutters f fd) (T : Z mg) (c__law_draw : Cal P w K mg base CX0 1 "_law_draw" s__law_draw ["_law_bag", "_law_many"] (sp__law_draw K))
    (c__law_letters : Cal P w K mg base CX0 2 "_law_letters" s__law_letters ["_law_bag", "_law_letters_here", "_law_many"] (sp__law_letters K)) : FnOk P w K mg base CX0 3 f fd ["_law_bag", "_law_most"] (sp__law_some_cutters K) := by
  refine F.ok sc__law_some_cutters (fun vs H Q E h => ?_) (fun cdv A outer s H vs Q E hr h => ?_)
  · obtain ⟨b, lb, m, rfl, _⟩ := h
    rfl
  · obtain ⟨b, lb, m, rfl, B, h0, h1, q⟩ := h
    refine ⟨_, (pss_one (ps_ret (pe_c c__law_letters hr (by decide) (by rfl) (pa_cons (pv 0) (pa_cons pe_str (pa_cons (pe_op op_add pe_int (pe_c c__law_draw hr (by decide) (by rfl) (pa_cons (pv 0) (pa_cons (pv 1) pa_nil)))) pa_nil)))))), ?_⟩
    refine ⟨_, rfl, _, rfl, _, rfl, b, lb, _, rfl, B, by omega, by omega, fun H1 z z0 z1 hb B1 => ?_⟩
    refine ⟨_, _, rfl, rfl, b, lb, upper, 1 + z.toNat, ?_, B1, by rw [upper_len]; omega, by rw [upper_len]; omega, fun H2 r hs hr' hb2 B2 => ?_⟩
    · have e : (1 : Int) + z = ((1 + z.toNat : Nat) : Int) := by omega
      rw [← e]
      rfl
    · exact q _ r hs (by omega) (by omega) (hb.trans hb2) B2
abbrev s__law_part : Stmt := topS 64
theorem sc__law_part : FnScope ["_law_bag", "_law_letters_here", "_law_chosen", "_law_letter"] ["_law_bag", "_law_letters_here"] (defScope s__law_part) := ⟨rfl, rfl, rfl, by decide +kernel, rfl, by decide +kernel, by decide +kernel⟩
/-- a part of a drawn line -/
def PartR (r L : List Nat) : Prop := r = [46] ∨ (List.Sublist r L ∧ 0 < r.length)
def sp__law_part (K : PySem.W.Frag) : Sp := fun vs H Q _ => ∃ (b lb : Addr) (L : List Nat), vs = [.ref b, .str (S L)] ∧ Bag H b lb ∧ L.length ≤ 100 ∧ ∀ H' r, PartR r L → But b H H' → Bag H' b lb → Q (.str (S r)) H'
theorem ok__law_part {f : Addr} {fd : FuncData} (F : Fun K "_law_part" "_law_part" s__law_part f fd) (T : Z mg) (c__law_draw : Cal P w K mg base CX0 1 "_law_draw" s__law_draw ["_law_bag", "_law_many"] (sp__law_draw K)) : FnOk P w K mg base CX0 2 f fd ["_law_bag", "_law_letters_here"] (sp__law_part K) := by
  refine F.ok sc__law_part (fun vs H Q E h => ?_) (fun cdv A outer s H vs Q E hr h => ?_)
  · obtain ⟨b, lb, L, rfl, _⟩ := h
    rfl
  obtain ⟨b, lb, L, rfl, B, hL, q⟩ := h
  refine ⟨_, (pss_cons (ps_set (i := 2) sc__law_part.nd rfl (.inl rfl) (pe_join pe_str (pe_lc (own := [("_law_letter", 3)]) (g := (gName 3)) (by rfl) sc__law_part.nd (pi_str (pv 1)) (blkOk_by (N := ["_law_bag", "_law_letters_here", "_law_chosen", "_law_letter"]) (sc := defScope s__law_part) (by decide +kernel)) (fun _ _ _ _ _ => (pg_name (i := 3) sc__law_part.nd rfl (.inl rfl))) (fun _ _ _ _ _ => (pts_one (pt_cmpR op_eq (pe_c c__law_draw hr (by decide) (by rfl) (pa_cons (pv 0) (pa_cons pe_int pa_nil))) pe_int (nomark _)))) (fun _ _ _ _ _ => (pv 3)))))
      (pss_one (ps_ret (pe_ifExp (PW.pt (pw_and (pt_cmpR op_ne (pv 2) pe_str (nomark _)) (pw_and1 (pt_cmpR op_gt (pe_c c__law_draw hr (by decide) (by rfl) (pa_cons (pv 0) (pa_cons pe_int pa_nil))) pe_int (nomark _))))) (pv 2) pe_str)))), ?_⟩
  refine ⟨⟨_, rfl⟩, _, rfl, S L, rfl, fun D hD => ?_⟩
  have nDb : D ≠ b := B.ne hD
  have nDl : D ≠ lb := B.ne2 hD
  have nD : ∀ a o, H a = some o → a ≠ D := fun a o e => ne_of_none e hD
  refine lc_it walk_str (fun i H' => ∃ r : List Nat, List.Sublist r (L.take i) ∧ H' D = some (.lst (r.map sgn)) ∧ Bag H' b lb ∧ But b H H') ⟨[], List.nil_sublist _, upd_same, B.same (same_upd hD), (same_upd hD).but⟩ (fun _ _ _ _ => trivial) ?_ ?_
  · rintro i x H' _ hi ⟨r, hr', hDD, B', ho⟩ ⟨rfl, c, hc, rfl⟩
    have hi' : i < L.length := hi
    have hci : L[i]? = some c := by
      have : L.toArray[i]? = some c := hc
      rwa [List.getElem?_toArray] at this
    refine ⟨rfl, _, rfl, b, lb, _, rfl, B', by decide, by decide, fun H2 z z0 z1 b2 B2 => ?_⟩
    have hsub : ∀ s, List.Sublist r s → List.Sublist (r ++ [c]) (s ++ [c]) := fun s h => h.append (List.Sublist.refl _)
    have htk : L.take (i + 1) = L.take i ++ [c] := by rw [List.take_add_one, hci]; rfl
    have hl : r.length ≤ 100 := Nat.le_trans hr'.length_le (Nat.le_trans (List.length_take_le _ _) (by omega))
    refine ⟨rfl, _, rfl, ite_dec (fun _ => ?_) (fun _ => ?_)⟩
    · refine ⟨_, rfl, _, b2 _ _ nDb hDD, by rw [List.length_map]; exact sz1 (by omega), r ++ [c], by rw [htk]; exact hsub _ hr', ?_, ?_, fun a o n e => ?_⟩
      · rw [upd_same, List.map_append]
        rfl
      · exact B2.upd nDb nDl
      · rw [upd_ne (nD a o e)]
        exact b2 _ _ n (ho a o n e)
    · exact ⟨r, by rw [htk]; exact hr'.trans (List.sublist_append_left _ _), b2 _ _ nDb hDD, B2, ho.trans b2⟩
  · rintro H' ⟨r, hr', hDD, B', ho⟩
    have hrl : r.length ≤ 100 := Nat.le_trans hr'.length_le (Nat.le_trans (List.length_take_le _ _) (by omega))
    have hrs : List.Sublist r L := hr'.trans (List.take_sublist _ _)
    refine ⟨S [], D, (r.map fun c => [c]).map S, rfl, rfl, .inl (SqL.of ?_), ?_, ?_⟩
    · rw [hDD, List.map_map, List.map_map]
      rfl
    · rw [lens_ones]
      show r.length + _ * 0 ≤ _
      omega
    rw [join_ones]
    refine ⟨_, rfl, rfl, _, rfl, ite_ndec (fun e => ?_) (fun e => iteF (q _ [46] (.inl rfl) ho B'))⟩
    have h0 : 0 < r.length := Nat.pos_of_ne_zero fun h0 => e (by rw [List.eq_nil_of_length_eq_zero h0]; rfl)
    exact ⟨_, rfl, b, lb, _, rfl, B', by decide, by decide, fun H2 z z0 z1 b2 B2 => ⟨_, _, rfl, rfl, _, rfl, ite_dec (fun _ => ⟨_, rfl, q _ r (.inr ⟨hrs, h0⟩) (ho.trans b2) B2⟩) (fun _ => q _ [46] (.inl rfl) (ho.trans b2) B2)⟩⟩
abbrev s__law_some_cut : Stmt := topS 66
theorem sc__law_some_cut : FnScope ["_law_bag", "_law_faces"] ["_law_bag", "_law_faces"] (defScope s__law_some_cut) := ⟨rfl, rfl, rfl, by decide +kernel, rfl, by decide +kernel, by decide +kernel⟩
theorem ok__law_some_cut {f : Addr} {fd : FuncData} (F : Fun K "_law_some_cut" "_law_some_cut" s__law_some_cut f fd) (c__law_of : Cal P w K mg base CX0 2 "_law_of" s__law_of ["_law_bag", "_law_things"] (sp__law_of K)) : FnOk P w K mg base CX0 3 f fd ["_law_bag", "_law_faces"] (sp__law_some_cut K) := by
  refine F.ok sc__law_some_cut (fun vs H Q E h => ?_) (fun cdv A outer s H vs Q E hr h => ?_)
  · obtain ⟨b, lb, m, rfl, _⟩ := h
    rfl
  · obtain ⟨b, lb, fs, rfl, B, h0, h1, q⟩ := h
    refine ⟨_, (pss_one (ps_ret (pe_op op_add_str (pe_op op_add_str (pe_c c__law_of hr (by decide) (by rfl) (pa_cons (pv 0) (pa_cons pe_str pa_nil))) (pe_c c__law_of hr (by decide) (by rfl) (pa_cons (pv 0) (pa_cons (pv 1) pa_nil)))) (pe_c c__law_of hr (by decide) (by rfl) (pa_cons (pv 0) (pa_cons (pv 1) pa_nil)))))), ?_⟩
    have ln : 0 < (fs.map sgn).length := by rw [List.length_map]; exact h0
    have lm : (fs.map sgn).length ≤ 100000 := by rw [List.length_map]; omega
    refine ⟨_, rfl, b, lb, _, [124, 45].map sgn, rfl, B, .inr (.inr ⟨[124, 45], rfl, rfl⟩), by decide, by decide, fun H1 v1 m1 b1 B1 => ?_⟩
    obtain ⟨c1, n1, rfl⟩ := of_str (H := H) (b := b) m1
    refine ⟨_, rfl, _, rfl, b, lb, _, fs.map sgn, rfl, B1, .inr (.inr ⟨fs, rfl, rfl⟩), ln, lm, fun H2 v2 m2 b2 B2 => ?_⟩
    obtain ⟨c2, n2, rfl⟩ := of_str (H := H) (b := b) m2
    refine ⟨_, _, rfl, rfl, (show 2 ≤ sizeLine by decide), _, rfl, _, rfl, b, lb, _, fs.map sgn, rfl, B2, .inr (.inr ⟨fs, rfl, rfl⟩), ln, lm, fun H3 v3 m3 b3 B3 => ?_⟩
    obtain ⟨c3, n3, rfl⟩ := of_str (H := H) (b := b) m3
    refine ⟨_, _, rfl, rfl, (show 3 ≤ sizeLine by decide), ?_⟩
    refine q H3 c1 c2 c3 ?_ n2 n3 ((b1.trans b2).trans b3) B3
    rcases List.mem_cons.mp n1 with e | e
    · exact .inl e
    · exact .inr (List.mem_singleton.mp e)
abbrev s__law_some_room : Stmt := topS 65
theorem sc__law_some_room : FnScope ["_law_bag", "_law_faces"] ["_law_bag", "_law_faces"] (defScope s__law_some_room) := ⟨rfl, rfl, rfl, by decide +kernel, rfl, by decide +kernel, by decide +kernel⟩
theorem ok__law_some_room {f : Addr} {fd : FuncData} (F : Fun K "_law_some_room" "_law_some_room" s__law_some_room f fd) (c__law_of : Cal P w K mg base CX0 2 "_law_of" s__law_of ["_law_bag", "_law_things"] (sp__law_of K)) : FnOk P w K mg base CX0 3 f fd ["_law_bag", "_law_faces"] (sp__law_some_room K) := by
  refine F.ok sc__law_some_room (fun vs H Q E h => ?_) (fun cdv A outer s H vs Q E hr h => ?_)
  · obtain ⟨b, lb, m, rfl, _⟩ := h
    rfl
  · obtain ⟨b, lb, fs, rfl, B, h0, h1, q⟩ := h
    refine ⟨_, (pss_one (ps_ret (pe_op op_add_str (pe_op op_add_str (pe_op op_add_str (pe_c c__law_of hr (by decide) (by rfl) (pa_cons (pv 0) (pa_cons (pv 1) pa_nil))) (pe_c c__law_of hr (by decide) (by rfl) (pa_cons (pv 0) (pa_cons (pv 1) pa_nil)))) (pe_c c__law_of hr (by decide) (by rfl) (pa_cons (pv 0) (pa_cons (pv 1) pa_nil)))) (pe_c c__law_of hr (by decide) (by rfl) (pa_cons (pv 0) (pa_cons (pv 1) pa_nil)))))), ?_⟩
    have ln : 0 < (fs.map sgn).length := by rw [List.length_map]; exact h0
    have lm : (fs.map sgn).length ≤ 100000 := by rw [List.length_map]; omega
    refine ⟨_, rfl, _, rfl, b, lb, _, fs.map sgn, rfl, B, .inr (.inr ⟨fs, rfl, rfl⟩), ln, lm, fun H1 v1 m1 b1 B1 => ?_⟩
    refine ⟨_, rfl, _, rfl, b, lb, _, fs.map sgn, rfl, B1, .inr (.inr ⟨fs, rfl, rfl⟩), ln, lm, fun H2 v2 m2 b2 B2 => ?_⟩
    obtain ⟨c1, n1, rfl⟩ := of_str (H := H) (b := b) m1
    obtain ⟨c2, n2, rfl⟩ := of_str (H := H) (b := b) m2
    refine ⟨_, _, rfl, rfl, (show 2 ≤ sizeLine by decide), _, rfl, _, rfl, b, lb, _, fs.map sgn, rfl, B2, .inr (.inr ⟨fs, rfl, rfl⟩), ln, lm, fun H3 v3 m3 b3 B3 => ?_⟩
    obtain ⟨c3, n3, rfl⟩ := of_str (H := H) (b := b) m3
    refine ⟨_, _, rfl, rfl, (show 3 ≤ sizeLine by decide), _, rfl, _, rfl, b, lb, _, fs.map sgn, rfl, B3, .inr (.inr ⟨fs, rfl, rfl⟩), ln, lm, fun H4 v4 m4 b4 B4 => ?_⟩
    obtain ⟨c4, n4, rfl⟩ := of_str (H := H) (b := b) m4
    refine ⟨_, _, rfl, rfl, (show 4 ≤ sizeLine by decide), ?_⟩
    exact q H4 c1 c2 c3 c4 n1 n2 n3 n4 (((b1.trans b2).trans b3).trans b4) B4
abbrev s_is_string : Stmt := topS 25
theorem sc_is_string : FnScope ["value", "faces", "face"] ["value", "faces"] (defScope s_is_string) := ⟨rfl, rfl, rfl, by decide +kernel, rfl, by decide +kernel, by decide +kernel⟩
theorem ok_is_string {f : Addr} {fd : FuncData} (F : Fun K "is_string" "is_string" s_is_string f fd) (T : Z mg) : FnOk P w K mg base CX0 1 f fd ["value", "faces"] (sp_is_string K) := by
  refine F.ok sc_is_string (fun vs H Q E h => ?_) (fun cdv A outer s H vs Q E hr h => ?_)
  · obtain ⟨v, fs, rfl, _⟩ := h
    rfl
  · obtain ⟨v, fs, rfl, hv, q⟩ := h
    refine ⟨_, (pss_one (ps_ret (pe_and (pe_callB call_isi (by rfl) T.z_isinstance (by decide +kernel) (pa_cons (pv 0) (pa_cons (pe_bltn (v := .ty "str") (u := .type "str") (by rfl) T.z_str (by decide +kernel) rfl) pa_nil))) (pe_one (pe_callB (cr_all rfl) (by rfl) T.z_all (by decide +kernel) (pa_cons (pe_lc (own := [("face", 2)]) (g := (gName 2)) (by rfl) sc_is_string.nd (pi_str (pv 0)) (blkOk_by (N := ["value", "faces", "face"]) (sc := defScope s_is_string) (by decide +kernel)) (fun _ _ _ _ _ => (pg_name (i := 2) sc_is_string.nd rfl (.inl rfl))) (fun _ _ _ _ _ => pts_nil) (fun _ _ _ _ _ => (pe_cmpR op_in_sign (pv 2) (pv 1) rfl))) pa_nil)))))), ?_⟩
    rcases hv with ⟨hs, hl⟩ | ⟨hs, T, ht, hk⟩
    · obtain ⟨z, rfl⟩ := str_of hs
      refine ⟨_, rfl, _, _, _, _, true, rfl, .ty _, .base (.str z), kit_ty (by decide +kernel), true, rfl, iteT ?_⟩
      refine ⟨_, rfl, z, rfl, fun D hD => lc_it walk_str (fun i H' => H' = upd H D (.lst ((z.cps.toList.take i).map fun c => V.bl (decide (c ∈ fs.cps.toList))))) rfl (fun _ _ _ _ => trivial) ?_ ?_⟩
      · rintro i x _ _ hi rfl ⟨rfl, c, hc, rfl⟩
        refine ⟨rfl, ?_⟩
        refine ⟨_, rfl, _, rfl, c, fs, rfl, rfl, _, upd_same, ?_, ?_⟩
        · rw [List.length_map, List.length_take]
          have hl : z.cps.size ≤ 100000 := hl
          exact sz1 (Nat.le_trans (Nat.min_le_left _ _) (by omega))
        · rw [upd_upd]
          have e : z.cps.toList.take (i + 1) = z.cps.toList.take i ++ [c] := by
            rw [List.take_add_one]
            have : z.cps.toList[i]? = some c := by rw [Array.getElem?_toList]; exact hc
            rw [this]
            rfl
          rw [e, List.map_append]
          rfl
      · rintro H' rfl
        refine ⟨D, z.cps.toList.map fun c => decide (c ∈ fs.cps.toList), rfl, SqL.of ?_, ?_⟩
        · rw [upd_same, List.take_of_length_le (by simp), List.map_map]
          rfl
        · have e : (z.cps.toList.map fun c => decide (c ∈ fs.cps.toList)).all id = bString (.str z) fs := by
            unfold bString isStr strOf
            rw [List.all_map]
            rfl
          rw [e]
          exact q _ (same_upd hD)
    · refine ⟨_, rfl, _, _, _, _, false, rfl, .ty _, ht, kit_ty hk, false, rfl, iteF ?_⟩
      have e : bString v fs = false := by
        unfold bString
        rw [hs]
        rfl
      rw [e] at q
      exact q _ (Same.refl H)
theorem kb_is_string_0_faces_value : KB K "is_string" s_is_string ["value", "faces"] ["faces", "value"] swp swp := kb_swap fun _ _ _ _ _ _ _ _ => rfl
abbrev s_is_ascending : Stmt := topS 20
theorem sc_is_ascending : FnScope ["text", "one", "other"] ["text"] (defScope s_is_ascending) := ⟨rfl, rfl, rfl, by decide +kernel, rfl, by decide +kernel, by decide +kernel⟩
theorem ok_is_ascending {f : Addr} {fd : FuncData} (F : Fun K "is_ascending" "is_ascending" s_is_ascending f fd) (T : Z mg) : FnOk P w K mg base CX0 1 f fd ["text"] (sp_is_ascending K) := by
  refine F.ok sc_is_ascending (fun vs H Q E h => ?_) (fun cdv A outer s H vs Q E hr h => ?_)
  · obtain ⟨l, rfl, _⟩ := h
    rfl
  · obtain ⟨l, rfl, hl, q⟩ := h
    refine ⟨_, (pss_one (ps_ret (pe_callB (cr_all rfl) (by rfl) T.z_all (by decide +kernel) (pa_cons (pe_lc (own := [("one", 1), ("other", 2)]) (g := (gTup K 2 (gCons (gName 1) (gCons (gName 2) gNil)))) (by rfl) sc_is_ascending.nd (pi_zipG (by rfl) T.z_zip (pa_cons (pv 0) (pa_cons (pe_slice sl_str (pv 0) (po_some pe_int) po_none) pa_nil))) (blkOk_by (N := ["text", "one", "other"]) (sc := defScope s_is_ascending) (by decide +kernel)) (fun _ _ _ _ _ => (pg_tup rfl (pgs_cons (pg_name (i := 1) sc_is_ascending.nd rfl (.inl rfl)) (pgs_cons (pg_name (i := 2) sc_is_ascending.nd rfl (.inl rfl)) pgs_nil)))) (fun _ _ _ _ _ => pts_nil) (fun _ _ _ _ _ => (pe_cmpR op_lt_str (pv 1) (pv 2) (nomark _)))) pa_nil)))), ?_⟩
    refine ⟨_, rfl, _, rfl, 1, rfl, _, rfl, by rw [S_len]; exact sz hl, ?_⟩
    rw [show cutS (S l) (some 1) none = S (l.drop 1) from S_sub l 1]
    refine ⟨_, _, l.map sgn, (l.drop 1).map sgn, rfl, .s rfl, .s rfl, fun k1 k2 _ _ g1 g2 D hD => ?_⟩
    have stay : ∀ (k : SK) (H' : Hp) (xs : List V), (k.val = .str (S l) ∨ k.val = .str (S (l.drop 1))) → k.src K H xs → k.src K H' xs := fun k H' xs h q => by
      cases k with
      | l a => rcases h with h | h <;> cases h
      | t a => rcases h with h | h <;> cases h
      | s x t => exact q
    have hk1 : ∀ H', k1.src K H' (l.map sgn) := fun H' => stay k1 H' _ (.inl (by assumption)) g1
    have hk2 : ∀ H', k2.src K H' ((l.drop 1).map sgn) := fun H' => stay k2 H' _ (.inr (by assumption)) g2
    refine lc_it (walk_zipG (xs := l.map sgn) (ys := (l.drop 1).map sgn) (n := l.length - 1) (by rw [List.length_map, List.length_map, List.length_drop]; omega)) (fun i H' => But D H H' ∧ ∃ bs : List Bool, H' D = some (.lst (bs.map V.bl)) ∧ bs.length = i ∧ bs.all id = ascB (l.take (i + 1)))
      ⟨(same_upd hD).but, [], upd_same, rfl, ?_⟩ (fun i H' _ _ => ⟨hk1 H', hk2 H'⟩) ?_ ?_
    · cases l with
      | nil => rfl
      | cons a r => rfl
    · rintro i _ H' _ hi ⟨bt, bs, hDD, hbl, hba⟩ ⟨T', x1, y1, rfl, nT, rfl, hx1, hy1⟩
      have h1 : i + 1 < l.length := by omega
      have ex : x1 = sgn l[i] := by
        have : (l.map sgn)[i]? = some x1 := hx1
        rw [List.getElem?_map, List.getElem?_eq_getElem (by omega)] at this
        exact (Option.some.inj this).symm
      have ey : y1 = sgn l[i + 1] := by
        have : ((l.drop 1).map sgn)[i]? = some y1 := hy1
        rw [List.getElem?_map, List.getElem?_drop, Nat.add_comm 1 i, List.getElem?_eq_getElem h1] at this
        exact (Option.some.inj this).symm
      subst ex ey
      have nDT : D ≠ T' := ne_of_none hDD nT
      refine ⟨T', _, rfl, SqT.of upd_same, rfl, _, _, rfl, _, [], rfl, rfl, rfl, ?_⟩
      refine ⟨_, rfl, _, rfl, _, _, rfl, rfl, _, (same_upd nT) _ _ hDD, by rw [List.length_map]; exact sz1 (by omega), fun a o n e => ?_, bs ++ [decide (l[i] < l[i + 1])], ?_, by rw [List.length_append, hbl]; rfl, ?_⟩
      · rw [upd_ne n]
        exact (same_upd nT) _ _ (bt a o n e)
      · rw [upd_same, List.map_append]
        exact congrArg (fun z => some (HO.lst (bs.map V.bl ++ [V.bl z]))) (lt_sgn _ _)
      · rw [List.all_append, hba, asc_next l i h1]
        show (_ && (_ && true)) = _
        rw [Bool.and_true]
        rfl
    · rintro H' ⟨bt, bs, hDD, hbl, hba⟩
      refine ⟨D, bs, rfl, SqL.of hDD, ?_⟩
      rw [hba, List.take_of_length_le (by omega)]
      exact q _ (but_fresh (Same.refl H) hD bt)
abbrev s_is_choice : Stmt := topS 21
theorem sc_is_choice : FnScope ["value", "letters", "most"] ["value", "letters", "most"] (defScope s_is_choice) := ⟨rfl, rfl, rfl, by decide +kernel, rfl, by decide +kernel, by decide +kernel⟩
theorem ok_is_choice {f : Addr} {fd : FuncData} (F : Fun K "is_choice" "is_choice" s_is_choice f fd) (T : Z mg) (c_is_string : Cal P w K mg base CX0 1 "is_string" s_is_string ["value", "faces"] (sp_is_string K))
    (c_is_ascending : Cal P w K mg base CX0 1 "is_ascending" s_is_ascending ["text"] (sp_is_ascending K)) : FnOk P w K mg base CX0 2 f fd ["value", "letters", "most"] (sp_is_choice K) := by
  refine F.ok sc_is_choice (fun vs H Q E h => ?_) (fun cdv A outer s H vs Q E hr h => ?_)
  · obtain ⟨v, L, m, rfl, _⟩ := h
    rfl
  · obtain ⟨v, L, m, rfl, hv, q⟩ := h
    refine ⟨_, (pss_cons (ps_if (PW.pt (pw_or (pt_not (pt_val (pe_callB call_isi (by rfl) T.z_isinstance (by decide +kernel) (pa_cons (pv 0) (pa_cons (pe_bltn (v := .ty "str") (u := .type "str") (by rfl) T.z_str (by decide +kernel) rfl) pa_nil))))) (pw_or1 (pt_not (pt_chain op_le op_le pe_int (pe_callB call_len_str (by rfl) T.z_len (by decide +kernel) (pa_cons (pv 0) pa_nil)) (pv 2)))))) (pss_one (ps_ret pe_bl)) pss_nil)
      (pss_one (ps_ret (pe_and (pe_c c_is_string hr (by decide) (by rfl) (pa_cons (pv 0) (pa_cons (pv 1) pa_nil))) (pe_one (pe_c c_is_ascending hr (by decide) (by rfl) (pa_cons (pv 0) pa_nil))))))), ?_⟩
    rcases hv with ⟨hs, hl⟩ | ⟨hs, Ty, ht, hk⟩
    · obtain ⟨z, rfl⟩ := str_of hs
      have hl : z.cps.size ≤ 100000 := hl
      refine ⟨_, rfl, _, _, _, _, true, rfl, .ty _, .base (.str z), kit_ty (by decide +kernel), true, rfl, iteF ?_⟩
      refine ⟨_, rfl, z, rfl, sz hl, _, _, rfl, rfl, _, rfl, ?_⟩
      cases h1 : decide ((1 : Int) ≤ (z.length : Int)) with
      | false =>
        refine iteF ⟨_, rfl, iteT ?_⟩
        have e : bChoice (.str z) L m = false := bChoice_1 h1
        rw [e] at q
        exact q _ (Same.refl H)
      | true =>
        refine iteT ⟨_, rfl, _, _, rfl, rfl, _, rfl, ?_⟩
        cases h2 : decide ((z.length : Int) ≤ m) with
        | false =>
          refine iteT ?_
          have e : bChoice (.str z) L m = false := bChoice_2 h2
          rw [e] at q
          exact q _ (Same.refl H)
        | true =>
          refine iteF ?_
          refine ⟨_, rfl, _, rfl, _, _, rfl, .inl ⟨rfl, hl⟩, fun H1 s1 => ⟨_, rfl, ?_⟩⟩
          have e : bChoice (.str z) L m = (bString (.str z) (S L) && ascB z.cps.toList) := bChoice_3 h1 h2
          cases h3 : bString (.str z) (S L) with
          | false =>
            rw [h3] at e
            rw [e] at q
            exact iteF (q _ s1)
          | true =>
            rw [h3] at e
            refine iteT ⟨_, rfl, z.cps.toList, by rw [S_tl z]; rfl, by simpa using hl, fun H2 s2 => ?_⟩
            rw [e] at q
            exact q _ (s1.trans s2)
    · refine ⟨_, rfl, _, _, _, _, false, rfl, .ty _, ht, kit_ty hk, false, rfl, iteT (iteT ?_)⟩
      have e : bChoice v L m = false := by
        unfold bChoice
        rw [hs]
        rfl
      rw [e] at q
      exact q _ (Same.refl H)
abbrev s_is_faces : Stmt := topS 22
theorem sc_is_faces : FnScope ["value"] ["value"] (defScope s_is_faces) := ⟨rfl, rfl, rfl, by decide +kernel, rfl, by decide +kernel, by decide +kernel⟩
theorem ok_is_faces {f : Addr} {fd : FuncData} (F : Fun K "is_faces" "is_faces" s_is_faces f fd) {t1 t2 : Tok} (g__LOWER : mg "_LOWER" = some (.str "abcdefghijklmnopqrstuvwxyz" t1)) (g__MOST_FACES : mg "_MOST_FACES" = some (.int 6 t2))
    (c_is_choice : Cal P w K mg base CX0 2 "is_choice" s_is_choice ["value", "letters", "most"] (sp_is_choice K)) : FnOk P w K mg base CX0 3 f fd ["value"] (sp_is_faces K) := by
  refine F.ok sc_is_faces (fun vs H Q E h => ?_) (fun cdv A outer s H vs Q E hr h => ?_)
  · obtain ⟨v, rfl, _⟩ := h
    rfl
  · obtain ⟨v, rfl, hv, q⟩ := h
    refine ⟨_, (pss_one (ps_ret (pe_c c_is_choice hr (by decide) (by rfl) (pa_cons (pv 0) (pa_cons (pe_glob (v := .str "abcdefghijklmnopqrstuvwxyz") rfl g__LOWER ⟨_, rfl⟩) (pa_cons (pe_glob (v := .int 6) rfl g__MOST_FACES ⟨_, rfl⟩) pa_nil)))))), ?_⟩
    exact ⟨_, rfl, v, lower, 6, rfl, hv, q⟩
abbrev s_is_cutters : Stmt := topS 23
theorem sc_is_cutters : FnScope ["value"] ["value"] (defScope s_is_cutters) := ⟨rfl, rfl, rfl, by decide +kernel, rfl, by decide +kernel, by decide +kernel⟩
theorem ok_is_cutters {f : Addr} {fd : FuncData} (F : Fun K "is_cutters" "is_cutters" s_is_cutters f fd) {t1 t2 : Tok} (g__UPPER : mg "_UPPER" = some (.str "ABCDEFGHIJKLMNOPQRSTUVWXYZ" t1)) (g__MOST_CUTTERS : mg "_MOST_CUTTERS" = some (.int 4 t2))
    (c_is_choice : Cal P w K mg base CX0 2 "is_choice" s_is_choice ["value", "letters", "most"] (sp_is_choice K)) : FnOk P w K mg base CX0 3 f fd ["value"] (sp_is_cutters K) := by
  refine F.ok sc_is_cutters (fun vs H Q E h => ?_) (fun cdv A outer s H vs Q E hr h => ?_)
  · obtain ⟨v, rfl, _⟩ := h
    rfl
  · obtain ⟨v, rfl, hv, q⟩ := h
    refine ⟨_, (pss_one (ps_ret (pe_c c_is_choice hr (by decide) (by rfl) (pa_cons (pv 0) (pa_cons (pe_glob (v := .str "ABCDEFGHIJKLMNOPQRSTUVWXYZ") rfl g__UPPER ⟨_, rfl⟩) (pa_cons (pe_glob (v := .int 4) rfl g__MOST_CUTTERS ⟨_, rfl⟩) pa_nil)))))), ?_⟩
    exact ⟨_, rfl, v, upper, 4, rfl, hv, q⟩
theorem kb_is_cutters_0_value : KB K "is_cutters" s_is_cutters ["value"] ["value"] one1 one1 := kb_one fun _ _ _ _ _ _ _ => rfl
abbrev s_is_letter : Stmt := topS 26
theorem sc_is_letter : FnScope ["value", "letters"] ["value", "letters"] (defScope s_is_letter) := ⟨rfl, rfl, rfl, by decide +kernel, rfl, by decide +kernel, by decide +kernel⟩
theorem ok_is_letter {f : Addr} {fd : FuncData} (F : Fun K "is_letter" "is_letter" s_is_letter f fd) (T : Z mg) : FnOk P w K mg base CX0 1 f fd ["value", "letters"] (sp_is_letter K) := by
  refine F.ok sc_is_letter (fun vs H Q E h => ?_) (fun cdv A outer s H vs Q E hr h => ?_)
  · obtain ⟨v, L, rfl, _⟩ := h
    rfl
  · obtain ⟨v, L, rfl, hv, q⟩ := h
    refine ⟨_, (pss_one (ps_ret (pe_and (pe_callB call_isi (by rfl) T.z_isinstance (by decide +kernel) (pa_cons (pv 0) (pa_cons (pe_bltn (v := .ty "str") (u := .type "str") (by rfl) T.z_str (by decide +kernel) rfl) pa_nil))) (pe_and (pe_cmpR op_eq (pe_callB call_len_str (by rfl) T.z_len (by decide +kernel) (pa_cons (pv 0) pa_nil)) pe_int (nomark _)) (pe_one (pe_cmpR op_in_sign (pv 0) (pv 1) rfl)))))), ?_⟩
    have q1 := q _ (Same.refl H)
    rcases hv with ⟨hs, hl⟩ | ⟨hs, Ty, ht, hk⟩
    · obtain ⟨z, rfl⟩ := str_of hs
      refine ⟨_, rfl, _, _, _, _, true, rfl, .ty _, .base (.str z), kit_ty (by decide +kernel), true, rfl, iteT ?_⟩
      refine ⟨_, rfl, z, rfl, sz hl, rfl, _, rfl, ?_⟩
      by_cases h1 : z.cps.size = 1
      · rw [show decide (V.int (z.length : Int) = V.int 1) = true from decide_eq_true (by rw [show z.length = 1 from h1]; rfl)]
        refine iteT ?_
        obtain ⟨c, rfl⟩ : ∃ c, z = S [c] := by
          obtain ⟨⟨l⟩⟩ := z
          match l, h1 with
          | [c], _ => exact ⟨c, rfl⟩
        refine ⟨_, rfl, _, rfl, c, _, rfl, rfl, ?_⟩
        exact q1
      · rw [show decide (V.int (z.length : Int) = V.int 1) = false from decide_eq_false fun e => h1 (by
          have e1 := V.int.inj e
          show z.length = 1
          omega)]
        refine iteF ?_
        have e : bLetter (.str z) L = false := by
          unfold bLetter
          rw [show decide ((strOf (V.str z)).cps.size = 1) = false from decide_eq_false h1, Bool.and_false, Bool.false_and]
        rw [e] at q1
        exact q1
    · refine ⟨_, rfl, _, _, _, _, false, rfl, .ty _, ht, kit_ty hk, false, rfl, iteF ?_⟩
      have e : bLetter v L = false := by
        unfold bLetter
        rw [hs, Bool.false_and, Bool.false_and]
      rw [e] at q1
      exact q1
abbrev s_is_room : Stmt := topS 27
theorem sc_is_room : FnScope ["value", "faces"] ["value", "faces"] (defScope s_is_room) := ⟨rfl, rfl, rfl, by decide +kernel, rfl, by decide +kernel, by decide +kernel⟩
theorem ok_is_room {f : Addr} {fd : FuncData} (F : Fun K "is_room" "is_room" s_is_room f fd) (T : Z mg) (c_is_string : Cal P w K mg base CX0 1 "is_string" s_is_string ["value", "faces"] (sp_is_string K)) : FnOk P w K mg base CX0 2 f fd ["value", "faces"] (sp_is_room K) := by
  refine F.ok sc_is_room (fun vs H Q E h => ?_) (fun cdv A outer s H vs Q E hr h => ?_)
  · obtain ⟨v, fs, rfl, _⟩ := h
    rfl
  · obtain ⟨v, fs, rfl, hv, q⟩ := h
    refine ⟨_, (pss_one (ps_ret (pe_and (pe_c c_is_string hr (by decide) (by rfl) (pa_cons (pv 0) (pa_cons (pv 1) pa_nil))) (pe_one (pe_cmpR op_eq (pe_callB call_len_str (by rfl) T.z_len (by decide +kernel) (pa_cons (pv 0) pa_nil)) pe_int (nomark _)))))), ?_⟩
    refine ⟨_, rfl, _, rfl, v, fs, rfl, hv, fun H1 sm => ⟨_, rfl, ?_⟩⟩
    cases hb : bString v fs with
    | false =>
      refine iteF ?_
      have e : bRoom v fs = false := by
        unfold bRoom
        rw [hb]
        rfl
      rw [e] at q
      exact q _ sm
    | true =>
      refine iteT ?_
      have hs : isStr v = true := by
        unfold bString at hb
        rw [Bool.and_eq_true] at hb
        exact hb.1
      rcases hv with ⟨_, hl⟩ | ⟨h0, _⟩
      · obtain ⟨z, rfl⟩ := str_of hs
        refine ⟨_, rfl, z, rfl, sz hl, rfl, ?_⟩
        have e : bRoom (.str z) fs = decide (V.int (z.length : Int) = V.int 4) := by
          unfold bRoom
          rw [hb]
          by_cases h4 : z.cps.size = 4
          · rw [decide_eq_true (show V.int (z.length : Int) = V.int 4 by rw [show z.length = 4 from h4]; rfl)]
            exact decide_eq_true h4
          · rw [decide_eq_false (show ¬ V.int (z.length : Int) = V.int 4 from fun q => h4 (by
              have q1 := V.int.inj q
              show z.length = 4
              omega))]
            exact decide_eq_false h4
        rw [e] at q
        exact q _ sm
      · rw [hs] at h0
        cases h0
abbrev s_is_cut : Stmt := topS 28
theorem sc_is_cut : FnScope ["value", "faces"] ["value", "faces"] (defScope s_is_cut) := ⟨rfl, rfl, rfl, by decide +kernel, rfl, by decide +kernel, by decide +kernel⟩
theorem ok_is_cut {f : Addr} {fd : FuncData} (F : Fun K "is_cut" "is_cut" s_is_cut f fd) (T : Z mg) (c_is_string : Cal P w K mg base CX0 1 "is_string" s_is_string ["value", "faces"] (sp_is_string K)) : FnOk P w K mg base CX0 2 f fd ["value", "faces"] (sp_is_cut K) := by
  refine F.ok sc_is_cut (fun vs H Q E h => ?_) (fun cdv A outer s H vs Q E hr h => ?_)
  · obtain ⟨v, fs, rfl, _⟩ := h
    rfl
  · obtain ⟨v, fs, rfl, hv, q⟩ := h
    refine ⟨_, (pss_cons (ps_if (PW.pt (pw_or (pt_not (pt_val (pe_callB call_isi (by rfl) T.z_isinstance (by decide +kernel) (pa_cons (pv 0) (pa_cons (pe_bltn (v := .ty "str") (u := .type "str") (by rfl) T.z_str (by decide +kernel) rfl) pa_nil))))) (pw_or1 (pt_cmpR op_ne (pe_callB call_len_str (by rfl) T.z_len (by decide +kernel) (pa_cons (pv 0) pa_nil)) pe_int (nomark _))))) (pss_one (ps_ret pe_bl)) pss_nil)
      (pss_one (ps_ret (pe_and (pe_cmpR op_in_sign (pe_ix ix_str (pv 0) pe_int (fun _ _ => rfl)) pe_str rfl) (pe_one (pe_c c_is_string hr (by decide) (by rfl) (pa_cons (pe_slice sl_str (pv 0) (po_some pe_int) po_none) (pa_cons (pv 1) pa_nil)))))))), ?_⟩
    rcases hv with ⟨hs, hl⟩ | ⟨hs, Ty, ht, hk⟩
    · obtain ⟨z, rfl⟩ := str_of hs
      refine ⟨_, rfl, _, _, _, _, true, rfl, .ty _, .base (.str z), kit_ty (by decide +kernel), true, rfl, iteF ?_⟩
      refine ⟨_, rfl, z, rfl, sz hl, rfl, _, rfl, ?_⟩
      by_cases h3 : z.cps.size = 3
      · have e3 : decide (V.int (z.length : Int) = V.int 3) = true := decide_eq_true (by rw [show z.length = 3 from h3]; rfl)
        rw [e3]
        refine iteF ?_
        have h0 : atI z.cps.toList 0 = some (z.cps.toList.getD 0 0) := by
          refine atI_nat (j := 0) ?_
          rw [List.getD_eq_getElem?_getD]
          have : 0 < z.cps.toList.length := by simp; omega
          rw [List.getElem?_eq_getElem this]
          rfl
        refine ⟨_, rfl, z, 0, _, rfl, rfl, sz hl, h0, _, _, rfl, rfl, _, rfl, ?_⟩
        cases hb : decide (z.cps.toList.getD 0 0 ∈ ("|-" : Str).cps.toList) with
        | false =>
          refine iteF ?_
          have e : bCut (.str z) fs = false := by
            unfold bCut
            show ((true && decide (z.cps.size = 3)) && decide (z.cps.toList.getD 0 0 ∈ ("|-" : Str).cps.toList) && _) = false
            rw [hb, Bool.and_false, Bool.false_and]
          rw [e] at q
          exact q _ (Same.refl H)
        | true =>
          refine iteT ?_
          refine ⟨_, rfl, 1, rfl, z, rfl, sz hl, _, rfl, _, fs, rfl, .inl ⟨rfl, ?_⟩, fun H' sm => ?_⟩
          · rw [cutS_from (by omega)]
            show (z.cps.toList.drop 1).toArray.size ≤ 100000
            simp
            omega
          · have e : bCut (.str z) fs = bString (.str (cutS z (some 1) none)) fs := by
              rw [cutS_from (by omega)]
              unfold bCut bString
              show ((true && decide (z.cps.size = 3)) && decide (z.cps.toList.getD 0 0 ∈ ("|-" : Str).cps.toList) && _) = _
              rw [hb, decide_eq_true h3]
              rfl
            rw [e] at q
            exact q _ sm
      · have e3 : decide (V.int (z.length : Int) = V.int 3) = false := decide_eq_false fun q => h3 (by
          have q1 := V.int.inj q
          show z.length = 3
          omega)
        rw [e3]
        refine iteT ?_
        have e : bCut (.str z) fs = false := by
          unfold bCut
          show ((true && decide (z.cps.size = 3)) && _ && _) = false
          rw [decide_eq_false h3]
          rfl
        rw [e] at q
        exact q _ (Same.refl H)
    · refine ⟨_, rfl, _, _, _, _, false, rfl, .ty _, ht, kit_ty hk, false, rfl, iteT ?_⟩
      refine iteT ?_
      have e : bCut v fs = false := by
        unfold bCut
        rw [hs]
        rfl
      rw [e] at q
      exact q _ (Same.refl H)
theorem kb_is_cut_0_faces_value : KB K "is_cut" s_is_cut ["value", "faces"] ["faces", "value"] swp swp := kb_swap fun _ _ _ _ _ _ _ _ => rfl
abbrev s_parts_of : Stmt := topS 29
theorem sc_parts_of : FnScope ["room", "cut", "north", "east", "south", "west", "sign", "one", "other"] ["room", "cut"] (defScope s_parts_of) := ⟨rfl, rfl, rfl, by decide +kernel, rfl, by decide +kernel, by decide +kernel⟩
theorem ok_parts_of {f : Addr} {fd : FuncData} (F : Fun K "parts_of" "parts_of" s_parts_of f fd) : FnOk P w K mg base CX0 1 f fd ["room", "cut"] (sp_parts_of K) := by
  refine F.ok sc_parts_of (fun vs H Q E h => ?_) (fun cdv A outer s H vs Q E hr h => ?_)
  · obtain ⟨n, e, so, we, cut, rfl, _⟩ := h
    rfl
  · obtain ⟨n, e, so, we, cut, rfl, hq⟩ := h
    refine ⟨_, (pss_cons (ps_if (pt_cmpR op_eq (pv 1) pe_str (nomark _)) (pss_one (ps_ret (pe_lst (pa_cons (pv 0) pa_nil)))) pss_nil)
      (pss_cons (ps_asg (pv 0) (pg_ustr (by rfl) (pgs_cons (pg_name (i := 2) sc_parts_of.nd rfl (.inl rfl)) (pgs_cons (pg_name (i := 3) sc_parts_of.nd rfl (.inl rfl)) (pgs_cons (pg_name (i := 4) sc_parts_of.nd rfl (.inl rfl)) (pgs_cons (pg_name (i := 5) sc_parts_of.nd rfl (.inl rfl)) pgs_nil))))))
      (pss_cons (ps_asg (pv 1) (pg_ustr (by rfl) (pgs_cons (pg_name (i := 6) sc_parts_of.nd rfl (.inl rfl)) (pgs_cons (pg_name (i := 7) sc_parts_of.nd rfl (.inl rfl)) (pgs_cons (pg_name (i := 8) sc_parts_of.nd rfl (.inl rfl)) pgs_nil)))))
      (pss_cons (ps_if (pt_cmpR op_eq (pv 6) pe_str (nomark _)) (pss_one (ps_ret (pe_lst (pa_cons (pe_op op_add_str (pe_op op_add_str (pe_op op_add_str (pv 2) (pv 7)) (pv 4)) (pv 5)) (pa_cons (pe_op op_add_str (pe_op op_add_str (pe_op op_add_str (pv 2) (pv 3)) (pv 4)) (pv 8)) pa_nil))))) pss_nil)
      (pss_one (ps_ret (pe_lst (pa_cons (pe_op op_add_str (pe_op op_add_str (pe_op op_add_str (pv 2) (pv 3)) (pv 7)) (pv 5)) (pa_cons (pe_op op_add_str (pe_op op_add_str (pe_op op_add_str (pv 8) (pv 3)) (pv 4)) (pv 5)) pa_nil))))))))), ?_⟩
    rcases hq with ⟨rfl, q⟩ | ⟨sg, x, y, rfl, q⟩
    · refine ⟨_, rfl, rfl, _, rfl, ?_⟩
      rw [decide_eq_true rfl]
      refine iteT ?_
      exact ⟨_, rfl, by show 1 ≤ sizeLine; decide, q⟩
    · refine ⟨_, rfl, rfl, _, rfl, ?_⟩
      have e1 : decide (V.str (S3 sg x y) = V.str ("" : Str)) = false := decide_eq_false fun q => by
        have q1 : (S3 sg x y).cps.size = ("" : Str).cps.size := by rw [V.str.inj q]
        exact absurd q1 (by show ¬ 3 = 0; decide)
      rw [e1]
      refine iteF ?_
      refine ⟨_, rfl, _, rfl, rfl, _, _, rfl, _, _, rfl, _, _, rfl, _, _, rfl, rfl, ?_⟩
      refine ⟨_, rfl, _, rfl, rfl, _, _, rfl, _, _, rfl, _, _, rfl, rfl, ?_⟩
      refine ⟨_, rfl, rfl, _, rfl, ?_⟩
      by_cases hs : sg = 124
      · subst hs
        refine ite2 (fun _ => ?_) (fun hn => absurd (decide_eq_true rfl) hn)
        refine ⟨_, rfl, _, rfl, _, _, rfl, rfl, (show 2 ≤ sizeLine by decide), _, rfl, _, _, rfl, rfl, (show 3 ≤ sizeLine by decide), _, rfl, _, _, rfl, rfl, (show 4 ≤ sizeLine by decide), ?_⟩
        refine ⟨_, rfl, _, rfl, _, _, rfl, rfl, (show 2 ≤ sizeLine by decide), _, rfl, _, _, rfl, rfl, (show 3 ≤ sizeLine by decide), _, rfl, _, _, rfl, rfl, (show 4 ≤ sizeLine by decide), by show 2 ≤ sizeLine; decide, ?_⟩
        exact q
      · refine ite2 (fun hn => ?_) (fun _ => ?_)
        · exact absurd (by
            have q1 := V.str.inj (of_decide_eq_true hn)
            have q2 := congrArg (fun z : Str => z.cps.toList) q1
            exact List.head_eq_of_cons_eq q2) hs
        · refine ⟨_, rfl, _, rfl, _, _, rfl, rfl, (show 2 ≤ sizeLine by decide), _, rfl, _, _, rfl, rfl, (show 3 ≤ sizeLine by decide), _, rfl, _, _, rfl, rfl, (show 4 ≤ sizeLine by decide), ?_⟩
          refine ⟨_, rfl, _, rfl, _, _, rfl, rfl, (show 2 ≤ sizeLine by decide), _, rfl, _, _, rfl, rfl, (show 3 ≤ sizeLine by decide), _, rfl, _, _, rfl, rfl, (show 4 ≤ sizeLine by decide), by show 2 ≤ sizeLine; decide, ?_⟩
          have e2 : partsC n e so we sg x y = [S4 n e x we, S4 y e so we] := if_neg hs
          rw [e2] at q
          exact q
theorem kb_parts_of_0_cut_room : KB K "parts_of" s_parts_of ["room", "cut"] ["cut", "room"] swp swp := kb_swap fun _ _ _ _ _ _ _ _ => rfl
abbrev s_is_part : Stmt := topS 46
theorem sc_is_part : FnScope ["value", "letters"] ["value", "letters"] (defScope s_is_part) := ⟨rfl, rfl, rfl, by decide +kernel, rfl, by decide +kernel, by decide +kernel⟩
def bPart (v : V) (L : List Nat) : Bool := bLetter v [46] || bChoice v L (L.length : Int)
def sp_is_part (K : PySem.W.Frag) : Sp := fun vs H Q _ => ∃ (z : Str) (L : List Nat), vs = [.str z, .str (S L)] ∧ z.cps.size ≤ 100000 ∧ L.length ≤ 1000 ∧ ∀ H', Same H H' → Q (.bl (bPart (.str z) L)) H'
theorem ok_is_part {f : Addr} {fd : FuncData} (F : Fun K "is_part" "is_part" s_is_part f fd) (T : Z mg) (c_is_letter : Cal P w K mg base CX0 1 "is_letter" s_is_letter ["value", "letters"] (sp_is_letter K))
    (c_is_choice : Cal P w K mg base CX0 2 "is_choice" s_is_choice ["value", "letters", "most"] (sp_is_choice K)) : FnOk P w K mg base CX0 3 f fd ["value", "letters"] (sp_is_part K) := by
  refine F.ok sc_is_part (fun vs H Q E h => ?_) (fun cdv A outer s H vs Q E hr h => ?_)
  · obtain ⟨z, L, rfl, _⟩ := h
    rfl
  · obtain ⟨z, L, rfl, hz, hL, q⟩ := h
    refine ⟨_, (pss_one (ps_ret (pe_or (pe_c c_is_letter hr (by decide) (by rfl) (pa_cons (pv 0) (pa_cons pe_str pa_nil))) (pe_one (pe_c c_is_choice hr (by decide) (by rfl) (pa_cons (pv 0) (pa_cons (pv 1) (pa_cons (pe_callB call_len_str (by rfl) T.z_len (by decide +kernel) (pa_cons (pv 1) pa_nil)) pa_nil)))))))), ?_⟩
    refine ⟨_, rfl, .str z, [46], rfl, .inl ⟨rfl, hz⟩, fun H1 s1 => ⟨_, rfl, ?_⟩⟩
    cases e : bLetter (.str z) [46] with
    | true =>
      refine iteT ?_
      have q1 := q _ s1
      unfold bPart at q1
      rw [e] at q1
      exact q1
    | false =>
      refine iteF ⟨_, rfl, _, rfl, _, rfl, S L, rfl, by rw [S_len]; exact sz (by omega), .str z, L, _, congrArg (fun n : Nat => [V.str z, V.str (S L), V.int n]) (S_len L), .inl ⟨rfl, hz⟩, fun H2 s2 => ?_⟩
      have q1 := q _ (s1.trans s2)
      unfold bPart at q1
      rw [e] at q1
      exact q1
abbrev s_fits : Stmt := topS 48
theorem sc_fits : FnScope ["line", "room", "cutter", "part", "letter"] ["line", "room", "cutter"] (defScope s_fits) := ⟨rfl, rfl, rfl, by decide +kernel, rfl, by decide +kernel, by decide +kernel⟩
/-- a part takes a sign -/
def takesB (p : List Nat) (c : Nat) : Bool := decide (V.str (S p) = V.str ".") || decide (c ∈ p)
def fitsB (ps : List (List Nat)) (cs : List Nat) : Bool := (ps.zip cs).all fun q => takesB q.1 q.2
def sp_fits (K : PySem.W.Frag) : Sp := fun vs H Q _ => ∃ (t : Addr) (ps : List (List Nat)) (r c : List Nat), vs = [.ref t, .str (S r), .str (S c)] ∧ SqT K H t (ps.map fun p => V.str (S p)) ∧ ps.length ≤ 100 ∧ (∀ p ∈ ps, p.length ≤ 1000) ∧ r.length ≤ 100 ∧ c.length ≤ 100 ∧ ∀ H', Same H H' → Q (.bl (fitsB ps (r ++ c))) H'
theorem ok_fits {f : Addr} {fd : FuncData} (F : Fun K "fits" "fits" s_fits f fd) (T : Z mg) : FnOk P w K mg base CX0 1 f fd ["line", "room", "cutter"] (sp_fits K) := by
  refine F.ok sc_fits (fun vs H Q E h => ?_) (fun cdv A outer s H vs Q E hr h => ?_)
  · obtain ⟨t, ps, r, c, rfl, _⟩ := h
    rfl
  · obtain ⟨t, ps, r, c, rfl, hS, hp, hps, hr1, hc1, q⟩ := h
    refine ⟨_, (pss_one (ps_ret (pe_callB (cr_all rfl) (by rfl) T.z_all (by decide +kernel) (pa_cons (pe_lc (own := [("part", 3), ("letter", 4)]) (g := (gTup K 2 (gCons (gName 3) (gCons (gName 4) gNil)))) (by rfl) sc_fits.nd (pi_zipG (by rfl) T.z_zip (pa_cons (pv 0) (pa_cons (pe_op op_add_str (pv 1) (pv 2)) pa_nil))) (blkOk_by (N := ["line", "room", "cutter", "part", "letter"]) (sc := defScope s_fits) (by decide +kernel)) (fun _ _ _ _ _ => (pg_tup rfl (pgs_cons (pg_name (i := 3) sc_fits.nd rfl (.inl rfl)) (pgs_cons (pg_name (i := 4) sc_fits.nd rfl (.inl rfl)) pgs_nil)))) (fun _ _ _ _ _ => pts_nil) (fun _ _ _ _ _ => (pe_or (pe_cmpR op_eq (pv 3) pe_str (nomark _)) (pe_one (pe_cmpR op_in_sign (pv 4) (pv 3) rfl))))) pa_nil)))), ?_⟩
    refine ⟨_, rfl, _, rfl, _, rfl, _, _, rfl, rfl, by rw [S_len, S_len]; exact Nat.le_trans (Nat.add_le_add hr1 hc1) (by decide), ?_⟩
    rw [S_cat]
    generalize hcs : r ++ c = cs at q
    have hcl : cs.length ≤ 200 := by
      rw [← hcs, List.length_append]
      omega
    refine ⟨_, _, ps.map fun p => V.str (S p), cs.map sgn, rfl, .t hS, .s rfl, fun k1 k2 e1 e2 g1 g2 D hD => ?_⟩
    have hk1 : ∀ H', But D H H' → k1.src K H' (ps.map fun p => V.str (S p)) := fun H' bt => by
      cases k1 with
      | l a => cases e1; exact (but_fresh (Same.refl H) hD bt).seq g1
      | t a => cases e1; exact (but_fresh (Same.refl H) hD bt).tup g1
      | s x t => cases e1
    have hk2 : ∀ H', k2.src K H' (cs.map sgn) := fun H' => by
      cases k2 with
      | l a => cases e2
      | t a => cases e2
      | s x t => exact g2
    have hzl : (ps.zip cs).length = min ps.length cs.length := List.length_zip
    refine lc_it (walk_zipG (xs := ps.map fun p => V.str (S p)) (ys := cs.map sgn) (n := (ps.zip cs).length) (by rw [List.length_map, List.length_map, hzl])) (fun i H' => But D H H' ∧ H' D = some (.lst (((ps.zip cs).take i).map fun q => V.bl (takesB q.1 q.2))))
      ⟨(same_upd hD).but, upd_same⟩ (fun i H' _ pv => ⟨hk1 H' pv.1, hk2 H'⟩) ?_ ?_
    · rintro i _ H' _ hi ⟨bt, hDD⟩ ⟨T', x1, y1, rfl, nT, rfl, hx1, hy1⟩
      have hi1 : i < ps.length := by omega
      have hi2 : i < cs.length := by omega
      have ex : x1 = V.str (S ps[i]) := by
        have : (ps.map fun p => V.str (S p))[i]? = some x1 := hx1
        rw [List.getElem?_map, List.getElem?_eq_getElem hi1] at this
        exact (Option.some.inj this).symm
      have ey : y1 = sgn cs[i] := by
        have : (cs.map sgn)[i]? = some y1 := hy1
        rw [List.getElem?_map, List.getElem?_eq_getElem hi2] at this
        exact (Option.some.inj this).symm
      subst ex ey
      have nDT : D ≠ T' := ne_of_none hDD nT
      have hD2 : (upd H' T' (HO.tup [V.str (S ps[i]), sgn cs[i]])) D = some (.lst (((ps.zip cs).take i).map fun q => V.bl (takesB q.1 q.2))) := (same_upd nT) _ _ hDD
      have fin : ∀ bb, takesB ps[i] cs[i] = bb → ∃ acc, (upd H' T' (HO.tup [V.str (S ps[i]), sgn cs[i]])) D = some (.lst acc) ∧ acc.length < sizeLine ∧ (But D H (upd (upd H' T' (HO.tup [V.str (S ps[i]), sgn cs[i]])) D (.lst (acc ++ [V.bl bb]))) ∧ (upd (upd H' T' (HO.tup [V.str (S ps[i]), sgn cs[i]])) D (.lst (acc ++ [V.bl bb]))) D = some (.lst (((ps.zip cs).take (i + 1)).map fun q => V.bl (takesB q.1 q.2)))) := fun bb e => by
        refine ⟨_, hD2, by rw [List.length_map, List.length_take]; exact sz1 (by omega), fun a o n e => ?_, ?_⟩
        · rw [upd_ne n]
          exact (same_upd nT) _ _ (bt a o n e)
        · rw [upd_same, List.take_add_one, List.getElem?_eq_getElem hi, List.map_append, List.getElem_zip, ← e]
          rfl
      refine ⟨T', _, rfl, SqT.of upd_same, rfl, _, _, rfl, _, [], rfl, rfl, rfl, ?_⟩
      refine ⟨_, rfl, rfl, _, rfl, ?_⟩
      cases e : decide (V.str (S ps[i]) = V.str ".") with
      | true => exact iteT (fin true (by unfold takesB; rw [e]; rfl))
      | false => exact iteF ⟨_, rfl, _, rfl, cs[i], S ps[i], rfl, rfl, fin _ (by unfold takesB; rw [e]; rfl)⟩
    · rintro H' ⟨bt, hDD⟩
      rw [List.take_of_length_le (Nat.le_refl _)] at hDD
      refine ⟨D, (ps.zip cs).map fun q => takesB q.1 q.2, rfl, SqL.of (hDD.trans ?_), ?_⟩
      · rw [List.map_map]
        rfl
      · rw [List.all_map]
        exact q _ (but_fresh (Same.refl H) hD bt)
abbrev s_is_line : Stmt := topS 47
theorem sc_is_line : FnScope ["value", "faces", "cutters", "part"] ["value", "faces", "cutters"] (defScope s_is_line) := ⟨rfl, rfl, rfl, by decide +kernel, rfl, by decide +kernel, by decide +kernel⟩
/-- six texts that are a line -/
def bLine (a b c d e u F C : List Nat) : Bool := ([a, b, c, d].all fun p => bPart (.str (S p)) F) && bPart (.str (S e)) C && (decide (V.str (S u) = V.str "") || bCut (.str (S u)) (S F))
def sp_is_line (K : PySem.W.Frag) : Sp := fun vs H Q _ => ∃ (t : Addr) (a b c d e u F C : List Nat), vs = [.ref t, .str (S F), .str (S C)] ∧ SqT K H t [.str (S a), .str (S b), .str (S c), .str (S d), .str (S e), .str (S u)] ∧
  (∀ p ∈ [a, b, c, d, e, u, F, C], p.length ≤ 1000) ∧ ∀ H', Same H H' → Q (.bl (bLine a b c d e u F C)) H'
theorem ok_is_line {f : Addr} {fd : FuncData} (F : Fun K "is_line" "is_line" s_is_line f fd) (T : Z mg) (c_is_part : Cal P w K mg base CX0 3 "is_part" s_is_part ["value", "letters"] (sp_is_part K))
    (c_is_cut : Cal P w K mg base CX0 2 "is_cut" s_is_cut ["value", "faces"] (sp_is_cut K)) : FnOk P w K mg base CX0 4 f fd ["value", "faces", "cutters"] (sp_is_line K) := by
  refine F.ok sc_is_line (fun vs H Q E h => ?_) (fun cdv A outer s H vs Q E hr h => ?_)
  · obtain ⟨t, a, b, c, d, e, u, F, C, rfl, _⟩ := h
    rfl
  · obtain ⟨t, a, b, c, d, e, u, fs, cs, rfl, hS, hl, q⟩ := h
    have la : ∀ p ∈ [a, b, c, d, e, u], (S p).cps.size ≤ 100000 := fun p hp => Nat.le_trans (hl p (List.mem_append_left [fs, cs] hp)) (by decide)
    refine ⟨_, (pss_cons (ps_if (PW.pt (pw_or (pt_not (pt_val (pe_callB call_isi (by rfl) T.z_isinstance (by decide +kernel) (pa_cons (pv 0) (pa_cons (pe_bltn (v := .ty "tuple") (u := .type "tuple") (by rfl) T.z_tuple (by decide +kernel) rfl) pa_nil))))) (pw_or1 (pt_cmpR op_ne (pe_callB call_len_seq (by rfl) T.z_len (by decide +kernel) (pa_cons (pv 0) pa_nil)) pe_int (nomark _))))) (pss_one (ps_ret pe_bl)) pss_nil)
      (pss_cons (ps_if (PW.pt (pw_or (pt_not (pt_val (pe_callB (cr_all rfl) (by rfl) T.z_all (by decide +kernel) (pa_cons (pe_lc (own := [("part", 3)]) (g := (gName 3)) (by rfl) sc_is_line.nd (pi_tup (pe_slice sl_tup (pv 0) po_none (po_some pe_int))) (blkOk_by (N := ["value", "faces", "cutters", "part"]) (sc := defScope s_is_line) (by decide +kernel)) (fun _ _ _ _ _ => (pg_name (i := 3) sc_is_line.nd rfl (.inl rfl))) (fun _ _ _ _ _ => pts_nil) (fun _ _ _ _ _ => (pe_c c_is_part hr (by decide) (by rfl) (pa_cons (pv 3) (pa_cons (pv 1) pa_nil))))) pa_nil)))) (pw_or1 (pt_not (pt_val (pe_c c_is_part hr (by decide) (by rfl) (pa_cons (pe_ix ix_tup (pv 0) pe_int (fun _ _ => rfl)) (pa_cons (pv 2) pa_nil)))))))) (pss_one (ps_ret pe_bl)) pss_nil)
      (pss_one (ps_ret (pe_or (pe_cmpR op_eq (pe_ix ix_tup (pv 0) pe_int (fun _ _ => rfl)) pe_str (nomark _)) (pe_one (pe_c c_is_cut hr (by decide) (by rfl) (pa_cons (pe_ix ix_tup (pv 0) pe_int (fun _ _ => rfl)) (pa_cons (pv 1) pa_nil))))))))), ?_⟩
    refine ⟨_, rfl, _, _, _, _, true, rfl, .ty _, tyT hS, kit_ty (by decide +kernel), true, rfl, iteF ?_⟩
    refine ⟨_, rfl, t, _, rfl, .inr hS, rfl, _, rfl, ?_⟩
    refine iteF ?_
    refine ⟨_, rfl, 4, rfl, t, _, rfl, hS, (show ¬ (HT.sIx 6 0 none = 0 ∧ HT.sIx 6 6 (some 4) = 6) by decide), fun p np => ?_⟩
    have s1 := same_upd (o := HO.tup [V.str (S a), V.str (S b), V.str (S c), V.str (S d)]) np
    have hP : SqT K (upd H p (HO.tup [V.str (S a), V.str (S b), V.str (S c), V.str (S d)])) p ([a, b, c, d].map fun x => V.str (S x)) := SqT.of upd_same
    refine ⟨p, rfl, ⟨_, hP⟩, fun D hD => ?_⟩
    have hpD : p ≠ D := fun z => by
      rw [← z, upd_same] at hD
      cases hD
    refine lc_it (walk_tup (xs := [a, b, c, d].map fun x => V.str (S x))) (fun i H' => But D (upd H p (HO.tup [V.str (S a), V.str (S b), V.str (S c), V.str (S d)])) H' ∧ H' D = some (.lst (([a, b, c, d].take i).map fun x => V.bl (bPart (.str (S x)) fs))))
      ⟨(same_upd hD).but, upd_same⟩ (fun i H' _ pv => pv.1.tup hpD hP) ?_ ?_
    · rintro i x H' _ hi ⟨bt, hDD⟩ ⟨rfl, hx⟩
      rw [List.getElem?_map] at hx
      obtain ⟨y, hy, rfl⟩ := Option.map_eq_some_iff.mp hx
      have hm : y ∈ [a, b, c, d] := List.mem_of_getElem? hy
      refine ⟨rfl, ?_⟩
      refine ⟨_, rfl, _, rfl, S y, fs, rfl, la y (List.mem_append_left [e, u] hm), hl fs (by simp), fun H2 s2 => ?_⟩
      refine ⟨_, s2 _ _ hDD, by rw [List.length_map, List.length_take]; exact sz1 (Nat.le_trans (Nat.min_le_right _ _) (show 4 ≤ 100000 by decide)), fun z o n e => ?_, ?_⟩
      · rw [upd_ne n]
        exact s2 _ _ (bt z o n e)
      · rw [upd_same, List.take_add_one, hy, List.map_append]
        rfl
    rintro H1 ⟨bt, hDD⟩
    have sH : Same H H1 := s1.trans (but_fresh (Same.refl _) hD bt)
    refine ⟨D, [a, b, c, d].map fun x => bPart (.str (S x)) fs, rfl, SqL.of (hDD.trans ?_), _, rfl, ?_⟩
    · rw [List.map_map]
      rfl
    rw [List.all_map]
    have q0 : ∀ v, bLine a b c d e u fs cs = v → ∀ H', Same H H' → Q (.bl v) H' := fun v e => e ▸ q
    unfold bLine at q0
    cases e1 : ([a, b, c, d].all (id ∘ fun x => bPart (V.str (S x)) fs)) with
    | false => exact iteT (iteT (q0 _ (by rw [show ([a, b, c, d].all fun p => bPart (.str (S p)) fs) = false from e1]; rfl) _ sH))
    | true =>
      refine iteF ?_
      refine ⟨_, rfl, t, _, 4, _, rfl, rfl, sH.tup hS, rfl, _, rfl, S e, cs, rfl, la e (by simp), hl cs (by simp), fun H2 s2 => ⟨_, rfl, ?_⟩⟩
      cases e2 : bPart (.str (S e)) cs with
      | false => exact iteT (q0 _ (by rw [show ([a, b, c, d].all fun p => bPart (.str (S p)) fs) = true from e1, e2]; rfl) _ (sH.trans s2))
      | true =>
        refine iteF ?_
        have s3 := sH.trans s2
        refine ⟨_, rfl, t, _, 5, _, rfl, rfl, s3.tup hS, rfl, rfl, _, rfl, ?_⟩
        have eu : (([a, b, c, d].all fun p => bPart (.str (S p)) fs) && bPart (.str (S e)) cs && (decide (V.str (S u) = V.str "") || bCut (.str (S u)) (S fs))) = (decide (V.str (S u) = V.str "") || bCut (.str (S u)) (S fs)) := by
          rw [show ([a, b, c, d].all fun p => bPart (.str (S p)) fs) = true from e1, e2]
          rfl
        cases e3 : decide (V.str (S u) = V.str "") with
        | true => exact iteT (q0 _ (by rw [eu, e3]; rfl) _ s3)
        | false => exact iteF ⟨_, rfl, t, _, 5, _, rfl, rfl, s3.tup hS, rfl, _, rfl, .str (S u), S fs, rfl, .inl ⟨rfl, la u (by simp)⟩, fun H3 s4 => q0 _ (by rw [eu, e3]; rfl) _ (s3.trans s4)⟩
abbrev s_line_of : Stmt := topS 50
theorem sc_line_of : FnScope ["row", "faces", "cutters", "words", "line"] ["row", "faces", "cutters"] (defScope s_line_of) := ⟨rfl, rfl, rfl, by decide +kernel, rfl, by decide +kernel, by decide +kernel⟩
def noneL : List Nat := [110, 111, 110, 101]
/-- the last word of a line's text -/
def wordU (u : List Nat) : List Nat := if u = [] then noneL else u
def rowT (a b c d e u : List Nat) : Str := Txt.join " " ([a, b, c, d, e, wordU u].map S)
theorem rowT_len {a b c d e u : List Nat} (h : ∀ p ∈ [a, b, c, d, e, u], p.length ≤ 1000) : (rowT a b c d e u).length ≤ 7000 := by
  unfold rowT
  rw [show (" " : Str) = S [32] from rfl, SX.join_S, S_len]
  have hw : (wordU u).length ≤ 1004 := by
    unfold wordU
    split
    · exact (show 4 ≤ 1004 by decide)
    · exact Nat.le_trans (h u (by simp)) (by decide)
  have h1 := h a (by simp)
  have h2 := h b (by simp)
  have h3 := h c (by simp)
  have h4 := h d (by simp)
  have h5 := h e (by simp)
  show (a ++ ([32] ++ (b ++ ([32] ++ (c ++ ([32] ++ (d ++ ([32] ++ (e ++ ([32] ++ wordU u)))))))))).length ≤ 7000
  simp only [List.length_append, List.length_cons, List.length_nil]
  omega
def sp_line_of (K : PySem.W.Frag) : Sp := fun vs H Q _ => ∃ (a b c d e u F C : List Nat), vs = [.str (rowT a b c d e u), .str (S F), .str (S C)] ∧ (∀ p ∈ [a, b, c, d, e, u, F, C], p.length ≤ 1000) ∧ (∀ p ∈ [a, b, c, d, e, u], 32 ∉ p) ∧ u ≠ noneL ∧ bLine a b c d e u F C = true ∧
  ∀ H' p, Same H H' → H p = none → H' p = some (.tup [.str (S a), .str (S b), .str (S c), .str (S d), .str (S e), .str (S u)]) → Q (.ref p) H'
theorem ok_line_of {f : Addr} {fd : FuncData} (F : Fun K "line_of" "line_of" s_line_of f fd) (T : Z mg)
    (c_is_line : Cal P w K mg base CX0 4 "is_line" s_is_line ["value", "faces", "cutters"] (sp_is_line K)) : FnOk P w K mg base CX0 5 f fd ["row", "faces", "cutters"] (sp_line_of K) := by
  refine F.ok sc_line_of (fun vs H Q E h => ?_) (fun cdv A outer s H vs Q E hr h => ?_)
  · obtain ⟨a, b, c, d, e, u, F, C, rfl, _⟩ := h
    rfl
  · obtain ⟨a, b, c, d, e, u, fs, cs, rfl, hl, hs, hn, hb, q⟩ := h
    refine ⟨_, (pss_cons (ps_set (i := 3) sc_line_of.nd rfl (.inl rfl) (pe_split (pv 0) pe_str))
      (pss_cons (ps_if (PW.pt (pw_or (pt_cmpR op_ne (pe_callB call_len_seq (by rfl) T.z_len (by decide +kernel) (pa_cons (pv 3) pa_nil)) pe_int (nomark _)) (pw_or1 (pt_cmpR op_eq (pe_ix ix_list (pv 3) pe_int (fun _ _ => rfl)) pe_str (nomark _))))) (pss_one (ps_ret pe_non)) pss_nil)
      (pss_cons (ps_if (pt_cmpR op_eq (pe_ix ix_list (pv 3) pe_int (fun _ _ => rfl)) pe_str (nomark _)) (pss_one (ps_asg pe_str (pg_sub (pv 3) pe_int set_list))) pss_nil)
      (pss_cons (ps_set (i := 4) sc_line_of.nd rfl (.inl rfl) (pe_tupleOf (by rfl) T.z_tuple (pv 3)))
      (pss_one (ps_ret (pe_ifExp (pt_val (pe_c c_is_line hr (by decide) (by rfl) (pa_cons (pv 4) (pa_cons (pv 1) (pa_cons (pv 2) pa_nil))))) (pv 4) pe_non))))))), ?_⟩
    have hl6 : ∀ p ∈ [a, b, c, d, e, u], p.length ≤ 1000 := fun p hp => hl p (List.mem_append_left [fs, cs] hp)
    have hw32 : 32 ∉ wordU u := by
      unfold wordU
      split
      · decide
      · exact hs u (by simp)
    have hsp : Txt.split (rowT a b c d e u) " " = [a, b, c, d, e, wordU u].map S := TL.split_join (s := 32) (S := []) rfl (by decide +kernel) (by simp) (fun p hp => by
      obtain ⟨x, hx, rfl⟩ := List.mem_map.mp hp
      show 32 ∉ x
      simp only [List.mem_cons, List.not_mem_nil, or_false] at hx
      rcases hx with rfl | rfl | rfl | rfl | rfl | rfl
      · exact hs _ (by simp)
      · exact hs _ (by simp)
      · exact hs _ (by simp)
      · exact hs _ (by simp)
      · exact hs _ (by simp)
      · exact hw32)
    refine ⟨_, rfl, ⟨_, rfl⟩, _, _, rfl, rfl, rfl, Nat.le_trans (Nat.add_le_add_right (rowT_len hl6) 2) (by decide), fun p np => ?_⟩
    rw [hsp]
    have hu0 : wordU u ≠ [] := by
      unfold wordU
      split
      · decide
      · assumption
    have g5 : (upd H p (.lst (([a, b, c, d, e, wordU u].map S).map V.str))) p = some (.lst [V.str (S a), V.str (S b), V.str (S c), V.str (S d), V.str (S e), V.str (S (wordU u))]) := upd_same
    have sp := same_upd (o := HO.lst (([a, b, c, d, e, wordU u].map S).map V.str)) np
    generalize upd H p (.lst (([a, b, c, d, e, wordU u].map S).map V.str)) = H1 at g5 sp
    refine ⟨_, rfl, p, _, rfl, .inl (SqL.of g5), rfl, _, rfl, ?_⟩
    refine iteF ⟨_, rfl, p, _, 5, _, rfl, rfl, SqL.of g5, rfl, rfl, _, rfl, ?_⟩
    rw [show decide (V.str (S (wordU u)) = V.str "") = false from decide_eq_false fun z => hu0 (congrArg (fun x : Str => x.cps.toList) (V.str.inj z))]
    refine iteF ?_
    refine ⟨_, rfl, p, _, 5, _, rfl, rfl, SqL.of g5, rfl, rfl, _, rfl, ?_⟩
    -- behind the last word
    have fin : ∀ H2, (∀ b o, b ≠ p → H1 b = some o → H2 b = some o) → ∀ t, H2 t = none → ∀ H', Same (upd H2 t (.tup [V.str (S a), V.str (S b), V.str (S c), V.str (S d), V.str (S e), V.str (S u)])) H' → Q (.ref t) H' := fun H2 kp t nt H' s' => by
      have s2 : Same H H2 := fun z o hz => kp z o (ne_of_none hz np) (sp z o hz)
      have nt0 : H t = none := by
        cases z : H t with
        | none => rfl
        | some o => rw [s2 _ _ z] at nt; cases nt
      exact q _ t ((s2.trans (same_upd nt)).trans s') nt0 (s' _ _ upd_same)
    by_cases hu : u = []
    · have ew : wordU u = noneL := if_pos hu
      rw [show decide (V.str (S (wordU u)) = V.str "none") = true from decide_eq_true (by rw [ew]; rfl)]
      refine iteT ?_
      refine ⟨_, rfl, p, _, 5, 5, rfl, rfl, g5, rfl, ?_⟩
      have g6 : (upd H1 p (.lst [V.str (S a), V.str (S b), V.str (S c), V.str (S d), V.str (S e), V.str ""])) p = some (.lst [V.str (S a), V.str (S b), V.str (S c), V.str (S d), V.str (S e), V.str (S u)]) := by
        rw [upd_same, hu]
        rfl
      have kp : ∀ z o, z ≠ p → H1 z = some o → (upd H1 p (.lst [V.str (S a), V.str (S b), V.str (S c), V.str (S d), V.str (S e), V.str ""])) z = some o := fun z o n h => (upd_ne n).trans h
      refine ⟨_, rfl, .inl ⟨p, _, rfl, SqL.of g6, fun t nt => ?_⟩⟩
      refine ⟨_, rfl, _, rfl, _, rfl, t, a, b, c, d, e, u, fs, cs, rfl, SqT.of upd_same, hl, fun H' s' => ⟨_, rfl, ?_⟩⟩
      rw [hb]
      exact iteT ⟨_, rfl, fin _ kp t nt H' s'⟩
    · have ew : wordU u = u := if_neg hu
      rw [ew] at g5
      rw [show decide (V.str (S (wordU u)) = V.str "none") = false from decide_eq_false fun z => hn (by
        rw [ew] at z
        exact congrArg (fun x : Str => x.cps.toList) (V.str.inj z))]
      refine iteF ?_
      refine ⟨_, rfl, .inl ⟨p, _, rfl, SqL.of g5, fun t nt => ?_⟩⟩
      refine ⟨_, rfl, _, rfl, _, rfl, t, a, b, c, d, e, u, fs, cs, rfl, SqT.of upd_same, hl, fun H' s' => ⟨_, rfl, ?_⟩⟩
      rw [hb]
      exact iteT ⟨_, rfl, fin H1 (fun _ _ _ h => h) t nt H' s'⟩
abbrev s_head_of : Stmt := topS 49
theorem sc_head_of : FnScope ["row", "words"] ["row"] (defScope s_head_of) := ⟨rfl, rfl, rfl, by decide +kernel, rfl, by decide +kernel, by decide +kernel⟩
def headT (F C : List Nat) : Str := Txt.join " " ([F, C].map S)
def sp_head_of (K : PySem.W.Frag) : Sp := fun vs H Q _ => ∃ (F C : List Nat), vs = [.str (headT F C)] ∧ F.length ≤ 1000 ∧ C.length ≤ 1000 ∧ 32 ∉ F ∧ 32 ∉ C ∧ bFaces (.str (S F)) = true ∧ bCutters (.str (S C)) = true ∧
  ∀ H' p, Same H H' → H p = none → H' p = some (.tup [.str (S F), .str (S C)]) → Q (.ref p) H'
theorem ok_head_of {f : Addr} {fd : FuncData} (F : Fun K "head_of" "head_of" s_head_of f fd) (T : Z mg) (c_is_faces : Cal P w K mg base CX0 3 "is_faces" s_is_faces ["value"] (sp_is_faces K))
    (c_is_cutters : Cal P w K mg base CX0 3 "is_cutters" s_is_cutters ["value"] (sp_is_cutters K)) : FnOk P w K mg base CX0 4 f fd ["row"] (sp_head_of K) := by
  refine F.ok sc_head_of (fun vs H Q E h => ?_) (fun cdv A outer s H vs Q E hr h => ?_)
  · obtain ⟨F, C, rfl, _⟩ := h
    rfl
  · obtain ⟨fs, cs, rfl, l1, l2, h1, h2, b1, b2, q⟩ := h
    refine ⟨_, (pss_cons (ps_set (i := 1) sc_head_of.nd rfl (.inl rfl) (pe_split (pv 0) pe_str))
      (pss_cons (ps_if (PW.pt (pw_or (pt_cmpR op_ne (pe_callB call_len_seq (by rfl) T.z_len (by decide +kernel) (pa_cons (pv 1) pa_nil)) pe_int (nomark _)) (pw_or (pt_not (pt_val (pe_c c_is_faces hr (by decide) (by rfl) (pa_cons (pe_ix ix_list (pv 1) pe_int (fun _ _ => rfl)) pa_nil)))) (pw_or1 (pt_not (pt_val (pe_c c_is_cutters hr (by decide) (by rfl) (pa_cons (pe_ix ix_list (pv 1) pe_int (fun _ _ => rfl)) pa_nil)))))))) (pss_one (ps_ret pe_non)) pss_nil)
      (pss_one (ps_ret (pe_tup (pa_cons (pe_ix ix_list (pv 1) pe_int (fun _ _ => rfl)) (pa_cons (pe_ix ix_list (pv 1) pe_int (fun _ _ => rfl)) pa_nil))))))), ?_⟩
    have hlen : (headT fs cs).length ≤ 3000 := by
      unfold headT
      rw [show (" " : Str) = S [32] from rfl, SX.join_S, S_len]
      show (fs ++ ([32] ++ cs)).length ≤ 3000
      simp only [List.length_append, List.length_cons, List.length_nil]
      omega
    have hsp : Txt.split (headT fs cs) " " = [fs, cs].map S := TL.split_join (s := 32) (S := []) rfl (by decide +kernel) (by simp) (fun p hp => by
      obtain ⟨x, hx, rfl⟩ := List.mem_map.mp hp
      show 32 ∉ x
      simp only [List.mem_cons, List.not_mem_nil, or_false] at hx
      rcases hx with rfl | rfl
      · exact h1
      · exact h2)
    refine ⟨_, rfl, ⟨_, rfl⟩, _, _, rfl, rfl, rfl, Nat.le_trans (Nat.add_le_add_right hlen 2) (by decide), fun p np => ?_⟩
    rw [hsp]
    have g5 : (upd H p (.lst (([fs, cs].map S).map V.str))) p = some (.lst [V.str (S fs), V.str (S cs)]) := upd_same
    have sp := same_upd (o := HO.lst (([fs, cs].map S).map V.str)) np
    generalize upd H p (.lst (([fs, cs].map S).map V.str)) = H1 at g5 sp
    refine ⟨_, rfl, p, _, rfl, .inl (SqL.of g5), rfl, _, rfl, ?_⟩
    refine iteF ⟨_, rfl, p, _, 0, _, rfl, rfl, SqL.of g5, rfl, .str (S fs), rfl, .inl ⟨rfl, (show fs.length ≤ 100000 by omega)⟩, fun H2 s2 => ⟨_, rfl, ?_⟩⟩
    rw [b1]
    refine iteF ⟨_, rfl, p, _, 1, _, rfl, rfl, SqL.of (s2 _ _ g5), rfl, .str (S cs), rfl, .inl ⟨rfl, (show cs.length ≤ 100000 by omega)⟩, fun H3 s3 => ⟨_, rfl, ?_⟩⟩
    rw [b2]
    refine iteF ?_
    have s4 := s2.trans s3
    refine ⟨_, rfl, p, _, 0, _, rfl, rfl, SqL.of (s4 _ _ g5), rfl, _, rfl, p, _, 1, _, rfl, rfl, SqL.of (s4 _ _ g5), rfl, (show 2 ≤ sizeLine by decide), fun t nt => ?_⟩
    have s5 := sp.trans s4
    have nt0 : H t = none := by
      cases z : H t with
      | none => rfl
      | some o =>
        rw [s5 _ _ z] at nt
        cases nt
    exact q _ t (s5.trans (same_upd nt)) nt0 upd_same
abbrev s_Book_init : Stmt := inCls (topS 52) 1
theorem sc_Book_init : FnScope ["self", "faces", "cutters", "lines", "at", "line"] ["self", "faces", "cutters", "lines"] (defScope s_Book_init) := ⟨rfl, rfl, rfl, by decide +kernel, rfl, by decide +kernel, by decide +kernel⟩
/-- one line of a book: where its tuple stands, its six texts -/
abbrev LineV : Type := Addr × List Nat × List Nat × List Nat × List Nat × List Nat × List Nat
def LineV.tup (r : LineV) : HO := .tup [.str (S r.2.1), .str (S r.2.2.1), .str (S r.2.2.2.1), .str (S r.2.2.2.2.1), .str (S r.2.2.2.2.2.1), .str (S r.2.2.2.2.2.2)]
structure LineOk (r : LineV) (F C : List Nat) : Prop where
  ln : ∀ p ∈ [r.2.1, r.2.2.1, r.2.2.2.1, r.2.2.2.2.1, r.2.2.2.2.2.1, r.2.2.2.2.2.2], p.length ≤ 1000
  ok : bLine r.2.1 r.2.2.1 r.2.2.2.1 r.2.2.2.2.1 r.2.2.2.2.2.1 r.2.2.2.2.2.2 F C = true
/-- the lines as they stand -/
structure LinesAt (H : Hp) (ls : List LineV) (F C : List Nat) : Prop where
  at_ : ∀ r ∈ ls, H r.1 = some r.tup
  ok : ∀ r ∈ ls, LineOk r F C
  few : ls.length ≤ 8
theorem LinesAt.same {H H' : Hp} {ls : List LineV} {F C : List Nat} (h : LinesAt H ls F C) (s : Same H H') : LinesAt H' ls F C := ⟨fun r hr => s _ _ (h.at_ r hr), h.ok, h.few⟩
def bookF (F C : List Nat) (tl : Addr) : List (Str × V) := [("faces", .str (S F)), ("cutters", .str (S C)), ("_lines", .ref tl)]
def sp_Book_init (K : PySem.W.Frag) : Sp := fun vs H Q _ => ∃ (x CB dx tl : Addr) (F C : List Nat) (ls : List LineV), vs = [.ref x, .str (S F), .str (S C), .ref tl] ∧ H x = some (.ins CB dx []) ∧ Cls K CB ∧ NoAttr K CB "faces" ∧ NoAttr K CB "cutters" ∧ NoAttr K CB "_lines" ∧
  bFaces (.str (S F)) = true ∧ bCutters (.str (S C)) = true ∧ F.length ≤ 1000 ∧ C.length ≤ 1000 ∧ H tl = some (.tup (ls.map fun r => V.ref r.1)) ∧ LinesAt H ls F C ∧ ∀ H', Same H H' → Q .non (upd H' x (.ins CB dx (bookF F C tl)))
theorem fn_Book_init {f CB : Addr} {fd : FuncData} {t8 : Tok} {mc : Value} (F : Fun K "__init__" "Book.__init__" s_Book_init f fd) (T : Z mg) (gB : mg "Book" = some (.ref CB)) (rC : ClX.CRead K CB mc) (vM : ClX.CVal K CB mc "MOST" (.int 8) (.int 8 t8))
    (c_is_faces : Cal P w K mg base CX0 3 "is_faces" s_is_faces ["value"] (sp_is_faces K)) (c_is_cutters : Cal P w K mg base CX0 3 "is_cutters" s_is_cutters ["value"] (sp_is_cutters K))
    (c_is_line : Cal P w K mg base CX0 4 "is_line" s_is_line ["value", "faces", "cutters"] (sp_is_line K)) :
    FnR P w K mg base CX0 6 f (fun vs H Q E => ∃ ws rest, vs = ws ++ rest ∧ ws.length = ["self", "faces", "cutters"].length ∧ rest.length ≤ sizeLine ∧ ∀ p, H p = none → sp_Book_init K (ws ++ [V.ref p]) (upd H p (.tup rest)) Q E) := by
  obtain ⟨oc, od, kV, doc, pm, an, cdv, ct, osl, rfl, lk, hcd⟩ := F.ex
  refine StX.fn_star (ps := ["self", "faces", "cutters"]) (pv := "lines") lk hcd sc_Book_init StX.cxUp_none (bind_star3 (B := fun us => bindArgs (PySem.W.fnOf "__init__" "Book.__init__" (defArgs s_Book_init) (defBody s_Book_init) (defScope s_Book_init) .none kV doc pm an cdv ct) ⟨us, []⟩) (p1 := "self") (p2 := "faces") (p3 := "cutters") (pv := "lines") (fun _ _ _ => rfl) (fun _ _ _ _ _ => rfl)) (fun A outer s H vs Q E hr h => ?_)
  obtain ⟨x, CB', dx, tl, fs, cs, ls, rfl, hx, hC, nf, nc, nl, b1, b2, l1, l2, ht, hL, q⟩ := h
  refine ⟨_, PSs.nox (pss_cons (ps_if (pt_not (pt_val (pe_c c_is_faces hr (by decide) (by rfl) (pa_cons (pv 1) pa_nil)))) pss_never pss_nil)
    (pss_cons (ps_if (pt_not (pt_val (pe_c c_is_cutters hr (by decide) (by rfl) (pa_cons (pv 2) pa_nil)))) pss_never pss_nil)
    (pss_cons (ps_for PassesOwn.never rfl (pi_enumG (by rfl) T.z_enumerate (pa_cons (pv 3) pa_nil)) (pg_tup rfl (pgs_cons (pg_name (i := 4) sc_Book_init.nd rfl (.inl rfl)) (pgs_cons (pg_name (i := 5) sc_Book_init.nd rfl (.inl rfl)) pgs_nil)))
      (pss_one (ps_if (PW.pt (pw_or (pt_cmpR op_ge (pv 4) (ClX.pe_cval (pe_glob (v := .ref CB) rfl gB rfl)) (nomark _)) (pw_or1 (pt_not (pt_val (pe_c c_is_line hr (by decide) (by rfl) (pa_cons (pv 5) (pa_cons (pv 1) (pa_cons (pv 2) pa_nil))))))))) pss_never pss_nil)))
    (pss_cons (ps_fld (pv 0) (pv 1) rfl)
    (pss_cons (ps_fld (pv 0) (pv 2) rfl)
    (pss_one (ps_fld (pv 0) (pv 3) rfl))))))), ?_⟩
  refine ⟨_, rfl, .str (S fs), rfl, .inl ⟨rfl, (show fs.length ≤ 100000 by omega)⟩, fun H1 s1 => ⟨_, rfl, ?_⟩⟩
  rw [b1]
  refine iteF ⟨_, rfl, .str (S cs), rfl, .inl ⟨rfl, (show cs.length ≤ 100000 by omega)⟩, fun H2 s2 => ⟨_, rfl, ?_⟩⟩
  rw [b2]
  refine iteF ?_
  have s12 := s1.trans s2
  refine ⟨_, rfl, .ref tl, ls.map fun r => V.ref r.1, rfl, .t (SqT.of (s12 _ _ ht)), fun k ev src => ?_⟩
  have stay : ∀ H', Same H2 H' → k.src K H' (ls.map fun r => V.ref r.1) := fun H' s => by
    cases k with
    | l a => exact s.seq src
    | t a => exact s.tup src
    | s z t => cases ev
  refine for_it walk_enumG (fun i σ H' => ∃ y4 y5 : Option V, σ = [some (.ref x), some (.str (S fs)), some (.str (S cs)), some (.ref tl), y4, y5] ∧ Same H2 H') ⟨_, _, rfl, Same.refl _⟩ (fun i σ H' _ ⟨_, _, _, s⟩ => stay H' s) ?_ ?_
  · rintro i v σ H3 H4 hi ⟨y4, y5, rfl, s3⟩ ⟨T', a1, b1', rfl, nT, rfl, hx1, hy1⟩
    obtain rfl : V.int (i : Nat) = a1 := Option.some.inj hx1
    have hy2 : (ls.map fun r => V.ref r.1)[i]? = some b1' := hy1
    rw [List.getElem?_map] at hy2
    obtain ⟨r, hr1, rfl⟩ := Option.map_eq_some_iff.mp hy2
    have hm := List.mem_of_getElem? hr1
    have hi8 : i < 8 := Nat.lt_of_lt_of_le (by simpa using hi) hL.few
    have s4 := (s12.trans s3).trans (same_upd (o := HO.tup [V.int (i : Nat), V.ref r.1]) nT)
    have hok := hL.ok r hm
    refine ⟨T', _, rfl, SqT.of upd_same, rfl, _, _, rfl, _, [], rfl, rfl, ?_⟩
    refine ⟨_, rfl, CB, mc, .int 8, _, rfl, rC, vM, _, _, rfl, rfl, _, rfl, ?_⟩
    rw [show decide ((8 : Int) ≤ ((i : Nat) : Int)) = false from decide_eq_false (by omega)]
    refine iteF ?_
    have hat := s4 _ _ (hL.at_ r hm)
    refine ⟨_, rfl, _, rfl, _, rfl, r.1, _, _, _, _, _, _, fs, cs, rfl, SqT.of hat, fun p hp => ?_, fun H5 s5 => ⟨_, rfl, ?_⟩⟩
    · have hp' : p ∈ [r.2.1, r.2.2.1, r.2.2.2.1, r.2.2.2.2.1, r.2.2.2.2.2.1, r.2.2.2.2.2.2] ++ [fs, cs] := hp
      rcases List.mem_append.mp hp' with h | h
      · exact hok.ln p h
      · simp only [List.mem_cons, List.not_mem_nil, or_false] at h
        rcases h with rfl | rfl
        · exact l1
        · exact l2
    · rw [hok.ok]
      exact iteF ⟨_, _, rfl, (s3.trans (same_upd nT)).trans s5⟩
  · rintro σ H3 ⟨y4, y5, rfl, s3⟩
    have s4 := s12.trans s3
    refine ⟨_, rfl, _, rfl, x, CB', dx, [], rfl, s4 _ _ hx, hC, nf, by decide, ?_⟩
    refine ⟨_, rfl, _, rfl, x, CB', dx, _, rfl, upd_same, hC, nc, (show 1 < 1000 by decide), ?_⟩
    refine ⟨_, rfl, _, rfl, x, CB', dx, _, rfl, upd_same, hC, nl, (show 2 < 1000 by decide), ?_⟩
    rw [upd_upd, upd_upd]
    exact q _ s4
abbrev s_Book_read : Stmt := inCls (topS 52) 9
theorem sc_Book_read : FnScope ["text", "rows", "head", "faces", "cutters", "lines", "at", "line"] ["text"] (defScope s_Book_read) := ⟨rfl, rfl, rfl, by decide +kernel, rfl, by decide +kernel, by decide +kernel⟩
/-- six words of a line's text, as a line has them -/
abbrev W6 : Type := List Nat × List Nat × List Nat × List Nat × List Nat × List Nat
def rowW (w : W6) : Str := rowT w.1 w.2.1 w.2.2.1 w.2.2.2.1 w.2.2.2.2.1 w.2.2.2.2.2
def w6L (w : W6) : List (List Nat) := [w.1, w.2.1, w.2.2.1, w.2.2.2.1, w.2.2.2.2.1, w.2.2.2.2.2]
def bookT (F C : List Nat) (ws : List W6) : Str := Txt.join "\n" (headT F C :: ws.map rowW)
structure W6Ok (w : W6) (F C : List Nat) : Prop where
  ln : ∀ p ∈ w6L w, p.length ≤ 1000
  sp : ∀ p ∈ w6L w, 32 ∉ p ∧ 10 ∉ p
  nn : w.2.2.2.2.2 ≠ noneL
  ok : bLine w.1 w.2.1 w.2.2.1 w.2.2.2.1 w.2.2.2.2.1 w.2.2.2.2.2 F C = true
theorem tl_row {a b c d e u : List Nat} {x : Nat} (h : ∀ p ∈ [a, b, c, d, e, u], x ∉ p) (h1 : x ≠ 32) (h2 : x ∉ noneL) : x ∉ (rowT a b c d e u).cps.toList := by
  unfold rowT
  rw [show (" " : Str) = S [32] from rfl, SX.join_S]
  have hw : x ∉ wordU u := by
    unfold wordU
    split
    · exact h2
    · exact h u (by simp)
  show x ∉ a ++ ([32] ++ (b ++ ([32] ++ (c ++ ([32] ++ (d ++ ([32] ++ (e ++ ([32] ++ wordU u)))))))))
  simp only [List.mem_append, List.mem_singleton, not_or]
  exact ⟨h a (by simp), h1, h b (by simp), h1, h c (by simp), h1, h d (by simp), h1, h e (by simp), h1, hw⟩
theorem tl_head {F C : List Nat} {x : Nat} (h : x ∉ F) (h2 : x ∉ C) (h1 : x ≠ 32) : x ∉ (headT F C).cps.toList := by
  unfold headT
  rw [show (" " : Str) = S [32] from rfl, SX.join_S]
  show x ∉ F ++ ([32] ++ C)
  simp only [List.mem_append, List.mem_singleton, not_or]
  exact ⟨h, h1, h2⟩
theorem joinL_le {s : List Nat} {m : Nat} : ∀ {ps : List (List Nat)}, (∀ p ∈ ps, p.length ≤ m) → (TL.joinL s ps).length ≤ ps.length * (m + s.length)
  | [], _ => Nat.zero_le _
  | [p], h => by
    show p.length ≤ 1 * (m + s.length)
    have := h p List.mem_cons_self
    omega
  | p :: q :: r, h => by
    show (p ++ (s ++ TL.joinL s (q :: r))).length ≤ _
    have ih := joinL_le (s := s) (m := m) (ps := q :: r) fun x hx => h x (List.mem_cons_of_mem _ hx)
    have hp := h p List.mem_cons_self
    simp only [List.length_append, List.length_cons] at ih ⊢
    rw [Nat.add_mul (r.length + 1) 1 (m + s.length), Nat.one_mul]
    omega
theorem head_len {F C : List Nat} (l1 : F.length ≤ 1000) (l2 : C.length ≤ 1000) : (headT F C).length ≤ 7000 := by
  unfold headT
  rw [show (" " : Str) = S [32] from rfl, SX.join_S, S_len]
  show (F ++ ([32] ++ C)).length ≤ 7000
  simp only [List.length_append, List.length_cons, List.length_nil]
  omega
def sp_Book_read (K : PySem.W.Frag) (CB : Addr) : Sp := fun vs H Q _ => ∃ (F C : List Nat) (ws : List W6), vs = [.str (bookT F C ws)] ∧ F.length ≤ 1000 ∧ C.length ≤ 1000 ∧ (32 ∉ F ∧ 10 ∉ F) ∧ (32 ∉ C ∧ 10 ∉ C) ∧ bFaces (.str (S F)) = true ∧ bCutters (.str (S C)) = true ∧
  ws.length ≤ 8 ∧ (∀ w ∈ ws, W6Ok w F C) ∧ ∀ H' x dx tl ls, Same H H' → H x = none → H' x = some (.ins CB dx (bookF F C tl)) → H' tl = some (.tup (ls.map fun r : LineV => V.ref r.1)) → LinesAt H' ls F C → ls.map (·.2) = ws → Q (.ref x) H'
theorem bookT_split {F C : List Nat} {ws : List W6} (h1 : 10 ∉ F) (h2 : 10 ∉ C) (h : ∀ w ∈ ws, W6Ok w F C) : Txt.split (bookT F C ws) "\n" = headT F C :: ws.map rowW :=
  TL.split_join (s := 10) (S := []) rfl (by decide +kernel) (by simp) (fun p hp => by
    rcases List.mem_cons.mp hp with rfl | hp
    · exact tl_head h1 h2 (by decide)
    · obtain ⟨w, hw, rfl⟩ := List.mem_map.mp hp
      exact tl_row (fun p hp => ((h w hw).sp p hp).2) (by decide) (by decide))
theorem bookT_len {F C : List Nat} {ws : List W6} (l1 : F.length ≤ 1000) (l2 : C.length ≤ 1000) (hw : ws.length ≤ 8) (h : ∀ w ∈ ws, W6Ok w F C) : (bookT F C ws).length + 2 ≤ sizeLine := by
  have e : bookT F C ws = S (TL.joinL [10] ((headT F C :: ws.map rowW).map fun z => z.cps.toList)) := by
    unfold bookT
    rw [show (headT F C :: ws.map rowW) = (((headT F C :: ws.map rowW).map fun z => z.cps.toList).map S) from by
      rw [List.map_map]
      exact (List.map_id' _).symm.trans (List.map_congr_left fun z _ => (S_tl z).symm), show ("\n" : Str) = S [10] from rfl, SX.join_S]
    rw [List.map_map, List.map_map]
    congr 2
  rw [e, S_len]
  refine Nat.le_trans (Nat.add_le_add_right (joinL_le (m := 7000) fun p hp => ?_) 2) ?_
  · obtain ⟨z, hz, rfl⟩ := List.mem_map.mp hp
    rcases List.mem_cons.mp hz with rfl | hz
    · exact head_len l1 l2
    · obtain ⟨w, hw2, rfl⟩ := List.mem_map.mp hz
      exact rowT_len (h w hw2).ln
  · rw [List.length_map, List.length_cons, List.length_map]
    exact Nat.le_trans (show (ws.length + 1) * 7001 + 2 ≤ 63011 by omega) (by decide)
theorem ok_Book_read {f CB fB : Addr} {fd : FuncData} {t8 : Tok} {mc : Value} (F : Fun K "read" "Book.read" s_Book_read f fd) (T : Z mg) (gB : mg "Book" = some (.ref CB)) (rC : ClX.CRead K CB mc) (vM : ClX.CVal K CB mc "MOST" (.int 8) (.int 8 t8))
    (M : Mk K CB fB) (hC : Cls K CB) (nf : NoAttr K CB "faces") (nc : NoAttr K CB "cutters") (nl : NoAttr K CB "_lines")
    (FB : FnR P w K mg base CX0 6 fB (fun vs H Q E => ∃ ws rest, vs = ws ++ rest ∧ ws.length = ["self", "faces", "cutters"].length ∧ rest.length ≤ sizeLine ∧ ∀ p, H p = none → sp_Book_init K (ws ++ [V.ref p]) (upd H p (.tup rest)) Q E))
    (c_head_of : Cal P w K mg base CX0 4 "head_of" s_head_of ["row"] (sp_head_of K)) (c_line_of : Cal P w K mg base CX0 5 "line_of" s_line_of ["row", "faces", "cutters"] (sp_line_of K)) :
    FnOk P w K mg base CX0 8 f fd ["text"] (sp_Book_read K CB) := by
  refine F.ok sc_Book_read (fun vs H Q E h => ?_) (fun cdv A outer s H vs Q E hr h => ?_)
  · obtain ⟨F, C, ws, rfl, _⟩ := h
    rfl
  obtain ⟨fs, cs, ws, rfl, l1, l2, ⟨f32, f10⟩, ⟨c32, c10⟩, b1, b2, hw8, hws, q⟩ := h
  refine ⟨_, (pss_cons (ps_if (pt_not (pt_val (pe_callB call_isi (by rfl) T.z_isinstance (by decide +kernel) (pa_cons (pv 0) (pa_cons (pe_bltn (v := .ty "str") (u := .type "str") (by rfl) T.z_str (by decide +kernel) rfl) pa_nil))))) pss_never pss_nil)
    (pss_cons (ps_set (i := 1) sc_Book_read.nd rfl (.inl rfl) (pe_split (pv 0) pe_str))
    (pss_cons (ps_set (i := 2) sc_Book_read.nd rfl (.inl rfl) (pe_c c_head_of hr (by decide) (by rfl) (pa_cons (pe_ix ix_list (pv 1) pe_int (fun _ _ => rfl)) pa_nil)))
    (pss_cons (ps_if (pt_cmp (pc_isN (pv 2))) pss_never pss_nil)
    (pss_cons (ps_asg (pv 2) (pg_tup rfl (pgs_cons (pg_name (i := 3) sc_Book_read.nd rfl (.inl rfl)) (pgs_cons (pg_name (i := 4) sc_Book_read.nd rfl (.inl rfl)) pgs_nil))))
    (pss_cons (ps_set (i := 5) sc_Book_read.nd rfl (.inl rfl) (pe_lst pa_nil))
    (pss_cons (ps_for PassesOwn.never rfl (pi_range2 (by rfl) T.z_range (pa_cons pe_int (pa_cons (pe_callB call_len_seq (by rfl) T.z_len (by decide +kernel) (pa_cons (pv 1) pa_nil)) pa_nil))) (pg_name (i := 6) sc_Book_read.nd rfl (.inl rfl))
      (pss_cons (ps_set (i := 7) sc_Book_read.nd rfl (.inl rfl) (pe_c c_line_of hr (by decide) (by rfl) (pa_cons (pe_ix ix_list (pv 1) (pv 6) (fun _ _ => rfl)) (pa_cons (pv 3) (pa_cons (pv 4) pa_nil)))))
      (pss_cons (ps_if (PW.pt (pw_or (pt_cmp (pc_isN (pv 7))) (pw_or1 (pt_cmpR op_gt (pv 6) (ClX.pe_cval (pe_glob (v := .ref CB) rfl gB rfl)) (nomark _))))) pss_never pss_nil)
      (pss_one (ps_expr (pe_bm PySem.F.plainAttrs_list PySem.F.slot_list_append PySem.F.type_list_append mt_append (pv 5) (pa_cons (pv 7) pa_nil)))))))
    (pss_one (ps_ret (pe_makeS M FB hr (by rfl) gB pass0 (pa_cons (pv 3) (pa_cons (pv 4) (StX.pa_star (pv 5) pa_nil))))))))))))), ?_⟩
  refine ⟨_, rfl, _, _, _, _, true, rfl, .ty _, .base (.str _), kit_ty (by decide +kernel), true, rfl, iteF ?_⟩
  refine ⟨_, rfl, ⟨_, rfl⟩, _, _, rfl, rfl, rfl, bookT_len l1 l2 hw8 hws, fun pr npr => ?_⟩
  rw [bookT_split f10 c10 hws]
  have sr := same_upd (o := HO.lst ((headT fs cs :: ws.map rowW).map V.str)) npr
  have gr : (upd H pr (.lst ((headT fs cs :: ws.map rowW).map V.str))) pr = some (.lst ((headT fs cs :: ws.map rowW).map V.str)) := upd_same
  generalize upd H pr (.lst ((headT fs cs :: ws.map rowW).map V.str)) = H1 at sr gr
  refine ⟨_, rfl, pr, _, 0, _, rfl, rfl, SqL.of gr, at_of (show (0 : Int) = ((0 : Nat) : Int) from rfl) rfl, fs, cs, rfl, l1, l2, f32, c32, b1, b2, fun H2 ph s2 nph hph => ?_⟩
  refine ⟨_, rfl, _, rfl, iteF ?_⟩
  refine ⟨_, rfl, ph, _, rfl, SqT.of hph, rfl, _, _, rfl, _, [], rfl, rfl, ?_⟩
  refine ⟨(show 0 ≤ sizeLine by decide), fun pl npl => ?_⟩
  have s02 := sr.trans s2
  have gr2 := s2 _ _ gr
  have npl0 : H pl = none := by
    cases z : H pl with
    | none => rfl
    | some o =>
      rw [s02 _ _ z] at npl
      cases npl
  have hlen : ((headT fs cs :: ws.map rowW).map V.str).length = ws.length + 1 := by
    rw [List.length_map, List.length_cons, List.length_map]
  refine ⟨_, rfl, pr, _, rfl, .inl (SqL.of ((same_upd npl) _ _ gr2)), 1, _, rfl, ?_, ?_⟩
  · rw [hlen]
    omega
  rw [hlen, show (((ws.length + 1 : Nat) : Int) - 1).toNat = ws.length by omega]
  refine for_it walk_range (fun i σ H' => ∃ (y6 y7 : Option V) (ls : List LineV), σ = [some (.str (bookT fs cs ws)), some (.ref pr), some (.ref ph), some (.str (S fs)), some (.str (S cs)), some (.ref pl), y6, y7] ∧ Same H H' ∧ H' pr = some (.lst ((headT fs cs :: ws.map rowW).map V.str)) ∧
      H' pl = some (.lst (ls.map fun r => V.ref r.1)) ∧ (∀ r ∈ ls, H' r.1 = some r.tup) ∧ ls.map (·.2) = ws.take i)
    ⟨_, _, [], rfl, s02.trans (same_upd npl), (same_upd npl) _ _ gr2, upd_same, (fun _ h => by cases h), rfl⟩ (fun _ _ _ _ _ => trivial) ?_ ?_
  · rintro i x σ H3 H4 hi ⟨y6, y7, ls, rfl, s3, gr3, gl3, at3, e3⟩ ⟨rfl, rfl⟩
    have hiw : ws[i]? = some ws[i] := List.getElem?_eq_getElem hi
    generalize ws[i] = w at hiw
    have hw := hws w (List.mem_of_getElem? hiw)
    have hrow : ((headT fs cs :: ws.map rowW).map V.str)[1 + i]? = some (.str (rowW w)) := by
      rw [Nat.add_comm, List.map_cons, List.getElem?_cons_succ, List.map_map, List.getElem?_map, hiw]
      rfl
    refine ⟨_, rfl, _, rfl, pr, _, 1 + (i : Int), _, rfl, rfl, SqL.of gr3, at_of (show 1 + (i : Int) = ((1 + i : Nat) : Int) by omega) hrow, _, rfl, _, rfl, w.1, w.2.1, w.2.2.1, w.2.2.2.1, w.2.2.2.2.1, w.2.2.2.2.2, fs, cs, rfl, fun p hp => ?_, fun p hp => (hw.sp p hp).1, hw.nn, hw.ok, fun H5 pn s5 npn hpn => ?_⟩
    · have hp' : p ∈ w6L w ++ [fs, cs] := hp
      rcases List.mem_append.mp hp' with h | h
      · exact hw.ln p h
      · simp only [List.mem_cons, List.not_mem_nil, or_false] at h
        rcases h with rfl | rfl
        · exact l1
        · exact l2
    refine ⟨_, rfl, _, rfl, iteF ?_⟩
    refine ⟨_, rfl, CB, mc, .int 8, _, rfl, rC, vM, _, _, rfl, rfl, _, rfl, ?_⟩
    rw [show decide ((8 : Int) < 1 + ((i : Nat) : Int)) = false from decide_eq_false (by omega)]
    refine iteF ?_
    have gl5 := s5 _ _ gl3
    have prl : pr ≠ pl := ne_of_none gr2 npl
    have nep : pn ≠ pl := fun z => by
      rw [z, gl3] at npn
      cases npn
    refine ⟨_, rfl, .inl ⟨rfl, _, SqL.of gl5⟩, _, rfl, pl, _, _, rfl, rfl, gl5, ?_, ?_⟩
    · rw [List.length_map]
      have e4 := congrArg List.length e3
      rw [List.length_map, List.length_take] at e4
      exact sz1 (by omega)
    refine ⟨_, _, ls ++ [(pn, w)], rfl, fun z o hz => (upd_ne (ne_of_none hz npl0)).trans (s5 _ _ (s3 _ _ hz)), (upd_ne prl).trans (s5 _ _ gr3), ?_, fun r hr => ?_, ?_⟩
    · rw [upd_same, List.map_append]
      rfl
    · rcases List.mem_append.mp hr with h | h
      · have h3 := at3 r h
        have hne : r.1 ≠ pl := fun z => by
          rw [z, gl3] at h3
          cases h3
        exact (upd_ne hne).trans (s5 _ _ h3)
      · rw [List.mem_singleton.mp h]
        exact (upd_ne nep).trans hpn
    · rw [List.map_append, e3, List.take_add_one, hiw]
      rfl
  · rintro σ H3 ⟨y6, y7, ls, rfl, s3, gr3, gl3, at3, e3⟩
    rw [List.take_of_length_le (Nat.le_refl _)] at e3
    have hls : ls.length ≤ 8 := by
      have e4 := congrArg List.length e3
      rw [List.length_map] at e4
      omega
    refine ⟨_, rfl, _, rfl, _, rfl, pl, _, rfl, .inr (SqL.of gl3), fun x dx nx ndx hne => ?_⟩
    have nx0 : H x = none := by
      cases z : H x with
      | none => rfl
      | some o =>
        rw [s3 _ _ z] at nx
        cases nx
    have hxm : (upd (upd H3 dx (.own x)) x (.ins CB dx [])) x = some (.ins CB dx []) := upd_same
    have sm : Same H3 (upd (upd H3 dx (.own x)) x (.ins CB dx [])) := fun z o hz => (upd_ne (ne_of_none hz nx)).trans ((upd_ne (ne_of_none hz ndx)).trans hz)
    refine ⟨[.ref x, .str (S fs), .str (S cs)], ls.map fun r => V.ref r.1, by rw [List.append_nil]; rfl, rfl, ?_, fun tl ntl => ?_⟩
    · rw [List.length_map]
      exact Nat.le_trans hls (by decide)
    have htx : tl ≠ x := fun z => by
      rw [z, hxm] at ntl
      cases ntl
    have st := same_upd (o := HO.tup (ls.map fun r => V.ref r.1)) ntl
    have lat : ∀ r ∈ ls, LineOk r fs cs := fun r hr => by
      have hm : r.2 ∈ ws := by
        rw [← e3]
        exact List.mem_map.mpr ⟨r, hr, rfl⟩
      exact ⟨(hws _ hm).ln, (hws _ hm).ok⟩
    refine ⟨x, CB, dx, tl, fs, cs, ls, rfl, st _ _ hxm, hC, nf, nc, nl, b1, b2, l1, l2, upd_same, ⟨fun r hr => st _ _ (sm _ _ (at3 r hr)), lat, hls⟩, fun H' s' => ⟨rfl, ?_⟩⟩
    have far : ∀ z o, z ≠ x → (upd (upd (upd H3 dx (.own x)) x (.ins CB dx [])) tl (.tup (ls.map fun r => V.ref r.1))) z = some o → (upd H' x (.ins CB dx (bookF fs cs tl))) z = some o := fun z o n h => (upd_ne n).trans (s' _ _ h)
    refine q _ x dx tl ls (fun z o hz => far z o (ne_of_none hz nx0) (st _ _ (sm _ _ (s3 _ _ hz)))) nx0 upd_same (far _ _ htx upd_same) ⟨fun r hr => far _ _ (fun z => ?_) (st _ _ (sm _ _ (at3 r hr))), lat, hls⟩ e3
    have h3 := at3 r hr
    rw [z, nx] at h3
    cases h3
end
end FW
namespace FW
open PySem PySem.Spec PyProof.Rows L2
/-! ### methods and static methods by their names -/
structure MCal (P : Program) (w : World) (K : PySem.W.Frag) (mg : Str → Option Value) (base : Heap) (CX : CXT) (C : Addr) (k : Nat) (m : Str) (ps : List Str) (sp : Sp) : Prop where
  ex : ∃ (f : Addr) (fd : FuncData), Meth K C m f ∧ FnOk P w K mg base CX k f fd ps sp ∧ L2.Binds K fd ps []
structure SCal (P : Program) (w : World) (K : PySem.W.Frag) (mg : Str → Option Value) (base : Heap) (CX : CXT) (x : Str) (C : Addr) (k : Nat) (m : Str) (st : Stmt) (ps : List Str) (sp : Sp) : Prop where
  g : mg x = some (.ref C)
  ex : ∃ (f : Addr) (fd : FuncData) (q : Str), Sta K C m f ∧ FnOk P w K mg base CX k f fd ps sp ∧ L2.Binds K fd ps [] ∧ Fun K m q st f fd
section
variable {X : Cx} {k j : Nat} {C : Addr} {x m : Str} {st : Stmt} {ps ks : List Str} {sp : Sp} {o e : Expr} {es : List Expr} {kws : List Keyword} {apos pos p1 : Pos} {ta : TE} {t tk : TA} {CX : CXT} {E : XK} {g : List Value → List Value → List Value} {gV : List V → List V → List V}
theorem pe_mx {pl : Sem Bool} (c : MCal X.prog X.w X.K X.mg X.base CX C k m ps sp) (hC : Cls X.K C) (hr : Room j X.A) (hk : k ≤ j) (hx : Passes CX X E) (he : PE X o ta) (ha : PA X (e :: es) t)
    (hst : starEach (e :: es) X.env = (false, eval e X.env) :: starEach es X.env := by rfl) (hpl : (backTo pos (starEach es X.env)).any (·.1) = false := by rfl)
    (ht : eval (.Call (.Attribute o m apos) (e :: es) [] pos) X.env = (do
      let ov ← eval o X.env
      standAt apos.atName
      let (f, first) ← holding [ov] (getMethod ov m pl)
      callWith pos f first (backTo pos (starEach (e :: es) X.env)) (backToKw pos (keywordEach [] X.env))) := by rfl) :
    PE X (.Call (.Attribute o m apos) (e :: es) [] pos) (tMeth C m sp [] E ta t) := by
  obtain ⟨f, fd, M, F, b⟩ := c.ex
  exact pe_meth he hC M F (hr.mono hk) b .nil hx ha hst hpl ht
theorem pe_mx0 {pl : Sem Bool} (c : MCal X.prog X.w X.K X.mg X.base CX C k m ps sp) (hC : Cls X.K C) (hr : Room j X.A) (hk : k ≤ j) (hx : Passes CX X E) (he : PE X o ta)
    (ht : eval (.Call (.Attribute o m apos) [] [] pos) X.env = (do
      let ov ← eval o X.env
      standAt apos.atName
      let (f, first) ← holding [ov] (getMethod ov m pl)
      callWith pos f first (backTo pos (starEach [] X.env)) (backToKw pos (keywordEach [] X.env))) := by rfl) :
    PE X (.Call (.Attribute o m apos) [] [] pos) (tMeth C m sp [] E ta tNil) := by
  obtain ⟨f, fd, M, F, b⟩ := c.ex
  exact pe_meth0 he hC M F (hr.mono hk) b .nil hx ht
theorem pe_m {pl : Sem Bool} (c : MCal X.prog X.w X.K X.mg X.base CX0 C k m ps sp) (hC : Cls X.K C) (hr : Room j X.A) (hk : k ≤ j) (he : PE X o ta) (ha : PA X (e :: es) t)
    (hst : starEach (e :: es) X.env = (false, eval e X.env) :: starEach es X.env := by rfl) (hpl : (backTo pos (starEach es X.env)).any (·.1) = false := by rfl)
    (ht : eval (.Call (.Attribute o m apos) (e :: es) [] pos) X.env = (do
      let ov ← eval o X.env
      standAt apos.atName
      let (f, first) ← holding [ov] (getMethod ov m pl)
      callWith pos f first (backTo pos (starEach (e :: es) X.env)) (backToKw pos (keywordEach [] X.env))) := by rfl) :
    PE X (.Call (.Attribute o m apos) (e :: es) [] pos) (tMeth C m sp [] E0 ta t) := pe_mx c hC hr hk pass0 he ha hst hpl ht
theorem pe_m0 {pl : Sem Bool} (c : MCal X.prog X.w X.K X.mg X.base CX0 C k m ps sp) (hC : Cls X.K C) (hr : Room j X.A) (hk : k ≤ j) (he : PE X o ta)
    (ht : eval (.Call (.Attribute o m apos) [] [] pos) X.env = (do
      let ov ← eval o X.env
      standAt apos.atName
      let (f, first) ← holding [ov] (getMethod ov m pl)
      callWith pos f first (backTo pos (starEach [] X.env)) (backToKw pos (keywordEach [] X.env))) := by rfl) :
    PE X (.Call (.Attribute o m apos) [] [] pos) (tMeth C m sp [] E0 ta tNil) := pe_mx0 c hC hr hk pass0 he ht
theorem pe_s {pl : Sem Bool} (c : SCal X.prog X.w X.K X.mg X.base CX0 x C k m st ps sp) (hr : Room j X.A) (hk : k ≤ j) (hg : Gl X x) (ha : PA X (e :: es) t)
    (hdb : (x == ("__debug__" : Str)) = false := by decide)
    (hc : eval (.Call (.Attribute (.Name x p1) m apos) (e :: es) [] pos) X.env = (do
      let oc ← eval (.Name x p1) X.env
      standAt apos.atName
      let (fc, fst) ← holding [oc] (getMethod oc m pl)
      callWith pos fc fst (backTo pos (starEach (e :: es) X.env)) (backToKw pos (keywordEach [] X.env))) := by rfl)
    (he : starEach (e :: es) X.env = (false, eval e X.env) :: starEach es X.env := by rfl) (hpl : (backTo pos (starEach es X.env)).any (·.1) = false := by rfl) :
    PE X (.Call (.Attribute (.Name x p1) m apos) (e :: es) [] pos) (tCall sp [] E0 t) := by
  obtain ⟨f, fd, q, S, F, b, _⟩ := c.ex
  exact pe_static hg c.g S F (hr.mono hk) b .nil pass0 ha hdb hc he hpl
theorem pe_sk0 {pl : Sem Bool} (c : SCal X.prog X.w X.K X.mg X.base CX0 x C k m st ps sp) (hb : ∀ f fd q, Fun X.K m q st f fd → KBinds X.K fd ps ks g gV) (hr : Room j X.A) (hk : k ≤ j) (hg : Gl X x) (hkw : PK X kws tk)
    (hall : (backToKw pos (keywordEach kws X.env)).all (·.1.isSome) = true := by rfl) (hks : (backToKw pos (keywordEach kws X.env)).filterMap (·.1) = ks := by rfl)
    (hdb : (x == ("__debug__" : Str)) = false := by decide)
    (hc : eval (.Call (.Attribute (.Name x p1) m apos) [] kws pos) X.env = (do
      let oc ← eval (.Name x p1) X.env
      standAt apos.atName
      let (fc, fst) ← holding [oc] (getMethod oc m pl)
      callWith pos fc fst (backTo pos (starEach [] X.env)) (backToKw pos (keywordEach kws X.env))) := by rfl)
    (hpl : ((backTo pos (starEach [] X.env)).any (·.1) || (backToKw pos (keywordEach kws X.env)).any (·.1.isNone)) = false := by rfl) :
    PE X (.Call (.Attribute (.Name x p1) m apos) [] kws pos) (tCallK sp gV E0 tNil tk) := by
  obtain ⟨f, fd, q, S, F, b, fn⟩ := c.ex
  exact pe_staticK0 hg c.g S F (hr.mono hk) (hb f fd q fn) pass0 hkw hall hks hdb hc hpl
theorem kbs_one {K : PySem.W.Frag} {x p1 : Str} {st : Stmt}
    (h : ∀ (q : Str) (kV doc pm : Value) (an : Option Addr) (cdv ct : Value) (u : Value), bindArgs (PySem.W.fnOf x q (defArgs st) (defBody st) (defScope st) .none kV doc pm an cdv ct) ⟨[], [(p1, u)]⟩ = pure [(p1, u)]) :
    ∀ f fd q, Fun K x q st f fd → KBinds K fd [p1] [p1] one1 one1 := by
  intro f fd q F
  obtain ⟨oc, od, kV, doc, pm, an, cdv, ct, osl, rfl, lk, hcd⟩ := F.ex
  refine ⟨fun s us ws _ hl => ?_, fun r q => one1_vals r q⟩
  match us, ws, hl with
  | [], [u], _ => exact .of_eq (h q kV doc pm an cdv ct u)
  | [], [], hl => exact absurd (show 0 = 1 from hl) (by decide)
  | [], _ :: _ :: _, hl => exact absurd (show 0 = 1 from hl) (by decide)
  | _ :: _, ws, hl => exact absurd (show 0 = 1 from hl) (by decide)
structure OwnE (P : Program) (w : World) (K : PySem.W.Frag) (mg : Str → Option Value) (base : Heap) (C : Addr) (k : Nat) (sp : Sp) : Prop where
  ex : ∃ f : Addr, PySem.W.findIn K (.ref C) "__eq__" = some (some (.ref f)) ∧ PySem.W.isFn K (.ref f) = true ∧ FnR P w K mg base CX0 k f sp
  ne : PySem.W.findIn K (.ref C) "__ne__" = some (some (.builtin "object.__ne__"))
  ob : PySem.W.mroIn K C (.type "object") = some true
  nf : PySem.W.notFirst K C (.ref C) = true
theorem op_eqO (o : OwnE X.prog X.w X.K X.mg X.base C k sp) (hr : Room j X.A) (hk : k ≤ j) : OpR X (compareOp .Eq) (rOwnI X.K C sp E0 false) := by
  obtain ⟨f, h1, h2, F⟩ := o.ex
  exact op_eqI h1 h2 F (hr.mono hk) pass0
theorem op_neO (o : OwnE X.prog X.w X.K X.mg X.base C k sp) (hr : Room j X.A) (hk : k + 1 ≤ j) : OpR X (compareOp .NotEq) (rOwnI X.K C sp E0 true) := by
  obtain ⟨f, h1, h2, F⟩ := o.ex
  exact op_neI h1 h2 o.ne o.ob F (hr.mono hk) pass0
end
end FW
namespace FW
open PySem PySem.Spec PyProof.Rows L2
/-! ### sorted: pairs of texts -/
abbrev cl (x : Str) : List Nat := x.cps.toList
def lexS (p q : Str × Str) : Bool := if p.1 = q.1 then decide (cl p.2 < cl q.2) else decide (cl p.1 < cl q.1)
theorem cl_inj {x y : Str} (h : cl x = cl y) : x = y := by
  obtain ⟨⟨a⟩⟩ := x
  obtain ⟨⟨b⟩⟩ := y
  have : a = b := h
  rw [this]
theorem lexS_iff {p q : Str × Str} : lexS p q = true ↔ cl p.1 < cl q.1 ∨ (cl p.1 = cl q.1 ∧ cl p.2 < cl q.2) := by
  unfold lexS
  by_cases e : p.1 = q.1
  · rw [if_pos e, decide_eq_true_eq, e]
    exact ⟨fun h => .inr ⟨rfl, h⟩, fun h => h.elim (fun z => absurd z (List.lt_irrefl _)) (·.2)⟩
  · rw [if_neg e, decide_eq_true_eq]
    exact ⟨.inl, fun h => h.elim id fun z => absurd (cl_inj z.1) e⟩
theorem lexS_no {p q : Str × Str} : lexS p q = false ↔ ¬ (cl p.1 < cl q.1 ∨ (cl p.1 = cl q.1 ∧ cl p.2 < cl q.2)) := by
  rw [← lexS_iff]
  cases lexS p q <;> simp
theorem lt_or {a b : List Nat} (h : ¬ a < b) : b < a ∨ a = b := by
  by_cases e : a = b
  · exact .inr e
  · refine .inl ?_
    have h1 : b ≤ a := h
    rcases Classical.em (b < a) with z | z
    · exact z
    · exact absurd (List.le_antisymm (show a ≤ b from z) h1) e
theorem swo_S {α : Type} (k : α → Str × Str) : SrtO.Swo fun v u => lexS (k v) (k u) := by
  refine ⟨fun x y h => ?_, fun x y z h1 h2 => ?_⟩
  · have a := lexS_iff.mp h
    refine lexS_no.mpr fun b => ?_
    rcases a with a | ⟨e, a⟩
    · rcases b with b | ⟨e, b⟩
      · exact List.lt_irrefl _ (List.lt_trans a b)
      · rw [e] at a
        exact List.lt_irrefl _ a
    · rcases b with b | ⟨_, b⟩
      · rw [e] at b
        exact List.lt_irrefl _ b
      · exact List.lt_irrefl _ (List.lt_trans a b)
  · have a := lexS_no.mp h1
    have b := lexS_no.mp h2
    refine lexS_no.mpr fun c => ?_
    simp only [not_or, not_and] at a b
    rcases c with c | ⟨e, c⟩
    · rcases lt_or a.1 with a1 | a1
      · rcases lt_or b.1 with b1 | b1
        · exact List.lt_irrefl _ (List.lt_trans (List.lt_trans c a1) b1)
        · have c2 := List.lt_trans c a1
          rw [b1] at c2
          exact List.lt_irrefl _ c2
      · rw [← a1] at c
        exact b.1 c
    · rcases lt_or a.1 with a1 | a1
      · rcases lt_or b.1 with b1 | b1
        · rw [e] at b1
          exact List.lt_irrefl _ (List.lt_trans a1 b1)
        · rw [← b1, e] at a1
          exact List.lt_irrefl _ a1
      · have b0 : cl (k z).1 = cl (k y).1 := e.trans a1.symm
        rcases lt_or (a.2 a1) with a2 | a2
        · rcases lt_or (b.2 b0) with b2 | b2
          · exact List.lt_irrefl _ (List.lt_trans (List.lt_trans c a2) b2)
          · rw [b2] at c
            exact List.lt_irrefl _ (List.lt_trans a2 c)
        · rw [← a2] at c
          exact b.2 b0 c
def IsPairS (h : Heap) (v : Value) (x y : Str) : Prop := ∃ a o t u n, v = .ref a ∧ h.get? a = some o ∧ o.cls = .type "tuple" ∧ o.data = .seq #[.str x t, .str y u] n
theorem IsPairS.keeps {h h' : Heap} {v : Value} {x y : Str} (p : IsPairS h v x y) (k : ∀ b o, h.get? b = some o → o.cls = .type "tuple" → h'.get? b = some o) : IsPairS h' v x y := by
  obtain ⟨a, o, t, u, n, e, ho, hc, hd⟩ := p
  exact ⟨a, o, t, u, n, e, k _ _ ho hc, hc, hd⟩
theorem firsts_S {h : Heap} : ∀ {vs : List Value}, (∀ v ∈ vs, ∃ x y, IsPairS h v x y) → ∃ fs : List Value, PySem.W.KatTups h vs fs ∧ fs.length = vs.length ∧ ∀ f ∈ fs, ∃ x t, f = Value.str x t
  | [], _ => ⟨[], PySem.W.KatTups.nil, rfl, fun _ hm => by simp at hm⟩
  | v :: vs, x => by
    obtain ⟨fs, k, hl, hi⟩ := firsts_S (vs := vs) fun u hu => x u (List.mem_cons_of_mem _ hu)
    obtain ⟨z, y, a, o, t, u, n, rfl, ho, hc, hd⟩ := x v (List.mem_cons_self ..)
    refine ⟨.str z t :: fs, PySem.W.KatTups.cons ho hc hd rfl k, by rw [List.length_cons, List.length_cons, hl], fun f hf => ?_⟩
    rcases List.mem_cons.mp hf with rfl | hf
    · exact ⟨z, t, rfl⟩
    · exact hi f hf
section
variable {prog : Program} {w : World} {A : Around} {E : Value → Shared → Prop} {s : Shared}
open SrtO
theorem pair_cmpS {vs : List Value} {k : Value → Str × Str} (hp : ∀ v ∈ vs, IsPairS s.heap v (k v).1 (k v).2) : Cmp prog w A s (tuples' true) (fun p => p.1 ∈ vs) (lt2 fun v u => lexS (k v) (k u)) := by
  intro p q hm hm'
  have h1 := hp _ hm
  have h2 := hp _ hm'
  show wpAny (model prog w) A (keyLt' (tuples' true) p.1 q.1) (fun r s' => s' = s ∧ r = lexS (k p.1) (k q.1)) (fun _ _ => False) s
  unfold lexS
  generalize (k p.1).1 = x at h1 ⊢
  generalize (k p.1).2 = y at h1 ⊢
  generalize (k q.1).1 = x' at h2 ⊢
  generalize (k q.1).2 = y' at h2 ⊢
  obtain ⟨a, o, t, u, n, e, ho, hc, hd⟩ := h1
  obtain ⟨a', o', t', u', n', e', ho', hc', hd'⟩ := h2
  rw [e, e']
  refine PySem.W.kat_lt ho hd ho' hd' ?_
  show PySem.W.KatLex prog w A true (decide (2 < 2)) _ [(.str x t, .str x' t'), (.str y u, .str y' u')] 0 s
  refine PySem.W.kat_cons (SeqAt.EqAt.str_str x t x' t' prog w _ _ ?_)
  refine PySem.W.kat_go (fun e1 => ?_) (fun e1 => ?_)
  · have ex : x = x' := by simpa using e1
    refine PySem.W.kat_yes (PySem.W.kat_cons (SeqAt.EqAt.str_str y u y' u' prog w _ _ ?_))
    refine PySem.W.kat_go (fun e2 => ?_) (fun e2 => ?_)
    · have ey : y = y' := by simpa using e2
      have e3 : (if x = x' then decide (cl y < cl y') else decide (cl x < cl x')) = false := by
        rw [if_pos ex, ey]
        exact decide_eq_false (List.lt_irrefl _)
      exact PySem.W.kat_yes (PySem.W.kat_nil ⟨rfl, e3.symm⟩)
    · have e3 : (if x = x' then decide (cl y < cl y') else decide (cl x < cl x')) = decide (cl y < cl y') := if_pos ex
      exact PySem.W.kat_no (PyProof.Rows.oneLt_any_str ⟨rfl, e3.symm⟩)
  · have ex : ¬ x = x' := by simpa using e1
    have e3 : (if x = x' then decide (cl y < cl y') else decide (cl x < cl x')) = decide (cl x < cl x') := if_neg ex
    exact PySem.W.kat_no (PyProof.Rows.oneLt_any_str ⟨rfl, e3.symm⟩)
theorem pairs_sortableS {a : Addr} {vs : List Value} {k : Value → Str × Str} (h0 : 0 < vs.length) (hp : ∀ v ∈ vs, IsPairS s.heap v (k v).1 (k v).2) (ha : ∀ o, s.heap.get? a = some o → o.cls ≠ .type "tuple") : SortableO prog w A s a vs fun v u => lexS (k v) (k u) := by
  intro h' keep
  have hp' : ∀ v ∈ vs, IsPairS h' v (k v).1 (k v).2 := fun v hm => (hp v hm).keeps fun b o e c => keep b o (fun z => by subst z; exact ha o e c) e
  obtain ⟨fs, h1, h2, h3⟩ := firsts_S fun v hm => ⟨_, _, hp' v hm⟩
  refine ⟨tuples' true, fun Q E hq => ?_, pair_cmpS hp'⟩
  refine PySem.W.kat_kind (T := .type "str") h1 (by omega) (fun f hm => ?_) (by rfl) ?_
  · obtain ⟨x, t, rfl⟩ := h3 f hm
    exact PySem.W.Looks.now
  · have e : (Value.type "str" != Value.type "tuple") = true := by first | decide +kernel | rfl | decide
    rw [e]
    exact hq
theorem sorted_pairsS {l : Addr} {vs : List Value} {k : Value → Str × Str} {Q : Value → Shared → Prop} (hl : s.heap.IsList l vs.toArray) (hz : vs.length ≤ sizeLine) (hp : ∀ v ∈ vs, IsPairS s.heap v (k v).1 (k v).2)
    (h : ∀ (h' : Heap) (d : Addr) (out : List Value), Srtd (fun v u => lexS (k v) (k u)) out → Stb (fun v u => lexS (k v) (k u)) out vs → (∀ b o, s.heap.get? b = some o → h'.get? b = some o) → s.heap.objs.size ≤ d → (∃ n, h'.get? d = some (seqObj "list" out.toArray n)) → Q (.ref d) { s with heap := h' }) :
    wpAny (model prog w) A (call (.builtin "sorted") [.ref l]) Q E s := by
  refine sorted_ord (swo_S k) hl hz (fun h2 h₁ a ha kk => ?_) fun out hs hb => ?_
  · refine pairs_sortableS (s := { s with heap := h₁ }) (by omega) (fun v hm => (hp v hm).keeps fun b o e _ => (kk b o e).2) fun o e => ?_
    have e' : some o = some (seqObj "list" vs.toArray 0) := e.symm.trans ha
    cases e'
    intro c
    exact absurd (Value.type.inj c) (by decide)
  · exact h _ _ out hs hb (fun b o e => sortedAll_old e) (Nat.le_succ _) (sortedAll_at s.heap vs out.toArray)
end
/-- sorted(xs), xs a list of pairs of texts (k says which) -/
def rSortedSS (K : PySem.W.Frag) : List V → Hp → VK → Prop := fun vs H Q => ∃ (a : Addr) (xs : List V) (k : V → Str × Str), vs = [V.ref a] ∧ SqL K H a xs ∧ (∀ x ∈ xs, ∃ t, x = V.ref t ∧ H t = some (.tup [.str (k x).1, .str (k x).2])) ∧
  ∀ ys p, ys.Pairwise (fun x y => lexS (k y) (k x) = false) → ys.Perm xs → H p = none → Q (.ref p) (upd H p (.lst ys))
section
variable {X : Cx}
theorem cr_sortedSS : CallR X (.builtin "sorted") (rSortedSS X.K) := by
  intro pins s σ H vs us Q I r h
  obtain ⟨a, xs, k, rfl, hs, hx, q⟩ := h
  obtain ⟨its, rv, hl, hz⟩ := I.list hs
  obtain ⟨u, rfl, ru⟩ := vals1 r
  obtain rfl : u = Value.ref a := ru
  obtain ⟨e1, e2⟩ := refs_back rv fun x m => by
    obtain ⟨t, e, _⟩ := hx x m
    exact ⟨t, e⟩
  refine sorted_pairsS (k := fun u => k (backV u)) hl.isList (by rw [← rv.length]; exact hz) (fun v hv => ?_) fun h' d out h1 h2 kp hd hn => ?_
  · obtain ⟨t, rfl⟩ := e2 v hv
    have hm : V.ref t ∈ xs := by rw [e1]; exact List.mem_map.mpr ⟨_, hv, rfl⟩
    obtain ⟨t', e, ht⟩ := hx _ hm
    cases e
    obtain ⟨_, its2, r2, o, ho, hc, n, hd⟩ := I.hok _ _ ht
    obtain ⟨u1, u2, rfl, ri, rj⟩ := vals2 r2
    obtain ⟨t1, rfl⟩ := ri
    obtain ⟨t2, rfl⟩ := rj
    exact ⟨t, o, t1, t2, n, rfl, ho, hc, hd⟩
  · have h3 : ∀ u ∈ out, ∃ a, u = Value.ref a := fun u hu => e2 u (h2.perm.mem_iff.mp hu)
    obtain ⟨n, hn⟩ := hn
    have hb : SrtO.Stb (fun x y => lexS (k x) (k y)) (out.map backV) xs := by
      rw [e1]
      exact SrtO.Stb.map (swo_S k) backV h2
    refine ⟨.ref d, upd H d (.lst (out.map backV)), I.laid (t' := s.toks) kp hd ⟨?_, out, n, vals_back h3, hn⟩, rfl, q _ d (SrtO.srtd_map (lt := fun x y => lexS (k x) (k y)) h1) hb.perm (I.hok.fresh hd)⟩
    rw [hb.len]
    exact hz
end
end FW
namespace FW
open PySem PySem.Spec PyProof.Rows L2
-- more
section
variable {P : Program} {w : World} {K : PySem.W.Frag} {mg : Str → Option Value} {base : Heap}
/-- a book as it stands -/
structure BookAt (K : PySem.W.Frag) (CB : Addr) (H : Hp) (x : Addr) (F C : List Nat) (ls : List LineV) : Prop where
  at_ : ∃ dx tl : Addr, H x = some (.ins CB dx (bookF F C tl)) ∧ H tl = some (.tup (ls.map fun r => V.ref r.1))
  lines : LinesAt H ls F C
  lens : F.length ≤ 1000 ∧ C.length ≤ 1000
  chr : (∀ c ∈ F, c < 128) ∧ ∀ c ∈ C, c < 128
theorem BookAt.same {CB : Addr} {H H' : Hp} {x : Addr} {F C : List Nat} {ls : List LineV} (s : Same H H') (b : BookAt K CB H x F C ls) : BookAt K CB H' x F C ls := by
  obtain ⟨dx, tl, h1, h2⟩ := b.at_
  exact ⟨⟨dx, tl, s _ _ h1, s _ _ h2⟩, b.lines.same s, b.lens, b.chr⟩
/-- what a class of books has -/
structure BookC (K : PySem.W.Frag) (CB : Addr) : Prop where
  c : Cls K CB
  nf : NoAttr K CB "faces"
  nc : NoAttr K CB "cutters"
  nl : NoAttr K CB "_lines"
theorem part_chr {p L : List Nat} (h : bPart (.str (S p)) L = true) (hL : ∀ c ∈ L, c < 128) : ∀ c ∈ p, c < 128 := by
  unfold bPart at h
  rcases Bool.or_eq_true_iff.mp h with h | h
  · have h' : (true && decide (p.length = 1) && decide (p.getD 0 0 ∈ [46])) = true := h
    simp only [Bool.true_and, Bool.and_eq_true, decide_eq_true_eq] at h'
    match p, h'.1 with
    | [x], _ =>
      intro c hc
      have e : x = 46 := List.mem_singleton.mp h'.2
      rw [List.mem_singleton.mp hc, e]
      decide
  · have h' : (true && (decide ((1 : Int) ≤ (p.length : Int)) && decide ((p.length : Int) ≤ (L.length : Int))) && (p.all fun c => decide (c ∈ L)) && ascB p) = true := h
    simp only [Bool.true_and, Bool.and_eq_true] at h'
    intro c hc
    exact hL c (of_decide_eq_true (List.all_eq_true.mp h'.1.2 c hc))
theorem cut_chr {u F : List Nat} (h : (decide (V.str (S u) = V.str "") || bCut (.str (S u)) (S F)) = true) (hF : ∀ c ∈ F, c < 128) : ∀ c ∈ u, c < 128 := by
  rcases Bool.or_eq_true_iff.mp h with h | h
  · have z2 := congrArg (fun z : Str => z.cps.toList) (V.str.inj (of_decide_eq_true h))
    have z3 : u = [] := z2
    rw [z3]
    intro c hc
    cases hc
  · rw [bCut_S] at h
    simp only [Bool.and_eq_true, decide_eq_true_eq] at h
    obtain ⟨⟨h1, h2⟩, h3⟩ := h
    match u, h1 with
    | [g, x, y], _ =>
      intro c hc
      rcases List.mem_cons.mp hc with rfl | hc
      · have : c ∈ [124, 45] := h2
        simp only [List.mem_cons, List.not_mem_nil, or_false] at this
        omega
      · exact hF c (of_decide_eq_true (List.all_eq_true.mp h3 c hc))
theorem LineOk.chr {r : LineV} {F C : List Nat} (h : LineOk r F C) (hF : ∀ c ∈ F, c < 128) (hC : ∀ c ∈ C, c < 128) : ∀ p ∈ w6L r.2, ∀ c ∈ p, c < 128 := by
  have ok := h.ok
  unfold bLine at ok
  simp only [Bool.and_eq_true, List.all_eq_true] at ok
  obtain ⟨⟨h1, h2⟩, h3⟩ := ok
  intro p hp
  simp only [w6L, List.mem_cons, List.not_mem_nil, or_false] at hp
  rcases hp with rfl | rfl | rfl | rfl | rfl | rfl
  · exact part_chr (h1 _ (by simp)) hF
  · exact part_chr (h1 _ (by simp)) hF
  · exact part_chr (h1 _ (by simp)) hF
  · exact part_chr (h1 _ (by simp)) hF
  · exact part_chr h2 hC
  · exact cut_chr h3 hF
def decL : DecidableEq (List Nat) := inferInstance
def decP {α : Type} (d : DecidableEq α) : DecidableEq (List Nat × α) := @instDecidableEqProd _ _ decL d
instance instW6 : DecidableEq W6 := decP (decP (decP (decP (decP decL))))
/-- what stands in lines, without where -/
def wsOf (ls : List LineV) : List W6 := ls.map (·.2)
/-- a line as data -/
def dLine (w : W6) : PyData := .tuple ((w6L w).map fun p => .str (S p))
theorem chr_ok {p : List Nat} (h : ∀ c ∈ p, c < 128) : PyData.strOk (S p) = true := by
  show (p.toArray.all fun c => decide (c < 0x110000)) = true
  rw [Array.all_eq_true_iff_forall_mem]
  intro c hc
  have := h c (by simpa using hc)
  exact decide_eq_true (by omega)
theorem lay_line {r : LineV} {F C : List Nat} (h : LineOk r F C) (hF : ∀ c ∈ F, c < 128) (hC : ∀ c ∈ C, c < 128) : Lay 1 (dLine r.2) := by
  refine .tup fun d hd => ?_
  obtain ⟨p, hp, rfl⟩ := List.mem_map.mp hd
  exact .str (chr_ok (h.chr hF hC p hp))
theorem eqv_line (a b : W6) : PyData.eqv (dLine a) (dLine b) = decide (a = b) := by
  unfold dLine
  rw [eqv_tupS]
  refine decide_eq_decide.mpr ⟨fun e => ?_, fun e => by rw [e]⟩
  obtain ⟨a1, a2, a3, a4, a5, a6⟩ := a
  obtain ⟨b1, b2, b3, b4, b5, b6⟩ := b
  simp only [w6L, List.cons.injEq, and_true] at e
  obtain ⟨rfl, rfl, rfl, rfl, rfl, rfl⟩ := e
  rfl
theorem dp_line {H : Hp} {r : LineV} (h : H r.1 = some r.tup) : Dp K H (.ref r.1) (dLine r.2) := .tup (SqT.of h) (.cons (.str _) (.cons (.str _) (.cons (.str _) (.cons (.str _) (.cons (.str _) (.cons (.str _) .nil))))))
theorem dp_lines {H : Hp} : ∀ {ls : List LineV}, (∀ r ∈ ls, H r.1 = some r.tup) → DpAll K H (ls.map fun r => V.ref r.1) (ls.map fun r => dLine r.2)
  | [], _ => .nil
  | r :: ls, h => .cons (dp_line (h r List.mem_cons_self)) (dp_lines fun x hx => h x (List.mem_cons_of_mem _ hx))
theorem deep_line (n : Nat) (w : W6) : Deep (n + 1) (dLine w) := by
  unfold dLine Deep
  refine ⟨by simp [w6L], fun d hd => ?_⟩
  obtain ⟨p, hp, rfl⟩ := List.mem_map.mp hd
  unfold Deep
  trivial
theorem deep_lines {n : Nat} {ls : List LineV} (h : ls.length ≤ 1000) : ∀ d ∈ ls.map fun r => dLine r.2, Deep (n + 1) d := fun d hd => by
  obtain ⟨r, _, rfl⟩ := List.mem_map.mp hd
  exact deep_line n r.2
abbrev s__law_some_line : Stmt := topS 67
theorem sc__law_some_line : FnScope ["_law_bag", "_law_faces", "_law_cutters", "_law_cut_here", "_law_parts_here", "_law_k"] ["_law_bag", "_law_faces", "_law_cutters"] (defScope s__law_some_line) := ⟨rfl, rfl, rfl, by decide +kernel, rfl, by decide +kernel, by decide +kernel⟩
/-- a drawn cut, or none -/
def CutR (u F : List Nat) : Prop := u = [] ∨ ∃ g x y, u = [g, x, y] ∧ (g = 124 ∨ g = 45) ∧ x ∈ F ∧ y ∈ F
/-- a drawn line -/
structure LineR (w : W6) (F C : List Nat) : Prop where
  a : PartR w.1 F
  b : PartR w.2.1 F
  c : PartR w.2.2.1 F
  d : PartR w.2.2.2.1 F
  e : PartR w.2.2.2.2.1 C
  u : CutR w.2.2.2.2.2 F
def w6T (w : W6) : HO := .tup ((w6L w).map fun p => V.str (S p))
def sp__law_some_line (K : PySem.W.Frag) : Sp := fun vs H Q _ => ∃ (b lb : Addr) (F C : List Nat), vs = [.ref b, .str (S F), .str (S C)] ∧ Bag H b lb ∧ 0 < F.length ∧ F.length ≤ 100 ∧ C.length ≤ 100 ∧
  ∀ H' p w, LineR w F C → But b H H' → Bag H' b lb → H p = none → H' p = some (w6T w) → Q (.ref p) H'
theorem ok__law_some_line {f : Addr} {fd : FuncData} (F : Fun K "_law_some_line" "_law_some_line" s__law_some_line f fd) (T : Z mg) (c__law_draw : Cal P w K mg base CX0 1 "_law_draw" s__law_draw ["_law_bag", "_law_many"] (sp__law_draw K))
    (c__law_part : Cal P w K mg base CX0 2 "_law_part" s__law_part ["_law_bag", "_law_letters_here"] (sp__law_part K)) (c__law_some_cut : Cal P w K mg base CX0 3 "_law_some_cut" s__law_some_cut ["_law_bag", "_law_faces"] (sp__law_some_cut K)) : FnOk P w K mg base CX0 4 f fd ["_law_bag", "_law_faces", "_law_cutters"] (sp__law_some_line K) := by
  refine F.ok sc__law_some_line (fun vs H Q E h => ?_) (fun cdv A outer s H vs Q E hr h => ?_)
  · obtain ⟨b, lb, F, C, rfl, _⟩ := h
    rfl
  obtain ⟨b, lb, F, C, rfl, B, hF0, hF, hC, q⟩ := h
  refine ⟨_, (pss_cons (ps_set (i := 3) sc__law_some_line.nd rfl (.inl rfl) (pe_as (pe_ifExp (pt_cmpR op_gt (pe_c c__law_draw hr (by decide) (by rfl) (pa_cons (pv 0) (pa_cons pe_int pa_nil))) pe_int (nomark _)) (pe_c c__law_some_cut hr (by decide) (by rfl) (pa_cons (pv 0) (pa_cons (pv 1) pa_nil))) pe_str)))
      (pss_cons (ps_setLc (i := 4) (own := [("_law_k", 5)]) (g := (gName 5)) (by rfl) sc__law_some_line.nd rfl rfl (sw_true rfl rfl rfl (by decide +kernel)) (pi_range1 (by rfl) T.z_range (pa_cons pe_int pa_nil)) (blkOk_by (N := ["_law_bag", "_law_faces", "_law_cutters", "_law_cut_here", "_law_parts_here", "_law_k"]) (sc := defScope s__law_some_line) (by decide +kernel)) (fun _ _ _ _ _ => (pg_name (i := 5) sc__law_some_line.nd rfl (.inl rfl))) (fun _ _ _ _ _ => pts_nil) (fun _ _ _ _ _ => (pe_as (pe_ifExp (pt_cmpR op_eq (pe_c c__law_draw hr (by decide) (by rfl) (pa_cons (pv 0) (pa_cons pe_int pa_nil))) pe_int (nomark _)) (pe_c c__law_part hr (by decide) (by rfl) (pa_cons (pv 0) (pa_cons (pv 1) pa_nil))) pe_str))))
      (pss_one (ps_ret (pe_tup (pa_cons (pe_ix ix_list (pv 4) pe_int (fun _ _ => rfl)) (pa_cons (pe_ix ix_list (pv 4) pe_int (fun _ _ => rfl)) (pa_cons (pe_ix ix_list (pv 4) pe_int (fun _ _ => rfl)) (pa_cons (pe_ix ix_list (pv 4) pe_int (fun _ _ => rfl)) (pa_cons (pe_c c__law_part hr (by decide) (by rfl) (pa_cons (pv 0) (pa_cons (pv 2) pa_nil))) (pa_cons (pv 3) pa_nil))))))))))), ?_⟩
  refine ⟨fun v H1 => ∃ u, v = .str (S u) ∧ CutR u F ∧ But b H H1 ∧ Bag H1 b lb, ?_, ?_⟩
  · refine ⟨_, rfl, b, lb, _, rfl, B, by decide, by decide, fun H1 z z0 z1 b1 B1 => ⟨_, _, rfl, rfl, _, rfl, ite_dec (fun _ => ?_) (fun _ => ⟨[], rfl, .inl rfl, b1, B1⟩)⟩⟩
    exact ⟨_, rfl, _, rfl, b, lb, F, rfl, B1, hF0, hF, fun H2 g x y hg hx hy b2 B2 => ⟨[g, x, y], rfl, .inr ⟨g, x, y, rfl, hg, hx, hy⟩, b1.trans b2, B2⟩⟩
  rintro _ H1 ⟨u, rfl, hu, b1, B1⟩
  refine ⟨_, rfl, by decide, by decide, fun D hD => ?_⟩
  have nDb : D ≠ b := B1.ne hD
  have nDl : D ≠ lb := B1.ne2 hD
  have nD : ∀ a o, H1 a = some o → a ≠ D := fun a o e => ne_of_none e hD
  refine lc_range (n := 4) (fun i H' => ∃ rs : List (List Nat), rs.length = i ∧ (∀ r ∈ rs, PartR r F) ∧ H' D = some (.lst (rs.map fun r => V.str (S r))) ∧ Bag H' b lb ∧ But b H1 H') ⟨[], rfl, (by simp), upd_same, B1.same (same_upd hD), (same_upd hD).but⟩ ?_ ?_
  · rintro i H' hi ⟨rs, hl, hr', hDD, B', ho⟩
    refine ⟨rfl, ?_⟩
    refine ⟨fun v H2 => ∃ r, v = .str (S r) ∧ PartR r F ∧ But b H' H2 ∧ Bag H2 b lb, ?_, ?_⟩
    · refine ⟨_, rfl, b, lb, _, rfl, B', by decide, by decide, fun H2 z z0 z1 b2 B2 => ⟨rfl, _, rfl, ite_dec (fun _ => ?_) (fun _ => ⟨[46], rfl, .inl rfl, b2, B2⟩)⟩⟩
      exact ⟨_, rfl, _, rfl, b, lb, F, rfl, B2, hF, fun H3 r hr3 b3 B3 => ⟨r, rfl, hr3, b2.trans b3, B3⟩⟩
    rintro _ H2 ⟨r, rfl, hr3, b2, B2⟩
    refine ⟨_, b2 _ _ nDb hDD, by rw [List.length_map]; exact sz1 (by omega), rs ++ [r], by rw [List.length_append, hl]; rfl, ?_, ?_, B2.upd nDb nDl, fun a o n e => ?_⟩
    · intro x hx
      rcases List.mem_append.mp hx with e | e
      · exact hr' x e
      · rw [List.mem_singleton.mp e]
        exact hr3
    · rw [upd_same, List.map_append]
      rfl
    · rw [upd_ne (nD a o e)]
      exact b2 _ _ n (ho a o n e)
  · rintro H' ⟨rs, hl, hr', hDD, B', ho⟩
    obtain ⟨r1, r2, r3, r4, rfl⟩ : ∃ a b c d, rs = [a, b, c, d] := by
      match rs, hl with
      | [a, b, c, d], _ => exact ⟨a, b, c, d, rfl⟩
    have hS := SqL.of (K := K) hDD
    refine ⟨_, rfl, D, _, _, _, rfl, rfl, hS, rfl, _, rfl, D, _, _, _, rfl, rfl, hS, rfl, _, rfl, D, _, _, _, rfl, rfl, hS, rfl, _, rfl, D, _, _, _, rfl, rfl, hS, rfl, _, rfl, _, rfl, b, lb, C, rfl, B', hC, fun H2 r5 hr5 b2 B2 => ?_⟩
    refine ⟨_, rfl, (show 6 ≤ sizeLine by decide), fun p np => ?_⟩
    have s2 := same_upd (o := w6T (r1, r2, r3, r4, r5, u)) np
    exact q _ p (r1, r2, r3, r4, r5, u) ⟨hr' _ (by simp), hr' _ (by simp), hr' _ (by simp), hr' _ (by simp), hr5, hu⟩ ((b1.trans (ho.trans b2)).trans s2.but) (B2.same s2) (by
      cases e : H p with
      | none => rfl
      | some o =>
        have n : p ≠ b := B2.ne np
        have := b2 _ _ n (ho _ _ n (b1 _ _ n e))
        rw [np] at this
        cases this) upd_same
abbrev s__law_some_book : Stmt := topS 68
theorem sc__law_some_book : FnScope ["_law_bag", "_law_sizes", "_law_faces", "_law_cutters", "_law_lines", "_law_k"] ["_law_bag", "_law_sizes"] (defScope s__law_some_book) := ⟨rfl, rfl, rfl, by decide +kernel, rfl, by decide +kernel, by decide +kernel⟩
/-- a told book: faces, cutters, lines; the list of them is at p, that of the lines at lp -/
structure SpecAt (H : Hp) (b p lp : Addr) (F C : List Nat) (ls : List LineV) : Prop where
  top : H p = some (.lst [.str (S F), .str (S C), .ref lp])
  rows : H lp = some (.lst (ls.map fun r => V.ref r.1))
  at_ : ∀ r ∈ ls, H r.1 = some r.tup
  pb : p ≠ b
  lb : lp ≠ b
  rb : ∀ r ∈ ls, r.1 ≠ b
theorem SpecAt.drawn {H H' : Hp} {b p lp : Addr} {F C : List Nat} {ls : List LineV} (s : SpecAt H b p lp F C ls) (q : But b H H') : SpecAt H' b p lp F C ls :=
  ⟨q _ _ s.pb s.top, q _ _ s.lb s.rows, fun r hr => q _ _ (s.rb r hr) (s.at_ r hr), s.pb, s.lb, s.rb⟩
theorem SpecAt.same {H H' : Hp} {b p lp : Addr} {F C : List Nat} {ls : List LineV} (s : SpecAt H b p lp F C ls) (q : Same H H') : SpecAt H' b p lp F C ls := s.drawn q.but
structure SpecOk (F C : List Nat) (ls : List LineV) : Prop where
  f : List.Sublist F lower
  c : List.Sublist C upper
  f0 : 0 < F.length
  c0 : 0 < C.length
  f6 : F.length ≤ 6
  c4 : C.length ≤ 4
  ls : ∀ r ∈ ls, LineR r.2 F C
theorem none_but {b p : Addr} {H H' : Hp} (n : p ≠ b) (q : But b H H') (e : H' p = none) : H p = none := by
  cases z : H p with
  | none => rfl
  | some o =>
    rw [q _ _ n z] at e
    cases e
def sp__law_some_book (K : PySem.W.Frag) : Sp := fun vs H Q _ => ∃ (b lb a : Addr) (x y z : Nat), vs = [.ref b, .ref a] ∧ Bag H b lb ∧ a ≠ b ∧ SqL K H a [.int x, .int y, .int z] ∧ 0 < x ∧ x ≤ 6 ∧ 0 < y ∧ y ≤ 4 ∧ z ≤ 1000 ∧
  ∀ H' p lp F C ls, SpecOk F C ls → F.length ≤ x → C.length ≤ y → ls.length ≤ z → But b H H' → Bag H' b lb → H p = none → H lp = none → SpecAt H' b p lp F C ls → Q (.ref p) H'
theorem ok__law_some_book {f : Addr} {fd : FuncData} (F : Fun K "_law_some_book" "_law_some_book" s__law_some_book f fd) (T : Z mg) (c__law_draw : Cal P w K mg base CX0 1 "_law_draw" s__law_draw ["_law_bag", "_law_many"] (sp__law_draw K))
    (c__law_part : Cal P w K mg base CX0 2 "_law_part" s__law_part ["_law_bag", "_law_letters_here"] (sp__law_part K)) (c__law_some_cut : Cal P w K mg base CX0 3 "_law_some_cut" s__law_some_cut ["_law_bag", "_law_faces"] (sp__law_some_cut K))
    (c__law_some_faces : Cal P w K mg base CX0 3 "_law_some_faces" s__law_some_faces ["_law_bag", "_law_most"] (sp__law_some_faces K)) (c__law_some_cutters : Cal P w K mg base CX0 3 "_law_some_cutters" s__law_some_cutters ["_law_bag", "_law_most"] (sp__law_some_cutters K))
    (c__law_some_line : Cal P w K mg base CX0 4 "_law_some_line" s__law_some_line ["_law_bag", "_law_faces", "_law_cutters"] (sp__law_some_line K)) : FnOk P w K mg base CX0 5 f fd ["_law_bag", "_law_sizes"] (sp__law_some_book K) := by
  refine F.ok sc__law_some_book (fun vs H Q E h => ?_) (fun cdv A outer s H vs Q E hr h => ?_)
  · obtain ⟨b, lb, a, x, y, z, rfl, _⟩ := h
    rfl
  obtain ⟨b, lb, a, x, y, z, rfl, B, nab, hS, x0, x6, y0, y4, z8, q⟩ := h
  refine ⟨_, (pss_cons (ps_asg (pe_tup (pa_cons (pe_c c__law_some_faces hr (by decide) (by rfl) (pa_cons (pv 0) (pa_cons (pe_ix ix_list (pv 1) pe_int (fun _ _ => rfl)) pa_nil))) (pa_cons (pe_c c__law_some_cutters hr (by decide) (by rfl) (pa_cons (pv 0) (pa_cons (pe_ix ix_list (pv 1) pe_int (fun _ _ => rfl)) pa_nil))) pa_nil))) (pg_tup rfl (pgs_cons (pg_name (i := 2) sc__law_some_book.nd rfl (.inr rfl)) (pgs_cons (pg_name (i := 3) sc__law_some_book.nd rfl (.inr rfl)) pgs_nil))))
      (pss_cons (ps_setLc (i := 4) (own := [("_law_k", 5)]) (g := (gName 5)) (by rfl) sc__law_some_book.nd rfl rfl (sw_true rfl rfl rfl (by decide +kernel)) (pi_range1 (by rfl) T.z_range (pa_cons (pe_c c__law_draw hr (by decide) (by rfl) (pa_cons (pv 0) (pa_cons (pe_op op_add (pe_ix ix_list (pv 1) pe_int (fun _ _ => rfl)) pe_int) pa_nil))) pa_nil)) (blkOk_by (N := ["_law_bag", "_law_sizes", "_law_faces", "_law_cutters", "_law_lines", "_law_k"]) (sc := defScope s__law_some_book) (by decide +kernel)) (fun _ _ _ _ _ => (pg_name (i := 5) sc__law_some_book.nd rfl (.inl rfl))) (fun _ _ _ _ _ => pts_nil) (fun _ _ _ _ _ => (pe_c c__law_some_line hr (by decide) (by rfl) (pa_cons (pv 0) (pa_cons (pv 2) (pa_cons (pv 3) pa_nil))))))
      (pss_cons (ps_as (ps_if (PW.pt (pw_and (pt_cmpR op_gt (pe_c c__law_draw hr (by decide) (by rfl) (pa_cons (pv 0) (pa_cons pe_int pa_nil))) pe_int (nomark _)) (pw_and1 (pt_cmpR op_lt (pe_callB call_len_seq (by rfl) T.z_len (by decide +kernel) (pa_cons (pv 4) pa_nil)) (pe_ix ix_list (pv 1) pe_int (fun _ _ => rfl)) (nomark _))))) (pss_one (ps_expr (pe_bm PySem.F.plainAttrs_list PySem.F.slot_list_append PySem.F.type_list_append mt_append (pv 4) (pa_cons (pe_tup (pa_cons pe_str (pa_cons pe_str (pa_cons pe_str (pa_cons pe_str (pa_cons (pe_c c__law_part hr (by decide) (by rfl) (pa_cons (pv 0) (pa_cons (pv 3) pa_nil))) (pa_cons (pe_c c__law_some_cut hr (by decide) (by rfl) (pa_cons (pv 0) (pa_cons (pv 2) pa_nil))) pa_nil))))))) pa_nil)))) pss_nil))
      (pss_one (ps_ret (pe_lst (pa_cons (pv 2) (pa_cons (pv 3) (pa_cons (pv 4) pa_nil))))))))), ?_⟩
  -- faces and cutters
  refine ⟨_, rfl, _, rfl, a, _, _, _, rfl, rfl, hS, rfl, b, lb, x, rfl, B, x0, by omega, fun H1 fs hfs hf0 hf1 b1 B1 => ?_⟩
  have hS1 := b1.seq nab hS
  refine ⟨_, rfl, _, rfl, a, _, _, _, rfl, rfl, hS1, rfl, b, lb, y, rfl, B1, y0, by omega, fun H2 cs hcs hc0 hc1 b2 B2 => ?_⟩
  refine ⟨(show 2 ≤ sizeLine by decide), fun pt npt => ⟨pt, _, rfl, SqT.of upd_same, rfl, _, _, rfl, _, _, rfl, rfl, ?_⟩⟩
  have b3 : But b H _ := (b1.trans b2).trans (same_upd (o := HO.tup [V.str (S fs), V.str (S cs)]) npt).but
  have B3 := B2.same (same_upd (o := HO.tup [V.str (S fs), V.str (S cs)]) npt)
  generalize upd H2 pt (HO.tup [V.str (S fs), V.str (S cs)]) = H3 at b3 B3
  clear b1 b2 B1 B2 npt hS1
  have hS3 := b3.seq nab hS
  -- the lines
  refine ⟨_, rfl, _, rfl, a, _, _, _, rfl, rfl, hS3, rfl, _, _, rfl, rfl, b, lb, _, rfl, B3, by omega, by omega, fun H4 n n0 n1 b4 B4 => ⟨_, rfl, by omega, by omega, fun D hD => ?_⟩⟩
  have nDb : D ≠ b := B4.ne hD
  have nDl : D ≠ lb := B4.ne2 hD
  have nD : ∀ a o, H4 a = some o → a ≠ D := fun a o e => ne_of_none e hD
  have hD0 : H D = none := none_but nDb (b3.trans b4) hD
  refine lc_range (n := n.toNat) (fun i H' => ∃ ls : List LineV, ls.length = i ∧ (∀ r ∈ ls, LineR r.2 fs cs ∧ H' r.1 = some r.tup ∧ r.1 ≠ b ∧ r.1 ≠ D) ∧ H' D = some (.lst (ls.map fun r => V.ref r.1)) ∧ Bag H' b lb ∧ But b H4 H') ⟨[], rfl, (by simp), upd_same, B4.same (same_upd hD), (same_upd hD).but⟩ ?_ ?_
  · rintro i H' hi ⟨ls, hl, hls, hDD, B', ho⟩
    refine ⟨rfl, ?_⟩
    refine ⟨_, rfl, _, rfl, _, rfl, b, lb, fs, cs, rfl, B', hf0, by omega, by omega, fun H5 p w hw b5 B5 np h5 => ?_⟩
    have hD5 := b5 _ _ nDb hDD
    have npD : p ≠ D := fun e => by
      rw [e, hDD] at np
      cases np
    have npb : p ≠ b := B'.ne np
    refine ⟨_, hD5, by rw [List.length_map]; exact sz1 (by omega), ls ++ [(p, w)], by rw [List.length_append, hl]; rfl, ?_, ?_, B5.upd nDb nDl, fun a o n e => ?_⟩
    · intro r hr5
      rcases List.mem_append.mp hr5 with e | e
      · obtain ⟨h1, h2, h3, h4⟩ := hls r e
        exact ⟨h1, by rw [upd_ne h4]; exact b5 _ _ h3 h2, h3, h4⟩
      · rw [List.mem_singleton.mp e]
        exact ⟨hw, by rw [upd_ne npD]; exact h5, npb, npD⟩
    · rw [upd_same, List.map_append]
      rfl
    · rw [upd_ne (nD a o e)]
      exact b5 _ _ n (ho a o n e)
  rintro H5 ⟨ls, hl, hls, hDD, B5, b5⟩
  have hS5 := (b4.trans b5).seq nab hS3
  -- one more
  refine ⟨fun σ H6 => ∃ ls' : List LineV, σ = [some (.ref b), some (.ref a), some (.str (S fs)), some (.str (S cs)), some (.ref D), none] ∧ ls'.length ≤ z ∧ (∀ r ∈ ls', LineR r.2 fs cs ∧ H6 r.1 = some r.tup ∧ r.1 ≠ b ∧ r.1 ≠ D) ∧ H6 D = some (.lst (ls'.map fun r => V.ref r.1)) ∧ Bag H6 b lb ∧ But b H H6, ?_, ?_⟩
  · have bH5 := b3.trans (b4.trans b5)
    refine ⟨_, rfl, b, lb, _, rfl, B5, by decide, by decide, fun H6 k k0 k1 b6 B6 => ?_⟩
    have hls6 : ∀ r ∈ ls, LineR r.2 fs cs ∧ H6 r.1 = some r.tup ∧ r.1 ≠ b ∧ r.1 ≠ D := fun r hr6 => let ⟨h1, h2, h3, h4⟩ := hls r hr6; ⟨h1, b6 _ _ h3 h2, h3, h4⟩
    have hD6 := b6 _ _ nDb hDD
    have hlz : ls.length ≤ z := by omega
    refine ⟨_, _, rfl, rfl, _, rfl, ite_dec (fun _ => ?_) (fun _ => iteF ⟨ls, rfl, hlz, hls6, hD6, B6, bH5.trans b6⟩)⟩
    refine ⟨_, rfl, D, _, rfl, .inl (SqL.of hD6), _, rfl, a, _, _, _, rfl, rfl, b6.seq nab hS5, rfl, _, _, rfl, rfl, _, rfl, ite_dec (fun hlt => ?_) (fun _ => ⟨ls, rfl, hlz, hls6, hD6, B6, bH5.trans b6⟩)⟩
    rw [List.length_map] at hlt
    refine ⟨_, rfl, .inl ⟨rfl, _, SqL.of hD6⟩, _, rfl, _, rfl, b, lb, cs, rfl, B6, by omega, fun H7 r5 hr5 b7 B7 => ?_⟩
    refine ⟨_, rfl, _, rfl, b, lb, fs, rfl, B7, hf0, by omega, fun H8 g gx gy hg hgx hgy b8 B8 => ?_⟩
    refine ⟨(show 6 ≤ sizeLine by decide), fun p np => ?_⟩
    have s9 := same_upd (o := w6T ([46], [46], [46], [46], r5, [g, gx, gy])) np
    have hD8 := (b7.trans b8) _ _ nDb hD6
    have npD : p ≠ D := fun e => by
      rw [e, hD8] at np
      cases np
    have npb : p ≠ b := B8.ne np
    refine ⟨D, _, _, rfl, rfl, s9 _ _ hD8, by rw [List.length_map]; exact sz1 (by omega), ls ++ [(p, [46], [46], [46], [46], r5, [g, gx, gy])], rfl, by rw [List.length_append, List.length_singleton]; omega, ?_, ?_, (B8.same s9).upd nDb nDl, fun a' o n e => ?_⟩
    · intro r hr9
      rcases List.mem_append.mp hr9 with e | e
      · obtain ⟨h1, h2, h3, h4⟩ := hls6 r e
        exact ⟨h1, by rw [upd_ne h4]; exact s9 _ _ (b8 _ _ h3 (b7 _ _ h3 h2)), h3, h4⟩
      · rw [List.mem_singleton.mp e]
        exact ⟨⟨.inl rfl, .inl rfl, .inl rfl, .inl rfl, hr5, .inr ⟨g, gx, gy, rfl, hg, hgx, hgy⟩⟩, by rw [upd_ne npD]; exact upd_same, npb, npD⟩
    · rw [upd_same, List.map_append]
      rfl
    · have naD : a' ≠ D := fun e' => by
        rw [e', hD0] at e
        cases e
      rw [upd_ne naD]
      exact s9 _ _ (b8 _ _ n (b7 _ _ n ((bH5.trans b6) _ _ n e)))
  rintro σ H6 ⟨ls', rfl, hl', hls', hD6, B6, b6⟩
  refine ⟨_, rfl, _, rfl, _, rfl, (show 3 ≤ sizeLine by decide), fun p np => ?_⟩
  have s7 := same_upd (o := HO.lst [V.str (S fs), V.str (S cs), V.ref D]) np
  have npb : p ≠ b := B6.ne np
  exact q _ p D fs cs ls' ⟨hfs, hcs, hf0, hc0, by omega, by omega, fun r hr7 => (hls' r hr7).1⟩ (by omega) (by omega) hl' (b6.trans s7.but) (B6.same s7) (none_but npb b6 np) hD0
    ⟨upd_same, s7 _ _ hD6, fun r hr7 => s7 _ _ (hls' r hr7).2.1, npb, nDb, fun r hr7 => (hls' r hr7).2.2.1⟩
/-! what is drawn is right -/
theorem lower_asc : lower.Pairwise (· < ·) := by decide +kernel
theorem upper_asc : upper.Pairwise (· < ·) := by decide +kernel
theorem lower_range : ∀ c ∈ lower, 97 ≤ c ∧ c ≤ 122 := by decide +kernel
theorem upper_range : ∀ c ∈ upper, 65 ≤ c ∧ c ≤ 90 := by decide +kernel
theorem choice_sub {r L : List Nat} {m : Int} (hL : L.Pairwise (· < ·)) (s : List.Sublist r L) (h0 : 0 < r.length) (hm : (r.length : Int) ≤ m) : bChoice (.str (S r)) L m = true := by
  show (true && (decide ((1 : Int) ≤ (r.length : Int)) && decide ((r.length : Int) ≤ m)) && (r.all fun c => decide (c ∈ L)) && ascB r) = true
  rw [decide_eq_true (by omega), decide_eq_true hm, mem_all (fun c hc => s.subset hc), asc_sorted (hL.sublist s)]
  rfl
theorem PartR.ok {r L : List Nat} (hL : L.Pairwise (· < ·)) (h : PartR r L) : bPart (.str (S r)) L = true := by
  unfold bPart
  rcases h with rfl | ⟨s, h0⟩
  · rfl
  · rw [choice_sub hL s h0 (by have := s.length_le; omega), Bool.or_true]
theorem PartR.len {r L : List Nat} {m : Nat} (h : PartR r L) (hm : L.length ≤ m) (h1 : 1 ≤ m) : r.length ≤ m := by
  rcases h with rfl | ⟨s, h0⟩
  · exact h1
  · exact Nat.le_trans s.length_le hm
theorem PartR.no {r L : List Nat} {x : Nat} (h : PartR r L) (hx : x ∉ L) (h1 : x ≠ 46) : x ∉ r := by
  rcases h with rfl | ⟨s, h0⟩
  · simpa using h1
  · exact fun e => hx (s.subset e)
theorem CutR.ok {u F : List Nat} (h : CutR u F) : (decide (V.str (S u) = V.str "") || bCut (.str (S u)) (S F)) = true := by
  rcases h with rfl | ⟨g, x, y, rfl, hg, hx, hy⟩
  · have e : decide (V.str (S []) = V.str "") = true := decide_eq_true rfl
    rw [e]
    rfl
  · rw [show bCut (.str (S [g, x, y])) (S F) = true from bCut_yes hg hx hy, Bool.or_true]
theorem CutR.len {u F : List Nat} (h : CutR u F) : u.length ≤ 3 := by
  rcases h with rfl | ⟨g, x, y, rfl, _⟩
  · exact Nat.zero_le _
  · exact Nat.le_refl _
theorem CutR.no {u F : List Nat} {z : Nat} (h : CutR u F) (hz : z ∉ F) (h1 : z ≠ 124) (h2 : z ≠ 45) : z ∉ u := by
  rcases h with rfl | ⟨g, x, y, rfl, hg, hx, hy⟩
  · simp
  · intro e
    simp only [List.mem_cons, List.not_mem_nil, or_false] at e
    rcases e with rfl | rfl | rfl
    · exact hg.elim h1 h2
    · exact hz hx
    · exact hz hy
theorem LineR.line {w : W6} {F C : List Nat} (h : LineR w F C) (hF : F.Pairwise (· < ·)) (hC : C.Pairwise (· < ·)) : bLine w.1 w.2.1 w.2.2.1 w.2.2.2.1 w.2.2.2.2.1 w.2.2.2.2.2 F C = true := by
  unfold bLine
  rw [h.u.ok, h.e.ok hC]
  show (bPart (.str (S w.1)) F && (bPart (.str (S w.2.1)) F && (bPart (.str (S w.2.2.1)) F && (bPart (.str (S w.2.2.2.1)) F && true))) && true && true) = true
  rw [h.a.ok hF, h.b.ok hF, h.c.ok hF, h.d.ok hF]
  rfl
theorem w6_all {P : List Nat → Prop} {w : W6} (a : P w.1) (b : P w.2.1) (c : P w.2.2.1) (d : P w.2.2.2.1) (e : P w.2.2.2.2.1) (u : P w.2.2.2.2.2) : ∀ p ∈ w6L w, P p := by
  intro p hp
  simp only [w6L, List.mem_cons, List.not_mem_nil, or_false] at hp
  rcases hp with rfl | rfl | rfl | rfl | rfl | rfl
  · exact a
  · exact b
  · exact c
  · exact d
  · exact e
  · exact u
theorem LineR.len {w : W6} {F C : List Nat} (h : LineR w F C) (lf : F.length ≤ 100) (lc : C.length ≤ 100) : ∀ p ∈ w6L w, p.length ≤ 100 :=
  w6_all (P := fun p => p.length ≤ 100) (h.a.len lf (by decide)) (h.b.len lf (by decide)) (h.c.len lf (by decide)) (h.d.len lf (by decide)) (h.e.len lc (by decide)) (Nat.le_trans h.u.len (by decide))
theorem LineR.no {w : W6} {F C : List Nat} {x : Nat} (h : LineR w F C) (hf : x ∉ F) (hc : x ∉ C) (h1 : x ≠ 46) (h2 : x ≠ 124) (h3 : x ≠ 45) : ∀ p ∈ w6L w, x ∉ p :=
  w6_all (P := fun p => x ∉ p) (h.a.no hf h1) (h.b.no hf h1) (h.c.no hf h1) (h.d.no hf h1) (h.e.no hc h1) (h.u.no hf h2 h3)
theorem LineR.w6 {w : W6} {F C : List Nat} (h : LineR w F C) (hF : List.Sublist F lower) (hC : List.Sublist C upper) (lf : F.length ≤ 100) (lc : C.length ≤ 100) : W6Ok w F C := by
  have f1 : ∀ x, x < 65 → x ∉ F := fun x hx e => by
    have := (lower_range x (hF.subset e)).1
    omega
  have c1 : ∀ x, x < 65 → x ∉ C := fun x hx e => by
    have := (upper_range x (hC.subset e)).1
    omega
  refine ⟨fun p hp => Nat.le_trans (h.len lf lc p hp) (by decide), fun p hp => ⟨h.no (f1 32 (by decide)) (c1 32 (by decide)) (by decide) (by decide) (by decide) p hp, h.no (f1 10 (by decide)) (c1 10 (by decide)) (by decide) (by decide) (by decide) p hp⟩, fun e => ?_, h.line (lower_asc.sublist hF) (upper_asc.sublist hC)⟩
  have := h.u.len
  rw [e] at this
  exact absurd this (by decide)
theorem SpecOk.w6 {F C : List Nat} {ls : List LineV} (s : SpecOk F C ls) : ∀ r ∈ ls, W6Ok r.2 F C := fun r hr => (s.ls r hr).w6 s.f s.c (by have := s.f6; omega) (by have := s.c4; omega)
theorem SpecOk.bf {F C : List Nat} {ls : List LineV} (s : SpecOk F C ls) : bFaces (.str (S F)) = true := choice_sub lower_asc s.f s.f0 (by have := s.f6; omega)
theorem SpecOk.bc {F C : List Nat} {ls : List LineV} (s : SpecOk F C ls) : bCutters (.str (S C)) = true := choice_sub upper_asc s.c s.c0 (by have := s.c4; omega)
theorem SpecOk.nf {F C : List Nat} {ls : List LineV} (s : SpecOk F C ls) {x : Nat} (hx : x < 65) : x ∉ F := fun e => by
  have := (lower_range x (s.f.subset e)).1
  omega
theorem SpecOk.nc {F C : List Nat} {ls : List LineV} (s : SpecOk F C ls) {x : Nat} (hx : x < 65) : x ∉ C := fun e => by
  have := (upper_range x (s.c.subset e)).1
  omega
theorem SpecOk.chr {F C : List Nat} {ls : List LineV} (s : SpecOk F C ls) : (∀ c ∈ F, c < 128) ∧ ∀ c ∈ C, c < 128 := ⟨fun c hc => by have := (lower_range c (s.f.subset hc)).2; omega, fun c hc => by have := (upper_range c (s.c.subset hc)).2; omega⟩
theorem BookAt.drawn {CB : Addr} {H H' : Hp} {b l x : Addr} {F C : List Nat} {ls : List LineV} (k : BookAt K CB H x F C ls) (B : Bag H b l) (q : But b H H') : BookAt K CB H' x F C ls := by
  obtain ⟨xs, hb⟩ := B.la
  have ne : ∀ (a : Addr) (o : HO), H a = some o → (∀ ys, o ≠ .lst ys) → a ≠ b := fun a o e n z => by
    rw [z, hb] at e
    exact n xs (Option.some.inj e).symm
  obtain ⟨dx, tl, h1, h2⟩ := k.at_
  exact ⟨⟨dx, tl, q _ _ (ne _ _ h1 fun _ z => by cases z) h1, q _ _ (ne _ _ h2 fun _ z => by cases z) h2⟩, ⟨fun r hr => q _ _ (ne _ _ (k.lines.at_ r hr) fun _ z => by cases z) (k.lines.at_ r hr), k.lines.ok, k.lines.few⟩, k.lens, k.chr⟩
abbrev s__law_line_text : Stmt := topS 69
theorem sc__law_line_text : FnScope ["_law_line"] ["_law_line"] (defScope s__law_line_text) := ⟨rfl, rfl, rfl, by decide +kernel, rfl, by decide +kernel, by decide +kernel⟩
def sp__law_line_text (K : PySem.W.Frag) : Sp := fun vs H Q _ => ∃ (t : Addr) (w : W6), vs = [.ref t] ∧ SqT K H t ((w6L w).map fun p => V.str (S p)) ∧ (∀ p ∈ w6L w, p.length ≤ 1000) ∧ ∀ H', Same H H' → Q (.str (rowW w)) H'
theorem ok__law_line_text {f : Addr} {fd : FuncData} (F : Fun K "_law_line_text" "_law_line_text" s__law_line_text f fd) (T : Z mg) : FnOk P w K mg base CX0 1 f fd ["_law_line"] (sp__law_line_text K) := by
  refine F.ok sc__law_line_text (fun vs H Q E h => ?_) (fun cdv A outer s H vs Q E hr h => ?_)
  · obtain ⟨t, w, rfl, _⟩ := h
    rfl
  obtain ⟨t, ⟨a, b, c, d, e, u⟩, rfl, hS, hl, q⟩ := h
  refine ⟨_, (pss_one (ps_ret (pe_join pe_str (pe_op op_cat (pe_callTy call_list_of (by rfl) T.z_list (by decide +kernel) (pa_cons (pe_slice sl_tup (pv 0) po_none (po_some pe_int)) pa_nil)) (pe_lst (pa_cons (pe_as (pe_ifExp (pt_cmpR op_ne (pe_ix ix_tup (pv 0) pe_int (fun _ _ => rfl)) pe_str (nomark _)) (pe_ix ix_tup (pv 0) pe_int (fun _ _ => rfl)) pe_str)) pa_nil)))))), ?_⟩
  refine ⟨⟨_, rfl⟩, _, rfl, 5, rfl, t, _, rfl, hS, (show ¬ (HT.sIx 6 0 none = 0 ∧ HT.sIx 6 6 (some 5) = 6) by decide), fun p np => ?_⟩
  have s1 := same_upd (o := HO.tup [V.str (S a), V.str (S b), V.str (S c), V.str (S d), V.str (S e)]) np
  refine ⟨p, _, rfl, .inr (SqT.of upd_same), fun l nl => ?_⟩
  have s2 := same_upd (o := HO.lst [V.str (S a), V.str (S b), V.str (S c), V.str (S d), V.str (S e)]) nl
  have hS2 := (s1.trans s2).tup hS
  refine ⟨fun v H' => v = .str (S (wordU u)) ∧ H' = (upd (upd H p (HO.tup [V.str (S a), V.str (S b), V.str (S c), V.str (S d), V.str (S e)])) l (HO.lst [V.str (S a), V.str (S b), V.str (S c), V.str (S d), V.str (S e)])), ?_, ?_⟩
  · refine ⟨_, rfl, t, _, _, _, rfl, rfl, hS2, rfl, rfl, _, rfl, ite_ndec (fun ne => ?_) (fun eq => ?_)⟩
    · refine ⟨_, rfl, t, _, _, _, rfl, rfl, hS2, rfl, ?_, rfl⟩
      unfold wordU
      rw [if_neg fun z => ne (by rw [z]; rfl)]
    · refine ⟨?_, rfl⟩
      have e0 : u = [] := by
        have z1 : S u = ("" : Str) := V.str.inj eq
        have z2 := congrArg (fun z : Str => z.cps.toList) z1
        exact z2
      subst e0
      rfl
  rintro _ _ ⟨rfl, rfl⟩
  refine ⟨(show 1 ≤ sizeLine by decide), fun l2 nl2 => ?_⟩
  have s3 := same_upd (o := HO.lst [V.str (S (wordU u))]) nl2
  refine ⟨l, l2, _, _, rfl, rfl, s3 _ _ upd_same, upd_same, (show 6 ≤ sizeLine by decide), fun r nr => ?_⟩
  refine ⟨" ", r, [a, b, c, d, e, wordU u].map S, rfl, rfl, .inl (SqL.of upd_same), ?_, q _ (((s1.trans s2).trans s3).trans (same_upd nr))⟩
  have hu : (wordU u).length ≤ 1000 := by
    unfold wordU
    split
    · decide
    · exact hl u (by simp [w6L])
  have ha := hl a (by simp [w6L])
  have hb := hl b (by simp [w6L])
  have hc := hl c (by simp [w6L])
  have hd := hl d (by simp [w6L])
  have he := hl e (by simp [w6L])
  simp only [List.map_cons, List.map_nil, List.sum_cons, List.sum_nil, List.length_cons, List.length_nil, S_len]
  show _ + 6 * 1 ≤ 16777216
  omega
abbrev s__law_book_text : Stmt := topS 70
theorem sc__law_book_text : FnScope ["_law_spec", "_law_line"] ["_law_spec"] (defScope s__law_book_text) := ⟨rfl, rfl, rfl, by decide +kernel, rfl, by decide +kernel, by decide +kernel⟩
def sp__law_book_text (K : PySem.W.Frag) : Sp := fun vs H Q _ => ∃ (p lp b : Addr) (F C : List Nat) (ls : List LineV), vs = [.ref p] ∧ SpecAt H b p lp F C ls ∧ F.length ≤ 100 ∧ C.length ≤ 100 ∧ ls.length ≤ 100 ∧ (∀ r ∈ ls, ∀ x ∈ w6L r.2, x.length ≤ 1000) ∧
  ∀ H', Same H H' → Q (.str (bookT F C (ls.map (·.2)))) H'
theorem headT_eq (F C : List Nat) : S F ++ (" " : Str) ++ S C = headT F C := by
  unfold headT
  rw [show (" " : Str) = S [32] from rfl, SX.join_S, S_cat, S_cat]
  show S (F ++ [32] ++ C) = S (F ++ ([32] ++ C))
  rw [List.append_assoc]
theorem rowW_len {w : W6} (h : ∀ p ∈ w6L w, p.length ≤ 1000) : (rowW w).length ≤ 7000 := rowT_len h
theorem sum_le {m : Nat} : ∀ {ns : List Nat}, (∀ n ∈ ns, n ≤ m) → ns.sum ≤ ns.length * m
  | [], _ => Nat.zero_le _
  | n :: ns, h => by
    have h1 := h n List.mem_cons_self
    have h2 := sum_le (ns := ns) fun x hx => h x (List.mem_cons_of_mem _ hx)
    rw [List.sum_cons, List.length_cons, Nat.add_mul, Nat.one_mul]
    omega
theorem ok__law_book_text {f : Addr} {fd : FuncData} (F : Fun K "_law_book_text" "_law_book_text" s__law_book_text f fd) (T : Z mg) (c__law_line_text : Cal P w K mg base CX0 1 "_law_line_text" s__law_line_text ["_law_line"] (sp__law_line_text K)) : FnOk P w K mg base CX0 2 f fd ["_law_spec"] (sp__law_book_text K) := by
  refine F.ok sc__law_book_text (fun vs H Q E h => ?_) (fun cdv A outer s H vs Q E hr h => ?_)
  · obtain ⟨p, lp, b, F, C, ls, rfl, _⟩ := h
    rfl
  obtain ⟨p, lp, b, F, C, ls, rfl, hs, lF, lC, lls, lw, q⟩ := h
  refine ⟨_, (pss_one (ps_ret (pe_join pe_str (pe_op op_cat (pe_lst (pa_cons (pe_op op_add_str (pe_op op_add_str (pe_ix ix_list (pv 0) pe_int (fun _ _ => rfl)) pe_str) (pe_ix ix_list (pv 0) pe_int (fun _ _ => rfl))) pa_nil)) (pe_lc (own := [("_law_line", 1)]) (g := (gName 1)) (by rfl) sc__law_book_text.nd (pi_list (pe_ix ix_list (pv 0) pe_int (fun _ _ => rfl))) (blkOk_by (N := ["_law_spec", "_law_line"]) (sc := defScope s__law_book_text) (by decide +kernel)) (fun _ _ _ _ _ => (pg_name (i := 1) sc__law_book_text.nd rfl (.inl rfl))) (fun _ _ _ _ _ => pts_nil) (fun _ _ _ _ _ => (pe_c c__law_line_text hr (by decide) (by rfl) (pa_cons (pv 1) pa_nil)))))))), ?_⟩
  have hT := SqL.of (K := K) hs.top
  have z1 : (S F).length + (" " : Str).length ≤ sizeLine := by
    rw [S_len]
    exact sz (show F.length + 1 ≤ 100000 by omega)
  have z2 : (S F ++ (" " : Str)).length + (S C).length ≤ sizeLine := by
    rw [show (" " : Str) = S [32] from rfl, S_cat, S_len, S_len, List.length_append]
    exact sz (show F.length + 1 + C.length ≤ 100000 by omega)
  refine ⟨⟨_, rfl⟩, _, rfl, p, _, _, _, rfl, rfl, hT, rfl, _, _, rfl, rfl, z1, _, rfl, p, _, _, _, rfl, rfl, hT, rfl, _, _, rfl, rfl, z2, (show 1 ≤ sizeLine by decide), fun l nl => ?_⟩
  have s1 := same_upd (o := HO.lst [V.str (S F ++ (" " : Str) ++ S C)]) nl
  have hs1 := hs.same s1
  refine ⟨_, rfl, p, _, _, _, rfl, rfl, SqL.of hs1.top, rfl, lp, rfl, ⟨_, SqL.of hs1.rows⟩, fun D hD => ?_⟩
  have nlD : l ≠ D := ne_of_none upd_same hD
  have nD : ∀ a o, H a = some o → a ≠ D := fun a o e => ne_of_none (s1 _ _ e) hD
  have nlp : lp ≠ D := nD _ _ hs.rows
  generalize hH1 : upd H l (HO.lst [V.str (S F ++ (" " : Str) ++ S C)]) = H1 at s1 hs1 hD
  have hl1 : H1 l = some (.lst [V.str (headT F C)]) := by
    rw [← hH1, upd_same, headT_eq]
  refine lc_list (xs := ls.map fun r => V.ref r.1) (fun i H' => But D H1 H' ∧ H' D = some (.lst ((ls.take i).map fun r => V.str (rowW r.2)))) ⟨(same_upd hD).but, upd_same⟩ (fun i H' _ pv => SqL.of (pv.1 _ _ nlp hs1.rows)) ?_ ?_
  · rintro i x H' hx ⟨bt, hDD⟩
    rw [List.getElem?_map] at hx
    obtain ⟨r, hr1, rfl⟩ := Option.map_eq_some_iff.mp hx
    have hm := List.mem_of_getElem? hr1
    have hrD : r.1 ≠ D := nD _ _ (hs.at_ r hm)
    have hil : i < ls.length := (List.getElem?_eq_some_iff.mp hr1).1
    refine ⟨rfl, _, rfl, r.1, r.2, rfl, SqT.of (bt _ _ hrD (hs1.at_ r hm)), lw r hm, fun H2 s2 => ?_⟩
    refine ⟨_, s2 _ _ hDD, by rw [List.length_map, List.length_take]; exact sz1 (by omega), fun a o n e => ?_, ?_⟩
    · rw [upd_ne n]
      exact s2 _ _ (bt _ _ n e)
    · rw [upd_same, List.take_add_one, hr1, List.map_append]
      rfl
  · rintro H2 ⟨bt, hDD⟩
    rw [List.length_map, List.take_of_length_le (Nat.le_refl _)] at hDD
    have hl2 := bt _ _ nlD hl1
    refine ⟨l, D, _, _, rfl, rfl, hl2, hDD, ?_, fun r nr => ?_⟩
    · rw [List.length_map]
      exact sz (show 1 + ls.length ≤ 100000 by omega)
    refine ⟨"\n", r, headT F C :: (ls.map (·.2)).map rowW, rfl, rfl, .inl (SqL.of ?_), ?_, ?_⟩
    · rw [upd_same, List.map_map, List.map_cons, List.map_map]
      rfl
    · rw [List.map_cons, List.sum_cons, List.length_cons, List.map_map, List.length_map, List.length_map]
      have h1 := head_len (F := F) (C := C) (by omega) (by omega)
      have h2 := sum_le (m := 7000) (ns := (ls.map (·.2)).map ((fun x : Str => x.length) ∘ rowW)) (by
        intro n hn
        rw [List.map_map] at hn
        obtain ⟨r, hr2, rfl⟩ := List.mem_map.mp hn
        exact rowW_len (lw r hr2))
      rw [List.length_map, List.length_map] at h2
      show (headT F C).length + _ + (ls.length + 1) * 1 ≤ 16777216
      omega
    · exact q _ ((but_fresh s1 hD bt).trans (same_upd nr))
abbrev s_row_of : Stmt := topS 51
theorem sc_row_of : FnScope ["line", "cut"] ["line"] (defScope s_row_of) := ⟨rfl, rfl, rfl, by decide +kernel, rfl, by decide +kernel, by decide +kernel⟩
def sp_row_of (K : PySem.W.Frag) : Sp := fun vs H Q _ => ∃ (t : Addr) (w : W6), vs = [.ref t] ∧ SqT K H t ((w6L w).map fun p => V.str (S p)) ∧ (∀ p ∈ w6L w, p.length ≤ 1000) ∧ ∀ H', Same H H' → Q (.str (rowW w)) H'
theorem str_nil {u : List Nat} (e : V.str (S u) = V.str "") : u = [] := by
  have z2 := congrArg (fun z : Str => z.cps.toList) (V.str.inj e)
  exact z2
theorem rowW_sum {a b c d e u : List Nat} (hl : ∀ p ∈ w6L (a, b, c, d, e, u), p.length ≤ 1000) : (([a, b, c, d, e, wordU u].map S).map (·.length)).sum + ([a, b, c, d, e, wordU u].map S).length * (" " : Str).length ≤ 16777216 := by
  have hu : (wordU u).length ≤ 1000 := by
    unfold wordU
    split
    · decide
    · exact hl u (by simp [w6L])
  have ha := hl a (by simp [w6L])
  have hb := hl b (by simp [w6L])
  have hc := hl c (by simp [w6L])
  have hd := hl d (by simp [w6L])
  have he := hl e (by simp [w6L])
  simp only [List.map_cons, List.map_nil, List.sum_cons, List.sum_nil, List.length_cons, List.length_nil, S_len]
  show _ + 6 * 1 ≤ 16777216
  omega
theorem ok_row_of {f : Addr} {fd : FuncData} (F : Fun K "row_of" "row_of" s_row_of f fd) : FnOk P w K mg base CX0 1 f fd ["line"] (sp_row_of K) := by
  refine F.ok sc_row_of (fun vs H Q E h => ?_) (fun cdv A outer s H vs Q E hr h => ?_)
  · obtain ⟨t, w, rfl, _⟩ := h
    rfl
  obtain ⟨t, ⟨a, b, c, d, e, u⟩, rfl, hS, hl, q⟩ := h
  refine ⟨_, (pss_cons (ps_set (i := 1) sc_row_of.nd rfl (.inl rfl) (pe_as (pe_ifExp (pt_cmpR op_eq (pe_ix ix_tup (pv 0) pe_int (fun _ _ => rfl)) pe_str (nomark _)) pe_str (pe_ix ix_tup (pv 0) pe_int (fun _ _ => rfl)))))
      (pss_one (ps_ret (pe_join pe_str (pe_lst (pa_cons (pe_ix ix_tup (pv 0) pe_int (fun _ _ => rfl)) (pa_cons (pe_ix ix_tup (pv 0) pe_int (fun _ _ => rfl)) (pa_cons (pe_ix ix_tup (pv 0) pe_int (fun _ _ => rfl)) (pa_cons (pe_ix ix_tup (pv 0) pe_int (fun _ _ => rfl)) (pa_cons (pe_ix ix_tup (pv 0) pe_int (fun _ _ => rfl)) (pa_cons (pv 1) pa_nil))))))))))), ?_⟩
  refine ⟨fun v H' => v = .str (S (wordU u)) ∧ H' = H, ?_, ?_⟩
  · refine ⟨_, rfl, t, _, _, _, rfl, rfl, hS, rfl, rfl, _, rfl, ite_dec (fun eq => ?_) (fun ne => ?_)⟩
    · obtain rfl := str_nil eq
      exact ⟨rfl, rfl⟩
    · refine ⟨_, rfl, t, _, _, _, rfl, rfl, hS, rfl, ?_, rfl⟩
      unfold wordU
      rw [if_neg fun z => ne (by rw [z]; rfl)]
  rintro _ H1 ⟨rfl, e1⟩
  subst e1
  refine ⟨⟨_, rfl⟩, _, rfl, t, _, _, _, rfl, rfl, hS, rfl, _, rfl, t, _, _, _, rfl, rfl, hS, rfl, _, rfl, t, _, _, _, rfl, rfl, hS, rfl, _, rfl, t, _, _, _, rfl, rfl, hS, rfl, _, rfl, t, _, _, _, rfl, rfl, hS, rfl, _, rfl, (show 6 ≤ sizeLine by decide), fun r nr => ?_⟩
  exact ⟨" ", r, [a, b, c, d, e, wordU u].map S, rfl, rfl, .inl (SqL.of upd_same), rowW_sum hl, q _ (same_upd nr)⟩
abbrev s__law_book : Stmt := topS 71
theorem sc__law_book : FnScope ["_law_spec"] ["_law_spec"] (defScope s__law_book) := ⟨rfl, rfl, rfl, by decide +kernel, rfl, by decide +kernel, by decide +kernel⟩
def sp__law_book (K : PySem.W.Frag) (CB : Addr) : Sp := fun vs H Q _ => ∃ (p lp b : Addr) (F C : List Nat) (ls : List LineV), vs = [.ref p] ∧ SpecAt H b p lp F C ls ∧ SpecOk F C ls ∧ ls.length ≤ 8 ∧
  ∀ H' x ls', Same H H' → H x = none → BookAt K CB H' x F C ls' → ls'.map (·.2) = ls.map (·.2) → Q (.ref x) H'
theorem ok__law_book {f CB fR : Addr} {fd fdR : FuncData} (F : Fun K "_law_book" "_law_book" s__law_book f fd) (T : Z mg) (gB : mg "Book" = some (.ref CB)) (SR : Sta K CB "read" fR)
    (FR : FnOk P w K mg base CX0 8 fR fdR ["text"] (sp_Book_read K CB)) (bR : L2.Binds K fdR ["text"] []) (c__law_book_text : Cal P w K mg base CX0 2 "_law_book_text" s__law_book_text ["_law_spec"] (sp__law_book_text K)) : FnOk P w K mg base CX0 9 f fd ["_law_spec"] (sp__law_book K CB) := by
  refine F.ok sc__law_book (fun vs H Q E h => ?_) (fun cdv A outer s H vs Q E hr h => ?_)
  · obtain ⟨p, lp, b, F, C, ls, rfl, _⟩ := h
    rfl
  obtain ⟨p, lp, b, F, C, ls, rfl, hs, ok, h8, q⟩ := h
  refine ⟨_, (pss_one (ps_ret (pe_static (by rfl) gB SR FR hr bR .nil pass0 (pa_cons (pe_c c__law_book_text hr (by decide) (by rfl) (pa_cons (pv 0) pa_nil)) pa_nil)))), ?_⟩
  have lF := ok.f6
  have lC := ok.c4
  refine ⟨_, rfl, p, lp, b, F, C, ls, rfl, hs, by omega, by omega, by omega, fun r hr1 => (ok.w6 r hr1).ln, fun H1 s1 => ?_⟩
  refine ⟨F, C, ls.map (·.2), rfl, by omega, by omega, ⟨ok.nf (by decide), ok.nf (by decide)⟩, ⟨ok.nc (by decide), ok.nc (by decide)⟩, ok.bf, ok.bc, by rw [List.length_map]; exact h8, fun w hw => ?_, fun H2 x dx tl ls' s2 nx hx ht hls e => ?_⟩
  · obtain ⟨r, hr1, rfl⟩ := List.mem_map.mp hw
    exact ok.w6 r hr1
  · exact q _ x ls' (s1.trans s2) (by
      cases z : H x with
      | none => rfl
      | some o =>
        rw [s1 _ _ z] at nx
        cases nx) ⟨⟨dx, tl, hx, ht⟩, hls, ⟨by omega, by omega⟩, ok.chr⟩ e
abbrev s_Book_line_at : Stmt := inCls (topS 52) 5
theorem sc_Book_line_at : FnScope ["self", "room", "cutter", "at", "line"] ["self", "room", "cutter"] (defScope s_Book_line_at) := ⟨rfl, rfl, rfl, by decide +kernel, rfl, by decide +kernel, by decide +kernel⟩
def lineFits (r : LineV) (room : List Nat) (c : Nat) : Bool := fitsB (w6L r.2) (room ++ [c])
def lineAt (ls : List LineV) (room : List Nat) (c : Nat) : Option Nat := ls.findIdx? fun r => lineFits r room c
def optV : Option Nat → V
  | some i => .int (i : Nat)
  | none => .non
def sp_Book_line_at (K : PySem.W.Frag) (CB : Addr) : Sp := fun vs H Q _ => ∃ (x : Addr) (F C : List Nat) (ls : List LineV) (room : List Nat) (c : Nat), vs = [.ref x, .str (S room), .str (S [c])] ∧ BookAt K CB H x F C ls ∧ room.length = 4 ∧ (∀ y ∈ room, y ∈ F) ∧ c ∈ C ∧
  ∀ H', Same H H' → Q (optV (lineAt ls room c)) H'
theorem ok_Book_line_at {f CB : Addr} {fd : FuncData} (F : Fun K "line_at" "Book.line_at" s_Book_line_at f fd) (T : Z mg) (BC : BookC K CB)
    (c_is_room : Cal P w K mg base CX0 2 "is_room" s_is_room ["value", "faces"] (sp_is_room K)) (c_is_letter : Cal P w K mg base CX0 1 "is_letter" s_is_letter ["value", "letters"] (sp_is_letter K))
    (c_fits : Cal P w K mg base CX0 1 "fits" s_fits ["line", "room", "cutter"] (sp_fits K)) : FnOk P w K mg base CX0 3 f fd ["self", "room", "cutter"] (sp_Book_line_at K CB) := by
  refine F.ok sc_Book_line_at (fun vs H Q E h => ?_) (fun cdv A outer s H vs Q E hr h => ?_)
  · obtain ⟨x, F, C, ls, room, c, rfl, _⟩ := h
    rfl
  obtain ⟨x, fs, cs, ls, room, c, rfl, hB, hr4, hrf, hcc, q⟩ := h
  refine ⟨_, (pss_cons (ps_if (pt_not (pt_val (pe_c c_is_room hr (by decide) (by rfl) (pa_cons (pv 1) (pa_cons (pe_fld (pv 0) rfl) pa_nil))))) pss_never pss_nil)
    (pss_cons (ps_if (pt_not (pt_val (pe_c c_is_letter hr (by decide) (by rfl) (pa_cons (pv 2) (pa_cons (pe_fld (pv 0) rfl) pa_nil))))) pss_never pss_nil)
    (pss_cons (ps_for PassesOwn.never rfl (pi_enumG (by rfl) T.z_enumerate (pa_cons (pe_fld (pv 0) rfl) pa_nil)) (pg_tup rfl (pgs_cons (pg_name (i := 3) sc_Book_line_at.nd rfl (.inl rfl)) (pgs_cons (pg_name (i := 4) sc_Book_line_at.nd rfl (.inl rfl)) pgs_nil)))
      (pss_one (ps_if (pt_val (pe_c c_fits hr (by decide) (by rfl) (pa_cons (pv 4) (pa_cons (pv 1) (pa_cons (pv 2) pa_nil))))) (pss_one (ps_ret (pv 3))) pss_nil)))
    (pss_one (ps_ret pe_non))))), ?_⟩
  obtain ⟨dx, tl, hx, ht⟩ := hB.at_
  obtain ⟨lf, lc⟩ := hB.lens
  have hroom : bRoom (.str (S room)) (S fs) = true := by
    unfold bRoom
    rw [bString_yes hrf, show decide ((strOf (V.str (S room))).cps.size = 4) = true from decide_eq_true hr4]
    rfl
  refine ⟨_, rfl, _, rfl, x, CB, dx, _, _, rfl, hx, BC.c, BC.nf, rfl, .str (S room), S fs, rfl, .inl ⟨rfl, (show room.length ≤ 100000 by omega)⟩, fun H1 s1 => ⟨_, rfl, ?_⟩⟩
  rw [hroom]
  refine iteF ?_
  have hlet : bLetter (.str (S [c])) cs = true := by
    unfold bLetter
    rw [show decide ((strOf (V.str (S [c]))).cps.toList.getD 0 0 ∈ cs) = true from decide_eq_true hcc]
    rfl
  refine ⟨_, rfl, _, rfl, x, CB, dx, _, _, rfl, s1 _ _ hx, BC.c, BC.nc, rfl, .str (S [c]), cs, rfl, .inl ⟨rfl, (show 1 ≤ 100000 by decide)⟩, fun H2 s2 => ⟨_, rfl, ?_⟩⟩
  rw [hlet]
  refine iteF ?_
  have s12 := s1.trans s2
  refine ⟨_, rfl, x, CB, dx, _, _, rfl, s12 _ _ hx, BC.c, BC.nl, rfl, .ref tl, ls.map fun r => V.ref r.1, rfl, .t (SqT.of (s12 _ _ ht)), fun k ev src => ?_⟩
  have stay : ∀ H', Same H2 H' → k.src K H' (ls.map fun r => V.ref r.1) := fun H' s => by
    cases k with
    | l a => exact s.seq src
    | t a => exact s.tup src
    | s z t => cases ev
  refine for_it walk_enumG (fun i σ H' => ∃ y3 y4 : Option V, σ = [some (.ref x), some (.str (S room)), some (.str (S [c])), y3, y4] ∧ Same H2 H' ∧ ∀ r' ∈ ls.take i, lineFits r' room c = false) ⟨_, _, rfl, Same.refl _, fun _ h => by cases h⟩ (fun i σ H' _ ⟨_, _, _, s, _⟩ => stay H' s) ?_ ?_
  · rintro i v σ H3 H4 hi ⟨y3, y4, rfl, s3, hno⟩ ⟨T', a1, b1', rfl, nT, rfl, hx1, hy1⟩
    obtain rfl : V.int (i : Nat) = a1 := Option.some.inj hx1
    have hy2 : (ls.map fun r => V.ref r.1)[i]? = some b1' := hy1
    rw [List.getElem?_map] at hy2
    obtain ⟨r, hr1, rfl⟩ := Option.map_eq_some_iff.mp hy2
    have hm := List.mem_of_getElem? hr1
    have s4 := (s12.trans s3).trans (same_upd (o := HO.tup [V.int (i : Nat), V.ref r.1]) nT)
    have hok := hB.lines.ok r hm
    refine ⟨T', _, rfl, SqT.of upd_same, rfl, _, _, rfl, _, [], rfl, rfl, ?_⟩
    refine ⟨_, rfl, _, rfl, _, rfl, r.1, w6L r.2, room, [c], rfl, SqT.of (s4 _ _ (hB.lines.at_ r hm)), (show 6 ≤ 100 by decide), hok.ln, by omega, (show 1 ≤ 100 by decide), fun H5 s5 => ⟨_, rfl, ?_⟩⟩
    have q0 : ∀ v, lineAt ls room c = v → ∀ H', Same H H' → Q (optV v) H' := fun v e => e ▸ q
    cases e : fitsB (w6L r.2) (room ++ [c]) with
    | true =>
      refine iteT ⟨_, rfl, q0 (some i) (List.findIdx?_eq_some_iff_getElem.mpr ?_) _ (s4.trans s5)⟩
      obtain ⟨hlt, hget⟩ := List.getElem?_eq_some_iff.mp hr1
      refine ⟨hlt, by rw [hget]; exact e, fun j hj => ?_⟩
      have hjm : ls[j] ∈ ls.take i := List.mem_take_iff_getElem.mpr ⟨j, by omega, rfl⟩
      rw [hno _ hjm]
      exact Bool.false_ne_true
    | false =>
      refine iteF ⟨_, _, rfl, (s3.trans (same_upd nT)).trans s5, fun r' hr' => ?_⟩
      rw [List.take_add_one, hr1] at hr'
      rcases List.mem_append.mp hr' with h | h
      · exact hno r' h
      · rw [show r' = r from List.mem_singleton.mp h]
        exact e
  · rintro σ H3 ⟨y3, y4, rfl, s3, hno⟩
    rw [List.take_of_length_le (by simp)] at hno
    have e : optV (lineAt ls room c) = .non := by
      rw [show lineAt ls room c = none from List.findIdx?_eq_none_iff.mpr hno]
      rfl
    rw [e] at q
    exact q _ (s12.trans s3)
abbrev s_Book_cut : Stmt := inCls (topS 52) 3
theorem sc_Book_cut : FnScope ["self", "room", "cutter", "at"] ["self", "room", "cutter"] (defScope s_Book_cut) := ⟨rfl, rfl, rfl, by decide +kernel, rfl, by decide +kernel, by decide +kernel⟩
/-- the cut of a room by a cutter -/
def cutL (ls : List LineV) (room : List Nat) (c : Nat) : List Nat := match lineAt ls room c with
  | some i => (ls[i]?.map fun r => r.2.2.2.2.2.2).getD []
  | none => []
def sp_Book_cut (K : PySem.W.Frag) (CB : Addr) : Sp := fun vs H Q _ => ∃ (x : Addr) (F C : List Nat) (ls : List LineV) (room : List Nat) (c : Nat), vs = [.ref x, .str (S room), .str (S [c])] ∧ BookAt K CB H x F C ls ∧ room.length = 4 ∧ (∀ y ∈ room, y ∈ F) ∧ c ∈ C ∧
  ∀ H', Same H H' → Q (.str (S (cutL ls room c))) H'
theorem ok_Book_cut {f CB fL : Addr} {fd fdL : FuncData} (F : Fun K "cut" "Book.cut" s_Book_cut f fd) (BC : BookC K CB) (mL : Meth K CB "line_at" fL)
    (FL : FnOk P w K mg base CX0 3 fL fdL ["self", "room", "cutter"] (sp_Book_line_at K CB)) (bL : L2.Binds K fdL ["self", "room", "cutter"] []) : FnOk P w K mg base CX0 4 f fd ["self", "room", "cutter"] (sp_Book_cut K CB) := by
  refine F.ok sc_Book_cut (fun vs H Q E h => ?_) (fun cdv A outer s H vs Q E hr h => ?_)
  · obtain ⟨x, F, C, ls, room, c, rfl, _⟩ := h
    rfl
  obtain ⟨x, fs, cs, ls, room, c, rfl, hB, hr4, hrf, hcc, q⟩ := h
  refine ⟨_, (pss_cons (ps_set (i := 3) sc_Book_cut.nd rfl (.inl rfl) (pe_meth (pv 0) BC.c mL FL hr bL .nil pass0 (pa_cons (pv 1) (pa_cons (pv 2) pa_nil))))
    (pss_one (ps_ret (pe_ifExp (pt_cmp (pc_isN (pv 3))) pe_str (pe_ix ix_tup (pe_ix ix_tup (pe_fld (pv 0) rfl) (pv 3) (fun _ _ => rfl)) pe_int (fun _ _ => rfl)))))), ?_⟩
  obtain ⟨dx, tl, hx, ht⟩ := hB.at_
  refine ⟨_, rfl, x, dx, _, rfl, hx, rfl, _, rfl, _, rfl, x, fs, cs, ls, room, c, rfl, hB, hr4, hrf, hcc, fun H1 s1 => ?_⟩
  have q1 := q _ s1
  unfold cutL at q1
  cases e : lineAt ls room c with
  | none =>
    rw [e] at q1
    exact ⟨_, rfl, _, rfl, iteT q1⟩
  | some i =>
    rw [e] at q1
    obtain ⟨hlt, _⟩ := List.findIdx?_eq_some_iff_getElem.mp e
    have hi : ls[i]? = some ls[i] := List.getElem?_eq_getElem hlt
    have hm := List.mem_of_getElem? hi
    generalize ls[i] = r at hi hm
    dsimp only at q1
    rw [hi] at q1
    have hgi : (ls.map fun r => V.ref r.1)[i]? = some (.ref r.1) := by
      rw [List.getElem?_map, hi]
      rfl
    refine ⟨_, rfl, _, rfl, iteF ?_⟩
    refine ⟨_, rfl, x, CB, dx, _, _, rfl, s1 _ _ hx, BC.c, BC.nl, rfl, _, rfl, tl, _, (i : Int), _, rfl, rfl, SqT.of (s1 _ _ ht), at_of (j := i) rfl hgi, r.1, _, 5, _, rfl, rfl, SqT.of (s1 _ _ (hB.lines.at_ r hm)), rfl, q1⟩
/-! the parts of a room, as lists -/
def splitL (room cut : List Nat) : List (List Nat) := match room, cut with
  | [n, e, s, w], [sg, x, y] => if sg = 124 then [[n, x, s, w], [n, e, s, y]] else [[n, e, x, w], [y, e, s, w]]
  | r, _ => [r]
theorem splitL_none (room : List Nat) : splitL room [] = [room] := by
  unfold splitL
  split
  · rename_i h
    cases h
  · rfl
theorem splitL_parts (n e s w sg x y : Nat) : (splitL [n, e, s, w] [sg, x, y]).map S = partsC n e s w sg x y := by
  unfold splitL partsC
  dsimp only
  split <;> rfl
theorem room4 {room : List Nat} (h : room.length = 4) : ∃ n e s w, room = [n, e, s, w] := by
  match room, h with
  | [n, e, s, w], _ => exact ⟨n, e, s, w, rfl⟩
/-- the cut of a line is none, or one of the faces -/
theorem LineOk.cut {r : LineV} {F C : List Nat} (h : LineOk r F C) : CutR r.2.2.2.2.2.2 F := by
  have ok := h.ok
  unfold bLine at ok
  simp only [Bool.and_eq_true, Bool.or_eq_true] at ok
  rcases ok.2 with h | h
  · exact .inl (congrArg (fun z : Str => z.cps.toList) (V.str.inj (of_decide_eq_true h)))
  · rw [bCut_S] at h
    simp only [Bool.and_eq_true, decide_eq_true_eq] at h
    obtain ⟨⟨h1, h2⟩, h3⟩ := h
    match r.2.2.2.2.2.2, h1, h2, h3 with
    | [g, x, y], _, h2, h3 =>
      have h2' : g ∈ [124, 45] := h2
      simp only [List.mem_cons, List.not_mem_nil, or_false] at h2'
      have h3' : ([x, y].all fun c => decide (c ∈ F)) = true := h3
      simp only [List.all_cons, List.all_nil, Bool.and_true, Bool.and_eq_true, decide_eq_true_eq] at h3'
      exact .inr ⟨g, x, y, rfl, h2', h3'.1, h3'.2⟩
theorem cutL_form {ls : List LineV} {room F : List Nat} {c : Nat} (h : ∀ r ∈ ls, CutR r.2.2.2.2.2.2 F) : CutR (cutL ls room c) F := by
  unfold cutL
  split
  · rename_i i _
    cases e : ls[i]? with
    | none => exact .inl rfl
    | some r => exact h r (List.mem_of_getElem? e)
  · exact .inl rfl
theorem splitL_in {room cut F : List Nat} (hr : room.length = 4) (hf : ∀ y ∈ room, y ∈ F) (hc : CutR cut F) : ∀ p ∈ splitL room cut, p.length = 4 ∧ ∀ y ∈ p, y ∈ F := by
  obtain ⟨n, e, s, w, rfl⟩ := room4 hr
  have h1 : n ∈ F := hf n (by simp)
  have h2 : e ∈ F := hf e (by simp)
  have h3 : s ∈ F := hf s (by simp)
  have h4 : w ∈ F := hf w (by simp)
  have all4 : ∀ a b c d : Nat, a ∈ F → b ∈ F → c ∈ F → d ∈ F → ([a, b, c, d].length = 4 ∧ ∀ y ∈ [a, b, c, d], y ∈ F) := fun a b c d ha hb hc hd => ⟨rfl, fun y hy => by
    simp only [List.mem_cons, List.not_mem_nil, or_false] at hy
    rcases hy with rfl | rfl | rfl | rfl <;> assumption⟩
  rcases hc with rfl | ⟨g, x, y, rfl, hg, hx, hy⟩
  · intro p hp
    rw [splitL_none] at hp
    rw [List.mem_singleton.mp hp]
    exact all4 _ _ _ _ h1 h2 h3 h4
  · intro p hp
    unfold splitL at hp
    dsimp only at hp
    split at hp
    · simp only [List.mem_cons, List.not_mem_nil, or_false] at hp
      rcases hp with rfl | rfl
      · exact all4 _ _ _ _ h1 hx h3 h4
      · exact all4 _ _ _ _ h1 h2 h3 hy
    · simp only [List.mem_cons, List.not_mem_nil, or_false] at hp
      rcases hp with rfl | rfl
      · exact all4 _ _ _ _ h1 h2 hx h4
      · exact all4 _ _ _ _ hy h2 h3 h4
theorem wsOf_cut {ls ls' : List LineV} (e : ls'.map (·.2) = ls.map (·.2)) (room : List Nat) (c : Nat) : lineAt ls' room c = lineAt ls room c ∧ cutL ls' room c = cutL ls room c := by
  have h1 : ∀ l : List LineV, lineAt l room c = (l.map (·.2)).findIdx? fun w => fitsB (w6L w) (room ++ [c]) := fun l => by
    unfold lineAt lineFits
    rw [List.findIdx?_map]
    rfl
  have h2 : lineAt ls' room c = lineAt ls room c := by rw [h1, h1, e]
  refine ⟨h2, ?_⟩
  unfold cutL
  rw [h2]
  have h3 : ∀ (l : List LineV) (i : Nat), (l[i]?.map fun r : LineV => r.2.2.2.2.2.2) = ((l.map (·.2))[i]?).map fun w : W6 => w.2.2.2.2.2 := fun l i => by
    rw [List.getElem?_map, Option.map_map]
    rfl
  split
  · rename_i i _
    rw [h3, h3, e]
  · rfl
abbrev s_Book_parts : Stmt := inCls (topS 52) 4
theorem sc_Book_parts : FnScope ["self", "room", "cutter"] ["self", "room", "cutter"] (defScope s_Book_parts) := ⟨rfl, rfl, rfl, by decide +kernel, rfl, by decide +kernel, by decide +kernel⟩
def sp_Book_parts (K : PySem.W.Frag) (CB : Addr) : Sp := fun vs H Q _ => ∃ (x : Addr) (F C : List Nat) (ls : List LineV) (room : List Nat) (c : Nat), vs = [.ref x, .str (S room), .str (S [c])] ∧ BookAt K CB H x F C ls ∧ room.length = 4 ∧ (∀ y ∈ room, y ∈ F) ∧ c ∈ C ∧
  ∀ H' p, Same H H' → H' p = none → Q (.ref p) (upd H' p (.lst ((splitL room (cutL ls room c)).map fun r => V.str (S r))))
theorem ok_Book_parts {f CB : Addr} {fd : FuncData} (F : Fun K "parts" "Book.parts" s_Book_parts f fd) (BC : BookC K CB) (c_cut : MCal P w K mg base CX0 CB 4 "cut" ["self", "room", "cutter"] (sp_Book_cut K CB))
    (c_parts_of : Cal P w K mg base CX0 1 "parts_of" s_parts_of ["room", "cut"] (sp_parts_of K)) : FnOk P w K mg base CX0 5 f fd ["self", "room", "cutter"] (sp_Book_parts K CB) := by
  refine F.ok sc_Book_parts (fun vs H Q E h => ?_) (fun cdv A outer s H vs Q E hr h => ?_)
  · obtain ⟨x, F, C, ls, room, c, rfl, _⟩ := h
    rfl
  obtain ⟨x, fs, cs, ls, room, c, rfl, hB, hr4, hrf, hcc, q⟩ := h
  refine ⟨_, (pss_one (ps_ret (pe_c c_parts_of hr (by decide) (by rfl) (pa_cons (pv 1) (pa_cons (pe_m c_cut BC.c hr (by decide) (pv 0) (pa_cons (pv 1) (pa_cons (pv 2) pa_nil))) pa_nil))))), ?_⟩
  obtain ⟨dx, tl, hx, ht⟩ := hB.at_
  refine ⟨_, rfl, _, rfl, x, dx, _, rfl, hx, rfl, _, rfl, _, rfl, x, fs, cs, ls, room, c, rfl, hB, hr4, hrf, hcc, fun H1 s1 => ?_⟩
  have cf := cutL_form (room := room) (c := c) fun r hr' => (hB.lines.ok r hr').cut
  have q1 := q H1
  generalize cutL ls room c = u at cf q1
  obtain ⟨n, e, so, we, rfl⟩ := room4 hr4
  refine ⟨n, e, so, we, S u, rfl, ?_⟩
  rcases cf with rfl | ⟨g, a, b, rfl, _⟩
  · refine .inl ⟨rfl, fun p np => ?_⟩
    have q2 := q1 p s1 np
    rw [splitL_none] at q2
    exact q2
  · refine .inr ⟨g, a, b, rfl, fun p np => ?_⟩
    have q2 := q1 p s1 np
    rw [← splitL_parts, List.map_map]
    exact q2
end
end FW
namespace FW
open PySem PySem.Spec PyProof.Rows L2
-- more
section
variable {P : Program} {w : World} {K : PySem.W.Frag} {mg : Str → Option Value} {base : Heap}
abbrev s__law_fits : Stmt := topS 72
theorem sc__law_fits : FnScope ["_law_line", "_law_room", "_law_cutter", "_law_part_here", "_law_face"] ["_law_line", "_law_room", "_law_cutter"] (defScope s__law_fits) := ⟨rfl, rfl, rfl, by decide +kernel, rfl, by decide +kernel, by decide +kernel⟩
def sp__law_fits (K : PySem.W.Frag) : Sp := fun vs H Q _ => ∃ (t : Addr) (w : W6) (room : List Nat) (c : Nat), vs = [.ref t, .str (S room), .str (S [c])] ∧ SqT K H t ((w6L w).map fun p => V.str (S p)) ∧ (∀ p ∈ w6L w, p.length ≤ 1000) ∧ room.length = 4 ∧
  ∀ H', Same H H' → Q (.bl (fitsB (w6L w) (room ++ [c]))) H'
theorem fits_eq (a b c' d e5 u : List Nat) (n e s w c : Nat) : fitsB [a, b, c', d, e5, u] ([n, e, s, w] ++ [c]) = (takesB e5 c && fitsB [a, b, c', d] [n, e, s, w]) := by
  show (takesB a n && (takesB b e && (takesB c' s && (takesB d w && (takesB e5 c && true))))) = (takesB e5 c && (takesB a n && (takesB b e && (takesB c' s && (takesB d w && true)))))
  cases takesB a n <;> cases takesB b e <;> cases takesB c' s <;> cases takesB d w <;> cases takesB e5 c <;> rfl
theorem ok__law_fits {f : Addr} {fd : FuncData} (F : Fun K "_law_fits" "_law_fits" s__law_fits f fd) (T : Z mg) : FnOk P w K mg base CX0 1 f fd ["_law_line", "_law_room", "_law_cutter"] (sp__law_fits K) := by
  refine F.ok sc__law_fits (fun vs H Q E h => ?_) (fun cdv A outer s H vs Q E hr h => ?_)
  · obtain ⟨t, w, room, c, rfl, _⟩ := h
    rfl
  obtain ⟨t, ⟨a, b, c', d, e5, u⟩, room, c, rfl, hS, hl, hr4, q⟩ := h
  refine ⟨_, (pss_cons (ps_if (pt_as (PW.pt (pw_and (pt_cmpR op_ne (pe_ix ix_tup (pv 0) pe_int (fun _ _ => rfl)) pe_str (nomark _)) (pw_and1 (pt_cmpR op_notIn_sign (pv 2) (pe_ix ix_tup (pv 0) pe_int (fun _ _ => rfl)) rfl))))) (pss_one (ps_ret pe_bl)) pss_nil)
      (pss_one (ps_ret (pe_callB (cr_all rfl) (by rfl) T.z_all (by decide +kernel) (pa_cons (pe_lc (own := [("_law_part_here", 3), ("_law_face", 4)]) (g := (gTup K 2 (gCons (gName 3) (gCons (gName 4) gNil)))) (by rfl) sc__law_fits.nd (pi_zipG (by rfl) T.z_zip (pa_cons (pe_slice sl_tup (pv 0) po_none (po_some pe_int)) (pa_cons (pv 1) pa_nil))) (blkOk_by (N := ["_law_line", "_law_room", "_law_cutter", "_law_part_here", "_law_face"]) (sc := defScope s__law_fits) (by decide +kernel)) (fun _ _ _ _ _ => (pg_tup rfl (pgs_cons (pg_name (i := 3) sc__law_fits.nd rfl (.inl rfl)) (pgs_cons (pg_name (i := 4) sc__law_fits.nd rfl (.inl rfl)) pgs_nil)))) (fun _ _ _ _ _ => pts_nil) (fun _ _ _ _ _ => (pe_or (pe_cmpR op_eq (pv 3) pe_str (nomark _)) (pe_one (pe_cmpR op_in_sign (pv 4) (pv 3) rfl))))) pa_nil))))), ?_⟩
  obtain ⟨n, e, so, we, rfl⟩ := room4 hr4
  have q0 : ∀ v, fitsB [a, b, c', d, e5, u] ([n, e, so, we] ++ [c]) = v → ∀ H', Same H H' → Q (.bl v) H' := fun v e => e ▸ q
  refine ⟨fun v H' => v = (!takesB e5 c) ∧ H' = H, ?_, ?_⟩
  · refine ⟨_, rfl, t, _, _, _, rfl, rfl, hS, rfl, rfl, _, rfl, ite_ndec (fun ne => ?_) (fun eq => ?_)⟩
    · refine ⟨_, rfl, _, rfl, t, _, _, _, rfl, rfl, hS, rfl, c, S e5, rfl, rfl, _, rfl, ?_, rfl⟩
      unfold takesB
      rw [show decide (V.str (S e5) = V.str ".") = false from decide_eq_false ne]
      rfl
    · refine ⟨?_, rfl⟩
      unfold takesB
      rw [show decide (V.str (S e5) = V.str ".") = true from decide_eq_true eq]
      rfl
  rintro _ H1 ⟨rfl, e1⟩
  subst e1
  cases et : takesB e5 c with
  | false => exact iteT (q0 false (by rw [fits_eq, et]; rfl) _ (Same.refl _))
  | true =>
    refine iteF ?_
    refine ⟨_, rfl, 4, rfl, t, _, rfl, hS, (show ¬ (HT.sIx 6 0 none = 0 ∧ HT.sIx 6 6 (some 4) = 6) by decide), fun p np => ?_⟩
    have s1 := same_upd (o := HO.tup (cutV ((w6L (a, b, c', d, e5, u)).map fun p => V.str (S p)) none (some 4))) np
    have hS1 : SqT K (upd H1 p (HO.tup (cutV ((w6L (a, b, c', d, e5, u)).map fun p => V.str (S p)) none (some 4)))) p ([a, b, c', d].map fun p => V.str (S p)) := SqT.of (upd_same.trans (congrArg (fun z => some (HO.tup z)) (show cutV ((w6L (a, b, c', d, e5, u)).map fun p => V.str (S p)) none (some 4) = [a, b, c', d].map fun p => V.str (S p) from rfl)))
    generalize upd H1 p (HO.tup (cutV ((w6L (a, b, c', d, e5, u)).map fun p => V.str (S p)) none (some 4))) = H at s1 hS1
    have q1 : ∀ H', Same H H' → Q (.bl (fitsB [a, b, c', d] [n, e, so, we])) H' := fun H' s => q0 _ (by rw [fits_eq, et]; rfl) H' (s1.trans s)
    have hps : [a, b, c', d].length = 4 := rfl
    have hcs : [n, e, so, we].length = 4 := rfl
    generalize [a, b, c', d] = ps at hS1 q1 hps
    generalize [n, e, so, we] = cs at q1 hcs
    refine ⟨_, rfl, _, _, ps.map fun p => V.str (S p), cs.map sgn, rfl, .t hS1, .s rfl, fun k1 k2 e1 e2 g1 g2 D hD => ?_⟩
    have hk1 : ∀ H', But D H H' → k1.src K H' (ps.map fun p => V.str (S p)) := fun H' bt => by
      cases k1 with
      | l a => cases e1; exact (but_fresh (Same.refl H) hD bt).seq g1
      | t a => cases e1; exact (but_fresh (Same.refl H) hD bt).tup g1
      | s x t => cases e1
    have hk2 : ∀ H', k2.src K H' (cs.map sgn) := fun H' => by
      cases k2 with
      | l a => cases e2
      | t a => cases e2
      | s x t => exact g2
    have hzl : (ps.zip cs).length = min ps.length cs.length := List.length_zip
    refine lc_it (walk_zipG (xs := ps.map fun p => V.str (S p)) (ys := cs.map sgn) (n := (ps.zip cs).length) (by rw [List.length_map, List.length_map, hzl])) (fun i H' => But D H H' ∧ H' D = some (.lst (((ps.zip cs).take i).map fun q => V.bl (takesB q.1 q.2))))
      ⟨(same_upd hD).but, upd_same⟩ (fun i H' _ pv => ⟨hk1 H' pv.1, hk2 H'⟩) ?_ ?_
    · rintro i _ H' _ hi ⟨bt, hDD⟩ ⟨T', x1, y1, rfl, nT, rfl, hx1, hy1⟩
      have hi1 : i < ps.length := by omega
      have hi2 : i < cs.length := by omega
      have ex : x1 = V.str (S ps[i]) := by
        have : (ps.map fun p => V.str (S p))[i]? = some x1 := hx1
        rw [List.getElem?_map, List.getElem?_eq_getElem hi1] at this
        exact (Option.some.inj this).symm
      have ey : y1 = sgn cs[i] := by
        have : (cs.map sgn)[i]? = some y1 := hy1
        rw [List.getElem?_map, List.getElem?_eq_getElem hi2] at this
        exact (Option.some.inj this).symm
      subst ex ey
      have nDT : D ≠ T' := ne_of_none hDD nT
      have hD2 : (upd H' T' (HO.tup [V.str (S ps[i]), sgn cs[i]])) D = some (.lst (((ps.zip cs).take i).map fun q => V.bl (takesB q.1 q.2))) := (same_upd nT) _ _ hDD
      have fin : ∀ bb, takesB ps[i] cs[i] = bb → ∃ acc, (upd H' T' (HO.tup [V.str (S ps[i]), sgn cs[i]])) D = some (.lst acc) ∧ acc.length < sizeLine ∧ (But D H (upd (upd H' T' (HO.tup [V.str (S ps[i]), sgn cs[i]])) D (.lst (acc ++ [V.bl bb]))) ∧ (upd (upd H' T' (HO.tup [V.str (S ps[i]), sgn cs[i]])) D (.lst (acc ++ [V.bl bb]))) D = some (.lst (((ps.zip cs).take (i + 1)).map fun q => V.bl (takesB q.1 q.2)))) := fun bb e => by
        refine ⟨_, hD2, by rw [List.length_map, List.length_take]; exact sz1 (by omega), fun a o n e => ?_, ?_⟩
        · rw [upd_ne n]
          exact (same_upd nT) _ _ (bt a o n e)
        · rw [upd_same, List.take_add_one, List.getElem?_eq_getElem hi, List.map_append, List.getElem_zip, ← e]
          rfl
      refine ⟨T', _, rfl, SqT.of upd_same, rfl, _, _, rfl, _, [], rfl, rfl, rfl, ?_⟩
      refine ⟨_, rfl, rfl, _, rfl, ?_⟩
      cases e : decide (V.str (S ps[i]) = V.str ".") with
      | true => exact iteT (fin true (by unfold takesB; rw [e]; rfl))
      | false => exact iteF ⟨_, rfl, _, rfl, cs[i], S ps[i], rfl, rfl, fin _ (by unfold takesB; rw [e]; rfl)⟩
    · rintro H' ⟨bt, hDD⟩
      rw [List.take_of_length_le (Nat.le_refl _)] at hDD
      refine ⟨D, (ps.zip cs).map fun q => takesB q.1 q.2, rfl, SqL.of (hDD.trans ?_), ?_⟩
      · rw [List.map_map]
        rfl
      · rw [List.all_map]
        exact q1 _ (but_fresh (Same.refl H) hD bt)
abbrev s__law_line_at : Stmt := topS 73
theorem sc__law_line_at : FnScope ["_law_spec", "_law_room", "_law_cutter", "_law_at_z", "_law_line"] ["_law_spec", "_law_room", "_law_cutter"] (defScope s__law_line_at) := ⟨rfl, rfl, rfl, by decide +kernel, rfl, by decide +kernel, by decide +kernel⟩
/-- a told book whose lines are short -/
def SpecS (ls : List LineV) : Prop := ls.length ≤ 1000 ∧ ∀ r ∈ ls, ∀ p ∈ w6L r.2, p.length ≤ 1000
def sp__law_line_at (K : PySem.W.Frag) : Sp := fun vs H Q _ => ∃ (p lp b : Addr) (F C : List Nat) (ls : List LineV) (room : List Nat) (c : Nat), vs = [.ref p, .str (S room), .str (S [c])] ∧ SpecAt H b p lp F C ls ∧ SpecS ls ∧ room.length = 4 ∧
  ∀ H', Same H H' → Q (optV (lineAt ls room c)) H'
theorem ok__law_line_at {f : Addr} {fd : FuncData} (F : Fun K "_law_line_at" "_law_line_at" s__law_line_at f fd) (T : Z mg) (c__law_fits : Cal P w K mg base CX0 1 "_law_fits" s__law_fits ["_law_line", "_law_room", "_law_cutter"] (sp__law_fits K)) : FnOk P w K mg base CX0 2 f fd ["_law_spec", "_law_room", "_law_cutter"] (sp__law_line_at K) := by
  refine F.ok sc__law_line_at (fun vs H Q E h => ?_) (fun cdv A outer s H vs Q E hr h => ?_)
  · obtain ⟨p, lp, b, F, C, ls, room, c, rfl, _⟩ := h
    rfl
  obtain ⟨p, lp, b, F, C, ls, room, c, rfl, hs, hl, hr4, q⟩ := h
  refine ⟨_, (pss_cons (ps_for PassesOwn.never rfl (pi_enumG (by rfl) T.z_enumerate (pa_cons (pe_ix ix_list (pv 0) pe_int (fun _ _ => rfl)) pa_nil)) (pg_tup rfl (pgs_cons (pg_name (i := 3) sc__law_line_at.nd rfl (.inl rfl)) (pgs_cons (pg_name (i := 4) sc__law_line_at.nd rfl (.inl rfl)) pgs_nil)))
        (pss_one (ps_if (pt_val (pe_c c__law_fits hr (by decide) (by rfl) (pa_cons (pv 4) (pa_cons (pv 1) (pa_cons (pv 2) pa_nil))))) (pss_one (ps_ret (pv 3))) pss_nil)))
      (pss_one (ps_ret pe_non))), ?_⟩
  refine ⟨_, rfl, p, _, _, _, rfl, rfl, SqL.of hs.top, rfl, .ref lp, ls.map fun r => V.ref r.1, rfl, .l (SqL.of hs.rows), fun k ev src => ?_⟩
  have stay : ∀ H', Same H H' → k.src K H' (ls.map fun r => V.ref r.1) := fun H' s => by
    cases k with
    | l a => exact s.seq src
    | t a => exact s.tup src
    | s z t => cases ev
  refine for_it walk_enumG (fun i σ H' => ∃ y3 y4 : Option V, σ = [some (.ref p), some (.str (S room)), some (.str (S [c])), y3, y4] ∧ Same H H' ∧ ∀ r' ∈ ls.take i, lineFits r' room c = false) ⟨_, _, rfl, Same.refl _, fun _ h => by cases h⟩ (fun i σ H' _ ⟨_, _, _, s, _⟩ => stay H' s) ?_ ?_
  · rintro i v σ H3 H4 hi ⟨y3, y4, rfl, s3, hno⟩ ⟨T', a1, b1', rfl, nT, rfl, hx1, hy1⟩
    obtain rfl : V.int (i : Nat) = a1 := Option.some.inj hx1
    have hy2 : (ls.map fun r => V.ref r.1)[i]? = some b1' := hy1
    rw [List.getElem?_map] at hy2
    obtain ⟨r, hr1, rfl⟩ := Option.map_eq_some_iff.mp hy2
    have hm := List.mem_of_getElem? hr1
    have s4 := s3.trans (same_upd (o := HO.tup [V.int (i : Nat), V.ref r.1]) nT)
    refine ⟨T', _, rfl, SqT.of upd_same, rfl, _, _, rfl, _, [], rfl, rfl, ?_⟩
    refine ⟨_, rfl, _, rfl, _, rfl, r.1, r.2, room, c, rfl, SqT.of (s4 _ _ (hs.at_ r hm)), hl.2 r hm, hr4, fun H5 s5 => ⟨_, rfl, ?_⟩⟩
    have q0 : ∀ v, lineAt ls room c = v → ∀ H', Same H H' → Q (optV v) H' := fun v e => e ▸ q
    cases e : fitsB (w6L r.2) (room ++ [c]) with
    | true =>
      refine iteT ⟨_, rfl, q0 (some i) (List.findIdx?_eq_some_iff_getElem.mpr ?_) _ (s4.trans s5)⟩
      obtain ⟨hlt, hget⟩ := List.getElem?_eq_some_iff.mp hr1
      refine ⟨hlt, by rw [hget]; exact e, fun j hj => ?_⟩
      have hjm : ls[j] ∈ ls.take i := List.mem_take_iff_getElem.mpr ⟨j, by omega, rfl⟩
      rw [hno _ hjm]
      exact Bool.false_ne_true
    | false =>
      refine iteF ⟨_, _, rfl, s4.trans s5, fun r' hr' => ?_⟩
      rw [List.take_add_one, hr1] at hr'
      rcases List.mem_append.mp hr' with h | h
      · exact hno r' h
      · rw [show r' = r from List.mem_singleton.mp h]
        exact e
  · rintro σ H3 ⟨y3, y4, rfl, s3, hno⟩
    rw [List.take_of_length_le (by simp)] at hno
    have e : optV (lineAt ls room c) = .non := by
      rw [show lineAt ls room c = none from List.findIdx?_eq_none_iff.mpr hno]
      rfl
    rw [e] at q
    exact q _ s3
abbrev s__law_cut : Stmt := topS 74
theorem sc__law_cut : FnScope ["_law_spec", "_law_room", "_law_cutter", "_law_at_z"] ["_law_spec", "_law_room", "_law_cutter"] (defScope s__law_cut) := ⟨rfl, rfl, rfl, by decide +kernel, rfl, by decide +kernel, by decide +kernel⟩
def sp__law_cut (K : PySem.W.Frag) : Sp := fun vs H Q _ => ∃ (p lp b : Addr) (F C : List Nat) (ls : List LineV) (room : List Nat) (c : Nat), vs = [.ref p, .str (S room), .str (S [c])] ∧ SpecAt H b p lp F C ls ∧ SpecS ls ∧ room.length = 4 ∧
  ∀ H', Same H H' → Q (.str (S (cutL ls room c))) H'
theorem ok__law_cut {f : Addr} {fd : FuncData} (F : Fun K "_law_cut" "_law_cut" s__law_cut f fd) (c__law_line_at : Cal P w K mg base CX0 2 "_law_line_at" s__law_line_at ["_law_spec", "_law_room", "_law_cutter"] (sp__law_line_at K)) : FnOk P w K mg base CX0 3 f fd ["_law_spec", "_law_room", "_law_cutter"] (sp__law_cut K) := by
  refine F.ok sc__law_cut (fun vs H Q E h => ?_) (fun cdv A outer s H vs Q E hr h => ?_)
  · obtain ⟨p, lp, b, F, C, ls, room, c, rfl, _⟩ := h
    rfl
  obtain ⟨p, lp, b, F, C, ls, room, c, rfl, hs, hl, hr4, q⟩ := h
  refine ⟨_, (pss_cons (ps_set (i := 3) sc__law_cut.nd rfl (.inl rfl) (pe_c c__law_line_at hr (by decide) (by rfl) (pa_cons (pv 0) (pa_cons (pv 1) (pa_cons (pv 2) pa_nil)))))
      (pss_one (ps_ret (pe_ifExp (pt_cmp (pc_isN (pv 3))) pe_str (pe_ix ix_tup (pe_ix ix_list (pe_ix ix_list (pv 0) pe_int (fun _ _ => rfl)) (pv 3) (fun _ _ => rfl)) pe_int (fun _ _ => rfl)))))), ?_⟩
  refine ⟨_, rfl, _, rfl, _, rfl, p, lp, b, F, C, ls, room, c, rfl, hs, hl, hr4, fun H1 s1 => ?_⟩
  have q1 := q _ s1
  unfold cutL at q1
  have hs1 := hs.same s1
  cases e : lineAt ls room c with
  | none =>
    rw [e] at q1
    exact ⟨_, rfl, _, rfl, iteT q1⟩
  | some i =>
    rw [e] at q1
    obtain ⟨hlt, _⟩ := List.findIdx?_eq_some_iff_getElem.mp e
    have hi : ls[i]? = some ls[i] := List.getElem?_eq_getElem hlt
    have hm := List.mem_of_getElem? hi
    generalize ls[i] = r at hi hm
    dsimp only at q1
    rw [hi] at q1
    have hgi : (ls.map fun r => V.ref r.1)[i]? = some (.ref r.1) := by
      rw [List.getElem?_map, hi]
      rfl
    refine ⟨_, rfl, _, rfl, iteF ?_⟩
    exact ⟨_, rfl, p, _, _, _, rfl, rfl, SqL.of hs1.top, rfl, _, rfl, lp, _, (i : Int), _, rfl, rfl, SqL.of hs1.rows, at_of (j := i) rfl hgi, r.1, _, 5, _, rfl, rfl, SqT.of (hs1.at_ r hm), rfl, q1⟩
abbrev s__law_split : Stmt := topS 75
theorem sc__law_split : FnScope ["_law_room", "_law_cut_here"] ["_law_room", "_law_cut_here"] (defScope s__law_split) := ⟨rfl, rfl, rfl, by decide +kernel, rfl, by decide +kernel, by decide +kernel⟩
def sp__law_split0 (K : PySem.W.Frag) : Sp := fun vs H Q _ => ∃ (room u F : List Nat), vs = [.str (S room), .str (S u)] ∧ room.length = 4 ∧ CutR u F ∧ ∀ p, H p = none → Q (.ref p) (upd H p (.lst ((splitL room u).map fun r => V.str (S r))))
theorem ok__law_split {f : Addr} {fd : FuncData} (F : Fun K "_law_split" "_law_split" s__law_split f fd) : FnOk P w K mg base CX0 1 f fd ["_law_room", "_law_cut_here"] (sp__law_split0 K) := by
  refine F.ok sc__law_split (fun vs H Q E h => ?_) (fun cdv A outer s H vs Q E hr h => ?_)
  · obtain ⟨room, u, F, rfl, _⟩ := h
    rfl
  obtain ⟨room, u, fs, rfl, hr4, hu, q⟩ := h
  refine ⟨_, (pss_cons (ps_if (pt_cmpR op_eq (pv 1) pe_str (nomark _)) (pss_one (ps_ret (pe_lst (pa_cons (pv 0) pa_nil)))) pss_nil)
      (pss_cons (ps_if (pt_cmpR op_eq (pe_ix ix_str (pv 1) pe_int (fun _ _ => rfl)) pe_str (nomark _)) (pss_one (ps_ret (pe_lst (pa_cons (pe_op op_add_str (pe_op op_add_str (pe_ix ix_str (pv 0) pe_int (fun _ _ => rfl)) (pe_ix ix_str (pv 1) pe_int (fun _ _ => rfl))) (pe_slice sl_str (pv 0) (po_some pe_int) po_none)) (pa_cons (pe_op op_add_str (pe_slice sl_str (pv 0) po_none (po_some pe_int)) (pe_ix ix_str (pv 1) pe_int (fun _ _ => rfl))) pa_nil))))) pss_nil)
      (pss_one (ps_ret (pe_lst (pa_cons (pe_op op_add_str (pe_op op_add_str (pe_slice sl_str (pv 0) po_none (po_some pe_int)) (pe_ix ix_str (pv 1) pe_int (fun _ _ => rfl))) (pe_ix ix_str (pv 0) pe_int (fun _ _ => rfl))) (pa_cons (pe_op op_add_str (pe_ix ix_str (pv 1) pe_int (fun _ _ => rfl)) (pe_slice sl_str (pv 0) (po_some pe_int) po_none)) pa_nil))))))), ?_⟩
  obtain ⟨n, e, so, we, rfl⟩ := room4 hr4
  rcases hu with rfl | ⟨g, x, y, rfl, hg, _⟩
  · refine ⟨_, rfl, rfl, _, rfl, ite_dec (fun _ => ?_) (fun ne => absurd (rfl : V.str (S []) = V.str "") ne)⟩
    exact ⟨_, rfl, (show 1 ≤ sizeLine by decide), fun p np => by
      have := q p np
      rw [splitL_none] at this
      exact this⟩
  · have q1 : ∀ p, H p = none → Q (.ref p) (upd H p (.lst ((partsC n e so we g x y).map V.str))) := by
      rw [← splitL_parts, List.map_map]
      exact q
    have q := q1
    refine ⟨_, rfl, rfl, _, rfl, ite_dec (fun eq => absurd (str_nil eq) (by simp)) (fun _ => ?_)⟩
    refine ⟨_, rfl, _, 0, g, rfl, rfl, (show 3 ≤ sizeLine by decide), rfl, rfl, _, rfl, ?_⟩
    by_cases hs : g = 124
    · subst hs
      refine ite2 (fun _ => ?_) (fun hn => absurd (decide_eq_true rfl) hn)
      refine ⟨_, rfl, _, 0, n, rfl, rfl, (show 4 ≤ sizeLine by decide), rfl, _, rfl, _, 1, x, rfl, rfl, (show 3 ≤ sizeLine by decide), rfl, _, _, rfl, rfl, (show 2 ≤ sizeLine by decide), _, rfl, 2, rfl, _, rfl, (show 4 ≤ sizeLine by decide), ?_⟩
      rw [show cutS (S [n, e, so, we]) (some 2) none = S [so, we] from S_sub [n, e, so, we] 2]
      refine ⟨_, _, rfl, rfl, (show 4 ≤ sizeLine by decide), _, rfl, 3, rfl, _, rfl, (show 4 ≤ sizeLine by decide), ?_⟩
      rw [show cutS (S [n, e, so, we]) none (some 3) = S [n, e, so] from S_to [n, e, so, we] 3]
      refine ⟨_, rfl, _, 2, y, rfl, rfl, (show 3 ≤ sizeLine by decide), rfl, _, _, rfl, rfl, (show 4 ≤ sizeLine by decide), (show 2 ≤ sizeLine by decide), ?_⟩
      exact q
    · refine ite2 (fun hn => ?_) (fun _ => ?_)
      · exact absurd (by
          have q1 := V.str.inj (of_decide_eq_true hn)
          have q2 := congrArg (fun z : Str => z.cps.toList) q1
          exact List.head_eq_of_cons_eq q2) hs
      · refine ⟨_, rfl, 2, rfl, _, rfl, (show 4 ≤ sizeLine by decide), ?_⟩
        rw [show cutS (S [n, e, so, we]) none (some 2) = S [n, e] from S_to [n, e, so, we] 2]
        refine ⟨_, rfl, _, 1, x, rfl, rfl, (show 3 ≤ sizeLine by decide), rfl, _, _, rfl, rfl, (show 3 ≤ sizeLine by decide), _, rfl, _, 3, we, rfl, rfl, (show 4 ≤ sizeLine by decide), rfl, _, _, rfl, rfl, (show 4 ≤ sizeLine by decide), ?_⟩
        refine ⟨_, rfl, _, 2, y, rfl, rfl, (show 3 ≤ sizeLine by decide), rfl, _, rfl, 1, rfl, _, rfl, (show 4 ≤ sizeLine by decide), ?_⟩
        rw [show cutS (S [n, e, so, we]) (some 1) none = S [e, so, we] from S_sub [n, e, so, we] 1]
        refine ⟨_, _, rfl, rfl, (show 4 ≤ sizeLine by decide), (show 2 ≤ sizeLine by decide), ?_⟩
        have e2 : partsC n e so we g x y = [S4 n e x we, S4 y e so we] := if_neg hs
        rw [e2] at q
        exact q
abbrev s__law_parts : Stmt := topS 76
theorem sc__law_parts : FnScope ["_law_spec", "_law_room", "_law_cutter"] ["_law_spec", "_law_room", "_law_cutter"] (defScope s__law_parts) := ⟨rfl, rfl, rfl, by decide +kernel, rfl, by decide +kernel, by decide +kernel⟩
def sp__law_parts (K : PySem.W.Frag) : Sp := fun vs H Q _ => ∃ (p lp b : Addr) (F C : List Nat) (ls : List LineV) (room : List Nat) (c : Nat), vs = [.ref p, .str (S room), .str (S [c])] ∧ SpecAt H b p lp F C ls ∧ SpecS ls ∧ room.length = 4 ∧ (∀ r ∈ ls, CutR r.2.2.2.2.2.2 F) ∧
  ∀ H' q, Same H H' → H' q = none → Q (.ref q) (upd H' q (.lst ((splitL room (cutL ls room c)).map fun r => V.str (S r))))
theorem ok__law_parts {f : Addr} {fd : FuncData} (F : Fun K "_law_parts" "_law_parts" s__law_parts f fd) (c__law_split : Cal P w K mg base CX0 1 "_law_split" s__law_split ["_law_room", "_law_cut_here"] (sp__law_split0 K))
    (c__law_cut : Cal P w K mg base CX0 3 "_law_cut" s__law_cut ["_law_spec", "_law_room", "_law_cutter"] (sp__law_cut K)) : FnOk P w K mg base CX0 4 f fd ["_law_spec", "_law_room", "_law_cutter"] (sp__law_parts K) := by
  refine F.ok sc__law_parts (fun vs H Q E h => ?_) (fun cdv A outer s H vs Q E hr h => ?_)
  · obtain ⟨p, lp, b, F, C, ls, room, c, rfl, _⟩ := h
    rfl
  obtain ⟨p, lp, b, F, C, ls, room, c, rfl, hs, hl, hr4, hc, q⟩ := h
  refine ⟨_, (pss_one (ps_ret (pe_c c__law_split hr (by decide) (by rfl) (pa_cons (pv 1) (pa_cons (pe_c c__law_cut hr (by decide) (by rfl) (pa_cons (pv 0) (pa_cons (pv 1) (pa_cons (pv 2) pa_nil)))) pa_nil))))), ?_⟩
  exact ⟨_, rfl, _, rfl, _, rfl, _, rfl, p, lp, b, F, C, ls, room, c, rfl, hs, hl, hr4, fun H1 s1 => ⟨room, cutL ls room c, F, rfl, hr4, cutL_form hc, fun q' nq => q H1 q' s1 nq⟩⟩
end
end FW
namespace FW
open PySem PySem.Spec PyProof.Rows L2
-- more
section
variable {P : Program} {w : World} {K : PySem.W.Frag} {mg : Str → Option Value} {base : Heap}
/-! the tree of a history: all rooms that ever stood, by their addresses, and the cuts -/
abbrev AR : Type := List Nat × List Nat
def lk (l : List AR) (a : List Nat) : Option (List Nat) := (l.find? fun r => decide (r.1 = a)).map (·.2)
def kvR (l : List AR) : List (Key × V) := l.map fun r => (.inr (S r.1), .str (S r.2))
theorem S_inj {a b : List Nat} (h : S a = S b) : a = b := congrArg (fun z : Str => z.cps.toList) h
theorem inr_S {a b : List Nat} : ((.inr (S a) : Key) = .inr (S b)) ↔ a = b := ⟨fun h => S_inj (Sum.inr.inj h), fun h => by rw [h]⟩
theorem valV_kvR (a : List Nat) : ∀ l : List AR, valV (kvR l) (.inr (S a)) = (lk l a).map fun r => V.str (S r)
  | [] => rfl
  | r :: l => by
    by_cases e : r.1 = a
    · have e1 : lk (r :: l) a = some r.2 := by simp [lk, List.find?_cons, e]
      rw [e1]
      exact valV_pos (p := ((Sum.inr (S r.1), V.str (S r.2)) : Key × V)) (inr_S.mpr e)
    · have e1 : lk (r :: l) a = lk l a := by simp [lk, List.find?_cons, e]
      rw [e1, ← valV_kvR a l]
      exact valV_neg (p := ((Sum.inr (S r.1), V.str (S r.2)) : Key × V)) (fun h => e (inr_S.mp h))
theorem dropK_kvR (a : List Nat) : ∀ l : List AR, dropK (kvR l) (.inr (S a)) = kvR (l.filter fun r => decide (r.1 ≠ a))
  | [] => rfl
  | r :: l => by
    have ih := dropK_kvR a l
    unfold dropK kvR at ih ⊢
    rw [List.map_cons, List.filter_cons, List.filter_cons]
    by_cases e : r.1 = a
    · rw [if_neg (by simp [inr_S, e]), if_neg (by simp [e])]
      exact ih
    · rw [if_pos (by simp [inr_S, e]), if_pos (by simp [e]), List.map_cons, ih]
theorem lk_none {l : List AR} {a : List Nat} (h : a ∉ l.map (·.1)) : lk l a = none := by
  unfold lk
  rw [List.find?_eq_none.mpr (fun r hr => by
    intro e
    exact h (List.mem_map.mpr ⟨r, hr, of_decide_eq_true e⟩))]
  rfl
theorem lk_some {l : List AR} {a r : List Nat} (h : lk l a = some r) : (a, r) ∈ l := by
  unfold lk at h
  obtain ⟨x, hx, rfl⟩ := Option.map_eq_some_iff.mp h
  have h1 := List.find?_some hx
  have h2 := List.mem_of_find?_eq_some hx
  have e : x.1 = a := of_decide_eq_true h1
  rw [← e]
  exact h2
theorem lk_of {l : List AR} {a r : List Nat} (nd : (l.map (·.1)).Nodup) (h : (a, r) ∈ l) : lk l a = some r := by
  induction l with
  | nil => cases h
  | cons x l ih =>
    rw [List.map_cons, List.nodup_cons] at nd
    rcases List.mem_cons.mp h with e | h
    · rw [← e]
      simp [lk, List.find?_cons]
    · have ne : ¬ x.1 = a := fun e => nd.1 (e ▸ List.mem_map.mpr ⟨(a, r), h, rfl⟩)
      have e1 : lk (x :: l) a = lk l a := by simp [lk, List.find?_cons, ne]
      rw [e1]
      exact ih nd.2 h
theorem putK_kvR {l : List AR} {a r : List Nat} (h : a ∉ l.map (·.1)) : putK (kvR l) (.inr (S a)) (.str (S r)) = kvR (l ++ [(a, r)]) := by
  rw [putK_new _ (by rw [valV_kvR, lk_none h]; rfl)]
  unfold kvR
  rw [List.map_append]
  rfl
structure Tr where
  rooms : List AR
  cuts : List (List Nat × List Nat × Nat)
def Tr.isCut (t : Tr) (a : List Nat) : Bool := t.cuts.any fun c => decide (c.1 = a)
def Tr.stand (t : Tr) : List AR := t.rooms.filter fun r => !t.isCut r.1
def Tr.cutAt (t : Tr) (a p0 p1 room : List Nat) (c : Nat) : Tr := ⟨t.rooms ++ [(a ++ [48], p0), (a ++ [49], p1)], t.cuts ++ [(a, room, c)]⟩
def Tr.step (cut : List Nat → Nat → List Nat) (t : Tr) (s : List Nat × Nat) : Tr := match lk t.rooms s.1 with
  | none => t
  | some room => match splitL room (cut room s.2) with
    | [p0, p1] => t.cutAt s.1 p0 p1 room s.2
    | _ => t
def Tr.run (cut : List Nat → Nat → List Nat) (t : Tr) (ss : List (List Nat × Nat)) : Tr := ss.foldl (Tr.step cut) t
def Tr.start (room : List Nat) : Tr := ⟨[([], room)], []⟩
structure Tr.Ok (F : List Nat) (t : Tr) : Prop where
  nd : (t.rooms.map (·.1)).Nodup
  form : ∀ r ∈ t.rooms, r.2.length = 4 ∧ ∀ y ∈ r.2, y ∈ F
  par : ∀ r ∈ t.rooms, r.1 = [] ∨ ∃ p d, r.1 = p ++ [d] ∧ t.isCut p = true
  bit : ∀ r ∈ t.rooms, ∀ d ∈ r.1, d = 48 ∨ d = 49
  len : ∀ r ∈ t.rooms, r.1.length ≤ t.cuts.length
  few : t.rooms.length = 2 * t.cuts.length + 1
  cin : ∀ c ∈ t.cuts, (c.1, c.2.1) ∈ t.rooms
  ne : t.stand ≠ []
theorem Tr.start_ok {F room : List Nat} (h4 : room.length = 4) (hF : ∀ y ∈ room, y ∈ F) : (Tr.start room).Ok F := by
  refine ⟨by simp [Tr.start], fun r hr => ?_, fun r hr => ?_, fun r hr => ?_, fun r hr => ?_, rfl, fun c hc => (by cases hc), List.cons_ne_nil _ _⟩
  all_goals rw [List.mem_singleton.mp hr]
  · exact ⟨h4, hF⟩
  · exact .inl rfl
  · intro d hd
    cases hd
  · exact Nat.zero_le _
theorem Tr.start_stand (room : List Nat) : (Tr.start room).stand = [([], room)] := rfl
theorem Tr.stand_sub {t : Tr} {r : AR} (h : r ∈ t.stand) : r ∈ t.rooms ∧ t.isCut r.1 = false := by
  obtain ⟨h1, h2⟩ := List.mem_filter.mp h
  exact ⟨h1, by simpa using h2⟩
theorem Tr.Ok.stand_nd {F : List Nat} {t : Tr} (h : t.Ok F) : (t.stand.map (·.1)).Nodup := h.nd.sublist (List.Sublist.map _ (List.filter_sublist ..))
theorem Tr.fresh {F : List Nat} {t : Tr} (h : t.Ok F) {a : List Nat} (hc : t.isCut a = false) (d : Nat) : a ++ [d] ∉ t.rooms.map (·.1) := by
  intro e
  obtain ⟨r, hr, e1⟩ := List.mem_map.mp e
  rcases h.par r hr with e2 | ⟨p, d', e2, hp⟩
  · rw [e2] at e1
    exact absurd e1 (by simp)
  · rw [e2] at e1
    have : p = a := (List.append_inj' e1 rfl).1
    rw [this, hc] at hp
    cases hp
theorem isCut_snoc (t : Tr) (a p0 p1 room b : List Nat) (c : Nat) : (t.cutAt a p0 p1 room c).isCut b = (t.isCut b || decide (a = b)) := by
  unfold Tr.isCut Tr.cutAt
  rw [List.any_append]
  simp
/-- what a cut does to the rooms that stand -/
theorem Tr.cut_stand {F : List Nat} {t : Tr} (h : t.Ok F) {a p0 p1 room : List Nat} {c : Nat} (hs : (a, room) ∈ t.stand) : (t.cutAt a p0 p1 room c).stand = (t.stand.filter fun r => decide (r.1 ≠ a)) ++ [(a ++ [48], p0), (a ++ [49], p1)] := by
  have hc := (Tr.stand_sub hs).2
  unfold Tr.stand
  have e1 : (fun r : AR => !(t.cutAt a p0 p1 room c).isCut r.1) = fun r => (!t.isCut r.1 && decide (r.1 ≠ a)) := by
    funext r
    rw [isCut_snoc]
    by_cases e : a = r.1
    · simp [e]
    · simp [e, Ne.symm e]
  rw [e1, show (t.cutAt a p0 p1 room c).rooms = t.rooms ++ [(a ++ [48], p0), (a ++ [49], p1)] from rfl, List.filter_append, List.filter_filter]
  have e2 : ([(a ++ [48], p0), (a ++ [49], p1)] : List AR).filter (fun r => (!t.isCut r.1 && decide (r.1 ≠ a))) = [(a ++ [48], p0), (a ++ [49], p1)] := by
    refine List.filter_eq_self.mpr fun r hr => ?_
    have hn : ∀ d : Nat, t.isCut (a ++ [d]) = false := fun d => by
      cases z : t.isCut (a ++ [d]) with
      | false => rfl
      | true =>
        unfold Tr.isCut at z
        obtain ⟨x, hx, e⟩ := List.any_eq_true.mp z
        have e' : x.1 = a ++ [d] := of_decide_eq_true e
        have := h.cin x hx
        rw [e'] at this
        exact absurd (List.mem_map.mpr ⟨((a ++ [d], x.2.1) : AR), this, rfl⟩) (Tr.fresh h hc d)
    simp only [List.mem_cons, List.not_mem_nil, or_false] at hr
    rcases hr with rfl | rfl
    · simp [hn]
    · simp [hn]
  rw [e2]
  congr 1
  refine List.filter_congr fun r _ => ?_
  rw [Bool.and_comm]
theorem Tr.cut_ok {F : List Nat} {t : Tr} (h : t.Ok F) {a p0 p1 room : List Nat} {c : Nat} (hs : (a, room) ∈ t.stand) (h0 : p0.length = 4 ∧ ∀ y ∈ p0, y ∈ F) (h1 : p1.length = 4 ∧ ∀ y ∈ p1, y ∈ F) : (t.cutAt a p0 p1 room c).Ok F := by
  obtain ⟨hr, hc⟩ := Tr.stand_sub hs
  have mem : ∀ r ∈ (t.cutAt a p0 p1 room c).rooms, r ∈ t.rooms ∨ r = (a ++ [48], p0) ∨ r = (a ++ [49], p1) := fun r hr => by
    rcases List.mem_append.mp hr with h | h
    · exact .inl h
    · simp only [List.mem_cons, List.not_mem_nil, or_false] at h
      exact .inr h
  have hcl : (t.cutAt a p0 p1 room c).cuts.length = t.cuts.length + 1 := by simp [Tr.cutAt]
  refine ⟨?_, fun r hr' => ?_, fun r hr' => ?_, fun r hr' => ?_, fun r hr' => ?_, ?_, fun x hx => ?_, by rw [Tr.cut_stand h hs]; simp⟩
  · show List.Nodup (List.map (fun r : AR => r.1) (t.rooms ++ [(a ++ [48], p0), (a ++ [49], p1)]))
    rw [List.map_append, List.nodup_append]
    refine ⟨h.nd, by simp, fun x hx y hy => ?_⟩
    have hy' : y ∈ [a ++ [48], a ++ [49]] := hy
    simp only [List.mem_cons, List.not_mem_nil, or_false] at hy'
    rintro rfl
    rcases hy' with rfl | rfl
    · exact Tr.fresh h hc 48 hx
    · exact Tr.fresh h hc 49 hx
  · rcases mem r hr' with z | rfl | rfl
    · exact h.form r z
    · exact h0
    · exact h1
  · rcases mem r hr' with z | rfl | rfl
    · rcases h.par r z with e | ⟨p, d, e, hp⟩
      · exact .inl e
      · exact .inr ⟨p, d, e, by rw [isCut_snoc, hp]; rfl⟩
    · exact .inr ⟨a, 48, rfl, by rw [isCut_snoc, decide_eq_true rfl, Bool.or_true]⟩
    · exact .inr ⟨a, 49, rfl, by rw [isCut_snoc, decide_eq_true rfl, Bool.or_true]⟩
  · rcases mem r hr' with z | rfl | rfl
    · exact h.bit r z
    · intro d hd
      rcases List.mem_append.mp hd with e | e
      · exact h.bit _ hr d e
      · exact .inl (List.mem_singleton.mp e)
    · intro d hd
      rcases List.mem_append.mp hd with e | e
      · exact h.bit _ hr d e
      · exact .inr (List.mem_singleton.mp e)
  · rw [hcl]
    rcases mem r hr' with z | rfl | rfl
    · exact Nat.le_succ_of_le (h.len r z)
    · have := h.len _ hr
      simp only [List.length_append, List.length_singleton]
      simpa using this
    · have := h.len _ hr
      simp only [List.length_append, List.length_singleton]
      simpa using this
  · rw [hcl]
    show (t.rooms ++ _).length = _
    rw [List.length_append, h.few]
    show _ + 2 = _
    omega
  · rcases List.mem_append.mp hx with z | z
    · exact List.mem_append_left _ (h.cin x z)
    · rw [List.mem_singleton.mp z]
      exact List.mem_append_left _ hr
/-- a cut makes two parts or none -/
theorem split_two {room u F : List Nat} (h4 : room.length = 4) (hu : CutR u F) : (u = [] ∧ splitL room u = [room]) ∨ ∃ p0 p1, splitL room u = [p0, p1] := by
  rcases hu with rfl | ⟨g, x, y, rfl, _⟩
  · exact .inl ⟨rfl, splitL_none room⟩
  · obtain ⟨n, e, s, w, rfl⟩ := room4 h4
    right
    unfold splitL
    dsimp only
    split
    · exact ⟨_, _, rfl⟩
    · exact ⟨_, _, rfl⟩
/-- the steps are to rooms that stand, with cutters of the book -/
def Valid (cut : List Nat → Nat → List Nat) (C : List Nat) : Tr → List (List Nat × Nat) → Prop
  | _, [] => True
  | t, s :: r => lk t.stand s.1 ≠ none ∧ s.2 ∈ C ∧ Valid cut C (t.step cut s) r
theorem Tr.lk_rooms {F : List Nat} {t : Tr} (h : t.Ok F) {a room : List Nat} (hs : lk t.stand a = some room) : lk t.rooms a = some room := lk_of h.nd (Tr.stand_sub (lk_some hs)).1
theorem Tr.step_cases {F : List Nat} {t : Tr} (h : t.Ok F) {cut : List Nat → Nat → List Nat} (hcut : ∀ r c, CutR (cut r c) F) {a room : List Nat} {c : Nat} (hs : lk t.stand a = some room) :
    (splitL room (cut room c) = [room] ∧ t.step cut (a, c) = t) ∨ ∃ p0 p1, splitL room (cut room c) = [p0, p1] ∧ t.step cut (a, c) = t.cutAt a p0 p1 room c ∧ (t.cutAt a p0 p1 room c).Ok F := by
  have hr := Tr.lk_rooms h hs
  have hf := h.form _ (lk_some hr)
  have e1 : t.step cut (a, c) = (match splitL room (cut room c) with
    | [p0, p1] => t.cutAt a p0 p1 room c
    | _ => t) := by
    show (match lk t.rooms a with
      | none => t
      | some room => match splitL room (cut room c) with
        | [p0, p1] => t.cutAt a p0 p1 room c
        | _ => t) = _
    rw [hr]
  rcases split_two hf.1 (hcut room c) with ⟨_, e⟩ | ⟨p0, p1, e⟩
  · exact .inl ⟨e, by rw [e1, e]⟩
  · have hin := splitL_in hf.1 hf.2 (hcut room c)
    rw [e] at hin
    exact .inr ⟨p0, p1, e, by rw [e1, e], Tr.cut_ok h (lk_some hs) (hin p0 (by simp)) (hin p1 (by simp))⟩
theorem Tr.step_ok {F : List Nat} {t : Tr} (h : t.Ok F) {cut : List Nat → Nat → List Nat} (hcut : ∀ r c, CutR (cut r c) F) {s : List Nat × Nat} (hs : lk t.stand s.1 ≠ none) : (t.step cut s).Ok F ∧ (t.step cut s).cuts.length ≤ t.cuts.length + 1 := by
  cases e : lk t.stand s.1 with
  | none => exact absurd e hs
  | some room =>
    rcases Tr.step_cases h hcut (c := s.2) e with ⟨_, e2⟩ | ⟨p0, p1, _, e2, ok⟩
    · have : t.step cut s = t := e2
      rw [this]
      exact ⟨h, Nat.le_succ _⟩
    · have : t.step cut s = t.cutAt s.1 p0 p1 room s.2 := e2
      rw [this]
      exact ⟨ok, by simp [Tr.cutAt]⟩
abbrev s_check_room : Stmt := topS 33
theorem sc_check_room : FnScope ["book", "room"] ["book", "room"] (defScope s_check_room) := ⟨rfl, rfl, rfl, by decide +kernel, rfl, by decide +kernel, by decide +kernel⟩
def sp_check_room (K : PySem.W.Frag) (CB : Addr) : Sp := fun vs H Q _ => ∃ (x : Addr) (F C : List Nat) (ls : List LineV) (room : List Nat), vs = [.ref x, .str (S room)] ∧ BookAt K CB H x F C ls ∧ room.length = 4 ∧ (∀ y ∈ room, y ∈ F) ∧ ∀ H', Same H H' → Q .non H'
theorem bRoom_ok {room F : List Nat} (h4 : room.length = 4) (hf : ∀ y ∈ room, y ∈ F) : bRoom (.str (S room)) (S F) = true := by
  unfold bRoom
  rw [bString_yes hf, show decide ((strOf (V.str (S room))).cps.size = 4) = true from decide_eq_true h4]
  rfl
theorem ok_check_room {f CB : Addr} {fd : FuncData} (F : Fun K "check_room" "check_room" s_check_room f fd) (BC : BookC K CB) (c_is_room : Cal P w K mg base CX0 2 "is_room" s_is_room ["value", "faces"] (sp_is_room K)) : FnOk P w K mg base CX0 3 f fd ["book", "room"] (sp_check_room K CB) := by
  refine F.ok sc_check_room (fun vs H Q E h => ?_) (fun cdv A outer s H vs Q E hr h => ?_)
  · obtain ⟨x, F, C, ls, room, rfl, _⟩ := h
    rfl
  obtain ⟨x, fs, cs, ls, room, rfl, hB, hr4, hrf, q⟩ := h
  refine ⟨_, (pss_one (ps_if (pt_not (pt_val (pe_c c_is_room hr (by decide) (by rfl) (pa_cons (pv 1) (pa_cons (pe_fld (pv 0) rfl) pa_nil))))) pss_never pss_nil)), ?_⟩
  obtain ⟨dx, tl, hx, ht⟩ := hB.at_
  refine ⟨_, rfl, _, rfl, x, CB, dx, _, _, rfl, hx, BC.c, BC.nf, rfl, .str (S room), S fs, rfl, .inl ⟨rfl, (show room.length ≤ 100000 by omega)⟩, fun H1 s1 => ⟨_, rfl, ?_⟩⟩
  rw [bRoom_ok hr4 hrf]
  exact iteF (q _ s1)
end
end FW
namespace FW
open PySem PySem.Spec PyProof.Rows L2
-- more
section
variable {P : Program} {w : World} {K : PySem.W.Frag} {mg : Str → Option Value} {base : Heap}
/-- a list or a tuple -/
def Sq (K : PySem.W.Frag) (H : Hp) (v : V) (xs : List V) : Prop := (∃ a, v = .ref a ∧ SqL K H a xs) ∨ ∃ a, v = .ref a ∧ SqT K H a xs
theorem Sq.same {H H' : Hp} {v : V} {xs : List V} (h : Sq K H v xs) (s : Same H H') : Sq K H' v xs := by
  rcases h with ⟨a, e, h⟩ | ⟨a, e, h⟩
  · exact .inl ⟨a, e, s.seq h⟩
  · exact .inr ⟨a, e, s.tup h⟩
abbrev Stp : Type := List Nat × Nat
/-- the steps as they stand -/
def StepsAt (K : PySem.W.Frag) (H : Hp) (ts : List Addr) (ss : List Stp) : Prop := ts.length = ss.length ∧ ∀ (i : Nat) (t : Addr) (s : Stp), ts[i]? = some t → ss[i]? = some s → SqT K H t [.str (S s.1), .str (S [s.2])]
theorem StepsAt.same {H H' : Hp} {ts : List Addr} {ss : List Stp} (h : StepsAt K H ts ss) (s : Same H H') : StepsAt K H' ts ss := ⟨h.1, fun i t x h1 h2 => s.tup (h.2 i t x h1 h2)⟩
/-- the dict of the cuts -/
def CutsAt (H : Hp) (c : Addr) (cs : List (List Nat × List Nat × Nat)) : Prop := ∃ us : List Addr, us.length = cs.length ∧ H c = some (.dK ((cs.zip us).map fun q => ((Sum.inr (S q.1.1) : Key), V.ref q.2))) ∧ ∀ q ∈ cs.zip us, H q.2 = some (.tup [.str (S q.1.2.1), .str (S [q.1.2.2])])
theorem Valid.run {cut : List Nat → Nat → List Nat} {C F : List Nat} (hcut : ∀ r c, CutR (cut r c) F) : ∀ {ss : List Stp} {t : Tr}, t.Ok F → Valid cut C t ss → ∀ i, i ≤ ss.length → (Tr.run cut t (ss.take i)).Ok F ∧ Valid cut C (Tr.run cut t (ss.take i)) (ss.drop i) ∧ (Tr.run cut t (ss.take i)).cuts.length ≤ t.cuts.length + i
  | [], t, h, v, i, hi => by
    have : i = 0 := by simpa using hi
    subst this
    exact ⟨h, v, Nat.le_refl _⟩
  | s :: ss, t, h, v, 0, _ => ⟨h, v, Nat.le_refl _⟩
  | s :: ss, t, h, v, i + 1, hi => by
    obtain ⟨ok, hl⟩ := Tr.step_ok h hcut v.1
    obtain ⟨a, b, c⟩ := Valid.run hcut ok v.2.2 i (by simpa using hi)
    exact ⟨a, b, by
      have c' : (Tr.run cut t ((s :: ss).take (i + 1))).cuts.length ≤ (t.step cut s).cuts.length + i := c
      omega⟩
theorem run_snoc {cut : List Nat → Nat → List Nat} {t : Tr} {ss : List Stp} {i : Nat} {s : Stp} (h : ss[i]? = some s) : Tr.run cut t (ss.take (i + 1)) = (Tr.run cut t (ss.take i)).step cut s := by
  unfold Tr.run
  rw [List.take_add_one, h, List.foldl_append]
  rfl
theorem cuts_put {H : Hp} {c : Addr} {t : Tr} {a : List Nat} {v : V} (hc : t.isCut a = false) {us : List Addr} : putK ((t.cuts.zip us).map fun q => ((Sum.inr (S q.1.1) : Key), V.ref q.2)) (.inr (S a)) v = ((t.cuts.zip us).map fun q => ((Sum.inr (S q.1.1) : Key), V.ref q.2)) ++ [(.inr (S a), v)] := by
  refine putK_new _ ?_
  unfold valV
  rw [List.find?_eq_none.mpr]
  · rfl
  · intro x hx e
    obtain ⟨y, hy, rfl⟩ := List.mem_map.mp hx
    have e1 : y.1.1 = a := inr_S.mp (of_decide_eq_true e)
    have hm := (List.of_mem_zip (a := y.1) (b := y.2) hy).1
    unfold Tr.isCut at hc
    have := List.any_eq_false.mp hc _ hm
    exact this (decide_eq_true e1)
theorem CutsAt.put {H H' : Hp} {c tu : Addr} {t : Tr} {a p0 p1 room : List Nat} {x : Nat} (h : CutsAt H c t.cuts) (hc : t.isCut a = false) (keep : ∀ b o, H b = some o → b ≠ c → (∀ kvs, o ≠ .dK kvs) → H' b = some o)
    (ht : H' tu = some (.tup [.str (S room), .str (S [x])])) (hH : ∀ kvs, H c = some (.dK kvs) → H' c = some (.dK (putK kvs (.inr (S a)) (.ref tu)))) : CutsAt H' c (t.cutAt a p0 p1 room x).cuts := by
  obtain ⟨us, hl, h1, h2⟩ := h
  have ez : (t.cuts ++ [(a, room, x)]).zip (us ++ [tu]) = t.cuts.zip us ++ [((a, room, x), tu)] := by
    rw [List.zip_append hl.symm]
    rfl
  refine ⟨us ++ [tu], by simp [Tr.cutAt, hl], ?_, ?_⟩
  · rw [hH _ h1, cuts_put (H := H) (c := c) hc]
    show some (HO.dK _) = some (HO.dK ((((t.cuts ++ [(a, room, x)]).zip (us ++ [tu])).map _)))
    rw [ez, List.map_append]
    rfl
  · intro q hq
    have hq' : q ∈ (t.cuts ++ [(a, room, x)]).zip (us ++ [tu]) := hq
    rw [ez] at hq'
    rcases List.mem_append.mp hq' with e | e
    · exact keep _ _ (h2 q e) (fun z => by
        have := h2 q e
        rw [z, h1] at this
        cases this) (fun _ z => by cases z)
    · rw [List.mem_singleton.mp e]
      exact ht
end
end FW
namespace FW
open PySem PySem.Spec PyProof.Rows L2
-- more
section
variable {P : Program} {w : World} {K : PySem.W.Frag} {mg : Str → Option Value} {base : Heap}
/-! the rooms that stand, ascending -/
def Asc (l m : List AR) : Prop := l.Perm m ∧ l.Pairwise (fun x y => x.1 < y.1)
theorem asc_uniq {l l' m : List AR} (h : Asc l m) (h' : Asc l' m) : l = l' :=
  List.Perm.eq_of_pairwise (le := fun x y : AR => x.1 < y.1) (fun a b _ _ h1 h2 => absurd (List.lt_trans h1 h2) (List.lt_irrefl _)) h.2 h'.2 (h.1.trans h'.1.symm)
theorem strict_of {l : List AR} (h : l.Pairwise (fun x y => ¬ y.1 < x.1)) (nd : (l.map (·.1)).Nodup) : l.Pairwise (fun x y => x.1 < y.1) := by
  have h2 : l.Pairwise (fun x y => x.1 ≠ y.1) := List.pairwise_map.mp nd
  exact (h.and h2).imp fun ⟨a, b⟩ => (lt_or a).elim id fun e => absurd e.symm b
/-- what pair of texts stands there -/
noncomputable def prS (H : Hp) (v : V) : AR := by
  classical
  exact if h : ∃ q : Addr × AR, v = .ref q.1 ∧ H q.1 = some (.tup [.str (S q.2.1), .str (S q.2.2)]) then h.choose.2 else ([], [])
theorem prS_eq {H : Hp} {t : Addr} {r : AR} (h : H t = some (.tup [.str (S r.1), .str (S r.2)])) : prS H (.ref t) = r := by
  classical
  unfold prS
  have hx : ∃ q : Addr × AR, V.ref t = .ref q.1 ∧ H q.1 = some (.tup [.str (S q.2.1), .str (S q.2.2)]) := ⟨(t, r), rfl, h⟩
  rw [dif_pos hx]
  obtain ⟨e1, e2⟩ := hx.choose_spec
  generalize hx.choose = q at e1 e2
  have e3 : t = q.1 := V.ref.inj e1
  rw [← e3, h] at e2
  have e4 := HO.tup.inj (Option.some.inj e2)
  have a1 : S r.1 = S q.2.1 := V.str.inj (List.cons.inj e4).1
  have a2 : S r.2 = S q.2.2 := V.str.inj (List.cons.inj (List.cons.inj e4).2).1
  exact Prod.ext (S_inj a1).symm (S_inj a2).symm
def adr : V → Addr
  | .ref a => a
  | _ => 0
/-- pairs of texts as they stand -/
def PairsAt (H : Hp) (qs : List (Addr × AR)) : Prop := ∀ q ∈ qs, H q.1 = some (.tup [.str (S q.2.1), .str (S q.2.2)])
theorem PairsAt.same {H H' : Hp} {qs : List (Addr × AR)} (h : PairsAt H qs) (s : Same H H') : PairsAt H' qs := fun q hq => s _ _ (h q hq)
theorem paired_map {H : Hp} : ∀ {ts : List Addr} {l : List AR}, Paired (fun (t : Addr) (q : Key × V) => H t = some (.tup [kV q.1, q.2])) ts (kvR l) → (ts.map V.ref).map (prS H) = l ∧ ∀ t ∈ ts, ∃ r ∈ l, H t = some (.tup [.str (S r.1), .str (S r.2)])
  | [], [], _ => ⟨rfl, fun _ h => by cases h⟩
  | [], r :: l, h => by cases h
  | t :: ts, [], h => by cases h
  | t :: ts, r :: l, h => by
    cases h with
    | cons h1 h2 =>
      obtain ⟨e, q⟩ := paired_map (l := l) h2
      have h1' : H t = some (.tup [.str (S r.1), .str (S r.2)]) := h1
      refine ⟨?_, fun t' ht => ?_⟩
      · rw [List.map_cons, List.map_cons, prS_eq h1', e]
      · rcases List.mem_cons.mp ht with rfl | ht
        · exact ⟨r, List.mem_cons_self, h1'⟩
        · obtain ⟨r', a, b⟩ := q t' ht
          exact ⟨r', List.mem_cons_of_mem _ a, b⟩
theorem sorted_stand {H : Hp} {ts : List Addr} {l : List AR} {ys : List V} (hp : Paired (fun (t : Addr) (q : Key × V) => H t = some (.tup [kV q.1, q.2])) ts (kvR l)) (nd : (l.map (·.1)).Nodup) (hs : ys.Pairwise (fun x y => lexS (S (prS H y).1, S (prS H y).2) (S (prS H x).1, S (prS H x).2) = false)) (pm : ys.Perm (ts.map V.ref)) :
    ∃ qs : List (Addr × AR), ys = qs.map (fun q => V.ref q.1) ∧ PairsAt H qs ∧ Asc (qs.map (·.2)) l := by
  obtain ⟨e, hts⟩ := paired_map hp
  have hy : ∀ v ∈ ys, ∃ t, v = .ref t ∧ ∃ r ∈ l, H t = some (.tup [.str (S r.1), .str (S r.2)]) := fun v hv => by
    obtain ⟨t, ht, rfl⟩ := List.mem_map.mp (pm.mem_iff.mp hv)
    exact ⟨t, rfl, hts t ht⟩
  refine ⟨ys.map fun v => (adr v, prS H v), ?_, ?_, ?_, ?_⟩
  · rw [List.map_map]
    have : ys.map id = ys.map ((fun q : Addr × AR => V.ref q.1) ∘ fun v => (adr v, prS H v)) := List.map_congr_left fun v hv => by
      obtain ⟨t, rfl, _⟩ := hy v hv
      rfl
    rw [← this, List.map_id]
  · intro q hq
    obtain ⟨v, hv, rfl⟩ := List.mem_map.mp hq
    obtain ⟨t, rfl, r, _, h⟩ := hy v hv
    show H t = some (.tup [.str (S (prS H (.ref t)).1), .str (S (prS H (.ref t)).2)])
    rw [prS_eq h, h]
  · rw [List.map_map]
    have := pm.map (prS H)
    rw [e] at this
    exact this
  · have pm2 : (ys.map (prS H)).Perm l := by
      have := pm.map (prS H)
      rwa [e] at this
    have e2 : (ys.map fun v => (adr v, prS H v)).map (·.2) = ys.map (prS H) := by rw [List.map_map]; rfl
    rw [e2]
    refine strict_of (List.pairwise_map.mpr (hs.imp fun {a b} h => ?_)) ((pm2.map (·.1)).nodup_iff.mpr nd)
    have := lexS_no.mp h
    exact fun z => this (.inl z)
theorem sortedS_pw : ∀ {ys : List Str}, PyProof.Rows.sortedS ys = true → ys.Pairwise (fun x y => ¬ cl y < cl x)
  | [], _ => .nil
  | [_], _ => List.pairwise_singleton _ _
  | x :: y :: r, h => by
    have h' : (!ltCps (cl y) (cl x) && PyProof.Rows.sortedS (y :: r)) = true := h
    simp only [Bool.and_eq_true, Bool.not_eq_true'] at h'
    have h1 : ¬ cl y < cl x := by
      have := h'.1
      rw [PyProof.Rows.ltCps_eq] at this
      exact of_decide_eq_false this
    have ih := sortedS_pw (ys := y :: r) h'.2
    refine .cons (fun z hz => ?_) ih
    rcases List.mem_cons.mp hz with rfl | hz
    · exact h1
    · have h2 : ¬ cl z < cl y := List.rel_of_pairwise_cons ih hz
      intro q
      rcases lt_or h1 with a | a
      · exact h2 (List.lt_trans q a)
      · rw [← a] at q
        exact h2 q
/-- sorted keys, and what stands of them -/
theorem keys_sorted {T : Tr} {F : List Nat} (ok : T.Ok F) {ys : List Str} (pm : ys.Perm (T.rooms.map fun r => S r.1)) (hs : PyProof.Rows.sortedS ys = true) :
    ∃ as : List (List Nat), ys = as.map S ∧ (∀ a ∈ as, ∃ r, lk T.rooms a = some r) ∧ Asc ((as.filter fun a => !T.isCut a).map fun a => (a, (lk T.rooms a).getD [])) T.stand := by
  have e0 : ys = (ys.map cl).map S := by
    rw [List.map_map]
    have : ys.map id = ys.map (S ∘ cl) := List.map_congr_left fun y _ => (S_tl y).symm
    rw [← this, List.map_id]
  have pm1 : (ys.map cl).Perm (T.rooms.map (·.1)) := by
    have := pm.map cl
    rw [List.map_map] at this
    exact this
  refine ⟨ys.map cl, e0, fun a ha => ?_, ?_, ?_⟩
  · obtain ⟨r, hr, rfl⟩ := List.mem_map.mp (pm1.mem_iff.mp ha)
    exact ⟨r.2, lk_of ok.nd hr⟩
  · have p2 := (pm1.filter fun a => !T.isCut a).map fun a => (a, (lk T.rooms a).getD [])
    refine p2.trans (List.Perm.of_eq ?_)
    unfold Tr.stand
    rw [List.filter_map, List.map_map]
    have : (T.rooms.filter fun r => !T.isCut r.1).map id = (T.rooms.filter ((fun a => !T.isCut a) ∘ fun r : AR => r.1)).map ((fun a => (a, (lk T.rooms a).getD [])) ∘ fun r : AR => r.1) := List.map_congr_left fun r hr => by
      have hr' := (List.mem_filter.mp hr).1
      show r = (r.1, (lk T.rooms r.1).getD [])
      rw [lk_of (r := r.2) ok.nd hr']
      rfl
    rw [← this, List.map_id]
  · refine strict_of (List.pairwise_map.mpr ?_) ?_
    · exact ((List.pairwise_map.mpr (sortedS_pw hs)).sublist (List.filter_sublist ..))
    · rw [List.map_map]
      have e : ((ys.map cl).filter fun a => !T.isCut a).map ((fun r : AR => r.1) ∘ fun a => (a, (lk T.rooms a).getD [])) = (ys.map cl).filter fun a => !T.isCut a := by
        have : ((ys.map cl).filter fun a => !T.isCut a).map id = ((ys.map cl).filter fun a => !T.isCut a).map ((fun r : AR => r.1) ∘ fun a => (a, (lk T.rooms a).getD [])) := List.map_congr_left fun a _ => rfl
        rw [← this, List.map_id]
      rw [e]
      exact (pm1.nodup_iff.mpr ok.nd).sublist (List.filter_sublist ..)
end
end FW
namespace FW
open PySem PySem.Spec PyProof.Rows L2
-- more
section
variable {P : Program} {w : World} {K : PySem.W.Frag} {mg : Str → Option Value} {base : Heap}
theorem none_same {H H' : Hp} {p : Addr} (s : Same H H') (e : H' p = none) : H p = none := by
  cases z : H p with
  | none => rfl
  | some o =>
    rw [s _ _ z] at e
    cases e
end
end FW
namespace FW
open PySem PySem.Spec PyProof.Rows L2
/-! ### a lambda as a thing of the heap; with defaults or without -/
/-- its names, cells and code object; what it answers; its defaults' tuple -/
structure LF where
  F : NdefX.NF
  e : Expr
  dV : Value
abbrev LF.fd (l : LF) (doc pm ctv : Value) : FuncData := PySem.W.kdv_fn l.F.name l.F.qual l.F.params (.expr l.e) l.F.scope l.F.cl l.dV doc pm (.ref l.F.c) ctv
abbrev LF.ob (l : LF) (doc pm ctv : Value) : Obj := { cls := .type "function", data := .func (l.fd doc pm ctv) }
def LamO (f : Addr) (l : LF) : HO := .ext fun h => ∃ doc pm ctv : Value, h.get? f = some (l.ob doc pm ctv)
theorem lamO_ne {f : Addr} {l : LF} (ps : Array Value) : LamO f l ≠ .tbl ps := by
  intro z
  unfold LamO at z
  cases z
theorem lamO_at {P : Program} {w : World} {H : Hp} {h : Heap} {f : Addr} {l : LF} (ok : HOk P w H h) (e : H f = some (LamO f l)) : ∃ doc pm ctv : Value, h.get? f = some (l.ob doc pm ctv) := (ok f _ e).1
/-- the lambda l stands at f, its code object too, its defaults are dvs -/
structure LamAt (H : Hp) (f : Addr) (l : LF) (dvs : List V) : Prop where
  fn : H f = some (LamO f l)
  co : H l.F.c = some (LamX.CodeO l.F.c l.F.qual)
  df : (dvs = [] ∧ l.dV = .none) ∨ (dvs ≠ [] ∧ ∃ T, l.dV = .ref T ∧ H T = some (.tup dvs))
theorem LamAt.ext {H H' : Hp} {f : Addr} {l : LF} {dvs : List V} (a : LamAt H f l dvs) (e : LamX.ExtN H H') : LamAt H' f l dvs :=
  ⟨e _ _ a.fn lamO_ne, e _ _ a.co LamX.codeO_ne, a.df.imp id fun ⟨n, T, h1, h2⟩ => ⟨n, T, h1, e _ _ h2 (fun _ z => by cases z)⟩⟩
theorem LamAt.same {H H' : Hp} {f : Addr} {l : LF} {dvs : List V} (a : LamAt H f l dvs) (e : Same H H') : LamAt H' f l dvs := a.ext fun b o h _ => e b o h
section
variable {X : Cx} {pins : List (Addr × Obj)} {σ : L2.St} {H : Hp} {s : Shared}
theorem inv_lam {l : LF} {t' : Nat} {doc pm ctv : Value} (I : Inv X pins σ H s) : Inv X pins σ (upd H s.heap.objs.size (LamO s.heap.objs.size l)) { s with heap := s.heap.push (l.ob doc pm ctv), toks := t' } := by
  have e : (s.heap.push (l.ob doc pm ctv)).get? s.heap.objs.size = some (l.ob doc pm ctv) := Heap.get?_push_size _ rfl
  exact I.laid (a := s.heap.objs.size) (fun _ _ q => Heap.get?_push_of_some _ q) (Nat.le_refl _) ⟨⟨doc, pm, ctv, e⟩, ⟨_, e⟩, fun h1 h2 ⟨d, p, t, z⟩ st => ⟨d, p, t, st _ z⟩⟩
/-- a lambda's object is made; its code object is new, or stands in the table -/
theorem lamD_make {T : List (Addr × Str)} {c P : Addr} {params : Arguments} {body : Expr} {scope : Scope} {pos : Pos} {dV : Value} {E Q : Value → Shared → Prop} (I : Inv X pins σ H s) (TB : LamX.TabB X.base X.mg c P)
    (hcode : X.env.code = .ref c) (hm : (P, X.env.qual ++ "<lambda>") ∈ T) (hu : ∀ p ∈ T, p.1 = P → p.2 = X.env.qual ++ "<lambda>")
    (hT : LamX.Tabs T H) (hfree : ∀ y ∈ scope.names, y.2 = .free → ∃ c, X.env.cells.lookup y.1 = some c)
    (h : ∀ (f c' : Addr) (H1 : Hp) (s' : Shared), Inv X pins σ H1 s' → LamX.ExtN H H1 → LamX.Tabs T H1 → H f = none →
      H1 f = some (LamO f ⟨⟨"<lambda>", X.env.qual ++ "<lambda>", params, [], scope, cloFrom X.env.cells scope.names [], c'⟩, body, dV⟩) → H1 c' = some (LamX.CodeO c' (X.env.qual ++ "<lambda>")) → Q (.ref f) s') :
    wpAny (model X.prog X.w) X.A (makeTail "<lambda>" (X.env.qual ++ "<lambda>") params (.expr body) scope X.env dV .none none pos pos.line) Q E s := by
  obtain ⟨ps, atP, tri, among⟩ := (show LamX.TabS H P (X.env.qual ++ "<lambda>") from hT _ hm)
  have bP := TB.bm.keeps I.bk
  have obP : s.heap.get? P = some { cls := .none, data := .fields ps } := I.hok P _ atP
  have tabStep : ∀ {H1 : Hp} {f : Addr} {l : LF}, LamX.Tabs T H1 → H1 f = none → LamX.Tabs T (upd H1 f (LamO f l)) := fun t n => t.ext fun b o e => by rw [upd_ne (ne_of_none e n)]; exact e
  have extStep : ∀ {H1 : Hp} {f : Addr} {l : LF}, LamX.ExtN H H1 → H1 f = none → LamX.ExtN H (upd H1 f (LamO f l)) := fun t n b o e q => by
    have z := t b o e q
    rw [upd_ne (ne_of_none z n)]
    exact z
  cases hc : codeAmong pos ps.toList with
  | some cv =>
    obtain ⟨c', rfl, hco⟩ := among pos cv hc
    refine PySem.W.kdv_makeTailHit (mg := X.mg) (c := c) (P := P) (ps := ps) (closure_ok hfree) I.ok.glob (I.mod.glob.keeps I.bk) hcode (TB.code.keeps I.bk) obP tri hc bP fun ctv doc h' tk hx hsz => ?_
    have I1 : Inv X pins σ H { s with heap := h', toks := tk } := I.kept hx
    have nF : H h'.objs.size = none := I1.hok.fresh (Nat.le_refl _)
    refine h h'.objs.size c' _ _ (inv_lam (t' := tk) I1) (extStep (LamX.ExtN.refl H) nF) (tabStep hT nF) nF upd_same ?_
    rw [upd_ne (ne_of_none hco nF)]
    exact hco
  | none =>
    refine PySem.W.kdv_makeTail (mg := X.mg) (c := c) (P := P) (ps := ps) (closure_ok hfree) I.ok.glob (I.mod.glob.keeps I.bk) hcode (TB.code.keeps I.bk) obP tri hc TB.gP bP fun c' ctv doc h' tk hx hge hlt hrec htb => ?_
    obtain ⟨c2, oc, vs, t, e2, hoc, hd, hv⟩ := hrec
    cases e2
    have nC : H c' = none := I.hok.fresh hge
    have I1 := LamX.inv_table (t' := tk) (more := #[rawInt pos.line, rawInt pos.col, .ref c']) I atP hx htb hge ⟨oc, vs, t, hoc, hd, hv⟩
    generalize hH1 : upd (upd H P (.tbl (ps ++ #[rawInt pos.line, rawInt pos.col, .ref c']))) c' (LamX.CodeO c' (X.env.qual ++ "<lambda>")) = H1 at I1
    have at1 : H1 c' = some (LamX.CodeO c' (X.env.qual ++ "<lambda>")) := by
      rw [← hH1]
      exact upd_same
    have hE : LamX.ExtN H H1 := fun b o e n => by
      rw [← hH1, upd_ne (ne_of_none e nC), upd_ne (fun z => n ps (by rw [z, atP] at e; exact (Option.some.inj e).symm))]
      exact e
    have T1 : LamX.Tabs T H1 := by
      intro p hp
      by_cases hb : p.1 = P
      · rw [hu p hp hb, hb]
        refine ⟨ps ++ #[rawInt pos.line, rawInt pos.col, .ref c'], ?_, ?_, fun p' cv hcv => ?_⟩
        · rw [← hH1, upd_ne (ne_of_none atP nC), upd_same]
        · rw [Array.toList_append]
          exact PySem.TriplesOk_snoc _ _ _ _ tri
        · rw [Array.toList_append] at hcv
          rcases LamX.among_app _ tri hcv with z | z
          · obtain ⟨c0, e1, e2⟩ := among p' cv z
            exact ⟨c0, e1, hE _ _ e2 LamX.codeO_ne⟩
          · exact ⟨c', z, at1⟩
      · obtain ⟨ps', a1, a2, a3⟩ := hT p hp
        refine ⟨ps', ?_, a2, fun p' cv hcv => ?_⟩
        · rw [← hH1, upd_ne (ne_of_none a1 nC), upd_ne hb]
          exact a1
        · obtain ⟨c0, e1, e2⟩ := a3 p' cv hcv
          exact ⟨c0, e1, hE _ _ e2 LamX.codeO_ne⟩
    have nF : H1 h'.objs.size = none := I1.hok.fresh (Nat.le_refl _)
    refine h h'.objs.size c' _ _ (inv_lam (t' := tk) I1) (extStep hE nF) (tabStep T1 nF) (I.hok.fresh (Nat.le_trans hge (Nat.le_of_lt hlt))) upd_same ?_
    rw [upd_ne (ne_of_none at1 nF)]
    exact at1
end
/-- the reading of a lambda as a value -/
def tLamV (T : List (Addr × Str)) (mk : Addr → Value → LF) (dvs : List V) : TE := fun σ H Q => LamX.Tabs T H ∧ ∀ (f c' : Addr) (dV : Value) (H1 : Hp), LamX.ExtN H H1 → LamX.Tabs T H1 → H f = none → LamAt H1 f (mk c' dV) dvs → Q (.ref f) H1
abbrev lamF (X : Cx) (params : Arguments) (body : Expr) (scope : Scope) (c' : Addr) (dV : Value) : LF := ⟨⟨"<lambda>", X.env.qual ++ "<lambda>", params, [], scope, cloFrom X.env.cells scope.names [], c'⟩, body, dV⟩
def lamFree (sc scope : Scope) : Bool := scope.names.all fun y => !decide (y.2 = .free) || decide (sc.names.lookup y.1 = some .cell) || decide (sc.names.lookup y.1 = some .free)
theorem lam_free {X : Cx} {scope : Scope} (h : lamFree X.env.scope scope = true) (ok : X.Ok) : ∀ y ∈ scope.names, y.2 = .free → ∃ c, X.env.cells.lookup y.1 = some c := by
  unfold lamFree at h
  rw [List.all_eq_true] at h
  intro y hy e
  have z := h y hy
  simp only [e, decide_true, Bool.not_true, Bool.false_or, Bool.or_eq_true, decide_eq_true_eq] at z
  exact ok.has _ z
section
variable {X : Cx}
/-- lambda: body -/
theorem pe_lam0 {T : List (Addr × Str)} {c P : Addr} {params : Arguments} {body : Expr} {scope : Scope} {pos : Pos} (TB : LamX.TabB X.base X.mg c P) (hcode : X.env.code = .ref c) (hm : (P, X.env.qual ++ "<lambda>") ∈ T)
    (hu : ∀ p ∈ T, p.1 = P → p.2 = X.env.qual ++ "<lambda>") (hdef : defaultsOf params X.env = ([], [])) (hfree : lamFree X.env.scope scope = true) :
    PE X (.Lambda params body scope pos) (tLamV T (lamF X params body scope) []) := by
  refine ⟨fun pins s σ H Q I h => ?_⟩
  obtain ⟨hT, h⟩ := h
  refine PySem.W.kla_eval hdef ?_
  rw [makeFunction_eq]
  simp only [List.zip_nil_right, List.filterMap_nil, List.isEmpty_nil, if_true, pure_bind]
  exact lamD_make I TB hcode hm hu hT (lam_free hfree I.ok) fun f c' H1 s' I1 e1 t1 n1 f1 c1 => ⟨.ref f, H1, I1, rfl, h f c' .none H1 e1 t1 n1 ⟨f1, c1, .inl ⟨rfl, rfl⟩⟩⟩
/-- lambda name=n: body -/
theorem pe_lam1 {T : List (Addr × Str)} {c P : Addr} {params : Arguments} {body : Expr} {scope : Scope} {pos : Pos} {n : Int} {j : Nat} {dp : Pos} (TB : LamX.TabB X.base X.mg c P) (hcode : X.env.code = .ref c) (hm : (P, X.env.qual ++ "<lambda>") ∈ T)
    (hu : ∀ p ∈ T, p.1 = P → p.2 = X.env.qual ++ "<lambda>") (hd : params.defaults = [.Constant (.int n) j dp]) (hk : params.kw_defaults = []) (hfree : lamFree X.env.scope scope = true) :
    PE X (.Lambda params body scope pos) (tLamV T (lamF X params body scope) [.int n]) := by
  refine ⟨fun pins s σ H Q I h => ?_⟩
  obtain ⟨hT, h⟩ := h
  refine PySem.W.kdv_lam (by rw [hd]; rfl) hk ?_
  rw [hd]
  refine PySem.W.kdv_all1 (thn ((pe_int (X := X)).run pins s σ H (fun v H1 => v = .int n ∧ H1 = H) I ⟨rfl, rfl⟩) fun u s1 ⟨v, H1, I1, r, e1, e2⟩ => PySem.W.kdv_all0 ?_)
  subst e1
  subst e2
  rw [makeFunction_eq]
  simp only [List.zip_nil_right, List.filterMap_nil, List.isEmpty_nil, List.isEmpty_cons, if_true, pure_bind, Bool.false_eq_true, if_false]
  refine wpAny_bind (wpAny_newTextTuple ?_)
  have nT : H1 s1.heap.objs.size = none := I1.hok.fresh (Nat.le_refl _)
  have I2 : Inv X pins σ (upd H1 s1.heap.objs.size (.tup [.int n])) { s1 with heap := s1.heap.push { cls := .type "tuple", data := .seq [u].toArray }, toks := s1.toks } :=
    I1.laid (fun _ _ q => Heap.get?_push_of_some _ q) (Nat.le_refl _) ⟨sz1 (by decide), [u], .cons r .nil, ⟨_, Heap.get?_push_size _ rfl, rfl, _, rfl⟩⟩
  have ex : ∀ b o, H1 b = some o → upd H1 s1.heap.objs.size (.tup [.int n]) b = some o := fun b o q => by
    rw [upd_ne (ne_of_none q nT)]
    exact q
  refine lamD_make I2 TB hcode hm hu (hT.ext ex) (lam_free hfree I.ok) fun f c' H3 s' I3 e3 t3 n3 f3 c3 => ⟨.ref f, H3, I3, rfl, ?_⟩
  refine h f c' (.ref s1.heap.objs.size) H3 ((LamX.ExtN.of ex).trans e3) t3 ?_ ⟨f3, c3, .inr ⟨by simp, _, rfl, e3 _ _ upd_same (fun _ z => by cases z)⟩⟩
  exact NdefX.upd_none n3
end
end FW
namespace FW
open PySem PySem.Spec PyProof.Rows L2
/-! ### lambdas in a list, each called two frames below the def that made them -/
theorem mod_more {K : PySem.W.Frag} {mg : Str → Option Value} {base b2 : Heap} (m : Mod K mg base) (k : ∀ b o, base.get? b = some o → b2.get? b = some o) : Mod K mg b2 := by
  obtain ⟨m1, m2, ⟨mb, m3, m4⟩, m5⟩ := m
  exact ⟨m1.keeps k, m2.keeps k, ⟨mb, m3.keeps k, m4⟩, m5.keeps k⟩
theorem funs_more {h base b2 : Heap} : ∀ {l : List Env}, h.FunFrames base l → (∀ b ∈ frs l, b2.get? b = none) → h.FunFrames b2 l
  | [], _, _ => trivial
  | env :: r, ⟨h1, ⟨L, o, hf, hn, ho, hd⟩, h3⟩, n => by
    have e : frs (env :: r) = L :: frs r := by
      unfold frs
      rw [List.filterMap_cons, hf]
    rw [e] at n
    exact ⟨h1, ⟨L, o, hf, n L (List.mem_cons_self), ho, hd⟩, funs_more h3 fun b hb => n b (List.mem_cons_of_mem _ hb)⟩
/-- a ground that holds less -/
theorem env0_less {P : Program} {w : World} {K : PySem.W.Frag} {mg : Str → Option Value} {base b2 : Heap} {A : Around} {outer : List Env} {s : Shared} {H : Hp} (e0 : Env0 P w K mg b2 A outer s H) (m : Mod K mg base) (sub : ∀ b o, base.get? b = some o → b2.get? b = some o)
    (sz : base.objs.size ≤ b2.objs.size) : Env0 P w K mg base A outer s H := by
  refine ⟨e0.frames, m, fun b o e => e0.bs b o (sub b o e), Nat.le_trans sz e0.bsz, ?_, e0.frf, e0.hok, e0.bare⟩
  refine funs_more e0.funs fun b hb => ?_
  cases e : base.get? b with
  | none => rfl
  | some o =>
    have z := (e0.funs.mem hb).1
    rw [sub b o e] at z
    cases z
/-- the ground, with the cells of the def that runs -/
theorem ground_cells {X : Cx} {pins : List (Addr × Obj)} {σ : L2.St} {H : Hp} {s : Shared} (I : Inv X pins σ H s) (hfn : ∀ x, X.fn x = true) (hst : X.stack = X.env :: X.outer) (hf : X.env.frame = some X.env.locals) :
    ∃ b2 : Heap, (∀ b o, X.base.get? b = some o → b2.get? b = some o) ∧ X.base.objs.size ≤ b2.objs.size ∧ Env0 X.prog X.w X.K X.mg b2 X.A X.stack s H ∧ ∀ y c, X.env.cells.lookup y = some c → ∀ v, s.heap.IsCell c v → b2.IsCell c v := by
  let isC : Addr → Bool := fun b => X.env.cells.any fun p => decide (X.env.cells.lookup p.1 = some b)
  have hC1 : ∀ b, isC b = true → ∃ y, X.env.cells.lookup y = some b := fun b e => by
    obtain ⟨p, _, hp⟩ := List.any_eq_true.mp e
    exact ⟨p.1, of_decide_eq_true hp⟩
  have hC2 : ∀ y b, X.env.cells.lookup y = some b → isC b = true := fun y b e => List.any_eq_true.mpr ⟨(y, b), PySem.mem_of_lookup e, decide_eq_true e⟩
  let hid : List Addr := (List.range s.heap.objs.size).filter fun b => (X.base.get? b).isNone && !isC b
  have up : ∀ b o, X.base.get? b = some o → (PySem.W.hideAll s.heap hid).get? b = some o := fun b o e => by
    refine PySem.W.hideAll_get hid (I.bk b o e) fun hm => ?_
    have z := (List.mem_filter.mp hm).2
    rw [e] at z
    simp at z
  have dn : ∀ b o, (PySem.W.hideAll s.heap hid).get? b = some o → s.heap.get? b = some o ∧ ((∃ u, X.base.get? b = some u) ∨ ∃ y, X.env.cells.lookup y = some b) := fun b o e => by
    have e1 := PySem.W.of_hideAll hid e
    refine ⟨e1, ?_⟩
    cases q : X.base.get? b with
    | some u => exact .inl ⟨u, rfl⟩
    | none =>
      cases q2 : isC b with
      | true => exact .inr (hC1 b q2)
      | false =>
        have hm : b ∈ hid := List.mem_filter.mpr ⟨List.mem_range.mpr (Heap.lt_size e1), by rw [q, q2]; rfl⟩
        have z := PySem.W.hideAll_none hid (h := s.heap) hm
        rw [e] at z
        cases z
  have sz : (PySem.W.hideAll s.heap hid).objs.size = s.heap.objs.size := PySem.W.hideAll_size hid s.heap
  have e0 := I.env0
  refine ⟨PySem.W.hideAll s.heap hid, up, by rw [sz]; exact e0.bsz, ⟨e0.frames, mod_more e0.mod up, fun b o e => ?_, Nat.le_of_eq sz, ?_, e0.frf, e0.hok, e0.bare⟩, fun y c e v ⟨o, ho, hd⟩ => ?_⟩
  · obtain ⟨e1, z⟩ := dn b o e
    refine ⟨e1, ?_⟩
    rcases z with ⟨u, z⟩ | ⟨y, z⟩
    · exact (e0.bs b u z).2
    · exact I.freeC y b z
  · refine funs_more e0.funs fun b hb => ?_
    cases q : (PySem.W.hideAll s.heap hid).get? b with
    | none => rfl
    | some o =>
      exfalso
      rcases (dn b o q).2 with ⟨u, z⟩ | ⟨y, z⟩
      · have z2 := (e0.funs.mem hb).1
        rw [z] at z2
        cases z2
      · rcases List.mem_cons.mp (I.stkSub b hb) with e | e
        · exact I.cne y b z e
        · obtain ⟨_, o2, ho2, _⟩ := I.ok.funs.mem e
          exact absurd (Nat.lt_of_lt_of_le (Heap.lt_size ho2) (I.ok.cab y b (hfn y) z)) (Nat.lt_irrefl _)
  · refine ⟨o, PySem.W.hideAll_get hid ho fun hm => ?_, hd⟩
    have z := (List.mem_filter.mp hm).2
    rw [hC2 y c e] at z
    simp at z
/-- what the cells hold, told of the ground -/
abbrev CellsIn (cl : List (Str × Addr)) (fr : List Str) (ws : List (Option V)) (g : Heap) : Prop := NdefX.CellsAt cl fr ws g fun _ => none
theorem cells_in {X : Cx} {b2 : Heap} {H : Hp} {s : Shared} {cl : List (Str × Addr)} {fr : List Str} {ws : List (Option V)} (C : NdefX.CellsAt cl fr ws s.heap H) (hs : ∀ y c, cl.lookup y = some c → ∃ y', X.env.cells.lookup y' = some c)
    (k : ∀ y c, X.env.cells.lookup y = some c → ∀ v, s.heap.IsCell c v → b2.IsCell c v) : CellsIn cl fr ws b2 := by
  have k2 : ∀ y c, cl.lookup y = some c → ∀ v, s.heap.IsCell c v → b2.IsCell c v := fun y c e v z => by
    obtain ⟨y', e'⟩ := hs y c e
    exact k y' c e' v z
  refine ⟨C.len, fun y c e => ?_, C.inj, fun i y e => ?_⟩
  · obtain ⟨_, v, z⟩ := C.all y c e
    exact ⟨rfl, v, k2 y c e v z⟩
  · obtain ⟨c, hc, hv⟩ := C.has i y e
    refine ⟨c, hc, fun v ev => ?_⟩
    obtain ⟨u, r, z⟩ := hv v ev
    exact ⟨u, r, k2 y c hc _ z⟩
theorem cells_out {b2 : Heap} {H : Hp} {h : Heap} {cl : List (Str × Addr)} {fr : List Str} {ws : List (Option V)} (C : CellsIn cl fr ws b2) (bs : ∀ b o, b2.get? b = some o → h.get? b = some o ∧ H b = none) : NdefX.CellsAt cl fr ws h H := by
  have k : ∀ c v, b2.IsCell c v → h.IsCell c v ∧ H c = none := fun c v ⟨o, ho, hd⟩ => ⟨⟨o, (bs c o ho).1, hd⟩, (bs c o ho).2⟩
  refine ⟨C.len, fun y c e => ?_, C.inj, fun i y e => ?_⟩
  · obtain ⟨_, v, z⟩ := C.all y c e
    exact ⟨(k c _ z).2, v, (k c _ z).1⟩
  · obtain ⟨c, hc, hv⟩ := C.has i y e
    refine ⟨c, hc, fun v ev => ?_⟩
    obtain ⟨u, r, z⟩ := hv v ev
    exact ⟨u, r, (k c _ z).1⟩
/-- what a call of the lambda does, by what its cells hold -/
def LamRun (P : Program) (w : World) (K : PySem.W.Frag) (mg : Str → Option Value) (base : Heap) (k : Nat) (l : LF) (dvs : List V) (fr : List Str) (tb : List (Option V) → XK → Hp → VK → Prop) : Prop :=
  ∀ (A : Around) (outer : List Env) (s : Shared) (H : Hp) (f : Addr) (ws : List (Option V)) (Q : VK) (E : XK), Room k A → Env0 P w K mg base A outer s H → LamAt H f l dvs → NdefX.CellsAt l.F.cl fr ws s.heap H → tb ws E H Q →
    codeAny (model P w) A (.call (.ref f) ⟨[], []⟩) (CR (L2.CX P w) outer P w H s Q E) s
/-- what its parameters are bound to -/
def LamBinds (P : Program) (w : World) (l : LF) (dvs : List V) (ps : List Str) : Prop :=
  ∀ (s : Shared) (H : Hp) (f : Addr), HOk P w H s.heap → LamAt H f l dvs → ∀ doc pm ctv : Value, ∃ us, Vals dvs us ∧ BindsTo s (l.fd doc pm ctv) ⟨[], []⟩ (ps.zip us)
theorem lam_run {P : Program} {w : World} {K : PySem.W.Frag} {mg : Str → Option Value} {base : Heap} {k : Nat} {l : LF} {dvs : List V} {N ps fr : List Str} {tb : XK → TE} (S : NdefX.NScope N ps fr l.F.scope) (hl : dvs.length = ps.length) (hb : LamBinds P w l dvs ps)
    (hbody : ∀ (A : Around) (outer : List Env) (s : Shared) (H : Hp) (E : XK) (f : Addr), Room k (A.deeper (NdefX.envF l.F f s.heap.objs.size)) → PE (NdefX.ncx (L2.CX P w) P w K mg base N l.F f A outer s H E) l.e (tb E)) :
    LamRun P w K mg base (k + 1) l dvs fr fun ws E H Q => tb E (NdefX.startF N dvs ws) H Q := by
  intro A outer s H f ws Q E hr e0 la C h
  obtain ⟨doc, pm, ctv, ho⟩ := lamO_at e0.hok la.fn
  obtain ⟨us, r, hbd⟩ := hb s H f e0.hok la doc pm ctv
  have lim : s.heap.NoLimit := e0.mod.nolimit.keeps fun b o e => (e0.bs b o e).1
  refine PySem.W.kla_callFunE hr.depth ho rfl S.co S.gen rfl (NdefX.codeO_at e0.hok la.co) ?_
  refine hbd _ _ _ _ (wpAny_newFunctionEnv S.nocell (fun ⟨n, _⟩ hy => S.par n (List.of_mem_zip hy).1) (fun h₁ hns hsb => ⟨lim.fresh _ hsb, ?_⟩) S.kind)
  show codeAny _ _ (.expr l.e (NdefX.envF l.F f s.heap.objs.size)) _ _
  have kp : ∀ b o, s.heap.get? b = some o → h₁.get? b = some o := fun b o e => hsb.extBut b o (Nat.ne_of_lt (Heap.lt_size e)) (Heap.get?_push_of_some _ e)
  have I : Inv (NdefX.ncx (L2.CX P w) P w K mg base N l.F f A outer s H E) [] (NdefX.startF N dvs ws) H { s with heap := h₁, toks := s.toks + (ps.zip us).length } := NdefX.inv_startN S hr.hd e0 hl r C hns kp
  refine PySem.W.kla_codeExpr (wpAny_mono ((hbody A outer s H E f (hr.deeper _)).run [] _ _ H Q I h) (fun v s' hq => ?_) fun e s' hq => hq)
  obtain ⟨w', H', J', rv, q⟩ := hq
  exact ⟨w', H', J'.os, J'.bare, J'.base, J'.hok, rv, q⟩
theorem binds_0 {P : Program} {w : World} {l : LF} (h : l.dV = .none → ∀ doc pm ctv : Value, bindArgs (l.fd doc pm ctv) ⟨[], []⟩ = pure []) : LamBinds P w l [] [] := fun s H f _ la doc pm ctv => by
  rcases la.df with ⟨_, e⟩ | ⟨n, _⟩
  · exact ⟨[], .nil, BindsTo.of_eq (h e doc pm ctv)⟩
  · exact absurd rfl n
theorem binds_1 {P : Program} {w : World} {l : LF} {x : V} {p : Str} (h : ∀ doc pm ctv : Value, ∃ k : Option (Array Value) → Sem (List (Str × Value)), bindArgs (l.fd doc pm ctv) ⟨[], []⟩ = seqItems? l.dV >>= k ∧ ∀ u : Value, k (some #[u]) = pure [(p, u)]) : LamBinds P w l [x] [p] := by
  intro s H f ok la doc pm ctv
  rcases la.df with ⟨z, _⟩ | ⟨_, T, e1, e2⟩
  · cases z
  · obtain ⟨_, its, r, ob, hob, _, n, hd⟩ := ok T _ e2
    cases r with
    | cons r rr =>
      cases rr
      obtain ⟨k, h1, h2⟩ := h doc pm ctv
      exact ⟨[_], .cons r .nil, BindsTo.of_defaults (T := T) (o := ob) (n := n) (k := k) e1 hob hd h1 (h2 _)⟩
section
variable {Z : Cx}
/-- a(), a a local that holds the lambda; the ground tells what its cells hold -/
theorem pe_ask {base : Heap} {k : Nat} {f : Addr} {l : LF} {dvs : List V} {fr : List Str} {ws : List (Option V)} {tb : List (Option V) → XK → Hp → VK → Prop} {a : Str} {E : XK} {p1 p2 : Pos} (lr : LamRun Z.prog Z.w Z.K Z.mg base k l dvs fr tb) (C : CellsIn l.F.cl fr ws Z.base)
    (m : Mod Z.K Z.mg base) (sub : ∀ b o, base.get? b = some o → Z.base.get? b = some o) (sz : base.objs.size ≤ Z.base.objs.size) (hr : Room k Z.A) (hx : Passes (L2.CX Z.prog Z.w) Z E) (hN : Z.N[0]? = some a) (hv : Vis Z.env.scope a) (hd : (a == ("__debug__" : Str)) = false) (hcd : (a == ("__classdict__" : Str)) = false) :
    PE Z (.Call (.Name a p1) [] [] p2) (fun σ H Q => σ[0]? = some (some (.ref f)) ∧ H l.F.c = some (LamX.CodeO l.F.c l.F.qual) ∧ LamAt H f l dvs ∧ tb ws E H Q) := by
  refine ⟨fun pins s σ H Q I h => ?_⟩
  obtain ⟨hs, hc, la, ht⟩ := h
  refine wpAny_Call_Name_kw (thn ((pe_var (pos := p1) (i := 0) hN hv hd hcd).run pins s σ H (fun v H1 => v = .ref f ∧ H1 = H) I ⟨.ref f, hs, rfl, rfl⟩) fun u s1 ⟨v, H1, I1, r1, q1⟩ => ?_)
  obtain ⟨ev, eH⟩ := q1
  subst ev
  rw [eH] at I1
  obtain rfl : u = Value.ref f := r1
  obtain ⟨doc, pm, ctv, ho⟩ := lamO_at I1.hok la.fn
  refine PySem.W.callWith_F0 (first := []) ⟨_, _, _, _, ho⟩ ?_
  show wpAny _ _ (call (.ref f) []) _ _ _
  refine wpAny_call (codeAny_mono (lr Z.A Z.stack s1 H f ws Q E hr (env0_less I1.env0 m sub sz) la (cells_out C I1.bs) ht) fun r s' hq => ?_)
  cases r with
  | error e => exact hx pins σ H s1 e s' I1 hq
  | ok fl =>
    cases fl with
    | ret u => exact I1.after hq
    | next => exact False.elim hq
    | brk => exact False.elim hq
    | cont => exact False.elim hq
end
/-- x(y) where y holds a lambda that x calls and whose errors it takes -/
def LamIt (P : Program) (w : World) (K : PySem.W.Frag) (mg : Str → Option Value) (base b2 : Heap) (k : Nat) (cs : List Value) (f : Addr) (H : Hp) (Q : VK) : Prop := ∃ (l : LF) (dvs : List V) (fr : List Str) (ws : List (Option V)) (tb : List (Option V) → XK → Hp → VK → Prop),
  LamAt H f l dvs ∧ LamRun P w K mg base k l dvs fr tb ∧ CellsIn l.F.cl fr ws b2 ∧ ∃ Q0 : VK, TTry K cs (tb ws) H Q0 ∧ ∀ v H', Q0 v H' → Q v H'
def tItem (P : Program) (w : World) (K : PySem.W.Frag) (mg : Str → Option Value) (base b2 : Heap) (k : Nat) (cs : List Value) (i : Nat) : TE := fun σ H Q => ∃ f : Addr, σ[i]? = some (some (.ref f)) ∧ LamIt P w K mg base b2 k cs f H Q
section
variable {X : Cx}
theorem pe_item {base : Heap} {k i : Nat} {cs : List Value} {x a y : Str} {g : Addr} {pg : Arguments} {bg : List Stmt} {sg : Scope} {dV kV doc pm cdv ct oc : Value} {an od : Option Addr} {osl : Array (Option Value)} {Ng : List Str} {p py pos : Pos}
    (m : Mod X.K X.mg base) (sub : ∀ b o, base.get? b = some o → X.base.get? b = some o) (sz : base.objs.size ≤ X.base.objs.size)
    (hg : Gl X x) (hm : X.mg x = some (.ref g)) (hk : PySem.W.keepIn X.K (.ref g) = true) (lk : X.K.lookup g = some ⟨oc, od, .func (PySem.W.fnOf x x pg bg sg dV kV doc pm an cdv ct), osl⟩) (hcg : PySem.W.codeIn X.K cdv x = true)
    (hb : L2.Binds X.K (PySem.W.fnOf x x pg bg sg dV kV doc pm an cdv ct) [a] []) (Sg : FnScope Ng [a] sg) (hNg : Ng[0]? = some a) (hva : Vis sg a) (hG : ∀ q : Str, LamX.GivesTo X Ng x sg g cdv bg a q (TTry X.K cs)) (hr : Room (k + 1) X.A)
    (hN : X.N[i]? = some y) (hv : Vis X.env.scope y)
    (hdb : (x == ("__debug__" : Str)) = false := by decide) (hd : (a == ("__debug__" : Str)) = false := by decide) (hcd : (a == ("__classdict__" : Str)) = false := by decide) (hyd : (y == ("__debug__" : Str)) = false := by decide) (hyc : (y == ("__classdict__" : Str)) = false := by decide) :
    PE X (.Call (.Name x p) [.Name y py] [] pos) (tItem X.prog X.w X.K X.mg base X.base k cs i) := by
  refine ⟨fun pins s σ H Q I h => ?_⟩
  obtain ⟨f, hs, l, dvs, fr, ws, tb, la, lr, C, Q0, ht, hQ⟩ := h
  refine wpAny_Call_Name_kw (ld_glob I hg hm ?_ hdb)
  refine PySem.W.callWith_K (h₀ := X.base) I.ok.mod.kin hk ?_ (by rfl) (by rfl)
  show wpAny _ _ (spliced ((false, eval (.Name y py) X.env) :: backTo pos (starEach [] X.env))) _ _ s
  refine Calls.spliced_cons (thn ((pe_var (pos := py) (i := i) hN hv hyd hyc).run pins s σ H (fun v H1 => v = .ref f ∧ H1 = H) I ⟨.ref f, hs, rfl, rfl⟩) fun u s1 ⟨v, H1, I1, r1, q1⟩ => ?_)
  obtain ⟨ev, eH⟩ := q1
  subst ev
  rw [eH] at I1
  obtain rfl : u = Value.ref f := r1
  refine Calls.spliced_nil ⟨I1.kIn, ?_⟩
  have rc : codeAny (model X.prog X.w) X.A (.call (.ref g) ⟨[.ref f], []⟩) (CR C8.CX0 X.stack X.prog X.w H s1 Q0 C8.E0) s1 := by
    refine LamX.run_ofS (N := Ng) (ps := [a]) (us := [.ref f]) (vs := [.ref f]) lk hcg Sg hr I1.env0 (hb s1 [.ref f] I1.kIn rfl) (.cons rfl .nil) rfl fun hr' => ?_
    obtain ⟨t', ht', hq'⟩ := hG l.F.qual f l.F.c s1 H Q0 (fun E H' Q' => LamAt H' f l dvs ∧ tb ws E H' Q') (fun W pn xe E p1 p2 tk hW => pe_ask (Z := (cxOf C8.CX0 X.prog X.w X.K X.mg X.base Ng x sg g cdv X.A X.stack s1 H C8.E0).tr pn xe) (base := base) lr C m sub sz hr' (passes_call tk hW) hNg hva hd hcd)
      la.co ⟨la, ht⟩
    exact ⟨t', ht'.nox, hq'⟩
  refine wpAny_call (codeAny_mono rc fun r s2 hq => ?_)
  cases r with
  | error e => exact (show False from hq).elim
  | ok fl =>
    cases fl with
    | ret u =>
      obtain ⟨v, H', I', rv, q⟩ := I1.after hq
      exact ⟨v, H', I', rv, hQ v H' q⟩
    | next => exact False.elim hq
    | brk => exact False.elim hq
    | cont => exact False.elim hq
end
/-- the list l of the lambdas fs, walked; D the new list -/
def ChainI (it : Addr → Hp → VK → Prop) (l D : Addr) (all : List V) (Q : VK) : List Addr → List V → Hp → Prop
  | [], _, H => Q (.ref D) H
  | f :: r, acc, H => it f H fun v H1 => H1 l = some (.lst all) ∧ H1 D = some (.lst acc) ∧ ChainI it l D all Q r (acc ++ [v]) (upd H1 D (.lst (acc ++ [v])))
def sp_tries (P : Program) (w : World) (K : PySem.W.Frag) (mg : Str → Option Value) (base b2 : Heap) (k : Nat) (cs : List Value) : Sp := fun vs H Q _ => ∃ (l : Addr) (fs : List Addr), vs = [.ref l] ∧ fs.length < sizeLine ∧ H l = some (.lst (fs.map V.ref)) ∧
  ∀ D, H D = none → ChainI (LamIt P w K mg base b2 k cs) l D (fs.map V.ref) Q fs [] (upd H D (.lst []))
/-- [x(y) for y in l], the list's items by turns -/
theorem chain_walk {P : Program} {w : World} {K : PySem.W.Frag} {mg : Str → Option Value} {base b2 : Heap} {k : Nat} {cs : List Value} {σ : L2.St} {H1 : Hp} {l D : Addr} {fs : List Addr} {vs : List Nat} {i : Nat} {Q : VK} (hi : ∀ x : V, wipe ((wipe σ vs).set i (some x)) vs = wipe σ vs) (hl2 : i < (wipe σ vs).length)
    (sz : fs.length < sizeLine) (nD : H1 D = none) (hl : H1 l = some (.lst (fs.map V.ref))) (h : ChainI (LamIt P w K mg base b2 k cs) l D (fs.map V.ref) Q fs [] (upd H1 D (.lst []))) :
    ∃ W : Nat → Nat → Hp → Prop, (∃ m, W 0 m (upd H1 D (.lst []))) ∧ ∀ j m H, W j m H →
      ((Itl K l).stop j H ∧ Q (.ref D) H) ∨ ((Itl K l).go j H ∧ ∃ Nx : Hp → Prop, (∀ H', Nx H' → ∃ m', m' < m ∧ W (j + 1) m' H') ∧ ∀ x H', (Itl K l).yld j H x H' → gName i x (wipe σ vs) H' fun σ2 H2 => wipe σ2 vs = wipe σ vs ∧ tYes σ2 H2 fun b H3 =>
        if b = true then tItem P w K mg base b2 k cs i σ2 H3 fun y H4 => ∃ acc, H4 D = some (.lst acc) ∧ acc.length < sizeLine ∧ Nx (upd H4 D (.lst (acc ++ [y]))) else Nx H3) := by
  have nl : l ≠ D := ne_of_none hl nD
  refine lc_list (K := K) (a := l) (xs := fs.map V.ref) (fun j H => ∃ acc : List V, acc.length = j ∧ H l = some (.lst (fs.map V.ref)) ∧ H D = some (.lst acc) ∧ ChainI (LamIt P w K mg base b2 k cs) l D (fs.map V.ref) Q (fs.drop j) acc H) ⟨[], rfl, by rw [upd_ne nl]; exact hl, upd_same, h⟩
    (fun j H _ pv => .inl (.inl (by obtain ⟨_, _, z, _⟩ := pv; exact z))) (fun j x H ex pv => ?_) fun H pv => ?_
  · obtain ⟨acc, ha, h1, h2, hc⟩ := pv
    have hj : j < fs.length := by
      have z := (List.getElem?_eq_some_iff.mp ex).1
      rw [List.length_map] at z
      exact z
    have ex2 : x = V.ref fs[j] := by
      rw [List.getElem?_map, List.getElem?_eq_getElem hj] at ex
      exact (Option.some.inj ex).symm
    subst ex2
    rw [List.drop_eq_getElem_cons hj] at hc
    refine ⟨hi _, ?_⟩
    show tItem P w K mg base b2 k cs i _ H _
    refine ⟨fs[j], List.getElem?_set_self hl2, ?_⟩
    obtain ⟨lf, dvs, fr, ws, tb, la, lr, C, ht⟩ := hc
    refine ⟨lf, dvs, fr, ws, tb, la, lr, C, ?_⟩
    obtain ⟨Q0, ht, hQ⟩ := ht
    refine ⟨Q0, ht, fun v H4 q => ?_⟩
    obtain ⟨c1, c2, c3⟩ := hQ v H4 q
    have hlen : acc.length < sizeLine := by omega
    refine ⟨acc, c2, hlen, acc ++ [v], ?_, ?_, upd_same, c3⟩
    · rw [List.length_append, ha]
      rfl
    · rw [upd_ne nl]
      exact c1
  · obtain ⟨acc, ha, h1, h2, hc⟩ := pv
    rw [List.length_map, List.drop_length] at hc
    exact hc
/-- a lambda of the law's list: how it is made, what its call does -/
structure AskS (X : Cx) (k : Nat) where
  lam : Addr → Value → LF
  dvs : List V
  fr : List Str
  js : List Nat
  tb : List (Option V) → XK → Hp → VK → Prop
  run : ∀ c' dV, LamRun X.prog X.w X.K X.mg X.base k (lam c' dV) dvs fr tb
  caps : X.Ok → ∀ c' dV, NdefX.Caps X (lam c' dV).F.cl fr js
/-- told at the law: each lambda of the list l tried, D the new list -/
def ChainL (X : Cx) (k : Nat) (cs : List Value) (σ : L2.St) (l D : Addr) (all : List V) (Q : VK) : List (Addr × AskS X k) → List V → Hp → Prop
  | [], _, H => Q (.ref D) H
  | (f, a) :: r, acc, H => (∃ c' dV, LamAt H f (a.lam c' dV) a.dvs) ∧ TTry X.K cs (a.tb (a.js.map (NdefX.slotAt σ))) H fun v H1 => H1 l = some (.lst all) ∧ H1 D = some (.lst acc) ∧ ChainL X k cs σ l D all Q r (acc ++ [v]) (upd H1 D (.lst (acc ++ [v])))
def tTries {X : Cx} {k : Nat} (cs : List Value) (asks : List (AskS X k)) (t : TA) : TE := fun σ H Q => t σ H fun vs H1 => ∃ (l : Addr) (fs : List Addr), vs = [.ref l] ∧ fs.length = asks.length ∧ H1 l = some (.lst (fs.map V.ref)) ∧
  ∀ D, H1 D = none → ChainL X k cs σ l D (fs.map V.ref) Q (fs.zip asks) [] (upd H1 D (.lst []))
section
variable {X : Cx} {pins : List (Addr × Obj)} {σ : L2.St} {H0 : Hp} {s : Shared} {k : Nat} {cs : List Value} {b2 : Heap}
theorem chain_in (I : Inv X pins σ H0 s) (kc : ∀ y c, X.env.cells.lookup y = some c → ∀ v, s.heap.IsCell c v → b2.IsCell c v) {l D : Addr} {all : List V} {Q : VK} : ∀ (r : List (Addr × AskS X k)) (acc : List V) (H : Hp),
    ChainL X k cs σ l D all Q r acc H → ChainI (LamIt X.prog X.w X.K X.mg X.base b2 k cs) l D all Q (r.map (·.1)) acc H
  | [], _, _, h => h
  | (f, a) :: r, acc, H, ⟨⟨c', dV, la⟩, ht⟩ => by
    have cp := a.caps I.ok c' dV
    refine ⟨a.lam c' dV, a.dvs, a.fr, a.js.map (NdefX.slotAt σ), a.tb, la, a.run c' dV, cells_in (NdefX.cells_of I cp) (fun y c e => ⟨y, cp.sub y c e⟩) kc, _, ht, fun v H1 ⟨q1, q2, q3⟩ => ⟨q1, q2, chain_in I kc r _ _ q3⟩⟩
end
section
variable {X : Cx}
/-- x(e): the lambdas of the list e tried, one by one -/
theorem pe_tries {k kk : Nat} {cs : List Value} {x a : Str} {g : Addr} {fd : FuncData} {e : Expr} {t : TA} {p pos : Pos} (asks : List (AskS X k)) (hn : asks.length < sizeLine) (hfn : ∀ x, X.fn x = true) (hst : X.stack = X.env :: X.outer) (hf : X.env.frame = some X.env.locals)
    (F : ∀ b2 : Heap, Mod X.K X.mg X.base → (∀ b o, X.base.get? b = some o → b2.get? b = some o) → X.base.objs.size ≤ b2.objs.size → FnOk X.prog X.w X.K X.mg b2 C8.CX0 kk g fd [a] (sp_tries X.prog X.w X.K X.mg X.base b2 k cs))
    (hr : Room kk X.A) (hg : Gl X x) (hm : X.mg x = some (.ref g)) (hk : PySem.W.keepIn X.K (.ref g) = true) (hb : L2.Binds X.K fd [a] []) (ha : PA X [e] t)
    (hdb : (x == ("__debug__" : Str)) = false := by decide) (he : starEach [e] X.env = [(false, eval e X.env)] := by rfl) : PE X (.Call (.Name x p) [e] [] pos) (tTries cs asks t) := by
  refine ⟨fun pins s σ H Q I h => ?_⟩
  refine wpAny_Call_Name_kw (ld_glob I hg hm ?_ hdb)
  refine PySem.W.callWith_K (h₀ := X.base) I.ok.mod.kin hk (thn (ha.run pos pins s σ H _ I h) fun us s1 ⟨vs, H1, I1, r, q⟩ => ⟨I1.kIn, ?_⟩) he (by rfl)
  obtain ⟨l, fs, rfl, hl, hH, hc⟩ := q
  obtain ⟨b2, sub, sz, e0, kc⟩ := ground_cells I1 hfn hst hf
  have hlen : us.length = [a].length := by
    rw [← r.length]
    rfl
  have hz : (fs.zip asks).map (·.1) = fs := by
    rw [List.map_fst_zip]
    omega
  have hsp : sp_tries X.prog X.w X.K X.mg X.base b2 k cs [.ref l] H1 Q C8.E0 := ⟨l, fs, rfl, by omega, hH, fun D nD => by
    have z := chain_in (b2 := b2) I1 kc _ _ _ (hc D nD)
    rw [hz] at z
    exact z⟩
  refine wpAny_call (codeAny_mono ((F b2 I1.ok.mod sub sz).run X.A X.stack s1 H1 ⟨us, []⟩ us [.ref l] Q C8.E0 hr e0 (by have z := hb s1 us I1.kIn (by rw [List.append_nil]; exact hlen); rw [List.append_nil] at z; exact z) r hsp) fun r s' hq => ?_)
  cases r with
  | error e => exact (show False from hq).elim
  | ok fl =>
    cases fl with
    | ret u => exact I1.after hq
    | next => exact False.elim hq
    | brk => exact False.elim hq
    | cont => exact False.elim hq
end
end FW
namespace FW
open PySem PySem.Spec PyProof.Rows L2
/-! ### the lambdas of a list, by their texts -/
def lamParts : Expr → Arguments × Expr × Scope
  | .Lambda p b s _ => (p, b, s)
  | e => (⟨[], [], none, [], [], none, []⟩, e, default)
def listOf : Stmt → List Expr
  | .Assign _ (.List es _) _ => es
  | _ => []
section
variable {X : Cx} {k : Nat}
def ask0 (params : Arguments) (body : Expr) (scope : Scope) (N fr : List Str) (js : List Nat) {tb : XK → TE} (hS : NdefX.nscB N [] fr scope = true) (hB : NdefX.ndefB X.env.scope scope fr = true) (hjs : js.map (fun j => X.N[j]?) = fr.map some)
    (hb : ∀ (q : Str) (cl : List (Str × Addr)) (doc pm cv ctv : Value), bindArgs (PySem.W.kdv_fn "<lambda>" q params (.expr body) scope cl .none doc pm cv ctv) ⟨[], []⟩ = pure [])
    (hbody : ∀ (c' : Addr) (dV : Value) (A : Around) (outer : List Env) (s : Shared) (H : Hp) (E : XK) (f : Addr), Room k (A.deeper (NdefX.envF (lamF X params body scope c' dV).F f s.heap.objs.size)) →
      PE (NdefX.ncx (L2.CX X.prog X.w) X.prog X.w X.K X.mg X.base N (lamF X params body scope c' dV).F f A outer s H E) body (tb E)) : AskS X (k + 1) where
  lam := lamF X params body scope
  dvs := []
  fr := fr
  js := js
  tb := fun ws E H Q => tb E (NdefX.startF N [] ws) H Q
  run := fun c' dV => lam_run (tb := tb) (NdefX.nscope_by hS) rfl (binds_0 fun e doc pm ctv => by
    have e : dV = .none := e
    subst e
    exact hb _ _ _ _ _ _) (hbody c' dV)
  caps := fun ok c' dV => NdefX.Caps.made ok (NdefX.ndef_free hB) (NdefX.ndef_fr hB) hjs
def ask1 (params : Arguments) (body : Expr) (scope : Scope) (p : Str) (n : Int) (N fr : List Str) (js : List Nat) {tb : XK → TE} (hS : NdefX.nscB N [p] fr scope = true) (hB : NdefX.ndefB X.env.scope scope fr = true) (hjs : js.map (fun j => X.N[j]?) = fr.map some)
    (hb : ∀ (q : Str) (cl : List (Str × Addr)) (dV doc pm cv ctv : Value), ∃ k : Option (Array Value) → Sem (List (Str × Value)), bindArgs (PySem.W.kdv_fn "<lambda>" q params (.expr body) scope cl dV doc pm cv ctv) ⟨[], []⟩ = seqItems? dV >>= k ∧ ∀ u : Value, k (some #[u]) = pure [(p, u)])
    (hbody : ∀ (c' : Addr) (dV : Value) (A : Around) (outer : List Env) (s : Shared) (H : Hp) (E : XK) (f : Addr), Room k (A.deeper (NdefX.envF (lamF X params body scope c' dV).F f s.heap.objs.size)) →
      PE (NdefX.ncx (L2.CX X.prog X.w) X.prog X.w X.K X.mg X.base N (lamF X params body scope c' dV).F f A outer s H E) body (tb E)) : AskS X (k + 1) where
  lam := lamF X params body scope
  dvs := [.int n]
  fr := fr
  js := js
  tb := fun ws E H Q => tb E (NdefX.startF N [.int n] ws) H Q
  run := fun c' dV => lam_run (tb := tb) (NdefX.nscope_by hS) rfl (binds_1 fun doc pm ctv => hb _ _ _ _ _ _ _) (hbody c' dV)
  caps := fun ok c' dV => NdefX.Caps.made ok (NdefX.ndef_free hB) (NdefX.ndef_fr hB) hjs
end
/-! ### o.m(k = e, ..) -/
section
variable {X : Cx} {CX : CXT} {k j : Nat} {f C : Addr} {fd : FuncData} {ps ks : List Str} {sp : Sp} {E : XK} {m : Str} {pos apos : Pos} {o : Expr} {kws : List Keyword} {ta : TE} {tk : TA} {g : List Value → List Value → List Value} {gV : List V → List V → List V}
def tMethK (C : Addr) (m : Str) (sp : Sp) (gV : List V → List V → List V) (E : XK) (ta : TE) (tk : TA) : TE := fun σ H Q => ta σ H fun x H1 => ∃ a dx fs, x = .ref a ∧ H1 a = some (.ins C dx fs) ∧ fs.lookup m = none ∧ tk σ H1 fun zs H2 => sp (gV [x] zs) H2 Q E
theorem pe_methK0 {pl : Sem Bool} (he : PE X o ta) (c : Cls X.K C) (hm : Meth X.K C m f) (F : FnOk X.prog X.w X.K X.mg X.base CX k f fd ps sp) (hr : Room k X.A) (hb : KBinds X.K fd ps ks g gV) (hx : Passes CX X E) (hkw : PK X kws tk)
    (hall : (backToKw pos (keywordEach kws X.env)).all (·.1.isSome) = true := by rfl) (hks : (backToKw pos (keywordEach kws X.env)).filterMap (·.1) = ks := by rfl) (hpl : ((backTo pos (starEach [] X.env)).any (·.1) || (backToKw pos (keywordEach kws X.env)).any (·.1.isNone)) = false := by rfl)
    (ht : eval (.Call (.Attribute o m apos) [] kws pos) X.env = (do
      let ov ← eval o X.env
      standAt apos.atName
      let (f, first) ← holding [ov] (getMethod ov m pl)
      callWith pos f first (backTo pos (starEach [] X.env)) (backToKw pos (keywordEach kws X.env))) := by rfl) :
    PE X (.Call (.Attribute o m apos) [] kws pos) (tMethK C m sp gV E ta tk) := by
  refine ⟨fun pins s σ H Q I h => ?_⟩
  refine PySem.W.methodCall_KW (pl := pl) (thn (he.run pins s σ H _ I h) fun u s1 ⟨x, H1, I1, rx, a, dx, fs, ex, ea, l, q⟩ => ?_) ht
  subst ex
  obtain rfl : u = Value.ref a := rx
  refine getmeth_ok I1 ea c hm l ?_
  refine PySem.W.callWith_KW0 (first := [.ref a]) (h₀ := X.base) I1.ok.mod.kin hm.kp hall (thn (hkw.run pos pins s1 σ H1 _ I1 q) fun ws s2 ⟨zs, H2, I2, rz, q2⟩ => ⟨I2.kIn, ?_⟩) hpl
  rw [hks]
  exact run_fnk (us := [.ref a]) (vs := [.ref a]) F hr hb hx I2 (.cons rfl .nil) rz q2
structure MCalK (P : Program) (w : World) (K : PySem.W.Frag) (mg : Str → Option Value) (base : Heap) (CX : CXT) (C : Addr) (k : Nat) (m : Str) (ps ks : List Str) (g : List Value → List Value → List Value) (gV : List V → List V → List V) (sp : Sp) : Prop where
  ex : ∃ (f : Addr) (fd : FuncData), Meth K C m f ∧ FnOk P w K mg base CX k f fd ps sp ∧ KBinds K fd ps ks g gV
theorem pe_mk0 {pl : Sem Bool} (c : MCalK X.prog X.w X.K X.mg X.base CX0 C k m ps ks g gV sp) (hC : Cls X.K C) (hr : Room j X.A) (hk : k ≤ j) (he : PE X o ta) (hkw : PK X kws tk)
    (hall : (backToKw pos (keywordEach kws X.env)).all (·.1.isSome) = true := by rfl) (hks : (backToKw pos (keywordEach kws X.env)).filterMap (·.1) = ks := by rfl) (hpl : ((backTo pos (starEach [] X.env)).any (·.1) || (backToKw pos (keywordEach kws X.env)).any (·.1.isNone)) = false := by rfl)
    (ht : eval (.Call (.Attribute o m apos) [] kws pos) X.env = (do
      let ov ← eval o X.env
      standAt apos.atName
      let (f, first) ← holding [ov] (getMethod ov m pl)
      callWith pos f first (backTo pos (starEach [] X.env)) (backToKw pos (keywordEach kws X.env))) := by rfl) :
    PE X (.Call (.Attribute o m apos) [] kws pos) (tMethK C m sp gV E0 ta tk) := by
  obtain ⟨f, fd, hm, F, b⟩ := c.ex
  exact pe_methK0 he hC hm F (hr.mono hk) b pass0 hkw hall hks hpl ht
end
def swp1 {α : Type} : List α → List α → List α
  | [a], [u, v] => [a, v, u]
  | _, _ => []
theorem swp1_vals {vs : List V} {us : List Value} {zs : List V} {ws : List Value} (r : Vals vs us) (q : Vals zs ws) : Vals (swp1 vs zs) (swp1 us ws) := by
  cases r with
  | nil => exact .nil
  | cons r0 rr =>
    cases rr with
    | cons _ _ => exact .nil
    | nil =>
      cases q with
      | nil => exact .nil
      | cons q0 qq =>
        cases qq with
        | nil => exact .nil
        | cons q1 qqq =>
          cases qqq with
          | nil => exact .cons r0 (.cons q1 (.cons q0 .nil))
          | cons _ _ => exact .nil
theorem kbm_swap {K : PySem.W.Frag} {x qual : Str} {st : Stmt} {f : Addr} {fd : FuncData} {p0 p1 p2 : Str} (F : Fun K x qual st f fd)
    (h : ∀ (kV doc pm : Value) (an : Option Addr) (cdv ct : Value) (a u v : Value), bindArgs (PySem.W.fnOf x qual (defArgs st) (defBody st) (defScope st) .none kV doc pm an cdv ct) ⟨[a], [(p2, u), (p1, v)]⟩ = pure [(p0, a), (p1, v), (p2, u)]) :
    KBinds K fd [p0, p1, p2] [p2, p1] swp1 swp1 := by
  obtain ⟨oc, od, kV, doc, pm, an, cdv, ct, osl, rfl, lk, hcd⟩ := F.ex
  refine ⟨fun s us ws _ hl => ?_, fun r q => swp1_vals r q⟩
  match us, ws, hl with
  | [a], [u, v], _ => exact .of_eq (h kV doc pm an cdv ct a u v)
  | [], ws, hl => exact absurd (show 0 = 3 from hl) (by decide)
  | [_], [], hl => exact absurd (show 0 = 3 from hl) (by decide)
  | [_], [_], hl => exact absurd (show 0 = 3 from hl) (by decide)
  | [_], _ :: _ :: _ :: _, hl => exact absurd (show 0 = 3 from hl) (by decide)
  | _ :: _ :: _, ws, hl => exact absurd (show 0 = 3 from hl) (by decide)
/-- an error class of the program that the law's own try takes; f: what its error bears -/
structure ErrF (K : PySem.W.Frag) (mg : Str → Option Value) (C : Addr) (f z : String) (cs : List Value) : Prop where
  kls : ∃ fI, Kls K mg C fI z
  nf : PySem.W.findIn K (.ref C) (Str.ofString f) = some none
  hex : PySem.W.exmAny K (.ref C) cs = some true
  fi : ∀ v, FieldIs K C [("code", .str (Str.ofString z)), (Str.ofString f, v)] (Str.ofString z) v
abbrev ErrK (K : PySem.W.Frag) (mg : Str → Option Value) (C : Addr) (z : String) (cs : List Value) : Prop := ErrF K mg C "given" z cs
def givenB (z : Str) : Bool := !decide (z ∈ (["InvalidLine", "InvalidStep", "InvalidTable", "InvalidBad", "InvalidPlan", "UnknownRoom"] : List Str)) && !decide (z ∈ (["TooMany", "Full"] : List Str)) && !decide (z ∈ (["InvalidText", "InvalidPage"] : List Str)) && !decide (z = "UnknownState") && !decide (z ∈ (["InvalidPaper", "OtherFaces", "OtherCutters", "NothingLeft"] : List Str))
theorem fi_given {K : PySem.W.Frag} {C : Addr} {z : Str} (h : givenB z = true) (nf : PySem.W.findIn K (.ref C) (Str.ofString "given") = some none) (v : V) : FieldIs K C [("code", .str z), (Str.ofString "given", v)] z v := by
  unfold givenB at h
  simp only [Bool.and_eq_true, Bool.not_eq_true', decide_eq_false_iff_not] at h
  obtain ⟨⟨⟨⟨h1, h2⟩, h3⟩, h4⟩, h5⟩ := h
  unfold FieldIs
  rw [if_neg h1, if_neg h2, if_neg h3, if_neg h4, if_neg h5]
  exact ⟨nf, rfl⟩
theorem fi_at {K : PySem.W.Frag} {C : Addr} {z : Str} (h : decide (z ∈ (["InvalidLine", "InvalidStep", "InvalidTable", "InvalidBad", "InvalidPlan", "UnknownRoom"] : List Str)) = true) (nf : PySem.W.findIn K (.ref C) (Str.ofString "at") = some none) (v : V) : FieldIs K C [("code", .str z), (Str.ofString "at", v)] z v := by
  unfold FieldIs
  rw [if_pos (of_decide_eq_true h)]
  exact ⟨nf, rfl⟩
/-- what the law's try makes of such an error -/
theorem ErrF.tried {K : PySem.W.Frag} {mg : Str → Option Value} {C : Addr} {f z : String} {cs : List Value} {Q : VK} {H1 : Hp} {v : V} {d : Addr} (T : ErrF K mg C f z cs) (nd : H1 d = none) (h : ∀ H2 p, Same H1 H2 → H2 p = none → Q (.ref p) (upd H2 p (.tup [.str (Str.ofString z), v]))) :
    PySem.W.exmAny K (.ref C) cs = some true ∧ ∀ a, (upd H1 d (Err1 f z v)) a = none → ∃ (z' : Str) (v' : V), Caught K (upd (upd H1 d (Err1 f z v)) a (ExK (.ref C) (some d) a)) a z' v' ∧ ∀ H2, Same (upd (upd H1 d (Err1 f z v)) a (ExK (.ref C) (some d) a)) H2 → ∀ p, H2 p = none → Q (.ref p) (upd H2 p (.tup [.str z', v'])) := by
  obtain ⟨fI, k⟩ := T.kls
  refine ⟨T.hex, fun a na => ⟨Str.ofString z, v, ?_, fun H2 s2 p np => h H2 p (((same_upd nd).trans (same_upd na)).trans s2) np⟩⟩
  have hne : d ≠ a := fun e => by
    rw [← e, upd_same] at na
    cases na
  exact ⟨C, d, _, upd_same, (upd_ne hne).trans upd_same, k.xf, k.ncode, rfl, T.fi v⟩
end FW
namespace FW
open PySem PySem.Spec PyProof.Rows L2
/-! ### sorted: texts, as many as there are -/
theorem strs_vals : ∀ {xs : List Str} {us : List Value}, Vals (xs.map V.str) us → StrsAre us xs
  | [], [], _ => .nil
  | [], _ :: _, h => by cases h
  | _ :: _, [], h => by cases h
  | x :: xs, u :: us, h => by
    have h1 : L2.RelV (.str x) u ∧ Vals (xs.map V.str) us := by
      cases h with
      | cons a b => exact ⟨a, b⟩
    obtain ⟨t, rfl⟩ := h1.1
    exact .cons x t (strs_vals h1.2)
theorem vals_strs {xs : List Str} {us : List Value} (h : StrsAre us xs) : Vals (xs.map V.str) us := by
  induction h with
  | nil => exact .nil
  | cons y t h ih => exact .cons ⟨t, rfl⟩ ih
def rSortedSA (K : PySem.W.Frag) : List V → Hp → VK → Prop := fun vs H Q => ∃ (a : Addr) (xs : List Str), vs = [V.ref a] ∧ SqL K H a (xs.map V.str) ∧ ∀ (ys : List Str) (p : Addr), ys.Perm xs → PyProof.Rows.sortedS ys = true → H p = none → Q (.ref p) (upd H p (.lst (ys.map V.str)))
section
variable {X : Cx}
theorem cr_sortedSA : CallR X (.builtin "sorted") (rSortedSA X.K) := by
  intro pins s σ H vs us Q I r h
  obtain ⟨a, xs, rfl, hs, q⟩ := h
  obtain ⟨its, rv, hl, hz⟩ := I.list hs
  obtain ⟨u, rfl, ru⟩ := L2.vals1 r
  obtain rfl : u = Value.ref a := ru
  have hst := strs_vals rv
  refine sorted_strsAny hl.isList hst (by rw [← rv.length]; exact hz) fun out ss' ho hp hso => ?_
  obtain ⟨n, hn⟩ := sortedAll_at s.heap its out
  refine ⟨.ref (s.heap.objs.size + 1), upd H (s.heap.objs.size + 1) (.lst (ss'.map V.str)), I.laid (t' := s.toks) (fun b o e => sortedAll_old e) (Nat.le_succ _) ⟨?_, out.toList, n, vals_strs ho, ?_⟩, rfl, q _ _ hp hso (I.hok.fresh (Nat.le_succ _))⟩
  · rw [List.length_map, hp.length_eq]
    rwa [List.length_map] at hz
  · rw [Array.toArray_toList]
    exact hn
end
end FW
namespace FW
open PySem PySem.Spec PyProof.Rows L2
/-! ### a text so many times -/
def rMulS : R2 := fun x y H Q => ∃ (z : Str) (n : Int), x = .str z ∧ y = .int n ∧ MulOk z n ∧ Q (.str (Txt.mul z n)) H
theorem op_mulS {X : Cx} : OpR X (binaryOp .Mult) rMulS := by
  intro pins s σ H x y v u Q I rx ry h
  obtain ⟨z, n, rfl, rfl, ok, q⟩ := h
  obtain ⟨t, rfl⟩ := rx
  obtain ⟨t', rfl⟩ := ry
  exact SB.mul ok fun t'' k => ⟨.str _, H, I.tok _, ⟨_, rfl⟩, q⟩
theorem mulOk1 (c : Nat) {n : Int} (h : n = 3 ∨ n = 4 ∨ n = 5) : MulOk (S [c]) n := by
  rcases h with rfl | rfl | rfl
  · exact ⟨by decide, fun _ _ => (by decide : ¬ ((1 : Nat) : Int) > (2 ^ 63 - 1) / 3), fun _ _ => (by decide : Builtin.Str.tooLong (1 * 3) = false)⟩
  · exact ⟨by decide, fun _ _ => (by decide : ¬ ((1 : Nat) : Int) > (2 ^ 63 - 1) / 4), fun _ _ => (by decide : Builtin.Str.tooLong (1 * 4) = false)⟩
  · exact ⟨by decide, fun _ _ => (by decide : ¬ ((1 : Nat) : Int) > (2 ^ 63 - 1) / 5), fun _ _ => (by decide : Builtin.Str.tooLong (1 * 5) = false)⟩
theorem mul3 (c : Nat) : Txt.mul (S [c]) 3 = S [c, c, c] := rfl
theorem mul4 (c : Nat) : Txt.mul (S [c]) 4 = S [c, c, c, c] := rfl
theorem mul5 (c : Nat) : Txt.mul (S [c]) 5 = S [c, c, c, c, c] := rfl
end FW
namespace FW
open PySem PySem.Spec PyProof.Rows L2
/-! ### helpers of many laws -/
theorem lastOf {α : Type} {l : List α} (h : 0 < l.length) : ∃ i z, l = i ++ [z] := ⟨l.dropLast, l.getLast (List.ne_nil_of_length_pos h), (List.dropLast_concat_getLast _).symm⟩
theorem atI_lst {α : Type} {i : List α} {z : α} : atI (i ++ [z]) (-1) = some z := by
  have h : ixN (i ++ [z]).length (-1) = some i.length := by
    unfold ixN
    rw [List.length_append]
    show (if (0 : Int) ≤ -1 then _ else _) = _
    rw [if_neg (by omega), if_pos (by show -((i.length + 1 : Nat) : Int) ≤ -1; omega)]
    congr 1
    show ((-1 : Int) + ((i.length + 1 : Nat) : Int)).toNat = i.length
    omega
  unfold atI
  rw [h]
  show (i ++ [z])[i.length]? = some z
  rw [List.getElem?_append_right (Nat.le_refl _), Nat.sub_self]
  rfl
theorem rep_flat {α : Type} (x : α) (k : Nat) : (List.replicate (k : Int).toNat [x]).flatten = List.replicate k x := by
  rw [Int.toNat_natCast]
  induction k with
  | zero => rfl
  | succ k ih => rw [List.replicate_succ, List.replicate_succ, List.flatten_cons, ih]; rfl
/-- a comprehension over the signs of a text: tests and items that leave the heap -/
theorem lc_strP {z : Str} {σ : L2.St} {vs : List Nat} {H1 : Hp} {D : Addr} {Qd : Hp → Prop} {i : Nat} {tt : TT} {te : TE} (t : Nat → Bool) (v : Nat → V) (nD : H1 D = none) (hz : z.cps.size < sizeLine) (hw : ∀ x : V, wipe ((wipe σ vs).set i (some x)) vs = wipe σ vs)
    (hT : ∀ c ∈ z.cps.toList, ∀ H, Same H1 H → ∀ R : Bool → Hp → Prop, R (t c) H → tt ((wipe σ vs).set i (some (sgn c))) H R)
    (hE : ∀ c ∈ z.cps.toList, t c = true → ∀ H, Same H1 H → ∀ R : VK, R (v c) H → te ((wipe σ vs).set i (some (sgn c))) H R)
    (q : Qd (upd H1 D (.lst ((z.cps.toList.filter t).map v)))) :
    ∃ W : Nat → Nat → Hp → Prop, (∃ m, W 0 m (upd H1 D (.lst []))) ∧ ∀ j m H, W j m H →
      ((Its z).stop j H ∧ Qd H) ∨ ((Its z).go j H ∧ ∃ Nx : Hp → Prop, (∀ H', Nx H' → ∃ m', m' < m ∧ W (j + 1) m' H') ∧ ∀ x H', (Its z).yld j H x H' → gName i x (wipe σ vs) H' fun σ2 H2 => wipe σ2 vs = wipe σ vs ∧ tt σ2 H2 fun b H3 =>
        if b = true then te σ2 H3 fun y H4 => ∃ acc, H4 D = some (.lst acc) ∧ acc.length < sizeLine ∧ Nx (upd H4 D (.lst (acc ++ [y]))) else Nx H3) := by
  refine lc_it walk_str (fun i H' => H' = upd H1 D (.lst (((z.cps.toList.take i).filter t).map v))) rfl (fun _ _ _ _ => trivial) ?_ ?_
  · rintro j x _ _ hj rfl ⟨rfl, c, hc, rfl⟩
    have hc1 : z.cps.toList[j]? = some c := by rw [Array.getElem?_toList]; exact hc
    have e : z.cps.toList.take (j + 1) = z.cps.toList.take j ++ [c] := by
      rw [List.take_add_one, hc1]
      rfl
    have hm := List.mem_of_getElem? hc1
    refine ⟨hw _, hT c hm _ (same_upd nD) _ ?_⟩
    rw [e, List.filter_append, List.filter_cons]
    cases h : t c with
    | true =>
      rw [if_pos rfl]
      refine hE c hm h _ (same_upd nD) _ ⟨_, upd_same, ?_, ?_⟩
      · rw [List.length_map]
        refine Nat.lt_of_le_of_lt (List.length_filter_le _ _) (Nat.lt_of_le_of_lt (List.length_take_le' _ _) hz)
      · rw [upd_upd, if_pos rfl, List.map_append]
        rfl
    | false =>
      rw [if_neg Bool.false_ne_true, if_neg Bool.false_ne_true, List.filter_nil, List.append_nil]
  · rintro _ rfl
    rw [List.take_of_length_le (show z.cps.toList.length ≤ z.cps.size from Nat.le_refl _)]
    exact q
/-- the same over a list -/
theorem lc_listP {K : PySem.W.Frag} {a : Addr} {xs : List V} {σ : L2.St} {vs : List Nat} {H1 : Hp} {D : Addr} {Qd : Hp → Prop} {i : Nat} {tt : TT} {te : TE} (t : V → Bool) (v : V → V) (ha : SqL K H1 a xs) (nD : H1 D = none) (hz : xs.length < sizeLine) (hw : ∀ x : V, wipe ((wipe σ vs).set i (some x)) vs = wipe σ vs)
    (hT : ∀ x ∈ xs, ∀ H, Same H1 H → ∀ R : Bool → Hp → Prop, R (t x) H → tt ((wipe σ vs).set i (some x)) H R)
    (hE : ∀ x ∈ xs, t x = true → ∀ H, Same H1 H → ∀ R : VK, R (v x) H → te ((wipe σ vs).set i (some x)) H R)
    (q : Qd (upd H1 D (.lst ((xs.filter t).map v)))) :
    ∃ W : Nat → Nat → Hp → Prop, (∃ m, W 0 m (upd H1 D (.lst []))) ∧ ∀ j m H, W j m H →
      ((Itl K a).stop j H ∧ Qd H) ∨ ((Itl K a).go j H ∧ ∃ Nx : Hp → Prop, (∀ H', Nx H' → ∃ m', m' < m ∧ W (j + 1) m' H') ∧ ∀ x H', (Itl K a).yld j H x H' → gName i x (wipe σ vs) H' fun σ2 H2 => wipe σ2 vs = wipe σ vs ∧ tt σ2 H2 fun b H3 =>
        if b = true then te σ2 H3 fun y H4 => ∃ acc, H4 D = some (.lst acc) ∧ acc.length < sizeLine ∧ Nx (upd H4 D (.lst (acc ++ [y]))) else Nx H3) := by
  refine lc_it (walk_list (xs := xs)) (fun i H' => H' = upd H1 D (.lst (((xs.take i).filter t).map v))) rfl (fun j H' _ e => by rw [e]; exact (same_upd nD).seq ha) ?_ ?_
  · rintro j x _ H' hj rfl ⟨rfl, hc1⟩
    have e : xs.take (j + 1) = xs.take j ++ [x] := by
      rw [List.take_add_one, hc1]
      rfl
    have hm := List.mem_of_getElem? hc1
    refine ⟨hw _, hT x hm _ (same_upd nD) _ ?_⟩
    rw [e, List.filter_append, List.filter_cons]
    cases h : t x with
    | true =>
      rw [if_pos rfl]
      refine hE x hm h _ (same_upd nD) _ ⟨_, upd_same, ?_, ?_⟩
      · rw [List.length_map]
        refine Nat.lt_of_le_of_lt (List.length_filter_le _ _) (Nat.lt_of_le_of_lt (List.length_take_le' _ _) hz)
      · rw [upd_upd, if_pos rfl, List.map_append]
        rfl
    | false =>
      rw [if_neg Bool.false_ne_true, if_neg Bool.false_ne_true, List.filter_nil, List.append_nil]
  · rintro _ rfl
    rw [List.take_of_length_le (Nat.le_refl _)]
    exact q
section
variable {K : PySem.W.Frag}
/-- a value of some kind, no error's own -/
structure OddX (K : PySem.W.Frag) (H : Hp) (v : V) (d : PyData) : Prop where
  kind : (isStr v = true ∧ (strOf v).cps.size ≤ 100) ∨ NS H v
  dp : Dp K H v d
  deep : ∀ n, Deep (n + 1) d
theorem OddX.same {H H' : Hp} {v : V} {d : PyData} (o : OddX K H v d) (s : Same H H') : OddX K H' v d := ⟨o.kind.imp id fun n => n.same s, Dp.same s o.dp, o.deep⟩
theorem OddX.ext {H H' : Hp} {v : V} {d : PyData} (o : OddX K H v d) (e : LamX.ExtN H H') : OddX K H' v d := ⟨o.kind.imp id fun n => ns_ext e n, dp_ext e o.dp, o.deep⟩
theorem OddX.askd {H : Hp} {v : V} {d : PyData} (o : OddX K H v d) : Askd K H v := o.kind.elim (fun h => .inl ⟨h.1, Nat.le_trans h.2 (by decide)⟩) fun n => .inr n.not
theorem oddX_str {H : Hp} {z : Str} (h : z.cps.size ≤ 100) : OddX K H (.str z) (.str z) := ⟨.inl ⟨rfl, h⟩, .str z, fun _ => by unfold Deep; trivial⟩
theorem oddX_non {H : Hp} : OddX K H .non .none := ⟨.inr (.inl rfl), .non, fun _ => by unfold Deep; trivial⟩
theorem oddX_int {H : Hp} (n : Int) : OddX K H (.int n) (.int n) := ⟨.inr (.inr (.inl ⟨_, rfl⟩)), .int n, fun _ => by unfold Deep; trivial⟩
theorem oddX_bl {H : Hp} (c : Bool) : OddX K H (.bl c) (.bool c) := ⟨.inr (.inr (.inr (.inl ⟨_, rfl⟩))), .bl c, fun _ => by unfold Deep; trivial⟩
theorem oddX_lst {H : Hp} {p : Addr} (zs : List Str) (h : H p = some (.lst (zs.map V.str))) (hl : zs.length ≤ 100) : OddX K H (.ref p) (.list (zs.map PyData.str)) :=
  ⟨.inr (.inr (.inr (.inr (.inl ⟨p, _, rfl, h⟩)))), .lst (SqL.of h) (dp_strs zs), fun n => deep_strs (by omega)⟩
theorem oddX_tup {H : Hp} {p : Addr} (zs : List Str) (h : H p = some (.tup (zs.map V.str))) (hl : zs.length ≤ 100) : OddX K H (.ref p) (.tuple (zs.map PyData.str)) :=
  ⟨.inr (.inr (.inr (.inr (.inr ⟨p, _, rfl, h⟩)))), .tup (SqT.of h) (dp_strs zs), fun n => by
    unfold Deep
    refine ⟨by rw [List.length_map]; omega, fun d hd => ?_⟩
    obtain ⟨c, _, rfl⟩ := List.mem_map.mp hd
    unfold Deep
    trivial⟩
/-- the same, and it stays while the bag alone changes -/
def OddD (K : PySem.W.Frag) (b : Addr) (H : Hp) (v : V) (d : PyData) : Prop := ∀ H', But b H H' → OddX K H' v d
theorem OddD.now {H : Hp} {b : Addr} {v : V} {d : PyData} (o : OddD K b H v d) : OddX K H v d := o H (Same.refl H).but
theorem OddD.drawn {H H' : Hp} {b : Addr} {v : V} {d : PyData} (o : OddD K b H v d) (s : But b H H') : OddD K b H' v d := fun H2 s2 => o H2 (s.trans s2)
theorem OddD.same {H H' : Hp} {b : Addr} {v : V} {d : PyData} (o : OddD K b H v d) (s : Same H H') : OddD K b H' v d := o.drawn s.but
theorem oddD_of {H : Hp} {b : Addr} {v : V} {d : PyData} (h : ∀ H', OddX K H' v d) : OddD K b H v d := fun H' _ => h H'
theorem oddD_lst {H : Hp} {b p : Addr} (zs : List Str) (n : p ≠ b) (h : H p = some (.lst (zs.map V.str))) (hl : zs.length ≤ 100) : OddD K b H (.ref p) (.list (zs.map PyData.str)) := fun H' s => oddX_lst zs (s _ _ n h) hl
theorem oddD_tup {H : Hp} {b p : Addr} (zs : List Str) (n : p ≠ b) (h : H p = some (.tup (zs.map V.str))) (hl : zs.length ≤ 100) : OddD K b H (.ref p) (.tuple (zs.map PyData.str)) := fun H' s => oddX_tup zs (s _ _ n h) hl
theorem ns_letter {H : Hp} {v : V} (n : NS H v) (L : List Nat) : bLetter v L = false := by
  unfold bLetter
  rw [(n.not (K := default)).1]
  rfl
theorem str_room {l F : List Nat} (h : l.length ≠ 4 ∨ ∃ c ∈ l, c ∉ F) : bRoom (.str (S l)) (S F) = false := by
  unfold bRoom
  rcases h with h | ⟨c, hc, hF⟩
  · rw [show decide ((strOf (V.str (S l))).cps.size = 4) = false from decide_eq_false h, Bool.and_false]
  · rw [show bString (.str (S l)) (S F) = false from by
      unfold bString
      rw [show ((strOf (V.str (S l))).cps.toList.all fun c => decide (c ∈ (S F).cps.toList)) = false from by
        rw [List.all_eq_false]
        exact ⟨c, hc, by simpa using hF⟩]
      rfl, Bool.false_and]
theorem str_letter {l L : List Nat} (h : l.length ≠ 1 ∨ ∃ c, l = [c] ∧ c ∉ L) : bLetter (.str (S l)) L = false := by
  unfold bLetter
  rcases h with h | ⟨c, rfl, hc⟩
  · rw [show decide ((strOf (V.str (S l))).cps.size = 1) = false from decide_eq_false h]
    rfl
  · rw [show decide ((strOf (V.str (S [c]))).cps.toList.getD 0 0 ∈ L) = false from decide_eq_false hc, Bool.and_false]
/-- a number or None as data -/
def dOptN : Option Nat → PyData
  | some i => .int (i : Nat)
  | none => .none
theorem deep_non {n : Nat} : Deep n .none := by unfold Deep; trivial
theorem deep_bool {n : Nat} {b : Bool} : Deep n (.bool b) := by unfold Deep; trivial
theorem deep_int {n : Nat} {i : Int} : Deep n (.int i) := by unfold Deep; trivial
theorem deep_str {n : Nat} {z : Str} : Deep n (.str z) := by unfold Deep; trivial
theorem deep_tup {n : Nat} {ds : List PyData} (h : ds.length ≤ 1000) (q : ∀ d ∈ ds, Deep n d) : Deep (n + 1) (.tuple ds) := by
  unfold Deep
  exact ⟨h, q⟩
theorem deep_optN {n : Nat} (o : Option Nat) : Deep n (dOptN o) := by
  cases o
  · exact deep_non
  · exact deep_int
theorem deep_mono : ∀ (n : Nat) {d : PyData}, Deep n d → Deep (n + 1) d
  | n, .none, _ => deep_non
  | n, .bool _, _ => deep_bool
  | n, .int _, _ => deep_int
  | n, .str _, _ => deep_str
  | 0, .list _, h => by unfold Deep at h; exact h.elim
  | 0, .tuple _, h => by unfold Deep at h; exact h.elim
  | n + 1, .list ds, h => by
    unfold Deep at h
    exact deep_list h.1 fun d hd => deep_mono n (h.2 d hd)
  | n + 1, .tuple ds, h => by
    unfold Deep at h
    exact deep_tup h.1 fun d hd => deep_mono n (h.2 d hd)
  | 0, .dict _, h => by unfold Deep at h; exact h.elim
  | n + 1, .dict _, h => by unfold Deep at h; exact h.elim
end
end FW
namespace FW
open PySem PySem.Spec PyProof.Rows L2
/-! ### the lambdas of a list, tried one by one: what is told of each -/
section
variable {X : Cx} {k : Nat} {cs : List Value} {σ : L2.St}
/-- one lambda of the list: D is the list that is filled -/
def OneAsk (cs : List Value) (σ : L2.St) (Hn : Hp) (D : Addr) (fa : Addr × AskS X k) (d : PyData) : Prop :=
  ∀ H, Same Hn H → (∃ acc, H D = some (.lst acc)) → (∃ c' dV, LamAt H fa.1 (fa.2.lam c' dV) fa.2.dvs) ∧
    ∀ Q' : VK, (∀ H' v, Same H H' → (∀ Hx, But D H' Hx → Dp X.K Hx v d) → Q' v H') → TTry X.K cs (fa.2.tb (fa.2.js.map (NdefX.slotAt σ))) H Q'
def AllAsk (cs : List Value) (σ : L2.St) (Hn : Hp) (D : Addr) : List (Addr × AskS X k) → List PyData → Prop
  | [], [] => True
  | fa :: r, d :: ds => OneAsk cs σ Hn D fa d ∧ AllAsk cs σ Hn D r ds
  | _, _ => False
theorem dpAll_snoc {K : PySem.W.Frag} {H : Hp} : ∀ {vs : List V} {ds : List PyData} {v : V} {d : PyData}, DpAll K H vs ds → Dp K H v d → DpAll K H (vs ++ [v]) (ds ++ [d])
  | _, _, _, _, .nil, h => .cons h .nil
  | _, _, _, _, .cons a t, h => .cons a (dpAll_snoc t h)
theorem chain_run {Hn : Hp} {l D : Addr} {all : List V} {Q : VK} (nD : Hn D = none) (hl : Hn l = some (.lst all)) : ∀ (r : List (Addr × AskS X k)) (ds : List PyData) (acc : List V) (dacc : List PyData) (H : Hp), Same Hn H → H D = some (.lst acc) →
    (∀ Hx, But D H Hx → DpAll X.K Hx acc dacc) → AllAsk cs σ Hn D r ds → (∀ H' vs, Same Hn H' → H' D = some (.lst vs) → DpAll X.K H' vs (dacc ++ ds) → Q (.ref D) H') → ChainL X k cs σ l D all Q r acc H
  | [], [], acc, dacc, H, s, hD, hd, _, q => q H acc s hD (by rw [List.append_nil]; exact hd H fun _ _ _ e => e)
  | [], _ :: _, _, _, _, _, _, _, a, _ => a.elim
  | _ :: _, [], _, _, _, _, _, _, a, _ => a.elim
  | (f, a) :: r, d :: ds, acc, dacc, H, s, hD, hd, ⟨h1, h2⟩, q => by
    obtain ⟨la, ht⟩ := h1 H s ⟨acc, hD⟩
    refine ⟨la, ht _ fun H' v s' hv => ⟨s' _ _ (s _ _ hl), s' _ _ hD, ?_⟩⟩
    have sn : Same Hn (upd H' D (.lst (acc ++ [v]))) := fun c o e => (upd_ne (ne_of_none e nD)).trans (s' _ _ (s _ _ e))
    refine chain_run nD hl r ds (acc ++ [v]) (dacc ++ [d]) _ sn upd_same (fun Hx bx => ?_) h2 (fun H2 vs s2 h2 hd2 => q H2 vs s2 h2 (by rw [List.append_assoc] at hd2; exact hd2))
    have b1 : But D H' Hx := fun c o n e => bx c o n ((upd_ne n).trans e)
    exact dpAll_snoc (hd Hx fun c o n e => b1 c o n (s' _ _ e)) (hv Hx b1)
theorem tries_run {H1 : Hp} {l : Addr} {fs : List Addr} {asks : List (AskS X k)} {Q : VK} (ds : List PyData) (hl : H1 l = some (.lst (fs.map V.ref))) (one : ∀ D, H1 D = none → AllAsk cs σ H1 D (fs.zip asks) ds) (q : ∀ H' D, Same H1 H' → H1 D = none → Dp X.K H' (.ref D) (.list ds) → Q (.ref D) H') :
    ∀ D, H1 D = none → ChainL X k cs σ l D (fs.map V.ref) Q (fs.zip asks) [] (upd H1 D (.lst [])) := fun D nD =>
  chain_run nD hl _ ds [] [] _ (same_upd nD) upd_same (fun _ _ => .nil) (one D nD) fun H' vs s hD hd => q H' D s nD (.lst (SqL.of hD) hd)
/-- an ask that raises -/
theorem oneAsk_err {Hn : Hp} {D f : Addr} {a : AskS X k} {mg : Str → Option Value} {C : Addr} {fld z : String} {v : V} {dv : PyData} {c' : Addr} {dV : Value} (T : ErrF X.K mg C fld z cs) (nD : Hn D = none) (la : LamAt Hn f (a.lam c' dV) a.dvs) (hv : Dp X.K Hn v dv)
    (h : ∀ H, Same Hn H → ∀ (E : XK) (Q : VK), (∀ H' d, Same H H' → H' d = none → E (.ref C) (some d) (upd H' d (Err1 fld z v))) → a.tb (a.js.map (NdefX.slotAt σ)) E H Q) : OneAsk cs σ Hn D (f, a) (.tuple [.str (Str.ofString z), dv]) := by
  refine fun H s hD => ⟨⟨c', dV, la.same s⟩, fun Q' q => h H s _ _ fun H' d s' nd => T.tried nd fun H2 p s2 np => ?_⟩
  have st := same_upd (o := HO.tup [.str (Str.ofString z), v]) np
  refine q _ _ (s'.trans (s2.trans st)) fun Hx bx => ?_
  obtain ⟨acc, hD⟩ := hD
  have hpD : p ≠ D := fun e => by
    rw [e, s2 _ _ (s' _ _ hD)] at np
    cases np
  have sx : Same Hn Hx := fun c o e => bx c o (ne_of_none e nD) (st _ _ (s2 _ _ (s' _ _ (s _ _ e))))
  exact .tup (SqT.of (bx _ _ hpD upd_same)) (.cons (.str _) (.cons (Dp.same sx hv) .nil))
/-- an ask that answers -/
theorem oneAsk_ok {Hn : Hp} {D f : Addr} {a : AskS X k} {dv : PyData} {c' : Addr} {dV : Value} (nD : Hn D = none) (la : LamAt Hn f (a.lam c' dV) a.dvs)
    (h : ∀ H, Same Hn H → (∃ acc, H D = some (.lst acc)) → ∀ (E : XK) (Q : VK), (∀ H' v, Same H H' → (∀ Hx, But D H' Hx → Dp X.K Hx v dv) → Q v H') → a.tb (a.js.map (NdefX.slotAt σ)) E H Q) : OneAsk cs σ Hn D (f, a) (.tuple [.str "", dv]) := by
  refine fun H s hD => ⟨⟨c', dV, la.same s⟩, fun Q' q => h H s hD _ _ fun H' v s' hv => ⟨(show 2 ≤ sizeLine by decide), fun p np => ?_⟩⟩
  have st := same_upd (o := HO.tup [.str "", v]) np
  refine q _ _ (s'.trans st) fun Hx bx => ?_
  obtain ⟨acc, hD⟩ := hD
  have hpD : p ≠ D := fun e => by
    rw [e, s' _ _ hD] at np
    cases np
  have b1 : But D H' Hx := fun c o n e => bx c o n (st _ _ e)
  exact .tup (SqT.of (bx _ _ hpD upd_same)) (.cons (.str _) (.cons (hv Hx b1) .nil))
end
end FW
namespace FW
open PySem PySem.Spec PyProof.Rows L2
/-! ### len, repr and bool of own objects -/
section
variable {X : Cx} {CX : CXT} {C f : Addr} {n : Nat} {sp : Sp} {E : XK}
def rOwn1 (C : Addr) (sp : Sp) (E : XK) (ok : V → Prop) : List V → Hp → VK → Prop := fun xs H Q => ∃ a dx fs, xs = [V.ref a] ∧ H a = some (.ins C dx fs) ∧ sp [.ref a] H (fun v H' => ok v ∧ Q v H') E
theorem cr_lenO (hs : PySem.W.findIn X.K (.ref C) "__len__" = some (some (.ref f))) (hf : PySem.W.isFn X.K (.ref f) = true) (F : FnR X.prog X.w X.K X.mg X.base CX n f sp) (hr : Room (n + 1) X.A) (hx : Passes CX X E) :
    CallR X (.builtin "len") (rOwn1 C sp E fun v => ∃ i : Int, v = .int i ∧ 0 ≤ i ∧ i < 2 ^ 63) := by
  intro pins s σ H vs us Q I r h
  obtain ⟨a, dx, fs, rfl, ha, q⟩ := h
  obtain ⟨u, rfl, ru⟩ := L2.vals1 r
  obtain rfl : u = Value.ref a := ru
  obtain ⟨mA, J, _⟩ := ins_get I.hok ha
  obtain ⟨od, J, _⟩ := J.look
  obtain ⟨m, hF⟩ := I.fr
  refine PySem.W.len_K hF I.ok.mod.kin J hs hf ?_
  refine wpAny_mono (wpAny_call (SlX.run_at (us := [.ref a]) (ws := [.ref a]) F hr.in1 I.env0.in1 hx I (.cons rfl .nil) q)) (fun w s' z => ?_) fun _ _ x => x
  obtain ⟨z', H', I', rz, ⟨i, rfl, h0, h1⟩, qz⟩ := z
  obtain ⟨t, rfl⟩ := rz
  exact ⟨⟨h0, h1⟩, .int i, H', I'.tok _, ⟨_, rfl⟩, qz⟩
theorem cr_reprO (hs : PySem.W.findIn X.K (.ref C) "__repr__" = some (some (.ref f))) (hf : PySem.W.isFn X.K (.ref f) = true) (F : FnR X.prog X.w X.K X.mg X.base CX n f sp) (hr : Room (n + 1) X.A) (hx : Passes CX X E) :
    CallR X (.builtin "repr") (rOwn1 C sp E fun v => ∃ z : Str, v = .str z) := by
  intro pins s σ H vs us Q I r h
  obtain ⟨a, dx, fs, rfl, ha, q⟩ := h
  obtain ⟨u, rfl, ru⟩ := L2.vals1 r
  obtain rfl : u = Value.ref a := ru
  obtain ⟨mA, J, _⟩ := ins_get I.hok ha
  obtain ⟨od, J, _⟩ := J.look
  obtain ⟨m, hF⟩ := I.fr
  refine PySem.W.repr_K (by have := hr.in1.un; omega) hF I.ok.mod.kin J hs hf ?_
  refine wpAny_mono (wpAny_call (SlX.run_at (us := [.ref a]) (ws := [.ref a]) F hr.in1 I.env0.in1 hx I (.cons rfl .nil) q)) (fun w s' z => ?_) fun _ _ x => x
  obtain ⟨z', H', I', rz, ⟨z, rfl⟩, qz⟩ := z
  obtain ⟨t, rfl⟩ := rz
  exact ⟨.str z, H', I', ⟨_, rfl⟩, qz⟩
theorem cr_boolO (hs : PySem.W.findIn X.K (.ref C) "__bool__" = some (some (.ref f))) (hf : PySem.W.isFn X.K (.ref f) = true) (F : FnR X.prog X.w X.K X.mg X.base CX n f sp) (hr : Room (n + 2) X.A) (hx : Passes CX X E) :
    CallR X (.type "bool") (rOwn1 C sp E fun v => ∃ b : Bool, v = .bl b) := by
  intro pins s σ H vs us Q I r h
  obtain ⟨a, dx, fs, rfl, ha, q⟩ := h
  obtain ⟨u, rfl, ru⟩ := L2.vals1 r
  obtain rfl : u = Value.ref a := ru
  obtain ⟨mA, J, _⟩ := ins_get I.hok ha
  obtain ⟨od, J, _⟩ := J.look
  obtain ⟨m, hF⟩ := I.fr
  refine callType_newIn PySem.F.called_bool (by decide) (PySem.F.typeCall_bool_1 _) (PySem.F.newCall_bool_1 _) (fun obj => PySem.F.args_object_init_2 obj _) PySem.F.entry_bool_new
    (S := fun A R s => wpAny (model X.prog X.w) A.in1 (truthy (.ref a)) (fun b s' => R (.ok (.ret (.bool b))) s') (fun e s' => R (.error e) s') s) ?_ ?_
  · intro A R s h
    unfold Builtin.«bool.__new__»
    repeat (first | (refine wpAny_bind (m := truthy _) (wpAny_mono h (fun b s' hb => ?_) fun _ _ e => e)) | wp_step)
    exact hb
  · refine PySem.W.truthy_K hF I.ok.mod.kin J hs hf ?_
    refine wpAny_mono (wpAny_call (SlX.run_at (us := [.ref a]) (ws := [.ref a]) F hr.in1.in1 I.env0.in1.in1 hx I (.cons rfl .nil) q)) (fun w s' z => ?_) fun _ _ x => x
    obtain ⟨z', H', I', rz, ⟨b, rfl⟩, qz⟩ := z
    obtain rfl : w = Value.bool b := rz
    exact ⟨PySem.typeIs_bool _ b, .bl b, H', I', rfl, qz⟩
end
end FW
namespace FW
open PySem PySem.Spec PyProof.Rows L2
/-! ### rules with the frag given; methods that take any number of values -/
theorem ix_listE {X : Cx} {K : PySem.W.Frag} (h : X.K = K) : IxR X (rIxL K) := by
  subst h
  exact ix_list
theorem ix_tupE {X : Cx} {K : PySem.W.Frag} (h : X.K = K) : IxR X (rIxT K) := by
  subst h
  exact ix_tup
theorem op_inE {X : Cx} {K : PySem.W.Frag} (h : X.K = K) : OpR X (compareOp .In) (rIn K false) := by
  subst h
  exact op_in_seq
theorem op_notInE {X : Cx} {K : PySem.W.Frag} (h : X.K = K) : OpR X (compareOp .NotIn) (rIn K true) := by
  subst h
  exact op_notIn_seq
theorem sl_tupE {X : Cx} {K : PySem.W.Frag} (h : X.K = K) : SlR X (rSlT K) := by
  subst h
  exact sl_tup
theorem op_catTE {X : Cx} {K : PySem.W.Frag} (h : X.K = K) : OpR X (binaryOp .Add) (rCatT K) := by
  subst h
  exact op_catT
theorem noneS {H H' : Hp} {p : Addr} (s : Same H H') (n : H' p = none) : H p = none := by
  cases z : H p with
  | none => rfl
  | some o =>
    rw [s _ _ z] at n
    cases n
/-- flat values as data -/
def flD : V → PyData
  | .bl b => .bool b
  | .int i => .int i
  | .str z => .str z
  | _ => .none
theorem dp_fl {K : PySem.W.Frag} {H : Hp} {v : V} (h : flatV v = true) : Dp K H v (flD v) := by
  cases v with
  | non => exact .non
  | bl b => exact .bl b
  | int i => exact .int i
  | str z => exact .str z
  | _ => exact absurd (show false = true from h) Bool.false_ne_true
theorem dp_flat {K : PySem.W.Frag} {H : Hp} : ∀ {xs : List V}, xs.all flatV = true → DpAll K H xs (xs.map flD)
  | [], _ => .nil
  | x :: r, h => by
    have h' : (flatV x && r.all flatV) = true := h
    obtain ⟨h1, h2⟩ := Bool.and_eq_true_iff.mp h'
    exact .cons (dp_fl h1) (dp_flat h2)
theorem deep_fl {n : Nat} (v : V) : Deep n (flD v) := by
  cases v <;> first | exact deep_non | exact deep_bool | exact deep_int | exact deep_str
theorem deep_flat {n : Nat} {xs : List V} (h : xs.length ≤ 1000) : Deep (n + 1) (.list (xs.map flD)) := deep_list (by rw [List.length_map]; exact h) fun d hd => by
  obtain ⟨v, _, rfl⟩ := List.mem_map.mp hd
  exact deep_fl v
theorem deep_flatT {n : Nat} {xs : List V} (h : xs.length ≤ 1000) : Deep (n + 1) (.tuple (xs.map flD)) := deep_tup (by rw [List.length_map]; exact h) fun d hd => by
  obtain ⟨v, _, rfl⟩ := List.mem_map.mp hd
  exact deep_fl v
theorem oddX_lstF {K : PySem.W.Frag} {H : Hp} {p : Addr} (xs : List V) (hf : xs.all flatV = true) (h : H p = some (.lst xs)) (hl : xs.length ≤ 100) : OddX K H (.ref p) (.list (xs.map flD)) :=
  ⟨.inr (.inr (.inr (.inr (.inl ⟨p, _, rfl, h⟩)))), .lst (SqL.of h) (dp_flat hf), fun _ => deep_flat (by omega)⟩
theorem oddX_tupF {K : PySem.W.Frag} {H : Hp} {p : Addr} (xs : List V) (hf : xs.all flatV = true) (h : H p = some (.tup xs)) (hl : xs.length ≤ 100) : OddX K H (.ref p) (.tuple (xs.map flD)) :=
  ⟨.inr (.inr (.inr (.inr (.inr ⟨p, _, rfl, h⟩)))), .tup (SqT.of h) (dp_flat hf), fun _ => deep_flatT (by omega)⟩
theorem oddD_lstF {K : PySem.W.Frag} {H : Hp} {b p : Addr} (xs : List V) (hf : xs.all flatV = true) (n : p ≠ b) (h : H p = some (.lst xs)) (hl : xs.length ≤ 100) : OddD K b H (.ref p) (.list (xs.map flD)) := fun H' s => oddX_lstF xs hf (s _ _ n h) hl
theorem oddD_tupF {K : PySem.W.Frag} {H : Hp} {b p : Addr} (xs : List V) (hf : xs.all flatV = true) (n : p ≠ b) (h : H p = some (.tup xs)) (hl : xs.length ≤ 100) : OddD K b H (.ref p) (.tuple (xs.map flD)) := fun H' s => oddX_tupF xs hf (s _ _ n h) hl
/-- asked whether it is a number -/
def AskN (K : PySem.W.Frag) (H : Hp) (v : V) : Prop := isNum v = true ∨ (isNum v = false ∧ NotI K H v)
theorem OddX.askn {K : PySem.W.Frag} {H : Hp} {v : V} {d : PyData} (o : OddX K H v d) : AskN K H v := by
  rcases o.kind with ⟨h, _⟩ | rfl | ⟨i, rfl⟩ | ⟨c, rfl⟩ | ⟨p, xs, rfl, h⟩ | ⟨p, xs, rfl, h⟩
  · obtain ⟨z, rfl⟩ := str_of h
    exact .inr ⟨rfl, "str", .base (.str z), by decide +kernel⟩
  · exact .inr ⟨rfl, "NoneType", .base .non, by decide +kernel⟩
  · exact .inl rfl
  · exact .inl rfl
  · exact .inr ⟨rfl, "list", .base (.lst h), by decide +kernel⟩
  · exact .inr ⟨rfl, "tuple", .base (.tup h), by decide +kernel⟩
section
variable {X : Cx} {CX : CXT} {k j : Nat} {f C : Addr} {sp : Sp} {E : XK} {m : Str} {o e : Expr} {es : List Expr} {ta : TE} {t : TA} {pos apos : Pos}
def tMethR (C : Addr) (m : Str) (sp : Sp) (E : XK) (ta : TE) (t : TA) : TE := fun σ H Q => ta σ H fun x H1 => ∃ a dx fs, x = .ref a ∧ H1 a = some (.ins C dx fs) ∧ fs.lookup m = none ∧ t σ H1 fun vs H2 => sp (V.ref a :: vs) H2 Q E
/-- o.m(e, ..), m told of by what it is called with -/
theorem pe_methR {pl : Sem Bool} (he : PE X o ta) (c : Cls X.K C) (hm : Meth X.K C m f) (F : FnR X.prog X.w X.K X.mg X.base CX k f sp) (hr : Room k X.A) (hx : Passes CX X E) (ha : PA X (e :: es) t)
    (hst : starEach (e :: es) X.env = (false, eval e X.env) :: starEach es X.env := by rfl) (hpl : (backTo pos (starEach es X.env)).any (·.1) = false := by rfl)
    (ht : eval (.Call (.Attribute o m apos) (e :: es) [] pos) X.env = (do
      let ov ← eval o X.env
      standAt apos.atName
      let (f, first) ← holding [ov] (getMethod ov m pl)
      callWith pos f first (backTo pos (starEach (e :: es) X.env)) (backToKw pos (keywordEach [] X.env))) := by rfl) :
    PE X (.Call (.Attribute o m apos) (e :: es) [] pos) (tMethR C m sp E ta t) := by
  refine ⟨fun pins s σ H Q I h => ?_⟩
  refine PySem.W.methodCall_KW (pl := pl) (thn (he.run pins s σ H _ I h) fun u s1 ⟨x, H1, I1, rx, a, dx, fs, ex, ea, l, q⟩ => ?_) ht
  subst ex
  obtain rfl : u = Value.ref a := rx
  refine getmeth_ok I1 ea c hm l ?_
  refine PySem.W.callWith_K (first := [.ref a]) (h₀ := X.base) I.ok.mod.kin hm.kp (thn (ha.run pos pins s1 σ H1 _ I1 q) fun us s2 ⟨vs, H2, I2, r, q2⟩ => ⟨I2.kIn, ?_⟩) hst hpl
  exact wpAny_call (L2.run_fnR (us := .ref a :: us) (vs := .ref a :: vs) F hr hx I2 (.cons rfl r) q2)
/-- o.m() -/
theorem pe_methR0 {pl : Sem Bool} (he : PE X o ta) (c : Cls X.K C) (hm : Meth X.K C m f) (F : FnR X.prog X.w X.K X.mg X.base CX k f sp) (hr : Room k X.A) (hx : Passes CX X E)
    (ht : eval (.Call (.Attribute o m apos) [] [] pos) X.env = (do
      let ov ← eval o X.env
      standAt apos.atName
      let (f, first) ← holding [ov] (getMethod ov m pl)
      callWith pos f first (backTo pos (starEach [] X.env)) (backToKw pos (keywordEach [] X.env))) := by rfl) :
    PE X (.Call (.Attribute o m apos) [] [] pos) (tMethR C m sp E ta tNil) := by
  refine ⟨fun pins s σ H Q I h => ?_⟩
  refine PySem.W.methodCall_KW (pl := pl) (thn (he.run pins s σ H _ I h) fun u s1 ⟨x, H1, I1, rx, a, dx, fs, ex, ea, l, q⟩ => ?_) ht
  subst ex
  obtain rfl : u = Value.ref a := rx
  refine getmeth_ok I1 ea c hm l ?_
  exact PySem.W.callWith_K0 (first := [.ref a]) I1.kIn hm.kp (wpAny_call (L2.run_fnR (us := [.ref a]) (vs := [.ref a]) F hr hx I1 (.cons rfl .nil) q))
structure MCalR (P : Program) (w : World) (K : PySem.W.Frag) (mg : Str → Option Value) (base : Heap) (CX : CXT) (C : Addr) (k : Nat) (m : Str) (sp : Sp) : Prop where
  ex : ∃ f : Addr, Meth K C m f ∧ FnR P w K mg base CX k f sp
theorem pe_mR {pl : Sem Bool} (c : MCalR X.prog X.w X.K X.mg X.base CX0 C k m sp) (hC : Cls X.K C) (hr : Room j X.A) (hk : k ≤ j) (he : PE X o ta) (ha : PA X (e :: es) t)
    (hst : starEach (e :: es) X.env = (false, eval e X.env) :: starEach es X.env := by rfl) (hpl : (backTo pos (starEach es X.env)).any (·.1) = false := by rfl)
    (ht : eval (.Call (.Attribute o m apos) (e :: es) [] pos) X.env = (do
      let ov ← eval o X.env
      standAt apos.atName
      let (f, first) ← holding [ov] (getMethod ov m pl)
      callWith pos f first (backTo pos (starEach (e :: es) X.env)) (backToKw pos (keywordEach [] X.env))) := by rfl) :
    PE X (.Call (.Attribute o m apos) (e :: es) [] pos) (tMethR C m sp E0 ta t) := by
  obtain ⟨f, hm, F⟩ := c.ex
  exact pe_methR he hC hm F (hr.mono hk) pass0 ha hst hpl ht
theorem pe_mR0 {pl : Sem Bool} (c : MCalR X.prog X.w X.K X.mg X.base CX0 C k m sp) (hC : Cls X.K C) (hr : Room j X.A) (hk : k ≤ j) (he : PE X o ta)
    (ht : eval (.Call (.Attribute o m apos) [] [] pos) X.env = (do
      let ov ← eval o X.env
      standAt apos.atName
      let (f, first) ← holding [ov] (getMethod ov m pl)
      callWith pos f first (backTo pos (starEach [] X.env)) (backToKw pos (keywordEach [] X.env))) := by rfl) :
    PE X (.Call (.Attribute o m apos) [] [] pos) (tMethR C m sp E0 ta tNil) := by
  obtain ⟨f, hm, F⟩ := c.ex
  exact pe_methR0 he hC hm F (hr.mono hk) pass0 ht
theorem pe_mRx {pl : Sem Bool} (c : MCalR X.prog X.w X.K X.mg X.base CX C k m sp) (hC : Cls X.K C) (hr : Room j X.A) (hk : k ≤ j) (hx : Passes CX X E) (he : PE X o ta) (ha : PA X (e :: es) t)
    (hst : starEach (e :: es) X.env = (false, eval e X.env) :: starEach es X.env := by rfl) (hpl : (backTo pos (starEach es X.env)).any (·.1) = false := by rfl)
    (ht : eval (.Call (.Attribute o m apos) (e :: es) [] pos) X.env = (do
      let ov ← eval o X.env
      standAt apos.atName
      let (f, first) ← holding [ov] (getMethod ov m pl)
      callWith pos f first (backTo pos (starEach (e :: es) X.env)) (backToKw pos (keywordEach [] X.env))) := by rfl) :
    PE X (.Call (.Attribute o m apos) (e :: es) [] pos) (tMethR C m sp E ta t) := by
  obtain ⟨f, hm, F⟩ := c.ex
  exact pe_methR he hC hm F (hr.mono hk) hx ha hst hpl ht
end
end FW
/-! list(text) -/
namespace FW
open PySem PySem.Spec PyProof.Rows L2
def rListS : List V → Hp → VK → Prop := fun xs H Q => ∃ z : Str, xs = [V.str z] ∧ z.cps.size ≤ sizeLine ∧ ∀ p, H p = none → Q (.ref p) (upd H p (.lst (z.cps.toList.map sgn)))
theorem call_listS {X : Cx} (hc : X.calm = true) : CallR X (.type "list") rListS := by
  intro pins s σ H xs us Q I r h
  obtain ⟨z, rfl, hz, q⟩ := h
  obtain ⟨u, rfl, t, rfl⟩ := vals1 r
  refine call_list_str (I.ok.hd hc) z t (hn := hz) fun h' tk acc' c' kp hS hacc => ?_
  refine ⟨.ref s.heap.objs.size, upd H s.heap.objs.size (.lst (z.cps.toList.map sgn)), I.laid kp (Nat.le_refl _) (show ObjOk X.prog X.w _ _ _ (.lst (z.cps.toList.map sgn)) from ⟨?_, acc'.toList, c', ?_, ?_⟩), rfl, q _ (I.hok.fresh (Nat.le_refl _))⟩
  · rw [List.length_map]
    exact hz
  · refine vals_of_at (by rw [List.length_map]; simp [hacc.1]) fun j x w h1 h2 => ?_
    obtain ⟨c, y, hc', rfl⟩ := hacc.2 j w (by rw [← Array.getElem?_toList]; exact h2)
    rw [List.getElem?_map, Array.getElem?_toList, hc'] at h1
    cases h1
    exact ⟨y, rfl⟩
  · rw [Array.toArray_toList]
    exact hS
end FW
/-! list(range(n)) -/
namespace FW
open PySem PySem.Spec PyProof.Rows L2
def tListRng (ta : TA) : TE := fun σ H Q => ta σ H fun vs H1 => ∃ n : Nat, vs = [.int (n : Int)] ∧ n ≤ 100000 ∧ ∀ p, H1 p = none → Q (.ref p) (upd H1 p (.lst ((List.range n).map fun i : Nat => V.int (i : Int))))
theorem pe_listRange1 {X : Cx} {a : Expr} {ta : TA} {p q pos cpos : Pos} (hc : X.calm = true) (hg : Gl X "list") (hm : X.mg "list" = none) (hv : bootBuiltins "list" = some (.type "list")) (hg2 : Gl X "range") (hm2 : X.mg "range" = none) (ha : PA X [a] ta)
    (hs2 : starEach [a] X.env = [(false, eval a X.env)] := by rfl)
    (hs : starEach [.Call (.Name "range" q) [a] [] cpos] X.env = (false, eval (.Call (.Name "range" q) [a] [] cpos) X.env) :: starEach [] X.env := by rfl) :
    PE X (.Call (.Name "list" p) [.Call (.Name "range" q) [a] [] cpos] [] pos) (tListRng ta) := by
  refine ⟨fun pins s σ H Q I hq => ?_⟩
  refine wpAny_Call_Name_kw (ld_blt I hg hm hv ?_)
  refine PyProof.Rows.callWith_type1 ?_ hs rfl
  rw [hs]
  show wpAny _ _ (spliced ((false, eval (.Call (.Name "range" q) [a] [] cpos) X.env) :: backTo pos (starEach [] X.env))) _ _ s
  refine Calls.spliced_cons ?_
  refine Call_ (ld_blt I hg2 hm2 boot_range (PyProof.Rows.callWith_type1 (thn (ha.run cpos pins s σ H _ I hq) fun us s1 ⟨vs, H1, I1, r1, q1⟩ => ?_) hs2 rfl))
  obtain ⟨n, e, hn, q⟩ := q1
  subst e
  cases r1 with
  | cons r rr =>
    cases rr
    obtain ⟨t, rfl⟩ := r
    refine call_range_1 ?_
    have I2 : Inv X pins σ H1 { s1 with heap := s1.heap.push { cls := .type "range", data := .fields #[.int 0 s1.toks, .int (n : Int) t, .int 1 (s1.toks + 1)] }, toks := s1.toks + 1 + 1 } := I1.kept fun b o e => Heap.get?_push_of_some _ e
    refine Calls.spliced_nil ?_
    refine call_list_range (n := n) (I2.ok.hd hc) (IsRange.new ..) (small_one (by omega) (by omega) (by omega) (by omega)) (by rw [rangeSize_one]; split <;> omega) (by omega) fun h' tk acc' c' hk hS hacc => ?_
    refine ⟨.ref _, _, I2.laid hk (Nat.le_refl _) (show ObjOk X.prog X.w _ _ _ (.lst ((List.range n).map fun i : Nat => V.int (i : Int))) from ⟨?_, acc'.toList, c', ?_, ?_⟩), rfl, q _ (I2.hok.fresh (Nat.le_refl _))⟩
    · rw [List.length_map, List.length_range]
      exact sz hn
    · refine vals_of_at (by rw [List.length_map, List.length_range]; simp [hacc.1]) fun j x w h1 h2 => ?_
      obtain ⟨y, hy⟩ := hacc.2 j w (by rw [← Array.getElem?_toList]; exact h2)
      rw [List.getElem?_map] at h1
      obtain ⟨i, hi, rfl⟩ := Option.map_eq_some_iff.mp h1
      obtain ⟨h3, h4⟩ := List.getElem?_eq_some_iff.mp hi
      rw [List.getElem_range] at h4
      subst h4
      rw [hy]
      exact ⟨y, by simp⟩
    · rw [Array.toArray_toList]
      exact hS
theorem sl_listE {X : Cx} {K : PySem.W.Frag} (h : X.K = K) : SlR X (rSlL K) := by
  subst h
  exact sl_list
end FW
/-! what stays, for laws with lambdas -/
namespace FW
open PySem PySem.Spec PyProof.Rows L2
theorem Bag.ext {H H' : Hp} {b l : Addr} (B : Bag H b l) (e : LamX.ExtN H H') : Bag H' b l := by
  obtain ⟨ns, i, r, m, c, h1, h2, q⟩ := B
  exact ⟨ns, i, r, m, c, e _ _ h1 (fun _ z => by cases z), e _ _ h2 (fun _ z => by cases z), q⟩
theorem tabs_drawn {T : List (Addr × Str)} {H H' : Hp} {b l : Addr} (t : LamX.Tabs T H) (B : Bag H b l) (s : But b H H') : LamX.Tabs T H' := fun p hp => by
  obtain ⟨xs, hb⟩ := B.la
  obtain ⟨ps, h1, h2, h3⟩ := t p hp
  refine ⟨ps, s _ _ (fun z => ?_) h1, h2, fun pos cv hc => ?_⟩
  · rw [z, hb] at h1
    cases h1
  · obtain ⟨c, e1, e2⟩ := h3 pos cv hc
    refine ⟨c, e1, s _ _ (fun z => ?_) e2⟩
    rw [z, hb] at e2
    cases e2
theorem ErrF.caught {K : PySem.W.Frag} {mg : Str → Option Value} {C : Addr} {f z : String} {cs : List Value} {H1 : Hp} {v : V} {d a : Addr} (T : ErrF K mg C f z cs) (nd : H1 d = none) (na : (upd H1 d (Err1 f z v)) a = none) : Caught K (upd (upd H1 d (Err1 f z v)) a (ExK (.ref C) (some d) a)) a (Str.ofString z) v := by
  obtain ⟨fI, k⟩ := T.kls
  have hne : d ≠ a := fun e => by
    rw [← e, upd_same] at na
    cases na
  exact ⟨C, d, _, upd_same, (upd_ne hne).trans upd_same, k.xf, k.ncode, rfl, T.fi v⟩
theorem dTI {n : Nat} (z : Str) (d : PyData) (h : Deep (n + 1) d) : Deep (n + 2) (.tuple [.str z, d]) := deep_tup (show 2 ≤ 1000 by decide) fun d' hd => by
  simp only [List.mem_cons, List.not_mem_nil, or_false] at hd
  rcases hd with rfl | rfl
  · exact deep_str
  · exact h
theorem take_some {α : Type} {l : List α} {k i : Nat} {x : α} (h : (l.take k)[i]? = some x) : l[i]? = some x := by
  have hi : i < k := by
    have := (List.getElem?_eq_some_iff.mp h).1
    rw [List.length_take] at this
    omega
  rwa [List.getElem?_take_of_lt hi] at h
theorem made_keep {H : Hp} {x dx : Addr} {o1 o2 : HO} (nx : H x = none) (nd : H dx = none) : Same H (upd (upd H dx o1) x o2) := fun z o hz => (upd_ne (ne_of_none hz nx)).trans ((upd_ne (ne_of_none hz nd)).trans hz)
theorem cutV_fromB {xs : List V} {k : Nat} (h : k ≤ xs.length) : cutV xs (some (k : Int)) none = xs.drop k := by
  unfold cutV
  rw [HT.sIx_none, show HT.sIx xs.length 0 (some (k : Int)) = min k xs.length from HT.sIx_nat xs.length 0 k, Nat.min_eq_left h, List.take_of_length_le]
  rw [List.length_drop]
  exact Nat.le_refl _
end FW
/-! a tuple so many times, once also -/
namespace FW
open PySem PySem.Spec PyProof.Rows L2
theorem tuple_mul1 (l : Addr) (items : Array Value) (n : Nat) (dd : Option Addr) (sl : Array (Option Value)) (u : Tok) (c1 : (items.isEmpty || (1 : Int) == 1) = true) :
    Meets (Builtin.«tuple.__mul__» ⟨[.ref l, .int 1 u], []⟩) (fun _ R s => s.heap.get? l = some { cls := .type "tuple", dict := dd, data := .seq items n, slots := sl } ∧ R (.ok (.ret (Value.ref l))) s) :=
  .of_wp fun prog w A R s h => by
    obtain ⟨hp, g, d, tk, os⟩ := s
    obtain ⟨hl, h⟩ := h
    have f1 := AutoSeq1.idx_int
    wp_walk using wpAny_loadPart' hl
    exact ⟨_, rfl, h⟩
def rRepTA (K : PySem.W.Frag) : R2 := fun x y H Q => ∃ l k xs, x = .ref l ∧ y = .int k ∧ SqT K H l xs ∧ xs ≠ [] ∧ 1 ≤ k ∧ k ≤ 1000 ∧ xs.length ≤ 1000 ∧ ∀ H' p, Same H H' → SqT K H' p (List.replicate k.toNat xs).flatten → Q (.ref p) H'
theorem op_repTA {X : Cx} : OpR X (binaryOp .Mult) (rRepTA X.K) := by
  intro pins s σ H x y v u Q I rx ry h
  obtain ⟨l, k, xs, rfl, rfl, hT, hne, h1, h2, hz, q⟩ := h
  by_cases hk : 2 ≤ k
  · exact op_repT _ _ _ _ _ _ _ _ _ I rx ry ⟨l, k, xs, rfl, rfl, hT, hne, hk, h2, hz, fun p np => q _ p (same_upd np) (SqT.of upd_same)⟩
  have k1 : k = 1 := by omega
  subst k1
  cases rx
  obtain ⟨t, rfl⟩ := ry
  obtain ⟨its, r, ⟨⟨cls, dd, data, sl⟩, ho, hc, n, hd⟩, hs⟩ := I.tuple hT
  simp only at hc hd
  subst hc hd
  have c1 : (its.toArray.isEmpty || (1 : Int) == 1) = true := by
    rw [show ((1 : Int) == 1) = true from rfl, Bool.or_true]
  refine wpAny_binaryOp_repeat_ref (T := "tuple") (U := "int") (by decide) ⟨_, ho, rfl⟩ (fun s' => typeIs_int s' 1 t) noFill_tuple_mul PySem.F.fills_int_mul PySem.F.slot_int_rmul repeat_tuple PySem.F.slot_int_index.lookup
    (call_meets PySem.F.slot_int_rmul (typeIs_int s 1 t) PySem.F.entry_int_rmul (PySem.F.args_int_rmul_2 _ _) (int_rmul_tuple 1 t l its.toArray n dd sl)
      ⟨ho, rfl, ⟨_, ho, rfl⟩, call_meets PySem.F.slot_tuple_mul ⟨_, ho, rfl⟩ PySem.F.entry_tuple_mul (PySem.F.args_tuple_mul_2 _ _) (tuple_mul1 l its.toArray n dd sl t c1) ⟨ho, ?_⟩⟩)
  refine ⟨.ref l, H, I, rfl, q H l (Same.refl H) ?_⟩
  rw [show (List.replicate (1 : Int).toNat xs).flatten = xs from by
    show (List.replicate 1 xs).flatten = xs
    simp]
  exact hT
end FW
/-! a op b and v in a, by the class's own methods -/
namespace FW
open PySem PySem.Spec PyProof.Rows L2
section
variable {X : Cx} {CX : CXT} {C f : Addr} {n j k : Nat} {sp : Sp} {E : XK}
def rOwnB (C : Addr) (sp : Sp) (E : XK) : R2 := fun x y H Q => ∃ a dx fs, x = .ref a ∧ H a = some (.ins C dx fs) ∧ Kd H y (.ref C) ∧ sp [x, y] H Q E
theorem op_binI {op : Operator} (hs : PySem.W.findIn X.K (.ref C) (PySem.dunder op.info.2) = some (some (.ref f))) (hf : PySem.W.isFn X.K (.ref f) = true) (hc : PySem.W.selfFirst X.K C = true) (F : FnR X.prog X.w X.K X.mg X.base CX n f sp)
    (hr : Room n X.A) (hx : Passes CX X E) : OpR X (binaryOp op) (rOwnB C sp E) := by
  intro pins s σ H x y v u Q I rx ry h
  obtain ⟨a, dx, fs, rfl, ha, kd, q⟩ := h
  cases (show v = Value.ref a from rx)
  obtain ⟨mA, J, _⟩ := ins_get I.hok ha
  obtain ⟨od, J, _⟩ := J.look
  obtain ⟨m, hF⟩ := I.fr
  refine PySem.W.binop_K hF I.ok.mod.kin J (looks_kd I ry kd) hc hs hf ?_
  refine wpAny_mono (wpAny_call (run_fnR (us := [.ref a, u]) (vs := [.ref a, y]) F hr hx I (.cons rfl (.cons ry .nil)) q)) (fun w s' z => ?_) fun _ _ x => x
  obtain ⟨z', H', I', rz, qz⟩ := z
  exact SlX.cmpback rz ⟨z', H', I', rz, qz⟩
def rOwnIn (C : Addr) (sp : Sp) (E : XK) (neg : Bool) : R2 := fun x y H Q => ∃ a dx fs, y = .ref a ∧ H a = some (.ins C dx fs) ∧ sp [y, x] H (fun v H' => ∃ c : Bool, v = .bl c ∧ Q (.bl (c != neg)) H') E
theorem op_inI (hs : PySem.W.findIn X.K (.ref C) "__contains__" = some (some (.ref f))) (hf : PySem.W.isFn X.K (.ref f) = true) (F : FnR X.prog X.w X.K X.mg X.base CX n f sp)
    (hr : Room n X.A) (hx : Passes CX X E) : OpR X (compareOp .In) (rOwnIn C sp E false) := by
  intro pins s σ H x y v u Q I rx ry h
  obtain ⟨a, dx, fs, rfl, ha, q⟩ := h
  cases (show u = Value.ref a from ry)
  obtain ⟨mA, J, _⟩ := ins_get I.hok ha
  obtain ⟨od, J, _⟩ := J.look
  obtain ⟨m, hF⟩ := I.fr
  refine PySem.W.in_K hF I.ok.mod.kin J hs hf ?_
  refine wpAny_mono (wpAny_call (run_fnR (us := [.ref a, v]) (vs := [.ref a, x]) F hr hx I (.cons rfl (.cons rx .nil)) q)) (fun w s' z => ?_) fun _ _ x => x
  obtain ⟨z', H', I', rz, c, rfl, qz⟩ := z
  obtain rfl : w = Value.bool c := rz
  refine wpAny_truthy_bool ⟨.bl c, H', I', rfl, ?_⟩
  cases c <;> exact qz
theorem op_notInI (hs : PySem.W.findIn X.K (.ref C) "__contains__" = some (some (.ref f))) (hf : PySem.W.isFn X.K (.ref f) = true) (F : FnR X.prog X.w X.K X.mg X.base CX n f sp)
    (hr : Room n X.A) (hx : Passes CX X E) : OpR X (compareOp .NotIn) (rOwnIn C sp E true) := by
  intro pins s σ H x y v u Q I rx ry h
  obtain ⟨a, dx, fs, rfl, ha, q⟩ := h
  cases (show u = Value.ref a from ry)
  obtain ⟨mA, J, _⟩ := ins_get I.hok ha
  obtain ⟨od, J, _⟩ := J.look
  obtain ⟨m, hF⟩ := I.fr
  refine PySem.W.notIn_K hF I.ok.mod.kin J hs hf ?_
  refine wpAny_mono (wpAny_call (run_fnR (us := [.ref a, v]) (vs := [.ref a, x]) F hr hx I (.cons rfl (.cons rx .nil)) q)) (fun w s' z => ?_) fun _ _ x => x
  obtain ⟨z', H', I', rz, c, rfl, qz⟩ := z
  obtain rfl : w = Value.bool c := rz
  refine wpAny_truthy_bool ⟨.bl (!c), H', I', rfl, ?_⟩
  cases c <;> exact qz
end
/-- what a class of one's own says of a binary operator -/
structure OwnB (P : Program) (w : World) (K : PySem.W.Frag) (mg : Str → Option Value) (base : Heap) (C : Addr) (op : Operator) (k : Nat) (sp : Sp) : Prop where
  ex : ∃ f : Addr, PySem.W.findIn K (.ref C) (PySem.dunder op.info.2) = some (some (.ref f)) ∧ PySem.W.isFn K (.ref f) = true ∧ FnR P w K mg base CX0 k f sp
  sf : PySem.W.selfFirst K C = true
theorem op_binO {X : Cx} {C : Addr} {op : Operator} {k j : Nat} {sp : Sp} (o : OwnB X.prog X.w X.K X.mg X.base C op k sp) (hr : Room j X.A) (hk : k ≤ j) : OpR X (binaryOp op) (rOwnB C sp E0) := by
  obtain ⟨f, h1, h2, F⟩ := o.ex
  exact op_binI h1 h2 o.sf F (hr.mono hk) pass0
end FW
/-! fractions in lowest terms -/
namespace FW
open PySem PySem.Spec PyProof.Rows L2
def gcdI (t b : Int) : Int := ((Nat.gcd t.natAbs b.natAbs : Nat) : Int)
def byI (t b : Int) : Int := if b < 0 then -(gcdI t b) else gcdI t b
def low (t b : Int) : Int × Int := (t.fdiv (byI t b), b.fdiv (byI t b))
theorem gcdI_pos {t b : Int} (h : b ≠ 0) : 0 < gcdI t b := by
  have : 0 < Nat.gcd t.natAbs b.natAbs := Nat.gcd_pos_of_pos_right _ (by omega)
  unfold gcdI
  omega
theorem byI_ne {t b : Int} (h : b ≠ 0) : byI t b ≠ 0 := by
  have := gcdI_pos (t := t) h
  unfold byI
  split <;> omega
theorem gcdI_le {t b : Int} (h : b ≠ 0) : (gcdI t b).natAbs ≤ b.natAbs := by
  have : Nat.gcd t.natAbs b.natAbs ≤ b.natAbs := Nat.gcd_le_right _ (by omega)
  unfold gcdI
  omega
theorem byI_le {t b : Int} (h : b ≠ 0) : (byI t b).natAbs ≤ b.natAbs := by
  have := gcdI_le (t := t) h
  unfold byI
  split <;> omega
/-- what lowest terms are -/
structure Low (t b : Int) : Prop where
  pos : 0 < b
  cop : Nat.gcd t.natAbs b.natAbs = 1
theorem low_mk {t b : Int} (h : b ≠ 0) : Low (low t b).1 (low t b).2 ∧ t = byI t b * (low t b).1 ∧ b = byI t b * (low t b).2 := by
  have gp := gcdI_pos (t := t) h
  obtain ⟨u, hu⟩ : ((Nat.gcd t.natAbs b.natAbs : Nat) : Int) ∣ t := Int.ofNat_dvd_left.mpr (Nat.gcd_dvd_left _ _)
  obtain ⟨v, hv⟩ : ((Nat.gcd t.natAbs b.natAbs : Nat) : Int) ∣ b := Int.ofNat_dvd_left.mpr (Nat.gcd_dvd_right _ _)
  have eu : t.natAbs = Nat.gcd t.natAbs b.natAbs * u.natAbs := by
    have := congrArg Int.natAbs hu
    rwa [Int.natAbs_mul, Int.natAbs_natCast] at this
  have ev : b.natAbs = Nat.gcd t.natAbs b.natAbs * v.natAbs := by
    have := congrArg Int.natAbs hv
    rwa [Int.natAbs_mul, Int.natAbs_natCast] at this
  have hg : Nat.gcd t.natAbs b.natAbs = Nat.gcd t.natAbs b.natAbs * Nat.gcd u.natAbs v.natAbs := by
    have := Nat.gcd_mul_left (Nat.gcd t.natAbs b.natAbs) u.natAbs v.natAbs
    rw [← eu, ← ev] at this
    exact this
  have hgp : 0 < Nat.gcd t.natAbs b.natAbs := Nat.gcd_pos_of_pos_right _ (by omega)
  have hc : Nat.gcd u.natAbs v.natAbs = 1 := Nat.eq_of_mul_eq_mul_left hgp (by rw [← hg, Nat.mul_one])
  have hgd : gcdI t b = ((Nat.gcd t.natAbs b.natAbs : Nat) : Int) := rfl
  rw [← hgd] at hu hv
  by_cases hb : b < 0
  · have e : byI t b = -(gcdI t b) := by unfold byI; rw [if_pos hb]
    have e1 : (low t b).1 = -u := by
      show t.fdiv (byI t b) = -u
      rw [e]
      have : t = -(gcdI t b) * (-u) := by rw [Int.neg_mul_neg]; exact hu
      conv => lhs; arg 1; rw [this]
      exact Int.mul_fdiv_cancel_left _ (by omega)
    have e2 : (low t b).2 = -v := by
      show b.fdiv (byI t b) = -v
      rw [e]
      have : b = -(gcdI t b) * (-v) := by rw [Int.neg_mul_neg]; exact hv
      conv => lhs; arg 1; rw [this]
      exact Int.mul_fdiv_cancel_left _ (by omega)
    rw [e1, e2, e]
    refine ⟨⟨?_, by rw [Int.natAbs_neg, Int.natAbs_neg]; exact hc⟩, by rw [Int.neg_mul_neg]; exact hu, by rw [Int.neg_mul_neg]; exact hv⟩
    have : gcdI t b * v < 0 := by omega
    have hv0 : v < 0 := by
      rcases Int.lt_or_le v 0 with h1 | h1
      · exact h1
      · have := Int.mul_nonneg (Int.le_of_lt gp) h1
        omega
    omega
  · have e : byI t b = gcdI t b := by unfold byI; rw [if_neg hb]
    have e1 : (low t b).1 = u := by
      show t.fdiv (byI t b) = u
      rw [e]
      conv => lhs; arg 1; rw [hu]
      exact Int.mul_fdiv_cancel_left _ (by omega)
    have e2 : (low t b).2 = v := by
      show b.fdiv (byI t b) = v
      rw [e]
      conv => lhs; arg 1; rw [hv]
      exact Int.mul_fdiv_cancel_left _ (by omega)
    rw [e1, e2, e]
    refine ⟨⟨?_, hc⟩, hu, hv⟩
    have : 0 < gcdI t b * v := by omega
    rcases Int.lt_or_le 0 v with h1 | h1
    · exact h1
    · have := Int.mul_nonpos_of_nonneg_of_nonpos (Int.le_of_lt gp) h1
      omega
theorem low_le {t b : Int} (h : b ≠ 0) : (low t b).1.natAbs ≤ t.natAbs ∧ (low t b).2.natAbs ≤ b.natAbs := by
  obtain ⟨_, h1, h2⟩ := low_mk (t := t) h
  have hb := byI_ne (t := t) h
  have p : 1 ≤ (byI t b).natAbs := by omega
  constructor
  · conv => rhs; rw [h1]
    rw [Int.natAbs_mul]
    exact Nat.le_mul_of_pos_left _ p
  · conv => rhs; rw [h2]
    rw [Int.natAbs_mul]
    exact Nat.le_mul_of_pos_left _ p
theorem low_scale {t b m : Int} (h : Low t b) (hm : 0 < m) : low (t * m) (b * m) = (t, b) := by
  have hp : 0 < b * m := Int.mul_pos h.pos hm
  have e : byI (t * m) (b * m) = m := by
    unfold byI gcdI
    rw [if_neg (by omega), Int.natAbs_mul, Int.natAbs_mul, Nat.gcd_mul_right, h.cop, Nat.one_mul]
    omega
  unfold low
  rw [e, Int.mul_fdiv_cancel _ (by omega), Int.mul_fdiv_cancel _ (by omega)]
theorem low_low {t b : Int} (h : b ≠ 0) : low (low t b).1 (low t b).2 = low t b := by
  have := low_scale (low_mk (t := t) h).1 (show (0 : Int) < 1 by decide)
  rwa [Int.mul_one, Int.mul_one] at this
/-- Euclid's turns -/
structure Euc (g : Nat) (i : Nat) (a b : Nat) : Prop where
  gcd : Nat.gcd a b = g
  la : a < 2 ^ 128
  lb : b < 2 ^ 128
  dec : i = 0 ∨ (b ≤ a ∧ a * b * 2 ^ (i - 1) ≤ 2 ^ 256)
theorem Euc.start {a b : Nat} (ha : a < 2 ^ 128) (hb : b < 2 ^ 128) : Euc (Nat.gcd a b) 0 a b := ⟨rfl, ha, hb, .inl rfl⟩
theorem Euc.next {g i a b : Nat} (e : Euc g i a b) (hb : 0 < b) : Euc g (i + 1) b (a % b) := by
  have hm : a % b < b := Nat.mod_lt _ hb
  refine ⟨by rw [← e.gcd, Nat.gcd_comm a b, Nat.gcd_rec b a, Nat.gcd_comm], e.lb, Nat.lt_trans hm e.lb, .inr ⟨Nat.le_of_lt hm, ?_⟩⟩
  rw [Nat.add_sub_cancel]
  rcases e.dec with h0 | ⟨hle, h⟩
  · subst h0
    rw [Nat.pow_zero, Nat.mul_one]
    have h1 : b * (a % b) ≤ 2 ^ 128 * 2 ^ 128 := Nat.mul_le_mul (Nat.le_of_lt e.lb) (Nat.le_of_lt (Nat.lt_trans hm e.lb))
    rwa [← Nat.pow_add] at h1
  · rcases Nat.eq_zero_or_pos i with hi | hi
    · subst hi
      rw [Nat.pow_zero, Nat.mul_one]
      have h1 : b * (a % b) ≤ 2 ^ 128 * 2 ^ 128 := Nat.mul_le_mul (Nat.le_of_lt e.lb) (Nat.le_of_lt (Nat.lt_trans hm e.lb))
      rwa [← Nat.pow_add] at h1
    · obtain ⟨j, rfl⟩ : ∃ j, i = j + 1 := ⟨i - 1, by omega⟩
      rw [Nat.add_sub_cancel] at h
      have h2 : 2 * (a % b) ≤ a := by
        have h3 := Nat.div_add_mod a b
        have h4 : 1 ≤ a / b := (Nat.one_le_div_iff hb).mpr hle
        have h5 : b * 1 ≤ b * (a / b) := Nat.mul_le_mul_left b h4
        omega
      calc b * (a % b) * 2 ^ (j + 1) = b * (2 * (a % b)) * 2 ^ j := by
            rw [Nat.pow_succ]
            rw [Nat.mul_comm (2 ^ j) 2, ← Nat.mul_assoc, Nat.mul_assoc b, Nat.mul_comm (a % b) 2]
        _ ≤ b * a * 2 ^ j := Nat.mul_le_mul_right _ (Nat.mul_le_mul_left b h2)
        _ = a * b * 2 ^ j := by rw [Nat.mul_comm b a]
        _ ≤ 2 ^ 256 := h
theorem Euc.last {g a b : Nat} (e : Euc g 4000 a b) : a = g := by
  rcases e.dec with h | ⟨hle, h⟩
  · cases h
  · have hb : b = 0 := by
      rcases Nat.eq_zero_or_pos b with h0 | h0
      · exact h0
      · have h1 : 1 * 2 ^ 3999 ≤ a * b * 2 ^ (4000 - 1) := Nat.mul_le_mul_right _ (Nat.mul_pos (Nat.lt_of_lt_of_le h0 hle) h0)
        have h2 : (2 : Nat) ^ 3999 ≤ 2 ^ 256 := by
          rw [Nat.one_mul] at h1
          exact Nat.le_trans h1 h
        exact absurd ((Nat.pow_le_pow_iff_right (by decide : 1 < 2)).mp h2) (by decide)
    rw [← e.gcd, hb, Nat.gcd_zero_right]
theorem Euc.done {g i a : Nat} (e : Euc g i a 0) : a = g := by rw [← e.gcd, Nat.gcd_zero_right]
def CDivN9 (i j : Int) : Prop := j ≠ 0 ∧ j.natAbs < 2 ^ 128
theorem op_fdivN9 {X : Cx} : OpR X (binaryOp .FloorDiv) (rI CDivN9 fun i j => .int (i.fdiv j)) := opI fun _ _ _ _ _ _ _ hc q => floordiv_int hc.1 q (.inl (PyProof.noPylong_of_log2 (Nat.lt_of_lt_of_le (PySem.Flt.log2_lt_of (k := 128) (by decide) hc.2) (by decide))))
end FW
/-! a def with one default that raises nothing -/
namespace FW
open PySem PySem.Spec PyProof.Rows L2
section
variable {P : Program} {w : World} {K : PySem.W.Frag} {mg : Str → Option Value} {base : Heap} {x qual : Str} {params : Arguments} {body : List Stmt} {scope : Scope} {dvs : List V} {kws : List (Str × V)} {f : Addr} {fd : FuncData}
theorem fund_ok0 {N ps : List Str} {k : Nat} {sp : Sp} (F : FunD K x qual params body scope dvs kws f fd) (S : FnScope N ps scope) (len : ∀ vs H Q E, sp vs H Q E → vs.length = ps.length)
    (hbody : ∀ (cdv : Value) (A : Around) (outer : List Env) (s : Shared) (H : Hp) (vs : List V) (Q : VK) (E : XK), Room k (A.deeper (envOfC qual scope s.heap.objs.size f cdv)) → sp vs H Q E →
      ∃ t, PSs (cxOf CX0 P w K mg base N qual scope f cdv A outer s H E).nox body t ∧ t { nx := fun _ H' => Q .non H', rt := Q } (start N vs) H) : FnOk P w K mg base CX0 (k + 1) f fd ps sp :=
  F.ok S len fun cdv A outer s H vs Q E hr hsp => by
    obtain ⟨t, h, q⟩ := hbody cdv A outer s H vs Q E hr hsp
    exact ⟨t, h.nox, q⟩
theorem fund_mk1 {oc kV doc pm cdv ct u oT : Value} {od an dT : Option Addr} {osl slT : Array (Option Value)} {T : Addr} {n : Nat} {v : V} (l : K.lookup f = some ⟨oc, od, .func (PySem.W.fnOf x qual params body scope (.ref T) kV doc pm an cdv ct), osl⟩) (c : PySem.W.codeIn K cdv qual = true) (k : PySem.W.keepIn K (.ref f) = true)
    (lT : K.lookup T = some ⟨oT, dT, .seq #[u] n, slT⟩) (r : RelV v u) : FunD K x qual params body scope [v] [] f (PySem.W.fnOf x qual params body scope (.ref T) kV doc pm an cdv ct) :=
  ⟨⟨oc, od, .ref T, kV, doc, pm, an, cdv, ct, osl, rfl, l, c, .inr ⟨List.cons_ne_nil _ _, T, _, [u], n, rfl, lT, rfl, .cons r .nil⟩, .inl rfl⟩, k⟩
end
/-- an empty tuple of the module -/
theorem sqT_nil {K : PySem.W.Frag} {ae : Addr} {od : Option Addr} {n : Nat} {sl : Array (Option Value)} (l : K.lookup ae = some ⟨.type "tuple", od, .seq #[] n, sl⟩) (H : Hp) : SqT K H ae [] := .inr ⟨_, #[], n, l, rfl, rfl, by decide, .nil⟩
theorem one_ref {ae : Addr} {ds : List Value} (h : Vals [V.ref ae] ds) : ds = [.ref ae] := by
  cases h with
  | cons a b =>
    cases b
    cases a
    rfl
end FW
/-! text.replace of two written signs, where a token is out already -/
namespace FW
open PySem PySem.Spec PyProof.Rows L2
section
variable {X : Cx}
/-- an expression behind which a token is out -/
structure PEB (X : Cx) (e : Expr) (t : TE) : Prop where
  run : ∀ (pins : List (Addr × Obj)) (s : Shared) (σ : L2.St) (H : Hp) (Q : VK), Inv X pins σ H s → t σ H Q → wpAny (model X.prog X.w) X.A (eval e X.env) (fun v s1 => 1 ≤ s1.toks ∧ EP X pins σ Q v s1) X.xe s
theorem PEB.pe {e : Expr} {t : TE} (h : PEB X e t) : PE X e t := ⟨fun pins s σ H Q I q => thn (h.run pins s σ H Q I q) fun _ _ z => z.2⟩
theorem one_out {α : Type} {M : Model} {A : Around} {t : Sem α} {Q : α → Shared → Prop} {E : Value → Shared → Prop} {s : Shared} (hn : 1 ≤ s.toks) (h : wpAny M A t Q E s) : wpAny M A t (fun a s' => 1 ≤ s'.toks ∧ Q a s') E s :=
  wpAny_mono (wpAny_toks_of hn h) (fun _ _ z => z) fun _ _ z => z.2
theorem peb_ix {r : R2} {a : Expr} {ta : TE} {k : Int} {j : Nat} {cp pos : Pos} (hr : IxR X r) (ha : PE X a ta) (hs : PlainIx (.Constant (.int k) j cp)) : PEB X (.Subscript a (.Constant (.int k) j cp) pos) (tOp r ta (tC (.int k))) := by
  refine ⟨fun pins s σ H Q I h => ?_⟩
  refine Subscript_ (thn (ha.run pins s σ H _ I h) fun v s1 ⟨x, H1, I1, r1, q1⟩ => ?_)
  refine wpAny_Constant_int ?_
  exact one_out (s := { s1 with toks := s1.toks + 1 }) (Nat.le_add_left 1 _) (hr a _ pins { s1 with toks := s1.toks + 1 } σ H1 x (.int k) v (.int k s1.toks) Q (I1.tok _) r1 ⟨_, rfl⟩ q1 (hs _ _))
/-- e.replace(y, z) -/
def tRepl (y z : Str) (to : TE) : TE := fun σ H Q => to σ H fun x H1 => ∃ a : Str, x = .str a ∧ a.length + (a.length + 1) * z.length ≤ 16777216 ∧ Q (.str (Txt.replace a y z)) H1
theorem peb_repl {o : Expr} {to : TE} {y z : Str} {j0 j1 : Nat} {c0 c1 apos pos : Pos} (ho : PEB X o to) (hyz : (y == z) = false)
    (hst : starEach [.Constant (.str y) j0 c0, .Constant (.str z) j1 c1] X.env = [(false, eval (.Constant (.str y) j0 c0) X.env), (false, eval (.Constant (.str z) j1 c1) X.env)] := by rfl)
    (hbase : attributeBase o "replace" X.env (eval o X.env) = eval o X.env := by rfl) (hline : (apos.endLine == pos.line) = true := by rfl) :
    PEB X (.Call (.Attribute o "replace" apos) [.Constant (.str y) j0 c0, .Constant (.str z) j1 c1] [] pos) (tRepl y z to) := by
  refine ⟨fun pins s σ H Q I h => ?_⟩
  refine PySem.Call_method2 hbase hst hline (thn (ho.run pins s σ H _ I h) fun v s1 z1 => ?_)
  obtain ⟨h1, x, H1, I1, r1, q1⟩ := z1
  obtain ⟨a, rfl, hb, q⟩ := q1
  obtain ⟨ta, rfl⟩ := r1
  refine ⟨"str", _, F.plainAttrs_str, F.slot_str_replace, F.type_str_replace, typeIs_str _ _ _, (fun _ e => nomatch e), Calls.callWith_builtin rfl (Calls.evalArgs_plain (Calls.spliced_cons ?_))⟩
  refine Calls.Constant_str (Calls.spliced_cons (Calls.Constant_str (Calls.spliced_nil ?_)))
  exact one_out (s := { s1 with toks := s1.toks + 1 + 1 }) (Nat.le_add_left 1 _) (PySem.SC.replace (show s1.toks ≠ 0 by omega) (show s1.toks + 1 ≠ 0 by omega) (show s1.toks ≠ s1.toks + 1 by omega) hyz hb fun t' k => ⟨.str (Txt.replace a y z), H1, I1.tok k, ⟨t', rfl⟩, q⟩)
end
theorem replL_sign (y z : Nat) : ∀ l : List Nat, StrLaws.replL [y] [z] l = l.map fun c => if c = y then z else c
  | [] => StrLaws.replL_nil
  | c :: r => by
    have ih := replL_sign y z r
    by_cases h : c = y
    · rw [StrLaws.replL_hit (List.cons_ne_nil _ _) (by rw [h]; rfl), List.map_cons, if_pos h, ← ih]
      rfl
    · rw [StrLaws.replL_miss (y := [y]) (c := c) (r := r) (fun e => h (List.cons.inj (show [c] = [y] from e)).1), List.map_cons, if_neg h, ih]
theorem replace_sign (y z : Nat) (l : List Nat) : Txt.replace (S l) (S [y]) (S [z]) = S (l.map fun c => if c = y then z else c) := by
  have h := StrLaws.replace_list (x := S l) (y := S [y]) (z := S [z]) (Nat.le_refl 1)
  have h2 : (Txt.replace (S l) (S [y]) (S [z])).cps.toList = l.map fun c => if c = y then z else c := h.trans (replL_sign y z l)
  rw [← S_tl (Txt.replace (S l) (S [y]) (S [z])), h2]
end FW
namespace FW
open PySem PySem.Spec PyProof.Rows L2
-- more
section
variable {P : Program} {w : World} {K : PySem.W.Frag} {mg : Str → Option Value} {base : Heap}
abbrev s_is_integer : Stmt := topS 24
theorem sc_is_integer : FnScope ["value"] ["value"] (defScope s_is_integer) := ⟨rfl, rfl, rfl, by decide +kernel, rfl, by decide +kernel, by decide +kernel⟩
def bInt : V → Bool
  | .int _ => true
  | _ => false
def sp_is_integer (K : PySem.W.Frag) : Sp := fun vs H Q _ => ∃ v : V, vs = [v] ∧ (isNum v = true ∨ (isNum v = false ∧ NotI K H v)) ∧ Q (.bl (bInt v)) H
theorem ok_is_integer {f : Addr} {fd : FuncData} (F : Fun K "is_integer" "is_integer" s_is_integer f fd) (T : Z mg) : FnOk P w K mg base CX0 1 f fd ["value"] (sp_is_integer K) := by
  refine F.ok sc_is_integer (fun vs H Q E h => ?_) (fun cdv A outer s H vs Q E hr h => ?_)
  · obtain ⟨v, rfl, _⟩ := h
    rfl
  · obtain ⟨v, rfl, hv, q⟩ := h
    refine ⟨_, (pss_one (ps_ret (pe_and (pe_callB call_isi (by rfl) T.z_isinstance (by decide +kernel) (pa_cons (pv 0) (pa_cons (pe_bltn (v := .ty "int") (u := .type "int") (by rfl) T.z_int (by decide +kernel) rfl) pa_nil))) (pe_one (pe_not (pe_callB call_isi (by rfl) T.z_isinstance (by decide +kernel) (pa_cons (pv 0) (pa_cons (pe_bltn (v := .ty "bool") (u := .type "bool") (by rfl) T.z_bool (by decide +kernel) rfl) pa_nil)))))))), ?_⟩
    rcases hv with hn | ⟨hn, Ty, ht, hk⟩
    · cases v with
      | int i =>
        refine ⟨_, rfl, _, _, _, _, true, rfl, .ty _, .base (.int i), kit_ty (by decide +kernel), true, rfl, iteT ?_⟩
        exact ⟨_, rfl, _, _, _, _, false, rfl, .ty _, .base (.int i), kit_ty (by decide +kernel), false, rfl, q⟩
      | bl b =>
        refine ⟨_, rfl, _, _, _, _, true, rfl, .ty _, .base (.bl b), kit_ty (by decide +kernel), true, rfl, iteT ?_⟩
        exact ⟨_, rfl, _, _, _, _, true, rfl, .ty _, .base (.bl b), kit_ty (by decide +kernel), true, rfl, q⟩
      | _ => exact absurd (show false = true from hn) Bool.false_ne_true
    · refine ⟨_, rfl, _, _, _, _, false, rfl, .ty _, ht, kit_ty hk, false, rfl, iteF ?_⟩
      have e : bInt v = false := by
        cases v with
        | int i => exact absurd (show true = false from hn) Bool.true_eq_false.mp
        | _ => rfl
      rw [e] at q
      exact q
abbrev s_InvalidRatio_init : Stmt := inCls (topS 12) 0
theorem sc_InvalidRatio_init : FnScope ["self", "given"] ["self", "given"] (defScope s_InvalidRatio_init) := ⟨rfl, rfl, rfl, by decide +kernel, rfl, by decide +kernel, by decide +kernel⟩
theorem ok_InvalidRatio_init {f : Addr} {fd : FuncData} (F : Fun K "__init__" "InvalidRatio.__init__" s_InvalidRatio_init f fd) (G : GsK K) : FnOk P w K mg base CX0 1 f fd ["self", "given"] (sp_init K "given") := by
  refine F.ok sc_InvalidRatio_init (fun vs H Q E h => ?_) (fun cdv A outer s H vs Q E hr h => ?_)
  · obtain ⟨a, C, v, z, rfl, _⟩ := h
    rfl
  · obtain ⟨a, C, v, z, rfl, ha, T, Te, Tn, nf, nc, q⟩ := h
    refine ⟨_, (pss_cons (ps_ost (pv 0) (pv 1)) (pss_one (ps_ost (pv 0) (pe_name (pe_cls G (pv 0)))))), ?_⟩
    refine ⟨_, rfl, _, rfl, a, C, rfl, T, nf, .inl ⟨ha, fun dx hd hda => ?_⟩⟩
    have e1 : (upd (upd H dx (exd dx [(Str.ofString "given", v)])) a (exo a C (some dx))) a = some (exo a C (some dx)) := upd_same
    have e2 : (upd (upd H dx (exd dx [(Str.ofString "given", v)])) a (exo a C (some dx))) dx = some (exd dx [(Str.ofString "given", v)]) := by
      rw [upd_ne hda, upd_same]
    refine ⟨_, rfl, a, C, rfl, .inr ⟨dx, _, e1, e2⟩, Te, C, z, rfl, Tn, _, rfl, a, C, rfl, T, nc, .inr ⟨dx, _, e1, e2, (show 1 ≤ 900 by decide), ?_⟩⟩
    exact q dx hd hda
def tupI (a b : Int) : HO := .tup [V.int a, V.int b]
/-- numbers whose products stay small -/
def Sm (a : Int) : Prop := a.natAbs < 2 ^ 63
theorem Sm.mul {a b : Int} (ha : Sm a) (hb : Sm b) : CMul a b ∧ (a * b).natAbs < 2 ^ 126 := by
  have h1 : a.natAbs < 2 ^ 63 := ha
  have h2 : b.natAbs < 2 ^ 63 := hb
  refine ⟨.inl (by omega), ?_⟩
  rw [Int.natAbs_mul]
  calc a.natAbs * b.natAbs < 2 ^ 63 * 2 ^ 63 := Nat.mul_lt_mul'' h1 h2
    _ = 2 ^ 126 := by decide
theorem sum120 {a b : Int} (ha : a.natAbs < 2 ^ 126) (hb : b.natAbs < 2 ^ 126) : (a + b).natAbs < 2 ^ 128 := by omega
theorem dif120 {a b : Int} (ha : a.natAbs < 2 ^ 126) (hb : b.natAbs < 2 ^ 126) : (a - b).natAbs < 2 ^ 128 := by omega
def sp__law_two (g : Int → Int → Int → Int → Int × Int) : Sp := fun vs H Q _ => ∃ (p q : Addr) (a b c d : Int), vs = [.ref p, .ref q] ∧ H p = some (tupI a b) ∧ H q = some (tupI c d) ∧ Sm a ∧ Sm b ∧ Sm c ∧ Sm d ∧ b ≠ 0 ∧ d ≠ 0 ∧ ∀ r, H r = none → Q (.ref r) (upd H r (tupI (g a b c d).1 (g a b c d).2))
def gAdd (a b c d : Int) : Int × Int := low (a * d + c * b) (b * d)
def gMul (a b c d : Int) : Int × Int := low (a * c) (b * d)
abbrev s__law_top : Stmt := topS 77
theorem sc__law_top : FnScope ["_law_one", "_law_other", "_law_turn"] ["_law_one", "_law_other"] (defScope s__law_top) := ⟨rfl, rfl, rfl, by decide +kernel, rfl, by decide +kernel, by decide +kernel⟩
def sp__law_top : Sp := fun vs H Q _ => ∃ (t b : Int), vs = [.int t, .int b] ∧ t.natAbs < 2 ^ 128 ∧ b.natAbs < 2 ^ 128 ∧ Q (.int (gcdI t b)) H
theorem ok__law_top {f : Addr} {fd : FuncData} (F : Fun K "_law_top" "_law_top" s__law_top f fd) (T : Z mg) : FnOk P w K mg base CX0 1 f fd ["_law_one", "_law_other"] sp__law_top := by
  refine F.ok sc__law_top (fun vs H Q E h => ?_) (fun cdv A outer s H vs Q E hr h => ?_)
  · obtain ⟨t, b, rfl, _⟩ := h
    rfl
  obtain ⟨t, b, rfl, ht, hb, q⟩ := h
  refine ⟨_, (pss_cons (ps_par (i := 0) (j := 1) (by rfl) sc__law_top.nd rfl rfl (by decide) rfl rfl (pa_cons (pe_callB call_abs (by rfl) T.z_abs (by decide +kernel) (pa_cons (pv 0) pa_nil)) (pa_cons (pe_callB call_abs (by rfl) T.z_abs (by decide +kernel) (pa_cons (pv 1) pa_nil)) pa_nil)) (by rfl))
      (pss_cons (ps_for PassesOwn.never rfl (pi_range1 (by rfl) T.z_range (pa_cons pe_int pa_nil)) (pg_name (i := 2) sc__law_top.nd rfl (.inl rfl))
        (pss_cons (ps_if (pt_cmpR op_eq (pv 1) pe_int (nomark _)) (pss_one (ps_ret (pv 0))) pss_nil)
      (pss_one (ps_par (i := 0) (j := 1) (by rfl) sc__law_top.nd rfl rfl (by decide) rfl rfl (pa_cons (pv 1) (pa_cons (pe_op op_mod (pe_callTy call_int1 (by rfl) T.z_int (by decide +kernel) (pa_cons (pv 0) pa_nil)) (pv 1)) pa_nil)) (by rfl)))))
      (pss_one (ps_ret (pv 0))))), ?_⟩
  refine ⟨_, rfl, _, rfl, _, rfl, _, rfl, _, _, rfl, ?_⟩
  have ab : ∀ z : Int, (if z < 0 then -z else z) = ((z.natAbs : Nat) : Int) := fun z => by split <;> omega
  rw [ab, ab]
  refine ⟨4000, rfl, by decide, by decide, for_range (n := (4000 : Int).toNat) (fun i σ H' => ∃ (a c : Nat) (y : Option V), σ = [some (.int (a : Int)), some (.int (c : Int)), y] ∧ H' = H ∧ Euc (Nat.gcd t.natAbs b.natAbs) i a c) ⟨_, _, none, rfl, rfl, Euc.start ht hb⟩ ?_ ?_⟩
  · rintro i σ H' hi ⟨a, c, y, rfl, rfl, e⟩
    refine ⟨_, rfl, rfl, _, rfl, ite_dec (fun h0 => ?_) (fun h0 => ?_)⟩
    · have hc : c = 0 := by
        have := V.int.inj h0
        omega
      subst hc
      refine ⟨_, rfl, ?_⟩
      rw [e.done]
      exact q
    · have hc : 0 < c := by
        rcases Nat.eq_zero_or_pos c with h | h
        · exact absurd (by rw [h]; rfl) h0
        · exact h
      exact ⟨_, rfl, _, rfl, .inl ⟨_, rfl, _, rfl, _, _, rfl, rfl, (show (0 : Int) < (c : Int) by omega), _, _, rfl, ⟨c, a % c, _, rfl, rfl, e.next hc⟩⟩⟩
  · rintro σ H' ⟨a, c, y, rfl, rfl, e⟩
    refine ⟨_, rfl, ?_⟩
    rw [Euc.last e]
    exact q
abbrev s__law_low : Stmt := topS 78
theorem sc__law_low : FnScope ["_law_top_here", "_law_bottom", "_law_by"] ["_law_top_here", "_law_bottom"] (defScope s__law_low) := ⟨rfl, rfl, rfl, by decide +kernel, rfl, by decide +kernel, by decide +kernel⟩
def sp__law_low : Sp := fun vs H Q _ => ∃ (t b : Int), vs = [.int t, .int b] ∧ b ≠ 0 ∧ t.natAbs < 2 ^ 128 ∧ b.natAbs < 2 ^ 128 ∧ ∀ p, H p = none → Q (.ref p) (upd H p (tupI (low t b).1 (low t b).2))
theorem ok__law_low {f : Addr} {fd : FuncData} (F : Fun K "_law_low" "_law_low" s__law_low f fd) (T : Z mg) (c__law_top : Cal P w K mg base CX0 1 "_law_top" s__law_top ["_law_one", "_law_other"] sp__law_top) : FnOk P w K mg base CX0 2 f fd ["_law_top_here", "_law_bottom"] sp__law_low := by
  refine F.ok sc__law_low (fun vs H Q E h => ?_) (fun cdv A outer s H vs Q E hr h => ?_)
  · obtain ⟨t, b, rfl, _⟩ := h
    rfl
  obtain ⟨t, b, rfl, b0, ht, hb, q⟩ := h
  refine ⟨_, (pss_cons (ps_set (i := 2) sc__law_low.nd rfl (.inl rfl) (pe_c c__law_top hr (by decide) (by rfl) (pa_cons (pv 0) (pa_cons (pv 1) pa_nil))))
      (pss_cons (ps_if (pt_cmpR op_lt (pv 1) pe_int (nomark _)) (pss_one (ps_set (i := 2) sc__law_low.nd rfl (.inl rfl) (pe_op op_sub pe_int (pv 2)))) pss_nil)
      (pss_one (ps_ret (pe_tup (pa_cons (pe_op op_fdivN9 (pv 0) (pv 2)) (pa_cons (pe_op op_fdivN9 (pv 1) (pv 2)) pa_nil))))))), ?_⟩
  have hle := byI_le (t := t) b0
  have hne := byI_ne (t := t) b0
  have hk : CDivN9 t (byI t b) ∧ CDivN9 b (byI t b) := ⟨⟨hne, Nat.lt_of_le_of_lt hle hb⟩, ⟨hne, Nat.lt_of_le_of_lt hle hb⟩⟩
  refine ⟨_, rfl, _, rfl, t, b, rfl, ht, hb, _, rfl, _, _, rfl, rfl, _, rfl, ite_dec (fun h0 => ?_) (fun h0 => ?_)⟩
  · have e : byI t b = 0 - gcdI t b := by
      unfold byI
      rw [if_pos h0]
      omega
    refine ⟨_, rfl, _, _, rfl, rfl, ?_⟩
    rw [show (fun i j : Int => V.int (i - j)) 0 (gcdI t b) = V.int (byI t b) from congrArg V.int e.symm]
    exact ⟨_, rfl, _, rfl, _, _, rfl, rfl, hk.1, _, rfl, _, rfl, _, _, rfl, rfl, hk.2, (show 2 ≤ sizeLine by decide), fun p np => q p np⟩
  · have e : byI t b = gcdI t b := by
      unfold byI
      rw [if_neg h0]
    rw [← e]
    exact ⟨_, rfl, _, rfl, _, _, rfl, rfl, hk.1, _, rfl, _, rfl, _, _, rfl, rfl, hk.2, (show 2 ≤ sizeLine by decide), fun p np => q p np⟩
abbrev s__law_add : Stmt := topS 79
theorem sc__law_add : FnScope ["_law_one", "_law_other"] ["_law_one", "_law_other"] (defScope s__law_add) := ⟨rfl, rfl, rfl, by decide +kernel, rfl, by decide +kernel, by decide +kernel⟩
theorem ok__law_add {f : Addr} {fd : FuncData} (F : Fun K "_law_add" "_law_add" s__law_add f fd) (T : Z mg) (c__law_low : Cal P w K mg base CX0 2 "_law_low" s__law_low ["_law_top_here", "_law_bottom"] sp__law_low) : FnOk P w K mg base CX0 3 f fd ["_law_one", "_law_other"] (sp__law_two gAdd) := by
  refine F.ok sc__law_add (fun vs H Q E h => ?_) (fun cdv A outer s H vs Q E hr h => ?_)
  · obtain ⟨p, q, a, b, c, d, rfl, _⟩ := h
    rfl
  obtain ⟨p, q', a, b, c, d, rfl, hp, hq, sa, sb, sc, sd, b0, d0, q⟩ := h
  refine ⟨_, (pss_one (ps_ret (pe_c c__law_low hr (by decide) (by rfl) (pa_cons (pe_op op_add (pe_op op_mul (pe_ix ix_tup (pv 0) pe_int (fun _ _ => rfl)) (pe_ix ix_tup (pv 1) pe_int (fun _ _ => rfl))) (pe_op op_mul (pe_ix ix_tup (pv 1) pe_int (fun _ _ => rfl)) (pe_ix ix_tup (pv 0) pe_int (fun _ _ => rfl)))) (pa_cons (pe_op op_mul (pe_ix ix_tup (pv 0) pe_int (fun _ _ => rfl)) (pe_ix ix_tup (pv 1) pe_int (fun _ _ => rfl))) pa_nil))))), ?_⟩
  have tp : SqT K H p [V.int a, .int b] := SqT.of hp
  have tq : SqT K H q' [V.int c, .int d] := SqT.of hq
  refine ⟨_, rfl, p, _, _, _, rfl, rfl, tp, rfl, _, rfl, q', _, _, _, rfl, rfl, tq, rfl, _, _, rfl, rfl, (sa.mul sd).1, _, rfl, q', _, _, _, rfl, rfl, tq, rfl, _, rfl, p, _, _, _, rfl, rfl, tp, rfl, _, _, rfl, rfl, (sc.mul sb).1, _, _, rfl, rfl,
    _, rfl, p, _, _, _, rfl, rfl, tp, rfl, _, rfl, q', _, _, _, rfl, rfl, tq, rfl, _, _, rfl, rfl, (sb.mul sd).1, _, _, rfl, Int.mul_ne_zero b0 d0, sum120 (sa.mul sd).2 (sc.mul sb).2, Nat.lt_trans (sb.mul sd).2 (by decide), fun r nr => q r nr⟩
abbrev s__law_times : Stmt := topS 80
theorem sc__law_times : FnScope ["_law_one", "_law_other"] ["_law_one", "_law_other"] (defScope s__law_times) := ⟨rfl, rfl, rfl, by decide +kernel, rfl, by decide +kernel, by decide +kernel⟩
theorem ok__law_times {f : Addr} {fd : FuncData} (F : Fun K "_law_times" "_law_times" s__law_times f fd) (T : Z mg) (c__law_low : Cal P w K mg base CX0 2 "_law_low" s__law_low ["_law_top_here", "_law_bottom"] sp__law_low) : FnOk P w K mg base CX0 3 f fd ["_law_one", "_law_other"] (sp__law_two gMul) := by
  refine F.ok sc__law_times (fun vs H Q E h => ?_) (fun cdv A outer s H vs Q E hr h => ?_)
  · obtain ⟨p, q, a, b, c, d, rfl, _⟩ := h
    rfl
  obtain ⟨p, q', a, b, c, d, rfl, hp, hq, sa, sb, sc, sd, b0, d0, q⟩ := h
  refine ⟨_, (pss_one (ps_ret (pe_c c__law_low hr (by decide) (by rfl) (pa_cons (pe_op op_mul (pe_ix ix_tup (pv 0) pe_int (fun _ _ => rfl)) (pe_ix ix_tup (pv 1) pe_int (fun _ _ => rfl))) (pa_cons (pe_op op_mul (pe_ix ix_tup (pv 0) pe_int (fun _ _ => rfl)) (pe_ix ix_tup (pv 1) pe_int (fun _ _ => rfl))) pa_nil))))), ?_⟩
  have tp : SqT K H p [V.int a, .int b] := SqT.of hp
  have tq : SqT K H q' [V.int c, .int d] := SqT.of hq
  exact ⟨_, rfl, p, _, _, _, rfl, rfl, tp, rfl, _, rfl, q', _, _, _, rfl, rfl, tq, rfl, _, _, rfl, rfl, (sa.mul sc).1,
    _, rfl, p, _, _, _, rfl, rfl, tp, rfl, _, rfl, q', _, _, _, rfl, rfl, tq, rfl, _, _, rfl, rfl, (sb.mul sd).1, _, _, rfl, Int.mul_ne_zero b0 d0, Nat.lt_trans (sa.mul sc).2 (by decide), Nat.lt_trans (sb.mul sd).2 (by decide), fun r nr => q r nr⟩
structure RatC (K : PySem.W.Frag) (CR : Addr) : Prop where
  c : Cls K CR
  nt : NoAttr K CR "top"
  nb : NoAttr K CR "bottom"
/-- what isinstance asks of the class -/
structure BookE (K : PySem.W.Frag) (CB : Addr) : Prop where
  ca : PySem.W.findIn K (.ref CB) "__class__" = some (some (.builtin "object.__class__"))
  cn : PySem.W.specialIn K (.builtin "object.__class__") "__get__" = some (some (.builtin "getset_descriptor.__get__"))
  ct : PySem.W.takesIn K (.builtin "object.__class__") = some true
  cm : PySem.W.mroIn K CB (.type "object") = some true
  kit : PySem.W.kitOne K (.ref CB) (.ref CB) = some true
def ratF (t b : Int) : List (Str × V) := [("top", .int t), ("bottom", .int b)]
def RatAt (CR : Addr) (H : Hp) (x : Addr) (t b : Int) : Prop := ∃ dx, H x = some (.ins CR dx (ratF t b))
theorem RatAt.same {CR : Addr} {H H' : Hp} {x : Addr} {t b : Int} (h : RatAt CR H x t b) (s : Same H H') : RatAt CR H' x t b := let ⟨dx, h⟩ := h; ⟨dx, s _ _ h⟩
theorem RatAt.drawn {CR : Addr} {H H' : Hp} {x : Addr} {t b : Int} {g l : Addr} (h : RatAt CR H x t b) (B : Bag H g l) (s : But g H H') : RatAt CR H' x t b := let ⟨dx, h⟩ := h; ⟨dx, s _ _ (fun z => by
  obtain ⟨xs, hb⟩ := B.la
  rw [z, hb] at h
  cases h) h⟩
theorem RatAt.ext {CR : Addr} {H H' : Hp} {x : Addr} {t b : Int} (h : RatAt CR H x t b) (s : LamX.ExtN H H') : RatAt CR H' x t b := let ⟨dx, h⟩ := h; ⟨dx, s _ _ h (fun _ z => by cases z)⟩
abbrev s_Ratio_init : Stmt := inCls (topS 31) 0
theorem sc_Ratio_init : FnScope ["self", "top", "bottom", "shared"] ["self", "top", "bottom"] (defScope s_Ratio_init) := ⟨rfl, rfl, rfl, by decide +kernel, rfl, by decide +kernel, by decide +kernel⟩
def sp_Ratio_init (K : PySem.W.Frag) (CR : Addr) : Sp := fun vs H Q _ => ∃ (x dx : Addr) (t b : Int), vs = [.ref x, .int t, .int b] ∧ H x = some (.ins CR dx []) ∧ b ≠ 0 ∧ b.natAbs < 2 ^ 128 ∧ Q .non (upd H x (.ins CR dx (ratF (low t b).1 (low t b).2)))
theorem ok_Ratio_init {f CR : Addr} {fd : FuncData} {ae : Int} (F : FunD K "__init__" "Ratio.__init__" (defArgs s_Ratio_init) (defBody s_Ratio_init) (defScope s_Ratio_init) [.int ae] [] f fd) (T : Z mg) (RC : RatC K CR) (gG : mg "gcd" = some (.builtin "math.gcd"))
    (c_is_integer : Cal P w K mg base CX0 1 "is_integer" s_is_integer ["value"] (sp_is_integer K)) : FnOk P w K mg base CX0 2 f fd ["self", "top", "bottom"] (sp_Ratio_init K CR) := by
  refine fund_ok0 F sc_Ratio_init (fun vs H Q E h => ?_) (fun cdv A outer s H vs Q E hr h => ?_)
  · obtain ⟨x, dx, t, b, rfl, _⟩ := h
    rfl
  obtain ⟨x, dx, t, b, rfl, hx, b0, hb, q⟩ := h
  refine ⟨_, (pss_cons (ps_if (PW.pt (pw_or (pt_not (pt_val (pe_c c_is_integer hr (by decide) (by rfl) (pa_cons (pv 1) pa_nil)))) (pw_or (pt_not (pt_val (pe_c c_is_integer hr (by decide) (by rfl) (pa_cons (pv 2) pa_nil)))) (pw_or1 (pt_cmpR op_eq (pv 2) pe_int (nomark _)))))) pss_never pss_nil)
    (pss_cons (ps_set (i := 3) sc_Ratio_init.nd rfl (.inl rfl) (pe_callBfun cr_gcd (by rfl) gG (pa_cons (pv 1) (pa_cons (pv 2) pa_nil))))
    (pss_cons (ps_if (pt_cmpR op_lt (pv 2) pe_int (nomark _)) (pss_one (ps_set (i := 3) sc_Ratio_init.nd rfl (.inl rfl) (pe_un un_neg (pv 3)))) pss_nil)
    (pss_cons (ps_fld (pv 0) (pe_op op_fdivN9 (pv 1) (pv 3)) rfl)
    (pss_one (ps_fld (pv 0) (pe_op op_fdivN9 (pv 2) (pv 3)) rfl)))))), ?_⟩
  have hle := byI_le (t := t) b0
  have hne := byI_ne (t := t) b0
  have hk : CDivN9 t (byI t b) ∧ CDivN9 b (byI t b) := ⟨⟨hne, Nat.lt_of_le_of_lt hle hb⟩, ⟨hne, Nat.lt_of_le_of_lt hle hb⟩⟩
  refine ⟨_, rfl, .int t, rfl, .inl rfl, _, rfl, iteF ?_⟩
  refine ⟨_, rfl, .int b, rfl, .inl rfl, _, rfl, iteF ?_⟩
  refine ⟨_, rfl, rfl, _, rfl, ite_dec (fun h0 => absurd (V.int.inj h0) b0) (fun _ => ?_)⟩
  refine ⟨_, rfl, _, rfl, t, b, rfl, ?_⟩
  refine ⟨_, rfl, _, _, rfl, rfl, _, rfl, ?_⟩
  have ef : putF (Str.ofString "top") (V.int (low t b).1) ([] : List (Str × V)) = ([("top", .int (low t b).1)] : List (Str × V)) := rfl
  have hx1 : (upd H x (.ins CR dx [("top", .int (low t b).1)])) x = some (.ins CR dx [("top", .int (low t b).1)]) := upd_same
  have fin : upd (upd H x (.ins CR dx [("top", .int (low t b).1)])) x (.ins CR dx (putF (Str.ofString "bottom") (V.int (low t b).2) [("top", .int (low t b).1)])) = upd H x (.ins CR dx (ratF (low t b).1 (low t b).2)) := by
    rw [upd_upd]
    rfl
  refine ite_dec (fun h0 => ?_) (fun h0 => ?_)
  · have e : byI t b = -gcdI t b := by
      unfold byI
      rw [if_pos h0]
    refine ⟨_, rfl, _, rfl, ?_⟩
    rw [show (fun i : Int => V.int (-i)) (((Nat.gcd t.natAbs b.natAbs : Nat) : Int)) = V.int (byI t b) from congrArg V.int e.symm]
    refine ⟨_, rfl, _, rfl, _, _, rfl, rfl, hk.1, _, rfl, x, CR, dx, [], rfl, hx, RC.c, RC.nt, by decide, ?_⟩
    refine ⟨_, rfl, _, rfl, _, _, rfl, rfl, hk.2, _, rfl, x, CR, dx, _, rfl, hx1, RC.c, RC.nb, (show 1 < 1000 by decide), ?_⟩
    exact fin ▸ q
  · have e : byI t b = gcdI t b := by
      unfold byI
      rw [if_neg h0]
    show tNext _ (List.set (L2.start ["self", "top", "bottom", "shared"] [V.ref x, V.int t, V.int b]) 3 (some (V.int (gcdI t b)))) H
    rw [← e]
    refine ⟨_, rfl, _, rfl, _, _, rfl, rfl, hk.1, _, rfl, x, CR, dx, [], rfl, hx, RC.c, RC.nt, by decide, ?_⟩
    refine ⟨_, rfl, _, rfl, _, _, rfl, rfl, hk.2, _, rfl, x, CR, dx, _, rfl, hx1, RC.c, RC.nb, (show 1 < 1000 by decide), ?_⟩
    exact fin ▸ q
/-- a ratio that is refused -/
def sp_Ratio_initX (K : PySem.W.Frag) (CE : Addr) : Sp := fun vs H _ E => ∃ (x : Addr) (tv bv : V), vs = [.ref x, tv, bv] ∧ AskN K H tv ∧ AskN K H bv ∧ (bInt tv = false ∨ bInt bv = false ∨ bv = .int 0) ∧
  ∀ H' p d, Same H H' → H' p = some (.tup [tv, bv]) → H p = none → H' d = none → E (.ref CE) (some d) (upd H' d (Err1 "given" "InvalidRatio" (.ref p)))
theorem okx_Ratio_init {f CE fE : Addr} {fd fdE : FuncData} {ae : Int} (F : FunD K "__init__" "Ratio.__init__" (defArgs s_Ratio_init) (defBody s_Ratio_init) (defScope s_Ratio_init) [.int ae] [] f fd) (T : Z mg) (gG : mg "gcd" = some (.builtin "math.gcd"))
    (TR : Kls K mg CE fE "InvalidRatio") (nR : PySem.W.findIn K (.ref CE) (Str.ofString "given") = some none) (FE : FnOk P w K mg base CX0 1 fE fdE ["self", "given"] (sp_init K "given")) (bE : Binds K fdE ["self", "given"] [])
    (c_is_integer : Cal P w K mg base CX0 1 "is_integer" s_is_integer ["value"] (sp_is_integer K)) : FnOk P w K mg base (L2.CX P w) 3 f fd ["self", "top", "bottom"] (sp_Ratio_initX K CE) := by
  refine F.ok (CX := L2.CX P w) sc_Ratio_init (fun vs H Q E h => ?_) (fun cdv A outer s H vs Q E hr h => ?_)
  · obtain ⟨x, tv, bv, rfl, _⟩ := h
    rfl
  obtain ⟨x, tv, bv, rfl, ht, hb, hno, q⟩ := h
  refine ⟨_, (pss_cons (ps_if (PW.pt (pw_or (pt_not (pt_val (pe_c c_is_integer hr (by decide) (by rfl) (pa_cons (pv 1) pa_nil)))) (pw_or (pt_not (pt_val (pe_c c_is_integer hr (by decide) (by rfl) (pa_cons (pv 2) pa_nil)))) (pw_or1 (pt_cmpR op_eq (pv 2) pe_int (nomark _))))))
      (pss_one (ps_raise rfl (takes_of rfl rfl rfl rfl) (pmk_oex TR.oex TR.init TR.tI FE (hr.mono (by decide)) bE .nil pass0 (by rfl) TR.g (pa_cons (pe_tup (pa_cons (pv 1) (pa_cons (pv 2) pa_nil))) pa_nil)))) pss_nil)
    (pss_cons (ps_set (i := 3) sc_Ratio_init.nd rfl (.inl rfl) (pe_callBfun cr_gcd (by rfl) gG (pa_cons (pv 1) (pa_cons (pv 2) pa_nil))))
    (pss_cons (ps_if (pt_cmpR op_lt (pv 2) pe_int (nomark _)) (pss_one (ps_set (i := 3) sc_Ratio_init.nd rfl (.inl rfl) (pe_un un_neg (pv 3)))) pss_nil)
    (pss_cons (ps_fld (pv 0) (pe_op op_fdivN9 (pv 1) (pv 3)) rfl)
    (pss_one (ps_fld (pv 0) (pe_op op_fdivN9 (pv 2) (pv 3)) rfl)))))), ?_⟩
  refine ⟨_, rfl, tv, rfl, ht, _, rfl, ?_⟩
  cases h1 : bInt tv with
  | false => exact iteT (iteT ⟨_, rfl, _, rfl, (show 2 ≤ sizeLine by decide), fun p np => mk1 TR nR fun d hd => q _ p d (same_upd np) upd_same np hd⟩)
  | true =>
    refine iteF ⟨_, rfl, bv, rfl, hb, _, rfl, ?_⟩
    cases h2 : bInt bv with
    | false => exact iteT (iteT ⟨_, rfl, _, rfl, (show 2 ≤ sizeLine by decide), fun p np => mk1 TR nR fun d hd => q _ p d (same_upd np) upd_same np hd⟩)
    | true =>
      have h3 : bv = .int 0 := by
        rcases hno with h | h | h
        · rw [h1] at h
          cases h
        · rw [h2] at h
          cases h
        · exact h
      subst h3
      refine iteF ⟨_, rfl, rfl, _, rfl, ite_dec (fun _ => ?_) (fun h => absurd rfl h)⟩
      exact ⟨_, rfl, _, rfl, (show 2 ≤ sizeLine by decide), fun p np => mk1 TR nR fun d hd => q _ p d (same_upd np) upd_same np hd⟩
def sp_Ratio_op (K : PySem.W.Frag) (CR : Addr) (g : Int → Int → Int → Int → Int × Int) : Sp := fun vs H Q _ => ∃ (x y : Addr) (a b c d : Int), vs = [.ref x, .ref y] ∧ RatAt CR H x a b ∧ RatAt CR H y c d ∧ Sm a ∧ Sm b ∧ Sm c ∧ Sm d ∧ b ≠ 0 ∧ d ≠ 0 ∧
  ∀ H' z, Same H H' → H z = none → RatAt CR H' z (g a b c d).1 (g a b c d).2 → Q (.ref z) H'
def gSub (a b c d : Int) : Int × Int := low (a * d - c * b) (b * d)
/-- a ratio that is made -/
theorem ratio_made {K : PySem.W.Frag} {H : Hp} {CR x dx : Addr} {t b : Int} {Qv : VK} {E : XK} (nx : H x = none) (ndx : H dx = none) (hne : dx ≠ x) (b0 : b ≠ 0) (hb : b.natAbs < 2 ^ 128) (q : ∀ H', Same H H' → RatAt CR H' x (low t b).1 (low t b).2 → Qv .non H') :
    sp_Ratio_init K CR [.ref x, .int t, .int b] (upd (upd H dx (.own x)) x (.ins CR dx [])) Qv E := by
  refine ⟨x, dx, t, b, rfl, upd_same, b0, hb, ?_⟩
  rw [upd_upd]
  exact q _ (made_keep nx ndx) ⟨dx, upd_same⟩
abbrev s_Ratio_add : Stmt := inCls (topS 31) 3
theorem sc_Ratio_add : FnScope ["self", "other"] ["self", "other"] (defScope s_Ratio_add) := ⟨rfl, rfl, rfl, by decide +kernel, rfl, by decide +kernel, by decide +kernel⟩
theorem ok_Ratio_add {f CR fR : Addr} {fd fdR : FuncData} (F : Fun K "__add__" "Ratio.__add__" s_Ratio_add f fd) (T : Z mg) (RC : RatC K CR) (RE : BookE K CR) (gR : mg "Ratio" = some (.ref CR)) (MR : Mk K CR fR) (FR : FnOk P w K mg base CX0 2 fR fdR ["self", "top", "bottom"] (sp_Ratio_init K CR)) (bR2 : Binds K fdR ["self", "top", "bottom"] []) : FnOk P w K mg base CX0 4 f fd ["self", "other"] (sp_Ratio_op K CR gAdd) := by
  refine F.ok sc_Ratio_add (fun vs H Q E h => ?_) (fun cdv A outer s H vs Q E hr h => ?_)
  · obtain ⟨x, y, a, b, c, d, rfl, _⟩ := h
    rfl
  obtain ⟨x, y, a, b, c, d, rfl, ⟨dx, hx⟩, ⟨dy, hy⟩, sa, sb, sc, sd, b0, d0, q⟩ := h
  refine ⟨_, (pss_cons (ps_if (pt_not (pt_val (pe_callB call_isi (by rfl) T.z_isinstance (by decide +kernel) (pa_cons (pv 1) (pa_cons (pe_glob (v := .ref CR) rfl gR rfl) pa_nil))))) pss_never pss_nil)
      (pss_one (ps_ret (pe_make MR FR (hr.mono (by decide)) (by rfl) gR bR2 .nil pass0 (pa_cons (pe_op op_add (pe_op op_mul (pe_fld (pv 0) rfl) (pe_fld (pv 1) rfl)) (pe_op op_mul (pe_fld (pv 1) rfl) (pe_fld (pv 0) rfl))) (pa_cons (pe_op op_mul (pe_fld (pv 0) rfl) (pe_fld (pv 1) rfl)) pa_nil)))))), ?_⟩
  refine ⟨_, rfl, _, _, _, _, true, rfl, .own _, .base (.ins hy RC.c RE.ca RE.cn RE.ct RE.cm), RE.kit, true, rfl, iteF ?_⟩
  refine ⟨_, rfl, x, CR, dx, _, _, rfl, hx, RC.c, RC.nt, rfl, _, rfl, y, CR, dy, _, _, rfl, hy, RC.c, RC.nb, rfl, _, _, rfl, rfl, (sa.mul sd).1, _, rfl, y, CR, dy, _, _, rfl, hy, RC.c, RC.nt, rfl, _, rfl, x, CR, dx, _, _, rfl, hx, RC.c, RC.nb, rfl, _, _, rfl, rfl, (sc.mul sb).1, _, _, rfl, rfl, _, rfl, x, CR, dx, _, _, rfl, hx, RC.c, RC.nb, rfl, _, rfl, y, CR, dy, _, _, rfl, hy, RC.c, RC.nb, rfl, _, _, rfl, rfl, (sb.mul sd).1, fun z dz nz ndz hzz => ?_⟩
  exact ratio_made nz ndz hzz (Int.mul_ne_zero b0 d0) (Nat.lt_trans (sb.mul sd).2 (by decide)) fun H' s' h' => ⟨rfl, q H' z s' nz h'⟩
abbrev s_Ratio_sub : Stmt := inCls (topS 31) 4
theorem sc_Ratio_sub : FnScope ["self", "other"] ["self", "other"] (defScope s_Ratio_sub) := ⟨rfl, rfl, rfl, by decide +kernel, rfl, by decide +kernel, by decide +kernel⟩
theorem ok_Ratio_sub {f CR fR : Addr} {fd fdR : FuncData} (F : Fun K "__sub__" "Ratio.__sub__" s_Ratio_sub f fd) (T : Z mg) (RC : RatC K CR) (RE : BookE K CR) (gR : mg "Ratio" = some (.ref CR)) (MR : Mk K CR fR) (FR : FnOk P w K mg base CX0 2 fR fdR ["self", "top", "bottom"] (sp_Ratio_init K CR)) (bR2 : Binds K fdR ["self", "top", "bottom"] []) : FnOk P w K mg base CX0 4 f fd ["self", "other"] (sp_Ratio_op K CR gSub) := by
  refine F.ok sc_Ratio_sub (fun vs H Q E h => ?_) (fun cdv A outer s H vs Q E hr h => ?_)
  · obtain ⟨x, y, a, b, c, d, rfl, _⟩ := h
    rfl
  obtain ⟨x, y, a, b, c, d, rfl, ⟨dx, hx⟩, ⟨dy, hy⟩, sa, sb, sc, sd, b0, d0, q⟩ := h
  refine ⟨_, (pss_cons (ps_if (pt_not (pt_val (pe_callB call_isi (by rfl) T.z_isinstance (by decide +kernel) (pa_cons (pv 1) (pa_cons (pe_glob (v := .ref CR) rfl gR rfl) pa_nil))))) pss_never pss_nil)
      (pss_one (ps_ret (pe_make MR FR (hr.mono (by decide)) (by rfl) gR bR2 .nil pass0 (pa_cons (pe_op op_sub (pe_op op_mul (pe_fld (pv 0) rfl) (pe_fld (pv 1) rfl)) (pe_op op_mul (pe_fld (pv 1) rfl) (pe_fld (pv 0) rfl))) (pa_cons (pe_op op_mul (pe_fld (pv 0) rfl) (pe_fld (pv 1) rfl)) pa_nil)))))), ?_⟩
  refine ⟨_, rfl, _, _, _, _, true, rfl, .own _, .base (.ins hy RC.c RE.ca RE.cn RE.ct RE.cm), RE.kit, true, rfl, iteF ?_⟩
  refine ⟨_, rfl, x, CR, dx, _, _, rfl, hx, RC.c, RC.nt, rfl, _, rfl, y, CR, dy, _, _, rfl, hy, RC.c, RC.nb, rfl, _, _, rfl, rfl, (sa.mul sd).1, _, rfl, y, CR, dy, _, _, rfl, hy, RC.c, RC.nt, rfl, _, rfl, x, CR, dx, _, _, rfl, hx, RC.c, RC.nb, rfl, _, _, rfl, rfl, (sc.mul sb).1, _, _, rfl, rfl, _, rfl, x, CR, dx, _, _, rfl, hx, RC.c, RC.nb, rfl, _, rfl, y, CR, dy, _, _, rfl, hy, RC.c, RC.nb, rfl, _, _, rfl, rfl, (sb.mul sd).1, fun z dz nz ndz hzz => ?_⟩
  exact ratio_made nz ndz hzz (Int.mul_ne_zero b0 d0) (Nat.lt_trans (sb.mul sd).2 (by decide)) fun H' s' h' => ⟨rfl, q H' z s' nz h'⟩
abbrev s_Ratio_mul : Stmt := inCls (topS 31) 5
theorem sc_Ratio_mul : FnScope ["self", "other"] ["self", "other"] (defScope s_Ratio_mul) := ⟨rfl, rfl, rfl, by decide +kernel, rfl, by decide +kernel, by decide +kernel⟩
theorem ok_Ratio_mul {f CR fR : Addr} {fd fdR : FuncData} (F : Fun K "__mul__" "Ratio.__mul__" s_Ratio_mul f fd) (T : Z mg) (RC : RatC K CR) (RE : BookE K CR) (gR : mg "Ratio" = some (.ref CR)) (MR : Mk K CR fR) (FR : FnOk P w K mg base CX0 2 fR fdR ["self", "top", "bottom"] (sp_Ratio_init K CR)) (bR2 : Binds K fdR ["self", "top", "bottom"] []) : FnOk P w K mg base CX0 4 f fd ["self", "other"] (sp_Ratio_op K CR gMul) := by
  refine F.ok sc_Ratio_mul (fun vs H Q E h => ?_) (fun cdv A outer s H vs Q E hr h => ?_)
  · obtain ⟨x, y, a, b, c, d, rfl, _⟩ := h
    rfl
  obtain ⟨x, y, a, b, c, d, rfl, ⟨dx, hx⟩, ⟨dy, hy⟩, sa, sb, sc, sd, b0, d0, q⟩ := h
  refine ⟨_, (pss_cons (ps_if (pt_not (pt_val (pe_callB call_isi (by rfl) T.z_isinstance (by decide +kernel) (pa_cons (pv 1) (pa_cons (pe_glob (v := .ref CR) rfl gR rfl) pa_nil))))) pss_never pss_nil)
      (pss_one (ps_ret (pe_make MR FR (hr.mono (by decide)) (by rfl) gR bR2 .nil pass0 (pa_cons (pe_op op_mul (pe_fld (pv 0) rfl) (pe_fld (pv 1) rfl)) (pa_cons (pe_op op_mul (pe_fld (pv 0) rfl) (pe_fld (pv 1) rfl)) pa_nil)))))), ?_⟩
  refine ⟨_, rfl, _, _, _, _, true, rfl, .own _, .base (.ins hy RC.c RE.ca RE.cn RE.ct RE.cm), RE.kit, true, rfl, iteF ?_⟩
  refine ⟨_, rfl, x, CR, dx, _, _, rfl, hx, RC.c, RC.nt, rfl, _, rfl, y, CR, dy, _, _, rfl, hy, RC.c, RC.nt, rfl, _, _, rfl, rfl, (sa.mul sc).1, _, rfl, x, CR, dx, _, _, rfl, hx, RC.c, RC.nb, rfl, _, rfl, y, CR, dy, _, _, rfl, hy, RC.c, RC.nb, rfl, _, _, rfl, rfl, (sb.mul sd).1, fun z dz nz ndz hzz => ?_⟩
  exact ratio_made nz ndz hzz (Int.mul_ne_zero b0 d0) (Nat.lt_trans (sb.mul sd).2 (by decide)) fun H' s' h' => ⟨rfl, q H' z s' nz h'⟩
abbrev s_Ratio_eq : Stmt := inCls (topS 31) 6
theorem sc_Ratio_eq : FnScope ["self", "other"] ["self", "other"] (defScope s_Ratio_eq) := ⟨rfl, rfl, rfl, by decide +kernel, rfl, by decide +kernel, by decide +kernel⟩
def sp_Ratio_eq (K : PySem.W.Frag) (CR : Addr) : Sp := fun vs H Q _ => ∃ (x : Addr) (yv : V) (a b : Int), vs = [.ref x, yv] ∧ RatAt CR H x a b ∧
  ((∃ (y : Addr) (c d : Int), yv = .ref y ∧ RatAt CR H y c d ∧ Q (.bl (decide (a = c ∧ b = d))) H) ∨ ∃ t : Value, TyX K H yv t ∧ PySem.W.kitOne K t (.ref CR) = some false ∧ Q (.bl false) H)
theorem ok_Ratio_eq {f CR : Addr} {fd : FuncData} (F : Fun K "__eq__" "Ratio.__eq__" s_Ratio_eq f fd) (T : Z mg) (gR : mg "Ratio" = some (.ref CR)) (RC : RatC K CR) (RE : BookE K CR) : FnOk P w K mg base CX0 1 f fd ["self", "other"] (sp_Ratio_eq K CR) := by
  refine F.ok sc_Ratio_eq (fun vs H Q E h => ?_) (fun cdv A outer s H vs Q E hr h => ?_)
  · obtain ⟨x, yv, a, b, rfl, _⟩ := h
    rfl
  obtain ⟨x, yv, a, b, rfl, ⟨dx, hx⟩, h⟩ := h
  refine ⟨_, (pss_cons (ps_if (pt_not (pt_val (pe_callB call_isi (by rfl) T.z_isinstance (by decide +kernel) (pa_cons (pv 1) (pa_cons (pe_glob (v := .ref CR) rfl gR rfl) pa_nil))))) (pss_one (ps_ret pe_bl)) pss_nil)
   (pss_one (ps_ret (pe_and (pe_cmpR op_eq (pe_fld (pv 0) rfl) (pe_fld (pv 1) rfl) (nomark _)) (pe_one (pe_cmpR op_eq (pe_fld (pv 0) rfl) (pe_fld (pv 1) rfl) (nomark _))))))), ?_⟩
  rcases h with ⟨y, c, d, rfl, ⟨dy, hy⟩, q⟩ | ⟨ty, hty, hk, q⟩
  case inr => exact ⟨_, rfl, _, _, _, _, false, rfl, .own _, hty, hk, false, rfl, iteT q⟩
  refine ⟨_, rfl, _, _, _, _, true, rfl, .own _, .base (.ins hy RC.c RE.ca RE.cn RE.ct RE.cm), RE.kit, true, rfl, iteF ?_⟩
  refine ⟨_, rfl, x, CR, dx, _, _, rfl, hx, RC.c, RC.nt, rfl, _, rfl, y, CR, dy, _, _, rfl, hy, RC.c, RC.nt, rfl, rfl, _, rfl, ite_dec (fun e1 => ?_) (fun ne => ?_)⟩
  · have e1' : a = c := V.int.inj e1
    refine ⟨_, rfl, x, CR, dx, _, _, rfl, hx, RC.c, RC.nb, rfl, _, rfl, y, CR, dy, _, _, rfl, hy, RC.c, RC.nb, rfl, rfl, ?_⟩
    rw [show decide (a = c ∧ b = d) = decide (V.int b = V.int d) from decide_eq_decide.mpr ⟨fun h => congrArg V.int h.2, fun h => ⟨e1', V.int.inj h⟩⟩] at q
    exact q
  · rwa [decide_eq_false (fun h => ne (congrArg V.int h.1))] at q
end
end FW
/-! boxes in parts of one whole: every side of every box is a number of parts of D -/
namespace FW
theorem low_cross {t b : Int} (h : b ≠ 0) : (low t b).1 * b = t * (low t b).2 ∧ 0 < (low t b).2 := by
  obtain ⟨l, h1, h2⟩ := low_mk (t := t) h
  refine ⟨?_, l.pos⟩
  conv => lhs; arg 2; rw [h2]
  conv => rhs; arg 1; rw [h1]
  rw [Int.mul_comm (byI t b) (low t b).1, Int.mul_assoc]
theorem low_uniq {t b u v : Int} (h : Low t b) (k : Low u v) (e : t * v = u * b) : t = u ∧ b = v := by
  have hb : 0 < b := h.pos
  have hv : 0 < v := k.pos
  have en : t.natAbs * v.natAbs = u.natAbs * b.natAbs := by rw [← Int.natAbs_mul, ← Int.natAbs_mul, e]
  have d1 : b.natAbs ∣ v.natAbs := by
    have : b.natAbs ∣ t.natAbs * v.natAbs := ⟨u.natAbs, by rw [en, Nat.mul_comm]⟩
    exact (Nat.Coprime.dvd_of_dvd_mul_left (show Nat.Coprime b.natAbs t.natAbs by unfold Nat.Coprime; rw [Nat.gcd_comm]; exact h.cop) this)
  have d2 : v.natAbs ∣ b.natAbs := by
    have : v.natAbs ∣ u.natAbs * b.natAbs := ⟨t.natAbs, by rw [← en, Nat.mul_comm]⟩
    exact (Nat.Coprime.dvd_of_dvd_mul_left (show Nat.Coprime v.natAbs u.natAbs by unfold Nat.Coprime; rw [Nat.gcd_comm]; exact k.cop) this)
  have ebv : b = v := by
    have := Nat.dvd_antisymm d1 d2
    omega
  subst ebv
  exact ⟨Int.eq_of_mul_eq_mul_right (by omega) e, rfl⟩
theorem low_eq {t b u v : Int} (hb : b ≠ 0) (hv : v ≠ 0) (e : t * v = u * b) : low t b = low u v := by
  obtain ⟨c1, p1⟩ := low_cross (t := t) hb
  obtain ⟨c2, p2⟩ := low_cross (t := u) hv
  have k : (low t b).1 * (low u v).2 = (low u v).1 * (low t b).2 := by
    have h1 : ((low t b).1 * (low u v).2) * (b * v) = ((low u v).1 * (low t b).2) * (b * v) := by
      generalize (low t b).1 = x at *
      generalize (low t b).2 = y at *
      generalize (low u v).1 = z at *
      generalize (low u v).2 = a at *
      grind
    exact Int.eq_of_mul_eq_mul_right (Int.mul_ne_zero hb hv) h1
  obtain ⟨a1, a2⟩ := low_uniq (low_mk (t := t) hb).1 (low_mk (t := u) hv).1 k
  exact Prod.ext a1 a2
theorem low_scale2 {t b m : Int} (hb : b ≠ 0) (hm : m ≠ 0) : low (t * m) (b * m) = low t b := low_eq (Int.mul_ne_zero hb hm) hb (by rw [Int.mul_assoc, Int.mul_comm m b])
theorem low_zero {b : Int} (hb : b ≠ 0) : low 0 b = (0, 1) := by
  have : low 0 b = low 0 1 := low_eq hb (by decide) (by omega)
  rw [this]
  decide
theorem low_one {b : Int} (hb : b ≠ 0) : low b b = (1, 1) := by
  have : low b b = low 1 1 := low_eq hb (by decide) (by omega)
  rw [this]
  decide
def gAd (p q : Int × Int) : Int × Int := low (p.1 * q.2 + q.1 * p.2) (p.2 * q.2)
def gSb (p q : Int × Int) : Int × Int := low (p.1 * q.2 - q.1 * p.2) (p.2 * q.2)
def gMu (p q : Int × Int) : Int × Int := low (p.1 * q.1) (p.2 * q.2)
theorem gAd_low {a c D : Int} (hD : D ≠ 0) : gAd (low a D) (low c D) = low (a + c) D := by
  obtain ⟨c1, p1⟩ := low_cross (t := a) hD
  obtain ⟨c2, p2⟩ := low_cross (t := c) hD
  refine low_eq (Int.mul_ne_zero (by omega) (by omega)) hD ?_
  generalize (low a D).1 = x at *
  generalize (low a D).2 = y at *
  generalize (low c D).1 = z at *
  generalize (low c D).2 = u at *
  grind
theorem gSb_low {a c D : Int} (hD : D ≠ 0) : gSb (low a D) (low c D) = low (a - c) D := by
  obtain ⟨c1, p1⟩ := low_cross (t := a) hD
  obtain ⟨c2, p2⟩ := low_cross (t := c) hD
  refine low_eq (Int.mul_ne_zero (by omega) (by omega)) hD ?_
  generalize (low a D).1 = x at *
  generalize (low a D).2 = y at *
  generalize (low c D).1 = z at *
  generalize (low c D).2 = u at *
  grind
theorem gSb_ad (p q : Int × Int) : gAd p (0 - q.1, q.2) = gSb p q := by
  unfold gAd gSb
  congr 1
  show p.1 * q.2 + (0 - q.1) * p.2 = p.1 * q.2 - q.1 * p.2
  rw [Int.sub_mul, Int.zero_mul]
  omega
theorem gMu_low {a b c d : Int} (hb : b ≠ 0) (hd : d ≠ 0) : gMu (low a b) (low c d) = low (a * c) (b * d) := by
  obtain ⟨c1, p1⟩ := low_cross (t := a) hb
  obtain ⟨c2, p2⟩ := low_cross (t := c) hd
  refine low_eq (Int.mul_ne_zero (by omega) (by omega)) (Int.mul_ne_zero hb hd) ?_
  generalize (low a b).1 = x at *
  generalize (low a b).2 = y at *
  generalize (low c d).1 = z at *
  generalize (low c d).2 = u at *
  grind
theorem gMu_raw {a b c d : Int} (hb : b ≠ 0) (hd : d ≠ 0) : gMu (low a b) (c, d) = low (a * c) (b * d) := by
  obtain ⟨c1, p1⟩ := low_cross (t := a) hb
  refine low_eq (Int.mul_ne_zero (by omega) hd) (Int.mul_ne_zero hb hd) ?_
  generalize (low a b).1 = x at *
  generalize (low a b).2 = y at *
  show x * c * (b * d) = a * c * (y * d)
  grind
/-- the place of a cut on the way from one side to another: by the law's own fractions, and by ratios -/
theorem way_law {l h D t b : Int} (hD : D ≠ 0) (hb : b ≠ 0) : gAd (low l D) (gMu (gAd (low h D) (0 - (low l D).1, (low l D).2)) (t, b)) = low (l * b + (h - l) * t) (D * b) := by
  rw [gSb_ad, gSb_low hD, gMu_raw hD hb, ← low_scale2 (t := l) hD hb, gAd_low (Int.mul_ne_zero hD hb)]
theorem way_prog {l h D t b : Int} (hD : D ≠ 0) (hb : b ≠ 0) : gAd (low l D) (gMu (gSb (low h D) (low l D)) (low t b)) = low (l * b + (h - l) * t) (D * b) := by
  rw [gSb_low hD, gMu_low hD hb, ← low_scale2 (t := l) hD hb, gAd_low (Int.mul_ne_zero hD hb)]
theorem low_le2 {a D : Int} (hD : 0 < D) (h0 : 0 ≤ a) (h1 : a ≤ D) : (low a D).1.natAbs ≤ D.natAbs ∧ (low a D).2.natAbs ≤ D.natAbs := by
  have := low_le (t := a) (b := D) (by omega)
  omega
/-- a box -/
structure IB where
  w : Int
  n : Int
  e : Int
  s : Int
  a : Int
structure IB.Ok (D : Int) (x : IB) : Prop where
  w0 : 0 ≤ x.w
  we : x.w < x.e
  e1 : x.e ≤ D
  n0 : 0 ≤ x.n
  ns : x.n < x.s
  s1 : x.s ≤ D
  ar : (x.e - x.w) * (x.s - x.n) = D * x.a
  a0 : 0 ≤ x.a
def IB.scale (b : Int) (x : IB) : IB := ⟨x.w * b, x.n * b, x.e * b, x.s * b, x.a * b⟩
def IB.whole : IB := ⟨0, 0, 1, 1, 1⟩
theorem IB.whole_ok : IB.whole.Ok 1 := ⟨by decide, by decide, by decide, by decide, by decide, by decide, by decide, by decide⟩
theorem IB.Ok.scale {D b : Int} {x : IB} (h : x.Ok D) (hb : 0 < b) : (x.scale b).Ok (D * b) := by
  have hb0 : 0 ≤ b := by omega
  refine ⟨Int.mul_nonneg h.w0 hb0, Int.mul_lt_mul_of_pos_right h.we hb, Int.mul_le_mul_of_nonneg_right h.e1 hb0, Int.mul_nonneg h.n0 hb0, Int.mul_lt_mul_of_pos_right h.ns hb, Int.mul_le_mul_of_nonneg_right h.s1 hb0, ?_, Int.mul_nonneg h.a0 hb0⟩
  have := h.ar
  show (x.e * b - x.w * b) * (x.s * b - x.n * b) = D * b * (x.a * b)
  grind
/-- both boxes of a cut across (up true: with the sign of a wall that stands), at t of b parts -/
def IB.one (up : Bool) (t b : Int) (x : IB) : IB := if up then ⟨x.w * b, x.n * b, x.w * b + (x.e - x.w) * t, x.s * b, x.a * t⟩ else ⟨x.w * b, x.n * b, x.e * b, x.n * b + (x.s - x.n) * t, x.a * t⟩
def IB.two (up : Bool) (t b : Int) (x : IB) : IB := if up then ⟨x.w * b + (x.e - x.w) * t, x.n * b, x.e * b, x.s * b, x.a * (b - t)⟩ else ⟨x.w * b, x.n * b + (x.s - x.n) * t, x.e * b, x.s * b, x.a * (b - t)⟩
theorem IB.Ok.one {D t b : Int} {x : IB} {up : Bool} (h : x.Ok D) (ht : 0 < t) (hb : t < b) : (x.one up t b).Ok (D * b) := by
  have hs := h.scale (b := b) (by omega)
  have hb0 : 0 ≤ b := by omega
  have har := h.ar
  cases up with
  | true =>
    have p1 : 0 < (x.e - x.w) * t := Int.mul_pos (by have := h.we; omega) ht
    have p2 : (x.e - x.w) * t ≤ (x.e - x.w) * b := Int.mul_le_mul_of_nonneg_left (by omega) (by have := h.we; omega)
    have p3 : (x.e - x.w) * b = x.e * b - x.w * b := Int.sub_mul ..
    refine ⟨hs.w0, ?_, ?_, hs.n0, hs.ns, hs.s1, ?_, Int.mul_nonneg h.a0 (by omega)⟩
    · show x.w * b < x.w * b + (x.e - x.w) * t
      omega
    · show x.w * b + (x.e - x.w) * t ≤ D * b
      have : x.e * b ≤ D * b := hs.e1
      omega
    · show (x.w * b + (x.e - x.w) * t - x.w * b) * (x.s * b - x.n * b) = D * b * (x.a * t)
      grind
  | false =>
    have p1 : 0 < (x.s - x.n) * t := Int.mul_pos (by have := h.ns; omega) ht
    have p2 : (x.s - x.n) * t ≤ (x.s - x.n) * b := Int.mul_le_mul_of_nonneg_left (by omega) (by have := h.ns; omega)
    have p3 : (x.s - x.n) * b = x.s * b - x.n * b := Int.sub_mul ..
    refine ⟨hs.w0, hs.we, hs.e1, hs.n0, ?_, ?_, ?_, Int.mul_nonneg h.a0 (by omega)⟩
    · show x.n * b < x.n * b + (x.s - x.n) * t
      omega
    · show x.n * b + (x.s - x.n) * t ≤ D * b
      have : x.s * b ≤ D * b := hs.s1
      omega
    · show (x.e * b - x.w * b) * (x.n * b + (x.s - x.n) * t - x.n * b) = D * b * (x.a * t)
      grind
theorem IB.Ok.two {D t b : Int} {x : IB} {up : Bool} (h : x.Ok D) (ht : 0 < t) (hb : t < b) : (x.two up t b).Ok (D * b) := by
  have hs := h.scale (b := b) (by omega)
  have hb0 : 0 ≤ b := by omega
  have har := h.ar
  cases up with
  | true =>
    have p1 : 0 < (x.e - x.w) * t := Int.mul_pos (by have := h.we; omega) ht
    have p2 : (x.e - x.w) * t < (x.e - x.w) * b := Int.mul_lt_mul_of_pos_left (by omega) (by have := h.we; omega)
    have p3 : (x.e - x.w) * b = x.e * b - x.w * b := Int.sub_mul ..
    refine ⟨?_, ?_, hs.e1, hs.n0, hs.ns, hs.s1, ?_, Int.mul_nonneg h.a0 (by omega)⟩
    · show 0 ≤ x.w * b + (x.e - x.w) * t
      have : 0 ≤ x.w * b := hs.w0
      omega
    · show x.w * b + (x.e - x.w) * t < x.e * b
      omega
    · show (x.e * b - (x.w * b + (x.e - x.w) * t)) * (x.s * b - x.n * b) = D * b * (x.a * (b - t))
      grind
  | false =>
    have p1 : 0 < (x.s - x.n) * t := Int.mul_pos (by have := h.ns; omega) ht
    have p2 : (x.s - x.n) * t < (x.s - x.n) * b := Int.mul_lt_mul_of_pos_left (by omega) (by have := h.ns; omega)
    have p3 : (x.s - x.n) * b = x.s * b - x.n * b := Int.sub_mul ..
    refine ⟨hs.w0, hs.we, hs.e1, ?_, ?_, hs.s1, ?_, Int.mul_nonneg h.a0 (by omega)⟩
    · show 0 ≤ x.n * b + (x.s - x.n) * t
      have : 0 ≤ x.n * b := hs.n0
      omega
    · show x.n * b + (x.s - x.n) * t < x.s * b
      omega
    · show (x.e * b - x.w * b) * (x.s * b - (x.n * b + (x.s - x.n) * t)) = D * b * (x.a * (b - t))
      grind
theorem IB.one_two_a {x : IB} {up : Bool} {t b : Int} : (x.one up t b).a + (x.two up t b).a = x.a * b := by
  cases up <;> show x.a * t + x.a * (b - t) = x.a * b <;> rw [← Int.mul_add] <;> congr 1 <;> omega
/-- a laid floor: addresses, rooms, boxes -/
abbrev FR : Type := List Nat × (List Nat × IB)
def areas : List FR → Int
  | [] => 0
  | r :: l => r.2.2.a + areas l
theorem areas_app : ∀ l m : List FR, areas (l ++ m) = areas l + areas m
  | [], m => by show areas m = 0 + areas m; omega
  | r :: l, m => by
    show r.2.2.a + areas (l ++ m) = (r.2.2.a + areas l) + areas m
    rw [areas_app l m]
    omega
theorem areas_perm {l m : List FR} (h : l.Perm m) : areas l = areas m := by
  induction h with
  | nil => rfl
  | cons x _ ih =>
    show x.2.2.a + _ = x.2.2.a + _
    rw [ih]
  | swap x y l =>
    show y.2.2.a + (x.2.2.a + areas l) = x.2.2.a + (y.2.2.a + areas l)
    omega
  | trans _ _ h1 h2 => exact h1.trans h2
def FR.scale (b : Int) (r : FR) : FR := (r.1, r.2.1, r.2.2.scale b)
theorem areas_scale (b : Int) : ∀ l : List FR, areas (l.map (FR.scale b)) = areas l * b
  | [] => by show (0 : Int) = 0 * b; omega
  | r :: l => by
    show r.2.2.a * b + areas (l.map (FR.scale b)) = (r.2.2.a + areas l) * b
    rw [areas_scale b l, Int.add_mul]
theorem areas_nonneg {l : List FR} (h : ∀ r ∈ l, 0 ≤ r.2.2.a) : 0 ≤ areas l := by
  induction l with
  | nil => exact Int.le_refl 0
  | cons r l ih =>
    have h1 := h r List.mem_cons_self
    have h2 := ih fun x hx => h x (List.mem_cons_of_mem _ hx)
    show 0 ≤ r.2.2.a + areas l
    omega
theorem areas_take {l : List FR} (h : ∀ r ∈ l, 0 ≤ r.2.2.a) (i : Nat) : 0 ≤ areas (l.take i) ∧ areas (l.take i) ≤ areas l := by
  refine ⟨areas_nonneg fun r hr => h r (List.mem_of_mem_take hr), ?_⟩
  have h1 : areas (l.take i ++ l.drop i) = areas (l.take i) + areas (l.drop i) := areas_app _ _
  rw [List.take_append_drop] at h1
  have h2 : 0 ≤ areas (l.drop i) := areas_nonneg fun r hr => h r (List.mem_of_mem_drop hr)
  omega
def flCut (D : Int) (st : List FR) (up : Bool) (ad p0 p1 : List Nat) (x : IB) (t b : Int) : List FR :=
  ((st.filter fun r => decide (r.1 ≠ ad)).map (FR.scale b)) ++ [(ad ++ [48], p0, x.one up t b), (ad ++ [49], p1, x.two up t b)]
structure FlOk (D : Int) (st : List FR) : Prop where
  pos : 0 < D
  ok : ∀ r ∈ st, r.2.2.Ok D
  sum : areas st = D
  nd : (st.map (·.1)).Nodup
theorem FlOk.start (room : List Nat) : FlOk 1 [([], room, IB.whole)] := ⟨by decide, fun r hr => by
  rw [List.mem_singleton.mp hr]
  exact IB.whole_ok, rfl, by simp⟩
theorem areas_filter {st : List FR} {ad room : List Nat} {x : IB} (nd : (st.map (·.1)).Nodup) (hm : (ad, room, x) ∈ st) : areas (st.filter fun r => decide (r.1 ≠ ad)) + x.a = areas st := by
  induction st with
  | nil => cases hm
  | cons r l ih =>
    rw [List.map_cons, List.nodup_cons] at nd
    rw [List.filter_cons]
    rcases List.mem_cons.mp hm with e | h
    · subst e
      rw [if_neg (by simp)]
      have : (l.filter fun r => decide (r.1 ≠ ad)) = l := List.filter_eq_self.mpr fun y hy => by
        refine decide_eq_true fun e => nd.1 ?_
        exact List.mem_map.mpr ⟨y, hy, e⟩
      rw [this]
      show areas l + x.a = x.a + areas l
      omega
    · have ne : r.1 ≠ ad := fun e => nd.1 (by rw [e]; exact List.mem_map.mpr ⟨_, h, rfl⟩)
      rw [if_pos (decide_eq_true ne)]
      have := ih nd.2 h
      show r.2.2.a + areas _ + x.a = r.2.2.a + areas l
      omega
theorem FlOk.cut {D t b : Int} {st : List FR} {up : Bool} {ad p0 p1 room : List Nat} {x : IB} (h : FlOk D st) (hm : (ad, room, x) ∈ st) (ht : 0 < t) (hb : t < b)
    (nd : ((flCut D st up ad p0 p1 x t b).map (·.1)).Nodup) : FlOk (D * b) (flCut D st up ad p0 p1 x t b) := by
  refine ⟨Int.mul_pos h.pos (by omega), fun r hr => ?_, ?_, nd⟩
  · rcases List.mem_append.mp hr with hr | hr
    · obtain ⟨y, hy, rfl⟩ := List.mem_map.mp hr
      exact (h.ok _ (List.mem_filter.mp hy).1).scale (by omega)
    · simp only [List.mem_cons, List.not_mem_nil, or_false] at hr
      rcases hr with rfl | rfl
      · exact (h.ok _ hm).one ht hb
      · exact (h.ok _ hm).two ht hb
  · unfold flCut
    rw [areas_app, areas_scale]
    have e1 := areas_filter h.nd hm
    have e2 : areas [((ad ++ [48], p0, x.one up t b) : FR), (ad ++ [49], p1, x.two up t b)] = (x.one up t b).a + ((x.two up t b).a + 0) := rfl
    rw [e2, Int.add_zero, IB.one_two_a, ← Int.add_mul, e1, h.sum]
/-- an area, and their sums -/
theorem area_of {D : Int} {x : IB} (hD : 0 < D) (h : x.Ok D) : gMu (low (x.e - x.w) D) (low (x.s - x.n) D) = low x.a D := by
  rw [gMu_low (by omega) (by omega), h.ar, Int.mul_comm D x.a, low_scale2 (by omega) (by omega)]
end FW
namespace FW
open PySem PySem.Spec PyProof.Rows L2
-- more
section
variable {P : Program} {w : World} {K : PySem.W.Frag} {mg : Str → Option Value} {base : Heap}
/-! a laid floor as it stands in the heap -/
theorem valV_map {α : Type} (f : α → List Nat) (g : α → V) (a : List Nat) : ∀ l : List α, valV (l.map fun q => ((Sum.inr (S (f q)) : Key), g q)) (.inr (S a)) = (l.find? fun q => decide (f q = a)).map g
  | [] => rfl
  | r :: l => by
    by_cases e : f r = a
    · rw [List.find?_cons_of_pos (by simpa using e)]
      exact valV_pos (p := ((Sum.inr (S (f r)), g r) : Key × V)) (inr_S.mpr e)
    · rw [List.find?_cons_of_neg (by simpa using e), ← valV_map f g a l]
      exact valV_neg (p := ((Sum.inr (S (f r)), g r) : Key × V)) (fun h => e (inr_S.mp h))
theorem dropK_map {α : Type} (f : α → List Nat) (g : α → V) (a : List Nat) : ∀ l : List α, dropK (l.map fun q => ((Sum.inr (S (f q)) : Key), g q)) (.inr (S a)) = (l.filter fun q => decide (f q ≠ a)).map fun q => ((Sum.inr (S (f q)) : Key), g q)
  | [] => rfl
  | r :: l => by
    have ih := dropK_map f g a l
    unfold dropK at ih ⊢
    rw [List.map_cons, List.filter_cons, List.filter_cons]
    by_cases e : f r = a
    · rw [if_neg (by simp [inr_S, e]), if_neg (by simp [e])]
      exact ih
    · rw [if_pos (by simp [inr_S, e]), if_pos (by simp [e]), List.map_cons, ih]
theorem putK_map {α : Type} (f : α → List Nat) (g : α → V) {l : List α} {q : α} (h : f q ∉ l.map f) : putK (l.map fun q => ((Sum.inr (S (f q)) : Key), g q)) (.inr (S (f q))) (g q) = (l ++ [q]).map fun q => ((Sum.inr (S (f q)) : Key), g q) := by
  have e : (l.find? fun x => decide (f x = f q)) = none := List.find?_eq_none.mpr fun x hx z => h (List.mem_map.mpr ⟨x, hx, of_decide_eq_true z⟩)
  rw [putK_new _ (by rw [valV_map, e]; rfl), List.map_append]
  rfl
/-- numbers as they stand: ratios, or pairs -/
abbrev NumP : Type := Hp → Addr → Int → Int → Prop
/-- what stays where all but dicts stay -/
def Far (H H' : Hp) : Prop := ∀ b o, H b = some o → (∀ kvs, o ≠ .dK kvs) → H' b = some o
theorem Far.same {H H' : Hp} (s : Same H H') : Far H H' := fun b o h _ => s b o h
theorem Far.trans {H H' H'' : Hp} (s : Far H H') (t : Far H' H'') : Far H H'' := fun b o h n => t b o (s b o h n) n
theorem Far.dict {H : Hp} {d : Addr} {kvs kvs' : List (Key × V)} (h : H d = some (.dK kvs)) : Far H (upd H d (.dK kvs')) := fun b o e n => by
  rw [upd_ne (fun z => by rw [z, h] at e; exact n _ (Option.some.inj e).symm)]
  exact e
/-- what stays where all but lists stay -/
def FarL (H H' : Hp) : Prop := ∀ b o, H b = some o → (∀ xs, o ≠ .lst xs) → H' b = some o
theorem FarL.but {H H' : Hp} {d : Addr} {xs : List V} (h : H d = some (.lst xs)) (s : But d H H') : FarL H H' := fun b o e n => s _ _ (fun z => by rw [z, h] at e; exact n _ (Option.some.inj e).symm) e
structure NumK (N : NumP) : Prop where
  far : ∀ H H' p a b, N H p a b → Far H H' → N H' p a b
  farL : ∀ H H' p a b, N H p a b → FarL H H' → N H' p a b
def PairN : NumP := fun H p a b => H p = some (tupI a b)
theorem PairN.k : NumK PairN := ⟨fun H H' p a b h s => s _ _ h (fun _ z => by cases z), fun H H' p a b h s => s _ _ h fun _ z => by cases z⟩
theorem RatAt.k (CR : Addr) : NumK (RatAt CR) := ⟨fun H H' p a b ⟨dx, h⟩ s => ⟨dx, s _ _ h fun _ z => by cases z⟩, fun H H' p a b ⟨dx, h⟩ s => ⟨dx, s _ _ h fun _ z => by cases z⟩⟩
def BoxV (N : NumP) (H : Hp) (D : Int) (x : IB) (w n e s : Addr) : Prop := N H w (low x.w D).1 (low x.w D).2 ∧ N H n (low x.n D).1 (low x.n D).2 ∧ N H e (low x.e D).1 (low x.e D).2 ∧ N H s (low x.s D).1 (low x.s D).2
def BoxAt (N : NumP) (H : Hp) (D : Int) (p : Addr) (x : IB) : Prop := ∃ w n e s, H p = some (.tup [.ref w, .ref n, .ref e, .ref s]) ∧ BoxV N H D x w n e s
theorem BoxV.far {N : NumP} {H H' : Hp} {D : Int} {x : IB} {w n e s : Addr} (h : BoxV N H D x w n e s) (k : NumK N) (f : Far H H') : BoxV N H' D x w n e s := ⟨k.far _ _ _ _ _ h.1 f, k.far _ _ _ _ _ h.2.1 f, k.far _ _ _ _ _ h.2.2.1 f, k.far _ _ _ _ _ h.2.2.2 f⟩
theorem BoxV.farL {N : NumP} {H H' : Hp} {D : Int} {x : IB} {w n e s : Addr} (h : BoxV N H D x w n e s) (k : NumK N) (f : FarL H H') : BoxV N H' D x w n e s := ⟨k.farL _ _ _ _ _ h.1 f, k.farL _ _ _ _ _ h.2.1 f, k.farL _ _ _ _ _ h.2.2.1 f, k.farL _ _ _ _ _ h.2.2.2 f⟩
theorem BoxAt.far {N : NumP} {H H' : Hp} {D : Int} {x : IB} {p : Addr} (h : BoxAt N H D p x) (k : NumK N) (f : Far H H') : BoxAt N H' D p x := let ⟨w, n, e, s, h1, h2⟩ := h; ⟨w, n, e, s, f _ _ h1 (fun _ z => by cases z), h2.far k f⟩
theorem BoxV.scale {N : NumP} {H : Hp} {D b : Int} {x : IB} {w n e s : Addr} (h : BoxV N H D x w n e s) (hD : D ≠ 0) (hb : b ≠ 0) : BoxV N H (D * b) (x.scale b) w n e s := by
  unfold BoxV IB.scale
  rw [low_scale2 hD hb, low_scale2 hD hb, low_scale2 hD hb, low_scale2 hD hb]
  exact h
theorem BoxAt.scale {N : NumP} {H : Hp} {D b : Int} {x : IB} {p : Addr} (h : BoxAt N H D p x) (hD : D ≠ 0) (hb : b ≠ 0) : BoxAt N H (D * b) p (x.scale b) := let ⟨w, n, e, s, h1, h2⟩ := h; ⟨w, n, e, s, h1, h2.scale hD hb⟩
def CellAt (N : NumP) (H : Hp) (D : Int) (q : FR × Addr) : Prop := ∃ p, H q.2 = some (.tup [.str (S q.1.2.1), .ref p]) ∧ BoxAt N H D p q.1.2.2
theorem CellAt.far {N : NumP} {H H' : Hp} {D : Int} {q : FR × Addr} (h : CellAt N H D q) (k : NumK N) (f : Far H H') : CellAt N H' D q := let ⟨p, h1, h2⟩ := h; ⟨p, f _ _ h1 (fun _ z => by cases z), h2.far k f⟩
theorem CellAt.scale {N : NumP} {H : Hp} {D b : Int} {q : FR × Addr} (h : CellAt N H D q) (hD : D ≠ 0) (hb : b ≠ 0) : CellAt N H (D * b) (q.1.scale b, q.2) := let ⟨p, h1, h2⟩ := h; ⟨p, h1, h2.scale hD hb⟩
def kvF (qs : List (FR × Addr)) : List (Key × V) := qs.map fun q => ((Sum.inr (S q.1.1) : Key), V.ref q.2)
structure FloorAt (N : NumP) (H : Hp) (d : Addr) (D : Int) (qs : List (FR × Addr)) : Prop where
  dict : H d = some (.dK (kvF qs))
  cells : ∀ q ∈ qs, CellAt N H D q
theorem FloorAt.same {N : NumP} {H H' : Hp} {d : Addr} {D : Int} {qs : List (FR × Addr)} (h : FloorAt N H d D qs) (k : NumK N) (s : Same H H') : FloorAt N H' d D qs := ⟨s _ _ h.dict, fun q hq => (h.cells q hq).far k (Far.same s)⟩
theorem CellAt.farL {N : NumP} {H H' : Hp} {D : Int} {q : FR × Addr} (h : CellAt N H D q) (k : NumK N) (f : FarL H H') : CellAt N H' D q := let ⟨p, h1, w, n, e, s, h2, h3⟩ := h; ⟨p, f _ _ h1 (fun _ z => by cases z), w, n, e, s, f _ _ h2 (fun _ z => by cases z), h3.farL k f⟩
theorem FloorAt.farL {N : NumP} {H H' : Hp} {d : Addr} {D : Int} {qs : List (FR × Addr)} (h : FloorAt N H d D qs) (k : NumK N) (f : FarL H H') : FloorAt N H' d D qs := ⟨f _ _ h.dict (fun _ z => by cases z), fun q hq => (h.cells q hq).farL k f⟩
/-- the floor behind a cut -/
def qCut (qs : List (FR × Addr)) (up : Bool) (ad p0 p1 : List Nat) (x : IB) (t b : Int) (u0 u1 : Addr) : List (FR × Addr) :=
  ((qs.filter fun q => decide (q.1.1 ≠ ad)).map fun q => (q.1.scale b, q.2)) ++ [((ad ++ [48], p0, x.one up t b), u0), ((ad ++ [49], p1, x.two up t b), u1)]
theorem qCut_st {qs : List (FR × Addr)} {up : Bool} {ad p0 p1 : List Nat} {x : IB} {t b D : Int} {u0 u1 : Addr} : (qCut qs up ad p0 p1 x t b u0 u1).map (·.1) = flCut D (qs.map (·.1)) up ad p0 p1 x t b := by
  unfold qCut flCut
  rw [List.map_append, List.map_map, List.filter_map, List.map_map]
  rfl
theorem kvF_cut {qs : List (FR × Addr)} {up : Bool} {ad p0 p1 : List Nat} {x : IB} {t b : Int} {u0 u1 : Addr} : kvF (qCut qs up ad p0 p1 x t b u0 u1) = kvF (qs.filter fun q => decide (q.1.1 ≠ ad)) ++ [((Sum.inr (S (ad ++ [48])) : Key), V.ref u0), (Sum.inr (S (ad ++ [49])), V.ref u1)] := by
  unfold kvF qCut
  rw [List.map_append, List.map_map]
  rfl
def lkQ (qs : List (FR × Addr)) (ad : List Nat) : Option (FR × Addr) := qs.find? fun q => decide (q.1.1 = ad)
theorem valV_kvF (qs : List (FR × Addr)) (ad : List Nat) : valV (kvF qs) (.inr (S ad)) = (lkQ qs ad).map fun q => V.ref q.2 := valV_map (fun q : FR × Addr => q.1.1) (fun q => V.ref q.2) ad qs
theorem lkQ_some {qs : List (FR × Addr)} {ad : List Nat} {q : FR × Addr} (h : lkQ qs ad = some q) : q ∈ qs ∧ q.1.1 = ad := ⟨List.mem_of_find?_eq_some h, of_decide_eq_true (List.find?_some (p := fun q : FR × Addr => decide (q.1.1 = ad)) h)⟩
theorem lkQ_mem {qs : List (FR × Addr)} {ad : List Nat} (h : ad ∈ qs.map (·.1.1)) : ∃ q, lkQ qs ad = some q := by
  cases z : lkQ qs ad with
  | some q => exact ⟨q, rfl⟩
  | none =>
    obtain ⟨q, hq, e⟩ := List.mem_map.mp h
    exact absurd (decide_eq_true e) (List.find?_eq_none.mp z q hq)
abbrev s_is_place : Stmt := topS 36
theorem sc_is_place : FnScope ["top", "bottom"] ["top", "bottom"] (defScope s_is_place) := ⟨rfl, rfl, rfl, by decide +kernel, rfl, by decide +kernel, by decide +kernel⟩
def sp_is_place : Sp := fun vs H Q _ => ∃ (t b : Int), vs = [.int t, .int b] ∧ 0 < t ∧ t < b ∧ Q (.bl true) H
theorem ok_is_place {f : Addr} {fd : FuncData} (F : Fun K "is_place" "is_place" s_is_place f fd) (c_is_integer : Cal P w K mg base CX0 1 "is_integer" s_is_integer ["value"] (sp_is_integer K)) : FnOk P w K mg base CX0 2 f fd ["top", "bottom"] sp_is_place := by
  refine F.ok sc_is_place (fun vs H Q E h => ?_) (fun cdv A outer s H vs Q E hr h => ?_)
  · obtain ⟨t, b, rfl, _⟩ := h
    rfl
  obtain ⟨t, b, rfl, h0, h1, q⟩ := h
  refine ⟨_, (pss_one (ps_ret (pe_and (pe_c c_is_integer hr (by decide) (by rfl) (pa_cons (pv 0) pa_nil)) (pe_and (pe_c c_is_integer hr (by decide) (by rfl) (pa_cons (pv 1) pa_nil)) (pe_one (pe_chain op_lt op_lt pe_int (pv 0) (pv 1))))))), ?_⟩
  refine ⟨_, rfl, .int t, rfl, .inl rfl, true, rfl, iteT ⟨_, rfl, .int b, rfl, .inl rfl, true, rfl, iteT ?_⟩⟩
  refine ⟨_, rfl, _, _, rfl, rfl, true, congrArg V.bl (decide_eq_true h0), iteT ⟨_, rfl, _, _, rfl, rfl, ?_⟩⟩
  show Q (V.bl (decide (t < b))) H
  rw [decide_eq_true h1]
  exact q
abbrev s_is_placed_step : Stmt := topS 37
theorem sc_is_placed_step : FnScope ["value", "floor", "cutters", "address", "cutter", "top", "bottom", "stands"] ["value", "floor", "cutters"] (defScope s_is_placed_step) := ⟨rfl, rfl, rfl, by decide +kernel, rfl, by decide +kernel, by decide +kernel⟩
def sp_is_placed_step (K : PySem.W.Frag) : Sp := fun vs H Q _ => ∃ (p d : Addr) (C a : List Nat) (c : Nat) (t b : Int) (qs : List (FR × Addr)), vs = [.ref p, .ref d, .str (S C)] ∧ SqT K H p [.str (S a), .str (S [c]), .int t, .int b] ∧ H d = some (.dK (kvF qs)) ∧ a ∈ qs.map (·.1.1) ∧ c ∈ C ∧ 0 < t ∧ t < b ∧ ∀ H', Same H H' → Q (.bl true) H'
theorem ok_is_placed_step {f : Addr} {fd : FuncData} (F : Fun K "is_placed_step" "is_placed_step" s_is_placed_step f fd) (T : Z mg) (c_is_letter : Cal P w K mg base CX0 1 "is_letter" s_is_letter ["value", "letters"] (sp_is_letter K))
    (c_is_place : Cal P w K mg base CX0 2 "is_place" s_is_place ["top", "bottom"] sp_is_place) : FnOk P w K mg base CX0 3 f fd ["value", "floor", "cutters"] (sp_is_placed_step K) := by
  refine F.ok sc_is_placed_step (fun vs H Q E h => ?_) (fun cdv A outer s H vs Q E hr h => ?_)
  · obtain ⟨p, d, C, a, c, t, b, qs, rfl, _⟩ := h
    rfl
  obtain ⟨p, d, cs, a, c, t, b, qs, rfl, hS, hd, ha, hc, t0, tb, q⟩ := h
  refine ⟨_, (pss_cons (ps_if (PW.pt (pw_or (pt_not (pt_val (pe_callB call_isi (by rfl) T.z_isinstance (by decide +kernel) (pa_cons (pv 0) (pa_cons (pe_bltn (v := .ty "tuple") (u := .type "tuple") (by rfl) T.z_tuple (by decide +kernel) rfl) pa_nil))))) (pw_or1 (pt_cmpR op_ne (pe_callB call_len_seq (by rfl) T.z_len (by decide +kernel) (pa_cons (pv 0) pa_nil)) pe_int (nomark _))))) (pss_one (ps_ret pe_bl)) pss_nil)
      (pss_cons (ps_asg (pv 0) (pg_tup rfl (pgs_cons (pg_name (i := 3) sc_is_placed_step.nd rfl (.inl rfl)) (pgs_cons (pg_name (i := 4) sc_is_placed_step.nd rfl (.inl rfl)) (pgs_cons (pg_name (i := 5) sc_is_placed_step.nd rfl (.inl rfl)) (pgs_cons (pg_name (i := 6) sc_is_placed_step.nd rfl (.inl rfl)) pgs_nil))))))
      (pss_cons (ps_set (i := 7) sc_is_placed_step.nd rfl (.inl rfl) (pe_and (pe_callB call_isi (by rfl) T.z_isinstance (by decide +kernel) (pa_cons (pv 3) (pa_cons (pe_bltn (v := .ty "str") (u := .type "str") (by rfl) T.z_str (by decide +kernel) rfl) pa_nil))) (pe_one (pe_cmp (pc_din (hu_of hr) (pv 3) (pv 1))))))
      (pss_one (ps_ret (pe_and (pv 7) (pe_and (pe_c c_is_letter hr (by decide) (by rfl) (pa_cons (pv 4) (pa_cons (pv 2) pa_nil))) (pe_one (pe_c c_is_place hr (by decide) (by rfl) (pa_cons (pv 5) (pa_cons (pv 6) pa_nil))))))))))), ?_⟩
  refine ⟨_, rfl, _, _, _, _, true, rfl, .ty _, tyT hS, kit_ty (by decide +kernel), true, rfl, iteF ?_⟩
  refine ⟨_, rfl, p, _, rfl, .inr hS, rfl, _, rfl, iteF ?_⟩
  refine ⟨_, rfl, p, _, rfl, hS, rfl, _, _, rfl, _, _, rfl, _, _, rfl, _, _, rfl, rfl, ?_⟩
  refine ⟨_, rfl, _, _, _, _, true, rfl, .ty _, .base (.str _), kit_ty (by decide +kernel), true, rfl, iteT ?_⟩
  have hg : DGet H d (.str (S a)) (valV (kvF qs) (.inr (S a))) := DGet.k (k := Sum.inr (S a)) hd
  rw [valV_kvF] at hg
  obtain ⟨r, hr1⟩ := lkQ_mem ha
  rw [hr1] at hg
  refine ⟨_, rfl, _, rfl, d, _, rfl, hg, ?_⟩
  refine ⟨_, rfl, true, rfl, iteT ?_⟩
  have hlet : bLetter (.str (S [c])) cs = true := by
    unfold bLetter
    rw [show decide ((strOf (V.str (S [c]))).cps.toList.getD 0 0 ∈ cs) = true from decide_eq_true hc]
    rfl
  refine ⟨_, rfl, _, rfl, .str (S [c]), cs, rfl, .inl ⟨rfl, (show 1 ≤ 100000 by decide)⟩, fun H1 s1 => ?_⟩
  rw [hlet]
  exact ⟨true, rfl, iteT ⟨_, rfl, _, rfl, t, b, rfl, t0, tb, q _ s1⟩⟩
theorem sm_low {a D : Int} (hD : 0 < D) (h0 : 0 ≤ a) (h1 : a ≤ D) (hs : D < 2 ^ 63) : Sm (low a D).1 ∧ Sm (low a D).2 ∧ (low a D).2 ≠ 0 := by
  obtain ⟨h2, h3⟩ := low_le2 hD h0 h1
  have := (low_cross (t := a) (b := D) (by omega)).2
  refine ⟨?_, ?_, by omega⟩
  · show (low a D).1.natAbs < 2 ^ 63
    omega
  · show (low a D).2.natAbs < 2 ^ 63
    omega
/-- the place of a cut, as a ratio -/
theorem way_ask {CR : Addr} {H : Hp} {ww hh pl : Addr} {l h D t b : Int} {Q k1 : VK} (Rw : RatAt CR H ww (low l D).1 (low l D).2) (Rh : RatAt CR H hh (low h D).1 (low h D).2) (Rp : RatAt CR H pl (low t b).1 (low t b).2)
    (D0 : 0 < D) (l0 : 0 ≤ l) (lh : l < h) (hD : h ≤ D) (t0 : 0 < t) (tb : t < b) (sm : D * b < 2 ^ 63)
    (q : ∀ H' z, Same H H' → H z = none → RatAt CR H' z (low (l * b + (h - l) * t) (D * b)).1 (low (l * b + (h - l) * t) (D * b)).2 → Q (.ref z) H')
    (h1 : ∀ x H1, rOwnB CR (sp_Ratio_op K CR gMul) E0 x (.ref pl) H1 (fun y H2 => rOwnB CR (sp_Ratio_op K CR gAdd) E0 (.ref ww) y H2 Q) → k1 x H1) : rOwnB CR (sp_Ratio_op K CR gSub) E0 (.ref hh) (.ref ww) H k1 := by
  have b1 : 1 ≤ b := by omega
  have hDb : D ≤ D * b := by
    have := Int.mul_le_mul_of_nonneg_left b1 (show 0 ≤ D by omega)
    omega
  have hbD : b ≤ D * b := by
    have := Int.mul_le_mul_of_nonneg_right (show 1 ≤ D by omega) (show 0 ≤ b by omega)
    omega
  have Db0 : 0 < D * b := by omega
  obtain ⟨sw1, sw2, sw3⟩ := sm_low D0 l0 (by omega) (by omega : D < 2 ^ 63)
  obtain ⟨sh1, sh2, sh3⟩ := sm_low (a := h) D0 (by omega) hD (by omega)
  obtain ⟨sp1, sp2, sp3⟩ := sm_low (a := t) (D := b) (by omega) (by omega) (by omega) (by omega)
  obtain ⟨sd1, sd2, sd3⟩ := sm_low (a := h - l) D0 (by omega) (by omega) (by omega)
  have p1 : (h - l) * t ≤ D * b := by
    have e1 : (h - l) * t ≤ (h - l) * b := Int.mul_le_mul_of_nonneg_left (by omega) (by omega)
    have e2 : (h - l) * b ≤ D * b := Int.mul_le_mul_of_nonneg_right (by omega) (by omega)
    omega
  have p0 : 0 ≤ (h - l) * t := Int.mul_nonneg (by omega) (by omega)
  obtain ⟨sm1, sm2, sm3⟩ := sm_low Db0 p0 p1 sm
  obtain ⟨dw, hw⟩ := Rw
  obtain ⟨dh, hhx⟩ := Rh
  refine ⟨hh, dh, _, rfl, hhx, .ins hw, hh, ww, _, _, _, _, rfl, ⟨dh, hhx⟩, ⟨dw, hw⟩, sh1, sh2, sw1, sw2, sh3, sw3, fun H1 z1 s1 n1 r1 => ?_⟩
  rw [show gSub (low h D).1 (low h D).2 (low l D).1 (low l D).2 = low (h - l) D from gSb_low (by omega)] at r1
  refine h1 _ _ ?_
  obtain ⟨dz, hz⟩ := r1
  obtain ⟨dp, hp⟩ := Rp.same s1
  refine ⟨z1, dz, _, rfl, hz, .ins hp, z1, pl, _, _, _, _, rfl, ⟨dz, hz⟩, ⟨dp, hp⟩, sd1, sd2, sp1, sp2, sd3, sp3, fun H2 z2 s2 n2 r2 => ?_⟩
  rw [show gMul (low (h - l) D).1 (low (h - l) D).2 (low t b).1 (low t b).2 = low ((h - l) * t) (D * b) from gMu_low (by omega) (by omega)] at r2
  obtain ⟨dy, hy⟩ := r2
  have hw2 := s2 _ _ (s1 _ _ hw)
  refine ⟨ww, dw, _, rfl, hw2, .ins hy, ww, z2, _, _, _, _, rfl, ⟨dw, hw2⟩, ⟨dy, hy⟩, sw1, sw2, sm1, sm2, sw3, sm3, fun H3 z3 s3 n3 r3 => ?_⟩
  have e3 : gAdd (low l D).1 (low l D).2 (low ((h - l) * t) (D * b)).1 (low ((h - l) * t) (D * b)).2 = low (l * b + (h - l) * t) (D * b) := by
    show gAd (low l D) (low ((h - l) * t) (D * b)) = _
    rw [← low_scale2 (t := l) (show D ≠ 0 by omega) (show b ≠ 0 by omega), gAd_low (by omega)]
  rw [e3] at r3
  exact q _ _ ((s1.trans s2).trans s3) (none_same (s1.trans s2) n3) r3
abbrev s_boxes_at : Stmt := topS 38
theorem sc_boxes_at : FnScope ["box", "sign", "place", "west", "north", "east", "south", "at"] ["box", "sign", "place"] (defScope s_boxes_at) := ⟨rfl, rfl, rfl, by decide +kernel, rfl, by decide +kernel, by decide +kernel⟩
def sp_boxes_at (K : PySem.W.Frag) (CR : Addr) : Sp := fun vs H Q _ => ∃ (p pl : Addr) (sg : Nat) (D t b : Int) (x : IB), vs = [.ref p, .str (S [sg]), .ref pl] ∧ BoxAt (RatAt CR) H D p x ∧ RatAt CR H pl (low t b).1 (low t b).2 ∧ 0 < D ∧ x.Ok D ∧ 0 < t ∧ t < b ∧ D * b < 2 ^ 63 ∧
  ∀ H' r b0 b1, Same H H' → H' r = some (.tup [.ref b0, .ref b1]) → BoxAt (RatAt CR) H' (D * b) b0 (x.one (decide (sg = 124)) t b) → BoxAt (RatAt CR) H' (D * b) b1 (x.two (decide (sg = 124)) t b) → Q (.ref r) H'
theorem ok_boxes_at {f CR : Addr} {fd : FuncData} (F : Fun K "boxes_at" "boxes_at" s_boxes_at f fd) (o_add : OwnB P w K mg base CR .Add 4 (sp_Ratio_op K CR gAdd)) (o_sub : OwnB P w K mg base CR .Sub 4 (sp_Ratio_op K CR gSub)) (o_mul : OwnB P w K mg base CR .Mult 4 (sp_Ratio_op K CR gMul)) :
    FnOk P w K mg base CX0 5 f fd ["box", "sign", "place"] (sp_boxes_at K CR) := by
  refine F.ok sc_boxes_at (fun vs H Q E h => ?_) (fun cdv A outer s H vs Q E hr h => ?_)
  · obtain ⟨p, pl, sg, D, t, b, x, rfl, _⟩ := h
    rfl
  obtain ⟨p, pl, sg, D, t, b, x, rfl, ⟨ww, nn, ee, ss, hp, Rw, Rn, Re, Rs⟩, Rp, D0, ok, t0, tb, sm, q⟩ := h
  refine ⟨_, (pss_cons (ps_asg (pv 0) (pg_tup rfl (pgs_cons (pg_name (i := 3) sc_boxes_at.nd rfl (.inl rfl)) (pgs_cons (pg_name (i := 4) sc_boxes_at.nd rfl (.inl rfl)) (pgs_cons (pg_name (i := 5) sc_boxes_at.nd rfl (.inl rfl)) (pgs_cons (pg_name (i := 6) sc_boxes_at.nd rfl (.inl rfl)) pgs_nil))))))
      (pss_cons (ps_if (pt_cmpR op_eq (pv 1) pe_str (nomark _)) (pss_cons (ps_set (i := 7) sc_boxes_at.nd rfl (.inl rfl) (pe_op (op_binO o_add hr (by decide)) (pv 3) (pe_op (op_binO o_mul hr (by decide)) (pe_op (op_binO o_sub hr (by decide)) (pv 5) (pv 3)) (pv 2))))
      (pss_one (ps_ret (pe_tup (pa_cons (pe_tup (pa_cons (pv 3) (pa_cons (pv 4) (pa_cons (pv 7) (pa_cons (pv 6) pa_nil))))) (pa_cons (pe_tup (pa_cons (pv 7) (pa_cons (pv 4) (pa_cons (pv 5) (pa_cons (pv 6) pa_nil))))) pa_nil)))))) pss_nil)
      (pss_cons (ps_set (i := 7) sc_boxes_at.nd rfl (.inl rfl) (pe_op (op_binO o_add hr (by decide)) (pv 4) (pe_op (op_binO o_mul hr (by decide)) (pe_op (op_binO o_sub hr (by decide)) (pv 6) (pv 4)) (pv 2))))
      (pss_one (ps_ret (pe_tup (pa_cons (pe_tup (pa_cons (pv 3) (pa_cons (pv 4) (pa_cons (pv 5) (pa_cons (pv 7) pa_nil))))) (pa_cons (pe_tup (pa_cons (pv 3) (pa_cons (pv 7) (pa_cons (pv 5) (pa_cons (pv 6) pa_nil))))) pa_nil)))))))), ?_⟩
  refine ⟨_, rfl, p, _, rfl, SqT.of hp, rfl, _, _, rfl, _, _, rfl, _, _, rfl, _, _, rfl, rfl, ?_⟩
  have b0 : 0 < b := by omega
  have kR := RatAt.k CR
  refine ⟨_, rfl, rfl, _, rfl, ite_dec (fun h0 => ?_) (fun h0 => ?_)⟩
  · have e : sg = 124 := by
      have h1 := S_inj (b := [124]) (V.str.inj h0)
      exact (List.cons.inj h1).1
    subst e
    refine ⟨_, rfl, _, rfl, _, rfl, way_ask Rw Re Rp D0 ok.w0 ok.we ok.e1 t0 tb sm (fun H1 z s1 nz rz => ?_) (fun x H1 h => ⟨_, rfl, h⟩)⟩
    refine ⟨_, rfl, _, rfl, _, rfl, _, rfl, (show 4 ≤ sizeLine by decide), fun p1 n1 => ⟨_, rfl, _, rfl, _, rfl, _, rfl, (show 4 ≤ sizeLine by decide), fun p2 n2 => ⟨(show 2 ≤ sizeLine by decide), fun r nr => ?_⟩⟩⟩
    have S2 := s1.trans (same_upd (o := HO.tup [V.ref ww, V.ref nn, V.ref z, V.ref ss]) n1)
    have h1 : (upd H1 p1 (HO.tup [V.ref ww, V.ref nn, V.ref z, V.ref ss])) p1 = some (.tup [V.ref ww, V.ref nn, V.ref z, V.ref ss]) := upd_same
    have rz2 := rz.same (same_upd (o := HO.tup [V.ref ww, V.ref nn, V.ref z, V.ref ss]) n1)
    generalize upd H1 p1 (HO.tup [V.ref ww, V.ref nn, V.ref z, V.ref ss]) = H2 at S2 h1 rz2 n2 nr ⊢
    have S3 := same_upd (o := HO.tup [V.ref z, V.ref nn, V.ref ee, V.ref ss]) n2
    have h2 : (upd H2 p2 (HO.tup [V.ref z, V.ref nn, V.ref ee, V.ref ss])) p2 = some (.tup [V.ref z, V.ref nn, V.ref ee, V.ref ss]) := upd_same
    generalize upd H2 p2 (HO.tup [V.ref z, V.ref nn, V.ref ee, V.ref ss]) = H3 at S3 h2 nr ⊢
    have S4 := same_upd (o := HO.tup [V.ref p1, V.ref p2]) nr
    have ST := (S2.trans S3).trans S4
    refine q _ r p1 p2 ST upd_same ⟨ww, nn, z, ss, S4 _ _ (S3 _ _ h1), ?_⟩ ⟨z, nn, ee, ss, S4 _ _ h2, ?_⟩
    · show RatAt CR _ ww (low (x.w * b) (D * b)).1 (low (x.w * b) (D * b)).2 ∧ RatAt CR _ nn (low (x.n * b) (D * b)).1 (low (x.n * b) (D * b)).2 ∧ RatAt CR _ z (low (x.w * b + (x.e - x.w) * t) (D * b)).1 (low (x.w * b + (x.e - x.w) * t) (D * b)).2 ∧ RatAt CR _ ss (low (x.s * b) (D * b)).1 (low (x.s * b) (D * b)).2
      rw [low_scale2 (t := x.w) (show D ≠ 0 by omega) (show b ≠ 0 by omega), low_scale2 (t := x.n) (show D ≠ 0 by omega) (show b ≠ 0 by omega), low_scale2 (t := x.s) (show D ≠ 0 by omega) (show b ≠ 0 by omega)]
      exact ⟨Rw.same ST, Rn.same ST, (rz2.same S3).same S4, Rs.same ST⟩
    · show RatAt CR _ z (low (x.w * b + (x.e - x.w) * t) (D * b)).1 (low (x.w * b + (x.e - x.w) * t) (D * b)).2 ∧ RatAt CR _ nn (low (x.n * b) (D * b)).1 (low (x.n * b) (D * b)).2 ∧ RatAt CR _ ee (low (x.e * b) (D * b)).1 (low (x.e * b) (D * b)).2 ∧ RatAt CR _ ss (low (x.s * b) (D * b)).1 (low (x.s * b) (D * b)).2
      rw [low_scale2 (t := x.n) (show D ≠ 0 by omega) (show b ≠ 0 by omega), low_scale2 (t := x.e) (show D ≠ 0 by omega) (show b ≠ 0 by omega), low_scale2 (t := x.s) (show D ≠ 0 by omega) (show b ≠ 0 by omega)]
      exact ⟨(rz2.same S3).same S4, Rn.same ST, Re.same ST, Rs.same ST⟩
  · have e : decide (sg = 124) = false := decide_eq_false fun e => h0 (by rw [e]; rfl)
    rw [e] at q
    refine ⟨_, rfl, _, rfl, _, rfl, way_ask Rn Rs Rp D0 ok.n0 ok.ns ok.s1 t0 tb sm (fun H1 z s1 nz rz => ?_) (fun x H1 h => ⟨_, rfl, h⟩)⟩
    refine ⟨_, rfl, _, rfl, _, rfl, _, rfl, (show 4 ≤ sizeLine by decide), fun p1 n1 => ⟨_, rfl, _, rfl, _, rfl, _, rfl, (show 4 ≤ sizeLine by decide), fun p2 n2 => ⟨(show 2 ≤ sizeLine by decide), fun r nr => ?_⟩⟩⟩
    have S2 := s1.trans (same_upd (o := HO.tup [V.ref ww, V.ref nn, V.ref ee, V.ref z]) n1)
    have h1 : (upd H1 p1 (HO.tup [V.ref ww, V.ref nn, V.ref ee, V.ref z])) p1 = some (.tup [V.ref ww, V.ref nn, V.ref ee, V.ref z]) := upd_same
    have rz2 := rz.same (same_upd (o := HO.tup [V.ref ww, V.ref nn, V.ref ee, V.ref z]) n1)
    generalize upd H1 p1 (HO.tup [V.ref ww, V.ref nn, V.ref ee, V.ref z]) = H2 at S2 h1 rz2 n2 nr ⊢
    have S3 := same_upd (o := HO.tup [V.ref ww, V.ref z, V.ref ee, V.ref ss]) n2
    have h2 : (upd H2 p2 (HO.tup [V.ref ww, V.ref z, V.ref ee, V.ref ss])) p2 = some (.tup [V.ref ww, V.ref z, V.ref ee, V.ref ss]) := upd_same
    generalize upd H2 p2 (HO.tup [V.ref ww, V.ref z, V.ref ee, V.ref ss]) = H3 at S3 h2 nr ⊢
    have S4 := same_upd (o := HO.tup [V.ref p1, V.ref p2]) nr
    have ST := (S2.trans S3).trans S4
    refine q _ r p1 p2 ST upd_same ⟨ww, nn, ee, z, S4 _ _ (S3 _ _ h1), ?_⟩ ⟨ww, z, ee, ss, S4 _ _ h2, ?_⟩
    · show RatAt CR _ ww (low (x.w * b) (D * b)).1 (low (x.w * b) (D * b)).2 ∧ RatAt CR _ nn (low (x.n * b) (D * b)).1 (low (x.n * b) (D * b)).2 ∧ RatAt CR _ ee (low (x.e * b) (D * b)).1 (low (x.e * b) (D * b)).2 ∧ RatAt CR _ z (low (x.n * b + (x.s - x.n) * t) (D * b)).1 (low (x.n * b + (x.s - x.n) * t) (D * b)).2
      rw [low_scale2 (t := x.w) (show D ≠ 0 by omega) (show b ≠ 0 by omega), low_scale2 (t := x.n) (show D ≠ 0 by omega) (show b ≠ 0 by omega), low_scale2 (t := x.e) (show D ≠ 0 by omega) (show b ≠ 0 by omega)]
      exact ⟨Rw.same ST, Rn.same ST, Re.same ST, (rz2.same S3).same S4⟩
    · show RatAt CR _ ww (low (x.w * b) (D * b)).1 (low (x.w * b) (D * b)).2 ∧ RatAt CR _ z (low (x.n * b + (x.s - x.n) * t) (D * b)).1 (low (x.n * b + (x.s - x.n) * t) (D * b)).2 ∧ RatAt CR _ ee (low (x.e * b) (D * b)).1 (low (x.e * b) (D * b)).2 ∧ RatAt CR _ ss (low (x.s * b) (D * b)).1 (low (x.s * b) (D * b)).2
      rw [low_scale2 (t := x.w) (show D ≠ 0 by omega) (show b ≠ 0 by omega), low_scale2 (t := x.e) (show D ≠ 0 by omega) (show b ≠ 0 by omega), low_scale2 (t := x.s) (show D ≠ 0 by omega) (show b ≠ 0 by omega)]
      exact ⟨Rw.same ST, (rz2.same S3).same S4, Re.same ST, Rs.same ST⟩
end
end FW
namespace FW
open PySem PySem.Spec PyProof.Rows L2
-- more
section
variable {P : Program} {w : World} {K : PySem.W.Frag} {mg : Str → Option Value} {base : Heap}
/-! placed steps -/
abbrev PStp : Type := List Nat × (Nat × (Int × Int))
def flStep (cut : List Nat → Nat → List Nat) (F : Int × List FR) (s : PStp) : Int × List FR :=
  match F.2.find? (fun r => decide (r.1 = s.1)) with
  | none => F
  | some r => match splitL r.2.1 (cut r.2.1 s.2.1) with
    | [p0, p1] => (F.1 * s.2.2.2, flCut F.1 F.2 (decide ((cut r.2.1 s.2.1).headD 0 = 124)) s.1 p0 p1 r.2.2 s.2.2.1 s.2.2.2)
    | _ => F
theorem lkQ_st (qs : List (FR × Addr)) (a : List Nat) : (qs.map (·.1)).find? (fun r => decide (r.1 = a)) = (lkQ qs a).map (·.1) := by
  unfold lkQ
  rw [List.find?_map]
  rfl
abbrev s_lay : Stmt := topS 39
theorem sc_lay : FnScope ["book", "floor", "step", "address", "cutter", "top", "bottom", "room", "box", "parts", "boxes"] ["book", "floor", "step"] (defScope s_lay) := ⟨rfl, rfl, rfl, by decide +kernel, rfl, by decide +kernel, by decide +kernel⟩
def sp_lay (K : PySem.W.Frag) (CB CR : Addr) : Sp := fun vs H Q _ => ∃ (x d p : Addr) (F C : List Nat) (ls : List LineV) (a : List Nat) (c : Nat) (t b D : Int) (qs : List (FR × Addr)) (r : FR × Addr), vs = [.ref x, .ref d, .ref p] ∧ BookAt K CB H x F C ls ∧ FloorAt (RatAt CR) H d D qs ∧
  SqT K H p [.str (S a), .str (S [c]), .int t, .int b] ∧ lkQ qs a = some r ∧ r.1.2.1.length = 4 ∧ (∀ y ∈ r.1.2.1, y ∈ F) ∧ c ∈ C ∧ 0 < D ∧ r.1.2.2.Ok D ∧ 0 < t ∧ t < b ∧ D * b < 2 ^ 63 ∧ CutR (cutL ls r.1.2.1 c) F ∧ a.length ≤ 1000 ∧ qs.length ≤ 1000 ∧
  (∀ e, a ++ [e] ∉ qs.map (·.1.1)) ∧
  ∀ H' D' qs', (∀ b o, H b = some o → b ≠ d → H' b = some o) → FloorAt (RatAt CR) H' d D' qs' → (D', qs'.map (·.1)) = flStep (cutL ls) (D, qs.map (·.1)) (a, c, t, b) → Q .non H'
theorem ok_lay {f CB CR fR : Addr} {fd fdR : FuncData} (F : Fun K "lay" "lay" s_lay f fd) (T : Z mg) (BC : BookC K CB) (c_parts : MCal P w K mg base CX0 CB 5 "parts" ["self", "room", "cutter"] (sp_Book_parts K CB)) (c_cut : MCal P w K mg base CX0 CB 4 "cut" ["self", "room", "cutter"] (sp_Book_cut K CB))
    (c_boxes_at : Cal P w K mg base CX0 5 "boxes_at" s_boxes_at ["box", "sign", "place"] (sp_boxes_at K CR)) (gR : mg "Ratio" = some (.ref CR)) (MR : Mk K CR fR) (FI : FnOk P w K mg base CX0 2 fR fdR ["self", "top", "bottom"] (sp_Ratio_init K CR)) (bR2 : Binds K fdR ["self", "top", "bottom"] []) :
    FnOk P w K mg base CX0 6 f fd ["book", "floor", "step"] (sp_lay K CB CR) := by
  refine F.ok sc_lay (fun vs H Q E h => ?_) (fun cdv A outer s H vs Q E hr h => ?_)
  · obtain ⟨x, d, p, F, C, ls, a, c, t, b, D, qs, r, rfl, _⟩ := h
    rfl
  obtain ⟨x, d, p, fs, cs, ls, a, c, t, b, D, qs, r, rfl, hB, hF, hS, hlk, hr4, hrf, hc, D0, ok, t0, tb, sm, hcut, al, ql, fr, q⟩ := h
  refine ⟨_, (pss_cons (ps_asg (pv 2) (pg_tup rfl (pgs_cons (pg_name (i := 3) sc_lay.nd rfl (.inl rfl)) (pgs_cons (pg_name (i := 4) sc_lay.nd rfl (.inl rfl)) (pgs_cons (pg_name (i := 5) sc_lay.nd rfl (.inl rfl)) (pgs_cons (pg_name (i := 6) sc_lay.nd rfl (.inl rfl)) pgs_nil))))))
    (pss_cons (ps_asg (pe_dget (hu_of hr) (pv 1) (pv 3) (fun _ _ => rfl)) (pg_tup rfl (pgs_cons (pg_name (i := 7) sc_lay.nd rfl (.inl rfl)) (pgs_cons (pg_name (i := 8) sc_lay.nd rfl (.inl rfl)) pgs_nil))))
    (pss_cons (ps_set (i := 9) sc_lay.nd rfl (.inl rfl) (pe_m c_parts BC.c hr (by decide) (pv 0) (pa_cons (pv 7) (pa_cons (pv 4) pa_nil))))
    (pss_one (ps_if (pt_cmpR op_eq (pe_callB call_len_seq (by rfl) T.z_len (by decide +kernel) (pa_cons (pv 9) pa_nil)) pe_int (nomark _))
      (pss_cons (ps_set (i := 10) sc_lay.nd rfl (.inl rfl) (pe_c c_boxes_at hr (by decide) (by rfl) (pa_cons (pv 8) (pa_cons (pe_ix ix_str (pe_m c_cut BC.c hr (by decide) (pv 0) (pa_cons (pv 7) (pa_cons (pv 4) pa_nil))) pe_int (fun _ _ => rfl)) (pa_cons (pe_make MR FI (hr.mono (by decide)) (by rfl) gR bR2 .nil pass0 (pa_cons (pv 5) (pa_cons (pv 6) pa_nil))) pa_nil)))))
      (pss_cons (ps_ddel (pv 1) (pv 3))
      (pss_cons (ps_dput (hu_of hr) (pv 1) (pe_op op_add_str (pv 3) pe_str) (pe_tup (pa_cons (pe_ix ix_list (pv 9) pe_int (fun _ _ => rfl)) (pa_cons (pe_ix ix_tup (pv 10) pe_int (fun _ _ => rfl)) pa_nil))) rfl)
      (pss_one (ps_dput (hu_of hr) (pv 1) (pe_op op_add_str (pv 3) pe_str) (pe_tup (pa_cons (pe_ix ix_list (pv 9) pe_int (fun _ _ => rfl)) (pa_cons (pe_ix ix_tup (pv 10) pe_int (fun _ _ => rfl)) pa_nil))) rfl))))) pss_nil))))), ?_⟩
  obtain ⟨dx, tl, hx, ht⟩ := hB.at_
  have kR := RatAt.k CR
  obtain ⟨rq, ra⟩ := lkQ_some hlk
  obtain ⟨⟨ad, room, bx⟩, u⟩ := r
  subst ra
  have al : ad.length ≤ 1000 := al
  obtain ⟨pb, hu, hb⟩ := hF.cells _ rq
  have hg : DGet H d (.str (S ad)) (some (.ref u)) := by
    have := DGet.k (k := Sum.inr (S ad)) hF.dict
    rw [valV_kvF, hlk] at this
    exact this
  refine ⟨_, rfl, p, _, rfl, hS, rfl, _, _, rfl, _, _, rfl, _, _, rfl, _, _, rfl, rfl, ?_⟩
  refine ⟨_, rfl, _, rfl, d, _, rfl, hg, u, _, rfl, SqT.of hu, rfl, _, _, rfl, _, _, rfl, rfl, ?_⟩
  refine ⟨_, rfl, x, dx, _, rfl, hx, rfl, _, rfl, _, rfl, x, fs, cs, ls, room, c, rfl, hB, hr4, hrf, hc, fun H1 p1 s1 n1 => ?_⟩
  have s2 := s1.trans (same_upd (o := HO.lst ((splitL room (cutL ls room c)).map fun r => V.str (S r))) n1)
  have hp1 : (upd H1 p1 (HO.lst ((splitL room (cutL ls room c)).map fun r => V.str (S r)))) p1 = some (HO.lst ((splitL room (cutL ls room c)).map fun r => V.str (S r))) := upd_same
  have np1 := none_same s1 n1
  generalize upd H1 p1 (HO.lst ((splitL room (cutL ls room c)).map fun r => V.str (S r))) = H2 at s2 hp1 ⊢
  refine ⟨_, rfl, p1, _, rfl, .inl (SqL.of hp1), rfl, _, rfl, ?_⟩
  have est : flStep (cutL ls) (D, qs.map (·.1)) (ad, c, t, b) = (match splitL room (cutL ls room c) with
    | [p0, p1] => (D * b, flCut D (qs.map (·.1)) (decide ((cutL ls room c).headD 0 = 124)) ad p0 p1 bx t b)
    | _ => (D, qs.map (·.1))) := by
    unfold flStep
    rw [lkQ_st, hlk]
    rfl
  rcases hcut with e | ⟨sg, xx, yy, e, hsg, _, _⟩
  · have e1 : splitL room (cutL ls room c) = [room] := by rw [e]; exact splitL_none room
    rw [e1] at est ⊢
    refine ite_dec (fun z => absurd (V.int.inj z) (show ¬ ((1 : Nat) : Int) = 2 by decide)) (fun _ => ?_)
    exact q _ D qs (fun b o h _ => s2 _ _ h) (hF.same kR s2) est.symm
  · obtain ⟨r0, r1, e1⟩ : ∃ r0 r1, splitL room (cutL ls room c) = [r0, r1] := by
      obtain ⟨n', e', s', w', rfl⟩ := room4 hr4
      rw [e]
      unfold splitL
      dsimp only
      split <;> exact ⟨_, _, rfl⟩
    rw [e1] at est hp1 ⊢
    rw [e] at est
    refine ite_dec (fun _ => ?_) (fun z => absurd rfl z)
    refine ⟨_, rfl, _, rfl, x, dx, _, rfl, s2 _ _ hx, rfl, _, rfl, _, rfl, x, fs, cs, ls, room, c, rfl, hB.same s2, hr4, hrf, hc, fun H3 s3 => ?_⟩
    rw [e]
    refine ⟨_, 0, sg, rfl, rfl, (show 3 ≤ sizeLine by decide), rfl, ?_⟩
    have bD : b ≤ D * b := by
      have := Int.mul_le_mul_of_nonneg_right (show 1 ≤ D by omega) (show 0 ≤ b by omega)
      omega
    refine ⟨_, rfl, _, rfl, fun z dz nz ndz hzz => ratio_made nz ndz hzz (by omega) (by omega) fun H4 s4 R4 => ⟨rfl, ?_⟩⟩
    have s04 : Same H H4 := (s2.trans s3).trans s4
    refine ⟨pb, z, sg, D, t, b, bx, rfl, hb.far kR (Far.same s04), R4, D0, ok, t0, tb, sm, fun H5 rr b0 b1 s5 hrr hb0 hb1 => ?_⟩
    have s05 : Same H H5 := s04.trans s5
    have hd5 := s05 _ _ hF.dict
    have hp5 := s5 _ _ (s4 _ _ (s3 _ _ hp1))
    have hup : decide (([sg, xx, yy] : List Nat).headD 0 = 124) = decide (sg = 124) := rfl
    rw [hup] at est
    generalize decide (sg = 124) = up at est hb0 hb1
    refine ⟨_, rfl, _, rfl, d, kvF qs, Sum.inr (S ad), rfl, hd5, rfl, by rw [valV_kvF, hlk]; rfl, ?_⟩
    rw [show dropK (kvF qs) (Sum.inr (S ad)) = kvF (qs.filter fun q => decide (q.1.1 ≠ ad)) from dropK_map (fun q : FR × Addr => q.1.1) (fun q => V.ref q.2) ad qs]
    have fsub : ∀ q ∈ (qs.filter fun q => decide (q.1.1 ≠ ad)), q ∈ qs := fun q hq => (List.mem_filter.mp hq).1
    have flen : (qs.filter fun q => decide (q.1.1 ≠ ad)).length ≤ 1000 := Nat.le_trans (List.length_filter_le _ _) ql
    have hcutq : ∀ u0 u1, qCut qs up ad r0 r1 bx t b u0 u1 = ((qs.filter fun q => decide (q.1.1 ≠ ad)).map fun q => (q.1.scale b, q.2)) ++ [((ad ++ [48], r0, bx.one up t b), u0), ((ad ++ [49], r1, bx.two up t b), u1)] := fun _ _ => rfl
    have hkv : ∀ u0 u1, kvF (qCut qs up ad r0 r1 bx t b u0 u1) = kvF (qs.filter fun q => decide (q.1.1 ≠ ad)) ++ [((Sum.inr (S (ad ++ [48])) : Key), V.ref u0), (Sum.inr (S (ad ++ [49])), V.ref u1)] := fun _ _ => kvF_cut
    generalize (qs.filter fun q => decide (q.1.1 ≠ ad)) = fq at fsub flen hcutq hkv ⊢
    have F6 : Far H5 (upd H5 d (.dK (kvF fq))) := Far.dict hd5
    have K6 : ∀ b o, H b = some o → b ≠ d → (upd H5 d (.dK (kvF fq))) b = some o := fun b o e n => by
      rw [upd_ne n]
      exact s05 _ _ e
    have hd6 : (upd H5 d (.dK (kvF fq))) d = some (.dK (kvF fq)) := upd_same
    have hp6 := F6 _ _ hp5 (fun _ z => by cases z)
    have hr6 := F6 _ _ hrr (fun _ z => by cases z)
    have hb06 := hb0.far kR F6
    have hb16 := hb1.far kR F6
    have F06 : Far H (upd H5 d (.dK (kvF fq))) := (Far.same s05).trans F6
    generalize upd H5 d (.dK (kvF fq)) = H6 at K6 hd6 hp6 hr6 hb06 hb16 F06 ⊢
    clear hp5 hd5 hrr hb0 hb1 F6
    have zs : (S ad).length + 1 ≤ sizeLine := by
      rw [S_len]
      exact sz (by omega)
    have e0 : S ad ++ ("0" : Str) = S (ad ++ [48]) := S_cat ad [48]
    have e1' : S ad ++ ("1" : Str) = S (ad ++ [49]) := S_cat ad [49]
    have fr0 : ad ++ [48] ∉ fq.map (fun q => q.1.1) := fun h => by
      obtain ⟨q', h1, h2⟩ := List.mem_map.mp h
      exact fr 48 (List.mem_map.mpr ⟨q', fsub _ h1, h2⟩)
    refine ⟨_, rfl, p1, _, _, _, rfl, rfl, SqL.of hp6, rfl, _, rfl, rr, _, _, _, rfl, rfl, SqT.of hr6, rfl, (show 2 ≤ sizeLine by decide), fun u0 nu0 => ?_⟩
    have S7 := same_upd (o := HO.tup [V.str (S r0), V.ref b0]) nu0
    have hu7 : (upd H6 u0 (HO.tup [V.str (S r0), V.ref b0])) u0 = some (.tup [V.str (S r0), V.ref b0]) := upd_same
    have K7 : ∀ b o, H b = some o → b ≠ d → (upd H6 u0 (HO.tup [V.str (S r0), V.ref b0])) b = some o := fun b o e n => S7 _ _ (K6 b o e n)
    have hd7 := S7 _ _ hd6
    have hp7 := S7 _ _ hp6
    have hr7 := S7 _ _ hr6
    have hb07 := hb06.far kR (Far.same S7)
    have hb17 := hb16.far kR (Far.same S7)
    have F07 := F06.trans (Far.same S7)
    generalize upd H6 u0 (HO.tup [V.str (S r0), V.ref b0]) = H7 at K7 hu7 hd7 hp7 hr7 hb07 hb17 F07 ⊢
    clear S7 K6 hd6 hp6 hr6 hb06 hb16 F06
    refine ⟨_, rfl, _, rfl, _, _, rfl, rfl, zs, d, _, rfl, by rw [e0]; exact DPut.k (k := Sum.inr (S (ad ++ [48]))) hd7 (by unfold kvF; rw [List.length_map]; exact sz1 (by omega)), ?_⟩
    rw [show putK (kvF fq) (Sum.inr (S (ad ++ [48]))) (V.ref u0) = kvF (fq ++ [((ad ++ [48], r0, bx.one up t b), u0)]) from putK_map (fun q : FR × Addr => q.1.1) (fun q => V.ref q.2) (q := ((ad ++ [48], r0, bx.one up t b), u0)) fr0]
    have hl8 : (kvF (fq ++ [(((ad ++ [48], r0, bx.one up t b) : FR), u0)])).length ≤ 1001 := by
      unfold kvF
      rw [List.length_map, List.length_append]
      show fq.length + 1 ≤ 1001
      omega
    have F8 : Far H7 (upd H7 d (.dK (kvF (fq ++ [(((ad ++ [48], r0, bx.one up t b) : FR), u0)])))) := Far.dict hd7
    have K8 : ∀ b' o, H b' = some o → b' ≠ d → (upd H7 d (.dK (kvF (fq ++ [(((ad ++ [48], r0, bx.one up t b) : FR), u0)])))) b' = some o := fun b' o e n => by
      rw [upd_ne n]
      exact K7 _ _ e n
    have hd8 : (upd H7 d (.dK (kvF (fq ++ [(((ad ++ [48], r0, bx.one up t b) : FR), u0)])))) d = some (.dK (kvF (fq ++ [(((ad ++ [48], r0, bx.one up t b) : FR), u0)]))) := upd_same
    have hu8 := F8 _ _ hu7 (fun _ z => by cases z)
    have hp8 := F8 _ _ hp7 (fun _ z => by cases z)
    have hr8 := F8 _ _ hr7 (fun _ z => by cases z)
    have hb08 := hb07.far kR F8
    have hb18 := hb17.far kR F8
    have F08 := F07.trans F8
    generalize upd H7 d (.dK (kvF (fq ++ [(((ad ++ [48], r0, bx.one up t b) : FR), u0)]))) = H8 at K8 hu8 hd8 hp8 hr8 hb08 hb18 F08 ⊢
    clear F8 K7 hu7 hd7 hp7 hr7 hb07 hb17 F07
    refine ⟨_, rfl, p1, _, _, _, rfl, rfl, SqL.of hp8, rfl, _, rfl, rr, _, _, _, rfl, rfl, SqT.of hr8, rfl, (show 2 ≤ sizeLine by decide), fun u1 nu1 => ?_⟩
    have S9 := same_upd (o := HO.tup [V.str (S r1), V.ref b1]) nu1
    have hv9 : (upd H8 u1 (HO.tup [V.str (S r1), V.ref b1])) u1 = some (.tup [V.str (S r1), V.ref b1]) := upd_same
    have K9 : ∀ b o, H b = some o → b ≠ d → (upd H8 u1 (HO.tup [V.str (S r1), V.ref b1])) b = some o := fun b o e n => S9 _ _ (K8 b o e n)
    have hd9 := S9 _ _ hd8
    have hu9 := S9 _ _ hu8
    have hb09 := hb08.far kR (Far.same S9)
    have hb19 := hb18.far kR (Far.same S9)
    have F09 := F08.trans (Far.same S9)
    generalize upd H8 u1 (HO.tup [V.str (S r1), V.ref b1]) = H9 at K9 hu9 hv9 hd9 hb09 hb19 F09 ⊢
    clear S9 K8 hd8 hp8 hr8 hb08 hb18 F08 hu8
    have fr1 : ad ++ [49] ∉ (fq ++ [(((ad ++ [48], r0, bx.one up t b) : FR), u0)]).map (fun q => q.1.1) := fun h => by
      rw [List.map_append] at h
      rcases List.mem_append.mp h with h | h
      · obtain ⟨q', h1, h2⟩ := List.mem_map.mp h
        exact fr 49 (List.mem_map.mpr ⟨q', fsub _ h1, h2⟩)
      · have h' : ad ++ [49] = ad ++ [48] := List.mem_singleton.mp h
        exact absurd (List.append_cancel_left h') (by decide)
    refine ⟨_, rfl, _, rfl, _, _, rfl, rfl, zs, d, _, rfl, by rw [e1']; exact DPut.k (k := Sum.inr (S (ad ++ [49]))) hd9 (sz1 (by omega)), ?_⟩
    rw [show putK (kvF (fq ++ [(((ad ++ [48], r0, bx.one up t b) : FR), u0)])) (Sum.inr (S (ad ++ [49]))) (V.ref u1) = kvF (qCut qs up ad r0 r1 bx t b u0 u1) from by
      refine (putK_map (fun q : FR × Addr => q.1.1) (fun q => V.ref q.2) (q := ((ad ++ [49], r1, bx.two up t b), u1)) fr1).trans ?_
      rw [hkv]
      unfold kvF
      rw [List.map_append, List.map_append, List.append_assoc]
      rfl]
    have FA : Far H9 (upd H9 d (.dK (kvF (qCut qs up ad r0 r1 bx t b u0 u1)))) := Far.dict hd9
    refine q _ (D * b) (qCut qs up ad r0 r1 bx t b u0 u1) (fun b' o e n => ?_) ⟨upd_same, fun q' hq => ?_⟩ ?_
    · rw [upd_ne n]
      exact K9 _ _ e n
    · rw [hcutq] at hq
      rcases List.mem_append.mp hq with hq | hq
      · obtain ⟨y, hy, rfl⟩ := List.mem_map.mp hq
        exact ((hF.cells _ (fsub _ hy)).far kR (F09.trans FA)).scale (by omega) (by omega)
      · simp only [List.mem_cons, List.not_mem_nil, or_false] at hq
        rcases hq with rfl | rfl
        · exact ⟨b0, FA _ _ hu9 (fun _ z => by cases z), hb09.far kR FA⟩
        · exact ⟨b1, FA _ _ hv9 (fun _ z => by cases z), hb19.far kR FA⟩
    · rw [est, qCut_st (D := D)]
end
end FW
namespace FW
open PySem PySem.Spec PyProof.Rows L2
-- more
section
variable {P : Program} {w : World} {K : PySem.W.Frag} {mg : Str → Option Value} {base : Heap}
/-! placed histories: floors and the trees behind them -/
abbrev Fl : Type := Int × List FR
def stp (s : PStp) : Stp := (s.1, s.2.1)
def flRun (cut : List Nat → Nat → List Nat) (F : Fl) (ss : List PStp) : Fl := ss.foldl (flStep cut) F
def flStart (room : List Nat) : Fl := (1, [([], room, IB.whole)])
structure Fit (Fs : List Nat) (F : Fl) (tr : Tr) : Prop where
  ok : FlOk F.1 F.2
  st : F.2.map (fun r => ((r.1, r.2.1) : AR)) = tr.stand
  tok : tr.Ok Fs
theorem Fit.start {Fs room : List Nat} (h4 : room.length = 4) (hF : ∀ y ∈ room, y ∈ Fs) : Fit Fs (flStart room) (Tr.start room) := ⟨FlOk.start room, rfl, Tr.start_ok h4 hF⟩
theorem Fit.lk {Fs : List Nat} {F : Fl} {tr : Tr} (h : Fit Fs F tr) {a : List Nat} {r : FR} (e : F.2.find? (fun r => decide (r.1 = a)) = some r) : lk tr.stand a = some r.2.1 ∧ r ∈ F.2 ∧ r.1 = a := by
  refine ⟨?_, List.mem_of_find?_eq_some e, of_decide_eq_true (List.find?_some (p := fun r : FR => decide (r.1 = a)) e)⟩
  rw [← h.st]
  unfold FW.lk
  rw [List.find?_map]
  show Option.map _ (Option.map _ (F.2.find? fun r => decide (r.1 = a))) = _
  rw [e]
  rfl
theorem Fit.room {Fs : List Nat} {F : Fl} {tr : Tr} (h : Fit Fs F tr) {r : FR} (hr : r ∈ F.2) : r.2.1.length = 4 ∧ ∀ y ∈ r.2.1, y ∈ Fs := by
  have : (r.1, r.2.1) ∈ tr.stand := by
    rw [← h.st]
    exact List.mem_map.mpr ⟨r, hr, rfl⟩
  exact h.tok.form _ (Tr.stand_sub this).1
theorem Fit.fresh {Fs : List Nat} {F : Fl} {tr : Tr} (h : Fit Fs F tr) {r : FR} (hr : r ∈ F.2) (e : Nat) : r.1 ++ [e] ∉ F.2.map (·.1) := fun hm => by
  have h1 : (r.1, r.2.1) ∈ tr.stand := by
    rw [← h.st]
    exact List.mem_map.mpr ⟨r, hr, rfl⟩
  obtain ⟨y, hy, e1⟩ := List.mem_map.mp hm
  have h2 : (y.1, y.2.1) ∈ tr.stand := by
    rw [← h.st]
    exact List.mem_map.mpr ⟨y, hy, rfl⟩
  exact Tr.fresh h.tok (Tr.stand_sub h1).2 e (List.mem_map.mpr ⟨_, (Tr.stand_sub h2).1, e1⟩)
theorem Fit.len {Fs : List Nat} {F : Fl} {tr : Tr} (h : Fit Fs F tr) : F.2.length ≤ 2 * tr.cuts.length + 1 ∧ ∀ r ∈ F.2, r.1.length ≤ tr.cuts.length := by
  have e : F.2.length = tr.stand.length := by rw [← h.st, List.length_map]
  have h1 : tr.stand.length ≤ tr.rooms.length := List.length_filter_le _ _
  have := h.tok.few
  refine ⟨by omega, fun r hr => ?_⟩
  have h1 : (r.1, r.2.1) ∈ tr.stand := by
    rw [← h.st]
    exact List.mem_map.mpr ⟨r, hr, rfl⟩
  exact h.tok.len _ (Tr.stand_sub h1).1
theorem Fit.step {Fs : List Nat} {F : Fl} {tr : Tr} (h : Fit Fs F tr) {cut : List Nat → Nat → List Nat} (hcut : ∀ r c, CutR (cut r c) Fs) {s : PStp} {r : FR} (e : F.2.find? (fun r => decide (r.1 = s.1)) = some r) (t0 : 0 < s.2.2.1) (tb : s.2.2.1 < s.2.2.2) :
    Fit Fs (flStep cut F s) (tr.step cut (stp s)) ∧ (flStep cut F s).1 ≤ F.1 * s.2.2.2 ∧ (tr.step cut (stp s)).cuts.length ≤ tr.cuts.length + 1 := by
  obtain ⟨hl, hm, ha⟩ := h.lk e
  have hD := h.ok.pos
  have hDb : F.1 ≤ F.1 * s.2.2.2 := by
    have := Int.mul_le_mul_of_nonneg_left (show 1 ≤ s.2.2.2 by omega) (show 0 ≤ F.1 by omega)
    omega
  have hcl := (Tr.step_ok (s := stp s) h.tok hcut (by show FW.lk tr.stand s.1 ≠ none; rw [hl]; exact Option.some_ne_none _)).2
  refine (fun ⟨x, y⟩ => ⟨x, y, hcl⟩ : (Fit Fs (flStep cut F s) (tr.step cut (stp s)) ∧ (flStep cut F s).1 ≤ F.1 * s.2.2.2) → _) ?_
  unfold flStep
  rw [e]
  dsimp only
  rcases Tr.step_cases (c := s.2.1) h.tok hcut hl with ⟨es, et⟩ | ⟨p0, p1, es, et, okn⟩
  · rw [es, show tr.step cut (stp s) = tr from et]
    exact ⟨h, hDb⟩
  · rw [es, show tr.step cut (stp s) = tr.cutAt s.1 p0 p1 r.2.1 s.2.1 from et]
    have hst : (flCut F.1 F.2 (decide ((cut r.2.1 s.2.1).headD 0 = 124)) s.1 p0 p1 r.2.2 s.2.2.1 s.2.2.2).map (fun r => ((r.1, r.2.1) : AR)) = (tr.cutAt s.1 p0 p1 r.2.1 s.2.1).stand := by
      rw [Tr.cut_stand h.tok (lk_some hl), ← h.st]
      unfold flCut
      rw [List.map_append, List.map_map, List.filter_map]
      rfl
    refine ⟨⟨?_, hst, okn⟩, Int.le_refl _⟩
    have hm' : (s.1, r.2.1, r.2.2) ∈ F.2 := by
      rw [← ha]
      exact hm
    refine h.ok.cut hm' t0 tb ?_
    have := okn.stand_nd
    rw [← hst, List.map_map] at this
    exact this
/-- right placed histories -/
def PVal (cut : List Nat → Nat → List Nat) (C : List Nat) : Fl → List PStp → Prop
  | _, [] => True
  | F, s :: ss => (∃ r, F.2.find? (fun r => decide (r.1 = s.1)) = some r) ∧ s.2.1 ∈ C ∧ 0 < s.2.2.1 ∧ s.2.2.1 < s.2.2.2 ∧ F.1 * s.2.2.2 < 2 ^ 63 ∧ PVal cut C (flStep cut F s) ss
theorem PVal.run {cut : List Nat → Nat → List Nat} {C Fs : List Nat} (hcut : ∀ r c, CutR (cut r c) Fs) : ∀ {ss : List PStp} {F : Fl} {tr : Tr}, Fit Fs F tr → PVal cut C F ss → ∀ i, i ≤ ss.length →
    Fit Fs (flRun cut F (ss.take i)) (Tr.run cut tr ((ss.map stp).take i)) ∧ PVal cut C (flRun cut F (ss.take i)) (ss.drop i) ∧ (Tr.run cut tr ((ss.map stp).take i)).cuts.length ≤ tr.cuts.length + i
  | [], F, tr, h, v, i, hi => by
    have : i = 0 := by simpa using hi
    subst this
    exact ⟨h, v, Nat.le_refl _⟩
  | s :: ss, F, tr, h, v, 0, _ => ⟨h, v, Nat.le_refl _⟩
  | s :: ss, F, tr, h, v, i + 1, hi => by
    obtain ⟨⟨r, e⟩, hc, t0, tb, sm, v'⟩ := v
    obtain ⟨f', _, hl⟩ := h.step hcut e t0 tb
    obtain ⟨a, b, c⟩ := PVal.run hcut f' v' i (by simpa using hi)
    exact ⟨a, b, by
      have c' : (Tr.run cut tr (((s :: ss).map stp).take (i + 1))).cuts.length ≤ (tr.step cut (stp s)).cuts.length + i := c
      omega⟩
theorem flRun_snoc {cut : List Nat → Nat → List Nat} {F : Fl} {ss : List PStp} {i : Nat} {s : PStp} (h : ss[i]? = some s) : flRun cut F (ss.take (i + 1)) = flStep cut (flRun cut F (ss.take i)) s := by
  unfold flRun
  rw [List.take_add_one, h, List.foldl_append]
  rfl
theorem flRun_app {cut : List Nat → Nat → List Nat} {F : Fl} {ss : List PStp} {s : PStp} : flRun cut F (ss ++ [s]) = flStep cut (flRun cut F ss) s := by
  unfold flRun
  rw [List.foldl_append]
  rfl
def PStepsAt (K : PySem.W.Frag) (H : Hp) (ts : List Addr) (ss : List PStp) : Prop := ts.length = ss.length ∧ ∀ (i : Nat) (t : Addr) (s : PStp), ts[i]? = some t → ss[i]? = some s → SqT K H t [.str (S s.1), .str (S [s.2.1]), .int s.2.2.1, .int s.2.2.2]
end
end FW
namespace FW
open PySem PySem.Spec PyProof.Rows L2
-- more
section
variable {P : Program} {w : World} {K : PySem.W.Frag} {mg : Str → Option Value} {base : Heap}
abbrev s_laid : Stmt := topS 40
theorem sc_laid : FnScope ["book", "start", "steps", "floor", "at", "step"] ["book", "start", "steps"] (defScope s_laid) := ⟨rfl, rfl, rfl, by decide +kernel, rfl, by decide +kernel, by decide +kernel⟩
def sp_laid (K : PySem.W.Frag) (CB CR : Addr) : Sp := fun vs H Q _ => ∃ (x : Addr) (F C : List Nat) (ls : List LineV) (start : List Nat) (hv : V) (ts : List Addr) (ss : List PStp), vs = [.ref x, .str (S start), hv] ∧ BookAt K CB H x F C ls ∧ start.length = 4 ∧ (∀ y ∈ start, y ∈ F) ∧ Sq K H hv (ts.map V.ref) ∧ PStepsAt K H ts ss ∧
  ss.length ≤ 400 ∧ PVal (cutL ls) C (flStart start) ss ∧
  ∀ H' q d qs, Same H H' → H' q = some (.tup [.ref d, .non]) → H d = none → FloorAt (RatAt CR) H' d (flRun (cutL ls) (flStart start) ss).1 qs → qs.map (·.1) = (flRun (cutL ls) (flStart start) ss).2 → Q (.ref q) H'
theorem ok_laid {f CB CR fR : Addr} {fd fdR : FuncData} {dsR : List Value} (F : Fun K "laid" "laid" s_laid f fd) (T : Z mg) (BC : BookC K CB) (c_is_placed_step : Cal P w K mg base CX0 3 "is_placed_step" s_is_placed_step ["value", "floor", "cutters"] (sp_is_placed_step K))
    (c_lay : Cal P w K mg base CX0 6 "lay" s_lay ["book", "floor", "step"] (sp_lay K CB CR)) (gR : mg "Ratio" = some (.ref CR)) (MR : Mk K CR fR) (FI : FnOk P w K mg base CX0 2 fR fdR ["self", "top", "bottom"] (sp_Ratio_init K CR)) (bR1 : Binds K fdR ["self", "top", "bottom"] dsR) (vR1 : Vals [V.int 1] dsR) :
    FnOk P w K mg base CX0 7 f fd ["book", "start", "steps"] (sp_laid K CB CR) := by
  refine F.ok sc_laid (fun vs H Q E h => ?_) (fun cdv A outer s H vs Q E hr h => ?_)
  · obtain ⟨x, F, C, ls, start, hv, ts, ss, rfl, _⟩ := h
    rfl
  obtain ⟨x, fs, cs, ls, start, hv, ts, ss, rfl, hB, hr4, hrf, hSq, hSt, h400, val, q⟩ := h
  refine ⟨_, (pss_cons (ps_set (i := 3) sc_laid.nd rfl (.inl rfl) (pe_disp (pps_cons pe_str (pe_tup (pa_cons (pv 1) (pa_cons (pe_tup (pa_cons (pe_make MR FI (hr.mono (by decide)) (by rfl) gR bR1 vR1 pass0 (pa_cons pe_int pa_nil)) (pa_cons (pe_make MR FI (hr.mono (by decide)) (by rfl) gR bR1 vR1 pass0 (pa_cons pe_int pa_nil)) (pa_cons (pe_make MR FI (hr.mono (by decide)) (by rfl) gR bR1 vR1 pass0 (pa_cons pe_int pa_nil)) (pa_cons (pe_make MR FI (hr.mono (by decide)) (by rfl) gR bR1 vR1 pass0 (pa_cons pe_int pa_nil)) pa_nil))))) pa_nil))) pps_nil) (by rfl) (by rfl) (fun z => by cases z) (by decide)))
    (pss_cons (ps_if (pt_not (pt_val (pe_callB call_isiT (by rfl) T.z_isinstance (by decide +kernel) (pa_cons (pv 2) (pa_cons (pe_tup (pa_cons (pe_bltn (v := .ty "list") (u := .type "list") (by rfl) T.z_list (by decide +kernel) rfl) (pa_cons (pe_bltn (v := .ty "tuple") (u := .type "tuple") (by rfl) T.z_tuple (by decide +kernel) rfl) pa_nil))) pa_nil))))) pss_never pss_nil)
    (pss_cons (ps_for PassesOwn.never rfl (pi_enumG (by rfl) T.z_enumerate (pa_cons (pv 2) pa_nil)) (pg_tup rfl (pgs_cons (pg_name (i := 4) sc_laid.nd rfl (.inl rfl)) (pgs_cons (pg_name (i := 5) sc_laid.nd rfl (.inl rfl)) pgs_nil)))
      (pss_cons (ps_if (pt_not (pt_val (pe_c c_is_placed_step hr (by decide) (by rfl) (pa_cons (pv 5) (pa_cons (pv 3) (pa_cons (pe_fld (pv 0) rfl) pa_nil)))))) pss_never pss_nil)
      (pss_one (ps_expr (pe_c c_lay hr (by decide) (by rfl) (pa_cons (pv 0) (pa_cons (pv 3) (pa_cons (pv 5) pa_nil))))))))
    (pss_one (ps_ret (pe_tup (pa_cons (pv 3) (pa_cons pe_non pa_nil)))))))), ?_⟩
  obtain ⟨dx, tl, hx, ht⟩ := hB.at_
  obtain ⟨ha, rfl⟩ : ∃ a, hv = .ref a := by rcases hSq with ⟨a, e, _⟩ | ⟨a, e, _⟩ <;> exact ⟨a, e⟩
  have hcut : ∀ r c, CutR (cutL ls r c) fs := fun r c => cutL_form fun l hl => (hB.lines.ok l hl).cut
  have kR := RatAt.k CR
  refine fun d nd => ⟨_, rfl, fun z0 d0 nz0 nd0 hz0 => ratio_made nz0 nd0 hz0 (by decide) (by decide) fun H0 s0 R0 => ⟨rfl, fun z1 d1 nz1 nd1 hz1 => ratio_made nz1 nd1 hz1 (by decide) (by decide) fun H1 s1 R1 => ⟨rfl,
    fun z2 d2 nz2 nd2 hz2 => ratio_made nz2 nd2 hz2 (by decide) (by decide) fun H2 s2 R2 => ⟨rfl, fun z3 d3 nz3 nd3 hz3 => ratio_made nz3 nd3 hz3 (by decide) (by decide) fun H3 s3 R3 => ⟨rfl, (show 4 ≤ sizeLine by decide), fun pb npb => ⟨(show 2 ≤ sizeLine by decide), fun u nu => ?_⟩⟩⟩⟩⟩⟩
  have sd : Same H (upd H d (.dK [])) := same_upd nd
  have hdd : (upd H d (.dK [])) d = some (.dK []) := upd_same
  have hd3 := s3 _ _ (s2 _ _ (s1 _ _ (s0 _ _ hdd)))
  have s03 : Same H H3 := (((sd.trans s0).trans s1).trans s2).trans s3
  have R0' := ((R0.same s1).same s2).same s3
  have R1' := (R1.same s2).same s3
  have R2' := R2.same s3
  clear hdd sd s0 s1 s2 s3 R0 R1 R2
  have S4 := same_upd (o := HO.tup [V.ref z0, V.ref z1, V.ref z2, V.ref z3]) npb
  have hp4 : (upd H3 pb (HO.tup [V.ref z0, V.ref z1, V.ref z2, V.ref z3])) pb = some (.tup [V.ref z0, V.ref z1, V.ref z2, V.ref z3]) := upd_same
  have hb4 : BoxAt (RatAt CR) (upd H3 pb (HO.tup [V.ref z0, V.ref z1, V.ref z2, V.ref z3])) 1 pb IB.whole := ⟨z0, z1, z2, z3, hp4, R0'.same S4, R1'.same S4, R2'.same S4, R3.same S4⟩
  have hd4 := S4 _ _ hd3
  have s04 := s03.trans S4
  generalize upd H3 pb (HO.tup [V.ref z0, V.ref z1, V.ref z2, V.ref z3]) = H4 at S4 hp4 hb4 hd4 s04 nu ⊢
  have S5 := same_upd (o := HO.tup [V.str (S start), V.ref pb]) nu
  have hu5 : (upd H4 u (HO.tup [V.str (S start), V.ref pb])) u = some (.tup [V.str (S start), V.ref pb]) := upd_same
  have hb5 := hb4.far kR (Far.same S5)
  have hd5 := S5 _ _ hd4
  have s05 := s04.trans S5
  generalize upd H4 u (HO.tup [V.str (S start), V.ref pb]) = H5 at S5 hu5 hb5 hd5 s05 ⊢
  refine ⟨hd5, [(Sum.inr "", .ref u)], rfl, (show 1 ≤ 15 by decide), ?_⟩
  have F6 : Far H5 (upd H5 d (.dK (mergeK [] [(Sum.inr "", .ref u)]))) := Far.dict hd5
  have K6 : Same H (upd H5 d (.dK (mergeK [] [(Sum.inr "", .ref u)]))) := fun b o e => by
    rw [upd_ne (ne_of_none e nd)]
    exact s05 _ _ e
  have hF6 : FloorAt (RatAt CR) (upd H5 d (.dK (mergeK [] [(Sum.inr "", .ref u)]))) d (flStart start).1 [(([], start, IB.whole), u)] := ⟨upd_same, fun q' hq => by
    rw [List.mem_singleton.mp hq]
    exact ⟨pb, F6 _ _ hu5 (fun _ z => by cases z), hb5.far kR F6⟩⟩
  generalize upd H5 d (.dK (mergeK [] [(Sum.inr "", .ref u)])) = H6 at K6 hF6 ⊢
  clear F6 hu5 hb5 hd5 s05 S5 hp4 hb4 hd4 s04 S4 hd3 s03 R0' R1' R2' R3
  have hSq6 := hSq.same K6
  have hty : ∃ Ty : String, (∀ H', Same H6 H' → TyX K H' (.ref ha) (.type Ty)) ∧ ∃ r1 r2, kitB Ty "list" = some r1 ∧ kitB Ty "tuple" = some r2 ∧ (r1 || r2) = true := by
    rcases hSq6 with ⟨a, e, h⟩ | ⟨a, e, h⟩ <;> cases e
    · exact ⟨"list", fun H' s => tyL (s.seq h), true, false, by decide +kernel, by decide +kernel, rfl⟩
    · exact ⟨"tuple", fun H' s => tyT (s.tup h), false, true, by decide +kernel, by decide +kernel, rfl⟩
  obtain ⟨Ty, tyx, r1, r2, k1, k2, k12⟩ := hty
  refine ⟨_, rfl, (show 2 ≤ sizeLine by decide), fun p0 n0 => ⟨_, p0, _, _, _, true, rfl, upd_same, .cons (.ty _) (.cons (.ty _) .nil), tyx _ (same_upd n0), (kitAny_lt k1 k2).trans (by rw [k12]), _, rfl, iteF ?_⟩⟩
  have S7 := same_upd (o := HO.tup [V.ty "list", V.ty "tuple"]) n0
  have K7 := K6.trans S7
  have hF7 := hF6.same kR S7
  generalize upd H6 p0 (HO.tup [V.ty "list", V.ty "tuple"]) = H7 at S7 K7 hF7 ⊢
  clear K6 hF6 hSq6 S7 tyx
  have hsrc : Src K H7 (.ref ha) (ts.map V.ref) := by
    rcases hSq.same K7 with ⟨a, e, h⟩ | ⟨a, e, h⟩ <;> cases e
    · exact .l h
    · exact .t h
  refine ⟨_, rfl, .ref ha, ts.map V.ref, rfl, hsrc, fun k ev src => ?_⟩
  have stay : ∀ H', (∀ b o, H7 b = some o → b ≠ d → H' b = some o) → k.src K H' (ts.map V.ref) := fun H' s => by
    have far : ∀ b o, H7 b = some o → (∀ kvs, o ≠ .dK kvs) → H' b = some o := fun b o h n => s _ _ h (fun z => by rw [z, hF7.dict] at h; exact n _ (Option.some.inj h).symm)
    cases k with
    | l a =>
      rcases src with (h | ⟨o, h⟩) | h
      · exact .inl (.inl (far _ _ h fun _ z => by cases z))
      · exact .inl (.inr ⟨o, far _ _ h fun _ z => by cases z⟩)
      · exact .inr h
    | t a =>
      rcases src with (h | ⟨o, h⟩) | h
      · exact .inl (.inl (far _ _ h fun _ z => by cases z))
      · exact .inl (.inr ⟨o, far _ _ h fun _ z => by cases z⟩)
      · exact .inr h
    | s z t => cases ev
  have vr := fun i hi => PVal.run hcut (Fit.start hr4 hrf) val i hi
  refine for_it (walk_enumG (xs := ts.map V.ref)) (fun i σ H' => ∃ (y4 y5 : Option V) (qs : List (FR × Addr)), σ = [some (.ref x), some (.str (S start)), some (.ref ha), some (.ref d), y4, y5] ∧ (∀ b o, H7 b = some o → b ≠ d → H' b = some o) ∧
    FloorAt (RatAt CR) H' d (flRun (cutL ls) (flStart start) (ss.take i)).1 qs ∧ qs.map (·.1) = (flRun (cutL ls) (flStart start) (ss.take i)).2) ⟨_, _, _, rfl, fun _ _ h _ => h, hF7, rfl⟩ (fun i σ H' _ ⟨_, _, _, _, s, _⟩ => stay H' s) ?_ ?_
  · rintro i v σ H8 H9 hi ⟨y4, y5, qs, rfl, s8, hF8, eqs⟩ ⟨T', a1, b1', rfl, nT, rfl, hx1, hy1⟩
    obtain rfl : V.int (i : Nat) = a1 := Option.some.inj hx1
    have hy2 : (ts.map V.ref)[i]? = some b1' := hy1
    rw [List.getElem?_map] at hy2
    obtain ⟨t, ht1, rfl⟩ := Option.map_eq_some_iff.mp hy2
    have hil : i < ss.length := hSt.1 ▸ (List.getElem?_eq_some_iff.mp ht1).1
    have hs1 : ss[i]? = some ss[i] := List.getElem?_eq_getElem hil
    have hdrop : ss.drop i = ss[i] :: ss.drop (i + 1) := List.drop_eq_getElem_cons hil
    obtain ⟨fit, pv', cl⟩ := vr i (Nat.le_of_lt hil)
    rw [hdrop] at pv'
    have htake := flRun_snoc (cut := cutL ls) (F := flStart start) hs1
    have htup := hSt.2 i t _ ht1 hs1
    generalize ss[i] = st at htup pv' htake
    obtain ⟨sa, sc, tt, bb⟩ := st
    generalize flRun (cutL ls) (flStart start) (ss.take i) = Fi at hF8 eqs fit pv' htake
    generalize Tr.run (cutL ls) (Tr.start start) ((ss.map stp).take i) = tr at fit cl
    rw [htake]
    have ST := same_upd (o := HO.tup [V.int (i : Nat), V.ref t]) nT
    have sH : Same H (upd H8 T' (HO.tup [V.int (i : Nat), V.ref t])) := fun b o e => ST _ _ (s8 _ _ (K7 _ _ e) (ne_of_none e nd))
    have hF9 := hF8.same kR ST
    have keep9 : ∀ b o, H7 b = some o → b ≠ d → (upd H8 T' (HO.tup [V.int (i : Nat), V.ref t])) b = some o := fun b o e n1 => ST _ _ (s8 b o e n1)
    have hTT : SqT K (upd H8 T' (HO.tup [V.int (i : Nat), V.ref t])) T' [V.int (i : Nat), V.ref t] := SqT.of upd_same
    refine ⟨T', _, rfl, hTT, rfl, _, _, rfl, _, [], rfl, rfl, ?_⟩
    generalize upd H8 T' (HO.tup [V.int (i : Nat), V.ref t]) = H9 at sH hF9 keep9 ⊢
    clear hTT hF8 s8 nT ST
    obtain ⟨⟨r, er⟩, hc, t0, tb, sm, _⟩ := pv'
    dsimp only at er hc t0 tb sm
    have elk : ∃ q', lkQ qs sa = some q' ∧ q'.1 = r := by
      have := lkQ_st qs sa
      rw [eqs, er] at this
      obtain ⟨q', e1, e2⟩ := Option.map_eq_some_iff.mp this.symm
      exact ⟨q', e1, e2⟩
    obtain ⟨q', elq, rfl⟩ := elk
    obtain ⟨_, hm, ha'⟩ := fit.lk er
    have hmem : sa ∈ qs.map (·.1.1) := by
      obtain ⟨h1, h2⟩ := lkQ_some elq
      exact List.mem_map.mpr ⟨_, h1, h2⟩
    refine ⟨_, rfl, _, rfl, _, rfl, x, CB, dx, _, _, rfl, sH _ _ hx, BC.c, BC.nc, rfl, t, d, cs, sa, sc, tt, bb, qs, rfl, sH.tup htup, hF9.dict, hmem, hc, t0, tb, fun HA sA => ⟨_, rfl, iteF ?_⟩⟩
    have lens := fit.len
    have c0 : (Tr.start start).cuts.length = 0 := rfl
    refine ⟨_, rfl, _, rfl, _, rfl, x, d, t, fs, cs, ls, sa, sc, tt, bb, Fi.1, qs, q', rfl, hB.same (sH.trans sA), hF9.same kR sA, (sH.trans sA).tup htup, elq, (fit.room hm).1, (fit.room hm).2, hc, fit.ok.pos, fit.ok.ok _ hm, t0, tb, sm, hcut _ _, ?_, ?_, fun e => ?_, fun HB D' qs' kB hFB eB => ?_⟩
    · have := lens.2 _ hm
      rw [ha'] at this
      omega
    · have : qs.length = Fi.2.length := by rw [← eqs, List.length_map]
      omega
    · have := fit.fresh hm e
      rw [ha', ← eqs, List.map_map] at this
      exact this
    · rw [eqs] at eB
      have e1 : D' = (flStep (cutL ls) Fi (sa, sc, tt, bb)).1 := congrArg Prod.fst eB
      have e2 : qs'.map (·.1) = (flStep (cutL ls) Fi (sa, sc, tt, bb)).2 := congrArg Prod.snd eB
      rw [e1] at hFB
      exact ⟨_, _, qs', rfl, fun b o e n => kB _ _ (sA _ _ (keep9 _ _ e n)) n, hFB, e2⟩
  · rintro σ H8 ⟨y4, y5, qs, rfl, s8, hF8, eqs⟩
    rw [List.length_map, hSt.1, List.take_of_length_le (Nat.le_refl _)] at hF8 eqs
    refine ⟨_, rfl, (show 2 ≤ sizeLine by decide), fun q' nq => ?_⟩
    have s9 := same_upd (o := HO.tup [V.ref d, V.non]) nq
    exact q _ q' d qs (fun b o e => s9 _ _ (s8 _ _ (K7 _ _ e) (ne_of_none e nd))) upd_same nd (hF8.same kR s9) eqs
end
end FW
namespace FW
open PySem PySem.Spec PyProof.Rows L2
-- more
section
variable {P : Program} {w : World} {K : PySem.W.Frag} {mg : Str → Option Value} {base : Heap}
abbrev s_floor_behind : Stmt := topS 41
theorem sc_floor_behind : FnScope ["book", "start", "steps", "floor", "wrong"] ["book", "start", "steps"] (defScope s_floor_behind) := ⟨rfl, rfl, rfl, by decide +kernel, rfl, by decide +kernel, by decide +kernel⟩
def sp_floor_behind (K : PySem.W.Frag) (CB CR : Addr) : Sp := fun vs H Q _ => ∃ (x : Addr) (F C : List Nat) (ls : List LineV) (start : List Nat) (hv : V) (ts : List Addr) (ss : List PStp), vs = [.ref x, .str (S start), hv] ∧ BookAt K CB H x F C ls ∧ start.length = 4 ∧ (∀ y ∈ start, y ∈ F) ∧ Sq K H hv (ts.map V.ref) ∧ PStepsAt K H ts ss ∧
  ss.length ≤ 400 ∧ PVal (cutL ls) C (flStart start) ss ∧
  ∀ H' d qs, Same H H' → H d = none → FloorAt (RatAt CR) H' d (flRun (cutL ls) (flStart start) ss).1 qs → qs.map (·.1) = (flRun (cutL ls) (flStart start) ss).2 → Q (.ref d) H'
theorem ok_floor_behind {f CB CR : Addr} {fd : FuncData} (F : Fun K "floor_behind" "floor_behind" s_floor_behind f fd) (T : Z mg) (c_check_room : Cal P w K mg base CX0 3 "check_room" s_check_room ["book", "room"] (sp_check_room K CB))
    (c_laid : Cal P w K mg base CX0 7 "laid" s_laid ["book", "start", "steps"] (sp_laid K CB CR)) : FnOk P w K mg base CX0 8 f fd ["book", "start", "steps"] (sp_floor_behind K CB CR) := by
  refine F.ok sc_floor_behind (fun vs H Q E h => ?_) (fun cdv A outer s H vs Q E hr h => ?_)
  · obtain ⟨x, F, C, ls, start, hv, ts, ss, rfl, _⟩ := h
    rfl
  obtain ⟨x, fs, cs, ls, start, hv, ts, ss, rfl, hB, hr4, hrf, hSq, hSt, h400, val, q⟩ := h
  refine ⟨_, (pss_cons (ps_expr (pe_c c_check_room hr (by decide) (by rfl) (pa_cons (pv 0) (pa_cons (pv 1) pa_nil))))
    (pss_cons (ps_asg (pe_c c_laid hr (by decide) (by rfl) (pa_cons (pv 0) (pa_cons (pv 1) (pa_cons (pv 2) pa_nil)))) (pg_tup rfl (pgs_cons (pg_name (i := 3) sc_floor_behind.nd rfl (.inl rfl)) (pgs_cons (pg_name (i := 4) sc_floor_behind.nd rfl (.inl rfl)) pgs_nil))))
    (pss_cons (ps_if (pt_cmpR op_notN (pv 4) pe_non (nomark _)) pss_never pss_nil)
    (pss_one (ps_ret (pv 3)))))), ?_⟩
  refine ⟨_, rfl, _, rfl, x, fs, cs, ls, start, rfl, hB, hr4, hrf, fun H1 s1 => ?_⟩
  have hSt1 : PStepsAt K H1 ts ss := ⟨hSt.1, fun i t s h1 h2 => s1.tup (hSt.2 i t s h1 h2)⟩
  refine ⟨_, rfl, _, rfl, _, rfl, x, fs, cs, ls, start, hv, ts, ss, rfl, hB.same s1, hr4, hrf, hSq.same s1, hSt1, h400, val, fun H2 q' d qs s2 hq nd hF eF => ?_⟩
  refine ⟨q', _, rfl, SqT.of hq, rfl, _, _, rfl, _, _, rfl, rfl, ?_⟩
  refine ⟨_, rfl, rfl, false, rfl, iteF ?_⟩
  exact ⟨_, rfl, q _ d qs (s1.trans s2) (none_same s1 nd) hF eF⟩
end
end FW
namespace FW
open PySem PySem.Spec PyProof.Rows L2
-- more
section
variable {P : Program} {w : World} {K : PySem.W.Frag} {mg : Str → Option Value} {base : Heap}
abbrev s__law_on_way : Stmt := topS 82
theorem sc__law_on_way : FnScope ["_law_low_here", "_law_high", "_law_top_here", "_law_bottom"] ["_law_low_here", "_law_high", "_law_top_here", "_law_bottom"] (defScope s__law_on_way) := ⟨rfl, rfl, rfl, by decide +kernel, rfl, by decide +kernel, by decide +kernel⟩
def sp__law_on_way (K : PySem.W.Frag) : Sp := fun vs H Q _ => ∃ (p q : Addr) (l h D t b : Int), vs = [.ref p, .ref q, .int t, .int b] ∧ PairN H p (low l D).1 (low l D).2 ∧ PairN H q (low h D).1 (low h D).2 ∧ 0 < D ∧ 0 ≤ l ∧ l < h ∧ h ≤ D ∧ 0 < t ∧ t < b ∧ D * b < 2 ^ 63 ∧
  ∀ H' z, Same H H' → H z = none → PairN H' z (low (l * b + (h - l) * t) (D * b)).1 (low (l * b + (h - l) * t) (D * b)).2 → Q (.ref z) H'
theorem ok__law_on_way {f : Addr} {fd : FuncData} (F : Fun K "_law_on_way" "_law_on_way" s__law_on_way f fd) (c__law_add : Cal P w K mg base CX0 3 "_law_add" s__law_add ["_law_one", "_law_other"] (sp__law_two gAdd)) (c__law_times : Cal P w K mg base CX0 3 "_law_times" s__law_times ["_law_one", "_law_other"] (sp__law_two gMul)) :
    FnOk P w K mg base CX0 4 f fd ["_law_low_here", "_law_high", "_law_top_here", "_law_bottom"] (sp__law_on_way K) := by
  refine F.ok sc__law_on_way (fun vs H Q E h => ?_) (fun cdv A outer s H vs Q E hr h => ?_)
  · obtain ⟨p, q, l, h, D, t, b, rfl, _⟩ := h
    rfl
  obtain ⟨p, q', l, h, D, t, b, rfl, hp, hq, D0, l0, lh, hD, t0, tb, sm, q⟩ := h
  refine ⟨_, (pss_one (ps_ret (pe_c c__law_add hr (by decide) (by rfl) (pa_cons (pv 0) (pa_cons (pe_c c__law_times hr (by decide) (by rfl) (pa_cons (pe_c c__law_add hr (by decide) (by rfl) (pa_cons (pv 1) (pa_cons (pe_tup (pa_cons (pe_op op_sub pe_int (pe_ix ix_tup (pv 0) pe_int (fun _ _ => rfl))) (pa_cons (pe_ix ix_tup (pv 0) pe_int (fun _ _ => rfl)) pa_nil))) pa_nil))) (pa_cons (pe_tup (pa_cons (pv 2) (pa_cons (pv 3) pa_nil))) pa_nil))) pa_nil))))), ?_⟩
  have hDb : D ≤ D * b := by
    have := Int.mul_le_mul_of_nonneg_left (show 1 ≤ b by omega) (show 0 ≤ D by omega)
    omega
  have hbD : b ≤ D * b := by
    have := Int.mul_le_mul_of_nonneg_right (show 1 ≤ D by omega) (show 0 ≤ b by omega)
    omega
  have Db0 : 0 < D * b := by omega
  obtain ⟨sw1, sw2, sw3⟩ := sm_low D0 l0 (by omega) (by omega : D < 2 ^ 63)
  obtain ⟨sh1, sh2, sh3⟩ := sm_low (a := h) D0 (by omega) hD (by omega)
  obtain ⟨sd1, sd2, sd3⟩ := sm_low (a := h - l) D0 (by omega) (by omega) (by omega)
  have p1 : (h - l) * t ≤ D * b := by
    have e1 : (h - l) * t ≤ (h - l) * b := Int.mul_le_mul_of_nonneg_left (by omega) (by omega)
    have e2 : (h - l) * b ≤ D * b := Int.mul_le_mul_of_nonneg_right (by omega) (by omega)
    omega
  obtain ⟨sm1, sm2, sm3⟩ := sm_low Db0 (Int.mul_nonneg (show 0 ≤ h - l by omega) (show 0 ≤ t by omega)) p1 sm
  have st : Sm t := by show t.natAbs < 2 ^ 63; omega
  have sb : Sm b := by show b.natAbs < 2 ^ 63; omega
  have sneg : Sm (0 - (low l D).1) := by
    have : (low l D).1.natAbs < 2 ^ 63 := sw1
    show (0 - (low l D).1).natAbs < 2 ^ 63
    omega
  have tp : ∀ H', Same H H' → SqT K H' p [V.int (low l D).1, .int (low l D).2] := fun H' s => SqT.of (s _ _ hp)
  refine ⟨_, rfl, _, rfl, _, rfl, p, _, _, _, rfl, rfl, tp _ (fun _ _ e => e), rfl, _, _, rfl, rfl, _, rfl, p, _, _, _, rfl, rfl, tp _ (fun _ _ e => e), rfl, (show 2 ≤ sizeLine by decide), fun n1 hn1 => ?_⟩
  have S1 := same_upd (o := tupI (0 - (low l D).1) (low l D).2) hn1
  refine ⟨q', n1, _, _, _, _, rfl, S1 _ _ hq, upd_same, sh1, sh2, sneg, sw2, sh3, sw3, fun n2 hn2 => ?_⟩
  rw [show gAdd (low h D).1 (low h D).2 (0 - (low l D).1) (low l D).2 = low (h - l) D from (gSb_ad (low h D) (low l D)).trans (gSb_low (by omega))]
  have S2 := S1.trans (same_upd (o := tupI (low (h - l) D).1 (low (h - l) D).2) hn2)
  have hn2' : (upd (upd H n1 (tupI (0 - (low l D).1) (low l D).2)) n2 (tupI (low (h - l) D).1 (low (h - l) D).2)) n2 = some (tupI (low (h - l) D).1 (low (h - l) D).2) := upd_same
  refine ⟨_, rfl, _, rfl, (show 2 ≤ sizeLine by decide), fun n3 hn3 => ?_⟩
  have S3 := same_upd (o := tupI t b) hn3
  refine ⟨n2, n3, _, _, _, _, rfl, S3 _ _ hn2', upd_same, sd1, sd2, st, sb, sd3, by omega, fun n4 hn4 => ?_⟩
  rw [show gMul (low (h - l) D).1 (low (h - l) D).2 t b = low ((h - l) * t) (D * b) from gMu_raw (by omega) (by omega)]
  have S4 := (S2.trans S3).trans (same_upd (o := tupI (low ((h - l) * t) (D * b)).1 (low ((h - l) * t) (D * b)).2) hn4)
  refine ⟨p, n4, _, _, _, _, rfl, S4 _ _ hp, upd_same, sw1, sw2, sm1, sm2, sw3, sm3, fun n5 hn5 => ?_⟩
  have e3 : gAdd (low l D).1 (low l D).2 (low ((h - l) * t) (D * b)).1 (low ((h - l) * t) (D * b)).2 = low (l * b + (h - l) * t) (D * b) := by
    show gAd (low l D) (low ((h - l) * t) (D * b)) = _
    rw [← low_scale2 (t := l) (show D ≠ 0 by omega) (show b ≠ 0 by omega), gAd_low (by omega)]
  rw [e3]
  exact q _ n5 (S4.trans (same_upd hn5)) (none_same S4 hn5) upd_same
abbrev s__law_some_place : Stmt := topS 84
theorem sc__law_some_place : FnScope ["_law_bag", "_law_bottom"] ["_law_bag"] (defScope s__law_some_place) := ⟨rfl, rfl, rfl, by decide +kernel, rfl, by decide +kernel, by decide +kernel⟩
def sp__law_some_place (K : PySem.W.Frag) : Sp := fun vs H Q _ => ∃ (b l : Addr), vs = [.ref b] ∧ Bag H b l ∧ ∀ H' z t m, But b H H' → Bag H' b l → H z = none → z ≠ b → z ≠ l → PairN H' z t m → 0 < t → t < m → m ≤ 41 → Q (.ref z) H'
theorem ok__law_some_place {f : Addr} {fd : FuncData} (F : Fun K "_law_some_place" "_law_some_place" s__law_some_place f fd) (T : Z mg) (c__law_draw : Cal P w K mg base CX0 1 "_law_draw" s__law_draw ["_law_bag", "_law_many"] (sp__law_draw K))
    (c__law_of : Cal P w K mg base CX0 2 "_law_of" s__law_of ["_law_bag", "_law_things"] (sp__law_of K)) : FnOk P w K mg base CX0 3 f fd ["_law_bag"] (sp__law_some_place K) := by
  refine F.ok sc__law_some_place (fun vs H Q E h => ?_) (fun cdv A outer s H vs Q E hr h => ?_)
  · obtain ⟨b, l, rfl, _⟩ := h
    rfl
  obtain ⟨b, l, rfl, B, q⟩ := h
  refine ⟨_, (pss_cons (ps_set (i := 1) sc__law_some_place.nd rfl (.inl rfl) (pe_op op_add pe_int (pe_c c__law_draw hr (by decide) (by rfl) (pa_cons (pv 0) (pa_cons (pe_c c__law_of hr (by decide) (by rfl) (pa_cons (pv 0) (pa_cons (pe_lst (pa_cons pe_int (pa_cons pe_int (pa_cons pe_int (pa_cons pe_int pa_nil))))) pa_nil))) pa_nil)))))
      (pss_one (ps_ret (pe_tup (pa_cons (pe_op op_add pe_int (pe_c c__law_draw hr (by decide) (by rfl) (pa_cons (pv 0) (pa_cons (pe_op op_sub (pv 1) pe_int) pa_nil)))) (pa_cons (pv 1) pa_nil)))))), ?_⟩
  have four : ∀ v ∈ [V.int 1, V.int 2, V.int 6, V.int 40], ∃ m : Int, v = .int m ∧ 0 < m ∧ m ≤ 40 := fun v hv => by
    simp only [List.mem_cons, List.not_mem_nil, or_false] at hv
    rcases hv with rfl | rfl | rfl | rfl
    · exact ⟨_, rfl, by decide, by decide⟩
    · exact ⟨_, rfl, by decide, by decide⟩
    · exact ⟨_, rfl, by decide, by decide⟩
    · exact ⟨_, rfl, by decide, by decide⟩
  refine ⟨_, rfl, _, rfl, (show 4 ≤ sizeLine by decide), fun p1 n1 => ⟨b, l, .ref p1, _, rfl, B.same (same_upd n1), .inl ⟨p1, B.ne n1, rfl, SqL.of upd_same⟩, Nat.succ_pos _, (show 4 ≤ 100000 by decide), fun H1 v hv b1 B1 => ?_⟩⟩
  obtain ⟨m, rfl, m0, m1⟩ := four v hv
  refine ⟨b, l, m, rfl, B1, m0, by omega, fun H2 z z0 z1 b2 B2 => ?_⟩
  refine ⟨_, _, rfl, rfl, ?_⟩
  refine ⟨_, rfl, _, rfl, _, _, rfl, rfl, b, l, 2 + z - 1, rfl, B2, by omega, by omega, fun H3 z' z0' z1' b3 B3 => ?_⟩
  refine ⟨_, _, rfl, rfl, _, rfl, (show 2 ≤ sizeLine by decide), fun p2 n2 => ?_⟩
  have bt := ((same_upd (o := HO.lst [V.int 1, V.int 2, V.int 6, V.int 40]) n1).but (b := b)).trans (b1.trans (b2.trans b3))
  have nb : p2 ≠ b := B3.ne n2
  have nl : p2 ≠ l := B3.ne2 n2
  refine q _ p2 (1 + z') (2 + z) (bt.trans (same_upd n2).but) (B3.same (same_upd n2)) ?_ nb nl upd_same (by omega) (by omega) (by omega)
  cases e : H p2 with
  | none => rfl
  | some o =>
    have := bt _ _ nb e
    rw [this] at n2
    cases n2
end
end FW
namespace FW
open PySem PySem.Spec PyProof.Rows L2
-- more
section
variable {P : Program} {w : World} {K : PySem.W.Frag} {mg : Str → Option Value} {base : Heap}
theorem lkQ_of {qs : List (FR × Addr)} (nd : (qs.map (·.1.1)).Nodup) {q : FR × Addr} (h : q ∈ qs) : lkQ qs q.1.1 = some q := by
  induction qs with
  | nil => cases h
  | cons x l ih =>
    rw [List.map_cons, List.nodup_cons] at nd
    unfold lkQ at ih ⊢
    rcases List.mem_cons.mp h with e | h
    · rw [e, List.find?_cons_of_pos (by simp)]
    · have ne : ¬ x.1.1 = q.1.1 := fun e => nd.1 (by rw [e]; exact List.mem_map.mpr ⟨q, h, rfl⟩)
      rw [List.find?_cons_of_neg (by simpa using ne)]
      exact ih nd.2 h
abbrev s__law_cut_box : Stmt := topS 86
theorem sc__law_cut_box : FnScope ["_law_spec", "_law_boxes", "_law_step", "_law_room", "_law_box", "_law_parts_here", "_law_late", "_law_address", "_law_west", "_law_north", "_law_east", "_law_south", "_law_at_z"] ["_law_spec", "_law_boxes", "_law_step"] (defScope s__law_cut_box) := ⟨rfl, rfl, rfl, by decide +kernel, rfl, by decide +kernel, by decide +kernel⟩
def sp__law_cut_box (K : PySem.W.Frag) : Sp := fun vs H Q _ => ∃ (p lp g d st : Addr) (F C : List Nat) (ls : List LineV) (a : List Nat) (c : Nat) (t b D : Int) (qs : List (FR × Addr)) (r : FR × Addr), vs = [.ref p, .ref d, .ref st] ∧ SpecAt H g p lp F C ls ∧ SpecS ls ∧ (∀ r ∈ ls, CutR r.2.2.2.2.2.2 F) ∧ FloorAt PairN H d D qs ∧
  H st = some (.tup [.str (S a), .str (S [c]), .int t, .int b]) ∧ lkQ qs a = some r ∧ r.1.2.1.length = 4 ∧ (∀ y ∈ r.1.2.1, y ∈ F) ∧ 0 < D ∧ r.1.2.2.Ok D ∧ 0 < t ∧ t < b ∧ D * b < 2 ^ 63 ∧ a.length ≤ 1000 ∧ qs.length ≤ 1000 ∧
  (∀ e, a ++ [e] ∉ qs.map (·.1.1)) ∧ (qs.map (·.1.1)).Nodup ∧
  ∀ H' d' D' qs', Same H H' → (d' = d ∨ H d' = none) → FloorAt PairN H' d' D' qs' → (D', qs'.map (·.1)) = flStep (cutL ls) (D, qs.map (·.1)) (a, c, t, b) → Q (.ref d') H'
theorem ok__law_cut_box {f : Addr} {fd : FuncData} (F : Fun K "_law_cut_box" "_law_cut_box" s__law_cut_box f fd) (T : Z mg) (c__law_parts : Cal P w K mg base CX0 4 "_law_parts" s__law_parts ["_law_spec", "_law_room", "_law_cutter"] (sp__law_parts K)) (c__law_cut : Cal P w K mg base CX0 3 "_law_cut" s__law_cut ["_law_spec", "_law_room", "_law_cutter"] (sp__law_cut K))
    (c__law_on_way : Cal P w K mg base CX0 4 "_law_on_way" s__law_on_way ["_law_low_here", "_law_high", "_law_top_here", "_law_bottom"] (sp__law_on_way K)) : FnOk P w K mg base CX0 5 f fd ["_law_spec", "_law_boxes", "_law_step"] (sp__law_cut_box K) := by
  refine F.ok sc__law_cut_box (fun vs H Q E h => ?_) (fun cdv A outer s H vs Q E hr h => ?_)
  · obtain ⟨p, lp, g, d, st, F, C, ls, a, c, t, b, D, qs, r, rfl, _⟩ := h
    rfl
  obtain ⟨p, lp, g, d, st, fs, cs, ls, a, c, t, b, D, qs, r, rfl, hs, hl, hcl, hF, hst, hlk, hr4, hrf, D0, ok, t0, tb, sm, al, ql, fr, nd, q⟩ := h
  refine ⟨_, (pss_cons (ps_asg (pe_dget (hu_of hr) (pv 1) (pe_ix ix_tup (pv 2) pe_int (fun _ _ => rfl)) (fun _ _ => rfl)) (pg_tup rfl (pgs_cons (pg_name (i := 3) sc__law_cut_box.nd rfl (.inl rfl)) (pgs_cons (pg_name (i := 4) sc__law_cut_box.nd rfl (.inl rfl)) pgs_nil))))
    (pss_cons (ps_par (i := 5) (j := 6) (by rfl) sc__law_cut_box.nd rfl rfl (by decide) rfl rfl (pa_cons (pe_c c__law_parts hr (by decide) (by rfl) (pa_cons (pv 0) (pa_cons (pv 3) (pa_cons (pe_ix ix_tup (pv 2) pe_int (fun _ _ => rfl)) pa_nil)))) (pa_cons pe_dnewK pa_nil)) (by rfl))
    (pss_cons (ps_if (pt_cmpR op_lt (pe_callB call_len_seq (by rfl) T.z_len (by decide +kernel) (pa_cons (pv 5) pa_nil)) pe_int (nomark _)) (pss_one (ps_ret (pv 1))) pss_nil)
    (pss_cons (ps_lock (ps_for PassesOwn.never rfl (pi_keys (pv 1)) (pg_name (i := 7) sc__law_cut_box.nd rfl (.inl rfl))
      (pss_one (ps_if (pt_cmpR op_ne (pv 7) (pe_ix ix_tup (pv 2) pe_int (fun _ _ => rfl)) (nomark _)) (pss_one (ps_dput (hu_of hr) (pv 6) (pv 7) (pe_dget (hu_of hr) (pv 1) (pv 7) (fun _ _ => rfl)) rfl)) pss_nil))))
    (pss_cons (ps_asg (pv 4) (pg_tup rfl (pgs_cons (pg_name (i := 8) sc__law_cut_box.nd rfl (.inl rfl)) (pgs_cons (pg_name (i := 9) sc__law_cut_box.nd rfl (.inl rfl)) (pgs_cons (pg_name (i := 10) sc__law_cut_box.nd rfl (.inl rfl)) (pgs_cons (pg_name (i := 11) sc__law_cut_box.nd rfl (.inl rfl)) pgs_nil))))))
    (pss_cons (ps_if (pt_cmpR op_eq (pe_ix ix_str (pe_c c__law_cut hr (by decide) (by rfl) (pa_cons (pv 0) (pa_cons (pv 3) (pa_cons (pe_ix ix_tup (pv 2) pe_int (fun _ _ => rfl)) pa_nil)))) pe_int (fun _ _ => rfl)) pe_str (nomark _))
      (pss_cons (ps_set (i := 12) sc__law_cut_box.nd rfl (.inl rfl) (pe_c c__law_on_way hr (by decide) (by rfl) (pa_cons (pv 8) (pa_cons (pv 10) (pa_cons (pe_ix ix_tup (pv 2) pe_int (fun _ _ => rfl)) (pa_cons (pe_ix ix_tup (pv 2) pe_int (fun _ _ => rfl)) pa_nil))))))
      (pss_cons (ps_dput (hu_of hr) (pv 6) (pe_op op_add_str (pe_ix ix_tup (pv 2) pe_int (fun _ _ => rfl)) pe_str) (pe_tup (pa_cons (pe_ix ix_list (pv 5) pe_int (fun _ _ => rfl)) (pa_cons (pe_tup (pa_cons (pv 8) (pa_cons (pv 9) (pa_cons (pv 12) (pa_cons (pv 11) pa_nil))))) pa_nil))) rfl)
      (pss_one (ps_dput (hu_of hr) (pv 6) (pe_op op_add_str (pe_ix ix_tup (pv 2) pe_int (fun _ _ => rfl)) pe_str) (pe_tup (pa_cons (pe_ix ix_list (pv 5) pe_int (fun _ _ => rfl)) (pa_cons (pe_tup (pa_cons (pv 12) (pa_cons (pv 9) (pa_cons (pv 10) (pa_cons (pv 11) pa_nil))))) pa_nil))) rfl))))
      (pss_cons (ps_set (i := 12) sc__law_cut_box.nd rfl (.inl rfl) (pe_c c__law_on_way hr (by decide) (by rfl) (pa_cons (pv 9) (pa_cons (pv 11) (pa_cons (pe_ix ix_tup (pv 2) pe_int (fun _ _ => rfl)) (pa_cons (pe_ix ix_tup (pv 2) pe_int (fun _ _ => rfl)) pa_nil))))))
      (pss_cons (ps_dput (hu_of hr) (pv 6) (pe_op op_add_str (pe_ix ix_tup (pv 2) pe_int (fun _ _ => rfl)) pe_str) (pe_tup (pa_cons (pe_ix ix_list (pv 5) pe_int (fun _ _ => rfl)) (pa_cons (pe_tup (pa_cons (pv 8) (pa_cons (pv 9) (pa_cons (pv 10) (pa_cons (pv 12) pa_nil))))) pa_nil))) rfl)
      (pss_one (ps_dput (hu_of hr) (pv 6) (pe_op op_add_str (pe_ix ix_tup (pv 2) pe_int (fun _ _ => rfl)) pe_str) (pe_tup (pa_cons (pe_ix ix_list (pv 5) pe_int (fun _ _ => rfl)) (pa_cons (pe_tup (pa_cons (pv 8) (pa_cons (pv 12) (pa_cons (pv 10) (pa_cons (pv 11) pa_nil))))) pa_nil))) rfl)))))
    (pss_one (ps_ret (pv 6))))))))), ?_⟩
  have kP := PairN.k
  obtain ⟨rq, ra⟩ := lkQ_some hlk
  obtain ⟨⟨ad, room, bx⟩, u⟩ := r
  subst ra
  have al : ad.length ≤ 1000 := al
  obtain ⟨pb, hu, hb⟩ := hF.cells _ rq
  have hg : ∀ H', Same H H' → DGet H' d (.str (S ad)) (some (.ref u)) := fun H' s => by
    have := DGet.k (k := Sum.inr (S ad)) (s _ _ hF.dict)
    rw [valV_kvF, hlk] at this
    exact this
  have hS : ∀ H', Same H H' → SqT K H' st [.str (S ad), .str (S [c]), .int t, .int b] := fun H' s => SqT.of (s _ _ hst)
  have s00 : Same H H := fun _ _ e => e
  refine ⟨_, rfl, _, rfl, st, _, _, _, rfl, rfl, hS _ s00, rfl, d, _, rfl, hg _ s00, u, _, rfl, SqT.of hu, rfl, _, _, rfl, _, _, rfl, rfl, ?_⟩
  refine ⟨_, rfl, _, rfl, _, rfl, st, _, _, _, rfl, rfl, hS _ s00, rfl, p, lp, g, fs, cs, ls, room, c, rfl, hs, hl, hr4, hcl, fun H1 p1 s1 n1 => ?_⟩
  have s2 := s1.trans (same_upd (o := HO.lst ((splitL room (cutL ls room c)).map fun r => V.str (S r))) n1)
  have hp1 : (upd H1 p1 (HO.lst ((splitL room (cutL ls room c)).map fun r => V.str (S r)))) p1 = some (HO.lst ((splitL room (cutL ls room c)).map fun r => V.str (S r))) := upd_same
  generalize upd H1 p1 (HO.lst ((splitL room (cutL ls room c)).map fun r => V.str (S r))) = H2 at s2 hp1 ⊢
  refine fun lt nlt => ⟨_, _, rfl, ?_⟩
  have S3 : Same H2 (upd H2 lt (.dK [])) := same_upd nlt
  have nlt0 : H lt = none := none_same s2 nlt
  have hlt3 : (upd H2 lt (.dK [])) lt = some (.dK []) := upd_same
  have hp3 := S3 _ _ hp1
  have s3 := s2.trans S3
  have nplt : p1 ≠ lt := ne_of_none hp1 nlt
  have ndlt : d ≠ lt := ne_of_none hF.dict nlt0
  generalize upd H2 lt (.dK []) = H3 at S3 hlt3 hp3 s3 ⊢
  clear S3 s2 hp1 nlt
  refine ⟨_, rfl, p1, _, rfl, .inl (SqL.of hp3), _, _, rfl, rfl, _, rfl, ?_⟩
  have est : flStep (cutL ls) (D, qs.map (·.1)) (ad, c, t, b) = (match splitL room (cutL ls room c) with
    | [p0, p1] => (D * b, flCut D (qs.map (·.1)) (decide ((cutL ls room c).headD 0 = 124)) ad p0 p1 bx t b)
    | _ => (D, qs.map (·.1))) := by
    unfold flStep
    rw [lkQ_st, hlk]
    rfl
  rcases cutL_form (room := room) (c := c) hcl with e | ⟨sg, xx, yy, e, hsg, _, _⟩
  · have e1 : splitL room (cutL ls room c) = [room] := by rw [e]; exact splitL_none room
    rw [e1] at est ⊢
    refine ite_dec (fun _ => ?_) (fun z => absurd (show ((1 : Nat) : Int) < 2 by decide) z)
    exact ⟨_, rfl, q _ d D qs s3 (.inl rfl) (hF.same kP s3) est.symm⟩
  · obtain ⟨r0, r1, e1⟩ : ∃ r0 r1, splitL room (cutL ls room c) = [r0, r1] := by
      obtain ⟨n', e', s', w', rfl⟩ := room4 hr4
      rw [e]
      unfold splitL
      dsimp only
      split <;> exact ⟨_, _, rfl⟩
    rw [e1] at est hp3 ⊢
    rw [e] at est
    refine ite_dec (fun z => absurd z (show ¬ ((2 : Nat) : Int) < 2 by decide)) (fun _ => ?_)
    refine ⟨d, .dK (kvF qs), s3 _ _ hF.dict, trivial, fun od => ⟨_, rfl, d, od, rfl, .inl ⟨kvF qs, upd_same, ?_⟩⟩⟩
    have hL0 : (upd H3 d (.frz od (.dK (kvF qs)))) lt = some (.dK []) := by rw [upd_ne (Ne.symm ndlt)]; exact hlt3
    refine for_it (walk_keys (kvs := kvF qs)) (fun i σ H' => ∃ y7, σ = [some (.ref p), some (.ref d), some (.ref st), some (.str (S room)), some (.ref pb), some (.ref p1), some (.ref lt), y7, none, none, none, none, none] ∧ H' d = some (.frz od (.dK (kvF qs))) ∧
      H' lt = some (.dK (kvF ((qs.take i).filter fun q => decide (q.1.1 ≠ ad)))) ∧ ∀ b' o, H3 b' = some o → b' ≠ lt → b' ≠ d → H' b' = some o) ⟨none, rfl, upd_same, hL0, fun b' o e n1 n2 => by rw [upd_ne n2]; exact e⟩ (fun i σ H' _ ⟨_, _, h, _⟩ => h) ?_ ?_
    · rintro i v σ H4 H5 hi ⟨y7, rfl, hd4, hl4, k4⟩ ⟨rfl, k, v', hkv, rfl⟩
      obtain ⟨qi, hqi, ekv⟩ := Option.map_eq_some_iff.mp ((List.getElem?_map ..).symm.trans hkv)
      obtain ⟨rfl, rfl⟩ := Prod.mk.inj ekv
      have up4 : ∀ b' o, H b' = some o → (∀ kvs, o ≠ .dK kvs) → H5 b' = some o := fun b' o e n => k4 _ _ (s3 _ _ e) (ne_of_none e nlt0) (fun z => by rw [z, hF.dict] at e; exact n _ (Option.some.inj e).symm)
      have hst4 := up4 _ _ hst (fun _ z => by cases z)
      have htk : qs.take (i + 1) = qs.take i ++ [qi] := by
        rw [List.take_add_one, hqi]
        rfl
      refine ⟨_, rfl, _, rfl, st, _, _, _, rfl, rfl, SqT.of hst4, rfl, rfl, _, rfl, ite2 (fun hT => ?_) (fun hT => ?_)⟩
      · have hne : qi.1.1 ≠ ad := fun z => by
          rw [z] at hT
          simp at hT
          exact hT rfl
        have hg4 : DGet H5 d (.str (S qi.1.1)) (some (.ref qi.2)) := by
          refine .inl ⟨kvF qs, Sum.inr (S qi.1.1), .inr ⟨od, hd4⟩, rfl, ?_⟩
          rw [valV_kvF, lkQ_of nd (List.mem_of_getElem? hqi)]
          rfl
        have hlen : (kvF ((qs.take i).filter fun q => decide (q.1.1 ≠ ad))).length < sizeLine := by
          unfold kvF
          rw [List.length_map]
          have h1 := List.length_filter_le (fun q : FR × Addr => decide (q.1.1 ≠ ad)) (qs.take i)
          have h2 : (qs.take i).length ≤ qs.length := by rw [List.length_take]; exact Nat.min_le_right _ _
          exact sz1 (by omega)
        have hfr : qi.1.1 ∉ ((qs.take i).filter fun q => decide (q.1.1 ≠ ad)).map (fun q => q.1.1) := fun hm => by
          obtain ⟨y, hy, ey⟩ := List.mem_map.mp hm
          have hy1 := (List.mem_filter.mp hy).1
          have h1 : ((qs.take (i + 1)).map (·.1.1)).Nodup := nd.sublist (List.Sublist.map _ (List.take_sublist ..))
          rw [htk, List.map_append, List.nodup_append] at h1
          exact h1.2.2 _ (List.mem_map.mpr ⟨y, hy1, rfl⟩) _ (List.mem_singleton.mpr rfl) ey
        refine ⟨_, rfl, _, rfl, d, _, rfl, hg4, _, rfl, _, rfl, lt, _, rfl, DPut.k (k := Sum.inr (S qi.1.1)) hl4 hlen, ?_⟩
        rw [show putK (kvF ((qs.take i).filter fun q => decide (q.1.1 ≠ ad))) (Sum.inr (S qi.1.1)) (V.ref qi.2) = kvF ((qs.take (i + 1)).filter fun q => decide (q.1.1 ≠ ad)) from by
          rw [htk, List.filter_append, show ([qi].filter fun q : FR × Addr => decide (q.1.1 ≠ ad)) = [qi] from by simp [hne]]
          exact putK_map (fun q : FR × Addr => q.1.1) (fun q => V.ref q.2) (q := qi) hfr]
        exact ⟨_, rfl, by rw [upd_ne ndlt]; exact hd4, upd_same, fun b' o e n1 n2 => by rw [upd_ne n1]; exact k4 _ _ e n1 n2⟩
      · have heq : qi.1.1 = ad := Classical.byContradiction fun z => hT (by
          have : ¬ (kV (Sum.inr (S qi.1.1)) = V.str (S ad)) := fun z' => z (S_inj (V.str.inj z'))
          show (!decide (kV (Sum.inr (S qi.1.1)) = V.str (S ad))) = true
          rw [decide_eq_false this]
          rfl)
        refine ⟨_, rfl, hd4, ?_, k4⟩
        rw [htk, List.filter_append, show ([qi].filter fun q : FR × Addr => decide (q.1.1 ≠ ad)) = [] from by simp [heq], List.append_nil]
        exact hl4
    · rintro σ H4 ⟨y7, rfl, hd4, hl4, k4⟩
      have hkl : (kvF qs).length = qs.length := List.length_map ..
      rw [hkl, List.take_of_length_le (Nat.le_refl _)] at hl4
      have K5 : ∀ b' o, H3 b' = some o → b' ≠ lt → (upd H4 d (.dK (kvF qs))) b' = some o := fun b' o e n1 => by
        by_cases z : b' = d
        · rw [z] at e ⊢
          rw [s3 _ _ hF.dict] at e
          rw [upd_same]
          exact e
        · rw [upd_ne z]
          exact k4 _ _ e n1 z
      have hl5 : (upd H4 d (.dK (kvF qs))) lt = some (.dK (kvF (qs.filter fun q => decide (q.1.1 ≠ ad)))) := by
        rw [upd_ne (Ne.symm ndlt)]
        exact hl4
      have s5 : Same H (upd H4 d (.dK (kvF qs))) := fun b' o e => K5 _ _ (s3 _ _ e) (ne_of_none e nlt0)
      have hp5 := K5 _ _ hp3 nplt
      refine ⟨hd4, ?_⟩
      generalize upd H4 d (.dK (kvF qs)) = H5 at K5 hl5 s5 hp5 ⊢
      clear K5 hd4 hl4 k4
      obtain ⟨ww, nn, ee, ss, hpb, hbv⟩ := hb
      refine ⟨_, rfl, pb, _, rfl, SqT.of (s5 _ _ hpb), rfl, _, _, rfl, _, _, rfl, _, _, rfl, _, _, rfl, rfl, ?_⟩
      refine ⟨_, rfl, _, rfl, _, rfl, st, _, _, _, rfl, rfl, hS _ s5, rfl, p, lp, g, fs, cs, ls, room, c, rfl, hs.same s5, hl, hr4, fun H6 s6 => ?_⟩
      rw [e]
      refine ⟨_, 0, sg, rfl, rfl, (show 3 ≤ sizeLine by decide), rfl, rfl, _, rfl, ?_⟩
      have s06 := s5.trans s6
      have hl6 := s6 _ _ hl5
      have hp6 := s6 _ _ hp5
      have fsub : ∀ q ∈ (qs.filter fun q => decide (q.1.1 ≠ ad)), q ∈ qs := fun q hq => (List.mem_filter.mp hq).1
      have flen : (qs.filter fun q => decide (q.1.1 ≠ ad)).length ≤ 1000 := Nat.le_trans (List.length_filter_le _ _) ql
      have hcutq : ∀ up u0 u1, qCut qs up ad r0 r1 bx t b u0 u1 = ((qs.filter fun q => decide (q.1.1 ≠ ad)).map fun q => (q.1.scale b, q.2)) ++ [((ad ++ [48], r0, bx.one up t b), u0), ((ad ++ [49], r1, bx.two up t b), u1)] := fun _ _ _ => rfl
      have hkv : ∀ up u0 u1, kvF (qCut qs up ad r0 r1 bx t b u0 u1) = kvF (qs.filter fun q => decide (q.1.1 ≠ ad)) ++ [((Sum.inr (S (ad ++ [48])) : Key), V.ref u0), (Sum.inr (S (ad ++ [49])), V.ref u1)] := fun _ _ _ => kvF_cut
      generalize (qs.filter fun q => decide (q.1.1 ≠ ad)) = fq at fsub flen hcutq hkv hl5 hl6 ⊢
      have zs : (S ad).length + 1 ≤ sizeLine := by
        rw [S_len]
        exact sz (by omega)
      have e0 : S ad ++ ("0" : Str) = S (ad ++ [48]) := S_cat ad [48]
      have e1' : S ad ++ ("1" : Str) = S (ad ++ [49]) := S_cat ad [49]
      have fr0 : ad ++ [48] ∉ fq.map (fun q => q.1.1) := fun h => by
        obtain ⟨q', h1, h2⟩ := List.mem_map.mp h
        exact fr 48 (List.mem_map.mpr ⟨q', fsub _ h1, h2⟩)
      have fr1' : ad ++ [49] ∉ fq.map (fun q => q.1.1) := fun h => by
        obtain ⟨q', h1, h2⟩ := List.mem_map.mp h
        exact fr 49 (List.mem_map.mpr ⟨q', fsub _ h1, h2⟩)
      have hup : decide (([sg, xx, yy] : List Nat).headD 0 = 124) = decide (sg = 124) := rfl
      rw [hup] at est
      refine ite2 (fun hT => ?_) (fun hT => ?_)
      · have esg : sg = 124 := by
          have h1 := S_inj (b := [124]) (V.str.inj (of_decide_eq_true hT))
          exact (List.cons.inj h1).1
        rw [show decide (sg = 124) = true from decide_eq_true esg] at est
        refine ⟨_, rfl, _, rfl, _, rfl, st, _, _, _, rfl, rfl, hS _ s06, rfl, _, rfl, st, _, _, _, rfl, rfl, hS _ s06, rfl, ww, ee, bx.w, bx.e, D, t, b, rfl, s06 _ _ hbv.1, s06 _ _ hbv.2.2.1, D0, ok.w0, ok.we, ok.e1, t0, tb, sm, fun H7 z s7 nz hz => ?_⟩
        have X7 := s06.trans s7
        have hl7 := s7 _ _ hl6
        have hp7 := s7 _ _ hp6
        refine ⟨_, rfl, p1, _, _, _, rfl, rfl, SqL.of hp7, rfl, _, rfl, _, rfl, _, rfl, _, rfl, (show 4 ≤ sizeLine by decide), fun b0 nb0 => ⟨(show 2 ≤ sizeLine by decide), fun u0 nu0 => ?_⟩⟩
        have S9 := (same_upd (o := HO.tup [V.ref ww, V.ref nn, V.ref z, V.ref ss]) nb0).trans (same_upd (o := HO.tup [V.str (S r0), V.ref b0]) nu0)
        have hb0 : (upd (upd H7 b0 (HO.tup [V.ref ww, V.ref nn, V.ref z, V.ref ss])) u0 (HO.tup [V.str (S r0), V.ref b0])) b0 = some (HO.tup [V.ref ww, V.ref nn, V.ref z, V.ref ss]) := (same_upd (o := HO.tup [V.str (S r0), V.ref b0]) nu0) _ _ upd_same
        have hu0 : (upd (upd H7 b0 (HO.tup [V.ref ww, V.ref nn, V.ref z, V.ref ss])) u0 (HO.tup [V.str (S r0), V.ref b0])) u0 = some (HO.tup [V.str (S r0), V.ref b0]) := upd_same
        generalize upd (upd H7 b0 (HO.tup [V.ref ww, V.ref nn, V.ref z, V.ref ss])) u0 (HO.tup [V.str (S r0), V.ref b0]) = H9 at S9 hb0 hu0 ⊢
        have X9 := X7.trans S9
        have hl9 := S9 _ _ hl7
        have hp9 := S9 _ _ hp7
        have hz9 := S9 _ _ hz
        refine ⟨_, rfl, _, rfl, st, _, _, _, rfl, rfl, hS _ X9, rfl, _, _, rfl, rfl, zs, lt, _, rfl, by rw [e0]; exact DPut.k (k := Sum.inr (S (ad ++ [48]))) hl9 (by unfold kvF; rw [List.length_map]; exact sz1 (by omega)), ?_⟩
        rw [show putK (kvF fq) (Sum.inr (S (ad ++ [48]))) (V.ref u0) = kvF (fq ++ [((ad ++ [48], r0, bx.one true t b), u0)]) from putK_map (fun q : FR × Addr => q.1.1) (fun q => V.ref q.2) (q := ((ad ++ [48], r0, bx.one true t b), u0)) fr0]
        have hl10 : (upd H9 lt (.dK (kvF (fq ++ [(((ad ++ [48], r0, bx.one true t b) : FR), u0)])))) lt = some (.dK (kvF (fq ++ [(((ad ++ [48], r0, bx.one true t b) : FR), u0)]))) := upd_same
        have FA : Far H9 (upd H9 lt (.dK (kvF (fq ++ [(((ad ++ [48], r0, bx.one true t b) : FR), u0)])))) := Far.dict hl9
        have X10 : Same H (upd H9 lt (.dK (kvF (fq ++ [(((ad ++ [48], r0, bx.one true t b) : FR), u0)])))) := fun b' o e => by rw [upd_ne (ne_of_none e nlt0)]; exact X9 _ _ e
        have hp10 := FA _ _ hp9 (fun _ z => by cases z)
        have hzA := FA _ _ hz9 (fun _ z => by cases z)
        have hb0A := FA _ _ hb0 (fun _ z => by cases z)
        have hu0A := FA _ _ hu0 (fun _ z => by cases z)
        generalize upd H9 lt (.dK (kvF (fq ++ [(((ad ++ [48], r0, bx.one true t b) : FR), u0)]))) = HA at hl10 X10 hp10 hzA hb0A hu0A ⊢
        clear FA hl9 hp9 hz9 hb0 hu0 X9 S9 hl7 hp7 X7 hz
        refine ⟨_, rfl, p1, _, _, _, rfl, rfl, SqL.of hp10, rfl, _, rfl, _, rfl, _, rfl, _, rfl, (show 4 ≤ sizeLine by decide), fun b1 nb1 => ⟨(show 2 ≤ sizeLine by decide), fun u1 nu1 => ?_⟩⟩
        have S11 := (same_upd (o := HO.tup [V.ref z, V.ref nn, V.ref ee, V.ref ss]) nb1).trans (same_upd (o := HO.tup [V.str (S r1), V.ref b1]) nu1)
        have hb1 : (upd (upd HA b1 (HO.tup [V.ref z, V.ref nn, V.ref ee, V.ref ss])) u1 (HO.tup [V.str (S r1), V.ref b1])) b1 = some (HO.tup [V.ref z, V.ref nn, V.ref ee, V.ref ss]) := (same_upd (o := HO.tup [V.str (S r1), V.ref b1]) nu1) _ _ upd_same
        have hu1 : (upd (upd HA b1 (HO.tup [V.ref z, V.ref nn, V.ref ee, V.ref ss])) u1 (HO.tup [V.str (S r1), V.ref b1])) u1 = some (HO.tup [V.str (S r1), V.ref b1]) := upd_same
        generalize upd (upd HA b1 (HO.tup [V.ref z, V.ref nn, V.ref ee, V.ref ss])) u1 (HO.tup [V.str (S r1), V.ref b1]) = HB at S11 hb1 hu1 ⊢
        have X11 := X10.trans S11
        have hl11 := S11 _ _ hl10
        have hzB := S11 _ _ hzA
        have hb0B := S11 _ _ hb0A
        have hu0B := S11 _ _ hu0A
        have fr1 : ad ++ [49] ∉ (fq ++ [(((ad ++ [48], r0, bx.one true t b) : FR), u0)]).map (fun q => q.1.1) := fun h => by
          rw [List.map_append] at h
          rcases List.mem_append.mp h with h | h
          · exact fr1' h
          · have h' : ad ++ [49] = ad ++ [48] := List.mem_singleton.mp h
            exact absurd (List.append_cancel_left h') (by decide)
        have hl8 : (kvF (fq ++ [(((ad ++ [48], r0, bx.one true t b) : FR), u0)])).length ≤ 1001 := by
          unfold kvF
          rw [List.length_map, List.length_append]
          show fq.length + 1 ≤ 1001
          omega
        refine ⟨_, rfl, _, rfl, st, _, _, _, rfl, rfl, hS _ X11, rfl, _, _, rfl, rfl, zs, lt, _, rfl, by rw [e1']; exact DPut.k (k := Sum.inr (S (ad ++ [49]))) hl11 (sz1 (by omega)), ?_⟩
        rw [show putK (kvF (fq ++ [(((ad ++ [48], r0, bx.one true t b) : FR), u0)])) (Sum.inr (S (ad ++ [49]))) (V.ref u1) = kvF (qCut qs true ad r0 r1 bx t b u0 u1) from by
          refine (putK_map (fun q : FR × Addr => q.1.1) (fun q => V.ref q.2) (q := ((ad ++ [49], r1, bx.two true t b), u1)) fr1).trans ?_
          rw [hkv]
          unfold kvF
          rw [List.map_append, List.map_append, List.append_assoc]
          rfl]
        have FA : Far HB (upd HB lt (.dK (kvF (qCut qs true ad r0 r1 bx t b u0 u1)))) := Far.dict hl11
        have XF : Same H (upd HB lt (.dK (kvF (qCut qs true ad r0 r1 bx t b u0 u1)))) := fun b' o e => by rw [upd_ne (ne_of_none e nlt0)]; exact X11 _ _ e
        refine ⟨_, rfl, q _ lt (D * b) (qCut qs true ad r0 r1 bx t b u0 u1) XF (.inr nlt0) ⟨upd_same, fun q' hq => ?_⟩ ?_⟩
        · rw [hcutq] at hq
          rcases List.mem_append.mp hq with hq | hq
          · obtain ⟨y, hy, rfl⟩ := List.mem_map.mp hq
            exact ((hF.cells _ (fsub _ hy)).far kP (Far.same XF)).scale (by omega) (by omega)
          · simp only [List.mem_cons, List.not_mem_nil, or_false] at hq
            rcases hq with rfl | rfl
            · refine ⟨b0, FA _ _ hu0B (fun _ z => by cases z), ww, nn, z, ss, FA _ _ hb0B (fun _ z => by cases z), ?_⟩
              show PairN _ ww (low (bx.w * b) (D * b)).1 (low (bx.w * b) (D * b)).2 ∧ PairN _ nn (low (bx.n * b) (D * b)).1 (low (bx.n * b) (D * b)).2 ∧ PairN _ z (low (bx.w * b + (bx.e - bx.w) * t) (D * b)).1 (low (bx.w * b + (bx.e - bx.w) * t) (D * b)).2 ∧ PairN _ ss (low (bx.s * b) (D * b)).1 (low (bx.s * b) (D * b)).2
              rw [low_scale2 (t := bx.w) (show D ≠ 0 by omega) (show b ≠ 0 by omega), low_scale2 (t := bx.n) (show D ≠ 0 by omega) (show b ≠ 0 by omega), low_scale2 (t := bx.s) (show D ≠ 0 by omega) (show b ≠ 0 by omega)]
              exact ⟨XF _ _ hbv.1, XF _ _ hbv.2.1, FA _ _ (hzB) (fun _ z => by cases z), XF _ _ hbv.2.2.2⟩
            · refine ⟨b1, FA _ _ hu1 (fun _ z => by cases z), z, nn, ee, ss, FA _ _ hb1 (fun _ z => by cases z), ?_⟩
              show PairN _ z (low (bx.w * b + (bx.e - bx.w) * t) (D * b)).1 (low (bx.w * b + (bx.e - bx.w) * t) (D * b)).2 ∧ PairN _ nn (low (bx.n * b) (D * b)).1 (low (bx.n * b) (D * b)).2 ∧ PairN _ ee (low (bx.e * b) (D * b)).1 (low (bx.e * b) (D * b)).2 ∧ PairN _ ss (low (bx.s * b) (D * b)).1 (low (bx.s * b) (D * b)).2
              rw [low_scale2 (t := bx.n) (show D ≠ 0 by omega) (show b ≠ 0 by omega), low_scale2 (t := bx.e) (show D ≠ 0 by omega) (show b ≠ 0 by omega), low_scale2 (t := bx.s) (show D ≠ 0 by omega) (show b ≠ 0 by omega)]
              exact ⟨FA _ _ (hzB) (fun _ z => by cases z), XF _ _ hbv.2.1, XF _ _ hbv.2.2.1, XF _ _ hbv.2.2.2⟩
        · rw [est, qCut_st (D := D)]
      · have esg : ¬ sg = 124 := fun z => hT (by
          rw [z]
          exact decide_eq_true rfl)
        rw [show decide (sg = 124) = false from decide_eq_false esg] at est
        refine ⟨_, rfl, _, rfl, _, rfl, st, _, _, _, rfl, rfl, hS _ s06, rfl, _, rfl, st, _, _, _, rfl, rfl, hS _ s06, rfl, nn, ss, bx.n, bx.s, D, t, b, rfl, s06 _ _ hbv.2.1, s06 _ _ hbv.2.2.2, D0, ok.n0, ok.ns, ok.s1, t0, tb, sm, fun H7 z s7 nz hz => ?_⟩
        have X7 := s06.trans s7
        have hl7 := s7 _ _ hl6
        have hp7 := s7 _ _ hp6
        refine ⟨_, rfl, p1, _, _, _, rfl, rfl, SqL.of hp7, rfl, _, rfl, _, rfl, _, rfl, _, rfl, (show 4 ≤ sizeLine by decide), fun b0 nb0 => ⟨(show 2 ≤ sizeLine by decide), fun u0 nu0 => ?_⟩⟩
        have S9 := (same_upd (o := HO.tup [V.ref ww, V.ref nn, V.ref ee, V.ref z]) nb0).trans (same_upd (o := HO.tup [V.str (S r0), V.ref b0]) nu0)
        have hb0 : (upd (upd H7 b0 (HO.tup [V.ref ww, V.ref nn, V.ref ee, V.ref z])) u0 (HO.tup [V.str (S r0), V.ref b0])) b0 = some (HO.tup [V.ref ww, V.ref nn, V.ref ee, V.ref z]) := (same_upd (o := HO.tup [V.str (S r0), V.ref b0]) nu0) _ _ upd_same
        have hu0 : (upd (upd H7 b0 (HO.tup [V.ref ww, V.ref nn, V.ref ee, V.ref z])) u0 (HO.tup [V.str (S r0), V.ref b0])) u0 = some (HO.tup [V.str (S r0), V.ref b0]) := upd_same
        generalize upd (upd H7 b0 (HO.tup [V.ref ww, V.ref nn, V.ref ee, V.ref z])) u0 (HO.tup [V.str (S r0), V.ref b0]) = H9 at S9 hb0 hu0 ⊢
        have X9 := X7.trans S9
        have hl9 := S9 _ _ hl7
        have hp9 := S9 _ _ hp7
        have hz9 := S9 _ _ hz
        refine ⟨_, rfl, _, rfl, st, _, _, _, rfl, rfl, hS _ X9, rfl, _, _, rfl, rfl, zs, lt, _, rfl, by rw [e0]; exact DPut.k (k := Sum.inr (S (ad ++ [48]))) hl9 (by unfold kvF; rw [List.length_map]; exact sz1 (by omega)), ?_⟩
        rw [show putK (kvF fq) (Sum.inr (S (ad ++ [48]))) (V.ref u0) = kvF (fq ++ [((ad ++ [48], r0, bx.one false t b), u0)]) from putK_map (fun q : FR × Addr => q.1.1) (fun q => V.ref q.2) (q := ((ad ++ [48], r0, bx.one false t b), u0)) fr0]
        have hl10 : (upd H9 lt (.dK (kvF (fq ++ [(((ad ++ [48], r0, bx.one false t b) : FR), u0)])))) lt = some (.dK (kvF (fq ++ [(((ad ++ [48], r0, bx.one false t b) : FR), u0)]))) := upd_same
        have FA : Far H9 (upd H9 lt (.dK (kvF (fq ++ [(((ad ++ [48], r0, bx.one false t b) : FR), u0)])))) := Far.dict hl9
        have X10 : Same H (upd H9 lt (.dK (kvF (fq ++ [(((ad ++ [48], r0, bx.one false t b) : FR), u0)])))) := fun b' o e => by rw [upd_ne (ne_of_none e nlt0)]; exact X9 _ _ e
        have hp10 := FA _ _ hp9 (fun _ z => by cases z)
        have hzA := FA _ _ hz9 (fun _ z => by cases z)
        have hb0A := FA _ _ hb0 (fun _ z => by cases z)
        have hu0A := FA _ _ hu0 (fun _ z => by cases z)
        generalize upd H9 lt (.dK (kvF (fq ++ [(((ad ++ [48], r0, bx.one false t b) : FR), u0)]))) = HA at hl10 X10 hp10 hzA hb0A hu0A ⊢
        clear FA hl9 hp9 hz9 hb0 hu0 X9 S9 hl7 hp7 X7 hz
        refine ⟨_, rfl, p1, _, _, _, rfl, rfl, SqL.of hp10, rfl, _, rfl, _, rfl, _, rfl, _, rfl, (show 4 ≤ sizeLine by decide), fun b1 nb1 => ⟨(show 2 ≤ sizeLine by decide), fun u1 nu1 => ?_⟩⟩
        have S11 := (same_upd (o := HO.tup [V.ref ww, V.ref z, V.ref ee, V.ref ss]) nb1).trans (same_upd (o := HO.tup [V.str (S r1), V.ref b1]) nu1)
        have hb1 : (upd (upd HA b1 (HO.tup [V.ref ww, V.ref z, V.ref ee, V.ref ss])) u1 (HO.tup [V.str (S r1), V.ref b1])) b1 = some (HO.tup [V.ref ww, V.ref z, V.ref ee, V.ref ss]) := (same_upd (o := HO.tup [V.str (S r1), V.ref b1]) nu1) _ _ upd_same
        have hu1 : (upd (upd HA b1 (HO.tup [V.ref ww, V.ref z, V.ref ee, V.ref ss])) u1 (HO.tup [V.str (S r1), V.ref b1])) u1 = some (HO.tup [V.str (S r1), V.ref b1]) := upd_same
        generalize upd (upd HA b1 (HO.tup [V.ref ww, V.ref z, V.ref ee, V.ref ss])) u1 (HO.tup [V.str (S r1), V.ref b1]) = HB at S11 hb1 hu1 ⊢
        have X11 := X10.trans S11
        have hl11 := S11 _ _ hl10
        have hzB := S11 _ _ hzA
        have hb0B := S11 _ _ hb0A
        have hu0B := S11 _ _ hu0A
        have fr1 : ad ++ [49] ∉ (fq ++ [(((ad ++ [48], r0, bx.one false t b) : FR), u0)]).map (fun q => q.1.1) := fun h => by
          rw [List.map_append] at h
          rcases List.mem_append.mp h with h | h
          · exact fr1' h
          · have h' : ad ++ [49] = ad ++ [48] := List.mem_singleton.mp h
            exact absurd (List.append_cancel_left h') (by decide)
        have hl8 : (kvF (fq ++ [(((ad ++ [48], r0, bx.one false t b) : FR), u0)])).length ≤ 1001 := by
          unfold kvF
          rw [List.length_map, List.length_append]
          show fq.length + 1 ≤ 1001
          omega
        refine ⟨_, rfl, _, rfl, st, _, _, _, rfl, rfl, hS _ X11, rfl, _, _, rfl, rfl, zs, lt, _, rfl, by rw [e1']; exact DPut.k (k := Sum.inr (S (ad ++ [49]))) hl11 (sz1 (by omega)), ?_⟩
        rw [show putK (kvF (fq ++ [(((ad ++ [48], r0, bx.one false t b) : FR), u0)])) (Sum.inr (S (ad ++ [49]))) (V.ref u1) = kvF (qCut qs false ad r0 r1 bx t b u0 u1) from by
          refine (putK_map (fun q : FR × Addr => q.1.1) (fun q => V.ref q.2) (q := ((ad ++ [49], r1, bx.two false t b), u1)) fr1).trans ?_
          rw [hkv]
          unfold kvF
          rw [List.map_append, List.map_append, List.append_assoc]
          rfl]
        have FA : Far HB (upd HB lt (.dK (kvF (qCut qs false ad r0 r1 bx t b u0 u1)))) := Far.dict hl11
        have XF : Same H (upd HB lt (.dK (kvF (qCut qs false ad r0 r1 bx t b u0 u1)))) := fun b' o e => by rw [upd_ne (ne_of_none e nlt0)]; exact X11 _ _ e
        refine ⟨_, rfl, q _ lt (D * b) (qCut qs false ad r0 r1 bx t b u0 u1) XF (.inr nlt0) ⟨upd_same, fun q' hq => ?_⟩ ?_⟩
        · rw [hcutq] at hq
          rcases List.mem_append.mp hq with hq | hq
          · obtain ⟨y, hy, rfl⟩ := List.mem_map.mp hq
            exact ((hF.cells _ (fsub _ hy)).far kP (Far.same XF)).scale (by omega) (by omega)
          · simp only [List.mem_cons, List.not_mem_nil, or_false] at hq
            rcases hq with rfl | rfl
            · refine ⟨b0, FA _ _ hu0B (fun _ z => by cases z), ww, nn, ee, z, FA _ _ hb0B (fun _ z => by cases z), ?_⟩
              show PairN _ ww (low (bx.w * b) (D * b)).1 (low (bx.w * b) (D * b)).2 ∧ PairN _ nn (low (bx.n * b) (D * b)).1 (low (bx.n * b) (D * b)).2 ∧ PairN _ ee (low (bx.e * b) (D * b)).1 (low (bx.e * b) (D * b)).2 ∧ PairN _ z (low (bx.n * b + (bx.s - bx.n) * t) (D * b)).1 (low (bx.n * b + (bx.s - bx.n) * t) (D * b)).2
              rw [low_scale2 (t := bx.w) (show D ≠ 0 by omega) (show b ≠ 0 by omega), low_scale2 (t := bx.n) (show D ≠ 0 by omega) (show b ≠ 0 by omega), low_scale2 (t := bx.e) (show D ≠ 0 by omega) (show b ≠ 0 by omega)]
              exact ⟨XF _ _ hbv.1, XF _ _ hbv.2.1, XF _ _ hbv.2.2.1, FA _ _ (hzB) (fun _ z => by cases z)⟩
            · refine ⟨b1, FA _ _ hu1 (fun _ z => by cases z), ww, z, ee, ss, FA _ _ hb1 (fun _ z => by cases z), ?_⟩
              show PairN _ ww (low (bx.w * b) (D * b)).1 (low (bx.w * b) (D * b)).2 ∧ PairN _ z (low (bx.n * b + (bx.s - bx.n) * t) (D * b)).1 (low (bx.n * b + (bx.s - bx.n) * t) (D * b)).2 ∧ PairN _ ee (low (bx.e * b) (D * b)).1 (low (bx.e * b) (D * b)).2 ∧ PairN _ ss (low (bx.s * b) (D * b)).1 (low (bx.s * b) (D * b)).2
              rw [low_scale2 (t := bx.w) (show D ≠ 0 by omega) (show b ≠ 0 by omega), low_scale2 (t := bx.e) (show D ≠ 0 by omega) (show b ≠ 0 by omega), low_scale2 (t := bx.s) (show D ≠ 0 by omega) (show b ≠ 0 by omega)]
              exact ⟨XF _ _ hbv.1, FA _ _ (hzB) (fun _ z => by cases z), XF _ _ hbv.2.2.1, XF _ _ hbv.2.2.2⟩
        · rw [est, qCut_st (D := D)]
end
end FW
namespace FW
open PySem PySem.Spec PyProof.Rows L2
-- more
section
variable {P : Program} {w : World} {K : PySem.W.Frag} {mg : Str → Option Value} {base : Heap}
theorem atI_end {α : Type} {i : List α} {z : α} : atI (i ++ [z]) (-1) = some z := by
  have h : ixN (i ++ [z]).length (-1) = some i.length := by
    unfold ixN
    rw [List.length_append]
    show (if (0 : Int) ≤ -1 then _ else _) = _
    rw [if_neg (by omega), if_pos (by show -((i.length + 1 : Nat) : Int) ≤ -1; omega)]
    congr 1
    show ((-1 : Int) + ((i.length + 1 : Nat) : Int)).toNat = i.length
    omega
  unfold atI
  rw [h]
  exact List.getElem?_concat_length
theorem pval_snoc {cut : List Nat → Nat → List Nat} {C : List Nat} : ∀ {ss : List PStp} {F : Fl} {s : PStp}, PVal cut C F ss → (∃ r, (flRun cut F ss).2.find? (fun r => decide (r.1 = s.1)) = some r) → s.2.1 ∈ C → 0 < s.2.2.1 → s.2.2.1 < s.2.2.2 → (flRun cut F ss).1 * s.2.2.2 < 2 ^ 63 → PVal cut C F (ss ++ [s])
  | [], _, _, _, h1, h2, h3, h4, h5 => ⟨h1, h2, h3, h4, h5, trivial⟩
  | _ :: _, _, _, v, h1, h2, h3, h4, h5 => ⟨v.1, v.2.1, v.2.2.1, v.2.2.2.1, v.2.2.2.2.1, pval_snoc v.2.2.2.2.2 h1 h2 h3 h4 h5⟩
/-- a drawn placed history and its floor -/
structure PHistAt (H : Hp) (b q sl bd : Addr) (ts : List Addr) (ss : List PStp) (F : Fl) (qs : List (FR × Addr)) : Prop where
  top : H q = some (.lst [.ref sl, .ref bd])
  steps : H sl = some (.lst (ts.map V.ref))
  sts : ts.length = ss.length ∧ ∀ (i : Nat) (t : Addr) (s : PStp), ts[i]? = some t → ss[i]? = some s → H t = some (.tup [.str (S s.1), .str (S [s.2.1]), .int s.2.2.1, .int s.2.2.2])
  floor : FloorAt PairN H bd F.1 qs
  st : qs.map (·.1) = F.2
  qb : q ≠ b
  sb : sl ≠ b
abbrev s__law_some_placed : Stmt := topS 85
theorem sc__law_some_placed : FnScope ["_law_bag", "_law_spec", "_law_start_z", "_law_many", "_law_steps_z", "_law_boxes", "_law_k", "_law_address", "_law_cutter", "_law_place"] ["_law_bag", "_law_spec", "_law_start_z", "_law_many"] (defScope s__law_some_placed) := ⟨rfl, rfl, rfl, by decide +kernel, rfl, by decide +kernel, by decide +kernel⟩
def sp__law_some_placed (K : PySem.W.Frag) : Sp := fun vs H Q _ => ∃ (b lb p lp : Addr) (F C : List Nat) (ls : List LineV) (start : List Nat) (m : Nat), vs = [.ref b, .ref p, .str (S start), .int m] ∧ Bag H b lb ∧ SpecAt H b p lp F C ls ∧ SpecS ls ∧ (∀ r ∈ ls, CutR r.2.2.2.2.2.2 F) ∧
  0 < C.length ∧ C.length ≤ 100 ∧ start.length = 4 ∧ (∀ y ∈ start, y ∈ F) ∧ m ≤ 10 ∧
  ∀ H' q sl bd ts ss qs, But b H H' → Bag H' b lb → H q = none → ss.length ≤ m → PVal (cutL ls) C (flStart start) ss → PHistAt H' b q sl bd ts ss (flRun (cutL ls) (flStart start) ss) qs → Q (.ref q) H'
theorem ok__law_some_placed {f : Addr} {fd : FuncData} (F : Fun K "_law_some_placed" "_law_some_placed" s__law_some_placed f fd) (T : Z mg) (c__law_of : Cal P w K mg base CX0 2 "_law_of" s__law_of ["_law_bag", "_law_things"] (sp__law_of K))
    (c__law_some_place : Cal P w K mg base CX0 3 "_law_some_place" s__law_some_place ["_law_bag"] (sp__law_some_place K)) (c__law_cut_box : Cal P w K mg base CX0 5 "_law_cut_box" s__law_cut_box ["_law_spec", "_law_boxes", "_law_step"] (sp__law_cut_box K)) :
    FnOk P w K mg base CX0 6 f fd ["_law_bag", "_law_spec", "_law_start_z", "_law_many"] (sp__law_some_placed K) := by
  refine F.ok sc__law_some_placed (fun vs H Q E h => ?_) (fun cdv A outer s H vs Q E hr h => ?_)
  · obtain ⟨b, lb, p, lp, F, C, ls, start, m, rfl, _⟩ := h
    rfl
  obtain ⟨b, lb, p, lp, fs, cs, ls, start, m, rfl, B, hs, hl, hcu, hC0, hC1, hr4, hrf, hm, q⟩ := h
  refine ⟨_, (pss_cons (ps_par (i := 4) (j := 5) (by rfl) sc__law_some_placed.nd rfl rfl (by decide) rfl rfl (pa_cons (pe_lst pa_nil) (pa_cons (pe_disp (pps_cons pe_str (pe_tup (pa_cons (pv 2) (pa_cons (pe_tup (pa_cons (pe_tup (pa_cons pe_int (pa_cons pe_int pa_nil))) (pa_cons (pe_tup (pa_cons pe_int (pa_cons pe_int pa_nil))) (pa_cons (pe_tup (pa_cons pe_int (pa_cons pe_int pa_nil))) (pa_cons (pe_tup (pa_cons pe_int (pa_cons pe_int pa_nil))) pa_nil))))) pa_nil))) pps_nil) (by rfl) (by rfl) (fun z => by cases z) (by decide)) pa_nil)) (by rfl))
    (pss_cons (ps_for PassesOwn.never rfl (pi_range1 (by rfl) T.z_range (pa_cons (pv 3) pa_nil)) (pg_name (i := 6) sc__law_some_placed.nd rfl (.inl rfl))
      (pss_cons (ps_par (i := 7) (j := 8) (by rfl) sc__law_some_placed.nd rfl rfl (by decide) rfl rfl (pa_cons (pe_c c__law_of hr (by decide) (by rfl) (pa_cons (pv 0) (pa_cons (pe_callB cr_sortedS (by rfl) T.z_sorted (by decide +kernel) (pa_cons (pe_callTy (call_list_dK rfl) (by rfl) T.z_list (by decide +kernel) (pa_cons (pv 5) pa_nil)) pa_nil)) pa_nil))) (pa_cons (pe_c c__law_of hr (by decide) (by rfl) (pa_cons (pv 0) (pa_cons (pe_ix ix_list (pv 1) pe_int (fun _ _ => rfl)) pa_nil))) pa_nil)) (by rfl))
      (pss_cons (ps_set (i := 9) sc__law_some_placed.nd rfl (.inl rfl) (pe_c c__law_some_place hr (by decide) (by rfl) (pa_cons (pv 0) pa_nil)))
      (pss_cons (ps_expr (pe_bm PySem.F.plainAttrs_list PySem.F.slot_list_append PySem.F.type_list_append mt_append (pv 4) (pa_cons (pe_tup (pa_cons (pv 7) (pa_cons (pv 8) (pa_cons (pe_ix ix_tup (pv 9) pe_int (fun _ _ => rfl)) (pa_cons (pe_ix ix_tup (pv 9) pe_int (fun _ _ => rfl)) pa_nil))))) pa_nil)))
      (pss_one (ps_set (i := 5) sc__law_some_placed.nd rfl (.inl rfl) (pe_c c__law_cut_box hr (by decide) (by rfl) (pa_cons (pv 1) (pa_cons (pv 5) (pa_cons (pe_ix ix_list (pv 4) (pe_un un_neg pe_int) (fun _ _ => rfl)) pa_nil))))))))))
    (pss_one (ps_ret (pe_lst (pa_cons (pv 4) (pa_cons (pv 5) pa_nil))))))), ?_⟩
  have hcut : ∀ r c, CutR (cutL ls r c) fs := fun r c => cutL_form hcu
  have kP := PairN.k
  refine ⟨(show 0 ≤ sizeLine by decide), fun sl nsl => fun bd nbd => ⟨_, rfl, (show 2 ≤ sizeLine by decide), fun a0 na0 => ⟨(show 2 ≤ sizeLine by decide), fun a1 na1 => ⟨(show 2 ≤ sizeLine by decide), fun a2 na2 => ⟨(show 2 ≤ sizeLine by decide), fun a3 na3 => ⟨(show 4 ≤ sizeLine by decide), fun pb npb => ⟨(show 2 ≤ sizeLine by decide), fun u nu => ?_⟩⟩⟩⟩⟩⟩⟩
  have sA : Same H (upd H sl (.lst [])) := same_upd nsl
  have nbd0 : H bd = none := none_same sA nbd
  have hslbd : sl ≠ bd := ne_of_none (upd_same : (upd H sl (.lst [])) sl = some (.lst [])) nbd
  have s0 := sA.trans (same_upd (o := HO.dK []) nbd)
  have hsl0 : (upd (upd H sl (.lst [])) bd (.dK [])) sl = some (.lst []) := (same_upd (o := HO.dK []) nbd) _ _ upd_same
  have hbd0 : (upd (upd H sl (.lst [])) bd (.dK [])) bd = some (.dK []) := upd_same
  generalize upd (upd H sl (.lst [])) bd (.dK []) = H0 at s0 hsl0 hbd0 na0 na1 na2 na3 npb nu ⊢
  have z0 := same_upd (o := HO.tup [V.int 0, V.int 1]) na0
  have f0 : (upd H0 a0 (HO.tup [V.int 0, V.int 1])) a0 = some (HO.tup [V.int 0, V.int 1]) := upd_same
  have s1 := s0.trans z0
  replace hsl0 := z0 _ _ hsl0
  replace hbd0 := z0 _ _ hbd0
  generalize upd H0 a0 (HO.tup [V.int 0, V.int 1]) = H1 at s1 hsl0 hbd0 f0 na1 na2 na3 npb nu ⊢
  clear z0 s0
  have z1 := same_upd (o := HO.tup [V.int 0, V.int 1]) na1
  have f1 : (upd H1 a1 (HO.tup [V.int 0, V.int 1])) a1 = some (HO.tup [V.int 0, V.int 1]) := upd_same
  have s2 := s1.trans z1
  replace hsl0 := z1 _ _ hsl0
  replace hbd0 := z1 _ _ hbd0
  replace f0 := z1 _ _ f0
  generalize upd H1 a1 (HO.tup [V.int 0, V.int 1]) = H2 at s2 hsl0 hbd0 f0 f1 na2 na3 npb nu ⊢
  clear z1 s1
  have z2 := same_upd (o := HO.tup [V.int 1, V.int 1]) na2
  have f2 : (upd H2 a2 (HO.tup [V.int 1, V.int 1])) a2 = some (HO.tup [V.int 1, V.int 1]) := upd_same
  have s3 := s2.trans z2
  replace hsl0 := z2 _ _ hsl0
  replace hbd0 := z2 _ _ hbd0
  replace f0 := z2 _ _ f0
  replace f1 := z2 _ _ f1
  generalize upd H2 a2 (HO.tup [V.int 1, V.int 1]) = H3 at s3 hsl0 hbd0 f0 f1 f2 na3 npb nu ⊢
  clear z2 s2
  have z3 := same_upd (o := HO.tup [V.int 1, V.int 1]) na3
  have f3 : (upd H3 a3 (HO.tup [V.int 1, V.int 1])) a3 = some (HO.tup [V.int 1, V.int 1]) := upd_same
  have s4 := s3.trans z3
  replace hsl0 := z3 _ _ hsl0
  replace hbd0 := z3 _ _ hbd0
  replace f0 := z3 _ _ f0
  replace f1 := z3 _ _ f1
  replace f2 := z3 _ _ f2
  generalize upd H3 a3 (HO.tup [V.int 1, V.int 1]) = H4 at s4 hsl0 hbd0 f0 f1 f2 f3 npb nu ⊢
  clear z3 s3
  have z4 := same_upd (o := HO.tup [V.ref a0, V.ref a1, V.ref a2, V.ref a3]) npb
  have f4 : (upd H4 pb (HO.tup [V.ref a0, V.ref a1, V.ref a2, V.ref a3])) pb = some (HO.tup [V.ref a0, V.ref a1, V.ref a2, V.ref a3]) := upd_same
  have s5 := s4.trans z4
  replace hsl0 := z4 _ _ hsl0
  replace hbd0 := z4 _ _ hbd0
  replace f0 := z4 _ _ f0
  replace f1 := z4 _ _ f1
  replace f2 := z4 _ _ f2
  replace f3 := z4 _ _ f3
  generalize upd H4 pb (HO.tup [V.ref a0, V.ref a1, V.ref a2, V.ref a3]) = H5 at s5 hsl0 hbd0 f0 f1 f2 f3 f4 nu ⊢
  clear z4 s4
  have z5 := same_upd (o := HO.tup [V.str (S start), V.ref pb]) nu
  have f5 : (upd H5 u (HO.tup [V.str (S start), V.ref pb])) u = some (HO.tup [V.str (S start), V.ref pb]) := upd_same
  have s6 := s5.trans z5
  replace hsl0 := z5 _ _ hsl0
  replace hbd0 := z5 _ _ hbd0
  replace f0 := z5 _ _ f0
  replace f1 := z5 _ _ f1
  replace f2 := z5 _ _ f2
  replace f3 := z5 _ _ f3
  replace f4 := z5 _ _ f4
  generalize upd H5 u (HO.tup [V.str (S start), V.ref pb]) = H6 at s6 hsl0 hbd0 f0 f1 f2 f3 f4 f5  ⊢
  clear z5 s5
  have hb6 : BoxAt PairN H6 1 pb IB.whole := ⟨a0, a1, a2, a3, f4, (show H6 a0 = some (tupI (low 0 1).1 (low 0 1).2) by rw [show low 0 1 = (0, 1) from by decide]; exact f0), (show H6 a1 = some (tupI (low 0 1).1 (low 0 1).2) by rw [show low 0 1 = (0, 1) from by decide]; exact f1), (show H6 a2 = some (tupI (low 1 1).1 (low 1 1).2) by rw [show low 1 1 = (1, 1) from by decide]; exact f2), (show H6 a3 = some (tupI (low 1 1).1 (low 1 1).2) by rw [show low 1 1 = (1, 1) from by decide]; exact f3)⟩
  refine ⟨hbd0, [(Sum.inr "", .ref u)], rfl, (show 1 ≤ 15 by decide), _, _, rfl, ?_⟩
  have F7 : Far H6 (upd H6 bd (.dK (mergeK [] [(Sum.inr "", .ref u)]))) := Far.dict hbd0
  have s7 : Same H (upd H6 bd (.dK (mergeK [] [(Sum.inr "", .ref u)]))) := fun c o e => by
    rw [upd_ne (ne_of_none e nbd0)]
    exact s6 _ _ e
  have hsl7 : (upd H6 bd (.dK (mergeK [] [(Sum.inr "", .ref u)]))) sl = some (.lst []) := by
    rw [upd_ne hslbd]
    exact hsl0
  have hF7 : FloorAt PairN (upd H6 bd (.dK (mergeK [] [(Sum.inr "", .ref u)]))) bd (flStart start).1 [(([], start, IB.whole), u)] := ⟨upd_same, fun q' hq => by
    rw [List.mem_singleton.mp hq]
    exact ⟨pb, F7 _ _ f5 (fun _ z => by cases z), hb6.far kP F7⟩⟩
  generalize upd H6 bd (.dK (mergeK [] [(Sum.inr "", .ref u)])) = H7 at s7 hsl7 hF7 ⊢
  clear F7 hb6 f0 f1 f2 f3 f4 f5 hsl0 hbd0 s6
  have B7 := B.same s7
  have hslb : sl ≠ b := B.ne nsl
  have hslb2 : sl ≠ lb := B.ne2 nsl
  refine ⟨_, rfl, (m : Int), rfl, by omega, by omega, for_range (n := ((m : Nat) : Int).toNat) (fun i σ H' => ∃ (ts : List Addr) (ss : List PStp) (bd : Addr) (qs : List (FR × Addr)) (y6 y7 y8 y9 : Option V), σ = [some (.ref b), some (.ref p), some (.str (S start)), some (.int m), some (.ref sl), some (.ref bd), y6, y7, y8, y9] ∧ ss.length = i ∧ PVal (cutL ls) cs (flStart start) ss ∧ (flRun (cutL ls) (flStart start) ss).1 ≤ ((41 ^ i : Nat) : Int) ∧
    H' sl = some (.lst (ts.map V.ref)) ∧ (ts.length = ss.length ∧ ∀ (i : Nat) (t : Addr) (s : PStp), ts[i]? = some t → ss[i]? = some s → H' t = some (.tup [.str (S s.1), .str (S [s.2.1]), .int s.2.2.1, .int s.2.2.2])) ∧ FloorAt PairN H' bd (flRun (cutL ls) (flStart start) ss).1 qs ∧ qs.map (·.1) = (flRun (cutL ls) (flStart start) ss).2 ∧ Bag H' b lb ∧ But b H H')
    ⟨[], [], bd, _, _, _, _, _, rfl, rfl, trivial, (show (1 : Int) ≤ ((41 ^ 0 : Nat) : Int) by decide), hsl7, ⟨rfl, fun i t s h => by cases h⟩, hF7, rfl, B7, s7.but⟩ ?_ ?_⟩
  · rintro i σ H4 hi ⟨ts, ss, bd, qs, y6, y7, y8, y9, rfl, hl4, val, lim, hsl4, hts, hF4, eqs, B4, b4⟩
    have im : i < m := by
      have : ((m : Nat) : Int).toNat = m := Int.toNat_natCast m
      omega
    obtain ⟨fit, _, cl⟩ := PVal.run hcut (Fit.start hr4 hrf) val ss.length (Nat.le_refl _)
    rw [List.take_length] at fit
    generalize Tr.run (cutL ls) (Tr.start start) ((ss.map stp).take ss.length) = tr at fit cl
    have c0 : (Tr.start start).cuts.length = 0 := rfl
    have lens := fit.len
    have hrun : ∀ s, flRun (cutL ls) (flStart start) (ss ++ [s]) = flStep (cutL ls) (flRun (cutL ls) (flStart start) ss) s := fun s => flRun_app
    have hval := fun (s : PStp) => pval_snoc (s := s) val
    generalize flRun (cutL ls) (flStart start) ss = Fi at lim hF4 eqs fit lens hrun hval
    have qlen : qs.length = Fi.2.length := by rw [← eqs, List.length_map]
    have qne : qs.length ≠ 0 := fun z => fit.tok.ne (by
      rw [← fit.st]
      have : Fi.2 = [] := List.length_eq_zero_iff.mp (by omega)
      rw [this]
      rfl)
    have ek : ((kvF qs).map fun q => kV q.1) = (qs.map fun r => S r.1.1).map V.str := by
      unfold kvF
      rw [List.map_map, List.map_map]
      rfl
    refine ⟨_, rfl, _, rfl, bd, _, rfl, hF4.dict, fun kq nkq => ?_⟩
    have sk := same_upd (o := HO.lst ((kvF qs).map fun q => kV q.1)) nkq
    refine ⟨kq, qs.map fun r => S r.1.1, rfl, SqL.of (by rw [← ek]; exact upd_same), by rw [List.length_map]; omega, fun ys ks hperm _ nks => ?_⟩
    have s7 := sk.trans (same_upd (o := HO.lst (ys.map V.str)) nks)
    have hks : (upd (upd H4 kq (HO.lst ((kvF qs).map fun q => kV q.1))) ks (HO.lst (ys.map V.str))) ks = some (.lst (ys.map V.str)) := upd_same
    have nks0 := none_same sk nks
    generalize upd (upd H4 kq (HO.lst ((kvF qs).map fun q => kV q.1))) ks (HO.lst (ys.map V.str)) = H7 at s7 hks ⊢
    have B7 := B4.same s7
    have nksb : ks ≠ b := B4.ne nks0
    have hyl : ys.length = qs.length := by rw [hperm.length_eq, List.length_map]
    refine ⟨b, lb, .ref ks, ys.map V.str, rfl, B7, .inl ⟨ks, nksb, rfl, SqL.of hks⟩, by rw [List.length_map]; omega, by rw [List.length_map]; omega, fun H8 v hv b8 B8 => ?_⟩
    obtain ⟨y, hy, rfl⟩ := List.mem_map.mp hv
    obtain ⟨r, hr1, rfl⟩ := List.mem_map.mp (hperm.mem_iff.mp hy)
    have b48 : But b H4 H8 := s7.but.trans b8
    have hs8 := (hs.drawn b4).drawn b48
    refine ⟨_, rfl, _, rfl, p, _, _, _, rfl, rfl, SqL.of hs8.top, rfl, b, lb, .str (S cs), cs.map sgn, rfl, B8, .inr (.inr ⟨cs, rfl, rfl⟩), by rw [List.length_map]; exact hC0, by rw [List.length_map]; omega, fun H9 v hv b9 B9 => ?_⟩
    obtain ⟨c, hc, rfl⟩ := List.mem_map.mp hv
    have b49 := b48.trans b9
    refine ⟨_, _, rfl, ?_⟩
    refine ⟨_, rfl, b, lb, rfl, B9, fun HA z t0 m0 bA BA nz zb zl hz h0 h1 h2 => ?_⟩
    have b4A := b49.trans bA
    obtain ⟨xsb, hbb⟩ := B4.la
    have fA : FarL H4 HA := FarL.but hbb b4A
    have hslA := b4A _ _ hslb hsl4
    have hFA := hF4.farL kP fA
    have htsA : ∀ (i : Nat) (t : Addr) (s : PStp), ts[i]? = some t → ss[i]? = some s → HA t = some (.tup [.str (S s.1), .str (S [s.2.1]), .int s.2.2.1, .int s.2.2.2]) := fun i t x h1 h2 => fA _ _ (hts.2 i t x h1 h2) (fun _ z => by cases z)
    clear b8 b9 bA B8 B9 b48 b49 B7 s7 hs8 hks nks0 nksb hv nks sk nkq
    refine ⟨_, rfl, .inl ⟨rfl, _, SqL.of hslA⟩, _, rfl, _, rfl, _, rfl, z, _, _, _, rfl, rfl, SqT.of hz, rfl, _, rfl, z, _, _, _, rfl, rfl, SqT.of hz, rfl, (show 4 ≤ sizeLine by decide), fun tu ntu => ?_⟩
    have s10 := same_upd (o := HO.tup [V.str (S r.1.1), V.str (S [c]), V.int t0, V.int m0]) ntu
    have htu : (upd HA tu (HO.tup [V.str (S r.1.1), V.str (S [c]), V.int t0, V.int m0])) tu = some (HO.tup [V.str (S r.1.1), V.str (S [c]), V.int t0, V.int m0]) := upd_same
    have hsl10 := s10 _ _ hslA
    have hF10 := hFA.same kP s10
    have B10 := BA.same s10
    have b410 := b4A.trans s10.but
    have hts10 : ∀ (i : Nat) (t : Addr) (s : PStp), ts[i]? = some t → ss[i]? = some s → _ := fun i t x h1 h2 => s10 _ _ (htsA i t x h1 h2)
    generalize upd HA tu (HO.tup [V.str (S r.1.1), V.str (S [c]), V.int t0, V.int m0]) = H10 at s10 htu hsl10 hF10 B10 b410 hts10 ⊢
    clear s10 hslA hFA htsA fA b4A BA
    refine ⟨sl, _, _, rfl, rfl, hsl10, by rw [List.length_map, hts.1]; exact sz1 (by omega), ?_⟩
    have e11 : ts.map V.ref ++ [V.ref tu] = (ts ++ [tu]).map V.ref := by
      rw [List.map_append]
      rfl
    rw [e11]
    have hsl11 : (upd H10 sl (.lst ((ts ++ [tu]).map V.ref))) sl = some (.lst ((ts ++ [tu]).map V.ref)) := upd_same
    have k11 : But sl H10 (upd H10 sl (.lst ((ts ++ [tu]).map V.ref))) := fun a o n e => by
      rw [upd_ne n]
      exact e
    have f11 := FarL.but hsl10 k11
    have hF11 := hF10.farL kP f11
    have htu11 := f11 _ _ htu (fun _ z => by cases z)
    have B11 : Bag (upd H10 sl (.lst ((ts ++ [tu]).map V.ref))) b lb := by
      obtain ⟨ns, i', r', m', c', hb', hL', rest⟩ := B10
      exact ⟨ns, i', r', m', c', by rw [upd_ne (Ne.symm hslb)]; exact hb', by rw [upd_ne (Ne.symm hslb2)]; exact hL', rest⟩
    have b011 : But b H (upd H10 sl (.lst ((ts ++ [tu]).map V.ref))) := fun a o n e => by
      rw [upd_ne (ne_of_none e nsl)]
      exact (b4.trans b410) _ _ n e
    have hts11 : ∀ (i : Nat) (t : Addr) (s : PStp), (ts ++ [tu])[i]? = some t → (ss ++ [((r.1.1, c, t0, m0) : PStp)])[i]? = some s → (upd H10 sl (.lst ((ts ++ [tu]).map V.ref))) t = some (.tup [.str (S s.1), .str (S [s.2.1]), .int s.2.2.1, .int s.2.2.2]) := fun j t x h1 h2 => by
      by_cases hj : j < ts.length
      · rw [List.getElem?_append_left hj] at h1
        rw [List.getElem?_append_left (by rw [← hts.1]; exact hj)] at h2
        exact f11 _ _ (hts10 j t x h1 h2) (fun _ z => by cases z)
      · have hj2 : j < ts.length + 1 := by
          have := (List.getElem?_eq_some_iff.mp h1).1
          rwa [List.length_append] at this
        have hj3 : j = ts.length := by omega
        subst hj3
        rw [List.getElem?_append_right (Nat.le_refl _), Nat.sub_self] at h1
        rw [hts.1, List.getElem?_append_right (Nat.le_refl _), Nat.sub_self] at h2
        cases h1
        cases h2
        exact htu11
    have hs11 := hs.drawn b011
    generalize upd H10 sl (.lst ((ts ++ [tu]).map V.ref)) = HB at hsl11 hF11 htu11 B11 b011 hts11 hs11 ⊢
    clear k11 f11 hsl10 hF10 B10 b410 hts10 htu e11
    have nd : (qs.map (·.1.1)).Nodup := by
      have := fit.ok.nd
      rw [← eqs, List.map_map] at this
      exact this
    have hlk := lkQ_of nd hr1
    have hfind : Fi.2.find? (fun x => decide (x.1 = r.1.1)) = some r.1 := by
      have := lkQ_st qs r.1.1
      rw [eqs, hlk] at this
      exact this
    obtain ⟨_, hm1, _⟩ := fit.lk hfind
    have D0 := fit.ok.pos
    have lim2 : Fi.1 * m0 ≤ ((41 ^ (i + 1) : Nat) : Int) := by
      have e1 : Fi.1 * m0 ≤ ((41 ^ i : Nat) : Int) * 41 := Int.le_trans (Int.mul_le_mul_of_nonneg_right lim (by omega)) (Int.mul_le_mul_of_nonneg_left h2 (by omega))
      rw [Nat.pow_succ]
      exact e1
    have lim3 : Fi.1 * m0 < 2 ^ 63 := by
      have e1 : (41 ^ (i + 1) : Nat) ≤ 41 ^ 11 := Nat.pow_le_pow_right (by decide) (by omega)
      have e2 : (41 ^ 11 : Nat) < 2 ^ 63 := by decide
      have e3 : ((41 ^ (i + 1) : Nat) : Int) < ((2 ^ 63 : Nat) : Int) := Int.ofNat_lt.mpr (Nat.lt_of_le_of_lt e1 e2)
      have e4 : ((2 ^ 63 : Nat) : Int) = 2 ^ 63 := by decide
      omega
    have atl : atI ((ts ++ [tu]).map V.ref) (-1) = some (.ref tu) := by
      rw [List.map_append]
      exact atI_end
    have hst := fit.step hcut (s := (r.1.1, c, t0, m0)) hfind h0 h1
    refine ⟨_, rfl, _, rfl, _, rfl, _, rfl, sl, _, _, _, rfl, rfl, SqL.of hsl11, atl, p, lp, b, bd, tu, fs, cs, ls, r.1.1, c, t0, m0, Fi.1, qs, r, rfl, hs11, hl, hcu, hF11, htu11, hlk, (fit.room hm1).1, (fit.room hm1).2, D0, fit.ok.ok _ hm1, h0, h1, lim3, ?_, by omega, fun e => ?_, nd, fun HC d' D' qs' sC hd' hFC eC => ?_⟩
    · have := lens.2 _ hm1
      omega
    · have := fit.fresh hm1 e
      rw [← eqs, List.map_map] at this
      exact this
    · rw [eqs] at eC
      have e1 : D' = (flStep (cutL ls) Fi (r.1.1, c, t0, m0)).1 := congrArg Prod.fst eC
      have e2 : qs'.map (·.1) = (flStep (cutL ls) Fi (r.1.1, c, t0, m0)).2 := congrArg Prod.snd eC
      refine ⟨ts ++ [tu], ss ++ [(r.1.1, c, t0, m0)], d', qs', _, _, _, _, rfl, by rw [List.length_append, hl4]; rfl, hval _ ⟨_, hfind⟩ hc h0 h1 lim3, ?_, sC _ _ hsl11, ⟨by rw [List.length_append, List.length_append, hts.1]; rfl, fun j t x g1 g2 => sC _ _ (hts11 j t x g1 g2)⟩, ?_, ?_, B11.same sC, b011.trans sC.but⟩
      · rw [hrun]
        exact Int.le_trans hst.2.1 lim2
      · rw [hrun, ← e1]
        exact hFC
      · rw [hrun]
        exact e2
  · rintro σ H4 ⟨ts, ss, bd, qs, y6, y7, y8, y9, rfl, hl4, val, lim, hsl4, hts, hF4, eqs, B4, b4⟩
    have im : ss.length ≤ m := by
      have : ((m : Nat) : Int).toNat = m := Int.toNat_natCast m
      omega
    refine ⟨_, rfl, _, rfl, (show 2 ≤ sizeLine by decide), fun q' nq => ?_⟩
    have s5 := same_upd (o := HO.lst [V.ref sl, V.ref bd]) nq
    have nqb : q' ≠ b := B4.ne nq
    refine q _ q' sl bd ts ss qs (b4.trans s5.but) (B4.same s5) ?_ im val ⟨upd_same, s5 _ _ hsl4, ⟨hts.1, fun i t s h1 h2 => s5 _ _ (hts.2 i t s h1 h2)⟩, hF4.same kP s5, eqs, nqb, hslb⟩
    cases e : H q' with
    | none => rfl
    | some o =>
      rw [b4 _ _ nqb e] at nq
      cases nq
end
end FW
namespace FW
open PySem PySem.Spec PyProof.Rows L2
-- more
section
variable {P : Program} {w : World} {K : PySem.W.Frag} {mg : Str → Option Value} {base : Heap}
/-! pairs of texts as data -/
def dP (r : AR) : PyData := .tuple [.str (S r.1), .str (S r.2)]
def dS (s : Stp) : PyData := .tuple [.str (S s.1), .str (S [s.2])]
theorem dp_pair {H : Hp} {q : Addr × AR} (h : H q.1 = some (.tup [.str (S q.2.1), .str (S q.2.2)])) : Dp K H (.ref q.1) (dP q.2) := .tup (SqT.of h) (.cons (.str _) (.cons (.str _) .nil))
theorem dp_pairs {H : Hp} : ∀ {qs : List (Addr × AR)}, PairsAt H qs → DpAll K H (qs.map fun q => V.ref q.1) ((qs.map (·.2)).map dP)
  | [], _ => .nil
  | q :: qs, h => .cons (dp_pair (h q List.mem_cons_self)) (dp_pairs fun x hx => h x (List.mem_cons_of_mem _ hx))
theorem deep_pair (n : Nat) (r : AR) : Deep (n + 1) (dP r) := by
  unfold dP Deep
  refine ⟨by simp, fun d hd => ?_⟩
  simp only [List.mem_cons, List.not_mem_nil, or_false] at hd
  rcases hd with rfl | rfl
  · unfold Deep
    trivial
  · unfold Deep
    trivial
theorem deep_pairs {n : Nat} {l : List AR} : ∀ d ∈ l.map dP, Deep (n + 1) d := fun d hd => by
  obtain ⟨r, _, rfl⟩ := List.mem_map.mp hd
  exact deep_pair n r
theorem dp_steps {H : Hp} : ∀ {ts : List Addr} {ss : List Stp}, StepsAt K H ts ss → DpAll K H (ts.map V.ref) (ss.map dS)
  | [], [], _ => .nil
  | [], _ :: _, h => absurd h.1 (by simp)
  | _ :: _, [], h => absurd h.1 (by simp)
  | t :: ts, s :: ss, h => .cons (.tup (h.2 0 t s rfl rfl) (.cons (.str _) (.cons (.str _) .nil))) (dp_steps ⟨by simpa using h.1, fun i t' s' h1 h2 => h.2 (i + 1) t' s' h1 h2⟩)
theorem eqv_dS (a b : Stp) : PyData.eqv (dS a) (dS b) = decide (a = b) := by
  have := eqv_tupS [a.1, [a.2]] [b.1, [b.2]]
  refine Eq.trans this (decide_eq_decide.mpr ⟨fun h => ?_, fun h => by rw [h]⟩)
  have h1 := (List.cons.inj h).1
  have h2 := (List.cons.inj (List.cons.inj (List.cons.inj h).2).1).1
  exact Prod.ext h1 h2
theorem eqv_steps (ss : List Stp) : PyData.eqv (.list (ss.map dS)) (.list (ss.map dS)) = true := by
  show PyData.eqvAll _ _ = true
  rw [eqvAll_map eqv_dS, decide_eq_true rfl]
theorem strOk_of {l : List Nat} (h : ∀ c ∈ l, c < 1114112) : PyData.strOk (S l) = true := by
  unfold PyData.strOk
  rw [Array.all_eq_true_iff_forall_mem]
  exact fun x hx => decide_eq_true (h x (by
    have : x ∈ (S l).cps.toList := Array.mem_toList_iff.mpr hx
    exact this))
theorem shaped_steps {ss : List Stp} (h : ∀ s ∈ ss, (∀ d ∈ s.1, d < 128) ∧ s.2 < 128) : SeqAt.shaped (.list (ss.map dS)) = true := by
  refine Lay.shaped (n := 2) (.lst fun d hd => ?_) (by decide)
  obtain ⟨s, hs, rfl⟩ := List.mem_map.mp hd
  obtain ⟨h1, h2⟩ := h s hs
  refine .tup fun d hd => ?_
  simp only [List.mem_cons, List.not_mem_nil, or_false] at hd
  rcases hd with rfl | rfl
  · exact .str (strOk_of fun c hc => Nat.lt_trans (h1 c hc) (by decide))
  · refine .str (strOk_of fun c hc => ?_)
    rw [List.mem_singleton.mp hc]
    exact Nat.lt_trans h2 (by decide)
theorem Valid.chr {cut : List Nat → Nat → List Nat} {C F : List Nat} (hcut : ∀ r c, CutR (cut r c) F) (hC : ∀ c ∈ C, c < 128) : ∀ {ss : List Stp} {t : Tr}, t.Ok F → Valid cut C t ss → ∀ s ∈ ss, (∀ d ∈ s.1, d < 128) ∧ s.2 < 128
  | [], _, _, _, _, h => by cases h
  | x :: ss, t, ok, v, s, h => by
    rcases List.mem_cons.mp h with rfl | h
    · refine ⟨fun d hd => ?_, hC _ v.2.1⟩
      cases e : lk t.stand s.1 with
      | none => exact absurd e v.1
      | some r =>
        rcases ok.bit _ (Tr.stand_sub (lk_some e)).1 d hd with rfl | rfl <;> decide
    · exact Valid.chr hcut hC (Tr.step_ok ok hcut v.1).1 v.2.2 s h
def validB (cut : List Nat → Nat → List Nat) (C : List Nat) : Tr → List Stp → Bool
  | _, [] => true
  | t, s :: r => (lk t.stand s.1).isSome && decide (s.2 ∈ C) && validB cut C (t.step cut s) r
theorem validB_ok {cut : List Nat → Nat → List Nat} {C : List Nat} : ∀ {ss : List Stp} {t : Tr}, validB cut C t ss = true → Valid cut C t ss
  | [], _, _ => trivial
  | s :: r, t, h => by
    have h' : ((lk t.stand s.1).isSome && decide (s.2 ∈ C) && validB cut C (t.step cut s) r) = true := h
    simp only [Bool.and_eq_true] at h'
    exact ⟨(fun e => by
      have h1 := h'.1.1
      rw [e] at h1
      cases h1), of_decide_eq_true h'.1.2, validB_ok h'.2⟩
theorem lineAt_w (ls : List LineV) (room : List Nat) (c : Nat) : lineAt ls room c = lineAt ((ls.map (·.2)).map fun w => ((0 : Addr), w)) room c := by
  unfold lineAt
  rw [List.map_map, List.findIdx?_map]
  rfl
theorem cutL_w (ls : List LineV) : cutL ls = cutL ((ls.map (·.2)).map fun w => ((0 : Addr), w)) := by
  funext room c
  unfold cutL
  rw [← lineAt_w]
  cases lineAt ls room c with
  | none => rfl
  | some i =>
    dsimp only
    rw [List.getElem?_map, List.getElem?_map]
    cases ls[i]? <;> rfl
theorem cutL_eq {ls ls' : List LineV} (e : ls'.map (·.2) = ls.map (·.2)) : cutL ls' = cutL ls := by
  rw [cutL_w ls', cutL_w ls, e]
theorem PairsAt.sub {H H' : Hp} {qs : List (Addr × AR)} {l : Addr} {xs : List V} (h : PairsAt H qs) (hl : H l = some (.lst xs)) (s : ∀ a o, H a = some o → a ≠ l → H' a = some o) : PairsAt H' qs := fun q hq => s _ _ (h q hq) (fun z => by
  have := h q hq
  rw [z, hl] at this
  cases this)
/-- a written line is right -/
def wOk (w : W6) (F C : List Nat) : Bool := ((w6L w).all fun p => decide (p.length ≤ 1000)) && bLine w.1 w.2.1 w.2.2.1 w.2.2.2.1 w.2.2.2.2.1 w.2.2.2.2.2 F C
theorem wOk.line {p : Addr} {w : W6} {F C : List Nat} (h : wOk w F C = true) : LineOk (p, w) F C := by
  obtain ⟨h1, h2⟩ := Bool.and_eq_true_iff.mp h
  exact ⟨fun x hx => of_decide_eq_true (List.all_eq_true.mp h1 x hx), h2⟩
/-- what a class of books is asked for when one is made -/
theorem book_made {H1 : Hp} {CB : Addr} {F C : List Nat} {ls : List LineV} {x dx : Addr} {vs : List V} {Qv : VK} {E : XK} (BC : BookC K CB) (b1 : bFaces (.str (S F)) = true) (b2 : bCutters (.str (S C)) = true) (l1 : F.length ≤ 1000) (l2 : C.length ≤ 1000) (hc : (∀ c ∈ F, c < 128) ∧ ∀ c ∈ C, c < 128)
    (at3 : ∀ r ∈ ls, H1 r.1 = some r.tup) (lat : ∀ r ∈ ls, LineOk r F C) (hls : ls.length ≤ 8) (nx : H1 x = none) (ndx : H1 dx = none) (hv : vs = V.ref x :: ([.str (S F), .str (S C)] ++ ls.map fun r => V.ref r.1)) (q : ∀ H', Same H1 H' → BookAt K CB H' x F C ls → Qv .non H') :
    ∃ ws rest, vs = ws ++ rest ∧ ws.length = ["self", "faces", "cutters"].length ∧ rest.length ≤ sizeLine ∧
      ∀ p, (upd (upd H1 dx (.own x)) x (.ins CB dx [])) p = none → sp_Book_init K (ws ++ [V.ref p]) (upd (upd (upd H1 dx (.own x)) x (.ins CB dx [])) p (.tup rest)) Qv E := by
  have hxm : (upd (upd H1 dx (.own x)) x (.ins CB dx [])) x = some (.ins CB dx []) := upd_same
  have sm : Same H1 (upd (upd H1 dx (.own x)) x (.ins CB dx [])) := fun z o hz => (upd_ne (ne_of_none hz nx)).trans ((upd_ne (ne_of_none hz ndx)).trans hz)
  refine ⟨[.ref x, .str (S F), .str (S C)], ls.map fun r => V.ref r.1, hv.trans rfl, rfl, by rw [List.length_map]; exact Nat.le_trans hls (by decide), fun tl ntl => ?_⟩
  have htx : tl ≠ x := fun z => by
    rw [z, hxm] at ntl
    cases ntl
  have st := same_upd (o := HO.tup (ls.map fun r => V.ref r.1)) ntl
  refine ⟨x, CB, dx, tl, F, C, ls, rfl, st _ _ hxm, BC.c, BC.nf, BC.nc, BC.nl, b1, b2, l1, l2, upd_same, ⟨fun r hr => st _ _ (sm _ _ (at3 r hr)), lat, hls⟩, fun H' s' => ?_⟩
  have far : ∀ z o, z ≠ x → (upd (upd (upd H1 dx (.own x)) x (.ins CB dx [])) tl (.tup (ls.map fun r => V.ref r.1))) z = some o → (upd H' x (.ins CB dx (bookF F C tl))) z = some o := fun z o n h => (upd_ne n).trans (s' _ _ h)
  refine q _ (fun z o hz => far z o (ne_of_none hz nx) (st _ _ (sm _ _ hz))) ⟨⟨dx, tl, upd_same, far _ _ htx upd_same⟩, ⟨fun r hr => far _ _ (fun z => ?_) (st _ _ (sm _ _ (at3 r hr))), lat, hls⟩, ⟨l1, l2⟩, hc⟩
  have h3 := at3 r hr
  rw [z, nx] at h3
  cases h3
end
end FW
namespace FW
open PySem PySem.Spec PyProof.Rows L2
/-! ### sorted: tuples of numbers and texts, all of one form, as many as there are -/
def kLt : Key → Key → Bool
  | .inl i, .inl j => decide (i < j)
  | .inl _, .inr _ => true
  | .inr _, .inl _ => false
  | .inr x, .inr y => decide (cl x < cl y)
theorem kLt_irrefl (a : Key) : kLt a a = false := by
  cases a with
  | inl i => exact decide_eq_false (Int.lt_irrefl i)
  | inr x => exact decide_eq_false (List.lt_irrefl _)
theorem kLt_trans : ∀ {a b c : Key}, kLt a b = true → kLt b c = true → kLt a c = true
  | .inl _, .inl _, .inl _, h, k => decide_eq_true (Int.lt_trans (of_decide_eq_true h) (of_decide_eq_true k))
  | .inl _, .inl _, .inr _, _, _ => rfl
  | .inl _, .inr _, .inl _, _, k => by cases k
  | .inl _, .inr _, .inr _, _, _ => rfl
  | .inr _, .inl _, _, h, _ => by cases h
  | .inr _, .inr _, .inl _, _, k => by cases k
  | .inr _, .inr _, .inr _, h, k => decide_eq_true (List.lt_trans (of_decide_eq_true h) (of_decide_eq_true k))
theorem kLt_conn : ∀ {a b : Key}, kLt a b = false → kLt b a = true ∨ a = b
  | .inl i, .inl j, h => by
    have h' : ¬ i < j := of_decide_eq_false h
    rcases Int.lt_or_eq_of_le (show j ≤ i by omega) with z | z
    · exact .inl (decide_eq_true z)
    · exact .inr (by rw [z])
  | .inl _, .inr _, h => by cases h
  | .inr _, .inl _, _ => .inl rfl
  | .inr x, .inr y, h => by
    rcases lt_or (show ¬ cl x < cl y from of_decide_eq_false h) with z | z
    · exact .inl (decide_eq_true z)
    · exact .inr (by rw [cl_inj z])
def lexK : List Key → List Key → Bool
  | [], [] => false
  | [], _ :: _ => true
  | _ :: _, [] => false
  | a :: p, b :: q => if a = b then lexK p q else kLt a b
theorem lexK_irrefl : ∀ p : List Key, lexK p p = false
  | [] => rfl
  | a :: p => by
    show (if a = a then lexK p p else kLt a a) = false
    rw [if_pos rfl, lexK_irrefl p]
theorem lexK_trans : ∀ {p q r : List Key}, lexK p q = true → lexK q r = true → lexK p r = true
  | [], [], _, h, _ => by cases h
  | [], _ :: _, [], _, k => by cases k
  | [], _ :: _, _ :: _, _, _ => rfl
  | _ :: _, [], _, h, _ => by cases h
  | _ :: _, _ :: _, [], _, k => by cases k
  | a :: p, b :: q, c :: r, h, k => by
    have h' : (if a = b then lexK p q else kLt a b) = true := h
    have k' : (if b = c then lexK q r else kLt b c) = true := k
    show (if a = c then lexK p r else kLt a c) = true
    by_cases e : a = b
    · rw [if_pos e] at h'
      subst e
      by_cases f : a = c
      · rw [if_pos f] at k'
        rw [if_pos f]
        exact lexK_trans h' k'
      · rw [if_neg f] at k'
        rw [if_neg f]
        exact k'
    · rw [if_neg e] at h'
      by_cases f : b = c
      · subst f
        rw [if_neg e]
        exact h'
      · rw [if_neg f] at k'
        have t := kLt_trans h' k'
        by_cases g : a = c
        · subst g
          rw [kLt_irrefl] at t
          cases t
        · rw [if_neg g]
          exact t
theorem lexK_conn : ∀ {p q : List Key}, lexK p q = false → lexK q p = true ∨ p = q
  | [], [], _ => .inr rfl
  | [], _ :: _, h => by cases h
  | _ :: _, [], _ => .inl rfl
  | a :: p, b :: q, h => by
    have h' : (if a = b then lexK p q else kLt a b) = false := h
    show (if b = a then lexK q p else kLt b a) = true ∨ _
    by_cases e : a = b
    · rw [if_pos e] at h'
      subst e
      rw [if_pos rfl]
      rcases lexK_conn h' with z | z
      · exact .inl z
      · exact .inr (by rw [z])
    · rw [if_neg e] at h'
      rw [if_neg (Ne.symm e)]
      rcases kLt_conn h' with z | z
      · exact .inl z
      · exact absurd z e
theorem swo_K {α : Type} (k : α → List Key) : SrtO.Swo fun v u => lexK (k v) (k u) := by
  refine ⟨fun x y h => ?_, fun x y z h1 h2 => ?_⟩
  · cases e : lexK (k y) (k x) with
    | false => rfl
    | true =>
      have := lexK_trans h e
      rw [lexK_irrefl] at this
      cases this
  · cases e : lexK (k z) (k x) with
    | false => rfl
    | true =>
      rcases lexK_conn h2 with b | b
      · have b' := lexK_trans b e
        rw [b'] at h1
        cases h1
      · rw [b] at e
        rw [e] at h1
        cases h1
/-- lists in this order are told by their members -/
theorem lexK_uniq {α : Type} {k : α → List Key} {l m : List α} (inj : ∀ a ∈ l, ∀ b ∈ l, k a = k b → a = b) (h1 : l.Pairwise fun x y => lexK (k y) (k x) = false) (h2 : m.Pairwise fun x y => lexK (k y) (k x) = false) (p : l.Perm m) : l = m := by
  refine List.Perm.eq_of_pairwise (le := fun x y => lexK (k y) (k x) = false) (fun a b ha hb g1 g2 => ?_) h1 h2 p
  rcases lexK_conn g1 with z | z
  · rw [z] at g2
    cases g2
  · exact (inj b (p.mem_iff.mpr hb) a ha z).symm
def shpK (ks : List Key) : List Bool := ks.map fun k => match k with | .inl _ => true | .inr _ => false
def IsTupK (h : Heap) (v : Value) (ks : List Key) : Prop := ∃ a o us n, v = .ref a ∧ h.get? a = some o ∧ o.cls = .type "tuple" ∧ o.data = .seq (List.toArray us) n ∧ Vals (ks.map kV) us
theorem IsTupK.keeps {h h' : Heap} {v : Value} {ks : List Key} (p : IsTupK h v ks) (k : ∀ b o, h.get? b = some o → o.cls = .type "tuple" → h'.get? b = some o) : IsTupK h' v ks := by
  obtain ⟨a, o, us, n, e, ho, hc, hd, hv⟩ := p
  exact ⟨a, o, us, n, e, k _ _ ho hc, hc, hd, hv⟩
theorem valsK_int {i : Int} {ks : List Key} {us : List Value} (h : Vals ((Sum.inl i :: ks : List Key).map kV) us) : ∃ t r, us = .int i t :: r ∧ Vals (ks.map kV) r := by
  cases h with
  | cons a b =>
    obtain ⟨t, rfl⟩ := (show L2.RelV (.int i) _ from a)
    exact ⟨t, _, rfl, b⟩
theorem valsK_str {x : Str} {ks : List Key} {us : List Value} (h : Vals ((Sum.inr x :: ks : List Key).map kV) us) : ∃ t r, us = .str x t :: r ∧ Vals (ks.map kV) r := by
  cases h with
  | cons a b =>
    obtain ⟨t, rfl⟩ := (show L2.RelV (.str x) _ from a)
    exact ⟨t, _, rfl, b⟩
theorem valsK_nil {us : List Value} (h : Vals (([] : List Key).map kV) us) : us = [] := by
  cases h
  rfl
section
variable {prog : Program} {w : World} {A : Around} {E : Value → Shared → Prop} {s : Shared}
open SrtO
theorem kat_keys {b : Bool} {Q : Bool → Shared → Prop} : ∀ {ks ls : List Key} {us vs : List Value} {i : Nat}, Vals (ks.map kV) us → Vals (ls.map kV) vs → shpK ks = shpK ls → Q (lexK ks ls) s → PySem.W.KatLex prog w A b false Q (us.zip vs) i s
  | [], [], us, vs, i, hu, hv, _, q => by
    rw [valsK_nil hu]
    exact PySem.W.kat_nil q
  | [], _ :: _, _, _, _, _, _, e, _ => by cases e
  | _ :: _, [], _, _, _, _, _, e, _ => by cases e
  | .inl x :: ks, .inr y :: ls, us, vs, i, hu, hv, e, q => by cases (List.cons.inj e).1
  | .inr x :: ks, .inl y :: ls, us, vs, i, hu, hv, e, q => by cases (List.cons.inj e).1
  | .inl x :: ks, .inl y :: ls, us, vs, i, hu, hv, e, q => by
    obtain ⟨t, us, rfl, hu2⟩ := valsK_int hu
    obtain ⟨u, vs, rfl, hv2⟩ := valsK_int hv
    have q' : Q (if (Sum.inl x : Key) = .inl y then lexK ks ls else decide (x < y)) s := q
    show PySem.W.KatLex prog w A b false Q ((.int x t, .int y u) :: us.zip vs) i s
    refine PySem.W.kat_cons (SeqAt.EqAt.int_int x t y u prog w _ _ ?_)
    refine PySem.W.kat_go (fun e1 => ?_) (fun e1 => ?_)
    · have ex : x = y := by simpa using e1
      rw [if_pos (by rw [ex])] at q'
      exact PySem.W.kat_yes (kat_keys hu2 hv2 (List.cons.inj e).2 q')
    · have ex : ¬ x = y := by simpa using e1
      rw [if_neg (fun z => ex (Sum.inl.inj z))] at q'
      exact PySem.W.kat_no (PyProof.Rows.oneLt_any_int q')
  | .inr x :: ks, .inr y :: ls, us, vs, i, hu, hv, e, q => by
    obtain ⟨t, us, rfl, hu2⟩ := valsK_str hu
    obtain ⟨u, vs, rfl, hv2⟩ := valsK_str hv
    have q' : Q (if (Sum.inr x : Key) = .inr y then lexK ks ls else decide (cl x < cl y)) s := q
    show PySem.W.KatLex prog w A b false Q ((.str x t, .str y u) :: us.zip vs) i s
    refine PySem.W.kat_cons (SeqAt.EqAt.str_str x t y u prog w _ _ ?_)
    refine PySem.W.kat_go (fun e1 => ?_) (fun e1 => ?_)
    · have ex : x = y := by simpa using e1
      rw [if_pos (by rw [ex])] at q'
      exact PySem.W.kat_yes (kat_keys hu2 hv2 (List.cons.inj e).2 q')
    · have ex : ¬ x = y := by simpa using e1
      rw [if_neg (fun z => ex (Sum.inr.inj z))] at q'
      exact PySem.W.kat_no (PyProof.Rows.oneLt_any_str q')
theorem vals_len {xs : List V} {us : List Value} (h : Vals xs us) : us.length = xs.length := h.length.symm
theorem tup_cmpK {vs : List Value} {k : Value → List Key} {sh : List Bool} (hp : ∀ v ∈ vs, IsTupK s.heap v (k v)) (hs : ∀ v ∈ vs, shpK (k v) = sh) : Cmp prog w A s (tuples' true) (fun p => p.1 ∈ vs) (lt2 fun v u => lexK (k v) (k u)) := by
  intro p q hm hm'
  have h1 := hp _ hm
  have h2 := hp _ hm'
  have e1 := hs _ hm
  have e2 := hs _ hm'
  show wpAny (model prog w) A (keyLt' (tuples' true) p.1 q.1) (fun r s' => s' = s ∧ r = lexK (k p.1) (k q.1)) (fun _ _ => False) s
  obtain ⟨a, o, us, n, e, ho, hc, hd, hu⟩ := h1
  obtain ⟨a', o', us', n', e', ho', hc', hd', hu'⟩ := h2
  rw [e, e']
  rw [e] at hu e1
  rw [e'] at hu' e2
  refine PySem.W.kat_lt ho hd ho' hd' ?_
  have hl : us.length = us'.length := by
    have l1 := vals_len hu
    have l2 := vals_len hu'
    have l3 := congrArg List.length (e1.trans e2.symm)
    unfold shpK at l3
    rw [List.length_map] at l1 l2
    rw [List.length_map, List.length_map] at l3
    omega
  have hf : decide ((List.toArray us).size < (List.toArray us').size) = false := decide_eq_false (by
    rw [List.size_toArray, List.size_toArray]
    omega)
  rw [hf]
  exact kat_keys hu hu' (e1.trans e2.symm) ⟨rfl, rfl⟩
theorem firsts_K {h : Heap} {k : Value → List Key} {b : Bool} {sh : List Bool} : ∀ {vs : List Value}, (∀ v ∈ vs, IsTupK h v (k v)) → (∀ v ∈ vs, shpK (k v) = b :: sh) → ∃ fs : List Value, PySem.W.KatTups h vs fs ∧ fs.length = vs.length ∧ ∀ f ∈ fs, if b = true then ∃ x t, f = Value.int x t else ∃ x t, f = Value.str x t
  | [], _, _ => ⟨[], PySem.W.KatTups.nil, rfl, fun _ hm => by simp at hm⟩
  | v :: vs, x, y => by
    obtain ⟨fs, kk, hl, hi⟩ := firsts_K (vs := vs) (fun u hu => x u (List.mem_cons_of_mem _ hu)) (fun u hu => y u (List.mem_cons_of_mem _ hu))
    obtain ⟨a, o, us, n, ev, ho, hc, hd, hv⟩ := x v List.mem_cons_self
    have es := y v List.mem_cons_self
    generalize k v = kv at hv es
    subst ev
    match kv, es, hv with
    | [], es, _ => cases es
    | .inl i :: kr, es, hv =>
      obtain ⟨t, us, rfl, _⟩ := valsK_int hv
      refine ⟨.int i t :: fs, PySem.W.KatTups.cons ho hc hd rfl kk, by rw [List.length_cons, List.length_cons, hl], fun f hf => ?_⟩
      have eb : b = true := (List.cons.inj es).1.symm
      rcases List.mem_cons.mp hf with rfl | hf
      · rw [if_pos eb]
        exact ⟨i, t, rfl⟩
      · exact hi f hf
    | .inr i :: kr, es, hv =>
      obtain ⟨t, us, rfl, _⟩ := valsK_str hv
      refine ⟨.str i t :: fs, PySem.W.KatTups.cons ho hc hd rfl kk, by rw [List.length_cons, List.length_cons, hl], fun f hf => ?_⟩
      have eb : b = false := (List.cons.inj es).1.symm
      rcases List.mem_cons.mp hf with rfl | hf
      · rw [if_neg (by rw [eb]; decide)]
        exact ⟨i, t, rfl⟩
      · exact hi f hf
theorem tups_sortableK {a : Addr} {vs : List Value} {k : Value → List Key} {b : Bool} {sh : List Bool} (h0 : 0 < vs.length) (hp : ∀ v ∈ vs, IsTupK s.heap v (k v)) (hs : ∀ v ∈ vs, shpK (k v) = b :: sh) (ha : ∀ o, s.heap.get? a = some o → o.cls ≠ .type "tuple") : SortableO prog w A s a vs fun v u => lexK (k v) (k u) := by
  intro h' keep
  have hp' : ∀ v ∈ vs, IsTupK h' v (k v) := fun v hm => (hp v hm).keeps fun b o e c => keep b o (fun z => by subst z; exact ha o e c) e
  obtain ⟨fs, h1, h2, h3⟩ := firsts_K hp' hs
  refine ⟨tuples' true, fun Q E hq => ?_, tup_cmpK hp' hs⟩
  cases b with
  | false =>
    refine PySem.W.kat_kind (T := .type "str") h1 (by omega) (fun f hm => ?_) (by rfl) ?_
    · obtain ⟨x, t, rfl⟩ := h3 f hm
      exact PySem.W.Looks.now
    · have e : (Value.type "str" != Value.type "tuple") = true := by first | decide +kernel | rfl | decide
      rw [e]
      exact hq
  | true =>
    refine PySem.W.kat_kind (T := .type "int") h1 (by omega) (fun f hm => ?_) (by rfl) ?_
    · obtain ⟨x, t, rfl⟩ := h3 f hm
      exact PySem.W.Looks.now
    · have e : (Value.type "int" != Value.type "tuple") = true := by first | decide +kernel | rfl | decide
      rw [e]
      exact hq
theorem sorted_tupsK {l : Addr} {vs : List Value} {k : Value → List Key} {b : Bool} {sh : List Bool} {Q : Value → Shared → Prop} (hl : s.heap.IsList l vs.toArray) (hz : vs.length ≤ sizeLine) (hp : ∀ v ∈ vs, IsTupK s.heap v (k v)) (hsh : ∀ v ∈ vs, shpK (k v) = b :: sh)
    (h : ∀ (h' : Heap) (d : Addr) (out : List Value), Srtd (fun v u => lexK (k v) (k u)) out → Stb (fun v u => lexK (k v) (k u)) out vs → (∀ b o, s.heap.get? b = some o → h'.get? b = some o) → s.heap.objs.size ≤ d → (∃ n, h'.get? d = some (seqObj "list" out.toArray n)) → Q (.ref d) { s with heap := h' }) :
    wpAny (model prog w) A (call (.builtin "sorted") [.ref l]) Q E s := by
  refine sorted_ord (swo_K k) hl hz (fun h2 h₁ a ha kk => ?_) fun out hs hb => ?_
  · refine tups_sortableK (s := { s with heap := h₁ }) (by omega) (fun v hm => (hp v hm).keeps fun b o e _ => (kk b o e).2) hsh fun o e => ?_
    have e' : some o = some (seqObj "list" vs.toArray 0) := e.symm.trans ha
    cases e'
    intro c
    exact absurd (Value.type.inj c) (by decide)
  · exact h _ _ out hs hb (fun b o e => sortedAll_old e) (Nat.le_succ _) (sortedAll_at s.heap vs out.toArray)
end
/-- sorted(xs), xs a list of tuples of one form (k says which) -/
def rSortedTK (K : PySem.W.Frag) : List V → Hp → VK → Prop := fun vs H Q => ∃ (a : Addr) (xs : List V) (k : V → List Key) (b : Bool) (sh : List Bool), vs = [V.ref a] ∧ SqL K H a xs ∧ (∀ x ∈ xs, shpK (k x) = b :: sh ∧ ∃ t, x = V.ref t ∧ H t = some (.tup ((k x).map kV))) ∧
  ∀ ys p, ys.Pairwise (fun x y => lexK (k y) (k x) = false) → ys.Perm xs → H p = none → Q (.ref p) (upd H p (.lst ys))
section
variable {X : Cx}
theorem cr_sortedTK : CallR X (.builtin "sorted") (rSortedTK X.K) := by
  intro pins s σ H vs us Q I r h
  obtain ⟨a, xs, k, b, sh, rfl, hs, hx, q⟩ := h
  obtain ⟨its, rv, hl, hz⟩ := I.list hs
  obtain ⟨u, rfl, ru⟩ := vals1 r
  obtain rfl : u = Value.ref a := ru
  obtain ⟨e1, e2⟩ := refs_back rv fun x m => by
    obtain ⟨_, t, e, _⟩ := hx x m
    exact ⟨t, e⟩
  have hm : ∀ v ∈ its, ∃ t, v = Value.ref t ∧ V.ref t ∈ xs := fun v hv => by
    obtain ⟨t, rfl⟩ := e2 v hv
    exact ⟨t, rfl, by rw [e1]; exact List.mem_map.mpr ⟨_, hv, rfl⟩⟩
  refine sorted_tupsK (k := fun u => k (backV u)) (b := b) (sh := sh) hl.isList (by rw [← rv.length]; exact hz) (fun v hv => ?_) (fun v hv => ?_) fun h' d out h1 h2 kp hd hn => ?_
  · obtain ⟨t, rfl, hm⟩ := hm v hv
    obtain ⟨_, t', e, ht⟩ := hx _ hm
    cases e
    obtain ⟨_, its2, r2, o, ho, hc, n, hd⟩ := I.hok _ _ ht
    exact ⟨t, o, its2, n, rfl, ho, hc, hd, r2⟩
  · obtain ⟨t, rfl, hm⟩ := hm v hv
    exact (hx _ hm).1
  · have h3 : ∀ u ∈ out, ∃ a, u = Value.ref a := fun u hu => e2 u (h2.perm.mem_iff.mp hu)
    obtain ⟨n, hn⟩ := hn
    have hb : SrtO.Stb (fun x y => lexK (k x) (k y)) (out.map backV) xs := by
      rw [e1]
      exact SrtO.Stb.map (swo_K k) backV h2
    refine ⟨.ref d, upd H d (.lst (out.map backV)), I.laid (t' := s.toks) kp hd ⟨?_, out, n, vals_back h3, hn⟩, rfl, q _ d (SrtO.srtd_map (lt := fun x y => lexK (k x) (k y)) h1) hb.perm (I.hok.fresh hd)⟩
    rw [hb.len]
    exact hz
end
/-! rows of the heap: tuples by what they hold -/
def toKey : V → Option Key
  | .int i => some (.inl i)
  | .str x => some (.inr x)
  | _ => none
def tkOf (H : Hp) : V → List Key
  | .ref a => match H a with
    | some (.tup xs) => xs.filterMap toKey
    | _ => []
  | _ => []
theorem filterMap_kV : ∀ ks : List Key, (ks.map kV).filterMap toKey = ks
  | [] => rfl
  | .inl i :: ks => by
    show Sum.inl i :: (ks.map kV).filterMap toKey = _
    rw [filterMap_kV ks]
  | .inr x :: ks => by
    show Sum.inr x :: (ks.map kV).filterMap toKey = _
    rw [filterMap_kV ks]
theorem tkOf_tup {H : Hp} {a : Addr} {ks : List Key} (h : H a = some (.tup (ks.map kV))) : tkOf H (.ref a) = ks := by
  unfold tkOf
  dsimp only
  rw [h]
  exact filterMap_kV ks
theorem perm_mapX {α β : Type} (f : α → β) : ∀ {ys : List β} {st : List α}, ys.Perm (st.map f) → ∃ so : List α, so.Perm st ∧ so.map f = ys
  | [], st, h => by
    have := h.length_eq
    rw [List.length_map] at this
    cases st with
    | nil => exact ⟨[], .refl _, rfl⟩
    | cons a l => cases this
  | y :: ys, st, h => by
    obtain ⟨r, hr, e⟩ := List.mem_map.mp (h.mem_iff.mp List.mem_cons_self)
    obtain ⟨a, b, rfl⟩ := List.append_of_mem hr
    have h2 : (y :: ys).Perm (y :: (a ++ b).map f) := h.trans (by
      rw [← e]
      exact (List.perm_middle (a := r) (l₁ := a) (l₂ := b)).map f)
    obtain ⟨so, p, m⟩ := perm_mapX f (List.Perm.cons_inv h2)
    exact ⟨r :: so, (p.cons r).trans List.perm_middle.symm, by rw [List.map_cons, e, m]⟩
theorem rows_form {α : Type} {H : Hp} {ts : List (Addr × α)} {kt : α → List Key} {b : Bool} {sh : List Bool} (hts : ∀ q ∈ ts, H q.1 = some (.tup ((kt q.2).map kV))) (hsh : ∀ a, shpK (kt a) = b :: sh) :
    ∀ x ∈ ts.map fun q : Addr × α => V.ref q.1, shpK (tkOf H x) = b :: sh ∧ ∃ t, x = V.ref t ∧ H t = some (.tup ((tkOf H x).map kV)) := fun x hx => by
  obtain ⟨q, hq, rfl⟩ := List.mem_map.mp hx
  have h := hts q hq
  rw [tkOf_tup h]
  exact ⟨hsh _, q.1, rfl, h⟩
theorem rows_sorted {α : Type} {H : Hp} {ts : List (Addr × α)} {kt : α → List Key} (hts : ∀ q ∈ ts, H q.1 = some (.tup ((kt q.2).map kV))) {ys : List V} (p : ys.Perm (ts.map fun q : Addr × α => V.ref q.1)) (s : ys.Pairwise fun x y => lexK (tkOf H y) (tkOf H x) = false) :
    ∃ so : List (Addr × α), ys = so.map (fun q : Addr × α => V.ref q.1) ∧ so.Perm ts ∧ (so.map (·.2)).Pairwise (fun x y => lexK (kt y) (kt x) = false) := by
  obtain ⟨so, p1, e⟩ := perm_mapX (fun q : Addr × α => V.ref q.1) p
  refine ⟨so, e.symm, p1, List.pairwise_map.mpr ?_⟩
  rw [← e] at s
  refine (List.pairwise_map.mp s).imp_of_mem fun {x y} hx hy h => ?_
  rw [tkOf_tup (hts x (p1.mem_iff.mp hx)), tkOf_tup (hts y (p1.mem_iff.mp hy))] at h
  exact h
end FW
namespace FW
open PySem PySem.Spec PyProof.Rows L2
/-! ### d.setdefault(k, v), the keys tuples -/
section
variable {X : Cx} {pins : List (Addr × Obj)} {σ : L2.St} {H : Hp} {s : Shared} {a b : Addr} {r : Value} {d : V} {k : List Key} {A : Around} {E : Value → Shared → Prop}
theorem d_setdT {kvs : List (List Key × V)} {Q : Value → Shared → Prop} (hu : A.units + 1 < cLine) (I : Inv X pins σ H s) (e : H a = some (.dT kvs)) (eb : H b = some (.tup (k.map kV))) (rd : L2.RelV d r) (hl : kvs.length < sizeLine)
    (h1 : ∀ v, valV kvs k = some v → ∀ (w' : Value) (s' : Shared), Inv X pins σ H s' → L2.RelV v w' → Q w' s') (h2 : valV kvs k = none → ∀ (w' : Value) (s' : Shared), Inv X pins σ (upd H a (.dT (putK kvs k d))) s' → L2.RelV d w' → Q w' s') :
    wpAny (model X.prog X.w) A (call (.builtin "dict.setdefault") [.ref a, .ref b, r]) Q E s := by
  obtain ⟨z, hd, xs, rel, dd⟩ := dt_of I.hok e
  have hz : xs.length ≤ sizeLine := by
    rw [← Paired.length rel]
    exact z
  have hk := rel.val k
  refine call_setdefault_heap (hsz := hz) (tupleKind_room_in1 hu) (key_of I.hok eb) hd dd (fun p hp => ?_) fun hn h' dd' hs => ?_
  · rw [hp] at hk
    cases q0 : valV kvs k with
    | none =>
      rw [q0] at hk
      exact (show False from hk).elim
    | some v0 =>
      rw [q0] at hk
      exact h1 v0 q0 _ _ (I.tok _) hk
  · rw [hn] at hk
    cases q0 : valV kvs k with
    | some v0 =>
      rw [q0] at hk
      exact (show False from hk).elim
    | none =>
      have hl2 : (putK kvs k d).length ≤ sizeLine := by
        have := length_putK kvs k d
        omega
      obtain ⟨q, es, ep, hq, h2', h3, h4, _, h5⟩ := dd'
      refine h2 q0 _ _ (d_write I (by rw [e]; exact True.intro) hs ⟨q, hq⟩ ⟨hl2, hd, _, (rel.put k eb rd).keeps fun c ys ec => ?_, q, es, ep, hq, h2', h3, h4, h5⟩) rd
      rw [upd_ne (ne_of ec e (fun z => nomatch z))]
      exact ec
end
def tDSetdT (td ty tx : TE) : TE := fun σ H Q => td σ H fun x H1 => ∃ a, x = .ref a ∧ IsD H1 a ∧ ty σ H1 fun y H2 => tx σ H2 fun z H3 => ∃ (kvs : List (List Key × V)) (k : List Key) (b : Addr), H3 a = some (.dT kvs) ∧ y = .ref b ∧ H3 b = some (.tup (k.map kV)) ∧ kvs.length < sizeLine ∧
  (∀ v, valV kvs k = some v → Q v H3) ∧ (valV kvs k = none → Q z (upd H3 a (.dT (putK kvs k z))))
section
variable {X : Cx} {o e f : Expr} {td ty tx : TE} {apos cpos : Pos}
theorem pe_dsetdT (hu : X.A.units + 1 < cLine) (ho : PE X o td) (he : PE X e ty) (hf : PE X f tx) (m : M2 X o "setdefault" apos e f cpos) : PE X (.Call (.Attribute o "setdefault" apos) [e, f] [] cpos) (tDSetdT td ty tx) := by
  refine ⟨fun pins s σ H Q I h => ?_⟩
  refine wpAny_Call_method m.base m.few m.line PySem.F.plainAttrs_dict PySem.F.slot_dict_setdefault PySem.F.type_dict_setdefault (thn (ho.run pins s σ H _ I h) fun u s1 ⟨x, H1, I1, rx, a, ex, d, q1⟩ => ?_)
  subst ex
  obtain rfl : u = Value.ref a := rx
  obtain ⟨t1, t2, _⟩ := isD_at I1 d
  refine ⟨t1, t2, ?_⟩
  rw [m.trees]
  refine Calls.callWith_builtin rfl (Calls.evalArgs_plain (Calls.spliced_cons (thn (he.run pins s1 σ H1 _ I1 q1) fun iv s2 ⟨y, H2, I2, ry, q2⟩ =>
    Calls.spliced_cons (thn (hf.run pins s2 σ H2 _ I2 q2) fun fv s3 ⟨z, H3, I3, rz, kvs, k, b, ea, ey, eb, hl, q3, q4⟩ => Calls.spliced_nil ?_))))
  subst ey
  obtain rfl : iv = Value.ref b := ry
  exact d_setdT hu I3 ea eb rz hl (fun v hv w' s4 I4 rw' => ⟨v, _, I4, rw', q3 v hv⟩) fun hn w' s4 I4 rw' => ⟨z, _, I4, rw', q4 hn⟩
end
end FW
namespace FW
open PySem PySem.Spec PyProof.Rows L2
-- more
section
variable {P : Program} {w : World} {K : PySem.W.Frag} {mg : Str → Option Value} {base : Heap}
abbrev s_Ratio_is_below : Stmt := inCls (topS 31) 1
theorem sc_Ratio_is_below : FnScope ["self", "other"] ["self", "other"] (defScope s_Ratio_is_below) := ⟨rfl, rfl, rfl, by decide +kernel, rfl, by decide +kernel, by decide +kernel⟩
def sp_Ratio_is_below (K : PySem.W.Frag) (CR : Addr) : Sp := fun vs H Q _ => ∃ (x y : Addr) (a b c d : Int), vs = [.ref x, .ref y] ∧ RatAt CR H x a b ∧ RatAt CR H y c d ∧ Sm a ∧ Sm b ∧ Sm c ∧ Sm d ∧ Q (.bl (decide (a * d < c * b))) H
theorem ok_Ratio_is_below {f CR : Addr} {fd : FuncData} (F : Fun K "is_below" "Ratio.is_below" s_Ratio_is_below f fd) (RC : RatC K CR) : FnOk P w K mg base CX0 1 f fd ["self", "other"] (sp_Ratio_is_below K CR) := by
  refine F.ok sc_Ratio_is_below (fun vs H Q E h => ?_) (fun cdv A outer s H vs Q E hr h => ?_)
  · obtain ⟨x, y, a, b, c, d, rfl, _⟩ := h
    rfl
  obtain ⟨x, y, a, b, c, d, rfl, ⟨dx, hx⟩, ⟨dy, hy⟩, sa, sb, sc, sd, q⟩ := h
  refine ⟨_, (pss_one (ps_ret (pe_cmpR op_lt (pe_op op_mul (pe_fld (pv 0) rfl) (pe_fld (pv 1) rfl)) (pe_op op_mul (pe_fld (pv 1) rfl) (pe_fld (pv 0) rfl)) (nomark _)))), ?_⟩
  exact ⟨_, rfl, x, CR, dx, _, _, rfl, hx, RC.c, RC.nt, rfl, _, rfl, y, CR, dy, _, _, rfl, hy, RC.c, RC.nb, rfl, _, _, rfl, rfl, (sa.mul sd).1, _, rfl, y, CR, dy, _, _, rfl, hy, RC.c, RC.nt, rfl, _, rfl, x, CR, dx, _, _, rfl, hx, RC.c, RC.nb, rfl, _, _, rfl, rfl, (sc.mul sb).1, _, _, rfl, rfl, q⟩
abbrev s__law_below : Stmt := topS 81
theorem sc__law_below : FnScope ["_law_one", "_law_other"] ["_law_one", "_law_other"] (defScope s__law_below) := ⟨rfl, rfl, rfl, by decide +kernel, rfl, by decide +kernel, by decide +kernel⟩
def sp__law_below : Sp := fun vs H Q _ => ∃ (p q : Addr) (a b c d : Int), vs = [.ref p, .ref q] ∧ H p = some (tupI a b) ∧ H q = some (tupI c d) ∧ Sm a ∧ Sm b ∧ Sm c ∧ Sm d ∧ Q (.bl (decide (a * d < c * b))) H
theorem ok__law_below {f : Addr} {fd : FuncData} (F : Fun K "_law_below" "_law_below" s__law_below f fd) : FnOk P w K mg base CX0 1 f fd ["_law_one", "_law_other"] sp__law_below := by
  refine F.ok sc__law_below (fun vs H Q E h => ?_) (fun cdv A outer s H vs Q E hr h => ?_)
  · obtain ⟨p, q, a, b, c, d, rfl, _⟩ := h
    rfl
  obtain ⟨p, q', a, b, c, d, rfl, hp, hq, sa, sb, sc, sd, q⟩ := h
  refine ⟨_, (pss_one (ps_ret (pe_cmpR op_lt (pe_op op_mul (pe_ix ix_tup (pv 0) pe_int (fun _ _ => rfl)) (pe_ix ix_tup (pv 1) pe_int (fun _ _ => rfl))) (pe_op op_mul (pe_ix ix_tup (pv 1) pe_int (fun _ _ => rfl)) (pe_ix ix_tup (pv 0) pe_int (fun _ _ => rfl))) (nomark _)))), ?_⟩
  have tp : SqT K H p [V.int a, .int b] := SqT.of hp
  have tq : SqT K H q' [V.int c, .int d] := SqT.of hq
  exact ⟨_, rfl, p, _, _, _, rfl, rfl, tp, rfl, _, rfl, q', _, _, _, rfl, rfl, tq, rfl, _, _, rfl, rfl, (sa.mul sd).1, _, rfl, q', _, _, _, rfl, rfl, tq, rfl, _, rfl, p, _, _, _, rfl, rfl, tp, rfl, _, _, rfl, rfl, (sc.mul sb).1, _, _, rfl, rfl, q⟩
end
end FW
namespace FW
open PySem PySem.Spec PyProof.Rows L2
-- more
section
variable {P : Program} {w : World} {K : PySem.W.Frag} {mg : Str → Option Value} {base : Heap}
theorem perm_map_ex {α β : Type} (f : α → β) : ∀ {ys : List β} {st : List α}, ys.Perm (st.map f) → ∃ so : List α, so.Perm st ∧ so.map f = ys
  | [], st, h => by
    have := h.length_eq
    rw [List.length_map] at this
    cases st with
    | nil => exact ⟨[], .refl _, rfl⟩
    | cons a l => cases this
  | y :: ys, st, h => by
    obtain ⟨r, hr, e⟩ := List.mem_map.mp (h.mem_iff.mp List.mem_cons_self)
    obtain ⟨a, b, rfl⟩ := List.append_of_mem hr
    have h2 : (y :: ys).Perm (y :: (a ++ b).map f) := h.trans (by
      rw [← e]
      exact (List.perm_middle (a := r) (l₁ := a) (l₂ := b)).map f)
    obtain ⟨so, p, m⟩ := perm_map_ex f (List.Perm.cons_inv h2)
    exact ⟨r :: so, (p.cons r).trans List.perm_middle.symm, by rw [List.map_cons, e, m]⟩
/-- the rooms of a floor, ascending -/
def AscF (so st : List FR) : Prop := so.Perm st ∧ so.Pairwise (fun x y => x.1 < y.1)
theorem ascF_uniq {l l' m : List FR} (h : AscF l m) (h' : AscF l' m) : l = l' :=
  List.Perm.eq_of_pairwise (le := fun x y : FR => x.1 < y.1) (fun a b _ _ h1 h2 => absurd (List.lt_trans h1 h2) (List.lt_irrefl _)) h.2 h'.2 (h.1.trans h'.1.symm)
theorem fl_sorted {st : List FR} (nd : (st.map (·.1)).Nodup) {ys : List Str} (pm : ys.Perm (st.map fun r => S r.1)) (hs : PyProof.Rows.sortedS ys = true) : ∃ so, ys = so.map (fun r : FR => S r.1) ∧ AscF so st := by
  obtain ⟨so, p, m⟩ := perm_map_ex (fun r : FR => S r.1) pm
  refine ⟨so, m.symm, p, ?_⟩
  have h1 := sortedS_pw hs
  rw [← m] at h1
  have h3 : so.Pairwise (fun x y : FR => ¬ y.1 < x.1) := List.pairwise_map.mp h1
  have h4 : so.Pairwise (fun x y : FR => x.1 ≠ y.1) := List.pairwise_map.mp (show (so.map fun r : FR => r.1).Nodup from (p.map (fun r : FR => r.1)).nodup_iff.mpr nd)
  exact (h3.and h4).imp fun ⟨a, b⟩ => (lt_or a).elim id fun e => absurd e.symm b
/-! a walk through a floor -/
abbrev viewAD : Str := "AD"
/-- A goes through the rooms along their north and south, D along their west and east -/
def nearV (v : Bool) (x : IB) : Int := if v = true then x.n else x.w
def farV (v : Bool) (x : IB) : Int := if v = true then x.s else x.e
def viewS (v : Bool) : Str := if v = true then "A" else "D"
def shutW (v : Bool) (D t b : Int) (x : IB) : Bool := decide ((low (nearV v x) D).1 = t ∧ (low (nearV v x) D).2 = b)
def metW (v : Bool) (D t b : Int) (x : IB) : Bool := decide ((low (nearV v x) D).1 * b < t * (low (nearV v x) D).2) && decide (t * (low (farV v x) D).2 < (low (farV v x) D).1 * b)
def walkW (v : Bool) (D t b : Int) (so : List FR) : List (List Nat) := (so.filter fun r => metW v D t b r.2.2).map (·.1)
/-- what the table of the sides says -/
structure SidesT (K : PySem.W.Frag) (w : World) (mg : Str → Option Value) (sX tA tD : Addr) : Prop where
  g : mg "_SIDES" = some (.ref sX)
  a : KDct K w sX "A" (.ref tA)
  d : KDct K w sX "D" (.ref tD)
  sa : ∀ H, SqT K H tA [.int 1, .int 3]
  sd : ∀ H, SqT K H tD [.int 0, .int 2]
theorem sidesAt {K : PySem.W.Frag} {w : World} {mg : Str → Option Value} {sX tA tD : Addr} (SX : SidesT K w mg sX tA tD) (v : Bool) : ∃ tX : Addr, KDct K w sX (viewS v) (.ref tX) ∧ ∀ H, SqT K H tX [.int (if v = true then 1 else 0), .int (if v = true then 3 else 2)] := by
  cases v with
  | true => exact ⟨tA, SX.a, SX.sa⟩
  | false => exact ⟨tD, SX.d, SX.sd⟩
theorem box_near {N : NumP} {H : Hp} {D : Int} {x : IB} {w n e s : Addr} (h : BoxV N H D x w n e s) (v : Bool) : ∃ p : Addr, atI [V.ref w, .ref n, .ref e, .ref s] (if v = true then 1 else 0) = some (.ref p) ∧ N H p (low (nearV v x) D).1 (low (nearV v x) D).2 := by
  cases v with
  | true => exact ⟨n, rfl, h.2.1⟩
  | false => exact ⟨w, rfl, h.1⟩
theorem box_far {N : NumP} {H : Hp} {D : Int} {x : IB} {w n e s : Addr} (h : BoxV N H D x w n e s) (v : Bool) : ∃ p : Addr, atI [V.ref w, .ref n, .ref e, .ref s] (if v = true then 3 else 2) = some (.ref p) ∧ N H p (low (farV v x) D).1 (low (farV v x) D).2 := by
  cases v with
  | true => exact ⟨s, rfl, h.2.2.2⟩
  | false => exact ⟨e, rfl, h.2.2.1⟩
theorem near_bd {D : Int} {x : IB} (o : x.Ok D) (v : Bool) : 0 ≤ nearV v x ∧ nearV v x < farV v x ∧ farV v x ≤ D := by
  cases v with
  | true => exact ⟨o.n0, o.ns, o.s1⟩
  | false => exact ⟨o.w0, o.we, o.e1⟩
abbrev s_walk_in : Stmt := topS 43
theorem sc_walk_in : FnScope ["floor", "view", "at", "low", "high", "row", "address", "box"] ["floor", "view", "at"] (defScope s_walk_in) := ⟨rfl, rfl, rfl, by decide +kernel, rfl, by decide +kernel, by decide +kernel⟩
def sp_walk_in (K : PySem.W.Frag) (CR CI : Addr) : Sp := fun vs H Q E => ∃ (d : Addr) (D : Int) (qs : List (FR × Addr)) (v : Bool) (at_ : V), vs = [.ref d, .str (viewS v), at_] ∧ FloorAt (RatAt CR) H d D qs ∧ (qs.map (·.1.1)).Nodup ∧ qs.length ≤ 1000 ∧ (∀ q ∈ qs, q.1.2.2.Ok D) ∧ 0 < D ∧ D < 2 ^ 63 ∧
  (((∃ t, TyX K H at_ t ∧ PySem.W.kitOne K t (.ref CR) = some false) ∧ ∀ H' d, Same H H' → H' d = none → E (.ref CI) (some d) (upd H' d (Err1 "given" "InvalidRatio" at_))) ∨
   ∃ (z : Addr) (t b : Int), at_ = .ref z ∧ RatAt CR H z t b ∧ Sm t ∧ Sm b ∧
    ((0 < t ∧ t < b ∧ ∀ q ∈ qs, shutW v D t b q.1.2.2 = false) → ∀ H' p so, Same H H' → H p = none → AscF so (qs.map (·.1)) → H' p = some (.lst ((walkW v D t b so).map fun a => V.str (S a))) → Q (.ref p) H') ∧
    (¬ (0 < t ∧ t < b ∧ ∀ q ∈ qs, shutW v D t b q.1.2.2 = false) → ∀ H' d, Same H H' → H' d = none → E (.ref CI) (some d) (upd H' d (Err1 "given" "InvalidRatio" at_))))
theorem okx_walk_in {f CR CI fI fR sX tA tD : Addr} {fd fdI fdR : FuncData} {dsR : List Value} (F : Fun K "walk_in" "walk_in" s_walk_in f fd) (T : Z mg) (SX : SidesT K w mg sX tA tD) (RC : RatC K CR) (RE : BookE K CR) (gR : mg "Ratio" = some (.ref CR)) (MR : Mk K CR fR) (FRI : FnOk P w K mg base CX0 2 fR fdR ["self", "top", "bottom"] (sp_Ratio_init K CR)) (bR1 : Binds K fdR ["self", "top", "bottom"] dsR) (vR1 : Vals [V.int 1] dsR)
    (o_eq : OwnE P w K mg base CR 1 (sp_Ratio_eq K CR)) (c_is_below : MCal P w K mg base CX0 CR 1 "is_below" ["self", "other"] (sp_Ratio_is_below K CR))
    (TI : Kls K mg CI fI "InvalidRatio") (nI : PySem.W.findIn K (.ref CI) (Str.ofString "given") = some none) (FI : FnOk P w K mg base CX0 1 fI fdI ["self", "given"] (sp_init K "given")) (bI : Binds K fdI ["self", "given"] []) :
    FnOk P w K mg base (L2.CX P w) 4 f fd ["floor", "view", "at"] (sp_walk_in K CR CI) := by
  refine F.okX sc_walk_in (fun vs H Q E h => ?_) (fun cdv A outer s H vs Q E hr h => ?_)
  · obtain ⟨d, D, qs, v, at_, rfl, _⟩ := h
    rfl
  obtain ⟨d, D, qs, v, at_, rfl, hF, nd, ql, oks, D0, sD, h⟩ := h
  refine ⟨_, (pss_cons (ps_if (PW.pt (pw_or (pt_not (pt_val (pe_callB call_isi (by rfl) T.z_isinstance (by decide +kernel) (pa_cons (pv 2) (pa_cons (pe_glob (v := .ref CR) rfl gR rfl) pa_nil))))) (pw_or (pt_not (pt_val (pe_m c_is_below RC.c hr (by decide) (pe_make MR FRI (hr.mono (by decide)) (by rfl) gR bR1 vR1 pass0 (pa_cons pe_int pa_nil)) (pa_cons (pv 2) pa_nil)))) (pw_or1 (pt_not (pt_val (pe_m c_is_below RC.c hr (by decide) (pv 2) (pa_cons (pe_make MR FRI (hr.mono (by decide)) (by rfl) gR bR1 vR1 pass0 (pa_cons pe_int pa_nil)) pa_nil)))))))) (pss_one (ps_raise rfl (takes_of rfl rfl rfl rfl) (pmk_oex TI.oex TI.init TI.tI FI (hr.mono (by decide)) bI .nil pass0 (by rfl) TI.g (pa_cons (pv 2) pa_nil)))) pss_nil)
    (pss_cons (ps_asg (pe_ix ix_kdict (pe_glob (v := .ref sX) rfl SX.g rfl) (pv 1) (fun _ _ => rfl)) (pg_tup rfl (pgs_cons (pg_name (i := 3) sc_walk_in.nd rfl (.inl rfl)) (pgs_cons (pg_name (i := 4) sc_walk_in.nd rfl (.inl rfl)) pgs_nil))))
    (pss_cons (ps_set (i := 5) sc_walk_in.nd rfl (.inl rfl) (pe_lst pa_nil))
    (pss_cons (ps_for (passes_of rfl) rfl (pi_list (pe_callB cr_sortedSA (by rfl) T.z_sorted (by decide +kernel) (pa_cons (pe_callTy (call_list_dK rfl) (by rfl) T.z_list (by decide +kernel) (pa_cons (pv 0) pa_nil)) pa_nil))) (pg_name (i := 6) sc_walk_in.nd rfl (.inl rfl))
      (pss_cons (ps_set (i := 7) sc_walk_in.nd rfl (.inl rfl) (pe_ix ix_tup (pe_dget (hu_of hr) (pv 0) (pv 6) (fun _ _ => rfl)) pe_int (fun _ _ => rfl)))
      (pss_cons (ps_if (pt_cmpR (op_eqO o_eq hr (by decide)) (pe_ix ix_tup (pv 7) (pv 3) (fun _ _ => rfl)) (pv 2) (nomark _)) (pss_one (ps_raise rfl (takes_of rfl rfl rfl rfl) (pmk_oex TI.oex TI.init TI.tI FI (hr.mono (by decide)) bI .nil pass0 (by rfl) TI.g (pa_cons (pv 2) pa_nil)))) pss_nil)
      (pss_one (ps_if (PW.pt (pw_and (pt_val (pe_m c_is_below RC.c hr (by decide) (pe_ix ix_tup (pv 7) (pv 3) (fun _ _ => rfl)) (pa_cons (pv 2) pa_nil))) (pw_and1 (pt_val (pe_m c_is_below RC.c hr (by decide) (pv 2) (pa_cons (pe_ix ix_tup (pv 7) (pv 4) (fun _ _ => rfl)) pa_nil)))))) (pss_one (ps_expr (pe_bm PySem.F.plainAttrs_list PySem.F.slot_list_append PySem.F.type_list_append mt_append (pv 5) (pa_cons (pv 6) pa_nil)))) pss_nil)))))
    (pss_one (ps_ret (pv 5))))))), ?_⟩
  have kR := RatAt.k CR
  rcases h with ⟨⟨ty, hty, hk⟩, q⟩ | ⟨z, t, b, rfl, hz, st, sb, qg, qb⟩
  · refine ⟨_, rfl, _, _, _, _, false, rfl, .own _, hty, hk, false, rfl, iteT (iteT ?_)⟩
    refine ⟨_, rfl, mk1 TI nI fun dd hdd => ?_⟩
    exact q _ dd (Same.refl _) hdd
  have hzr := hz
  obtain ⟨dz, hz'⟩ := hz
  refine ⟨_, rfl, _, _, _, _, true, rfl, .own _, .base (.ins hz' RC.c RE.ca RE.cn RE.ct RE.cm), RE.kit, true, rfl, iteF ?_⟩
  refine fun z0 d0 nz0 nd0 hz0 => ratio_made nz0 nd0 hz0 (by decide) (by decide) fun H0 s0 R0 => ⟨rfl, ?_⟩
  rw [show low 0 1 = (0, 1) from by decide] at R0
  obtain ⟨dx0, hx0⟩ := R0
  refine ⟨z0, dx0, _, rfl, hx0, rfl, _, rfl, z0, z, _, _, t, b, rfl, ⟨dx0, hx0⟩, hzr.same s0, (show Sm 0 by unfold Sm; decide), (show Sm 1 by unfold Sm; decide), st, sb, _, rfl, ?_⟩
  rw [show decide ((0, 1).1 * b < t * (0, 1).2) = decide (0 < t) from decide_eq_decide.mpr (by show 0 * b < t * 1 ↔ 0 < t; omega)]
  by_cases ht : 0 < t
  case neg =>
    rw [decide_eq_false ht]
    refine iteT (iteT ⟨_, rfl, mk1 TI nI fun dd hdd => ?_⟩)
    exact qb (fun h => ht h.1) _ dd s0 hdd
  rw [decide_eq_true ht]
  refine iteF ⟨_, rfl, z, dz, _, rfl, s0 _ _ hz', rfl, ?_⟩
  refine fun z1 d1 nz1 nd1 hz1 => ratio_made nz1 nd1 hz1 (by decide) (by decide) fun H1 s1 R1 => ⟨rfl, ?_⟩
  rw [show low 1 1 = (1, 1) from by decide] at R1
  have s01 := s0.trans s1
  refine ⟨z, z1, t, b, _, _, rfl, hzr.same s01, R1, st, sb, (show Sm 1 by unfold Sm; decide), (show Sm 1 by unfold Sm; decide), _, rfl, ?_⟩
  rw [show decide (t * (1, 1).2 < (1, 1).1 * b) = decide (t < b) from decide_eq_decide.mpr (by show t * 1 < 1 * b ↔ t < b; omega)]
  by_cases tb : t < b
  case neg =>
    rw [decide_eq_false tb]
    refine iteT ⟨_, rfl, mk1 TI nI fun dd hdd => ?_⟩
    exact qb (fun h => tb h.2.1) _ dd s01 hdd
  rw [decide_eq_true tb]
  refine iteF ?_
  obtain ⟨tX, kX, hX⟩ := sidesAt SX v
  refine ⟨_, rfl, sX, _, .ref tX, rfl, rfl, kX, tX, _, rfl, hX _, rfl, _, _, rfl, _, _, rfl, rfl, ?_⟩
  refine ⟨(show 0 ≤ sizeLine by decide), fun p np => ?_⟩
  have np0 := none_same s01 np
  have sp' := s01.trans (same_upd (o := HO.lst []) np)
  have hp : (upd H1 p (.lst [])) p = some (.lst []) := upd_same
  generalize upd H1 p (HO.lst []) = H2 at sp' hp ⊢
  have hd2 := sp' _ _ hF.dict
  have ek : ((kvF qs).map fun q => L2.kV q.1) = ((qs.map (·.1)).map fun r => S r.1).map V.str := by
    unfold kvF
    rw [List.map_map, List.map_map, List.map_map]
    rfl
  have nd' : ((qs.map (·.1)).map (·.1)).Nodup := by
    rw [List.map_map]
    exact nd
  refine ⟨_, rfl, d, _, rfl, hd2, fun kq nkq => ?_⟩
  have k1 := same_upd (o := HO.lst ((kvF qs).map fun q => L2.kV q.1)) nkq
  refine ⟨kq, (qs.map (·.1)).map fun r => S r.1, rfl, SqL.of (by rw [← ek]; exact upd_same), fun ys ks hperm hsrt nks => ?_⟩
  obtain ⟨so, rfl, hasc⟩ := fl_sorted nd' hperm hsrt
  have k2 := k1.trans (same_upd (o := HO.lst ((so.map fun r : FR => S r.1).map V.str)) nks)
  have hks : (upd (upd H2 kq (HO.lst ((kvF qs).map fun q => L2.kV q.1))) ks (HO.lst ((so.map fun r : FR => S r.1).map V.str))) ks = some (.lst ((so.map fun r : FR => S r.1).map V.str)) := upd_same
  have s3 := sp'.trans k2
  have hp3 := k2 _ _ hp
  have nksp : ks ≠ p := fun e => by
    have h1 := none_same k1 nks
    rw [e, hp] at h1
    cases h1
  generalize upd (upd H2 kq (HO.lst ((kvF qs).map fun q => L2.kV q.1))) ks (HO.lst ((so.map fun r : FR => S r.1).map V.str)) = H3 at s3 hks hp3 ⊢
  clear k1 k2 nks nkq hperm hsrt hd2 hp sp' ek
  have slen : so.length ≤ 1000 := by
    have := hasc.1.length_eq
    rw [List.length_map] at this
    omega
  have atake : ∀ (j : Nat) (r : FR), so[j]? = some r → walkW v D t b (so.take (j + 1)) = walkW v D t b (so.take j) ++ (if metW v D t b r.2.2 = true then [r.1] else []) := fun j r e => by
    unfold walkW
    rw [List.take_add_one, e, List.filter_append, List.map_append]
    congr 1
    cases h : metW v D t b r.2.2 with
    | true => rw [show ((some r).toList.filter fun r : FR => metW v D t b r.2.2) = [r] from by rw [show (some r).toList = [r] from rfl, List.filter_cons_of_pos (by simpa using h)]; rfl]; rfl
    | false => rw [show ((some r).toList.filter fun r : FR => metW v D t b r.2.2) = [] from by rw [show (some r).toList = [r] from rfl, List.filter_cons_of_neg (by simpa using h)]; rfl]; rfl
  refine ⟨ks, rfl, ⟨_, SqL.of hks⟩, for_it (walk_list (xs := (so.map fun r : FR => S r.1).map V.str)) (fun j σ H' => ∃ y6 y7 : Option V, σ = [some (.ref d), some (.str (viewS v)), some (.ref z), some (.int (if v = true then 1 else 0)), some (.int (if v = true then 3 else 2)), some (.ref p), y6, y7] ∧ (∀ r ∈ so.take j, shutW v D t b r.2.2 = false) ∧ H' p = some (.lst ((walkW v D t b (so.take j)).map fun a => V.str (S a))) ∧ But p H3 H') ⟨none, none, rfl, (fun r h => by cases h), hp3, fun _ _ _ e => e⟩ (fun j σ H' _ ⟨_, _, _, _, _, bt⟩ => SqL.of (bt _ _ nksp hks)) ?_ ?_⟩
  · rintro j x σ H4' H4 hj ⟨y6, y7, rfl, hns, hp4, bt⟩ ⟨rfl, hx⟩
    rw [List.map_map, List.getElem?_map] at hx
    obtain ⟨r, hr1, rfl⟩ := Option.map_eq_some_iff.mp hx
    have up : Same H H4 := fun c o e => bt _ _ (ne_of_none e np0) (s3 _ _ e)
    have hrm : r ∈ qs.map (·.1) := hasc.1.mem_iff.mp (List.mem_of_getElem? hr1)
    obtain ⟨q', hq', rfl⟩ := List.mem_map.mp hrm
    have elq := lkQ_of nd hq'
    obtain ⟨pb, hu, ww, nn, ee, ss, hpb, hbv⟩ := (hF.same kR up).cells _ hq'
    have hz4 := up _ _ hz'
    have hg : DGet H4 d (.str (S q'.1.1)) (some (.ref q'.2)) := by
      have := DGet.k (k := Sum.inr (S q'.1.1)) (up _ _ hF.dict)
      rw [valV_kvF, elq] at this
      exact this
    obtain ⟨pn, hat, dn, hpn⟩ := box_near hbv v
    obtain ⟨pf, haf, df, hpf⟩ := box_far hbv v
    obtain ⟨b1, b2, b3⟩ := near_bd (oks _ hq') v
    obtain ⟨x1, x2, _⟩ := sm_low (a := nearV v q'.1.2.2) D0 b1 (by omega) sD
    obtain ⟨x3, x4, _⟩ := sm_low (a := farV v q'.1.2.2) D0 (by omega) b3 sD
    have tk := atake j q'.1 hr1
    refine ⟨_, rfl, _, rfl, d, _, rfl, hg, q'.2, _, _, _, rfl, rfl, SqT.of hu, rfl, ?_⟩
    refine ⟨_, rfl, _, rfl, pb, _, _, _, rfl, rfl, SqT.of hpb, hat, _, rfl, pn, dn, _, _, rfl, hpn, .ins hz4, o_eq.nf, pn, .ref z, _, _, rfl, ⟨dn, hpn⟩, .inl ⟨z, _, _, rfl, ⟨dz, hz4⟩, ?_⟩⟩
    cases hsh : shutW v D t b q'.1.2.2 with
    | true =>
      rw [show decide ((low (nearV v q'.1.2.2) D).1 = t ∧ (low (nearV v q'.1.2.2) D).2 = b) = true from hsh]
      refine ⟨_, rfl, true, rfl, iteT ?_⟩
      refine ⟨_, rfl, mk1 TI nI fun dd hdd => ?_⟩
      exact qb (fun h => by
        have := h.2.2 _ hq'
        rw [hsh] at this
        cases this) _ dd up hdd
    | false =>
      rw [show decide ((low (nearV v q'.1.2.2) D).1 = t ∧ (low (nearV v q'.1.2.2) D).2 = b) = false from hsh]
      have hns' : ∀ r ∈ so.take (j + 1), shutW v D t b r.2.2 = false := fun r h => by
        rw [List.take_add_one, hr1] at h
        rcases List.mem_append.mp h with h | h
        · exact hns r h
        · rw [List.mem_singleton.mp (show r ∈ [q'.1] from h)]
          exact hsh
      refine ⟨_, rfl, false, rfl, iteF ?_⟩
      refine ⟨_, rfl, _, rfl, pb, _, _, _, rfl, rfl, SqT.of hpb, hat, pn, dn, _, rfl, hpn, rfl, _, rfl, pn, z, _, _, t, b, rfl, ⟨dn, hpn⟩, ⟨dz, hz4⟩, x1, x2, st, sb, _, rfl, ?_⟩
      cases h1 : decide ((low (nearV v q'.1.2.2) D).1 * b < t * (low (nearV v q'.1.2.2) D).2) with
      | false =>
        have hm : metW v D t b q'.1.2.2 = false := by
          unfold metW
          rw [h1, Bool.false_and]
        rw [hm] at tk
        refine iteF ⟨_, _, rfl, hns', ?_, bt⟩
        rw [tk]
        simpa using hp4
      | true =>
        refine iteT ⟨_, rfl, z, dz, _, rfl, hz4, rfl, _, rfl, _, rfl, pb, _, _, _, rfl, rfl, SqT.of hpb, haf, z, pf, t, b, _, _, rfl, ⟨dz, hz4⟩, ⟨df, hpf⟩, st, sb, x3, x4, _, rfl, ?_⟩
        have hm : metW v D t b q'.1.2.2 = decide (t * (low (farV v q'.1.2.2) D).2 < (low (farV v q'.1.2.2) D).1 * b) := by
          unfold metW
          rw [h1, Bool.true_and]
        cases h2 : decide (t * (low (farV v q'.1.2.2) D).2 < (low (farV v q'.1.2.2) D).1 * b) with
        | false =>
          rw [hm, h2] at tk
          refine iteF ⟨_, _, rfl, hns', ?_, bt⟩
          rw [tk]
          simpa using hp4
        | true =>
          rw [hm, h2] at tk
          have wl : (walkW v D t b (so.take j)).length ≤ 1000 := by
            unfold walkW
            rw [List.length_map]
            refine Nat.le_trans (List.length_filter_le _ _) ?_
            rw [List.length_take]
            omega
          refine iteT ⟨_, rfl, .inl ⟨rfl, _, SqL.of hp4⟩, _, rfl, p, _, _, rfl, rfl, hp4, by rw [List.length_map]; exact sz1 (by omega), ?_⟩
          refine ⟨_, _, rfl, hns', ?_, fun c o n e => by rw [upd_ne n]; exact bt _ _ n e⟩
          rw [upd_same, tk, List.map_append]
          rfl
  · rintro σ H4 ⟨y6, y7, rfl, hns, hp4, bt⟩
    rw [List.take_of_length_le (by rw [List.length_map, List.length_map]; exact Nat.le_refl _)] at hns hp4
    refine ⟨_, rfl, ?_⟩
    refine qg ⟨ht, tb, fun q hq => hns _ (hasc.1.mem_iff.mpr (List.mem_map.mpr ⟨q, hq, rfl⟩))⟩ _ p so (fun c o e => bt _ _ (ne_of_none e np0) (s3 _ _ e)) np0 hasc hp4
end
end FW
namespace FW
open PySem PySem.Spec PyProof.Rows L2
-- more
section
variable {P : Program} {w : World} {K : PySem.W.Frag} {mg : Str → Option Value} {base : Heap}
abbrev s_InvalidView_init : Stmt := inCls (topS 10) 0
theorem sc_InvalidView_init : FnScope ["self", "given"] ["self", "given"] (defScope s_InvalidView_init) := ⟨rfl, rfl, rfl, by decide +kernel, rfl, by decide +kernel, by decide +kernel⟩
theorem ok_InvalidView_init {f : Addr} {fd : FuncData} (F : Fun K "__init__" "InvalidView.__init__" s_InvalidView_init f fd) (G : GsK K) : FnOk P w K mg base CX0 1 f fd ["self", "given"] (sp_init K "given") := by
  refine F.ok sc_InvalidView_init (fun vs H Q E h => ?_) (fun cdv A outer s H vs Q E hr h => ?_)
  · obtain ⟨a, C, v, z, rfl, _⟩ := h
    rfl
  · obtain ⟨a, C, v, z, rfl, ha, T, Te, Tn, nf, nc, q⟩ := h
    refine ⟨_, (pss_cons (ps_ost (pv 0) (pv 1)) (pss_one (ps_ost (pv 0) (pe_name (pe_cls G (pv 0)))))), ?_⟩
    refine ⟨_, rfl, _, rfl, a, C, rfl, T, nf, .inl ⟨ha, fun dx hd hda => ?_⟩⟩
    have e1 : (upd (upd H dx (exd dx [(Str.ofString "given", v)])) a (exo a C (some dx))) a = some (exo a C (some dx)) := upd_same
    have e2 : (upd (upd H dx (exd dx [(Str.ofString "given", v)])) a (exo a C (some dx))) dx = some (exd dx [(Str.ofString "given", v)]) := by
      rw [upd_ne hda, upd_same]
    refine ⟨_, rfl, a, C, rfl, .inr ⟨dx, _, e1, e2⟩, Te, C, z, rfl, Tn, _, rfl, a, C, rfl, T, nc, .inr ⟨dx, _, e1, e2, (show 1 ≤ 900 by decide), ?_⟩⟩
    exact q dx hd hda
theorem PVal.small {cut : List Nat → Nat → List Nat} {C Fs : List Nat} (hcut : ∀ r c, CutR (cut r c) Fs) : ∀ {ss : List PStp} {F : Fl} {tr : Tr}, Fit Fs F tr → PVal cut C F ss → F.1 < 2 ^ 63 → (flRun cut F ss).1 < 2 ^ 63
  | [], _, _, _, _, h => h
  | s :: ss, F, tr, h, v, _ => by
    obtain ⟨⟨r, e⟩, hc, t0, tb, sm, v'⟩ := v
    obtain ⟨f', le, _⟩ := h.step hcut e t0 tb
    show (flRun cut (flStep cut F s) ss).1 < 2 ^ 63
    exact PVal.small hcut f' v' (Int.lt_of_le_of_lt le sm)
abbrev s_check_walk : Stmt := topS 42
theorem sc_check_walk : FnScope ["view"] ["view"] (defScope s_check_walk) := ⟨rfl, rfl, rfl, by decide +kernel, rfl, by decide +kernel, by decide +kernel⟩
def sp_check_walk (K : PySem.W.Frag) (C : Addr) : Sp := fun vs H Q E => ∃ v : V, vs = [v] ∧ Askd K H v ∧ (bLetter v [65, 68] = true → ∀ H', Same H H' → Q .non H') ∧ (bLetter v [65, 68] = false → ∀ H' d, Same H H' → H' d = none → E (.ref C) (some d) (upd H' d (Err1 "given" "InvalidView" v)))
theorem okx_check_walk {f CV fI : Addr} {fd fdI : FuncData} (F : Fun K "check_walk" "check_walk" s_check_walk f fd) (T : Kls K mg CV fI "InvalidView") (nf : PySem.W.findIn K (.ref CV) (Str.ofString "given") = some none)
    (FI : FnOk P w K mg base CX0 1 fI fdI ["self", "given"] (sp_init K "given")) (bI : Binds K fdI ["self", "given"] [])
    (c_is_letter : Cal P w K mg base CX0 1 "is_letter" s_is_letter ["value", "letters"] (sp_is_letter K)) : FnOk P w K mg base (L2.CX P w) 3 f fd ["view"] (sp_check_walk K CV) := by
  refine F.okX sc_check_walk (fun vs H Q E h => ?_) (fun cdv A outer s H vs Q E hr h => ?_)
  · obtain ⟨v, rfl, _⟩ := h
    rfl
  · obtain ⟨v, rfl, hv, q1, q2⟩ := h
    refine ⟨_, (pss_one (ps_if (pt_not (pt_val (pe_c c_is_letter hr (by decide) (by rfl) (pa_cons (pv 0) (pa_cons pe_str pa_nil)))))
      (pss_one (ps_raise rfl (takes_of rfl rfl rfl rfl) (pmk_oex T.oex T.init T.tI FI (hr.mono (by decide)) bI .nil pass0 (by rfl) T.g (pa_cons (pv 0) pa_nil)))) pss_nil)), ?_⟩
    refine ⟨_, rfl, v, [65, 68], rfl, hv, fun H' sm => ⟨_, rfl, ?_⟩⟩
    cases e : bLetter v [65, 68] with
    | true => exact iteF (q1 e _ sm)
    | false =>
      refine iteT ⟨_, rfl, mk1 T nf fun d hd => ?_⟩
      exact q2 e _ d sm hd
abbrev s_walk_at : Stmt := topS 44
theorem sc_walk_at : FnScope ["book", "start", "steps", "view", "at", "floor"] ["book", "start", "steps", "view", "at"] (defScope s_walk_at) := ⟨rfl, rfl, rfl, by decide +kernel, rfl, by decide +kernel, by decide +kernel⟩
/-- whether a ratio meets rooms of a floor, and ends at none -/
def WalkOk (v : Bool) (F : Fl) (t b : Int) : Prop := 0 < t ∧ t < b ∧ ∀ r ∈ F.2, shutW v F.1 t b r.2.2 = false
def sp_walk_at (K : PySem.W.Frag) (CB CR CI CV : Addr) : Sp := fun vs H Q E => ∃ (x : Addr) (F C : List Nat) (ls : List LineV) (start : List Nat) (hv : V) (ts : List Addr) (ss : List PStp) (vv at_ : V), vs = [.ref x, .str (S start), hv, vv, at_] ∧ BookAt K CB H x F C ls ∧ start.length = 4 ∧ (∀ y ∈ start, y ∈ F) ∧ Sq K H hv (ts.map V.ref) ∧ PStepsAt K H ts ss ∧
  ss.length ≤ 400 ∧ PVal (cutL ls) C (flStart start) ss ∧
  (((∀ H', Same H H' → Askd K H' vv) ∧ bLetter vv [65, 68] = false ∧ ∀ H' d, Same H H' → H' d = none → E (.ref CV) (some d) (upd H' d (Err1 "given" "InvalidView" vv))) ∨
   ∃ v : Bool, vv = .str (viewS v) ∧ (((∀ H', Same H H' → ∃ t, TyX K H' at_ t ∧ PySem.W.kitOne K t (.ref CR) = some false) ∧ ∀ H' d, Same H H' → H' d = none → E (.ref CI) (some d) (upd H' d (Err1 "given" "InvalidRatio" at_))) ∨
    ∃ (z : Addr) (t b : Int), at_ = .ref z ∧ RatAt CR H z t b ∧ Sm t ∧ Sm b ∧
     (WalkOk v (flRun (cutL ls) (flStart start) ss) t b → ∀ H' p so, Same H H' → H p = none → AscF so (flRun (cutL ls) (flStart start) ss).2 → H' p = some (.lst ((walkW v (flRun (cutL ls) (flStart start) ss).1 t b so).map fun a => V.str (S a))) → Q (.ref p) H') ∧
     (¬ WalkOk v (flRun (cutL ls) (flStart start) ss) t b → ∀ H' d, Same H H' → H' d = none → E (.ref CI) (some d) (upd H' d (Err1 "given" "InvalidRatio" at_)))))
theorem viewS_ok (v : Bool) : bLetter (.str (viewS v)) [65, 68] = true ∧ ∃ c, viewS v = S [c] := by
  cases v with
  | true => exact ⟨by decide +kernel, 65, rfl⟩
  | false => exact ⟨by decide +kernel, 68, rfl⟩
theorem okx_walk_at {f CB CR CI CV : Addr} {fd : FuncData} (F : Fun K "walk_at" "walk_at" s_walk_at f fd) (c_floor_behind : Cal P w K mg base CX0 8 "floor_behind" s_floor_behind ["book", "start", "steps"] (sp_floor_behind K CB CR)) (cx_check_walk : Cal P w K mg base (L2.CX P w) 3 "check_walk" s_check_walk ["view"] (sp_check_walk K CV))
    (cx_walk_in : Cal P w K mg base (L2.CX P w) 4 "walk_in" s_walk_in ["floor", "view", "at"] (sp_walk_in K CR CI)) : FnOk P w K mg base (L2.CX P w) 9 f fd ["book", "start", "steps", "view", "at"] (sp_walk_at K CB CR CI CV) := by
  refine F.okX sc_walk_at (fun vs H Q E h => ?_) (fun cdv A outer s H vs Q E hr h => ?_)
  · obtain ⟨x, F, C, ls, start, hv, ts, ss, vv, at_, rfl, _⟩ := h
    rfl
  obtain ⟨x, fs, cs, ls, start, hv, ts, ss, vv, at_, rfl, hB, hr4, hrf, hSq, hSt, h400, val, h⟩ := h
  have hcut : ∀ r c, CutR (cutL ls r c) fs := fun r c => cutL_form fun l hl => (hB.lines.ok l hl).cut
  obtain ⟨fit, _, cl⟩ := PVal.run hcut (Fit.start hr4 hrf) val ss.length (Nat.le_refl _)
  rw [List.take_length] at fit
  have c0 : (Tr.start start).cuts.length = 0 := rfl
  have sm := PVal.small hcut (Fit.start hr4 hrf) val (show (1 : Int) < 2 ^ 63 by decide)
  refine ⟨_, (pss_cons (ps_set (i := 5) sc_walk_at.nd rfl (.inl rfl) (pe_c c_floor_behind hr (by decide) (by rfl) (pa_cons (pv 0) (pa_cons (pv 1) (pa_cons (pv 2) pa_nil)))))
      (pss_cons (ps_expr (pe_cx (E := E) cx_check_walk hr (by decide) (by rfl) (passes_call (takes_of rfl rfl rfl rfl) (fun _ _ _ _ h => h)) (pa_cons (pv 3) pa_nil)))
      (pss_one (ps_ret (pe_cx (E := E) cx_walk_in hr (by decide) (by rfl) (passes_call (takes_of rfl rfl rfl rfl) (fun _ _ _ _ h => h)) (pa_cons (pv 5) (pa_cons (pv 3) (pa_cons (pv 4) pa_nil)))))))), ?_⟩
  refine ⟨_, rfl, _, rfl, _, rfl, x, fs, cs, ls, start, hv, ts, ss, rfl, hB, hr4, hrf, hSq, hSt, h400, val, fun H1 d qs s1 nd hF eF => ?_⟩
  refine ⟨_, rfl, ?_⟩
  rcases h with ⟨hask, hno, q⟩ | ⟨v, rfl, h⟩
  · exact ⟨vv, rfl, hask _ s1, fun h => absurd (h.symm.trans hno) (by decide), fun _ H' d' s' nd' => q _ d' (s1.trans s') nd'⟩
  obtain ⟨vok, c, vc⟩ := viewS_ok v
  refine ⟨_, rfl, .inl ⟨rfl, by rw [vc]; exact (show 1 ≤ 100000 by decide)⟩, fun _ H2 s2 => ?_, fun h => absurd (h.symm.trans vok) (by decide)⟩
  have s12 := s1.trans s2
  have ndp : (qs.map (·.1.1)).Nodup := by
    have := fit.ok.nd
    rw [← eF, List.map_map] at this
    exact this
  have ql : qs.length ≤ 1000 := by
    have h1 : qs.length = (flRun (cutL ls) (flStart start) ss).2.length := by rw [← eF, List.length_map]
    have h2 := fit.len.1
    omega
  have hall : (∀ q ∈ qs, shutW v (flRun (cutL ls) (flStart start) ss).1 0 0 q.1.2.2 = shutW v (flRun (cutL ls) (flStart start) ss).1 0 0 q.1.2.2) := fun _ _ => rfl
  refine ⟨_, rfl, _, rfl, _, rfl, d, _, qs, v, at_, rfl, hF.same (RatAt.k CR) s2, ndp, ql, fun q hq => fit.ok.ok _ (by rw [← eF]; exact List.mem_map.mpr ⟨q, hq, rfl⟩), fit.ok.pos, sm, ?_⟩
  have tr : ∀ t b, (0 < t ∧ t < b ∧ ∀ q ∈ qs, shutW v (flRun (cutL ls) (flStart start) ss).1 t b q.1.2.2 = false) ↔ WalkOk v (flRun (cutL ls) (flStart start) ss) t b := fun t b => by
    unfold WalkOk
    rw [← eF]
    refine ⟨fun ⟨a, b, c⟩ => ⟨a, b, fun r hr => ?_⟩, fun ⟨a, b, c⟩ => ⟨a, b, fun q hq => c _ (List.mem_map.mpr ⟨q, hq, rfl⟩)⟩⟩
    obtain ⟨q, hq, rfl⟩ := List.mem_map.mp hr
    exact c q hq
  rcases h with ⟨hty, q⟩ | ⟨z, t, b, rfl, hz, st, sb, qg, qb⟩
  · exact .inl ⟨hty _ s12, fun H' d' s' nd' => q _ d' (s12.trans s') nd'⟩
  · refine .inr ⟨z, t, b, rfl, hz.same s12, st, sb, fun ok H' p so s' np hasc hp => ?_, fun no H' d' s' nd' => qb (fun h => no ((tr t b).mpr h)) _ d' (s12.trans s') nd'⟩
    rw [eF] at hasc
    exact qg ((tr t b).mp ok) _ p so (s12.trans s') (none_same s12 np) hasc hp
end
end FW
/-! the rooms of a floor in the order of their addresses -/
namespace FW
theorem lt_app {a s t : List Nat} (h1 : ¬ a <+: s) (h2 : ¬ s <+: a) : (a ++ t < s ↔ a < s) ∧ (s < a ++ t ↔ s < a) := by
  induction a generalizing s with
  | nil => exact absurd (List.nil_prefix) h1
  | cons x a ih =>
    cases s with
    | nil => exact absurd (List.nil_prefix) h2
    | cons y s =>
      rw [List.cons_append, List.cons_lt_cons_iff, List.cons_lt_cons_iff, List.cons_lt_cons_iff, List.cons_lt_cons_iff]
      by_cases e : x = y
      · subst e
        have h1' : ¬ a <+: s := fun z => h1 (List.cons_prefix_cons.mpr ⟨rfl, z⟩)
        have h2' : ¬ s <+: a := fun z => h2 (List.cons_prefix_cons.mpr ⟨rfl, z⟩)
        obtain ⟨i1, i2⟩ := ih h1' h2'
        rw [i1, i2]
        exact ⟨Iff.rfl, Iff.rfl⟩
      · exact ⟨⟨fun h => h.imp id fun ⟨z, _⟩ => absurd z e, fun h => h.imp id fun ⟨z, _⟩ => absurd z e⟩, ⟨fun h => h.imp id fun ⟨z, _⟩ => absurd z.symm e, fun h => h.imp id fun ⟨z, _⟩ => absurd z.symm e⟩⟩
/-- the first ends where or before the second begins -/
def ordB (x y : IB) : Prop := x.e ≤ y.w ∨ x.s ≤ y.n
structure FlOrd (st : List FR) : Prop where
  ord : ∀ r ∈ st, ∀ s ∈ st, r.1 < s.1 → ordB r.2.2 s.2.2
  pre : ∀ r ∈ st, ∀ s ∈ st, r.1 <+: s.1 → r.1 = s.1
theorem FlOrd.start (room : List Nat) : FlOrd [([], room, IB.whole)] := ⟨fun r hr s hs h => by
  rw [List.mem_singleton.mp hr, List.mem_singleton.mp hs] at h
  exact absurd h (List.lt_irrefl _), fun r hr s hs _ => by rw [List.mem_singleton.mp hr, List.mem_singleton.mp hs]⟩
theorem ordB.scale {x y : IB} {b : Int} (h : ordB x y) (hb : 0 ≤ b) : ordB (x.scale b) (y.scale b) := h.imp (fun h => Int.mul_le_mul_of_nonneg_right h hb) (fun h => Int.mul_le_mul_of_nonneg_right h hb)
/-- a part of a box lies in it -/
def inB (x y : IB) : Prop := y.w ≤ x.w ∧ x.e ≤ y.e ∧ y.n ≤ x.n ∧ x.s ≤ y.s
theorem ordB.sub {x y x' y' : IB} (h : ordB x y) (hx : inB x' x) (hy : inB y' y) : ordB x' y' := by
  obtain ⟨a1, a2, a3, a4⟩ := hx
  obtain ⟨b1, b2, b3, b4⟩ := hy
  rcases h with h | h
  · exact .inl (by omega)
  · exact .inr (by omega)
theorem inB.refl (x : IB) : inB x x := ⟨Int.le_refl _, Int.le_refl _, Int.le_refl _, Int.le_refl _⟩
theorem in_one {D t b : Int} {x : IB} {up : Bool} (h : x.Ok D) (ht : 0 < t) (hb : t < b) : inB (x.one up t b) (x.scale b) ∧ inB (x.two up t b) (x.scale b) ∧ ordB (x.one up t b) (x.two up t b) := by
  have hwe := h.we
  have hns := h.ns
  have p1 : 0 ≤ (x.e - x.w) * t := Int.mul_nonneg (by omega) (by omega)
  have p2 : (x.e - x.w) * t ≤ (x.e - x.w) * b := Int.mul_le_mul_of_nonneg_left (by omega) (by omega)
  have p3 : 0 ≤ (x.s - x.n) * t := Int.mul_nonneg (by omega) (by omega)
  have p4 : (x.s - x.n) * t ≤ (x.s - x.n) * b := Int.mul_le_mul_of_nonneg_left (by omega) (by omega)
  rw [Int.sub_mul] at p2 p4
  have w1 : x.w * b ≤ x.e * b := Int.mul_le_mul_of_nonneg_right (by omega) (by omega)
  have w2 : x.n * b ≤ x.s * b := Int.mul_le_mul_of_nonneg_right (by omega) (by omega)
  rw [Int.sub_mul] at p2
  cases up with
  | true =>
    refine ⟨⟨Int.le_refl _, ?_, Int.le_refl _, Int.le_refl _⟩, ⟨?_, Int.le_refl _, Int.le_refl _, Int.le_refl _⟩, .inl (Int.le_refl _)⟩
    · show x.w * b + (x.e - x.w) * t ≤ x.e * b
      rw [Int.sub_mul] at p1 ⊢
      omega
    · show x.w * b ≤ x.w * b + (x.e - x.w) * t
      omega
  | false =>
    rw [Int.sub_mul] at p4
    refine ⟨⟨Int.le_refl _, Int.le_refl _, Int.le_refl _, ?_⟩, ⟨Int.le_refl _, Int.le_refl _, ?_, Int.le_refl _⟩, .inr (Int.le_refl _)⟩
    · show x.n * b + (x.s - x.n) * t ≤ x.s * b
      rw [Int.sub_mul] at p3 ⊢
      omega
    · show x.n * b ≤ x.n * b + (x.s - x.n) * t
      omega
theorem FlOrd.cut {D t b : Int} {st : List FR} {up : Bool} {ad p0 p1 room : List Nat} {x : IB} (o : FlOrd st) (h : FlOk D st) (hm : (ad, room, x) ∈ st) (ht : 0 < t) (hb : t < b) : FlOrd (flCut D st up ad p0 p1 x t b) := by
  have hb0 : 0 ≤ b := by omega
  obtain ⟨i1, i2, i3⟩ := in_one (up := up) (h.ok _ hm) ht hb
  -- each new room comes of an old one, with an address that goes on
  have part : ∀ r ∈ flCut D st up ad p0 p1 x t b, (∃ y ∈ st, y.1 ≠ ad ∧ r.1 = y.1 ∧ r.2.2 = y.2.2.scale b) ∨ (∃ e, (e = [48] ∨ e = [49]) ∧ r.1 = ad ++ e ∧ inB r.2.2 (x.scale b) ∧ (e = [48] → r.2.2 = x.one up t b) ∧ (e = [49] → r.2.2 = x.two up t b)) := fun r hr => by
    unfold flCut at hr
    rcases List.mem_append.mp hr with hr | hr
    · obtain ⟨y, hy, rfl⟩ := List.mem_map.mp hr
      obtain ⟨h1, h2⟩ := List.mem_filter.mp hy
      exact .inl ⟨y, h1, of_decide_eq_true h2, rfl, rfl⟩
    · simp only [List.mem_cons, List.not_mem_nil, or_false] at hr
      rcases hr with rfl | rfl
      · exact .inr ⟨[48], .inl rfl, rfl, i1, fun _ => rfl, fun z => by cases z⟩
      · exact .inr ⟨[49], .inr rfl, rfl, i2, fun z => by (cases z), fun _ => rfl⟩
  have np : ∀ y ∈ st, y.1 ≠ ad → ¬ ad <+: y.1 ∧ ¬ y.1 <+: ad := fun y hy ne => ⟨fun z => ne (o.pre _ hm _ hy z).symm, fun z => ne (o.pre _ hy _ hm z)⟩
  refine ⟨fun r hr s hs hlt => ?_, fun r hr s hs hp => ?_⟩
  · rcases part r hr with ⟨y, hy, ny, e1, e2⟩ | ⟨e, he, e1, e2, e3, e4⟩ <;> rcases part s hs with ⟨z, hz, nz, g1, g2⟩ | ⟨g, hg, g1, g2, g3, g4⟩
    · rw [e1, g1] at hlt
      rw [e2, g2]
      exact (o.ord _ hy _ hz hlt).scale hb0
    · rw [e1, g1] at hlt
      rw [e2]
      obtain ⟨n1, n2⟩ := np _ hy ny
      exact ((o.ord _ hy _ hm (((lt_app n1 n2).2).mp hlt)).scale hb0).sub (inB.refl _) g2
    · rw [e1, g1] at hlt
      rw [g2]
      obtain ⟨n1, n2⟩ := np _ hz nz
      exact ((o.ord _ hm _ hz (((lt_app n1 n2).1).mp hlt)).scale hb0).sub e2 (inB.refl _)
    · rw [e1, g1] at hlt
      have hlt2 : e < g := by
        have : ∀ (l : List Nat), l ++ e < l ++ g → e < g := fun l => by
          induction l with
          | nil => exact id
          | cons c l ih =>
            intro z
            rw [List.cons_append, List.cons_append, List.cons_lt_cons_iff] at z
            rcases z with z | ⟨_, z⟩
            · exact absurd z (Nat.lt_irrefl _)
            · exact ih z
        exact this _ hlt
      rcases he with rfl | rfl <;> rcases hg with rfl | rfl
      · exact absurd hlt2 (List.lt_irrefl _)
      · rw [e3 rfl, g4 rfl]
        exact i3
      · exact absurd hlt2 (by decide)
      · exact absurd hlt2 (List.lt_irrefl _)
  · rcases part r hr with ⟨y, hy, ny, e1, e2⟩ | ⟨e, he, e1, e2, e3, e4⟩ <;> rcases part s hs with ⟨z, hz, nz, g1, g2⟩ | ⟨g, hg, g1, g2, g3, g4⟩
    · rw [e1, g1] at hp ⊢
      exact o.pre _ hy _ hz hp
    · rw [e1, g1] at hp
      obtain ⟨n1, n2⟩ := np _ hy ny
      rcases List.prefix_or_prefix_of_prefix hp (List.prefix_append ad g) with z | z
      · exact absurd z n2
      · exact absurd z n1
    · rw [e1, g1] at hp
      obtain ⟨n1, n2⟩ := np _ hz nz
      exact absurd ((List.prefix_append ad e).trans hp) n1
    · rw [e1, g1] at hp ⊢
      have := (List.prefix_append_right_inj ad).mp hp
      rcases he with rfl | rfl <;> rcases hg with rfl | rfl
      · rfl
      · exact absurd this (by decide)
      · exact absurd this (by decide)
      · rfl
end FW
namespace FW
open PySem PySem.Spec PyProof.Rows L2
-- more
section
variable {P : Program} {w : World} {K : PySem.W.Frag} {mg : Str → Option Value} {base : Heap}
/-! the rooms met by a walk, in the order of their addresses, lie in order along it -/
theorem FlOrd.step {cut : List Nat → Nat → List Nat} {F : Fl} {s : PStp} (o : FlOrd F.2) (h : FlOk F.1 F.2) (t0 : 0 < s.2.2.1) (tb : s.2.2.1 < s.2.2.2) : FlOrd (flStep cut F s).2 := by
  unfold flStep
  cases e : F.2.find? (fun r => decide (r.1 = s.1)) with
  | none => exact o
  | some r =>
    dsimp only
    have hm := List.mem_of_find?_eq_some e
    have ha : r.1 = s.1 := of_decide_eq_true (List.find?_some (p := fun r : FR => decide (r.1 = s.1)) e)
    split
    · refine o.cut h (room := r.2.1) (x := r.2.2) ?_ t0 tb
      rw [← ha]
      exact hm
    · exact o
theorem FlOrd.run {cut : List Nat → Nat → List Nat} {C Fs : List Nat} (hcut : ∀ r c, CutR (cut r c) Fs) : ∀ {ss : List PStp} {F : Fl} {tr : Tr}, Fit Fs F tr → PVal cut C F ss → FlOrd F.2 → FlOrd (flRun cut F ss).2
  | [], _, _, _, _, o => o
  | s :: ss, F, tr, h, v, o => by
    obtain ⟨⟨r, e⟩, _, t0, tb, _, v'⟩ := v
    obtain ⟨f', _, _⟩ := h.step hcut e t0 tb
    show FlOrd (flRun cut (flStep cut F s) ss).2
    exact FlOrd.run hcut f' v' (o.step h.ok t0 tb)
theorem low_lt_at {z D t b : Int} (hD : 0 < D) : (low z D).1 * b < t * (low z D).2 ↔ z * b < t * D := by
  obtain ⟨c1, p1⟩ := low_cross (t := z) (show D ≠ 0 by omega)
  have p2 : 0 < (low z D).2 := by omega
  have e1 : (low z D).1 * b * D = z * b * (low z D).2 := by
    calc (low z D).1 * b * D = (low z D).1 * D * b := by ac_rfl
      _ = z * (low z D).2 * b := by rw [c1]
      _ = z * b * (low z D).2 := by ac_rfl
  have e2 : t * (low z D).2 * D = t * D * (low z D).2 := by ac_rfl
  constructor
  · intro h
    have h1 := Int.mul_lt_mul_of_pos_right h hD
    rw [e1, e2] at h1
    exact Int.lt_of_mul_lt_mul_right h1 (by omega)
  · intro h
    have h1 := Int.mul_lt_mul_of_pos_right h p2
    rw [← e1, ← e2] at h1
    exact Int.lt_of_mul_lt_mul_right h1 (by omega)
theorem at_lt_low {z D t b : Int} (hD : 0 < D) : t * (low z D).2 < (low z D).1 * b ↔ t * D < z * b := by
  obtain ⟨c1, p1⟩ := low_cross (t := z) (show D ≠ 0 by omega)
  have p2 : 0 < (low z D).2 := by omega
  have e1 : (low z D).1 * b * D = z * b * (low z D).2 := by
    calc (low z D).1 * b * D = (low z D).1 * D * b := by ac_rfl
      _ = z * (low z D).2 * b := by rw [c1]
      _ = z * b * (low z D).2 := by ac_rfl
  have e2 : t * (low z D).2 * D = t * D * (low z D).2 := by ac_rfl
  constructor
  · intro h
    have h1 := Int.mul_lt_mul_of_pos_right h hD
    rw [e1, e2] at h1
    exact Int.lt_of_mul_lt_mul_right h1 (by omega)
  · intro h
    have h1 := Int.mul_lt_mul_of_pos_right h p2
    rw [← e1, ← e2] at h1
    exact Int.lt_of_mul_lt_mul_right h1 (by omega)
def alongV (v : Bool) (x : IB) : Int := if v = true then x.w else x.n
theorem metW_iff {v : Bool} {D t b : Int} {x : IB} (hD : 0 < D) : metW v D t b x = true ↔ nearV v x * b < t * D ∧ t * D < farV v x * b := by
  unfold metW
  rw [Bool.and_eq_true, decide_eq_true_iff, decide_eq_true_iff, low_lt_at hD, at_lt_low hD]
/-- of two rooms met by a walk the one with the lower address lies first -/
theorem met_ord {v : Bool} {D t b : Int} {st : List FR} (h : FlOk D st) (o : FlOrd st) (hb : 0 < b) {r s : FR} (hr : r ∈ st) (hs : s ∈ st) (hlt : r.1 < s.1) (mr : metW v D t b r.2.2 = true) (ms : metW v D t b s.2.2 = true) : alongV v r.2.2 < alongV v s.2.2 := by
  obtain ⟨r1, r2⟩ := (metW_iff h.pos).mp mr
  obtain ⟨s1, s2⟩ := (metW_iff h.pos).mp ms
  have okr := h.ok _ hr
  have a1 := okr.we
  have a2 := okr.ns
  cases v with
  | true =>
    show r.2.2.w < s.2.2.w
    rcases o.ord _ hr _ hs hlt with z | z
    · omega
    · exfalso
      have h1 : r.2.2.s * b ≤ s.2.2.n * b := Int.mul_le_mul_of_nonneg_right z (by omega)
      have h2 : t * D < r.2.2.s * b := r2
      have h3 : s.2.2.n * b < t * D := s1
      omega
  | false =>
    show r.2.2.n < s.2.2.n
    rcases o.ord _ hr _ hs hlt with z | z
    · exfalso
      have h1 : r.2.2.e * b ≤ s.2.2.w * b := Int.mul_le_mul_of_nonneg_right z (by omega)
      have h2 : t * D < r.2.2.e * b := r2
      have h3 : s.2.2.w * b < t * D := s1
      omega
    · omega
theorem cnt_at {α : Type} (k : α → Int) : ∀ {L : List α} {i : Nat} {r : α}, L.Pairwise (fun x y => k x < k y) → L[i]? = some r → (L.filter fun x => decide (k x < k r)).length = i
  | [], _, _, _, e => by cases e
  | x :: L, 0, r, h, e => by
    obtain rfl : x = r := Option.some.inj e
    rw [List.pairwise_cons] at h
    rw [List.filter_cons_of_neg (by simp)]
    rw [List.filter_eq_nil_iff.mpr fun y hy => by
      have := h.1 y hy
      simp only [decide_eq_true_eq]
      omega]
    rfl
  | x :: L, i + 1, r, h, e => by
    rw [List.pairwise_cons] at h
    have e' : L[i]? = some r := e
    have hx : k x < k r := h.1 r (List.mem_of_getElem? e')
    rw [List.filter_cons_of_pos (by simpa using hx), List.length_cons, cnt_at k h.2 e']
/-- the ascending rooms that a walk meets lie in order along it -/
theorem walk_pw {v : Bool} {D t b : Int} {st so : List FR} (h : FlOk D st) (o : FlOrd st) (hb : 0 < b) (ha : AscF so st) : (so.filter fun r => metW v D t b r.2.2).Pairwise fun x y => alongV v x.2.2 < alongV v y.2.2 := by
  have hp := ha.2.filter (fun r => metW v D t b r.2.2)
  refine List.Pairwise.imp_of_mem (fun {x y} hx hy hlt => ?_) hp
  obtain ⟨x1, x2⟩ := List.mem_filter.mp hx
  obtain ⟨y1, y2⟩ := List.mem_filter.mp hy
  exact met_ord h o hb (ha.1.mem_iff.mp x1) (ha.1.mem_iff.mp y1) hlt x2 y2
end
end FW
namespace FW
open PySem PySem.Spec PyProof.Rows L2
/-! ### a lambda, with or without defaults, given to a def that calls it -/
section
variable {X : Cx}
/-- what the giving reads -/
def tGive {X : Cx} {k : Nat} (T : List (Addr × Str)) (TT : (XK → Hp → VK → Prop) → Hp → VK → Prop) (a : AskS X k) : TE := fun σ H Q => LamX.Tabs T H ∧ ∀ H1, LamX.ExtN H H1 → LamX.Tabs T H1 → TT (fun E H' Q' => a.tb (a.js.map (NdefX.slotAt σ)) E H' Q') H1 Q
theorem pe_give {T : List (Addr × Str)} {TT : (XK → Hp → VK → Prop) → Hp → VK → Prop} {k : Nat} {x a : Str} {g : Addr} {pg : Arguments} {bg : List Stmt} {sg : Scope} {dV kV doc pm cdv ct oc : Value} {an od : Option Addr} {osl : Array (Option Value)} {Ng : List Str} {e : Expr} {p pos : Pos}
    (L : AskS X k) (he : PE X e (tLamV T L.lam L.dvs)) (hfn : ∀ x, X.fn x = true) (hst : X.stack = X.env :: X.outer) (hf : X.env.frame = some X.env.locals)
    (hTT : ∀ (tl tl' : XK → Hp → VK → Prop) (H : Hp) (Q : VK), (∀ E Q', tl E H Q' → tl' E H Q') → TT tl H Q → TT tl' H Q)
    (hg : Gl X x) (hm : X.mg x = some (.ref g)) (hk : PySem.W.keepIn X.K (.ref g) = true) (lk : X.K.lookup g = some ⟨oc, od, .func (PySem.W.fnOf x x pg bg sg dV kV doc pm an cdv ct), osl⟩) (hcg : PySem.W.codeIn X.K cdv x = true)
    (hb : L2.Binds X.K (PySem.W.fnOf x x pg bg sg dV kV doc pm an cdv ct) [a] []) (Sg : FnScope Ng [a] sg) (hNg : Ng[0]? = some a) (hva : Vis sg a) (hG : ∀ (b2 : Heap) (q : Str), LamX.GivesTo { X with base := b2 } Ng x sg g cdv bg a q TT) (hr : Room (k + 1) X.A)
    (hdb : (x == ("__debug__" : Str)) = false := by decide) (hd : (a == ("__debug__" : Str)) = false := by decide) (hcd : (a == ("__classdict__" : Str)) = false := by decide) (hse : starEach [e] X.env = [(false, eval e X.env)] := by rfl) :
    PE X (.Call (.Name x p) [e] [] pos) (tGive T TT L) := by
  refine ⟨fun pins s σ H Q I h => ?_⟩
  obtain ⟨hT, h⟩ := h
  refine wpAny_Call_Name_kw (ld_glob I hg hm ?_ hdb)
  refine PySem.W.callWith_K (h₀ := X.base) I.ok.mod.kin hk (thn ((pa_cons he pa_nil hse).run pos pins s σ H (fun vs H1 => ∃ (f c' : Addr) (dV : Value), vs = [.ref f] ∧ LamAt H1 f (L.lam c' dV) L.dvs ∧ TT (fun E H' Q' => L.tb (L.js.map (NdefX.slotAt σ)) E H' Q') H1 Q) I ⟨hT, fun f c' dV H1 e1 t1 _ la => ⟨f, c', dV, rfl, la, h H1 e1 t1⟩⟩) fun us s1 ⟨vs, H1, I1, r1, q1⟩ => ⟨I1.kIn, ?_⟩) hse (by rfl)
  obtain ⟨f, c', dV', rfl, la, ht⟩ := q1
  cases r1 with
  | @cons _ u _ ur r0 rr =>
  cases rr
  obtain rfl : u = Value.ref f := r0
  obtain ⟨b2, sub, sz, e0, kc⟩ := ground_cells I1 hfn hst hf
  have cp := L.caps I1.ok c' dV'
  have C := cells_in (b2 := b2) (NdefX.cells_of I1 cp) (fun y c e => ⟨y, cp.sub y c e⟩) kc
  have rc : codeAny (model X.prog X.w) X.A (.call (.ref g) ⟨[.ref f], []⟩) (CR C8.CX0 X.stack X.prog X.w H1 s1 Q C8.E0) s1 := by
    refine LamX.run_ofS (N := Ng) (ps := [a]) (us := [.ref f]) (vs := [.ref f]) lk hcg Sg hr e0 (hb s1 [.ref f] I1.kIn rfl) (.cons rfl .nil) rfl fun hr' => ?_
    obtain ⟨t', ht', hq'⟩ := hG b2 (L.lam c' dV').F.qual f (L.lam c' dV').F.c s1 H1 Q (fun E H' Q' => LamAt H' f (L.lam c' dV') L.dvs ∧ L.tb (L.js.map (NdefX.slotAt σ)) E H' Q')
      (fun W pn xe E p1 p2 tk hW => pe_ask (Z := (cxOf C8.CX0 X.prog X.w X.K X.mg b2 Ng x sg g cdv X.A X.stack s1 H1 C8.E0).tr pn xe) (base := X.base) (L.run c' dV') C I1.ok.mod sub sz hr' (passes_call tk hW) hNg hva hd hcd)
      la.co (hTT _ _ H1 Q (fun E Q' z => ⟨la, z⟩) ht)
    exact ⟨t', ht'.nox, hq'⟩
  refine wpAny_call (codeAny_mono rc fun r s2 hq => ?_)
  cases r with
  | error e => exact (show False from hq).elim
  | ok fl =>
    cases fl with
    | ret u => exact I1.after hq
    | next => exact False.elim hq
    | brk => exact False.elim hq
    | cont => exact False.elim hq
/-- f(k = e ..) in a lambda, f may raise -/
theorem pe_ckx0 {CX : CXT} {x : Str} {st : Stmt} {ps ks : List Str} {sp : Sp} {k j : Nat} {E : XK} {kws : List Keyword} {tk : TA} {p pos : Pos} {g : List Value → List Value → List Value} {gV : List V → List V → List V} (c : Cal X.prog X.w X.K X.mg X.base CX k x st ps sp) (b : KB X.K x st ps ks g gV) (hr : Room j X.A) (hk : k ≤ j) (hg : Gl X x) (hx : Passes CX X E) (hkw : PK X kws tk)
    (hall : (backToKw pos (keywordEach kws X.env)).all (·.1.isSome) = true := by rfl) (hks : (backToKw pos (keywordEach kws X.env)).filterMap (·.1) = ks := by rfl)
    (hdb : (x == ("__debug__" : Str)) = false := by decide)
    (hpl : ((backTo pos (starEach [] X.env)).any (·.1) || (backToKw pos (keywordEach kws X.env)).any (·.1.isNone)) = false := by rfl) :
    PE X (.Call (.Name x p) [] kws pos) (tCallK sp gV E tNil tk) := by
  obtain ⟨f, fd, F, hm, fn, _⟩ := c.ex
  exact pe_callK0 F (hr.mono hk) hg hm fn.kp (b f fd fn) hx hkw hall hks hdb hpl
end
end FW
/-! try with several clauses, each with the same name -/
namespace FW
open PySem PySem.Spec PyProof.Rows L2
/-- the ends of a suite whose name goes away -/
def goneD (i : Nat) (D : Ends) : Ends := { nx := fun σ' H' => D.nx (σ'.set i none) H', rt := D.rt, bk := fun σ' H' => D.bk (σ'.set i none) H', ct := fun σ' H' => D.ct (σ'.set i none) H' }
def wManyN (K : PySem.W.Frag) (m i : Nat) (Wout : WX) (D : Ends) : List (Value × TS) → WX
  | [] => Wout
  | (c, ts) :: r => fun cls d σ H => ∃ b, PySem.W.exmOne K cls c = some b ∧ (b = true → ∀ a, H a = none → σ.length = m → ts (goneD i D) (σ.set i (some (.ref a))) (upd H a (ExK cls d a))) ∧ (b = false → wManyN K m i Wout D r cls d σ H)
inductive HdsN (X : Cx) (n : Str) : List ExceptHandler → List (Value × TS) → Prop
  | nil : HdsN X n [] []
  | cons {x : Str} {c : Value} {ts : TS} {b₀ : Stmt} {suite : List Stmt} {np pos' : Pos} {hds : List ExceptHandler} {l : List (Value × TS)} (hc : Names X x c) (hsu : ∀ (a : Addr) (pn : List (Addr × Obj)), PSs (X.suite a pn) (b₀ :: suite) ts) (r : HdsN X n hds l) :
      HdsN X n (.ExceptHandler (some (.Name x np)) (some n) (b₀ :: suite) pos' :: hds) ((c, ts) :: l)
section
variable {X : Cx} {n : Str} {i : Nat} {body : List Stmt} {h₀ : ExceptHandler} {hds : List ExceptHandler} {l : List (Value × TS)} {pos : Pos} {tb : WX → TS} {Wout : WX}
theorem ps_try_manyN (hs : X.stack = X.env :: X.outer) (hf : X.env.frame = some X.env.locals) (hex : X.ex = []) (hN : X.N.Nodup) (hi : X.N[i]? = some n) (hln : X.env.kindOf n = some .local) (tk : Takes X Wout)
    (hb : ∀ (W : WX) (pn : List (Addr × Obj)) (xe : Value → Shared → Prop), Takes (X.tr pn xe) W → PassesOwn (model X.prog X.w) X.A X.env xe → PSs (X.tr pn xe) body (tb W))
    (hh : HdsN X n (h₀ :: hds) l) : PS X (.Try body (h₀ :: hds) [] [] pos) (fun D σ H => tb (wManyN X.K X.N.length i Wout D l) D σ H) := by
  refine ⟨fun pins s σ H D I h => wpAny_Try_except ?_⟩
  have ok := I.ok
  have fr : X.A.frames = some (X.env :: X.outer) := ok.frames.trans (congrArg some hs)
  have hl : Loc X.env.scope n := .inl hln
  let xe' : Value → Shared → Prop := fun e s1 => wpAny (model X.prog X.w) X.A (noteFrame e X.env)
    (fun _ s2 => wpAny (model X.prog X.w) X.A (setFlight e none)
      (fun _ s3 => wpAny (model X.prog X.w) X.A (handleBy e X.env (h₀ :: hds)) (SP X pins D) X.xe s3) X.xe s2) X.xe s1
  have caught : Takes (X.tr (X.pn ++ pins) xe') (wManyN X.K X.N.length i Wout D l) := by
    rintro u s' ⟨a, B, sI, pins', σ', H', cls, d, rfl, J', nb, up, sky, na, os, ag, w⟩
    have J : Inv X pins σ' H' sI := J'.ofTry ok
    have sk : Sky B (X.env :: X.outer) a (Zc cls d) X.env.locals s'.heap := hs ▸ sky
    show wpAny (model X.prog X.w) X.A (noteFrame (.ref a) X.env) _ _ _
    refine Sky.land Zc.steady fr hf sk fun h3 fl up3 => ?_
    have J3 : Inv X pins σ' H' { s' with heap := h3 } := J.landed nb fl.1 (up.trans up3) os ag
    obtain ⟨oe, vs, he, hz, hdt⟩ := fl.there
    have out : a ∉ frs (X.env :: X.outer) := fun hm => by
      obtain ⟨_, o, e', hn⟩ := fl.2.2.1.mem hm
      rw [he] at e'
      cases e'
      exact hn _ hdt
    have nL : a ≠ X.env.locals := fun z => out (List.mem_filterMap.mpr ⟨X.env, List.mem_cons_self, hf.trans (congrArg some z.symm)⟩)
    have nB : B.get? a = none := fl.2.1
    have notI : ∀ o, sI.heap.get? a ≠ some o := fun o e => by
      rw [nb a o e (hs ▸ out)] at nB
      cases nB
    have n0 : X.s_0.heap.get? a = none := by
      cases e : X.s_0.heap.get? a with
      | none => rfl
      | some o =>
        obtain ⟨o', e'⟩ := J.base.there a o e (by rw [hex]; exact List.not_mem_nil)
        exact absurd e' (notI o')
    have np : ∀ p ∈ X.pn ++ pins, p.1 ≠ a := fun p hp z => notI p.2 (z ▸ (J.pin p hp).1)
    have S3 : Inv (X.suite a (X.pn ++ pins)) [] σ' H' { s' with heap := h3 } := in_suite J3
    have go : ∀ {hds' : List ExceptHandler} {l' : List (Value × TS)}, HdsN X n hds' l' → wManyN X.K X.N.length i Wout D l' cls d σ' H' → wpAny (model X.prog X.w) X.A (handleBy (.ref a) X.env hds') (SP X pins D) X.xe { s' with heap := h3 } := by
      intro hds' l' hk
      induction hk with
      | nil =>
        intro w
        refine wpAny_handleBy_nil ?_
        obtain ⟨k1, k2, k3, oe, vs, T, oT, ts', he, hz, hd, h1, hr⟩ := id fl
        unfold PySem.passOn
        refine wpAny_bind (wpAny_field he hd h1 ?_)
        rw [if_neg (show ¬ ((Value.ref T == Value.none) = true) from by simp)]
        have fin : wpAny (model X.prog X.w) X.A (setFlight (.ref a) X.env.frame) (fun _ s4 => wpAny (model X.prog X.w) X.A (throw (.ref a) : Sem Flow) (SP X pins D) X.xe s4) X.xe { s' with heap := h3 } := by
          rw [hf]
          refine HandSPX.setFlight_upZ fl fun h4 hh4 up4 => wpAny_throw (tk _ _ ?_)
          exact ⟨a, B, sI, pins, σ', H', cls, d, rfl, J, nb, (up.trans up3).trans up4, .inr (.inr (by rw [hs]; exact hh4)), na, os, ag, w⟩
        first
          | exact wpAny_bind (wpAny_pure (wpAny_bind fin))
          | exact wpAny_bind fin
      | @cons x c ts b₀ suite np' pos' hds2 l2 hc hsu r ih =>
        intro w
        obtain ⟨b, hb1, yes, no⟩ := w
        refine wpAny_handleBy_cons (codeAny_handlers_test ?_) (fun q => by cases q)
        have ty : PySem.W.Looks (model X.prog X.w) h3 (typeOf (.ref a)) cls := fun _ _ _ _ k q => wpAny_typeOf_ref (k _ _ he) (by rw [hz.1]; exact q)
        have lm := PySem.W.exm_one (M := model X.prog X.w) J3.kIn ty hb1
        have test : ∀ {Q : Value → Shared → Prop} {E : Value → Shared → Prop}, Q c { s' with heap := h3 } → wpAny (model X.prog X.w) (X.A.mark (some (.ref a))) (eval (.Name x np') X.env) Q E { s' with heap := h3 } := fun {Q E} q => by
          obtain ⟨hg, nd, hm | ⟨hm, hv, hnn⟩⟩ := hc
          · exact ld_glob (X := X.suite a (X.pn ++ pins)) S3 hg hm q nd
          · exact ld_blt (X := X.suite a (X.pn ++ pins)) S3 hg hm hv q hnn nd
        refine test (lm.here ?_)
        cases b with
        | false =>
          show wpAny _ X.A (handleBy (.ref a) X.env hds2) _ _ _
          exact ih (no rfl)
        | true =>
          refine codeAny_handlers_suite_as ?_
          refine HandSPX.lands_againZ fl fun h5 fl5 up5 => ?_
          have J5 : Inv X pins σ' H' { s' with heap := h5 } := J.landed nb fl5.1 ((up.trans up3).trans up5) os ag
          obtain ⟨oe5, vs5, he5, hz5, hd5⟩ := fl5.there
          have S5 : Inv (X.suite a (X.pn ++ pins)) [] σ' (upd H' a (ExK cls d a)) { s' with heap := h5 } := in_suite (adopt J5 he5 hz5 hd5 na nL n0 np)
          refine store_ok (X := X.suite a (X.pn ++ pins)) (v := .ref a) S5 hN hi hl rfl (fun s6 S6 => ?_) (.inr hln)
          refine wpAny_mono ((hsu a (X.pn ++ pins)).run [] s6 _ _ _ S6 (yes rfl a na J.len)) (fun f s7 hsp => ?_) (fun _ _ z => False.elim z)
          have gone : ∀ {σ7 : L2.St} {H7 : Hp} {Q : Shared → Prop}, Inv (X.suite a (X.pn ++ pins)) [] σ7 H7 s7 → (∀ s8, Inv X pins (σ7.set i none) H7 s8 → Q s8) →
              wpAny (model X.prog X.w) X.A (do bindName X.env n .none; unbindBehindTheSuite X.env n pos') (fun _ s8 => Q s8) X.xe s7 := fun S7 hq => gone_ok (of_suite S7 ok) hN hi hln hq
          match f, hsp with
          | .next, hsp =>
            obtain ⟨σ7, H7, S7, q7⟩ := hsp
            exact gone S7 fun _ J8 => ⟨_, _, J8, q7⟩
          | .brk, hsp =>
            obtain ⟨σ7, H7, S7, q7⟩ := hsp
            exact gone S7 fun _ J8 => ⟨_, _, J8, q7⟩
          | .cont, hsp =>
            obtain ⟨σ7, H7, S7, q7⟩ := hsp
            exact gone S7 fun _ J8 => ⟨_, _, J8, q7⟩
          | .ret u, hsp =>
            obtain ⟨v7, σ7, H7, S7, r7, q7⟩ := hsp
            exact gone S7 fun _ J8 => ⟨_, _, _, J8, r7, q7⟩
    exact go hh w
  refine wpAny_mono ((hb _ (X.pn ++ pins) xe' caught PassesOwn.looking).run [] s σ H D (I.toTry _) h) (fun f s1 hsp => ?_) (fun _ _ z => z)
  match f, hsp with
  | .next, hsp =>
    obtain ⟨σ2, H2, J2, q⟩ := hsp
    exact wpAny_execs_nil ⟨σ2, H2, J2.ofTry ok, q⟩
  | .brk, hsp =>
    obtain ⟨σ2, H2, J2, q⟩ := hsp
    exact ⟨σ2, H2, J2.ofTry ok, q⟩
  | .cont, hsp =>
    obtain ⟨σ2, H2, J2, q⟩ := hsp
    exact ⟨σ2, H2, J2.ofTry ok, q⟩
  | .ret u, hsp =>
    obtain ⟨v, σ2, H2, J2, r, q⟩ := hsp
    exact ⟨v, σ2, H2, J2.ofTry ok, r, q⟩
end
end FW
namespace FW
open PySem PySem.Spec PyProof.Rows L2
-- more
section
variable {P : Program} {w : World} {K : PySem.W.Frag} {mg : Str → Option Value} {base : Heap}
abbrev s__law_pair : Stmt := topS 83
theorem sc__law_pair : FnScope ["_law_ratio"] ["_law_ratio"] (defScope s__law_pair) := ⟨rfl, rfl, rfl, by decide +kernel, rfl, by decide +kernel, by decide +kernel⟩
def sp__law_pair (K : PySem.W.Frag) (CR : Addr) : Sp := fun vs H Q _ => ∃ (x : Addr) (a b : Int), vs = [.ref x] ∧ RatAt CR H x a b ∧ ∀ p, H p = none → Q (.ref p) (upd H p (tupI a b))
theorem okw__law_pair {f CR : Addr} {fd : FuncData} (F : Fun K "_law_pair" "_law_pair" s__law_pair f fd) (RC : RatC K CR) : FnW P w K mg base 1 f fd ["_law_ratio"] (sp__law_pair K CR) := by
  refine okW F sc__law_pair (fun vs H Q E h => ?_) (fun cdv A outer s H vs Q p hr h => ?_)
  · obtain ⟨x, a, b, rfl, _⟩ := h
    rfl
  obtain ⟨x, a, b, rfl, ⟨dx, hx⟩, q⟩ := h
  refine ⟨_, (pss_one (ps_ret (pe_tup (pa_cons (pe_fld (pv 0) rfl) (pa_cons (pe_fld (pv 0) rfl) pa_nil))))), ?_⟩
  exact ⟨_, rfl, x, CR, dx, _, _, rfl, hx, RC.c, RC.nt, rfl, _, rfl, x, CR, dx, _, _, rfl, hx, RC.c, RC.nb, rfl, (show 2 ≤ sizeLine by decide), fun p np => q p np⟩
abbrev s__law_raised_ratio : Stmt := topS 87
theorem sc__law_raised_ratio : FnScope ["_law_ask", "_law_e"] ["_law_ask"] (defScope s__law_raised_ratio) := ⟨rfl, rfl, rfl, by decide +kernel, rfl, by decide +kernel, by decide +kernel⟩
/-- what it makes of what it asks -/
def TRat (CI CR : Addr) : (XK → Hp → VK → Prop) → Hp → VK → Prop := fun tl H Q =>
  tl (fun cls d H1 => ∃ (dd z : Addr) (t b : Int), cls = .ref CI ∧ d = some dd ∧ H1 dd = some (Err1 "given" "InvalidRatio" (.ref z)) ∧ RatAt CR H1 z t b ∧ ∀ (H2 : Hp) (p q : Addr), Same H1 H2 → H2 q = some (tupI t b) → H2 p = some (.tup [.str "InvalidRatio", .ref q]) → Q (.ref p) H2)
    H (fun v H1 => [V.str "", v].length ≤ sizeLine ∧ ∀ p, H1 p = none → Q (.ref p) (upd H1 p (.tup [.str "", v])))
theorem tRat_mono {CI CR : Addr} : ∀ (tl tl' : XK → Hp → VK → Prop) (H : Hp) (Q : VK), (∀ E Q', tl E H Q' → tl' E H Q') → TRat CI CR tl H Q → TRat CI CR tl' H Q := fun _ _ _ _ h z => h _ _ z
/-- what is told of the class of the errors -/
structure RErr (K : PySem.W.Frag) (CI : Addr) : Prop where
  ex : PySem.W.exmOne K (.ref CI) (.ref CI) = some true
  xf : XfC K CI
  nc : PySem.W.findIn K (.ref CI) "code" = some none
  ng : PySem.W.findIn K (.ref CI) "given" = some none
theorem gives__law_raised_ratio {X : Cx} {g CI CR fP : Addr} {fdP : FuncData} {cdg : Value} {q : Str} {k : Nat} (T : Z X.mg) (FP : FnW X.prog X.w X.K X.mg X.base 1 fP fdP ["_law_ratio"] (sp__law_pair X.K CR)) (mP : X.mg "_law_pair" = some (.ref fP)) (kP : PySem.W.keepIn X.K (.ref fP) = true) (bP : Binds X.K fdP ["_law_ratio"] [])
    (gI : X.mg "InvalidRatio" = some (.ref CI)) (gR : X.mg "Ratio" = some (.ref CR)) (RE : RErr X.K CI) (RC : RatC X.K CR) (RB : BookE X.K CR) (hr : Room (k + 3) X.A) :
    LamX.GivesTo X ["_law_ask", "_law_e"] "_law_raised_ratio" (defScope s__law_raised_ratio) g cdg (defBody s__law_raised_ratio) "_law_ask" q (TRat CI CR) := by
  intro f c' s H Q tl act hc h
  have hrm : ∀ (a : Addr) (env : Env), L2H.RoomH 1 ((X.A.deeper env).mark (some (.ref a))) := fun a env => ⟨by
    have z := hr.dp
    show X.A.depth + 1 + 3 * 1 + 5 < _
    omega, by
    have z := hr.un
    show X.A.units + 3 + 16 * 1 + 200 < _
    omega⟩
  refine ⟨_, pss_one (ps_try_manyN (X := (cxOf C8.CX0 X.prog X.w X.K X.mg X.base ["_law_ask", "_law_e"] "_law_raised_ratio" (defScope s__law_raised_ratio) g cdg X.A X.stack s H C8.E0).nox) (i := 1) (l := [(.ref CI, tRet (tTup (tCons (tXk X.K (Str.ofString "code") (tVar 1)) (tCons (tIf (tB (tCB (rIsi X.K) (tCons (tXk X.K (Str.ofString "given") (tVar 1)) (tCons (tC (V.ref CR)) tNil)))) (fun σ H Q => tCons (tXk X.K (Str.ofString "given") (tVar 1)) tNil σ H fun vs H1 => sp__law_pair X.K CR vs H1 Q E0) (tXk X.K (Str.ofString "given") (tVar 1))) tNil))))])
      (tb := fun W D σ H => ∃ Ech : XK, (∀ cls d σ' H', Ech cls d H' → W cls d σ' H') ∧ σ[0]? = some (some (.ref f)) ∧ H c' = some (LamX.CodeO c' q) ∧ tl Ech H fun v H1 => [V.str "", v].length ≤ sizeLine ∧ ∀ p, H1 p = none → D.rt (.ref p) (upd H1 p (.tup [.str "", v])))
      rfl rfl rfl sc__law_raised_ratio.nd rfl rfl takes_none5 (fun W pn xe tk _ => ?body)
      (.cons ⟨by rfl, by decide, .inl gI⟩ (fun a pn => ?suite) .nil)), ?read⟩
  case suite => exact pss_one (ps_ret (pe_tup (pa_cons (pe_xk (pv 1)) (pa_cons (pe_ifExp (pt_val (pe_callB call_isi (by rfl) T.z_isinstance (by decide +kernel) (pa_cons (pe_xk (pv 1)) (pa_cons (pe_glob (v := .ref CR) rfl gR rfl) pa_nil)))) (pe_callW FP (hrm a _) (by rfl) mP kP bP (pa_cons (pe_xk (pv 1)) pa_nil)) (pe_xk (pv 1))) pa_nil))))
  case body =>
    refine ⟨fun pins s' σ H' D I h' => ?_⟩
    obtain ⟨Ech, hW, h1, h2, h3⟩ := h'
    have hp := fun p1 p2 => act W pn xe Ech p1 p2 tk hW
    refine (pss_one (ps_ret (pe_tup (pa_cons pe_str (pa_cons (hp _ _) pa_nil))))).run pins s' σ H' D I ⟨h1, h2, h3⟩
  case read =>
    refine ⟨_, fun cls d σ' H' h' => ?_, rfl, hc, h⟩
    obtain ⟨dd, z, t, b, rfl, rfl, hdd, hz, q⟩ := h'
    refine ⟨true, RE.ex, fun _ a na hl => ?_, (fun h => nomatch h)⟩
    have hlt : 1 < σ'.length := by
      rw [hl]
      exact (by decide : 1 < 2)
    have e1 : (σ'.set 1 (some (V.ref a)))[1]? = some (some (.ref a)) := List.getElem?_set_self hlt
    have sa := same_upd (o := ExK (.ref CI) (some dd) a) na
    have ha : (upd H' a (ExK (.ref CI) (some dd) a)) a = some (ExK (.ref CI) (some dd) a) := upd_same
    have hd2 := sa _ _ hdd
    have hz2 := hz.same sa
    obtain ⟨dz, hz3⟩ := hz2
    refine ⟨_, e1, a, CI, dd, _, _, rfl, ha, hd2, RE.xf, RE.nc, rfl, ?_⟩
    refine ⟨_, e1, a, CI, dd, _, _, rfl, ha, hd2, RE.xf, RE.ng, rfl, _, _, _, _, true, rfl, .own _, .base (.ins hz3 RC.c RB.ca RB.cn RB.ct RB.cm), RB.kit, true, rfl, ?_⟩
    refine iteT ?_
    refine ⟨_, e1, a, CI, dd, _, _, rfl, ha, hd2, RE.xf, RE.ng, rfl, z, t, b, rfl, ⟨dz, hz3⟩, fun pq npq => ?_⟩
    refine ⟨(show 2 ≤ sizeLine by decide), fun p np => ?_⟩
    exact q _ p pq ((sa.trans (same_upd npq)).trans (same_upd np)) ((same_upd np) _ _ upd_same) upd_same
end
end FW
namespace FW
open PySem PySem.Spec PyProof.Rows L2
-- more
section
variable {P : Program} {w : World} {K : PySem.W.Frag} {mg : Str → Option Value} {base : Heap}
/-! what stays through the law of the walks -/
def Keep (b : Addr) (H H' : Hp) : Prop := ∀ c o, H c = some o → c ≠ b → (∀ ps, o ≠ .tbl ps) → H' c = some o
theorem Keep.refl {b : Addr} (H : Hp) : Keep b H H := fun _ _ e _ _ => e
theorem Keep.trans {b : Addr} {H H' H2 : Hp} (s : Keep b H H') (t : Keep b H' H2) : Keep b H H2 := fun c o e n k => t c o (s c o e n k) n k
theorem Keep.same {b : Addr} {H H' : Hp} (s : Same H H') : Keep b H H' := fun c o e _ _ => s c o e
theorem Keep.drawn {b : Addr} {H H' : Hp} (s : But b H H') : Keep b H H' := fun c o e n _ => s c o n e
theorem Keep.ext {b : Addr} {H H' : Hp} (s : LamX.ExtN H H') : Keep b H H' := fun c o e _ k => s c o e k
theorem Keep.tup {b l c : Addr} {H H' : Hp} {xs : List V} (s : Keep b H H') (B : Bag H b l) (h : H c = some (.tup xs)) : H' c = some (.tup xs) := by
  obtain ⟨ys, hb⟩ := B.la
  exact s c _ h (fun z => by rw [z, hb] at h; cases h) (fun _ z => by cases z)
theorem BookAt.keep {CB b l : Addr} {H H' : Hp} {x : Addr} {F C : List Nat} {ls : List LineV} (k : BookAt K CB H x F C ls) (s : Keep b H H') (B : Bag H b l) : BookAt K CB H' x F C ls := by
  obtain ⟨ys, hb⟩ := B.la
  obtain ⟨dx, tl, h1, h2⟩ := k.at_
  exact ⟨⟨dx, tl, s _ _ h1 (fun z => by rw [z, hb] at h1; cases h1) (fun _ z => by cases z), s _ _ h2 (fun z => by rw [z, hb] at h2; cases h2) (fun _ z => by cases z)⟩, ⟨fun r hr => s.tup B (k.lines.at_ r hr), k.lines.ok, k.lines.few⟩, k.lens, k.chr⟩
/-- placed steps as they stand -/
def PSpAt (H : Hp) (ts : List Addr) (ss : List PStp) : Prop := ts.length = ss.length ∧ ∀ (i : Nat) (t : Addr) (s : PStp), ts[i]? = some t → ss[i]? = some s → H t = some (.tup [.str (S s.1), .str (S [s.2.1]), .int s.2.2.1, .int s.2.2.2])
theorem PSpAt.at {H : Hp} {ts : List Addr} {ss : List PStp} (h : PSpAt H ts ss) : PStepsAt K H ts ss := ⟨h.1, fun i t s h1 h2 => SqT.of (h.2 i t s h1 h2)⟩
/-- the index of a side in a box; the side -/
def sideI (k : Nat) (x : IB) : Int := match k with
  | 0 => x.w
  | 1 => x.n
  | 2 => x.e
  | _ => x.s
/-- where a side's pair stands -/
def sideA (H : Hp) (k : Nat) (q : FR × Addr) : V := match H q.2 with
  | some (.tup [_, .ref p]) => (match H p with
    | some (.tup l) => l.getD k .non
    | _ => .non)
  | _ => .non
theorem side_at {H : Hp} {D : Int} {q : FR × Addr} (h : CellAt PairN H D q) {k : Nat} (hk : k < 4) : ∃ (p a : Addr) (l : List V), H q.2 = some (.tup [.str (S q.1.2.1), .ref p]) ∧ H p = some (.tup l) ∧ l[k]? = some (.ref a) ∧ sideA H k q = .ref a ∧ H a = some (tupI (low (sideI k q.1.2.2) D).1 (low (sideI k q.1.2.2) D).2) := by
  obtain ⟨p, h1, w, n, e, s, h2, b1, b2, b3, b4⟩ := h
  have hs : sideA H k q = ([V.ref w, .ref n, .ref e, .ref s] : List V).getD k .non := by
    unfold sideA
    rw [h1]
    dsimp only
    rw [h2]
  match k, hk with
  | 0, _ => exact ⟨p, w, _, h1, h2, rfl, hs, b1⟩
  | 1, _ => exact ⟨p, n, _, h1, h2, rfl, hs, b2⟩
  | 2, _ => exact ⟨p, e, _, h1, h2, rfl, hs, b3⟩
  | 3, _ => exact ⟨p, s, _, h1, h2, rfl, hs, b4⟩
def kN (v : Bool) : Nat := if v = true then 1 else 0
def kF (v : Bool) : Nat := if v = true then 3 else 2
def kL (v : Bool) : Nat := if v = true then 0 else 1
theorem sideN (v : Bool) (x : IB) : sideI (kN v) x = nearV v x := by cases v <;> rfl
theorem sideF (v : Bool) (x : IB) : sideI (kF v) x = farV v x := by cases v <;> rfl
theorem sideL (v : Bool) (x : IB) : sideI (kL v) x = alongV v x := by cases v <;> rfl
theorem kN_lt (v : Bool) : kN v < 4 := by cases v <;> decide
theorem kF_lt (v : Bool) : kF v < 4 := by cases v <;> decide
theorem kL_lt (v : Bool) : kL v < 4 := by cases v <;> decide
/-- what stands through a turn of the law -/
structure St (K : PySem.W.Frag) (CB : Addr) (TL : List (Addr × Str)) (H : Hp) (b l x : Addr) (F C : List Nat) (ls4 : List LineV) (sl bd : Addr) (ts : List Addr) (ss : List PStp) (D : Int) (qs : List (FR × Addr)) : Prop where
  book : BookAt K CB H x F C ls4
  bag : Bag H b l
  tabs : LamX.Tabs TL H
  steps : H sl = some (.lst (ts.map V.ref))
  sts : PSpAt H ts ss
  dict : H bd = some (.dK (kvF qs))
  cells : ∀ q ∈ qs, CellAt PairN H D q
  sb : sl ≠ b
theorem CellAt.keep {b l : Addr} {H H' : Hp} {D : Int} {q : FR × Addr} (h : CellAt PairN H D q) (s : Keep b H H') (B : Bag H b l) : CellAt PairN H' D q := by
  obtain ⟨p, h1, w, n, e, s', h2, b1, b2, b3, b4⟩ := h
  exact ⟨p, s.tup B h1, w, n, e, s', s.tup B h2, s.tup B b1, s.tup B b2, s.tup B b3, s.tup B b4⟩
theorem St.keep {CB : Addr} {TL : List (Addr × Str)} {H H' : Hp} {b l x : Addr} {F C : List Nat} {ls4 : List LineV} {sl bd : Addr} {ts : List Addr} {ss : List PStp} {D : Int} {qs : List (FR × Addr)} (h : St K CB TL H b l x F C ls4 sl bd ts ss D qs) (s : Keep b H H') (B : Bag H' b l) (T : LamX.Tabs TL H') : St K CB TL H' b l x F C ls4 sl bd ts ss D qs := by
  obtain ⟨ys, hb⟩ := h.bag.la
  have hd := h.dict
  exact ⟨h.book.keep s h.bag, B, T, s _ _ h.steps h.sb (fun _ z => by cases z), ⟨h.sts.1, fun i t s' h1 h2 => s.tup h.bag (h.sts.2 i t s' h1 h2)⟩, s _ _ hd (fun z => by rw [z, hb] at hd; cases hd) (fun _ z => by cases z), fun q hq => (h.cells q hq).keep s h.bag, h.sb⟩
/-- a comprehension over the keys of a locked dict that leaves the heap -/
theorem lc_keysP {α : Type} {kf : α → Key × V} {d : Addr} {o : Obj} {σ : L2.St} {vs : List Nat} {H1 : Hp} {D : Addr} {Qd : Hp → Prop} {i : Nat} {tt : TT} {te : TE} (qs : List α) (t : α → Bool) (v : α → V) (hd : H1 d = some (.frz o (.dK (qs.map kf)))) (nD : H1 D = none) (hz : qs.length < sizeLine) (hw : ∀ x : V, wipe ((wipe σ vs).set i (some x)) vs = wipe σ vs)
    (hT : ∀ q ∈ qs, ∀ H, Same H1 H → ∀ R : Bool → Hp → Prop, R (t q) H → tt ((wipe σ vs).set i (some (kV (kf q).1))) H R)
    (hE : ∀ q ∈ qs, t q = true → ∀ H, Same H1 H → ∀ R : VK, R (v q) H → te ((wipe σ vs).set i (some (kV (kf q).1))) H R)
    (q : Qd (upd H1 D (.lst ((qs.filter t).map v)))) :
    ∃ W : Nat → Nat → Hp → Prop, (∃ m, W 0 m (upd H1 D (.lst []))) ∧ ∀ j m H, W j m H →
      ((Itk d o (qs.map kf)).stop j H ∧ Qd H) ∨ ((Itk d o (qs.map kf)).go j H ∧ ∃ Nx : Hp → Prop, (∀ H', Nx H' → ∃ m', m' < m ∧ W (j + 1) m' H') ∧ ∀ x H', (Itk d o (qs.map kf)).yld j H x H' → gName i x (wipe σ vs) H' fun σ2 H2 => wipe σ2 vs = wipe σ vs ∧ tt σ2 H2 fun b H3 =>
        if b = true then te σ2 H3 fun y H4 => ∃ acc, H4 D = some (.lst acc) ∧ acc.length < sizeLine ∧ Nx (upd H4 D (.lst (acc ++ [y]))) else Nx H3) := by
  refine lc_it (walk_keys (kvs := qs.map kf)) (fun i H' => H' = upd H1 D (.lst (((qs.take i).filter t).map v))) rfl (fun j H' _ e => by rw [e]; exact (same_upd nD) _ _ hd) ?_ ?_
  · rintro j x _ H' hj rfl ⟨rfl, k, u, hc, rfl⟩
    rw [List.getElem?_map] at hc
    obtain ⟨y, hc1, hk⟩ := Option.map_eq_some_iff.mp hc
    obtain rfl : k = (kf y).1 := by rw [hk]
    have e : qs.take (j + 1) = qs.take j ++ [y] := by
      rw [List.take_add_one, hc1]
      rfl
    have hm := List.mem_of_getElem? hc1
    refine ⟨hw _, hT y hm _ (same_upd nD) _ ?_⟩
    rw [e, List.filter_append, List.filter_cons]
    cases h : t y with
    | true =>
      rw [if_pos rfl]
      refine hE y hm h _ (same_upd nD) _ ⟨_, upd_same, ?_, ?_⟩
      · rw [List.length_map]
        refine Nat.lt_of_le_of_lt (List.length_filter_le _ _) (Nat.lt_of_le_of_lt (List.length_take_le' _ _) hz)
      · rw [upd_upd, if_pos rfl, List.map_append]
        rfl
    | false =>
      rw [if_neg Bool.false_ne_true, if_neg Bool.false_ne_true, List.filter_nil, List.append_nil]
  · rintro _ rfl
    rw [List.take_of_length_le (by rw [List.length_map]; exact Nat.le_refl _)]
    exact q
theorem unlock_heap {H : Hp} {d D : Addr} {x u l : HO} (hd : H d = some u) (nD : H D = none) : upd (upd (upd H d x) D l) d u = upd H D l := by
  have hne : d ≠ D := ne_of_none hd nD
  funext c
  by_cases h1 : c = d
  · rw [h1, upd_same, upd_ne hne, hd]
  · rw [upd_ne h1]
    by_cases h2 : c = D
    · rw [h2, upd_same, upd_same]
    · rw [upd_ne h2, upd_ne h2, upd_ne h1]
theorem along_bd {D : Int} {x : IB} (o : x.Ok D) (v : Bool) : 0 ≤ alongV v x ∧ alongV v x ≤ D := by
  have h1 := o.we
  have h2 := o.ns
  have h3 := o.w0
  have h4 := o.n0
  have h5 := o.e1
  have h6 := o.s1
  cases v with
  | true => exact ⟨h3, by show x.w ≤ D; omega⟩
  | false => exact ⟨h4, by show x.n ≤ D; omega⟩
/-! which boxes meet -/
def meetB (up : Bool) (x y : IB) : Bool := if up = true then decide (x.e = y.w) && (decide (x.n < y.s) && decide (y.n < x.s)) else decide (x.s = y.n) && (decide (x.w < y.e) && decide (y.w < x.e))
def sgU (up : Bool) : Nat := if up = true then 124 else 45
/-- ratios of one whole, compared -/
theorem low_inj {a b D : Int} (hD : 0 < D) (h : low a D = low b D) : a = b := by
  obtain ⟨c1, p1⟩ := low_cross (t := a) (show D ≠ 0 by omega)
  obtain ⟨c2, p2⟩ := low_cross (t := b) (show D ≠ 0 by omega)
  rw [h] at c1 p1
  have : a * (low b D).2 = b * (low b D).2 := by rw [← c1, ← c2]
  exact Int.eq_of_mul_eq_mul_right (by omega) this
theorem low_eq_iff {a b D : Int} (hD : 0 < D) : ((low a D).1 = (low b D).1 ∧ (low a D).2 = (low b D).2) ↔ a = b := ⟨fun h => low_inj hD (Prod.ext h.1 h.2), fun h => by rw [h]; exact ⟨rfl, rfl⟩⟩
theorem low_lt_iff {a b D : Int} (hD : 0 < D) : (low a D).1 * (low b D).2 < (low b D).1 * (low a D).2 ↔ a < b := by
  obtain ⟨c1, p1⟩ := low_cross (t := a) (show D ≠ 0 by omega)
  obtain ⟨c2, p2⟩ := low_cross (t := b) (show D ≠ 0 by omega)
  generalize (low a D).1 = x at *
  generalize (low a D).2 = y at *
  generalize (low b D).1 = z at *
  generalize (low b D).2 = u at *
  have hyu : 0 < y * u := Int.mul_pos p1 p2
  have e1 : (x * u) * D = a * (y * u) := by grind
  have e2 : (z * y) * D = b * (y * u) := by grind
  constructor
  · intro h
    have h1 := Int.mul_lt_mul_of_pos_right h hD
    rw [e1, e2] at h1
    exact Int.lt_of_mul_lt_mul_right h1 (by omega)
  · intro h
    have h1 := Int.mul_lt_mul_of_pos_right h hyu
    rw [← e1, ← e2] at h1
    exact Int.lt_of_mul_lt_mul_right h1 (by omega)
theorem dec_lt {a b D : Int} (hD : 0 < D) : decide ((low a D).1 * (low b D).2 < (low b D).1 * (low a D).2) = decide (a < b) := decide_eq_decide.mpr (low_lt_iff hD)
theorem dec_eq {a b D : Int} (hD : 0 < D) : decide ((low a D).1 = (low b D).1 ∧ (low a D).2 = (low b D).2) = decide (a = b) := decide_eq_decide.mpr (low_eq_iff hD)
/-! the rooms that a walk meets, by their places -/
theorem asc_ex : ∀ {st : List FR}, (st.map (·.1)).Nodup → ∃ so, AscF so st
  | [], _ => ⟨[], .nil, .nil⟩
  | r :: st, nd => by
    rw [List.map_cons, List.nodup_cons] at nd
    obtain ⟨so, p, w⟩ := asc_ex nd.2
    refine ⟨so.filter (fun x => decide (x.1 < r.1)) ++ r :: so.filter (fun x => !decide (x.1 < r.1)), ?_, ?_⟩
    · exact List.perm_middle.trans (((List.filter_append_perm _ so).trans p).cons r)
    · rw [List.pairwise_append, List.pairwise_cons]
      refine ⟨w.filter _, ⟨fun y hy => ?_, w.filter _⟩, fun x hx y hy => ?_⟩
      · obtain ⟨hy1, hy2⟩ := List.mem_filter.mp hy
        have n1 : ¬ y.1 < r.1 := by simpa using hy2
        have ne : y.1 ≠ r.1 := fun z => nd.1 (by rw [← z]; exact List.mem_map.mpr ⟨y, p.mem_iff.mp hy1, rfl⟩)
        rcases lt_or n1 with h | h
        · exact h
        · exact absurd h ne
      · have hx2 : x.1 < r.1 := by simpa using (List.mem_filter.mp hx).2
        rcases List.mem_cons.mp hy with rfl | hy
        · exact hx2
        · obtain ⟨hy1, hy2⟩ := List.mem_filter.mp hy
          have n1 : ¬ y.1 < r.1 := by simpa using hy2
          rcases lt_or n1 with h | h
          · exact List.lt_trans hx2 h
          · rw [h]
            exact hx2
def ktR (a : Nat × List Nat) : List Key := [Sum.inl (a.1 : Nat), Sum.inr (S a.2)]
theorem ktR_inj {a b : Nat × List Nat} (h : ktR a = ktR b) : a = b := by
  obtain ⟨h1, h2⟩ := List.cons.inj h
  obtain ⟨h3, _⟩ := List.cons.inj h2
  refine Prod.ext ?_ (S_inj (Sum.inr.inj h3))
  have := Sum.inl.inj h1
  omega
theorem ktR_form : ∀ a : Nat × List Nat, shpK (ktR a) = true :: [false] := fun _ => rfl
theorem ktR_lt {a b : Nat × List Nat} (h : a.1 < b.1) : lexK (ktR b) (ktR a) = false := by
  cases e : lexK (ktR b) (ktR a) with
  | false => rfl
  | true =>
    exfalso
    unfold ktR lexK at e
    revert e
    have h1 : kLt (Sum.inl (b.1 : Int)) (Sum.inl (a.1 : Int)) = false := decide_eq_false (by omega)
    have h2 : (Sum.inl (b.1 : Int) : Key) ≠ Sum.inl (a.1 : Int) := fun z => by
      have := Sum.inl.inj z
      omega
    simp [h1, h2]
theorem row_order {v : Bool} {D t b : Int} {st : List FR} {qs : List (FR × Addr)} (h : FlOk D st) (o : FlOrd st) (hb : 0 < b) (hqs : qs.map (·.1) = st) {so rows : List (Addr × (Nat × List Nat))}
    (hrow : rows.map (·.2) = (qs.filter fun q => metW v D t b q.1.2.2).map fun q => (((qs.filter fun q => metW v D t b q.1.2.2).filter fun o => decide (alongV v o.1.2.2 < alongV v q.1.2.2)).length, q.1.1))
    (p : so.Perm rows) (s : (so.map (·.2)).Pairwise fun x y => lexK (ktR y) (ktR x) = false) : ∃ sf, AscF sf st ∧ so.map (·.2.2) = walkW v D t b sf := by
  obtain ⟨sf, ha⟩ := asc_ex h.nd
  refine ⟨sf, ha, ?_⟩
  have pw := walk_pw (v := v) (t := t) h o hb ha
  have hM : ((qs.filter fun q => metW v D t b q.1.2.2).map (·.1)) = st.filter fun r => metW v D t b r.2.2 := by
    rw [← hqs, List.filter_map]
    rfl
  have hperm : (st.filter fun r => metW v D t b r.2.2).Perm (sf.filter fun r => metW v D t b r.2.2) := ha.1.symm.filter _
  unfold walkW
  generalize hW : (sf.filter fun r => metW v D t b r.2.2) = W at pw hperm ⊢
  have hcnt : ∀ r : FR, ((qs.filter fun q => metW v D t b q.1.2.2).filter fun o => decide (alongV v o.1.2.2 < alongV v r.2.2)).length = (W.filter fun o => decide (alongV v o.2.2 < alongV v r.2.2)).length := fun r => by
    rw [← (hperm.filter fun o => decide (alongV v o.2.2 < alongV v r.2.2)).length_eq, ← hM, List.filter_map, List.length_map]
    rfl
  have e1 : rows.map (·.2) = (st.filter fun r => metW v D t b r.2.2).map fun r => ((W.filter fun o => decide (alongV v o.2.2 < alongV v r.2.2)).length, r.1) := by
    rw [hrow, ← hM, List.map_map]
    refine List.map_congr_left fun q _ => ?_
    show (_, _) = (_, _)
    rw [hcnt q.1]
  have p1 : (so.map (·.2)).Perm (W.map fun r => ((W.filter fun o => decide (alongV v o.2.2 < alongV v r.2.2)).length, r.1)) := by
    refine (p.map (·.2)).trans ?_
    rw [e1]
    exact hperm.map _
  have w1 : (W.map fun r => ((W.filter fun o => decide (alongV v o.2.2 < alongV v r.2.2)).length, r.1)).Pairwise fun x y => lexK (ktR y) (ktR x) = false := by
    rw [List.pairwise_map, List.pairwise_iff_getElem]
    intro i j hi hj hij
    refine ktR_lt ?_
    show (W.filter fun o => decide (alongV v o.2.2 < alongV v W[i].2.2)).length < (W.filter fun o => decide (alongV v o.2.2 < alongV v W[j].2.2)).length
    rw [cnt_at (fun r : FR => alongV v r.2.2) pw (List.getElem?_eq_getElem hi), cnt_at (fun r : FR => alongV v r.2.2) pw (List.getElem?_eq_getElem hj)]
    exact hij
  have e2 := lexK_uniq (fun a _ b _ e => ktR_inj e) s w1 p1
  have e3 := congrArg (List.map (·.2)) e2
  rw [List.map_map, List.map_map] at e3
  exact e3
end
end FW
namespace FW
open PySem PySem.Spec PyProof.Rows L2
-- more
section
variable {P : Program} {w : World} {K : PySem.W.Frag} {mg : Str → Option Value} {base : Heap}
abbrev s_law : Stmt := topS 88
theorem sc_law : FnScope ["_law_script", "_law_bag", "_law_turn", "_law_spec", "_law_book_z", "_law_start_z", "_law_steps_z", "_law_boxes", "_law_view_z", "_law_low_here", "_law_high", "_law_along", "_law_shuts", "_law_place", "_law_at_z", "_law_due", "_law_met", "_law_row", "_law_one", "_law_spot", "_law_ratio", "_law_found", "_law_odd", "_law_cold", "_law_asks", "_law_other"] ["_law_script"] (defScope s_law) := ⟨rfl, rfl, rfl, by decide +kernel, rfl, by decide +kernel, by decide +kernel⟩
abbrev lm (s : Stmt) (j : Nat) : Arguments × Expr × Scope := lamParts ((listOf s).getD j (.Constant .none 0 ⟨0, 0, 0, 0⟩))
abbrev XL (P : Program) (w : World) (K : PySem.W.Frag) (mg : Str → Option Value) (base : Heap) (f c : Addr) (A : Around) (outer : List Env) (s : Shared) (H : Hp) (E : XK) : Cx :=
  (cxOf CX0 P w K mg base ["_law_script", "_law_bag", "_law_turn", "_law_spec", "_law_book_z", "_law_start_z", "_law_steps_z", "_law_boxes", "_law_view_z", "_law_low_here", "_law_high", "_law_along", "_law_shuts", "_law_place", "_law_at_z", "_law_due", "_law_met", "_law_row", "_law_one", "_law_spot", "_law_ratio", "_law_found", "_law_odd", "_law_cold", "_law_asks", "_law_other"] "law" (defScope s_law) f (.ref c) A outer s H E).nox
def sp_law (K : PySem.W.Frag) (Pt : Addr) : Sp := fun vs H Q _ => ∃ (a : Addr) (ns : List Int), vs = [.ref a] ∧ SqL K H a (ns.map V.int) ∧ ns.length ≤ 63 ∧ H Pt = some (.tbl #[]) ∧ ∀ H', Q (.bl true) H'
theorem hu65 {k : Nat} {A : Around} (r : Room k A) : A.units + 65 < cLine := by
  have := r.un
  omega
def argOf : Expr → Expr
  | .Call _ (e :: _) _ _ => e
  | e => e
def forB : Stmt → List Stmt
  | .For _ _ b _ _ => b
  | _ => []
abbrev ps0 : Stmt := .Pass ⟨0, 0, 0, 0⟩
abbrev lmC (j : Nat) : Arguments × Expr × Scope := lamParts (argOf ((listOf ((forB ((forB ((forB ((defBody s_law).getD 1 ps0)).getD 3 ps0)).getD 2 ps0)).getD 3 ps0)).getD j (.Constant .none 0 ⟨0, 0, 0, 0⟩)))
def rTupOf (K : PySem.W.Frag) : List V → Hp → VK → Prop := fun xs H Q => ∃ p ys, xs = [V.ref p] ∧ ((SqL K H p ys ∧ ∀ l, H l = none → Q (.ref l) (upd H l (.tup ys))) ∨ (SqT K H p ys ∧ Q (.ref p) H))
theorem call_tuple_ofE {X : Cx} {K : PySem.W.Frag} (h : X.K = K) : CallR X (.type "tuple") (rTupOf K) := by
  subst h
  exact call_tuple_of
abbrev tabL (Pt f c : Addr) : List (Addr × Str) := [(Pt, (envOfC "law" (defScope s_law) 0 f (.ref c)).qual ++ "<lambda>")]
/-- the last turn's things -/
def LastS (K : PySem.W.Frag) (CB : Addr) (TL : List (Addr × Str)) (H : Hp) (b l : Addr) (y4 y5 y6 : Option V) : Prop := ∃ (x : Addr) (F C : List Nat) (ls4 : List LineV) (start : List Nat) (sl bd : Addr) (ts : List Addr) (ss : List PStp) (D : Int) (qs : List (FR × Addr)),
  y4 = some (.ref x) ∧ y5 = some (.str (S start)) ∧ y6 = some (.ref sl) ∧ St K CB TL H b l x F C ls4 sl bd ts ss D qs ∧ start.length = 4 ∧ (∀ y ∈ start, y ∈ F) ∧ ss.length ≤ 400 ∧ PVal (cutL ls4) C (flStart start) ss
def kfF (q : FR × Addr) : Key × V := ((Sum.inr (S q.1.1) : Key), V.ref q.2)
theorem get_box {qs : List (FR × Addr)} {H : Hp} {bd : Addr} {q : FR × Addr} (nd : (qs.map (·.1.1)).Nodup) (hq : q ∈ qs) (hd : Rd H bd (.dK (qs.map kfF))) : DGet H bd (.str (S q.1.1)) (some (.ref q.2)) :=
  .inl ⟨qs.map kfF, Sum.inr (S q.1.1), hd, rfl, by
    show _ = valV (kvF qs) (Sum.inr (S q.1.1))
    rw [valV_kvF, lkQ_of nd hq]
    rfl⟩
/-- a pair in lowest terms at v -/
def OkAt (H : Hp) (v : V) : Prop := ∃ (r : Addr) (t bb : Int), v = .ref r ∧ H r = some (tupI t bb) ∧ low t bb = (t, bb) ∧ 0 < bb ∧ Sm t ∧ Sm bb
theorem okAt_low {H : Hp} {r : Addr} {t b : Int} (hb : b ≠ 0) (h1 : t.natAbs < 2 ^ 63) (h2 : b.natAbs < 2 ^ 63) (h : H r = some (tupI (low t b).1 (low t b).2)) : OkAt H (.ref r) :=
  ⟨r, _, _, rfl, h, low_low hb, (low_cross hb).2, Nat.lt_of_le_of_lt (low_le hb).1 h1, Nat.lt_of_le_of_lt (low_le hb).2 h2⟩
theorem OkAt.keep {b l : Addr} {H H' : Hp} {v : V} (o : OkAt H v) (s : Keep b H H') (B : Bag H b l) : OkAt H' v := by
  obtain ⟨r, t, bb, e, h, k⟩ := o
  exact ⟨r, t, bb, e, s.tup B h, k⟩
theorem okAt_lit {H : Hp} {r : Addr} {t b : Int} (h : H r = some (.tup [V.int t, V.int b])) (e : low t b = (t, b)) (hb : 0 < b) (h1 : Sm t) (h2 : Sm b) : OkAt H (.ref r) := ⟨r, t, b, rfl, h, e, hb, h1, h2⟩
theorem flStep_pos {cut : List Nat → Nat → List Nat} {F : Fl} {s : PStp} (h : 0 < F.2.length) : 0 < (flStep cut F s).2.length := by
  unfold flStep
  split
  · exact h
  · split
    · unfold flCut
      dsimp only
      rw [List.length_append]
      exact Nat.lt_of_lt_of_le (show 0 < 2 by decide) (Nat.le_add_left _ _)
    · exact h
theorem flRun_pos {cut : List Nat → Nat → List Nat} : ∀ {ss : List PStp} {F : Fl}, 0 < F.2.length → 0 < (flRun cut F ss).2.length
  | [], _, h => h
  | _ :: ss, _, h => flRun_pos (ss := ss) (flStep_pos h)
/-- a comprehension over a list that leaves the heap -/
theorem lc_listQ {α : Type} {K : PySem.W.Frag} {vf : α → V} {a : Addr} {σ : L2.St} {vs : List Nat} {H1 : Hp} {D : Addr} {Qd : Hp → Prop} {i : Nat} {tt : TT} {te : TE} (qs : List α) (t : α → Bool) (v : α → V) (ha : SqL K H1 a (qs.map vf)) (nD : H1 D = none) (hz : qs.length < sizeLine) (hw : ∀ x : V, wipe ((wipe σ vs).set i (some x)) vs = wipe σ vs)
    (hT : ∀ q ∈ qs, ∀ H, Same H1 H → ∀ R : Bool → Hp → Prop, R (t q) H → tt ((wipe σ vs).set i (some (vf q))) H R)
    (hE : ∀ q ∈ qs, t q = true → ∀ H, Same H1 H → ∀ R : VK, R (v q) H → te ((wipe σ vs).set i (some (vf q))) H R)
    (q : ∀ H', Same H1 H' → H' D = some (.lst ((qs.filter t).map v)) → Qd H') :
    ∃ W : Nat → Nat → Hp → Prop, (∃ m, W 0 m (upd H1 D (.lst []))) ∧ ∀ j m H, W j m H →
      ((Itl K a).stop j H ∧ Qd H) ∨ ((Itl K a).go j H ∧ ∃ Nx : Hp → Prop, (∀ H', Nx H' → ∃ m', m' < m ∧ W (j + 1) m' H') ∧ ∀ x H', (Itl K a).yld j H x H' → gName i x (wipe σ vs) H' fun σ2 H2 => wipe σ2 vs = wipe σ vs ∧ tt σ2 H2 fun b H3 =>
        if b = true then te σ2 H3 fun y H4 => ∃ acc, H4 D = some (.lst acc) ∧ acc.length < sizeLine ∧ Nx (upd H4 D (.lst (acc ++ [y]))) else Nx H3) := by
  refine lc_it (walk_list (xs := qs.map vf)) (fun i H' => H' = upd H1 D (.lst (((qs.take i).filter t).map v))) rfl (fun j H' _ e => by rw [e]; exact (same_upd nD).seq ha) ?_ ?_
  · rintro j x _ H' hj rfl ⟨rfl, hc⟩
    rw [List.getElem?_map] at hc
    obtain ⟨y, hc1, rfl⟩ := Option.map_eq_some_iff.mp hc
    have e : qs.take (j + 1) = qs.take j ++ [y] := by
      rw [List.take_add_one, hc1]
      rfl
    have hm := List.mem_of_getElem? hc1
    refine ⟨hw _, hT y hm _ (same_upd nD) _ ?_⟩
    rw [e, List.filter_append, List.filter_cons]
    cases h : t y with
    | true =>
      rw [if_pos rfl]
      refine hE y hm h _ (same_upd nD) _ ⟨_, upd_same, ?_, ?_⟩
      · rw [List.length_map]
        refine Nat.lt_of_le_of_lt (List.length_filter_le _ _) (Nat.lt_of_le_of_lt (List.length_take_le' _ _) hz)
      · rw [upd_upd, if_pos rfl, List.map_append]
        rfl
    | false =>
      rw [if_neg Bool.false_ne_true, if_neg Bool.false_ne_true, List.filter_nil, List.append_nil]
  · rintro _ rfl
    rw [List.take_of_length_le (by rw [List.length_map]; exact Nat.le_refl _)]
    exact q _ (same_upd nD) upd_same
/-- what a walk tells, or how it is refused -/
def ResAt (v : Bool) (Fi : Fl) (tt bb : Int) (H : Hp) (d : Addr) : Prop :=
  (WalkOk v Fi tt bb ∧ ∃ (p : Addr) (so : List FR), AscF so Fi.2 ∧ H d = some (.tup [.str "", .ref p]) ∧ H p = some (.lst ((walkW v Fi.1 tt bb so).map fun a => V.str (S a)))) ∨
  (¬ WalkOk v Fi tt bb ∧ ∃ q : Addr, H d = some (.tup [.str "InvalidRatio", .ref q]) ∧ H q = some (tupI tt bb))
def pI2 (p : Int × Int) : PyData := .tuple [.int p.1, .int p.2]
theorem dp_pI2 {K : PySem.W.Frag} {H : Hp} {q : Addr} {a b : Int} (h : H q = some (tupI a b)) : Dp K H (.ref q) (pI2 (a, b)) := .tup (SqT.of h) (.cons (.int _) (.cons (.int _) .nil))
theorem eqv_pI2 (a b c d : Int) : PyData.eqv (pI2 (a, b)) (pI2 (c, d)) = decide (a = c ∧ b = d) := by
  show ((a == c) && ((b == d) && true)) = _
  by_cases h1 : a = c
  · by_cases h2 : b = d
    · subst h1
      subst h2
      rw [decide_eq_true ⟨rfl, rfl⟩]
      simp
    · rw [decide_eq_false (fun h => h2 h.2), beq_eq_false_iff_ne.mpr h2]
      simp
  · rw [decide_eq_false (fun h => h1 h.1), beq_eq_false_iff_ne.mpr h1]
    rfl
theorem shaped_pI2 (p : Int × Int) : SeqAt.shaped (pI2 p) = true := Lay.shaped (n := 1) (.tup fun d hd => by
  simp only [List.mem_cons, List.not_mem_nil, or_false] at hd
  rcases hd with rfl | rfl
  · exact .int _
  · exact .int _) (by decide)
theorem shaped_pI2s (l : List (Int × Int)) : SeqAt.shaped (.list (l.map pI2)) = true := Lay.shaped (n := 2) (.lst fun d hd => by
  obtain ⟨p, _, rfl⟩ := List.mem_map.mp hd
  exact .tup fun d hd => by
    simp only [List.mem_cons, List.not_mem_nil, or_false] at hd
    rcases hd with rfl | rfl
    · exact .int _
    · exact .int _) (by decide)
theorem dp_near {K : PySem.W.Frag} {H : Hp} {v : Bool} {D : Int} {sN : FR × Addr → V} : ∀ {qs : List (FR × Addr)}, (∀ q ∈ qs, ∃ sa : Addr, sN q = .ref sa ∧ H sa = some (tupI (low (nearV v q.1.2.2) D).1 (low (nearV v q.1.2.2) D).2)) → DpAll K H (qs.map sN) ((qs.map fun q => low (nearV v q.1.2.2) D).map pI2)
  | [], _ => .nil
  | q :: qs, h => by
    obtain ⟨sa, e1, e2⟩ := h q List.mem_cons_self
    refine .cons ?_ (dp_near fun q' hq => h q' (List.mem_cons_of_mem _ hq))
    rw [e1]
    exact dp_pI2 e2
theorem any_near {v : Bool} {D t b : Int} : ∀ qs : List (FR × Addr), (((qs.map fun q => low (nearV v q.1.2.2) D).map pI2).any fun z => PyData.eqv z (pI2 (t, b))) = qs.any fun q => shutW v D t b q.1.2.2
  | [] => rfl
  | q :: qs => by
    rw [List.map_cons, List.map_cons, List.any_cons, List.any_cons, any_near qs]
    congr 1
    exact eqv_pI2 _ _ _ _
/-- the same over pairs, each taken apart -/
theorem lc_listT {α : Type} {K : PySem.W.Frag} {f : α → Addr} {x y : α → V} {a : Addr} {σ : L2.St} {vs : List Nat} {H1 : Hp} {D : Addr} {Qd : Hp → Prop} {i i2 : Nat} {tt : TT} {te : TE} (qs : List α) (v : α → V) (ha : SqL K H1 a (qs.map fun q => V.ref (f q))) (hq : ∀ q ∈ qs, H1 (f q) = some (.tup [x q, y q])) (nD : H1 D = none) (hz : qs.length < sizeLine) (hw : ∀ u w : V, wipe (((wipe σ vs).set i (some u)).set i2 (some w)) vs = wipe σ vs)
    (hT : ∀ q ∈ qs, ∀ H, Same H1 H → ∀ R : Bool → Hp → Prop, R true H → tt (((wipe σ vs).set i (some (x q))).set i2 (some (y q))) H R)
    (hE : ∀ q ∈ qs, ∀ H, Same H1 H → ∀ R : VK, R (v q) H → te (((wipe σ vs).set i (some (x q))).set i2 (some (y q))) H R)
    (q : Qd (upd H1 D (.lst (qs.map v)))) :
    ∃ W : Nat → Nat → Hp → Prop, (∃ m, W 0 m (upd H1 D (.lst []))) ∧ ∀ j m H, W j m H →
      ((Itl K a).stop j H ∧ Qd H) ∨ ((Itl K a).go j H ∧ ∃ Nx : Hp → Prop, (∀ H', Nx H' → ∃ m', m' < m ∧ W (j + 1) m' H') ∧ ∀ x H', (Itl K a).yld j H x H' → gTup K 2 (gCons (gName i) (gCons (gName i2) gNil)) x (wipe σ vs) H' fun σ2 H2 => wipe σ2 vs = wipe σ vs ∧ tt σ2 H2 fun b H3 =>
        if b = true then te σ2 H3 fun y H4 => ∃ acc, H4 D = some (.lst acc) ∧ acc.length < sizeLine ∧ Nx (upd H4 D (.lst (acc ++ [y]))) else Nx H3) := by
  refine lc_it (walk_list (xs := qs.map fun q => V.ref (f q))) (fun i H' => H' = upd H1 D (.lst ((qs.take i).map v))) rfl (fun j H' _ e => by rw [e]; exact (same_upd nD).seq ha) ?_ ?_
  · rintro j x _ H' hj rfl ⟨rfl, hc⟩
    rw [List.getElem?_map] at hc
    obtain ⟨y, hc1, rfl⟩ := Option.map_eq_some_iff.mp hc
    have hm := List.mem_of_getElem? hc1
    refine ⟨f y, _, rfl, SqT.of ((same_upd nD) _ _ (hq y hm)), rfl, _, _, rfl, _, _, rfl, rfl, hw _ _, hT y hm _ (same_upd nD) _ ?_⟩
    rw [if_pos rfl]
    refine hE y hm _ (same_upd nD) _ ⟨_, upd_same, ?_, ?_⟩
    · rw [List.length_map]
      exact Nat.lt_of_le_of_lt (List.length_take_le' _ _) hz
    · rw [upd_upd, List.take_add_one, hc1, List.map_append]
      rfl
  · rintro _ rfl
    rw [List.take_of_length_le (by rw [List.length_map]; exact Nat.le_refl _)]
    exact q
theorem ResAt.ext {v : Bool} {Fi : Fl} {tt bb : Int} {H H' : Hp} {d : Addr} (r : ResAt v Fi tt bb H d) (e : LamX.ExtN H H') : ResAt v Fi tt bb H' d := by
  rcases r with ⟨w, p, so, ha, h1, h2⟩ | ⟨w, q, h1, h2⟩
  · exact .inl ⟨w, p, so, ha, e _ _ h1 (fun _ z => by cases z), e _ _ h2 (fun _ z => by cases z)⟩
  · exact .inr ⟨w, q, e _ _ h1 (fun _ z => by cases z), e _ _ h2 (fun _ z => by cases z)⟩
theorem dpS {K : PySem.W.Frag} {H : Hp} : ∀ l : List (List Nat), DpAll K H (l.map fun a => V.str (S a)) (l.map fun a => PyData.str (S a))
  | [] => .nil
  | _ :: r => .cons (.str _) (dpS r)
theorem res_dp {K : PySem.W.Frag} {v : Bool} {Fi : Fl} {tt bb : Int} {H : Hp} {f1 f2 f3 : Addr} (hl : Fi.2.length ≤ 1000) (h1 : ResAt v Fi tt bb H f1) (h2 : ResAt v Fi tt bb H f2) (h3 : ResAt v Fi tt bb H f3) : ∃ d, Dp K H (.ref f1) d ∧ Dp K H (.ref f2) d ∧ Dp K H (.ref f3) d ∧ Deep 3 d := by
  rcases h1 with ⟨w, p1, s1, a1, e1, g1⟩ | ⟨w, q1, e1, g1⟩
  · rcases h2 with ⟨_, p2, s2, a2, e2, g2⟩ | ⟨n, _⟩
    · rcases h3 with ⟨_, p3, s3, a3, e3, g3⟩ | ⟨n, _⟩
      · obtain rfl := ascF_uniq a1 a2
        obtain rfl := ascF_uniq a1 a3
        refine ⟨.tuple [.str "", .list ((walkW v Fi.1 tt bb s1).map fun a => PyData.str (S a))], .tup (SqT.of e1) (.cons (.str _) (.cons (.lst (SqL.of g1) (dpS _)) .nil)), .tup (SqT.of e2) (.cons (.str _) (.cons (.lst (SqL.of g2) (dpS _)) .nil)), .tup (SqT.of e3) (.cons (.str _) (.cons (.lst (SqL.of g3) (dpS _)) .nil)), ?_⟩
        refine deep_tup (show 2 ≤ 1000 by decide) fun d hd => ?_
        simp only [List.mem_cons, List.not_mem_nil, or_false] at hd
        rcases hd with rfl | rfl
        · exact deep_str
        · refine deep_list ?_ fun d hd => ?_
          · rw [List.length_map]
            unfold walkW
            rw [List.length_map]
            refine Nat.le_trans (List.length_filter_le _ _) ?_
            rw [a1.1.length_eq]
            exact hl
          · obtain ⟨z, _, rfl⟩ := List.mem_map.mp hd
            exact deep_str
      · exact absurd w n
    · exact absurd w n
  · rcases h2 with ⟨n, _⟩ | ⟨_, q2, e2, g2⟩
    · exact absurd n w
    · rcases h3 with ⟨n, _⟩ | ⟨_, q3, e3, g3⟩
      · exact absurd n w
      · refine ⟨.tuple [.str "InvalidRatio", pI2 (tt, bb)], .tup (SqT.of e1) (.cons (.str _) (.cons (dp_pI2 g1) .nil)), .tup (SqT.of e2) (.cons (.str _) (.cons (dp_pI2 g2) .nil)), .tup (SqT.of e3) (.cons (.str _) (.cons (dp_pI2 g3) .nil)), ?_⟩
        refine deep_tup (show 2 ≤ 1000 by decide) fun d hd => ?_
        simp only [List.mem_cons, List.not_mem_nil, or_false] at hd
        rcases hd with rfl | rfl
        · exact deep_str
        · refine deep_tup (show 2 ≤ 1000 by decide) fun d hd => ?_
          simp only [List.mem_cons, List.not_mem_nil, or_false] at hd
          rcases hd with rfl | rfl <;> (unfold Deep; trivial)
def okR (Q : VK) : VK := fun v H1 => [V.str "", v].length ≤ sizeLine ∧ ∀ p, H1 p = none → Q (.ref p) (upd H1 p (.tup [.str "", v]))
def errR (CI CR : Addr) (Q : VK) : XK := fun cls d H1 => ∃ (dd z : Addr) (t b : Int), cls = .ref CI ∧ d = some dd ∧ H1 dd = some (Err1 "given" "InvalidRatio" (.ref z)) ∧ RatAt CR H1 z t b ∧ ∀ (H2 : Hp) (p q : Addr), Same H1 H2 → H2 q = some (tupI t b) → H2 p = some (.tup [.str "InvalidRatio", .ref q]) → Q (.ref p) H2
theorem walk_sp {K : PySem.W.Frag} {CB CR CI CV : Addr} {H0 H1 : Hp} {Q : VK} {x z0 : Addr} {F C : List Nat} {ls : List LineV} {start : List Nat} {hv : V} {ts : List Addr} {ss : List PStp} {v : Bool} {Fi : Fl} {tt bb : Int} (s01 : Same H0 H1) (hFi : flRun (cutL ls) (flStart start) ss = Fi) (hB : BookAt K CB H1 x F C ls) (hr4 : start.length = 4) (hrf : ∀ y ∈ start, y ∈ F) (hsq : Sq K H1 hv (ts.map V.ref)) (hst : PStepsAt K H1 ts ss) (h400 : ss.length ≤ 400) (val : PVal (cutL ls) C (flStart start) ss) (hz : RatAt CR H1 z0 tt bb) (smt : Sm tt) (smb : Sm bb)
    (q : ∀ (H2 : Hp) (f1 : Addr), Same H0 H2 → ResAt v Fi tt bb H2 f1 → Q (.ref f1) H2) : sp_walk_at K CB CR CI CV [.ref x, .str (S start), hv, .str (viewS v), .ref z0] H1 (okR Q) (errR CI CR Q) := by
  subst hFi
  refine ⟨x, F, C, ls, start, hv, ts, ss, .str (viewS v), .ref z0, rfl, hB, hr4, hrf, hsq, hst, h400, val, .inr ⟨v, rfl, .inr ⟨z0, tt, bb, rfl, hz, smt, smb, fun ok H2 p so s2 np ha hp => ⟨(show 2 ≤ sizeLine by decide), fun f1 nf1 => ?_⟩, fun no H2 d s2 nd => ⟨d, z0, tt, bb, rfl, rfl, upd_same, (hz.same s2).same (same_upd nd), fun H3 p q' s3 hq hp => ?_⟩⟩⟩⟩
  · exact q _ f1 ((s01.trans s2).trans (same_upd nf1)) (.inl ⟨ok, p, so, ha, upd_same, (same_upd nf1) _ _ hp⟩)
  · exact q H3 p (((s01.trans s2).trans (same_upd nd)).trans s3) (.inr ⟨no, q', hp, hq⟩)
theorem give_walk {K : PySem.W.Frag} {CB CR CI CV : Addr} {H : Hp} {Q : VK} {tl : XK → Hp → VK → Prop} {x z0 : Addr} {F C : List Nat} {ls : List LineV} {start : List Nat} {sl : Addr} {ts : List Addr} {ss : List PStp} {v : Bool} {Fi : Fl} {tt bb : Int} (hFi : flRun (cutL ls) (flStart start) ss = Fi) (hB : BookAt K CB H x F C ls) (hr4 : start.length = 4) (hrf : ∀ y ∈ start, y ∈ F) (hsq : H sl = some (.lst (ts.map V.ref))) (hst : PSpAt H ts ss) (h400 : ss.length ≤ 400) (val : PVal (cutL ls) C (flStart start) ss) (hz : RatAt CR H z0 tt bb) (smt : Sm tt) (smb : Sm bb)
    (hl : ∀ (E : XK) (Qo : VK), sp_walk_at K CB CR CI CV [.ref x, .str (S start), .ref sl, .str (viewS v), .ref z0] H Qo E → tl E H Qo) (q : ∀ (H2 : Hp) (f1 : Addr), Same H H2 → ResAt v Fi tt bb H2 f1 → Q (.ref f1) H2) : TRat CI CR tl H Q :=
  hl (errR CI CR Q) (okR Q) (walk_sp (Same.refl H) hFi hB hr4 hrf (.inl ⟨sl, rfl, SqL.of hsq⟩) hst.at h400 val hz smt smb q)
theorem give_walkT {K : PySem.W.Frag} {CB CR CI CV : Addr} {H : Hp} {Q : VK} {tl : XK → Hp → VK → Prop} {x z0 : Addr} {F C : List Nat} {ls : List LineV} {start : List Nat} {ts : List Addr} {ss : List PStp} {v : Bool} {Fi : Fl} {tt bb : Int} (hFi : flRun (cutL ls) (flStart start) ss = Fi) (hB : BookAt K CB H x F C ls) (hr4 : start.length = 4) (hrf : ∀ y ∈ start, y ∈ F) (hst : PSpAt H ts ss) (h400 : ss.length ≤ 400) (val : PVal (cutL ls) C (flStart start) ss) (hz : RatAt CR H z0 tt bb) (smt : Sm tt) (smb : Sm bb)
    (hl : ∀ (E : XK) (Qo : VK), (∀ lt, H lt = none → sp_walk_at K CB CR CI CV [.ref x, .str (S start), .ref lt, .str (viewS v), .ref z0] (upd H lt (.tup (ts.map V.ref))) Qo E) → tl E H Qo) (q : ∀ (H2 : Hp) (f1 : Addr), Same H H2 → ResAt v Fi tt bb H2 f1 → Q (.ref f1) H2) : TRat CI CR tl H Q :=
  hl (errR CI CR Q) (okR Q) fun lt nlt => walk_sp (same_upd nlt) hFi (hB.same (same_upd nlt)) hr4 hrf (.inr ⟨lt, rfl, SqT.of upd_same⟩) (PSpAt.at ⟨hst.1, fun i t s h1 h2 => (same_upd nlt) _ _ (hst.2 i t s h1 h2)⟩) h400 val (hz.same (same_upd nlt)) smt smb q
/-- what kind of value -/
def KindO (H : Hp) (x : V) : Prop := x = .non ∨ (∃ n, x = .int n) ∨ (∃ c, x = .bl c) ∨ (∃ z, x = .str z) ∨ (∃ p xs, x = .ref p ∧ H p = some (.tup xs)) ∨ (∃ p xs, x = .ref p ∧ H p = some (.lst xs))
theorem KindO.ext {H H' : Hp} {x : V} (k : KindO H x) (e : LamX.ExtN H H') : KindO H' x := by
  rcases k with h | h | h | h | ⟨p, xs, h, g⟩ | ⟨p, xs, h, g⟩
  · exact .inl h
  · exact .inr (.inl h)
  · exact .inr (.inr (.inl h))
  · exact .inr (.inr (.inr (.inl h)))
  · exact .inr (.inr (.inr (.inr (.inl ⟨p, xs, h, e _ _ g (fun _ z => by cases z)⟩))))
  · exact .inr (.inr (.inr (.inr (.inr ⟨p, xs, h, e _ _ g (fun _ z => by cases z)⟩))))
/-- none of the kinds of the language is a ratio -/
structure NoR (K : PySem.W.Frag) (CR : Addr) : Prop where
  n : PySem.W.kitOne K (.type "NoneType") (.ref CR) = some false
  i : PySem.W.kitOne K (.type "int") (.ref CR) = some false
  b : PySem.W.kitOne K (.type "bool") (.ref CR) = some false
  s : PySem.W.kitOne K (.type "str") (.ref CR) = some false
  t : PySem.W.kitOne K (.type "tuple") (.ref CR) = some false
  l : PySem.W.kitOne K (.type "list") (.ref CR) = some false
theorem KindO.ty {K : PySem.W.Frag} {CR : Addr} {H : Hp} {x : V} (k : KindO H x) (N : NoR K CR) : ∃ t, TyX K H x t ∧ PySem.W.kitOne K t (.ref CR) = some false := by
  rcases k with rfl | ⟨n, rfl⟩ | ⟨c, rfl⟩ | ⟨z, rfl⟩ | ⟨p, xs, rfl, g⟩ | ⟨p, xs, rfl, g⟩
  · exact ⟨_, .base .non, N.n⟩
  · exact ⟨_, .base (.int n), N.i⟩
  · exact ⟨_, .base (.bl c), N.b⟩
  · exact ⟨_, .base (.str z), N.s⟩
  · exact ⟨_, tyT (SqT.of g), N.t⟩
  · exact ⟨_, tyL (SqL.of g), N.l⟩
/-- a walk through a floor of one room -/
theorem whole_ok (start : List Nat) (v : Bool) : WalkOk v (flStart start) 1 3 := ⟨by decide, by decide, fun r hr => by
  rw [List.mem_singleton.mp hr]
  have e : shutW v 1 1 3 IB.whole = false := by cases v <;> decide +kernel
  exact e⟩
theorem whole_walk {start : List Nat} {v : Bool} {so : List FR} (h : AscF so (flStart start).2) : walkW v (flStart start).1 1 3 so = [[]] := by
  obtain rfl : so = [([], start, IB.whole)] := List.perm_singleton.mp h.1
  have e : metW v 1 1 3 IB.whole = true := by cases v <;> decide +kernel
  show (List.filter (fun r : FR => metW v 1 1 3 r.2.2) [([], start, IB.whole)]).map (·.1) = [[]]
  rw [List.filter_cons_of_pos (by exact e)]
  rfl
/-- such a call, answered -/
theorem whole_sp {K : PySem.W.Frag} {CB CR CI CV : Addr} {H0 H1 : Hp} {Q : VK} {E : XK} {x z0 l0 : Addr} {F C : List Nat} {ls : List LineV} {start : List Nat} (v : Bool) (hB : BookAt K CB H1 x F C ls) (hr4 : start.length = 4) (hrf : ∀ y ∈ start, y ∈ F) (hl : H1 l0 = some (.lst [])) (hz : RatAt CR H1 z0 1 3) (s01 : Same H0 H1)
    (q : ∀ (H2 : Hp) (p : Addr), Same H0 H2 → H1 p = none → H2 p = some (.lst [.str ""]) → Q (.ref p) H2) : sp_walk_at K CB CR CI CV [.ref x, .str (S start), .ref l0, .str (viewS v), .ref z0] H1 Q E :=
  ⟨x, F, C, ls, start, .ref l0, [], [], .str (viewS v), .ref z0, rfl, hB, hr4, hrf, .inl ⟨l0, rfl, SqL.of hl⟩, ⟨rfl, fun i t s h _ => by cases h⟩, by decide, trivial, .inr ⟨v, rfl, .inr ⟨z0, 1, 3, rfl, hz, by unfold Sm; decide, by unfold Sm; decide, fun _ H2 p so s2 np ha hp => by
    have e : (walkW v (flRun (cutL ls) (flStart start) []).1 1 3 so).map (fun a => V.str (S a)) = [V.str ""] := by
      rw [show walkW v (flRun (cutL ls) (flStart start) []).1 1 3 so = [[]] from whole_walk ha]
      rfl
    rw [e] at hp
    exact q H2 p (s01.trans s2) np hp, fun no => absurd (whole_ok start v) no⟩⟩⟩
def rev5 {α : Type} : List α → List α → List α
  | [], [a, b, c, d, e] => [e, d, c, b, a]
  | _, _ => []
theorem rev5_vals {vs : List V} {us : List Value} {zs : List V} {ws : List Value} (r : Vals vs us) (q : Vals zs ws) : Vals (rev5 vs zs) (rev5 us ws) := by
  cases r with
  | cons _ _ => exact .nil
  | nil =>
    cases q with
    | nil => exact .nil
    | cons q1 t =>
      cases t with
      | nil => exact .nil
      | cons q2 t =>
        cases t with
        | nil => exact .nil
        | cons q3 t =>
          cases t with
          | nil => exact .nil
          | cons q4 t =>
            cases t with
            | nil => exact .nil
            | cons q5 t =>
              cases t with
              | nil => exact .cons q5 (.cons q4 (.cons q3 (.cons q2 (.cons q1 .nil))))
              | cons _ _ => exact .nil
theorem kb_walk : KB K "walk_at" s_walk_at ["book", "start", "steps", "view", "at"] ["at", "view", "steps", "start", "book"] rev5 rev5 := by
  intro f fd F
  obtain ⟨oc, od, kV, doc, pm, an, cdv, ct, osl, rfl, lk, hcd⟩ := F.ex
  refine ⟨fun s us ws _ hl => ?_, fun r q => rev5_vals r q⟩
  match us, ws, hl with
  | [], [a, b, c, d, e], _ => exact .of_eq rfl
  | [], [], hl => exact absurd (show 0 = 5 from hl) (by decide)
  | [], [_], hl => exact absurd (show 0 = 5 from hl) (by decide)
  | [], [_, _], hl => exact absurd (show 0 = 5 from hl) (by decide)
  | [], [_, _, _], hl => exact absurd (show 0 = 5 from hl) (by decide)
  | [], [_, _, _, _], hl => exact absurd (show 0 = 5 from hl) (by decide)
  | [], _ :: _ :: _ :: _ :: _ :: _ :: _, hl => exact absurd (show 0 = 5 from hl) (by decide)
  | _ :: _, ws, hl => exact absurd (show 0 = 5 from hl) (by decide)
set_option maxHeartbeats 100000000 in
theorem ok_law {f c Pt fT C1 C2 C3 CR CB CI CV fI fRR fPW : Addr} {oc kV doc pm ct : Value} {od an : Option Addr} {osl : Array (Option Value)} {fdT : FuncData} {ocR kVR docR pmR cdR ctR : Value} {odR anR : Option Addr} {oslR : Array (Option Value)} {fdPW : FuncData} {fdR : FuncData} {dsR : List Value} (T : Z mg)
    (lk : K.lookup f = some ⟨oc, od, .func (PySem.W.fnOf "law" "law" (defArgs s_law) (defBody s_law) (defScope s_law) .none kV doc pm an (.ref c) ct), osl⟩) (hcd : PySem.W.codeIn K (.ref c) "law" = true) (TB : LamX.TabB base mg c Pt)
    (BC : BookC K CB) (RC : RatC K CR) (RB : BookE K CR) (RE : RErr K CI) (NR : NoR K CR)
    (mRR : mg "_law_raised_ratio" = some (.ref fRR)) (kRR : PySem.W.keepIn K (.ref fRR) = true) (lkRR : K.lookup fRR = some ⟨ocR, odR, .func (PySem.W.fnOf "_law_raised_ratio" "_law_raised_ratio" (defArgs s__law_raised_ratio) (defBody s__law_raised_ratio) (defScope s__law_raised_ratio) .none kVR docR pmR anR cdR ctR), oslR⟩) (hcRR : PySem.W.codeIn K cdR "_law_raised_ratio" = true)
    (bRR : L2.Binds K (PySem.W.fnOf "_law_raised_ratio" "_law_raised_ratio" (defArgs s__law_raised_ratio) (defBody s__law_raised_ratio) (defScope s__law_raised_ratio) .none kVR docR pmR anR cdR ctR) ["_law_ask"] [])
    (FPW : ∀ b2, FnW P w K mg b2 1 fPW fdPW ["_law_ratio"] (sp__law_pair K CR)) (mPW : mg "_law_pair" = some (.ref fPW)) (kPW : PySem.W.keepIn K (.ref fPW) = true) (bPW : L2.Binds K fdPW ["_law_ratio"] []) (gIR : mg "InvalidRatio" = some (.ref CI))
    (TV : ErrK K mg CV "InvalidView" [.ref C1, .ref C2, .ref C3]) (TIR : ErrK K mg CI "InvalidRatio" [.ref C1, .ref C2, .ref C3])
    (gR : mg "Ratio" = some (.ref CR)) (MR : Mk K CR fR) (bR2 : Binds K fdR ["self", "top", "bottom"] []) (bR1 : Binds K fdR ["self", "top", "bottom"] dsR) (vR1 : Vals [V.int 1] dsR) (kbR : KBn K fdR ["self", "top", "bottom"] 1 ["bottom", "top"] (fun us ws => us ++ ws.reverse) (fun vs zs => vs ++ zs.reverse))
    (mT : mg "_law_tries" = some (.ref fT)) (kT : PySem.W.keepIn K (.ref fT) = true) (bT : L2.Binds K fdT ["_law_asks"] [])
    (FT : ∀ b2 : Heap, Mod K mg base → (∀ b o, base.get? b = some o → b2.get? b = some o) → base.objs.size ≤ b2.objs.size → FnOk P w K mg b2 CX0 14 fT fdT ["_law_asks"] (sp_tries P w K mg base b2 10 [.ref C1, .ref C2, .ref C3]))
    (c__law_same : Cal P w K mg base CX0 6 "_law_same" s__law_same ["_law_found", "_law_due"] (sp__law_same K 4))
    (cx_walk_at : Cal P w K mg base (L2.CX P w) 9 "walk_at" s_walk_at ["book", "start", "steps", "view", "at"] (sp_walk_at K CB CR CI CV))
    (FR : FnOk P w K mg base CX0 2 fR fdR ["self", "top", "bottom"] (sp_Ratio_init K CR))
    (c__law_of : Cal P w K mg base CX0 2 "_law_of" s__law_of ["_law_bag", "_law_things"] (sp__law_of K))
    (c__law_low : Cal P w K mg base CX0 2 "_law_low" s__law_low ["_law_top_here", "_law_bottom"] sp__law_low)
    (c__law_below : Cal P w K mg base CX0 1 "_law_below" s__law_below ["_law_one", "_law_other"] sp__law_below)
    (c__law_some_place : Cal P w K mg base CX0 3 "_law_some_place" s__law_some_place ["_law_bag"] (sp__law_some_place K))
    (c__law_some_placed : Cal P w K mg base CX0 6 "_law_some_placed" s__law_some_placed ["_law_bag", "_law_spec", "_law_start_z", "_law_many"] (sp__law_some_placed K))
    (c__law_draw : Cal P w K mg base CX0 1 "_law_draw" s__law_draw ["_law_bag", "_law_many"] (sp__law_draw K))
    (c__law_some_room : Cal P w K mg base CX0 3 "_law_some_room" s__law_some_room ["_law_bag", "_law_faces"] (sp__law_some_room K))
    (c__law_book : Cal P w K mg base CX0 9 "_law_book" s__law_book ["_law_spec"] (sp__law_book K CB))
    (c__law_some_book : Cal P w K mg base CX0 5 "_law_some_book" s__law_some_book ["_law_bag", "_law_sizes"] (sp__law_some_book K))
    (c__law_open : Cal P w K mg base CX0 1 "_law_open" s__law_open ["_law_script"] (sp__law_open K)) : FnOk P w K mg base CX0 16 f (PySem.W.fnOf "law" "law" (defArgs s_law) (defBody s_law) (defScope s_law) .none kV doc pm an (.ref c) ct) ["_law_script"] (sp_law K Pt) := by
  refine fn_of lk hcd sc_law (fun vs H Q E h => ?_) (fun A outer s H vs Q E hr h => ?_)
  · obtain ⟨a, ns, rfl, _⟩ := h
    rfl
  obtain ⟨a, ns, rfl, hS, hlen, hP, q⟩ := h
  refine ⟨_, PSs.nox (pss_cons (ps_set (i := 1) sc_law.nd rfl (.inl rfl) (pe_c c__law_open hr (by decide) (by rfl) (pa_cons (pv 0) pa_nil)))
      (pss_cons (ps_for PassesOwn.never rfl (pi_range1 (by rfl) T.z_range (pa_cons pe_int pa_nil)) (pg_name (i := 2) sc_law.nd rfl (.inl rfl))
        (pss_cons (ps_set (i := 3) sc_law.nd rfl (.inl rfl) (pe_c c__law_some_book hr (by decide) (by rfl) (pa_cons (pv 1) (pa_cons (pe_lst (pa_cons pe_int (pa_cons pe_int (pa_cons pe_int pa_nil)))) pa_nil))))
      (pss_cons (ps_asg (pe_tup (pa_cons (pe_c c__law_book hr (by decide) (by rfl) (pa_cons (pv 3) pa_nil)) (pa_cons (pe_c c__law_some_room hr (by decide) (by rfl) (pa_cons (pv 1) (pa_cons (pe_ix ix_list (pv 3) pe_int (fun _ _ => rfl)) pa_nil))) pa_nil))) (pg_tup rfl (pgs_cons (pg_name (i := 4) sc_law.nd rfl (.inr rfl)) (pgs_cons (pg_name (i := 5) sc_law.nd rfl (.inr rfl)) pgs_nil))))
      (pss_cons (ps_asg (pe_c c__law_some_placed hr (by decide) (by rfl) (pa_cons (pv 1) (pa_cons (pv 3) (pa_cons (pv 5) (pa_cons (pe_c c__law_draw hr (by decide) (by rfl) (pa_cons (pv 1) (pa_cons pe_int pa_nil))) pa_nil))))) (pg_unl rfl (pgs_cons (pg_name (i := 6) sc_law.nd rfl (.inr rfl)) (pgs_cons (pg_name (i := 7) sc_law.nd rfl (.inr rfl)) pgs_nil))))
      (pss_one (ps_for PassesOwn.never rfl (pi_list (pe_lst (pa_cons (pe_tup (pa_cons pe_str (pa_cons pe_int (pa_cons pe_int (pa_cons pe_int pa_nil))))) (pa_cons (pe_tup (pa_cons pe_str (pa_cons pe_int (pa_cons pe_int (pa_cons pe_int pa_nil))))) pa_nil)))) (pg_tup rfl (pgs_cons (pg_name (i := 8) sc_law.nd rfl (.inr rfl)) (pgs_cons (pg_name (i := 9) sc_law.nd rfl (.inr rfl)) (pgs_cons (pg_name (i := 10) sc_law.nd rfl (.inr rfl)) (pgs_cons (pg_name (i := 11) sc_law.nd rfl (.inr rfl)) pgs_nil)))))
        (pss_cons (ps_lock (ps_setLc (i := 12) (own := [("_law_one", 18)]) (g := (gName 18)) (by rfl) sc_law.nd rfl rfl (sw_true rfl rfl rfl (by decide +kernel)) (pi_keys (pv 7)) (blkOk_by (N := ["_law_script", "_law_bag", "_law_turn", "_law_spec", "_law_book_z", "_law_start_z", "_law_steps_z", "_law_boxes", "_law_view_z", "_law_low_here", "_law_high", "_law_along", "_law_shuts", "_law_place", "_law_at_z", "_law_due", "_law_met", "_law_row", "_law_one", "_law_spot", "_law_ratio", "_law_found", "_law_odd", "_law_cold", "_law_asks", "_law_other"]) (sc := defScope s_law) (by decide +kernel)) (fun _ _ _ _ _ => (pg_name (i := 18) sc_law.nd rfl (.inl rfl))) (fun _ _ _ _ _ => pts_nil) (fun _ _ _ _ _ => (pe_ix (ix_tupE (K := K) rfl) (pe_ix (ix_tupE (K := K) rfl) (pe_dget (hu_of hr) (pv 7) (pv 18) (fun _ _ => rfl)) pe_int (fun _ _ => rfl)) (pv 9) (fun _ _ => rfl)))))
      (pss_cons (ps_set (i := 13) sc_law.nd rfl (.inl rfl) (pe_c c__law_some_place hr (by decide) (by rfl) (pa_cons (pv 1) pa_nil)))
      (pss_one (ps_for PassesOwn.never rfl (pi_list (pe_lst (pa_cons (pe_c c__law_low hr (by decide) (by rfl) (pa_cons (pe_ix ix_tup (pv 13) pe_int (fun _ _ => rfl)) (pa_cons (pe_ix ix_tup (pv 13) pe_int (fun _ _ => rfl)) pa_nil))) (pa_cons (pe_tup (pa_cons pe_int (pa_cons pe_int pa_nil))) (pa_cons (pe_c c__law_of hr (by decide) (by rfl) (pa_cons (pv 1) (pa_cons (pv 12) pa_nil))) (pa_cons (pe_tup (pa_cons pe_int (pa_cons pe_int pa_nil))) (pa_cons (pe_tup (pa_cons pe_int (pa_cons pe_int pa_nil))) (pa_cons (pe_tup (pa_cons (pe_op op_sub pe_int pe_int) (pa_cons pe_int pa_nil))) (pa_cons (pe_tup (pa_cons pe_int (pa_cons pe_int pa_nil))) pa_nil))))))))) (pg_name (i := 14) sc_law.nd rfl (.inr rfl))
        (pss_cons (ps_set (i := 15) sc_law.nd rfl (.inl rfl) (pe_tup (pa_cons pe_str (pa_cons (pv 14) pa_nil))))
      (pss_cons (ps_as (ps_if (PW.pt (pw_and (pt_val (pe_c c__law_below hr (by decide) (by rfl) (pa_cons (pe_tup (pa_cons pe_int (pa_cons pe_int pa_nil))) (pa_cons (pv 14) pa_nil)))) (pw_and (pt_val (pe_c c__law_below hr (by decide) (by rfl) (pa_cons (pv 14) (pa_cons (pe_tup (pa_cons pe_int (pa_cons pe_int pa_nil))) pa_nil)))) (pw_and1 (pt_cmpR (op_notInD (hu65 hr)) (pv 14) (pv 12) (by rfl)))))) (pss_cons (ps_lock (ps_setLc (i := 16) (own := [("_law_one", 18)]) (g := (gName 18)) (by rfl) sc_law.nd rfl rfl (sw_true rfl rfl rfl (by decide +kernel)) (pi_keys (pv 7)) (blkOk_by (N := ["_law_script", "_law_bag", "_law_turn", "_law_spec", "_law_book_z", "_law_start_z", "_law_steps_z", "_law_boxes", "_law_view_z", "_law_low_here", "_law_high", "_law_along", "_law_shuts", "_law_place", "_law_at_z", "_law_due", "_law_met", "_law_row", "_law_one", "_law_spot", "_law_ratio", "_law_found", "_law_odd", "_law_cold", "_law_asks", "_law_other"]) (sc := defScope s_law) (by decide +kernel)) (fun _ _ _ _ _ => (pg_name (i := 18) sc_law.nd rfl (.inl rfl))) (fun _ _ _ _ _ => (pts_one (PW.pt (pw_and (pt_val (pe_c c__law_below hr (by decide) (by rfl) (pa_cons (pe_ix (ix_tupE (K := K) rfl) (pe_ix (ix_tupE (K := K) rfl) (pe_dget (hu_of hr) (pv 7) (pv 18) (fun _ _ => rfl)) pe_int (fun _ _ => rfl)) (pv 9) (fun _ _ => rfl)) (pa_cons (pv 14) pa_nil)))) (pw_and1 (pt_val (pe_c c__law_below hr (by decide) (by rfl) (pa_cons (pv 14) (pa_cons (pe_ix (ix_tupE (K := K) rfl) (pe_ix (ix_tupE (K := K) rfl) (pe_dget (hu_of hr) (pv 7) (pv 18) (fun _ _ => rfl)) pe_int (fun _ _ => rfl)) (pv 10) (fun _ _ => rfl)) pa_nil))))))))) (fun _ _ _ _ _ => (pv 18))))
      (pss_cons (ps_set (i := 17) sc_law.nd rfl (.inl rfl) (pe_lst pa_nil))
      (pss_cons (ps_for PassesOwn.never rfl (pi_list (pv 16)) (pg_name (i := 18) sc_law.nd rfl (.inr rfl))
        (pss_cons (ps_set (i := 19) sc_law.nd rfl (.inl rfl) (pe_callB call_len_seq (by rfl) T.z_len (by decide +kernel) (pa_cons (pe_lc (own := [("_law_other", 25)]) (g := (gName 25)) (by rfl) sc_law.nd (pi_list (pv 16)) (blkOk_by (N := ["_law_script", "_law_bag", "_law_turn", "_law_spec", "_law_book_z", "_law_start_z", "_law_steps_z", "_law_boxes", "_law_view_z", "_law_low_here", "_law_high", "_law_along", "_law_shuts", "_law_place", "_law_at_z", "_law_due", "_law_met", "_law_row", "_law_one", "_law_spot", "_law_ratio", "_law_found", "_law_odd", "_law_cold", "_law_asks", "_law_other"]) (sc := defScope s_law) (by decide +kernel)) (fun _ _ _ _ _ => (pg_name (i := 25) sc_law.nd rfl (.inl rfl))) (fun _ _ _ _ _ => (pts_one (pt_val (pe_c c__law_below hr (by decide) (by rfl) (pa_cons (pe_ix (ix_tupE (K := K) rfl) (pe_ix (ix_tupE (K := K) rfl) (pe_dget (hu_of hr) (pv 7) (pv 25) (fun _ _ => rfl)) pe_int (fun _ _ => rfl)) (pv 11) (fun _ _ => rfl)) (pa_cons (pe_ix (ix_tupE (K := K) rfl) (pe_ix (ix_tupE (K := K) rfl) (pe_dget (hu_of hr) (pv 7) (pv 18) (fun _ _ => rfl)) pe_int (fun _ _ => rfl)) (pv 11) (fun _ _ => rfl)) pa_nil)))))) (fun _ _ _ _ _ => (pv 25))) pa_nil)))
      (pss_one (ps_expr (pe_bm PySem.F.plainAttrs_list PySem.F.slot_list_append PySem.F.type_list_append mt_append (pv 17) (pa_cons (pe_tup (pa_cons (pv 19) (pa_cons (pv 18) pa_nil))) pa_nil))))))
      (pss_one (ps_set (i := 15) sc_law.nd rfl (.inl rfl) (pe_tup (pa_cons pe_str (pa_cons (pe_lc (own := [("_law_spot", 19), ("_law_one", 18)]) (g := (gTup K 2 (gCons (gName 19) (gCons (gName 18) gNil)))) (by rfl) sc_law.nd (pi_list (pe_callB cr_sortedTK (by rfl) T.z_sorted (by decide +kernel) (pa_cons (pv 17) pa_nil))) (blkOk_by (N := ["_law_script", "_law_bag", "_law_turn", "_law_spec", "_law_book_z", "_law_start_z", "_law_steps_z", "_law_boxes", "_law_view_z", "_law_low_here", "_law_high", "_law_along", "_law_shuts", "_law_place", "_law_at_z", "_law_due", "_law_met", "_law_row", "_law_one", "_law_spot", "_law_ratio", "_law_found", "_law_odd", "_law_cold", "_law_asks", "_law_other"]) (sc := defScope s_law) (by decide +kernel)) (fun _ _ _ _ _ => (pg_tup rfl (pgs_cons (pg_name (i := 19) sc_law.nd rfl (.inl rfl)) (pgs_cons (pg_name (i := 18) sc_law.nd rfl (.inl rfl)) pgs_nil)))) (fun _ _ _ _ _ => pts_nil) (fun _ _ _ _ _ => (pv 18))) pa_nil)))))))) pss_nil))
      (pss_cons (ps_set (i := 20) sc_law.nd rfl (.inr rfl) (pe_make MR FR (hr.mono (by decide)) (by rfl) gR bR2 .nil pass0 (pa_cons (pe_ix ix_tup (pv 14) pe_int (fun _ _ => rfl)) (pa_cons (pe_ix ix_tup (pv 14) pe_int (fun _ _ => rfl)) pa_nil))))
      (pss_cons (ps_set (i := 21) sc_law.nd rfl (.inl rfl) (pe_lst (pa_cons (pe_give (TT := TRat CI CR) (ask0 (X := XL P w K mg base f c A outer s H E) (k := 9) (lmC 0).1 (lmC 0).2.1 (lmC 0).2.2 ["_law_book_z", "_law_start_z", "_law_steps_z", "_law_view_z", "_law_ratio"] ["_law_book_z", "_law_start_z", "_law_steps_z", "_law_view_z", "_law_ratio"] [4, 5, 6, 8, 20] (by decide +kernel) (show NdefX.ndefB (defScope s_law) (lmC 0).2.2 _ = true by decide +kernel) rfl (fun _ _ _ _ _ _ => by rfl)
            (fun c' dV A outer s H E f hr => (pe_cx (E := E) cx_walk_at hr (by decide) (by rfl) (passes_call (takes_of rfl rfl rfl rfl) (fun _ _ _ _ h => h)) (pa_cons (pv 0) (pa_cons (pv 1) (pa_cons (pv 2) (pa_cons (pv 3) (pa_cons (pv 4) pa_nil))))))))
       (pe_lam0 (T := [(Pt, (envOfC "law" (defScope s_law) 0 f (.ref c)).qual ++ "<lambda>")]) TB rfl (List.mem_singleton.mpr rfl) (fun p hp _ => congrArg Prod.snd (List.mem_singleton.mp hp)) (by rfl) (show lamFree (defScope s_law) _ = true by decide +kernel)) (fun _ => rfl) rfl rfl tRat_mono (by rfl) mRR kRR lkRR hcRR bRR sc__law_raised_ratio rfl (.inl rfl) (fun b2 _ => gives__law_raised_ratio (k := 10) T (FPW b2) mPW kPW bPW gIR gR RE RC RB (hr.mono (by decide))) (hr.mono (by decide))) (pa_cons (pe_give (TT := TRat CI CR) (ask1 (X := XL P w K mg base f c A outer s H E) (k := 9) (lmC 1).1 (lmC 1).2.1 (lmC 1).2.2 "_law_one_z" 0 ["_law_one_z", "_law_book_z", "_law_start_z", "_law_steps_z", "_law_view_z", "_law_ratio"] ["_law_book_z", "_law_start_z", "_law_steps_z", "_law_view_z", "_law_ratio"] [4, 5, 6, 8, 20] (by decide +kernel) (show NdefX.ndefB (defScope s_law) (lmC 1).2.2 _ = true by decide +kernel) rfl (fun _ _ _ _ _ _ _ => ⟨_, rfl, fun _ => rfl⟩)
            (fun c' dV A outer s H E f hr => (pe_cx (E := E) cx_walk_at hr (by decide) (by rfl) (passes_call (takes_of rfl rfl rfl rfl) (fun _ _ _ _ h => h)) (pa_cons (pv 1) (pa_cons (pv 2) (pa_cons (pe_callTy (call_tuple_ofE (K := K) rfl) (by rfl) T.z_tuple (by decide +kernel) (pa_cons (pv 3) pa_nil)) (pa_cons (pv 4) (pa_cons (pv 5) pa_nil))))))))
       (pe_lam1 (T := [(Pt, (envOfC "law" (defScope s_law) 0 f (.ref c)).qual ++ "<lambda>")]) TB rfl (List.mem_singleton.mpr rfl) (fun p hp _ => congrArg Prod.snd (List.mem_singleton.mp hp)) rfl rfl (show lamFree (defScope s_law) _ = true by decide +kernel)) (fun _ => rfl) rfl rfl tRat_mono (by rfl) mRR kRR lkRR hcRR bRR sc__law_raised_ratio rfl (.inl rfl) (fun b2 _ => gives__law_raised_ratio (k := 10) T (FPW b2) mPW kPW bPW gIR gR RE RC RB (hr.mono (by decide))) (hr.mono (by decide))) pa_nil))))
      (pss_one (ps_if (pt_not (pt_val (pe_c c__law_same hr (by decide) (by rfl) (pa_cons (pv 21) (pa_cons (pe_lst (pa_cons (pv 15) (pa_cons (pv 15) pa_nil))) pa_nil))))) (pss_one (ps_ret pe_bl)) pss_nil))))))))))))))))
      (pss_cons (ps_asg (pe_tup (pa_cons (pe_c c__law_of hr (by decide) (by rfl) (pa_cons (pv 1) (pa_cons (pe_lst (pa_cons pe_non (pa_cons pe_int (pa_cons pe_str (pa_cons (pe_tup (pa_cons pe_int (pa_cons pe_int pa_nil))) (pa_cons (pe_lst (pa_cons pe_int pa_nil)) (pa_cons pe_bl pa_nil))))))) pa_nil))) (pa_cons (pe_c c__law_of hr (by decide) (by rfl) (pa_cons (pv 1) (pa_cons (pe_lst (pa_cons pe_str (pa_cons pe_str (pa_cons pe_str (pa_cons pe_str (pa_cons pe_str (pa_cons pe_str (pa_cons pe_non (pa_cons pe_int (pa_cons pe_str (pa_cons (pe_lst (pa_cons pe_str pa_nil)) pa_nil))))))))))) pa_nil))) pa_nil))) (pg_tup rfl (pgs_cons (pg_name (i := 22) sc_law.nd rfl (.inr rfl)) (pgs_cons (pg_name (i := 23) sc_law.nd rfl (.inr rfl)) pgs_nil))))
      (pss_cons (ps_set (i := 24) sc_law.nd rfl (.inl rfl) (pe_lst (pa_cons (pe_lam0 (T := [(Pt, (envOfC "law" (defScope s_law) 0 f (.ref c)).qual ++ "<lambda>")]) TB rfl (List.mem_singleton.mpr rfl) (fun p hp _ => congrArg Prod.snd (List.mem_singleton.mp hp)) (by rfl) (show lamFree (defScope s_law) _ = true by decide +kernel)) (pa_cons (pe_lam1 (T := [(Pt, (envOfC "law" (defScope s_law) 0 f (.ref c)).qual ++ "<lambda>")]) TB rfl (List.mem_singleton.mpr rfl) (fun p hp _ => congrArg Prod.snd (List.mem_singleton.mp hp)) rfl rfl (show lamFree (defScope s_law) _ = true by decide +kernel)) (pa_cons (pe_lam1 (T := [(Pt, (envOfC "law" (defScope s_law) 0 f (.ref c)).qual ++ "<lambda>")]) TB rfl (List.mem_singleton.mpr rfl) (fun p hp _ => congrArg Prod.snd (List.mem_singleton.mp hp)) rfl rfl (show lamFree (defScope s_law) _ = true by decide +kernel)) (pa_cons (pe_lam1 (T := [(Pt, (envOfC "law" (defScope s_law) 0 f (.ref c)).qual ++ "<lambda>")]) TB rfl (List.mem_singleton.mpr rfl) (fun p hp _ => congrArg Prod.snd (List.mem_singleton.mp hp)) rfl rfl (show lamFree (defScope s_law) _ = true by decide +kernel)) pa_nil))))))
      (pss_one (ps_ret (pe_c c__law_same hr (by decide) (by rfl) (pa_cons (pe_tries (cs := [.ref C1, .ref C2, .ref C3]) (k := 10) (kk := 14)
        [ask0 (X := XL P w K mg base f c A outer s H E) (k := 9) (lm ((defBody s_law).getD 3 (.Pass ⟨0, 0, 0, 0⟩)) 0).1 (lm ((defBody s_law).getD 3 (.Pass ⟨0, 0, 0, 0⟩)) 0).2.1 (lm ((defBody s_law).getD 3 (.Pass ⟨0, 0, 0, 0⟩)) 0).2.2 ["_law_book_z", "_law_start_z", "_law_steps_z", "_law_cold", "_law_odd"] ["_law_book_z", "_law_start_z", "_law_steps_z", "_law_cold", "_law_odd"] [4, 5, 6, 23, 22] (by decide +kernel) (show NdefX.ndefB (defScope s_law) (lm ((defBody s_law).getD 3 (.Pass ⟨0, 0, 0, 0⟩)) 0).2.2 _ = true by decide +kernel) rfl (fun _ _ _ _ _ _ => by rfl)
            (fun c' dV A outer s H E f hr => (pe_cx (E := E) cx_walk_at hr (by decide) (by rfl) (passes_call (takes_of rfl rfl rfl rfl) (fun _ _ _ _ h => h)) (pa_cons (pv 0) (pa_cons (pv 1) (pa_cons (pv 2) (pa_cons (pv 3) (pa_cons (pv 4) pa_nil))))))),
          ask1 (X := XL P w K mg base f c A outer s H E) (k := 9) (lm ((defBody s_law).getD 3 (.Pass ⟨0, 0, 0, 0⟩)) 1).1 (lm ((defBody s_law).getD 3 (.Pass ⟨0, 0, 0, 0⟩)) 1).2.1 (lm ((defBody s_law).getD 3 (.Pass ⟨0, 0, 0, 0⟩)) 1).2.2 "_law_one" 0 ["_law_one", "_law_book_z", "_law_start_z", "_law_steps_z", "_law_odd"] ["_law_book_z", "_law_start_z", "_law_steps_z", "_law_odd"] [4, 5, 6, 22] (by decide +kernel) (show NdefX.ndefB (defScope s_law) (lm ((defBody s_law).getD 3 (.Pass ⟨0, 0, 0, 0⟩)) 1).2.2 _ = true by decide +kernel) rfl (fun _ _ _ _ _ _ _ => ⟨_, rfl, fun _ => rfl⟩)
            (fun c' dV A outer s H E f hr => (pe_cx (E := E) cx_walk_at hr (by decide) (by rfl) (passes_call (takes_of rfl rfl rfl rfl) (fun _ _ _ _ h => h)) (pa_cons (pv 1) (pa_cons (pv 2) (pa_cons (pv 3) (pa_cons pe_str (pa_cons (pv 4) pa_nil))))))),
          ask1 (X := XL P w K mg base f c A outer s H E) (k := 9) (lm ((defBody s_law).getD 3 (.Pass ⟨0, 0, 0, 0⟩)) 2).1 (lm ((defBody s_law).getD 3 (.Pass ⟨0, 0, 0, 0⟩)) 2).2.1 (lm ((defBody s_law).getD 3 (.Pass ⟨0, 0, 0, 0⟩)) 2).2.2 "_law_two" 0 ["_law_two", "_law_book_z", "_law_start_z"] ["_law_book_z", "_law_start_z"] [4, 5] (by decide +kernel) (show NdefX.ndefB (defScope s_law) (lm ((defBody s_law).getD 3 (.Pass ⟨0, 0, 0, 0⟩)) 2).2.2 _ = true by decide +kernel) rfl (fun _ _ _ _ _ _ _ => ⟨_, rfl, fun _ => rfl⟩)
            (fun c' dV A outer s H E f hr => (pe_cx (E := E) cx_walk_at hr (by decide) (by rfl) (passes_call (takes_of rfl rfl rfl rfl) (fun _ _ _ _ h => h)) (pa_cons (pv 1) (pa_cons (pv 2) (pa_cons (pe_lst pa_nil) (pa_cons pe_str (pa_cons (pe_make MR FR (hr.mono (by decide)) (by rfl) gR bR2 .nil pass0 (pa_cons pe_int (pa_cons pe_int pa_nil))) pa_nil))))))),
          ask1 (X := XL P w K mg base f c A outer s H E) (k := 9) (lm ((defBody s_law).getD 3 (.Pass ⟨0, 0, 0, 0⟩)) 3).1 (lm ((defBody s_law).getD 3 (.Pass ⟨0, 0, 0, 0⟩)) 3).2.1 (lm ((defBody s_law).getD 3 (.Pass ⟨0, 0, 0, 0⟩)) 3).2.2 "_law_three" 0 ["_law_three", "_law_start_z", "_law_book_z"] ["_law_start_z", "_law_book_z"] [5, 4] (by decide +kernel) (show NdefX.ndefB (defScope s_law) (lm ((defBody s_law).getD 3 (.Pass ⟨0, 0, 0, 0⟩)) 3).2.2 _ = true by decide +kernel) rfl (fun _ _ _ _ _ _ _ => ⟨_, rfl, fun _ => rfl⟩)
            (fun c' dV A outer s H E f hr => (pe_ckx0 (E := E) cx_walk_at (kb_walk) hr (by decide) (by rfl) (passes_call (takes_of rfl rfl rfl rfl) (fun _ _ _ _ h => h)) (pk_cons (pe_make MR FR (hr.mono (by decide)) (by rfl) gR bR2 .nil pass0 (pa_cons pe_int (pa_cons pe_int pa_nil))) (pk_cons pe_str (pk_cons (pe_lst pa_nil) (pk_cons (pv 1) (pk_cons (pv 2) pk_nil)))))))]
        (show 4 < sizeLine by decide) (fun _ => rfl) rfl rfl FT (hr.mono (by decide)) (by rfl) mT kT bT (pa_cons (pv 24) pa_nil)) (pa_cons (pe_lst (pa_cons (pe_tup (pa_cons pe_str (pa_cons (pv 23) pa_nil))) (pa_cons (pe_tup (pa_cons pe_str (pa_cons (pv 22) pa_nil))) (pa_cons (pe_tup (pa_cons pe_str (pa_cons (pe_lst (pa_cons pe_str pa_nil)) pa_nil))) (pa_cons (pe_tup (pa_cons pe_str (pa_cons (pe_lst (pa_cons pe_str pa_nil)) pa_nil))) pa_nil))))) pa_nil))))))))), ?_⟩
  have kP := PairN.k
  have kR := RatAt.k CR
  refine ⟨_, rfl, a, ns, rfl, hS, hlen, fun H1 b l nb nl s1 B1 => ?_⟩
  have hPb : Pt ≠ b := ne_of_none hP nb
  have hP1 := s1 _ _ hP
  have T1 : LamX.Tabs (tabL Pt f c) H1 := fun p' hp' => by rw [List.mem_singleton.mp hp']; exact LamX.TabS.nil hP1
  clear hP hP1 hS nl s1
  refine ⟨2, rfl, by decide, by decide, ?_⟩
  refine for_range (n := (2 : Int).toNat) (fun i σ H' => ∃ y2 y3 y4 y5 y6 y7 y8 y9 y10 y11 y12 y13 y14 y15 y16 y17 y18 y19 y20 y21 : Option V, σ = [some (.ref a), some (.ref b), y2, y3, y4, y5, y6, y7, y8, y9, y10, y11, y12, y13, y14, y15, y16, y17, y18, y19, y20, y21, none, none, none, none] ∧ Bag H' b l ∧ LamX.Tabs (tabL Pt f c) H' ∧ (0 < i → LastS K CB (tabL Pt f c) H' b l y4 y5 y6)) ⟨none, none, none, none, none, none, none, none, none, none, none, none, none, none, none, none, none, none, none, none, rfl, B1, T1, fun h => absurd h (Nat.lt_irrefl _)⟩ ?_ ?_
  · clear B1 T1 nb hPb H1
    rintro i σ H2 hi ⟨y2, y3, y4, y5, y6, y7, y8, y9, y10, y11, y12, y13, y14, y15, y16, y17, y18, y19, y20, y21, rfl, B2, T2, hL0⟩
    refine ⟨_, rfl, (show 3 ≤ sizeLine by decide), fun p1 n1 => ?_⟩
    refine ⟨b, l, p1, 2, 3, 4, rfl, B2.same (same_upd n1), B2.ne n1, SqL.of upd_same, by decide, by decide, by decide, by decide, by decide, fun H3 p lp F C ls ok lF lC lz b3 B3 np nlp hs => ?_⟩
    have T3 := tabs_drawn (T2.ext (same_upd n1)) (B2.same (same_upd n1)) b3
    refine ⟨_, rfl, p, lp, b, F, C, ls, rfl, hs, ok, by omega, fun H4 x ls4 s4 nx hB e4 => ?_⟩
    have hs4 := hs.same s4
    have B4 := B3.same s4
    have T4 := T3.ext s4
    refine ⟨_, rfl, _, rfl, p, _, _, _, rfl, rfl, SqL.of hs4.top, rfl, b, l, F, rfl, B4, ok.f0, by have := ok.f6; omega, fun H5 n e s' w' hn he hs' hw b5 B5 => ⟨(show 2 ≤ sizeLine by decide), fun pt npt => ⟨pt, _, rfl, SqT.of upd_same, rfl, _, _, rfl, _, _, rfl, rfl, ?_⟩⟩⟩
    have su := same_upd (o := HO.tup [V.ref x, V.str (S4 n e s' w')]) npt
    have hs5 := (hs4.drawn b5).same su
    have hB5 := (hB.drawn B4 b5).same su
    have T5 := (tabs_drawn T4 B4 b5).ext su
    replace B5 := B5.same su
    generalize upd H5 pt (HO.tup [V.ref x, V.str (S4 n e s' w')]) = G5 at hs5 hB5 T5 B5 ⊢
    have hr4 : [n, e, s', w'].length = 4 := rfl
    have hrf : ∀ y ∈ [n, e, s', w'], y ∈ F := by
      intro y hy
      simp only [List.mem_cons, List.not_mem_nil, or_false] at hy
      rcases hy with rfl | rfl | rfl | rfl <;> assumption
    rw [show S4 n e s' w' = S [n, e, s', w'] from rfl]
    clear hL0 su npt hs4 hB B4 T4 b5 hs T3 B3 b3 B2 T2 s4 np nlp nx n1 H5 H4 H3 H2
    generalize [n, e, s', w'] = start at hr4 hrf ⊢
    clear hn he hs' hw
    refine ⟨_, rfl, _, rfl, _, rfl, _, rfl, b, l, 9, rfl, B5, by decide, by decide, fun H6 z z0 z1 b6 B6 => ?_⟩
    obtain ⟨m, rfl⟩ := Int.eq_ofNat_of_zero_le z0
    have hs6 := hs5.drawn b6
    have hB6 := hB5.drawn B5 b6
    have T6 := tabs_drawn T5 B5 b6
    have hcu : ∀ r ∈ ls, CutR r.2.2.2.2.2.2 F := fun r hr1 => (ok.ls r hr1).u
    have hss : SpecS ls := ⟨by omega, fun r hr1 => (ok.w6 r hr1).ln⟩
    have hc4 := ok.c4
    refine ⟨b, l, p, lp, F, C, ls, start, m, rfl, B6, hs6, hss, hcu, ok.c0, by omega, hr4, hrf, by omega, fun H7 q7 sl bd ts ss qs b7 B7 nq7 hsl val hh => ?_⟩
    have ecut : cutL ls4 = cutL ls := cutL_eq e4
    have hcut : ∀ r c, CutR (cutL ls4 r c) F := fun r c => by
      rw [ecut]
      exact cutL_form hcu
    rw [← ecut] at val hh
    have hsl9 : ss.length ≤ 400 := by omega
    have T7 := tabs_drawn T6 B6 b7
    have hB7 := hB6.drawn B6 b7
    have fc := hh.floor
    have st : St K CB (tabL Pt f c) H7 b l x F C ls4 sl bd ts ss (flRun (cutL ls4) (flStart start) ss).1 qs := ⟨hB7, B7, T7, hh.steps, hh.sts, fc.dict, fc.cells, hh.sb⟩
    have htop := hh.top
    have hqs := hh.st
    clear hs5 hs6 hB5 hB6 hB7 b6 b7 B5 B6 B7 nq7 T5 T6 T7 hh fc
    obtain ⟨fit, _, cl⟩ := PVal.run hcut (Fit.start hr4 hrf) val ss.length (Nat.le_refl _)
    rw [List.take_length] at fit
    have hord := FlOrd.run hcut (Fit.start hr4 hrf) val (FlOrd.start start)
    have hsmall := PVal.small hcut (Fit.start hr4 hrf) val (show (1 : Int) < 2 ^ 63 by decide)
    have hok := fit.ok
    have lens := fit.len
    have hF0 : 0 < (flRun (cutL ls4) (flStart start) ss).2.length := flRun_pos (Nat.succ_pos _)
    have hFl : (flRun (cutL ls4) (flStart start) ss).2.length ≤ 1000 := by
      have h0 : (Tr.start start).cuts.length = 0 := rfl
      omega
    clear lens
    generalize Tr.run (cutL ls4) (Tr.start start) ((ss.map stp).take ss.length) = tr at fit cl
    refine ⟨q7, _, rfl, SqL.of htop, rfl, _, _, rfl, _, _, rfl, rfl, ?_⟩
    generalize hFi : flRun (cutL ls4) (flStart start) ss = Fi at st hqs fit hord hsmall hok hFl hF0
    clear htop cl fit hcu hss e4 ok lF lC lz hc4
    -- both walks
    refine ⟨(show 4 ≤ sizeLine by decide), fun tA ntA => ⟨(show 4 ≤ sizeLine by decide), fun tD ntD => ⟨(show 2 ≤ sizeLine by decide), fun pv npv => ⟨pv, rfl, ⟨_, SqL.of upd_same⟩, ?_⟩⟩⟩⟩
    have npb := (st.bag.same ((same_upd ntA).trans (same_upd ntD))).ne npv
    have a1 := same_upd (o := HO.tup [V.str "A", V.int 1, V.int 3, V.int 0]) ntA
    have a2 := same_upd (o := HO.tup [V.str "D", V.int 0, V.int 2, V.int 1]) ntD
    have a3 := same_upd (o := HO.lst [V.ref tA, V.ref tD]) npv
    have hvw : ∀ v : Bool, ∃ tX : Addr, [V.ref tA, V.ref tD][(if v = true then 0 else 1)]? = some (.ref tX) ∧ (upd (upd (upd H7 tA (HO.tup [V.str "A", V.int 1, V.int 3, V.int 0])) tD (HO.tup [V.str "D", V.int 0, V.int 2, V.int 1])) pv (HO.lst [V.ref tA, V.ref tD])) tX = some (.tup [.str (viewS v), .int (kN v : Nat), .int (kF v : Nat), .int (kL v : Nat)]) := fun v => by
      cases v with
      | true => exact ⟨tA, rfl, a3 _ _ (a2 _ _ upd_same)⟩
      | false => exact ⟨tD, rfl, a3 _ _ upd_same⟩
    have hpv : (upd (upd (upd H7 tA (HO.tup [V.str "A", V.int 1, V.int 3, V.int 0])) tD (HO.tup [V.str "D", V.int 0, V.int 2, V.int 1])) pv (HO.lst [V.ref tA, V.ref tD])) pv = some (.lst [V.ref tA, V.ref tD]) := upd_same
    have s07 := (a1.trans a2).trans a3
    replace st := st.keep (Keep.same s07) (st.bag.same s07) (st.tabs.ext s07)
    generalize upd (upd (upd H7 tA (HO.tup [V.str "A", V.int 1, V.int 3, V.int 0])) tD (HO.tup [V.str "D", V.int 0, V.int 2, V.int 1])) pv (HO.lst [V.ref tA, V.ref tD]) = H8 at st hvw hpv ⊢
    clear a1 a2 a3 s07 ntA ntD npv H7
    refine for_list (xs := [V.ref tA, V.ref tD]) (fun iv σ H' => ∃ y8 y9 y10 y11 y12 y13 y14 y15 y16 y17 y18 y19 y20 y21 : Option V, σ = [some (.ref a), some (.ref b), some (.int (0 + (i : Nat))), some (.ref p), some (.ref x), some (.str (S start)), some (.ref sl), some (.ref bd), y8, y9, y10, y11, y12, y13, y14, y15, y16, y17, y18, y19, y20, y21, none, none, none, none] ∧ Keep b H8 H' ∧ Bag H' b l ∧ LamX.Tabs (tabL Pt f c) H') ⟨_, _, _, _, _, _, _, _, _, _, _, _, _, _, rfl, Keep.refl _, st.bag, st.tabs⟩ (fun iv σ H' _ h => by
      obtain ⟨_, _, _, _, _, _, _, _, _, _, _, _, _, _, _, k, _⟩ := h
      exact SqL.of (k _ _ hpv npb (fun _ z => by cases z))) ?_ ?_
    · rintro iv xv σ H9 hxv ⟨y8, y9, y10, y11, y12, y13, y14, y15, y16, y17, y18, y19, y20, y21, rfl, k9, B9, T9⟩
      obtain ⟨v, tX, rfl, htX⟩ : ∃ (v : Bool) (tX : Addr), xv = .ref tX ∧ H8 tX = some (.tup [.str (viewS v), .int (kN v : Nat), .int (kF v : Nat), .int (kL v : Nat)]) := by
        match iv, hxv with
        | 0, h =>
          obtain ⟨tX, h1, h2⟩ := hvw true
          exact ⟨true, tX, (Option.some.inj h).symm.trans (Option.some.inj h1), h2⟩
        | 1, h =>
          obtain ⟨tX, h1, h2⟩ := hvw false
          exact ⟨false, tX, (Option.some.inj h).symm.trans (Option.some.inj h1), h2⟩
      have st9 := st.keep k9 B9 T9
      refine ⟨tX, _, rfl, SqT.of (k9.tup st.bag htX), rfl, _, _, rfl, _, _, rfl, _, _, rfl, _, _, rfl, rfl, ?_⟩
      -- where a walk would end
      refine ⟨bd, .dK (qs.map kfF), st9.dict, trivial, fun od => ⟨_, rfl, bd, od, rfl, .inl ⟨qs.map kfF, upd_same, fun D1 nD1 => ?_⟩⟩⟩
      have dD1 : H9 D1 = none := by
        have hne : D1 ≠ bd := fun z => by rw [z, upd_same] at nD1; cases nD1
        rwa [upd_ne hne] at nD1
      have tupL : ∀ {H' : Hp}, Same (upd H9 bd (.frz od (.dK (qs.map kfF)))) H' → ∀ {c : Addr} {xs : List V}, H9 c = some (.tup xs) → H' c = some (.tup xs) := by
        intro H' s c xs e
        exact s _ _ (by rw [upd_ne (fun z => by rw [z, st9.dict] at e; cases e)]; exact e)
      have nd : (qs.map (·.1.1)).Nodup := by
        have := hok.nd
        rw [← hqs, List.map_map] at this
        exact this
      have ql : qs.length ≤ 1000 := by
        have : qs.length = Fi.2.length := by rw [← hqs, List.length_map]
        omega
      refine lc_keysP (kf := kfF) qs (fun _ => true) (sideA H9 (kN v)) upd_same nD1 ?hz (fun _ => rfl) (fun _ _ _ _ R r => r) (fun q hq _ H' s R r => ?el) ?res
      case el =>
        obtain ⟨pb, sa, bl, h1, h2, h3, h4, h5⟩ := side_at (st9.cells q hq) (kN_lt v)
        rw [h4] at r
        exact ⟨_, rfl, _, rfl, bd, _, rfl, get_box nd hq (.inr ⟨od, s _ _ upd_same⟩), q.2, _, 1, _, rfl, rfl, SqT.of (tupL s h1), rfl, _, rfl, pb, _, (kN v : Nat), _, rfl, rfl, SqT.of (tupL s h2), at_of rfl h3, r⟩
      case hz => exact sz1 (by omega)
      case res =>
        rw [List.filter_eq_self.mpr (fun _ _ => rfl)]
        refine ⟨(upd_ne (fun z => by rw [← z, st9.dict] at dD1; cases dD1)).trans upd_same, ?_⟩
        rw [unlock_heap (show H9 bd = some (.dK (qs.map kfF)) from st9.dict) dD1]
        have sD := same_upd (o := HO.lst (qs.map (sideA H9 (kN v)))) dD1
        have hD : (upd H9 D1 (HO.lst (qs.map (sideA H9 (kN v))))) D1 = some (.lst (qs.map (sideA H9 (kN v)))) := upd_same
        have nDb := st9.bag.ne dD1
        have stD := st9.keep (Keep.same sD) (st9.bag.same sD) (st9.tabs.ext sD)
        have kD := k9.trans (Keep.same sD)
        generalize hsa : sideA H9 (kN v) = sN at hD ⊢
        have hsN : ∀ q ∈ qs, ∃ sa : Addr, sN q = .ref sa ∧ (upd H9 D1 (HO.lst (qs.map sN))) sa = some (tupI (low (nearV v q.1.2.2) Fi.1).1 (low (nearV v q.1.2.2) Fi.1).2) := fun q hq => by
          obtain ⟨pb, sa, bl, h1, h2, h3, h4, h5⟩ := side_at (st9.cells q hq) (kN_lt v)
          rw [sideN] at h5
          exact ⟨sa, by rw [← hsa]; exact h4, by rw [← hsa]; exact sD _ _ h5⟩
        rw [hsa] at sD stD kD
        generalize upd H9 D1 (HO.lst (qs.map sN)) = HD at hD stD kD hsN sD ⊢
        clear sD hsa tupL k9 B9 T9 st9 nD1 dD1
        -- a place
        refine ⟨_, rfl, b, l, rfl, stD.bag, fun HA pz t m bA BA npz nzb nzl hpz t0 tm m41 => ?_⟩
        have stA := stD.keep (Keep.drawn bA) BA (tabs_drawn stD.tabs stD.bag bA)
        have kA := kD.trans (Keep.drawn bA)
        replace hD := bA _ _ nDb hD
        replace hsN : ∀ q ∈ qs, ∃ sa : Addr, sN q = .ref sa ∧ HA sa = some (tupI (low (nearV v q.1.2.2) Fi.1).1 (low (nearV v q.1.2.2) Fi.1).2) := fun q hq => by
          obtain ⟨sa, h1, h2⟩ := hsN q hq
          exact ⟨sa, h1, (Keep.drawn bA).tup stD.bag h2⟩
        clear stD kD bA npz nzl
        -- the places of a walk
        have hqp : 0 < qs.length := by
          have : qs.length = Fi.2.length := by rw [← hqs, List.length_map]
          omega
        refine ⟨_, rfl, pz, _, 0, _, rfl, rfl, SqT.of hpz, rfl, _, rfl, pz, _, 1, _, rfl, rfl, SqT.of hpz, rfl, t, m, rfl, by omega, by omega, by omega, fun w0 nw0 => ?_⟩
        refine ⟨(show 2 ≤ sizeLine by decide), fun w1 nw1 => ?_⟩
        have c1 := (same_upd (o := tupI (low t m).1 (low t m).2) nw0).trans (same_upd (o := HO.tup [V.int 1, V.int 2]) nw1)
        have o0 : OkAt (upd (upd HA w0 (tupI (low t m).1 (low t m).2)) w1 (HO.tup [V.int 1, V.int 2])) (.ref w0) := okAt_low (t := t) (b := m) (by omega) (by omega) (by omega) ((same_upd nw1) _ _ upd_same)
        have o1 : OkAt (upd (upd HA w0 (tupI (low t m).1 (low t m).2)) w1 (HO.tup [V.int 1, V.int 2])) (.ref w1) := okAt_lit upd_same (by decide +kernel) (by decide) (by unfold Sm; decide) (by unfold Sm; decide)
        have oN : ∀ u ∈ qs.map sN, OkAt (upd (upd HA w0 (tupI (low t m).1 (low t m).2)) w1 (HO.tup [V.int 1, V.int 2])) u := fun u hu => by
          obtain ⟨q, hq, rfl⟩ := List.mem_map.mp hu
          obtain ⟨sa, e1, e2⟩ := hsN q hq
          rw [e1]
          have bd := near_bd (hok.ok _ (by rw [← hqs]; exact List.mem_map.mpr ⟨q, hq, rfl⟩)) v
          have hp0 := hok.pos
          exact okAt_low (by omega) (by omega) (by omega) (c1 _ _ e2)
        have stB := stA.keep (Keep.same c1) (stA.bag.same c1) (stA.tabs.ext c1)
        have kB := kA.trans (Keep.same c1)
        replace hD := c1 _ _ hD
        replace hsN : ∀ q ∈ qs, ∃ sa : Addr, sN q = .ref sa ∧ (upd (upd HA w0 (tupI (low t m).1 (low t m).2)) w1 (HO.tup [V.int 1, V.int 2])) sa = some (tupI (low (nearV v q.1.2.2) Fi.1).1 (low (nearV v q.1.2.2) Fi.1).2) := fun q hq => by
          obtain ⟨sa, h1, h2⟩ := hsN q hq
          exact ⟨sa, h1, c1 _ _ h2⟩
        generalize upd (upd HA w0 (tupI (low t m).1 (low t m).2)) w1 (HO.tup [V.int 1, V.int 2]) = HB at stB kB o0 o1 oN hD hsN ⊢
        clear c1 stA kA hpz nw0 nw1
        refine ⟨_, rfl, _, rfl, b, l, .ref D1, _, rfl, stB.bag, .inl ⟨D1, nDb, rfl, SqL.of hD⟩, by rw [List.length_map]; exact hqp, by rw [List.length_map]; omega, fun HC u2 hu2 bC BC' => ?_⟩
        refine ⟨(show 2 ≤ sizeLine by decide), fun w3 nw3 => ⟨(show 2 ≤ sizeLine by decide), fun w4 nw4 => ?_⟩⟩
        refine ⟨0, 1, rfl, rfl, (show 2 ≤ sizeLine by decide), fun w5 nw5 => ⟨(show 2 ≤ sizeLine by decide), fun w6 nw6 => ⟨(show 7 ≤ sizeLine by decide), fun pw npw => ⟨pw, rfl, ⟨_, SqL.of upd_same⟩, ?_⟩⟩⟩⟩
        have e3 := same_upd (o := HO.tup [V.int 0, V.int 1]) nw3
        have e4 := same_upd (o := HO.tup [V.int 1, V.int 1]) nw4
        have e5 := same_upd (o := HO.tup [V.int (0 - 1), V.int 2]) nw5
        have e6 := same_upd (o := HO.tup [V.int 3, V.int 2]) nw6
        have e7 := same_upd (o := HO.lst [V.ref w0, V.ref w1, u2, V.ref w3, V.ref w4, V.ref w5, V.ref w6]) npw
        have npwb := (((((BC'.same e3).same e4).same e5).same e6)).ne npw
        have eA := (((e3.trans e4).trans e5).trans e6).trans e7
        have kE : Keep b HB _ := (Keep.drawn bC).trans (Keep.same eA)
        have oW : ∀ u ∈ [V.ref w0, V.ref w1, u2, V.ref w3, V.ref w4, V.ref w5, V.ref w6], OkAt (upd (upd (upd (upd (upd HC w3 (HO.tup [V.int 0, V.int 1])) w4 (HO.tup [V.int 1, V.int 1])) w5 (HO.tup [V.int (0 - 1), V.int 2])) w6 (HO.tup [V.int 3, V.int 2])) pw (HO.lst [V.ref w0, V.ref w1, u2, V.ref w3, V.ref w4, V.ref w5, V.ref w6])) u := fun u hu => by
          simp only [List.mem_cons, List.not_mem_nil, or_false] at hu
          rcases hu with rfl | rfl | rfl | rfl | rfl | rfl | rfl
          · exact o0.keep kE stB.bag
          · exact o1.keep kE stB.bag
          · exact (oN _ hu2).keep kE stB.bag
          · exact okAt_lit ((((e4.trans e5).trans e6).trans e7) _ _ upd_same) (by decide +kernel) (by decide) (by unfold Sm; decide) (by unfold Sm; decide)
          · exact okAt_lit (((e5.trans e6).trans e7) _ _ upd_same) (by decide +kernel) (by decide) (by unfold Sm; decide) (by unfold Sm; decide)
          · exact okAt_lit ((e6.trans e7) _ _ upd_same) (by decide +kernel) (by decide) (by unfold Sm; decide) (by unfold Sm; decide)
          · exact okAt_lit (e7 _ _ upd_same) (by decide +kernel) (by decide) (by unfold Sm; decide) (by unfold Sm; decide)
        have hpw : (upd (upd (upd (upd (upd HC w3 (HO.tup [V.int 0, V.int 1])) w4 (HO.tup [V.int 1, V.int 1])) w5 (HO.tup [V.int (0 - 1), V.int 2])) w6 (HO.tup [V.int 3, V.int 2])) pw (HO.lst [V.ref w0, V.ref w1, u2, V.ref w3, V.ref w4, V.ref w5, V.ref w6])) pw = some (.lst [V.ref w0, V.ref w1, u2, V.ref w3, V.ref w4, V.ref w5, V.ref w6]) := upd_same
        have stE := stB.keep kE (BC'.same eA) ((tabs_drawn stB.tabs stB.bag bC).ext eA)
        have oE : ∀ u ∈ qs.map sN, OkAt _ u := fun u hu => (oN u hu).keep kE stB.bag
        have sE : ∀ q ∈ qs, ∃ sa : Addr, sN q = .ref sa ∧ _ := fun q hq => by
          obtain ⟨sa, h1, h2⟩ := hsN q hq
          exact ⟨sa, h1, kE.tup stB.bag h2⟩
        have hDE := kE _ _ hD nDb (fun _ z => by cases z)
        have kO := kB.trans kE
        clear hsN e3 e4 e5 e6 e7 eA kE stB kB o0 o1 oN hD BC' bC nw3 nw4 nw5 nw6 npw
        generalize upd (upd (upd (upd (upd HC w3 (HO.tup [V.int 0, V.int 1])) w4 (HO.tup [V.int 1, V.int 1])) w5 (HO.tup [V.int (0 - 1), V.int 2])) w6 (HO.tup [V.int 3, V.int 2])) pw (HO.lst [V.ref w0, V.ref w1, u2, V.ref w3, V.ref w4, V.ref w5, V.ref w6]) = HE at stE kO oW oE hpw hDE sE ⊢
        generalize [V.ref w0, V.ref w1, u2, V.ref w3, V.ref w4, V.ref w5, V.ref w6] = us at oW hpw ⊢
        refine for_list (xs := us) (fun iu σ H' => ∃ z14 z15 z16 z17 z18 z19 z20 z21 : Option V, σ = [some (.ref a), some (.ref b), some (.int (0 + (i : Nat))), some (.ref p), some (.ref x), some (.str (S start)), some (.ref sl), some (.ref bd), some (.str (viewS v)), some (.int (kN v : Nat)), some (.int (kF v : Nat)), some (.int (kL v : Nat)), some (.ref D1), some (.ref pz), z14, z15, z16, z17, z18, z19, z20, z21, none, none, none, none] ∧ Keep b HE H' ∧ Bag H' b l ∧ LamX.Tabs (tabL Pt f c) H') ⟨_, _, _, _, _, _, _, _, rfl, Keep.refl _, stE.bag, stE.tabs⟩ (fun iu σ H' _ h => by
          obtain ⟨_, _, _, _, _, _, _, _, _, k, _⟩ := h
          exact SqL.of (k _ _ hpw npwb (fun _ z => by cases z))) ?_ ?_
        · rintro iu xu σ HF hxu ⟨z14, z15, z16, z17, z18, z19, z20, z21, rfl, kH, BF, TF⟩
          obtain ⟨ra, tt, bb, rfl, hra, elow, hbb, smt, smb⟩ := (oW xu (List.mem_of_getElem? hxu)).keep kH stE.bag
          have stF := stE.keep kH BF TF
          refine ⟨_, rfl, (show 2 ≤ sizeLine by decide), fun d0 nd0 => ?_⟩
          have sd := same_upd (o := HO.tup [V.str "InvalidRatio", V.ref ra]) nd0
          have hd0 : (upd HF d0 (HO.tup [V.str "InvalidRatio", V.ref ra])) d0 = some (.tup [V.str "InvalidRatio", V.ref ra]) := upd_same
          have stG := stF.keep (Keep.same sd) (BF.same sd) (TF.ext sd)
          have kG := kH.trans (Keep.same sd)
          replace hra := sd _ _ hra
          generalize upd HF d0 (HO.tup [V.str "InvalidRatio", V.ref ra]) = HG at stG kG hra hd0 ⊢
          clear sd nd0 stF kH BF TF
          refine ⟨fun σ' H' => ∃ (d z16 z17 z18 z19 : Option V) (dd : Addr), d = some (.ref dd) ∧ σ' = [some (.ref a), some (.ref b), some (.int (0 + (i : Nat))), some (.ref p), some (.ref x), some (.str (S start)), some (.ref sl), some (.ref bd), some (.str (viewS v)), some (.int (kN v : Nat)), some (.int (kF v : Nat)), some (.int (kL v : Nat)), some (.ref D1), some (.ref pz), some (.ref ra), d, z16, z17, z18, z19, z20, z21, none, none, none, none] ∧ Keep b HE H' ∧ Bag H' b l ∧ LamX.Tabs (tabL Pt f c) H' ∧ H' ra = some (tupI tt bb) ∧ ResAt v Fi tt bb H' dd, ?_, ?_⟩
          · have no : ∀ H', Same HG H' → ¬ WalkOk v Fi tt bb → Keep b HE H' ∧ Bag H' b l ∧ LamX.Tabs (tabL Pt f c) H' ∧ H' ra = some (tupI tt bb) ∧ ResAt v Fi tt bb H' d0 := fun H' s hn => ⟨kG.trans (Keep.same s), stG.bag.same s, stG.tabs.ext s, s _ _ hra, .inr ⟨hn, ra, s _ _ hd0, s _ _ hra⟩⟩
            refine ⟨(show 2 ≤ sizeLine by decide), fun q1 nq1 => ⟨_, rfl, q1, ra, 0, 1, tt, bb, rfl, upd_same, (same_upd nq1) _ _ hra, by unfold Sm; decide, by unfold Sm; decide, smt, smb, _, rfl, ?_⟩⟩
            have s1 := same_upd (o := HO.tup [V.int 0, V.int 1]) nq1
            generalize upd HG q1 (HO.tup [V.int 0, V.int 1]) = HH at s1 ⊢
            by_cases ht : 0 < tt
            case neg =>
              rw [decide_eq_false (show ¬ (0 * bb < tt * 1) by omega)]
              refine iteF ?_
              refine iteF ?_
              exact ⟨_, _, _, _, _, d0, rfl, rfl, no _ s1 (fun h => ht h.1)⟩
            rw [decide_eq_true (show 0 * bb < tt * 1 by omega)]
            refine iteT ?_
            refine ⟨_, rfl, (show 2 ≤ sizeLine by decide), fun q2 nq2 => ⟨ra, q2, tt, bb, 1, 1, rfl, (s1.trans (same_upd nq2)) _ _ hra, upd_same, smt, smb, by unfold Sm; decide, by unfold Sm; decide, _, rfl, ?_⟩⟩
            have s2 := s1.trans (same_upd (o := HO.tup [V.int 1, V.int 1]) nq2)
            generalize upd HH q2 (HO.tup [V.int 1, V.int 1]) = HI at s2 ⊢
            clear s1 nq1 nq2
            by_cases hb1 : tt < bb
            case neg =>
              rw [decide_eq_false (show ¬ (tt * 1 < 1 * bb) by omega)]
              refine iteF ?_
              refine iteF ?_
              exact ⟨_, _, _, _, _, d0, rfl, rfl, no _ s2 (fun h => hb1 h.2.1)⟩
            rw [decide_eq_true (show tt * 1 < 1 * bb by omega)]
            refine iteT ?_
            have k2 := kG.trans (Keep.same s2)
            refine ⟨_, rfl, _, rfl, pI2 (tt, bb), (qs.map fun q => low (nearV v q.1.2.2) Fi.1).map pI2, dp_pI2 (s2 _ _ hra), .lst (SqL.of (k2 _ _ hDE nDb (fun _ z => by cases z))) (dp_near fun q hq => ?_), shaped_pI2 _, shaped_pI2s _, _, rfl, ?_⟩
            · obtain ⟨sa, h1, h2⟩ := sE q hq
              exact ⟨sa, h1, k2.tup stE.bag h2⟩
            rw [any_near]
            by_cases hsh : (qs.any fun q => shutW v Fi.1 tt bb q.1.2.2) = true
            · rw [hsh]
              refine iteF ?_
              refine ⟨_, _, _, _, _, d0, rfl, rfl, no _ s2 (fun h => ?_)⟩
              obtain ⟨q, hq, hq2⟩ := List.any_eq_true.mp hsh
              have := h.2.2 q.1 (by rw [← hqs]; exact List.mem_map.mpr ⟨q, hq, rfl⟩)
              rw [this] at hq2
              cases hq2
            rw [Bool.eq_false_iff.mpr hsh]
            refine iteT ?_
            have hwok : WalkOk v Fi tt bb := ⟨ht, hb1, fun r hr => by
              rw [← hqs] at hr
              obtain ⟨q, hq, rfl⟩ := List.mem_map.mp hr
              cases e : shutW v Fi.1 tt bb q.1.2.2 with
              | false => rfl
              | true => exact absurd (List.any_eq_true.mpr ⟨q, hq, e⟩) hsh⟩
            clear no hsh
            -- whom it meets
            have stI := stG.keep (Keep.same s2) (stG.bag.same s2) (stG.tabs.ext s2)
            replace hra := s2 _ _ hra
            clear s2 stG kG hd0
            have okB : ∀ q ∈ qs, q.1.2.2.Ok Fi.1 := fun q hq => hok.ok _ (by rw [← hqs]; exact List.mem_map.mpr ⟨q, hq, rfl⟩)
            have hp0 := hok.pos
            have smL : ∀ {z : Int}, 0 ≤ z → z ≤ Fi.1 → Sm (low z Fi.1).1 ∧ Sm (low z Fi.1).2 := fun h0 h1 => ⟨Nat.lt_of_le_of_lt (low_le (show Fi.1 ≠ 0 by omega)).1 (by omega), Nat.lt_of_le_of_lt (low_le (show Fi.1 ≠ 0 by omega)).2 (by omega)⟩
            refine ⟨bd, .dK (qs.map kfF), stI.dict, trivial, fun od => ⟨_, rfl, bd, od, rfl, .inl ⟨qs.map kfF, upd_same, fun M1 nM1 => ?_⟩⟩⟩
            have dM1 : HI M1 = none := by
              have hne : M1 ≠ bd := fun z => by rw [z, upd_same] at nM1; cases nM1
              rwa [upd_ne hne] at nM1
            have tupL : ∀ {H' : Hp}, Same (upd HI bd (.frz od (.dK (qs.map kfF)))) H' → ∀ {c : Addr} {xs : List V}, HI c = some (.tup xs) → H' c = some (.tup xs) := by
              intro H' s c xs e
              exact s _ _ (by rw [upd_ne (fun z => by rw [z, stI.dict] at e; cases e)]; exact e)
            refine lc_keysP (kf := kfF) qs (fun q => metW v Fi.1 tt bb q.1.2.2) (fun q => V.str (S q.1.1)) upd_same nM1 (sz1 (by omega)) (fun _ => rfl) (fun q hq H' s R r => ?tst) (fun q hq _ H' s R r => ⟨_, rfl, r⟩) ?res2
            case tst =>
              obtain ⟨pb, sa, bl, h1, h2, h3, h4, h5⟩ := side_at (stI.cells q hq) (kN_lt v)
              obtain ⟨pb', sb, bl', g1, g2, g3, g4, g5⟩ := side_at (stI.cells q hq) (kF_lt v)
              rw [sideN] at h5
              rw [sideF] at g5
              have bnd := near_bd (okB q hq) v
              have m1 := smL bnd.1 (by omega)
              have m2 := smL (z := farV v q.1.2.2) (by omega) bnd.2.2
              have gb : DGet H' bd (.str (S q.1.1)) (some (.ref q.2)) := get_box nd hq (.inr ⟨od, s _ _ upd_same⟩)
              refine ⟨_, rfl, _, rfl, bd, _, rfl, gb, q.2, _, 1, _, rfl, rfl, SqT.of (tupL s h1), rfl, _, rfl, pb, _, (kN v : Nat), _, rfl, rfl, SqT.of (tupL s h2), at_of rfl h3, _, rfl, sa, ra, _, _, tt, bb, rfl, tupL s h5, tupL s hra, m1.1, m1.2, smt, smb, _, rfl, ?_⟩
              unfold metW at r
              cases c1 : decide ((low (nearV v q.1.2.2) Fi.1).1 * bb < tt * (low (nearV v q.1.2.2) Fi.1).2) with
              | false =>
                rw [c1, Bool.false_and] at r
                exact iteF r
              | true =>
                rw [c1, Bool.true_and] at r
                refine iteT ?_
                exact ⟨_, rfl, _, rfl, _, rfl, bd, _, rfl, gb, q.2, _, 1, _, rfl, rfl, SqT.of (tupL s g1), rfl, _, rfl, pb', _, (kF v : Nat), _, rfl, rfl, SqT.of (tupL s g2), at_of rfl g3, ra, sb, tt, bb, _, _, rfl, tupL s hra, tupL s g5, smt, smb, m2.1, m2.2, _, rfl, r⟩
            case res2 =>
              refine ⟨(upd_ne (fun z => by rw [← z, stI.dict] at dM1; cases dM1)).trans upd_same, ?_⟩
              rw [unlock_heap (show HI bd = some (.dK (qs.map kfF)) from stI.dict) dM1]
              have sM := same_upd (o := HO.lst ((qs.filter fun q => metW v Fi.1 tt bb q.1.2.2).map fun q => V.str (S q.1.1))) dM1
              have hM1 : (upd HI M1 (HO.lst ((qs.filter fun q => metW v Fi.1 tt bb q.1.2.2).map fun q => V.str (S q.1.1)))) M1 = some (.lst ((qs.filter fun q => metW v Fi.1 tt bb q.1.2.2).map fun q => V.str (S q.1.1))) := upd_same
              have stJ := stI.keep (Keep.same sM) (stI.bag.same sM) (stI.tabs.ext sM)
              have kJ := k2.trans (Keep.same sM)
              replace hra := sM _ _ hra
              generalize upd HI M1 (HO.lst ((qs.filter fun q => metW v Fi.1 tt bb q.1.2.2).map fun q => V.str (S q.1.1))) = HJ at hM1 stJ kJ hra ⊢
              clear sM tupL dM1 nM1 k2 stI
              have hML : (qs.filter fun q => metW v Fi.1 tt bb q.1.2.2).length ≤ 1000 := Nat.le_trans (List.length_filter_le _ _) ql
              have hMq : ∀ q ∈ (qs.filter fun q => metW v Fi.1 tt bb q.1.2.2), q ∈ qs := fun q hq => (List.mem_filter.mp hq).1
              generalize hM : (qs.filter fun q => metW v Fi.1 tt bb q.1.2.2) = M at hM1 hML hMq
              refine ⟨(show 0 ≤ sizeLine by decide), fun pr npr => ?_⟩
              have sR := same_upd (o := HO.lst ([] : List V)) npr
              have hpr0 : (upd HJ pr (HO.lst ([] : List V))) pr = some (.lst []) := upd_same
              have stK := stJ.keep (Keep.same sR) (stJ.bag.same sR) (stJ.tabs.ext sR)
              have kK := kJ.trans (Keep.same sR)
              have npb := stJ.bag.ne npr
              have nM1r : M1 ≠ pr := ne_of_none hM1 npr
              replace hM1 := sR _ _ hM1
              have sJK : ∀ H', But pr (upd HJ pr (HO.lst ([] : List V))) H' → Same HJ H' := fun H' bt c o e => bt c o (ne_of_none e npr) (sR c o e)
              generalize upd HJ pr (HO.lst ([] : List V)) = HK at hpr0 stK kK hM1 sJK ⊢
              clear sR npr
              refine ⟨_, rfl, M1, rfl, ⟨_, SqL.of hM1⟩, for_list (xs := M.map fun q => V.str (S q.1.1)) (fun j σ H' => ∃ (z18 z19 : Option V) (rows : List (Addr × (Nat × List Nat))), σ = [some (.ref a), some (.ref b), some (.int (0 + (i : Nat))), some (.ref p), some (.ref x), some (.str (S start)), some (.ref sl), some (.ref bd), some (.str (viewS v)), some (.int (kN v : Nat)), some (.int (kF v : Nat)), some (.int (kL v : Nat)), some (.ref D1), some (.ref pz), some (.ref ra), some (.ref d0), some (.ref M1), some (.ref pr), z18, z19, z20, z21, none, none, none, none] ∧ But pr HK H' ∧ H' pr = some (.lst (rows.map fun q => V.ref q.1)) ∧ (∀ q ∈ rows, H' q.1 = some (.tup ((ktR q.2).map L2.kV))) ∧ rows.map (·.2) = (M.take j).map fun q => (((M.filter fun o => decide (alongV v o.1.2.2 < alongV v q.1.2.2)).map fun o => V.str (S o.1.1)).length, q.1.1))
                ⟨_, _, [], rfl, (Same.refl _).but, hpr0, (fun q h => by cases h), rfl⟩ (fun j σ H' _ ⟨_, _, _, _, bt, _⟩ => SqL.of (bt _ _ nM1r hM1)) ?_ ?_⟩
              · rintro j xj σ HL hxj ⟨z18, z19, rows, rfl, bt, hpr, hrw, hmp⟩
                rw [List.getElem?_map] at hxj
                obtain ⟨q, hq1, rfl⟩ := Option.map_eq_some_iff.mp hxj
                have hqM := List.mem_of_getElem? hq1
                have hbdL : HL bd = some (.dK (qs.map kfF)) := bt _ _ (fun z => by rw [← z, stK.dict] at hpr0; cases hpr0) stK.dict
                have tupK : ∀ {c : Addr} {xs : List V}, HK c = some (.tup xs) → HL c = some (.tup xs) := by
                  intro c xs e
                  exact bt _ _ (fun z => by rw [z, hpr0] at e; cases e) e
                refine ⟨_, rfl, M1, rfl, ⟨_, SqL.of (bt _ _ nM1r hM1)⟩, fun D3 nD3 => ?_⟩
                refine lc_listQ (vf := fun q => V.str (S q.1.1)) M (fun o => decide (alongV v o.1.2.2 < alongV v q.1.2.2)) (fun o => V.str (S o.1.1)) (SqL.of (bt _ _ nM1r hM1)) nD3 (sz1 (by omega)) (fun _ => rfl) (fun o ho H' s R r => ?tst3) (fun o ho _ H' s R r => ⟨_, rfl, r⟩) (fun HN s3 hD3 => ?res3)
                case tst3 =>
                  obtain ⟨pb, sa, bl, h1, h2, h3, h4, h5⟩ := side_at (stK.cells o (hMq o ho)) (kL_lt v)
                  obtain ⟨pb', sb, bl', g1, g2, g3, g4, g5⟩ := side_at (stK.cells q (hMq q hqM)) (kL_lt v)
                  rw [sideL] at h5 g5
                  have o1 := okB o (hMq o ho)
                  have o2 := okB q (hMq q hqM)
                  have bnd1 : 0 ≤ alongV v o.1.2.2 ∧ alongV v o.1.2.2 ≤ Fi.1 := along_bd o1 v
                  have bnd2 : 0 ≤ alongV v q.1.2.2 ∧ alongV v q.1.2.2 ≤ Fi.1 := along_bd o2 v
                  have m1 := smL bnd1.1 bnd1.2
                  have m2 := smL bnd2.1 bnd2.2
                  refine ⟨_, rfl, _, rfl, bd, _, rfl, get_box nd (hMq o ho) (.inl (s _ _ hbdL)), o.2, _, 1, _, rfl, rfl, SqT.of (s _ _ (tupK h1)), rfl, _, rfl, pb, _, (kL v : Nat), _, rfl, rfl, SqT.of (s _ _ (tupK h2)), at_of rfl h3, ?_⟩
                  refine ⟨_, rfl, _, rfl, bd, _, rfl, get_box nd (hMq q hqM) (.inl (s _ _ hbdL)), q.2, _, 1, _, rfl, rfl, SqT.of (s _ _ (tupK g1)), rfl, _, rfl, pb', _, (kL v : Nat), _, rfl, rfl, SqT.of (s _ _ (tupK g2)), at_of rfl g3, sa, sb, _, _, _, _, rfl, s _ _ (tupK h5), s _ _ (tupK g5), m1.1, m1.2, m2.1, m2.2, _, rfl, ?_⟩
                  rw [show decide ((low (alongV v o.1.2.2) Fi.1).1 * (low (alongV v q.1.2.2) Fi.1).2 < (low (alongV v q.1.2.2) Fi.1).1 * (low (alongV v o.1.2.2) Fi.1).2) = decide (alongV v o.1.2.2 < alongV v q.1.2.2) from decide_eq_decide.mpr (low_lt_iff hp0)]
                  exact r
                case res3 =>
                  refine ⟨D3, _, rfl, .inl (SqL.of hD3), ?_⟩
                  have hpr3 := s3 _ _ hpr
                  refine ⟨_, rfl, .inl ⟨rfl, _, SqL.of hpr3⟩, _, rfl, _, rfl, (show 2 ≤ sizeLine by decide), fun tu ntu => ?_⟩
                  have s4 := same_upd (o := HO.tup [V.int (((M.filter fun o => decide (alongV v o.1.2.2 < alongV v q.1.2.2)).map fun o => V.str (S o.1.1)).length : Nat), V.str (S q.1.1)]) ntu
                  have htu : (upd HN tu (HO.tup [V.int (((M.filter fun o => decide (alongV v o.1.2.2 < alongV v q.1.2.2)).map fun o => V.str (S o.1.1)).length : Nat), V.str (S q.1.1)])) tu = some (.tup ((ktR (((M.filter fun o => decide (alongV v o.1.2.2 < alongV v q.1.2.2)).map fun o => V.str (S o.1.1)).length, q.1.1)).map L2.kV)) := upd_same
                  have hpr4 := s4 _ _ hpr3
                  have s34 := s3.trans s4
                  have hrl : rows.length ≤ 1000 := by
                    have := congrArg List.length hmp
                    rw [List.length_map, List.length_map, List.length_take] at this
                    omega
                  have ntr : tu ≠ pr := fun z => by rw [z, hpr3] at ntu; cases ntu
                  refine ⟨pr, _, _, rfl, rfl, hpr4, by rw [List.length_map]; exact sz1 (by omega), ?_⟩
                  refine ⟨_, _, rows ++ [(tu, (((M.filter fun o => decide (alongV v o.1.2.2 < alongV v q.1.2.2)).map fun o => V.str (S o.1.1)).length, q.1.1))], rfl, fun c o n e => ?_, ?_, fun z hz => ?_, ?_⟩
                  · rw [upd_ne n]
                    exact s34 _ _ (bt _ _ n e)
                  · rw [upd_same, List.map_append]
                    rfl
                  · rcases List.mem_append.mp hz with h | h
                    · have h1 := s34 _ _ (hrw z h)
                      rw [upd_ne (fun w => by rw [w, hpr4] at h1; cases h1)]
                      exact h1
                    · rw [List.mem_singleton.mp h]
                      rw [upd_ne ntr]
                      exact htu
                  · rw [List.map_append, hmp, List.take_add_one, hq1, List.map_append]
                    rfl
              · rintro σ HL ⟨z18, z19, rows, rfl, bt, hpr, hrw, hmp⟩
                rw [List.take_of_length_le (by rw [List.length_map]; exact Nat.le_refl _)] at hmp
                simp only [List.length_map] at hmp
                refine ⟨_, rfl, pr, rows.map fun q => V.ref q.1, tkOf HL, true, [false], rfl, SqL.of hpr, rows_form hrw ktR_form, fun ys ps hpw hperm nps => ?_⟩
                obtain ⟨so, rfl, p4, w4⟩ := rows_sorted hrw hperm hpw
                have hrs : ∀ q ∈ so, HL q.1 = some (.tup ((ktR q.2).map L2.kV)) := fun q hq => hrw q (p4.mem_iff.mp hq)
                have sP := same_upd (o := HO.lst (so.map fun q => V.ref q.1)) nps
                have hps : (upd HL ps (HO.lst (so.map fun q => V.ref q.1))) ps = some (.lst (so.map fun q => V.ref q.1)) := upd_same
                generalize upd HL ps (HO.lst (so.map fun q => V.ref q.1)) = HQ at sP hps ⊢
                refine ⟨ps, rfl, ⟨_, SqL.of hps⟩, fun D4 nD4 => ?_⟩
                have hsl : so.length ≤ 1000 := by
                  have h1 := congrArg List.length hmp
                  have h2 := p4.length_eq
                  rw [List.length_map, List.length_map] at h1
                  omega
                refine lc_listT (f := fun q => q.1) (x := fun q => V.int (q.2.1 : Nat)) (y := fun q => V.str (S q.2.2)) so (fun q => V.str (S q.2.2)) (SqL.of hps) (fun q hq => sP _ _ (hrs q hq)) nD4 (sz1 (by omega)) (fun _ _ => rfl) (fun _ _ _ _ R r => r) (fun q hq _ s R r => ⟨_, rfl, r⟩) ?_
                obtain ⟨sf, hasf, hnames⟩ := row_order hok hord hbb hqs (by rw [hmp, hM]) p4 w4
                have sD4 := same_upd (o := HO.lst (so.map fun q => V.str (S q.2.2))) nD4
                have hD4 : (upd HQ D4 (HO.lst (so.map fun q => V.str (S q.2.2)))) D4 = some (.lst ((walkW v Fi.1 tt bb sf).map fun a => V.str (S a))) := by
                  rw [upd_same, ← hnames, List.map_map]
                  rfl
                generalize upd HQ D4 (HO.lst (so.map fun q => V.str (S q.2.2))) = HR at sD4 hD4 ⊢
                refine ⟨(show 2 ≤ sizeLine by decide), fun dd ndd => ?_⟩
                have sZ := (((sJK _ bt).trans sP).trans sD4).trans (same_upd (o := HO.tup [V.str "", V.ref D4]) ndd)
                exact ⟨_, _, _, _, _, dd, rfl, rfl, kJ.trans (Keep.same sZ), stJ.bag.same sZ, stJ.tabs.ext sZ, sZ _ _ hra, .inl ⟨hwok, D4, sf, hasf, upd_same, (same_upd ndd) _ _ hD4⟩⟩
          · rintro σ' H' ⟨_, z16, z17, z18, z19, dd, rfl, rfl, kZ, BZ, TZ, hraZ, hres⟩
            clear hra hd0 stG kG
            have stZ := stE.keep kZ BZ TZ
            refine ⟨_, rfl, ra, _, 0, _, rfl, rfl, SqT.of hraZ, rfl, _, rfl, ra, _, 1, _, rfl, rfl, SqT.of hraZ, rfl, ?_⟩
            refine fun z0 dz nz0 nd0 hz0 => ratio_made nz0 nd0 hz0 (by omega) (Nat.lt_trans smb (by decide)) fun HS sS R0 => ⟨rfl, ?_⟩
            rw [elow] at R0
            have stS := stZ.keep (Keep.same sS) (BZ.same sS) (TZ.ext sS)
            have kS := kZ.trans (Keep.same sS)
            replace hres := hres.ext (fun c o e _ => sS c o e)
            refine ⟨stS.tabs, fun HT eT TT2 => ?_⟩
            have stT := stS.keep (Keep.ext eT) (stS.bag.ext eT) TT2
            have kT := kS.trans (Keep.ext eT)
            replace hres := hres.ext eT
            have RT : RatAt CR HT z0 tt bb := by
              obtain ⟨dx, h⟩ := R0
              exact ⟨dx, eT _ _ h (fun _ z => by cases z)⟩
            refine give_walk hFi stT.book hr4 hrf stT.steps stT.sts hsl9 val RT smt smb (fun E Qo z => ⟨_, rfl, _, rfl, _, rfl, _, rfl, _, rfl, z⟩) (fun HU f1 sU r1 => ?_)
            have stU := stT.keep (Keep.same sU) (stT.bag.same sU) (stT.tabs.ext sU)
            have kU := kT.trans (Keep.same sU)
            replace hres := hres.ext (fun c o e _ => sU c o e)
            refine ⟨stU.tabs, fun HV eV TV2 => ?_⟩
            have stV := stU.keep (Keep.ext eV) (stU.bag.ext eV) TV2
            have kV2 := kU.trans (Keep.ext eV)
            replace hres := hres.ext eV
            replace r1 := r1.ext eV
            have RV : RatAt CR HV z0 tt bb := by
              obtain ⟨dx, h⟩ := RT.same sU
              exact ⟨dx, eV _ _ h (fun _ z => by cases z)⟩
            refine give_walkT hFi stV.book hr4 hrf stV.sts hsl9 val RV smt smb (fun E Qo z => ⟨_, rfl, _, rfl, _, rfl, sl, _, rfl, .inl ⟨SqL.of stV.steps, fun lt nlt => ⟨_, rfl, _, rfl, z lt nlt⟩⟩⟩) (fun HW f2 sW r2 => ?_)
            have kW := kV2.trans (Keep.same sW)
            replace hres := hres.ext (fun c o e _ => sW c o e)
            replace r1 := r1.ext (fun c o e _ => sW c o e)
            have BW := stV.bag.same sW
            have TW := stV.tabs.ext sW
            clear stZ stS stT stU stV kZ kS kT kU kV2 sS eT sU eV sW R0 RT RV TT2 TV2 BZ TZ
            refine ⟨(show 2 ≤ sizeLine by decide), fun pf npf => ?_⟩
            refine ⟨_, rfl, _, rfl, _, rfl, (show 2 ≤ sizeLine by decide), fun pd npd => ?_⟩
            have sf := same_upd (o := HO.lst [V.ref f1, V.ref f2]) npf
            have sd := same_upd (o := HO.lst [V.ref dd, V.ref dd]) npd
            have sfd := sf.trans sd
            obtain ⟨dt, dp1, dp2, dp3, ddp⟩ := res_dp (K := K) hFl (r1.ext (fun c o e _ => sfd c o e)) (r2.ext (fun c o e _ => sfd c o e)) (hres.ext (fun c o e _ => sfd c o e))
            refine ⟨_, _, .list [dt, dt], rfl, .lst (SqL.of (sd _ _ upd_same)) (.cons dp1 (.cons dp2 .nil)), .lst (SqL.of upd_same) (.cons dp3 (.cons dp3 .nil)), deep_list (show 2 ≤ 1000 by decide) (fun e he => ?_), fun HX sX => ?_⟩
            · simp only [List.mem_cons, List.not_mem_nil, or_false] at he
              rcases he with rfl | rfl <;> exact ddp
            refine ⟨true, rfl, iteF ?_⟩
            exact ⟨_, _, _, _, _, _, _, _, rfl, kW.trans (Keep.same (sfd.trans sX)), BW.same (sfd.trans sX), TW.ext (sfd.trans sX)⟩
        · rintro σ HF ⟨z14, z15, z16, z17, z18, z19, z20, z21, rfl, kH, BF, TF⟩
          refine ⟨_, _, _, _, _, _, _, _, _, _, _, _, _, _, rfl, kO.trans kH, BF, TF⟩
    · rintro σ H9 ⟨y8, y9, y10, y11, y12, y13, y14, y15, y16, y17, y18, y19, y20, y21, rfl, k9, B9, T9⟩
      refine ⟨_, _, _, _, _, _, _, _, _, _, _, _, _, _, _, _, _, _, _, _, rfl, B9, T9, fun _ => ⟨x, F, C, ls4, start, sl, bd, ts, ss, _, qs, rfl, rfl, rfl, st.keep k9 B9 T9, hr4, hrf, hsl9, val⟩⟩
  · rintro σ HZ ⟨y2, y3, y4, y5, y6, y7, y8, y9, y10, y11, y12, y13, y14, y15, y16, y17, y18, y19, y20, y21, rfl, BZ, TZ, hL⟩
    obtain ⟨x, F, C, ls4, start, sl, bd, ts, ss, D, qs, rfl, rfl, rfl, st, hr4, hrf, hsl9, val⟩ := hL (by decide)
    clear hL BZ TZ
    -- odd values
    refine ⟨_, rfl, (show 2 ≤ sizeLine by decide), fun pt npt => ⟨(show 1 ≤ sizeLine by decide), fun pl npl => ⟨(show 6 ≤ sizeLine by decide), fun p2 n2 => ?_⟩⟩⟩
    have sA := same_upd (o := HO.tup [V.int 1, V.int 2]) npt
    have sB := same_upd (o := HO.lst [V.int 1]) npl
    have hA := st.bag.ne npt
    have hB := (st.bag.same sA).ne npl
    have sAll := (sA.trans sB).trans (same_upd (o := HO.lst [V.non, V.int 1, V.str "1/2", V.ref pt, V.ref pl, V.bl true]) n2)
    refine ⟨b, l, .ref p2, _, rfl, st.bag.same sAll, .inl ⟨p2, ((st.bag.same sA).same sB).ne n2, rfl, SqL.of upd_same⟩, Nat.succ_pos _, (show 6 ≤ 100000 by decide), fun H3 odd hv b3 B3 => ?_⟩
    obtain ⟨dodd, odk⟩ : ∃ d, ∀ H', But b H3 H' → OddX K H' odd d ∧ KindO H' odd := by
      have ho1 := b3 _ _ hA ((same_upd n2) _ _ (sB _ _ upd_same))
      have ho2 := b3 _ _ hB ((same_upd n2) _ _ upd_same)
      simp only [List.mem_cons, List.not_mem_nil, or_false] at hv
      rcases hv with rfl | rfl | rfl | rfl | rfl | rfl
      · exact ⟨_, fun H' bx => ⟨oddX_non, .inl rfl⟩⟩
      · exact ⟨_, fun H' bx => ⟨oddX_int 1, .inr (.inl ⟨_, rfl⟩)⟩⟩
      · exact ⟨_, fun H' bx => ⟨oddX_str (by decide +kernel), .inr (.inr (.inr (.inl ⟨_, rfl⟩)))⟩⟩
      · exact ⟨_, fun H' bx => ⟨oddX_tupF [V.int 1, V.int 2] rfl (bx _ _ hA ho1) (by decide), .inr (.inr (.inr (.inr (.inl ⟨_, _, rfl, bx _ _ hA ho1⟩))))⟩⟩
      · exact ⟨_, fun H' bx => ⟨oddX_lstF [V.int 1] rfl (bx _ _ hB ho2) (by decide), .inr (.inr (.inr (.inr (.inr ⟨_, _, rfl, bx _ _ hB ho2⟩))))⟩⟩
      · exact ⟨_, fun H' bx => ⟨oddX_bl true, .inr (.inr (.inl ⟨_, rfl⟩))⟩⟩
    have kA : Keep b HZ H3 := (Keep.same sAll).trans (Keep.drawn b3)
    have st3 := st.keep kA B3 (tabs_drawn (st.tabs.ext sAll) (st.bag.same sAll) b3)
    clear hv sAll sA sB hA hB n2 npl npt b3 B3 st kA
    refine ⟨_, rfl, (show 1 ≤ sizeLine by decide), fun pm npm => ⟨(show 10 ≤ sizeLine by decide), fun p3 n3 => ?_⟩⟩
    have sC := same_upd (o := HO.lst [V.str "A"]) npm
    have sD := same_upd (o := HO.lst [V.str "N", V.str "E", V.str "S", V.str "W", V.str "AD", V.str "", V.non, V.int 3, V.str "a", V.ref pm]) n3
    have hC := st3.bag.ne npm
    refine ⟨b, l, .ref p3, _, rfl, st3.bag.same (sC.trans sD), .inl ⟨p3, (st3.bag.same sC).ne n3, rfl, SqL.of upd_same⟩, Nat.succ_pos _, (show 10 ≤ 100000 by decide), fun H4 cold hv b4 B4 => ?_⟩
    obtain ⟨dcold, oc, hcb⟩ : ∃ d, OddX K H4 cold d ∧ bLetter cold [65, 68] = false := by
      have ho1 := b4 _ _ hC (sD _ _ upd_same)
      simp only [List.mem_cons, List.not_mem_nil, or_false] at hv
      rcases hv with rfl | rfl | rfl | rfl | rfl | rfl | rfl | rfl | rfl | rfl
      · exact ⟨_, oddX_str (by decide +kernel), by decide +kernel⟩
      · exact ⟨_, oddX_str (by decide +kernel), by decide +kernel⟩
      · exact ⟨_, oddX_str (by decide +kernel), by decide +kernel⟩
      · exact ⟨_, oddX_str (by decide +kernel), by decide +kernel⟩
      · exact ⟨_, oddX_str (by decide +kernel), by decide +kernel⟩
      · exact ⟨_, oddX_str (by decide +kernel), by decide +kernel⟩
      · exact ⟨_, oddX_non, rfl⟩
      · exact ⟨_, oddX_int 3, rfl⟩
      · exact ⟨_, oddX_str (by decide +kernel), by decide +kernel⟩
      · exact ⟨_, oddX_lstF [V.str "A"] rfl ho1 (by decide), rfl⟩
    have kB : Keep b H3 H4 := (Keep.same (sC.trans sD)).trans (Keep.drawn b4)
    have st4 := st3.keep kB B4 (tabs_drawn (st3.tabs.ext (sC.trans sD)) (st3.bag.same (sC.trans sD)) b4)
    obtain ⟨od, ok⟩ := odk H4 ((sC.trans sD).but.trans b4)
    clear odk
    refine ⟨(show 2 ≤ sizeLine by decide), fun pt npt => ⟨pt, _, rfl, SqT.of upd_same, rfl, _, _, rfl, _, _, rfl, rfl, ?_⟩⟩
    have s5 := same_upd (o := HO.tup [odd, cold]) npt
    have st5 := st4.keep (Keep.same s5) (st4.bag.same s5) (st4.tabs.ext s5)
    replace od := od.same s5
    replace oc := oc.same s5
    replace ok := ok.ext (fun c o e _ => s5 c o e)
    generalize upd H4 pt (.tup [odd, cold]) = H5 at st5 od oc ok ⊢
    clear s5 npt st4 st3 kB B4 b4 hC sC sD n3 npm hv
    -- the lambdas
    refine ⟨st5.tabs, fun f1 c1 v1 G1 e1 T1 m1 la1 => ?_⟩
    refine ⟨T1, fun f2 c2 v2 G2 e2 T2 m2 la2 => ?_⟩
    refine ⟨T2, fun f3 c3 v3 G3 e3 T3 m3 la3 => ?_⟩
    refine ⟨T3, fun f4 c4 v4 G4 e4 T4 m4 la4 => ?_⟩
    have ex := ((e1.trans e2).trans e3).trans e4
    have st6 := st5.keep (Keep.ext ex) (st5.bag.ext ex) T4
    replace la1 := ((la1.ext e2).ext e3).ext e4
    replace la2 := (la2.ext e3).ext e4
    replace la3 := la3.ext e4
    replace od := od.ext ex
    replace oc := oc.ext ex
    replace ok := ok.ext ex
    clear ex e1 e2 e3 e4 T1 T2 T3 m1 m2 m3 m4 st5
    refine ⟨(show 4 ≤ sizeLine by decide), fun l7 nl7 => ?_⟩
    have s7 := same_upd (o := HO.lst [V.ref f1, .ref f2, .ref f3, .ref f4]) nl7
    have hl7 : (upd G4 l7 (.lst [V.ref f1, .ref f2, .ref f3, .ref f4])) l7 = some (.lst ([f1, f2, f3, f4].map V.ref)) := upd_same
    replace la1 := la1.same s7
    replace la2 := la2.same s7
    replace la3 := la3.same s7
    replace la4 := la4.same s7
    have st7 := st6.keep (Keep.same s7) (st6.bag.same s7) (st6.tabs.ext s7)
    replace od := od.same s7
    replace oc := oc.same s7
    replace ok := ok.ext (fun c o e _ => s7 c o e)
    generalize upd G4 l7 (.lst [V.ref f1, .ref f2, .ref f3, .ref f4]) = G7 at la1 la2 la3 la4 st7 od oc ok hl7 ⊢
    clear s7 nl7 st6 T4
    have stx : ∀ {H : Hp}, Same G7 H → St K CB (tabL Pt f c) H b l x F C ls4 sl bd ts ss D qs := fun s => st7.keep (Keep.same s) (st7.bag.same s) (st7.tabs.ext s)
    refine ⟨_, rfl, l7, [f1, f2, f3, f4], rfl, rfl, hl7, tries_run [.tuple [.str "InvalidView", dcold], .tuple [.str "InvalidRatio", dodd], .tuple [.str "", .list [.str ""]], .tuple [.str "", .list [.str ""]]] hl7 (fun DD nD => ?_) (fun H8 DD s8 nD hD => ?_)⟩
    · refine ⟨?_, ?_, ?_, ?_, trivial⟩
      · exact oneAsk_err TV nD la1 oc.dp fun H s E Q h => ⟨_, rfl, _, rfl, _, rfl, _, rfl, _, rfl, x, F, C, ls4, start, .ref sl, ts, ss, cold, odd, rfl, (stx s).book, hr4, hrf, .inl ⟨sl, rfl, SqL.of (stx s).steps⟩, (stx s).sts.at, hsl9, val, .inl ⟨(fun H' s' => ((oc.same s).same s').askd), hcb, fun H' d s' nd => h H' d s' nd⟩⟩
      · exact oneAsk_err TIR nD la2 od.dp fun H s E Q h => ⟨_, rfl, _, rfl, _, rfl, _, rfl, x, F, C, ls4, start, .ref sl, ts, ss, .str (viewS true), odd, rfl, (stx s).book, hr4, hrf, .inl ⟨sl, rfl, SqL.of (stx s).steps⟩, (stx s).sts.at, hsl9, val, .inr ⟨true, rfl, .inl ⟨(fun H' s' => (ok.ext (fun c o e _ => (s.trans s') c o e)).ty NR), fun H' d s' nd => h H' d s' nd⟩⟩⟩
      · refine oneAsk_ok nD la3 fun H s hDD E Q h => ?_
        obtain ⟨acc, hDD⟩ := hDD
        refine ⟨_, rfl, _, rfl, (show 0 ≤ sizeLine by decide), fun l0 nl0 => ?_⟩
        refine fun z0 dz nz0 nd0 hz0 => ratio_made nz0 nd0 hz0 (by decide) (by decide) fun HS sS R0 => ⟨rfl, ?_⟩
        rw [show low 1 3 = (1, 3) from by decide +kernel] at R0
        have s0 := (same_upd (o := HO.lst ([] : List V)) nl0).trans sS
        exact whole_sp false ((stx s).book.same s0) hr4 hrf (sS _ _ upd_same) R0 s0 fun H2 p s2 np hp => h H2 (.ref p) s2 fun Hx bx => .lst (SqL.of (bx _ _ (fun z => by rw [z, s0 _ _ hDD] at np; cases np) hp)) (.cons (.str _) .nil)
      · refine oneAsk_ok nD la4 fun H s hDD E Q h => ?_
        obtain ⟨acc, hDD⟩ := hDD
        refine fun z0 dz nz0 nd0 hz0 => ratio_made nz0 nd0 hz0 (by decide) (by decide) fun HS sS R0 => ⟨rfl, ?_⟩
        rw [show low 1 3 = (1, 3) from by decide +kernel] at R0
        refine ⟨(show 0 ≤ sizeLine by decide), fun l0 nl0 => ⟨_, rfl, _, rfl, ?_⟩⟩
        have s0 := sS.trans (same_upd (o := HO.lst ([] : List V)) nl0)
        exact whole_sp true ((stx s).book.same s0) hr4 hrf upd_same (R0.same (same_upd nl0)) s0 fun H2 p s2 np hp => h H2 (.ref p) s2 fun Hx bx => .lst (SqL.of (bx _ _ (fun z => by rw [z, s0 _ _ hDD] at np; cases np) hp)) (.cons (.str _) .nil)
    refine ⟨_, rfl, (show 2 ≤ sizeLine by decide), fun t1 nt1 => ?_⟩
    have w1 := same_upd (o := HO.tup [V.str "InvalidView", cold]) nt1
    refine ⟨_, rfl, (show 2 ≤ sizeLine by decide), fun t2 nt2 => ?_⟩
    have w2 := same_upd (o := HO.tup [V.str "InvalidRatio", odd]) nt2
    refine ⟨(show 1 ≤ sizeLine by decide), fun l3 nl3 => ⟨(show 2 ≤ sizeLine by decide), fun t3 nt3 => ?_⟩⟩
    have w3 := same_upd (o := HO.lst [V.str ""]) nl3
    have w4 := same_upd (o := HO.tup [V.str "", V.ref l3]) nt3
    refine ⟨(show 1 ≤ sizeLine by decide), fun l5 nl5 => ⟨(show 2 ≤ sizeLine by decide), fun t4 nt4 => ?_⟩⟩
    have w5 := same_upd (o := HO.lst [V.str ""]) nl5
    have w6 := same_upd (o := HO.tup [V.str "", V.ref l5]) nt4
    refine ⟨(show 4 ≤ sizeLine by decide), fun t7 nt7 => ?_⟩
    have w7 := same_upd (o := HO.lst [V.ref t1, V.ref t2, V.ref t3, V.ref t4]) nt7
    have w67 := w6.trans w7
    have w57 := w5.trans w67
    have w47 := w4.trans w57
    have w37 := w3.trans w47
    have w27 := w2.trans w37
    have w17 := w1.trans w27
    have dt : ∀ (z : Str) (d : PyData), Deep 2 d → Deep 3 (.tuple [.str z, d]) := fun z d h => deep_tup (show 2 ≤ 1000 by decide) fun d' hd => by
      simp only [List.mem_cons, List.not_mem_nil, or_false] at hd
      rcases hd with rfl | rfl
      · exact deep_str
      · exact h
    have dl : Deep 2 (.list [.str ""]) := deep_list (show 1 ≤ 1000 by decide) fun d' hd => by
      rw [List.mem_singleton.mp hd]
      exact deep_str
    refine ⟨_, _, _, rfl, Dp.same w17 hD, .lst (SqL.of upd_same) (.cons (.tup (SqT.of (w27 _ _ upd_same)) (.cons (.str _) (.cons (oc.same (s8.trans w17)).dp .nil))) (.cons (.tup (SqT.of (w37 _ _ upd_same)) (.cons (.str _) (.cons (od.same (s8.trans w17)).dp .nil))) (.cons (.tup (SqT.of (w57 _ _ upd_same)) (.cons (.str _) (.cons (.lst (SqL.of (w47 _ _ upd_same)) (.cons (.str _) .nil)) .nil))) (.cons (.tup (SqT.of (w7 _ _ upd_same)) (.cons (.str _) (.cons (.lst (SqL.of (w67 _ _ upd_same)) (.cons (.str _) .nil)) .nil))) .nil)))), deep_list (show 4 ≤ 1000 by decide) (fun d hd => ?_), fun H9 s9 => q _⟩
    simp only [List.mem_cons, List.not_mem_nil, or_false] at hd
    rcases hd with rfl | rfl | rfl | rfl
    · exact dt _ _ (oc.deep 1)
    · exact dt _ _ (od.deep 1)
    · exact dt _ _ dl
    · exact dt _ _ dl
end
end FW
namespace FW
open PySem PySem.Spec PyProof.Rows L2
-- more
section
variable {P : Program} {w : World} {K : PySem.W.Frag} {mg : Str → Option Value} {base : Heap}
abbrev s__law_field : Stmt := topS 58
theorem sc__law_field : FnScope ["_law_e"] ["_law_e"] (defScope s__law_field) := ⟨rfl, rfl, rfl, by decide +kernel, rfl, by decide +kernel, by decide +kernel⟩
theorem inV_strs (z : Str) : ∀ ts : List Str, inV (.str z) (ts.map V.str) = decide (z ∈ ts)
  | [] => rfl
  | t :: r => by
    have ih := inV_strs z r
    unfold inV at ih ⊢
    rw [List.map_cons, List.any_cons, ih]
    by_cases h : z = t
    · subst h
      rw [show eqV (.str z) (.str z) = true from beq_self_eq_true z, Bool.true_or]
      exact (decide_eq_true List.mem_cons_self).symm
    · rw [show eqV (.str t) (.str z) = false from beq_eq_false_iff_ne.mpr (Ne.symm h), Bool.false_or]
      by_cases h2 : z ∈ r
      · rw [decide_eq_true h2, decide_eq_true (List.mem_cons_of_mem _ h2)]
      · rw [decide_eq_false h2, decide_eq_false (fun q => (List.mem_cons.mp q).elim h h2)]
theorem all_strs : ∀ ts : List Str, (ts.map V.str).all flatV = true
  | [] => rfl
  | _ :: r => all_strs r
theorem ok__law_field {f : Addr} {fd : FuncData} (F : Fun K "_law_field" "_law_field" s__law_field f fd) : FnW P w K mg base 1 f fd ["_law_e"] (sp__law_field K) := by
  refine okW F sc__law_field (fun vs H Q E h => ?_) (fun cdv A outer s H vs Q p hr h => ?_)
  · obtain ⟨a, z, v, rfl, _⟩ := h
    rfl
  · obtain ⟨a, z, v, rfl, hc, q⟩ := h
    refine ⟨_, (pss_cons (ps_if (pt_cmpR op_in_seq (pe_xk (pv 0)) (pe_lst (pa_cons pe_str (pa_cons pe_str (pa_cons pe_str (pa_cons pe_str (pa_cons pe_str (pa_cons pe_str pa_nil))))))) (by rfl)) (pss_one (ps_ret (pe_xk (pv 0)))) pss_nil)
      (pss_cons (ps_if (pt_cmpR op_in_seq (pe_xk (pv 0)) (pe_lst (pa_cons pe_str (pa_cons pe_str pa_nil))) (by rfl)) (pss_one (ps_ret (pe_xk (pv 0)))) pss_nil)
      (pss_cons (ps_if (pt_cmpR op_in_seq (pe_xk (pv 0)) (pe_lst (pa_cons pe_str (pa_cons pe_str pa_nil))) (by rfl)) (pss_one (ps_ret (pe_xk (pv 0)))) pss_nil)
      (pss_cons (ps_if (pt_cmpR op_eq (pe_xk (pv 0)) pe_str (nomark _)) (pss_one (ps_ret (pe_xk (pv 0)))) pss_nil)
      (pss_one (ps_ret (pe_ifExp (pt_cmpR op_in_seq (pe_xk (pv 0)) (pe_lst (pa_cons pe_str (pa_cons pe_str (pa_cons pe_str (pa_cons pe_str pa_nil))))) (by rfl)) pe_non (pe_xk (pv 0))))))))), ?_⟩
    obtain ⟨C, dd, fs, h1, h2, h3, h4, h5, h6⟩ := hc
    unfold FieldIs at h6
    refine ⟨_, rfl, a, C, dd, fs, _, rfl, h1, h2, h3, h4, h5, ?_⟩
    refine ⟨(show 6 ≤ sizeLine by decide), fun p1 n1 => ?_⟩
    refine ⟨p1, (["InvalidLine", "InvalidStep", "InvalidTable", "InvalidBad", "InvalidPlan", "UnknownRoom"] : List Str).map V.str, rfl, .inl (SqL.of upd_same), rfl, all_strs _, _, rfl, ?_⟩
    have s1 : Same H _ := same_upd (o := HO.lst ((["InvalidLine", "InvalidStep", "InvalidTable", "InvalidBad", "InvalidPlan", "UnknownRoom"] : List Str).map V.str)) n1
    rw [if_neg Bool.false_ne_true, inV_strs]
    by_cases b1 : z ∈ (["InvalidLine", "InvalidStep", "InvalidTable", "InvalidBad", "InvalidPlan", "UnknownRoom"] : List Str)
    · rw [decide_eq_true b1]
      rw [if_pos b1] at h6
      exact iteT ⟨_, rfl, a, C, dd, fs, _, rfl, s1 _ _ h1, s1 _ _ h2, h3, h6.1, h6.2, q _ s1⟩
    rw [decide_eq_false b1]
    rw [if_neg b1] at h6
    refine iteF ?_
    refine ⟨_, rfl, a, C, dd, fs, _, rfl, s1 _ _ h1, s1 _ _ h2, h3, h4, h5, ?_⟩
    refine ⟨(show 2 ≤ sizeLine by decide), fun p2 n2 => ?_⟩
    refine ⟨p2, (["TooMany", "Full"] : List Str).map V.str, rfl, .inl (SqL.of upd_same), rfl, all_strs _, _, rfl, ?_⟩
    have s2 := s1.trans (same_upd (o := HO.lst ((["TooMany", "Full"] : List Str).map V.str)) n2)
    rw [if_neg Bool.false_ne_true, inV_strs]
    by_cases b2 : z ∈ (["TooMany", "Full"] : List Str)
    · rw [decide_eq_true b2]
      rw [if_pos b2] at h6
      exact iteT ⟨_, rfl, a, C, dd, fs, _, rfl, s2 _ _ h1, s2 _ _ h2, h3, h6.1, h6.2, q _ s2⟩
    rw [decide_eq_false b2]
    rw [if_neg b2] at h6
    refine iteF ?_
    refine ⟨_, rfl, a, C, dd, fs, _, rfl, s2 _ _ h1, s2 _ _ h2, h3, h4, h5, ?_⟩
    refine ⟨(show 2 ≤ sizeLine by decide), fun p3 n3 => ?_⟩
    refine ⟨p3, (["InvalidText", "InvalidPage"] : List Str).map V.str, rfl, .inl (SqL.of upd_same), rfl, all_strs _, _, rfl, ?_⟩
    have s3 := s2.trans (same_upd (o := HO.lst ((["InvalidText", "InvalidPage"] : List Str).map V.str)) n3)
    rw [if_neg Bool.false_ne_true, inV_strs]
    by_cases b3 : z ∈ (["InvalidText", "InvalidPage"] : List Str)
    · rw [decide_eq_true b3]
      rw [if_pos b3] at h6
      exact iteT ⟨_, rfl, a, C, dd, fs, _, rfl, s3 _ _ h1, s3 _ _ h2, h3, h6.1, h6.2, q _ s3⟩
    rw [decide_eq_false b3]
    rw [if_neg b3] at h6
    refine iteF ?_
    refine ⟨_, rfl, a, C, dd, fs, _, rfl, s3 _ _ h1, s3 _ _ h2, h3, h4, h5, rfl, _, rfl, ?_⟩
    by_cases b4 : z = "UnknownState"
    · rw [show decide (V.str z = V.str "UnknownState") = true from decide_eq_true (congrArg V.str b4)]
      rw [if_pos b4] at h6
      exact iteT ⟨_, rfl, a, C, dd, fs, _, rfl, s3 _ _ h1, s3 _ _ h2, h3, h6.1, h6.2, q _ s3⟩
    rw [show decide (V.str z = V.str "UnknownState") = false from decide_eq_false fun e => b4 (V.str.inj e)]
    rw [if_neg b4] at h6
    refine iteF ?_
    refine ⟨_, rfl, a, C, dd, fs, _, rfl, s3 _ _ h1, s3 _ _ h2, h3, h4, h5, ?_⟩
    refine ⟨(show 4 ≤ sizeLine by decide), fun p4 n4 => ?_⟩
    refine ⟨p4, (["InvalidPaper", "OtherFaces", "OtherCutters", "NothingLeft"] : List Str).map V.str, rfl, .inl (SqL.of upd_same), rfl, all_strs _, _, rfl, ?_⟩
    have s4 := s3.trans (same_upd (o := HO.lst ((["InvalidPaper", "OtherFaces", "OtherCutters", "NothingLeft"] : List Str).map V.str)) n4)
    rw [if_neg Bool.false_ne_true, inV_strs]
    by_cases b5 : z ∈ (["InvalidPaper", "OtherFaces", "OtherCutters", "NothingLeft"] : List Str)
    · rw [decide_eq_true b5]
      rw [if_pos b5] at h6
      subst h6
      exact iteT (q _ s4)
    rw [decide_eq_false b5]
    rw [if_neg b5] at h6
    exact iteF ⟨_, rfl, a, C, dd, fs, _, rfl, s4 _ _ h1, s4 _ _ h2, h3, h6.1, h6.2, q _ s4⟩
abbrev s__law_try : Stmt := topS 59
theorem sc__law_try : FnScope ["_law_ask", "_law_e"] ["_law_ask"] (defScope s__law_try) := ⟨rfl, rfl, rfl, by decide +kernel, rfl, by decide +kernel, by decide +kernel⟩
theorem gives__law_try {X : Cx} {g fF C1 C2 C3 : Addr} {fdF : FuncData} {cdg : Value} {q : Str} {k : Nat} (F : FnW X.prog X.w X.K X.mg X.base 1 fF fdF ["_law_e"] (sp__law_field X.K)) (mF : X.mg "_law_field" = some (.ref fF)) (kF : PySem.W.keepIn X.K (.ref fF) = true) (bF : Binds X.K fdF ["_law_e"] [])
    (g1 : X.mg "HouseError" = some (.ref C1)) (g2 : X.mg "Missing" = some (.ref C2)) (g3 : X.mg "NothingLeft" = some (.ref C3)) (hr : Room (k + 3) X.A) :
    LamX.GivesTo X ["_law_ask", "_law_e"] "_law_try" (defScope s__law_try) g cdg (defBody s__law_try) "_law_ask" q (TTry X.K [.ref C1, .ref C2, .ref C3]) := by
  intro f c' s H Q tl act hc h
  have hrm : ∀ (a : Addr) (env : Env), L2H.RoomH 1 ((X.A.deeper env).mark (some (.ref a))) := fun a env => ⟨by
    have z := hr.dp
    show X.A.depth + 1 + 3 * 1 + 5 < _
    omega, by
    have z := hr.un
    show X.A.units + 3 + 16 * 1 + 200 < _
    omega⟩
  refine ⟨_, pss_one (ps_try3 (X := (cxOf C8.CX0 X.prog X.w X.K X.mg X.base ["_law_ask", "_law_e"] "_law_try" (defScope s__law_try) g cdg X.A X.stack s H C8.E0).nox) (C1 := C1) (C2 := C2) (C3 := C3) (i := 1)
      (ts := tRet (tTup (tCons (tXk X.K "code" (tVar 1)) (tCons (fun σ H Q => tCons (tVar 1) tNil σ H fun vs H1 => sp__law_field X.K vs H1 Q E0) tNil))))
      (tb := fun W D σ H => ∃ Ech : XK, (∀ cls d σ' H', Ech cls d H' → W cls d σ' H') ∧ σ[0]? = some (some (.ref f)) ∧ H c' = some (LamX.CodeO c' q) ∧ tl Ech H fun v H1 => [V.str "", v].length ≤ sizeLine ∧ ∀ p, H1 p = none → D.rt (.ref p) (upd H1 p (.tup [.str "", v])))
      rfl rfl rfl sc__law_try.nd rfl rfl (by rfl) g1 (by rfl) g2 (by rfl) g3 (fun W pn xe tk _ => ?body) (fun a pn => ?suite)), ?read⟩
  case suite => exact pss_one (ps_ret (pe_tup (pa_cons (pe_xk (pv 1)) (pa_cons (pe_callW F (hrm a _) (by rfl) mF kF bF (pa_cons (pv 1) pa_nil)) pa_nil))))
  case body =>
    refine ⟨fun pins s' σ H' D I h' => ?_⟩
    obtain ⟨Ech, hW, h1, h2, h3⟩ := h'
    have hp := fun p1 p2 => act W pn xe Ech p1 p2 tk hW
    refine (pss_one (ps_ret (pe_tup (pa_cons pe_str (pa_cons (hp _ _) pa_nil))))).run pins s' σ H' D I ⟨h1, h2, h3⟩
  case read =>
    refine ⟨_, fun cls d σ' H' h' => ?_, rfl, hc, h⟩
    obtain ⟨he, ha⟩ := h'
    refine ⟨he, fun a na hl => ?_⟩
    obtain ⟨z, v, hcg, hq⟩ := ha a na
    have hlt : 1 < σ'.length := by
      rw [hl]
      exact (by decide : 1 < 2)
    have e1 : (σ'.set 1 (some (V.ref a)))[1]? = some (some (.ref a)) := List.getElem?_set_self hlt
    have hcg2 := hcg
    obtain ⟨C, dd, fs, h1, h2, h3, h4, h5, h6⟩ := hcg2
    refine ⟨_, e1, a, C, dd, fs, _, rfl, h1, h2, h3, h4, h5, _, e1, a, z, v, rfl, hcg, fun H2 sm => ?_⟩
    exact ⟨(show 2 ≤ sizeLine by decide), fun p np => hq H2 sm p np⟩
abbrev s__law_tries : Stmt := topS 60
theorem sc__law_tries : FnScope ["_law_asks", "_law_ask"] ["_law_asks"] (defScope s__law_tries) := ⟨rfl, rfl, rfl, by decide +kernel, rfl, by decide +kernel, by decide +kernel⟩
theorem ok__law_tries {b0 : Heap} {k : Nat} {f g fF C1 C2 C3 : Addr} {fd fdg fdF : FuncData} (F : Fun K "_law_tries" "_law_tries" s__law_tries f fd) (m : Mod K mg b0) (sub : ∀ b o, b0.get? b = some o → base.get? b = some o) (sz : b0.objs.size ≤ base.objs.size)
    (G : Fun K "_law_try" "_law_try" s__law_try g fdg) (mG : mg "_law_try" = some (.ref g)) (bG : Binds K fdg ["_law_ask"] [])
    (FF : FnW P w K mg base 1 fF fdF ["_law_e"] (sp__law_field K)) (mF : mg "_law_field" = some (.ref fF)) (kF : PySem.W.keepIn K (.ref fF) = true) (bF : Binds K fdF ["_law_e"] [])
    (g1 : mg "HouseError" = some (.ref C1)) (g2 : mg "Missing" = some (.ref C2)) (g3 : mg "NothingLeft" = some (.ref C3)) :
    FnOk P w K mg base CX0 (k + 4) f fd ["_law_asks"] (sp_tries P w K mg b0 base k [.ref C1, .ref C2, .ref C3]) := by
  obtain ⟨oc, od, kV, doc, pm, an, cdv, ct, osl, rfl, lk, hcd⟩ := G.ex
  refine F.ok sc__law_tries (fun vs H Q E h => ?_) (fun cdv A outer s H vs Q E hr h => ?_)
  · obtain ⟨l, fs, rfl, _⟩ := h
    rfl
  obtain ⟨l, fs, rfl, hn, hl, hc⟩ := h
  refine ⟨_, pss_one (ps_ret (pe_lc (own := [("_law_ask", 1)]) (g := gName 1) (te := tItem P w K mg b0 base k [.ref C1, .ref C2, .ref C3] 1) (by rfl) sc__law_tries.nd (pi_list (pv 0)) (blkOk_by (N := ["_law_asks", "_law_ask"]) (sc := defScope s__law_tries) (by decide +kernel)) (fun _ _ _ _ _ => pg_name (i := 1) sc__law_tries.nd rfl (.inl rfl)) (fun _ _ _ _ _ => pts_nil)
    (fun s1 H1 C cl fp => pe_item (a := "_law_ask") m sub sz (by rfl) mG G.kp lk hcd bG sc__law_try rfl (.inl rfl) (fun q => gives__law_try FF mF kF bF g1 g2 g3 hr) (hr.mono (by omega)) rfl (.inl rfl)))), ?_⟩
  refine ⟨.ref l, rfl, l, rfl, ⟨_, .inl (.inl hl)⟩, fun D nD => ?_⟩
  exact chain_walk (fun x => rfl) (show 1 < 2 by decide) hn nD hl (hc D nD)
end
end FW
namespace FW
open PySem PySem.Spec PyProof.Rows L2
/-- the end of a law row whose law's own text holds a lambda: the law's table at P, its code object at c -/
theorem walk_tab {l : PySem.W.OpenLaw} {n k : Nat} {q : Program} {loose : List Str} {XP : (Str → Option Value) → Heap → Prop} {YP : World → Heap → Prop} {d : DefRec} {K : Params → PySem.W.Frag} {x : Str} {sp : PySem.W.Frag → Addr → Sp} {c P : Addr}
    (hn : l.most = some n) (hn2 : n ≤ sizeLine) (hdf : d.params.defaults = []) (hr : Room k callerA) (hY : ∀ (w : World) (h : Heap), YP w h → (K w.params).In h)
    (hT : ∀ (w : World) (h : Heap), YP w h → h.get? P = some (PySem.W.tabObj #[])) (hnP : ∀ pr : Params, (K pr).lookup P = none)
    (F : ∀ (w : World) (mg : Str → Option Value) (fa : Addr) (h : Heap), (K w.params).In h → h.Ns mainGlobals mg → mg d.name = some (.ref fa) →
      ∃ fd : FuncData, (∀ (s : Shared) (u : Value), BindsTo s fd ⟨[u], []⟩ [(x, u)]) ∧ ∀ base : Heap, (K w.params).In base → base.Ns mainGlobals mg → LamX.TabB base mg c P → FnOk l.prog w (K w.params) mg base L2.CX0 k fa fd [x] (sp (K w.params) P))
    (hc : ∀ pr : Params, PySem.W.codeHdIn (K pr) c P = true) (hsp : ∀ (pr : Params) (H : Hp) (a : Addr) (ns : List Int), ns.length ≤ n → H P = some (.tbl #[]) → SqL (K pr) H a (ns.map V.int) → sp (K pr) P [.ref a] H (fun v _ => v = .bl true) fun _ _ _ => False) :
    PySem.W.WalkO q loose XP YP l.row.toRowW d [] (fun f vs => PySem.call f vs) := by
  refine Att.attach_callB hn hdf fun w s₀ s₁ mg mb fa o pm cd doc a vs ns G Y ho hd hcd hmg hobj hints hlen hbits hg => ?_
  have X := hY w _ Y
  obtain ⟨fd, hb, hF⟩ := F w mg fa _ X G.T.g hmg
  have hP := hT w _ Y
  refine LamX.law_callTs (cs := [(c, P)]) X G.T.g G.T.b G.T.builtins G.T.nolimit hg (fun p hp => ?_) (fun p hp => ?_) (fun p hp => ?_) G.T.bmain hobj hints (Nat.le_trans hlen hn2) hr
    (fun base h1 h2 h3 => hF base h1 h2 (h3 _ List.mem_cons_self)) hb (fun H hH hS => hsp w.params H a ns hlen (hH _ List.mem_cons_self) hS) (fun _ _ _ z => z)
  · rw [List.mem_singleton.mp hp]
    exact hP
  · rw [List.mem_singleton.mp hp]
    exact hnP w.params
  · rw [List.mem_singleton.mp hp]
    exact PySem.W.codeHd_of_K X (hc w.params)
end FW
namespace FW
open PySem PySem.Spec PyProof.Rows L2
theorem all_mk {l : PySem.W.OpenLaw} {w : World} {K : PySem.W.Frag} {h : Heap} {mg : Str → Option Value} {fa : Addr} {CB CR C_InvalidRatio fI_InvalidRatio NC_InvalidRatio f__law_raised_ratio f__law_pair C_InvalidView fI_InvalidView NC_InvalidView C1 C2 C3 f_Ri T_Ri f__law_tries f__law_try f__law_field f__law_same f_is_string f_is_room f_check_room f_is_letter f_is_integer f_is_place f_is_placed_step f_B_parts f_B_cut f_B_line_at f_fits f_parts_of f_R_add f_R_sub f_R_mul f_boxes_at f_lay f_laid f_floor_behind f_check_walk sX tA tD f_R_eq f_R_is_below f_walk_in f_walk_at f__law_draw f__law_of f__law_top f__law_low f__law_below f__law_some_place f__law_split f__law_fits f__law_line_at f__law_cut f__law_parts f__law_add f__law_times f__law_on_way f__law_cut_box f__law_some_placed f__law_some_room f_Bi f_is_ascending f_is_choice f_is_faces f_is_cutters f_is_part f_is_cut f_is_line f_head_of f_line_of p_read f_B_read f__law_line_text f__law_book_text f__law_book f__law_part f__law_some_cut f__law_letters f__law_some_faces f__law_some_cutters f__law_some_line f__law_some_book f__law_open f_law c Pt : Addr} {t8 tk_InvalidRatio tk_InvalidView tk_Ri k0_tA k1_tA k0_tD k1_tD tk__LOWER tk__MOST_FACES tk__UPPER tk__MOST_CUTTERS : Tok} {nm_InvalidRatio qn_InvalidRatio nm_InvalidView qn_InvalidView : Str} {bs_InvalidRatio bm_InvalidRatio sub_InvalidRatio bs_InvalidView bm_InvalidView sub_InvalidView r_read : List Value} {sn_InvalidRatio sn_InvalidView : List Str} {ab_InvalidRatio ab_InvalidView : Bool} {col_InvalidRatio col_InvalidView : Option Bool} {k0_InvalidRatio k1_InvalidRatio k3_InvalidRatio k5_InvalidRatio k0_InvalidView k1_InvalidView k3_InvalidView k5_InvalidView : Option Value} {dd_InvalidRatio odI_InvalidRatio anI_InvalidRatio od__law_raised_ratio an__law_raised_ratio od__law_pair an__law_pair dd_InvalidView odI_InvalidView anI_InvalidView od_Ri an_Ri dt_Ri od__law_tries an__law_tries od__law_try an__law_try od__law_field an__law_field od__law_same an__law_same od_is_string an_is_string od_is_room an_is_room od_check_room an_check_room od_is_letter an_is_letter od_is_integer an_is_integer od_is_place an_is_place od_is_placed_step an_is_placed_step od_B_parts an_B_parts od_B_cut an_B_cut od_B_line_at an_B_line_at od_fits an_fits od_parts_of an_parts_of od_R_add an_R_add od_R_sub an_R_sub od_R_mul an_R_mul od_boxes_at an_boxes_at od_lay an_lay od_laid an_laid od_floor_behind an_floor_behind od_check_walk an_check_walk od_tA od_tD od_R_eq an_R_eq od_R_is_below an_R_is_below od_walk_in an_walk_in od_walk_at an_walk_at od__law_draw an__law_draw od__law_of an__law_of od__law_top an__law_top od__law_low an__law_low od__law_below an__law_below od__law_some_place an__law_some_place od__law_split an__law_split od__law_fits an__law_fits od__law_line_at an__law_line_at od__law_cut an__law_cut od__law_parts an__law_parts od__law_add an__law_add od__law_times an__law_times od__law_on_way an__law_on_way od__law_cut_box an__law_cut_box od__law_some_placed an__law_some_placed od__law_some_room an__law_some_room od_Bi an_Bi od_is_ascending an_is_ascending od_is_choice an_is_choice od_is_faces an_is_faces od_is_cutters an_is_cutters od_is_part an_is_part od_is_cut an_is_cut od_is_line an_is_line od_head_of an_head_of od_line_of an_line_of od_B_read an_B_read od__law_line_text an__law_line_text od__law_book_text an__law_book_text od__law_book an__law_book od__law_part an__law_part od__law_some_cut an__law_some_cut od__law_letters an__law_letters od__law_some_faces an__law_some_faces od__law_some_cutters an__law_some_cutters od__law_some_line an__law_some_line od__law_some_book an__law_some_book od__law_open an__law_open od_law an_law : Option Addr} {slI_InvalidRatio sl__law_raised_ratio sl__law_pair slI_InvalidView sl_Ri st_Ri sl__law_tries sl__law_try sl__law_field sl__law_same sl_is_string sl_is_room sl_check_room sl_is_letter sl_is_integer sl_is_place sl_is_placed_step sl_B_parts sl_B_cut sl_B_line_at sl_fits sl_parts_of sl_R_add sl_R_sub sl_R_mul sl_boxes_at sl_lay sl_laid sl_floor_behind sl_check_walk sl_tA sl_tD sl_R_eq sl_R_is_below sl_walk_in sl_walk_at sl__law_draw sl__law_of sl__law_top sl__law_low sl__law_below sl__law_some_place sl__law_split sl__law_fits sl__law_line_at sl__law_cut sl__law_parts sl__law_add sl__law_times sl__law_on_way sl__law_cut_box sl__law_some_placed sl__law_some_room sl_Bi sl_is_ascending sl_is_choice sl_is_faces sl_is_cutters sl_is_part sl_is_cut sl_is_line sl_head_of sl_line_of sl_B_read sl__law_line_text sl__law_book_text sl__law_book sl__law_part sl__law_some_cut sl__law_letters sl__law_some_faces sl__law_some_cutters sl__law_some_line sl__law_some_book sl__law_open sl_law : Array (Option Value)} {ocI_InvalidRatio kVI_InvalidRatio dcI_InvalidRatio pmI_InvalidRatio cdI_InvalidRatio ctI_InvalidRatio oc__law_raised_ratio kV__law_raised_ratio dc__law_raised_ratio pm__law_raised_ratio cd__law_raised_ratio ct__law_raised_ratio oc__law_pair kV__law_pair dc__law_pair pm__law_pair cd__law_pair ct__law_pair ocI_InvalidView kVI_InvalidView dcI_InvalidView pmI_InvalidView cdI_InvalidView ctI_InvalidView oc_Ri kV_Ri dc_Ri pm_Ri cd_Ri ct_Ri ot_Ri oc__law_tries kV__law_tries dc__law_tries pm__law_tries cd__law_tries ct__law_tries oc__law_try kV__law_try dc__law_try pm__law_try cd__law_try ct__law_try oc__law_field kV__law_field dc__law_field pm__law_field cd__law_field ct__law_field oc__law_same kV__law_same dc__law_same pm__law_same cd__law_same ct__law_same oc_is_string kV_is_string dc_is_string pm_is_string cd_is_string ct_is_string oc_is_room kV_is_room dc_is_room pm_is_room cd_is_room ct_is_room oc_check_room kV_check_room dc_check_room pm_check_room cd_check_room ct_check_room oc_is_letter kV_is_letter dc_is_letter pm_is_letter cd_is_letter ct_is_letter oc_is_integer kV_is_integer dc_is_integer pm_is_integer cd_is_integer ct_is_integer oc_is_place kV_is_place dc_is_place pm_is_place cd_is_place ct_is_place oc_is_placed_step kV_is_placed_step dc_is_placed_step pm_is_placed_step cd_is_placed_step ct_is_placed_step oc_B_parts kV_B_parts dc_B_parts pm_B_parts cd_B_parts ct_B_parts oc_B_cut kV_B_cut dc_B_cut pm_B_cut cd_B_cut ct_B_cut oc_B_line_at kV_B_line_at dc_B_line_at pm_B_line_at cd_B_line_at ct_B_line_at oc_fits kV_fits dc_fits pm_fits cd_fits ct_fits oc_parts_of kV_parts_of dc_parts_of pm_parts_of cd_parts_of ct_parts_of oc_R_add kV_R_add dc_R_add pm_R_add cd_R_add ct_R_add oc_R_sub kV_R_sub dc_R_sub pm_R_sub cd_R_sub ct_R_sub oc_R_mul kV_R_mul dc_R_mul pm_R_mul cd_R_mul ct_R_mul oc_boxes_at kV_boxes_at dc_boxes_at pm_boxes_at cd_boxes_at ct_boxes_at oc_lay kV_lay dc_lay pm_lay cd_lay ct_lay oc_laid kV_laid dc_laid pm_laid cd_laid ct_laid oc_floor_behind kV_floor_behind dc_floor_behind pm_floor_behind cd_floor_behind ct_floor_behind oc_check_walk kV_check_walk dc_check_walk pm_check_walk cd_check_walk ct_check_walk oc_R_eq kV_R_eq dc_R_eq pm_R_eq cd_R_eq ct_R_eq oc_R_is_below kV_R_is_below dc_R_is_below pm_R_is_below cd_R_is_below ct_R_is_below oc_walk_in kV_walk_in dc_walk_in pm_walk_in cd_walk_in ct_walk_in oc_walk_at kV_walk_at dc_walk_at pm_walk_at cd_walk_at ct_walk_at oc__law_draw kV__law_draw dc__law_draw pm__law_draw cd__law_draw ct__law_draw oc__law_of kV__law_of dc__law_of pm__law_of cd__law_of ct__law_of oc__law_top kV__law_top dc__law_top pm__law_top cd__law_top ct__law_top oc__law_low kV__law_low dc__law_low pm__law_low cd__law_low ct__law_low oc__law_below kV__law_below dc__law_below pm__law_below cd__law_below ct__law_below oc__law_some_place kV__law_some_place dc__law_some_place pm__law_some_place cd__law_some_place ct__law_some_place oc__law_split kV__law_split dc__law_split pm__law_split cd__law_split ct__law_split oc__law_fits kV__law_fits dc__law_fits pm__law_fits cd__law_fits ct__law_fits oc__law_line_at kV__law_line_at dc__law_line_at pm__law_line_at cd__law_line_at ct__law_line_at oc__law_cut kV__law_cut dc__law_cut pm__law_cut cd__law_cut ct__law_cut oc__law_parts kV__law_parts dc__law_parts pm__law_parts cd__law_parts ct__law_parts oc__law_add kV__law_add dc__law_add pm__law_add cd__law_add ct__law_add oc__law_times kV__law_times dc__law_times pm__law_times cd__law_times ct__law_times oc__law_on_way kV__law_on_way dc__law_on_way pm__law_on_way cd__law_on_way ct__law_on_way oc__law_cut_box kV__law_cut_box dc__law_cut_box pm__law_cut_box cd__law_cut_box ct__law_cut_box oc__law_some_placed kV__law_some_placed dc__law_some_placed pm__law_some_placed cd__law_some_placed ct__law_some_placed oc__law_some_room kV__law_some_room dc__law_some_room pm__law_some_room cd__law_some_room ct__law_some_room oc_Bi kV_Bi dc_Bi pm_Bi cd_Bi ct_Bi oc_is_ascending kV_is_ascending dc_is_ascending pm_is_ascending cd_is_ascending ct_is_ascending oc_is_choice kV_is_choice dc_is_choice pm_is_choice cd_is_choice ct_is_choice oc_is_faces kV_is_faces dc_is_faces pm_is_faces cd_is_faces ct_is_faces oc_is_cutters kV_is_cutters dc_is_cutters pm_is_cutters cd_is_cutters ct_is_cutters oc_is_part kV_is_part dc_is_part pm_is_part cd_is_part ct_is_part oc_is_cut kV_is_cut dc_is_cut pm_is_cut cd_is_cut ct_is_cut oc_is_line kV_is_line dc_is_line pm_is_line cd_is_line ct_is_line oc_head_of kV_head_of dc_head_of pm_head_of cd_head_of ct_head_of oc_line_of kV_line_of dc_line_of pm_line_of cd_line_of ct_line_of oc_B_read kV_B_read dc_B_read pm_B_read cd_B_read ct_B_read oc__law_line_text kV__law_line_text dc__law_line_text pm__law_line_text cd__law_line_text ct__law_line_text oc__law_book_text kV__law_book_text dc__law_book_text pm__law_book_text cd__law_book_text ct__law_book_text oc__law_book kV__law_book dc__law_book pm__law_book cd__law_book ct__law_book oc__law_part kV__law_part dc__law_part pm__law_part cd__law_part ct__law_part oc__law_some_cut kV__law_some_cut dc__law_some_cut pm__law_some_cut cd__law_some_cut ct__law_some_cut oc__law_letters kV__law_letters dc__law_letters pm__law_letters cd__law_letters ct__law_letters oc__law_some_faces kV__law_some_faces dc__law_some_faces pm__law_some_faces cd__law_some_faces ct__law_some_faces oc__law_some_cutters kV__law_some_cutters dc__law_some_cutters pm__law_some_cutters cd__law_some_cutters ct__law_some_cutters oc__law_some_line kV__law_some_line dc__law_some_line pm__law_some_line cd__law_some_line ct__law_some_line oc__law_some_book kV__law_some_book dc__law_some_book pm__law_some_book cd__law_some_book ct__law_some_book oc__law_open kV__law_open dc__law_open pm__law_open cd__law_open ct__law_open oc_law kV_law dc_law pm_law ct_law : Value} {nt_Ri nX n_tA n_tD : Nat} {esX : Array DictEntry} (X : K.In h) (G : h.Ns mainGlobals mg) (hfa : mg "law" = some (.ref fa))
    (B_g : PySem.W.nsIn K mainGlobals "Book" = some (some (.ref CB)))
    (B_pg : PySem.W.plainGet K CB Str.empty = true)
    (B_hd : PySem.W.hasDictIn K CB = true)
    (B_po : PySem.W.plainOver K CB = true)
    (B_sa : PySem.W.findIn K (.ref CB) "__setattr__" = some (some (.builtin "object.__setattr__")))
    (B_nf : PySem.W.findIn K (.ref CB) "faces" = some none)
    (B_nc : PySem.W.findIn K (.ref CB) "cutters" = some none)
    (B_nl : PySem.W.findIn K (.ref CB) "_lines" = some none)
    (B_mk : PySem.W.makesIn K CB = true)
    (B_kp : PySem.W.keepIn K (.ref CB) = true)
    (B_rd : PySem.W.readsIn K CB (.type "type") = true)
    (B_sg : PySem.W.specialIn K (.ref CB) "__getattribute__" = some (some (.builtin "type.__getattribute__")))
    (B_most : PySem.W.findCls K (.ref CB) (.type "type") "MOST" = some (.val (.int 8 t8)))
    (R_g : PySem.W.nsIn K mainGlobals "Ratio" = some (some (.ref CR)))
    (R_pg : PySem.W.plainGet K CR Str.empty = true)
    (R_hd : PySem.W.hasDictIn K CR = true)
    (R_po : PySem.W.plainOver K CR = true)
    (R_sa : PySem.W.findIn K (.ref CR) "__setattr__" = some (some (.builtin "object.__setattr__")))
    (R_nt : PySem.W.findIn K (.ref CR) "top" = some none)
    (R_nb : PySem.W.findIn K (.ref CR) "bottom" = some none)
    (R_mk : PySem.W.makesIn K CR = true)
    (R_kp : PySem.W.keepIn K (.ref CR) = true)
    (R_ca : PySem.W.findIn K (.ref CR) "__class__" = some (some (.builtin "object.__class__")))
    (R_cn : PySem.W.specialIn K (.builtin "object.__class__") "__get__" = some (some (.builtin "getset_descriptor.__get__")))
    (R_ct : PySem.W.takesIn K (.builtin "object.__class__") = some true)
    (R_cm : PySem.W.mroIn K CR (.type "object") = some true)
    (R_kit : PySem.W.kitOne K (.ref CR) (.ref CR) = some true)
    (gs1 : PySem.W.specialIn K (.builtin "object.__class__") "__get__" = some (some (.builtin "getset_descriptor.__get__")))
    (gs2 : PySem.W.takesIn K (.builtin "object.__class__") = some true)
    (eg_InvalidRatio : PySem.W.nsIn K mainGlobals "InvalidRatio" = some (some (.ref C_InvalidRatio)))
    (el_InvalidRatio : K.lookup C_InvalidRatio = some (excClassObj nm_InvalidRatio qn_InvalidRatio C_InvalidRatio NC_InvalidRatio bs_InvalidRatio bm_InvalidRatio true sn_InvalidRatio sub_InvalidRatio ab_InvalidRatio col_InvalidRatio dd_InvalidRatio k0_InvalidRatio k1_InvalidRatio (some (.str "InvalidRatio" tk_InvalidRatio)) k3_InvalidRatio k5_InvalidRatio "ValueError.__new__"))
    (eb_InvalidRatio : PySem.HandSPX.refsVE bm_InvalidRatio = true)
    (esa_InvalidRatio : PySem.W.findIn K (.ref C_InvalidRatio) "__setattr__" = some (some (.builtin "object.__setattr__")))
    (ex_InvalidRatio : PySem.W.subIn K (.ref C_InvalidRatio) (.type "BaseException") = some true)
    (ety_InvalidRatio : PySem.W.typeIn K (.ref C_InvalidRatio) = some (.type "type"))
    (ek_InvalidRatio : PySem.W.keepIn K (.ref C_InvalidRatio) = true)
    (ecl_InvalidRatio : (PySem.W.clsIn K C_InvalidRatio).isSome = true)
    (ega_InvalidRatio : PySem.W.findIn K (.ref C_InvalidRatio) "__getattribute__" = some (some (.builtin "BaseException.__getattribute__")))
    (egg_InvalidRatio : PySem.W.findIn K (.ref C_InvalidRatio) "__getattr__" = some none)
    (efc_InvalidRatio : PySem.W.findIn K (.ref C_InvalidRatio) "__class__" = some (some (.builtin "object.__class__")))
    (eob_InvalidRatio : PySem.W.mroIn K C_InvalidRatio (.type "object") = some true)
    (ehd_InvalidRatio : PySem.W.hasDictIn K C_InvalidRatio = true)
    (enc_InvalidRatio : PySem.W.findIn K (.ref C_InvalidRatio) "code" = some none)
    (enf_InvalidRatio : PySem.W.findIn K (.ref C_InvalidRatio) "given" = some none)
    (eini_InvalidRatio : PySem.W.findIn K (.ref C_InvalidRatio) "__init__" = some (some (.ref fI_InvalidRatio)))
    (etI_InvalidRatio : PySem.W.typeIn K (.ref fI_InvalidRatio) = some (.type "function"))
    (elI_InvalidRatio : K.lookup fI_InvalidRatio = some ⟨ocI_InvalidRatio, odI_InvalidRatio, .func (PySem.W.fnOf "__init__" "InvalidRatio.__init__" (defArgs s_InvalidRatio_init) (defBody s_InvalidRatio_init) (defScope s_InvalidRatio_init) .none kVI_InvalidRatio dcI_InvalidRatio pmI_InvalidRatio anI_InvalidRatio cdI_InvalidRatio ctI_InvalidRatio), slI_InvalidRatio⟩)
    (ecI_InvalidRatio : PySem.W.codeIn K cdI_InvalidRatio "InvalidRatio.__init__" = true)
    (ekI_InvalidRatio : PySem.W.keepIn K (.ref fI_InvalidRatio) = true)
    (erd_InvalidRatio : PySem.W.readsIn K C_InvalidRatio (.type "type") = true)
    (efdn_InvalidRatio : PySem.W.findCls K (.ref C_InvalidRatio) (.type "type") "__name__" = some (.get (.builtin "getset_descriptor.__get__") (.builtin "type.__name__") (.ref C_InvalidRatio) (.type "type")))
    (rx_e : PySem.W.exmOne K (.ref C_InvalidRatio) (.ref C_InvalidRatio) = some true)
    (nr_n : PySem.W.kitOne K (.type "NoneType") (.ref CR) = some false)
    (nr_i : PySem.W.kitOne K (.type "int") (.ref CR) = some false)
    (nr_b : PySem.W.kitOne K (.type "bool") (.ref CR) = some false)
    (nr_s : PySem.W.kitOne K (.type "str") (.ref CR) = some false)
    (nr_t : PySem.W.kitOne K (.type "tuple") (.ref CR) = some false)
    (nr_l : PySem.W.kitOne K (.type "list") (.ref CR) = some false)
    (a__law_raised_ratio : PySem.W.nsIn K mainGlobals "_law_raised_ratio" = some (some (.ref f__law_raised_ratio)))
    (l__law_raised_ratio : K.lookup f__law_raised_ratio = some ⟨oc__law_raised_ratio, od__law_raised_ratio, .func (PySem.W.fnOf "_law_raised_ratio" "_law_raised_ratio" (defArgs s__law_raised_ratio) (defBody s__law_raised_ratio) (defScope s__law_raised_ratio) .none kV__law_raised_ratio dc__law_raised_ratio pm__law_raised_ratio an__law_raised_ratio cd__law_raised_ratio ct__law_raised_ratio), sl__law_raised_ratio⟩)
    (c__law_raised_ratio : PySem.W.codeIn K cd__law_raised_ratio "_law_raised_ratio" = true)
    (k__law_raised_ratio : PySem.W.keepIn K (.ref f__law_raised_ratio) = true)
    (a__law_pair : PySem.W.nsIn K mainGlobals "_law_pair" = some (some (.ref f__law_pair)))
    (l__law_pair : K.lookup f__law_pair = some ⟨oc__law_pair, od__law_pair, .func (PySem.W.fnOf "_law_pair" "_law_pair" (defArgs s__law_pair) (defBody s__law_pair) (defScope s__law_pair) .none kV__law_pair dc__law_pair pm__law_pair an__law_pair cd__law_pair ct__law_pair), sl__law_pair⟩)
    (c__law_pair : PySem.W.codeIn K cd__law_pair "_law_pair" = true)
    (k__law_pair : PySem.W.keepIn K (.ref f__law_pair) = true)
    (eg_InvalidView : PySem.W.nsIn K mainGlobals "InvalidView" = some (some (.ref C_InvalidView)))
    (el_InvalidView : K.lookup C_InvalidView = some (excClassObj nm_InvalidView qn_InvalidView C_InvalidView NC_InvalidView bs_InvalidView bm_InvalidView true sn_InvalidView sub_InvalidView ab_InvalidView col_InvalidView dd_InvalidView k0_InvalidView k1_InvalidView (some (.str "InvalidView" tk_InvalidView)) k3_InvalidView k5_InvalidView "ValueError.__new__"))
    (eb_InvalidView : PySem.HandSPX.refsVE bm_InvalidView = true)
    (esa_InvalidView : PySem.W.findIn K (.ref C_InvalidView) "__setattr__" = some (some (.builtin "object.__setattr__")))
    (ex_InvalidView : PySem.W.subIn K (.ref C_InvalidView) (.type "BaseException") = some true)
    (ety_InvalidView : PySem.W.typeIn K (.ref C_InvalidView) = some (.type "type"))
    (ek_InvalidView : PySem.W.keepIn K (.ref C_InvalidView) = true)
    (ecl_InvalidView : (PySem.W.clsIn K C_InvalidView).isSome = true)
    (ega_InvalidView : PySem.W.findIn K (.ref C_InvalidView) "__getattribute__" = some (some (.builtin "BaseException.__getattribute__")))
    (egg_InvalidView : PySem.W.findIn K (.ref C_InvalidView) "__getattr__" = some none)
    (efc_InvalidView : PySem.W.findIn K (.ref C_InvalidView) "__class__" = some (some (.builtin "object.__class__")))
    (eob_InvalidView : PySem.W.mroIn K C_InvalidView (.type "object") = some true)
    (ehd_InvalidView : PySem.W.hasDictIn K C_InvalidView = true)
    (enc_InvalidView : PySem.W.findIn K (.ref C_InvalidView) "code" = some none)
    (enf_InvalidView : PySem.W.findIn K (.ref C_InvalidView) "given" = some none)
    (eini_InvalidView : PySem.W.findIn K (.ref C_InvalidView) "__init__" = some (some (.ref fI_InvalidView)))
    (etI_InvalidView : PySem.W.typeIn K (.ref fI_InvalidView) = some (.type "function"))
    (elI_InvalidView : K.lookup fI_InvalidView = some ⟨ocI_InvalidView, odI_InvalidView, .func (PySem.W.fnOf "__init__" "InvalidView.__init__" (defArgs s_InvalidView_init) (defBody s_InvalidView_init) (defScope s_InvalidView_init) .none kVI_InvalidView dcI_InvalidView pmI_InvalidView anI_InvalidView cdI_InvalidView ctI_InvalidView), slI_InvalidView⟩)
    (ecI_InvalidView : PySem.W.codeIn K cdI_InvalidView "InvalidView.__init__" = true)
    (ekI_InvalidView : PySem.W.keepIn K (.ref fI_InvalidView) = true)
    (erd_InvalidView : PySem.W.readsIn K C_InvalidView (.type "type") = true)
    (efdn_InvalidView : PySem.W.findCls K (.ref C_InvalidView) (.type "type") "__name__" = some (.get (.builtin "getset_descriptor.__get__") (.builtin "type.__name__") (.ref C_InvalidView) (.type "type")))
    (e_C1 : PySem.W.nsIn K mainGlobals "HouseError" = some (some (.ref C1)))
    (e_C2 : PySem.W.nsIn K mainGlobals "Missing" = some (some (.ref C2)))
    (e_C3 : PySem.W.nsIn K mainGlobals "NothingLeft" = some (some (.ref C3)))
    (hx_InvalidView : PySem.W.exmAny K (.ref C_InvalidView) [.ref C1, .ref C2, .ref C3] = some true)
    (hx_InvalidRatio : PySem.W.exmAny K (.ref C_InvalidRatio) [.ref C1, .ref C2, .ref C3] = some true)
    (R_init : PySem.W.findIn K (.ref CR) "__init__" = some (some (.ref f_Ri)))
    (R_ifn : PySem.W.isFn K (.ref f_Ri) = true)
    (l_Ri : K.lookup f_Ri = some ⟨oc_Ri, od_Ri, .func (PySem.W.fnOf "__init__" "Ratio.__init__" (defArgs s_Ratio_init) (defBody s_Ratio_init) (defScope s_Ratio_init) (.ref T_Ri) kV_Ri dc_Ri pm_Ri an_Ri cd_Ri ct_Ri), sl_Ri⟩)
    (c_Ri : PySem.W.codeIn K cd_Ri "Ratio.__init__" = true)
    (k_Ri : PySem.W.keepIn K (.ref f_Ri) = true)
    (t_Ri : K.lookup T_Ri = some ⟨ot_Ri, dt_Ri, .seq #[.int 1 tk_Ri] nt_Ri, st_Ri⟩)
    (a__law_tries : PySem.W.nsIn K mainGlobals "_law_tries" = some (some (.ref f__law_tries)))
    (l__law_tries : K.lookup f__law_tries = some ⟨oc__law_tries, od__law_tries, .func (PySem.W.fnOf "_law_tries" "_law_tries" (defArgs s__law_tries) (defBody s__law_tries) (defScope s__law_tries) .none kV__law_tries dc__law_tries pm__law_tries an__law_tries cd__law_tries ct__law_tries), sl__law_tries⟩)
    (c__law_tries : PySem.W.codeIn K cd__law_tries "_law_tries" = true)
    (k__law_tries : PySem.W.keepIn K (.ref f__law_tries) = true)
    (a__law_try : PySem.W.nsIn K mainGlobals "_law_try" = some (some (.ref f__law_try)))
    (l__law_try : K.lookup f__law_try = some ⟨oc__law_try, od__law_try, .func (PySem.W.fnOf "_law_try" "_law_try" (defArgs s__law_try) (defBody s__law_try) (defScope s__law_try) .none kV__law_try dc__law_try pm__law_try an__law_try cd__law_try ct__law_try), sl__law_try⟩)
    (c__law_try : PySem.W.codeIn K cd__law_try "_law_try" = true)
    (k__law_try : PySem.W.keepIn K (.ref f__law_try) = true)
    (a__law_field : PySem.W.nsIn K mainGlobals "_law_field" = some (some (.ref f__law_field)))
    (l__law_field : K.lookup f__law_field = some ⟨oc__law_field, od__law_field, .func (PySem.W.fnOf "_law_field" "_law_field" (defArgs s__law_field) (defBody s__law_field) (defScope s__law_field) .none kV__law_field dc__law_field pm__law_field an__law_field cd__law_field ct__law_field), sl__law_field⟩)
    (c__law_field : PySem.W.codeIn K cd__law_field "_law_field" = true)
    (k__law_field : PySem.W.keepIn K (.ref f__law_field) = true)
    (a__law_same : PySem.W.nsIn K mainGlobals "_law_same" = some (some (.ref f__law_same)))
    (l__law_same : K.lookup f__law_same = some ⟨oc__law_same, od__law_same, .func (PySem.W.fnOf "_law_same" "_law_same" (defArgs s__law_same) (defBody s__law_same) (defScope s__law_same) .none kV__law_same dc__law_same pm__law_same an__law_same cd__law_same ct__law_same), sl__law_same⟩)
    (c__law_same : PySem.W.codeIn K cd__law_same "_law_same" = true)
    (k__law_same : PySem.W.keepIn K (.ref f__law_same) = true)
    (a_is_string : PySem.W.nsIn K mainGlobals "is_string" = some (some (.ref f_is_string)))
    (l_is_string : K.lookup f_is_string = some ⟨oc_is_string, od_is_string, .func (PySem.W.fnOf "is_string" "is_string" (defArgs s_is_string) (defBody s_is_string) (defScope s_is_string) .none kV_is_string dc_is_string pm_is_string an_is_string cd_is_string ct_is_string), sl_is_string⟩)
    (c_is_string : PySem.W.codeIn K cd_is_string "is_string" = true)
    (k_is_string : PySem.W.keepIn K (.ref f_is_string) = true)
    (a_is_room : PySem.W.nsIn K mainGlobals "is_room" = some (some (.ref f_is_room)))
    (l_is_room : K.lookup f_is_room = some ⟨oc_is_room, od_is_room, .func (PySem.W.fnOf "is_room" "is_room" (defArgs s_is_room) (defBody s_is_room) (defScope s_is_room) .none kV_is_room dc_is_room pm_is_room an_is_room cd_is_room ct_is_room), sl_is_room⟩)
    (c_is_room : PySem.W.codeIn K cd_is_room "is_room" = true)
    (k_is_room : PySem.W.keepIn K (.ref f_is_room) = true)
    (a_check_room : PySem.W.nsIn K mainGlobals "check_room" = some (some (.ref f_check_room)))
    (l_check_room : K.lookup f_check_room = some ⟨oc_check_room, od_check_room, .func (PySem.W.fnOf "check_room" "check_room" (defArgs s_check_room) (defBody s_check_room) (defScope s_check_room) .none kV_check_room dc_check_room pm_check_room an_check_room cd_check_room ct_check_room), sl_check_room⟩)
    (c_check_room : PySem.W.codeIn K cd_check_room "check_room" = true)
    (k_check_room : PySem.W.keepIn K (.ref f_check_room) = true)
    (a_is_letter : PySem.W.nsIn K mainGlobals "is_letter" = some (some (.ref f_is_letter)))
    (l_is_letter : K.lookup f_is_letter = some ⟨oc_is_letter, od_is_letter, .func (PySem.W.fnOf "is_letter" "is_letter" (defArgs s_is_letter) (defBody s_is_letter) (defScope s_is_letter) .none kV_is_letter dc_is_letter pm_is_letter an_is_letter cd_is_letter ct_is_letter), sl_is_letter⟩)
    (c_is_letter : PySem.W.codeIn K cd_is_letter "is_letter" = true)
    (k_is_letter : PySem.W.keepIn K (.ref f_is_letter) = true)
    (a_is_integer : PySem.W.nsIn K mainGlobals "is_integer" = some (some (.ref f_is_integer)))
    (l_is_integer : K.lookup f_is_integer = some ⟨oc_is_integer, od_is_integer, .func (PySem.W.fnOf "is_integer" "is_integer" (defArgs s_is_integer) (defBody s_is_integer) (defScope s_is_integer) .none kV_is_integer dc_is_integer pm_is_integer an_is_integer cd_is_integer ct_is_integer), sl_is_integer⟩)
    (c_is_integer : PySem.W.codeIn K cd_is_integer "is_integer" = true)
    (k_is_integer : PySem.W.keepIn K (.ref f_is_integer) = true)
    (a_is_place : PySem.W.nsIn K mainGlobals "is_place" = some (some (.ref f_is_place)))
    (l_is_place : K.lookup f_is_place = some ⟨oc_is_place, od_is_place, .func (PySem.W.fnOf "is_place" "is_place" (defArgs s_is_place) (defBody s_is_place) (defScope s_is_place) .none kV_is_place dc_is_place pm_is_place an_is_place cd_is_place ct_is_place), sl_is_place⟩)
    (c_is_place : PySem.W.codeIn K cd_is_place "is_place" = true)
    (k_is_place : PySem.W.keepIn K (.ref f_is_place) = true)
    (a_is_placed_step : PySem.W.nsIn K mainGlobals "is_placed_step" = some (some (.ref f_is_placed_step)))
    (l_is_placed_step : K.lookup f_is_placed_step = some ⟨oc_is_placed_step, od_is_placed_step, .func (PySem.W.fnOf "is_placed_step" "is_placed_step" (defArgs s_is_placed_step) (defBody s_is_placed_step) (defScope s_is_placed_step) .none kV_is_placed_step dc_is_placed_step pm_is_placed_step an_is_placed_step cd_is_placed_step ct_is_placed_step), sl_is_placed_step⟩)
    (c_is_placed_step : PySem.W.codeIn K cd_is_placed_step "is_placed_step" = true)
    (k_is_placed_step : PySem.W.keepIn K (.ref f_is_placed_step) = true)
    (at_B_parts : PySem.W.findIn K (.ref CB) "parts" = some (some (.ref f_B_parts)))
    (fn_B_parts : PySem.W.isFn K (.ref f_B_parts) = true)
    (l_B_parts : K.lookup f_B_parts = some ⟨oc_B_parts, od_B_parts, .func (PySem.W.fnOf "parts" "Book.parts" (defArgs s_Book_parts) (defBody s_Book_parts) (defScope s_Book_parts) .none kV_B_parts dc_B_parts pm_B_parts an_B_parts cd_B_parts ct_B_parts), sl_B_parts⟩)
    (c_B_parts : PySem.W.codeIn K cd_B_parts "Book.parts" = true)
    (k_B_parts : PySem.W.keepIn K (.ref f_B_parts) = true)
    (at_B_cut : PySem.W.findIn K (.ref CB) "cut" = some (some (.ref f_B_cut)))
    (fn_B_cut : PySem.W.isFn K (.ref f_B_cut) = true)
    (l_B_cut : K.lookup f_B_cut = some ⟨oc_B_cut, od_B_cut, .func (PySem.W.fnOf "cut" "Book.cut" (defArgs s_Book_cut) (defBody s_Book_cut) (defScope s_Book_cut) .none kV_B_cut dc_B_cut pm_B_cut an_B_cut cd_B_cut ct_B_cut), sl_B_cut⟩)
    (c_B_cut : PySem.W.codeIn K cd_B_cut "Book.cut" = true)
    (k_B_cut : PySem.W.keepIn K (.ref f_B_cut) = true)
    (at_B_line_at : PySem.W.findIn K (.ref CB) "line_at" = some (some (.ref f_B_line_at)))
    (fn_B_line_at : PySem.W.isFn K (.ref f_B_line_at) = true)
    (l_B_line_at : K.lookup f_B_line_at = some ⟨oc_B_line_at, od_B_line_at, .func (PySem.W.fnOf "line_at" "Book.line_at" (defArgs s_Book_line_at) (defBody s_Book_line_at) (defScope s_Book_line_at) .none kV_B_line_at dc_B_line_at pm_B_line_at an_B_line_at cd_B_line_at ct_B_line_at), sl_B_line_at⟩)
    (c_B_line_at : PySem.W.codeIn K cd_B_line_at "Book.line_at" = true)
    (k_B_line_at : PySem.W.keepIn K (.ref f_B_line_at) = true)
    (a_fits : PySem.W.nsIn K mainGlobals "fits" = some (some (.ref f_fits)))
    (l_fits : K.lookup f_fits = some ⟨oc_fits, od_fits, .func (PySem.W.fnOf "fits" "fits" (defArgs s_fits) (defBody s_fits) (defScope s_fits) .none kV_fits dc_fits pm_fits an_fits cd_fits ct_fits), sl_fits⟩)
    (c_fits : PySem.W.codeIn K cd_fits "fits" = true)
    (k_fits : PySem.W.keepIn K (.ref f_fits) = true)
    (a_parts_of : PySem.W.nsIn K mainGlobals "parts_of" = some (some (.ref f_parts_of)))
    (l_parts_of : K.lookup f_parts_of = some ⟨oc_parts_of, od_parts_of, .func (PySem.W.fnOf "parts_of" "parts_of" (defArgs s_parts_of) (defBody s_parts_of) (defScope s_parts_of) .none kV_parts_of dc_parts_of pm_parts_of an_parts_of cd_parts_of ct_parts_of), sl_parts_of⟩)
    (c_parts_of : PySem.W.codeIn K cd_parts_of "parts_of" = true)
    (k_parts_of : PySem.W.keepIn K (.ref f_parts_of) = true)
    (at_R_add : PySem.W.findIn K (.ref CR) "__add__" = some (some (.ref f_R_add)))
    (fn_R_add : PySem.W.isFn K (.ref f_R_add) = true)
    (l_R_add : K.lookup f_R_add = some ⟨oc_R_add, od_R_add, .func (PySem.W.fnOf "__add__" "Ratio.__add__" (defArgs s_Ratio_add) (defBody s_Ratio_add) (defScope s_Ratio_add) .none kV_R_add dc_R_add pm_R_add an_R_add cd_R_add ct_R_add), sl_R_add⟩)
    (c_R_add : PySem.W.codeIn K cd_R_add "Ratio.__add__" = true)
    (k_R_add : PySem.W.keepIn K (.ref f_R_add) = true)
    (R_sf : PySem.W.selfFirst K CR = true)
    (G_g : PySem.W.nsIn K mainGlobals "gcd" = some (some (.builtin "math.gcd")))
    (at_R_sub : PySem.W.findIn K (.ref CR) "__sub__" = some (some (.ref f_R_sub)))
    (fn_R_sub : PySem.W.isFn K (.ref f_R_sub) = true)
    (l_R_sub : K.lookup f_R_sub = some ⟨oc_R_sub, od_R_sub, .func (PySem.W.fnOf "__sub__" "Ratio.__sub__" (defArgs s_Ratio_sub) (defBody s_Ratio_sub) (defScope s_Ratio_sub) .none kV_R_sub dc_R_sub pm_R_sub an_R_sub cd_R_sub ct_R_sub), sl_R_sub⟩)
    (c_R_sub : PySem.W.codeIn K cd_R_sub "Ratio.__sub__" = true)
    (k_R_sub : PySem.W.keepIn K (.ref f_R_sub) = true)
    (at_R_mul : PySem.W.findIn K (.ref CR) "__mul__" = some (some (.ref f_R_mul)))
    (fn_R_mul : PySem.W.isFn K (.ref f_R_mul) = true)
    (l_R_mul : K.lookup f_R_mul = some ⟨oc_R_mul, od_R_mul, .func (PySem.W.fnOf "__mul__" "Ratio.__mul__" (defArgs s_Ratio_mul) (defBody s_Ratio_mul) (defScope s_Ratio_mul) .none kV_R_mul dc_R_mul pm_R_mul an_R_mul cd_R_mul ct_R_mul), sl_R_mul⟩)
    (c_R_mul : PySem.W.codeIn K cd_R_mul "Ratio.__mul__" = true)
    (k_R_mul : PySem.W.keepIn K (.ref f_R_mul) = true)
    (a_boxes_at : PySem.W.nsIn K mainGlobals "boxes_at" = some (some (.ref f_boxes_at)))
    (l_boxes_at : K.lookup f_boxes_at = some ⟨oc_boxes_at, od_boxes_at, .func (PySem.W.fnOf "boxes_at" "boxes_at" (defArgs s_boxes_at) (defBody s_boxes_at) (defScope s_boxes_at) .none kV_boxes_at dc_boxes_at pm_boxes_at an_boxes_at cd_boxes_at ct_boxes_at), sl_boxes_at⟩)
    (c_boxes_at : PySem.W.codeIn K cd_boxes_at "boxes_at" = true)
    (k_boxes_at : PySem.W.keepIn K (.ref f_boxes_at) = true)
    (a_lay : PySem.W.nsIn K mainGlobals "lay" = some (some (.ref f_lay)))
    (l_lay : K.lookup f_lay = some ⟨oc_lay, od_lay, .func (PySem.W.fnOf "lay" "lay" (defArgs s_lay) (defBody s_lay) (defScope s_lay) .none kV_lay dc_lay pm_lay an_lay cd_lay ct_lay), sl_lay⟩)
    (c_lay : PySem.W.codeIn K cd_lay "lay" = true)
    (k_lay : PySem.W.keepIn K (.ref f_lay) = true)
    (a_laid : PySem.W.nsIn K mainGlobals "laid" = some (some (.ref f_laid)))
    (l_laid : K.lookup f_laid = some ⟨oc_laid, od_laid, .func (PySem.W.fnOf "laid" "laid" (defArgs s_laid) (defBody s_laid) (defScope s_laid) .none kV_laid dc_laid pm_laid an_laid cd_laid ct_laid), sl_laid⟩)
    (c_laid : PySem.W.codeIn K cd_laid "laid" = true)
    (k_laid : PySem.W.keepIn K (.ref f_laid) = true)
    (a_floor_behind : PySem.W.nsIn K mainGlobals "floor_behind" = some (some (.ref f_floor_behind)))
    (l_floor_behind : K.lookup f_floor_behind = some ⟨oc_floor_behind, od_floor_behind, .func (PySem.W.fnOf "floor_behind" "floor_behind" (defArgs s_floor_behind) (defBody s_floor_behind) (defScope s_floor_behind) .none kV_floor_behind dc_floor_behind pm_floor_behind an_floor_behind cd_floor_behind ct_floor_behind), sl_floor_behind⟩)
    (c_floor_behind : PySem.W.codeIn K cd_floor_behind "floor_behind" = true)
    (k_floor_behind : PySem.W.keepIn K (.ref f_floor_behind) = true)
    (a_check_walk : PySem.W.nsIn K mainGlobals "check_walk" = some (some (.ref f_check_walk)))
    (l_check_walk : K.lookup f_check_walk = some ⟨oc_check_walk, od_check_walk, .func (PySem.W.fnOf "check_walk" "check_walk" (defArgs s_check_walk) (defBody s_check_walk) (defScope s_check_walk) .none kV_check_walk dc_check_walk pm_check_walk an_check_walk cd_check_walk ct_check_walk), sl_check_walk⟩)
    (c_check_walk : PySem.W.codeIn K cd_check_walk "check_walk" = true)
    (k_check_walk : PySem.W.keepIn K (.ref f_check_walk) = true)
    (X_g : PySem.W.nsIn K mainGlobals "_SIDES" = some (some (.ref sX)))
    (X_e : K.lookup sX = some ⟨.type "dict", none, .dict esX nX, #[]⟩)
    (X_h : PySem.W.KeysLit w.params esX.toList)
    (X_vA : PySem.W.nsIn K sX "A" = some (some (.ref tA)))
    (X_tA : K.lookup tA = some ⟨.type "tuple", od_tA, .seq #[.int 1 k0_tA, .int 3 k1_tA] n_tA, sl_tA⟩)
    (X_vD : PySem.W.nsIn K sX "D" = some (some (.ref tD)))
    (X_tD : K.lookup tD = some ⟨.type "tuple", od_tD, .seq #[.int 0 k0_tD, .int 2 k1_tD] n_tD, sl_tD⟩)
    (at_R_eq : PySem.W.findIn K (.ref CR) "__eq__" = some (some (.ref f_R_eq)))
    (fn_R_eq : PySem.W.isFn K (.ref f_R_eq) = true)
    (l_R_eq : K.lookup f_R_eq = some ⟨oc_R_eq, od_R_eq, .func (PySem.W.fnOf "__eq__" "Ratio.__eq__" (defArgs s_Ratio_eq) (defBody s_Ratio_eq) (defScope s_Ratio_eq) .none kV_R_eq dc_R_eq pm_R_eq an_R_eq cd_R_eq ct_R_eq), sl_R_eq⟩)
    (c_R_eq : PySem.W.codeIn K cd_R_eq "Ratio.__eq__" = true)
    (k_R_eq : PySem.W.keepIn K (.ref f_R_eq) = true)
    (R_ne : PySem.W.findIn K (.ref CR) "__ne__" = some (some (.builtin "object.__ne__")))
    (R_nf1 : PySem.W.notFirst K CR (.ref CR) = true)
    (at_R_is_below : PySem.W.findIn K (.ref CR) "is_below" = some (some (.ref f_R_is_below)))
    (fn_R_is_below : PySem.W.isFn K (.ref f_R_is_below) = true)
    (l_R_is_below : K.lookup f_R_is_below = some ⟨oc_R_is_below, od_R_is_below, .func (PySem.W.fnOf "is_below" "Ratio.is_below" (defArgs s_Ratio_is_below) (defBody s_Ratio_is_below) (defScope s_Ratio_is_below) .none kV_R_is_below dc_R_is_below pm_R_is_below an_R_is_below cd_R_is_below ct_R_is_below), sl_R_is_below⟩)
    (c_R_is_below : PySem.W.codeIn K cd_R_is_below "Ratio.is_below" = true)
    (k_R_is_below : PySem.W.keepIn K (.ref f_R_is_below) = true)
    (a_walk_in : PySem.W.nsIn K mainGlobals "walk_in" = some (some (.ref f_walk_in)))
    (l_walk_in : K.lookup f_walk_in = some ⟨oc_walk_in, od_walk_in, .func (PySem.W.fnOf "walk_in" "walk_in" (defArgs s_walk_in) (defBody s_walk_in) (defScope s_walk_in) .none kV_walk_in dc_walk_in pm_walk_in an_walk_in cd_walk_in ct_walk_in), sl_walk_in⟩)
    (c_walk_in : PySem.W.codeIn K cd_walk_in "walk_in" = true)
    (k_walk_in : PySem.W.keepIn K (.ref f_walk_in) = true)
    (a_walk_at : PySem.W.nsIn K mainGlobals "walk_at" = some (some (.ref f_walk_at)))
    (l_walk_at : K.lookup f_walk_at = some ⟨oc_walk_at, od_walk_at, .func (PySem.W.fnOf "walk_at" "walk_at" (defArgs s_walk_at) (defBody s_walk_at) (defScope s_walk_at) .none kV_walk_at dc_walk_at pm_walk_at an_walk_at cd_walk_at ct_walk_at), sl_walk_at⟩)
    (c_walk_at : PySem.W.codeIn K cd_walk_at "walk_at" = true)
    (k_walk_at : PySem.W.keepIn K (.ref f_walk_at) = true)
    (a__law_draw : PySem.W.nsIn K mainGlobals "_law_draw" = some (some (.ref f__law_draw)))
    (l__law_draw : K.lookup f__law_draw = some ⟨oc__law_draw, od__law_draw, .func (PySem.W.fnOf "_law_draw" "_law_draw" (defArgs s__law_draw) (defBody s__law_draw) (defScope s__law_draw) .none kV__law_draw dc__law_draw pm__law_draw an__law_draw cd__law_draw ct__law_draw), sl__law_draw⟩)
    (c__law_draw : PySem.W.codeIn K cd__law_draw "_law_draw" = true)
    (k__law_draw : PySem.W.keepIn K (.ref f__law_draw) = true)
    (a__law_of : PySem.W.nsIn K mainGlobals "_law_of" = some (some (.ref f__law_of)))
    (l__law_of : K.lookup f__law_of = some ⟨oc__law_of, od__law_of, .func (PySem.W.fnOf "_law_of" "_law_of" (defArgs s__law_of) (defBody s__law_of) (defScope s__law_of) .none kV__law_of dc__law_of pm__law_of an__law_of cd__law_of ct__law_of), sl__law_of⟩)
    (c__law_of : PySem.W.codeIn K cd__law_of "_law_of" = true)
    (k__law_of : PySem.W.keepIn K (.ref f__law_of) = true)
    (a__law_top : PySem.W.nsIn K mainGlobals "_law_top" = some (some (.ref f__law_top)))
    (l__law_top : K.lookup f__law_top = some ⟨oc__law_top, od__law_top, .func (PySem.W.fnOf "_law_top" "_law_top" (defArgs s__law_top) (defBody s__law_top) (defScope s__law_top) .none kV__law_top dc__law_top pm__law_top an__law_top cd__law_top ct__law_top), sl__law_top⟩)
    (c__law_top : PySem.W.codeIn K cd__law_top "_law_top" = true)
    (k__law_top : PySem.W.keepIn K (.ref f__law_top) = true)
    (a__law_low : PySem.W.nsIn K mainGlobals "_law_low" = some (some (.ref f__law_low)))
    (l__law_low : K.lookup f__law_low = some ⟨oc__law_low, od__law_low, .func (PySem.W.fnOf "_law_low" "_law_low" (defArgs s__law_low) (defBody s__law_low) (defScope s__law_low) .none kV__law_low dc__law_low pm__law_low an__law_low cd__law_low ct__law_low), sl__law_low⟩)
    (c__law_low : PySem.W.codeIn K cd__law_low "_law_low" = true)
    (k__law_low : PySem.W.keepIn K (.ref f__law_low) = true)
    (a__law_below : PySem.W.nsIn K mainGlobals "_law_below" = some (some (.ref f__law_below)))
    (l__law_below : K.lookup f__law_below = some ⟨oc__law_below, od__law_below, .func (PySem.W.fnOf "_law_below" "_law_below" (defArgs s__law_below) (defBody s__law_below) (defScope s__law_below) .none kV__law_below dc__law_below pm__law_below an__law_below cd__law_below ct__law_below), sl__law_below⟩)
    (c__law_below : PySem.W.codeIn K cd__law_below "_law_below" = true)
    (k__law_below : PySem.W.keepIn K (.ref f__law_below) = true)
    (a__law_some_place : PySem.W.nsIn K mainGlobals "_law_some_place" = some (some (.ref f__law_some_place)))
    (l__law_some_place : K.lookup f__law_some_place = some ⟨oc__law_some_place, od__law_some_place, .func (PySem.W.fnOf "_law_some_place" "_law_some_place" (defArgs s__law_some_place) (defBody s__law_some_place) (defScope s__law_some_place) .none kV__law_some_place dc__law_some_place pm__law_some_place an__law_some_place cd__law_some_place ct__law_some_place), sl__law_some_place⟩)
    (c__law_some_place : PySem.W.codeIn K cd__law_some_place "_law_some_place" = true)
    (k__law_some_place : PySem.W.keepIn K (.ref f__law_some_place) = true)
    (a__law_split : PySem.W.nsIn K mainGlobals "_law_split" = some (some (.ref f__law_split)))
    (l__law_split : K.lookup f__law_split = some ⟨oc__law_split, od__law_split, .func (PySem.W.fnOf "_law_split" "_law_split" (defArgs s__law_split) (defBody s__law_split) (defScope s__law_split) .none kV__law_split dc__law_split pm__law_split an__law_split cd__law_split ct__law_split), sl__law_split⟩)
    (c__law_split : PySem.W.codeIn K cd__law_split "_law_split" = true)
    (k__law_split : PySem.W.keepIn K (.ref f__law_split) = true)
    (a__law_fits : PySem.W.nsIn K mainGlobals "_law_fits" = some (some (.ref f__law_fits)))
    (l__law_fits : K.lookup f__law_fits = some ⟨oc__law_fits, od__law_fits, .func (PySem.W.fnOf "_law_fits" "_law_fits" (defArgs s__law_fits) (defBody s__law_fits) (defScope s__law_fits) .none kV__law_fits dc__law_fits pm__law_fits an__law_fits cd__law_fits ct__law_fits), sl__law_fits⟩)
    (c__law_fits : PySem.W.codeIn K cd__law_fits "_law_fits" = true)
    (k__law_fits : PySem.W.keepIn K (.ref f__law_fits) = true)
    (a__law_line_at : PySem.W.nsIn K mainGlobals "_law_line_at" = some (some (.ref f__law_line_at)))
    (l__law_line_at : K.lookup f__law_line_at = some ⟨oc__law_line_at, od__law_line_at, .func (PySem.W.fnOf "_law_line_at" "_law_line_at" (defArgs s__law_line_at) (defBody s__law_line_at) (defScope s__law_line_at) .none kV__law_line_at dc__law_line_at pm__law_line_at an__law_line_at cd__law_line_at ct__law_line_at), sl__law_line_at⟩)
    (c__law_line_at : PySem.W.codeIn K cd__law_line_at "_law_line_at" = true)
    (k__law_line_at : PySem.W.keepIn K (.ref f__law_line_at) = true)
    (a__law_cut : PySem.W.nsIn K mainGlobals "_law_cut" = some (some (.ref f__law_cut)))
    (l__law_cut : K.lookup f__law_cut = some ⟨oc__law_cut, od__law_cut, .func (PySem.W.fnOf "_law_cut" "_law_cut" (defArgs s__law_cut) (defBody s__law_cut) (defScope s__law_cut) .none kV__law_cut dc__law_cut pm__law_cut an__law_cut cd__law_cut ct__law_cut), sl__law_cut⟩)
    (c__law_cut : PySem.W.codeIn K cd__law_cut "_law_cut" = true)
    (k__law_cut : PySem.W.keepIn K (.ref f__law_cut) = true)
    (a__law_parts : PySem.W.nsIn K mainGlobals "_law_parts" = some (some (.ref f__law_parts)))
    (l__law_parts : K.lookup f__law_parts = some ⟨oc__law_parts, od__law_parts, .func (PySem.W.fnOf "_law_parts" "_law_parts" (defArgs s__law_parts) (defBody s__law_parts) (defScope s__law_parts) .none kV__law_parts dc__law_parts pm__law_parts an__law_parts cd__law_parts ct__law_parts), sl__law_parts⟩)
    (c__law_parts : PySem.W.codeIn K cd__law_parts "_law_parts" = true)
    (k__law_parts : PySem.W.keepIn K (.ref f__law_parts) = true)
    (a__law_add : PySem.W.nsIn K mainGlobals "_law_add" = some (some (.ref f__law_add)))
    (l__law_add : K.lookup f__law_add = some ⟨oc__law_add, od__law_add, .func (PySem.W.fnOf "_law_add" "_law_add" (defArgs s__law_add) (defBody s__law_add) (defScope s__law_add) .none kV__law_add dc__law_add pm__law_add an__law_add cd__law_add ct__law_add), sl__law_add⟩)
    (c__law_add : PySem.W.codeIn K cd__law_add "_law_add" = true)
    (k__law_add : PySem.W.keepIn K (.ref f__law_add) = true)
    (a__law_times : PySem.W.nsIn K mainGlobals "_law_times" = some (some (.ref f__law_times)))
    (l__law_times : K.lookup f__law_times = some ⟨oc__law_times, od__law_times, .func (PySem.W.fnOf "_law_times" "_law_times" (defArgs s__law_times) (defBody s__law_times) (defScope s__law_times) .none kV__law_times dc__law_times pm__law_times an__law_times cd__law_times ct__law_times), sl__law_times⟩)
    (c__law_times : PySem.W.codeIn K cd__law_times "_law_times" = true)
    (k__law_times : PySem.W.keepIn K (.ref f__law_times) = true)
    (a__law_on_way : PySem.W.nsIn K mainGlobals "_law_on_way" = some (some (.ref f__law_on_way)))
    (l__law_on_way : K.lookup f__law_on_way = some ⟨oc__law_on_way, od__law_on_way, .func (PySem.W.fnOf "_law_on_way" "_law_on_way" (defArgs s__law_on_way) (defBody s__law_on_way) (defScope s__law_on_way) .none kV__law_on_way dc__law_on_way pm__law_on_way an__law_on_way cd__law_on_way ct__law_on_way), sl__law_on_way⟩)
    (c__law_on_way : PySem.W.codeIn K cd__law_on_way "_law_on_way" = true)
    (k__law_on_way : PySem.W.keepIn K (.ref f__law_on_way) = true)
    (a__law_cut_box : PySem.W.nsIn K mainGlobals "_law_cut_box" = some (some (.ref f__law_cut_box)))
    (l__law_cut_box : K.lookup f__law_cut_box = some ⟨oc__law_cut_box, od__law_cut_box, .func (PySem.W.fnOf "_law_cut_box" "_law_cut_box" (defArgs s__law_cut_box) (defBody s__law_cut_box) (defScope s__law_cut_box) .none kV__law_cut_box dc__law_cut_box pm__law_cut_box an__law_cut_box cd__law_cut_box ct__law_cut_box), sl__law_cut_box⟩)
    (c__law_cut_box : PySem.W.codeIn K cd__law_cut_box "_law_cut_box" = true)
    (k__law_cut_box : PySem.W.keepIn K (.ref f__law_cut_box) = true)
    (a__law_some_placed : PySem.W.nsIn K mainGlobals "_law_some_placed" = some (some (.ref f__law_some_placed)))
    (l__law_some_placed : K.lookup f__law_some_placed = some ⟨oc__law_some_placed, od__law_some_placed, .func (PySem.W.fnOf "_law_some_placed" "_law_some_placed" (defArgs s__law_some_placed) (defBody s__law_some_placed) (defScope s__law_some_placed) .none kV__law_some_placed dc__law_some_placed pm__law_some_placed an__law_some_placed cd__law_some_placed ct__law_some_placed), sl__law_some_placed⟩)
    (c__law_some_placed : PySem.W.codeIn K cd__law_some_placed "_law_some_placed" = true)
    (k__law_some_placed : PySem.W.keepIn K (.ref f__law_some_placed) = true)
    (a__law_some_room : PySem.W.nsIn K mainGlobals "_law_some_room" = some (some (.ref f__law_some_room)))
    (l__law_some_room : K.lookup f__law_some_room = some ⟨oc__law_some_room, od__law_some_room, .func (PySem.W.fnOf "_law_some_room" "_law_some_room" (defArgs s__law_some_room) (defBody s__law_some_room) (defScope s__law_some_room) .none kV__law_some_room dc__law_some_room pm__law_some_room an__law_some_room cd__law_some_room ct__law_some_room), sl__law_some_room⟩)
    (c__law_some_room : PySem.W.codeIn K cd__law_some_room "_law_some_room" = true)
    (k__law_some_room : PySem.W.keepIn K (.ref f__law_some_room) = true)
    (B_init : PySem.W.findIn K (.ref CB) "__init__" = some (some (.ref f_Bi)))
    (B_ifn : PySem.W.isFn K (.ref f_Bi) = true)
    (l_Bi : K.lookup f_Bi = some ⟨oc_Bi, od_Bi, .func (PySem.W.fnOf "__init__" "Book.__init__" (defArgs s_Book_init) (defBody s_Book_init) (defScope s_Book_init) .none kV_Bi dc_Bi pm_Bi an_Bi cd_Bi ct_Bi), sl_Bi⟩)
    (c_Bi : PySem.W.codeIn K cd_Bi "Book.__init__" = true)
    (k_Bi : PySem.W.keepIn K (.ref f_Bi) = true)
    (z__LOWER : PySem.W.nsIn K mainGlobals "_LOWER" = some (some (.str "abcdefghijklmnopqrstuvwxyz" tk__LOWER)))
    (z__MOST_FACES : PySem.W.nsIn K mainGlobals "_MOST_FACES" = some (some (.int 6 tk__MOST_FACES)))
    (a_is_ascending : PySem.W.nsIn K mainGlobals "is_ascending" = some (some (.ref f_is_ascending)))
    (l_is_ascending : K.lookup f_is_ascending = some ⟨oc_is_ascending, od_is_ascending, .func (PySem.W.fnOf "is_ascending" "is_ascending" (defArgs s_is_ascending) (defBody s_is_ascending) (defScope s_is_ascending) .none kV_is_ascending dc_is_ascending pm_is_ascending an_is_ascending cd_is_ascending ct_is_ascending), sl_is_ascending⟩)
    (c_is_ascending : PySem.W.codeIn K cd_is_ascending "is_ascending" = true)
    (k_is_ascending : PySem.W.keepIn K (.ref f_is_ascending) = true)
    (a_is_choice : PySem.W.nsIn K mainGlobals "is_choice" = some (some (.ref f_is_choice)))
    (l_is_choice : K.lookup f_is_choice = some ⟨oc_is_choice, od_is_choice, .func (PySem.W.fnOf "is_choice" "is_choice" (defArgs s_is_choice) (defBody s_is_choice) (defScope s_is_choice) .none kV_is_choice dc_is_choice pm_is_choice an_is_choice cd_is_choice ct_is_choice), sl_is_choice⟩)
    (c_is_choice : PySem.W.codeIn K cd_is_choice "is_choice" = true)
    (k_is_choice : PySem.W.keepIn K (.ref f_is_choice) = true)
    (a_is_faces : PySem.W.nsIn K mainGlobals "is_faces" = some (some (.ref f_is_faces)))
    (l_is_faces : K.lookup f_is_faces = some ⟨oc_is_faces, od_is_faces, .func (PySem.W.fnOf "is_faces" "is_faces" (defArgs s_is_faces) (defBody s_is_faces) (defScope s_is_faces) .none kV_is_faces dc_is_faces pm_is_faces an_is_faces cd_is_faces ct_is_faces), sl_is_faces⟩)
    (c_is_faces : PySem.W.codeIn K cd_is_faces "is_faces" = true)
    (k_is_faces : PySem.W.keepIn K (.ref f_is_faces) = true)
    (z__UPPER : PySem.W.nsIn K mainGlobals "_UPPER" = some (some (.str "ABCDEFGHIJKLMNOPQRSTUVWXYZ" tk__UPPER)))
    (z__MOST_CUTTERS : PySem.W.nsIn K mainGlobals "_MOST_CUTTERS" = some (some (.int 4 tk__MOST_CUTTERS)))
    (a_is_cutters : PySem.W.nsIn K mainGlobals "is_cutters" = some (some (.ref f_is_cutters)))
    (l_is_cutters : K.lookup f_is_cutters = some ⟨oc_is_cutters, od_is_cutters, .func (PySem.W.fnOf "is_cutters" "is_cutters" (defArgs s_is_cutters) (defBody s_is_cutters) (defScope s_is_cutters) .none kV_is_cutters dc_is_cutters pm_is_cutters an_is_cutters cd_is_cutters ct_is_cutters), sl_is_cutters⟩)
    (c_is_cutters : PySem.W.codeIn K cd_is_cutters "is_cutters" = true)
    (k_is_cutters : PySem.W.keepIn K (.ref f_is_cutters) = true)
    (a_is_part : PySem.W.nsIn K mainGlobals "is_part" = some (some (.ref f_is_part)))
    (l_is_part : K.lookup f_is_part = some ⟨oc_is_part, od_is_part, .func (PySem.W.fnOf "is_part" "is_part" (defArgs s_is_part) (defBody s_is_part) (defScope s_is_part) .none kV_is_part dc_is_part pm_is_part an_is_part cd_is_part ct_is_part), sl_is_part⟩)
    (c_is_part : PySem.W.codeIn K cd_is_part "is_part" = true)
    (k_is_part : PySem.W.keepIn K (.ref f_is_part) = true)
    (a_is_cut : PySem.W.nsIn K mainGlobals "is_cut" = some (some (.ref f_is_cut)))
    (l_is_cut : K.lookup f_is_cut = some ⟨oc_is_cut, od_is_cut, .func (PySem.W.fnOf "is_cut" "is_cut" (defArgs s_is_cut) (defBody s_is_cut) (defScope s_is_cut) .none kV_is_cut dc_is_cut pm_is_cut an_is_cut cd_is_cut ct_is_cut), sl_is_cut⟩)
    (c_is_cut : PySem.W.codeIn K cd_is_cut "is_cut" = true)
    (k_is_cut : PySem.W.keepIn K (.ref f_is_cut) = true)
    (a_is_line : PySem.W.nsIn K mainGlobals "is_line" = some (some (.ref f_is_line)))
    (l_is_line : K.lookup f_is_line = some ⟨oc_is_line, od_is_line, .func (PySem.W.fnOf "is_line" "is_line" (defArgs s_is_line) (defBody s_is_line) (defScope s_is_line) .none kV_is_line dc_is_line pm_is_line an_is_line cd_is_line ct_is_line), sl_is_line⟩)
    (c_is_line : PySem.W.codeIn K cd_is_line "is_line" = true)
    (k_is_line : PySem.W.keepIn K (.ref f_is_line) = true)
    (a_head_of : PySem.W.nsIn K mainGlobals "head_of" = some (some (.ref f_head_of)))
    (l_head_of : K.lookup f_head_of = some ⟨oc_head_of, od_head_of, .func (PySem.W.fnOf "head_of" "head_of" (defArgs s_head_of) (defBody s_head_of) (defScope s_head_of) .none kV_head_of dc_head_of pm_head_of an_head_of cd_head_of ct_head_of), sl_head_of⟩)
    (c_head_of : PySem.W.codeIn K cd_head_of "head_of" = true)
    (k_head_of : PySem.W.keepIn K (.ref f_head_of) = true)
    (a_line_of : PySem.W.nsIn K mainGlobals "line_of" = some (some (.ref f_line_of)))
    (l_line_of : K.lookup f_line_of = some ⟨oc_line_of, od_line_of, .func (PySem.W.fnOf "line_of" "line_of" (defArgs s_line_of) (defBody s_line_of) (defScope s_line_of) .none kV_line_of dc_line_of pm_line_of an_line_of cd_line_of ct_line_of), sl_line_of⟩)
    (c_line_of : PySem.W.codeIn K cd_line_of "line_of" = true)
    (k_line_of : PySem.W.keepIn K (.ref f_line_of) = true)
    (S_fd : PySem.W.findCls K (.ref CB) (.type "type") "read" = some (.get (.builtin "staticmethod.__get__") (.ref p_read) .none (.ref CB)))
    (S_rc : PySem.W.recIn K p_read "staticmethod" = some (.ref f_B_read :: r_read))
    (l_B_read : K.lookup f_B_read = some ⟨oc_B_read, od_B_read, .func (PySem.W.fnOf "read" "Book.read" (defArgs s_Book_read) (defBody s_Book_read) (defScope s_Book_read) .none kV_B_read dc_B_read pm_B_read an_B_read cd_B_read ct_B_read), sl_B_read⟩)
    (c_B_read : PySem.W.codeIn K cd_B_read "Book.read" = true)
    (k_B_read : PySem.W.keepIn K (.ref f_B_read) = true)
    (a__law_line_text : PySem.W.nsIn K mainGlobals "_law_line_text" = some (some (.ref f__law_line_text)))
    (l__law_line_text : K.lookup f__law_line_text = some ⟨oc__law_line_text, od__law_line_text, .func (PySem.W.fnOf "_law_line_text" "_law_line_text" (defArgs s__law_line_text) (defBody s__law_line_text) (defScope s__law_line_text) .none kV__law_line_text dc__law_line_text pm__law_line_text an__law_line_text cd__law_line_text ct__law_line_text), sl__law_line_text⟩)
    (c__law_line_text : PySem.W.codeIn K cd__law_line_text "_law_line_text" = true)
    (k__law_line_text : PySem.W.keepIn K (.ref f__law_line_text) = true)
    (a__law_book_text : PySem.W.nsIn K mainGlobals "_law_book_text" = some (some (.ref f__law_book_text)))
    (l__law_book_text : K.lookup f__law_book_text = some ⟨oc__law_book_text, od__law_book_text, .func (PySem.W.fnOf "_law_book_text" "_law_book_text" (defArgs s__law_book_text) (defBody s__law_book_text) (defScope s__law_book_text) .none kV__law_book_text dc__law_book_text pm__law_book_text an__law_book_text cd__law_book_text ct__law_book_text), sl__law_book_text⟩)
    (c__law_book_text : PySem.W.codeIn K cd__law_book_text "_law_book_text" = true)
    (k__law_book_text : PySem.W.keepIn K (.ref f__law_book_text) = true)
    (a__law_book : PySem.W.nsIn K mainGlobals "_law_book" = some (some (.ref f__law_book)))
    (l__law_book : K.lookup f__law_book = some ⟨oc__law_book, od__law_book, .func (PySem.W.fnOf "_law_book" "_law_book" (defArgs s__law_book) (defBody s__law_book) (defScope s__law_book) .none kV__law_book dc__law_book pm__law_book an__law_book cd__law_book ct__law_book), sl__law_book⟩)
    (c__law_book : PySem.W.codeIn K cd__law_book "_law_book" = true)
    (k__law_book : PySem.W.keepIn K (.ref f__law_book) = true)
    (a__law_part : PySem.W.nsIn K mainGlobals "_law_part" = some (some (.ref f__law_part)))
    (l__law_part : K.lookup f__law_part = some ⟨oc__law_part, od__law_part, .func (PySem.W.fnOf "_law_part" "_law_part" (defArgs s__law_part) (defBody s__law_part) (defScope s__law_part) .none kV__law_part dc__law_part pm__law_part an__law_part cd__law_part ct__law_part), sl__law_part⟩)
    (c__law_part : PySem.W.codeIn K cd__law_part "_law_part" = true)
    (k__law_part : PySem.W.keepIn K (.ref f__law_part) = true)
    (a__law_some_cut : PySem.W.nsIn K mainGlobals "_law_some_cut" = some (some (.ref f__law_some_cut)))
    (l__law_some_cut : K.lookup f__law_some_cut = some ⟨oc__law_some_cut, od__law_some_cut, .func (PySem.W.fnOf "_law_some_cut" "_law_some_cut" (defArgs s__law_some_cut) (defBody s__law_some_cut) (defScope s__law_some_cut) .none kV__law_some_cut dc__law_some_cut pm__law_some_cut an__law_some_cut cd__law_some_cut ct__law_some_cut), sl__law_some_cut⟩)
    (c__law_some_cut : PySem.W.codeIn K cd__law_some_cut "_law_some_cut" = true)
    (k__law_some_cut : PySem.W.keepIn K (.ref f__law_some_cut) = true)
    (a__law_letters : PySem.W.nsIn K mainGlobals "_law_letters" = some (some (.ref f__law_letters)))
    (l__law_letters : K.lookup f__law_letters = some ⟨oc__law_letters, od__law_letters, .func (PySem.W.fnOf "_law_letters" "_law_letters" (defArgs s__law_letters) (defBody s__law_letters) (defScope s__law_letters) .none kV__law_letters dc__law_letters pm__law_letters an__law_letters cd__law_letters ct__law_letters), sl__law_letters⟩)
    (c__law_letters : PySem.W.codeIn K cd__law_letters "_law_letters" = true)
    (k__law_letters : PySem.W.keepIn K (.ref f__law_letters) = true)
    (a__law_some_faces : PySem.W.nsIn K mainGlobals "_law_some_faces" = some (some (.ref f__law_some_faces)))
    (l__law_some_faces : K.lookup f__law_some_faces = some ⟨oc__law_some_faces, od__law_some_faces, .func (PySem.W.fnOf "_law_some_faces" "_law_some_faces" (defArgs s__law_some_faces) (defBody s__law_some_faces) (defScope s__law_some_faces) .none kV__law_some_faces dc__law_some_faces pm__law_some_faces an__law_some_faces cd__law_some_faces ct__law_some_faces), sl__law_some_faces⟩)
    (c__law_some_faces : PySem.W.codeIn K cd__law_some_faces "_law_some_faces" = true)
    (k__law_some_faces : PySem.W.keepIn K (.ref f__law_some_faces) = true)
    (a__law_some_cutters : PySem.W.nsIn K mainGlobals "_law_some_cutters" = some (some (.ref f__law_some_cutters)))
    (l__law_some_cutters : K.lookup f__law_some_cutters = some ⟨oc__law_some_cutters, od__law_some_cutters, .func (PySem.W.fnOf "_law_some_cutters" "_law_some_cutters" (defArgs s__law_some_cutters) (defBody s__law_some_cutters) (defScope s__law_some_cutters) .none kV__law_some_cutters dc__law_some_cutters pm__law_some_cutters an__law_some_cutters cd__law_some_cutters ct__law_some_cutters), sl__law_some_cutters⟩)
    (c__law_some_cutters : PySem.W.codeIn K cd__law_some_cutters "_law_some_cutters" = true)
    (k__law_some_cutters : PySem.W.keepIn K (.ref f__law_some_cutters) = true)
    (a__law_some_line : PySem.W.nsIn K mainGlobals "_law_some_line" = some (some (.ref f__law_some_line)))
    (l__law_some_line : K.lookup f__law_some_line = some ⟨oc__law_some_line, od__law_some_line, .func (PySem.W.fnOf "_law_some_line" "_law_some_line" (defArgs s__law_some_line) (defBody s__law_some_line) (defScope s__law_some_line) .none kV__law_some_line dc__law_some_line pm__law_some_line an__law_some_line cd__law_some_line ct__law_some_line), sl__law_some_line⟩)
    (c__law_some_line : PySem.W.codeIn K cd__law_some_line "_law_some_line" = true)
    (k__law_some_line : PySem.W.keepIn K (.ref f__law_some_line) = true)
    (a__law_some_book : PySem.W.nsIn K mainGlobals "_law_some_book" = some (some (.ref f__law_some_book)))
    (l__law_some_book : K.lookup f__law_some_book = some ⟨oc__law_some_book, od__law_some_book, .func (PySem.W.fnOf "_law_some_book" "_law_some_book" (defArgs s__law_some_book) (defBody s__law_some_book) (defScope s__law_some_book) .none kV__law_some_book dc__law_some_book pm__law_some_book an__law_some_book cd__law_some_book ct__law_some_book), sl__law_some_book⟩)
    (c__law_some_book : PySem.W.codeIn K cd__law_some_book "_law_some_book" = true)
    (k__law_some_book : PySem.W.keepIn K (.ref f__law_some_book) = true)
    (a__law_open : PySem.W.nsIn K mainGlobals "_law_open" = some (some (.ref f__law_open)))
    (l__law_open : K.lookup f__law_open = some ⟨oc__law_open, od__law_open, .func (PySem.W.fnOf "_law_open" "_law_open" (defArgs s__law_open) (defBody s__law_open) (defScope s__law_open) .none kV__law_open dc__law_open pm__law_open an__law_open cd__law_open ct__law_open), sl__law_open⟩)
    (c__law_open : PySem.W.codeIn K cd__law_open "_law_open" = true)
    (k__law_open : PySem.W.keepIn K (.ref f__law_open) = true)
    (a_law : PySem.W.nsIn K mainGlobals "law" = some (some (.ref f_law)))
    (l_law : K.lookup f_law = some ⟨oc_law, od_law, .func (PySem.W.fnOf "law" "law" (defArgs s_law) (defBody s_law) (defScope s_law) .none kV_law dc_law pm_law an_law (.ref c) ct_law), sl_law⟩)
    (c_law : PySem.W.codeIn K (.ref c) "law" = true)
    (y_isinstance : PySem.W.nsIn K mainGlobals "isinstance" = some none)
    (y_str : PySem.W.nsIn K mainGlobals "str" = some none)
    (y_all : PySem.W.nsIn K mainGlobals "all" = some none)
    (y_any : PySem.W.nsIn K mainGlobals "any" = some none)
    (y_len : PySem.W.nsIn K mainGlobals "len" = some none)
    (y_int : PySem.W.nsIn K mainGlobals "int" = some none)
    (y_list : PySem.W.nsIn K mainGlobals "list" = some none)
    (y_abs : PySem.W.nsIn K mainGlobals "abs" = some none)
    (y_bool : PySem.W.nsIn K mainGlobals "bool" = some none)
    (y_tuple : PySem.W.nsIn K mainGlobals "tuple" = some none)
    (y_zip : PySem.W.nsIn K mainGlobals "zip" = some none)
    (y_range : PySem.W.nsIn K mainGlobals "range" = some none)
    (y_enumerate : PySem.W.nsIn K mainGlobals "enumerate" = some none)
    (y_sorted : PySem.W.nsIn K mainGlobals "sorted" = some none)
    (y_dict : PySem.W.nsIn K mainGlobals "dict" = some none)
    (y_set : PySem.W.nsIn K mainGlobals "set" = some none)
    (y_sum : PySem.W.nsIn K mainGlobals "sum" = some none)
    (y_min : PySem.W.nsIn K mainGlobals "min" = some none)
    (y_max : PySem.W.nsIn K mainGlobals "max" = some none)
    (y_reversed : PySem.W.nsIn K mainGlobals "reversed" = some none)
    (y_repr : PySem.W.nsIn K mainGlobals "repr" = some none)
    (y_ord : PySem.W.nsIn K mainGlobals "ord" = some none)
    : ∃ fd : FuncData, (∀ (s : Shared) (v : Value), BindsTo s fd ⟨[v], []⟩ [("_law_script", v)]) ∧ ∀ base : Heap, K.In base → base.Ns mainGlobals mg → LamX.TabB base mg c Pt → FnOk l.prog w K mg base L2.CX0 16 fa fd ["_law_script"] (sp_law K Pt) := by
  have e := hfa.symm.trans (PySem.W.mg_of X G a_law)
  cases e
  have T : Z mg := ⟨PySem.W.mg_none_of X G y_isinstance, PySem.W.mg_none_of X G y_str, PySem.W.mg_none_of X G y_all, PySem.W.mg_none_of X G y_any, PySem.W.mg_none_of X G y_len, PySem.W.mg_none_of X G y_int, PySem.W.mg_none_of X G y_list, PySem.W.mg_none_of X G y_abs, PySem.W.mg_none_of X G y_bool, PySem.W.mg_none_of X G y_tuple, PySem.W.mg_none_of X G y_zip, PySem.W.mg_none_of X G y_range, PySem.W.mg_none_of X G y_enumerate, PySem.W.mg_none_of X G y_sorted, PySem.W.mg_none_of X G y_dict, PySem.W.mg_none_of X G y_set, PySem.W.mg_none_of X G y_sum, PySem.W.mg_none_of X G y_min, PySem.W.mg_none_of X G y_max, PySem.W.mg_none_of X G y_reversed, PySem.W.mg_none_of X G y_repr, PySem.W.mg_none_of X G y_ord⟩
  have gB := PySem.W.mg_of X G B_g
  have BC : BookC K CB := ⟨⟨B_pg, B_hd, B_po, B_sa⟩, B_nf, B_nc, B_nl⟩
  have rC : ClX.CRead K CB (.type "type") := ⟨B_rd, B_sg⟩
  have vM : ClX.CVal K CB (.type "type") "MOST" (.int 8) (.int 8 t8) := ⟨B_most, ⟨t8, rfl⟩⟩
  have hC := BC.c
  have nf := BC.nf
  have nc := BC.nc
  have nl := BC.nl
  have gR := PySem.W.mg_of X G R_g
  have RC : RatC K CR := ⟨⟨R_pg, R_hd, R_po, R_sa⟩, R_nt, R_nb⟩
  have RE : BookE K CR := ⟨R_ca, R_cn, R_ct, R_cm, R_kit⟩
  have GS : GsK K := ⟨gs1, gs2⟩
  have Fi_InvalidRatio := fun_mk (st := s_InvalidRatio_init) elI_InvalidRatio ecI_InvalidRatio ekI_InvalidRatio
  have bI_InvalidRatio := Fi_InvalidRatio.binds (ps := ["self", "given"]) fun _ _ _ _ _ _ us hl => match us, hl with | [_, _], _ => rfl
  have Kls_InvalidRatio : Kls K mg C_InvalidRatio fI_InvalidRatio "InvalidRatio" := ⟨PySem.W.mg_of X G eg_InvalidRatio, ⟨⟨_, _, _, _, _, _, _, _, _, _, _, _, _, _, _, el_InvalidRatio, eb_InvalidRatio⟩, esa_InvalidRatio, ex_InvalidRatio, ety_InvalidRatio, ek_InvalidRatio⟩, ⟨ecl_InvalidRatio, ega_InvalidRatio, egg_InvalidRatio, ex_InvalidRatio, efc_InvalidRatio, eob_InvalidRatio⟩, ⟨⟨_, tk_InvalidRatio, el_InvalidRatio, rfl⟩, ety_InvalidRatio, erd_InvalidRatio, efdn_InvalidRatio⟩, ⟨ega_InvalidRatio, egg_InvalidRatio, ex_InvalidRatio, ehd_InvalidRatio⟩, enc_InvalidRatio, eini_InvalidRatio, etI_InvalidRatio⟩
  have nf_InvalidRatio := enf_InvalidRatio
  have RRE : RErr K C_InvalidRatio := ⟨rx_e, ⟨ega_InvalidRatio, egg_InvalidRatio, ex_InvalidRatio, ehd_InvalidRatio⟩, enc_InvalidRatio, enf_InvalidRatio⟩
  have NR : NoR K CR := ⟨nr_n, nr_i, nr_b, nr_s, nr_t, nr_l⟩
  have F__law_raised_ratio := fun_mk (st := s__law_raised_ratio) l__law_raised_ratio c__law_raised_ratio k__law_raised_ratio
  have b__law_raised_ratio := F__law_raised_ratio.binds (ps := ["_law_ask"]) fun _ _ _ _ _ _ us hl => match us, hl with | [_], _ => rfl
  have m__law_raised_ratio := PySem.W.mg_of X G a__law_raised_ratio
  have F__law_pair := fun_mk (st := s__law_pair) l__law_pair c__law_pair k__law_pair
  have b__law_pair := F__law_pair.binds (ps := ["_law_ratio"]) fun _ _ _ _ _ _ us hl => match us, hl with | [_], _ => rfl
  have m__law_pair := PySem.W.mg_of X G a__law_pair
  have Fi_InvalidView := fun_mk (st := s_InvalidView_init) elI_InvalidView ecI_InvalidView ekI_InvalidView
  have bI_InvalidView := Fi_InvalidView.binds (ps := ["self", "given"]) fun _ _ _ _ _ _ us hl => match us, hl with | [_, _], _ => rfl
  have Kls_InvalidView : Kls K mg C_InvalidView fI_InvalidView "InvalidView" := ⟨PySem.W.mg_of X G eg_InvalidView, ⟨⟨_, _, _, _, _, _, _, _, _, _, _, _, _, _, _, el_InvalidView, eb_InvalidView⟩, esa_InvalidView, ex_InvalidView, ety_InvalidView, ek_InvalidView⟩, ⟨ecl_InvalidView, ega_InvalidView, egg_InvalidView, ex_InvalidView, efc_InvalidView, eob_InvalidView⟩, ⟨⟨_, tk_InvalidView, el_InvalidView, rfl⟩, ety_InvalidView, erd_InvalidView, efdn_InvalidView⟩, ⟨ega_InvalidView, egg_InvalidView, ex_InvalidView, ehd_InvalidView⟩, enc_InvalidView, eini_InvalidView, etI_InvalidView⟩
  have nf_InvalidView := enf_InvalidView
  have g_C1 := PySem.W.mg_of X G e_C1
  have g_C2 := PySem.W.mg_of X G e_C2
  have g_C3 := PySem.W.mg_of X G e_C3
  have Err_InvalidView : ErrF K mg C_InvalidView "given" "InvalidView" [.ref C1, .ref C2, .ref C3] := ⟨⟨_, Kls_InvalidView⟩, nf_InvalidView, hx_InvalidView, fun v => fi_given (z := Str.ofString "InvalidView") (by decide +kernel) nf_InvalidView v⟩
  have Err_InvalidRatio : ErrF K mg C_InvalidRatio "given" "InvalidRatio" [.ref C1, .ref C2, .ref C3] := ⟨⟨_, Kls_InvalidRatio⟩, nf_InvalidRatio, hx_InvalidRatio, fun v => fi_given (z := Str.ofString "InvalidRatio") (by decide +kernel) nf_InvalidRatio v⟩
  have F_Ri := fund_mk1 (v := V.int 1) l_Ri c_Ri k_Ri t_Ri ⟨tk_Ri, rfl⟩
  have MR : Mk K CR f_Ri := ⟨R_mk, R_init, R_ifn, R_kp⟩
  obtain ⟨ds2, vs2, bR2⟩ := F_Ri.binds1 (ps := ["self", "top", "bottom"]) 3 1 (List.cons_ne_nil _ _) rfl fun _ _ _ _ _ _ _ us its hl1 hl2 => match us, its, hl1, hl2 with | [_, _, _], [_], _, _ => ⟨_, rfl, rfl⟩
  cases vs2
  obtain ⟨dsR, vR1, bR1⟩ := F_Ri.binds1 (ps := ["self", "top", "bottom"]) 2 0 (List.cons_ne_nil _ _) rfl fun _ _ _ _ _ _ _ us its hl1 hl2 => match us, its, hl1, hl2 with | [_, _], [_], _, _ => ⟨_, rfl, rfl⟩
  obtain ⟨_, kbR⟩ := F_Ri.kbindsD (ps := ["self", "top", "bottom"]) 1 ["bottom", "top"] (fun us _ ws => us ++ ws.reverse) (List.cons_ne_nil _ _) (fun r1 _ r3 => r1.append (Vals.reverse r3)) (fun _ _ _ _ _ _ _ us its ws h1 h2 h3 => match us, its, ws, h1, h2, h3 with | [_], [_], [_, _], _, _, _ => ⟨_, rfl, rfl⟩)
  have F__law_tries := fun_mk (st := s__law_tries) l__law_tries c__law_tries k__law_tries
  have b__law_tries := F__law_tries.binds (ps := ["_law_asks"]) fun _ _ _ _ _ _ us hl => match us, hl with | [_], _ => rfl
  have m__law_tries := PySem.W.mg_of X G a__law_tries
  have F__law_try := fun_mk (st := s__law_try) l__law_try c__law_try k__law_try
  have b__law_try := F__law_try.binds (ps := ["_law_ask"]) fun _ _ _ _ _ _ us hl => match us, hl with | [_], _ => rfl
  have m__law_try := PySem.W.mg_of X G a__law_try
  have F__law_field := fun_mk (st := s__law_field) l__law_field c__law_field k__law_field
  have b__law_field := F__law_field.binds (ps := ["_law_e"]) fun _ _ _ _ _ _ us hl => match us, hl with | [_], _ => rfl
  have m__law_field := PySem.W.mg_of X G a__law_field
  have F__law_same := fun_mk (st := s__law_same) l__law_same c__law_same k__law_same
  have b__law_same := F__law_same.binds (ps := ["_law_found", "_law_due"]) fun _ _ _ _ _ _ us hl => match us, hl with | [_, _], _ => rfl
  have m__law_same := PySem.W.mg_of X G a__law_same
  have F_is_string := fun_mk (st := s_is_string) l_is_string c_is_string k_is_string
  have b_is_string := F_is_string.binds (ps := ["value", "faces"]) fun _ _ _ _ _ _ us hl => match us, hl with | [_, _], _ => rfl
  have m_is_string := PySem.W.mg_of X G a_is_string
  have F_is_room := fun_mk (st := s_is_room) l_is_room c_is_room k_is_room
  have b_is_room := F_is_room.binds (ps := ["value", "faces"]) fun _ _ _ _ _ _ us hl => match us, hl with | [_, _], _ => rfl
  have m_is_room := PySem.W.mg_of X G a_is_room
  have F_check_room := fun_mk (st := s_check_room) l_check_room c_check_room k_check_room
  have b_check_room := F_check_room.binds (ps := ["book", "room"]) fun _ _ _ _ _ _ us hl => match us, hl with | [_, _], _ => rfl
  have m_check_room := PySem.W.mg_of X G a_check_room
  have F_is_letter := fun_mk (st := s_is_letter) l_is_letter c_is_letter k_is_letter
  have b_is_letter := F_is_letter.binds (ps := ["value", "letters"]) fun _ _ _ _ _ _ us hl => match us, hl with | [_, _], _ => rfl
  have m_is_letter := PySem.W.mg_of X G a_is_letter
  have F_is_integer := fun_mk (st := s_is_integer) l_is_integer c_is_integer k_is_integer
  have b_is_integer := F_is_integer.binds (ps := ["value"]) fun _ _ _ _ _ _ us hl => match us, hl with | [_], _ => rfl
  have m_is_integer := PySem.W.mg_of X G a_is_integer
  have F_is_place := fun_mk (st := s_is_place) l_is_place c_is_place k_is_place
  have b_is_place := F_is_place.binds (ps := ["top", "bottom"]) fun _ _ _ _ _ _ us hl => match us, hl with | [_, _], _ => rfl
  have m_is_place := PySem.W.mg_of X G a_is_place
  have F_is_placed_step := fun_mk (st := s_is_placed_step) l_is_placed_step c_is_placed_step k_is_placed_step
  have b_is_placed_step := F_is_placed_step.binds (ps := ["value", "floor", "cutters"]) fun _ _ _ _ _ _ us hl => match us, hl with | [_, _, _], _ => rfl
  have m_is_placed_step := PySem.W.mg_of X G a_is_placed_step
  have F_B_parts := fun_mk (st := s_Book_parts) l_B_parts c_B_parts k_B_parts
  have b_B_parts := F_B_parts.binds (ps := ["self", "room", "cutter"]) fun _ _ _ _ _ _ us hl => match us, hl with | [_, _, _], _ => rfl
  have mt_B_parts : Meth K CB "parts" f_B_parts := ⟨at_B_parts, fn_B_parts, k_B_parts⟩
  have F_B_cut := fun_mk (st := s_Book_cut) l_B_cut c_B_cut k_B_cut
  have b_B_cut := F_B_cut.binds (ps := ["self", "room", "cutter"]) fun _ _ _ _ _ _ us hl => match us, hl with | [_, _, _], _ => rfl
  have mt_B_cut : Meth K CB "cut" f_B_cut := ⟨at_B_cut, fn_B_cut, k_B_cut⟩
  have F_B_line_at := fun_mk (st := s_Book_line_at) l_B_line_at c_B_line_at k_B_line_at
  have b_B_line_at := F_B_line_at.binds (ps := ["self", "room", "cutter"]) fun _ _ _ _ _ _ us hl => match us, hl with | [_, _, _], _ => rfl
  have mt_B_line_at : Meth K CB "line_at" f_B_line_at := ⟨at_B_line_at, fn_B_line_at, k_B_line_at⟩
  have F_fits := fun_mk (st := s_fits) l_fits c_fits k_fits
  have b_fits := F_fits.binds (ps := ["line", "room", "cutter"]) fun _ _ _ _ _ _ us hl => match us, hl with | [_, _, _], _ => rfl
  have m_fits := PySem.W.mg_of X G a_fits
  have F_parts_of := fun_mk (st := s_parts_of) l_parts_of c_parts_of k_parts_of
  have b_parts_of := F_parts_of.binds (ps := ["room", "cut"]) fun _ _ _ _ _ _ us hl => match us, hl with | [_, _], _ => rfl
  have m_parts_of := PySem.W.mg_of X G a_parts_of
  have F_R_add := fun_mk (st := s_Ratio_add) l_R_add c_R_add k_R_add
  have b_R_add := F_R_add.binds (ps := ["self", "other"]) fun _ _ _ _ _ _ us hl => match us, hl with | [_, _], _ => rfl
  have gG := PySem.W.mg_of X G G_g
  have F_R_sub := fun_mk (st := s_Ratio_sub) l_R_sub c_R_sub k_R_sub
  have b_R_sub := F_R_sub.binds (ps := ["self", "other"]) fun _ _ _ _ _ _ us hl => match us, hl with | [_, _], _ => rfl
  have F_R_mul := fun_mk (st := s_Ratio_mul) l_R_mul c_R_mul k_R_mul
  have b_R_mul := F_R_mul.binds (ps := ["self", "other"]) fun _ _ _ _ _ _ us hl => match us, hl with | [_, _], _ => rfl
  have F_boxes_at := fun_mk (st := s_boxes_at) l_boxes_at c_boxes_at k_boxes_at
  have b_boxes_at := F_boxes_at.binds (ps := ["box", "sign", "place"]) fun _ _ _ _ _ _ us hl => match us, hl with | [_, _, _], _ => rfl
  have m_boxes_at := PySem.W.mg_of X G a_boxes_at
  have F_lay := fun_mk (st := s_lay) l_lay c_lay k_lay
  have b_lay := F_lay.binds (ps := ["book", "floor", "step"]) fun _ _ _ _ _ _ us hl => match us, hl with | [_, _, _], _ => rfl
  have m_lay := PySem.W.mg_of X G a_lay
  have F_laid := fun_mk (st := s_laid) l_laid c_laid k_laid
  have b_laid := F_laid.binds (ps := ["book", "start", "steps"]) fun _ _ _ _ _ _ us hl => match us, hl with | [_, _, _], _ => rfl
  have m_laid := PySem.W.mg_of X G a_laid
  have F_floor_behind := fun_mk (st := s_floor_behind) l_floor_behind c_floor_behind k_floor_behind
  have b_floor_behind := F_floor_behind.binds (ps := ["book", "start", "steps"]) fun _ _ _ _ _ _ us hl => match us, hl with | [_, _, _], _ => rfl
  have m_floor_behind := PySem.W.mg_of X G a_floor_behind
  have F_check_walk := fun_mk (st := s_check_walk) l_check_walk c_check_walk k_check_walk
  have b_check_walk := F_check_walk.binds (ps := ["view"]) fun _ _ _ _ _ _ us hl => match us, hl with | [_], _ => rfl
  have m_check_walk := PySem.W.mg_of X G a_check_walk
  have s_tA : ∀ H, SqT K H tA [.int 1, .int 3] := fun H => .inr ⟨_, _, _, X_tA, rfl, rfl, (show 2 ≤ sizeLine by decide), .cons ⟨_, rfl⟩ (.cons ⟨_, rfl⟩ .nil)⟩
  have s_tD : ∀ H, SqT K H tD [.int 0, .int 2] := fun H => .inr ⟨_, _, _, X_tD, rfl, rfl, (show 2 ≤ sizeLine by decide), .cons ⟨_, rfl⟩ (.cons ⟨_, rfl⟩ .nil)⟩
  have SXT : SidesT K w mg sX tA tD := ⟨PySem.W.mg_of X G X_g, ⟨_, _, _, X_e, X_h, X_vA, rfl⟩, ⟨_, _, _, X_e, X_h, X_vD, rfl⟩, s_tA, s_tD⟩
  have F_R_eq := fun_mk (st := s_Ratio_eq) l_R_eq c_R_eq k_R_eq
  have b_R_eq := F_R_eq.binds (ps := ["self", "other"]) fun _ _ _ _ _ _ us hl => match us, hl with | [_, _], _ => rfl
  have F_R_is_below := fun_mk (st := s_Ratio_is_below) l_R_is_below c_R_is_below k_R_is_below
  have b_R_is_below := F_R_is_below.binds (ps := ["self", "other"]) fun _ _ _ _ _ _ us hl => match us, hl with | [_, _], _ => rfl
  have mt_R_is_below : Meth K CR "is_below" f_R_is_below := ⟨at_R_is_below, fn_R_is_below, k_R_is_below⟩
  have F_walk_in := fun_mk (st := s_walk_in) l_walk_in c_walk_in k_walk_in
  have b_walk_in := F_walk_in.binds (ps := ["floor", "view", "at"]) fun _ _ _ _ _ _ us hl => match us, hl with | [_, _, _], _ => rfl
  have m_walk_in := PySem.W.mg_of X G a_walk_in
  have F_walk_at := fun_mk (st := s_walk_at) l_walk_at c_walk_at k_walk_at
  have b_walk_at := F_walk_at.binds (ps := ["book", "start", "steps", "view", "at"]) fun _ _ _ _ _ _ us hl => match us, hl with | [_, _, _, _, _], _ => rfl
  have m_walk_at := PySem.W.mg_of X G a_walk_at
  have F__law_draw := fun_mk (st := s__law_draw) l__law_draw c__law_draw k__law_draw
  have b__law_draw := F__law_draw.binds (ps := ["_law_bag", "_law_many"]) fun _ _ _ _ _ _ us hl => match us, hl with | [_, _], _ => rfl
  have m__law_draw := PySem.W.mg_of X G a__law_draw
  have F__law_of := fun_mk (st := s__law_of) l__law_of c__law_of k__law_of
  have b__law_of := F__law_of.binds (ps := ["_law_bag", "_law_things"]) fun _ _ _ _ _ _ us hl => match us, hl with | [_, _], _ => rfl
  have m__law_of := PySem.W.mg_of X G a__law_of
  have F__law_top := fun_mk (st := s__law_top) l__law_top c__law_top k__law_top
  have b__law_top := F__law_top.binds (ps := ["_law_one", "_law_other"]) fun _ _ _ _ _ _ us hl => match us, hl with | [_, _], _ => rfl
  have m__law_top := PySem.W.mg_of X G a__law_top
  have F__law_low := fun_mk (st := s__law_low) l__law_low c__law_low k__law_low
  have b__law_low := F__law_low.binds (ps := ["_law_top_here", "_law_bottom"]) fun _ _ _ _ _ _ us hl => match us, hl with | [_, _], _ => rfl
  have m__law_low := PySem.W.mg_of X G a__law_low
  have F__law_below := fun_mk (st := s__law_below) l__law_below c__law_below k__law_below
  have b__law_below := F__law_below.binds (ps := ["_law_one", "_law_other"]) fun _ _ _ _ _ _ us hl => match us, hl with | [_, _], _ => rfl
  have m__law_below := PySem.W.mg_of X G a__law_below
  have F__law_some_place := fun_mk (st := s__law_some_place) l__law_some_place c__law_some_place k__law_some_place
  have b__law_some_place := F__law_some_place.binds (ps := ["_law_bag"]) fun _ _ _ _ _ _ us hl => match us, hl with | [_], _ => rfl
  have m__law_some_place := PySem.W.mg_of X G a__law_some_place
  have F__law_split := fun_mk (st := s__law_split) l__law_split c__law_split k__law_split
  have b__law_split := F__law_split.binds (ps := ["_law_room", "_law_cut_here"]) fun _ _ _ _ _ _ us hl => match us, hl with | [_, _], _ => rfl
  have m__law_split := PySem.W.mg_of X G a__law_split
  have F__law_fits := fun_mk (st := s__law_fits) l__law_fits c__law_fits k__law_fits
  have b__law_fits := F__law_fits.binds (ps := ["_law_line", "_law_room", "_law_cutter"]) fun _ _ _ _ _ _ us hl => match us, hl with | [_, _, _], _ => rfl
  have m__law_fits := PySem.W.mg_of X G a__law_fits
  have F__law_line_at := fun_mk (st := s__law_line_at) l__law_line_at c__law_line_at k__law_line_at
  have b__law_line_at := F__law_line_at.binds (ps := ["_law_spec", "_law_room", "_law_cutter"]) fun _ _ _ _ _ _ us hl => match us, hl with | [_, _, _], _ => rfl
  have m__law_line_at := PySem.W.mg_of X G a__law_line_at
  have F__law_cut := fun_mk (st := s__law_cut) l__law_cut c__law_cut k__law_cut
  have b__law_cut := F__law_cut.binds (ps := ["_law_spec", "_law_room", "_law_cutter"]) fun _ _ _ _ _ _ us hl => match us, hl with | [_, _, _], _ => rfl
  have m__law_cut := PySem.W.mg_of X G a__law_cut
  have F__law_parts := fun_mk (st := s__law_parts) l__law_parts c__law_parts k__law_parts
  have b__law_parts := F__law_parts.binds (ps := ["_law_spec", "_law_room", "_law_cutter"]) fun _ _ _ _ _ _ us hl => match us, hl with | [_, _, _], _ => rfl
  have m__law_parts := PySem.W.mg_of X G a__law_parts
  have F__law_add := fun_mk (st := s__law_add) l__law_add c__law_add k__law_add
  have b__law_add := F__law_add.binds (ps := ["_law_one", "_law_other"]) fun _ _ _ _ _ _ us hl => match us, hl with | [_, _], _ => rfl
  have m__law_add := PySem.W.mg_of X G a__law_add
  have F__law_times := fun_mk (st := s__law_times) l__law_times c__law_times k__law_times
  have b__law_times := F__law_times.binds (ps := ["_law_one", "_law_other"]) fun _ _ _ _ _ _ us hl => match us, hl with | [_, _], _ => rfl
  have m__law_times := PySem.W.mg_of X G a__law_times
  have F__law_on_way := fun_mk (st := s__law_on_way) l__law_on_way c__law_on_way k__law_on_way
  have b__law_on_way := F__law_on_way.binds (ps := ["_law_low_here", "_law_high", "_law_top_here", "_law_bottom"]) fun _ _ _ _ _ _ us hl => match us, hl with | [_, _, _, _], _ => rfl
  have m__law_on_way := PySem.W.mg_of X G a__law_on_way
  have F__law_cut_box := fun_mk (st := s__law_cut_box) l__law_cut_box c__law_cut_box k__law_cut_box
  have b__law_cut_box := F__law_cut_box.binds (ps := ["_law_spec", "_law_boxes", "_law_step"]) fun _ _ _ _ _ _ us hl => match us, hl with | [_, _, _], _ => rfl
  have m__law_cut_box := PySem.W.mg_of X G a__law_cut_box
  have F__law_some_placed := fun_mk (st := s__law_some_placed) l__law_some_placed c__law_some_placed k__law_some_placed
  have b__law_some_placed := F__law_some_placed.binds (ps := ["_law_bag", "_law_spec", "_law_start_z", "_law_many"]) fun _ _ _ _ _ _ us hl => match us, hl with | [_, _, _, _], _ => rfl
  have m__law_some_placed := PySem.W.mg_of X G a__law_some_placed
  have F__law_some_room := fun_mk (st := s__law_some_room) l__law_some_room c__law_some_room k__law_some_room
  have b__law_some_room := F__law_some_room.binds (ps := ["_law_bag", "_law_faces"]) fun _ _ _ _ _ _ us hl => match us, hl with | [_, _], _ => rfl
  have m__law_some_room := PySem.W.mg_of X G a__law_some_room
  have F_Bi := fun_mk (st := s_Book_init) l_Bi c_Bi k_Bi
  have M : Mk K CB f_Bi := ⟨B_mk, B_init, B_ifn, B_kp⟩
  have g__LOWER := PySem.W.mg_of X G z__LOWER
  have g__MOST_FACES := PySem.W.mg_of X G z__MOST_FACES
  have F_is_ascending := fun_mk (st := s_is_ascending) l_is_ascending c_is_ascending k_is_ascending
  have b_is_ascending := F_is_ascending.binds (ps := ["text"]) fun _ _ _ _ _ _ us hl => match us, hl with | [_], _ => rfl
  have m_is_ascending := PySem.W.mg_of X G a_is_ascending
  have F_is_choice := fun_mk (st := s_is_choice) l_is_choice c_is_choice k_is_choice
  have b_is_choice := F_is_choice.binds (ps := ["value", "letters", "most"]) fun _ _ _ _ _ _ us hl => match us, hl with | [_, _, _], _ => rfl
  have m_is_choice := PySem.W.mg_of X G a_is_choice
  have F_is_faces := fun_mk (st := s_is_faces) l_is_faces c_is_faces k_is_faces
  have b_is_faces := F_is_faces.binds (ps := ["value"]) fun _ _ _ _ _ _ us hl => match us, hl with | [_], _ => rfl
  have m_is_faces := PySem.W.mg_of X G a_is_faces
  have g__UPPER := PySem.W.mg_of X G z__UPPER
  have g__MOST_CUTTERS := PySem.W.mg_of X G z__MOST_CUTTERS
  have F_is_cutters := fun_mk (st := s_is_cutters) l_is_cutters c_is_cutters k_is_cutters
  have b_is_cutters := F_is_cutters.binds (ps := ["value"]) fun _ _ _ _ _ _ us hl => match us, hl with | [_], _ => rfl
  have m_is_cutters := PySem.W.mg_of X G a_is_cutters
  have F_is_part := fun_mk (st := s_is_part) l_is_part c_is_part k_is_part
  have b_is_part := F_is_part.binds (ps := ["value", "letters"]) fun _ _ _ _ _ _ us hl => match us, hl with | [_, _], _ => rfl
  have m_is_part := PySem.W.mg_of X G a_is_part
  have F_is_cut := fun_mk (st := s_is_cut) l_is_cut c_is_cut k_is_cut
  have b_is_cut := F_is_cut.binds (ps := ["value", "faces"]) fun _ _ _ _ _ _ us hl => match us, hl with | [_, _], _ => rfl
  have m_is_cut := PySem.W.mg_of X G a_is_cut
  have F_is_line := fun_mk (st := s_is_line) l_is_line c_is_line k_is_line
  have b_is_line := F_is_line.binds (ps := ["value", "faces", "cutters"]) fun _ _ _ _ _ _ us hl => match us, hl with | [_, _, _], _ => rfl
  have m_is_line := PySem.W.mg_of X G a_is_line
  have F_head_of := fun_mk (st := s_head_of) l_head_of c_head_of k_head_of
  have b_head_of := F_head_of.binds (ps := ["row"]) fun _ _ _ _ _ _ us hl => match us, hl with | [_], _ => rfl
  have m_head_of := PySem.W.mg_of X G a_head_of
  have F_line_of := fun_mk (st := s_line_of) l_line_of c_line_of k_line_of
  have b_line_of := F_line_of.binds (ps := ["row", "faces", "cutters"]) fun _ _ _ _ _ _ us hl => match us, hl with | [_, _, _], _ => rfl
  have m_line_of := PySem.W.mg_of X G a_line_of
  have F_B_read := fun_mk (st := s_Book_read) l_B_read c_B_read k_B_read
  have b_B_read := F_B_read.binds (ps := ["text"]) fun _ _ _ _ _ _ us hl => match us, hl with | [_], _ => rfl
  have SR : Sta K CB "read" f_B_read := ⟨B_rd, ⟨_, _, S_fd, S_rc⟩, B_sg, k_B_read⟩
  have bR := b_B_read
  have F__law_line_text := fun_mk (st := s__law_line_text) l__law_line_text c__law_line_text k__law_line_text
  have b__law_line_text := F__law_line_text.binds (ps := ["_law_line"]) fun _ _ _ _ _ _ us hl => match us, hl with | [_], _ => rfl
  have m__law_line_text := PySem.W.mg_of X G a__law_line_text
  have F__law_book_text := fun_mk (st := s__law_book_text) l__law_book_text c__law_book_text k__law_book_text
  have b__law_book_text := F__law_book_text.binds (ps := ["_law_spec"]) fun _ _ _ _ _ _ us hl => match us, hl with | [_], _ => rfl
  have m__law_book_text := PySem.W.mg_of X G a__law_book_text
  have F__law_book := fun_mk (st := s__law_book) l__law_book c__law_book k__law_book
  have b__law_book := F__law_book.binds (ps := ["_law_spec"]) fun _ _ _ _ _ _ us hl => match us, hl with | [_], _ => rfl
  have m__law_book := PySem.W.mg_of X G a__law_book
  have F__law_part := fun_mk (st := s__law_part) l__law_part c__law_part k__law_part
  have b__law_part := F__law_part.binds (ps := ["_law_bag", "_law_letters_here"]) fun _ _ _ _ _ _ us hl => match us, hl with | [_, _], _ => rfl
  have m__law_part := PySem.W.mg_of X G a__law_part
  have F__law_some_cut := fun_mk (st := s__law_some_cut) l__law_some_cut c__law_some_cut k__law_some_cut
  have b__law_some_cut := F__law_some_cut.binds (ps := ["_law_bag", "_law_faces"]) fun _ _ _ _ _ _ us hl => match us, hl with | [_, _], _ => rfl
  have m__law_some_cut := PySem.W.mg_of X G a__law_some_cut
  have F__law_letters := fun_mk (st := s__law_letters) l__law_letters c__law_letters k__law_letters
  have b__law_letters := F__law_letters.binds (ps := ["_law_bag", "_law_letters_here", "_law_many"]) fun _ _ _ _ _ _ us hl => match us, hl with | [_, _, _], _ => rfl
  have m__law_letters := PySem.W.mg_of X G a__law_letters
  have F__law_some_faces := fun_mk (st := s__law_some_faces) l__law_some_faces c__law_some_faces k__law_some_faces
  have b__law_some_faces := F__law_some_faces.binds (ps := ["_law_bag", "_law_most"]) fun _ _ _ _ _ _ us hl => match us, hl with | [_, _], _ => rfl
  have m__law_some_faces := PySem.W.mg_of X G a__law_some_faces
  have F__law_some_cutters := fun_mk (st := s__law_some_cutters) l__law_some_cutters c__law_some_cutters k__law_some_cutters
  have b__law_some_cutters := F__law_some_cutters.binds (ps := ["_law_bag", "_law_most"]) fun _ _ _ _ _ _ us hl => match us, hl with | [_, _], _ => rfl
  have m__law_some_cutters := PySem.W.mg_of X G a__law_some_cutters
  have F__law_some_line := fun_mk (st := s__law_some_line) l__law_some_line c__law_some_line k__law_some_line
  have b__law_some_line := F__law_some_line.binds (ps := ["_law_bag", "_law_faces", "_law_cutters"]) fun _ _ _ _ _ _ us hl => match us, hl with | [_, _, _], _ => rfl
  have m__law_some_line := PySem.W.mg_of X G a__law_some_line
  have F__law_some_book := fun_mk (st := s__law_some_book) l__law_some_book c__law_some_book k__law_some_book
  have b__law_some_book := F__law_some_book.binds (ps := ["_law_bag", "_law_sizes"]) fun _ _ _ _ _ _ us hl => match us, hl with | [_, _], _ => rfl
  have m__law_some_book := PySem.W.mg_of X G a__law_some_book
  have F__law_open := fun_mk (st := s__law_open) l__law_open c__law_open k__law_open
  have b__law_open := F__law_open.binds (ps := ["_law_script"]) fun _ _ _ _ _ _ us hl => match us, hl with | [_], _ => rfl
  have m__law_open := PySem.W.mg_of X G a__law_open
  refine ⟨PySem.W.fnOf "law" "law" (defArgs s_law) (defBody s_law) (defScope s_law) .none kV_law dc_law pm_law an_law (.ref c) ct_law, fun s v => .of_eq rfl, fun base _ _ TB => ?_⟩
  have FI_InvalidRatio := ok_InvalidRatio_init (P := l.prog) (w := w) (mg := mg) (base := base) Fi_InvalidRatio GS
  have FPW : ∀ b2, FnW l.prog w K mg b2 1 f__law_pair _ ["_law_ratio"] (sp__law_pair K CR) := fun b2 => okw__law_pair (P := l.prog) (w := w) (mg := mg) (base := b2) F__law_pair RC
  have FI_InvalidView := ok_InvalidView_init (P := l.prog) (w := w) (mg := mg) (base := base) Fi_InvalidView GS
  have g0 : Cal l.prog w K mg base CX0 1 "_law_same" s__law_same ["_law_found", "_law_due"] (fun _ _ _ _ => False) := ⟨_, _, nk_false, m__law_same, F__law_same, b__law_same⟩
  have g1 : Cal l.prog w K mg base CX0 2 "_law_same" s__law_same ["_law_found", "_law_due"] (sp__law_same K 0) := ⟨_, _, ok__law_same_step (n := 0) F__law_same T g0 (fun m _ _ _ _ e => absurd e (Nat.succ_ne_zero m).symm), m__law_same, F__law_same, b__law_same⟩
  have g2 : Cal l.prog w K mg base CX0 3 "_law_same" s__law_same ["_law_found", "_law_due"] (sp__law_same K 1) := ⟨_, _, ok__law_same_step (n := 1) F__law_same T g1 (fun m _ _ _ _ e h => by cases e; exact h), m__law_same, F__law_same, b__law_same⟩
  have g3 : Cal l.prog w K mg base CX0 4 "_law_same" s__law_same ["_law_found", "_law_due"] (sp__law_same K 2) := ⟨_, _, ok__law_same_step (n := 2) F__law_same T g2 (fun m _ _ _ _ e h => by cases e; exact h), m__law_same, F__law_same, b__law_same⟩
  have g4 : Cal l.prog w K mg base CX0 5 "_law_same" s__law_same ["_law_found", "_law_due"] (sp__law_same K 3) := ⟨_, _, ok__law_same_step (n := 3) F__law_same T g3 (fun m _ _ _ _ e h => by cases e; exact h), m__law_same, F__law_same, b__law_same⟩
  have c__law_same : Cal l.prog w K mg base CX0 6 "_law_same" s__law_same ["_law_found", "_law_due"] (sp__law_same K 4) := ⟨_, _, ok__law_same_step (n := 4) F__law_same T g4 (fun m _ _ _ _ e h => by cases e; exact h), m__law_same, F__law_same, b__law_same⟩
  have c_is_string : Cal l.prog w K mg base CX0 1 "is_string" s_is_string _ _ := ⟨_, _, ok_is_string F_is_string T, m_is_string, F_is_string, b_is_string⟩
  have c_is_room : Cal l.prog w K mg base CX0 2 "is_room" s_is_room _ _ := ⟨_, _, ok_is_room F_is_room T c_is_string, m_is_room, F_is_room, b_is_room⟩
  have c_check_room : Cal l.prog w K mg base CX0 3 "check_room" s_check_room _ _ := ⟨_, _, ok_check_room F_check_room BC c_is_room, m_check_room, F_check_room, b_check_room⟩
  have c_is_letter : Cal l.prog w K mg base CX0 1 "is_letter" s_is_letter _ _ := ⟨_, _, ok_is_letter F_is_letter T, m_is_letter, F_is_letter, b_is_letter⟩
  have c_is_integer : Cal l.prog w K mg base CX0 1 "is_integer" s_is_integer _ _ := ⟨_, _, ok_is_integer F_is_integer T, m_is_integer, F_is_integer, b_is_integer⟩
  have c_is_place : Cal l.prog w K mg base CX0 2 "is_place" s_is_place _ _ := ⟨_, _, ok_is_place F_is_place c_is_integer, m_is_place, F_is_place, b_is_place⟩
  have c_is_placed_step : Cal l.prog w K mg base CX0 3 "is_placed_step" s_is_placed_step _ _ := ⟨_, _, ok_is_placed_step F_is_placed_step T c_is_letter c_is_place, m_is_placed_step, F_is_placed_step, b_is_placed_step⟩
  have c_fits : Cal l.prog w K mg base CX0 1 "fits" s_fits _ _ := ⟨_, _, ok_fits F_fits T, m_fits, F_fits, b_fits⟩
  have ok_B_line_at := ok_Book_line_at (P := l.prog) (w := w) (mg := mg) (base := base) F_B_line_at T BC c_is_room c_is_letter c_fits
  have cm_B_line_at : MCal l.prog w K mg base CX0 CB 3 "line_at" _ _ := ⟨_, _, mt_B_line_at, ok_B_line_at, b_B_line_at⟩
  have c_line_at := cm_B_line_at
  have ok_B_cut := ok_Book_cut (P := l.prog) (w := w) (mg := mg) (base := base) F_B_cut BC mt_B_line_at ok_B_line_at b_B_line_at
  have cm_B_cut : MCal l.prog w K mg base CX0 CB 4 "cut" _ _ := ⟨_, _, mt_B_cut, ok_B_cut, b_B_cut⟩
  have c_cut := cm_B_cut
  have c_parts_of : Cal l.prog w K mg base CX0 1 "parts_of" s_parts_of _ _ := ⟨_, _, ok_parts_of F_parts_of, m_parts_of, F_parts_of, b_parts_of⟩
  have ok_B_parts := ok_Book_parts (P := l.prog) (w := w) (mg := mg) (base := base) F_B_parts BC cm_B_cut c_parts_of
  have cm_B_parts : MCal l.prog w K mg base CX0 CB 5 "parts" _ _ := ⟨_, _, mt_B_parts, ok_B_parts, b_B_parts⟩
  have c_parts := cm_B_parts
  have FRat := ok_Ratio_init (P := l.prog) (w := w) (mg := mg) (base := base) F_Ri T RC gG c_is_integer
  have o_add : OwnB l.prog w K mg base CR .Add 4 (sp_Ratio_op K CR gAdd) := ⟨⟨f_R_add, at_R_add, fn_R_add, ((ok_Ratio_add (P := l.prog) (w := w) (mg := mg) (base := base) F_R_add T RC RE gR MR FRat bR2).raw b_R_add .nil).imp fun vs H Q E h => by rw [List.append_nil]; exact h⟩, R_sf⟩
  have o_sub : OwnB l.prog w K mg base CR .Sub 4 (sp_Ratio_op K CR gSub) := ⟨⟨f_R_sub, at_R_sub, fn_R_sub, ((ok_Ratio_sub (P := l.prog) (w := w) (mg := mg) (base := base) F_R_sub T RC RE gR MR FRat bR2).raw b_R_sub .nil).imp fun vs H Q E h => by rw [List.append_nil]; exact h⟩, R_sf⟩
  have o_mul : OwnB l.prog w K mg base CR .Mult 4 (sp_Ratio_op K CR gMul) := ⟨⟨f_R_mul, at_R_mul, fn_R_mul, ((ok_Ratio_mul (P := l.prog) (w := w) (mg := mg) (base := base) F_R_mul T RC RE gR MR FRat bR2).raw b_R_mul .nil).imp fun vs H Q E h => by rw [List.append_nil]; exact h⟩, R_sf⟩
  have c_boxes_at : Cal l.prog w K mg base CX0 5 "boxes_at" s_boxes_at _ _ := ⟨_, _, ok_boxes_at F_boxes_at o_add o_sub o_mul, m_boxes_at, F_boxes_at, b_boxes_at⟩
  have c_lay : Cal l.prog w K mg base CX0 6 "lay" s_lay _ _ := ⟨_, _, ok_lay F_lay T BC cm_B_parts cm_B_cut c_boxes_at gR MR FRat bR2, m_lay, F_lay, b_lay⟩
  have c_laid : Cal l.prog w K mg base CX0 7 "laid" s_laid _ _ := ⟨_, _, ok_laid F_laid T BC c_is_placed_step c_lay gR MR FRat bR1 vR1, m_laid, F_laid, b_laid⟩
  have c_floor_behind : Cal l.prog w K mg base CX0 8 "floor_behind" s_floor_behind _ _ := ⟨_, _, ok_floor_behind F_floor_behind T c_check_room c_laid, m_floor_behind, F_floor_behind, b_floor_behind⟩
  have cx_check_walk : Cal l.prog w K mg base (L2.CX l.prog w) 3 "check_walk" s_check_walk _ _ := ⟨_, _, okx_check_walk F_check_walk Kls_InvalidView nf_InvalidView FI_InvalidView bI_InvalidView c_is_letter, m_check_walk, F_check_walk, b_check_walk⟩
  have o_eqR : OwnE l.prog w K mg base CR 1 (sp_Ratio_eq K CR) := ⟨⟨f_R_eq, at_R_eq, fn_R_eq, ((ok_Ratio_eq (P := l.prog) (w := w) (mg := mg) (base := base) F_R_eq T gR RC RE).raw b_R_eq .nil).imp fun vs H Q E h => by rw [List.append_nil]; exact h⟩, R_ne, R_cm, R_nf1⟩
  have ok_R_is_below := ok_Ratio_is_below (P := l.prog) (w := w) (mg := mg) (base := base) F_R_is_below RC
  have cm_R_is_below : MCal l.prog w K mg base CX0 CR 1 "is_below" _ _ := ⟨_, _, mt_R_is_below, ok_R_is_below, b_R_is_below⟩
  have c_is_below := cm_R_is_below
  have cx_walk_in : Cal l.prog w K mg base (L2.CX l.prog w) 4 "walk_in" s_walk_in _ _ := ⟨_, _, okx_walk_in F_walk_in T SXT RC RE gR MR FRat bR1 vR1 o_eqR cm_R_is_below Kls_InvalidRatio nf_InvalidRatio FI_InvalidRatio bI_InvalidRatio, m_walk_in, F_walk_in, b_walk_in⟩
  have cx_walk_at : Cal l.prog w K mg base (L2.CX l.prog w) 9 "walk_at" s_walk_at _ _ := ⟨_, _, okx_walk_at F_walk_at c_floor_behind cx_check_walk cx_walk_in, m_walk_at, F_walk_at, b_walk_at⟩
  have c__law_draw : Cal l.prog w K mg base CX0 1 "_law_draw" s__law_draw _ _ := ⟨_, _, ok__law_draw F__law_draw T, m__law_draw, F__law_draw, b__law_draw⟩
  have c__law_of : Cal l.prog w K mg base CX0 2 "_law_of" s__law_of _ _ := ⟨_, _, ok__law_of F__law_of T c__law_draw, m__law_of, F__law_of, b__law_of⟩
  have c__law_top : Cal l.prog w K mg base CX0 1 "_law_top" s__law_top _ _ := ⟨_, _, ok__law_top F__law_top T, m__law_top, F__law_top, b__law_top⟩
  have c__law_low : Cal l.prog w K mg base CX0 2 "_law_low" s__law_low _ _ := ⟨_, _, ok__law_low F__law_low T c__law_top, m__law_low, F__law_low, b__law_low⟩
  have c__law_below : Cal l.prog w K mg base CX0 1 "_law_below" s__law_below _ _ := ⟨_, _, ok__law_below F__law_below, m__law_below, F__law_below, b__law_below⟩
  have c__law_some_place : Cal l.prog w K mg base CX0 3 "_law_some_place" s__law_some_place _ _ := ⟨_, _, ok__law_some_place F__law_some_place T c__law_draw c__law_of, m__law_some_place, F__law_some_place, b__law_some_place⟩
  have c__law_split : Cal l.prog w K mg base CX0 1 "_law_split" s__law_split _ _ := ⟨_, _, ok__law_split F__law_split, m__law_split, F__law_split, b__law_split⟩
  have c__law_fits : Cal l.prog w K mg base CX0 1 "_law_fits" s__law_fits _ _ := ⟨_, _, ok__law_fits F__law_fits T, m__law_fits, F__law_fits, b__law_fits⟩
  have c__law_line_at : Cal l.prog w K mg base CX0 2 "_law_line_at" s__law_line_at _ _ := ⟨_, _, ok__law_line_at F__law_line_at T c__law_fits, m__law_line_at, F__law_line_at, b__law_line_at⟩
  have c__law_cut : Cal l.prog w K mg base CX0 3 "_law_cut" s__law_cut _ _ := ⟨_, _, ok__law_cut F__law_cut c__law_line_at, m__law_cut, F__law_cut, b__law_cut⟩
  have c__law_parts : Cal l.prog w K mg base CX0 4 "_law_parts" s__law_parts _ _ := ⟨_, _, ok__law_parts F__law_parts c__law_split c__law_cut, m__law_parts, F__law_parts, b__law_parts⟩
  have c__law_add : Cal l.prog w K mg base CX0 3 "_law_add" s__law_add _ _ := ⟨_, _, ok__law_add F__law_add T c__law_low, m__law_add, F__law_add, b__law_add⟩
  have c__law_times : Cal l.prog w K mg base CX0 3 "_law_times" s__law_times _ _ := ⟨_, _, ok__law_times F__law_times T c__law_low, m__law_times, F__law_times, b__law_times⟩
  have c__law_on_way : Cal l.prog w K mg base CX0 4 "_law_on_way" s__law_on_way _ _ := ⟨_, _, ok__law_on_way F__law_on_way c__law_add c__law_times, m__law_on_way, F__law_on_way, b__law_on_way⟩
  have c__law_cut_box : Cal l.prog w K mg base CX0 5 "_law_cut_box" s__law_cut_box _ _ := ⟨_, _, ok__law_cut_box F__law_cut_box T c__law_parts c__law_cut c__law_on_way, m__law_cut_box, F__law_cut_box, b__law_cut_box⟩
  have c__law_some_placed : Cal l.prog w K mg base CX0 6 "_law_some_placed" s__law_some_placed _ _ := ⟨_, _, ok__law_some_placed F__law_some_placed T c__law_of c__law_some_place c__law_cut_box, m__law_some_placed, F__law_some_placed, b__law_some_placed⟩
  have c__law_some_room : Cal l.prog w K mg base CX0 3 "_law_some_room" s__law_some_room _ _ := ⟨_, _, ok__law_some_room F__law_some_room c__law_of, m__law_some_room, F__law_some_room, b__law_some_room⟩
  have c_is_ascending : Cal l.prog w K mg base CX0 1 "is_ascending" s_is_ascending _ _ := ⟨_, _, ok_is_ascending F_is_ascending T, m_is_ascending, F_is_ascending, b_is_ascending⟩
  have c_is_choice : Cal l.prog w K mg base CX0 2 "is_choice" s_is_choice _ _ := ⟨_, _, ok_is_choice F_is_choice T c_is_string c_is_ascending, m_is_choice, F_is_choice, b_is_choice⟩
  have c_is_faces : Cal l.prog w K mg base CX0 3 "is_faces" s_is_faces _ _ := ⟨_, _, ok_is_faces F_is_faces g__LOWER g__MOST_FACES c_is_choice, m_is_faces, F_is_faces, b_is_faces⟩
  have c_is_cutters : Cal l.prog w K mg base CX0 3 "is_cutters" s_is_cutters _ _ := ⟨_, _, ok_is_cutters F_is_cutters g__UPPER g__MOST_CUTTERS c_is_choice, m_is_cutters, F_is_cutters, b_is_cutters⟩
  have c_is_part : Cal l.prog w K mg base CX0 3 "is_part" s_is_part _ _ := ⟨_, _, ok_is_part F_is_part T c_is_letter c_is_choice, m_is_part, F_is_part, b_is_part⟩
  have c_is_cut : Cal l.prog w K mg base CX0 2 "is_cut" s_is_cut _ _ := ⟨_, _, ok_is_cut F_is_cut T c_is_string, m_is_cut, F_is_cut, b_is_cut⟩
  have c_is_line : Cal l.prog w K mg base CX0 4 "is_line" s_is_line _ _ := ⟨_, _, ok_is_line F_is_line T c_is_part c_is_cut, m_is_line, F_is_line, b_is_line⟩
  have FB := fn_Book_init (P := l.prog) (w := w) (mg := mg) (base := base) F_Bi T gB rC vM c_is_faces c_is_cutters c_is_line
  have c_head_of : Cal l.prog w K mg base CX0 4 "head_of" s_head_of _ _ := ⟨_, _, ok_head_of F_head_of T c_is_faces c_is_cutters, m_head_of, F_head_of, b_head_of⟩
  have c_line_of : Cal l.prog w K mg base CX0 5 "line_of" s_line_of _ _ := ⟨_, _, ok_line_of F_line_of T c_is_line, m_line_of, F_line_of, b_line_of⟩
  have FR := ok_Book_read (P := l.prog) (w := w) (mg := mg) (base := base) F_B_read T gB rC vM M hC nf nc nl FB c_head_of c_line_of
  have c_read : SCal l.prog w K mg base CX0 "Book" CB 8 "read" s_Book_read _ _ := ⟨gB, ⟨_, _, _, SR, FR, bR, F_B_read⟩⟩
  have c__law_line_text : Cal l.prog w K mg base CX0 1 "_law_line_text" s__law_line_text _ _ := ⟨_, _, ok__law_line_text F__law_line_text T, m__law_line_text, F__law_line_text, b__law_line_text⟩
  have c__law_book_text : Cal l.prog w K mg base CX0 2 "_law_book_text" s__law_book_text _ _ := ⟨_, _, ok__law_book_text F__law_book_text T c__law_line_text, m__law_book_text, F__law_book_text, b__law_book_text⟩
  have c__law_book : Cal l.prog w K mg base CX0 9 "_law_book" s__law_book _ _ := ⟨_, _, ok__law_book F__law_book T gB SR FR bR c__law_book_text, m__law_book, F__law_book, b__law_book⟩
  have c__law_part : Cal l.prog w K mg base CX0 2 "_law_part" s__law_part _ _ := ⟨_, _, ok__law_part F__law_part T c__law_draw, m__law_part, F__law_part, b__law_part⟩
  have c__law_some_cut : Cal l.prog w K mg base CX0 3 "_law_some_cut" s__law_some_cut _ _ := ⟨_, _, ok__law_some_cut F__law_some_cut c__law_of, m__law_some_cut, F__law_some_cut, b__law_some_cut⟩
  have c__law_letters : Cal l.prog w K mg base CX0 2 "_law_letters" s__law_letters _ _ := ⟨_, _, ok__law_letters F__law_letters T c__law_draw, m__law_letters, F__law_letters, b__law_letters⟩
  have c__law_some_faces : Cal l.prog w K mg base CX0 3 "_law_some_faces" s__law_some_faces _ _ := ⟨_, _, ok__law_some_faces F__law_some_faces T c__law_draw c__law_letters, m__law_some_faces, F__law_some_faces, b__law_some_faces⟩
  have c__law_some_cutters : Cal l.prog w K mg base CX0 3 "_law_some_cutters" s__law_some_cutters _ _ := ⟨_, _, ok__law_some_cutters F__law_some_cutters T c__law_draw c__law_letters, m__law_some_cutters, F__law_some_cutters, b__law_some_cutters⟩
  have c__law_some_line : Cal l.prog w K mg base CX0 4 "_law_some_line" s__law_some_line _ _ := ⟨_, _, ok__law_some_line F__law_some_line T c__law_draw c__law_part c__law_some_cut, m__law_some_line, F__law_some_line, b__law_some_line⟩
  have c__law_some_book : Cal l.prog w K mg base CX0 5 "_law_some_book" s__law_some_book _ _ := ⟨_, _, ok__law_some_book F__law_some_book T c__law_draw c__law_part c__law_some_cut c__law_some_faces c__law_some_cutters c__law_some_line, m__law_some_book, F__law_some_book, b__law_some_book⟩
  have c__law_open : Cal l.prog w K mg base CX0 1 "_law_open" s__law_open _ _ := ⟨_, _, ok__law_open F__law_open T, m__law_open, F__law_open, b__law_open⟩
  exact ok_law (fI := C1) T l_law c_law TB BC RC RE RRE NR m__law_raised_ratio k__law_raised_ratio l__law_raised_ratio c__law_raised_ratio b__law_raised_ratio FPW m__law_pair k__law_pair b__law_pair (PySem.W.mg_of X G eg_InvalidRatio) Err_InvalidView Err_InvalidRatio gR MR bR2 bR1 vR1 kbR m__law_tries k__law_tries b__law_tries (fun b2 m sub sz => ok__law_tries (P := l.prog) (w := w) (base := b2) (k := 10) F__law_tries m sub sz F__law_try m__law_try b__law_try (ok__law_field (P := l.prog) (w := w) (mg := mg) (base := b2) F__law_field) m__law_field k__law_field b__law_field g_C1 g_C2 g_C3) c__law_same cx_walk_at FRat c__law_of c__law_low c__law_below c__law_some_place c__law_some_placed c__law_draw c__law_some_room c__law_book c__law_some_book c__law_open
end FW
open PySem PySem.W PyProof.Rows
set_option maxHeartbeats 0 in
theorem PySem.Challenge.cw_fourwalls_k51_walks_through_places_holds : PySem.Challenge.rw_fourwalls_k51_walks_through_places.Holds := by
  w_on; o_law
  refine FW.head_kmJ (r := FW.hR) (q := FW.hq) (K := FW.hk0.heap_1) (as := FW.has) (ts := FW.hts) (e := FW.hasE) (M := 20000) (loose := FW.hnames) (d := HandSHeadRun.topDef FW.hR.prog 88) (kwd := []) _ rfl FW.hRA FW.hRB FW.hRC (by kernel_rfl) (by kernel_rfl) (by kernel_rfl) (by rfl) (by first | assumption | decide +kernel) (by decide +kernel) ⟨rfl, rfl, rfl, rfl, rfl, by decide +kernel⟩ ?hw ?hc
  case hw => w_witness2
  k_fill
  refine' FW.walk_tab (l := PySem.Challenge.rw_fourwalls_k51_walks_through_places) (n := 63) (k := 16) (x := "_law_script") (sp := FW.sp_law) rfl (by decide) (by kernel_rfl) ⟨rfl, by decide, by decide⟩ (fun w h Y => PySem.W.km_in_of Y) (fun w h Y => PySem.W.km_tabs_of Y _ List.mem_cons_self) ?hnP ?F ?hcode ?hsp
  case hsp => exact fun pr H a ns hl hP hS => ⟨a, ns, rfl, hS, hl, hP, fun _ => rfl⟩
  case hnP => exact fun pr => by kernel_rfl
  case F =>
    intro w mg fa h KX G hmg0
    have hmg : mg ("law" : PySem.Str) = some (.ref fa) := by
      have e : (HandSHeadRun.topDef FW.hR.prog 88).name = ("law" : PySem.Str) := by kernel_rfl
      rw [← e]
      exact hmg0
    refine' FW.all_mk KX G hmg ?B_g ?B_pg ?B_hd ?B_po ?B_sa ?B_nf ?B_nc ?B_nl ?B_mk ?B_kp ?B_rd ?B_sg ?B_most ?R_g ?R_pg ?R_hd ?R_po ?R_sa ?R_nt ?R_nb ?R_mk ?R_kp ?R_ca ?R_cn ?R_ct ?R_cm ?R_kit ?gs1 ?gs2 ?eg_InvalidRatio ?el_InvalidRatio ?eb_InvalidRatio ?esa_InvalidRatio ?ex_InvalidRatio ?ety_InvalidRatio ?ek_InvalidRatio ?ecl_InvalidRatio ?ega_InvalidRatio ?egg_InvalidRatio ?efc_InvalidRatio ?eob_InvalidRatio ?ehd_InvalidRatio ?enc_InvalidRatio ?enf_InvalidRatio ?eini_InvalidRatio ?etI_InvalidRatio ?elI_InvalidRatio ?ecI_InvalidRatio ?ekI_InvalidRatio ?erd_InvalidRatio ?efdn_InvalidRatio ?rx_e ?nr_n ?nr_i ?nr_b ?nr_s ?nr_t ?nr_l ?a__law_raised_ratio ?l__law_raised_ratio ?c__law_raised_ratio ?k__law_raised_ratio ?a__law_pair ?l__law_pair ?c__law_pair ?k__law_pair ?eg_InvalidView ?el_InvalidView ?eb_InvalidView ?esa_InvalidView ?ex_InvalidView ?ety_InvalidView ?ek_InvalidView ?ecl_InvalidView ?ega_InvalidView ?egg_InvalidView ?efc_InvalidView ?eob_InvalidView ?ehd_InvalidView ?enc_InvalidView ?enf_InvalidView ?eini_InvalidView ?etI_InvalidView ?elI_InvalidView ?ecI_InvalidView ?ekI_InvalidView ?erd_InvalidView ?efdn_InvalidView ?e_C1 ?e_C2 ?e_C3 ?hx_InvalidView ?hx_InvalidRatio ?R_init ?R_ifn ?l_Ri ?c_Ri ?k_Ri ?t_Ri ?a__law_tries ?l__law_tries ?c__law_tries ?k__law_tries ?a__law_try ?l__law_try ?c__law_try ?k__law_try ?a__law_field ?l__law_field ?c__law_field ?k__law_field ?a__law_same ?l__law_same ?c__law_same ?k__law_same ?a_is_string ?l_is_string ?c_is_string ?k_is_string ?a_is_room ?l_is_room ?c_is_room ?k_is_room ?a_check_room ?l_check_room ?c_check_room ?k_check_room ?a_is_letter ?l_is_letter ?c_is_letter ?k_is_letter ?a_is_integer ?l_is_integer ?c_is_integer ?k_is_integer ?a_is_place ?l_is_place ?c_is_place ?k_is_place ?a_is_placed_step ?l_is_placed_step ?c_is_placed_step ?k_is_placed_step ?at_B_parts ?fn_B_parts ?l_B_parts ?c_B_parts ?k_B_parts ?at_B_cut ?fn_B_cut ?l_B_cut ?c_B_cut ?k_B_cut ?at_B_line_at ?fn_B_line_at ?l_B_line_at ?c_B_line_at ?k_B_line_at ?a_fits ?l_fits ?c_fits ?k_fits ?a_parts_of ?l_parts_of ?c_parts_of ?k_parts_of ?at_R_add ?fn_R_add ?l_R_add ?c_R_add ?k_R_add ?R_sf ?G_g ?at_R_sub ?fn_R_sub ?l_R_sub ?c_R_sub ?k_R_sub ?at_R_mul ?fn_R_mul ?l_R_mul ?c_R_mul ?k_R_mul ?a_boxes_at ?l_boxes_at ?c_boxes_at ?k_boxes_at ?a_lay ?l_lay ?c_lay ?k_lay ?a_laid ?l_laid ?c_laid ?k_laid ?a_floor_behind ?l_floor_behind ?c_floor_behind ?k_floor_behind ?a_check_walk ?l_check_walk ?c_check_walk ?k_check_walk ?X_g ?X_e ?X_h ?X_vA ?X_tA ?X_vD ?X_tD ?at_R_eq ?fn_R_eq ?l_R_eq ?c_R_eq ?k_R_eq ?R_ne ?R_nf1 ?at_R_is_below ?fn_R_is_below ?l_R_is_below ?c_R_is_below ?k_R_is_below ?a_walk_in ?l_walk_in ?c_walk_in ?k_walk_in ?a_walk_at ?l_walk_at ?c_walk_at ?k_walk_at ?a__law_draw ?l__law_draw ?c__law_draw ?k__law_draw ?a__law_of ?l__law_of ?c__law_of ?k__law_of ?a__law_top ?l__law_top ?c__law_top ?k__law_top ?a__law_low ?l__law_low ?c__law_low ?k__law_low ?a__law_below ?l__law_below ?c__law_below ?k__law_below ?a__law_some_place ?l__law_some_place ?c__law_some_place ?k__law_some_place ?a__law_split ?l__law_split ?c__law_split ?k__law_split ?a__law_fits ?l__law_fits ?c__law_fits ?k__law_fits ?a__law_line_at ?l__law_line_at ?c__law_line_at ?k__law_line_at ?a__law_cut ?l__law_cut ?c__law_cut ?k__law_cut ?a__law_parts ?l__law_parts ?c__law_parts ?k__law_parts ?a__law_add ?l__law_add ?c__law_add ?k__law_add ?a__law_times ?l__law_times ?c__law_times ?k__law_times ?a__law_on_way ?l__law_on_way ?c__law_on_way ?k__law_on_way ?a__law_cut_box ?l__law_cut_box ?c__law_cut_box ?k__law_cut_box ?a__law_some_placed ?l__law_some_placed ?c__law_some_placed ?k__law_some_placed ?a__law_some_room ?l__law_some_room ?c__law_some_room ?k__law_some_room ?B_init ?B_ifn ?l_Bi ?c_Bi ?k_Bi ?z__LOWER ?z__MOST_FACES ?a_is_ascending ?l_is_ascending ?c_is_ascending ?k_is_ascending ?a_is_choice ?l_is_choice ?c_is_choice ?k_is_choice ?a_is_faces ?l_is_faces ?c_is_faces ?k_is_faces ?z__UPPER ?z__MOST_CUTTERS ?a_is_cutters ?l_is_cutters ?c_is_cutters ?k_is_cutters ?a_is_part ?l_is_part ?c_is_part ?k_is_part ?a_is_cut ?l_is_cut ?c_is_cut ?k_is_cut ?a_is_line ?l_is_line ?c_is_line ?k_is_line ?a_head_of ?l_head_of ?c_head_of ?k_head_of ?a_line_of ?l_line_of ?c_line_of ?k_line_of ?S_fd ?S_rc ?l_B_read ?c_B_read ?k_B_read ?a__law_line_text ?l__law_line_text ?c__law_line_text ?k__law_line_text ?a__law_book_text ?l__law_book_text ?c__law_book_text ?k__law_book_text ?a__law_book ?l__law_book ?c__law_book ?k__law_book ?a__law_part ?l__law_part ?c__law_part ?k__law_part ?a__law_some_cut ?l__law_some_cut ?c__law_some_cut ?k__law_some_cut ?a__law_letters ?l__law_letters ?c__law_letters ?k__law_letters ?a__law_some_faces ?l__law_some_faces ?c__law_some_faces ?k__law_some_faces ?a__law_some_cutters ?l__law_some_cutters ?c__law_some_cutters ?k__law_some_cutters ?a__law_some_line ?l__law_some_line ?c__law_some_line ?k__law_some_line ?a__law_some_book ?l__law_some_book ?c__law_some_book ?k__law_some_book ?a__law_open ?l__law_open ?c__law_open ?k__law_open ?a_law ?l_law ?c_law ?y_isinstance ?y_str ?y_all ?y_any ?y_len ?y_int ?y_list ?y_abs ?y_bool ?y_tuple ?y_zip ?y_range ?y_enumerate ?y_sorted ?y_dict ?y_set ?y_sum ?y_min ?y_max ?y_reversed ?y_repr ?y_ord
    case B_g => first | k_is | kernel_rfl
    case B_pg => first | k_is | kernel_rfl
    case B_hd => first | k_is | kernel_rfl
    case B_po => first | k_is | kernel_rfl
    case B_sa => first | k_is | kernel_rfl
    case B_nf => first | k_is | kernel_rfl
    case B_nc => first | k_is | kernel_rfl
    case B_nl => first | k_is | kernel_rfl
    case B_mk => first | k_is | kernel_rfl
    case B_kp => first | k_is | kernel_rfl
    case B_rd => first | k_is | kernel_rfl
    case B_sg => first | k_is | kernel_rfl
    case B_most => first | k_is | kernel_rfl
    case R_g => first | k_is | kernel_rfl
    case R_pg => first | k_is | kernel_rfl
    case R_hd => first | k_is | kernel_rfl
    case R_po => first | k_is | kernel_rfl
    case R_sa => first | k_is | kernel_rfl
    case R_nt => first | k_is | kernel_rfl
    case R_nb => first | k_is | kernel_rfl
    case R_mk => first | k_is | kernel_rfl
    case R_kp => first | k_is | kernel_rfl
    case R_ca => first | k_is | kernel_rfl
    case R_cn => first | k_is | kernel_rfl
    case R_ct => first | k_is | kernel_rfl
    case R_cm => first | k_is | kernel_rfl
    case R_kit => first | k_is | kernel_rfl
    case gs1 => first | k_is | kernel_rfl
    case gs2 => first | k_is | kernel_rfl
    case eg_InvalidRatio => first | k_is | kernel_rfl
    case el_InvalidRatio => first | k_is | kernel_rfl
    case eb_InvalidRatio => first | k_is | kernel_rfl
    case esa_InvalidRatio => first | k_is | kernel_rfl
    case ex_InvalidRatio => first | k_is | kernel_rfl
    case ety_InvalidRatio => first | k_is | kernel_rfl
    case ek_InvalidRatio => first | k_is | kernel_rfl
    case ecl_InvalidRatio => first | k_is | kernel_rfl
    case ega_InvalidRatio => first | k_is | kernel_rfl
    case egg_InvalidRatio => first | k_is | kernel_rfl
    case efc_InvalidRatio => first | k_is | kernel_rfl
    case eob_InvalidRatio => first | k_is | kernel_rfl
    case ehd_InvalidRatio => first | k_is | kernel_rfl
    case enc_InvalidRatio => first | k_is | kernel_rfl
    case enf_InvalidRatio => first | k_is | kernel_rfl
    case eini_InvalidRatio => first | k_is | kernel_rfl
    case etI_InvalidRatio => first | k_is | kernel_rfl
    case elI_InvalidRatio => first | k_is | kernel_rfl
    case ecI_InvalidRatio => first | k_is | kernel_rfl
    case ekI_InvalidRatio => first | k_is | kernel_rfl
    case erd_InvalidRatio => first | k_is | kernel_rfl
    case efdn_InvalidRatio => first | k_is | kernel_rfl
    case rx_e => first | k_is | kernel_rfl
    case nr_n => first | k_is | kernel_rfl
    case nr_i => first | k_is | kernel_rfl
    case nr_b => first | k_is | kernel_rfl
    case nr_s => first | k_is | kernel_rfl
    case nr_t => first | k_is | kernel_rfl
    case nr_l => first | k_is | kernel_rfl
    case a__law_raised_ratio => first | k_is | kernel_rfl
    case l__law_raised_ratio => first | k_is | kernel_rfl
    case c__law_raised_ratio => first | k_is | kernel_rfl
    case k__law_raised_ratio => first | k_is | kernel_rfl
    case a__law_pair => first | k_is | kernel_rfl
    case l__law_pair => first | k_is | kernel_rfl
    case c__law_pair => first | k_is | kernel_rfl
    case k__law_pair => first | k_is | kernel_rfl
    case eg_InvalidView => first | k_is | kernel_rfl
    case el_InvalidView => first | k_is | kernel_rfl
    case eb_InvalidView => first | k_is | kernel_rfl
    case esa_InvalidView => first | k_is | kernel_rfl
    case ex_InvalidView => first | k_is | kernel_rfl
    case ety_InvalidView => first | k_is | kernel_rfl
    case ek_InvalidView => first | k_is | kernel_rfl
    case ecl_InvalidView => first | k_is | kernel_rfl
    case ega_InvalidView => first | k_is | kernel_rfl
    case egg_InvalidView => first | k_is | kernel_rfl
    case efc_InvalidView => first | k_is | kernel_rfl
    case eob_InvalidView => first | k_is | kernel_rfl
    case ehd_InvalidView => first | k_is | kernel_rfl
    case enc_InvalidView => first | k_is | kernel_rfl
    case enf_InvalidView => first | k_is | kernel_rfl
    case eini_InvalidView => first | k_is | kernel_rfl
    case etI_InvalidView => first | k_is | kernel_rfl
    case elI_InvalidView => first | k_is | kernel_rfl
    case ecI_InvalidView => first | k_is | kernel_rfl
    case ekI_InvalidView => first | k_is | kernel_rfl
    case erd_InvalidView => first | k_is | kernel_rfl
    case efdn_InvalidView => first | k_is | kernel_rfl
    case e_C1 => first | k_is | kernel_rfl
    case e_C2 => first | k_is | kernel_rfl
    case e_C3 => first | k_is | kernel_rfl
    case hx_InvalidView => first | k_is | kernel_rfl
    case hx_InvalidRatio => first | k_is | kernel_rfl
    case R_init => first | k_is | kernel_rfl
    case R_ifn => first | k_is | kernel_rfl
    case l_Ri => first | k_is | kernel_rfl
    case c_Ri => first | k_is | kernel_rfl
    case k_Ri => first | k_is | kernel_rfl
    case t_Ri => first | k_is | kernel_rfl
    case a__law_tries => first | k_is | kernel_rfl
    case l__law_tries => first | k_is | kernel_rfl
    case c__law_tries => first | k_is | kernel_rfl
    case k__law_tries => first | k_is | kernel_rfl
    case a__law_try => first | k_is | kernel_rfl
    case l__law_try => first | k_is | kernel_rfl
    case c__law_try => first | k_is | kernel_rfl
    case k__law_try => first | k_is | kernel_rfl
    case a__law_field => first | k_is | kernel_rfl
    case l__law_field => first | k_is | kernel_rfl
    case c__law_field => first | k_is | kernel_rfl
    case k__law_field => first | k_is | kernel_rfl
    case a__law_same => first | k_is | kernel_rfl
    case l__law_same => first | k_is | kernel_rfl
    case c__law_same => first | k_is | kernel_rfl
    case k__law_same => first | k_is | kernel_rfl
    case a_is_string => first | k_is | kernel_rfl
    case l_is_string => first | k_is | kernel_rfl
    case c_is_string => first | k_is | kernel_rfl
    case k_is_string => first | k_is | kernel_rfl
    case a_is_room => first | k_is | kernel_rfl
    case l_is_room => first | k_is | kernel_rfl
    case c_is_room => first | k_is | kernel_rfl
    case k_is_room => first | k_is | kernel_rfl
    case a_check_room => first | k_is | kernel_rfl
    case l_check_room => first | k_is | kernel_rfl
    case c_check_room => first | k_is | kernel_rfl
    case k_check_room => first | k_is | kernel_rfl
    case a_is_letter => first | k_is | kernel_rfl
    case l_is_letter => first | k_is | kernel_rfl
    case c_is_letter => first | k_is | kernel_rfl
    case k_is_letter => first | k_is | kernel_rfl
    case a_is_integer => first | k_is | kernel_rfl
    case l_is_integer => first | k_is | kernel_rfl
    case c_is_integer => first | k_is | kernel_rfl
    case k_is_integer => first | k_is | kernel_rfl
    case a_is_place => first | k_is | kernel_rfl
    case l_is_place => first | k_is | kernel_rfl
    case c_is_place => first | k_is | kernel_rfl
    case k_is_place => first | k_is | kernel_rfl
    case a_is_placed_step => first | k_is | kernel_rfl
    case l_is_placed_step => first | k_is | kernel_rfl
    case c_is_placed_step => first | k_is | kernel_rfl
    case k_is_placed_step => first | k_is | kernel_rfl
    case at_B_parts => first | k_is | kernel_rfl
    case fn_B_parts => first | k_is | kernel_rfl
    case l_B_parts => first | k_is | kernel_rfl
    case c_B_parts => first | k_is | kernel_rfl
    case k_B_parts => first | k_is | kernel_rfl
    case at_B_cut => first | k_is | kernel_rfl
    case fn_B_cut => first | k_is | kernel_rfl
    case l_B_cut => first | k_is | kernel_rfl
    case c_B_cut => first | k_is | kernel_rfl
    case k_B_cut => first | k_is | kernel_rfl
    case at_B_line_at => first | k_is | kernel_rfl
    case fn_B_line_at => first | k_is | kernel_rfl
    case l_B_line_at => first | k_is | kernel_rfl
    case c_B_line_at => first | k_is | kernel_rfl
    case k_B_line_at => first | k_is | kernel_rfl
    case a_fits => first | k_is | kernel_rfl
    case l_fits => first | k_is | kernel_rfl
    case c_fits => first | k_is | kernel_rfl
    case k_fits => first | k_is | kernel_rfl
    case a_parts_of => first | k_is | kernel_rfl
    case l_parts_of => first | k_is | kernel_rfl
    case c_parts_of => first | k_is | kernel_rfl
    case k_parts_of => first | k_is | kernel_rfl
    case at_R_add => first | k_is | kernel_rfl
    case fn_R_add => first | k_is | kernel_rfl
    case l_R_add => first | k_is | kernel_rfl
    case c_R_add => first | k_is | kernel_rfl
    case k_R_add => first | k_is | kernel_rfl
    case R_sf => first | k_is | kernel_rfl
    case G_g => first | k_is | kernel_rfl
    case at_R_sub => first | k_is | kernel_rfl
    case fn_R_sub => first | k_is | kernel_rfl
    case l_R_sub => first | k_is | kernel_rfl
    case c_R_sub => first | k_is | kernel_rfl
    case k_R_sub => first | k_is | kernel_rfl
    case at_R_mul => first | k_is | kernel_rfl
    case fn_R_mul => first | k_is | kernel_rfl
    case l_R_mul => first | k_is | kernel_rfl
    case c_R_mul => first | k_is | kernel_rfl
    case k_R_mul => first | k_is | kernel_rfl
    case a_boxes_at => first | k_is | kernel_rfl
    case l_boxes_at => first | k_is | kernel_rfl
    case c_boxes_at => first | k_is | kernel_rfl
    case k_boxes_at => first | k_is | kernel_rfl
    case a_lay => first | k_is | kernel_rfl
    case l_lay => first | k_is | kernel_rfl
    case c_lay => first | k_is | kernel_rfl
    case k_lay => first | k_is | kernel_rfl
    case a_laid => first | k_is | kernel_rfl
    case l_laid => first | k_is | kernel_rfl
    case c_laid => first | k_is | kernel_rfl
    case k_laid => first | k_is | kernel_rfl
    case a_floor_behind => first | k_is | kernel_rfl
    case l_floor_behind => first | k_is | kernel_rfl
    case c_floor_behind => first | k_is | kernel_rfl
    case k_floor_behind => first | k_is | kernel_rfl
    case a_check_walk => first | k_is | kernel_rfl
    case l_check_walk => first | k_is | kernel_rfl
    case c_check_walk => first | k_is | kernel_rfl
    case k_check_walk => first | k_is | kernel_rfl
    case X_g => first | k_is | kernel_rfl
    case X_e => first | k_is | kernel_rfl
    case X_h => exact ⟨⟨_, _, rfl, rfl⟩, ⟨_, _, rfl, rfl⟩, trivial⟩
    case X_vA => first | k_is | kernel_rfl
    case X_tA => first | k_is | kernel_rfl
    case X_vD => first | k_is | kernel_rfl
    case X_tD => first | k_is | kernel_rfl
    case at_R_eq => first | k_is | kernel_rfl
    case fn_R_eq => first | k_is | kernel_rfl
    case l_R_eq => first | k_is | kernel_rfl
    case c_R_eq => first | k_is | kernel_rfl
    case k_R_eq => first | k_is | kernel_rfl
    case R_ne => first | k_is | kernel_rfl
    case R_nf1 => first | k_is | kernel_rfl
    case at_R_is_below => first | k_is | kernel_rfl
    case fn_R_is_below => first | k_is | kernel_rfl
    case l_R_is_below => first | k_is | kernel_rfl
    case c_R_is_below => first | k_is | kernel_rfl
    case k_R_is_below => first | k_is | kernel_rfl
    case a_walk_in => first | k_is | kernel_rfl
    case l_walk_in => first | k_is | kernel_rfl
    case c_walk_in => first | k_is | kernel_rfl
    case k_walk_in => first | k_is | kernel_rfl
    case a_walk_at => first | k_is | kernel_rfl
    case l_walk_at => first | k_is | kernel_rfl
    case c_walk_at => first | k_is | kernel_rfl
    case k_walk_at => first | k_is | kernel_rfl
    case a__law_draw => first | k_is | kernel_rfl
    case l__law_draw => first | k_is | kernel_rfl
    case c__law_draw => first | k_is | kernel_rfl
    case k__law_draw => first | k_is | kernel_rfl
    case a__law_of => first | k_is | kernel_rfl
    case l__law_of => first | k_is | kernel_rfl
    case c__law_of => first | k_is | kernel_rfl
    case k__law_of => first | k_is | kernel_rfl
    case a__law_top => first | k_is | kernel_rfl
    case l__law_top => first | k_is | kernel_rfl
    case c__law_top => first | k_is | kernel_rfl
    case k__law_top => first | k_is | kernel_rfl
    case a__law_low => first | k_is | kernel_rfl
    case l__law_low => first | k_is | kernel_rfl
    case c__law_low => first | k_is | kernel_rfl
    case k__law_low => first | k_is | kernel_rfl
    case a__law_below => first | k_is | kernel_rfl
    case l__law_below => first | k_is | kernel_rfl
    case c__law_below => first | k_is | kernel_rfl
    case k__law_below => first | k_is | kernel_rfl
    case a__law_some_place => first | k_is | kernel_rfl
    case l__law_some_place => first | k_is | kernel_rfl
    case c__law_some_place => first | k_is | kernel_rfl
    case k__law_some_place => first | k_is | kernel_rfl
    case a__law_split => first | k_is | kernel_rfl
    case l__law_split => first | k_is | kernel_rfl
    case c__law_split => first | k_is | kernel_rfl
    case k__law_split => first | k_is | kernel_rfl
    case a__law_fits => first | k_is | kernel_rfl
    case l__law_fits => first | k_is | kernel_rfl
    case c__law_fits => first | k_is | kernel_rfl
    case k__law_fits => first | k_is | kernel_rfl
    case a__law_line_at => first | k_is | kernel_rfl
    case l__law_line_at => first | k_is | kernel_rfl
    case c__law_line_at => first | k_is | kernel_rfl
    case k__law_line_at => first | k_is | kernel_rfl
    case a__law_cut => first | k_is | kernel_rfl
    case l__law_cut => first | k_is | kernel_rfl
    case c__law_cut => first | k_is | kernel_rfl
    case k__law_cut => first | k_is | kernel_rfl
    case a__law_parts => first | k_is | kernel_rfl
    case l__law_parts => first | k_is | kernel_rfl
    case c__law_parts => first | k_is | kernel_rfl
    case k__law_parts => first | k_is | kernel_rfl
    case a__law_add => first | k_is | kernel_rfl
    case l__law_add => first | k_is | kernel_rfl
    case c__law_add => first | k_is | kernel_rfl
    case k__law_add => first | k_is | kernel_rfl
    case a__law_times => first | k_is | kernel_rfl
    case l__law_times => first | k_is | kernel_rfl
    case c__law_times => first | k_is | kernel_rfl
    case k__law_times => first | k_is | kernel_rfl
    case a__law_on_way => first | k_is | kernel_rfl
    case l__law_on_way => first | k_is | kernel_rfl
    case c__law_on_way => first | k_is | kernel_rfl
    case k__law_on_way => first | k_is | kernel_rfl
    case a__law_cut_box => first | k_is | kernel_rfl
    case l__law_cut_box => first | k_is | kernel_rfl
    case c__law_cut_box => first | k_is | kernel_rfl
    case k__law_cut_box => first | k_is | kernel_rfl
    case a__law_some_placed => first | k_is | kernel_rfl
    case l__law_some_placed => first | k_is | kernel_rfl
    case c__law_some_placed => first | k_is | kernel_rfl
    case k__law_some_placed => first | k_is | kernel_rfl
    case a__law_some_room => first | k_is | kernel_rfl
    case l__law_some_room => first | k_is | kernel_rfl
    case c__law_some_room => first | k_is | kernel_rfl
    case k__law_some_room => first | k_is | kernel_rfl
    case B_init => first | k_is | kernel_rfl
    case B_ifn => first | k_is | kernel_rfl
    case l_Bi => first | k_is | kernel_rfl
    case c_Bi => first | k_is | kernel_rfl
    case k_Bi => first | k_is | kernel_rfl
    case z__LOWER => first | k_is | kernel_rfl
    case z__MOST_FACES => first | k_is | kernel_rfl
    case a_is_ascending => first | k_is | kernel_rfl
    case l_is_ascending => first | k_is | kernel_rfl
    case c_is_ascending => first | k_is | kernel_rfl
    case k_is_ascending => first | k_is | kernel_rfl
    case a_is_choice => first | k_is | kernel_rfl
    case l_is_choice => first | k_is | kernel_rfl
    case c_is_choice => first | k_is | kernel_rfl
    case k_is_choice => first | k_is | kernel_rfl
    case a_is_faces => first | k_is | kernel_rfl
    case l_is_faces => first | k_is | kernel_rfl
    case c_is_faces => first | k_is | kernel_rfl
    case k_is_faces => first | k_is | kernel_rfl
    case z__UPPER => first | k_is | kernel_rfl
    case z__MOST_CUTTERS => first | k_is | kernel_rfl
    case a_is_cutters => first | k_is | kernel_rfl
    case l_is_cutters => first | k_is | kernel_rfl
    case c_is_cutters => first | k_is | kernel_rfl
    case k_is_cutters => first | k_is | kernel_rfl
    case a_is_part => first | k_is | kernel_rfl
    case l_is_part => first | k_is | kernel_rfl
    case c_is_part => first | k_is | kernel_rfl
    case k_is_part => first | k_is | kernel_rfl
    case a_is_cut => first | k_is | kernel_rfl
    case l_is_cut => first | k_is | kernel_rfl
    case c_is_cut => first | k_is | kernel_rfl
    case k_is_cut => first | k_is | kernel_rfl
    case a_is_line => first | k_is | kernel_rfl
    case l_is_line => first | k_is | kernel_rfl
    case c_is_line => first | k_is | kernel_rfl
    case k_is_line => first | k_is | kernel_rfl
    case a_head_of => first | k_is | kernel_rfl
    case l_head_of => first | k_is | kernel_rfl
    case c_head_of => first | k_is | kernel_rfl
    case k_head_of => first | k_is | kernel_rfl
    case a_line_of => first | k_is | kernel_rfl
    case l_line_of => first | k_is | kernel_rfl
    case c_line_of => first | k_is | kernel_rfl
    case k_line_of => first | k_is | kernel_rfl
    case S_fd => first | k_is | kernel_rfl
    case S_rc => first | k_is | kernel_rfl
    case l_B_read => first | k_is | kernel_rfl
    case c_B_read => first | k_is | kernel_rfl
    case k_B_read => first | k_is | kernel_rfl
    case a__law_line_text => first | k_is | kernel_rfl
    case l__law_line_text => first | k_is | kernel_rfl
    case c__law_line_text => first | k_is | kernel_rfl
    case k__law_line_text => first | k_is | kernel_rfl
    case a__law_book_text => first | k_is | kernel_rfl
    case l__law_book_text => first | k_is | kernel_rfl
    case c__law_book_text => first | k_is | kernel_rfl
    case k__law_book_text => first | k_is | kernel_rfl
    case a__law_book => first | k_is | kernel_rfl
    case l__law_book => first | k_is | kernel_rfl
    case c__law_book => first | k_is | kernel_rfl
    case k__law_book => first | k_is | kernel_rfl
    case a__law_part => first | k_is | kernel_rfl
    case l__law_part => first | k_is | kernel_rfl
    case c__law_part => first | k_is | kernel_rfl
    case k__law_part => first | k_is | kernel_rfl
    case a__law_some_cut => first | k_is | kernel_rfl
    case l__law_some_cut => first | k_is | kernel_rfl
    case c__law_some_cut => first | k_is | kernel_rfl
    case k__law_some_cut => first | k_is | kernel_rfl
    case a__law_letters => first | k_is | kernel_rfl
    case l__law_letters => first | k_is | kernel_rfl
    case c__law_letters => first | k_is | kernel_rfl
    case k__law_letters => first | k_is | kernel_rfl
    case a__law_some_faces => first | k_is | kernel_rfl
    case l__law_some_faces => first | k_is | kernel_rfl
    case c__law_some_faces => first | k_is | kernel_rfl
    case k__law_some_faces => first | k_is | kernel_rfl
    case a__law_some_cutters => first | k_is | kernel_rfl
    case l__law_some_cutters => first | k_is | kernel_rfl
    case c__law_some_cutters => first | k_is | kernel_rfl
    case k__law_some_cutters => first | k_is | kernel_rfl
    case a__law_some_line => first | k_is | kernel_rfl
    case l__law_some_line => first | k_is | kernel_rfl
    case c__law_some_line => first | k_is | kernel_rfl
    case k__law_some_line => first | k_is | kernel_rfl
    case a__law_some_book => first | k_is | kernel_rfl
    case l__law_some_book => first | k_is | kernel_rfl
    case c__law_some_book => first | k_is | kernel_rfl
    case k__law_some_book => first | k_is | kernel_rfl
    case a__law_open => first | k_is | kernel_rfl
    case l__law_open => first | k_is | kernel_rfl
    case c__law_open => first | k_is | kernel_rfl
    case k__law_open => first | k_is | kernel_rfl
    case a_law => first | k_is | kernel_rfl
    case l_law => first | k_is | kernel_rfl
    case c_law => first | k_is | kernel_rfl
    case y_isinstance => first | k_is | kernel_rfl
    case y_str => first | k_is | kernel_rfl
    case y_all => first | k_is | kernel_rfl
    case y_any => first | k_is | kernel_rfl
    case y_len => first | k_is | kernel_rfl
    case y_int => first | k_is | kernel_rfl
    case y_list => first | k_is | kernel_rfl
    case y_abs => first | k_is | kernel_rfl
    case y_bool => first | k_is | kernel_rfl
    case y_tuple => first | k_is | kernel_rfl
    case y_zip => first | k_is | kernel_rfl
    case y_range => first | k_is | kernel_rfl
    case y_enumerate => first | k_is | kernel_rfl
    case y_sorted => first | k_is | kernel_rfl
    case y_dict => first | k_is | kernel_rfl
    case y_set => first | k_is | kernel_rfl
    case y_sum => first | k_is | kernel_rfl
    case y_min => first | k_is | kernel_rfl
    case y_max => first | k_is | kernel_rfl
    case y_reversed => first | k_is | kernel_rfl
    case y_repr => first | k_is | kernel_rfl
    case y_ord => first | k_is | kernel_rfl
  case hcode => exact fun pr => by kernel_rfl
