import PyProof.Rows.All
import Wide.All
import OpenK.AllK
import Wide.FinOn
import KE.KNestM
import KE.KStateDown
import HandS.Head0
import HandS.Head1
import HandS.Head2
import HandS.Head3
import KE.KTypeName
import KE.KExcIs
import HandS.Base
import HandS.Call
import HandS.Exc
import HandS.ExcInit
import HandS.ExcField
import KE.KTryMore
import HandS.HotCalls
import HandS.Lambda
import HandS.Words
import HandS.WordsExc
import PyProof.EqAt
import PyProof.EqKinds
import PyProof.TupleCall
import KE.KUnpack
import HandS.List
import HandS.Comp
import HandS.Iter
import HandS.Text
import HandS.WordsList
import KE.GoesMore
import HandS.Walk
import HandS.IsInst
import HandS.Ends
import HandS.Zip
import HandS.Codes
import HandS.Style
import KE.KRevSl
import KE.GoesEnum
import HandS.Star
import HandS.SlotsOwn
import PyProof.InstEq
import HandS.More
import HandS.Conv
import HandS.FStr
import HandS.ClsMeth
import HandS.EndTab
import HandS.HeadHook4
import HandS.Defaults
import HandS.SortRule
import KE.KSortTupAny
import PyProof.Rows.SortShellAny
import PyProof.StrBlock2
import HandS.TupMul
import PyProof.Rows.Range3
import PyProof.Conv_bool
import HandS.Nested
import HandS.NoneIn
import HandS.MethStar
import PyProof.ListStr
import PyProof.ListRange
import OpenK.KMeth
import KE.KCallOwn
import HandS.Replace
import PyProof.StrLawsFirst
import HandS.SetKeys
import KE.KDictDisplayH
import PyProof.DictTable
import KE.KDictZip
import KE.GoesZip
import HandS.Dict
import HandS.MakeKwOnly
import KE.KOpsOwn
import HandS.Property
import PyProof.StrLawsIn
import HandS.Deep
import PySem.Challenge.RW_fourwalls_k15_states_of_joined_machines
set_option Elab.async false
set_option linter.all false
set_option maxRecDepth 100000
set_option maxHeartbeats 16000000
/-! the head of a law with tables in one run of the kernel: the objects read off the tree -/
namespace FW
open PySem PySem.W PySem.Calls PyProof.Rows HandSHeadRun
noncomputable def obK (as ts : List Addr) (s : SharedT) : List (Option Obj) × List (Option Obj) := (as.map (getT s), ts.map (getT s))
theorem head_km {r : OpenRow} {q : Program} {K : Params → Frag} {as ts : List Addr} {e : ∀ P, as = (K P).map (·.1)} {M : Nat} {loose : List PySem.Str} {d : DefRec} {kwd : List (PySem.Str × PySem.Expr)}
    (H : Hook) (hH : H = kmHook K as e ts)
    (eo : opening r.prog = plainProg r.prog.main.scope.names) (f : ∀ s, fenceModules? r.prog s = some s) (run : ∀ w, RunEq r q (kmHook K as e ts) (obK as ts) M loose w)
    (hdef : defOf q r.name = some (d, kwd)) (hp : r.prog.theDef r.name = some (d.params, d.body, d.scope)) (hk : kwWritten? d.params.kwonlyargs d.params.kw_defaults = some kwd)
    (hwr : (!r.writes || r.records.isEmpty) = true) (k1 : r.wellSaid = true) (ok : (chainsOk q && opensWell r.prog && (frees r.toRowW && r.within.isEmpty)) = true) (hb : r.prog.bare) (hw : r.toRowW.promised)
    (call : WalkO q loose (XL q []) (kmHook K as e ts).says r.toRowW d kwd fun f vs => PySem.call f vs) : r.Holds := by
  refine head_any (H := kmHook K as e ts) (ob := obK as ts) (M := M) (loose := loose) (d := d) (kwd := kwd) (fun s => ?_) eo f run hdef hp hk hwr k1 ok hb hw call
  show (as.map (getT s), ts.map (getT s)) = (as.map s.abs.heap.get?, ts.map s.abs.heap.get?)
  rw [show getT s = s.abs.heap.get? from funext (getT_eq s)]
theorem head_kk {r : OpenRow} {q : Program} {K : Params → Frag} {as : List Addr} {e : ∀ P, as = (K P).map (·.1)} {M : Nat} {loose : List PySem.Str} {d : DefRec} {kwd : List (PySem.Str × PySem.Expr)}
    (H : Hook) (hH : H = kHook K as e)
    (eo : opening r.prog = plainProg r.prog.main.scope.names) (f : ∀ s, fenceModules? r.prog s = some s) (run : ∀ w, RunEq r q (kHook K as e) (fun s => as.map (getT s)) M loose w)
    (hdef : defOf q r.name = some (d, kwd)) (hp : r.prog.theDef r.name = some (d.params, d.body, d.scope)) (hk : kwWritten? d.params.kwonlyargs d.params.kw_defaults = some kwd)
    (hwr : (!r.writes || r.records.isEmpty) = true) (k1 : r.wellSaid = true) (ok : (chainsOk q && opensWell r.prog && (frees r.toRowW && r.within.isEmpty)) = true) (hb : r.prog.bare) (hw : r.toRowW.promised)
    (call : WalkO q loose (XL q []) (kHook K as e).says r.toRowW d kwd fun f vs => PySem.call f vs) : r.Holds := by
  refine head_any (H := kHook K as e) (ob := fun s => as.map (getT s)) (M := M) (loose := loose) (d := d) (kwd := kwd) (fun s => ?_) eo f run hdef hp hk hwr k1 ok hb hw call
  show as.map (getT s) = as.map s.abs.heap.get?
  rw [show getT s = s.abs.heap.get? from funext (getT_eq s)]
theorem head_kmI {r : OpenRow} {q : Program} {K : Params → Frag} {as ts : List Addr} {e : ∀ P, as = (K P).map (·.1)} {M : Nat} {loose : List PySem.Str} {d : DefRec} {kwd : List (PySem.Str × PySem.Expr)}
    (H : Hook) (hH : H = kmHook K as e ts) (run : ∀ w, RunEqI r q (kmHook K as e ts) (obK as ts) M loose w)
    (hdef : defOf q r.name = some (d, kwd)) (hp : r.prog.theDef r.name = some (d.params, d.body, d.scope)) (hk : kwWritten? d.params.kwonlyargs d.params.kw_defaults = some kwd)
    (hwr : (!r.writes || r.records.isEmpty) = true) (k1 : r.wellSaid = true) (ok : (chainsOk q && opensWell r.prog && (frees r.toRowW && r.within.isEmpty)) = true) (hb : r.prog.bare) (hw : r.toRowW.promised)
    (call : WalkO q loose (XL q []) (kmHook K as e ts).says r.toRowW d kwd fun f vs => PySem.call f vs) : r.Holds := by
  refine head_imp (H := kmHook K as e ts) (ob := obK as ts) (M := M) (loose := loose) (d := d) (kwd := kwd) (fun s => ?_) run hdef hp hk hwr k1 ok hb hw call
  show (as.map (getT s), ts.map (getT s)) = (as.map s.abs.heap.get?, ts.map s.abs.heap.get?)
  rw [show getT s = s.abs.heap.get? from funext (getT_eq s)]
theorem head_kkI {r : OpenRow} {q : Program} {K : Params → Frag} {as : List Addr} {e : ∀ P, as = (K P).map (·.1)} {M : Nat} {loose : List PySem.Str} {d : DefRec} {kwd : List (PySem.Str × PySem.Expr)}
    (H : Hook) (hH : H = kHook K as e) (run : ∀ w, RunEqI r q (kHook K as e) (fun s => as.map (getT s)) M loose w)
    (hdef : defOf q r.name = some (d, kwd)) (hp : r.prog.theDef r.name = some (d.params, d.body, d.scope)) (hk : kwWritten? d.params.kwonlyargs d.params.kw_defaults = some kwd)
    (hwr : (!r.writes || r.records.isEmpty) = true) (k1 : r.wellSaid = true) (ok : (chainsOk q && opensWell r.prog && (frees r.toRowW && r.within.isEmpty)) = true) (hb : r.prog.bare) (hw : r.toRowW.promised)
    (call : WalkO q loose (XL q []) (kHook K as e).says r.toRowW d kwd fun f vs => PySem.call f vs) : r.Holds := by
  refine head_imp (H := kHook K as e) (ob := fun s => as.map (getT s)) (M := M) (loose := loose) (d := d) (kwd := kwd) (fun s => ?_) run hdef hp hk hwr k1 ok hb hw call
  show as.map (getT s) = as.map s.abs.heap.get?
  rw [show getT s = s.abs.heap.get? from funext (getT_eq s)]
theorem opt_pair {α β γ : Type} {X : Option α} {f : α → β} {g : α → γ} {a : β} {b : γ} (h1 : X.map f = some a) (h2 : X.map g = some b) : X.map (fun s => (f s, g s)) = some (a, b) := by
  cases X with
  | none => cases h1
  | some s =>
    cases h1
    cases h2
    rfl
/-- the three looks at the run's end, each a run of its own -/
def RunA (r : OpenRow) (M : Nat) (w : World) : Prop := (wholeF (fun p => stepQ (denQ tabQ) p w) fenceQ M r.prog).map (fun x => looksF r.prog x.1.heap x.2.abs) = some true
def RunB (r : OpenRow) (q : Program) (M : Nat) (loose : List PySem.Str) (w : World) : Prop := (wholeF (fun p => stepQ (denQ tabQ) p w) fenceQ M r.prog).map (fun x => seenQ q loose (importedModules r.prog.main.body) (fun s => xlAt q [] s && recOk r.toRowW.records s) x.2.abs) = some (openGood q loose)
def RunC (r : OpenRow) (H : Hook) (ob : SharedT → H.α) (M : Nat) (w : World) : Prop := (wholeF (fun p => stepQ (denQ tabQ) p w) fenceQ M r.prog).map (fun x => ob x.2) = some (H.val w)
theorem run_abc {r : OpenRow} {q : Program} {H : Hook} {ob : SharedT → H.α} {M : Nat} {loose : List PySem.Str} {w : World} (a : RunA r M w) (b : RunB r q M loose w) (c : RunC r H ob M w) : RunEqI r q H ob M loose w := opt_pair a (opt_pair b c)
theorem head_kmJ {r : OpenRow} {q : Program} {K : Params → Frag} {as ts : List Addr} {e : ∀ P, as = (K P).map (·.1)} {M : Nat} {loose : List PySem.Str} {d : DefRec} {kwd : List (PySem.Str × PySem.Expr)}
    (H : Hook) (hH : H = kmHook K as e ts) (ra : ∀ w, RunA r M w) (rb : ∀ w, RunB r q M loose w) (run : ∀ w, RunC r (kmHook K as e ts) (obK as ts) M w)
    (hdef : defOf q r.name = some (d, kwd)) (hp : r.prog.theDef r.name = some (d.params, d.body, d.scope)) (hk : kwWritten? d.params.kwonlyargs d.params.kw_defaults = some kwd)
    (hwr : (!r.writes || r.records.isEmpty) = true) (k1 : r.wellSaid = true) (ok : (chainsOk q && opensWell r.prog && (frees r.toRowW && r.within.isEmpty)) = true) (hb : r.prog.bare) (hw : r.toRowW.promised)
    (call : WalkO q loose (XL q []) (kmHook K as e ts).says r.toRowW d kwd fun f vs => PySem.call f vs) : r.Holds :=
  head_kmI H hH (fun w => run_abc (ra w) (rb w) (run w)) hdef hp hk hwr k1 ok hb hw call
theorem keepH {r : OpenRow} (h : r.Holds) (H : Hook) : r.Holds := h
noncomputable def obK1 (as : List Addr) (s : SharedT) : List (Option Obj) := as.map (getT s)
theorem head_kkJ {r : OpenRow} {q : Program} {K : Params → Frag} {as : List Addr} {e : ∀ P, as = (K P).map (·.1)} {M : Nat} {loose : List PySem.Str} {d : DefRec} {kwd : List (PySem.Str × PySem.Expr)}
    (H : Hook) (hH : H = kHook K as e) (ra : ∀ w, RunA r M w) (rb : ∀ w, RunB r q M loose w) (run : ∀ w, RunC r (kHook K as e) (obK1 as) M w)
    (hdef : defOf q r.name = some (d, kwd)) (hp : r.prog.theDef r.name = some (d.params, d.body, d.scope)) (hk : kwWritten? d.params.kwonlyargs d.params.kw_defaults = some kwd)
    (hwr : (!r.writes || r.records.isEmpty) = true) (k1 : r.wellSaid = true) (ok : (chainsOk q && opensWell r.prog && (frees r.toRowW && r.within.isEmpty)) = true) (hb : r.prog.bare) (hw : r.toRowW.promised)
    (call : WalkO q loose (XL q []) (kHook K as e).says r.toRowW d kwd fun f vs => PySem.call f vs) : r.Holds :=
  head_kkI H hH (fun w => run_abc (ra w) (rb w) (run w)) hdef hp hk hwr k1 ok hb hw call
/-- .. of a program without imports -/
def RunA0 (r : OpenRow) (M : Nat) (w : World) : Prop := ∀ os : OsState, (endF (stepQ (denQ tabQ) r.prog w) M r.prog w os).map (fun s => looksF r.prog (boot_heap w.params) s.abs) = some true
def RunB0 (r : OpenRow) (q : Program) (M : Nat) (loose : List PySem.Str) (w : World) : Prop := ∀ os : OsState, (endF (stepQ (denQ tabQ) r.prog w) M r.prog w os).map (fun s => seenQ q loose (importedModules r.prog.main.body) (fun s => xlAt q [] s && recOk r.toRowW.records s) s.abs) = some (openGood q loose)
def RunC0 (r : OpenRow) (H : Hook) (ob : SharedT → H.α) (M : Nat) (w : World) : Prop := ∀ os : OsState, (endF (stepQ (denQ tabQ) r.prog w) M r.prog w os).map ob = some (H.val w)
theorem run_abc0 {r : OpenRow} {q : Program} {H : Hook} {ob : SharedT → H.α} {M : Nat} {loose : List PySem.Str} {w : World} (a : RunA0 r M w) (b : RunB0 r q M loose w) (c : RunC0 r H ob M w) : RunEq r q H ob M loose w := fun os => opt_pair (a os) (opt_pair (b os) (c os))
theorem head_kmJ0 {r : OpenRow} {q : Program} {K : Params → Frag} {as ts : List Addr} {e : ∀ P, as = (K P).map (·.1)} {M : Nat} {loose : List PySem.Str} {d : DefRec} {kwd : List (PySem.Str × PySem.Expr)}
    (H : Hook) (hH : H = kmHook K as e ts) (eo : opening r.prog = plainProg r.prog.main.scope.names) (f : ∀ s, fenceModules? r.prog s = some s) (ra : ∀ w, RunA0 r M w) (rb : ∀ w, RunB0 r q M loose w) (run : ∀ w, RunC0 r (kmHook K as e ts) (obK as ts) M w)
    (hdef : defOf q r.name = some (d, kwd)) (hp : r.prog.theDef r.name = some (d.params, d.body, d.scope)) (hk : kwWritten? d.params.kwonlyargs d.params.kw_defaults = some kwd)
    (hwr : (!r.writes || r.records.isEmpty) = true) (k1 : r.wellSaid = true) (ok : (chainsOk q && opensWell r.prog && (frees r.toRowW && r.within.isEmpty)) = true) (hb : r.prog.bare) (hw : r.toRowW.promised)
    (call : WalkO q loose (XL q []) (kmHook K as e ts).says r.toRowW d kwd fun f vs => PySem.call f vs) : r.Holds :=
  head_km H hH eo f (fun w => run_abc0 (ra w) (rb w) (run w)) hdef hp hk hwr k1 ok hb hw call
theorem head_kkJ0 {r : OpenRow} {q : Program} {K : Params → Frag} {as : List Addr} {e : ∀ P, as = (K P).map (·.1)} {M : Nat} {loose : List PySem.Str} {d : DefRec} {kwd : List (PySem.Str × PySem.Expr)}
    (H : Hook) (hH : H = kHook K as e) (eo : opening r.prog = plainProg r.prog.main.scope.names) (f : ∀ s, fenceModules? r.prog s = some s) (ra : ∀ w, RunA0 r M w) (rb : ∀ w, RunB0 r q M loose w) (run : ∀ w, RunC0 r (kHook K as e) (obK1 as) M w)
    (hdef : defOf q r.name = some (d, kwd)) (hp : r.prog.theDef r.name = some (d.params, d.body, d.scope)) (hk : kwWritten? d.params.kwonlyargs d.params.kw_defaults = some kwd)
    (hwr : (!r.writes || r.records.isEmpty) = true) (k1 : r.wellSaid = true) (ok : (chainsOk q && opensWell r.prog && (frees r.toRowW && r.within.isEmpty)) = true) (hb : r.prog.bare) (hw : r.toRowW.promised)
    (call : WalkO q loose (XL q []) (kHook K as e).says r.toRowW d kwd fun f vs => PySem.call f vs) : r.Holds :=
  head_kk H hH eo f (fun w => run_abc0 (ra w) (rb w) (run w)) hdef hp hk hwr k1 ok hb hw call
end FW
namespace FW
abbrev hR : PySem.W.OpenRow := PySem.W.OpenLaw.row PySem.Challenge.rw_fourwalls_k15_states_of_joined_machines
abbrev hq : PySem.Program := PySem.W.view hR.prog [41]
def hn0 : List PySem.Str := ["_wall", "__name__", "HouseError", "Missing", "InvalidFaces", "InvalidString", "InvalidTable", "InvalidBad", "OtherFaces", "TooMany", "UnknownState", "NothingLeft", "_LOWER", "_MOST_FACES", "is_ascending", "is_choice", "is_faces", "is_integer", "is_number", "is_string", "is_row", "check_table", "check_bad", "end_of", "pairs_of", "check_other", "Machine", "_law_open", "_law_draw", "_law_same"]
def hn1 : List PySem.Str := ["_law_field", "_law_try", "_law_tries", "_law_letters", "_law_some_faces", "_law_some_machine", "_law_machine", "_law_joint"]
def hnames : List PySem.Str := hn0 ++ hn1
section
open PySem PySem.W PyProof.Rows
local macro_rules | `(tactic| o_head $H) => `(tactic| (refine FW.keepH ?_ $H; assumption))
theorem hk0 (X : hR.Holds) : hR.Holds := by
  w_on; k_head
end
def has : List PySem.Addr := [2, 3, 15, 17, 18, 20, 21, 22, 29, 30, 31, 32, 35, 42, 43, 44, 45, 48, 55, 57, 58, 60, 61, 62, 63, 64, 67, 74, 76, 77, 79, 80, 81, 82, 83, 86, 93, 95, 96, 98, 99, 100, 101, 102, 105, 112, 114, 115, 117, 118, 119, 120, 121, 124, 131, 133, 134, 136, 137, 138, 139, 140, 143, 150, 152, 153, 155, 156, 157, 158, 159, 162, 169, 171, 172, 174, 175, 176, 177, 178, 181, 188, 190, 191, 193, 194, 195, 196, 197, 198, 201, 204, 205, 206, 208, 209, 211, 212, 213, 215, 216, 218, 219, 220, 222, 223, 225, 226, 227, 229, 230, 232, 233, 234, 237, 238, 239, 242, 243, 244, 246, 247, 249, 250, 251, 253, 254, 256, 257, 258, 260, 261, 263, 264, 265, 267, 268, 270, 271, 272, 274, 275, 277, 278, 286, 287, 288, 291, 292, 293, 295, 296, 298, 299, 300, 301, 303, 304, 306, 307, 308, 310, 311, 313, 314, 315, 317, 318, 320, 321, 322, 323, 325, 326, 328, 329, 330, 332, 333, 335, 336, 337, 340, 341, 342, 345, 346, 347, 350, 351, 352, 354, 355, 357, 358, 359, 361, 362, 364, 365, 366, 368, 369, 371, 372, 373, 374, 375, 376, 378, 379, 381, 382, 383, 384, 385, 386, 387, 389, 390, 392, 393, 394, 395, 396, 397, 398, 399, 400, 401, 404, 406, 407, 409, 410, 411, 413, 414, 416, 417, 418, 421, 422, 423, 425, 426, 428, 429, 430, 432, 433, 435, 436, 437, 440, 441, 442, 444, 445, 447, 448, 449, 451, 452, 454, 455, 456, 459, 460, 461, 463, 464, 466, 467, 468, 470, 471, 473, 474, 475, 478, 479]
def hts : List PySem.Addr := [476]
theorem hasE : ∀ P, has = (hk0.heap_1 P).map (·.1) := fun _ => by kernel_rfl
theorem hRC (w : PySem.World) : FW.RunC0 FW.hR (PySem.W.kmHook hk0.heap_1 has hasE hts) (FW.obK has hts) 20000 w := by
  refine PySem.W.byRow2 "special-get-raises" (P := fun w => FW.RunC0 FW.hR (PySem.W.kmHook hk0.heap_1 has hasE hts) (FW.obK has hts) 20000 w) (fun w => ?_) (fun w => ?_) w
  · intro os
    kernel_rfl
  · intro os
    kernel_rfl
theorem hRA (w : PySem.World) : FW.RunA0 FW.hR 20000 w := by
  refine PySem.W.byRow2 "special-get-raises" (P := fun w => FW.RunA0 FW.hR 20000 w) (fun w => ?_) (fun w => ?_) w
  · intro os
    kernel_rfl
  · intro os
    kernel_rfl
theorem hRB (w : PySem.World) : FW.RunB0 FW.hR FW.hq 20000 FW.hnames w := by
  refine PySem.W.byRow2 "special-get-raises" (P := fun w => FW.RunB0 FW.hR FW.hq 20000 FW.hnames w) (fun w => ?_) (fun w => ?_) w
  · intro os
    kernel_rfl
  · intro os
    kernel_rfl
end FW
namespace FW
open PySem PySem.Spec PyProof.Rows L2 Builtin Builtin.Getset_descriptor PySem.W
/-! ### the name of a class of the program -/
theorem own_dga (d tp : Value) (C : Addr) : descrGetArgs ⟨[d, .ref C, tp], []⟩ = pure (d, some (.ref C), given tp) := by kernel_rfl
section
variable {prog : Program} {w : World} {A : Around} {E : Value → Shared → Prop} {s : Shared} {K : PySem.W.Frag}
theorem own_get {C : Addr} {tp : Value} {R : Result → Shared → Prop} {o : Obj} {z : Str} {tk : Tok} (X : K.In s.heap) (ht : PySem.W.typeIn K (.ref C) = some (.type "type")) (ho : s.heap.get? C = some o) (hs : o.slots[2]? = some (some (.str z tk)))
    (h : R (.ok (.ret (.str z tk))) s) :
    codeAny (model prog w) A (.call (.builtin "getset_descriptor.__get__") ⟨[.builtin "type.__name__", .ref C, tp], []⟩) R s := by
  obtain ⟨hh, g, dr, t, os⟩ := s
  have t1 : Looks (model prog w) hh (typeOf (.ref C)) (.type "type") := looks_typeIn X ht
  have t2 : Looks (model prog w) hh (isSubtype (.type "type") (.type "type")) true := .of_pure (by
    rw [isSubtype_type]
    kernel_rfl)
  refine codeAny_call_builtin KF.slot_gs.plain KF.entry_gs
    (KF.slot_gs.check _ _ _ _ _ _ _ _
      ktyn_type (KF.args_gs _ _ _) ?_)
  unfold Builtin.«getset_descriptor.__get__» descrGet
  rw [own_dga]
  refine wpAny_bind (wpAny_pure ?_)
  unfold descrGetter descrCheckInstance descrNameAndClass isInstance
  simp only [ktyn_owner]
  repeat lk
  refine ⟨Code.quiet_builtin _ (by decide +kernel), codeAny_builtin
    ktyn_entry ?_⟩
  unfold Builtin.«type.__name__»
  dsimp only
  unfold keptObject PySem.slotAt
  dsimp only
  refine wpAny_bind (wpAny_bind (wpAny_loadPart ho (wpAny_pure ?_)))
  rw [hs]
  exact wpAny_pure h
/-- the name that a class of the program was made with -/
structure NameC (K : PySem.W.Frag) (C : Addr) (z : Str) : Prop where
  ob : ∃ (o : Obj) (tk : Tok), K.lookup C = some o ∧ o.slots[2]? = some (some (.str z tk))
  ty : PySem.W.typeIn K (.ref C) = some (.type "type")
  rd : readsIn K C (.type "type") = true
  fd : findCls K (.ref C) (.type "type") "__name__" = some (.get (.builtin "getset_descriptor.__get__") (.builtin "type.__name__") (.ref C) (.type "type"))
theorem name_get {C : Addr} {z : Str} {ex : Bool} {Q : Value → Shared → Prop} (X : K.In s.heap) (N : NameC K C z) (h : ∀ tk u, Q (.str z tk) { s with toks := u }) : wpAny (model prog w) A (getAttr (.ref C) "__name__" ex) Q E s := by
  obtain ⟨o, tk, ho, hs⟩ := N.ob
  refine cls_bind X N.rd N.fd (wpAny_call ?_)
  exact own_get (s := { s with toks := s.toks + 1 }) X N.ty (X _ _ ho) hs (handed_on rfl (h tk _))
/-- what an exception class has for the reading of e.__class__ -/
structure ClsE (K : PySem.W.Frag) (C : Addr) : Prop where
  cl : (clsIn K C).isSome = true
  ga : PySem.W.findIn K (.ref C) "__getattribute__" = some (some (.builtin "BaseException.__getattribute__"))
  gg : PySem.W.findIn K (.ref C) "__getattr__" = some none
  ex : PySem.W.subIn K (.ref C) (.type "BaseException") = some true
  fc : PySem.W.findIn K (.ref C) "__class__" = some (some (.builtin "object.__class__"))
  ob : PySem.W.mroIn K C (.type "object") = some true
structure GsK (K : PySem.W.Frag) : Prop where
  sp : specialIn K (.builtin "object.__class__") "__get__" = some (some (.builtin "getset_descriptor.__get__"))
  tk : takesIn K (.builtin "object.__class__") = some true
theorem cls_get {x C : Addr} {ox : Obj} {od : Option Obj} {ex : Bool} {Q : Value → Shared → Prop} (X : K.In s.heap) (I : InstAt s.heap x ox C od) (T : ClsE K C) (G : GsK K) (h : ∀ u, Q (.ref C) { s with toks := u }) : wpAny (model prog w) A (getAttr (.ref x) "__class__" ex) Q E s := by
  obtain ⟨hp, g, d, t, os⟩ := s
  have hf : findObj K C od "__class__" = some (.bind (.builtin "getset_descriptor.__get__") (.builtin "object.__class__")) := findObj_dataE T.cl T.fc G.sp G.tk
  have l0 := I.type (M := model prog w)
  have l1 := looks_findIn (M := model prog w) X T.ga
  have l2 := looks_findIn (M := model prog w) X T.gg
  have l3 := looks_find (M := model prog w) X I hf
  have sub : Looks (model prog w) hp (isInstance (.ref x) (.type "BaseException")) true := l0.andThen (looks_subIn X T.ex)
  have n0 : (ex && onTheHeap (Value.builtin "BaseException.__getattribute__")) = false := by cases ex <;> rfl
  have n2 : (Value.builtin "BaseException.__getattribute__" == Value.builtin "object.__getattribute__") = false := by
    decide +kernel
  have n1 : (onTheHeap (.ref C) && Value.builtin "BaseException.__getattribute__" == Value.builtin "object.__getattribute__") = false := (congrArg (onTheHeap (.ref C) && ·) n2).trans (Bool.and_false _)
  unfold getAttr getAttrBy
  refine wpAny_bind (wpAny_mkText (wpAny_holding (wpAny_bind (l0.at (wpAny_bind (l1.at ?_))))))
  dsimp only
  rw [n1, if_neg Bool.false_ne_true]
  unfold getAttrByItsOwn hookBefore
  refine wpAny_bind ?_
  rw [if_pos (by rfl)]
  refine l2.at ?_
  refine wpAny_bind (wpAny_attempt (wpAny_holding ?_))
  unfold callGetattribute
  rw [n0, if_neg Bool.false_ne_true]
  unfold boundAndCalled
  rw [PySem.F.excAttr_ValueError.ga.bind (.ref x)]
  refine wpAny_bind (wpAny_pure ?_)
  refine wpAny_call (codeAny_call_builtin PySem.F.excAttr_ValueError.ga.plain
    PySem.F.entry_bexc_ga ?_)
  refine @PySem.W.check_slot (model prog w) _ _ ⟨hp, g, d, t + 1, os⟩ "BaseException.__getattribute__" "BaseException" "__getattribute__" (.ref x)
    [.str "__class__" t] [] _ (by decide +kernel) (by decide +kernel) sub (PySem.F.args_bexc_ga (.ref x) (.str "__class__" t)) ?_
  unfold Builtin.«object.__getattribute__»
  refine wpAny_bind (wpAny_of_eq (a := ((Value.ref x : Value), [Value.str "__class__" t]))
    (by first | rfl | (simp only [slotArgs]; rfl)) ?_)
  refine wpAny_bind (wpAny_pure (wpAny_bind (l0.at (wpAny_bind (l3.at ?_)))))
  refine wpAny_bind (wpAny_holding (wpAny_call
    (class_get (s := ⟨hp, g, d, t + 1, os⟩) (ox := ox) (od := od) X I T.ob ?_)))
  refine wpAny_pure ?_
  exact handed_on rfl (h _)
end
/-! ### the readings -/
section
variable {X : Cx} {e : Expr} {te : TE} {p : Pos}
/-- the object at a is an exception that is being made -/
def Exo (H : Hp) (a C : Addr) : Prop := H a = some (exo a C none) ∨ ∃ (d : Addr) (fs : List (Str × V)), H a = some (exo a C (some d)) ∧ H d = some (exd d fs)
theorem Exo.inst {P : Program} {w : World} {H : Hp} {h : Heap} {a C : Addr} (x : Exo H a C) (hok : HOk P w H h) : ∃ (ox : Obj) (od : Option Obj), InstAt h a ox C od := by
  rcases x with q | ⟨d, fs, q, q2⟩
  · obtain ⟨t1, ho⟩ := exo_at hok q
    exact ⟨_, none, ho, rfl, rfl, True.intro⟩
  · obtain ⟨t1, ho⟩ := exo_at hok q
    obtain ⟨mA, ⟨od, es, ep, h1, _⟩, _⟩ := exd_at hok q2
    exact ⟨_, some od, ho, rfl, rfl, h1⟩
theorem pe_cls (G : GsK X.K) (he : PE X e te) (hb : attributeBase e "__class__" X.env (eval e X.env) = eval e X.env := by rfl) : PE X (.Attribute e "__class__" p) (fun σ H Q => te σ H fun x H1 => ∃ a C : Addr, x = .ref a ∧ Exo H1 a C ∧ ClsE X.K C ∧ Q (.ref C) H1) := by
  refine ⟨fun pins s σ H Q I h => attr_of hb (thn (he.run pins s σ H _ I h) fun u s1 hh => ?_)⟩
  obtain ⟨x, H1, I1, rx, a, C, ex, xo, T, q⟩ := hh
  subst ex
  obtain rfl : u = Value.ref a := rx
  obtain ⟨ox, od, J⟩ := xo.inst I1.hok
  exact cls_get I1.kIn J T G fun u => ⟨.ref C, H1, I1.tok _, rfl, q⟩
theorem pe_name (he : PE X e te) (hb : attributeBase e "__name__" X.env (eval e X.env) = eval e X.env := by rfl) : PE X (.Attribute e "__name__" p) (fun σ H Q => te σ H fun x H1 => ∃ (C : Addr) (z : Str), x = .ref C ∧ NameC X.K C z ∧ Q (.str z) H1) := by
  refine ⟨fun pins s σ H Q I h => attr_of hb (thn (he.run pins s σ H _ I h) fun u s1 hh => ?_)⟩
  obtain ⟨x, H1, I1, rx, C, z, ex, N, q⟩ := hh
  subst ex
  obtain rfl : u = Value.ref C := rx
  exact name_get I1.kIn N fun tk u => ⟨.str z, H1, I1.tok _, ⟨tk, rfl⟩, q⟩
end
end FW
namespace FW
open PySem PySem.Spec PyProof.Rows L2
/-! ### a caught exception as one of the things that the heap is known to hold -/
def ExK (cls : Value) (d : Option Addr) (a : Addr) : HO := .ext fun h => ∃ (oe : Obj) (vs : Array Value), h.get? a = some oe ∧ Zc cls d oe ∧ oe.data = .fields vs
theorem exk_ok {P : Program} {w : World} {H : Hp} {h : Heap} {a : Addr} {cls : Value} {d : Option Addr} {oe : Obj} {vs : Array Value} (ha : h.get? a = some oe) (hz : Zc cls d oe) (hd : oe.data = .fields vs) : ObjOk P w H h a (ExK cls d a) :=
  ⟨⟨oe, vs, ha, hz, hd⟩, ⟨oe, ha⟩, fun _ _ ⟨o, v, q1, q2, q3⟩ st => ⟨o, v, st _ q1, q2, q3⟩⟩
theorem exk_at {P : Program} {w : World} {H : Hp} {h : Heap} {a : Addr} {cls : Value} {d : Option Addr} (ok : HOk P w H h) (e : H a = some (ExK cls d a)) : ∃ (oe : Obj) (vs : Array Value), h.get? a = some oe ∧ Zc cls d oe ∧ oe.data = .fields vs := by
  have z : ObjOk P w H h a (.ext fun h => ∃ (oe : Obj) (vs : Array Value), h.get? a = some oe ∧ Zc cls d oe ∧ oe.data = .fields vs) := ok a _ e
  exact z.1
section
variable {X : Cx} {pins : List (Addr × Obj)} {σ : L2.St} {H : Hp} {s : Shared}
theorem adopt {a : Addr} {cls : Value} {d : Option Addr} {oe : Obj} {vs : Array Value} (I : Inv X pins σ H s) (ha : s.heap.get? a = some oe) (hz : Zc cls d oe) (hd : oe.data = .fields vs) (na : H a = none) (nL : a ≠ X.env.locals)
    (n0 : X.s_0.heap.get? a = none) (np : ∀ p ∈ X.pn ++ pins, p.1 ≠ a) : Inv X pins σ (upd H a (ExK cls d a)) s where
  ok := I.ok
  os := I.os
  bare := I.bare
  base :=
    { keep := I.base.keep
      slot := I.base.slot
      free := fun b o e n hx => (upd_ne (fun z => by rw [z, n0] at e; cases e)).trans (I.base.free b o e n hx)
      there := I.base.there
      tups := fun b xs q => (upd_ne (ne_of_none (I.base.tups b xs q) na)).trans (I.base.tups b xs q)
      frzs := fun b o u q => (upd_ne (ne_of_none (I.base.frzs b o u q) na)).trans (I.base.frzs b o u q)
      tbls := fun b ps q => by
        obtain ⟨more, e⟩ := I.base.tbls b ps q
        exact ⟨more, (upd_ne (ne_of_none e na)).trans e⟩ }
  loc := I.loc
  cell := I.cell
  free := (upd_ne (Ne.symm nL)).trans I.free
  freeC := fun x c e => (upd_ne (fun z => by
    obtain ⟨v, o, ho, hc⟩ := I.cell x c e
    rw [z, ha] at ho
    cases ho
    rw [hd] at hc
    cases hc)).trans (I.freeC x c e)
  pin := fun p hp => by
    obtain ⟨q1, q2, q3, q4, q5⟩ := I.pin p hp
    exact ⟨q1, (upd_ne (np p hp)).trans q2, q3, q4, q5⟩
  hok := fun b o e => by
    by_cases hb : b = a
    · subst hb
      rw [upd_same] at e
      cases e
      exact exk_ok ha hz hd
    · rw [upd_ne hb] at e
      exact (I.hok b o e).stay (fun _ _ _ q => q) (fun c q => (upd_ne (ne_of_none q na)).trans q) fun c xs q => (upd_ne (ne_of_none q na)).trans q
  len := I.len
theorem in_suite {a : Addr} (I : Inv X pins σ H s) : Inv (X.suite a (X.pn ++ pins)) [] σ H s :=
  ⟨I.ok.suite _ _, I.os, I.bare, I.base, I.loc, I.cell, I.free, I.freeC, fun p hp => I.pin p ((List.append_nil (X.pn ++ pins)) ▸ hp), I.hok, I.len⟩
theorem of_suite {a : Addr} {pn' : List (Addr × Obj)} (I : Inv (X.suite a (X.pn ++ pins)) pn' σ H s) (ok : X.Ok) : Inv X pins σ H s :=
  ⟨ok, I.os, I.bare, I.base, I.loc, I.cell, I.free, I.freeC, fun p hp => I.pin p (List.mem_append_left _ hp), I.hok, I.len⟩
end
theorem flying_kept {B h h' : Heap} {l : List Env} {a : Addr} {Z : Obj → Prop} (x : HandSPX.FlyingZ B l a Z h) (k : ∀ b o, h.get? b = some o → h'.get? b = some o) : HandSPX.FlyingZ B l a Z h' := by
  obtain ⟨k1, k2, k3, oe, vs, T, oT, ts, h1, h2, h3, h4, h5, h6, h7, h8, h9⟩ := x
  exact ⟨fun b o e => k b o (k1 b o e), k2, k3.of_keeps fun b o e _ => ⟨o, k b o e, rfl⟩, oe, vs, T, oT, ts, k a _ h1, h2, h3, h4, h5, h6, k T _ h7, h8, h9⟩
/-- what 'except (x1, x2, x3) as n' wishes: it takes the exception; slot i is n's -/
def wIn (K : PySem.W.Frag) (m : Nat) (cs : List Value) (i : Nat) (ts : TS) (D : Ends) : WX := fun cls d σ H =>
  PySem.W.exmAny K cls cs = some true ∧ ∀ a, H a = none → σ.length = m → ts { nx := fun σ' H' => D.nx (σ'.set i none) H', rt := D.rt, bk := fun σ' H' => D.bk (σ'.set i none) H', ct := fun σ' H' => D.ct (σ'.set i none) H' } (σ.set i (some (.ref a))) (upd H a (ExK cls d a))
section
variable {X : Cx} {x1 x2 x3 n : Str} {C1 C2 C3 : Addr} {i : Nat} {body suite : List Stmt} {b₀ : Stmt} {q1 q2 q3 qt pos pos' : Pos} {tb : WX → TS} {ts : TS}
theorem ps_try3 {cx} (hs : X.stack = X.env :: X.outer) (hf : X.env.frame = some X.env.locals) (hex : X.ex = []) (hN : X.N.Nodup) (hi : X.N[i]? = some n) (hln : X.env.kindOf n = some .local)
    (g1 : Gl X x1) (m1 : X.mg x1 = some (.ref C1)) (g2 : Gl X x2) (m2 : X.mg x2 = some (.ref C2)) (g3 : Gl X x3) (m3 : X.mg x3 = some (.ref C3))
    (hb : ∀ (W : WX) (pn : List (Addr × Obj)) (xe : Value → Shared → Prop), Takes (X.tr pn xe) W → PassesOwn (model X.prog X.w) X.A X.env xe → PSs (X.tr pn xe) body (tb W))
    (hsu : ∀ (a : Addr) (pn : List (Addr × Obj)), PSs (X.suite a pn) (b₀ :: suite) ts)
    (d1 : (x1 == ("__debug__" : Str)) = false := by decide) (d2 : (x2 == ("__debug__" : Str)) = false := by decide) (d3 : (x3 == ("__debug__" : Str)) = false := by decide) :
    PS X (.Try body [.ExceptHandler (some (.Tuple [.Name x1 q1, .Name x2 q2, .Name x3 q3] cx qt)) (some n) (b₀ :: suite) pos'] [] [] pos) (fun D σ H => tb (wIn X.K X.N.length [.ref C1, .ref C2, .ref C3] i ts D) D σ H) := by
  refine ⟨fun pins s σ H D I h => wpAny_Try_except ?_⟩
  have ok := I.ok
  have fr : X.A.frames = some (X.env :: X.outer) := ok.frames.trans (congrArg some hs)
  have hl : Loc X.env.scope n := .inl hln
  generalize hhd : [ExceptHandler.ExceptHandler (some (.Tuple [.Name x1 q1, .Name x2 q2, .Name x3 q3] cx qt)) (some n) (b₀ :: suite) pos'] = hd
  let xe' : Value → Shared → Prop := fun e s1 => wpAny (model X.prog X.w) X.A (noteFrame e X.env)
    (fun _ s2 => wpAny (model X.prog X.w) X.A (setFlight e none)
      (fun _ s3 => wpAny (model X.prog X.w) X.A (handleBy e X.env hd) (SP X pins D) X.xe s3) X.xe s2) X.xe s1
  have caught : Takes (X.tr (X.pn ++ pins) xe') (wIn X.K X.N.length [.ref C1, .ref C2, .ref C3] i ts D) := by
    rintro u s' ⟨a, B, sI, pins', σ', H', cls, d, rfl, J', nb, up, sky, na, os, ag, w1, w2⟩
    have J : Inv X pins σ' H' sI := J'.ofTry ok
    have sk : Sky B (X.env :: X.outer) a (Zc cls d) X.env.locals s'.heap := hs ▸ sky
    show wpAny (model X.prog X.w) X.A (noteFrame (.ref a) X.env) _ _ _
    refine Sky.land Zc.steady fr hf sk fun h3 fl up3 => ?_
    have J3 : Inv X pins σ' H' { s' with heap := h3 } := J.landed nb fl.1 (up.trans up3) os ag
    obtain ⟨oe, vs, he, hz, hdt⟩ := fl.there
    have out : a ∉ frs (X.env :: X.outer) := fun hm => by
      obtain ⟨_, o, e', hn⟩ := fl.2.2.1.mem hm
      rw [he] at e'
      cases e'
      exact hn _ hdt
    have nL : a ≠ X.env.locals := fun z => out (List.mem_filterMap.mpr ⟨X.env, List.mem_cons_self, hf.trans (congrArg some z.symm)⟩)
    have nB : B.get? a = none := fl.2.1
    have notI : ∀ o, sI.heap.get? a ≠ some o := fun o e => by
      rw [nb a o e (hs ▸ out)] at nB
      cases nB
    have n0 : X.s_0.heap.get? a = none := by
      cases e : X.s_0.heap.get? a with
      | none => rfl
      | some o =>
        obtain ⟨o', e'⟩ := J.base.there a o e (by rw [hex]; exact List.not_mem_nil)
        exact absurd e' (notI o')
    have np : ∀ p ∈ X.pn ++ pins, p.1 ≠ a := fun p hp z => notI p.2 (z ▸ (J.pin p hp).1)
    subst hhd
    refine wpAny_handleBy_cons (codeAny_handlers_test ?_) (fun q => by cases q)
    have S3 : Inv (X.suite a (X.pn ++ pins)) [] σ' H' { s' with heap := h3 } := in_suite J3
    refine wpAny_Tuple_spliced (Calls.spliced_cons (ld_glob (X := X.suite a (X.pn ++ pins)) S3 g1 m1 ?_ d1))
    refine Calls.spliced_cons (ld_glob (X := X.suite a (X.pn ++ pins)) S3 g2 m2 ?_ d2)
    refine Calls.spliced_cons (ld_glob (X := X.suite a (X.pn ++ pins)) S3 g3 m3 ?_ d3)
    refine Calls.spliced_nil ⟨(show 3 ≤ sizeLine by decide), ?_⟩
    have kp : ∀ b o, h3.get? b = some o → (h3.push { cls := .type "tuple", data := .seq [Value.ref C1, .ref C2, .ref C3].toArray }).get? b = some o := fun b o e => Heap.get?_push_of_some _ e
    have tp := Heap.get?_push_size h3 (o := { cls := .type "tuple", data := .seq [Value.ref C1, .ref C2, .ref C3].toArray }) rfl
    have fl2 := flying_kept fl kp
    generalize (h3.push { cls := .type "tuple", data := .seq [Value.ref C1, .ref C2, .ref C3].toArray }) = h4 at kp tp fl2
    have up4 : h3.UpToSlots h4 := .of_keeps kp
    have ty : PySem.W.Looks (model X.prog X.w) h4 (typeOf (.ref a)) cls := fun _ _ _ _ k q => wpAny_typeOf_ref (k _ _ (kp _ _ he)) (by rw [hz.1]; exact q)
    refine (PySem.W.exm_tup3 (M := model X.prog X.w) (J3.kIn.keeps kp) ty tp w1).here ?_
    refine codeAny_handlers_suite_as ?_
    refine HandSPX.lands_againZ fl2 fun h5 fl5 up5 => ?_
    have J5 : Inv X pins σ' H' { s' with heap := h5 } := J.landed nb fl5.1 (((up.trans up3).trans up4).trans up5) os ag
    obtain ⟨oe5, vs5, he5, hz5, hd5⟩ := fl5.there
    have S5 : Inv (X.suite a (X.pn ++ pins)) [] σ' (upd H' a (ExK cls d a)) { s' with heap := h5 } := in_suite (adopt J5 he5 hz5 hd5 na nL n0 np)
    refine store_ok (X := X.suite a (X.pn ++ pins)) (v := .ref a) S5 hN hi hl rfl (fun s6 S6 => ?_) (.inr hln)
    refine wpAny_mono ((hsu a (X.pn ++ pins)).run [] s6 _ _ _ S6 (w2 a na J.len)) (fun f s7 hsp => ?_) (fun _ _ z => False.elim z)
    have gone : ∀ {σ7 : L2.St} {H7 : Hp} {Q : Shared → Prop}, Inv (X.suite a (X.pn ++ pins)) [] σ7 H7 s7 → (∀ s8, Inv X pins (σ7.set i none) H7 s8 → Q s8) →
        wpAny (model X.prog X.w) X.A (do bindName X.env n .none; unbindBehindTheSuite X.env n pos') (fun _ s8 => Q s8) X.xe s7 := fun S7 hq => gone_ok (of_suite S7 ok) hN hi hln hq
    cases f with
    | next =>
      obtain ⟨σ7, H7, S7, q7⟩ := hsp
      exact gone S7 fun _ J8 => ⟨_, _, J8, q7⟩
    | brk =>
      obtain ⟨σ7, H7, S7, q7⟩ := hsp
      exact gone S7 fun _ J8 => ⟨_, _, J8, q7⟩
    | cont =>
      obtain ⟨σ7, H7, S7, q7⟩ := hsp
      exact gone S7 fun _ J8 => ⟨_, _, J8, q7⟩
    | ret u =>
      obtain ⟨v7, σ7, H7, S7, r7, q7⟩ := hsp
      exact gone S7 fun _ J8 => ⟨_, _, _, J8, r7, q7⟩
  refine wpAny_mono ((hb _ (X.pn ++ pins) xe' caught PassesOwn.looking).run [] s σ H D (I.toTry _) h) (fun f s1 hsp => ?_) (fun _ _ z => z)
  cases f with
  | next =>
    obtain ⟨σ2, H2, J2, q⟩ := hsp
    exact wpAny_execs_nil ⟨σ2, H2, J2.ofTry ok, q⟩
  | brk =>
    obtain ⟨σ2, H2, J2, q⟩ := hsp
    exact ⟨σ2, H2, J2.ofTry ok, q⟩
  | cont =>
    obtain ⟨σ2, H2, J2, q⟩ := hsp
    exact ⟨σ2, H2, J2.ofTry ok, q⟩
  | ret u =>
    obtain ⟨v, σ2, H2, J2, r, q⟩ := hsp
    exact ⟨v, σ2, H2, J2.ofTry ok, r, q⟩
end
/-! ### a field of such a thing -/
def tXk (K : PySem.W.Frag) (f : Str) (te : TE) : TE := fun σ H Q => te σ H fun x H1 => ∃ (a C dd : Addr) (fs : List (Str × V)) (v : V), x = .ref a ∧ H1 a = some (ExK (.ref C) (some dd) a) ∧ H1 dd = some (.xd fs) ∧
  XfC K C ∧ PySem.W.findIn K (.ref C) f = some none ∧ fs.lookup f = some v ∧ Q v H1
theorem pe_xk {X : Cx} {e : Expr} {te : TE} {pos : Pos} {f : Str} (he : PE X e te) (hb : attributeBase e f X.env (eval e X.env) = eval e X.env := by rfl) : PE X (.Attribute e f pos) (tXk X.K f te) := by
  refine ⟨fun pins s σ H Q I h => attr_of hb (thn (he.run pins s σ H _ I h) fun u s1 hh => ?_)⟩
  obtain ⟨x, H1, I1, rx, a, C, dd, fs, v, ex, ea, ed, T, hno, l, q⟩ := hh
  subst ex
  obtain rfl : u = Value.ref a := rx
  obtain ⟨oe, vs, ha, hz, hd⟩ := exk_at I1.hok ea
  have hx : ObjOk X.prog X.w H1 s1.heap dd (.xd fs) := I1.hok dd _ ed
  obtain ⟨mA, hns, hr⟩ := hx
  obtain ⟨od, ho, hl⟩ := lookIn_ns hns
  obtain ⟨u, hu, ru⟩ := RelO.some_of (v := v) (o := mA f) (by rw [← l]; exact hr f)
  have J : PySem.W.InstAt s1.heap a oe C (some od) := ⟨ha, hz.1, (by unfold PySem.W.notCls; rw [hd] <;> rfl), (by rw [hz.2]; exact ho)⟩
  exact HandSPX.exc_get I1.kIn J T.ga T.gg T.exC (PySem.W.findObj_own T.hdC hno rfl ((hl f).trans (congrArg some hu))) (handed_of ru)
    ⟨v, H1, I1.tok _, ru, q⟩
end FW
namespace FW
open PySem PySem.Spec PyProof.Rows L2
/-! ### defs that are called while an exception is handled; they raise nothing -/
structure FnW (P : Program) (w : World) (K : PySem.W.Frag) (mg : Str → Option Value) (base : Heap) (k : Nat) (f : Addr) (fd : FuncData) (ps : List Str) (sp : Sp) : Prop where
  len : ∀ vs H Q E, sp vs H Q E → vs.length = ps.length
  run : ∀ (A : Around) (outer : List Env) (s : Shared) (H : Hp) (args : Args) (us : List Value) (vs : List V) (Q : VK), L2H.RoomH k A → Env0 P w K mg base A outer s H → BindsTo s fd args (ps.zip us) → Vals vs us → sp vs H Q E0 →
    codeAny (model P w) A (.call (.ref f) args) (CR L2.CX0 outer P w H s Q E0) s
section
variable {P : Program} {w : World} {K : PySem.W.Frag} {mg : Str → Option Value} {base : Heap}
theorem okW {x qual : Str} {st : Stmt} {f : Addr} {fd : FuncData} {N ps : List Str} {k : Nat} {sp : Sp} (F : Fun K x qual st f fd) (S : FnScope N ps (defScope st)) (len : ∀ vs H Q E, sp vs H Q E → vs.length = ps.length)
    (hbody : ∀ (cdv : Value) (A : Around) (outer : List Env) (s : Shared) (H : Hp) (vs : List V) (Q : VK) (p : Addr × Obj), L2H.RoomH k (A.deeper (envOfC qual (defScope st) s.heap.objs.size f cdv)) → sp vs H Q E0 →
      ∃ t, PSs (L2H.cxH L2.CX0 P w K mg base N qual (defScope st) f cdv A outer s H E0 p).nox (defBody st) t ∧ t { nx := fun _ H' => Q .non H', rt := Q } (L2.start N vs) H) : FnW P w K mg base (k + 1) f fd ps sp := by
  obtain ⟨oc, od, kV, doc, pm, an, cdv, ct, osl, rfl, lk, hcd⟩ := F.ex
  refine ⟨len, fun A outer s H args us vs Q hr e0 hb r hsp => ?_⟩
  have there : ∀ b o, K.lookup b = some o → s.heap.get? b = some o ∧ H b = none := fun b o e => e0.bs b o (e0.mod.kin b o e)
  obtain ⟨fat, fnn⟩ := there _ _ lk
  have nfr : f ∉ frs outer := fun hm => by
    have z := (e0.funs.mem hm).1
    rw [e0.mod.kin _ _ lk] at z
    cases z
  have pin : L2H.PinOk outer H s (f, _) := ⟨fat, fnn, nfr, fun v z => by cases z⟩
  have KX : K.In s.heap := fun b o e => (there b o e).1
  have ks : ∀ y ∈ ps.zip us, (defScope st).names.lookup y.1 = some .local ∨ ((defScope st).names.lookup y.1 = some .cell ∧ ((cellsFrom (s.heap.objs.size + 1) (defScope st).names []).lookup y.1).isSome = true) := by
    rintro ⟨n, v⟩ hy
    exact (S.par n (List.of_mem_zip hy).1).imp id fun q => ⟨q, PySem.W.cellsFrom_some _ _ _ (.inl q)⟩
  refine codeAny_call_function hr.depth fat rfl S.co S.gen rfl (PySem.W.codeRec_of KX hcd) (hb _ _ _ _ ?_)
  refine wpAny_newFunctionEnv_cells S.kind ks fun env he s1 x => ?_
  subst he
  refine ⟨(e0.mod.nolimit.keeps fun b o e => (e0.bs b o e).1).keeps x.toInCall.keep, codeAny_func ?_⟩
  obtain ⟨t, ht, hq⟩ := hbody cdv A outer s H vs Q _ (hr.deeper _) hsp
  have I := L2H.inv_startH (CX := L2.CX0) (E := E0) (base := base) (mg := mg) (w := w) (P := P) S pin e0 (len _ _ _ _ hsp) r x
  refine wpAny_mono (ht.nox.run [] s1 _ H _ I hq) (fun fl s' hs => ?_) (fun _ _ hs => hs)
  cases fl with
  | ret u =>
    obtain ⟨v, σ', H', J, rv, q⟩ := hs
    exact ⟨v, H', J.os, J.bare, J.base, J.hok, rv, q⟩
  | next =>
    obtain ⟨σ', H', J, q⟩ := hs
    exact ⟨V.non, H', J.os, J.bare, J.base, J.hok, rfl, q⟩
  | brk =>
    obtain ⟨_, _, _, q⟩ := hs
    exact q.elim
  | cont =>
    obtain ⟨_, _, _, q⟩ := hs
    exact q.elim
end
section
variable {X : Cx} {k : Nat} {f : Addr} {fd : FuncData} {ps : List Str} {sp : Sp} {x : Str} {p pos : Pos} {e : Expr} {es : List Expr} {t : TA}
theorem pe_callW (F : FnW X.prog X.w X.K X.mg X.base k f fd ps sp) (hr : L2H.RoomH k X.A) (hg : Gl X x) (hm : X.mg x = some (.ref f)) (hk : PySem.W.keepIn X.K (.ref f) = true) (hb : Binds X.K fd ps [])
    (ha : PA X (e :: es) t) (hdb : (x == ("__debug__" : Str)) = false := by decide) (he : starEach (e :: es) X.env = (false, eval e X.env) :: starEach es X.env := by rfl)
    (hpl : (backTo pos (starEach es X.env)).any (·.1) = false := by rfl) : PE X (.Call (.Name x p) (e :: es) [] pos) (fun σ H Q => t σ H fun vs H1 => sp vs H1 Q E0) := by
  refine ⟨fun pins s σ H Q I h => wpAny_Call_Name_kw (ld_glob I hg hm ?_ hdb)⟩
  refine PySem.W.callWith_K (h₀ := X.base) I.ok.mod.kin hk (thn (ha.run pos pins s σ H _ I h) ?_) he hpl
  rintro us s1 ⟨vs, H1, I1, r, q⟩
  have hl : us.length = ps.length := r.length.symm.trans (F.len _ _ _ _ q)
  have hb' : BindsTo s1 fd ⟨us, []⟩ (ps.zip us) := by
    have z := hb s1 us I1.kIn (by rw [List.append_nil]; exact hl)
    rwa [List.append_nil] at z
  refine ⟨I1.kIn, wpAny_call (codeAny_mono (F.run X.A X.stack s1 H1 ⟨us, []⟩ us vs Q hr I1.env0 hb' r q) fun r s' hq => ?_)⟩
  cases r with
  | error e => exact hq.elim
  | ok fl =>
    cases fl with
    | ret u => exact I1.after hq
    | next => exact hq.elim
    | brk => exact hq.elim
    | cont => exact hq.elim
end
end FW
namespace L2
open PySem PySem.Spec PySem.Calls PyProof.Rows
/-! ### a text unpacked into names -/
abbrev sgn (c : Nat) : V := .str ⟨#[c]⟩
section
variable {prog : Program} {w : World} {A : Around} {E : Value → Shared → Prop}
theorem draw_str {it : Addr} {x : Str} {t : Tok} {ty : String} (hty : ty = "str_ascii_iterator" ∨ ty = "str_iterator") : ∀ (n i : Nat) (s : Shared) (Q : List Value → Shared → Prop), s.heap.IsStrIter it ty x t i → i + n ≤ x.cps.size →
    (∀ h' tk us, h'.IsStrIter it ty x t (i + n) → Heap.SameBut it s.heap h' → Vals (((x.cps.toList.drop i).take n).map sgn) us → Q us { s with heap := h', toks := tk }) → wpAny (model prog w) A (draw (.ref it) n) Q E s
  | 0, i, s, Q, hit, _, hQ => by
    show wpAny _ _ (pure []) Q E s
    exact wpAny_pure (hQ s.heap s.toks [] hit (Heap.SameBut.refl ..) .nil)
  | n + 1, i, s, Q, hit, hle, hQ => by
    have hlt : i < x.cps.size := by omega
    show wpAny _ _ (pyNext (.ref it) >>= _) Q E s
    have hx : x.cps[i]? = some x.cps[i] := Array.getElem?_eq_getElem hlt
    have hd : x.cps.toList.drop i = x.cps[i] :: x.cps.toList.drop (i + 1) := by
      rw [List.drop_eq_getElem_cons (by simpa using hlt)]
      simp
    have go : ∀ h₁, h₁.IsStrIter it ty x t (i + 1) → Heap.SameBut it s.heap h₁ → wpAny (model prog w) A (match (some (.str ⟨#[x.cps[i]]⟩ s.toks) : Option Value) with
        | none => pure []
        | some v => do return v :: (← holding [v] (draw (.ref it) n))) Q E { s with heap := h₁, toks := s.toks + 1 } := fun h₁ hit₁ hs₁ => by
      refine wpAny_bind (wpAny_holding (draw_str hty n (i + 1) _ _ hit₁ (by omega) fun h₂ tk us hit₂ hs₂ r => wpAny_pure ?_))
      refine hQ h₂ tk _ (by rw [show i + (n + 1) = i + 1 + n by omega]; exact hit₂) (hs₁.trans hs₂) ?_
      rw [hd, List.take_succ_cons, List.map_cons]
      exact .cons ⟨_, rfl⟩ r
    rcases hty with e | e
    · subst e
      exact wpAny_bind (wpAny_pyNext_ascii_item hit hx fun h₁ hit₁ hs₁ => go h₁ hit₁ hs₁)
    · subst e
      exact wpAny_bind (wpAny_pyNext_wide_item hit hx fun h₁ hit₁ hs₁ => go h₁ hit₁ hs₁)
theorem items_str {x : Str} {t : Tok} {s : Shared} {Q : List Value → Shared → Prop} (hh : A.handled = none)
    (hQ : ∀ h' tk us, Heap.ExtBut s.heap.objs.size s.heap h' → Vals (x.cps.toList.map sgn) us → Q us { s with heap := h', toks := tk }) : wpAny (model prog w) A (unpackItems (.str x t) x.cps.size none) Q E s := by
  unfold unpackItems
  refine wpAny_bind ?_
  unfold notIterableAtAll
  refine wpAny_bind (wpAny_specialOf (typeIs_str s x t) F.slot_str_iter.lookup ?_)
  refine wpAny_pure ?_
  simp only [Bool.false_eq_true, if_false]
  have go : ∀ (ty : String), ty = "str_ascii_iterator" ∨ ty = "str_iterator" → ∀ s₁ : Shared, s₁ = { s with heap := s.heap.push { cls := .type ty, data := .fields #[.str x t, .int 0 0] } } → 
      wpAny (model prog w) A (do
        let items ← holding [.ref s.heap.objs.size] (draw (.ref s.heap.objs.size) x.cps.size)
        if items.length < x.cps.size then
          rule "unpack.too-few"; raiseError "ValueError" s!"not enough values to unpack (expected {x.cps.size}, got {items.length})"
        if (← holding items (pyNext (.ref s.heap.objs.size))).isSome then
          rule "unpack.too-many"; raiseError "ValueError" s!"too many values to unpack (expected {x.cps.size})"
        return items) Q E s₁ := fun ty hty s₁ hs => by
    subst hs
    have hit0 : (s.heap.push { cls := .type ty, data := .fields #[.str x t, .int 0 0] }).IsStrIter s.heap.objs.size ty x t 0 := ⟨_, Heap.get?_push_size _ rfl, rfl, rfl⟩
    refine wpAny_bind (wpAny_holding (draw_str hty x.cps.size 0 _ _ hit0 (by omega) fun h₁ tk us hit₁ hs₁ r => ?_))
    have hall : (x.cps.toList.drop 0).take x.cps.size = x.cps.toList := by
      rw [List.drop_zero]; exact List.take_of_length_le (by simp)
    rw [hall] at r
    have hl : us.length = x.cps.size := by rw [← r.length, List.length_map]; simp
    rw [if_neg (by omega)]
    have fin : ∀ h₂, Heap.ExtBut s.heap.objs.size h₁ h₂ → Heap.ExtBut s.heap.objs.size s.heap h₂ := fun h₂ he₂ b o hb e => he₂ b o hb (hs₁.extBut b o hb (Heap.get?_push_of_some _ e))
    have hend : x.cps[0 + x.cps.size]? = none := Array.getElem?_eq_none (by omega)
    rcases hty with e | e
    · subst e
      refine wpAny_bind (wpAny_holding (wpAny_pyNext_ascii_end (s := { s with heap := h₁, toks := tk }) hh hit₁ hend fun h₂ he₂ => ?_))
      simp only [Option.isSome_none, Bool.false_eq_true, if_false]
      exact wpAny_pure (hQ h₂ tk us (fin h₂ he₂) r)
    · subst e
      refine wpAny_bind (wpAny_holding (wpAny_pyNext_wide_end (s := { s with heap := h₁, toks := tk }) hh hit₁ hend fun h₂ he₂ => ?_))
      simp only [Option.isSome_none, Bool.false_eq_true, if_false]
      exact wpAny_pure (hQ h₂ tk us (fin h₂ he₂) r)
  cases ha : x.cps.all (· < 128)
  · exact wpAny_bind (wpAny_holding (wpAny_pyIter_wide ha (go _ (.inr rfl) _ rfl)))
  · exact wpAny_bind (wpAny_holding (wpAny_pyIter_ascii ha (go _ (.inl rfl) _ rfl)))
end
section
variable {X : Cx} {pos : Pos}
/-- (a, b, ..) = a text of that many signs -/
def gUstr (n : Nat) (t : TGs) : TG := fun v σ H Q => ∃ z : Str, v = .str z ∧ z.cps.size = n ∧ t (z.cps.toList.map sgn) σ H Q
theorem pg_ustr {es : List Expr} {k : Nat} {t : TGs} {n : Nat} (hc : X.calm = true) (h : PGs X es t)
    (hn : (assignEach es X.env).length = n := by rfl) (hst : (assignEach es X.env).findIdx? (·.1) = none := by rfl) : PG X (.Tuple es k pos) (gUstr n t) := by
  refine ⟨fun pins s σ H v u Q I r hw => ?_⟩
  obtain ⟨z, e1, hz, hw⟩ := hw
  subst e1
  obtain ⟨tk0, rfl⟩ := r
  have hn' : (assignEach es X.env).length = z.cps.size := hn.trans hz.symm
  rw [PyProof.Rows.assign_Tuple]
  refine wpAny_bind (wpAny_standAt ?_)
  unfold unpack
  rw [hn', hst]
  refine wpAny_bind (wpAny_holding (items_str (I.ok.hd hc) fun h' tk us hx r => ?_))
  have I1 : Inv X pins σ H { s with heap := h', toks := tk } := I.kept (t' := tk) fun b o e => hx b o (Nat.ne_of_lt (Heap.lt_size e)) e
  exact h.run pins _ σ H _ us Q I1 r hw
end
/-! ### a call by keywords alone -/
section
variable {X : Cx} {CX : CXT} {k : Nat} {f : Addr} {fd : FuncData} {ps ks : List Str} {sp : Sp} {E : XK} {x : Str} {p pos kpos : Pos} {e : Expr} {kws : List Keyword} {tk : TA} {nm : Option Str} {g : List Value → List Value → List Value} {gV : List V → List V → List V}
theorem pe_callK0 (F : FnOk X.prog X.w X.K X.mg X.base CX k f fd ps sp) (hr : Room k X.A) (hg : Gl X x) (hm : X.mg x = some (.ref f)) (hk : PySem.W.keepIn X.K (.ref f) = true) (hb : KBinds X.K fd ps ks g gV) (hx : Passes CX X E)
    (hkw : PK X kws tk) (hall : (backToKw pos (keywordEach kws X.env)).all (·.1.isSome) = true := by rfl) (hks : (backToKw pos (keywordEach kws X.env)).filterMap (·.1) = ks := by rfl)
    (hdb : (x == ("__debug__" : Str)) = false := by decide)
    (hpl : ((backTo pos (starEach [] X.env)).any (·.1) || (backToKw pos (keywordEach kws X.env)).any (·.1.isNone)) = false := by rfl) :
    PE X (.Call (.Name x p) [] kws pos) (tCallK sp gV E tNil tk) := by
  refine ⟨fun pins s σ H Q I h => ?_⟩
  refine wpAny_Call_Name_kw (ld_glob I hg hm ?_ hdb)
  refine PySem.W.callWith_KW0 (h₀ := X.base) I.ok.mod.kin hk hall (thn (hkw.run pos pins s σ H _ I h) fun ws s2 ⟨zs, H2, I2, rz, q2⟩ => ⟨I2.kIn, ?_⟩) hpl
  rw [hks]
  exact run_fnk F hr hb hx I2 .nil rz q2
end
/-! ### a def of the module, by its name -/
structure Cal (P : Program) (w : World) (K : PySem.W.Frag) (mg : Str → Option Value) (base : Heap) (CX : CXT) (k : Nat) (x : Str) (st : Stmt) (ps : List Str) (sp : Sp) : Prop where
  ex : ∃ (f : Addr) (fd : FuncData), FnOk P w K mg base CX k f fd ps sp ∧ mg x = some (.ref f) ∧ Fun K x x st f fd ∧ Binds K fd ps []
/-- how a call with keywords binds, for every such def's data -/
def KB (K : PySem.W.Frag) (x : Str) (st : Stmt) (ps ks : List Str) (g : List Value → List Value → List Value) (gV : List V → List V → List V) : Prop := ∀ (f : Addr) (fd : FuncData), Fun K x x st f fd → KBinds K fd ps ks g gV
section
variable {X : Cx} {CX : CXT} {k j : Nat} {x : Str} {st : Stmt} {ps ks : List Str} {sp : Sp} {E : XK} {p pos : Pos} {e : Expr} {es : List Expr} {kws : List Keyword} {t tk : TA} {g : List Value → List Value → List Value} {gV : List V → List V → List V}
theorem pe_cx (c : Cal X.prog X.w X.K X.mg X.base CX k x st ps sp) (hr : Room j X.A) (hk : k ≤ j) (hg : Gl X x) (hx : Passes CX X E) (ha : PA X (e :: es) t)
    (hdb : (x == ("__debug__" : Str)) = false := by decide) (he : starEach (e :: es) X.env = (false, eval e X.env) :: starEach es X.env := by rfl) (hpl : (backTo pos (starEach es X.env)).any (·.1) = false := by rfl) :
    PE X (.Call (.Name x p) (e :: es) [] pos) (tCall sp [] E t) := by
  obtain ⟨f, fd, F, hm, fn, b⟩ := c.ex
  exact pe_call F (hr.mono hk) hg hm fn.kp b .nil hx ha hdb he hpl
theorem pe_cx0 (c : Cal X.prog X.w X.K X.mg X.base CX k x st ps sp) (hr : Room j X.A) (hk : k ≤ j) (hg : Gl X x) (hx : Passes CX X E)
    (hdb : (x == ("__debug__" : Str)) = false := by decide) : PE X (.Call (.Name x p) [] [] pos) (tCall sp [] E tNil) := by
  obtain ⟨f, fd, F, hm, fn, b⟩ := c.ex
  exact pe_call0 F (hr.mono hk) hg hm fn.kp b .nil hx hdb
theorem pe_c (c : Cal X.prog X.w X.K X.mg X.base CX0 k x st ps sp) (hr : Room j X.A) (hk : k ≤ j) (hg : Gl X x) (ha : PA X (e :: es) t)
    (hdb : (x == ("__debug__" : Str)) = false := by decide) (he : starEach (e :: es) X.env = (false, eval e X.env) :: starEach es X.env := by rfl) (hpl : (backTo pos (starEach es X.env)).any (·.1) = false := by rfl) :
    PE X (.Call (.Name x p) (e :: es) [] pos) (tCall sp [] E0 t) := pe_cx c hr hk hg pass0 ha hdb he hpl
theorem pe_ck (c : Cal X.prog X.w X.K X.mg X.base CX0 k x st ps sp) (b : KB X.K x st ps ks g gV) (hr : Room j X.A) (hk : k ≤ j) (hg : Gl X x) (ha : PA X (e :: es) t) (hkw : PK X kws tk)
    (hall : (backToKw pos (keywordEach kws X.env)).all (·.1.isSome) = true := by rfl) (hks : (backToKw pos (keywordEach kws X.env)).filterMap (·.1) = ks := by rfl)
    (hdb : (x == ("__debug__" : Str)) = false := by decide) (he : starEach (e :: es) X.env = (false, eval e X.env) :: starEach es X.env := by rfl)
    (hpl : ((backTo pos (starEach (e :: es) X.env)).any (·.1) || (backToKw pos (keywordEach kws X.env)).any (·.1.isNone)) = false := by rfl) :
    PE X (.Call (.Name x p) (e :: es) kws pos) (tCallK sp gV E0 t tk) := by
  obtain ⟨f, fd, F, hm, fn, _⟩ := c.ex
  exact pe_callK F (hr.mono hk) hg hm fn.kp (b f fd fn) pass0 ha hkw hall hks hdb he hpl
theorem pe_ck0 (c : Cal X.prog X.w X.K X.mg X.base CX0 k x st ps sp) (b : KB X.K x st ps ks g gV) (hr : Room j X.A) (hk : k ≤ j) (hg : Gl X x) (hkw : PK X kws tk)
    (hall : (backToKw pos (keywordEach kws X.env)).all (·.1.isSome) = true := by rfl) (hks : (backToKw pos (keywordEach kws X.env)).filterMap (·.1) = ks := by rfl)
    (hdb : (x == ("__debug__" : Str)) = false := by decide) 
    (hpl : ((backTo pos (starEach [] X.env)).any (·.1) || (backToKw pos (keywordEach kws X.env)).any (·.1.isNone)) = false := by rfl) :
    PE X (.Call (.Name x p) [] kws pos) (tCallK sp gV E0 tNil tk) := by
  obtain ⟨f, fd, F, hm, fn, _⟩ := c.ex
  exact pe_callK0 F (hr.mono hk) hg hm fn.kp (b f fd fn) pass0 hkw hall hks hdb hpl
end
/-! ### heaps -/
theorem same_upd {H : Hp} {p : Addr} {o : HO} (h : H p = none) : Same H (upd H p o) := fun b x e => by
  rw [upd_ne (ne_of_none e h)]
  exact e
/-- all that was tracked but what stands at b -/
def But (b : Addr) (H H' : Hp) : Prop := ∀ a o, a ≠ b → H a = some o → H' a = some o
theorem But.refl (b : Addr) (H : Hp) : But b H H := fun _ _ _ h => h
theorem But.trans {b : Addr} {H H1 H2 : Hp} (x : But b H H1) (y : But b H1 H2) : But b H H2 := fun a o n h => y a o n (x a o n h)
theorem Same.but {b : Addr} {H H' : Hp} (x : Same H H') : But b H H' := fun a o _ h => x a o h
theorem But.seq {K : PySem.W.Frag} {b a : Addr} {H H' : Hp} {xs : List V} (e : But b H H') (n : a ≠ b) (h : SqL K H a xs) : SqL K H' a xs := by
  rcases h with (h | ⟨o, h⟩) | h
  · exact .inl (.inl (e _ _ n h))
  · exact .inl (.inr ⟨o, e _ _ n h⟩)
  · exact .inr h
theorem But.upd {b : Addr} {H0 H : Hp} {o : HO} (s : But b H0 H) : But b H0 (upd H b o) := fun a x n e => by
  rw [upd_ne n]
  exact s a x n e
theorem Same.tup {K : PySem.W.Frag} {a : Addr} {H H' : Hp} {xs : List V} (e : Same H H') (h : SqT K H a xs) : SqT K H' a xs := by
  rcases h with (h | ⟨o, h⟩) | h
  · exact .inl (.inl (e _ _ h))
  · exact .inl (.inr ⟨o, e _ _ h⟩)
  · exact .inr h
theorem But.tup {K : PySem.W.Frag} {b a : Addr} {H H' : Hp} {xs : List V} (e : But b H H') (n : a ≠ b) (h : SqT K H a xs) : SqT K H' a xs := by
  rcases h with (h | ⟨o, h⟩) | h
  · exact .inl (.inl (e _ _ n h))
  · exact .inl (.inr ⟨o, e _ _ n h⟩)
  · exact .inr h
end L2
namespace L2
open PySem PySem.Spec PySem.Calls PyProof.Rows
/-! ### zip of lists, tuples and texts in any mix -/
/-- what such a thing is: a list or a tuple at an address, a text -/
inductive SK where
  | l (a : Addr) | t (a : Addr) | s (x : Str) (k : Tok)
def SK.iter : SK → Addr → Nat → Heap → Prop
  | .l a, it, i, h => h.IsListIter it a i
  | .t a, it, i, h => h.IsTupleIter it a i
  | .s x k, it, i, h => h.IsStrIter it (strIterType x) x k i
def SK.at : SK → Addr → Prop
  | .l a, c => c = a
  | .t a, c => c = a
  | .s _ _, _ => False
def SK.val : SK → V
  | .l a => .ref a
  | .t a => .ref a
  | .s x _ => .str x
/-- its items, by the abstract heap -/
inductive Src (K : PySem.W.Frag) (H : Hp) : V → List V → Prop where
  | l {a : Addr} {xs : List V} (h : SqL K H a xs) : Src K H (.ref a) xs
  | t {a : Addr} {xs : List V} (h : SqT K H a xs) : Src K H (.ref a) xs
  | s {x : Str} {xs : List V} (h : xs = x.cps.toList.map sgn) : Src K H (.str x) xs
/-- .. of a known kind -/
def SK.src (K : PySem.W.Frag) (H : Hp) : SK → List V → Prop
  | .l a, xs => SqL K H a xs
  | .t a, xs => SqT K H a xs
  | .s x _, xs => xs = x.cps.toList.map sgn
def SK.obj : SK → Obj
  | .l a => { cls := .type "list_iterator", data := .fields #[.ref a, .int 0 0] }
  | .t a => { cls := .type "tuple_iterator", data := .fields #[.ref a, .int 0 0] }
  | .s x k => { cls := .type (strIterType x), data := .fields #[.str x k, .int 0 0] }
def SK.raw : SK → Value
  | .l a => .ref a
  | .t a => .ref a
  | .s x k => .str x k
theorem SK.iter_keep {k : SK} {it : Addr} {i : Nat} {h h' : Heap} (s : k.iter it i h) (q : ∀ o, h.get? it = some o → h'.get? it = some o) : k.iter it i h' := by
  cases k with
  | l a => exact Heap.IsListIter.at s q
  | t a => exact Heap.IsTupleIter.at s q
  | s x k => exact let ⟨o, ho, r⟩ := s; ⟨o, q o ho, r⟩
theorem SK.iter_obj {k : SK} {it : Addr} {i : Nat} {h : Heap} (s : k.iter it i h) : ∃ o, h.get? it = some o ∧ ∀ v, o.data ≠ .cell v := by
  cases k with
  | l a => obtain ⟨o, e, _, d⟩ := s; exact ⟨o, e, fun v q => by rw [d] at q; cases q⟩
  | t a => obtain ⟨o, e, _, d⟩ := s; exact ⟨o, e, fun v q => by rw [d] at q; cases q⟩
  | s x k => obtain ⟨o, e, _, d⟩ := s; exact ⟨o, e, fun v q => by rw [d] at q; cases q⟩
/-- what the iterator draws while the thing stands so -/
theorem SK.draws {X : Cx} {pins : List (Addr × Obj)} {σ : St} {H : Hp} {s : Shared} {k : SK} {it : Addr} {xs : List V} (I : Inv X pins σ H s) (hc : X.calm = true) (hs : k.src X.K H xs) (hn : ∀ c, k.at c → c ≠ it) :
    ∃ (fp : List Addr) (P : Nat → Value → Prop) (S : Nat → Heap → Prop), Draws X.prog X.w X.A.in1 it fp xs.length P S ∧ (∀ i, k.iter it i s.heap → S i s.heap) ∧ (∀ i h', S i h' → k.iter it i h') ∧
      (∀ i u, P i u → ∃ v, xs[i]? = some v ∧ RelV v u) ∧ it ∈ fp ∧ ∀ c ∈ fp, c = it ∨ k.at c := by
  have hh : X.A.in1.handled = none := I.ok.hd hc
  cases k with
  | l a =>
    obtain ⟨its, rv, p, _⟩ := I.list hs
    refine ⟨[it, a], fun i v => its.toArray[i]? = some v, fun i h => h.IsListIter it a i ∧ h.IsList a its.toArray, by rw [show xs.length = its.toArray.size from rv.length.trans (by simp)]; exact Draws.list hh it a (hn a rfl) its.toArray, fun i q => ⟨q, p.isList⟩, fun i h' q => q.1, fun i u q => ?_, by simp, fun c hc => by
      rcases List.mem_cons.mp hc with e | e
      · exact .inl e
      · exact .inr (List.mem_singleton.mp e)⟩
    have q : its.toArray[i]? = some u := q
    cases e : xs[i]? with
    | none =>
      have := rv.none_of e
      rw [List.getElem?_toArray, this] at q
      cases q
    | some v =>
      obtain ⟨w', h1, h2⟩ := rv.get e
      rw [List.getElem?_toArray, h1] at q
      cases q
      exact ⟨v, rfl, h2⟩
  | t a =>
    obtain ⟨its, rv, p, _⟩ := I.tuple hs
    refine ⟨[it, a], fun i v => its.toArray[i]? = some v, fun i h => h.IsTupleIter it a i ∧ h.IsTuple a its.toArray, by rw [show xs.length = its.toArray.size from rv.length.trans (by simp)]; exact Draws.tuple hh it a (hn a rfl) its.toArray, fun i q => ⟨q, show s.heap.IsTuple a its.toArray from p⟩, fun i h' q => q.1, fun i u q => ?_, by simp, fun c hc => by
      rcases List.mem_cons.mp hc with e | e
      · exact .inl e
      · exact .inr (List.mem_singleton.mp e)⟩
    have q : its.toArray[i]? = some u := q
    cases e : xs[i]? with
    | none =>
      have := rv.none_of e
      rw [List.getElem?_toArray, this] at q
      cases q
    | some v =>
      obtain ⟨w', h1, h2⟩ := rv.get e
      rw [List.getElem?_toArray, h1] at q
      cases q
      exact ⟨v, rfl, h2⟩
  | s x tk =>
    have hs' : xs = x.cps.toList.map sgn := hs
    subst hs'
    refine ⟨[it], fun i v => ∃ c u, x.cps[i]? = some c ∧ v = .str ⟨#[c]⟩ u, fun i h => h.IsStrIter it (strIterType x) x tk i, by rw [show (x.cps.toList.map sgn).length = x.cps.size by simp]; exact Draws.text hh it x tk, fun i q => q, fun i h' q => q, fun i u q => ?_, by simp, fun c hc => .inl (List.mem_singleton.mp hc)⟩
    obtain ⟨c, t, h1, rfl⟩ := q
    refine ⟨sgn c, ?_, ⟨t, rfl⟩⟩
    rw [List.getElem?_map, Array.getElem?_toList, h1]
    rfl
/-- the items as they stand at each turn, in new pairs -/
def ItzG (K : PySem.W.Frag) (k1 k2 : SK) : It :=
  ⟨fun i H => ∃ (xs ys : List V) (x y : V), k1.src K H xs ∧ k2.src K H ys ∧ xs[i]? = some x ∧ ys[i]? = some y,
    fun i H v H' => ∃ T x y, v = .ref T ∧ H T = none ∧ H' = upd H T (.tup [x, y]) ∧ (∀ xs, k1.src K H xs → xs[i]? = some x) ∧ ∀ ys, k2.src K H ys → ys[i]? = some y,
    fun i H => ∃ xs ys : List V, k1.src K H xs ∧ k2.src K H ys ∧ i ≤ xs.length ∧ i ≤ ys.length ∧ (i = xs.length ∨ i = ys.length)⟩
theorem SK.inj {X : Cx} {pins : List (Addr × Obj)} {σ : St} {H : Hp} {s : Shared} {k : SK} {xs ys : List V} (I : Inv X pins σ H s) (h1 : k.src X.K H xs) (h2 : k.src X.K H ys) : xs = ys := by
  cases k with
  | l a => exact I.list_inj h1 h2
  | t a => exact I.tuple_inj h1 h2
  | s x t => exact (show xs = _ from h1).trans (show ys = _ from h2).symm
theorem turn_zipG {P : Program} {w : World} {K : PySem.W.Frag} {elts : List Expr} {kk : Nat} {tpos : Pos} {z TI TO i1 i2 : Addr} {k1 k2 : SK}
    (d1 : TI ≠ z) (d2 : TO ≠ z) (d3 : TI ≠ TO) (d4 : TI ≠ i1) (d5 : TI ≠ i2) (d6 : z ≠ i1) (d7 : z ≠ i2) (d8 : TO ≠ i1) (d9 : TO ≠ i2) (d10 : i1 ≠ i2)
    (a1 : ∀ c, k1.at c → c ≠ z ∧ c ≠ TO ∧ c ≠ i1 ∧ c ≠ i2) (a2 : ∀ c, k2.at c → c ≠ z ∧ c ≠ TO ∧ c ≠ i1 ∧ c ≠ i2) :
    Turn P w K (.Tuple elts kk tpos) (ItzG K k1 k2) [z, TI, TO, i1, i2] z (fun i h => IsZip h z TI TO .none ∧ IsTupOf2 h TI (.ref i1) (.ref i2) ∧ (∃ x y, IsTupOf2 h TO x y) ∧ k1.iter i1 i h ∧ k2.iter i2 i h) where
  mem := by simp
  obj := fun i h st c hc => by
    obtain ⟨hz, hTI, ⟨x, y, hTO⟩, s1, s2⟩ := st
    have e' : c = z ∨ c = TI ∨ c = TO ∨ c = i1 ∨ c = i2 := by simpa using hc
    rcases e' with q | q | q | q | q
    · rw [q]; exact ⟨_, hz, fun v q => nomatch q⟩
    · rw [q]; exact ⟨_, hTI, fun v q => nomatch q⟩
    · rw [q]; exact ⟨_, hTO, fun v q => nomatch q⟩
    · rw [q]; exact SK.iter_obj s1
    · rw [q]; exact SK.iter_obj s2
  keep := fun i h h' st k => by
    obtain ⟨hz, hTI, ⟨x, y, hTO⟩, s1, s2⟩ := st
    exact ⟨k z (by simp) _ hz, k TI (by simp) _ hTI, ⟨x, y, k TO (by simp) _ hTO⟩, SK.iter_keep s1 fun o q => k i1 (by simp) o q, SK.iter_keep s2 fun o q => k i2 (by simp) o q⟩
  item := by
    intro X hP hw hK hc i pins s σ H E I hf st hg
    subst hP hw hK
    obtain ⟨hz, hTI, ⟨x0, y0, hTO⟩, s1, s2⟩ := st
    obtain ⟨xs, ys, x, y, hqx, hqy, hx, hy⟩ := hg
    obtain ⟨fp1, P1, S1, D1, g1, b1, r1, m1, f1⟩ := SK.draws I hc hqx fun c q => (a1 c q).2.2.1
    obtain ⟨fp2, P2, S2, D2, g2, b2, r2, m2, f2⟩ := SK.draws I hc hqy fun c q => (a2 c q).2.2.2
    have Z : ZipSep2 z TI TO i1 i2 fp1 fp2 :=
      { TIz := d1, TOz := d2, TITO := d3, TIi1 := d4, mem1 := m1, TIi2 := d5, mem2 := m2,
        zf1 := fun q => by rcases f1 z q with e | e; exact d6 e; exact (a1 z e).1 rfl
        Tf1 := fun q => by rcases f1 TO q with e | e; exact d8 e; exact (a1 TO e).2.1 rfl
        zf2 := fun q => by rcases f2 z q with e | e; exact d7 e; exact (a2 z e).1 rfl
        Tf2 := fun q => by rcases f2 TO q with e | e; exact d9 e; exact (a2 TO e).2.1 rfl
        sep1_2 := fun q => by rcases f2 i1 q with e | e; exact d10 e; exact (a2 i1 e).2.2.1 rfl
        sep2_1 := fun q => by rcases f1 i2 q with e | e; exact d10 e.symm; exact (a1 i2 e).2.2.2 rfl }
    have lx : i < xs.length := (List.getElem?_eq_some_iff.mp hx).1
    have ly : i < ys.length := (List.getElem?_eq_some_iff.mp hy).1
    have hzl : z < s.heap.objs.size := Heap.lt_size hz
    refine wpAny_pyNext_zipD2_item Z D1 D2 hz hTI hTO (g1 i s1) (g2 i s2) lx ly fun u1 u2 h' tk p1 p2 z' TO' s1' s2' hT hsz hk => ?_
    obtain ⟨v1, e1, ru⟩ := r1 i u1 p1
    obtain ⟨v2, e2, ru2⟩ := r2 i u2 p2
    have ev1 : v1 = x := Option.some.inj (e1.symm.trans hx)
    have ev2 : v2 = y := Option.some.inj (e2.symm.trans hy)
    subst ev1 ev2
    refine ⟨_, rfl, wpAny_letOwnedTupleGo_zip (s := { s with heap := h', toks := tk }) z' fun h'' z'' sb => ?_⟩
    have hT2 : h''.get? s.heap.objs.size = some { cls := .type "tuple", data := .seq #[u1, u2] } := (sb.2 _ (Nat.ne_of_gt hzl)).trans hT
    have new : ObjOk X.prog X.w (upd H s.heap.objs.size (.tup [v1, v2])) h'' s.heap.objs.size (.tup [v1, v2]) :=
      ⟨by show 2 ≤ sizeLine; decide, [u1, u2], .cons ru (.cons ru2 .nil), ⟨_, hT2, rfl, _, rfl⟩⟩
    have I1 : Inv X pins σ (upd H s.heap.objs.size (.tup [v1, v2])) { s with heap := h'', toks := tk } :=
      I.turnedNew (t' := tk) (ch := [z, TI, TO, i1, i2]) (fun c o hb q => (sb.2 c (fun q' => hb (by simp [q']))).trans (hk c o (fun q' => hb (by simp [q'])) (fun q' => hb (by simp [q'])) (fun q' => hb (by simp [q'])) (fun q' => hb (by simp [q'])) q)) hf (Nat.le_refl _) new
    refine ⟨.ref s.heap.objs.size, _, I1, rfl, ⟨_, v1, v2, rfl, I.hok.fresh (Nat.le_refl _), rfl, fun l hl => by rw [SK.inj I hl hqx]; exact hx, fun l hl => by rw [SK.inj I hl hqy]; exact hy⟩, ⟨z'', ?_, ⟨u1, u2, ?_⟩, ?_, ?_⟩, fun c hcm => ?_⟩
    · exact (sb.2 _ d1).trans (hk _ _ d1 d3 d4 d5 hTI)
    · exact (sb.2 _ d2).trans TO'
    · exact SK.iter_keep (b1 _ _ s1') fun o q => (sb.2 _ d6.symm).trans q
    · exact SK.iter_keep (b2 _ _ s2') fun o q => (sb.2 _ d7.symm).trans q
    · have hlt : c < s.heap.objs.size := by
        have e' : c = z ∨ c = TI ∨ c = TO ∨ c = i1 ∨ c = i2 := by simpa using hcm
        rcases e' with q | q | q | q | q
        · rw [q]; exact hzl
        · rw [q]; exact Heap.lt_size hTI
        · rw [q]; exact Heap.lt_size hTO
        · rw [q]; obtain ⟨_, e, _⟩ := SK.iter_obj s1; exact Heap.lt_size e
        · rw [q]; obtain ⟨_, e, _⟩ := SK.iter_obj s2; exact Heap.lt_size e
      rw [upd_ne (Nat.ne_of_lt hlt)]
      exact (hf c hcm).1
  done := by
    intro X hP hw hK hc i pins s σ H E I hf st hg
    subst hP hw hK
    obtain ⟨hz, hTI, ⟨x0, y0, hTO⟩, s1, s2⟩ := st
    obtain ⟨xs, ys, hqx, hqy, hlx, hly, hend⟩ := hg
    obtain ⟨fp1, P1, S1, D1, g1, b1, r1, m1, f1⟩ := SK.draws I hc hqx fun c q => (a1 c q).2.2.1
    obtain ⟨fp2, P2, S2, D2, g2, b2, r2, m2, f2⟩ := SK.draws I hc hqy fun c q => (a2 c q).2.2.2
    have Z : ZipSep2 z TI TO i1 i2 fp1 fp2 :=
      { TIz := d1, TOz := d2, TITO := d3, TIi1 := d4, mem1 := m1, TIi2 := d5, mem2 := m2,
        zf1 := fun q => by rcases f1 z q with e | e; exact d6 e; exact (a1 z e).1 rfl
        Tf1 := fun q => by rcases f1 TO q with e | e; exact d8 e; exact (a1 TO e).2.1 rfl
        zf2 := fun q => by rcases f2 z q with e | e; exact d7 e; exact (a2 z e).1 rfl
        Tf2 := fun q => by rcases f2 TO q with e | e; exact d9 e; exact (a2 TO e).2.1 rfl
        sep1_2 := fun q => by rcases f2 i1 q with e | e; exact d10 e; exact (a2 i1 e).2.2.1 rfl
        sep2_1 := fun q => by rcases f1 i2 q with e | e; exact d10 e.symm; exact (a1 i2 e).2.2.2 rfl }
    exact wpAny_pyNext_zipD2_end Z D1 D2 hz hTI hTO (g1 i s1) (g2 i s2) hlx hly hend fun h' tk hk => ⟨rfl, I.turnedL (t' := tk) (ch := [z, TI, TO, i1, i2]) (fun c o hb q =>
      hk c o (fun q' => hb (by simp [q'])) (fun q' => hb (by simp [q'])) (fun q' => hb (by simp [q'])) (fun q' => hb (by simp [q'])) q) hf⟩
  self := fun A i s Q E st h => wpAny_pyIter_zip st.1 h
def iZipG (K : PySem.W.Frag) (ta : TA) : TI := fun σ H R => ta σ H fun vs H1 => ∃ (x y : V) (xs ys : List V), vs = [x, y] ∧ Src K H1 x xs ∧ Src K H1 y ys ∧
  ∀ k1 k2 : SK, k1.val = x → k2.val = y → k1.src K H1 xs → k2.src K H1 ys → R (ItzG K k1 k2) H1
/-- the kind of a value with items -/
theorem Src.kind {X : Cx} {pins : List (Addr × Obj)} {σ : St} {H : Hp} {s : Shared} {x : V} {u : Value} {xs : List V} (I : Inv X pins σ H s) (h : Src X.K H x xs) (r : RelV x u) :
    ∃ k : SK, k.val = x ∧ k.raw = u ∧ k.src X.K H xs ∧ (∀ c, k.at c → c < s.heap.objs.size) ∧ ∃ B : Heap → Prop, Begins u k.obj B ∧ B s.heap := by
  cases h with
  | @l a xs h =>
    cases (show u = Value.ref a from r)
    obtain ⟨its, rv, p, _⟩ := I.list h
    exact ⟨.l a, rfl, rfl, h, fun c e => by rw [show c = a from e]; exact p.lt, _, begins_list a its.toArray, p.isList⟩
  | @t a xs h =>
    cases (show u = Value.ref a from r)
    obtain ⟨its, rv, p, _⟩ := I.tuple h
    have p' : s.heap.IsTuple a its.toArray := p
    exact ⟨.t a, rfl, rfl, h, fun c e => by rw [show c = a from e]; obtain ⟨o, e, _⟩ := p'; exact Heap.lt_size e, _, begins_tuple a its.toArray, p'⟩
  | @s z xs h =>
    obtain ⟨t, rfl⟩ := (show ∃ t, u = Value.str z t from r)
    exact ⟨.s z t, rfl, rfl, h, fun c e => False.elim e, _, begins_text z t, trivial⟩
theorem SK.begun {k : SK} {it : Addr} {h : Heap} (e : h.get? it = some k.obj) : k.iter it 0 h := by
  cases k with
  | l a => exact ⟨_, e, rfl, rfl⟩
  | t a => exact ⟨_, e, rfl, rfl⟩
  | s x t => exact ⟨_, e, rfl, rfl⟩
theorem neN {a b : Nat} (h : a < b ∨ b < a) : a ≠ b := by omega
theorem pi_zipG {X : Cx} {e e2 : Expr} {ta : TA} {p pos tpos : Pos} {elts : List Expr} {kk : Nat} (hg : Gl X "zip") (hm : X.mg "zip" = none) (ha : PA X [e, e2] ta)
    (hs : starEach [e, e2] X.env = (false, eval e X.env) :: starEach [e2] X.env := by rfl) (hpl : (backTo pos (starEach [e2] X.env)).any (·.1) = false := by rfl) :
    PI X (.Tuple elts kk tpos) (.Call (.Name "zip" p) [e, e2] [] pos) (iZipG X.K ta) := by
  refine ⟨fun pins s σ H R I h => ?_⟩
  refine Call_ (ld_blt I hg hm PyProof.Rows.boot_zip (PyProof.Rows.callWith_type1 (thn (ha.run pos pins s σ H _ I h) fun us s1 ⟨vs, H1, I1, r1, q1⟩ => ?_) hs hpl))
  obtain ⟨x, y, xs, ys, ex, sx, sy, q⟩ := q1
  subst ex
  cases r1 with
  | cons r rr =>
    cases rr with
    | cons r' rr =>
      cases rr
      obtain ⟨k1, ev1, _, src1, lt1, B1, b1, hb1⟩ := sx.kind I1 r
      obtain ⟨k2, ev2, _, src2, lt2, B2, b2, hb2⟩ := sy.kind I1 r'
      have fresh5 : ∀ c, c ∈ [s1.heap.objs.size + 4, s1.heap.objs.size + 2, s1.heap.objs.size + 3, s1.heap.objs.size, s1.heap.objs.size + 1] → FpOk X pins H1 c := fun c hcm => by
        have e' : c = s1.heap.objs.size + 4 ∨ c = s1.heap.objs.size + 2 ∨ c = s1.heap.objs.size + 3 ∨ c = s1.heap.objs.size ∨ c = s1.heap.objs.size + 1 := by simpa using hcm
        have hle : s1.heap.objs.size ≤ c := by omega
        exact I1.fpOk hle (I1.hok.fresh hle)
      refine zip_begins2 b1 b2 hb1 hb2 fun h' hz hTI hTO h1 h2 hsz hk => wpAny_pyIter_zip hz ?_
      have I2 : Inv X pins σ H1 { s1 with heap := h' } := I1.kept (t' := s1.toks) hk
      have TT := turn_zipG (P := X.prog) (w := X.w) (K := X.K) (elts := elts) (kk := kk) (tpos := tpos) (z := s1.heap.objs.size + 4) (TI := s1.heap.objs.size + 2) (TO := s1.heap.objs.size + 3) (i1 := s1.heap.objs.size) (i2 := s1.heap.objs.size + 1) (k1 := k1) (k2 := k2)
        (neN (by omega)) (neN (by omega)) (neN (by omega)) (neN (by omega)) (neN (by omega)) (neN (by omega)) (neN (by omega)) (neN (by omega)) (neN (by omega)) (neN (by omega))
        (fun c hc => have h : c < s1.heap.objs.size := lt1 c hc; ⟨Nat.ne_of_lt (Nat.lt_of_lt_of_le h (Nat.le_add_right _ _)), Nat.ne_of_lt (Nat.lt_of_lt_of_le h (Nat.le_add_right _ _)), Nat.ne_of_lt h, Nat.ne_of_lt (Nat.lt_of_lt_of_le h (Nat.le_add_right _ _))⟩) (fun c hc => have h : c < s1.heap.objs.size := lt2 c hc; ⟨Nat.ne_of_lt (Nat.lt_of_lt_of_le h (Nat.le_add_right _ _)), Nat.ne_of_lt (Nat.lt_of_lt_of_le h (Nat.le_add_right _ _)), Nat.ne_of_lt h, Nat.ne_of_lt (Nat.lt_of_lt_of_le h (Nat.le_add_right _ _))⟩)
      exact ⟨s1.heap.objs.size + 4, [s1.heap.objs.size + 4, s1.heap.objs.size + 2, s1.heap.objs.size + 3, s1.heap.objs.size, s1.heap.objs.size + 1], _, _, H1, rfl, I2, TT, ⟨hz, hTI, ⟨_, _, hTO⟩, SK.begun h1, SK.begun h2⟩, fresh5, q k1 k2 ev1 ev2 src1 src2⟩
theorem walk_zipG {K : PySem.W.Frag} {k1 k2 : SK} {xs ys : List V} {n : Nat} (hn : n = min xs.length ys.length) : Walk (ItzG K k1 k2) n (fun H => k1.src K H xs ∧ k2.src K H ys) (YPair (fun i => xs[i]?) (fun i => ys[i]?)) := by
  subst hn
  refine ⟨fun i _ hi q => ?_, fun _ q => ⟨xs, ys, q.1, q.2, by omega, by omega, by omega⟩, fun i H v H' _ q y => ?_⟩
  · have h1 : i < xs.length := by omega
    have h2 : i < ys.length := by omega
    exact ⟨xs, ys, xs[i], ys[i], q.1, q.2, by simp [h1], by simp [h2]⟩
  · obtain ⟨T, x, z, h1, h2, h3, h4, h5⟩ := y
    exact ⟨T, x, z, h1, h2, h3, h4 xs q.1, h5 ys q.2⟩
end L2
namespace FW
open PySem PySem.Spec PyProof.Rows L2
/-- the built-in names that stand as they were -/
structure Z (mg : Str → Option Value) : Prop where
  z_isinstance : mg "isinstance" = none
  z_str : mg "str" = none
  z_all : mg "all" = none
  z_any : mg "any" = none
  z_len : mg "len" = none
  z_int : mg "int" = none
  z_list : mg "list" = none
  z_abs : mg "abs" = none
  z_bool : mg "bool" = none
  z_tuple : mg "tuple" = none
  z_zip : mg "zip" = none
  z_range : mg "range" = none
  z_enumerate : mg "enumerate" = none
  z_sorted : mg "sorted" = none
  z_dict : mg "dict" = none
  z_set : mg "set" = none
  z_sum : mg "sum" = none
  z_min : mg "min" = none
  z_max : mg "max" = none
  z_reversed : mg "reversed" = none
  z_repr : mg "repr" = none
  z_ord : mg "ord" = none
section
variable {P : Program} {w : World} {K : PySem.W.Frag} {mg : Str → Option Value} {base : Heap}
/-- a value that is no text -/
def NotS (K : PySem.W.Frag) (H : Hp) (v : V) : Prop := ∃ T : String, TyX K H v (.type T) ∧ kitB T "str" = some false
def isStr : V → Bool
  | .str _ => true
  | _ => false
def strOf : V → Str
  | .str z => z
  | _ => ⟨#[]⟩
theorem str_of {v : V} (h : isStr v = true) : ∃ z, v = .str z := by
  cases v with
  | str z => exact ⟨z, rfl⟩
  | _ => exact absurd (show false = true from h) Bool.false_ne_true
theorem sz {n : Nat} (h : n ≤ 100000) : n ≤ sizeLine := Nat.le_trans h (by decide)
theorem sz1 {n : Nat} (h : n ≤ 100000) : n < sizeLine := Nat.lt_of_le_of_lt h (by decide)
def bString (v : V) (fs : Str) : Bool := isStr v && (strOf v).cps.toList.all fun c => decide (c ∈ fs.cps.toList)
def sp_is_string (K : PySem.W.Frag) : Sp := fun vs H Q _ => ∃ (v : V) (fs : Str), vs = [v, .str fs] ∧ ((isStr v = true ∧ (strOf v).cps.size ≤ 100000) ∨ (isStr v = false ∧ NotS K H v)) ∧ ∀ H', Same H H' → Q (.bl (bString v fs)) H'
theorem NotS.same {H H' : Hp} {v : V} (n : NotS K H v) (q : ∀ T, TyX K H v T → TyX K H' v T) : NotS K H' v := let ⟨T, t, k⟩ := n; ⟨T, q _ t, k⟩
def bRoom (v : V) (fs : Str) : Bool := bString v fs && decide ((strOf v).cps.size = 4)
def sp_is_room (K : PySem.W.Frag) : Sp := fun vs H Q _ => ∃ (v : V) (fs : Str), vs = [v, .str fs] ∧ ((isStr v = true ∧ (strOf v).cps.size ≤ 100000) ∨ (isStr v = false ∧ NotS K H v)) ∧ ∀ H', Same H H' → Q (.bl (bRoom v fs)) H'
def bCut (v : V) (fs : Str) : Bool := isStr v && decide ((strOf v).cps.size = 3) && decide ((strOf v).cps.toList.getD 0 0 ∈ ("|-" : Str).cps.toList) && ((strOf v).cps.toList.drop 1).all fun c => decide (c ∈ fs.cps.toList)
def sp_is_cut (K : PySem.W.Frag) : Sp := fun vs H Q _ => ∃ (v : V) (fs : Str), vs = [v, .str fs] ∧ ((isStr v = true ∧ (strOf v).cps.size ≤ 100000) ∨ (isStr v = false ∧ NotS K H v)) ∧ ∀ H', Same H H' → Q (.bl (bCut v fs)) H'
theorem cutS_from {z : Str} (h : 1 ≤ z.cps.size) : cutS z (some 1) none = ⟨(z.cps.toList.drop 1).toArray⟩ := by
  unfold cutS
  rw [HT.sIx_none, show HT.sIx z.length 0 (some 1) = min 1 z.length from HT.sIx_nat z.length 0 1]
  have e : min 1 z.length = 1 := Nat.min_eq_left h
  rw [e, List.take_of_length_le]
  simp [Str.length]
def S4 (a b c d : Nat) : Str := ⟨#[a, b, c, d]⟩
def S3 (a b c : Nat) : Str := ⟨#[a, b, c]⟩
/-- both parts of a room by a cut; the codes of the signs: 124 upright -/
def partsC (n e s w sg x y : Nat) : List Str := if sg = 124 then [S4 n x s w, S4 n e s y] else [S4 n e x w, S4 y e s w]
def sp_parts_of (K : PySem.W.Frag) : Sp := fun vs H Q _ => ∃ (n e s w : Nat) (cut : Str), vs = [.str (S4 n e s w), .str cut] ∧
  ((cut = ("" : Str) ∧ ∀ p, H p = none → Q (.ref p) (upd H p (.lst [.str (S4 n e s w)]))) ∨ ∃ sg x y, cut = S3 sg x y ∧ ∀ p, H p = none → Q (.ref p) (upd H p (.lst ((partsC n e s w sg x y).map V.str))))
def Bag (H : Hp) (b l : Addr) : Prop := ∃ (ns : List Int) (i r m c : Int), H b = some (.lst [.ref l, .int i, .int r, .int m, .int c]) ∧ H l = some (.lst (ns.map V.int)) ∧ ns.length ≤ 1000 ∧ 0 ≤ i ∧ 0 ≤ m ∧ m < 2147483648
theorem bag_ne {l : Addr} {ns : List Int} {i r m c : Int} : HO.lst (ns.map V.int) ≠ HO.lst [.ref l, .int i, .int r, .int m, .int c] := by
  intro e
  have e1 := HO.lst.inj e
  cases ns with
  | nil => cases e1
  | cons n ns =>
    have e2 := List.head_eq_of_cons_eq e1
    cases e2
theorem Bag.same {H H' : Hp} {b l : Addr} (B : Bag H b l) (s : Same H H') : Bag H' b l := by
  obtain ⟨ns, i, r, m, c, h1, h2, q⟩ := B
  exact ⟨ns, i, r, m, c, s _ _ h1, s _ _ h2, q⟩
theorem Bag.la {H : Hp} {b l : Addr} (B : Bag H b l) : ∃ xs, H b = some (.lst xs) := let ⟨_, _, _, _, _, h, _⟩ := B; ⟨_, h⟩
theorem Bag.lb {H : Hp} {b l : Addr} (B : Bag H b l) : ∃ xs, H l = some (.lst xs) := let ⟨_, _, _, _, _, _, h, _⟩ := B; ⟨_, h⟩
/-- what is new is not the bag -/
theorem Bag.ne {H : Hp} {b l p : Addr} (B : Bag H b l) (h : H p = none) : p ≠ b := fun e => by
  obtain ⟨xs, h1⟩ := B.la
  rw [e, h1] at h
  cases h
theorem Bag.ne2 {H : Hp} {b l p : Addr} (B : Bag H b l) (h : H p = none) : p ≠ l := fun e => by
  obtain ⟨xs, h1⟩ := B.lb
  rw [e, h1] at h
  cases h
/-- another object changes -/
theorem Bag.upd {H : Hp} {b l p : Addr} {o : HO} (B : Bag H b l) (h1 : p ≠ b) (h2 : p ≠ l) : Bag (L2.upd H p o) b l := by
  obtain ⟨ns, i, r, m, c, g1, g2, q⟩ := B
  exact ⟨ns, i, r, m, c, by rw [upd_ne h1.symm]; exact g1, by rw [upd_ne h2.symm]; exact g2, q⟩
def sp__law_open (K : PySem.W.Frag) : Sp := fun vs H Q _ => ∃ (a : Addr) (ns : List Int), vs = [.ref a] ∧ SqL K H a (ns.map V.int) ∧ ns.length ≤ 63 ∧ ∀ H' b l, H b = none → H l = none → Same H H' → Bag H' b l → Q (.ref b) H'
theorem cutV_to {xs : List V} {k : Nat} : cutV xs none (some (k : Int)) = xs.take k := by
  unfold cutV
  rw [HT.sIx_none, HT.sIx_nat]
  show List.take (min k xs.length - 0) (List.drop 0 xs) = _
  rw [List.drop_zero, Nat.sub_zero, List.take_eq_take_iff]
  omega
def sp__law_draw (K : PySem.W.Frag) : Sp := fun vs H Q _ => ∃ (b l : Addr) (k : Int), vs = [.ref b, .int k] ∧ Bag H b l ∧ 0 < k ∧ k < 1073741824 ∧ ∀ H' z, 0 ≤ z → z < k → But b H H' → Bag H' b l → Q (.int z) H'
/-- behind the first part of a draw -/
def BagAt (H0 H : Hp) (b l : Addr) (ns : List Int) : Prop := But b H0 H ∧ H l = some (.lst (ns.map V.int)) ∧ ∃ i r m c : Int, H b = some (.lst [.ref l, .int i, .int r, .int m, .int c]) ∧ 0 ≤ i ∧ 0 ≤ m ∧ m < 2147483648
abbrev S (l : List Nat) : Str := ⟨l.toArray⟩
theorem S_cat (a b : List Nat) : S a ++ S b = S (a ++ b) := SX.S_cat a b
theorem S_len (a : List Nat) : (S a).length = a.length := SX.S_len a
theorem S_tl (x : Str) : S x.cps.toList = x := SX.S_tl x
theorem atI_of {α : Type} {xs : List α} {z : Int} {j : Nat} {v : α} (e : z = (j : Int)) (h : xs[j]? = some v) : atI xs z = some v := by
  rw [e]
  exact atI_nat h
theorem S_sub (l : List Nat) (i : Nat) : cutS (S l) (some (i : Int)) none = S (l.drop i) := by
  unfold cutS
  rw [HT.sIx_none, HT.sIx_nat]
  show (⟨(List.take ((S l).length - min i (S l).length) (List.drop (min i (S l).length) l)).toArray⟩ : Str) = ⟨(l.drop i).toArray⟩
  rw [S_len]
  have e : List.take (l.length - min i l.length) (List.drop (min i l.length) l) = l.drop i := by
    by_cases h : i ≤ l.length
    · rw [Nat.min_eq_left h]
      exact List.take_of_length_le (by rw [List.length_drop]; exact Nat.le_refl _)
    · rw [Nat.min_eq_right (by omega), List.drop_eq_nil_of_le (as := l) (i := i) (by omega)]
      simp
  rw [e]
theorem S_to (l : List Nat) (i : Nat) : cutS (S l) none (some (i : Int)) = S (l.take i) := by
  unfold cutS
  rw [HT.sIx_none, HT.sIx_nat]
  show (⟨(List.take (min i (S l).length - 0) (List.drop 0 l)).toArray⟩ : Str) = ⟨(l.take i).toArray⟩
  rw [S_len, List.drop_zero, Nat.sub_zero]
  have e : List.take (min i l.length) l = l.take i := by
    rw [List.take_eq_take_iff]
    omega
  rw [e]
def Items (K : PySem.W.Frag) (H : Hp) (b : Addr) (x : V) (xs : List V) : Prop := (∃ a, a ≠ b ∧ x = .ref a ∧ SqL K H a xs) ∨ (∃ a, a ≠ b ∧ x = .ref a ∧ SqT K H a xs) ∨ ∃ l, x = .str (S l) ∧ xs = l.map sgn
def sp__law_of (K : PySem.W.Frag) : Sp := fun vs H Q _ => ∃ (b l : Addr) (x : V) (xs : List V), vs = [.ref b, x] ∧ Bag H b l ∧ Items K H b x xs ∧ 0 < xs.length ∧ xs.length ≤ 100000 ∧ ∀ H' v, v ∈ xs → But b H H' → Bag H' b l → Q v H'
mutual
/-- data that nest at most so deep -/
def Deep : Nat → PyData → Prop
  | _, .none => True
  | _, .bool _ => True
  | _, .int _ => True
  | _, .str _ => True
  | 0, .list _ => False
  | 0, .tuple _ => False
  | n + 1, .list ds => ds.length ≤ 1000 ∧ ∀ d ∈ ds, Deep n d
  | n + 1, .tuple ds => ds.length ≤ 1000 ∧ ∀ d ∈ ds, Deep n d
  | _, .dict _ => False
end
def sp__law_same (K : PySem.W.Frag) (n : Nat) : Sp := fun vs H Q _ => ∃ (x y : V) (d : PyData), vs = [x, y] ∧ Dp K H x d ∧ Dp K H y d ∧ Deep n d ∧ ∀ H', Same H H' → Q (.bl true) H'
theorem tyL {H : Hp} {a : Addr} {xs : List V} (h : SqL K H a xs) : TyX K H (.ref a) (.type "list") := by
  rcases h with (h | ⟨o, h⟩) | ⟨o, its, n, h, c, _⟩
  · exact .base (.lst h)
  · exact .base (.frz h)
  · exact .kList h c
theorem tyT {H : Hp} {a : Addr} {xs : List V} (h : SqT K H a xs) : TyX K H (.ref a) (.type "tuple") := by
  rcases h with (h | ⟨o, h⟩) | ⟨o, its, n, h, c, _⟩
  · exact .base (.tup h)
  · exact .fTuple h
  · exact .kTuple h c
theorem Dp.same {H H' : Hp} (s : Same H H') : ∀ {v : V} {d : PyData}, Dp K H v d → Dp K H' v d := by
  intro v d h
  exact @Dp.rec K H (fun v d _ => Dp K H' v d) (fun vs ds _ => DpAll K H' vs ds) .non (fun b => .bl b) (fun i => .int i) (fun x => .str x) (fun h _ ih => .lst (s.seq h) ih) (fun h _ ih => .tup (s.tup h) ih) .nil (fun _ _ i1 i2 => .cons i1 i2) v d h
theorem DpAll.same {H H' : Hp} (s : Same H H') : ∀ {vs : List V} {ds : List PyData}, DpAll K H vs ds → DpAll K H' vs ds
  | _, _, .nil => .nil
  | _, _, .cons h t => .cons (Dp.same s h) (DpAll.same s t)
theorem DpAll.len {H : Hp} : ∀ {vs : List V} {ds : List PyData}, DpAll K H vs ds → vs.length = ds.length
  | _, _, .nil => rfl
  | _, _, .cons _ t => congrArg (· + 1) (DpAll.len t)
theorem DpAll.at {H : Hp} : ∀ {vs : List V} {ds : List PyData} {i : Nat} {v : V}, DpAll K H vs ds → vs[i]? = some v → ∃ d, ds[i]? = some d ∧ Dp K H v d
  | _, _, _, _, .nil, e => by simp at e
  | _, _, 0, v, .cons h _, e => by
    have e1 := Option.some.inj (show some _ = some v from e)
    exact ⟨_, rfl, e1 ▸ h⟩
  | _, _, i + 1, v, .cons _ t, e => DpAll.at (i := i) t e
theorem walk_zipT {a b : Addr} {xs ys : List V} {n : Nat} (hn : n = min xs.length ys.length) : Walk (RZ.ItzT K a b) n (fun H => SqT K H a xs ∧ SqT K H b ys) (YPair (fun i => xs[i]?) (fun i => ys[i]?)) := by
  subst hn
  refine ⟨fun i _ hi q => ?_, fun _ q => ⟨xs, ys, q.1, q.2, by omega⟩, fun i H v H' _ q y => ?_⟩
  · have h1 : i < xs.length := by omega
    have h2 : i < ys.length := by omega
    exact ⟨xs, ys, xs[i], ys[i], q.1, q.2, by simp [h1], by simp [h2]⟩
  · obtain ⟨T, x, z, h1, h2, h3, h4, h5⟩ := y
    exact ⟨T, x, z, h1, h2, h3, h4 xs q.1, h5 ys q.2⟩
/-- the answers of isinstance(x, (list, tuple)) -/
theorem kitAny_lt {T : String} {r1 r2 : Bool} (h1 : kitB T "list" = some r1) (h2 : kitB T "tuple" = some r2) : PySem.W.kitAny K (.type T) [.type "list", .type "tuple"] = some (r1 || r2) := by
  refine kitAny_cons (kit_ty h1) (fun e => ?_) (fun e => by rw [e]; rfl)
  subst e
  refine kitAny_cons (kit_ty h2) (fun e => ?_) (fun e => by rw [e]; rfl)
  subst e
  rfl
theorem seq_but {H H' : Hp} {D a : Addr} {xs : List V} (nD : ∀ c u, H c = some u → c ≠ D) (bt : But D H H') (h : SqL K H a xs) : SqL K H' a xs := by
  rcases h with (h | ⟨o, h⟩) | h
  · exact .inl (.inl (bt _ _ (nD _ _ h) h))
  · exact .inl (.inr ⟨o, bt _ _ (nD _ _ h) h⟩)
  · exact .inr h
theorem tup_but {H H' : Hp} {D a : Addr} {xs : List V} (nD : ∀ c u, H c = some u → c ≠ D) (bt : But D H H') (h : SqT K H a xs) : SqT K H' a xs := by
  rcases h with (h | ⟨o, h⟩) | h
  · exact .inl (.inl (bt _ _ (nD _ _ h) h))
  · exact .inl (.inr ⟨o, bt _ _ (nD _ _ h) h⟩)
  · exact .inr h
theorem nk_false {k : Nat} {f : Addr} {fd : FuncData} {ps : List Str} : FnOk P w K mg base CX0 k f fd ps (fun _ _ _ _ => False) := ⟨fun _ _ _ _ h => h.elim, fun _ _ _ _ _ _ _ _ _ _ _ _ _ h => h.elim⟩
def sp__law_letters (K : PySem.W.Frag) : Sp := fun vs H Q _ => ∃ (b lb : Addr) (L : List Nat) (k : Nat), vs = [.ref b, .str (S L), .int k] ∧ Bag H b lb ∧ k ≤ L.length ∧ L.length ≤ 1000 ∧ ∀ H' r, List.Sublist r L → r.length = k → But b H H' → Bag H' b lb → Q (.str (S r)) H'
theorem sub_next {L r : List Nat} {low z : Nat} (h : List.Sublist r (L.take low)) (hl : low ≤ z) (hz : z < L.length) : List.Sublist (r ++ [L[z]]) (L.take (z + 1)) := by
  rw [List.take_add_one, List.getElem?_eq_getElem hz]
  refine List.Sublist.append ?_ (List.Sublist.refl _)
  exact h.trans (List.take_sublist_take_left hl)
def lower : List Nat := ("abcdefghijklmnopqrstuvwxyz" : Str).cps.toList
def sp__law_some_faces (K : PySem.W.Frag) : Sp := fun vs H Q _ => ∃ (b lb : Addr) (m : Nat), vs = [.ref b, .int m] ∧ Bag H b lb ∧ 0 < m ∧ m ≤ 26 ∧ ∀ H' r, List.Sublist r lower → 0 < r.length → r.length ≤ m → But b H H' → Bag H' b lb → Q (.str (S r)) H'
theorem lower_len : lower.length = 26 := by decide +kernel
/-- a sign of a text -/
theorem of_str {H : Hp} {b : Addr} {l : List Nat} {v : V} (h : v ∈ l.map sgn) : ∃ c ∈ l, v = sgn c := by
  obtain ⟨c, hc, e⟩ := List.mem_map.mp h
  exact ⟨c, hc, e.symm⟩
def sp__law_some_room (K : PySem.W.Frag) : Sp := fun vs H Q _ => ∃ (b lb : Addr) (fs : List Nat), vs = [.ref b, .str (S fs)] ∧ Bag H b lb ∧ 0 < fs.length ∧ fs.length ≤ 100 ∧ ∀ H' n e s w, n ∈ fs → e ∈ fs → s ∈ fs → w ∈ fs → But b H H' → Bag H' b lb → Q (.str (S4 n e s w)) H'
def sp__law_some_cut (K : PySem.W.Frag) : Sp := fun vs H Q _ => ∃ (b lb : Addr) (fs : List Nat), vs = [.ref b, .str (S fs)] ∧ Bag H b lb ∧ 0 < fs.length ∧ fs.length ≤ 100 ∧ ∀ H' g x y, (g = 124 ∨ g = 45) → x ∈ fs → y ∈ fs → But b H H' → Bag H' b lb → Q (.str (S3 g x y)) H'
def sp__law_string (K : PySem.W.Frag) : Sp := fun vs H Q _ => ∃ (b lb : Addr) (fs : List Nat) (m : Nat), vs = [.ref b, .str (S fs), .int m] ∧ Bag H b lb ∧ 0 < fs.length ∧ fs.length ≤ 100 ∧ m ≤ 1000 ∧ ∀ H' r, (∀ c ∈ r, c ∈ fs) → r.length ≤ m → But b H H' → Bag H' b lb → Q (.str (S r)) H'
theorem joinL_ones : ∀ r : List Nat, TL.joinL [] (r.map fun c => [c]) = r
  | [] => rfl
  | [c] => rfl
  | c :: d :: r => by
    show [c] ++ ([] ++ TL.joinL [] ((d :: r).map fun c => [c])) = c :: d :: r
    rw [joinL_ones (d :: r)]
    rfl
theorem join_ones (r : List Nat) : Txt.join (S []) ((r.map fun c => [c]).map S) = S r := by
  rw [SX.join_S, joinL_ones]
theorem lens_ones (r : List Nat) : (((r.map fun c => [c]).map S).map (·.length)).sum = r.length := by
  induction r with
  | nil => rfl
  | cons c r ih =>
    rw [List.map_cons, List.map_cons, List.map_cons, List.sum_cons, ih, List.length_cons]
    show 1 + r.length = r.length + 1
    omega
def sp__law_split (K : PySem.W.Frag) : Sp := fun vs H Q _ => ∃ (n e s w sg x y : Nat), vs = [.str (S4 n e s w), .str (S3 sg x y)] ∧ ∀ p, H p = none → Q (.ref p) (upd H p (.lst ((partsC n e s w sg x y).map V.str)))
theorem sub4_1 {a b c d : Nat} : cutS (S4 a b c d) (some 1) none = S [b, c, d] := S_sub [a, b, c, d] 1
theorem sub4_2 {a b c d : Nat} : cutS (S4 a b c d) (some 2) none = S [c, d] := S_sub [a, b, c, d] 2
theorem to4_2 {a b c d : Nat} : cutS (S4 a b c d) none (some 2) = S [a, b] := S_to [a, b, c, d] 2
theorem to4_3 {a b c d : Nat} : cutS (S4 a b c d) none (some 3) = S [a, b, c] := S_to [a, b, c, d] 3
def swp {α : Type} : List α → List α → List α
  | [], [a, b] => [b, a]
  | _, _ => []
theorem swp_vals {vs : List V} {us : List Value} {zs : List V} {ws : List Value} (r : Vals vs us) (q : Vals zs ws) : Vals (swp vs zs) (swp us ws) := by
  cases r with
  | cons _ _ => exact .nil
  | nil =>
    cases q with
    | nil => exact .nil
    | cons q1 t =>
      cases t with
      | nil => exact .nil
      | cons q2 t =>
        cases t with
        | nil => exact .cons q2 (.cons q1 .nil)
        | cons _ _ => exact .nil
theorem kb_swap {K : PySem.W.Frag} {x : Str} {st : Stmt} {p1 p2 : Str}
    (h : ∀ (kV doc pm : Value) (an : Option Addr) (cdv ct : Value) (u v : Value), bindArgs (PySem.W.fnOf x x (defArgs st) (defBody st) (defScope st) .none kV doc pm an cdv ct) ⟨[], [(p2, u), (p1, v)]⟩ = pure [(p1, v), (p2, u)]) :
    KB K x st [p1, p2] [p2, p1] swp swp := by
  intro f fd F
  obtain ⟨oc, od, kV, doc, pm, an, cdv, ct, osl, rfl, lk, hcd⟩ := F.ex
  refine ⟨fun s us ws _ hl => ?_, fun r q => swp_vals r q⟩
  match us, ws, hl with
  | [], [u, v], _ => exact .of_eq (h kV doc pm an cdv ct u v)
  | [], [], hl => exact absurd (show 0 = 2 from hl) (by decide)
  | [], [_], hl => exact absurd (show 0 = 2 from hl) (by decide)
  | [], _ :: _ :: _ :: _, hl => exact absurd (show 0 = 2 from hl) (by decide)
  | _ :: _, ws, hl => exact absurd (show 0 = 2 from hl) (by decide)
structure St3 (H : Hp) (b l g : Addr) (gl : List Nat) : Prop where
  bag : Bag H b l
  gn : H g = some (.lst (gl.map sgn))
  gb : g ≠ b
  gz : g ≠ l
theorem St3.same (s : St3 H b l g gl) (q : Same H H') : St3 H' b l g gl := ⟨s.bag.same q, q _ _ s.gn, s.gb, s.gz⟩
theorem St3.new (s : St3 H b l g gl) (n : H p = none) : St3 (upd H p o) b l g gl := s.same (same_upd n)
theorem St3.drawn (s : St3 H b l g gl) (q : But b H H') (B : Bag H' b l) : St3 H' b l g gl := ⟨B, q _ _ s.gb s.gn, s.gb, s.gz⟩
/-- a value that is no text, by the heap -/
def NS (H : Hp) (v : V) : Prop := v = .non ∨ (∃ i, v = .int i) ∨ (∃ c, v = .bl c) ∨ (∃ p xs, v = .ref p ∧ H p = some (.lst xs)) ∨ ∃ p xs, v = .ref p ∧ H p = some (.tup xs)
theorem NS.same {H H' : Hp} {v : V} (n : NS H v) (q : Same H H') : NS H' v := by
  rcases n with e | e | e | ⟨p, xs, e, h⟩ | ⟨p, xs, e, h⟩
  · exact .inl e
  · exact .inr (.inl e)
  · exact .inr (.inr (.inl e))
  · exact .inr (.inr (.inr (.inl ⟨p, xs, e, q _ _ h⟩)))
  · exact .inr (.inr (.inr (.inr ⟨p, xs, e, q _ _ h⟩)))
theorem NS.not {K : PySem.W.Frag} {H : Hp} {v : V} (n : NS H v) : isStr v = false ∧ NotS K H v := by
  rcases n with rfl | ⟨i, rfl⟩ | ⟨c, rfl⟩ | ⟨p, xs, rfl, h⟩ | ⟨p, xs, rfl, h⟩
  · exact ⟨rfl, "NoneType", .base .non, by decide +kernel⟩
  · exact ⟨rfl, "int", .base (.int i), by decide +kernel⟩
  · exact ⟨rfl, "bool", .base (.bl c), by decide +kernel⟩
  · exact ⟨rfl, "list", .base (.lst h), by decide +kernel⟩
  · exact ⟨rfl, "tuple", .base (.tup h), by decide +kernel⟩
theorem NS.b {H : Hp} {v : V} (n : NS H v) (fs : Str) : bString v fs = false ∧ bRoom v fs = false ∧ bCut v fs = false := by
  have e := (n.not (K := default)).1
  refine ⟨?_, ?_, ?_⟩
  · unfold bString
    rw [e]
    rfl
  · unfold bRoom bString
    rw [e]
    rfl
  · unfold bCut
    rw [e]
    rfl
theorem mem_all {l fs : List Nat} (h : ∀ c ∈ l, c ∈ fs) : (l.all fun c => decide (c ∈ fs)) = true := by
  rw [List.all_eq_true]
  intro c hc
  exact decide_eq_true (h c hc)
theorem not_all {l fs : List Nat} {c : Nat} (hc : c ∈ l) (h : c ∉ fs) : (l.all fun c => decide (c ∈ fs)) = false := by
  rw [List.all_eq_false]
  exact ⟨c, hc, by rw [decide_eq_false h]; exact Bool.false_ne_true⟩
theorem bString_yes {l fs : List Nat} (h : ∀ c ∈ l, c ∈ fs) : bString (.str (S l)) (S fs) = true := mem_all h
theorem bString_no {l fs : List Nat} {c : Nat} (hc : c ∈ l) (h : c ∉ fs) : bString (.str (S l)) (S fs) = false := not_all hc h
theorem bRoom_no {l fs : List Nat} {c : Nat} (hc : c ∈ l) (h : c ∉ fs) : bRoom (.str (S l)) (S fs) = false := by
  unfold bRoom
  rw [bString_no hc h]
  rfl
theorem bRoom_len {l fs : List Nat} (h : l.length ≠ 4) : bRoom (.str (S l)) (S fs) = false := by
  unfold bRoom
  rw [show decide ((strOf (.str (S l))).cps.size = 4) = false from decide_eq_false h, Bool.and_false]
theorem bRoom_is {l fs : List Nat} (h : ∀ c ∈ l, c ∈ fs) : bRoom (.str (S l)) (S fs) = decide (l.length = 4) := by
  unfold bRoom
  rw [bString_yes h]
  rfl
theorem bCut_S (l fs : List Nat) : bCut (.str (S l)) (S fs) = (decide (l.length = 3) && decide (l.getD 0 0 ∈ [124, 45]) && (l.drop 1).all fun c => decide (c ∈ fs)) := rfl
theorem bCut_yes {g x y : Nat} {fs : List Nat} (hg : g = 124 ∨ g = 45) (hx : x ∈ fs) (hy : y ∈ fs) : bCut (.str (S3 g x y)) (S fs) = true := by
  show bCut (.str (S [g, x, y])) (S fs) = true
  rw [bCut_S, show ([g, x, y].drop 1) = [x, y] from rfl, mem_all (by
    intro c hc
    rcases List.mem_cons.mp hc with e | e
    · rw [e]
      exact hx
    · rw [List.mem_singleton.mp e]
      exact hy)]
  rcases hg with rfl | rfl <;> rfl
theorem bCut_len {l fs : List Nat} (h : l.length ≠ 3) : bCut (.str (S l)) (S fs) = false := by
  rw [bCut_S, decide_eq_false h]
  rfl
theorem bCut_sign {g x y : Nat} {fs : List Nat} (h1 : g ≠ 124) (h2 : g ≠ 45) : bCut (.str (S [g, x, y])) (S fs) = false := by
  rw [bCut_S, show decide (([g, x, y] : List Nat).getD 0 0 ∈ [124, 45]) = false from decide_eq_false (by
    intro q
    rcases List.mem_cons.mp q with e | e
    · exact h1 e
    · exact h2 (List.mem_singleton.mp e)), Bool.and_false]
  rfl
theorem bCut_face {g x y c : Nat} {fs : List Nat} (hc : c = x ∨ c = y) (h : c ∉ fs) : bCut (.str (S [g, x, y])) (S fs) = false := by
  rw [bCut_S, show ([g, x, y].drop 1) = [x, y] from rfl, not_all (c := c) (by
    rcases hc with rfl | rfl
    · exact List.mem_cons_self
    · exact List.mem_cons_of_mem _ List.mem_cons_self) h, Bool.and_false]
/-- the letters that are none of few letters -/
theorem gone_pos : ∀ (L fs : List Nat), L.Nodup → L.length ≤ (L.filter fun c => !decide (c ∈ fs)).length + fs.length
  | L, [], _ => by
    rw [List.filter_eq_self.mpr (fun c _ => by simp)]
    exact Nat.le_add_right _ _
  | L, f :: fs, nd => by
    have ih := gone_pos L fs nd
    have h : (L.filter fun c => !decide (c ∈ fs)).length ≤ (L.filter fun c => !decide (c ∈ f :: fs)).length + 1 := by
      have e : (L.filter fun c => !decide (c ∈ f :: fs)) = (L.filter fun c => !decide (c ∈ fs)).filter fun c => !decide (c = f) := by
        rw [List.filter_filter]
        refine List.filter_congr fun c _ => ?_
        by_cases h1 : c = f
        · subst h1
          simp
        · by_cases h2 : c ∈ fs <;> simp [h1, h2]
      rw [e]
      have nd2 : (L.filter fun c => !decide (c ∈ fs)).Nodup := nd.filter _
      generalize (L.filter fun c => !decide (c ∈ fs)) = M at nd2
      clear e ih
      induction M with
      | nil => exact Nat.zero_le _
      | cons m M ihM =>
        have nd3 := List.nodup_cons.mp nd2
        rw [List.filter_cons]
        by_cases hm : m = f
        · subst hm
          have e2 : (M.filter fun c => !decide (c = m)) = M := List.filter_eq_self.mpr fun c hc => by
            have : c ≠ m := fun q => nd3.1 (q ▸ hc)
            simp [this]
          rw [if_neg (by simp), e2, List.length_cons]
          exact Nat.le_refl _
        · rw [if_pos (by simp [hm]), List.length_cons, List.length_cons]
          have := ihM nd3.2
          omega
    rw [List.length_cons]
    omega
theorem lower_nd : lower.Nodup := by decide +kernel
theorem low_range {c : Nat} (h : c ∈ lower) : 97 ≤ c ∧ c ≤ 122 := by
  have : ∀ c ∈ lower, 97 ≤ c ∧ c ≤ 122 := by decide +kernel
  exact this c h
/-- lists of truth values as data -/
theorem dp_bls {K : PySem.W.Frag} {H : Hp} : ∀ bs : List Bool, DpAll K H (bs.map V.bl) (bs.map PyData.bool)
  | [] => .nil
  | b :: bs => .cons (.bl b) (dp_bls bs)
theorem deep_bls {bs : List Bool} (h : bs.length ≤ 1000) : Deep 3 (.list (bs.map PyData.bool)) := by
  unfold Deep
  refine ⟨by rw [List.length_map]; exact h, fun d hd => ?_⟩
  obtain ⟨c, _, rfl⟩ := List.mem_map.mp hd
  unfold Deep
  trivial
theorem dp_strs {K : PySem.W.Frag} {H : Hp} : ∀ zs : List Str, DpAll K H (zs.map V.str) (zs.map PyData.str)
  | [] => .nil
  | b :: bs => .cons (.str b) (dp_strs bs)
theorem deep_list {n : Nat} {ds : List PyData} (h : ds.length ≤ 1000) (q : ∀ d ∈ ds, Deep n d) : Deep (n + 1) (.list ds) := by
  unfold Deep
  exact ⟨h, q⟩
theorem deep_strs {n : Nat} {zs : List Str} (h : zs.length ≤ 1000) : Deep (n + 1) (.list (zs.map PyData.str)) := by
  unfold Deep
  refine ⟨by rw [List.length_map]; exact h, fun d hd => ?_⟩
  obtain ⟨c, _, rfl⟩ := List.mem_map.mp hd
  unfold Deep
  trivial
theorem parts_len {n e s w g x y : Nat} : (partsC n e s w g x y).length = 2 := by
  unfold partsC
  split <;> rfl
theorem same_bls {H : Hp} {p p' : Addr} {bs : List Bool} {Q : VK} {E : XK} (h : H p = some (.lst (bs.map V.bl))) (h' : H p' = some (.lst (bs.map V.bl))) (hl : bs.length ≤ 1000) (q : ∀ H', Same H H' → Q (.bl true) H') : sp__law_same K 3 [.ref p, .ref p'] H Q E :=
  ⟨_, _, .list (bs.map PyData.bool), rfl, .lst (SqL.of h) (dp_bls bs), .lst (SqL.of h') (dp_bls bs), deep_bls hl, q⟩
end
end FW
namespace L2
open PySem PySem.Spec PySem.Calls PyProof.Rows
section
variable {X : Cx}
/-! ### a text backwards -/
def tRevS (te : TE) : TE := fun σ H Q => te σ H fun x H1 => ∃ z : Str, x = .str z ∧ z.length ≤ sizeLine ∧ Q (.str ⟨z.cps.toList.reverse.toArray⟩) H1
theorem rev_pick (z : Str) : (Builtin.Str.strSliceIndices none none (-1) z.length).filterMap (z.cps[·]?) = z.cps.toList.reverse := by
  have e : Builtin.Str.strSliceIndices none none (-1) z.length = (List.range z.cps.size).reverse := by
    unfold Builtin.Str.strSliceIndices
    show sliceRange ((z.cps.size : Int) - 1) (-1) (-1) = _
    rw [PySem.W.krv_sliceRange, PySem.W.krv_range]
  rw [e, List.filterMap_reverse]
  have h := PySem.W.krv_all z.cps
  rw [h]
theorem pe_revS {e : Expr} {te : TE} {k : Nat} {p1 p2 p3 pos : Pos} (he : PE X e te) : PE X (.Subscript e (.Slice none none (some (.UnaryOp .USub (.Constant (.int 1) k p1) p2)) p3) pos) (tRevS te) := by
  refine ⟨fun pins s σ H Q I h => ?_⟩
  refine Subscript_ (thn (he.run pins s σ H _ I h) fun v s1 ⟨x, H1, I1, r1, q1⟩ => ?_)
  obtain ⟨z, ex, hz, q⟩ := q1
  subst ex
  obtain ⟨t, rfl⟩ := r1
  have hst : PO X (some (.UnaryOp .USub (.Constant (.int 1) k p1) p2)) (tPart (tUn (rU fun i => .int (-i)) (tC (.int 1)))) := po_some (pe_un un_neg pe_int)
  refine wpAny_Slice (thn (po_none.run pins s1 σ H1 (fun o H2 => o = none ∧ H2 = H1) I1 ⟨rfl, rfl⟩) fun vl s2 ⟨l, H2, I2, pl, el, e2⟩ => ?_)
  subst el e2
  refine thn (po_none.run pins s2 σ H2 (fun o H3 => o = none ∧ H3 = H2) I2 ⟨rfl, rfl⟩) fun vu s3 ⟨u, H3, I3, pu, eu, e3⟩ => ?_
  subst eu e3
  refine thn (hst.run pins s3 σ H3 (fun o H4 => o = some (-1) ∧ H4 = H3) I3 ⟨1, rfl, -1, rfl, rfl, rfl⟩) fun vs s4 ⟨o, H4, I4, ps, eo, e4⟩ => ?_
  subst eo e4
  obtain ⟨lo, rfl, el⟩ := IsPart.raw pl
  obtain ⟨up, rfl, eu⟩ := IsPart.raw pu
  obtain ⟨st, rfl, es⟩ := IsPart.raw ps
  have I5 : Inv X pins σ H4 { s4 with heap := s4.heap.push { cls := .type "slice", data := .fields #[partValue lo, partValue up, partValue st] } } := I4.kept (t' := s4.toks) fun b ob q => Heap.get?_push_of_some _ q
  show wpAny (model X.prog X.w) X.A (subscriptTail e (.Slice none none (some (.UnaryOp .USub (.Constant (.int 1) k p1) p2)) p3) (.str z t) (.ref s4.heap.objs.size)) (EP X pins σ Q) X.xe { s4 with heap := s4.heap.push { cls := .type "slice", data := .fields #[partValue lo, partValue up, partValue st] } }
  refine tail_any (ops := [.str z t, .ref s4.heap.objs.size]) (typeIs_str _ z t) (PySem.F.slot_str_getitem.lookup) ?_ (by with_unfolding_all rfl)
  refine wpAny_getItem_str_slice (l := lo) (u := up) (st := st) ⟨_, Heap.get?_push_size _ rfl, rfl, rfl⟩ (by rw [es]; rfl) ?_
  have hl : z.cps.toList.reverse.length ≤ sizeLine := by
    rw [List.length_reverse, Array.length_toList]
    exact hz
  have em : PySem.sliceMade z t lo up st = Made.str ⟨z.cps.toList.reverse.toArray⟩ := by
    unfold PySem.sliceMade PySem.slicePicked
    rw [el, eu, es]
    show (if (((-1 : Int) == 1) && _) = true then _ else Made.str ⟨((Builtin.Str.strSliceIndices none none (-1) z.length).filterMap (z.cps[·]?)).toArray⟩) = _
    rw [rev_pick]
    rfl
  rw [em]
  exact ⟨by show z.cps.toList.reverse.toArray.size ≤ sizeLine; rw [List.size_toArray]; exact hl, .str _, H4, I5.tok _, ⟨_, rfl⟩, q⟩
end
end L2
namespace FW
open PySem PySem.Spec PyProof.Rows L2
section
variable {P : Program} {w : World} {K : PySem.W.Frag} {mg : Str → Option Value} {base : Heap}
/-! ### ascending choices of letters -/
def ascB : List Nat → Bool
  | [] => true
  | [_] => true
  | a :: b :: r => decide (a < b) && ascB (b :: r)
theorem asc_next : ∀ (l : List Nat) (i : Nat) (h : i + 1 < l.length), ascB (l.take (i + 1 + 1)) = (ascB (l.take (i + 1)) && decide (l[i] < l[i + 1]))
  | [], _, h => absurd h (Nat.not_lt_zero _)
  | [_], i, h => absurd h (by simp)
  | a :: b :: r, 0, h => by
    show (decide (a < b) && ascB [b]) = (true && decide (a < b))
    show (decide (a < b) && true) = (true && decide (a < b))
    rw [Bool.and_true, Bool.true_and]
  | a :: b :: r, i + 1, h => by
    have ih := asc_next (b :: r) i (by simpa using h)
    show (decide (a < b) && ascB ((b :: r).take (i + 1 + 1))) = ((decide (a < b) && ascB ((b :: r).take (i + 1))) && _)
    rw [ih, Bool.and_assoc]
    rfl
theorem asc_sorted : ∀ {l : List Nat}, l.Pairwise (· < ·) → ascB l = true
  | [], _ => rfl
  | [_], _ => rfl
  | a :: b :: r, h => by
    have h1 := List.pairwise_cons.mp h
    show (decide (a < b) && ascB (b :: r)) = true
    rw [decide_eq_true (h1.1 b List.mem_cons_self), asc_sorted h1.2]
    rfl
theorem lt_sgn (x y : Nat) : decide (([x] : List Nat) < [y]) = decide (x < y) := by
  by_cases h : x < y
  · rw [decide_eq_true h]
    exact decide_eq_true (List.Lex.rel h)
  · rw [decide_eq_false h]
    refine decide_eq_false fun q => h ?_
    cases q with
    | rel r => exact r
    | cons r => cases r
def bChoice (v : V) (L : List Nat) (m : Int) : Bool := isStr v && (decide ((1 : Int) ≤ ((strOf v).cps.size : Int)) && decide (((strOf v).cps.size : Int) ≤ m)) && ((strOf v).cps.toList.all fun c => decide (c ∈ L)) && ascB (strOf v).cps.toList
theorem bChoice_1 {z : Str} {L : List Nat} {m : Int} (h : decide ((1 : Int) ≤ (z.length : Int)) = false) : bChoice (.str z) L m = false := by
  unfold bChoice
  rw [show decide ((1 : Int) ≤ ((strOf (V.str z)).cps.size : Int)) = false from h, Bool.false_and, Bool.and_false, Bool.false_and, Bool.false_and]
theorem bChoice_2 {z : Str} {L : List Nat} {m : Int} (h : decide ((z.length : Int) ≤ m) = false) : bChoice (.str z) L m = false := by
  unfold bChoice
  rw [show decide (((strOf (V.str z)).cps.size : Int) ≤ m) = false from h, Bool.and_false, Bool.and_false, Bool.false_and, Bool.false_and]
theorem bChoice_3 {z : Str} {L : List Nat} {m : Int} (h : decide ((1 : Int) ≤ (z.length : Int)) = true) (h2 : decide ((z.length : Int) ≤ m) = true) : bChoice (.str z) L m = (bString (.str z) (S L) && ascB z.cps.toList) := by
  unfold bChoice
  rw [show decide ((1 : Int) ≤ ((strOf (V.str z)).cps.size : Int)) = true from h, show decide (((strOf (V.str z)).cps.size : Int) ≤ m) = true from h2]
  rfl
/-- a value that may be asked: a text that is not too long, or another thing of known kind -/
def Askd (K : PySem.W.Frag) (H : Hp) (v : V) : Prop := (isStr v = true ∧ (strOf v).cps.size ≤ 100000) ∨ (isStr v = false ∧ NotS K H v)
def upper : List Nat := ("ABCDEFGHIJKLMNOPQRSTUVWXYZ" : Str).cps.toList
abbrev bFaces (v : V) : Bool := bChoice v lower 6
abbrev bCutters (v : V) : Bool := bChoice v upper 4
def bAddress (v : V) : Bool := bString v (S [48, 49])
def sp_is_ascending (K : PySem.W.Frag) : Sp := fun vs H Q _ => ∃ l : List Nat, vs = [.str (S l)] ∧ l.length ≤ 100000 ∧ ∀ H', Same H H' → Q (.bl (ascB l)) H'
def sp_is_choice (K : PySem.W.Frag) : Sp := fun vs H Q _ => ∃ (v : V) (L : List Nat) (m : Int), vs = [v, .str (S L), .int m] ∧ Askd K H v ∧ ∀ H', Same H H' → Q (.bl (bChoice v L m)) H'
def sp_is_faces (K : PySem.W.Frag) : Sp := fun vs H Q _ => ∃ v : V, vs = [v] ∧ Askd K H v ∧ ∀ H', Same H H' → Q (.bl (bFaces v)) H'
def sp_is_cutters (K : PySem.W.Frag) : Sp := fun vs H Q _ => ∃ v : V, vs = [v] ∧ Askd K H v ∧ ∀ H', Same H H' → Q (.bl (bCutters v)) H'
def sp_is_address (K : PySem.W.Frag) : Sp := fun vs H Q _ => ∃ v : V, vs = [v] ∧ Askd K H v ∧ ∀ H', Same H H' → Q (.bl (bAddress v)) H'
/-- numbers -/
def bNumber (v : V) (lo hi : Int) : Bool := match v with
  | .int i => decide (lo ≤ i) && decide (i ≤ hi)
  | _ => false
def isNum : V → Bool
  | .int _ => true
  | .bl _ => true
  | _ => false
def NotI (K : PySem.W.Frag) (H : Hp) (v : V) : Prop := ∃ T : String, TyX K H v (.type T) ∧ kitB T "int" = some false
def sp_is_number (K : PySem.W.Frag) : Sp := fun vs H Q _ => ∃ (v : V) (lo hi : Int), vs = [v, .int lo, .int hi] ∧ (isNum v = true ∨ (isNum v = false ∧ NotI K H v)) ∧ Q (.bl (bNumber v lo hi)) H
def sp__law_rising (K : PySem.W.Frag) : Sp := fun vs H Q _ => ∃ (l L : List Nat) (m : Int), vs = [.str (S l), .str (S L), .int m] ∧ l.length ≤ 100000 ∧ ∀ H', Same H H' → Q (.bl (bChoice (.str (S l)) L m)) H'
/-- one keyword; three keywords backwards -/
def one1 {α : Type} : List α → List α → List α
  | [], [a] => [a]
  | _, _ => []
def rev3 {α : Type} : List α → List α → List α
  | [], [a, b, c] => [c, b, a]
  | _, _ => []
theorem one1_vals {vs : List V} {us : List Value} {zs : List V} {ws : List Value} (r : Vals vs us) (q : Vals zs ws) : Vals (one1 vs zs) (one1 us ws) := by
  cases r with
  | cons _ _ => exact .nil
  | nil =>
    cases q with
    | nil => exact .nil
    | cons q1 t =>
      cases t with
      | nil => exact .cons q1 .nil
      | cons _ _ => exact .nil
theorem rev3_vals {vs : List V} {us : List Value} {zs : List V} {ws : List Value} (r : Vals vs us) (q : Vals zs ws) : Vals (rev3 vs zs) (rev3 us ws) := by
  cases r with
  | cons _ _ => exact .nil
  | nil =>
    cases q with
    | nil => exact .nil
    | cons q1 t =>
      cases t with
      | nil => exact .nil
      | cons q2 t =>
        cases t with
        | nil => exact .nil
        | cons q3 t =>
          cases t with
          | nil => exact .cons q3 (.cons q2 (.cons q1 .nil))
          | cons _ _ => exact .nil
theorem kb_one {K : PySem.W.Frag} {x : Str} {st : Stmt} {p1 : Str}
    (h : ∀ (kV doc pm : Value) (an : Option Addr) (cdv ct : Value) (u : Value), bindArgs (PySem.W.fnOf x x (defArgs st) (defBody st) (defScope st) .none kV doc pm an cdv ct) ⟨[], [(p1, u)]⟩ = pure [(p1, u)]) :
    KB K x st [p1] [p1] one1 one1 := by
  intro f fd F
  obtain ⟨oc, od, kV, doc, pm, an, cdv, ct, osl, rfl, lk, hcd⟩ := F.ex
  refine ⟨fun s us ws _ hl => ?_, fun r q => one1_vals r q⟩
  match us, ws, hl with
  | [], [u], _ => exact .of_eq (h kV doc pm an cdv ct u)
  | [], [], hl => exact absurd (show 0 = 1 from hl) (by decide)
  | [], _ :: _ :: _, hl => exact absurd (show 0 = 1 from hl) (by decide)
  | _ :: _, ws, hl => exact absurd (show 0 = 1 from hl) (by decide)
theorem kb_rev3 {K : PySem.W.Frag} {x : Str} {st : Stmt} {p1 p2 p3 : Str}
    (h : ∀ (kV doc pm : Value) (an : Option Addr) (cdv ct : Value) (u v t : Value), bindArgs (PySem.W.fnOf x x (defArgs st) (defBody st) (defScope st) .none kV doc pm an cdv ct) ⟨[], [(p3, u), (p2, v), (p1, t)]⟩ = pure [(p1, t), (p2, v), (p3, u)]) :
    KB K x st [p1, p2, p3] [p3, p2, p1] rev3 rev3 := by
  intro f fd F
  obtain ⟨oc, od, kV, doc, pm, an, cdv, ct, osl, rfl, lk, hcd⟩ := F.ex
  refine ⟨fun s us ws _ hl => ?_, fun r q => rev3_vals r q⟩
  match us, ws, hl with
  | [], [u, v, t], _ => exact .of_eq (h kV doc pm an cdv ct u v t)
  | [], [], hl => exact absurd (show 0 = 3 from hl) (by decide)
  | [], [_], hl => exact absurd (show 0 = 3 from hl) (by decide)
  | [], [_, _], hl => exact absurd (show 0 = 3 from hl) (by decide)
  | [], _ :: _ :: _ :: _ :: _, hl => exact absurd (show 0 = 3 from hl) (by decide)
  | _ :: _, ws, hl => exact absurd (show 0 = 3 from hl) (by decide)
theorem but_fresh {H H1 H' : Hp} {D : Addr} (s : Same H H1) (n : H1 D = none) (b : But D H1 H') : Same H H' := fun c u e => b c u (ne_of_none (s _ _ e) n) (s _ _ e)
end
end FW
namespace FW
open PySem PySem.Spec PyProof.Rows L2
def inCls (c : Stmt) (j : Nat) : Stmt := match c with
  | .ClassDef _ _ _ b _ _ _ _ _ _ _ => b.getD j (.Pass ⟨0, 0, 0, 0⟩)
  | s => s
def bLetter (v : V) (L : List Nat) : Bool := isStr v && decide ((strOf v).cps.size = 1) && decide ((strOf v).cps.toList.getD 0 0 ∈ L)
section
variable {P : Program} {w : World} {K : PySem.W.Frag} {mg : Str → Option Value} {base : Heap}
def sp_is_letter (K : PySem.W.Frag) : Sp := fun vs H Q _ => ∃ (v : V) (L : List Nat), vs = [v, .str (S L)] ∧ Askd K H v ∧ ∀ H', Same H H' → Q (.bl (bLetter v L)) H'
/-- what is told of an error class of the program: its name, its __init__ at fI -/
structure Kls (K : PySem.W.Frag) (mg : Str → Option Value) (C fI : Addr) (z : String) : Prop where
  g : mg (Str.ofString z) = some (.ref C)
  oex : OexC K C
  cle : ClsE K C
  nam : NameC K C (Str.ofString z)
  xf : XfC K C
  ncode : PySem.W.findIn K (.ref C) "code" = some none
  init : PySem.W.findIn K (.ref C) "__init__" = some (some (.ref fI))
  tI : PySem.W.typeIn K (.ref fI) = some (.type "function")
/-- __init__(self, f): self.f = f; self.code = the class's name -/
def sp_init (K : PySem.W.Frag) (f : String) : Sp := fun vs H Q _ => ∃ (a C : Addr) (v : V) (z : Str), vs = [.ref a, v] ∧ H a = some (exo a C none) ∧ OexC K C ∧ ClsE K C ∧ NameC K C z ∧ PySem.W.findIn K (.ref C) (Str.ofString f) = some none ∧ PySem.W.findIn K (.ref C) "code" = some none ∧
  ∀ dx, H dx = none → dx ≠ a → Q .non (upd (upd (upd H dx (exd dx [(Str.ofString f, v)])) a (exo a C (some dx))) dx (exd dx [("code", .str z), (Str.ofString f, v)]))
/-- the dict of an error that bears one value -/
def Err1 (f : String) (z : String) (v : V) : HO := .xd [("code", .str (Str.ofString z)), (Str.ofString f, v)]
theorem err_heap {H : Hp} {a d : Addr} {o1 o2 o3 o4 u : HO} (na : H a = none) (hda : d ≠ a) : upd (del (upd (upd (upd (upd H a o1) d o2) a o3) d o4) a) d u = upd H d u := by
  funext b
  by_cases hb : b = d
  · rw [hb, upd_same, upd_same]
  · rw [upd_ne hb, upd_ne hb]
    by_cases ha : b = a
    · rw [ha, del_same, na]
    · rw [del_ne ha, upd_ne hb, upd_ne ha, upd_ne hb, upd_ne ha]
/-- C(e): the error that its __init__ leaves -/
theorem mk1 {x f : String} {C fI : Addr} {H1 : Hp} {v : V} {Q : XK} {E : XK} (T : Kls K mg C fI x) (nf : PySem.W.findIn K (.ref C) (Str.ofString f) = some none) (h : ∀ d, H1 d = none → Q (.ref C) (some d) (upd H1 d (Err1 f x v))) :
    [v].length ≤ 1000 ∧ ∀ a, H1 a = none → sp_init K f (.ref a :: ([v] ++ [])) (upd H1 a (exo a C none)) (fun v H2 => v = .non ∧ ∃ (d : Addr) (fs : List (Str × V)), H2 a = some (exo a C (some d)) ∧ H2 d = some (exd d fs) ∧ H1 d = none ∧ Q (.ref C) (some d) (upd (del H2 a) d (.xd fs))) E := by
  refine ⟨(show 1 ≤ 1000 by decide), fun a na => ⟨a, C, v, Str.ofString x, rfl, upd_same, T.oex, T.cle, T.nam, nf, T.ncode, fun d hd hda => ⟨rfl, d, _, ?_, upd_same, ?_, ?_⟩⟩⟩
  · rw [upd_ne (Ne.symm hda), upd_same]
  · rwa [upd_ne hda] at hd
  · rw [upd_ne hda] at hd
    rw [err_heap na hda]
    exact h d hd
/-- the promise of a def that checks its first argument -/
def FieldIs (K : PySem.W.Frag) (C : Addr) (fs : List (Str × V)) (z : Str) (v : V) : Prop :=
  if z ∈ (["InvalidLine", "InvalidStep", "InvalidTable", "InvalidBad", "InvalidPlan", "UnknownRoom"] : List Str) then PySem.W.findIn K (.ref C) "at" = some none ∧ fs.lookup (Str.ofString "at") = some v
  else if z ∈ (["TooMany", "Full"] : List Str) then PySem.W.findIn K (.ref C) "most" = some none ∧ fs.lookup (Str.ofString "most") = some v
  else if z ∈ (["InvalidText", "InvalidPage"] : List Str) then PySem.W.findIn K (.ref C) "line" = some none ∧ fs.lookup (Str.ofString "line") = some v
  else if z = "UnknownState" then PySem.W.findIn K (.ref C) "state" = some none ∧ fs.lookup (Str.ofString "state") = some v
  else if z ∈ (["InvalidPaper", "OtherFaces", "OtherCutters", "NothingLeft"] : List Str) then v = .non
  else PySem.W.findIn K (.ref C) "given" = some none ∧ fs.lookup (Str.ofString "given") = some v
/-- a caught error of the program: its class, its dict, its code, what it bears -/
def Caught (K : PySem.W.Frag) (H : Hp) (a : Addr) (z : Str) (v : V) : Prop := ∃ (C dd : Addr) (fs : List (Str × V)), H a = some (ExK (.ref C) (some dd) a) ∧ H dd = some (.xd fs) ∧ XfC K C ∧ PySem.W.findIn K (.ref C) "code" = some none ∧ fs.lookup (Str.ofString "code") = some (.str z) ∧ FieldIs K C fs z v
theorem Caught.same {H H' : Hp} {a : Addr} {z : Str} {v : V} (h : Same H H') : Caught K H a z v → Caught K H' a z v := fun ⟨C, dd, fs, h1, h2, r⟩ => ⟨C, dd, fs, h _ _ h1, h _ _ h2, r⟩
def sp__law_field (K : PySem.W.Frag) : Sp := fun vs H Q _ => ∃ (a : Addr) (z : Str) (v : V), vs = [.ref a] ∧ Caught K H a z v ∧ ∀ H', Same H H' → Q v H'
/-- what _law_try makes of what it asks -/
def TTry (K : PySem.W.Frag) (cs : List Value) : (XK → Hp → VK → Prop) → Hp → VK → Prop := fun tl H Q =>
  tl (fun cls d H1 => PySem.W.exmAny K cls cs = some true ∧ ∀ a, H1 a = none → ∃ (z : Str) (v : V), Caught K (upd H1 a (ExK cls d a)) a z v ∧ ∀ H2, Same (upd H1 a (ExK cls d a)) H2 → ∀ p, H2 p = none → Q (.ref p) (upd H2 p (.tup [.str z, v])))
    H (fun v H1 => [V.str "", v].length ≤ sizeLine ∧ ∀ p, H1 p = none → Q (.ref p) (upd H1 p (.tup [.str "", v])))
end
end FW
namespace FW
open PySem PySem.Spec PyProof.Rows L2
section
variable {X : Cx} {k j : Nat} {x : Str} {st : Stmt} {ps ks : List Str} {sp : Sp} {p pos : Pos} {e : Expr} {es : List Expr} {kws : List Keyword} {t tk : TA} {g : List Value → List Value → List Value} {gV : List V → List V → List V}
/-- a def that may raise, called where it raises nothing -/
theorem pe_cE (c : Cal X.prog X.w X.K X.mg X.base (L2.CX X.prog X.w) k x st ps sp) (hr : Room j X.A) (hk : k ≤ j) (hg : Gl X x) (ha : PA X (e :: es) t)
    (hdb : (x == ("__debug__" : Str)) = false := by decide) (he : starEach (e :: es) X.env = (false, eval e X.env) :: starEach es X.env := by rfl) (hpl : (backTo pos (starEach es X.env)).any (·.1) = false := by rfl) :
    PE X (.Call (.Name x p) (e :: es) [] pos) (tCall sp [] E0 t) := pe_cx c hr hk hg passL ha hdb he hpl
theorem pe_ck0E (c : Cal X.prog X.w X.K X.mg X.base (L2.CX X.prog X.w) k x st ps sp) (b : KB X.K x st ps ks g gV) (hr : Room j X.A) (hk : k ≤ j) (hg : Gl X x) (hkw : PK X kws tk)
    (hall : (backToKw pos (keywordEach kws X.env)).all (·.1.isSome) = true := by rfl) (hks : (backToKw pos (keywordEach kws X.env)).filterMap (·.1) = ks := by rfl)
    (hdb : (x == ("__debug__" : Str)) = false := by decide)
    (hpl : ((backTo pos (starEach [] X.env)).any (·.1) || (backToKw pos (keywordEach kws X.env)).any (·.1.isNone)) = false := by rfl) :
    PE X (.Call (.Name x p) [] kws pos) (tCallK sp gV E0 tNil tk) := by
  obtain ⟨f, fd, F, hm, fn, _⟩ := c.ex
  exact pe_callK0 F (hr.mono hk) hg hm fn.kp (b f fd fn) passL hkw hall hks hdb hpl
end
/-! ### what stands when only tables grow -/
section
variable {K : PySem.W.Frag} {H H' : Hp}
theorem ext_seq {a : Addr} {xs : List V} (e : LamX.ExtN H H') (h : SqL K H a xs) : SqL K H' a xs := by
  rcases h with (h | ⟨o, h⟩) | h
  · exact .inl (.inl (e _ _ h (fun _ z => by cases z)))
  · exact .inl (.inr ⟨o, e _ _ h (fun _ z => by cases z)⟩)
  · exact .inr h
theorem ext_tup {a : Addr} {xs : List V} (e : LamX.ExtN H H') (h : SqT K H a xs) : SqT K H' a xs := by
  rcases h with (h | ⟨o, h⟩) | h
  · exact .inl (.inl (e _ _ h (fun _ z => by cases z)))
  · exact .inl (.inr ⟨o, e _ _ h (fun _ z => by cases z)⟩)
  · exact .inr h
theorem dp_ext (e : LamX.ExtN H H') {v : V} {d : PyData} (h : Dp K H v d) : Dp K H' v d :=
  @Dp.rec K H (fun v d _ => Dp K H' v d) (fun vs ds _ => DpAll K H' vs ds) .non (fun b => .bl b) (fun i => .int i) (fun x => .str x) (fun h _ ih => .lst (ext_seq e h) ih) (fun h _ ih => .tup (ext_tup e h) ih) .nil (fun _ _ i1 i2 => .cons i1 i2) v d h
theorem ns_ext (e : LamX.ExtN H H') {v : V} (n : NS H v) : NS H' v := by
  rcases n with n | n | n | ⟨p, xs, z, h⟩ | ⟨p, xs, z, h⟩
  · exact .inl n
  · exact .inr (.inl n)
  · exact .inr (.inr (.inl n))
  · exact .inr (.inr (.inr (.inl ⟨p, xs, z, e _ _ h (fun _ q => by cases q)⟩)))
  · exact .inr (.inr (.inr (.inr ⟨p, xs, z, e _ _ h (fun _ q => by cases q)⟩)))
end
end FW
namespace FW
open PySem PySem.Spec PyProof.Rows L2
/-! ### a walk over a list or a tuple -/
def iSeq (K : PySem.W.Frag) (tl : TE) : TI := fun σ H R => tl σ H fun x H1 => ∃ a, x = .ref a ∧ (((∃ xs, SqL K H1 a xs) ∧ R (Itl K a) H1) ∨ ((∃ xs, SqT K H1 a xs) ∧ R (Itt K a) H1))
theorem pi_seq {X : Cx} {tg l : Expr} {tl : TE} (hl : PE X l tl) : PI X tg l (iSeq X.K tl) := by
  refine ⟨fun pins s σ H R I h => thn (hl.run pins s σ H _ I h) ?_⟩
  rintro v s1 ⟨x, H1, I1, r1, a, e, q1⟩
  subst e
  obtain rfl : v = Value.ref a := r1
  have fp : ∀ b ∈ [s1.heap.objs.size], FpOk X pins H1 b := fun b hb => by
    rw [List.mem_singleton.mp hb]
    exact I1.fpOk (Nat.le_refl _) (I1.hok.fresh (Nat.le_refl _))
  rcases q1 with ⟨⟨xs, hq⟩, q⟩ | ⟨⟨xs, hq⟩, q⟩
  · obtain ⟨its, rv, p, hz⟩ := I1.list hq
    exact wpAny_pyIter_list p.isList ⟨s1.heap.objs.size, [s1.heap.objs.size], _, _, H1, rfl, I1.kept (t' := s1.toks) fun b o e => Heap.get?_push_of_some _ e, turn_list a _,
      ⟨_, Heap.get?_push_size _ rfl, rfl, rfl⟩, fp, q⟩
  · obtain ⟨its, rv, p, hz⟩ := I1.tuple hq
    exact wpAny_pyIter_tuple (show s1.heap.IsTuple a its.toArray from p) ⟨s1.heap.objs.size, [s1.heap.objs.size], _, _, H1, rfl, I1.kept (t' := s1.toks) fun b o e => Heap.get?_push_of_some _ e, turn_tuple a _,
      ⟨_, Heap.get?_push_size _ rfl, rfl, rfl⟩, fp, q⟩
end FW
namespace FW
open PySem PySem.Spec PyProof.Rows L2
/-! ### enumerate(x): a list, a tuple or a text -/
theorem meets_enum1 {v : Value} {o : Obj} {B0 : Heap → Prop} (B : Begins v o B0) :
    Meets (Builtin.«enumerate.__new__» ⟨[.type "enumerate", v], []⟩) (fun _ R s => B0 s.heap ∧
      R (.ok (.ret (.ref (s.heap.push o).objs.size))) { s with heap := (s.heap.push o).push { cls := .type "enumerate", data := .fields #[.none, .bool false, .ref s.heap.objs.size, rawInt 0, .none, .none] } }) :=
  .of_wp fun prog w A R s hh => by
    obtain ⟨hp, gg, dd, tk, os⟩ := s
    obtain ⟨hb, hr⟩ := hh
    have hsub := sub_enumerate
    have go : ∀ {A' : Around} {E : Value → Shared → Prop} {Q : Value → Shared → Prop}, Q (.ref hp.objs.size) ⟨hp.push o, gg, dd, tk, os⟩ → wpAny (model prog w) A' (pyIter v) Q E ⟨hp, gg, dd, tk, os⟩ := fun q => B.iter prog w _ _ ⟨hp, gg, dd, tk, os⟩ _ hb q
    wp_walk using go
    refine wpAny_stack_any fun st => wpAny_pure ?_
    split
    · rename_i c _ _ _ _ _
      cases (c == Value.type "enumerate")
      · wp_walk using go
        exact ⟨_, rfl, hr⟩
      · wp_walk using go
        exact ⟨_, rfl, hr⟩
    · wp_walk using go
      exact ⟨_, rfl, hr⟩
section
variable {prog : Program} {w : World} {A : Around} {E : Value → Shared → Prop} {s : Shared}
theorem enum_begin1 {v : Value} {o : Obj} {B0 : Heap → Prop} {Q : Value → Shared → Prop} (B : Begins v o B0) (hb : B0 s.heap)
    (h : ∀ h', IsEnum h' (s.heap.objs.size + 1) s.heap.objs.size 0 .none → h'.get? s.heap.objs.size = some o → (∀ b u, s.heap.get? b = some u → h'.get? b = some u) → Q (.ref (s.heap.objs.size + 1)) { s with heap := h' }) :
    wpAny (model prog w) A (call (.type "enumerate") [v]) Q E s := by
  refine callType_new F.called_enumerate (by decide) (F.typeCall_enumerate_1 _) (F.newCall_enumerate_1 _) (fun obj => F.args_object_init_2 obj _)
    F.entry_enumerate_new (meets_enum1 B) ⟨hb, ?_⟩
  have sz1 : (s.heap.push o).objs.size = s.heap.objs.size + 1 := Heap.size_push ..
  show _ ∧ _
  rw [sz1]
  have en : IsEnum ((s.heap.push o).push { cls := .type "enumerate", data := .fields #[.none, .bool false, .ref s.heap.objs.size, rawInt 0, .none, .none] }) (s.heap.objs.size + 1) s.heap.objs.size 0 .none := by
    have z := Heap.get?_push_size (s.heap.push o) (o := { cls := .type "enumerate", data := .fields #[.none, .bool false, .ref s.heap.objs.size, rawInt 0, .none, .none] }) rfl
    rwa [sz1] at z
  exact ⟨⟨_, en, rfl⟩, h _ en (Heap.get?_push_of_some _ (Heap.get?_push_size _ B.free)) fun b u x => Heap.get?_push_of_some _ (Heap.get?_push_of_some _ x)⟩
end
def IteG (K : PySem.W.Frag) (k : SK) : It :=
  ⟨fun i H => ∃ (xs : List V) (x : V), k.src K H xs ∧ xs[i]? = some x, fun i H v H' => ∃ T x, v = .ref T ∧ H T = none ∧ H' = upd H T (.tup [.int (i : Nat), x]) ∧ ∀ xs, k.src K H xs → xs[i]? = some x, fun i H => ∃ xs : List V, k.src K H xs ∧ i = xs.length⟩
theorem turn_enumG {P : Program} {w : World} {K : PySem.W.Frag} {elts : List Expr} {kk : Nat} {tpos : Pos} {e it : Addr} {k : SK} (hne : e ≠ it) (ha : ∀ c, k.at c → c ≠ e ∧ c ≠ it) :
    Turn P w K (.Tuple elts kk tpos) (IteG K k) [e, it] e (fun i h => (∃ old, IsEnum h e it ((i : Nat) : Int) old) ∧ k.iter it i h) where
  mem := List.mem_cons_self
  obj := fun i h st b hb => by
    obtain ⟨⟨old, he⟩, hi⟩ := st
    have e' : b = e ∨ b = it := by simpa using hb
    rcases e' with z | z
    · rw [z]
      exact ⟨_, he, fun v q => nomatch q⟩
    · rw [z]
      exact SK.iter_obj hi
  keep := fun i h h' st k => by
    obtain ⟨⟨old, he⟩, hi⟩ := st
    exact ⟨⟨old, k e (by simp) _ he⟩, SK.iter_keep hi fun o q => k it (by simp) o q⟩
  item := by
    intro X hP hw hK hc i pins s σ H E I hf st hg
    subst hP hw hK
    obtain ⟨⟨old, he⟩, hi⟩ := st
    obtain ⟨xs, x, hq, hx⟩ := hg
    obtain ⟨fp, Pp, Sp, D, g1, b1, r1, m1, f1⟩ := SK.draws I hc hq fun c q => (ha c q).2
    have lx : i < xs.length := (List.getElem?_eq_some_iff.mp hx).1
    have hel : e < s.heap.objs.size := Heap.lt_size he
    have hil : it < s.heap.objs.size := by
      obtain ⟨_, q, _⟩ := SK.iter_obj hi
      exact Heap.lt_size q
    have hef : e ∉ fp := fun q => by
      rcases f1 e q with z | z
      · exact hne z
      · exact (ha e z).1 rfl
    refine wpAny_pyNext_enum_itemD D he (g1 i hi) lx hne hef fun u h' tk p ho hs hT hsz hk => ?_
    obtain ⟨v1, e1, ru⟩ := r1 i u p
    obtain rfl : v1 = x := Option.some.inj (e1.symm.trans hx)
    refine ⟨_, rfl, wpAny_letOwnedTupleGo_enum (s := { s with heap := h', toks := tk + 1 }) ho fun h'' he' sb => ?_⟩
    have hT2 : h''.get? s.heap.objs.size = some { cls := .type "tuple", data := .seq #[.int i tk, u] } := (sb.2 _ (Nat.ne_of_gt hel)).trans hT
    have new : ObjOk X.prog X.w (upd H s.heap.objs.size (.tup [.int (i : Nat), v1])) h'' s.heap.objs.size (.tup [.int (i : Nat), v1]) :=
      ⟨(show 2 ≤ sizeLine by decide), [.int i tk, u], .cons ⟨_, rfl⟩ (.cons ru .nil), ⟨_, hT2, rfl, _, rfl⟩⟩
    have I1 : Inv X pins σ (upd H s.heap.objs.size (.tup [.int (i : Nat), v1])) { s with heap := h'', toks := tk + 1 } :=
      I.turnedNew (ch := [e, it]) (fun b ob hb q => (sb.2 b (fun z => hb (by simp [z]))).trans (hk b ob (fun z => hb (by simp [z])) (fun z => hb (by simp [z])) q)) hf (Nat.le_refl _) new
    refine ⟨.ref s.heap.objs.size, _, I1, rfl, ⟨_, v1, rfl, I.hok.fresh (Nat.le_refl _), rfl, fun ys hy => by rw [SK.inj I hy hq]; exact hx⟩, ⟨⟨u, ?_⟩, SK.iter_keep (b1 _ _ hs) fun o q => (sb.2 it (Ne.symm hne)).trans q⟩, fun b hb => ?_⟩
    · rw [show ((i + 1 : Nat) : Int) = (i : Int) + 1 by omega]
      exact he'
    · have e' : b = e ∨ b = it := by simpa using hb
      have hb' : b < s.heap.objs.size := by
        rcases e' with z | z
        · rw [z]
          exact hel
        · rw [z]
          exact hil
      rw [upd_ne (Nat.ne_of_lt hb')]
      exact (hf b hb).1
  done := by
    intro X hP hw hK hc i pins s σ H E I hf st hg
    subst hP hw hK
    obtain ⟨⟨old, he⟩, hi⟩ := st
    obtain ⟨xs, hq, rfl⟩ := hg
    obtain ⟨fp, Pp, Sp, D, g1, b1, r1, m1, f1⟩ := SK.draws I hc hq fun c q => (ha c q).2
    obtain ⟨f0, f1', f2, f3, f4, f5⟩ := hf it (by simp)
    exact wpAny_pyNext_enum_endD D he (g1 _ hi) fun h' eb => ⟨rfl, I.turned (t' := s.toks) (fun b o hb q => eb b o hb q) f0 f1' f3 f4 f5⟩
  self := fun A i s Q E st h => by
    obtain ⟨⟨old, he⟩, _⟩ := st
    exact wpAny_pyIter_enum he h
def iEnumG (K : PySem.W.Frag) (ta : TA) : TI := fun σ H R => ta σ H fun vs H1 => ∃ (x : V) (xs : List V), vs = [x] ∧ Src K H1 x xs ∧ ∀ k : SK, k.val = x → k.src K H1 xs → R (IteG K k) H1
theorem pi_enumG {X : Cx} {e : Expr} {ta : TA} {p pos tpos : Pos} {elts : List Expr} {kk : Nat} (hg : Gl X "enumerate") (hm : X.mg "enumerate" = none) (ha : PA X [e] ta) (hs : starEach [e] X.env = [(false, eval e X.env)] := by rfl) :
    PI X (.Tuple elts kk tpos) (.Call (.Name "enumerate" p) [e] [] pos) (iEnumG X.K ta) := by
  refine ⟨fun pins s σ H R I h => ?_⟩
  refine Call_ (ld_blt I hg hm boot_enumerate (PyProof.Rows.callWith_type1 (thn (ha.run pos pins s σ H _ I h) ?_) hs rfl))
  rintro us s1 ⟨vs, H1, I1, r1, x, xs, ex, sx, q⟩
  subst ex
  cases r1 with
  | cons r rr =>
    cases rr
    obtain ⟨k, ev, _, src, lt, B0, b0, hb0⟩ := sx.kind I1 r
    refine enum_begin1 b0 hb0 fun h' he hi hk => wpAny_pyIter_enum he ?_
    have I2 : Inv X pins σ H1 { s1 with heap := h' } := I1.kept (t' := s1.toks) hk
    refine ⟨s1.heap.objs.size + 1, [s1.heap.objs.size + 1, s1.heap.objs.size], _, _, H1, rfl, I2, turn_enumG (k := k) (Nat.succ_ne_self _) (fun c hc => ?_), ⟨⟨.none, he⟩, SK.begun hi⟩, fun b hb => ?_, q k ev src⟩
    · have hlt := lt c hc
      exact ⟨Nat.ne_of_lt (Nat.lt_succ_of_lt hlt), Nat.ne_of_lt hlt⟩
    · have e' : b = s1.heap.objs.size + 1 ∨ b = s1.heap.objs.size := by simpa using hb
      have hle : s1.heap.objs.size ≤ b := by
        rcases e' with z | z
        · rw [z]
          exact Nat.le_add_right _ _
        · rw [z]
          exact Nat.le_refl _
      exact I1.fpOk hle (I1.hok.fresh hle)
theorem walk_enumG {K : PySem.W.Frag} {k : SK} {xs : List V} : Walk (IteG K k) xs.length (fun H => k.src K H xs) (YPair (fun i => some (.int (i : Nat))) (fun i => xs[i]?)) := by
  refine ⟨fun i _ hi q => ⟨xs, xs[i], q, by simp [hi]⟩, fun _ q => ⟨xs, q, rfl⟩, fun i H v H' _ q y => ?_⟩
  obtain ⟨T, x, h1, h2, h3, h4⟩ := y
  exact ⟨T, .int (i : Nat), x, h1, h2, h3, rfl, h4 xs q⟩
end FW
namespace FW
open PySem PySem.Spec PyProof.Rows L2
/-! ### C.m(..), m a static method of the class at C over the function at f -/
structure Sta (K : PySem.W.Frag) (C : Addr) (m : Str) (f : Addr) : Prop where
  rd : PySem.W.readsIn K C (.type "type") = true
  fd : ∃ (p : Addr) (rest : List Value), PySem.W.findCls K (.ref C) (.type "type") m = some (.get (.builtin "staticmethod.__get__") (.ref p) .none (.ref C)) ∧ PySem.W.recIn K p "staticmethod" = some (.ref f :: rest)
  sg : PySem.W.specialIn K (.ref C) "__getattribute__" = some (some (.builtin "type.__getattribute__"))
  kp : PySem.W.keepIn K (.ref f) = true
theorem static_get {prog : Program} {w : World} {A : Around} {E : Value → Shared → Prop} {s : Shared} {K : PySem.W.Frag} {C f : Addr} {m : Str} {pl : Sem Bool} {Q : Value × List Value → Shared → Prop} (X : K.In s.heap) (S : Sta K C m f)
    (h : ∀ u, Q (.ref f, []) { s with toks := u }) : wpAny (model prog w) A (getMethod (.ref C) m pl) Q E s := by
  obtain ⟨p, rest, fd, rc⟩ := S.fd
  exact PySem.W.method_cls X S.sg (PySem.W.cls_bind X S.rd fd (wpAny_call (PySem.W.sm_get (s := { s with toks := s.toks + 1 }) X rc (PySem.W.handed_on rfl (h _)))))
section
variable {X : Cx} {CX : CXT} {k : Nat} {f C : Addr} {fd : FuncData} {ps : List Str} {sp : Sp} {dvs : List V} {ds : List Value} {E : XK} {x m : Str} {p1 pos apos : Pos} {e : Expr} {es : List Expr} {t : TA}
theorem pe_static {pl : Sem Bool} (hg : Gl X x) (hm : X.mg x = some (.ref C)) (S : Sta X.K C m f) (F : FnOk X.prog X.w X.K X.mg X.base CX k f fd ps sp) (hr : Room k X.A) (hb : L2.Binds X.K fd ps ds) (hd : Vals dvs ds) (hx : Passes CX X E) (ha : PA X (e :: es) t)
    (hdb : (x == ("__debug__" : Str)) = false := by decide)
    (hc : eval (.Call (.Attribute (.Name x p1) m apos) (e :: es) [] pos) X.env = (do
      let oc ← eval (.Name x p1) X.env
      standAt apos.atName
      let (fc, fst) ← holding [oc] (getMethod oc m pl)
      callWith pos fc fst (backTo pos (starEach (e :: es) X.env)) (backToKw pos (keywordEach [] X.env))) := by rfl)
    (he : starEach (e :: es) X.env = (false, eval e X.env) :: starEach es X.env := by rfl) (hpl : (backTo pos (starEach es X.env)).any (·.1) = false := by rfl) :
    PE X (.Call (.Attribute (.Name x p1) m apos) (e :: es) [] pos) (tCall sp dvs E t) := by
  refine ⟨fun pins s σ H Q I h => PySem.W.methodCall_KW (pl := pl) (ld_glob I hg hm ?_ hdb) hc⟩
  refine static_get I.kIn S fun u => ?_
  have I1 : Inv X pins σ H { s with toks := u } := I.tok _
  refine PySem.W.callWith_K (first := []) (h₀ := X.base) I.ok.mod.kin S.kp (thn (ha.run pos pins _ σ H _ I1 h) ?_) he hpl
  rintro us s2 ⟨vs, H2, I2, r, q2⟩
  exact ⟨I2.kIn, run_fn F hr hb hd hx I2 r q2⟩
end
end FW
namespace FW
open PySem PySem.Spec PyProof.Rows L2 StX
/-- three parameters ahead of the starred one -/
theorem bind_star3 {B : List Value → Sem (List (Str × Value))} {p1 p2 p3 pv : Str} (h0 : ∀ a b c, B [a, b, c] = (newTuple [] >>= fun t => pure [(p1, a), (p2, b), (p3, c), (pv, t)]))
    (h1 : ∀ a b c r rs, B (a :: b :: c :: r :: rs) = (newTuple (r :: rs) >>= fun t => pure [(p1, a), (p2, b), (p3, c), (pv, t)])) :
    ∀ us rest : List Value, us.length = [p1, p2, p3].length → B (us ++ rest) = (newTuple rest >>= fun t => pure ([p1, p2, p3].zip us ++ [(pv, t)]))
  | [a, b, c], [], _ => h0 a b c
  | [a, b, c], r :: rs, _ => h1 a b c r rs
section
variable {X : Cx} {CX : CXT} {k : Nat} {f C : Addr} {sp : Sp} {E : XK} {x : Str} {e : Expr} {es : List Expr} {t : TA} {p pos : Pos}
/-- C(e, .., *y) -/
theorem pe_makeS (M : Mk X.K C f) (F : FnR X.prog X.w X.K X.mg X.base CX k f sp) (hr : Room (k + 1) X.A) (hg : Gl X x) (hm : X.mg x = some (.ref C)) (hx : Passes CX X E) (ha : PA X (e :: es) t) (hd : (x == ("__debug__" : Str)) = false := by decide)
    (he : starEach (e :: es) X.env = (false, eval e X.env) :: starEach es X.env := by rfl) (hst : (backTo pos (starEach es X.env)).any (·.1) = true := by rfl) :
    PE X (.Call (.Name x p) (e :: es) [] pos) (tMakeR C sp E t) := by
  refine ⟨fun pins s σ H Q I h => wpAny_Call_Name_kw (ld_glob I hg hm ?_ hd)⟩
  refine PySem.W.callWith_S2 (h₀ := X.base) I.ok.mod.kin M.kp (thn (ha.run pos pins s σ H _ I h) ?_) he hst
  rintro us s1 ⟨vs, H1, I1, r, q⟩
  exact ⟨I1.kIn, run_makeR M F hr hx I1 r q⟩
end
end FW
namespace FW
open PySem PySem.Spec PyProof.Rows L2
/-! ### tests, and what may be forgotten behind an expression -/
theorem ite_dec {p : Prop} [d : Decidable p] {A B : Prop} (h1 : p → A) (h2 : ¬ p → B) : if decide p = true then A else B := by
  by_cases h : p
  · rw [decide_eq_true h]
    exact iteT (h1 h)
  · rw [decide_eq_false h]
    exact iteF (h2 h)
theorem ite_ndec {p : Prop} [d : Decidable p] {A B : Prop} (h1 : ¬ p → A) (h2 : p → B) : if (!decide p) = true then A else B := by
  by_cases h : p
  · rw [decide_eq_true h]
    exact iteF (h2 h)
  · rw [decide_eq_false h]
    exact iteT (h1 h)
theorem ite_bl {c : Bool} {A B : Prop} (h1 : c = true → A) (h2 : c = false → B) : if c = true then A else B := by
  cases c with
  | true => exact iteT (h1 rfl)
  | false => exact iteF (h2 rfl)
theorem ite_nbl {c : Bool} {A B : Prop} (h1 : c = false → A) (h2 : c = true → B) : if (!c) = true then A else B := by
  cases c with
  | true => exact iteF (h2 rfl)
  | false => exact iteT (h1 rfl)
section
variable {X : Cx}
/-- an expression, and what is kept of its value and the heap -/
def tAs (t : TE) : TE := fun σ H Q => ∃ R : V → Hp → Prop, t σ H R ∧ ∀ v H', R v H' → Q v H'
theorem pe_as {e : Expr} {t : TE} (h : PE X e t) : PE X e (tAs t) := ⟨fun pins s σ H Q I hw => by
  obtain ⟨R, hR, hq⟩ := hw
  exact thn (h.run pins s σ H R I hR) fun v s1 ⟨x, H1, I1, r1, q1⟩ => ⟨x, H1, I1, r1, hq _ _ q1⟩⟩
/-- a test, and what is kept -/
def tAsT (t : TT) : TT := fun σ H Q => ∃ R : Bool → Hp → Prop, t σ H R ∧ ∀ v H', R v H' → Q v H'
theorem pt_as {e : Expr} {t : TT} (h : PT X e t) : PT X e (tAsT t) := ⟨fun pins s σ H Q I hw => by
  obtain ⟨R, hR, hq⟩ := hw
  exact thn (h.run pins s σ H R I hR) fun v s1 ⟨H1, I1, q1⟩ => ⟨H1, I1, hq _ _ q1⟩⟩
/-- a statement, and what is kept behind it where it goes on -/
def tAsS (t : TS) : TS := fun D σ H => ∃ R : L2.St → Hp → Prop, t { D with nx := R } σ H ∧ ∀ σ' H', R σ' H' → D.nx σ' H'
theorem ps_as {st : Stmt} {t : TS} (h : PS X st t) : PS X st (tAsS t) := ⟨fun pins s σ H D I hw => by
  obtain ⟨R, hR, hq⟩ := hw
  refine thn (h.run pins s σ H _ I hR) fun f s1 z => ?_
  cases f with
  | next => exact (let ⟨σ', H1, I1, q1⟩ := z; ⟨σ', H1, I1, hq _ _ q1⟩)
  | _ => exact z⟩
end
end FW
namespace FW
open PySem PySem.Spec PyProof.Rows L2
/-! ### == and != by an own __eq__ -/
/-- what the type of a value is -/
inductive Kd (H : Hp) : V → Value → Prop
  | ins {b C dy : Addr} {gs : List (Str × V)} (e : H b = some (.ins C dy gs)) : Kd H (.ref b) (.ref C)
  | non : Kd H .non (.type "NoneType")
  | str (z : Str) : Kd H (.str z) (.type "str")
  | int (i : Int) : Kd H (.int i) (.type "int")
  | lst {b : Addr} {xs : List V} (e : H b = some (.lst xs)) : Kd H (.ref b) (.type "list")
  | tup {b : Addr} {xs : List V} (e : H b = some (.tup xs)) : Kd H (.ref b) (.type "tuple")
section
variable {X : Cx} {CX : CXT} {pins : List (Addr × Obj)} {σ : L2.St} {H : Hp} {s : Shared} {C f : Addr} {n : Nat} {sp : Sp} {E : XK}
theorem looks_kd {y : V} {u t : Value} (I : Inv X pins σ H s) (r : RelV y u) (k : Kd H y t) : PySem.W.Looks (model X.prog X.w) s.heap (typeOf u) t := by
  cases k with
  | ins e =>
    cases r
    obtain ⟨mA, J, _⟩ := ins_get I.hok e
    obtain ⟨od, J, _⟩ := J.look
    exact J.type
  | non => cases r; exact .of_pure rfl
  | str z => obtain ⟨t, rfl⟩ := r; exact .of_pure rfl
  | int z => obtain ⟨t, rfl⟩ := r; exact .of_pure rfl
  | lst e =>
    cases r
    obtain ⟨z, its, k, r, e⟩ := I.hok _ _ e
    exact (PySem.W.Looks.ld e).andThen .now
  | tup e =>
    cases r
    obtain ⟨its, k, r, p⟩ := I.hok _ _ e
    obtain ⟨⟨cls, dd, data, sl⟩, ho, hc, _⟩ := id p
    simp only at hc
    subst hc
    exact (PySem.W.Looks.ld ho).andThen .now
/-- a op y, a an instance of the class at C with its own __eq__ -/
def rOwnI (K : PySem.W.Frag) (C : Addr) (sp : Sp) (E : XK) (neg : Bool) : R2 := fun x y H Q => ∃ a dx fs t, x = .ref a ∧ H a = some (.ins C dx fs) ∧ Kd H y t ∧ PySem.W.notFirst K C t = true ∧ sp [x, y] H (fun v H' => ∃ c : Bool, v = .bl c ∧ Q (.bl (c != neg)) H') E
theorem op_eqI (hs : PySem.W.findIn X.K (.ref C) "__eq__" = some (some (.ref f))) (hf : PySem.W.isFn X.K (.ref f) = true) (F : FnR X.prog X.w X.K X.mg X.base CX n f sp)
    (hr : Room n X.A) (hx : Passes CX X E) : OpR X (compareOp .Eq) (rOwnI X.K C sp E false) := by
  intro pins s σ H x y v u Q I rx ry h
  obtain ⟨a, dx, fs, t, rfl, ha, k, hn, q⟩ := h
  cases (show v = Value.ref a from rx)
  obtain ⟨mA, J, _⟩ := ins_get I.hok ha
  obtain ⟨od, J, _⟩ := J.look
  obtain ⟨m, hF⟩ := I.fr
  show wpAny _ _ (richCompare .Eq _ _) _ _ s
  refine PySem.W.cmp_K (op := .Eq) (tb := t) hr.units0 hF I.ok.mod.kin J (looks_kd I ry k) hn hs hf ?_
  refine wpAny_mono (wpAny_call (run_fnR (us := [.ref a, u]) (vs := [.ref a, y]) F hr hx I (.cons rfl (.cons ry .nil)) q)) (fun w s' z => ?_) fun _ _ x => x
  obtain ⟨z', H', I', rz, c, rfl, qz⟩ := z
  refine SlX.cmpback rz ⟨.bl c, H', I', rz, ?_⟩
  cases c <;> exact qz
theorem ne_K {prog : Program} {w : World} {A : Around} {E : Value → Shared → Prop} {s : Shared} {K : PySem.W.Frag} {x C L : Addr} {h₀ : Heap} {m : Str → Option Value} {ox : Obj} {od : Option Obj} {tb b : Value} {Q : Value → Shared → Prop} (hu : A.units + 1 < cLine)
    (F : Fr h₀ L s.heap m) (X₀ : K.In h₀) (I : PySem.W.InstAt s.heap x ox C od) (hb : PySem.W.Looks (model prog w) s.heap (typeOf b) tb) (hn : PySem.W.notFirst K C tb = true)
    (hs : PySem.W.findIn K (.ref C) "__eq__" = some (some (.ref f))) (hf : PySem.W.isFn K (.ref f) = true) (hne : PySem.W.findIn K (.ref C) "__ne__" = some (some (.builtin "object.__ne__"))) (hob : PySem.W.mroIn K C (.type "object") = some true)
    (h : wpAny (model prog w) A.in1 (call (.ref f) [.ref x, b]) (fun v s' => ∃ c : Bool, v = .bool c ∧ Q (.bool (!c)) s') E s) : wpAny (model prog w) A (richCompare .NotEq (.ref x) b) Q E s := by
  have X := X₀.keeps F.keep
  have S := (PySem.F.cmp_object).ne
  have bi : wpAny (model prog w) A (call (.builtin "object.__ne__") [.ref x, b]) (fun v s' => ∃ c : Bool, v = .bool (!c) ∧ Q (.bool (!c)) s') E s := by
    refine wpAny_call (codeAny_call_builtin S.plain PySem.F.cmpEntry_ne (PySem.W.check_slot PySem.F.cmpKind_ne PySem.F.cmpSplit_ne ?_ (PySem.F.cmpArgs_ne _ _) ?_))
    · exact fun A E Q s' k q => by
        unfold isInstance
        exact wpAny_bind ((I.type.keeps k).here ((PySem.W.looks_mroIn (X.keeps k) hob).here q))
    unfold Builtin.«object.__ne__»
    have fin2 : wpAny (model prog w) A.in1 (callSpecialIfBound? (.ref x) "__eq__" [b]) (fun r s' => ∃ c : Bool, r = some (.bool c) ∧ Q (.bool (!c)) s') E s :=
      PySem.W.ifBound_K X I hs hf (wpAny_mono h (fun v s' ⟨c, e, q⟩ => ⟨c, by rw [e], q⟩) fun _ _ e => e)
    repeat (first
      | with_reducible refine wpAny_cRoomFor (Nat.lt_of_le_of_lt (Nat.le_refl _) hu) ?_
      | (refine wpAny_bind (m := callSpecialIfBound? (.ref x) (Str.ofString "__eq__") [b]) (wpAny_mono fin2 (fun r s' hr => by
          obtain ⟨c, rfl, hq⟩ := hr
          repeat (first | exact ⟨c, rfl, hq⟩ | exact wpAny_pure ⟨c, rfl, hq⟩ | (refine wpAny_bind (m := truthy (.bool _)) (wpAny_truthy_bool ?_)) | wp_step)) fun _ _ e => e))
      | wp_step)
  have one : wpAny (model prog w) A (tryCompare (.ref x) "__ne__" b) (fun r s' => ∃ v, r = some v ∧ Q v s') E s := by
    unfold tryCompare
    refine wpAny_bind ?_
    simp only [callSpecialIfBound?, bindSpecialIfBound?]
    refine wpAny_holding (wpAny_bind (wpAny_bind (wpAny_bind (I.type.here ((PySem.W.looks_findIn X hne).here ?_)))))
    refine wpAny_bind (wpAny_askSetting (wpAny_ite ?_))
    simp only [S.bind]
    have fin : wpAny (model prog w) A (call (.builtin "object.__ne__") ([.ref x] ++ [b]) >>= fun v => pure (some v)) (fun r s' => wpAny (model prog w) A (match r with | some .notImplemented | none => pure none | some v => pure (some v)) (fun r s' => ∃ v, r = some v ∧ Q v s') E s') E s := by
      refine wpAny_bind (wpAny_mono bi (fun v s' hv => ?_) fun _ _ e => e)
      obtain ⟨c, rfl, hq⟩ := hv
      exact wpAny_pure (wpAny_pure ⟨_, rfl, hq⟩)
    split
    · exact wpAny_bind (wpAny_pure (wpAny_pure fin))
    · exact wpAny_tryCatch (wpAny_bind (wpAny_pure (wpAny_pure fin)))
  unfold richCompare
  simp only [oneThing_ref]
  refine wpAny_holding (wpAny_bind (wpAny_cRoomFor (Nat.lt_of_succ_lt hu) ?_))
  refine wpAny_bind (I.type.here (wpAny_bind (hb.here ?_)))
  split
  · rename_i q
    have e : PySem.W.subIn K tb (.ref C) = some false := by
      rcases Bool.or_eq_true_iff.mp hn with e | e
      · rw [beq_iff_eq.mp e] at q; simp at q
      · exact beq_iff_eq.mp e
    refine wpAny_bind ((PySem.W.looks_subIn X e).here ?_)
    simp only [Bool.false_eq_true, if_false]
    refine wpAny_bind (wpAny_mono one (fun r s' z => ?_) fun _ _ e => e)
    obtain ⟨v, rfl, hq⟩ := z
    exact wpAny_pure hq
  · refine wpAny_bind (wpAny_pure ?_)
    simp only [Bool.false_eq_true, if_false]
    refine wpAny_bind (wpAny_mono one (fun r s' z => ?_) fun _ _ e => e)
    obtain ⟨v, rfl, hq⟩ := z
    exact wpAny_pure hq
theorem op_neI (hs : PySem.W.findIn X.K (.ref C) "__eq__" = some (some (.ref f))) (hf : PySem.W.isFn X.K (.ref f) = true) (hne : PySem.W.findIn X.K (.ref C) "__ne__" = some (some (.builtin "object.__ne__"))) (hob : PySem.W.mroIn X.K C (.type "object") = some true)
    (F : FnR X.prog X.w X.K X.mg X.base CX n f sp) (hr : Room (n + 1) X.A) (hx : Passes CX X E) : OpR X (compareOp .NotEq) (rOwnI X.K C sp E true) := by
  intro pins s σ H x y v u Q I rx ry h
  obtain ⟨a, dx, fs, t, rfl, ha, k, hn, q⟩ := h
  cases (show v = Value.ref a from rx)
  obtain ⟨mA, J, _⟩ := ins_get I.hok ha
  obtain ⟨od, J, _⟩ := J.look
  obtain ⟨m, hF⟩ := I.fr
  show wpAny _ _ (richCompare .NotEq _ _) _ _ s
  refine ne_K (by have := hr.un; omega) hF I.ok.mod.kin J (looks_kd I ry k) hn hs hf hne hob ?_
  refine wpAny_mono (wpAny_call (SlX.run_at (us := [.ref a, u]) (ws := [.ref a, y]) F hr.in1 I.env0.in1 hx I (.cons rfl (.cons ry .nil)) q)) (fun w s' z => ?_) fun _ _ x => x
  obtain ⟨z', H', I', rz, c, rfl, qz⟩ := z
  cases (show w = Value.bool c from rz)
  refine ⟨c, rfl, .bl (!c), H', I', rfl, ?_⟩
  cases c <;> exact qz
end
end FW
namespace FW
open PySem PySem.Spec PyProof.Rows L2
section
variable {X : Cx} {CX : CXT} {k : Nat} {f C : Addr} {fd : FuncData} {ps ks : List Str} {sp : Sp} {E : XK} {x m : Str} {p1 pos apos : Pos} {kws : List Keyword} {tk : TA} {g : List Value → List Value → List Value} {gV : List V → List V → List V}
/-- C.m(k=e, ..), m a static method -/
theorem pe_staticK0 {pl : Sem Bool} (hg : Gl X x) (hm : X.mg x = some (.ref C)) (S : Sta X.K C m f) (F : FnOk X.prog X.w X.K X.mg X.base CX k f fd ps sp) (hr : Room k X.A) (hb : KBinds X.K fd ps ks g gV) (hx : Passes CX X E) (hkw : PK X kws tk)
    (hall : (backToKw pos (keywordEach kws X.env)).all (·.1.isSome) = true := by rfl) (hks : (backToKw pos (keywordEach kws X.env)).filterMap (·.1) = ks := by rfl)
    (hdb : (x == ("__debug__" : Str)) = false := by decide)
    (hc : eval (.Call (.Attribute (.Name x p1) m apos) [] kws pos) X.env = (do
      let oc ← eval (.Name x p1) X.env
      standAt apos.atName
      let (fc, fst) ← holding [oc] (getMethod oc m pl)
      callWith pos fc fst (backTo pos (starEach [] X.env)) (backToKw pos (keywordEach kws X.env))) := by rfl)
    (hpl : ((backTo pos (starEach [] X.env)).any (·.1) || (backToKw pos (keywordEach kws X.env)).any (·.1.isNone)) = false := by rfl) :
    PE X (.Call (.Attribute (.Name x p1) m apos) [] kws pos) (tCallK sp gV E tNil tk) := by
  refine ⟨fun pins s σ H Q I h => PySem.W.methodCall_KW (pl := pl) (ld_glob I hg hm ?_ hdb) hc⟩
  refine static_get I.kIn S fun u => ?_
  have I1 : Inv X pins σ H { s with toks := u } := I.tok _
  refine PySem.W.callWith_KW0 (h₀ := X.base) I.ok.mod.kin S.kp hall (thn (hkw.run pos pins _ σ H _ I1 h) fun ws s2 ⟨zs, H2, I2, rz, q2⟩ => ⟨I2.kIn, ?_⟩) hpl
  rw [hks]
  exact run_fnk F hr hb hx I2 .nil rz q2
end
end FW
namespace FW
open PySem PySem.Spec PyProof.Rows L2
/-! ### data that may be compared -/
/-- data that nest at most so deep, all of whose texts may be laid -/
inductive Lay : Nat → PyData → Prop
  | non {n : Nat} : Lay n .none
  | bl {n : Nat} (b : Bool) : Lay n (.bool b)
  | int {n : Nat} (i : Int) : Lay n (.int i)
  | str {n : Nat} {x : Str} (h : PyData.strOk x = true) : Lay n (.str x)
  | lst {n : Nat} {ds : List PyData} (h : ∀ d ∈ ds, Lay n d) : Lay (n + 1) (.list ds)
  | tup {n : Nat} {ds : List PyData} (h : ∀ d ∈ ds, Lay n d) : Lay (n + 1) (.tuple ds)
theorem lay_all {n : Nat} : ∀ {ds : List PyData}, (∀ d ∈ ds, d.canLay0 = true ∧ d.depth ≤ n) → PyData.canLayAll0 ds = true ∧ PyData.depthAll ds ≤ n
  | [], _ => ⟨rfl, Nat.zero_le _⟩
  | d :: ds, h => by
    have h1 := h d List.mem_cons_self
    have h2 := lay_all (ds := ds) fun x hx => h x (List.mem_cons_of_mem _ hx)
    refine ⟨?_, ?_⟩
    · show (d.canLay0 && PyData.canLayAll0 ds) = true
      rw [h1.1, h2.1]
      rfl
    · show max d.depth (PyData.depthAll ds) ≤ n
      exact Nat.max_le.mpr ⟨h1.2, h2.2⟩
theorem Lay.ok {n : Nat} {d : PyData} (h : Lay n d) : d.canLay0 = true ∧ d.depth ≤ n := by
  induction h with
  | non => exact ⟨rfl, Nat.zero_le _⟩
  | bl b => exact ⟨rfl, Nat.zero_le _⟩
  | int i => exact ⟨rfl, Nat.zero_le _⟩
  | str h => exact ⟨h, Nat.zero_le _⟩
  | lst h ih => exact ⟨(lay_all ih).1, Nat.succ_le_succ (lay_all ih).2⟩
  | tup h ih => exact ⟨(lay_all ih).1, Nat.succ_le_succ (lay_all ih).2⟩
theorem Lay.shaped {n : Nat} {d : PyData} (h : Lay n d) (hn : n ≤ 64) : SeqAt.shaped d = true := by
  unfold SeqAt.shaped
  rw [h.ok.1, decide_eq_true (Nat.le_trans h.ok.2 hn)]
  rfl
theorem eqvAll_map {α : Type} [DecidableEq α] {f : α → PyData} (h : ∀ x y, PyData.eqv (f x) (f y) = decide (x = y)) : ∀ xs ys : List α, PyData.eqvAll (xs.map f) (ys.map f) = decide (xs = ys)
  | [], [] => by
    rw [decide_eq_true rfl]
    rfl
  | [], y :: ys => by
    rw [decide_eq_false (by simp)]
    rfl
  | x :: xs, [] => by
    rw [decide_eq_false (by simp)]
    rfl
  | x :: xs, y :: ys => by
    show (PyData.eqv (f x) (f y) && PyData.eqvAll (xs.map f) (ys.map f)) = _
    rw [h, eqvAll_map h xs ys, ← Bool.decide_and]
    exact decide_eq_decide.mpr (by simp)
theorem eqv_S (a b : List Nat) : PyData.eqv (.str (S a)) (.str (S b)) = decide (a = b) := by
  show (S a == S b) = _
  by_cases h : a = b
  · subst h
    rw [decide_eq_true rfl]
    exact beq_self_eq_true _
  · rw [decide_eq_false h]
    refine beq_eq_false_iff_ne.mpr fun e => h ?_
    have := congrArg (fun z : Str => z.cps.toList) e
    exact this
theorem eqv_tupS (a b : List (List Nat)) : PyData.eqv (.tuple (a.map fun p => .str (S p))) (.tuple (b.map fun p => .str (S p))) = decide (a = b) := by
  show PyData.eqvAll _ _ = _
  exact eqvAll_map eqv_S a b
end FW
namespace FW
open PySem PySem.Spec PyProof.Rows L2
def topS (i : Nat) : Stmt := PySem.Challenge.pw_fourwalls_k15_states_of_joined_machines.main.body.getD i (.Pass ⟨0, 0, 0, 0⟩)
section
variable {P : Program} {w : World} {K : PySem.W.Frag} {mg : Str → Option Value} {base : Heap}
abbrev s__law_open : Stmt := topS 30
theorem sc__law_open : FnScope ["_law_script", "_law_mixed", "_law_cell"] ["_law_script"] (defScope s__law_open) := ⟨rfl, rfl, rfl, by decide +kernel, rfl, by decide +kernel, by decide +kernel⟩
theorem ok__law_open {f : Addr} {fd : FuncData} (F : Fun K "_law_open" "_law_open" s__law_open f fd) (T : Z mg) : FnOk P w K mg base CX0 1 f fd ["_law_script"] (sp__law_open K) := by
  refine F.ok sc__law_open (fun vs H Q E h => ?_) (fun cdv A outer s H vs Q E hr h => ?_)
  · obtain ⟨a, ns, rfl, _⟩ := h
    rfl
  · obtain ⟨a, ns, rfl, hS, hlen, q⟩ := h
    refine ⟨_, (pss_cons (ps_set (i := 1) sc__law_open.nd rfl (.inl rfl) pe_int)
      (pss_cons (ps_for PassesOwn.never rfl (pi_list (pe_slice sl_list (pv 0) po_none (po_some pe_int))) (pg_name (i := 2) sc__law_open.nd rfl (.inl rfl))
        (pss_one (ps_set (i := 1) sc__law_open.nd rfl (.inl rfl) (pe_op op_mod (pe_callTy call_int1 (by rfl) T.z_int (by decide +kernel) (pa_cons (pe_op op_add (pe_op op_add (pe_op op_mul (pv 1) pe_int) (pe_op op_mul (pe_op op_mod (pe_callTy call_int1 (by rfl) T.z_int (by decide +kernel) (pa_cons (pv 2) pa_nil)) pe_int) pe_int)) pe_int) pa_nil)) pe_int))))
      (pss_one (ps_ret (pe_lst (pa_cons (pe_callTy call_list_of (by rfl) T.z_list (by decide +kernel) (pa_cons (pe_slice sl_list (pv 0) po_none (po_some pe_int)) pa_nil)) (pa_cons pe_int (pa_cons pe_int (pa_cons (pv 1) (pa_cons pe_int pa_nil)))))))))), ?_⟩
    have ecut : cutV (ns.map V.int) none (some 63) = ns.map V.int := by
      rw [show (63 : Int) = ((63 : Nat) : Int) from rfl, cutV_to]
      exact List.take_of_length_le (by rw [List.length_map]; exact hlen)
    refine ⟨_, rfl, 63, rfl, a, _, rfl, hS, fun p np => ?_⟩
    rw [ecut]
    have s1 : Same H (upd H p (.lst (ns.map V.int))) := same_upd np
    refine ⟨p, rfl, ⟨_, SqL.of upd_same⟩, for_it (walk_list (xs := ns.map V.int)) (fun i σ H' => ∃ m y, σ = [some (.ref a), some (.int m), y] ∧ 0 ≤ m ∧ m < 2147483648 ∧ H' = upd H p (.lst (ns.map V.int)))
      ⟨10042, none, rfl, by decide, by decide, rfl⟩ (fun i σ H' _ ⟨_, _, _, _, _, e⟩ => by rw [e]; exact SqL.of upd_same) ?_ ?_⟩
    · rintro i x σ _ _ hi ⟨m, y, rfl, h0, h1, rfl⟩ ⟨rfl, hx⟩
      obtain ⟨z, rfl⟩ : ∃ z, x = V.int z := by
        rw [List.getElem?_map] at hx
        cases e : ns[i]? with
        | none => rw [e] at hx; cases hx
        | some u => rw [e] at hx; exact ⟨u, (Option.some.inj hx).symm⟩
      refine ⟨_, rfl, _, _, rfl, rfl, .inr ⟨by decide, by decide⟩, _, rfl, .inl ⟨_, rfl, _, _, rfl, rfl, (show (0 : Int) < 1000033 by decide), _, _, rfl, rfl, .inr ⟨by decide, by decide⟩, _, _, rfl, rfl, _, _, rfl, rfl, .inl ⟨_, rfl, _, _, rfl, rfl, (show (0 : Int) < 2147483549 by decide), ?_⟩⟩⟩
      refine ⟨_, _, rfl, Int.emod_nonneg _ (by decide), ?_, rfl⟩
      exact Int.lt_trans (Int.emod_lt_of_pos _ (by decide)) (by decide)
    · rintro σ _ ⟨m, y, rfl, h0, h1, rfl⟩
      refine ⟨_, rfl, 63, rfl, a, _, rfl, s1.seq hS, fun p2 np2 => ?_⟩
      rw [ecut]
      have s2 := same_upd (o := HO.lst (ns.map V.int)) np2
      refine ⟨p2, _, rfl, .inl (SqL.of upd_same), fun l nl => ?_⟩
      have s3 := same_upd (o := HO.lst (ns.map V.int)) nl
      refine ⟨_, rfl, (show 5 ≤ sizeLine by decide), fun b nb => ?_⟩
      have s4 := same_upd (o := HO.lst [V.ref l, V.int 0, V.int 0, V.int m, V.int 0]) nb
      have s5 := (s1.trans s2).trans s3
      refine q _ b l (s5.free nb) ((s1.trans s2).free nl) (s5.trans s4) ⟨ns, 0, 0, m, 0, upd_same, s4 _ _ upd_same, by omega, by decide, h0, h1⟩
abbrev s__law_draw : Stmt := topS 31
theorem sc__law_draw : FnScope ["_law_bag", "_law_many", "_law_cell", "_law_digit", "_law_twice"] ["_law_bag", "_law_many"] (defScope s__law_draw) := ⟨rfl, rfl, rfl, by decide +kernel, rfl, by decide +kernel, by decide +kernel⟩
theorem ok__law_draw {f : Addr} {fd : FuncData} (F : Fun K "_law_draw" "_law_draw" s__law_draw f fd) (T : Z mg) : FnOk P w K mg base CX0 1 f fd ["_law_bag", "_law_many"] (sp__law_draw K) := by
  refine F.ok sc__law_draw (fun vs H Q E h => ?_) (fun cdv A outer s H vs Q E hr h => ?_)
  · obtain ⟨b, l, k, rfl, _⟩ := h
    rfl
  · obtain ⟨b, l, k, rfl, ⟨ns, i, r, m, c, hb, hL, hlen, hi, hm0, hm1⟩, hk, hk2, q⟩ := h
    have nlb : l ≠ b := ne_of hL hb bag_ne
    refine ⟨_, (pss_cons (ps_asg (pe_op op_add (pe_ix ix_list (pv 0) pe_int (fun _ _ => rfl)) pe_int) (pg_sub (pv 0) pe_int set_list))
      (C8.pss_cut (ps_if (PW.pt (pw_and (pt_cmpR op_eq (pe_ix ix_list (pv 0) pe_int (fun _ _ => rfl)) pe_int (nomark _)) (pw_and1 (pt_cmpR op_lt (pe_ix ix_list (pv 0) pe_int (fun _ _ => rfl)) (pe_callB call_len (by rfl) T.z_len (by decide +kernel) (pa_cons (pe_ix ix_list (pv 0) pe_int (fun _ _ => rfl)) pa_nil)) (nomark _))))) (pss_cons (ps_set (i := 2) sc__law_draw.nd rfl (.inl rfl) (pe_ix ix_list (pe_ix ix_list (pv 0) pe_int (fun _ _ => rfl)) (pe_ix ix_list (pv 0) pe_int (fun _ _ => rfl)) (fun _ _ => rfl)))
      (pss_cons (ps_asg (pe_op op_add (pe_ix ix_list (pv 0) pe_int (fun _ _ => rfl)) pe_int) (pg_sub (pv 0) pe_int set_list))
      (pss_one (ps_if (pt_cmpR op_ge (pe_callB call_abs (by rfl) T.z_abs (by decide +kernel) (pa_cons (pv 2) pa_nil)) (pe_op op_pow pe_int pe_int) (nomark _)) (pss_one (ps_asg (pe_callB call_abs (by rfl) T.z_abs (by decide +kernel) (pa_cons (pv 2) pa_nil)) (pg_sub (pv 0) pe_int set_list))) (pss_one (ps_asg (pe_op op_mod (pe_callTy call_int1 (by rfl) T.z_int (by decide +kernel) (pa_cons (pe_op op_add (pe_op op_add (pe_op op_mul (pe_ix ix_list (pv 0) pe_int (fun _ _ => rfl)) pe_int) (pe_op op_mul (pe_op op_mod (pe_callTy call_int1 (by rfl) T.z_int (by decide +kernel) (pa_cons (pv 2) pa_nil)) pe_int) pe_int)) pe_int) pa_nil)) pe_int) (pg_sub (pv 0) pe_int set_list))))))) pss_nil)
      (pss_cons (ps_if (pt_cmpR op_gt (pe_ix ix_list (pv 0) pe_int (fun _ _ => rfl)) pe_int (nomark _)) (pss_cons (ps_set (i := 3) sc__law_draw.nd rfl (.inl rfl) (pe_op op_mod (pe_callTy call_int1 (by rfl) T.z_int (by decide +kernel) (pa_cons (pe_ix ix_list (pv 0) pe_int (fun _ _ => rfl)) pa_nil)) (pv 1)))
      (pss_cons (ps_asg (pe_op op_fdivN (pe_ix ix_list (pv 0) pe_int (fun _ _ => rfl)) (pv 1)) (pg_sub (pv 0) pe_int set_list))
      (pss_one (ps_ret (pv 3))))) pss_nil)
      (pss_cons (ps_set (i := 4) sc__law_draw.nd rfl (.inl rfl) (pe_op op_mod (pe_callTy call_int1 (by rfl) T.z_int (by decide +kernel) (pa_cons (pe_op op_add (pe_op op_mul (pe_ix ix_list (pv 0) pe_int (fun _ _ => rfl)) (pe_ix ix_list (pv 0) pe_int (fun _ _ => rfl))) (pe_op op_mul (pe_ix ix_list (pv 0) pe_int (fun _ _ => rfl)) pe_int)) pa_nil)) pe_int))
      (pss_cons (ps_asg (pe_op op_mod (pe_callTy call_int1 (by rfl) T.z_int (by decide +kernel) (pa_cons (pe_op op_add (pe_op op_add (pe_op op_mul (pv 4) pe_int) (pe_op op_mul (pe_ix ix_list (pv 0) pe_int (fun _ _ => rfl)) pe_int)) pe_int) pa_nil)) pe_int) (pg_sub (pv 0) pe_int set_list))
      (pss_one (ps_ret (pe_op op_mod (pe_callTy call_int1 (by rfl) T.z_int (by decide +kernel) (pa_cons (pe_op op_fdivN (pe_ix ix_list (pv 0) pe_int (fun _ _ => rfl)) pe_int) pa_nil)) (pv 1))))))))), ?_⟩
    -- bag[4] += 1
    refine ⟨_, rfl, b, _, 4, _, rfl, rfl, SqL.of hb, rfl, _, _, rfl, rfl, _, rfl, b, _, 4, 4, rfl, rfl, hb, rfl, ?_⟩
    have B1 : BagAt H (upd H b (.lst [.ref l, .int i, .int r, .int m, .int (c + 1)])) b l ns := ⟨(But.refl b H).upd, by rw [upd_ne nlb]; exact hL, i, r, m, c + 1, upd_same, hi, hm0, hm1⟩
    refine ⟨fun σ' H1 => ∃ x2 x3 x4, σ' = [some (.ref b), some (.int k), x2, x3, x4] ∧ BagAt H H1 b l ns, ?_, ?_⟩
    · have hL1 : (upd H b (.lst [.ref l, .int i, .int r, .int m, .int (c + 1)])) l = some (.lst (ns.map V.int)) := by rw [upd_ne nlb]; exact hL
      refine ⟨_, rfl, b, _, 2, _, rfl, rfl, SqL.of upd_same, rfl, rfl, _, rfl, ite2 (fun _ => ?_) (fun _ => ?_)⟩
      · refine ⟨_, rfl, b, _, 1, _, rfl, rfl, SqL.of upd_same, rfl, _, rfl, b, _, 0, _, rfl, rfl, SqL.of upd_same, rfl, _, _, rfl, .inl ⟨_, SqL.of hL1, rfl⟩, _, _, rfl, rfl, _, rfl, ite2 (fun hlt => ?_) (fun _ => ?_)⟩
        · have hlt : i < ((ns.map V.int).length : Int) := of_decide_eq_true hlt
          rw [List.length_map] at hlt
          have hin : i.toNat < ns.length := by omega
          have hat : atI (ns.map V.int) i = some (.int ns[i.toNat]) := by
            have e : i = ((i.toNat : Nat) : Int) := by omega
            refine at_of e ?_
            rw [List.getElem?_map, List.getElem?_eq_getElem hin]
            rfl
          refine ⟨_, rfl, b, _, 0, _, rfl, rfl, SqL.of upd_same, rfl, _, rfl, b, _, 1, _, rfl, rfl, SqL.of upd_same, rfl, l, _, i, _, rfl, rfl, SqL.of hL1, hat, ?_⟩
          refine ⟨_, rfl, b, _, 1, _, rfl, rfl, SqL.of upd_same, rfl, _, _, rfl, rfl, _, rfl, b, _, 1, 1, rfl, rfl, upd_same, rfl, ?_⟩
          refine ⟨_, rfl, _, rfl, _, _, rfl, rfl, ⟨by decide, by decide, by decide⟩, _, _, rfl, rfl, _, rfl, ite2 (fun _ => ?_) (fun _ => ?_)⟩
          · refine ⟨_, rfl, _, rfl, _, rfl, b, _, 2, 2, rfl, rfl, upd_same, rfl, _, _, _, rfl, (((But.refl b H).upd).upd).upd, ?_, _, _, _, _, upd_same, ?_, hm0, hm1⟩
            · rw [upd_ne nlb, upd_ne nlb]
              exact hL1
            · omega
          · refine ⟨_, rfl, b, _, 3, _, rfl, rfl, SqL.of upd_same, rfl, _, _, rfl, rfl, .inr ⟨by decide, by decide⟩, _, rfl, .inl ⟨_, rfl, _, _, rfl, rfl, (show (0 : Int) < 1000033 by decide), _, _, rfl, rfl, .inr ⟨by decide, by decide⟩, _, _, rfl, rfl, _, _, rfl, rfl, .inl ⟨_, rfl, _, _, rfl, rfl, (show (0 : Int) < 2147483587 by decide), ?_⟩⟩⟩
            refine ⟨_, rfl, b, _, 3, 3, rfl, rfl, upd_same, rfl, _, _, _, rfl, (((But.refl b H).upd).upd).upd, ?_, _, _, _, _, upd_same, ?_, Int.emod_nonneg _ (by decide), Int.lt_trans (Int.emod_lt_of_pos _ (by decide)) (by decide)⟩
            · rw [upd_ne nlb, upd_ne nlb]
              exact hL1
            · omega
        · exact ⟨_, _, _, rfl, B1⟩
      · exact ⟨_, _, _, rfl, B1⟩
    · rintro σ' H1 ⟨x2, x3, x4, rfl, hbut, hL1, i1, r1, m1, c1, hb1, hi1, hm01, hm11⟩
      have fin : ∀ H2, But b H H2 → H2 l = some (.lst (ns.map V.int)) → ∀ i2 r2 m2 c2 : Int, H2 b = some (.lst [.ref l, .int i2, .int r2, .int m2, .int c2]) → 0 ≤ i2 → 0 ≤ m2 → m2 < 2147483648 → Bag H2 b l := fun H2 _ h2 i2 r2 m2 c2 h3 h4 h5 h6 => ⟨ns, i2, r2, m2, c2, h3, h2, hlen, h4, h5, h6⟩
      refine ⟨_, rfl, b, _, 2, _, rfl, rfl, SqL.of hb1, rfl, _, _, rfl, rfl, _, rfl, ite2 (fun _ => ?_) (fun _ => ?_)⟩
      · refine ⟨_, rfl, b, _, 2, _, rfl, rfl, SqL.of hb1, rfl, .inl ⟨_, rfl, _, rfl, _, _, rfl, rfl, hk, ?_⟩⟩
        refine ⟨_, rfl, b, _, 2, _, rfl, rfl, SqL.of hb1, rfl, _, rfl, _, _, rfl, rfl, ⟨by omega, by omega⟩, _, rfl, b, _, 2, 2, rfl, rfl, hb1, rfl, _, rfl, ?_⟩
        refine q _ _ (Int.emod_nonneg _ (by omega)) (Int.emod_lt_of_pos _ hk) hbut.upd (fin _ hbut.upd (by rw [upd_ne nlb]; exact hL1) _ _ _ _ upd_same hi1 hm01 hm11)
      · refine ⟨_, rfl, b, _, 3, _, rfl, rfl, SqL.of hb1, rfl, _, rfl, b, _, 3, _, rfl, rfl, SqL.of hb1, rfl, _, _, rfl, rfl, .inl ⟨by omega, by omega⟩, _, rfl, b, _, 4, _, rfl, rfl, SqL.of hb1, rfl, _, _, rfl, rfl, .inr ⟨by decide, by decide⟩, _, _, rfl, rfl, .inl ⟨_, rfl, _, _, rfl, rfl, (show (0 : Int) < 2147483629 by decide), ?_⟩⟩
        refine ⟨_, rfl, _, _, rfl, rfl, .inr ⟨by decide, by decide⟩, _, rfl, b, _, 3, _, rfl, rfl, SqL.of hb1, rfl, _, _, rfl, rfl, .inr ⟨by decide, by decide⟩, _, _, rfl, rfl, _, _, rfl, rfl, .inl ⟨_, rfl, _, _, rfl, rfl, (show (0 : Int) < 2147483587 by decide), ?_⟩⟩
        refine ⟨_, rfl, b, _, 3, 3, rfl, rfl, hb1, rfl, ?_⟩
        refine ⟨_, rfl, b, _, 3, _, rfl, rfl, SqL.of upd_same, rfl, _, _, rfl, rfl, ⟨by decide, by decide⟩, .inl ⟨_, rfl, _, rfl, _, _, rfl, rfl, hk, ?_⟩⟩
        refine q _ _ (Int.emod_nonneg _ (by omega)) (Int.emod_lt_of_pos _ hk) hbut.upd (fin _ hbut.upd (by rw [upd_ne nlb]; exact hL1) _ _ _ _ upd_same hi1 (Int.emod_nonneg _ (by decide)) (Int.lt_trans (Int.emod_lt_of_pos _ (by decide)) (by decide)))
abbrev s__law_same : Stmt := topS 32
theorem sc__law_same : FnScope ["_law_found", "_law_due", "_law_a", "_law_b"] ["_law_found", "_law_due"] (defScope s__law_same) := ⟨rfl, rfl, rfl, by decide +kernel, rfl, by decide +kernel, by decide +kernel⟩
theorem ok__law_same_step {f : Addr} {fd : FuncData} {n : Nat} {sp : Sp} (F : Fun K "_law_same" "_law_same" s__law_same f fd) (T : Z mg)
    (c__law_same : Cal P w K mg base CX0 (n + 1) "_law_same" s__law_same ["_law_found", "_law_due"] sp) (hsp : ∀ m vs H Q E, n = m + 1 → sp__law_same K m vs H Q E → sp vs H Q E) : FnOk P w K mg base CX0 (n + 2) f fd ["_law_found", "_law_due"] (sp__law_same K n) := by
  refine F.ok sc__law_same (fun vs H Q E h => ?_) (fun cdv A outer s H vs Q E hr h => ?_)
  · obtain ⟨x, y, d, rfl, _⟩ := h
    rfl
  · obtain ⟨x, y, d, rfl, hx, hy, hd, q⟩ := h
    refine ⟨_, (pss_cons (ps_if (PW.pt (pw_or (pt_cmpR op_isN (pv 1) pe_non (nomark _)) (pw_or1 (pt_cmpR op_isN (pv 0) pe_non (nomark _))))) (pss_one (ps_ret (pe_and (pe_cmpR op_isN (pv 1) pe_non (nomark _)) (pe_one (pe_cmpR op_isN (pv 0) pe_non (nomark _)))))) pss_nil)
      (pss_cons (ps_if (pt_val (pe_callB call_isiT (by rfl) T.z_isinstance (by decide +kernel) (pa_cons (pv 1) (pa_cons (pe_tup (pa_cons (pe_bltn (v := .ty "list") (u := .type "list") (by rfl) T.z_list (by decide +kernel) rfl) (pa_cons (pe_bltn (v := .ty "tuple") (u := .type "tuple") (by rfl) T.z_tuple (by decide +kernel) rfl) pa_nil))) pa_nil)))) (pss_cons (ps_if (pt_cmpR op_ne (pe_callB call_isi (by rfl) T.z_isinstance (by decide +kernel) (pa_cons (pv 0) (pa_cons (pe_bltn (v := .ty "list") (u := .type "list") (by rfl) T.z_list (by decide +kernel) rfl) pa_nil))) (pe_callB call_isi (by rfl) T.z_isinstance (by decide +kernel) (pa_cons (pv 1) (pa_cons (pe_bltn (v := .ty "list") (u := .type "list") (by rfl) T.z_list (by decide +kernel) rfl) pa_nil))) (nomark _)) (pss_one (ps_ret pe_bl)) pss_nil)
      (pss_cons (ps_if (PW.pt (pw_or (pt_cmpR op_ne (pe_callB call_isi (by rfl) T.z_isinstance (by decide +kernel) (pa_cons (pv 0) (pa_cons (pe_bltn (v := .ty "tuple") (u := .type "tuple") (by rfl) T.z_tuple (by decide +kernel) rfl) pa_nil))) (pe_callB call_isi (by rfl) T.z_isinstance (by decide +kernel) (pa_cons (pv 1) (pa_cons (pe_bltn (v := .ty "tuple") (u := .type "tuple") (by rfl) T.z_tuple (by decide +kernel) rfl) pa_nil))) (nomark _)) (pw_or1 (pt_cmpR op_ne (pe_callB call_len (by rfl) T.z_len (by decide +kernel) (pa_cons (pv 0) pa_nil)) (pe_callB call_len (by rfl) T.z_len (by decide +kernel) (pa_cons (pv 1) pa_nil)) (nomark _))))) (pss_one (ps_ret pe_bl)) pss_nil)
      (pss_one (ps_ret (pe_callB (cr_all rfl) (by rfl) T.z_all (by decide +kernel) (pa_cons (pe_lc (own := [("_law_a", 2), ("_law_b", 3)]) (g := (gTup K 2 (gCons (gName 2) (gCons (gName 3) gNil)))) (by rfl) sc__law_same.nd (RZ.pi_zipA (by rfl) T.z_zip (pa_cons (pv 0) (pa_cons (pv 1) pa_nil))) (blkOk_by (N := ["_law_found", "_law_due", "_law_a", "_law_b"]) (sc := defScope s__law_same) (by decide +kernel)) (fun _ _ _ _ _ => (pg_tup rfl (pgs_cons (pg_name (i := 2) sc__law_same.nd rfl (.inl rfl)) (pgs_cons (pg_name (i := 3) sc__law_same.nd rfl (.inl rfl)) pgs_nil)))) (fun _ _ _ _ _ => pts_nil) (fun _ _ _ _ _ => (pe_c c__law_same hr (Nat.le_refl _) (by rfl) (pa_cons (pv 2) (pa_cons (pv 3) pa_nil))))) pa_nil)))))) pss_nil)
      (pss_cons (ps_if (pt_val (pe_callB call_isiT (by rfl) T.z_isinstance (by decide +kernel) (pa_cons (pv 0) (pa_cons (pe_tup (pa_cons (pe_bltn (v := .ty "list") (u := .type "list") (by rfl) T.z_list (by decide +kernel) rfl) (pa_cons (pe_bltn (v := .ty "tuple") (u := .type "tuple") (by rfl) T.z_tuple (by decide +kernel) rfl) pa_nil))) pa_nil)))) (pss_one (ps_ret pe_bl)) pss_nil)
      (pss_cons (ps_if (pt_cmpR op_ne (pe_callB call_isi (by rfl) T.z_isinstance (by decide +kernel) (pa_cons (pv 0) (pa_cons (pe_bltn (v := .ty "bool") (u := .type "bool") (by rfl) T.z_bool (by decide +kernel) rfl) pa_nil))) (pe_callB call_isi (by rfl) T.z_isinstance (by decide +kernel) (pa_cons (pv 1) (pa_cons (pe_bltn (v := .ty "bool") (u := .type "bool") (by rfl) T.z_bool (by decide +kernel) rfl) pa_nil))) (nomark _)) (pss_one (ps_ret pe_bl)) pss_nil)
      (pss_cons (ps_if (pt_cmpR op_ne (pe_callB call_isi (by rfl) T.z_isinstance (by decide +kernel) (pa_cons (pv 0) (pa_cons (pe_bltn (v := .ty "int") (u := .type "int") (by rfl) T.z_int (by decide +kernel) rfl) pa_nil))) (pe_callB call_isi (by rfl) T.z_isinstance (by decide +kernel) (pa_cons (pv 1) (pa_cons (pe_bltn (v := .ty "int") (u := .type "int") (by rfl) T.z_int (by decide +kernel) rfl) pa_nil))) (nomark _)) (pss_one (ps_ret pe_bl)) pss_nil)
      (pss_one (ps_ret (pe_and (pe_cmpR op_eq (pe_callB call_isi (by rfl) T.z_isinstance (by decide +kernel) (pa_cons (pv 0) (pa_cons (pe_bltn (v := .ty "str") (u := .type "str") (by rfl) T.z_str (by decide +kernel) rfl) pa_nil))) (pe_callB call_isi (by rfl) T.z_isinstance (by decide +kernel) (pa_cons (pv 1) (pa_cons (pe_bltn (v := .ty "str") (u := .type "str") (by rfl) T.z_str (by decide +kernel) rfl) pa_nil))) (nomark _)) (pe_one (pe_cmpR op_eq (pv 0) (pv 1) (nomark _))))))))))), ?_⟩
    have kinds : (x = .non ∧ y = .non) ∨ (∃ (Ty : String) (r1 r2 r3 : Bool), x = y ∧ x ≠ .non ∧ (∀ H', TyX K H' x (.type Ty)) ∧ kitB Ty "list" = some false ∧ kitB Ty "tuple" = some false ∧ kitB Ty "bool" = some r1 ∧ kitB Ty "int" = some r2 ∧ kitB Ty "str" = some r3 ∧ scal x x = true) ∨
        (∃ (m : Nat) (a b : Addr) (xs ys : List V) (ds : List PyData), n = m + 1 ∧ x = .ref a ∧ y = .ref b ∧ SqL K H a xs ∧ SqL K H b ys ∧ DpAll K H xs ds ∧ DpAll K H ys ds ∧ ds.length ≤ 1000 ∧ ∀ d ∈ ds, Deep m d) ∨
        (∃ (m : Nat) (a b : Addr) (xs ys : List V) (ds : List PyData), n = m + 1 ∧ x = .ref a ∧ y = .ref b ∧ SqT K H a xs ∧ SqT K H b ys ∧ DpAll K H xs ds ∧ DpAll K H ys ds ∧ ds.length ≤ 1000 ∧ ∀ d ∈ ds, Deep m d) := by
      cases hx with
      | non =>
        cases hy
        exact .inl ⟨rfl, rfl⟩
      | bl b =>
        cases hy
        exact .inr (.inl ⟨"bool", true, true, false, rfl, (fun e => by cases e), fun _ => .base (.bl b), by decide +kernel, by decide +kernel, by decide +kernel, by decide +kernel, by decide +kernel, rfl⟩)
      | int b =>
        cases hy
        exact .inr (.inl ⟨"int", false, true, false, rfl, (fun e => by cases e), fun _ => .base (.int b), by decide +kernel, by decide +kernel, by decide +kernel, by decide +kernel, by decide +kernel, rfl⟩)
      | str b =>
        cases hy
        exact .inr (.inl ⟨"str", false, false, true, rfl, (fun e => by cases e), fun _ => .base (.str b), by decide +kernel, by decide +kernel, by decide +kernel, by decide +kernel, by decide +kernel, rfl⟩)
      | lst h1 h2 =>
        cases hy with
        | lst h3 h4 =>
          cases n with
          | zero =>
            unfold Deep at hd
            exact hd.elim
          | succ m =>
            unfold Deep at hd
            exact .inr (.inr (.inl ⟨m, _, _, _, _, _, rfl, rfl, rfl, h1, h3, h2, h4, hd.1, hd.2⟩))
      | tup h1 h2 =>
        cases hy with
        | tup h3 h4 =>
          cases n with
          | zero =>
            unfold Deep at hd
            exact hd.elim
          | succ m =>
            unfold Deep at hd
            exact .inr (.inr (.inr ⟨m, _, _, _, _, _, rfl, rfl, rfl, h1, h3, h2, h4, hd.1, hd.2⟩))
    rcases kinds with ⟨rfl, rfl⟩ | ⟨Ty, r1, r2, r3, rfl, hn, ht, k1, k2, k3, k4, k5, hs⟩ | ⟨m, a, b, xs, ys, ds, hm, rfl, rfl, hSx, hSy, hDx, hDy, hdl, hdd⟩ | ⟨m, a, b, xs, ys, ds, hm, rfl, rfl, hSx, hSy, hDx, hDy, hdl, hdd⟩
    · refine ⟨_, rfl, rfl, _, rfl, ite2 (fun _ => ?_) (fun h => absurd (decide_eq_true rfl) h)⟩
      refine iteT ?_
      refine ⟨_, rfl, rfl, _, rfl, ite2 (fun _ => ?_) (fun h => absurd (decide_eq_true rfl) h)⟩
      refine ⟨_, rfl, rfl, ?_⟩
      rw [decide_eq_true rfl]
      exact q _ (Same.refl H)
    · refine ⟨_, rfl, rfl, _, rfl, ite2 (fun h => absurd (of_decide_eq_true h) hn) (fun _ => ?_)⟩
      refine ⟨_, rfl, rfl, _, rfl, ite2 (fun h => absurd (of_decide_eq_true h) hn) (fun _ => ?_)⟩
      refine ⟨_, rfl, (show 2 ≤ sizeLine by decide), fun p np => ⟨_, p, _, _, _, false, rfl, upd_same, .cons (.ty _) (.cons (.ty _) .nil), ht _, kitAny_lt k1 k2, _, rfl, iteF ?_⟩⟩
      have s1 := same_upd (o := HO.tup [V.ty "list", V.ty "tuple"]) np
      refine ⟨_, rfl, (show 2 ≤ sizeLine by decide), fun p2 np2 => ⟨_, p2, _, _, _, false, rfl, upd_same, .cons (.ty _) (.cons (.ty _) .nil), ht _, kitAny_lt k1 k2, _, rfl, iteF ?_⟩⟩
      have s2 := s1.trans (same_upd (o := HO.tup [V.ty "list", V.ty "tuple"]) np2)
      refine ⟨_, rfl, _, _, _, _, r1, rfl, .ty _, ht _, kit_ty k3, _, rfl, _, _, _, _, r1, rfl, .ty _, ht _, kit_ty k3, rfl, _, rfl, iteNS rfl ?_⟩
      refine ⟨_, rfl, _, _, _, _, r2, rfl, .ty _, ht _, kit_ty k4, _, rfl, _, _, _, _, r2, rfl, .ty _, ht _, kit_ty k4, rfl, _, rfl, iteNS rfl ?_⟩
      refine ⟨_, rfl, _, _, _, _, r3, rfl, .ty _, ht _, kit_ty k5, _, rfl, _, _, _, _, r3, rfl, .ty _, ht _, kit_ty k5, rfl, _, rfl, ite2 (fun _ => ?_) (fun h => absurd (decide_eq_true rfl) h)⟩
      refine ⟨_, rfl, _, rfl, hs, ?_⟩
      rw [decide_eq_true rfl]
      exact q _ s2
    · refine ⟨_, rfl, rfl, _, rfl, ite2 (fun h => absurd (of_decide_eq_true h) (fun e => by cases e)) (fun _ => ?_)⟩
      refine ⟨_, rfl, rfl, _, rfl, ite2 (fun h => absurd (of_decide_eq_true h) (fun e => by cases e)) (fun _ => ?_)⟩
      refine ⟨_, rfl, (show 2 ≤ sizeLine by decide), fun p np => ?_⟩
      have s1 := same_upd (o := HO.tup [V.ty "list", V.ty "tuple"]) np
      have hSx1 := s1.seq hSx
      have hSy1 := s1.seq hSy
      refine ⟨_, p, _, _, _, true, rfl, upd_same, .cons (.ty _) (.cons (.ty _) .nil), tyL hSy1, kitAny_lt (r1 := true) (r2 := false) (by decide +kernel) (by decide +kernel), _, rfl, iteT ?_⟩
      refine ⟨_, rfl, _, _, _, _, true, rfl, .ty _, tyL hSx1, kit_ty (by decide +kernel), _, rfl, _, _, _, _, true, rfl, .ty _, tyL hSy1, kit_ty (by decide +kernel), rfl, _, rfl, iteNS rfl ?_⟩
      refine ⟨_, rfl, _, _, _, _, false, rfl, .ty _, tyL hSx1, kit_ty (by decide +kernel), _, rfl, _, _, _, _, false, rfl, .ty _, tyL hSy1, kit_ty (by decide +kernel), rfl, _, rfl, iteNS rfl ?_⟩
      refine ⟨_, rfl, _, _, rfl, .inl ⟨_, hSx1, rfl⟩, _, rfl, _, _, rfl, .inl ⟨_, hSy1, rfl⟩, rfl, _, rfl, iteNS (by rw [DpAll.len hDx, DpAll.len hDy]) ?_⟩
      refine ⟨_, rfl, _, rfl, a, b, xs, ys, rfl, .inl ⟨hSx1, hSy1, fun D hD => ?_⟩⟩
      refine lc_it (walk_zip (xs := xs) (ys := ys) (n := ds.length) (by rw [DpAll.len hDx, DpAll.len hDy, Nat.min_self])) (fun i H' => But D (upd H p (.tup [.ty "list", .ty "tuple"])) H' ∧ H' D = some (.lst (List.replicate i (.bl true)))) ⟨(same_upd hD).but, upd_same⟩ (fun i H' _ pv => ?_) ?_ ?_
      · have nD : ∀ c u, (upd H p (.tup [.ty "list", .ty "tuple"])) c = some u → c ≠ D := fun c u e => ne_of_none e hD
        exact ⟨seq_but nD pv.1 hSx1, seq_but nD pv.1 hSy1⟩
      · rintro i _ H' _ hi ⟨bt, hDD⟩ ⟨T', x1, y1, rfl, nT, rfl, hx1, hy1⟩
        obtain ⟨d1, e1, g1⟩ := DpAll.at hDx hx1
        obtain ⟨d2, e2, g2⟩ := DpAll.at hDy hy1
        have ed : d1 = d2 := Option.some.inj (e1.symm.trans e2)
        subst ed
        have nDT : D ≠ T' := ne_of_none hDD nT
        have sT := same_upd (o := HO.tup [x1, y1]) nT
        have nD : ∀ c u, H c = some u → c ≠ D := fun c u e => ne_of_none (s1 _ _ e) hD
        have sH : Same H (upd H' T' (.tup [x1, y1])) := fun c u e => sT _ _ (bt c u (nD c u e) (s1 _ _ e))
        refine ⟨T', [x1, y1], rfl, SqT.of upd_same, rfl, x1, [y1], rfl, y1, [], rfl, rfl, rfl, ?_⟩
        refine ⟨_, rfl, _, rfl, hsp m _ _ _ _ hm ⟨x1, y1, d1, rfl, Dp.same sH g1, Dp.same sH g2, hdd d1 (List.mem_of_getElem? e1), fun H2 s2 => ?_⟩⟩
        refine ⟨_, s2 _ _ (sT _ _ hDD), ?_, fun c u n e => ?_, ?_⟩
        · rw [List.length_replicate]
          exact sz1 (by omega)
        · rw [upd_ne n]
          exact s2 _ _ (sT _ _ (bt c u n e))
        · rw [upd_same, ← List.replicate_succ']
      · rintro H' ⟨bt, hDD⟩
        refine ⟨D, List.replicate ds.length true, rfl, SqL.of (by rw [hDD, List.map_replicate]), ?_⟩
        rw [show (List.replicate ds.length true).all id = true from by rw [List.all_eq_true]; intro z hz; rw [List.eq_of_mem_replicate hz]; rfl]
        exact q _ fun c u e => bt c u (ne_of_none (s1 _ _ e) hD) (s1 _ _ e)
    · refine ⟨_, rfl, rfl, _, rfl, ite2 (fun h => absurd (of_decide_eq_true h) (fun e => by cases e)) (fun _ => ?_)⟩
      refine ⟨_, rfl, rfl, _, rfl, ite2 (fun h => absurd (of_decide_eq_true h) (fun e => by cases e)) (fun _ => ?_)⟩
      refine ⟨_, rfl, (show 2 ≤ sizeLine by decide), fun p np => ?_⟩
      have s1 := same_upd (o := HO.tup [V.ty "list", V.ty "tuple"]) np
      have hSx1 := s1.tup hSx
      have hSy1 := s1.tup hSy
      refine ⟨_, p, _, _, _, true, rfl, upd_same, .cons (.ty _) (.cons (.ty _) .nil), tyT hSy1, kitAny_lt (r1 := false) (r2 := true) (by decide +kernel) (by decide +kernel), _, rfl, iteT ?_⟩
      refine ⟨_, rfl, _, _, _, _, false, rfl, .ty _, tyT hSx1, kit_ty (by decide +kernel), _, rfl, _, _, _, _, false, rfl, .ty _, tyT hSy1, kit_ty (by decide +kernel), rfl, _, rfl, iteNS rfl ?_⟩
      refine ⟨_, rfl, _, _, _, _, true, rfl, .ty _, tyT hSx1, kit_ty (by decide +kernel), _, rfl, _, _, _, _, true, rfl, .ty _, tyT hSy1, kit_ty (by decide +kernel), rfl, _, rfl, iteNS rfl ?_⟩
      refine ⟨_, rfl, _, _, rfl, .inr ⟨_, hSx1, rfl⟩, _, rfl, _, _, rfl, .inr ⟨_, hSy1, rfl⟩, rfl, _, rfl, iteNS (by rw [DpAll.len hDx, DpAll.len hDy]) ?_⟩
      refine ⟨_, rfl, _, rfl, a, b, xs, ys, rfl, .inr ⟨hSx1, hSy1, fun D hD => ?_⟩⟩
      refine lc_it (walk_zipT (xs := xs) (ys := ys) (n := ds.length) (by rw [DpAll.len hDx, DpAll.len hDy, Nat.min_self])) (fun i H' => But D (upd H p (.tup [.ty "list", .ty "tuple"])) H' ∧ H' D = some (.lst (List.replicate i (.bl true)))) ⟨(same_upd hD).but, upd_same⟩ (fun i H' _ pv => ?_) ?_ ?_
      · have nD : ∀ c u, (upd H p (.tup [.ty "list", .ty "tuple"])) c = some u → c ≠ D := fun c u e => ne_of_none e hD
        exact ⟨tup_but nD pv.1 hSx1, tup_but nD pv.1 hSy1⟩
      · rintro i _ H' _ hi ⟨bt, hDD⟩ ⟨T', x1, y1, rfl, nT, rfl, hx1, hy1⟩
        obtain ⟨d1, e1, g1⟩ := DpAll.at hDx hx1
        obtain ⟨d2, e2, g2⟩ := DpAll.at hDy hy1
        have ed : d1 = d2 := Option.some.inj (e1.symm.trans e2)
        subst ed
        have nDT : D ≠ T' := ne_of_none hDD nT
        have sT := same_upd (o := HO.tup [x1, y1]) nT
        have nD : ∀ c u, H c = some u → c ≠ D := fun c u e => ne_of_none (s1 _ _ e) hD
        have sH : Same H (upd H' T' (.tup [x1, y1])) := fun c u e => sT _ _ (bt c u (nD c u e) (s1 _ _ e))
        refine ⟨T', [x1, y1], rfl, SqT.of upd_same, rfl, x1, [y1], rfl, y1, [], rfl, rfl, rfl, ?_⟩
        refine ⟨_, rfl, _, rfl, hsp m _ _ _ _ hm ⟨x1, y1, d1, rfl, Dp.same sH g1, Dp.same sH g2, hdd d1 (List.mem_of_getElem? e1), fun H2 s2 => ?_⟩⟩
        refine ⟨_, s2 _ _ (sT _ _ hDD), ?_, fun c u n e => ?_, ?_⟩
        · rw [List.length_replicate]
          exact sz1 (by omega)
        · rw [upd_ne n]
          exact s2 _ _ (sT _ _ (bt c u n e))
        · rw [upd_same, ← List.replicate_succ']
      · rintro H' ⟨bt, hDD⟩
        refine ⟨D, List.replicate ds.length true, rfl, SqL.of (by rw [hDD, List.map_replicate]), ?_⟩
        rw [show (List.replicate ds.length true).all id = true from by rw [List.all_eq_true]; intro z hz; rw [List.eq_of_mem_replicate hz]; rfl]
        exact q _ fun c u e => bt c u (ne_of_none (s1 _ _ e) hD) (s1 _ _ e)
abbrev s__law_letters : Stmt := topS 36
theorem sc__law_letters : FnScope ["_law_bag", "_law_letters_here", "_law_many", "_law_found", "_law_low", "_law_k", "_law_at"] ["_law_bag", "_law_letters_here", "_law_many"] (defScope s__law_letters) := ⟨rfl, rfl, rfl, by decide +kernel, rfl, by decide +kernel, by decide +kernel⟩
theorem ok__law_letters {f : Addr} {fd : FuncData} (F : Fun K "_law_letters" "_law_letters" s__law_letters f fd) (T : Z mg) (c__law_draw : Cal P w K mg base CX0 1 "_law_draw" s__law_draw ["_law_bag", "_law_many"] (sp__law_draw K)) : FnOk P w K mg base CX0 2 f fd ["_law_bag", "_law_letters_here", "_law_many"] (sp__law_letters K) := by
  refine F.ok sc__law_letters (fun vs H Q E h => ?_) (fun cdv A outer s H vs Q E hr h => ?_)
  · obtain ⟨b, lb, L, k, rfl, _⟩ := h
    rfl
  · obtain ⟨b, lb, L, k, rfl, B, hk, hL, q⟩ := h
    refine ⟨_, (pss_cons (ps_asg (pe_tup (pa_cons pe_str (pa_cons pe_int pa_nil))) (pg_tup rfl (pgs_cons (pg_name (i := 3) sc__law_letters.nd rfl (.inl rfl)) (pgs_cons (pg_name (i := 4) sc__law_letters.nd rfl (.inl rfl)) pgs_nil))))
      (pss_cons (ps_for PassesOwn.never rfl (pi_range1 (by rfl) T.z_range (pa_cons (pv 2) pa_nil)) (pg_name (i := 5) sc__law_letters.nd rfl (.inl rfl))
        (pss_cons (ps_set (i := 6) sc__law_letters.nd rfl (.inl rfl) (pe_op op_add (pv 4) (pe_c c__law_draw hr (by decide) (by rfl) (pa_cons (pv 0) (pa_cons (pe_op op_sub (pe_op op_sub (pe_callB call_len_str (by rfl) T.z_len (by decide +kernel) (pa_cons (pv 1) pa_nil)) (pv 4)) (pe_op op_sub (pe_op op_sub (pv 2) pe_int) (pv 5))) pa_nil)))))
      (pss_one (ps_par (i := 3) (j := 4) (by rfl) sc__law_letters.nd rfl rfl (by decide) rfl rfl (pa_cons (pe_op op_add_str (pv 3) (pe_ix ix_str (pv 1) (pv 6) (fun _ _ => rfl))) (pa_cons (pe_op op_add (pv 6) pe_int) pa_nil)) (by rfl)))))
      (pss_one (ps_ret (pv 3))))), ?_⟩
    refine ⟨(show 2 ≤ sizeLine by decide), fun p np => ⟨p, _, rfl, SqT.of upd_same, rfl, _, _, rfl, _, _, rfl, rfl, _, rfl, k, rfl, by omega, by omega, ?_⟩⟩
    have s0 := same_upd (o := HO.tup [V.str "", V.int 0]) np
    refine for_range (n := ((k : Nat) : Int).toNat) (fun i σ H' => ∃ (r : List Nat) (low : Nat) (y5 y6 : Option V), σ = [some (.ref b), some (.str (S L)), some (.int k), some (.str (S r)), some (.int low), y5, y6] ∧ But b H H' ∧ Bag H' b lb ∧ List.Sublist r (L.take low) ∧ r.length = i ∧ low + (k - i) ≤ L.length)
      ⟨[], 0, none, none, rfl, s0.but, B.same s0, List.nil_sublist _, rfl, by omega⟩ ?_ ?_
    · rintro i σ H' hi ⟨r, low, y5, y6, rfl, hb, B', hs, hr', hlow⟩
      have hi : i < k := by omega
      refine ⟨_, rfl, _, rfl, _, rfl, _, rfl, by rw [S_len]; exact sz (by omega), _, rfl, _, _, rfl, rfl, _, rfl, _, _, rfl, rfl, _, rfl, _, _, rfl, rfl, _, _, rfl, rfl, ?_⟩
      rw [S_len]
      refine ⟨b, lb, _, rfl, B', by omega, by omega, fun H2 z z0 z1 hb2 B2 => ?_⟩
      refine ⟨_, _, rfl, rfl, ?_⟩
      have hz : low + z.toNat < L.length := by omega
      refine ⟨_, rfl, _, rfl, _, rfl, S L, _, L[low + z.toNat], rfl, rfl, by rw [S_len]; exact sz (by omega), atI_of (show (low : Int) + z = ((low + z.toNat : Nat) : Int) by omega) (List.getElem?_eq_getElem hz), _, _, rfl, rfl, ?_, _, rfl, _, _, rfl, rfl, _, _, rfl, ?_⟩
      · rw [S_len]
        exact sz (by show r.length + 1 ≤ 100000; omega)
      · refine ⟨r ++ [L[low + z.toNat]], low + z.toNat + 1, some (.int (0 + (i : Int))), some (.int ((low : Int) + z)), ?_, hb.trans hb2, B2, sub_next hs (by omega) hz, by rw [List.length_append, hr']; rfl, by omega⟩
        rw [← S_cat]
        have e : ((low : Int) + z + 1) = (((low + z.toNat + 1 : Nat)) : Int) := by omega
        rw [← e]
        rfl
    · rintro σ H' ⟨r, low, y5, y6, rfl, hb, B', hs, hr', hlow⟩
      exact ⟨_, rfl, q _ _ (hs.trans (List.take_sublist _ _)) (by omega) hb B'⟩
abbrev s__law_some_faces : Stmt := topS 37
theorem sc__law_some_faces : FnScope ["_law_bag", "_law_most"] ["_law_bag", "_law_most"] (defScope s__law_some_faces) := ⟨rfl, rfl, rfl, by decide +kernel, rfl, by decide +kernel, by decide +kernel⟩
theorem ok__law_some_faces {f : Addr} {fd : FuncData} (F : Fun K "_law_some_faces" "_law_some_faces" s__law_some_faces f fd) (T : Z mg) (c__law_draw : Cal P w K mg base CX0 1 "_law_draw" s__law_draw ["_law_bag", "_law_many"] (sp__law_draw K))
    (c__law_letters : Cal P w K mg base CX0 2 "_law_letters" s__law_letters ["_law_bag", "_law_letters_here", "_law_many"] (sp__law_letters K)) : FnOk P w K mg base CX0 3 f fd ["_law_bag", "_law_most"] (sp__law_some_faces K) := by
  refine F.ok sc__law_some_faces (fun vs H Q E h => ?_) (fun cdv A outer s H vs Q E hr h => ?_)
  · obtain ⟨b, lb, m, rfl, _⟩ := h
    rfl
  · obtain ⟨b, lb, m, rfl, B, h0, h1, q⟩ := h
    refine ⟨_, (pss_one (ps_ret (pe_c c__law_letters hr (by decide) (by rfl) (pa_cons (pv 0) (pa_cons pe_str (pa_cons (pe_op op_add pe_int (pe_c c__law_draw hr (by decide) (by rfl) (pa_cons (pv 0) (pa_cons (pv 1) pa_nil)))) pa_nil)))))), ?_⟩
    refine ⟨_, rfl, _, rfl, _, rfl, b, lb, _, rfl, B, by omega, by omega, fun H1 z z0 z1 hb B1 => ?_⟩
    refine ⟨_, _, rfl, rfl, b, lb, lower, 1 + z.toNat, ?_, B1, by rw [lower_len]; omega, by rw [lower_len]; omega, fun H2 r hs hr' hb2 B2 => ?_⟩
    · have e : (1 : Int) + z = ((1 + z.toNat : Nat) : Int) := by omega
      rw [← e]
      rfl
    · exact q _ r hs (by omega) (by omega) (hb.trans hb2) B2
abbrev s_is_string : Stmt := topS 20
theorem sc_is_string : FnScope ["value", "faces", "face"] ["value", "faces"] (defScope s_is_string) := ⟨rfl, rfl, rfl, by decide +kernel, rfl, by decide +kernel, by decide +kernel⟩
theorem ok_is_string {f : Addr} {fd : FuncData} (F : Fun K "is_string" "is_string" s_is_string f fd) (T : Z mg) : FnOk P w K mg base CX0 1 f fd ["value", "faces"] (sp_is_string K) := by
  refine F.ok sc_is_string (fun vs H Q E h => ?_) (fun cdv A outer s H vs Q E hr h => ?_)
  · obtain ⟨v, fs, rfl, _⟩ := h
    rfl
  · obtain ⟨v, fs, rfl, hv, q⟩ := h
    refine ⟨_, (pss_one (ps_ret (pe_and (pe_callB call_isi (by rfl) T.z_isinstance (by decide +kernel) (pa_cons (pv 0) (pa_cons (pe_bltn (v := .ty "str") (u := .type "str") (by rfl) T.z_str (by decide +kernel) rfl) pa_nil))) (pe_one (pe_callB (cr_all rfl) (by rfl) T.z_all (by decide +kernel) (pa_cons (pe_lc (own := [("face", 2)]) (g := (gName 2)) (by rfl) sc_is_string.nd (pi_str (pv 0)) (blkOk_by (N := ["value", "faces", "face"]) (sc := defScope s_is_string) (by decide +kernel)) (fun _ _ _ _ _ => (pg_name (i := 2) sc_is_string.nd rfl (.inl rfl))) (fun _ _ _ _ _ => pts_nil) (fun _ _ _ _ _ => (pe_cmpR op_in_sign (pv 2) (pv 1) rfl))) pa_nil)))))), ?_⟩
    rcases hv with ⟨hs, hl⟩ | ⟨hs, T, ht, hk⟩
    · obtain ⟨z, rfl⟩ := str_of hs
      refine ⟨_, rfl, _, _, _, _, true, rfl, .ty _, .base (.str z), kit_ty (by decide +kernel), true, rfl, iteT ?_⟩
      refine ⟨_, rfl, z, rfl, fun D hD => lc_it walk_str (fun i H' => H' = upd H D (.lst ((z.cps.toList.take i).map fun c => V.bl (decide (c ∈ fs.cps.toList))))) rfl (fun _ _ _ _ => trivial) ?_ ?_⟩
      · rintro i x _ _ hi rfl ⟨rfl, c, hc, rfl⟩
        refine ⟨rfl, ?_⟩
        refine ⟨_, rfl, _, rfl, c, fs, rfl, rfl, _, upd_same, ?_, ?_⟩
        · rw [List.length_map, List.length_take]
          have hl : z.cps.size ≤ 100000 := hl
          exact sz1 (Nat.le_trans (Nat.min_le_left _ _) (by omega))
        · rw [upd_upd]
          have e : z.cps.toList.take (i + 1) = z.cps.toList.take i ++ [c] := by
            rw [List.take_add_one]
            have : z.cps.toList[i]? = some c := by rw [Array.getElem?_toList]; exact hc
            rw [this]
            rfl
          rw [e, List.map_append]
          rfl
      · rintro H' rfl
        refine ⟨D, z.cps.toList.map fun c => decide (c ∈ fs.cps.toList), rfl, SqL.of ?_, ?_⟩
        · rw [upd_same, List.take_of_length_le (by simp), List.map_map]
          rfl
        · have e : (z.cps.toList.map fun c => decide (c ∈ fs.cps.toList)).all id = bString (.str z) fs := by
            unfold bString isStr strOf
            rw [List.all_map]
            rfl
          rw [e]
          exact q _ (same_upd hD)
    · refine ⟨_, rfl, _, _, _, _, false, rfl, .ty _, ht, kit_ty hk, false, rfl, iteF ?_⟩
      have e : bString v fs = false := by
        unfold bString
        rw [hs]
        rfl
      rw [e] at q
      exact q _ (Same.refl H)
theorem kb_is_string_0_faces_value : KB K "is_string" s_is_string ["value", "faces"] ["faces", "value"] swp swp := kb_swap fun _ _ _ _ _ _ _ _ => rfl
abbrev s_is_ascending : Stmt := topS 15
theorem sc_is_ascending : FnScope ["text", "one", "other"] ["text"] (defScope s_is_ascending) := ⟨rfl, rfl, rfl, by decide +kernel, rfl, by decide +kernel, by decide +kernel⟩
theorem ok_is_ascending {f : Addr} {fd : FuncData} (F : Fun K "is_ascending" "is_ascending" s_is_ascending f fd) (T : Z mg) : FnOk P w K mg base CX0 1 f fd ["text"] (sp_is_ascending K) := by
  refine F.ok sc_is_ascending (fun vs H Q E h => ?_) (fun cdv A outer s H vs Q E hr h => ?_)
  · obtain ⟨l, rfl, _⟩ := h
    rfl
  · obtain ⟨l, rfl, hl, q⟩ := h
    refine ⟨_, (pss_one (ps_ret (pe_callB (cr_all rfl) (by rfl) T.z_all (by decide +kernel) (pa_cons (pe_lc (own := [("one", 1), ("other", 2)]) (g := (gTup K 2 (gCons (gName 1) (gCons (gName 2) gNil)))) (by rfl) sc_is_ascending.nd (pi_zipG (by rfl) T.z_zip (pa_cons (pv 0) (pa_cons (pe_slice sl_str (pv 0) (po_some pe_int) po_none) pa_nil))) (blkOk_by (N := ["text", "one", "other"]) (sc := defScope s_is_ascending) (by decide +kernel)) (fun _ _ _ _ _ => (pg_tup rfl (pgs_cons (pg_name (i := 1) sc_is_ascending.nd rfl (.inl rfl)) (pgs_cons (pg_name (i := 2) sc_is_ascending.nd rfl (.inl rfl)) pgs_nil)))) (fun _ _ _ _ _ => pts_nil) (fun _ _ _ _ _ => (pe_cmpR op_lt_str (pv 1) (pv 2) (nomark _)))) pa_nil)))), ?_⟩
    refine ⟨_, rfl, _, rfl, 1, rfl, _, rfl, by rw [S_len]; exact sz hl, ?_⟩
    rw [show cutS (S l) (some 1) none = S (l.drop 1) from S_sub l 1]
    refine ⟨_, _, l.map sgn, (l.drop 1).map sgn, rfl, .s rfl, .s rfl, fun k1 k2 _ _ g1 g2 D hD => ?_⟩
    have stay : ∀ (k : SK) (H' : Hp) (xs : List V), (k.val = .str (S l) ∨ k.val = .str (S (l.drop 1))) → k.src K H xs → k.src K H' xs := fun k H' xs h q => by
      cases k with
      | l a => rcases h with h | h <;> cases h
      | t a => rcases h with h | h <;> cases h
      | s x t => exact q
    have hk1 : ∀ H', k1.src K H' (l.map sgn) := fun H' => stay k1 H' _ (.inl (by assumption)) g1
    have hk2 : ∀ H', k2.src K H' ((l.drop 1).map sgn) := fun H' => stay k2 H' _ (.inr (by assumption)) g2
    refine lc_it (walk_zipG (xs := l.map sgn) (ys := (l.drop 1).map sgn) (n := l.length - 1) (by rw [List.length_map, List.length_map, List.length_drop]; omega)) (fun i H' => But D H H' ∧ ∃ bs : List Bool, H' D = some (.lst (bs.map V.bl)) ∧ bs.length = i ∧ bs.all id = ascB (l.take (i + 1)))
      ⟨(same_upd hD).but, [], upd_same, rfl, ?_⟩ (fun i H' _ _ => ⟨hk1 H', hk2 H'⟩) ?_ ?_
    · cases l with
      | nil => rfl
      | cons a r => rfl
    · rintro i _ H' _ hi ⟨bt, bs, hDD, hbl, hba⟩ ⟨T', x1, y1, rfl, nT, rfl, hx1, hy1⟩
      have h1 : i + 1 < l.length := by omega
      have ex : x1 = sgn l[i] := by
        have : (l.map sgn)[i]? = some x1 := hx1
        rw [List.getElem?_map, List.getElem?_eq_getElem (by omega)] at this
        exact (Option.some.inj this).symm
      have ey : y1 = sgn l[i + 1] := by
        have : ((l.drop 1).map sgn)[i]? = some y1 := hy1
        rw [List.getElem?_map, List.getElem?_drop, Nat.add_comm 1 i, List.getElem?_eq_getElem h1] at this
        exact (Option.some.inj this).symm
      subst ex ey
      have nDT : D ≠ T' := ne_of_none hDD nT
      refine ⟨T', _, rfl, SqT.of upd_same, rfl, _, _, rfl, _, [], rfl, rfl, rfl, ?_⟩
      refine ⟨_, rfl, _, rfl, _, _, rfl, rfl, _, (same_upd nT) _ _ hDD, by rw [List.length_map]; exact sz1 (by omega), fun a o n e => ?_, bs ++ [decide (l[i] < l[i + 1])], ?_, by rw [List.length_append, hbl]; rfl, ?_⟩
      · rw [upd_ne n]
        exact (same_upd nT) _ _ (bt a o n e)
      · rw [upd_same, List.map_append]
        exact congrArg (fun z => some (HO.lst (bs.map V.bl ++ [V.bl z]))) (lt_sgn _ _)
      · rw [List.all_append, hba, asc_next l i h1]
        show (_ && (_ && true)) = _
        rw [Bool.and_true]
        rfl
    · rintro H' ⟨bt, bs, hDD, hbl, hba⟩
      refine ⟨D, bs, rfl, SqL.of hDD, ?_⟩
      rw [hba, List.take_of_length_le (by omega)]
      exact q _ (but_fresh (Same.refl H) hD bt)
abbrev s_is_choice : Stmt := topS 16
theorem sc_is_choice : FnScope ["value", "letters", "most"] ["value", "letters", "most"] (defScope s_is_choice) := ⟨rfl, rfl, rfl, by decide +kernel, rfl, by decide +kernel, by decide +kernel⟩
theorem ok_is_choice {f : Addr} {fd : FuncData} (F : Fun K "is_choice" "is_choice" s_is_choice f fd) (T : Z mg) (c_is_string : Cal P w K mg base CX0 1 "is_string" s_is_string ["value", "faces"] (sp_is_string K))
    (c_is_ascending : Cal P w K mg base CX0 1 "is_ascending" s_is_ascending ["text"] (sp_is_ascending K)) : FnOk P w K mg base CX0 2 f fd ["value", "letters", "most"] (sp_is_choice K) := by
  refine F.ok sc_is_choice (fun vs H Q E h => ?_) (fun cdv A outer s H vs Q E hr h => ?_)
  · obtain ⟨v, L, m, rfl, _⟩ := h
    rfl
  · obtain ⟨v, L, m, rfl, hv, q⟩ := h
    refine ⟨_, (pss_cons (ps_if (PW.pt (pw_or (pt_not (pt_val (pe_callB call_isi (by rfl) T.z_isinstance (by decide +kernel) (pa_cons (pv 0) (pa_cons (pe_bltn (v := .ty "str") (u := .type "str") (by rfl) T.z_str (by decide +kernel) rfl) pa_nil))))) (pw_or1 (pt_not (pt_chain op_le op_le pe_int (pe_callB call_len_str (by rfl) T.z_len (by decide +kernel) (pa_cons (pv 0) pa_nil)) (pv 2)))))) (pss_one (ps_ret pe_bl)) pss_nil)
      (pss_one (ps_ret (pe_and (pe_c c_is_string hr (by decide) (by rfl) (pa_cons (pv 0) (pa_cons (pv 1) pa_nil))) (pe_one (pe_c c_is_ascending hr (by decide) (by rfl) (pa_cons (pv 0) pa_nil))))))), ?_⟩
    rcases hv with ⟨hs, hl⟩ | ⟨hs, Ty, ht, hk⟩
    · obtain ⟨z, rfl⟩ := str_of hs
      have hl : z.cps.size ≤ 100000 := hl
      refine ⟨_, rfl, _, _, _, _, true, rfl, .ty _, .base (.str z), kit_ty (by decide +kernel), true, rfl, iteF ?_⟩
      refine ⟨_, rfl, z, rfl, sz hl, _, _, rfl, rfl, _, rfl, ?_⟩
      cases h1 : decide ((1 : Int) ≤ (z.length : Int)) with
      | false =>
        refine iteF ⟨_, rfl, iteT ?_⟩
        have e : bChoice (.str z) L m = false := bChoice_1 h1
        rw [e] at q
        exact q _ (Same.refl H)
      | true =>
        refine iteT ⟨_, rfl, _, _, rfl, rfl, _, rfl, ?_⟩
        cases h2 : decide ((z.length : Int) ≤ m) with
        | false =>
          refine iteT ?_
          have e : bChoice (.str z) L m = false := bChoice_2 h2
          rw [e] at q
          exact q _ (Same.refl H)
        | true =>
          refine iteF ?_
          refine ⟨_, rfl, _, rfl, _, _, rfl, .inl ⟨rfl, hl⟩, fun H1 s1 => ⟨_, rfl, ?_⟩⟩
          have e : bChoice (.str z) L m = (bString (.str z) (S L) && ascB z.cps.toList) := bChoice_3 h1 h2
          cases h3 : bString (.str z) (S L) with
          | false =>
            rw [h3] at e
            rw [e] at q
            exact iteF (q _ s1)
          | true =>
            rw [h3] at e
            refine iteT ⟨_, rfl, z.cps.toList, by rw [S_tl z]; rfl, by simpa using hl, fun H2 s2 => ?_⟩
            rw [e] at q
            exact q _ (s1.trans s2)
    · refine ⟨_, rfl, _, _, _, _, false, rfl, .ty _, ht, kit_ty hk, false, rfl, iteT (iteT ?_)⟩
      have e : bChoice v L m = false := by
        unfold bChoice
        rw [hs]
        rfl
      rw [e] at q
      exact q _ (Same.refl H)
abbrev s_is_faces : Stmt := topS 17
theorem sc_is_faces : FnScope ["value"] ["value"] (defScope s_is_faces) := ⟨rfl, rfl, rfl, by decide +kernel, rfl, by decide +kernel, by decide +kernel⟩
theorem ok_is_faces {f : Addr} {fd : FuncData} (F : Fun K "is_faces" "is_faces" s_is_faces f fd) {t1 t2 : Tok} (g__LOWER : mg "_LOWER" = some (.str "abcdefghijklmnopqrstuvwxyz" t1)) (g__MOST_FACES : mg "_MOST_FACES" = some (.int 6 t2))
    (c_is_choice : Cal P w K mg base CX0 2 "is_choice" s_is_choice ["value", "letters", "most"] (sp_is_choice K)) : FnOk P w K mg base CX0 3 f fd ["value"] (sp_is_faces K) := by
  refine F.ok sc_is_faces (fun vs H Q E h => ?_) (fun cdv A outer s H vs Q E hr h => ?_)
  · obtain ⟨v, rfl, _⟩ := h
    rfl
  · obtain ⟨v, rfl, hv, q⟩ := h
    refine ⟨_, (pss_one (ps_ret (pe_c c_is_choice hr (by decide) (by rfl) (pa_cons (pv 0) (pa_cons (pe_glob (v := .str "abcdefghijklmnopqrstuvwxyz") rfl g__LOWER ⟨_, rfl⟩) (pa_cons (pe_glob (v := .int 6) rfl g__MOST_FACES ⟨_, rfl⟩) pa_nil)))))), ?_⟩
    exact ⟨_, rfl, v, lower, 6, rfl, hv, q⟩
abbrev s_is_integer : Stmt := topS 18
theorem sc_is_integer : FnScope ["value"] ["value"] (defScope s_is_integer) := ⟨rfl, rfl, rfl, by decide +kernel, rfl, by decide +kernel, by decide +kernel⟩
def bInt : V → Bool
  | .int _ => true
  | _ => false
def sp_is_integer (K : PySem.W.Frag) : Sp := fun vs H Q _ => ∃ v : V, vs = [v] ∧ (isNum v = true ∨ (isNum v = false ∧ NotI K H v)) ∧ Q (.bl (bInt v)) H
theorem ok_is_integer {f : Addr} {fd : FuncData} (F : Fun K "is_integer" "is_integer" s_is_integer f fd) (T : Z mg) : FnOk P w K mg base CX0 1 f fd ["value"] (sp_is_integer K) := by
  refine F.ok sc_is_integer (fun vs H Q E h => ?_) (fun cdv A outer s H vs Q E hr h => ?_)
  · obtain ⟨v, rfl, _⟩ := h
    rfl
  · obtain ⟨v, rfl, hv, q⟩ := h
    refine ⟨_, (pss_one (ps_ret (pe_and (pe_callB call_isi (by rfl) T.z_isinstance (by decide +kernel) (pa_cons (pv 0) (pa_cons (pe_bltn (v := .ty "int") (u := .type "int") (by rfl) T.z_int (by decide +kernel) rfl) pa_nil))) (pe_one (pe_not (pe_callB call_isi (by rfl) T.z_isinstance (by decide +kernel) (pa_cons (pv 0) (pa_cons (pe_bltn (v := .ty "bool") (u := .type "bool") (by rfl) T.z_bool (by decide +kernel) rfl) pa_nil)))))))), ?_⟩
    rcases hv with hn | ⟨hn, Ty, ht, hk⟩
    · cases v with
      | int i =>
        refine ⟨_, rfl, _, _, _, _, true, rfl, .ty _, .base (.int i), kit_ty (by decide +kernel), true, rfl, iteT ?_⟩
        exact ⟨_, rfl, _, _, _, _, false, rfl, .ty _, .base (.int i), kit_ty (by decide +kernel), false, rfl, q⟩
      | bl b =>
        refine ⟨_, rfl, _, _, _, _, true, rfl, .ty _, .base (.bl b), kit_ty (by decide +kernel), true, rfl, iteT ?_⟩
        exact ⟨_, rfl, _, _, _, _, true, rfl, .ty _, .base (.bl b), kit_ty (by decide +kernel), true, rfl, q⟩
      | _ => exact absurd (show false = true from hn) Bool.false_ne_true
    · refine ⟨_, rfl, _, _, _, _, false, rfl, .ty _, ht, kit_ty hk, false, rfl, iteF ?_⟩
      have e : bInt v = false := by
        cases v with
        | int i => exact absurd (show true = false from hn) Bool.true_eq_false.mp
        | _ => rfl
      rw [e] at q
      exact q
abbrev s_is_number : Stmt := topS 19
theorem sc_is_number : FnScope ["value", "least", "most"] ["value", "least", "most"] (defScope s_is_number) := ⟨rfl, rfl, rfl, by decide +kernel, rfl, by decide +kernel, by decide +kernel⟩
theorem ok_is_number {f : Addr} {fd : FuncData} (F : Fun K "is_number" "is_number" s_is_number f fd) (c_is_integer : Cal P w K mg base CX0 1 "is_integer" s_is_integer ["value"] (sp_is_integer K)) : FnOk P w K mg base CX0 2 f fd ["value", "least", "most"] (sp_is_number K) := by
  refine F.ok sc_is_number (fun vs H Q E h => ?_) (fun cdv A outer s H vs Q E hr h => ?_)
  · obtain ⟨v, lo, hi, rfl, _⟩ := h
    rfl
  · obtain ⟨v, lo, hi, rfl, hv, q⟩ := h
    refine ⟨_, (pss_one (ps_ret (pe_and (pe_c c_is_integer hr (by decide) (by rfl) (pa_cons (pv 0) pa_nil)) (pe_one (pe_chain op_le op_le (pv 1) (pv 0) (pv 2)))))), ?_⟩
    refine ⟨_, rfl, v, rfl, hv, _, rfl, ?_⟩
    cases v with
    | int i =>
      refine iteT ?_
      refine ⟨_, rfl, _, rfl, _, _, rfl, rfl, _, rfl, ?_⟩
      cases h1 : decide (lo ≤ i) with
      | false =>
        have e : bNumber (.int i) lo hi = false := by
          show (decide (lo ≤ i) && decide (i ≤ hi)) = false
          rw [h1]
          rfl
        rw [e] at q
        exact iteF q
      | true =>
        have e : bNumber (.int i) lo hi = decide (i ≤ hi) := by
          show (decide (lo ≤ i) && decide (i ≤ hi)) = _
          rw [h1]
          rfl
        rw [e] at q
        exact iteT ⟨_, rfl, _, _, rfl, rfl, q⟩
    | _ => exact iteF q
theorem kb_is_number_0_most_least_value : KB K "is_number" s_is_number ["value", "least", "most"] ["most", "least", "value"] rev3 rev3 := kb_rev3 fun _ _ _ _ _ _ _ _ _ => rfl
end
end FW
namespace FW
open PySem PySem.Spec PyProof.Rows L2
-- more
section
variable {P : Program} {w : World} {K : PySem.W.Frag} {mg : Str → Option Value} {base : Heap}
abbrev s_is_row : Stmt := topS 22
theorem sc_is_row : FnScope ["value", "faces", "size", "state"] ["value", "faces", "size"] (defScope s_is_row) := ⟨rfl, rfl, rfl, by decide +kernel, rfl, by decide +kernel, by decide +kernel⟩
/-- a list or a tuple -/
def Sq (K : PySem.W.Frag) (H : Hp) (v : V) (xs : List V) : Prop := (∃ a, v = .ref a ∧ SqL K H a xs) ∨ ∃ a, v = .ref a ∧ SqT K H a xs
theorem Sq.same {H H' : Hp} {v : V} {xs : List V} (h : Sq K H v xs) (s : Same H H') : Sq K H' v xs := by
  rcases h with ⟨a, e, h⟩ | ⟨a, e, h⟩
  · exact .inl ⟨a, e, s.seq h⟩
  · exact .inr ⟨a, e, s.tup h⟩
abbrev nI (n : Nat) : V := .int (n : Int)
theorem Sq.kit {H : Hp} {v : V} {xs : List V} (h : Sq K H v xs) : ∃ Ty : String, (∀ H', Same H H' → TyX K H' v (.type Ty)) ∧ ∃ r1 r2, kitB Ty "list" = some r1 ∧ kitB Ty "tuple" = some r2 ∧ (r1 || r2) = true := by
  rcases h with ⟨a, rfl, h⟩ | ⟨a, rfl, h⟩
  · exact ⟨"list", fun H' s => tyL (s.seq h), true, false, by decide +kernel, by decide +kernel, rfl⟩
  · exact ⟨"tuple", fun H' s => tyT (s.tup h), false, true, by decide +kernel, by decide +kernel, rfl⟩
theorem Sq.or {H : Hp} {v : V} {xs : List V} (h : Sq K H v xs) : ∃ a, v = .ref a ∧ (SqL K H a xs ∨ SqT K H a xs) := by
  rcases h with ⟨a, rfl, h⟩ | ⟨a, rfl, h⟩
  · exact ⟨a, rfl, .inl h⟩
  · exact ⟨a, rfl, .inr h⟩
/-- a right row -/
def sp_is_row (K : PySem.W.Frag) : Sp := fun vs H Q _ => ∃ (v : V) (r F : List Nat) (size : Nat), vs = [v, .str (S F), .int (size : Int)] ∧ Sq K H v (r.map nI) ∧ r.length = F.length ∧ F.length ≤ 1000 ∧ (∀ n ∈ r, n < size) ∧ ∀ H', Same H H' → Q (.bl true) H'
theorem ok_is_row {f : Addr} {fd : FuncData} (F : Fun K "is_row" "is_row" s_is_row f fd) (T : Z mg) (c_is_number : Cal P w K mg base CX0 2 "is_number" s_is_number ["value", "least", "most"] (sp_is_number K)) : FnOk P w K mg base CX0 3 f fd ["value", "faces", "size"] (sp_is_row K) := by
  refine F.ok sc_is_row (fun vs H Q E h => ?_) (fun cdv A outer s H vs Q E hr h => ?_)
  · obtain ⟨v, r, F, size, rfl, _⟩ := h
    rfl
  obtain ⟨v, r, fs, sz', rfl, hSq, hrl, hfl, hst, q⟩ := h
  refine ⟨_, (pss_cons (ps_if (PW.pt (pw_or (pt_not (pt_val (pe_callB call_isiT (by rfl) T.z_isinstance (by decide +kernel) (pa_cons (pv 0) (pa_cons (pe_tup (pa_cons (pe_bltn (v := .ty "list") (u := .type "list") (by rfl) T.z_list (by decide +kernel) rfl) (pa_cons (pe_bltn (v := .ty "tuple") (u := .type "tuple") (by rfl) T.z_tuple (by decide +kernel) rfl) pa_nil))) pa_nil))))) (pw_or1 (pt_cmpR op_ne (pe_callB call_len_seq (by rfl) T.z_len (by decide +kernel) (pa_cons (pv 0) pa_nil)) (pe_callB call_len_str (by rfl) T.z_len (by decide +kernel) (pa_cons (pv 1) pa_nil)) (nomark _))))) (pss_one (ps_ret pe_bl)) pss_nil)
      (pss_one (ps_ret (pe_callB (cr_all rfl) (by rfl) T.z_all (by decide +kernel) (pa_cons (pe_lc (own := [("state", 3)]) (g := (gName 3)) (by rfl) sc_is_row.nd (pi_seq (pv 0)) (blkOk_by (N := ["value", "faces", "size", "state"]) (sc := defScope s_is_row) (by decide +kernel)) (fun _ _ _ _ _ => (pg_name (i := 3) sc_is_row.nd rfl (.inl rfl))) (fun _ _ _ _ _ => pts_nil) (fun _ _ _ _ _ => (pe_c c_is_number hr (by decide) (by rfl) (pa_cons (pv 3) (pa_cons pe_int (pa_cons (pe_op op_sub (pv 2) pe_int) pa_nil)))))) pa_nil))))), ?_⟩
  obtain ⟨Ty, tyx, r1, r2, k1, k2, k12⟩ := hSq.kit
  refine ⟨_, rfl, (show 2 ≤ sizeLine by decide), fun p0 n0 => ⟨_, p0, _, _, _, true, rfl, upd_same, .cons (.ty _) (.cons (.ty _) .nil), tyx _ (same_upd n0), (kitAny_lt k1 k2).trans (by rw [k12]), _, rfl, iteF ?_⟩⟩
  have s2 := same_upd (o := HO.tup [V.ty "list", V.ty "tuple"]) n0
  generalize upd H p0 (HO.tup [V.ty "list", V.ty "tuple"]) = H2 at s2
  have hSq2 := hSq.same s2
  obtain ⟨a, rfl, hor⟩ := hSq2.or
  refine ⟨_, rfl, a, _, rfl, hor, ?_⟩
  refine ⟨_, rfl, S fs, rfl, by rw [S_len]; exact sz (by omega), rfl, _, rfl, iteNS (by rw [List.length_map, S_len, hrl]) ?_⟩
  have rlen : r.length ≤ 1000 := by omega
  rcases hor with h | h
  · refine ⟨_, rfl, a, rfl, .inl ⟨⟨_, h⟩, fun D nD => ?_⟩⟩
    have nD0 : ∀ c u, H2 c = some u → c ≠ D := fun c u e => ne_of_none e nD
    refine lc_it (walk_list (xs := r.map nI)) (fun j H' => But D H2 H' ∧ H' D = some (.lst (List.replicate j (.bl true)))) ⟨(same_upd nD).but, upd_same⟩ (fun j H' _ pv => seq_but nD0 pv.1 h) ?_ ?_
    · rintro j v _ H' hj ⟨bt, hDD⟩ ⟨rfl, hx⟩
      rw [List.getElem?_map] at hx
      obtain ⟨n, hn1, rfl⟩ := Option.map_eq_some_iff.mp hx
      have hnm := hst n (List.mem_of_getElem? hn1)
      rw [List.length_map] at hj
      refine ⟨rfl, ?_⟩
      refine ⟨_, rfl, _, rfl, _, _, rfl, rfl, .int (n : Int), 0, (sz' : Int) - 1, rfl, .inl rfl, ?_⟩
      rw [show bNumber (.int (n : Int)) 0 ((sz' : Int) - 1) = true from by
        show (decide ((0 : Int) ≤ (n : Int)) && decide ((n : Int) ≤ (sz' : Int) - 1)) = true
        rw [decide_eq_true (by omega), decide_eq_true (by omega)]
        rfl]
      refine ⟨_, hDD, by rw [List.length_replicate]; exact sz1 (by omega), fun c' o' n' e' => ?_, ?_⟩
      · rw [upd_ne n']
        exact bt _ _ n' e'
      · rw [upd_same, ← List.replicate_succ']
    · rintro H' ⟨bt, hDD⟩
      rw [List.length_map] at hDD
      refine ⟨D, List.replicate r.length true, rfl, SqL.of (by rw [hDD, List.map_replicate]), ?_⟩
      rw [show (List.replicate r.length true).all id = true from by rw [List.all_eq_true]; intro z hz; rw [List.eq_of_mem_replicate hz]; rfl]
      exact q _ (s2.trans fun c' o' e' => bt _ _ (ne_of_none e' nD) e')
  · refine ⟨_, rfl, a, rfl, .inr ⟨⟨_, h⟩, fun D nD => ?_⟩⟩
    have nD0 : ∀ c u, H2 c = some u → c ≠ D := fun c u e => ne_of_none e nD
    refine lc_it (walk_tup (xs := r.map nI)) (fun j H' => But D H2 H' ∧ H' D = some (.lst (List.replicate j (.bl true)))) ⟨(same_upd nD).but, upd_same⟩ (fun j H' _ pv => tup_but nD0 pv.1 h) ?_ ?_
    · rintro j v _ H' hj ⟨bt, hDD⟩ ⟨rfl, hx⟩
      rw [List.getElem?_map] at hx
      obtain ⟨n, hn1, rfl⟩ := Option.map_eq_some_iff.mp hx
      have hnm := hst n (List.mem_of_getElem? hn1)
      rw [List.length_map] at hj
      refine ⟨rfl, ?_⟩
      refine ⟨_, rfl, _, rfl, _, _, rfl, rfl, .int (n : Int), 0, (sz' : Int) - 1, rfl, .inl rfl, ?_⟩
      rw [show bNumber (.int (n : Int)) 0 ((sz' : Int) - 1) = true from by
        show (decide ((0 : Int) ≤ (n : Int)) && decide ((n : Int) ≤ (sz' : Int) - 1)) = true
        rw [decide_eq_true (by omega), decide_eq_true (by omega)]
        rfl]
      refine ⟨_, hDD, by rw [List.length_replicate]; exact sz1 (by omega), fun c' o' n' e' => ?_, ?_⟩
      · rw [upd_ne n']
        exact bt _ _ n' e'
      · rw [upd_same, ← List.replicate_succ']
    · rintro H' ⟨bt, hDD⟩
      rw [List.length_map] at hDD
      refine ⟨D, List.replicate r.length true, rfl, SqL.of (by rw [hDD, List.map_replicate]), ?_⟩
      rw [show (List.replicate r.length true).all id = true from by rw [List.all_eq_true]; intro z hz; rw [List.eq_of_mem_replicate hz]; rfl]
      exact q _ (s2.trans fun c' o' e' => bt _ _ (ne_of_none e' nD) e')
end
end FW
namespace FW
open PySem PySem.Spec PyProof.Rows L2
-- more
section
variable {P : Program} {w : World} {K : PySem.W.Frag} {mg : Str → Option Value} {base : Heap}
abbrev s_check_table : Stmt := topS 23
theorem sc_check_table : FnScope ["faces", "table", "at", "row"] ["faces", "table"] (defScope s_check_table) := ⟨rfl, rfl, rfl, by decide +kernel, rfl, by decide +kernel, by decide +kernel⟩
/-- a table as it stands: its rows' things, the numbers in them -/
structure TabIn (K : PySem.W.Frag) (H : Hp) (tv : V) (as : List V) (M : List (List Nat)) : Prop where
  sq : Sq K H tv as
  len : as.length = M.length
  rows : ∀ (i : Nat) (v : V) (r : List Nat), as[i]? = some v → M[i]? = some r → Sq K H v (r.map nI)
theorem TabIn.same {H H' : Hp} {tv : V} {as : List V} {M : List (List Nat)} (t : TabIn K H tv as M) (s : Same H H') : TabIn K H' tv as M := ⟨t.sq.same s, t.len, fun i v r h1 h2 => (t.rows i v r h1 h2).same s⟩
structure TabOk (k : Nat) (M : List (List Nat)) : Prop where
  l1 : 1 ≤ M.length
  l2 : M.length ≤ 200
  rows : ∀ r ∈ M, r.length = k ∧ ∀ n ∈ r, n < M.length
theorem stay_k {H2 H' : Hp} {k : SK} {xs : List V} (ev : ∃ a, k.val = .ref a) (src : k.src K H2 xs) (s : Same H2 H') : k.src K H' xs := by
  cases k with
  | l a => exact s.seq src
  | t a => exact s.tup src
  | s z t =>
    obtain ⟨a, e⟩ := ev
    cases e
def sp_check_table (K : PySem.W.Frag) : Sp := fun vs H Q _ => ∃ (tv : V) (as : List V) (F : List Nat) (M : List (List Nat)), vs = [.str (S F), tv] ∧ TabIn K H tv as M ∧ TabOk F.length M ∧ F.length ≤ 1000 ∧ ∀ H', Same H H' → Q .non H'
theorem ok_check_table {f CM : Addr} {fd : FuncData} {t8 : Tok} {mc : Value} (F : Fun K "check_table" "check_table" s_check_table f fd) (T : Z mg) (gM : mg "Machine" = some (.ref CM)) (rM : ClX.CRead K CM mc) (vM : ClX.CVal K CM mc "MOST" (.int 200) (.int 200 t8)) (c_is_row : Cal P w K mg base CX0 3 "is_row" s_is_row ["value", "faces", "size"] (sp_is_row K)) : FnOk P w K mg base CX0 4 f fd ["faces", "table"] (sp_check_table K) := by
  refine F.ok sc_check_table (fun vs H Q E h => ?_) (fun cdv A outer s H vs Q E hr h => ?_)
  · obtain ⟨tv, as, F, M, rfl, _⟩ := h
    rfl
  obtain ⟨tv, as, fs, M, rfl, hT, hM, hfl, q⟩ := h
  refine ⟨_, (pss_cons (ps_if (PW.pt (pw_or (pt_not (pt_val (pe_callB call_isiT (by rfl) T.z_isinstance (by decide +kernel) (pa_cons (pv 1) (pa_cons (pe_tup (pa_cons (pe_bltn (v := .ty "list") (u := .type "list") (by rfl) T.z_list (by decide +kernel) rfl) (pa_cons (pe_bltn (v := .ty "tuple") (u := .type "tuple") (by rfl) T.z_tuple (by decide +kernel) rfl) pa_nil))) pa_nil))))) (pw_or1 (pt_not (pt_chain op_le op_le pe_int (pe_callB call_len_seq (by rfl) T.z_len (by decide +kernel) (pa_cons (pv 1) pa_nil)) (ClX.pe_cval (pe_glob (v := .ref CM) rfl gM rfl))))))) pss_never pss_nil)
    (pss_one (ps_for PassesOwn.never rfl (pi_enumG (by rfl) T.z_enumerate (pa_cons (pv 1) pa_nil)) (pg_tup rfl (pgs_cons (pg_name (i := 2) sc_check_table.nd rfl (.inl rfl)) (pgs_cons (pg_name (i := 3) sc_check_table.nd rfl (.inl rfl)) pgs_nil)))
      (pss_one (ps_if (pt_not (pt_val (pe_c c_is_row hr (by decide) (by rfl) (pa_cons (pv 3) (pa_cons (pv 0) (pa_cons (pe_callB call_len_seq (by rfl) T.z_len (by decide +kernel) (pa_cons (pv 1) pa_nil)) pa_nil)))))) pss_never pss_nil))))), ?_⟩
  obtain ⟨Ty, tyx, r1, r2, k1, k2, k12⟩ := hT.sq.kit
  refine ⟨_, rfl, (show 2 ≤ sizeLine by decide), fun p0 n0 => ⟨_, p0, _, _, _, true, rfl, upd_same, .cons (.ty _) (.cons (.ty _) .nil), tyx _ (same_upd n0), (kitAny_lt k1 k2).trans (by rw [k12]), _, rfl, iteF ?_⟩⟩
  have s2 := same_upd (o := HO.tup [V.ty "list", V.ty "tuple"]) n0
  generalize upd H p0 (HO.tup [V.ty "list", V.ty "tuple"]) = H2 at s2
  have hT2 := hT.same s2
  obtain ⟨a, rfl, hor⟩ := hT2.sq.or
  refine ⟨_, rfl, a, _, rfl, hor, _, _, rfl, rfl, _, rfl, ?_⟩
  have hl := hT.len
  have h1 := hM.l1
  have h200 := hM.l2
  rw [show decide ((1 : Int) ≤ (as.length : Int)) = true from decide_eq_true (by omega)]
  refine iteT ⟨CM, mc, .int 200, _, rfl, rM, vM, _, _, rfl, rfl, _, rfl, ?_⟩
  rw [show decide ((as.length : Int) ≤ 200) = true from decide_eq_true (by omega)]
  refine iteF ?_
  have hsrc : Src K H2 (.ref a) as := by
    rcases hor with h | h
    · exact .l h
    · exact .t h
  refine ⟨_, rfl, .ref a, as, rfl, hsrc, fun k ev src => ?_⟩
  refine for_it walk_enumG (fun i σ H' => ∃ y2 y3 : Option V, σ = [some (.str (S fs)), some (.ref a), y2, y3] ∧ Same H2 H') ⟨_, _, rfl, Same.refl _⟩ (fun i σ H' _ ⟨_, _, _, s⟩ => stay_k ⟨a, ev⟩ src s) ?_ ?_
  · rintro i v σ H3 H4 hi ⟨y2, y3, rfl, s3⟩ ⟨T', a1, b1', rfl, nT, rfl, hx1, hy1⟩
    obtain rfl : V.int (i : Nat) = a1 := Option.some.inj hx1
    have hy2 : as[i]? = some b1' := hy1
    have hiM : i < M.length := by rw [← hl]; exact hi
    have hMi : M[i]? = some M[i] := List.getElem?_eq_getElem hiM
    obtain ⟨m1, m2⟩ := hM.rows _ (List.mem_of_getElem? hMi)
    have hrow := hT2.rows i b1' _ hy2 hMi
    generalize M[i] = r at hrow m1 m2
    have s4 := s3.trans (same_upd (o := HO.tup [V.int (i : Nat), b1']) nT)
    refine ⟨T', _, rfl, SqT.of upd_same, rfl, _, _, rfl, _, [], rfl, rfl, ?_⟩
    have hor4 : SqL K (upd H3 T' (HO.tup [V.int (i : Nat), b1'])) a as ∨ SqT K (upd H3 T' (HO.tup [V.int (i : Nat), b1'])) a as := by
      rcases hor with h | h
      · exact .inl (s4.seq h)
      · exact .inr (s4.tup h)
    refine ⟨_, rfl, _, rfl, _, rfl, a, _, rfl, hor4, b1', r, fs, M.length, by rw [hl]; rfl, hrow.same s4, m1, hfl, m2, fun H5 s5 => ⟨_, rfl, iteF ?_⟩⟩
    exact ⟨_, _, rfl, s4.trans s5⟩
  · rintro σ H3 ⟨y2, y3, rfl, s3⟩
    exact q _ (s2.trans s3)
end
end FW
namespace FW
open PySem PySem.Spec PyProof.Rows L2
-- more
section
variable {P : Program} {w : World} {K : PySem.W.Frag} {mg : Str → Option Value} {base : Heap}
abbrev s_check_bad : Stmt := topS 24
theorem sc_check_bad : FnScope ["size", "bad", "least", "at", "state"] ["size", "bad"] (defScope s_check_bad) := ⟨rfl, rfl, rfl, by decide +kernel, rfl, by decide +kernel, by decide +kernel⟩
structure BadOk (n : Nat) (B : List Nat) : Prop where
  asc : B.Pairwise (· < ·)
  lt : ∀ x ∈ B, x < n
def sp_check_bad (K : PySem.W.Frag) : Sp := fun vs H Q _ => ∃ (bv : V) (B : List Nat) (n : Nat), vs = [.int (n : Int), bv] ∧ Sq K H bv (B.map nI) ∧ BadOk n B ∧ n ≤ 1000 ∧ ∀ H', Same H H' → Q .non H'
theorem ok_check_bad {f : Addr} {fd : FuncData} (F : Fun K "check_bad" "check_bad" s_check_bad f fd) (T : Z mg) (c_is_number : Cal P w K mg base CX0 2 "is_number" s_is_number ["value", "least", "most"] (sp_is_number K)) : FnOk P w K mg base CX0 3 f fd ["size", "bad"] (sp_check_bad K) := by
  refine F.ok sc_check_bad (fun vs H Q E h => ?_) (fun cdv A outer s H vs Q E hr h => ?_)
  · obtain ⟨bv, B, n, rfl, _⟩ := h
    rfl
  obtain ⟨bv, B, n, rfl, hS, hB, hn, q⟩ := h
  refine ⟨_, (pss_cons (ps_if (pt_not (pt_val (pe_callB call_isiT (by rfl) T.z_isinstance (by decide +kernel) (pa_cons (pv 1) (pa_cons (pe_tup (pa_cons (pe_bltn (v := .ty "list") (u := .type "list") (by rfl) T.z_list (by decide +kernel) rfl) (pa_cons (pe_bltn (v := .ty "tuple") (u := .type "tuple") (by rfl) T.z_tuple (by decide +kernel) rfl) pa_nil))) pa_nil))))) pss_never pss_nil)
    (pss_cons (ps_set (i := 2) sc_check_bad.nd rfl (.inl rfl) pe_int)
    (pss_one (ps_for PassesOwn.never rfl (pi_enumG (by rfl) T.z_enumerate (pa_cons (pv 1) pa_nil)) (pg_tup rfl (pgs_cons (pg_name (i := 3) sc_check_bad.nd rfl (.inl rfl)) (pgs_cons (pg_name (i := 4) sc_check_bad.nd rfl (.inl rfl)) pgs_nil)))
      (pss_cons (ps_if (pt_not (pt_val (pe_c c_is_number hr (by decide) (by rfl) (pa_cons (pv 4) (pa_cons (pv 2) (pa_cons (pe_op op_sub (pv 0) pe_int) pa_nil)))))) pss_never pss_nil)
      (pss_one (ps_set (i := 2) sc_check_bad.nd rfl (.inl rfl) (pe_op op_add (pv 4) pe_int)))))))), ?_⟩
  obtain ⟨Ty, tyx, r1, r2, k1, k2, k12⟩ := hS.kit
  refine ⟨_, rfl, (show 2 ≤ sizeLine by decide), fun p0 n0 => ⟨_, p0, _, _, _, true, rfl, upd_same, .cons (.ty _) (.cons (.ty _) .nil), tyx _ (same_upd n0), (kitAny_lt k1 k2).trans (by rw [k12]), _, rfl, iteF ?_⟩⟩
  have s2 := same_upd (o := HO.tup [V.ty "list", V.ty "tuple"]) n0
  generalize upd H p0 (HO.tup [V.ty "list", V.ty "tuple"]) = H2 at s2
  obtain ⟨a, rfl, hor⟩ := (hS.same s2).or
  have hsrc : Src K H2 (.ref a) (B.map nI) := by
    rcases hor with h | h
    · exact .l h
    · exact .t h
  refine ⟨_, rfl, .ref a, _, rfl, hsrc, fun k ev src => ?_⟩
  refine for_it walk_enumG (fun i σ H' => ∃ (least : Nat) (y3 y4 : Option V), σ = [some (.int (n : Int)), some (.ref a), some (.int (least : Int)), y3, y4] ∧ Same H2 H' ∧ ∀ x ∈ B.drop i, least ≤ x) ⟨0, _, _, rfl, Same.refl _, fun _ _ => Nat.zero_le _⟩ (fun i σ H' _ ⟨_, _, _, _, s, _⟩ => stay_k ⟨a, ev⟩ src s) ?_ ?_
  · rintro i v σ H3 H4 hi ⟨least, y3, y4, rfl, s3, hge⟩ ⟨T', a1, b1', rfl, nT, rfl, hx1, hy1⟩
    obtain rfl : V.int (i : Nat) = a1 := Option.some.inj hx1
    have hy2 : (B.map nI)[i]? = some b1' := hy1
    rw [List.getElem?_map] at hy2
    obtain ⟨x, hx, rfl⟩ := Option.map_eq_some_iff.mp hy2
    have hxm := List.mem_of_getElem? hx
    have hil : i < B.length := (List.getElem?_eq_some_iff.mp hx).1
    have hdrop : B.drop i = x :: B.drop (i + 1) := by
      rw [List.drop_eq_getElem_cons hil]
      rw [(List.getElem?_eq_some_iff.mp hx).2]
    have hle := hge x (by rw [hdrop]; exact List.mem_cons_self)
    have hlt := hB.lt x hxm
    have s4 := s3.trans (same_upd (o := HO.tup [V.int (i : Nat), nI x]) nT)
    refine ⟨T', _, rfl, SqT.of upd_same, rfl, _, _, rfl, _, [], rfl, rfl, ?_⟩
    refine ⟨_, rfl, _, rfl, _, rfl, _, _, rfl, rfl, .int (x : Int), (least : Int), (n : Int) - 1, rfl, .inl rfl, _, rfl, ?_⟩
    rw [show bNumber (.int (x : Int)) (least : Int) ((n : Int) - 1) = true from by
      show (decide ((least : Int) ≤ (x : Int)) && decide ((x : Int) ≤ (n : Int) - 1)) = true
      rw [decide_eq_true (by omega), decide_eq_true (by omega)]
      rfl]
    refine iteF ⟨_, rfl, _, _, rfl, rfl, ?_⟩
    refine ⟨x + 1, _, _, rfl, s4, fun z hz => ?_⟩
    have pw : (x :: B.drop (i + 1)).Pairwise (· < ·) := by
      rw [← hdrop]
      exact hB.asc.sublist (List.drop_sublist _ _)
    exact List.rel_of_pairwise_cons pw hz
  · rintro σ H3 ⟨least, y3, y4, rfl, s3, _⟩
    exact q _ (s2.trans s3)
end
end FW
/-! a def with one default that raises nothing -/
namespace FW
open PySem PySem.Spec PyProof.Rows L2
section
variable {P : Program} {w : World} {K : PySem.W.Frag} {mg : Str → Option Value} {base : Heap} {x qual : Str} {params : Arguments} {body : List Stmt} {scope : Scope} {dvs : List V} {kws : List (Str × V)} {f : Addr} {fd : FuncData}
theorem fund_ok0 {N ps : List Str} {k : Nat} {sp : Sp} (F : FunD K x qual params body scope dvs kws f fd) (S : FnScope N ps scope) (len : ∀ vs H Q E, sp vs H Q E → vs.length = ps.length)
    (hbody : ∀ (cdv : Value) (A : Around) (outer : List Env) (s : Shared) (H : Hp) (vs : List V) (Q : VK) (E : XK), Room k (A.deeper (envOfC qual scope s.heap.objs.size f cdv)) → sp vs H Q E →
      ∃ t, PSs (cxOf CX0 P w K mg base N qual scope f cdv A outer s H E).nox body t ∧ t { nx := fun _ H' => Q .non H', rt := Q } (start N vs) H) : FnOk P w K mg base CX0 (k + 1) f fd ps sp :=
  F.ok S len fun cdv A outer s H vs Q E hr hsp => by
    obtain ⟨t, h, q⟩ := hbody cdv A outer s H vs Q E hr hsp
    exact ⟨t, h.nox, q⟩
theorem fund_mk1 {oc kV doc pm cdv ct u oT : Value} {od an dT : Option Addr} {osl slT : Array (Option Value)} {T : Addr} {n : Nat} {v : V} (l : K.lookup f = some ⟨oc, od, .func (PySem.W.fnOf x qual params body scope (.ref T) kV doc pm an cdv ct), osl⟩) (c : PySem.W.codeIn K cdv qual = true) (k : PySem.W.keepIn K (.ref f) = true)
    (lT : K.lookup T = some ⟨oT, dT, .seq #[u] n, slT⟩) (r : RelV v u) : FunD K x qual params body scope [v] [] f (PySem.W.fnOf x qual params body scope (.ref T) kV doc pm an cdv ct) :=
  ⟨⟨oc, od, .ref T, kV, doc, pm, an, cdv, ct, osl, rfl, l, c, .inr ⟨List.cons_ne_nil _ _, T, _, [u], n, rfl, lT, rfl, .cons r .nil⟩, .inl rfl⟩, k⟩
end
/-- an empty tuple of the module -/
theorem sqT_nil {K : PySem.W.Frag} {ae : Addr} {od : Option Addr} {n : Nat} {sl : Array (Option Value)} (l : K.lookup ae = some ⟨.type "tuple", od, .seq #[] n, sl⟩) (H : Hp) : SqT K H ae [] := .inr ⟨_, #[], n, l, rfl, rfl, by decide, .nil⟩
theorem one_ref {ae : Addr} {ds : List Value} (h : Vals [V.ref ae] ds) : ds = [.ref ae] := by
  cases h with
  | cons a b =>
    cases b
    cases a
    rfl
end FW
namespace FW
open PySem PySem.Spec PyProof.Rows L2
-- more
section
variable {P : Program} {w : World} {K : PySem.W.Frag} {mg : Str → Option Value} {base : Heap}
abbrev s_Machine_init : Stmt := inCls (topS 28) 1
theorem sc_Machine_init : FnScope ["self", "faces", "table", "bad", "row"] ["self", "faces", "table", "bad"] (defScope s_Machine_init) := ⟨rfl, rfl, rfl, by decide +kernel, rfl, by decide +kernel, by decide +kernel⟩
theorem call_tuple_ofE {X : Cx} {K : PySem.W.Frag} (h : X.K = K) : CallR X (.type "tuple") (fun xs H Q => ∃ p ys, xs = [V.ref p] ∧ ((SqL K H p ys ∧ ∀ l, H l = none → Q (.ref l) (upd H l (.tup ys))) ∨ (SqT K H p ys ∧ Q (.ref p) H))) := by
  subst h
  exact call_tuple_of
def machF (F : List Nat) (tt bt : Addr) : List (Str × V) := [("faces", .str (S F)), ("_table", .ref tt), ("_bad", .ref bt)]
/-- what a machine keeps -/
structure KeptAt (K : PySem.W.Frag) (H : Hp) (tt bt : Addr) (rs : List V) (M : List (List Nat)) (B : List Nat) : Prop where
  tab : H tt = some (.tup rs)
  len : rs.length = M.length
  rows : ∀ (i : Nat) (v : V) (r : List Nat), rs[i]? = some v → M[i]? = some r → ∃ a, v = .ref a ∧ SqT K H a (r.map nI)
  bad : SqT K H bt (B.map nI)
theorem KeptAt.same {H H' : Hp} {tt bt : Addr} {rs : List V} {M : List (List Nat)} {B : List Nat} (k : KeptAt K H tt bt rs M B) (s : Same H H') : KeptAt K H' tt bt rs M B :=
  ⟨s _ _ k.tab, k.len, fun i v r h1 h2 => let ⟨a, e, h⟩ := k.rows i v r h1 h2; ⟨a, e, s.tup h⟩, s.tup k.bad⟩
theorem sqL_insb {H H' : Hp} {x C d a : Addr} {fs : List (Str × V)} {xs : List V} (hx : H x = some (.ins C d fs)) (b : But x H H') (h : SqL K H a xs) : SqL K H' a xs := by
  rcases h with (h | ⟨o, h⟩) | h
  · exact .inl (.inl (b _ _ (fun z => by rw [z, hx] at h; cases h) h))
  · exact .inl (.inr ⟨o, b _ _ (fun z => by rw [z, hx] at h; cases h) h⟩)
  · exact .inr h
theorem sqT_insb {H H' : Hp} {x C d a : Addr} {fs : List (Str × V)} {xs : List V} (hx : H x = some (.ins C d fs)) (b : But x H H') (h : SqT K H a xs) : SqT K H' a xs := by
  rcases h with (h | ⟨o, h⟩) | h
  · exact .inl (.inl (b _ _ (fun z => by rw [z, hx] at h; cases h) h))
  · exact .inl (.inr ⟨o, b _ _ (fun z => by rw [z, hx] at h; cases h) h⟩)
  · exact .inr h
theorem Sq.insb {H H' : Hp} {x C d : Addr} {fs : List (Str × V)} {v : V} {xs : List V} (h : Sq K H v xs) (hx : H x = some (.ins C d fs)) (b : But x H H') : Sq K H' v xs := by
  rcases h with ⟨a, e, h⟩ | ⟨a, e, h⟩
  · exact .inl ⟨a, e, sqL_insb hx b h⟩
  · exact .inr ⟨a, e, sqT_insb hx b h⟩
theorem TabIn.insb {H H' : Hp} {x C d : Addr} {fs : List (Str × V)} {tv : V} {as : List V} {M : List (List Nat)} (t : TabIn K H tv as M) (hx : H x = some (.ins C d fs)) (b : But x H H') : TabIn K H' tv as M := ⟨t.sq.insb hx b, t.len, fun i v r h1 h2 => (t.rows i v r h1 h2).insb hx b⟩
def sp_Machine_init (K : PySem.W.Frag) : Sp := fun vs H Q _ => ∃ (x CM dx : Addr) (F : List Nat) (tv bv : V) (as : List V) (M : List (List Nat)) (B : List Nat), vs = [.ref x, .str (S F), tv, bv] ∧ H x = some (.ins CM dx []) ∧ Cls K CM ∧ NoAttr K CM "faces" ∧ NoAttr K CM "_table" ∧ NoAttr K CM "_bad" ∧
  bFaces (.str (S F)) = true ∧ F.length ≤ 1000 ∧ TabIn K H tv as M ∧ TabOk F.length M ∧ Sq K H bv (B.map nI) ∧ BadOk M.length B ∧ ∀ H' tt bt rs, Same H H' → KeptAt K H' tt bt rs M B → Q .non (upd H' x (.ins CM dx (machF F tt bt)))
theorem ok_Machine_init {f : Addr} {fd : FuncData} {ae : Addr} (F : FunD K "__init__" "Machine.__init__" (defArgs s_Machine_init) (defBody s_Machine_init) (defScope s_Machine_init) [.ref ae] [] f fd) (T : Z mg) (c_is_faces : Cal P w K mg base CX0 3 "is_faces" s_is_faces ["value"] (sp_is_faces K)) (c_check_table : Cal P w K mg base CX0 4 "check_table" s_check_table ["faces", "table"] (sp_check_table K))
    (c_check_bad : Cal P w K mg base CX0 3 "check_bad" s_check_bad ["size", "bad"] (sp_check_bad K)) : FnOk P w K mg base CX0 5 f fd ["self", "faces", "table", "bad"] (sp_Machine_init K) := by
  refine fund_ok0 F sc_Machine_init (fun vs H Q E h => ?_) (fun cdv A outer s H vs Q E hr h => ?_)
  · obtain ⟨x, CM, dx, F, tv, bv, as, M, B, rfl, _⟩ := h
    rfl
  obtain ⟨x, CM, dx, fs, tv, bv, as, M, B, rfl, hx, hC, nf, nt, nb, b1, l1, hT, hM, hS, hB, q⟩ := h
  refine ⟨_, (pss_cons (ps_if (pt_not (pt_val (pe_c c_is_faces hr (by decide) (by rfl) (pa_cons (pv 1) pa_nil)))) pss_never pss_nil)
    (pss_cons (ps_expr (pe_c c_check_table hr (by decide) (by rfl) (pa_cons (pv 1) (pa_cons (pv 2) pa_nil))))
    (pss_cons (ps_expr (pe_c c_check_bad hr (by decide) (by rfl) (pa_cons (pe_callB call_len_seq (by rfl) T.z_len (by decide +kernel) (pa_cons (pv 2) pa_nil)) (pa_cons (pv 3) pa_nil))))
    (pss_cons (ps_fld (pv 0) (pv 1) rfl)
    (pss_cons (ps_fld (pv 0) (pe_callTy call_tuple_of (by rfl) T.z_tuple (by decide +kernel) (pa_cons (pe_lc (own := [("row", 4)]) (g := (gName 4)) (by rfl) sc_Machine_init.nd (pi_seq (pv 2)) (blkOk_by (N := ["self", "faces", "table", "bad", "row"]) (sc := defScope s_Machine_init) (by decide +kernel)) (fun _ _ _ _ _ => (pg_name (i := 4) sc_Machine_init.nd rfl (.inl rfl))) (fun _ _ _ _ _ => pts_nil) (fun _ _ _ _ _ => (pe_callTy (call_tuple_ofE (K := K) rfl) (by rfl) T.z_tuple (by decide +kernel) (pa_cons (pv 4) pa_nil)))) pa_nil)) rfl)
    (pss_one (ps_fld (pv 0) (pe_callTy call_tuple_of (by rfl) T.z_tuple (by decide +kernel) (pa_cons (pv 3) pa_nil)) rfl))))))), ?_⟩
  refine ⟨_, rfl, .str (S fs), rfl, .inl ⟨rfl, (show fs.length ≤ 100000 by omega)⟩, fun H1 s1 => ⟨_, rfl, ?_⟩⟩
  rw [b1]
  refine iteF ?_
  have hT1 := hT.same s1
  refine ⟨_, rfl, _, rfl, tv, as, fs, M, rfl, hT1, hM, l1, fun H2 s2 => ?_⟩
  have hT2 := hT1.same s2
  have s02 := s1.trans s2
  obtain ⟨a, rfl, hor⟩ := hT2.sq.or
  have hM2 := hM.l2
  refine ⟨_, rfl, a, as, rfl, hor, _, rfl, bv, B, M.length, by rw [hT.len]; rfl, hS.same s02, hB, by omega, fun H3 s3 => ?_⟩
  have s03 := s02.trans s3
  have hT3 := hT2.same s3
  have hx3 := s03 _ _ hx
  -- the faces
  refine ⟨_, rfl, _, rfl, x, CM, dx, [], rfl, hx3, hC, nf, by decide, ?_⟩
  have ef : putF (Str.ofString "faces") (V.str (S fs)) ([] : List (Str × V)) = ([("faces", .str (S fs))] : List (Str × V)) := rfl
  rw [ef]
  have b34 : But x H3 (upd H3 x (.ins CM dx [("faces", .str (S fs))])) := fun c o n e => by
    rw [upd_ne n]
    exact e
  have hTB := hT3.insb hx3 b34
  have hSB : Sq K _ bv (B.map nI) := (hS.same s03).insb hx3 b34
  have hxB : (upd H3 x (.ins CM dx [("faces", .str (S fs))])) x = some (.ins CM dx [("faces", .str (S fs))]) := upd_same
  have bB : But x H (upd H3 x (.ins CM dx [("faces", .str (S fs))])) := fun c o n e => b34 _ _ n (s03 _ _ e)
  generalize upd H3 x (.ins CM dx [("faces", .str (S fs))]) = HB at hTB hSB hxB bB ⊢
  clear hT3 hx3 b34 s03 s3 hT2 hor s02 s2 hT1 s1
  have hT2 := hTB
  obtain ⟨a', ea, hor⟩ := hTB.sq.or
  obtain rfl : a = a' := V.ref.inj ea
  rcases hor with h | h
  · refine ⟨_, rfl, a, rfl, .inl ⟨⟨_, h⟩, fun D nD => ?_⟩⟩
    have nD0 : ∀ c u, HB c = some u → c ≠ D := fun c u e => ne_of_none e nD
    refine lc_it (walk_list (xs := as)) (fun j H' => ∃ rs : List V, H' D = some (.lst rs) ∧ rs.length = j ∧ (∀ (i : Nat) (v : V) (r : List Nat), rs[i]? = some v → M[i]? = some r → ∃ a, v = .ref a ∧ SqT K H' a (r.map nI)) ∧ But D HB H') ⟨[], upd_same, rfl, (fun i v r h => by cases h), (same_upd nD).but⟩ (fun j H' _ ⟨_, _, _, _, bt⟩ => seq_but nD0 bt h) ?_ ?_
    · rintro j v _ H' hj ⟨rs, hD, hlen, hrows, bt⟩ ⟨rfl, hx0⟩
      have hjM : j < M.length := by rw [← hT2.len]; exact hj
      have hMj : M[j]? = some M[j] := List.getElem?_eq_getElem hjM
      have sH : Same HB H' := fun c' o' e' => bt _ _ (ne_of_none e' nD) e'
      have hrow := (hTB.rows j v _ hx0 hMj).same sH
      generalize M[j] = r at hrow hMj
      have hM200 := hM.l2
      have done : ∀ (b : Addr) (H2' : Hp), Same H' H2' → SqT K H2' b (r.map nI) → ∃ acc, H2' D = some (.lst acc) ∧ acc.length < sizeLine ∧ ∃ rs', (upd H2' D (.lst (acc ++ [V.ref b]))) D = some (.lst rs') ∧ rs'.length = j + 1 ∧ (∀ (i : Nat) (v : V) (r : List Nat), rs'[i]? = some v → M[i]? = some r → ∃ a, v = .ref a ∧ SqT K (upd H2' D (.lst (acc ++ [V.ref b]))) a (r.map nI)) ∧ But D HB (upd H2' D (.lst (acc ++ [V.ref b]))) := fun b H2' s' hb => by
        have hD2 := s' _ _ hD
        refine ⟨rs, hD2, sz1 (by omega), rs ++ [V.ref b], upd_same, by rw [List.length_append, hlen]; rfl, fun i v' r' h1 h2 => ?_, fun c' o' n' e' => ?_⟩
        · have keepT : ∀ (a : Addr) (xs : List V), SqT K H2' a xs → SqT K (upd H2' D (.lst (rs ++ [V.ref b]))) a xs := fun a xs h => by
            rcases h with (h | ⟨o, h⟩) | h
            · exact .inl (.inl (by rw [upd_ne (fun z => by rw [z, hD2] at h; cases h)]; exact h))
            · exact .inl (.inr ⟨o, by rw [upd_ne (fun z => by rw [z, hD2] at h; cases h)]; exact h⟩)
            · exact .inr h
          by_cases hi : i < rs.length
          · rw [List.getElem?_append_left hi] at h1
            obtain ⟨a', e', h'⟩ := hrows i v' r' h1 h2
            exact ⟨a', e', keepT _ _ (s'.tup h')⟩
          · have hi2 : i < rs.length + 1 := by
              have := (List.getElem?_eq_some_iff.mp h1).1
              rwa [List.length_append] at this
            have hi3 : i = rs.length := by omega
            subst hi3
            rw [List.getElem?_append_right (Nat.le_refl _), Nat.sub_self] at h1
            cases h1
            rw [hlen, hMj] at h2
            cases h2
            exact ⟨b, rfl, keepT _ _ hb⟩
        · rw [upd_ne n']
          exact s' _ _ (bt _ _ n' e')
      rcases hrow with ⟨b, rfl, hb⟩ | ⟨b, rfl, hb⟩
      · refine ⟨rfl, ?_⟩
        refine ⟨_, rfl, b, _, rfl, .inl ⟨hb, fun t nt => ?_⟩⟩
        exact done t _ (same_upd nt) (SqT.of upd_same)
      · refine ⟨rfl, ?_⟩
        refine ⟨_, rfl, b, _, rfl, .inr ⟨hb, ?_⟩⟩
        exact done b _ (Same.refl _) hb
    · rintro H' ⟨rs, hD, hlen, hrows, bt⟩
      have hlen : rs.length = M.length := by rw [hlen, hTB.len]
      have s3' : Same HB H' := fun c o e => bt _ _ (ne_of_none e nD) e
      refine ⟨D, rs, rfl, .inl ⟨SqL.of hD, fun tt ntt => ?_⟩⟩
      have s4 := same_upd (o := HO.tup rs) ntt
      have htt : (upd H' tt (.tup rs)) tt = some (.tup rs) := upd_same
      have hrows4 : ∀ (i : Nat) (v : V) (r : List Nat), rs[i]? = some v → M[i]? = some r → ∃ a, v = .ref a ∧ SqT K (upd H' tt (.tup rs)) a (r.map nI) := fun i v r h1 h2 => let ⟨a, e, h⟩ := hrows i v r h1 h2; ⟨a, e, s4.tup h⟩
      generalize upd H' tt (.tup rs) = H4 at s4 htt hrows4 ⊢
      have s34 := s3'.trans s4
      have hx4 := s34 _ _ hxB
      refine ⟨_, rfl, x, CM, dx, _, rfl, hx4, hC, nt, (show 1 < 1000 by decide), ?_⟩
      have ef2 : putF (Str.ofString "_table") (V.ref tt) ([("faces", .str (S fs))] : List (Str × V)) = ([("faces", .str (S fs)), ("_table", .ref tt)] : List (Str × V)) := rfl
      rw [ef2]
      have b45 : But x H4 (upd H4 x (.ins CM dx [("faces", .str (S fs)), ("_table", .ref tt)])) := fun c o n e => by
        rw [upd_ne n]
        exact e
      have hx5 : (upd H4 x (.ins CM dx [("faces", .str (S fs)), ("_table", .ref tt)])) x = some (.ins CM dx [("faces", .str (S fs)), ("_table", .ref tt)]) := upd_same
      have hS5 := (hSB.same s34).insb hx4 b45
      have htt5 : (upd H4 x (.ins CM dx [("faces", .str (S fs)), ("_table", .ref tt)])) tt = some (.tup rs) := b45 _ _ (fun z => by rw [z, hx4] at htt; cases htt) htt
      have hrows5 : ∀ (i : Nat) (v : V) (r : List Nat), rs[i]? = some v → M[i]? = some r → ∃ a, v = .ref a ∧ SqT K (upd H4 x (.ins CM dx [("faces", .str (S fs)), ("_table", .ref tt)])) a (r.map nI) := fun i v r h1 h2 => let ⟨a, e, h⟩ := hrows4 i v r h1 h2; ⟨a, e, sqT_insb hx4 b45 h⟩
      have b05 : But x H (upd H4 x (.ins CM dx [("faces", .str (S fs)), ("_table", .ref tt)])) := fun c o n e => b45 _ _ n (s34 _ _ (bB _ _ n e))
      generalize upd H4 x (.ins CM dx [("faces", .str (S fs)), ("_table", .ref tt)]) = H5 at hx5 hS5 htt5 hrows5 b05 ⊢
      have last : ∀ (bt : Addr) (H6 : Hp), Same H5 H6 → SqT K H6 bt (B.map nI) → Q .non (upd H6 x (.ins CM dx (putF "_bad" (.ref bt) [("faces", .str (S fs)), ("_table", .ref tt)]))) := fun bt H6 s6 hbt => by
        have hx6 := s6 _ _ hx5
        have e : upd H6 x (.ins CM dx (putF "_bad" (.ref bt) [("faces", .str (S fs)), ("_table", .ref tt)])) = upd (upd H6 x (.ins CM dx [])) x (.ins CM dx (machF fs tt bt)) := by
          rw [upd_upd]
          rfl
        rw [e]
        have b67 : But x H6 (upd H6 x (.ins CM dx [])) := fun c o n e => by
          rw [upd_ne n]
          exact e
        refine q _ tt bt rs (fun c o e => ?_) ⟨b67 _ _ (fun z => by rw [z, hx5] at htt5; cases htt5) (s6 _ _ htt5), hlen, fun i v r h1 h2 => let ⟨a, e, h⟩ := hrows5 i v r h1 h2; ⟨a, e, sqT_insb hx6 b67 (s6.tup h)⟩, sqT_insb hx6 b67 hbt⟩
        by_cases hc : c = x
        · rw [hc, upd_same]
          rw [hc, hx] at e
          exact e
        · exact b67 _ _ hc (s6 _ _ (b05 _ _ hc e))
      rcases hS5 with ⟨b, rfl, hb⟩ | ⟨b, rfl, hb⟩
      · refine ⟨_, rfl, b, _, rfl, .inl ⟨hb, fun t nt' => ?_⟩⟩
        exact ⟨_, rfl, x, CM, dx, _, rfl, (same_upd nt') _ _ hx5, hC, nb, (show 2 < 1000 by decide), last t _ (same_upd nt') (SqT.of upd_same)⟩
      · refine ⟨_, rfl, b, _, rfl, .inr ⟨hb, ?_⟩⟩
        exact ⟨_, rfl, x, CM, dx, _, rfl, hx5, hC, nb, (show 2 < 1000 by decide), last b _ (Same.refl _) hb⟩
  · refine ⟨_, rfl, a, rfl, .inr ⟨⟨_, h⟩, fun D nD => ?_⟩⟩
    have nD0 : ∀ c u, HB c = some u → c ≠ D := fun c u e => ne_of_none e nD
    refine lc_it (walk_tup (xs := as)) (fun j H' => ∃ rs : List V, H' D = some (.lst rs) ∧ rs.length = j ∧ (∀ (i : Nat) (v : V) (r : List Nat), rs[i]? = some v → M[i]? = some r → ∃ a, v = .ref a ∧ SqT K H' a (r.map nI)) ∧ But D HB H') ⟨[], upd_same, rfl, (fun i v r h => by cases h), (same_upd nD).but⟩ (fun j H' _ ⟨_, _, _, _, bt⟩ => tup_but nD0 bt h) ?_ ?_
    · rintro j v _ H' hj ⟨rs, hD, hlen, hrows, bt⟩ ⟨rfl, hx0⟩
      have hjM : j < M.length := by rw [← hT2.len]; exact hj
      have hMj : M[j]? = some M[j] := List.getElem?_eq_getElem hjM
      have sH : Same HB H' := fun c' o' e' => bt _ _ (ne_of_none e' nD) e'
      have hrow := (hTB.rows j v _ hx0 hMj).same sH
      generalize M[j] = r at hrow hMj
      have hM200 := hM.l2
      have done : ∀ (b : Addr) (H2' : Hp), Same H' H2' → SqT K H2' b (r.map nI) → ∃ acc, H2' D = some (.lst acc) ∧ acc.length < sizeLine ∧ ∃ rs', (upd H2' D (.lst (acc ++ [V.ref b]))) D = some (.lst rs') ∧ rs'.length = j + 1 ∧ (∀ (i : Nat) (v : V) (r : List Nat), rs'[i]? = some v → M[i]? = some r → ∃ a, v = .ref a ∧ SqT K (upd H2' D (.lst (acc ++ [V.ref b]))) a (r.map nI)) ∧ But D HB (upd H2' D (.lst (acc ++ [V.ref b]))) := fun b H2' s' hb => by
        have hD2 := s' _ _ hD
        refine ⟨rs, hD2, sz1 (by omega), rs ++ [V.ref b], upd_same, by rw [List.length_append, hlen]; rfl, fun i v' r' h1 h2 => ?_, fun c' o' n' e' => ?_⟩
        · have keepT : ∀ (a : Addr) (xs : List V), SqT K H2' a xs → SqT K (upd H2' D (.lst (rs ++ [V.ref b]))) a xs := fun a xs h => by
            rcases h with (h | ⟨o, h⟩) | h
            · exact .inl (.inl (by rw [upd_ne (fun z => by rw [z, hD2] at h; cases h)]; exact h))
            · exact .inl (.inr ⟨o, by rw [upd_ne (fun z => by rw [z, hD2] at h; cases h)]; exact h⟩)
            · exact .inr h
          by_cases hi : i < rs.length
          · rw [List.getElem?_append_left hi] at h1
            obtain ⟨a', e', h'⟩ := hrows i v' r' h1 h2
            exact ⟨a', e', keepT _ _ (s'.tup h')⟩
          · have hi2 : i < rs.length + 1 := by
              have := (List.getElem?_eq_some_iff.mp h1).1
              rwa [List.length_append] at this
            have hi3 : i = rs.length := by omega
            subst hi3
            rw [List.getElem?_append_right (Nat.le_refl _), Nat.sub_self] at h1
            cases h1
            rw [hlen, hMj] at h2
            cases h2
            exact ⟨b, rfl, keepT _ _ hb⟩
        · rw [upd_ne n']
          exact s' _ _ (bt _ _ n' e')
      rcases hrow with ⟨b, rfl, hb⟩ | ⟨b, rfl, hb⟩
      · refine ⟨rfl, ?_⟩
        refine ⟨_, rfl, b, _, rfl, .inl ⟨hb, fun t nt => ?_⟩⟩
        exact done t _ (same_upd nt) (SqT.of upd_same)
      · refine ⟨rfl, ?_⟩
        refine ⟨_, rfl, b, _, rfl, .inr ⟨hb, ?_⟩⟩
        exact done b _ (Same.refl _) hb
    · rintro H' ⟨rs, hD, hlen, hrows, bt⟩
      have hlen : rs.length = M.length := by rw [hlen, hTB.len]
      have s3' : Same HB H' := fun c o e => bt _ _ (ne_of_none e nD) e
      refine ⟨D, rs, rfl, .inl ⟨SqL.of hD, fun tt ntt => ?_⟩⟩
      have s4 := same_upd (o := HO.tup rs) ntt
      have htt : (upd H' tt (.tup rs)) tt = some (.tup rs) := upd_same
      have hrows4 : ∀ (i : Nat) (v : V) (r : List Nat), rs[i]? = some v → M[i]? = some r → ∃ a, v = .ref a ∧ SqT K (upd H' tt (.tup rs)) a (r.map nI) := fun i v r h1 h2 => let ⟨a, e, h⟩ := hrows i v r h1 h2; ⟨a, e, s4.tup h⟩
      generalize upd H' tt (.tup rs) = H4 at s4 htt hrows4 ⊢
      have s34 := s3'.trans s4
      have hx4 := s34 _ _ hxB
      refine ⟨_, rfl, x, CM, dx, _, rfl, hx4, hC, nt, (show 1 < 1000 by decide), ?_⟩
      have ef2 : putF (Str.ofString "_table") (V.ref tt) ([("faces", .str (S fs))] : List (Str × V)) = ([("faces", .str (S fs)), ("_table", .ref tt)] : List (Str × V)) := rfl
      rw [ef2]
      have b45 : But x H4 (upd H4 x (.ins CM dx [("faces", .str (S fs)), ("_table", .ref tt)])) := fun c o n e => by
        rw [upd_ne n]
        exact e
      have hx5 : (upd H4 x (.ins CM dx [("faces", .str (S fs)), ("_table", .ref tt)])) x = some (.ins CM dx [("faces", .str (S fs)), ("_table", .ref tt)]) := upd_same
      have hS5 := (hSB.same s34).insb hx4 b45
      have htt5 : (upd H4 x (.ins CM dx [("faces", .str (S fs)), ("_table", .ref tt)])) tt = some (.tup rs) := b45 _ _ (fun z => by rw [z, hx4] at htt; cases htt) htt
      have hrows5 : ∀ (i : Nat) (v : V) (r : List Nat), rs[i]? = some v → M[i]? = some r → ∃ a, v = .ref a ∧ SqT K (upd H4 x (.ins CM dx [("faces", .str (S fs)), ("_table", .ref tt)])) a (r.map nI) := fun i v r h1 h2 => let ⟨a, e, h⟩ := hrows4 i v r h1 h2; ⟨a, e, sqT_insb hx4 b45 h⟩
      have b05 : But x H (upd H4 x (.ins CM dx [("faces", .str (S fs)), ("_table", .ref tt)])) := fun c o n e => b45 _ _ n (s34 _ _ (bB _ _ n e))
      generalize upd H4 x (.ins CM dx [("faces", .str (S fs)), ("_table", .ref tt)]) = H5 at hx5 hS5 htt5 hrows5 b05 ⊢
      have last : ∀ (bt : Addr) (H6 : Hp), Same H5 H6 → SqT K H6 bt (B.map nI) → Q .non (upd H6 x (.ins CM dx (putF "_bad" (.ref bt) [("faces", .str (S fs)), ("_table", .ref tt)]))) := fun bt H6 s6 hbt => by
        have hx6 := s6 _ _ hx5
        have e : upd H6 x (.ins CM dx (putF "_bad" (.ref bt) [("faces", .str (S fs)), ("_table", .ref tt)])) = upd (upd H6 x (.ins CM dx [])) x (.ins CM dx (machF fs tt bt)) := by
          rw [upd_upd]
          rfl
        rw [e]
        have b67 : But x H6 (upd H6 x (.ins CM dx [])) := fun c o n e => by
          rw [upd_ne n]
          exact e
        refine q _ tt bt rs (fun c o e => ?_) ⟨b67 _ _ (fun z => by rw [z, hx5] at htt5; cases htt5) (s6 _ _ htt5), hlen, fun i v r h1 h2 => let ⟨a, e, h⟩ := hrows5 i v r h1 h2; ⟨a, e, sqT_insb hx6 b67 (s6.tup h)⟩, sqT_insb hx6 b67 hbt⟩
        by_cases hc : c = x
        · rw [hc, upd_same]
          rw [hc, hx] at e
          exact e
        · exact b67 _ _ hc (s6 _ _ (b05 _ _ hc e))
      rcases hS5 with ⟨b, rfl, hb⟩ | ⟨b, rfl, hb⟩
      · refine ⟨_, rfl, b, _, rfl, .inl ⟨hb, fun t nt' => ?_⟩⟩
        exact ⟨_, rfl, x, CM, dx, _, rfl, (same_upd nt') _ _ hx5, hC, nb, (show 2 < 1000 by decide), last t _ (same_upd nt') (SqT.of upd_same)⟩
      · refine ⟨_, rfl, b, _, rfl, .inr ⟨hb, ?_⟩⟩
        exact ⟨_, rfl, x, CM, dx, _, rfl, hx5, hC, nb, (show 2 < 1000 by decide), last b _ (Same.refl _) hb⟩
end
end FW
namespace FW
open PySem PySem.Spec PyProof.Rows L2
/-! ### methods and static methods by their names -/
structure MCal (P : Program) (w : World) (K : PySem.W.Frag) (mg : Str → Option Value) (base : Heap) (CX : CXT) (C : Addr) (k : Nat) (m : Str) (ps : List Str) (sp : Sp) : Prop where
  ex : ∃ (f : Addr) (fd : FuncData), Meth K C m f ∧ FnOk P w K mg base CX k f fd ps sp ∧ L2.Binds K fd ps []
structure SCal (P : Program) (w : World) (K : PySem.W.Frag) (mg : Str → Option Value) (base : Heap) (CX : CXT) (x : Str) (C : Addr) (k : Nat) (m : Str) (st : Stmt) (ps : List Str) (sp : Sp) : Prop where
  g : mg x = some (.ref C)
  ex : ∃ (f : Addr) (fd : FuncData) (q : Str), Sta K C m f ∧ FnOk P w K mg base CX k f fd ps sp ∧ L2.Binds K fd ps [] ∧ Fun K m q st f fd
section
variable {X : Cx} {k j : Nat} {C : Addr} {x m : Str} {st : Stmt} {ps ks : List Str} {sp : Sp} {o e : Expr} {es : List Expr} {kws : List Keyword} {apos pos p1 : Pos} {ta : TE} {t tk : TA} {CX : CXT} {E : XK} {g : List Value → List Value → List Value} {gV : List V → List V → List V}
theorem pe_mx {pl : Sem Bool} (c : MCal X.prog X.w X.K X.mg X.base CX C k m ps sp) (hC : Cls X.K C) (hr : Room j X.A) (hk : k ≤ j) (hx : Passes CX X E) (he : PE X o ta) (ha : PA X (e :: es) t)
    (hst : starEach (e :: es) X.env = (false, eval e X.env) :: starEach es X.env := by rfl) (hpl : (backTo pos (starEach es X.env)).any (·.1) = false := by rfl)
    (ht : eval (.Call (.Attribute o m apos) (e :: es) [] pos) X.env = (do
      let ov ← eval o X.env
      standAt apos.atName
      let (f, first) ← holding [ov] (getMethod ov m pl)
      callWith pos f first (backTo pos (starEach (e :: es) X.env)) (backToKw pos (keywordEach [] X.env))) := by rfl) :
    PE X (.Call (.Attribute o m apos) (e :: es) [] pos) (tMeth C m sp [] E ta t) := by
  obtain ⟨f, fd, M, F, b⟩ := c.ex
  exact pe_meth he hC M F (hr.mono hk) b .nil hx ha hst hpl ht
theorem pe_mx0 {pl : Sem Bool} (c : MCal X.prog X.w X.K X.mg X.base CX C k m ps sp) (hC : Cls X.K C) (hr : Room j X.A) (hk : k ≤ j) (hx : Passes CX X E) (he : PE X o ta)
    (ht : eval (.Call (.Attribute o m apos) [] [] pos) X.env = (do
      let ov ← eval o X.env
      standAt apos.atName
      let (f, first) ← holding [ov] (getMethod ov m pl)
      callWith pos f first (backTo pos (starEach [] X.env)) (backToKw pos (keywordEach [] X.env))) := by rfl) :
    PE X (.Call (.Attribute o m apos) [] [] pos) (tMeth C m sp [] E ta tNil) := by
  obtain ⟨f, fd, M, F, b⟩ := c.ex
  exact pe_meth0 he hC M F (hr.mono hk) b .nil hx ht
theorem pe_m {pl : Sem Bool} (c : MCal X.prog X.w X.K X.mg X.base CX0 C k m ps sp) (hC : Cls X.K C) (hr : Room j X.A) (hk : k ≤ j) (he : PE X o ta) (ha : PA X (e :: es) t)
    (hst : starEach (e :: es) X.env = (false, eval e X.env) :: starEach es X.env := by rfl) (hpl : (backTo pos (starEach es X.env)).any (·.1) = false := by rfl)
    (ht : eval (.Call (.Attribute o m apos) (e :: es) [] pos) X.env = (do
      let ov ← eval o X.env
      standAt apos.atName
      let (f, first) ← holding [ov] (getMethod ov m pl)
      callWith pos f first (backTo pos (starEach (e :: es) X.env)) (backToKw pos (keywordEach [] X.env))) := by rfl) :
    PE X (.Call (.Attribute o m apos) (e :: es) [] pos) (tMeth C m sp [] E0 ta t) := pe_mx c hC hr hk pass0 he ha hst hpl ht
theorem pe_m0 {pl : Sem Bool} (c : MCal X.prog X.w X.K X.mg X.base CX0 C k m ps sp) (hC : Cls X.K C) (hr : Room j X.A) (hk : k ≤ j) (he : PE X o ta)
    (ht : eval (.Call (.Attribute o m apos) [] [] pos) X.env = (do
      let ov ← eval o X.env
      standAt apos.atName
      let (f, first) ← holding [ov] (getMethod ov m pl)
      callWith pos f first (backTo pos (starEach [] X.env)) (backToKw pos (keywordEach [] X.env))) := by rfl) :
    PE X (.Call (.Attribute o m apos) [] [] pos) (tMeth C m sp [] E0 ta tNil) := pe_mx0 c hC hr hk pass0 he ht
theorem pe_s {pl : Sem Bool} (c : SCal X.prog X.w X.K X.mg X.base CX0 x C k m st ps sp) (hr : Room j X.A) (hk : k ≤ j) (hg : Gl X x) (ha : PA X (e :: es) t)
    (hdb : (x == ("__debug__" : Str)) = false := by decide)
    (hc : eval (.Call (.Attribute (.Name x p1) m apos) (e :: es) [] pos) X.env = (do
      let oc ← eval (.Name x p1) X.env
      standAt apos.atName
      let (fc, fst) ← holding [oc] (getMethod oc m pl)
      callWith pos fc fst (backTo pos (starEach (e :: es) X.env)) (backToKw pos (keywordEach [] X.env))) := by rfl)
    (he : starEach (e :: es) X.env = (false, eval e X.env) :: starEach es X.env := by rfl) (hpl : (backTo pos (starEach es X.env)).any (·.1) = false := by rfl) :
    PE X (.Call (.Attribute (.Name x p1) m apos) (e :: es) [] pos) (tCall sp [] E0 t) := by
  obtain ⟨f, fd, q, S, F, b, _⟩ := c.ex
  exact pe_static hg c.g S F (hr.mono hk) b .nil pass0 ha hdb hc he hpl
theorem pe_sk0 {pl : Sem Bool} (c : SCal X.prog X.w X.K X.mg X.base CX0 x C k m st ps sp) (hb : ∀ f fd q, Fun X.K m q st f fd → KBinds X.K fd ps ks g gV) (hr : Room j X.A) (hk : k ≤ j) (hg : Gl X x) (hkw : PK X kws tk)
    (hall : (backToKw pos (keywordEach kws X.env)).all (·.1.isSome) = true := by rfl) (hks : (backToKw pos (keywordEach kws X.env)).filterMap (·.1) = ks := by rfl)
    (hdb : (x == ("__debug__" : Str)) = false := by decide)
    (hc : eval (.Call (.Attribute (.Name x p1) m apos) [] kws pos) X.env = (do
      let oc ← eval (.Name x p1) X.env
      standAt apos.atName
      let (fc, fst) ← holding [oc] (getMethod oc m pl)
      callWith pos fc fst (backTo pos (starEach [] X.env)) (backToKw pos (keywordEach kws X.env))) := by rfl)
    (hpl : ((backTo pos (starEach [] X.env)).any (·.1) || (backToKw pos (keywordEach kws X.env)).any (·.1.isNone)) = false := by rfl) :
    PE X (.Call (.Attribute (.Name x p1) m apos) [] kws pos) (tCallK sp gV E0 tNil tk) := by
  obtain ⟨f, fd, q, S, F, b, fn⟩ := c.ex
  exact pe_staticK0 hg c.g S F (hr.mono hk) (hb f fd q fn) pass0 hkw hall hks hdb hc hpl
theorem kbs_one {K : PySem.W.Frag} {x p1 : Str} {st : Stmt}
    (h : ∀ (q : Str) (kV doc pm : Value) (an : Option Addr) (cdv ct : Value) (u : Value), bindArgs (PySem.W.fnOf x q (defArgs st) (defBody st) (defScope st) .none kV doc pm an cdv ct) ⟨[], [(p1, u)]⟩ = pure [(p1, u)]) :
    ∀ f fd q, Fun K x q st f fd → KBinds K fd [p1] [p1] one1 one1 := by
  intro f fd q F
  obtain ⟨oc, od, kV, doc, pm, an, cdv, ct, osl, rfl, lk, hcd⟩ := F.ex
  refine ⟨fun s us ws _ hl => ?_, fun r q => one1_vals r q⟩
  match us, ws, hl with
  | [], [u], _ => exact .of_eq (h q kV doc pm an cdv ct u)
  | [], [], hl => exact absurd (show 0 = 1 from hl) (by decide)
  | [], _ :: _ :: _, hl => exact absurd (show 0 = 1 from hl) (by decide)
  | _ :: _, ws, hl => exact absurd (show 0 = 1 from hl) (by decide)
structure OwnE (P : Program) (w : World) (K : PySem.W.Frag) (mg : Str → Option Value) (base : Heap) (C : Addr) (k : Nat) (sp : Sp) : Prop where
  ex : ∃ f : Addr, PySem.W.findIn K (.ref C) "__eq__" = some (some (.ref f)) ∧ PySem.W.isFn K (.ref f) = true ∧ FnR P w K mg base CX0 k f sp
  ne : PySem.W.findIn K (.ref C) "__ne__" = some (some (.builtin "object.__ne__"))
  ob : PySem.W.mroIn K C (.type "object") = some true
  nf : PySem.W.notFirst K C (.ref C) = true
theorem op_eqO (o : OwnE X.prog X.w X.K X.mg X.base C k sp) (hr : Room j X.A) (hk : k ≤ j) : OpR X (compareOp .Eq) (rOwnI X.K C sp E0 false) := by
  obtain ⟨f, h1, h2, F⟩ := o.ex
  exact op_eqI h1 h2 F (hr.mono hk) pass0
theorem op_neO (o : OwnE X.prog X.w X.K X.mg X.base C k sp) (hr : Room j X.A) (hk : k + 1 ≤ j) : OpR X (compareOp .NotEq) (rOwnI X.K C sp E0 true) := by
  obtain ⟨f, h1, h2, F⟩ := o.ex
  exact op_neI h1 h2 o.ne o.ob F (hr.mono hk) pass0
end
end FW
namespace FW
open PySem PySem.Spec PyProof.Rows L2
/-! ### sorted: pairs of texts -/
abbrev cl (x : Str) : List Nat := x.cps.toList
def lexS (p q : Str × Str) : Bool := if p.1 = q.1 then decide (cl p.2 < cl q.2) else decide (cl p.1 < cl q.1)
theorem cl_inj {x y : Str} (h : cl x = cl y) : x = y := by
  obtain ⟨⟨a⟩⟩ := x
  obtain ⟨⟨b⟩⟩ := y
  have : a = b := h
  rw [this]
theorem lexS_iff {p q : Str × Str} : lexS p q = true ↔ cl p.1 < cl q.1 ∨ (cl p.1 = cl q.1 ∧ cl p.2 < cl q.2) := by
  unfold lexS
  by_cases e : p.1 = q.1
  · rw [if_pos e, decide_eq_true_eq, e]
    exact ⟨fun h => .inr ⟨rfl, h⟩, fun h => h.elim (fun z => absurd z (List.lt_irrefl _)) (·.2)⟩
  · rw [if_neg e, decide_eq_true_eq]
    exact ⟨.inl, fun h => h.elim id fun z => absurd (cl_inj z.1) e⟩
theorem lexS_no {p q : Str × Str} : lexS p q = false ↔ ¬ (cl p.1 < cl q.1 ∨ (cl p.1 = cl q.1 ∧ cl p.2 < cl q.2)) := by
  rw [← lexS_iff]
  cases lexS p q <;> simp
theorem lt_or {a b : List Nat} (h : ¬ a < b) : b < a ∨ a = b := by
  by_cases e : a = b
  · exact .inr e
  · refine .inl ?_
    have h1 : b ≤ a := h
    rcases Classical.em (b < a) with z | z
    · exact z
    · exact absurd (List.le_antisymm (show a ≤ b from z) h1) e
theorem swo_S {α : Type} (k : α → Str × Str) : SrtO.Swo fun v u => lexS (k v) (k u) := by
  refine ⟨fun x y h => ?_, fun x y z h1 h2 => ?_⟩
  · have a := lexS_iff.mp h
    refine lexS_no.mpr fun b => ?_
    rcases a with a | ⟨e, a⟩
    · rcases b with b | ⟨e, b⟩
      · exact List.lt_irrefl _ (List.lt_trans a b)
      · rw [e] at a
        exact List.lt_irrefl _ a
    · rcases b with b | ⟨_, b⟩
      · rw [e] at b
        exact List.lt_irrefl _ b
      · exact List.lt_irrefl _ (List.lt_trans a b)
  · have a := lexS_no.mp h1
    have b := lexS_no.mp h2
    refine lexS_no.mpr fun c => ?_
    simp only [not_or, not_and] at a b
    rcases c with c | ⟨e, c⟩
    · rcases lt_or a.1 with a1 | a1
      · rcases lt_or b.1 with b1 | b1
        · exact List.lt_irrefl _ (List.lt_trans (List.lt_trans c a1) b1)
        · have c2 := List.lt_trans c a1
          rw [b1] at c2
          exact List.lt_irrefl _ c2
      · rw [← a1] at c
        exact b.1 c
    · rcases lt_or a.1 with a1 | a1
      · rcases lt_or b.1 with b1 | b1
        · rw [e] at b1
          exact List.lt_irrefl _ (List.lt_trans a1 b1)
        · rw [← b1, e] at a1
          exact List.lt_irrefl _ a1
      · have b0 : cl (k z).1 = cl (k y).1 := e.trans a1.symm
        rcases lt_or (a.2 a1) with a2 | a2
        · rcases lt_or (b.2 b0) with b2 | b2
          · exact List.lt_irrefl _ (List.lt_trans (List.lt_trans c a2) b2)
          · rw [b2] at c
            exact List.lt_irrefl _ (List.lt_trans a2 c)
        · rw [← a2] at c
          exact b.2 b0 c
def IsPairS (h : Heap) (v : Value) (x y : Str) : Prop := ∃ a o t u n, v = .ref a ∧ h.get? a = some o ∧ o.cls = .type "tuple" ∧ o.data = .seq #[.str x t, .str y u] n
theorem IsPairS.keeps {h h' : Heap} {v : Value} {x y : Str} (p : IsPairS h v x y) (k : ∀ b o, h.get? b = some o → o.cls = .type "tuple" → h'.get? b = some o) : IsPairS h' v x y := by
  obtain ⟨a, o, t, u, n, e, ho, hc, hd⟩ := p
  exact ⟨a, o, t, u, n, e, k _ _ ho hc, hc, hd⟩
theorem firsts_S {h : Heap} : ∀ {vs : List Value}, (∀ v ∈ vs, ∃ x y, IsPairS h v x y) → ∃ fs : List Value, PySem.W.KatTups h vs fs ∧ fs.length = vs.length ∧ ∀ f ∈ fs, ∃ x t, f = Value.str x t
  | [], _ => ⟨[], PySem.W.KatTups.nil, rfl, fun _ hm => by simp at hm⟩
  | v :: vs, x => by
    obtain ⟨fs, k, hl, hi⟩ := firsts_S (vs := vs) fun u hu => x u (List.mem_cons_of_mem _ hu)
    obtain ⟨z, y, a, o, t, u, n, rfl, ho, hc, hd⟩ := x v (List.mem_cons_self ..)
    refine ⟨.str z t :: fs, PySem.W.KatTups.cons ho hc hd rfl k, by rw [List.length_cons, List.length_cons, hl], fun f hf => ?_⟩
    rcases List.mem_cons.mp hf with rfl | hf
    · exact ⟨z, t, rfl⟩
    · exact hi f hf
section
variable {prog : Program} {w : World} {A : Around} {E : Value → Shared → Prop} {s : Shared}
open SrtO
theorem pair_cmpS {vs : List Value} {k : Value → Str × Str} (hp : ∀ v ∈ vs, IsPairS s.heap v (k v).1 (k v).2) : Cmp prog w A s (tuples' true) (fun p => p.1 ∈ vs) (lt2 fun v u => lexS (k v) (k u)) := by
  intro p q hm hm'
  have h1 := hp _ hm
  have h2 := hp _ hm'
  show wpAny (model prog w) A (keyLt' (tuples' true) p.1 q.1) (fun r s' => s' = s ∧ r = lexS (k p.1) (k q.1)) (fun _ _ => False) s
  unfold lexS
  generalize (k p.1).1 = x at h1 ⊢
  generalize (k p.1).2 = y at h1 ⊢
  generalize (k q.1).1 = x' at h2 ⊢
  generalize (k q.1).2 = y' at h2 ⊢
  obtain ⟨a, o, t, u, n, e, ho, hc, hd⟩ := h1
  obtain ⟨a', o', t', u', n', e', ho', hc', hd'⟩ := h2
  rw [e, e']
  refine PySem.W.kat_lt ho hd ho' hd' ?_
  show PySem.W.KatLex prog w A true (decide (2 < 2)) _ [(.str x t, .str x' t'), (.str y u, .str y' u')] 0 s
  refine PySem.W.kat_cons (SeqAt.EqAt.str_str x t x' t' prog w _ _ ?_)
  refine PySem.W.kat_go (fun e1 => ?_) (fun e1 => ?_)
  · have ex : x = x' := by simpa using e1
    refine PySem.W.kat_yes (PySem.W.kat_cons (SeqAt.EqAt.str_str y u y' u' prog w _ _ ?_))
    refine PySem.W.kat_go (fun e2 => ?_) (fun e2 => ?_)
    · have ey : y = y' := by simpa using e2
      have e3 : (if x = x' then decide (cl y < cl y') else decide (cl x < cl x')) = false := by
        rw [if_pos ex, ey]
        exact decide_eq_false (List.lt_irrefl _)
      exact PySem.W.kat_yes (PySem.W.kat_nil ⟨rfl, e3.symm⟩)
    · have e3 : (if x = x' then decide (cl y < cl y') else decide (cl x < cl x')) = decide (cl y < cl y') := if_pos ex
      exact PySem.W.kat_no (PyProof.Rows.oneLt_any_str ⟨rfl, e3.symm⟩)
  · have ex : ¬ x = x' := by simpa using e1
    have e3 : (if x = x' then decide (cl y < cl y') else decide (cl x < cl x')) = decide (cl x < cl x') := if_neg ex
    exact PySem.W.kat_no (PyProof.Rows.oneLt_any_str ⟨rfl, e3.symm⟩)
theorem pairs_sortableS {a : Addr} {vs : List Value} {k : Value → Str × Str} (h0 : 0 < vs.length) (hp : ∀ v ∈ vs, IsPairS s.heap v (k v).1 (k v).2) (ha : ∀ o, s.heap.get? a = some o → o.cls ≠ .type "tuple") : SortableO prog w A s a vs fun v u => lexS (k v) (k u) := by
  intro h' keep
  have hp' : ∀ v ∈ vs, IsPairS h' v (k v).1 (k v).2 := fun v hm => (hp v hm).keeps fun b o e c => keep b o (fun z => by subst z; exact ha o e c) e
  obtain ⟨fs, h1, h2, h3⟩ := firsts_S fun v hm => ⟨_, _, hp' v hm⟩
  refine ⟨tuples' true, fun Q E hq => ?_, pair_cmpS hp'⟩
  refine PySem.W.kat_kind (T := .type "str") h1 (by omega) (fun f hm => ?_) (by rfl) ?_
  · obtain ⟨x, t, rfl⟩ := h3 f hm
    exact PySem.W.Looks.now
  · have e : (Value.type "str" != Value.type "tuple") = true := by first | decide +kernel | rfl | decide
    rw [e]
    exact hq
theorem sorted_pairsS {l : Addr} {vs : List Value} {k : Value → Str × Str} {Q : Value → Shared → Prop} (hl : s.heap.IsList l vs.toArray) (hz : vs.length ≤ sizeLine) (hp : ∀ v ∈ vs, IsPairS s.heap v (k v).1 (k v).2)
    (h : ∀ (h' : Heap) (d : Addr) (out : List Value), Srtd (fun v u => lexS (k v) (k u)) out → Stb (fun v u => lexS (k v) (k u)) out vs → (∀ b o, s.heap.get? b = some o → h'.get? b = some o) → s.heap.objs.size ≤ d → (∃ n, h'.get? d = some (seqObj "list" out.toArray n)) → Q (.ref d) { s with heap := h' }) :
    wpAny (model prog w) A (call (.builtin "sorted") [.ref l]) Q E s := by
  refine sorted_ord (swo_S k) hl hz (fun h2 h₁ a ha kk => ?_) fun out hs hb => ?_
  · refine pairs_sortableS (s := { s with heap := h₁ }) (by omega) (fun v hm => (hp v hm).keeps fun b o e _ => (kk b o e).2) fun o e => ?_
    have e' : some o = some (seqObj "list" vs.toArray 0) := e.symm.trans ha
    cases e'
    intro c
    exact absurd (Value.type.inj c) (by decide)
  · exact h _ _ out hs hb (fun b o e => sortedAll_old e) (Nat.le_succ _) (sortedAll_at s.heap vs out.toArray)
end
/-- sorted(xs), xs a list of pairs of texts (k says which) -/
def rSortedSS (K : PySem.W.Frag) : List V → Hp → VK → Prop := fun vs H Q => ∃ (a : Addr) (xs : List V) (k : V → Str × Str), vs = [V.ref a] ∧ SqL K H a xs ∧ (∀ x ∈ xs, ∃ t, x = V.ref t ∧ H t = some (.tup [.str (k x).1, .str (k x).2])) ∧
  ∀ ys p, ys.Pairwise (fun x y => lexS (k y) (k x) = false) → ys.Perm xs → H p = none → Q (.ref p) (upd H p (.lst ys))
section
variable {X : Cx}
theorem cr_sortedSS : CallR X (.builtin "sorted") (rSortedSS X.K) := by
  intro pins s σ H vs us Q I r h
  obtain ⟨a, xs, k, rfl, hs, hx, q⟩ := h
  obtain ⟨its, rv, hl, hz⟩ := I.list hs
  obtain ⟨u, rfl, ru⟩ := vals1 r
  obtain rfl : u = Value.ref a := ru
  obtain ⟨e1, e2⟩ := refs_back rv fun x m => by
    obtain ⟨t, e, _⟩ := hx x m
    exact ⟨t, e⟩
  refine sorted_pairsS (k := fun u => k (backV u)) hl.isList (by rw [← rv.length]; exact hz) (fun v hv => ?_) fun h' d out h1 h2 kp hd hn => ?_
  · obtain ⟨t, rfl⟩ := e2 v hv
    have hm : V.ref t ∈ xs := by rw [e1]; exact List.mem_map.mpr ⟨_, hv, rfl⟩
    obtain ⟨t', e, ht⟩ := hx _ hm
    cases e
    obtain ⟨_, its2, r2, o, ho, hc, n, hd⟩ := I.hok _ _ ht
    obtain ⟨u1, u2, rfl, ri, rj⟩ := vals2 r2
    obtain ⟨t1, rfl⟩ := ri
    obtain ⟨t2, rfl⟩ := rj
    exact ⟨t, o, t1, t2, n, rfl, ho, hc, hd⟩
  · have h3 : ∀ u ∈ out, ∃ a, u = Value.ref a := fun u hu => e2 u (h2.perm.mem_iff.mp hu)
    obtain ⟨n, hn⟩ := hn
    have hb : SrtO.Stb (fun x y => lexS (k x) (k y)) (out.map backV) xs := by
      rw [e1]
      exact SrtO.Stb.map (swo_S k) backV h2
    refine ⟨.ref d, upd H d (.lst (out.map backV)), I.laid (t' := s.toks) kp hd ⟨?_, out, n, vals_back h3, hn⟩, rfl, q _ d (SrtO.srtd_map (lt := fun x y => lexS (k x) (k y)) h1) hb.perm (I.hok.fresh hd)⟩
    rw [hb.len]
    exact hz
end
end FW
namespace FW
open PySem PySem.Spec PyProof.Rows L2
/-! ### sorted: texts, as many as there are -/
theorem strs_vals : ∀ {xs : List Str} {us : List Value}, Vals (xs.map V.str) us → StrsAre us xs
  | [], [], _ => .nil
  | [], _ :: _, h => by cases h
  | _ :: _, [], h => by cases h
  | x :: xs, u :: us, h => by
    have h1 : L2.RelV (.str x) u ∧ Vals (xs.map V.str) us := by
      cases h with
      | cons a b => exact ⟨a, b⟩
    obtain ⟨t, rfl⟩ := h1.1
    exact .cons x t (strs_vals h1.2)
theorem vals_strs {xs : List Str} {us : List Value} (h : StrsAre us xs) : Vals (xs.map V.str) us := by
  induction h with
  | nil => exact .nil
  | cons y t h ih => exact .cons ⟨t, rfl⟩ ih
def rSortedSA (K : PySem.W.Frag) : List V → Hp → VK → Prop := fun vs H Q => ∃ (a : Addr) (xs : List Str), vs = [V.ref a] ∧ SqL K H a (xs.map V.str) ∧ ∀ (ys : List Str) (p : Addr), ys.Perm xs → PyProof.Rows.sortedS ys = true → H p = none → Q (.ref p) (upd H p (.lst (ys.map V.str)))
section
variable {X : Cx}
theorem cr_sortedSA : CallR X (.builtin "sorted") (rSortedSA X.K) := by
  intro pins s σ H vs us Q I r h
  obtain ⟨a, xs, rfl, hs, q⟩ := h
  obtain ⟨its, rv, hl, hz⟩ := I.list hs
  obtain ⟨u, rfl, ru⟩ := L2.vals1 r
  obtain rfl : u = Value.ref a := ru
  have hst := strs_vals rv
  refine sorted_strsAny hl.isList hst (by rw [← rv.length]; exact hz) fun out ss' ho hp hso => ?_
  obtain ⟨n, hn⟩ := sortedAll_at s.heap its out
  refine ⟨.ref (s.heap.objs.size + 1), upd H (s.heap.objs.size + 1) (.lst (ss'.map V.str)), I.laid (t' := s.toks) (fun b o e => sortedAll_old e) (Nat.le_succ _) ⟨?_, out.toList, n, vals_strs ho, ?_⟩, rfl, q _ _ hp hso (I.hok.fresh (Nat.le_succ _))⟩
  · rw [List.length_map, hp.length_eq]
    rwa [List.length_map] at hz
  · rw [Array.toArray_toList]
    exact hn
end
end FW
namespace FW
open PySem PySem.Spec PyProof.Rows L2
/-! ### a text so many times -/
def rMulS : R2 := fun x y H Q => ∃ (z : Str) (n : Int), x = .str z ∧ y = .int n ∧ MulOk z n ∧ Q (.str (Txt.mul z n)) H
theorem op_mulS {X : Cx} : OpR X (binaryOp .Mult) rMulS := by
  intro pins s σ H x y v u Q I rx ry h
  obtain ⟨z, n, rfl, rfl, ok, q⟩ := h
  obtain ⟨t, rfl⟩ := rx
  obtain ⟨t', rfl⟩ := ry
  exact SB.mul ok fun t'' k => ⟨.str _, H, I.tok _, ⟨_, rfl⟩, q⟩
theorem mulOk1 (c : Nat) {n : Int} (h : n = 3 ∨ n = 4 ∨ n = 5) : MulOk (S [c]) n := by
  rcases h with rfl | rfl | rfl
  · exact ⟨by decide, fun _ _ => (by decide : ¬ ((1 : Nat) : Int) > (2 ^ 63 - 1) / 3), fun _ _ => (by decide : Builtin.Str.tooLong (1 * 3) = false)⟩
  · exact ⟨by decide, fun _ _ => (by decide : ¬ ((1 : Nat) : Int) > (2 ^ 63 - 1) / 4), fun _ _ => (by decide : Builtin.Str.tooLong (1 * 4) = false)⟩
  · exact ⟨by decide, fun _ _ => (by decide : ¬ ((1 : Nat) : Int) > (2 ^ 63 - 1) / 5), fun _ _ => (by decide : Builtin.Str.tooLong (1 * 5) = false)⟩
theorem mul3 (c : Nat) : Txt.mul (S [c]) 3 = S [c, c, c] := rfl
theorem mul4 (c : Nat) : Txt.mul (S [c]) 4 = S [c, c, c, c] := rfl
theorem mul5 (c : Nat) : Txt.mul (S [c]) 5 = S [c, c, c, c, c] := rfl
end FW
namespace FW
open PySem PySem.Spec PyProof.Rows L2
/-! ### len, repr and bool of own objects -/
section
variable {X : Cx} {CX : CXT} {C f : Addr} {n : Nat} {sp : Sp} {E : XK}
def rOwn1 (C : Addr) (sp : Sp) (E : XK) (ok : V → Prop) : List V → Hp → VK → Prop := fun xs H Q => ∃ a dx fs, xs = [V.ref a] ∧ H a = some (.ins C dx fs) ∧ sp [.ref a] H (fun v H' => ok v ∧ Q v H') E
theorem cr_lenO (hs : PySem.W.findIn X.K (.ref C) "__len__" = some (some (.ref f))) (hf : PySem.W.isFn X.K (.ref f) = true) (F : FnR X.prog X.w X.K X.mg X.base CX n f sp) (hr : Room (n + 1) X.A) (hx : Passes CX X E) :
    CallR X (.builtin "len") (rOwn1 C sp E fun v => ∃ i : Int, v = .int i ∧ 0 ≤ i ∧ i < 2 ^ 63) := by
  intro pins s σ H vs us Q I r h
  obtain ⟨a, dx, fs, rfl, ha, q⟩ := h
  obtain ⟨u, rfl, ru⟩ := L2.vals1 r
  obtain rfl : u = Value.ref a := ru
  obtain ⟨mA, J, _⟩ := ins_get I.hok ha
  obtain ⟨od, J, _⟩ := J.look
  obtain ⟨m, hF⟩ := I.fr
  refine PySem.W.len_K hF I.ok.mod.kin J hs hf ?_
  refine wpAny_mono (wpAny_call (SlX.run_at (us := [.ref a]) (ws := [.ref a]) F hr.in1 I.env0.in1 hx I (.cons rfl .nil) q)) (fun w s' z => ?_) fun _ _ x => x
  obtain ⟨z', H', I', rz, ⟨i, rfl, h0, h1⟩, qz⟩ := z
  obtain ⟨t, rfl⟩ := rz
  exact ⟨⟨h0, h1⟩, .int i, H', I'.tok _, ⟨_, rfl⟩, qz⟩
theorem cr_reprO (hs : PySem.W.findIn X.K (.ref C) "__repr__" = some (some (.ref f))) (hf : PySem.W.isFn X.K (.ref f) = true) (F : FnR X.prog X.w X.K X.mg X.base CX n f sp) (hr : Room (n + 1) X.A) (hx : Passes CX X E) :
    CallR X (.builtin "repr") (rOwn1 C sp E fun v => ∃ z : Str, v = .str z) := by
  intro pins s σ H vs us Q I r h
  obtain ⟨a, dx, fs, rfl, ha, q⟩ := h
  obtain ⟨u, rfl, ru⟩ := L2.vals1 r
  obtain rfl : u = Value.ref a := ru
  obtain ⟨mA, J, _⟩ := ins_get I.hok ha
  obtain ⟨od, J, _⟩ := J.look
  obtain ⟨m, hF⟩ := I.fr
  refine PySem.W.repr_K (by have := hr.in1.un; omega) hF I.ok.mod.kin J hs hf ?_
  refine wpAny_mono (wpAny_call (SlX.run_at (us := [.ref a]) (ws := [.ref a]) F hr.in1 I.env0.in1 hx I (.cons rfl .nil) q)) (fun w s' z => ?_) fun _ _ x => x
  obtain ⟨z', H', I', rz, ⟨z, rfl⟩, qz⟩ := z
  obtain ⟨t, rfl⟩ := rz
  exact ⟨.str z, H', I', ⟨_, rfl⟩, qz⟩
theorem cr_boolO (hs : PySem.W.findIn X.K (.ref C) "__bool__" = some (some (.ref f))) (hf : PySem.W.isFn X.K (.ref f) = true) (F : FnR X.prog X.w X.K X.mg X.base CX n f sp) (hr : Room (n + 2) X.A) (hx : Passes CX X E) :
    CallR X (.type "bool") (rOwn1 C sp E fun v => ∃ b : Bool, v = .bl b) := by
  intro pins s σ H vs us Q I r h
  obtain ⟨a, dx, fs, rfl, ha, q⟩ := h
  obtain ⟨u, rfl, ru⟩ := L2.vals1 r
  obtain rfl : u = Value.ref a := ru
  obtain ⟨mA, J, _⟩ := ins_get I.hok ha
  obtain ⟨od, J, _⟩ := J.look
  obtain ⟨m, hF⟩ := I.fr
  refine callType_newIn PySem.F.called_bool (by decide) (PySem.F.typeCall_bool_1 _) (PySem.F.newCall_bool_1 _) (fun obj => PySem.F.args_object_init_2 obj _) PySem.F.entry_bool_new
    (S := fun A R s => wpAny (model X.prog X.w) A.in1 (truthy (.ref a)) (fun b s' => R (.ok (.ret (.bool b))) s') (fun e s' => R (.error e) s') s) ?_ ?_
  · intro A R s h
    unfold Builtin.«bool.__new__»
    repeat (first | (refine wpAny_bind (m := truthy _) (wpAny_mono h (fun b s' hb => ?_) fun _ _ e => e)) | wp_step)
    exact hb
  · refine PySem.W.truthy_K hF I.ok.mod.kin J hs hf ?_
    refine wpAny_mono (wpAny_call (SlX.run_at (us := [.ref a]) (ws := [.ref a]) F hr.in1.in1 I.env0.in1.in1 hx I (.cons rfl .nil) q)) (fun w s' z => ?_) fun _ _ x => x
    obtain ⟨z', H', I', rz, ⟨b, rfl⟩, qz⟩ := z
    obtain rfl : w = Value.bool b := rz
    exact ⟨PySem.typeIs_bool _ b, .bl b, H', I', rfl, qz⟩
end
end FW
namespace FW
open PySem PySem.Spec PyProof.Rows L2
-- more
section
variable {P : Program} {w : World} {K : PySem.W.Frag} {mg : Str → Option Value} {base : Heap}
structure BookE (K : PySem.W.Frag) (CB : Addr) : Prop where
  ca : PySem.W.findIn K (.ref CB) "__class__" = some (some (.builtin "object.__class__"))
  cn : PySem.W.specialIn K (.builtin "object.__class__") "__get__" = some (some (.builtin "getset_descriptor.__get__"))
  ct : PySem.W.takesIn K (.builtin "object.__class__") = some true
  cm : PySem.W.mroIn K CB (.type "object") = some true
  kit : PySem.W.kitOne K (.ref CB) (.ref CB) = some true
structure MachAt (K : PySem.W.Frag) (CM : Addr) (H : Hp) (x : Addr) (F : List Nat) (M : List (List Nat)) (B : List Nat) : Prop where
  at_ : ∃ dx tt bt rs, H x = some (.ins CM dx (machF F tt bt)) ∧ KeptAt K H tt bt rs M B
  fl : F.length ≤ 1000
  tab : TabOk F.length M
  bad : BadOk M.length B
theorem MachAt.same {CM : Addr} {H H' : Hp} {x : Addr} {F : List Nat} {M : List (List Nat)} {B : List Nat} (k : MachAt K CM H x F M B) (s : Same H H') : MachAt K CM H' x F M B := by
  obtain ⟨dx, tt, bt, rs, h, kk⟩ := k.at_
  exact ⟨⟨dx, tt, bt, rs, s _ _ h, kk.same s⟩, k.fl, k.tab, k.bad⟩
structure MachC (K : PySem.W.Frag) (CM : Addr) : Prop where
  c : Cls K CM
  nf : NoAttr K CM "faces"
  nt : NoAttr K CM "_table"
  nb : NoAttr K CM "_bad"
/-! numbers as data -/
def dN (n : Nat) : PyData := .int (n : Int)
def dR (r : List Nat) : PyData := .tuple (r.map dN)
theorem dp_nums {H : Hp} : ∀ r : List Nat, DpAll K H (r.map nI) (r.map dN)
  | [] => .nil
  | n :: r => .cons (.int (n : Int)) (dp_nums r)
theorem dp_row {H : Hp} {a : Addr} {r : List Nat} (h : SqT K H a (r.map nI)) : Dp K H (.ref a) (dR r) := .tup h (dp_nums r)
theorem dp_rowsM {H : Hp} : ∀ {rs : List V} {M : List (List Nat)}, rs.length = M.length → (∀ (i : Nat) (v : V) (r : List Nat), rs[i]? = some v → M[i]? = some r → ∃ a, v = .ref a ∧ SqT K H a (r.map nI)) → DpAll K H rs (M.map dR)
  | [], [], _, _ => .nil
  | [], _ :: _, h, _ => by cases h
  | _ :: _, [], h, _ => by cases h
  | v :: rs, r :: M, h, q => by
    obtain ⟨a, rfl, ha⟩ := q 0 v r rfl rfl
    exact .cons (dp_row ha) (dp_rowsM (by simpa using h) fun i v' r' h1 h2 => q (i + 1) v' r' h1 h2)
theorem eqv_N (a b : Nat) : PyData.eqv (dN a) (dN b) = decide (a = b) := by
  show ((a : Int) == (b : Int)) = _
  by_cases h : a = b
  · subst h
    rw [decide_eq_true rfl]
    exact beq_self_eq_true _
  · rw [decide_eq_false h]
    exact beq_eq_false_iff_ne.mpr fun e => h (Int.ofNat.inj e)
theorem eqv_R (a b : List Nat) : PyData.eqv (dR a) (dR b) = decide (a = b) := by
  show PyData.eqvAll _ _ = _
  exact eqvAll_map eqv_N a b
theorem lay_R (r : List Nat) : Lay 1 (dR r) := .tup fun d hd => by
  obtain ⟨n, _, rfl⟩ := List.mem_map.mp hd
  exact .int _
theorem shaped_M (M : List (List Nat)) : SeqAt.shaped (.tuple (M.map dR)) = true := Lay.shaped (n := 2) (.tup fun d hd => by
  obtain ⟨r, _, rfl⟩ := List.mem_map.mp hd
  exact lay_R r) (by decide)
theorem shaped_R (r : List Nat) : SeqAt.shaped (dR r) = true := Lay.shaped (n := 1) (lay_R r) (by decide)
abbrev s_Machine_table : Stmt := inCls (topS 28) 3
theorem sc_Machine_table : FnScope ["self"] ["self"] (defScope s_Machine_table) := ⟨rfl, rfl, rfl, by decide +kernel, rfl, by decide +kernel, by decide +kernel⟩
def sp_Machine_table (K : PySem.W.Frag) (CM : Addr) : Sp := fun vs H Q _ => ∃ (x : Addr) (F : List Nat) (M : List (List Nat)) (B : List Nat), vs = [.ref x] ∧ MachAt K CM H x F M B ∧ ∀ p rs, H p = none → rs.length = M.length → (∀ (i : Nat) (v : V) (r : List Nat), rs[i]? = some v → M[i]? = some r → ∃ a, v = .ref a ∧ SqT K H a (r.map nI)) → Q (.ref p) (upd H p (.lst rs))
theorem ok_Machine_table {f CM : Addr} {fd : FuncData} (F : Fun K "table" "Machine.table" s_Machine_table f fd) (T : Z mg) (MC : MachC K CM) : FnOk P w K mg base CX0 1 f fd ["self"] (sp_Machine_table K CM) := by
  refine F.ok sc_Machine_table (fun vs H Q E h => ?_) (fun cdv A outer s H vs Q E hr h => ?_)
  · obtain ⟨x, F, M, B, rfl, _⟩ := h
    rfl
  obtain ⟨x, F, M, B, rfl, hM, q⟩ := h
  refine ⟨_, (pss_one (ps_ret (pe_callTy call_list_of (by rfl) T.z_list (by decide +kernel) (pa_cons (pe_fld (pv 0) rfl) pa_nil)))), ?_⟩
  obtain ⟨dx, tt, bt, rs, hx, kk⟩ := hM.at_
  exact ⟨_, rfl, x, CM, dx, _, _, rfl, hx, MC.c, MC.nt, rfl, tt, _, rfl, .inr (SqT.of kk.tab), fun p np => q p rs np kk.len kk.rows⟩
abbrev s_Machine_bad : Stmt := inCls (topS 28) 4
theorem sc_Machine_bad : FnScope ["self"] ["self"] (defScope s_Machine_bad) := ⟨rfl, rfl, rfl, by decide +kernel, rfl, by decide +kernel, by decide +kernel⟩
def sp_Machine_bad (K : PySem.W.Frag) (CM : Addr) : Sp := fun vs H Q _ => ∃ (x : Addr) (F : List Nat) (M : List (List Nat)) (B : List Nat), vs = [.ref x] ∧ MachAt K CM H x F M B ∧ ∀ p, H p = none → Q (.ref p) (upd H p (.lst (B.map nI)))
theorem ok_Machine_bad {f CM : Addr} {fd : FuncData} (F : Fun K "bad" "Machine.bad" s_Machine_bad f fd) (T : Z mg) (MC : MachC K CM) : FnOk P w K mg base CX0 1 f fd ["self"] (sp_Machine_bad K CM) := by
  refine F.ok sc_Machine_bad (fun vs H Q E h => ?_) (fun cdv A outer s H vs Q E hr h => ?_)
  · obtain ⟨x, F, M, B, rfl, _⟩ := h
    rfl
  obtain ⟨x, F, M, B, rfl, hM, q⟩ := h
  refine ⟨_, (pss_one (ps_ret (pe_callTy call_list_of (by rfl) T.z_list (by decide +kernel) (pa_cons (pe_fld (pv 0) rfl) pa_nil)))), ?_⟩
  obtain ⟨dx, tt, bt, rs, hx, kk⟩ := hM.at_
  exact ⟨_, rfl, x, CM, dx, _, _, rfl, hx, MC.c, MC.nb, rfl, bt, _, rfl, .inr kk.bad, fun p np => q p np⟩
abbrev s_Machine_eq : Stmt := inCls (topS 28) 11
theorem sc_Machine_eq : FnScope ["self", "other"] ["self", "other"] (defScope s_Machine_eq) := ⟨rfl, rfl, rfl, by decide +kernel, rfl, by decide +kernel, by decide +kernel⟩
def sp_Machine_eq (K : PySem.W.Frag) (CM : Addr) : Sp := fun vs H Q _ => ∃ (x : Addr) (yv : V) (F : List Nat) (M : List (List Nat)) (B : List Nat), vs = [.ref x, yv] ∧ MachAt K CM H x F M B ∧
  ((∃ (y : Addr) (F' : List Nat) (M' : List (List Nat)) (B' : List Nat), yv = .ref y ∧ MachAt K CM H y F' M' B' ∧ Q (.bl (decide (F = F' ∧ M = M' ∧ B = B'))) H) ∨ ∃ t : Value, TyX K H yv t ∧ PySem.W.kitOne K t (.ref CM) = some false ∧ Q (.bl false) H)
theorem ok_Machine_eq {f CM : Addr} {fd : FuncData} (F : Fun K "__eq__" "Machine.__eq__" s_Machine_eq f fd) (T : Z mg) (gM : mg "Machine" = some (.ref CM)) (MC : MachC K CM) (ME : BookE K CM) : FnOk P w K mg base CX0 1 f fd ["self", "other"] (sp_Machine_eq K CM) := by
  refine F.ok sc_Machine_eq (fun vs H Q E h => ?_) (fun cdv A outer s H vs Q E hr h => ?_)
  · obtain ⟨x, y, F, M, B, rfl, _⟩ := h
    rfl
  obtain ⟨x, yv, F, M, B, rfl, hM, h⟩ := h
  refine ⟨_, (pss_cons (ps_if (pt_not (pt_val (pe_callB call_isi (by rfl) T.z_isinstance (by decide +kernel) (pa_cons (pv 1) (pa_cons (pe_glob (v := .ref CM) rfl gM rfl) pa_nil))))) (pss_one (ps_ret pe_bl)) pss_nil)
   (pss_one (ps_ret (pe_and (pe_cmpR op_eq (pe_fld (pv 0) rfl) (pe_fld (pv 1) rfl) (nomark _)) (pe_and (pe_cmpR (op_eqD hr.units) (pe_fld (pv 0) rfl) (pe_fld (pv 1) rfl) (nomark _)) (pe_one (pe_cmpR (op_eqD hr.units) (pe_fld (pv 0) rfl) (pe_fld (pv 1) rfl) (nomark _)))))))), ?_⟩
  rcases h with ⟨y, F', M', B', rfl, hM', q⟩ | ⟨ty, hty, hk, q⟩
  case inr => exact ⟨_, rfl, _, _, _, _, false, rfl, .own _, hty, hk, false, rfl, iteT q⟩
  obtain ⟨dx, tt, bt, rs, hx, kk⟩ := hM.at_
  obtain ⟨dy, tt', bt', rs', hy, kk'⟩ := hM'.at_
  refine ⟨_, rfl, _, _, _, _, true, rfl, .own _, .base (.ins hy MC.c ME.ca ME.cn ME.ct ME.cm), ME.kit, true, rfl, iteF ?_⟩
  refine ⟨_, rfl, x, CM, dx, _, _, rfl, hx, MC.c, MC.nf, rfl, _, rfl, y, CM, dy, _, _, rfl, hy, MC.c, MC.nf, rfl, rfl, _, rfl, ite_dec (fun e1 => ?_) (fun ne => ?_)⟩
  · have e1' : F = F' := congrArg (fun z : Str => z.cps.toList) (V.str.inj e1)
    refine ⟨_, rfl, x, CM, dx, _, _, rfl, hx, MC.c, MC.nt, rfl, _, rfl, y, CM, dy, _, _, rfl, hy, MC.c, MC.nt, rfl, .tuple (M.map dR), .tuple (M'.map dR), .tup (SqT.of kk.tab) (dp_rowsM kk.len kk.rows), .tup (SqT.of kk'.tab) (dp_rowsM kk'.len kk'.rows), shaped_M M, shaped_M M', decide (M = M'), congrArg V.bl (show PyData.eqvAll _ _ = _ from eqvAll_map eqv_R M M'), ite_dec (fun e2 => ?_) (fun ne => ?_)⟩
    · refine ⟨_, rfl, x, CM, dx, _, _, rfl, hx, MC.c, MC.nb, rfl, _, rfl, y, CM, dy, _, _, rfl, hy, MC.c, MC.nb, rfl, dR B, dR B', dp_row kk.bad, dp_row kk'.bad, shaped_R B, shaped_R B', ?_⟩
      rw [eqv_R]
      rwa [show decide (F = F' ∧ M = M' ∧ B = B') = decide (B = B') from decide_eq_decide.mpr ⟨fun h => h.2.2, fun h => ⟨e1', e2, h⟩⟩] at q
    · rwa [decide_eq_false (fun h => ne h.2.1)] at q
  · rwa [decide_eq_false (fun h => ne (by rw [h.1]))] at q
abbrev s_Machine_repr : Stmt := inCls (topS 28) 12
theorem sc_Machine_repr : FnScope ["self"] ["self"] (defScope s_Machine_repr) := ⟨rfl, rfl, rfl, by decide +kernel, rfl, by decide +kernel, by decide +kernel⟩
def reprM (n : Nat) : Str := ((Str.empty ++ ("Machine(" : Str)) ++ (Str.ofString (toString (n : Int)))) ++ (" states)" : Str)
def sp_Machine_repr (K : PySem.W.Frag) (CM : Addr) : Sp := fun vs H Q _ => ∃ (x : Addr) (F : List Nat) (M : List (List Nat)) (B : List Nat), vs = [.ref x] ∧ MachAt K CM H x F M B ∧ Q (.str (reprM M.length)) H
theorem ok_Machine_repr {f CM : Addr} {fd : FuncData} (F : Fun K "__repr__" "Machine.__repr__" s_Machine_repr f fd) (T : Z mg) (MC : MachC K CM) : FnOk P w K mg base CX0 1 f fd ["self"] (sp_Machine_repr K CM) := by
  refine F.ok sc_Machine_repr (fun vs H Q E h => ?_) (fun cdv A outer s H vs Q E hr h => ?_)
  · obtain ⟨x, F, M, B, rfl, _⟩ := h
    rfl
  obtain ⟨x, F, M, B, rfl, hM, q⟩ := h
  refine ⟨_, (pss_one (ps_ret (pe_joined (.cons pe_str (.cons (pe_fmt (pe_callB call_len_seq (by rfl) T.z_len (by decide +kernel) (pa_cons (pe_fld (pv 0) rfl) pa_nil))) (.cons pe_str .nil)))))), ?_⟩
  obtain ⟨dx, tt, bt, rs, hx, kk⟩ := hM.at_
  have h200 := hM.tab.l2
  refine ⟨_, rfl, (show 8 ≤ sizeLine by decide), ?_⟩
  refine ⟨_, rfl, x, CM, dx, _, _, rfl, hx, MC.c, MC.nt, rfl, tt, _, rfl, .inr (SqT.of kk.tab), ?_⟩
  have hsz : ∀ n : Nat, n < 201 → n.log2 < 1920 ∧ ((Str.empty ++ ("Machine(" : Str)) ++ Str.ofString (toString (n : Int))).length ≤ 100 ∧ (reprM n).length ≤ 100 := by decide +kernel
  obtain ⟨g1, g2, g3⟩ := hsz M.length (by omega)
  rw [show (rs.length : Int) = (M.length : Int) from by rw [kk.len]]
  refine .inr ⟨_, rfl, g1, _, rfl, Nat.le_trans g2 (by decide), _, rfl, Nat.le_trans g3 (by decide), q⟩
end
end FW
namespace FW
open PySem PySem.Spec PyProof.Rows L2
-- more
section
variable {P : Program} {w : World} {K : PySem.W.Frag} {mg : Str → Option Value} {base : Heap}
abbrev s_Machine_size : Stmt := inCls (topS 28) 2
theorem sc_Machine_size : FnScope ["self"] ["self"] (defScope s_Machine_size) := ⟨rfl, rfl, rfl, by decide +kernel, rfl, by decide +kernel, by decide +kernel⟩
def sp_Machine_size (K : PySem.W.Frag) (CM : Addr) : Sp := fun vs H Q _ => ∃ (x : Addr) (F : List Nat) (M : List (List Nat)) (B : List Nat), vs = [.ref x] ∧ MachAt K CM H x F M B ∧ Q (nI M.length) H
theorem ok_Machine_size {f CM : Addr} {fd : FuncData} (F : Fun K "size" "Machine.size" s_Machine_size f fd) (T : Z mg) (MC : MachC K CM) : FnOk P w K mg base CX0 1 f fd ["self"] (sp_Machine_size K CM) := by
  refine F.ok sc_Machine_size (fun vs H Q E h => ?_) (fun cdv A outer s H vs Q E hr h => ?_)
  · obtain ⟨x, F, M, B, rfl, _⟩ := h
    rfl
  obtain ⟨x, F, M, B, rfl, hM, q⟩ := h
  refine ⟨_, (pss_one (ps_ret (pe_callB call_len_seq (by rfl) T.z_len (by decide +kernel) (pa_cons (pe_fld (pv 0) rfl) pa_nil)))), ?_⟩
  obtain ⟨dx, tt, bt, rs, hx, kk⟩ := hM.at_
  refine ⟨_, rfl, x, CM, dx, _, _, rfl, hx, MC.c, MC.nt, rfl, tt, _, rfl, .inr (SqT.of kk.tab), ?_⟩
  rwa [kk.len]
end
end FW
namespace FW
open PySem PySem.Spec PyProof.Rows L2
-- more
section
variable {P : Program} {w : World} {K : PySem.W.Frag} {mg : Str → Option Value} {base : Heap}
/-- a machine that is made -/
theorem machine_made {H1 : Hp} {CM : Addr} {F : List Nat} {tv bv : V} {as : List V} {M : List (List Nat)} {B : List Nat} {x dx : Addr} {Qv : VK} {E : XK} (MC : MachC K CM) (b1 : bFaces (.str (S F)) = true) (l1 : F.length ≤ 1000)
    (hT : TabIn K H1 tv as M) (hM : TabOk F.length M) (hS : Sq K H1 bv (B.map nI)) (hB : BadOk M.length B) (nx : H1 x = none) (ndx : H1 dx = none) (q : ∀ H', Same H1 H' → MachAt K CM H' x F M B → Qv .non H') :
    sp_Machine_init K [.ref x, .str (S F), tv, bv] (upd (upd H1 dx (.own x)) x (.ins CM dx [])) Qv E := by
  have hxm : (upd (upd H1 dx (.own x)) x (.ins CM dx [])) x = some (.ins CM dx []) := upd_same
  have sm : Same H1 (upd (upd H1 dx (.own x)) x (.ins CM dx [])) := fun z o hz => (upd_ne (ne_of_none hz nx)).trans ((upd_ne (ne_of_none hz ndx)).trans hz)
  refine ⟨x, CM, dx, F, tv, bv, as, M, B, rfl, hxm, MC.c, MC.nf, MC.nt, MC.nb, b1, l1, hT.same sm, hM, hS.same sm, hB, fun H' tt bt rs s' kk => ?_⟩
  have hx' := s' _ _ hxm
  have b67 : But x H' (upd H' x (.ins CM dx (machF F tt bt))) := fun c o n e => by
    rw [upd_ne n]
    exact e
  refine q _ (fun z o hz => b67 _ _ (ne_of_none hz nx) (s' _ _ (sm _ _ hz))) ⟨⟨dx, tt, bt, rs, upd_same, ⟨b67 _ _ (fun z => by have h := kk.tab; rw [z, hx'] at h; cases h) kk.tab, kk.len, fun i v r h1 h2 => let ⟨a, e, h⟩ := kk.rows i v r h1 h2; ⟨a, e, sqT_insb hx' b67 h⟩, sqT_insb hx' b67 kk.bad⟩⟩, l1, hM, hB⟩
end
end FW
namespace FW
open PySem PySem.Spec PyProof.Rows L2
/-! ### a lambda as a thing of the heap; with defaults or without -/
/-- its names, cells and code object; what it answers; its defaults' tuple -/
structure LF where
  F : NdefX.NF
  e : Expr
  dV : Value
abbrev LF.fd (l : LF) (doc pm ctv : Value) : FuncData := PySem.W.kdv_fn l.F.name l.F.qual l.F.params (.expr l.e) l.F.scope l.F.cl l.dV doc pm (.ref l.F.c) ctv
abbrev LF.ob (l : LF) (doc pm ctv : Value) : Obj := { cls := .type "function", data := .func (l.fd doc pm ctv) }
def LamO (f : Addr) (l : LF) : HO := .ext fun h => ∃ doc pm ctv : Value, h.get? f = some (l.ob doc pm ctv)
theorem lamO_ne {f : Addr} {l : LF} (ps : Array Value) : LamO f l ≠ .tbl ps := by
  intro z
  unfold LamO at z
  cases z
theorem lamO_at {P : Program} {w : World} {H : Hp} {h : Heap} {f : Addr} {l : LF} (ok : HOk P w H h) (e : H f = some (LamO f l)) : ∃ doc pm ctv : Value, h.get? f = some (l.ob doc pm ctv) := (ok f _ e).1
/-- the lambda l stands at f, its code object too, its defaults are dvs -/
structure LamAt (H : Hp) (f : Addr) (l : LF) (dvs : List V) : Prop where
  fn : H f = some (LamO f l)
  co : H l.F.c = some (LamX.CodeO l.F.c l.F.qual)
  df : (dvs = [] ∧ l.dV = .none) ∨ (dvs ≠ [] ∧ ∃ T, l.dV = .ref T ∧ H T = some (.tup dvs))
theorem LamAt.ext {H H' : Hp} {f : Addr} {l : LF} {dvs : List V} (a : LamAt H f l dvs) (e : LamX.ExtN H H') : LamAt H' f l dvs :=
  ⟨e _ _ a.fn lamO_ne, e _ _ a.co LamX.codeO_ne, a.df.imp id fun ⟨n, T, h1, h2⟩ => ⟨n, T, h1, e _ _ h2 (fun _ z => by cases z)⟩⟩
theorem LamAt.same {H H' : Hp} {f : Addr} {l : LF} {dvs : List V} (a : LamAt H f l dvs) (e : Same H H') : LamAt H' f l dvs := a.ext fun b o h _ => e b o h
section
variable {X : Cx} {pins : List (Addr × Obj)} {σ : L2.St} {H : Hp} {s : Shared}
theorem inv_lam {l : LF} {t' : Nat} {doc pm ctv : Value} (I : Inv X pins σ H s) : Inv X pins σ (upd H s.heap.objs.size (LamO s.heap.objs.size l)) { s with heap := s.heap.push (l.ob doc pm ctv), toks := t' } := by
  have e : (s.heap.push (l.ob doc pm ctv)).get? s.heap.objs.size = some (l.ob doc pm ctv) := Heap.get?_push_size _ rfl
  exact I.laid (a := s.heap.objs.size) (fun _ _ q => Heap.get?_push_of_some _ q) (Nat.le_refl _) ⟨⟨doc, pm, ctv, e⟩, ⟨_, e⟩, fun h1 h2 ⟨d, p, t, z⟩ st => ⟨d, p, t, st _ z⟩⟩
/-- a lambda's object is made; its code object is new, or stands in the table -/
theorem lamD_make {T : List (Addr × Str)} {c P : Addr} {params : Arguments} {body : Expr} {scope : Scope} {pos : Pos} {dV : Value} {E Q : Value → Shared → Prop} (I : Inv X pins σ H s) (TB : LamX.TabB X.base X.mg c P)
    (hcode : X.env.code = .ref c) (hm : (P, X.env.qual ++ "<lambda>") ∈ T) (hu : ∀ p ∈ T, p.1 = P → p.2 = X.env.qual ++ "<lambda>")
    (hT : LamX.Tabs T H) (hfree : ∀ y ∈ scope.names, y.2 = .free → ∃ c, X.env.cells.lookup y.1 = some c)
    (h : ∀ (f c' : Addr) (H1 : Hp) (s' : Shared), Inv X pins σ H1 s' → LamX.ExtN H H1 → LamX.Tabs T H1 → H f = none →
      H1 f = some (LamO f ⟨⟨"<lambda>", X.env.qual ++ "<lambda>", params, [], scope, cloFrom X.env.cells scope.names [], c'⟩, body, dV⟩) → H1 c' = some (LamX.CodeO c' (X.env.qual ++ "<lambda>")) → Q (.ref f) s') :
    wpAny (model X.prog X.w) X.A (makeTail "<lambda>" (X.env.qual ++ "<lambda>") params (.expr body) scope X.env dV .none none pos pos.line) Q E s := by
  obtain ⟨ps, atP, tri, among⟩ := (show LamX.TabS H P (X.env.qual ++ "<lambda>") from hT _ hm)
  have bP := TB.bm.keeps I.bk
  have obP : s.heap.get? P = some { cls := .none, data := .fields ps } := I.hok P _ atP
  have tabStep : ∀ {H1 : Hp} {f : Addr} {l : LF}, LamX.Tabs T H1 → H1 f = none → LamX.Tabs T (upd H1 f (LamO f l)) := fun t n => t.ext fun b o e => by rw [upd_ne (ne_of_none e n)]; exact e
  have extStep : ∀ {H1 : Hp} {f : Addr} {l : LF}, LamX.ExtN H H1 → H1 f = none → LamX.ExtN H (upd H1 f (LamO f l)) := fun t n b o e q => by
    have z := t b o e q
    rw [upd_ne (ne_of_none z n)]
    exact z
  cases hc : codeAmong pos ps.toList with
  | some cv =>
    obtain ⟨c', rfl, hco⟩ := among pos cv hc
    refine PySem.W.kdv_makeTailHit (mg := X.mg) (c := c) (P := P) (ps := ps) (closure_ok hfree) I.ok.glob (I.mod.glob.keeps I.bk) hcode (TB.code.keeps I.bk) obP tri hc bP fun ctv doc h' tk hx hsz => ?_
    have I1 : Inv X pins σ H { s with heap := h', toks := tk } := I.kept hx
    have nF : H h'.objs.size = none := I1.hok.fresh (Nat.le_refl _)
    refine h h'.objs.size c' _ _ (inv_lam (t' := tk) I1) (extStep (LamX.ExtN.refl H) nF) (tabStep hT nF) nF upd_same ?_
    rw [upd_ne (ne_of_none hco nF)]
    exact hco
  | none =>
    refine PySem.W.kdv_makeTail (mg := X.mg) (c := c) (P := P) (ps := ps) (closure_ok hfree) I.ok.glob (I.mod.glob.keeps I.bk) hcode (TB.code.keeps I.bk) obP tri hc TB.gP bP fun c' ctv doc h' tk hx hge hlt hrec htb => ?_
    obtain ⟨c2, oc, vs, t, e2, hoc, hd, hv⟩ := hrec
    cases e2
    have nC : H c' = none := I.hok.fresh hge
    have I1 := LamX.inv_table (t' := tk) (more := #[rawInt pos.line, rawInt pos.col, .ref c']) I atP hx htb hge ⟨oc, vs, t, hoc, hd, hv⟩
    generalize hH1 : upd (upd H P (.tbl (ps ++ #[rawInt pos.line, rawInt pos.col, .ref c']))) c' (LamX.CodeO c' (X.env.qual ++ "<lambda>")) = H1 at I1
    have at1 : H1 c' = some (LamX.CodeO c' (X.env.qual ++ "<lambda>")) := by
      rw [← hH1]
      exact upd_same
    have hE : LamX.ExtN H H1 := fun b o e n => by
      rw [← hH1, upd_ne (ne_of_none e nC), upd_ne (fun z => n ps (by rw [z, atP] at e; exact (Option.some.inj e).symm))]
      exact e
    have T1 : LamX.Tabs T H1 := by
      intro p hp
      by_cases hb : p.1 = P
      · rw [hu p hp hb, hb]
        refine ⟨ps ++ #[rawInt pos.line, rawInt pos.col, .ref c'], ?_, ?_, fun p' cv hcv => ?_⟩
        · rw [← hH1, upd_ne (ne_of_none atP nC), upd_same]
        · rw [Array.toList_append]
          exact PySem.TriplesOk_snoc _ _ _ _ tri
        · rw [Array.toList_append] at hcv
          rcases LamX.among_app _ tri hcv with z | z
          · obtain ⟨c0, e1, e2⟩ := among p' cv z
            exact ⟨c0, e1, hE _ _ e2 LamX.codeO_ne⟩
          · exact ⟨c', z, at1⟩
      · obtain ⟨ps', a1, a2, a3⟩ := hT p hp
        refine ⟨ps', ?_, a2, fun p' cv hcv => ?_⟩
        · rw [← hH1, upd_ne (ne_of_none a1 nC), upd_ne hb]
          exact a1
        · obtain ⟨c0, e1, e2⟩ := a3 p' cv hcv
          exact ⟨c0, e1, hE _ _ e2 LamX.codeO_ne⟩
    have nF : H1 h'.objs.size = none := I1.hok.fresh (Nat.le_refl _)
    refine h h'.objs.size c' _ _ (inv_lam (t' := tk) I1) (extStep hE nF) (tabStep T1 nF) (I.hok.fresh (Nat.le_trans hge (Nat.le_of_lt hlt))) upd_same ?_
    rw [upd_ne (ne_of_none at1 nF)]
    exact at1
end
/-- the reading of a lambda as a value -/
def tLamV (T : List (Addr × Str)) (mk : Addr → Value → LF) (dvs : List V) : TE := fun σ H Q => LamX.Tabs T H ∧ ∀ (f c' : Addr) (dV : Value) (H1 : Hp), LamX.ExtN H H1 → LamX.Tabs T H1 → H f = none → LamAt H1 f (mk c' dV) dvs → Q (.ref f) H1
abbrev lamF (X : Cx) (params : Arguments) (body : Expr) (scope : Scope) (c' : Addr) (dV : Value) : LF := ⟨⟨"<lambda>", X.env.qual ++ "<lambda>", params, [], scope, cloFrom X.env.cells scope.names [], c'⟩, body, dV⟩
def lamFree (sc scope : Scope) : Bool := scope.names.all fun y => !decide (y.2 = .free) || decide (sc.names.lookup y.1 = some .cell) || decide (sc.names.lookup y.1 = some .free)
theorem lam_free {X : Cx} {scope : Scope} (h : lamFree X.env.scope scope = true) (ok : X.Ok) : ∀ y ∈ scope.names, y.2 = .free → ∃ c, X.env.cells.lookup y.1 = some c := by
  unfold lamFree at h
  rw [List.all_eq_true] at h
  intro y hy e
  have z := h y hy
  simp only [e, decide_true, Bool.not_true, Bool.false_or, Bool.or_eq_true, decide_eq_true_eq] at z
  exact ok.has _ z
section
variable {X : Cx}
/-- lambda: body -/
theorem pe_lam0 {T : List (Addr × Str)} {c P : Addr} {params : Arguments} {body : Expr} {scope : Scope} {pos : Pos} (TB : LamX.TabB X.base X.mg c P) (hcode : X.env.code = .ref c) (hm : (P, X.env.qual ++ "<lambda>") ∈ T)
    (hu : ∀ p ∈ T, p.1 = P → p.2 = X.env.qual ++ "<lambda>") (hdef : defaultsOf params X.env = ([], [])) (hfree : lamFree X.env.scope scope = true) :
    PE X (.Lambda params body scope pos) (tLamV T (lamF X params body scope) []) := by
  refine ⟨fun pins s σ H Q I h => ?_⟩
  obtain ⟨hT, h⟩ := h
  refine PySem.W.kla_eval hdef ?_
  rw [makeFunction_eq]
  simp only [List.zip_nil_right, List.filterMap_nil, List.isEmpty_nil, if_true, pure_bind]
  exact lamD_make I TB hcode hm hu hT (lam_free hfree I.ok) fun f c' H1 s' I1 e1 t1 n1 f1 c1 => ⟨.ref f, H1, I1, rfl, h f c' .none H1 e1 t1 n1 ⟨f1, c1, .inl ⟨rfl, rfl⟩⟩⟩
/-- lambda name=n: body -/
theorem pe_lam1 {T : List (Addr × Str)} {c P : Addr} {params : Arguments} {body : Expr} {scope : Scope} {pos : Pos} {n : Int} {j : Nat} {dp : Pos} (TB : LamX.TabB X.base X.mg c P) (hcode : X.env.code = .ref c) (hm : (P, X.env.qual ++ "<lambda>") ∈ T)
    (hu : ∀ p ∈ T, p.1 = P → p.2 = X.env.qual ++ "<lambda>") (hd : params.defaults = [.Constant (.int n) j dp]) (hk : params.kw_defaults = []) (hfree : lamFree X.env.scope scope = true) :
    PE X (.Lambda params body scope pos) (tLamV T (lamF X params body scope) [.int n]) := by
  refine ⟨fun pins s σ H Q I h => ?_⟩
  obtain ⟨hT, h⟩ := h
  refine PySem.W.kdv_lam (by rw [hd]; rfl) hk ?_
  rw [hd]
  refine PySem.W.kdv_all1 (thn ((pe_int (X := X)).run pins s σ H (fun v H1 => v = .int n ∧ H1 = H) I ⟨rfl, rfl⟩) fun u s1 ⟨v, H1, I1, r, e1, e2⟩ => PySem.W.kdv_all0 ?_)
  subst e1
  subst e2
  rw [makeFunction_eq]
  simp only [List.zip_nil_right, List.filterMap_nil, List.isEmpty_nil, List.isEmpty_cons, if_true, pure_bind, Bool.false_eq_true, if_false]
  refine wpAny_bind (wpAny_newTextTuple ?_)
  have nT : H1 s1.heap.objs.size = none := I1.hok.fresh (Nat.le_refl _)
  have I2 : Inv X pins σ (upd H1 s1.heap.objs.size (.tup [.int n])) { s1 with heap := s1.heap.push { cls := .type "tuple", data := .seq [u].toArray }, toks := s1.toks } :=
    I1.laid (fun _ _ q => Heap.get?_push_of_some _ q) (Nat.le_refl _) ⟨sz1 (by decide), [u], .cons r .nil, ⟨_, Heap.get?_push_size _ rfl, rfl, _, rfl⟩⟩
  have ex : ∀ b o, H1 b = some o → upd H1 s1.heap.objs.size (.tup [.int n]) b = some o := fun b o q => by
    rw [upd_ne (ne_of_none q nT)]
    exact q
  refine lamD_make I2 TB hcode hm hu (hT.ext ex) (lam_free hfree I.ok) fun f c' H3 s' I3 e3 t3 n3 f3 c3 => ⟨.ref f, H3, I3, rfl, ?_⟩
  refine h f c' (.ref s1.heap.objs.size) H3 ((LamX.ExtN.of ex).trans e3) t3 ?_ ⟨f3, c3, .inr ⟨by simp, _, rfl, e3 _ _ upd_same (fun _ z => by cases z)⟩⟩
  exact NdefX.upd_none n3
end
end FW
namespace FW
open PySem PySem.Spec PyProof.Rows L2
/-! ### lambdas in a list, each called two frames below the def that made them -/
theorem mod_more {K : PySem.W.Frag} {mg : Str → Option Value} {base b2 : Heap} (m : Mod K mg base) (k : ∀ b o, base.get? b = some o → b2.get? b = some o) : Mod K mg b2 := by
  obtain ⟨m1, m2, ⟨mb, m3, m4⟩, m5⟩ := m
  exact ⟨m1.keeps k, m2.keeps k, ⟨mb, m3.keeps k, m4⟩, m5.keeps k⟩
theorem funs_more {h base b2 : Heap} : ∀ {l : List Env}, h.FunFrames base l → (∀ b ∈ frs l, b2.get? b = none) → h.FunFrames b2 l
  | [], _, _ => trivial
  | env :: r, ⟨h1, ⟨L, o, hf, hn, ho, hd⟩, h3⟩, n => by
    have e : frs (env :: r) = L :: frs r := by
      unfold frs
      rw [List.filterMap_cons, hf]
    rw [e] at n
    exact ⟨h1, ⟨L, o, hf, n L (List.mem_cons_self), ho, hd⟩, funs_more h3 fun b hb => n b (List.mem_cons_of_mem _ hb)⟩
/-- a ground that holds less -/
theorem env0_less {P : Program} {w : World} {K : PySem.W.Frag} {mg : Str → Option Value} {base b2 : Heap} {A : Around} {outer : List Env} {s : Shared} {H : Hp} (e0 : Env0 P w K mg b2 A outer s H) (m : Mod K mg base) (sub : ∀ b o, base.get? b = some o → b2.get? b = some o)
    (sz : base.objs.size ≤ b2.objs.size) : Env0 P w K mg base A outer s H := by
  refine ⟨e0.frames, m, fun b o e => e0.bs b o (sub b o e), Nat.le_trans sz e0.bsz, ?_, e0.frf, e0.hok, e0.bare⟩
  refine funs_more e0.funs fun b hb => ?_
  cases e : base.get? b with
  | none => rfl
  | some o =>
    have z := (e0.funs.mem hb).1
    rw [sub b o e] at z
    cases z
/-- the ground, with the cells of the def that runs -/
theorem ground_cells {X : Cx} {pins : List (Addr × Obj)} {σ : L2.St} {H : Hp} {s : Shared} (I : Inv X pins σ H s) (hfn : ∀ x, X.fn x = true) (hst : X.stack = X.env :: X.outer) (hf : X.env.frame = some X.env.locals) :
    ∃ b2 : Heap, (∀ b o, X.base.get? b = some o → b2.get? b = some o) ∧ X.base.objs.size ≤ b2.objs.size ∧ Env0 X.prog X.w X.K X.mg b2 X.A X.stack s H ∧ ∀ y c, X.env.cells.lookup y = some c → ∀ v, s.heap.IsCell c v → b2.IsCell c v := by
  let isC : Addr → Bool := fun b => X.env.cells.any fun p => decide (X.env.cells.lookup p.1 = some b)
  have hC1 : ∀ b, isC b = true → ∃ y, X.env.cells.lookup y = some b := fun b e => by
    obtain ⟨p, _, hp⟩ := List.any_eq_true.mp e
    exact ⟨p.1, of_decide_eq_true hp⟩
  have hC2 : ∀ y b, X.env.cells.lookup y = some b → isC b = true := fun y b e => List.any_eq_true.mpr ⟨(y, b), PySem.mem_of_lookup e, decide_eq_true e⟩
  let hid : List Addr := (List.range s.heap.objs.size).filter fun b => (X.base.get? b).isNone && !isC b
  have up : ∀ b o, X.base.get? b = some o → (PySem.W.hideAll s.heap hid).get? b = some o := fun b o e => by
    refine PySem.W.hideAll_get hid (I.bk b o e) fun hm => ?_
    have z := (List.mem_filter.mp hm).2
    rw [e] at z
    simp at z
  have dn : ∀ b o, (PySem.W.hideAll s.heap hid).get? b = some o → s.heap.get? b = some o ∧ ((∃ u, X.base.get? b = some u) ∨ ∃ y, X.env.cells.lookup y = some b) := fun b o e => by
    have e1 := PySem.W.of_hideAll hid e
    refine ⟨e1, ?_⟩
    cases q : X.base.get? b with
    | some u => exact .inl ⟨u, rfl⟩
    | none =>
      cases q2 : isC b with
      | true => exact .inr (hC1 b q2)
      | false =>
        have hm : b ∈ hid := List.mem_filter.mpr ⟨List.mem_range.mpr (Heap.lt_size e1), by rw [q, q2]; rfl⟩
        have z := PySem.W.hideAll_none hid (h := s.heap) hm
        rw [e] at z
        cases z
  have sz : (PySem.W.hideAll s.heap hid).objs.size = s.heap.objs.size := PySem.W.hideAll_size hid s.heap
  have e0 := I.env0
  refine ⟨PySem.W.hideAll s.heap hid, up, by rw [sz]; exact e0.bsz, ⟨e0.frames, mod_more e0.mod up, fun b o e => ?_, Nat.le_of_eq sz, ?_, e0.frf, e0.hok, e0.bare⟩, fun y c e v ⟨o, ho, hd⟩ => ?_⟩
  · obtain ⟨e1, z⟩ := dn b o e
    refine ⟨e1, ?_⟩
    rcases z with ⟨u, z⟩ | ⟨y, z⟩
    · exact (e0.bs b u z).2
    · exact I.freeC y b z
  · refine funs_more e0.funs fun b hb => ?_
    cases q : (PySem.W.hideAll s.heap hid).get? b with
    | none => rfl
    | some o =>
      exfalso
      rcases (dn b o q).2 with ⟨u, z⟩ | ⟨y, z⟩
      · have z2 := (e0.funs.mem hb).1
        rw [z] at z2
        cases z2
      · rcases List.mem_cons.mp (I.stkSub b hb) with e | e
        · exact I.cne y b z e
        · obtain ⟨_, o2, ho2, _⟩ := I.ok.funs.mem e
          exact absurd (Nat.lt_of_lt_of_le (Heap.lt_size ho2) (I.ok.cab y b (hfn y) z)) (Nat.lt_irrefl _)
  · refine ⟨o, PySem.W.hideAll_get hid ho fun hm => ?_, hd⟩
    have z := (List.mem_filter.mp hm).2
    rw [hC2 y c e] at z
    simp at z
/-- what the cells hold, told of the ground -/
abbrev CellsIn (cl : List (Str × Addr)) (fr : List Str) (ws : List (Option V)) (g : Heap) : Prop := NdefX.CellsAt cl fr ws g fun _ => none
theorem cells_in {X : Cx} {b2 : Heap} {H : Hp} {s : Shared} {cl : List (Str × Addr)} {fr : List Str} {ws : List (Option V)} (C : NdefX.CellsAt cl fr ws s.heap H) (hs : ∀ y c, cl.lookup y = some c → ∃ y', X.env.cells.lookup y' = some c)
    (k : ∀ y c, X.env.cells.lookup y = some c → ∀ v, s.heap.IsCell c v → b2.IsCell c v) : CellsIn cl fr ws b2 := by
  have k2 : ∀ y c, cl.lookup y = some c → ∀ v, s.heap.IsCell c v → b2.IsCell c v := fun y c e v z => by
    obtain ⟨y', e'⟩ := hs y c e
    exact k y' c e' v z
  refine ⟨C.len, fun y c e => ?_, C.inj, fun i y e => ?_⟩
  · obtain ⟨_, v, z⟩ := C.all y c e
    exact ⟨rfl, v, k2 y c e v z⟩
  · obtain ⟨c, hc, hv⟩ := C.has i y e
    refine ⟨c, hc, fun v ev => ?_⟩
    obtain ⟨u, r, z⟩ := hv v ev
    exact ⟨u, r, k2 y c hc _ z⟩
theorem cells_out {b2 : Heap} {H : Hp} {h : Heap} {cl : List (Str × Addr)} {fr : List Str} {ws : List (Option V)} (C : CellsIn cl fr ws b2) (bs : ∀ b o, b2.get? b = some o → h.get? b = some o ∧ H b = none) : NdefX.CellsAt cl fr ws h H := by
  have k : ∀ c v, b2.IsCell c v → h.IsCell c v ∧ H c = none := fun c v ⟨o, ho, hd⟩ => ⟨⟨o, (bs c o ho).1, hd⟩, (bs c o ho).2⟩
  refine ⟨C.len, fun y c e => ?_, C.inj, fun i y e => ?_⟩
  · obtain ⟨_, v, z⟩ := C.all y c e
    exact ⟨(k c _ z).2, v, (k c _ z).1⟩
  · obtain ⟨c, hc, hv⟩ := C.has i y e
    refine ⟨c, hc, fun v ev => ?_⟩
    obtain ⟨u, r, z⟩ := hv v ev
    exact ⟨u, r, (k c _ z).1⟩
/-- what a call of the lambda does, by what its cells hold -/
def LamRun (P : Program) (w : World) (K : PySem.W.Frag) (mg : Str → Option Value) (base : Heap) (k : Nat) (l : LF) (dvs : List V) (fr : List Str) (tb : List (Option V) → XK → Hp → VK → Prop) : Prop :=
  ∀ (A : Around) (outer : List Env) (s : Shared) (H : Hp) (f : Addr) (ws : List (Option V)) (Q : VK) (E : XK), Room k A → Env0 P w K mg base A outer s H → LamAt H f l dvs → NdefX.CellsAt l.F.cl fr ws s.heap H → tb ws E H Q →
    codeAny (model P w) A (.call (.ref f) ⟨[], []⟩) (CR (L2.CX P w) outer P w H s Q E) s
/-- what its parameters are bound to -/
def LamBinds (P : Program) (w : World) (l : LF) (dvs : List V) (ps : List Str) : Prop :=
  ∀ (s : Shared) (H : Hp) (f : Addr), HOk P w H s.heap → LamAt H f l dvs → ∀ doc pm ctv : Value, ∃ us, Vals dvs us ∧ BindsTo s (l.fd doc pm ctv) ⟨[], []⟩ (ps.zip us)
theorem lam_run {P : Program} {w : World} {K : PySem.W.Frag} {mg : Str → Option Value} {base : Heap} {k : Nat} {l : LF} {dvs : List V} {N ps fr : List Str} {tb : XK → TE} (S : NdefX.NScope N ps fr l.F.scope) (hl : dvs.length = ps.length) (hb : LamBinds P w l dvs ps)
    (hbody : ∀ (A : Around) (outer : List Env) (s : Shared) (H : Hp) (E : XK) (f : Addr), Room k (A.deeper (NdefX.envF l.F f s.heap.objs.size)) → PE (NdefX.ncx (L2.CX P w) P w K mg base N l.F f A outer s H E) l.e (tb E)) :
    LamRun P w K mg base (k + 1) l dvs fr fun ws E H Q => tb E (NdefX.startF N dvs ws) H Q := by
  intro A outer s H f ws Q E hr e0 la C h
  obtain ⟨doc, pm, ctv, ho⟩ := lamO_at e0.hok la.fn
  obtain ⟨us, r, hbd⟩ := hb s H f e0.hok la doc pm ctv
  have lim : s.heap.NoLimit := e0.mod.nolimit.keeps fun b o e => (e0.bs b o e).1
  refine PySem.W.kla_callFunE hr.depth ho rfl S.co S.gen rfl (NdefX.codeO_at e0.hok la.co) ?_
  refine hbd _ _ _ _ (wpAny_newFunctionEnv S.nocell (fun ⟨n, _⟩ hy => S.par n (List.of_mem_zip hy).1) (fun h₁ hns hsb => ⟨lim.fresh _ hsb, ?_⟩) S.kind)
  show codeAny _ _ (.expr l.e (NdefX.envF l.F f s.heap.objs.size)) _ _
  have kp : ∀ b o, s.heap.get? b = some o → h₁.get? b = some o := fun b o e => hsb.extBut b o (Nat.ne_of_lt (Heap.lt_size e)) (Heap.get?_push_of_some _ e)
  have I : Inv (NdefX.ncx (L2.CX P w) P w K mg base N l.F f A outer s H E) [] (NdefX.startF N dvs ws) H { s with heap := h₁, toks := s.toks + (ps.zip us).length } := NdefX.inv_startN S hr.hd e0 hl r C hns kp
  refine PySem.W.kla_codeExpr (wpAny_mono ((hbody A outer s H E f (hr.deeper _)).run [] _ _ H Q I h) (fun v s' hq => ?_) fun e s' hq => hq)
  obtain ⟨w', H', J', rv, q⟩ := hq
  exact ⟨w', H', J'.os, J'.bare, J'.base, J'.hok, rv, q⟩
theorem binds_0 {P : Program} {w : World} {l : LF} (h : l.dV = .none → ∀ doc pm ctv : Value, bindArgs (l.fd doc pm ctv) ⟨[], []⟩ = pure []) : LamBinds P w l [] [] := fun s H f _ la doc pm ctv => by
  rcases la.df with ⟨_, e⟩ | ⟨n, _⟩
  · exact ⟨[], .nil, BindsTo.of_eq (h e doc pm ctv)⟩
  · exact absurd rfl n
theorem binds_1 {P : Program} {w : World} {l : LF} {x : V} {p : Str} (h : ∀ doc pm ctv : Value, ∃ k : Option (Array Value) → Sem (List (Str × Value)), bindArgs (l.fd doc pm ctv) ⟨[], []⟩ = seqItems? l.dV >>= k ∧ ∀ u : Value, k (some #[u]) = pure [(p, u)]) : LamBinds P w l [x] [p] := by
  intro s H f ok la doc pm ctv
  rcases la.df with ⟨z, _⟩ | ⟨_, T, e1, e2⟩
  · cases z
  · obtain ⟨_, its, r, ob, hob, _, n, hd⟩ := ok T _ e2
    cases r with
    | cons r rr =>
      cases rr
      obtain ⟨k, h1, h2⟩ := h doc pm ctv
      exact ⟨[_], .cons r .nil, BindsTo.of_defaults (T := T) (o := ob) (n := n) (k := k) e1 hob hd h1 (h2 _)⟩
section
variable {Z : Cx}
/-- a(), a a local that holds the lambda; the ground tells what its cells hold -/
theorem pe_ask {base : Heap} {k : Nat} {f : Addr} {l : LF} {dvs : List V} {fr : List Str} {ws : List (Option V)} {tb : List (Option V) → XK → Hp → VK → Prop} {a : Str} {E : XK} {p1 p2 : Pos} (lr : LamRun Z.prog Z.w Z.K Z.mg base k l dvs fr tb) (C : CellsIn l.F.cl fr ws Z.base)
    (m : Mod Z.K Z.mg base) (sub : ∀ b o, base.get? b = some o → Z.base.get? b = some o) (sz : base.objs.size ≤ Z.base.objs.size) (hr : Room k Z.A) (hx : Passes (L2.CX Z.prog Z.w) Z E) (hN : Z.N[0]? = some a) (hv : Vis Z.env.scope a) (hd : (a == ("__debug__" : Str)) = false) (hcd : (a == ("__classdict__" : Str)) = false) :
    PE Z (.Call (.Name a p1) [] [] p2) (fun σ H Q => σ[0]? = some (some (.ref f)) ∧ H l.F.c = some (LamX.CodeO l.F.c l.F.qual) ∧ LamAt H f l dvs ∧ tb ws E H Q) := by
  refine ⟨fun pins s σ H Q I h => ?_⟩
  obtain ⟨hs, hc, la, ht⟩ := h
  refine wpAny_Call_Name_kw (thn ((pe_var (pos := p1) (i := 0) hN hv hd hcd).run pins s σ H (fun v H1 => v = .ref f ∧ H1 = H) I ⟨.ref f, hs, rfl, rfl⟩) fun u s1 ⟨v, H1, I1, r1, q1⟩ => ?_)
  obtain ⟨ev, eH⟩ := q1
  subst ev
  rw [eH] at I1
  obtain rfl : u = Value.ref f := r1
  obtain ⟨doc, pm, ctv, ho⟩ := lamO_at I1.hok la.fn
  refine PySem.W.callWith_F0 (first := []) ⟨_, _, _, _, ho⟩ ?_
  show wpAny _ _ (call (.ref f) []) _ _ _
  refine wpAny_call (codeAny_mono (lr Z.A Z.stack s1 H f ws Q E hr (env0_less I1.env0 m sub sz) la (cells_out C I1.bs) ht) fun r s' hq => ?_)
  cases r with
  | error e => exact hx pins σ H s1 e s' I1 hq
  | ok fl =>
    cases fl with
    | ret u => exact I1.after hq
    | next => exact False.elim hq
    | brk => exact False.elim hq
    | cont => exact False.elim hq
end
/-- x(y) where y holds a lambda that x calls and whose errors it takes -/
def LamIt (P : Program) (w : World) (K : PySem.W.Frag) (mg : Str → Option Value) (base b2 : Heap) (k : Nat) (cs : List Value) (f : Addr) (H : Hp) (Q : VK) : Prop := ∃ (l : LF) (dvs : List V) (fr : List Str) (ws : List (Option V)) (tb : List (Option V) → XK → Hp → VK → Prop),
  LamAt H f l dvs ∧ LamRun P w K mg base k l dvs fr tb ∧ CellsIn l.F.cl fr ws b2 ∧ ∃ Q0 : VK, TTry K cs (tb ws) H Q0 ∧ ∀ v H', Q0 v H' → Q v H'
def tItem (P : Program) (w : World) (K : PySem.W.Frag) (mg : Str → Option Value) (base b2 : Heap) (k : Nat) (cs : List Value) (i : Nat) : TE := fun σ H Q => ∃ f : Addr, σ[i]? = some (some (.ref f)) ∧ LamIt P w K mg base b2 k cs f H Q
section
variable {X : Cx}
theorem pe_item {base : Heap} {k i : Nat} {cs : List Value} {x a y : Str} {g : Addr} {pg : Arguments} {bg : List Stmt} {sg : Scope} {dV kV doc pm cdv ct oc : Value} {an od : Option Addr} {osl : Array (Option Value)} {Ng : List Str} {p py pos : Pos}
    (m : Mod X.K X.mg base) (sub : ∀ b o, base.get? b = some o → X.base.get? b = some o) (sz : base.objs.size ≤ X.base.objs.size)
    (hg : Gl X x) (hm : X.mg x = some (.ref g)) (hk : PySem.W.keepIn X.K (.ref g) = true) (lk : X.K.lookup g = some ⟨oc, od, .func (PySem.W.fnOf x x pg bg sg dV kV doc pm an cdv ct), osl⟩) (hcg : PySem.W.codeIn X.K cdv x = true)
    (hb : L2.Binds X.K (PySem.W.fnOf x x pg bg sg dV kV doc pm an cdv ct) [a] []) (Sg : FnScope Ng [a] sg) (hNg : Ng[0]? = some a) (hva : Vis sg a) (hG : ∀ q : Str, LamX.GivesTo X Ng x sg g cdv bg a q (TTry X.K cs)) (hr : Room (k + 1) X.A)
    (hN : X.N[i]? = some y) (hv : Vis X.env.scope y)
    (hdb : (x == ("__debug__" : Str)) = false := by decide) (hd : (a == ("__debug__" : Str)) = false := by decide) (hcd : (a == ("__classdict__" : Str)) = false := by decide) (hyd : (y == ("__debug__" : Str)) = false := by decide) (hyc : (y == ("__classdict__" : Str)) = false := by decide) :
    PE X (.Call (.Name x p) [.Name y py] [] pos) (tItem X.prog X.w X.K X.mg base X.base k cs i) := by
  refine ⟨fun pins s σ H Q I h => ?_⟩
  obtain ⟨f, hs, l, dvs, fr, ws, tb, la, lr, C, Q0, ht, hQ⟩ := h
  refine wpAny_Call_Name_kw (ld_glob I hg hm ?_ hdb)
  refine PySem.W.callWith_K (h₀ := X.base) I.ok.mod.kin hk ?_ (by rfl) (by rfl)
  show wpAny _ _ (spliced ((false, eval (.Name y py) X.env) :: backTo pos (starEach [] X.env))) _ _ s
  refine Calls.spliced_cons (thn ((pe_var (pos := py) (i := i) hN hv hyd hyc).run pins s σ H (fun v H1 => v = .ref f ∧ H1 = H) I ⟨.ref f, hs, rfl, rfl⟩) fun u s1 ⟨v, H1, I1, r1, q1⟩ => ?_)
  obtain ⟨ev, eH⟩ := q1
  subst ev
  rw [eH] at I1
  obtain rfl : u = Value.ref f := r1
  refine Calls.spliced_nil ⟨I1.kIn, ?_⟩
  have rc : codeAny (model X.prog X.w) X.A (.call (.ref g) ⟨[.ref f], []⟩) (CR C8.CX0 X.stack X.prog X.w H s1 Q0 C8.E0) s1 := by
    refine LamX.run_ofS (N := Ng) (ps := [a]) (us := [.ref f]) (vs := [.ref f]) lk hcg Sg hr I1.env0 (hb s1 [.ref f] I1.kIn rfl) (.cons rfl .nil) rfl fun hr' => ?_
    obtain ⟨t', ht', hq'⟩ := hG l.F.qual f l.F.c s1 H Q0 (fun E H' Q' => LamAt H' f l dvs ∧ tb ws E H' Q') (fun W pn xe E p1 p2 tk hW => pe_ask (Z := (cxOf C8.CX0 X.prog X.w X.K X.mg X.base Ng x sg g cdv X.A X.stack s1 H C8.E0).tr pn xe) (base := base) lr C m sub sz hr' (passes_call tk hW) hNg hva hd hcd)
      la.co ⟨la, ht⟩
    exact ⟨t', ht'.nox, hq'⟩
  refine wpAny_call (codeAny_mono rc fun r s2 hq => ?_)
  cases r with
  | error e => exact (show False from hq).elim
  | ok fl =>
    cases fl with
    | ret u =>
      obtain ⟨v, H', I', rv, q⟩ := I1.after hq
      exact ⟨v, H', I', rv, hQ v H' q⟩
    | next => exact False.elim hq
    | brk => exact False.elim hq
    | cont => exact False.elim hq
end
/-- the list l of the lambdas fs, walked; D the new list -/
def ChainI (it : Addr → Hp → VK → Prop) (l D : Addr) (all : List V) (Q : VK) : List Addr → List V → Hp → Prop
  | [], _, H => Q (.ref D) H
  | f :: r, acc, H => it f H fun v H1 => H1 l = some (.lst all) ∧ H1 D = some (.lst acc) ∧ ChainI it l D all Q r (acc ++ [v]) (upd H1 D (.lst (acc ++ [v])))
def sp_tries (P : Program) (w : World) (K : PySem.W.Frag) (mg : Str → Option Value) (base b2 : Heap) (k : Nat) (cs : List Value) : Sp := fun vs H Q _ => ∃ (l : Addr) (fs : List Addr), vs = [.ref l] ∧ fs.length < sizeLine ∧ H l = some (.lst (fs.map V.ref)) ∧
  ∀ D, H D = none → ChainI (LamIt P w K mg base b2 k cs) l D (fs.map V.ref) Q fs [] (upd H D (.lst []))
/-- [x(y) for y in l], the list's items by turns -/
theorem chain_walk {P : Program} {w : World} {K : PySem.W.Frag} {mg : Str → Option Value} {base b2 : Heap} {k : Nat} {cs : List Value} {σ : L2.St} {H1 : Hp} {l D : Addr} {fs : List Addr} {vs : List Nat} {i : Nat} {Q : VK} (hi : ∀ x : V, wipe ((wipe σ vs).set i (some x)) vs = wipe σ vs) (hl2 : i < (wipe σ vs).length)
    (sz : fs.length < sizeLine) (nD : H1 D = none) (hl : H1 l = some (.lst (fs.map V.ref))) (h : ChainI (LamIt P w K mg base b2 k cs) l D (fs.map V.ref) Q fs [] (upd H1 D (.lst []))) :
    ∃ W : Nat → Nat → Hp → Prop, (∃ m, W 0 m (upd H1 D (.lst []))) ∧ ∀ j m H, W j m H →
      ((Itl K l).stop j H ∧ Q (.ref D) H) ∨ ((Itl K l).go j H ∧ ∃ Nx : Hp → Prop, (∀ H', Nx H' → ∃ m', m' < m ∧ W (j + 1) m' H') ∧ ∀ x H', (Itl K l).yld j H x H' → gName i x (wipe σ vs) H' fun σ2 H2 => wipe σ2 vs = wipe σ vs ∧ tYes σ2 H2 fun b H3 =>
        if b = true then tItem P w K mg base b2 k cs i σ2 H3 fun y H4 => ∃ acc, H4 D = some (.lst acc) ∧ acc.length < sizeLine ∧ Nx (upd H4 D (.lst (acc ++ [y]))) else Nx H3) := by
  have nl : l ≠ D := ne_of_none hl nD
  refine lc_list (K := K) (a := l) (xs := fs.map V.ref) (fun j H => ∃ acc : List V, acc.length = j ∧ H l = some (.lst (fs.map V.ref)) ∧ H D = some (.lst acc) ∧ ChainI (LamIt P w K mg base b2 k cs) l D (fs.map V.ref) Q (fs.drop j) acc H) ⟨[], rfl, by rw [upd_ne nl]; exact hl, upd_same, h⟩
    (fun j H _ pv => .inl (.inl (by obtain ⟨_, _, z, _⟩ := pv; exact z))) (fun j x H ex pv => ?_) fun H pv => ?_
  · obtain ⟨acc, ha, h1, h2, hc⟩ := pv
    have hj : j < fs.length := by
      have z := (List.getElem?_eq_some_iff.mp ex).1
      rw [List.length_map] at z
      exact z
    have ex2 : x = V.ref fs[j] := by
      rw [List.getElem?_map, List.getElem?_eq_getElem hj] at ex
      exact (Option.some.inj ex).symm
    subst ex2
    rw [List.drop_eq_getElem_cons hj] at hc
    refine ⟨hi _, ?_⟩
    show tItem P w K mg base b2 k cs i _ H _
    refine ⟨fs[j], List.getElem?_set_self hl2, ?_⟩
    obtain ⟨lf, dvs, fr, ws, tb, la, lr, C, ht⟩ := hc
    refine ⟨lf, dvs, fr, ws, tb, la, lr, C, ?_⟩
    obtain ⟨Q0, ht, hQ⟩ := ht
    refine ⟨Q0, ht, fun v H4 q => ?_⟩
    obtain ⟨c1, c2, c3⟩ := hQ v H4 q
    have hlen : acc.length < sizeLine := by omega
    refine ⟨acc, c2, hlen, acc ++ [v], ?_, ?_, upd_same, c3⟩
    · rw [List.length_append, ha]
      rfl
    · rw [upd_ne nl]
      exact c1
  · obtain ⟨acc, ha, h1, h2, hc⟩ := pv
    rw [List.length_map, List.drop_length] at hc
    exact hc
/-- a lambda of the law's list: how it is made, what its call does -/
structure AskS (X : Cx) (k : Nat) where
  lam : Addr → Value → LF
  dvs : List V
  fr : List Str
  js : List Nat
  tb : List (Option V) → XK → Hp → VK → Prop
  run : ∀ c' dV, LamRun X.prog X.w X.K X.mg X.base k (lam c' dV) dvs fr tb
  caps : X.Ok → ∀ c' dV, NdefX.Caps X (lam c' dV).F.cl fr js
/-- told at the law: each lambda of the list l tried, D the new list -/
def ChainL (X : Cx) (k : Nat) (cs : List Value) (σ : L2.St) (l D : Addr) (all : List V) (Q : VK) : List (Addr × AskS X k) → List V → Hp → Prop
  | [], _, H => Q (.ref D) H
  | (f, a) :: r, acc, H => (∃ c' dV, LamAt H f (a.lam c' dV) a.dvs) ∧ TTry X.K cs (a.tb (a.js.map (NdefX.slotAt σ))) H fun v H1 => H1 l = some (.lst all) ∧ H1 D = some (.lst acc) ∧ ChainL X k cs σ l D all Q r (acc ++ [v]) (upd H1 D (.lst (acc ++ [v])))
def tTries {X : Cx} {k : Nat} (cs : List Value) (asks : List (AskS X k)) (t : TA) : TE := fun σ H Q => t σ H fun vs H1 => ∃ (l : Addr) (fs : List Addr), vs = [.ref l] ∧ fs.length = asks.length ∧ H1 l = some (.lst (fs.map V.ref)) ∧
  ∀ D, H1 D = none → ChainL X k cs σ l D (fs.map V.ref) Q (fs.zip asks) [] (upd H1 D (.lst []))
section
variable {X : Cx} {pins : List (Addr × Obj)} {σ : L2.St} {H0 : Hp} {s : Shared} {k : Nat} {cs : List Value} {b2 : Heap}
theorem chain_in (I : Inv X pins σ H0 s) (kc : ∀ y c, X.env.cells.lookup y = some c → ∀ v, s.heap.IsCell c v → b2.IsCell c v) {l D : Addr} {all : List V} {Q : VK} : ∀ (r : List (Addr × AskS X k)) (acc : List V) (H : Hp),
    ChainL X k cs σ l D all Q r acc H → ChainI (LamIt X.prog X.w X.K X.mg X.base b2 k cs) l D all Q (r.map (·.1)) acc H
  | [], _, _, h => h
  | (f, a) :: r, acc, H, ⟨⟨c', dV, la⟩, ht⟩ => by
    have cp := a.caps I.ok c' dV
    refine ⟨a.lam c' dV, a.dvs, a.fr, a.js.map (NdefX.slotAt σ), a.tb, la, a.run c' dV, cells_in (NdefX.cells_of I cp) (fun y c e => ⟨y, cp.sub y c e⟩) kc, _, ht, fun v H1 ⟨q1, q2, q3⟩ => ⟨q1, q2, chain_in I kc r _ _ q3⟩⟩
end
section
variable {X : Cx}
/-- x(e): the lambdas of the list e tried, one by one -/
theorem pe_tries {k kk : Nat} {cs : List Value} {x a : Str} {g : Addr} {fd : FuncData} {e : Expr} {t : TA} {p pos : Pos} (asks : List (AskS X k)) (hn : asks.length < sizeLine) (hfn : ∀ x, X.fn x = true) (hst : X.stack = X.env :: X.outer) (hf : X.env.frame = some X.env.locals)
    (F : ∀ b2 : Heap, Mod X.K X.mg X.base → (∀ b o, X.base.get? b = some o → b2.get? b = some o) → X.base.objs.size ≤ b2.objs.size → FnOk X.prog X.w X.K X.mg b2 C8.CX0 kk g fd [a] (sp_tries X.prog X.w X.K X.mg X.base b2 k cs))
    (hr : Room kk X.A) (hg : Gl X x) (hm : X.mg x = some (.ref g)) (hk : PySem.W.keepIn X.K (.ref g) = true) (hb : L2.Binds X.K fd [a] []) (ha : PA X [e] t)
    (hdb : (x == ("__debug__" : Str)) = false := by decide) (he : starEach [e] X.env = [(false, eval e X.env)] := by rfl) : PE X (.Call (.Name x p) [e] [] pos) (tTries cs asks t) := by
  refine ⟨fun pins s σ H Q I h => ?_⟩
  refine wpAny_Call_Name_kw (ld_glob I hg hm ?_ hdb)
  refine PySem.W.callWith_K (h₀ := X.base) I.ok.mod.kin hk (thn (ha.run pos pins s σ H _ I h) fun us s1 ⟨vs, H1, I1, r, q⟩ => ⟨I1.kIn, ?_⟩) he (by rfl)
  obtain ⟨l, fs, rfl, hl, hH, hc⟩ := q
  obtain ⟨b2, sub, sz, e0, kc⟩ := ground_cells I1 hfn hst hf
  have hlen : us.length = [a].length := by
    rw [← r.length]
    rfl
  have hz : (fs.zip asks).map (·.1) = fs := by
    rw [List.map_fst_zip]
    omega
  have hsp : sp_tries X.prog X.w X.K X.mg X.base b2 k cs [.ref l] H1 Q C8.E0 := ⟨l, fs, rfl, by omega, hH, fun D nD => by
    have z := chain_in (b2 := b2) I1 kc _ _ _ (hc D nD)
    rw [hz] at z
    exact z⟩
  refine wpAny_call (codeAny_mono ((F b2 I1.ok.mod sub sz).run X.A X.stack s1 H1 ⟨us, []⟩ us [.ref l] Q C8.E0 hr e0 (by have z := hb s1 us I1.kIn (by rw [List.append_nil]; exact hlen); rw [List.append_nil] at z; exact z) r hsp) fun r s' hq => ?_)
  cases r with
  | error e => exact (show False from hq).elim
  | ok fl =>
    cases fl with
    | ret u => exact I1.after hq
    | next => exact False.elim hq
    | brk => exact False.elim hq
    | cont => exact False.elim hq
end
end FW
namespace FW
open PySem PySem.Spec PyProof.Rows L2
/-! ### the lambdas of a list, by their texts -/
def lamParts : Expr → Arguments × Expr × Scope
  | .Lambda p b s _ => (p, b, s)
  | e => (⟨[], [], none, [], [], none, []⟩, e, default)
def listOf : Stmt → List Expr
  | .Assign _ (.List es _) _ => es
  | _ => []
section
variable {X : Cx} {k : Nat}
def ask0 (params : Arguments) (body : Expr) (scope : Scope) (N fr : List Str) (js : List Nat) {tb : XK → TE} (hS : NdefX.nscB N [] fr scope = true) (hB : NdefX.ndefB X.env.scope scope fr = true) (hjs : js.map (fun j => X.N[j]?) = fr.map some)
    (hb : ∀ (q : Str) (cl : List (Str × Addr)) (doc pm cv ctv : Value), bindArgs (PySem.W.kdv_fn "<lambda>" q params (.expr body) scope cl .none doc pm cv ctv) ⟨[], []⟩ = pure [])
    (hbody : ∀ (c' : Addr) (dV : Value) (A : Around) (outer : List Env) (s : Shared) (H : Hp) (E : XK) (f : Addr), Room k (A.deeper (NdefX.envF (lamF X params body scope c' dV).F f s.heap.objs.size)) →
      PE (NdefX.ncx (L2.CX X.prog X.w) X.prog X.w X.K X.mg X.base N (lamF X params body scope c' dV).F f A outer s H E) body (tb E)) : AskS X (k + 1) where
  lam := lamF X params body scope
  dvs := []
  fr := fr
  js := js
  tb := fun ws E H Q => tb E (NdefX.startF N [] ws) H Q
  run := fun c' dV => lam_run (tb := tb) (NdefX.nscope_by hS) rfl (binds_0 fun e doc pm ctv => by
    have e : dV = .none := e
    subst e
    exact hb _ _ _ _ _ _) (hbody c' dV)
  caps := fun ok c' dV => NdefX.Caps.made ok (NdefX.ndef_free hB) (NdefX.ndef_fr hB) hjs
def ask1 (params : Arguments) (body : Expr) (scope : Scope) (p : Str) (n : Int) (N fr : List Str) (js : List Nat) {tb : XK → TE} (hS : NdefX.nscB N [p] fr scope = true) (hB : NdefX.ndefB X.env.scope scope fr = true) (hjs : js.map (fun j => X.N[j]?) = fr.map some)
    (hb : ∀ (q : Str) (cl : List (Str × Addr)) (dV doc pm cv ctv : Value), ∃ k : Option (Array Value) → Sem (List (Str × Value)), bindArgs (PySem.W.kdv_fn "<lambda>" q params (.expr body) scope cl dV doc pm cv ctv) ⟨[], []⟩ = seqItems? dV >>= k ∧ ∀ u : Value, k (some #[u]) = pure [(p, u)])
    (hbody : ∀ (c' : Addr) (dV : Value) (A : Around) (outer : List Env) (s : Shared) (H : Hp) (E : XK) (f : Addr), Room k (A.deeper (NdefX.envF (lamF X params body scope c' dV).F f s.heap.objs.size)) →
      PE (NdefX.ncx (L2.CX X.prog X.w) X.prog X.w X.K X.mg X.base N (lamF X params body scope c' dV).F f A outer s H E) body (tb E)) : AskS X (k + 1) where
  lam := lamF X params body scope
  dvs := [.int n]
  fr := fr
  js := js
  tb := fun ws E H Q => tb E (NdefX.startF N [.int n] ws) H Q
  run := fun c' dV => lam_run (tb := tb) (NdefX.nscope_by hS) rfl (binds_1 fun doc pm ctv => hb _ _ _ _ _ _ _) (hbody c' dV)
  caps := fun ok c' dV => NdefX.Caps.made ok (NdefX.ndef_free hB) (NdefX.ndef_fr hB) hjs
end
/-! ### o.m(k = e, ..) -/
section
variable {X : Cx} {CX : CXT} {k j : Nat} {f C : Addr} {fd : FuncData} {ps ks : List Str} {sp : Sp} {E : XK} {m : Str} {pos apos : Pos} {o : Expr} {kws : List Keyword} {ta : TE} {tk : TA} {g : List Value → List Value → List Value} {gV : List V → List V → List V}
def tMethK (C : Addr) (m : Str) (sp : Sp) (gV : List V → List V → List V) (E : XK) (ta : TE) (tk : TA) : TE := fun σ H Q => ta σ H fun x H1 => ∃ a dx fs, x = .ref a ∧ H1 a = some (.ins C dx fs) ∧ fs.lookup m = none ∧ tk σ H1 fun zs H2 => sp (gV [x] zs) H2 Q E
theorem pe_methK0 {pl : Sem Bool} (he : PE X o ta) (c : Cls X.K C) (hm : Meth X.K C m f) (F : FnOk X.prog X.w X.K X.mg X.base CX k f fd ps sp) (hr : Room k X.A) (hb : KBinds X.K fd ps ks g gV) (hx : Passes CX X E) (hkw : PK X kws tk)
    (hall : (backToKw pos (keywordEach kws X.env)).all (·.1.isSome) = true := by rfl) (hks : (backToKw pos (keywordEach kws X.env)).filterMap (·.1) = ks := by rfl) (hpl : ((backTo pos (starEach [] X.env)).any (·.1) || (backToKw pos (keywordEach kws X.env)).any (·.1.isNone)) = false := by rfl)
    (ht : eval (.Call (.Attribute o m apos) [] kws pos) X.env = (do
      let ov ← eval o X.env
      standAt apos.atName
      let (f, first) ← holding [ov] (getMethod ov m pl)
      callWith pos f first (backTo pos (starEach [] X.env)) (backToKw pos (keywordEach kws X.env))) := by rfl) :
    PE X (.Call (.Attribute o m apos) [] kws pos) (tMethK C m sp gV E ta tk) := by
  refine ⟨fun pins s σ H Q I h => ?_⟩
  refine PySem.W.methodCall_KW (pl := pl) (thn (he.run pins s σ H _ I h) fun u s1 ⟨x, H1, I1, rx, a, dx, fs, ex, ea, l, q⟩ => ?_) ht
  subst ex
  obtain rfl : u = Value.ref a := rx
  refine getmeth_ok I1 ea c hm l ?_
  refine PySem.W.callWith_KW0 (first := [.ref a]) (h₀ := X.base) I1.ok.mod.kin hm.kp hall (thn (hkw.run pos pins s1 σ H1 _ I1 q) fun ws s2 ⟨zs, H2, I2, rz, q2⟩ => ⟨I2.kIn, ?_⟩) hpl
  rw [hks]
  exact run_fnk (us := [.ref a]) (vs := [.ref a]) F hr hb hx I2 (.cons rfl .nil) rz q2
structure MCalK (P : Program) (w : World) (K : PySem.W.Frag) (mg : Str → Option Value) (base : Heap) (CX : CXT) (C : Addr) (k : Nat) (m : Str) (ps ks : List Str) (g : List Value → List Value → List Value) (gV : List V → List V → List V) (sp : Sp) : Prop where
  ex : ∃ (f : Addr) (fd : FuncData), Meth K C m f ∧ FnOk P w K mg base CX k f fd ps sp ∧ KBinds K fd ps ks g gV
theorem pe_mk0 {pl : Sem Bool} (c : MCalK X.prog X.w X.K X.mg X.base CX0 C k m ps ks g gV sp) (hC : Cls X.K C) (hr : Room j X.A) (hk : k ≤ j) (he : PE X o ta) (hkw : PK X kws tk)
    (hall : (backToKw pos (keywordEach kws X.env)).all (·.1.isSome) = true := by rfl) (hks : (backToKw pos (keywordEach kws X.env)).filterMap (·.1) = ks := by rfl) (hpl : ((backTo pos (starEach [] X.env)).any (·.1) || (backToKw pos (keywordEach kws X.env)).any (·.1.isNone)) = false := by rfl)
    (ht : eval (.Call (.Attribute o m apos) [] kws pos) X.env = (do
      let ov ← eval o X.env
      standAt apos.atName
      let (f, first) ← holding [ov] (getMethod ov m pl)
      callWith pos f first (backTo pos (starEach [] X.env)) (backToKw pos (keywordEach kws X.env))) := by rfl) :
    PE X (.Call (.Attribute o m apos) [] kws pos) (tMethK C m sp gV E0 ta tk) := by
  obtain ⟨f, fd, hm, F, b⟩ := c.ex
  exact pe_methK0 he hC hm F (hr.mono hk) b pass0 hkw hall hks hpl ht
end
def swp1 {α : Type} : List α → List α → List α
  | [a], [u, v] => [a, v, u]
  | _, _ => []
theorem swp1_vals {vs : List V} {us : List Value} {zs : List V} {ws : List Value} (r : Vals vs us) (q : Vals zs ws) : Vals (swp1 vs zs) (swp1 us ws) := by
  cases r with
  | nil => exact .nil
  | cons r0 rr =>
    cases rr with
    | cons _ _ => exact .nil
    | nil =>
      cases q with
      | nil => exact .nil
      | cons q0 qq =>
        cases qq with
        | nil => exact .nil
        | cons q1 qqq =>
          cases qqq with
          | nil => exact .cons r0 (.cons q1 (.cons q0 .nil))
          | cons _ _ => exact .nil
theorem kbm_swap {K : PySem.W.Frag} {x qual : Str} {st : Stmt} {f : Addr} {fd : FuncData} {p0 p1 p2 : Str} (F : Fun K x qual st f fd)
    (h : ∀ (kV doc pm : Value) (an : Option Addr) (cdv ct : Value) (a u v : Value), bindArgs (PySem.W.fnOf x qual (defArgs st) (defBody st) (defScope st) .none kV doc pm an cdv ct) ⟨[a], [(p2, u), (p1, v)]⟩ = pure [(p0, a), (p1, v), (p2, u)]) :
    KBinds K fd [p0, p1, p2] [p2, p1] swp1 swp1 := by
  obtain ⟨oc, od, kV, doc, pm, an, cdv, ct, osl, rfl, lk, hcd⟩ := F.ex
  refine ⟨fun s us ws _ hl => ?_, fun r q => swp1_vals r q⟩
  match us, ws, hl with
  | [a], [u, v], _ => exact .of_eq (h kV doc pm an cdv ct a u v)
  | [], ws, hl => exact absurd (show 0 = 3 from hl) (by decide)
  | [_], [], hl => exact absurd (show 0 = 3 from hl) (by decide)
  | [_], [_], hl => exact absurd (show 0 = 3 from hl) (by decide)
  | [_], _ :: _ :: _ :: _, hl => exact absurd (show 0 = 3 from hl) (by decide)
  | _ :: _ :: _, ws, hl => exact absurd (show 0 = 3 from hl) (by decide)
/-- an error class of the program that the law's own try takes; f: what its error bears -/
structure ErrF (K : PySem.W.Frag) (mg : Str → Option Value) (C : Addr) (f z : String) (cs : List Value) : Prop where
  kls : ∃ fI, Kls K mg C fI z
  nf : PySem.W.findIn K (.ref C) (Str.ofString f) = some none
  hex : PySem.W.exmAny K (.ref C) cs = some true
  fi : ∀ v, FieldIs K C [("code", .str (Str.ofString z)), (Str.ofString f, v)] (Str.ofString z) v
abbrev ErrK (K : PySem.W.Frag) (mg : Str → Option Value) (C : Addr) (z : String) (cs : List Value) : Prop := ErrF K mg C "given" z cs
def givenB (z : Str) : Bool := !decide (z ∈ (["InvalidLine", "InvalidStep", "InvalidTable", "InvalidBad", "InvalidPlan", "UnknownRoom"] : List Str)) && !decide (z ∈ (["TooMany", "Full"] : List Str)) && !decide (z ∈ (["InvalidText", "InvalidPage"] : List Str)) && !decide (z = "UnknownState") && !decide (z ∈ (["InvalidPaper", "OtherFaces", "OtherCutters", "NothingLeft"] : List Str))
theorem fi_given {K : PySem.W.Frag} {C : Addr} {z : Str} (h : givenB z = true) (nf : PySem.W.findIn K (.ref C) (Str.ofString "given") = some none) (v : V) : FieldIs K C [("code", .str z), (Str.ofString "given", v)] z v := by
  unfold givenB at h
  simp only [Bool.and_eq_true, Bool.not_eq_true', decide_eq_false_iff_not] at h
  obtain ⟨⟨⟨⟨h1, h2⟩, h3⟩, h4⟩, h5⟩ := h
  unfold FieldIs
  rw [if_neg h1, if_neg h2, if_neg h3, if_neg h4, if_neg h5]
  exact ⟨nf, rfl⟩
theorem fi_at {K : PySem.W.Frag} {C : Addr} {z : Str} (h : decide (z ∈ (["InvalidLine", "InvalidStep", "InvalidTable", "InvalidBad", "InvalidPlan", "UnknownRoom"] : List Str)) = true) (nf : PySem.W.findIn K (.ref C) (Str.ofString "at") = some none) (v : V) : FieldIs K C [("code", .str z), (Str.ofString "at", v)] z v := by
  unfold FieldIs
  rw [if_pos (of_decide_eq_true h)]
  exact ⟨nf, rfl⟩
/-- what the law's try makes of such an error -/
theorem ErrF.tried {K : PySem.W.Frag} {mg : Str → Option Value} {C : Addr} {f z : String} {cs : List Value} {Q : VK} {H1 : Hp} {v : V} {d : Addr} (T : ErrF K mg C f z cs) (nd : H1 d = none) (h : ∀ H2 p, Same H1 H2 → H2 p = none → Q (.ref p) (upd H2 p (.tup [.str (Str.ofString z), v]))) :
    PySem.W.exmAny K (.ref C) cs = some true ∧ ∀ a, (upd H1 d (Err1 f z v)) a = none → ∃ (z' : Str) (v' : V), Caught K (upd (upd H1 d (Err1 f z v)) a (ExK (.ref C) (some d) a)) a z' v' ∧ ∀ H2, Same (upd (upd H1 d (Err1 f z v)) a (ExK (.ref C) (some d) a)) H2 → ∀ p, H2 p = none → Q (.ref p) (upd H2 p (.tup [.str z', v'])) := by
  obtain ⟨fI, k⟩ := T.kls
  refine ⟨T.hex, fun a na => ⟨Str.ofString z, v, ?_, fun H2 s2 p np => h H2 p (((same_upd nd).trans (same_upd na)).trans s2) np⟩⟩
  have hne : d ≠ a := fun e => by
    rw [← e, upd_same] at na
    cases na
  exact ⟨C, d, _, upd_same, (upd_ne hne).trans upd_same, k.xf, k.ncode, rfl, T.fi v⟩
end FW
namespace FW
open PySem PySem.Spec PyProof.Rows L2
/-! ### helpers of many laws -/
theorem lastOf {α : Type} {l : List α} (h : 0 < l.length) : ∃ i z, l = i ++ [z] := ⟨l.dropLast, l.getLast (List.ne_nil_of_length_pos h), (List.dropLast_concat_getLast _).symm⟩
theorem atI_lst {α : Type} {i : List α} {z : α} : atI (i ++ [z]) (-1) = some z := by
  have h : ixN (i ++ [z]).length (-1) = some i.length := by
    unfold ixN
    rw [List.length_append]
    show (if (0 : Int) ≤ -1 then _ else _) = _
    rw [if_neg (by omega), if_pos (by show -((i.length + 1 : Nat) : Int) ≤ -1; omega)]
    congr 1
    show ((-1 : Int) + ((i.length + 1 : Nat) : Int)).toNat = i.length
    omega
  unfold atI
  rw [h]
  show (i ++ [z])[i.length]? = some z
  rw [List.getElem?_append_right (Nat.le_refl _), Nat.sub_self]
  rfl
theorem rep_flat {α : Type} (x : α) (k : Nat) : (List.replicate (k : Int).toNat [x]).flatten = List.replicate k x := by
  rw [Int.toNat_natCast]
  induction k with
  | zero => rfl
  | succ k ih => rw [List.replicate_succ, List.replicate_succ, List.flatten_cons, ih]; rfl
/-- a comprehension over the signs of a text: tests and items that leave the heap -/
theorem lc_strP {z : Str} {σ : L2.St} {vs : List Nat} {H1 : Hp} {D : Addr} {Qd : Hp → Prop} {i : Nat} {tt : TT} {te : TE} (t : Nat → Bool) (v : Nat → V) (nD : H1 D = none) (hz : z.cps.size < sizeLine) (hw : ∀ x : V, wipe ((wipe σ vs).set i (some x)) vs = wipe σ vs)
    (hT : ∀ c ∈ z.cps.toList, ∀ H, Same H1 H → ∀ R : Bool → Hp → Prop, R (t c) H → tt ((wipe σ vs).set i (some (sgn c))) H R)
    (hE : ∀ c ∈ z.cps.toList, t c = true → ∀ H, Same H1 H → ∀ R : VK, R (v c) H → te ((wipe σ vs).set i (some (sgn c))) H R)
    (q : Qd (upd H1 D (.lst ((z.cps.toList.filter t).map v)))) :
    ∃ W : Nat → Nat → Hp → Prop, (∃ m, W 0 m (upd H1 D (.lst []))) ∧ ∀ j m H, W j m H →
      ((Its z).stop j H ∧ Qd H) ∨ ((Its z).go j H ∧ ∃ Nx : Hp → Prop, (∀ H', Nx H' → ∃ m', m' < m ∧ W (j + 1) m' H') ∧ ∀ x H', (Its z).yld j H x H' → gName i x (wipe σ vs) H' fun σ2 H2 => wipe σ2 vs = wipe σ vs ∧ tt σ2 H2 fun b H3 =>
        if b = true then te σ2 H3 fun y H4 => ∃ acc, H4 D = some (.lst acc) ∧ acc.length < sizeLine ∧ Nx (upd H4 D (.lst (acc ++ [y]))) else Nx H3) := by
  refine lc_it walk_str (fun i H' => H' = upd H1 D (.lst (((z.cps.toList.take i).filter t).map v))) rfl (fun _ _ _ _ => trivial) ?_ ?_
  · rintro j x _ _ hj rfl ⟨rfl, c, hc, rfl⟩
    have hc1 : z.cps.toList[j]? = some c := by rw [Array.getElem?_toList]; exact hc
    have e : z.cps.toList.take (j + 1) = z.cps.toList.take j ++ [c] := by
      rw [List.take_add_one, hc1]
      rfl
    have hm := List.mem_of_getElem? hc1
    refine ⟨hw _, hT c hm _ (same_upd nD) _ ?_⟩
    rw [e, List.filter_append, List.filter_cons]
    cases h : t c with
    | true =>
      rw [if_pos rfl]
      refine hE c hm h _ (same_upd nD) _ ⟨_, upd_same, ?_, ?_⟩
      · rw [List.length_map]
        refine Nat.lt_of_le_of_lt (List.length_filter_le _ _) (Nat.lt_of_le_of_lt (List.length_take_le' _ _) hz)
      · rw [upd_upd, if_pos rfl, List.map_append]
        rfl
    | false =>
      rw [if_neg Bool.false_ne_true, if_neg Bool.false_ne_true, List.filter_nil, List.append_nil]
  · rintro _ rfl
    rw [List.take_of_length_le (show z.cps.toList.length ≤ z.cps.size from Nat.le_refl _)]
    exact q
/-- the same over a list -/
theorem lc_listP {K : PySem.W.Frag} {a : Addr} {xs : List V} {σ : L2.St} {vs : List Nat} {H1 : Hp} {D : Addr} {Qd : Hp → Prop} {i : Nat} {tt : TT} {te : TE} (t : V → Bool) (v : V → V) (ha : SqL K H1 a xs) (nD : H1 D = none) (hz : xs.length < sizeLine) (hw : ∀ x : V, wipe ((wipe σ vs).set i (some x)) vs = wipe σ vs)
    (hT : ∀ x ∈ xs, ∀ H, Same H1 H → ∀ R : Bool → Hp → Prop, R (t x) H → tt ((wipe σ vs).set i (some x)) H R)
    (hE : ∀ x ∈ xs, t x = true → ∀ H, Same H1 H → ∀ R : VK, R (v x) H → te ((wipe σ vs).set i (some x)) H R)
    (q : Qd (upd H1 D (.lst ((xs.filter t).map v)))) :
    ∃ W : Nat → Nat → Hp → Prop, (∃ m, W 0 m (upd H1 D (.lst []))) ∧ ∀ j m H, W j m H →
      ((Itl K a).stop j H ∧ Qd H) ∨ ((Itl K a).go j H ∧ ∃ Nx : Hp → Prop, (∀ H', Nx H' → ∃ m', m' < m ∧ W (j + 1) m' H') ∧ ∀ x H', (Itl K a).yld j H x H' → gName i x (wipe σ vs) H' fun σ2 H2 => wipe σ2 vs = wipe σ vs ∧ tt σ2 H2 fun b H3 =>
        if b = true then te σ2 H3 fun y H4 => ∃ acc, H4 D = some (.lst acc) ∧ acc.length < sizeLine ∧ Nx (upd H4 D (.lst (acc ++ [y]))) else Nx H3) := by
  refine lc_it (walk_list (xs := xs)) (fun i H' => H' = upd H1 D (.lst (((xs.take i).filter t).map v))) rfl (fun j H' _ e => by rw [e]; exact (same_upd nD).seq ha) ?_ ?_
  · rintro j x _ H' hj rfl ⟨rfl, hc1⟩
    have e : xs.take (j + 1) = xs.take j ++ [x] := by
      rw [List.take_add_one, hc1]
      rfl
    have hm := List.mem_of_getElem? hc1
    refine ⟨hw _, hT x hm _ (same_upd nD) _ ?_⟩
    rw [e, List.filter_append, List.filter_cons]
    cases h : t x with
    | true =>
      rw [if_pos rfl]
      refine hE x hm h _ (same_upd nD) _ ⟨_, upd_same, ?_, ?_⟩
      · rw [List.length_map]
        refine Nat.lt_of_le_of_lt (List.length_filter_le _ _) (Nat.lt_of_le_of_lt (List.length_take_le' _ _) hz)
      · rw [upd_upd, if_pos rfl, List.map_append]
        rfl
    | false =>
      rw [if_neg Bool.false_ne_true, if_neg Bool.false_ne_true, List.filter_nil, List.append_nil]
  · rintro _ rfl
    rw [List.take_of_length_le (Nat.le_refl _)]
    exact q
section
variable {K : PySem.W.Frag}
/-- a value of some kind, no error's own -/
structure OddX (K : PySem.W.Frag) (H : Hp) (v : V) (d : PyData) : Prop where
  kind : (isStr v = true ∧ (strOf v).cps.size ≤ 100) ∨ NS H v
  dp : Dp K H v d
  deep : ∀ n, Deep (n + 1) d
theorem OddX.same {H H' : Hp} {v : V} {d : PyData} (o : OddX K H v d) (s : Same H H') : OddX K H' v d := ⟨o.kind.imp id fun n => n.same s, Dp.same s o.dp, o.deep⟩
theorem OddX.ext {H H' : Hp} {v : V} {d : PyData} (o : OddX K H v d) (e : LamX.ExtN H H') : OddX K H' v d := ⟨o.kind.imp id fun n => ns_ext e n, dp_ext e o.dp, o.deep⟩
theorem OddX.askd {H : Hp} {v : V} {d : PyData} (o : OddX K H v d) : Askd K H v := o.kind.elim (fun h => .inl ⟨h.1, Nat.le_trans h.2 (by decide)⟩) fun n => .inr n.not
theorem oddX_str {H : Hp} {z : Str} (h : z.cps.size ≤ 100) : OddX K H (.str z) (.str z) := ⟨.inl ⟨rfl, h⟩, .str z, fun _ => by unfold Deep; trivial⟩
theorem oddX_non {H : Hp} : OddX K H .non .none := ⟨.inr (.inl rfl), .non, fun _ => by unfold Deep; trivial⟩
theorem oddX_int {H : Hp} (n : Int) : OddX K H (.int n) (.int n) := ⟨.inr (.inr (.inl ⟨_, rfl⟩)), .int n, fun _ => by unfold Deep; trivial⟩
theorem oddX_bl {H : Hp} (c : Bool) : OddX K H (.bl c) (.bool c) := ⟨.inr (.inr (.inr (.inl ⟨_, rfl⟩))), .bl c, fun _ => by unfold Deep; trivial⟩
theorem oddX_lst {H : Hp} {p : Addr} (zs : List Str) (h : H p = some (.lst (zs.map V.str))) (hl : zs.length ≤ 100) : OddX K H (.ref p) (.list (zs.map PyData.str)) :=
  ⟨.inr (.inr (.inr (.inr (.inl ⟨p, _, rfl, h⟩)))), .lst (SqL.of h) (dp_strs zs), fun n => deep_strs (by omega)⟩
theorem oddX_tup {H : Hp} {p : Addr} (zs : List Str) (h : H p = some (.tup (zs.map V.str))) (hl : zs.length ≤ 100) : OddX K H (.ref p) (.tuple (zs.map PyData.str)) :=
  ⟨.inr (.inr (.inr (.inr (.inr ⟨p, _, rfl, h⟩)))), .tup (SqT.of h) (dp_strs zs), fun n => by
    unfold Deep
    refine ⟨by rw [List.length_map]; omega, fun d hd => ?_⟩
    obtain ⟨c, _, rfl⟩ := List.mem_map.mp hd
    unfold Deep
    trivial⟩
/-- the same, and it stays while the bag alone changes -/
def OddD (K : PySem.W.Frag) (b : Addr) (H : Hp) (v : V) (d : PyData) : Prop := ∀ H', But b H H' → OddX K H' v d
theorem OddD.now {H : Hp} {b : Addr} {v : V} {d : PyData} (o : OddD K b H v d) : OddX K H v d := o H (Same.refl H).but
theorem OddD.drawn {H H' : Hp} {b : Addr} {v : V} {d : PyData} (o : OddD K b H v d) (s : But b H H') : OddD K b H' v d := fun H2 s2 => o H2 (s.trans s2)
theorem OddD.same {H H' : Hp} {b : Addr} {v : V} {d : PyData} (o : OddD K b H v d) (s : Same H H') : OddD K b H' v d := o.drawn s.but
theorem oddD_of {H : Hp} {b : Addr} {v : V} {d : PyData} (h : ∀ H', OddX K H' v d) : OddD K b H v d := fun H' _ => h H'
theorem oddD_lst {H : Hp} {b p : Addr} (zs : List Str) (n : p ≠ b) (h : H p = some (.lst (zs.map V.str))) (hl : zs.length ≤ 100) : OddD K b H (.ref p) (.list (zs.map PyData.str)) := fun H' s => oddX_lst zs (s _ _ n h) hl
theorem oddD_tup {H : Hp} {b p : Addr} (zs : List Str) (n : p ≠ b) (h : H p = some (.tup (zs.map V.str))) (hl : zs.length ≤ 100) : OddD K b H (.ref p) (.tuple (zs.map PyData.str)) := fun H' s => oddX_tup zs (s _ _ n h) hl
theorem ns_letter {H : Hp} {v : V} (n : NS H v) (L : List Nat) : bLetter v L = false := by
  unfold bLetter
  rw [(n.not (K := default)).1]
  rfl
theorem str_room {l F : List Nat} (h : l.length ≠ 4 ∨ ∃ c ∈ l, c ∉ F) : bRoom (.str (S l)) (S F) = false := by
  unfold bRoom
  rcases h with h | ⟨c, hc, hF⟩
  · rw [show decide ((strOf (V.str (S l))).cps.size = 4) = false from decide_eq_false h, Bool.and_false]
  · rw [show bString (.str (S l)) (S F) = false from by
      unfold bString
      rw [show ((strOf (V.str (S l))).cps.toList.all fun c => decide (c ∈ (S F).cps.toList)) = false from by
        rw [List.all_eq_false]
        exact ⟨c, hc, by simpa using hF⟩]
      rfl, Bool.false_and]
theorem str_letter {l L : List Nat} (h : l.length ≠ 1 ∨ ∃ c, l = [c] ∧ c ∉ L) : bLetter (.str (S l)) L = false := by
  unfold bLetter
  rcases h with h | ⟨c, rfl, hc⟩
  · rw [show decide ((strOf (V.str (S l))).cps.size = 1) = false from decide_eq_false h]
    rfl
  · rw [show decide ((strOf (V.str (S [c]))).cps.toList.getD 0 0 ∈ L) = false from decide_eq_false hc, Bool.and_false]
/-- a number or None as data -/
def dOptN : Option Nat → PyData
  | some i => .int (i : Nat)
  | none => .none
theorem deep_non {n : Nat} : Deep n .none := by unfold Deep; trivial
theorem deep_bool {n : Nat} {b : Bool} : Deep n (.bool b) := by unfold Deep; trivial
theorem deep_int {n : Nat} {i : Int} : Deep n (.int i) := by unfold Deep; trivial
theorem deep_str {n : Nat} {z : Str} : Deep n (.str z) := by unfold Deep; trivial
theorem deep_tup {n : Nat} {ds : List PyData} (h : ds.length ≤ 1000) (q : ∀ d ∈ ds, Deep n d) : Deep (n + 1) (.tuple ds) := by
  unfold Deep
  exact ⟨h, q⟩
theorem deep_optN {n : Nat} (o : Option Nat) : Deep n (dOptN o) := by
  cases o
  · exact deep_non
  · exact deep_int
theorem deep_mono : ∀ (n : Nat) {d : PyData}, Deep n d → Deep (n + 1) d
  | n, .none, _ => deep_non
  | n, .bool _, _ => deep_bool
  | n, .int _, _ => deep_int
  | n, .str _, _ => deep_str
  | 0, .list _, h => by unfold Deep at h; exact h.elim
  | 0, .tuple _, h => by unfold Deep at h; exact h.elim
  | n + 1, .list ds, h => by
    unfold Deep at h
    exact deep_list h.1 fun d hd => deep_mono n (h.2 d hd)
  | n + 1, .tuple ds, h => by
    unfold Deep at h
    exact deep_tup h.1 fun d hd => deep_mono n (h.2 d hd)
  | 0, .dict _, h => by unfold Deep at h; exact h.elim
  | n + 1, .dict _, h => by unfold Deep at h; exact h.elim
end
end FW
namespace FW
open PySem PySem.Spec PyProof.Rows L2
/-! ### the lambdas of a list, tried one by one: what is told of each -/
section
variable {X : Cx} {k : Nat} {cs : List Value} {σ : L2.St}
/-- one lambda of the list: D is the list that is filled -/
def OneAsk (cs : List Value) (σ : L2.St) (Hn : Hp) (D : Addr) (fa : Addr × AskS X k) (d : PyData) : Prop :=
  ∀ H, Same Hn H → (∃ acc, H D = some (.lst acc)) → (∃ c' dV, LamAt H fa.1 (fa.2.lam c' dV) fa.2.dvs) ∧
    ∀ Q' : VK, (∀ H' v, Same H H' → (∀ Hx, But D H' Hx → Dp X.K Hx v d) → Q' v H') → TTry X.K cs (fa.2.tb (fa.2.js.map (NdefX.slotAt σ))) H Q'
def AllAsk (cs : List Value) (σ : L2.St) (Hn : Hp) (D : Addr) : List (Addr × AskS X k) → List PyData → Prop
  | [], [] => True
  | fa :: r, d :: ds => OneAsk cs σ Hn D fa d ∧ AllAsk cs σ Hn D r ds
  | _, _ => False
theorem dpAll_snoc {K : PySem.W.Frag} {H : Hp} : ∀ {vs : List V} {ds : List PyData} {v : V} {d : PyData}, DpAll K H vs ds → Dp K H v d → DpAll K H (vs ++ [v]) (ds ++ [d])
  | _, _, _, _, .nil, h => .cons h .nil
  | _, _, _, _, .cons a t, h => .cons a (dpAll_snoc t h)
theorem chain_run {Hn : Hp} {l D : Addr} {all : List V} {Q : VK} (nD : Hn D = none) (hl : Hn l = some (.lst all)) : ∀ (r : List (Addr × AskS X k)) (ds : List PyData) (acc : List V) (dacc : List PyData) (H : Hp), Same Hn H → H D = some (.lst acc) →
    (∀ Hx, But D H Hx → DpAll X.K Hx acc dacc) → AllAsk cs σ Hn D r ds → (∀ H' vs, Same Hn H' → H' D = some (.lst vs) → DpAll X.K H' vs (dacc ++ ds) → Q (.ref D) H') → ChainL X k cs σ l D all Q r acc H
  | [], [], acc, dacc, H, s, hD, hd, _, q => q H acc s hD (by rw [List.append_nil]; exact hd H fun _ _ _ e => e)
  | [], _ :: _, _, _, _, _, _, _, a, _ => a.elim
  | _ :: _, [], _, _, _, _, _, _, a, _ => a.elim
  | (f, a) :: r, d :: ds, acc, dacc, H, s, hD, hd, ⟨h1, h2⟩, q => by
    obtain ⟨la, ht⟩ := h1 H s ⟨acc, hD⟩
    refine ⟨la, ht _ fun H' v s' hv => ⟨s' _ _ (s _ _ hl), s' _ _ hD, ?_⟩⟩
    have sn : Same Hn (upd H' D (.lst (acc ++ [v]))) := fun c o e => (upd_ne (ne_of_none e nD)).trans (s' _ _ (s _ _ e))
    refine chain_run nD hl r ds (acc ++ [v]) (dacc ++ [d]) _ sn upd_same (fun Hx bx => ?_) h2 (fun H2 vs s2 h2 hd2 => q H2 vs s2 h2 (by rw [List.append_assoc] at hd2; exact hd2))
    have b1 : But D H' Hx := fun c o n e => bx c o n ((upd_ne n).trans e)
    exact dpAll_snoc (hd Hx fun c o n e => b1 c o n (s' _ _ e)) (hv Hx b1)
theorem tries_run {H1 : Hp} {l : Addr} {fs : List Addr} {asks : List (AskS X k)} {Q : VK} (ds : List PyData) (hl : H1 l = some (.lst (fs.map V.ref))) (one : ∀ D, H1 D = none → AllAsk cs σ H1 D (fs.zip asks) ds) (q : ∀ H' D, Same H1 H' → H1 D = none → Dp X.K H' (.ref D) (.list ds) → Q (.ref D) H') :
    ∀ D, H1 D = none → ChainL X k cs σ l D (fs.map V.ref) Q (fs.zip asks) [] (upd H1 D (.lst [])) := fun D nD =>
  chain_run nD hl _ ds [] [] _ (same_upd nD) upd_same (fun _ _ => .nil) (one D nD) fun H' vs s hD hd => q H' D s nD (.lst (SqL.of hD) hd)
/-- an ask that raises -/
theorem oneAsk_err {Hn : Hp} {D f : Addr} {a : AskS X k} {mg : Str → Option Value} {C : Addr} {fld z : String} {v : V} {dv : PyData} {c' : Addr} {dV : Value} (T : ErrF X.K mg C fld z cs) (nD : Hn D = none) (la : LamAt Hn f (a.lam c' dV) a.dvs) (hv : Dp X.K Hn v dv)
    (h : ∀ H, Same Hn H → ∀ (E : XK) (Q : VK), (∀ H' d, Same H H' → H' d = none → E (.ref C) (some d) (upd H' d (Err1 fld z v))) → a.tb (a.js.map (NdefX.slotAt σ)) E H Q) : OneAsk cs σ Hn D (f, a) (.tuple [.str (Str.ofString z), dv]) := by
  refine fun H s hD => ⟨⟨c', dV, la.same s⟩, fun Q' q => h H s _ _ fun H' d s' nd => T.tried nd fun H2 p s2 np => ?_⟩
  have st := same_upd (o := HO.tup [.str (Str.ofString z), v]) np
  refine q _ _ (s'.trans (s2.trans st)) fun Hx bx => ?_
  obtain ⟨acc, hD⟩ := hD
  have hpD : p ≠ D := fun e => by
    rw [e, s2 _ _ (s' _ _ hD)] at np
    cases np
  have sx : Same Hn Hx := fun c o e => bx c o (ne_of_none e nD) (st _ _ (s2 _ _ (s' _ _ (s _ _ e))))
  exact .tup (SqT.of (bx _ _ hpD upd_same)) (.cons (.str _) (.cons (Dp.same sx hv) .nil))
/-- an ask that answers -/
theorem oneAsk_ok {Hn : Hp} {D f : Addr} {a : AskS X k} {dv : PyData} {c' : Addr} {dV : Value} (nD : Hn D = none) (la : LamAt Hn f (a.lam c' dV) a.dvs)
    (h : ∀ H, Same Hn H → (∃ acc, H D = some (.lst acc)) → ∀ (E : XK) (Q : VK), (∀ H' v, Same H H' → (∀ Hx, But D H' Hx → Dp X.K Hx v dv) → Q v H') → a.tb (a.js.map (NdefX.slotAt σ)) E H Q) : OneAsk cs σ Hn D (f, a) (.tuple [.str "", dv]) := by
  refine fun H s hD => ⟨⟨c', dV, la.same s⟩, fun Q' q => h H s hD _ _ fun H' v s' hv => ⟨(show 2 ≤ sizeLine by decide), fun p np => ?_⟩⟩
  have st := same_upd (o := HO.tup [.str "", v]) np
  refine q _ _ (s'.trans st) fun Hx bx => ?_
  obtain ⟨acc, hD⟩ := hD
  have hpD : p ≠ D := fun e => by
    rw [e, s' _ _ hD] at np
    cases np
  have b1 : But D H' Hx := fun c o n e => bx c o n (st _ _ e)
  exact .tup (SqT.of (bx _ _ hpD upd_same)) (.cons (.str _) (.cons (hv Hx b1) .nil))
end
end FW
namespace FW
open PySem PySem.Spec PyProof.Rows L2
/-! ### rules with the frag given; methods that take any number of values -/
theorem ix_listE {X : Cx} {K : PySem.W.Frag} (h : X.K = K) : IxR X (rIxL K) := by
  subst h
  exact ix_list
theorem ix_tupE {X : Cx} {K : PySem.W.Frag} (h : X.K = K) : IxR X (rIxT K) := by
  subst h
  exact ix_tup
theorem op_inE {X : Cx} {K : PySem.W.Frag} (h : X.K = K) : OpR X (compareOp .In) (rIn K false) := by
  subst h
  exact op_in_seq
theorem op_notInE {X : Cx} {K : PySem.W.Frag} (h : X.K = K) : OpR X (compareOp .NotIn) (rIn K true) := by
  subst h
  exact op_notIn_seq
theorem sl_tupE {X : Cx} {K : PySem.W.Frag} (h : X.K = K) : SlR X (rSlT K) := by
  subst h
  exact sl_tup
theorem op_catTE {X : Cx} {K : PySem.W.Frag} (h : X.K = K) : OpR X (binaryOp .Add) (rCatT K) := by
  subst h
  exact op_catT
theorem noneS {H H' : Hp} {p : Addr} (s : Same H H') (n : H' p = none) : H p = none := by
  cases z : H p with
  | none => rfl
  | some o =>
    rw [s _ _ z] at n
    cases n
/-- flat values as data -/
def flD : V → PyData
  | .bl b => .bool b
  | .int i => .int i
  | .str z => .str z
  | _ => .none
theorem dp_fl {K : PySem.W.Frag} {H : Hp} {v : V} (h : flatV v = true) : Dp K H v (flD v) := by
  cases v with
  | non => exact .non
  | bl b => exact .bl b
  | int i => exact .int i
  | str z => exact .str z
  | _ => exact absurd (show false = true from h) Bool.false_ne_true
theorem dp_flat {K : PySem.W.Frag} {H : Hp} : ∀ {xs : List V}, xs.all flatV = true → DpAll K H xs (xs.map flD)
  | [], _ => .nil
  | x :: r, h => by
    have h' : (flatV x && r.all flatV) = true := h
    obtain ⟨h1, h2⟩ := Bool.and_eq_true_iff.mp h'
    exact .cons (dp_fl h1) (dp_flat h2)
theorem deep_fl {n : Nat} (v : V) : Deep n (flD v) := by
  cases v <;> first | exact deep_non | exact deep_bool | exact deep_int | exact deep_str
theorem deep_flat {n : Nat} {xs : List V} (h : xs.length ≤ 1000) : Deep (n + 1) (.list (xs.map flD)) := deep_list (by rw [List.length_map]; exact h) fun d hd => by
  obtain ⟨v, _, rfl⟩ := List.mem_map.mp hd
  exact deep_fl v
theorem deep_flatT {n : Nat} {xs : List V} (h : xs.length ≤ 1000) : Deep (n + 1) (.tuple (xs.map flD)) := deep_tup (by rw [List.length_map]; exact h) fun d hd => by
  obtain ⟨v, _, rfl⟩ := List.mem_map.mp hd
  exact deep_fl v
theorem oddX_lstF {K : PySem.W.Frag} {H : Hp} {p : Addr} (xs : List V) (hf : xs.all flatV = true) (h : H p = some (.lst xs)) (hl : xs.length ≤ 100) : OddX K H (.ref p) (.list (xs.map flD)) :=
  ⟨.inr (.inr (.inr (.inr (.inl ⟨p, _, rfl, h⟩)))), .lst (SqL.of h) (dp_flat hf), fun _ => deep_flat (by omega)⟩
theorem oddX_tupF {K : PySem.W.Frag} {H : Hp} {p : Addr} (xs : List V) (hf : xs.all flatV = true) (h : H p = some (.tup xs)) (hl : xs.length ≤ 100) : OddX K H (.ref p) (.tuple (xs.map flD)) :=
  ⟨.inr (.inr (.inr (.inr (.inr ⟨p, _, rfl, h⟩)))), .tup (SqT.of h) (dp_flat hf), fun _ => deep_flatT (by omega)⟩
theorem oddD_lstF {K : PySem.W.Frag} {H : Hp} {b p : Addr} (xs : List V) (hf : xs.all flatV = true) (n : p ≠ b) (h : H p = some (.lst xs)) (hl : xs.length ≤ 100) : OddD K b H (.ref p) (.list (xs.map flD)) := fun H' s => oddX_lstF xs hf (s _ _ n h) hl
theorem oddD_tupF {K : PySem.W.Frag} {H : Hp} {b p : Addr} (xs : List V) (hf : xs.all flatV = true) (n : p ≠ b) (h : H p = some (.tup xs)) (hl : xs.length ≤ 100) : OddD K b H (.ref p) (.tuple (xs.map flD)) := fun H' s => oddX_tupF xs hf (s _ _ n h) hl
/-- asked whether it is a number -/
def AskN (K : PySem.W.Frag) (H : Hp) (v : V) : Prop := isNum v = true ∨ (isNum v = false ∧ NotI K H v)
theorem OddX.askn {K : PySem.W.Frag} {H : Hp} {v : V} {d : PyData} (o : OddX K H v d) : AskN K H v := by
  rcases o.kind with ⟨h, _⟩ | rfl | ⟨i, rfl⟩ | ⟨c, rfl⟩ | ⟨p, xs, rfl, h⟩ | ⟨p, xs, rfl, h⟩
  · obtain ⟨z, rfl⟩ := str_of h
    exact .inr ⟨rfl, "str", .base (.str z), by decide +kernel⟩
  · exact .inr ⟨rfl, "NoneType", .base .non, by decide +kernel⟩
  · exact .inl rfl
  · exact .inl rfl
  · exact .inr ⟨rfl, "list", .base (.lst h), by decide +kernel⟩
  · exact .inr ⟨rfl, "tuple", .base (.tup h), by decide +kernel⟩
section
variable {X : Cx} {CX : CXT} {k j : Nat} {f C : Addr} {sp : Sp} {E : XK} {m : Str} {o e : Expr} {es : List Expr} {ta : TE} {t : TA} {pos apos : Pos}
def tMethR (C : Addr) (m : Str) (sp : Sp) (E : XK) (ta : TE) (t : TA) : TE := fun σ H Q => ta σ H fun x H1 => ∃ a dx fs, x = .ref a ∧ H1 a = some (.ins C dx fs) ∧ fs.lookup m = none ∧ t σ H1 fun vs H2 => sp (V.ref a :: vs) H2 Q E
/-- o.m(e, ..), m told of by what it is called with -/
theorem pe_methR {pl : Sem Bool} (he : PE X o ta) (c : Cls X.K C) (hm : Meth X.K C m f) (F : FnR X.prog X.w X.K X.mg X.base CX k f sp) (hr : Room k X.A) (hx : Passes CX X E) (ha : PA X (e :: es) t)
    (hst : starEach (e :: es) X.env = (false, eval e X.env) :: starEach es X.env := by rfl) (hpl : (backTo pos (starEach es X.env)).any (·.1) = false := by rfl)
    (ht : eval (.Call (.Attribute o m apos) (e :: es) [] pos) X.env = (do
      let ov ← eval o X.env
      standAt apos.atName
      let (f, first) ← holding [ov] (getMethod ov m pl)
      callWith pos f first (backTo pos (starEach (e :: es) X.env)) (backToKw pos (keywordEach [] X.env))) := by rfl) :
    PE X (.Call (.Attribute o m apos) (e :: es) [] pos) (tMethR C m sp E ta t) := by
  refine ⟨fun pins s σ H Q I h => ?_⟩
  refine PySem.W.methodCall_KW (pl := pl) (thn (he.run pins s σ H _ I h) fun u s1 ⟨x, H1, I1, rx, a, dx, fs, ex, ea, l, q⟩ => ?_) ht
  subst ex
  obtain rfl : u = Value.ref a := rx
  refine getmeth_ok I1 ea c hm l ?_
  refine PySem.W.callWith_K (first := [.ref a]) (h₀ := X.base) I.ok.mod.kin hm.kp (thn (ha.run pos pins s1 σ H1 _ I1 q) fun us s2 ⟨vs, H2, I2, r, q2⟩ => ⟨I2.kIn, ?_⟩) hst hpl
  exact wpAny_call (L2.run_fnR (us := .ref a :: us) (vs := .ref a :: vs) F hr hx I2 (.cons rfl r) q2)
/-- o.m() -/
theorem pe_methR0 {pl : Sem Bool} (he : PE X o ta) (c : Cls X.K C) (hm : Meth X.K C m f) (F : FnR X.prog X.w X.K X.mg X.base CX k f sp) (hr : Room k X.A) (hx : Passes CX X E)
    (ht : eval (.Call (.Attribute o m apos) [] [] pos) X.env = (do
      let ov ← eval o X.env
      standAt apos.atName
      let (f, first) ← holding [ov] (getMethod ov m pl)
      callWith pos f first (backTo pos (starEach [] X.env)) (backToKw pos (keywordEach [] X.env))) := by rfl) :
    PE X (.Call (.Attribute o m apos) [] [] pos) (tMethR C m sp E ta tNil) := by
  refine ⟨fun pins s σ H Q I h => ?_⟩
  refine PySem.W.methodCall_KW (pl := pl) (thn (he.run pins s σ H _ I h) fun u s1 ⟨x, H1, I1, rx, a, dx, fs, ex, ea, l, q⟩ => ?_) ht
  subst ex
  obtain rfl : u = Value.ref a := rx
  refine getmeth_ok I1 ea c hm l ?_
  exact PySem.W.callWith_K0 (first := [.ref a]) I1.kIn hm.kp (wpAny_call (L2.run_fnR (us := [.ref a]) (vs := [.ref a]) F hr hx I1 (.cons rfl .nil) q))
structure MCalR (P : Program) (w : World) (K : PySem.W.Frag) (mg : Str → Option Value) (base : Heap) (CX : CXT) (C : Addr) (k : Nat) (m : Str) (sp : Sp) : Prop where
  ex : ∃ f : Addr, Meth K C m f ∧ FnR P w K mg base CX k f sp
theorem pe_mR {pl : Sem Bool} (c : MCalR X.prog X.w X.K X.mg X.base CX0 C k m sp) (hC : Cls X.K C) (hr : Room j X.A) (hk : k ≤ j) (he : PE X o ta) (ha : PA X (e :: es) t)
    (hst : starEach (e :: es) X.env = (false, eval e X.env) :: starEach es X.env := by rfl) (hpl : (backTo pos (starEach es X.env)).any (·.1) = false := by rfl)
    (ht : eval (.Call (.Attribute o m apos) (e :: es) [] pos) X.env = (do
      let ov ← eval o X.env
      standAt apos.atName
      let (f, first) ← holding [ov] (getMethod ov m pl)
      callWith pos f first (backTo pos (starEach (e :: es) X.env)) (backToKw pos (keywordEach [] X.env))) := by rfl) :
    PE X (.Call (.Attribute o m apos) (e :: es) [] pos) (tMethR C m sp E0 ta t) := by
  obtain ⟨f, hm, F⟩ := c.ex
  exact pe_methR he hC hm F (hr.mono hk) pass0 ha hst hpl ht
theorem pe_mR0 {pl : Sem Bool} (c : MCalR X.prog X.w X.K X.mg X.base CX0 C k m sp) (hC : Cls X.K C) (hr : Room j X.A) (hk : k ≤ j) (he : PE X o ta)
    (ht : eval (.Call (.Attribute o m apos) [] [] pos) X.env = (do
      let ov ← eval o X.env
      standAt apos.atName
      let (f, first) ← holding [ov] (getMethod ov m pl)
      callWith pos f first (backTo pos (starEach [] X.env)) (backToKw pos (keywordEach [] X.env))) := by rfl) :
    PE X (.Call (.Attribute o m apos) [] [] pos) (tMethR C m sp E0 ta tNil) := by
  obtain ⟨f, hm, F⟩ := c.ex
  exact pe_methR0 he hC hm F (hr.mono hk) pass0 ht
theorem pe_mRx {pl : Sem Bool} (c : MCalR X.prog X.w X.K X.mg X.base CX C k m sp) (hC : Cls X.K C) (hr : Room j X.A) (hk : k ≤ j) (hx : Passes CX X E) (he : PE X o ta) (ha : PA X (e :: es) t)
    (hst : starEach (e :: es) X.env = (false, eval e X.env) :: starEach es X.env := by rfl) (hpl : (backTo pos (starEach es X.env)).any (·.1) = false := by rfl)
    (ht : eval (.Call (.Attribute o m apos) (e :: es) [] pos) X.env = (do
      let ov ← eval o X.env
      standAt apos.atName
      let (f, first) ← holding [ov] (getMethod ov m pl)
      callWith pos f first (backTo pos (starEach (e :: es) X.env)) (backToKw pos (keywordEach [] X.env))) := by rfl) :
    PE X (.Call (.Attribute o m apos) (e :: es) [] pos) (tMethR C m sp E ta t) := by
  obtain ⟨f, hm, F⟩ := c.ex
  exact pe_methR he hC hm F (hr.mono hk) hx ha hst hpl ht
end
end FW
/-! list(text) -/
namespace FW
open PySem PySem.Spec PyProof.Rows L2
def rListS : List V → Hp → VK → Prop := fun xs H Q => ∃ z : Str, xs = [V.str z] ∧ z.cps.size ≤ sizeLine ∧ ∀ p, H p = none → Q (.ref p) (upd H p (.lst (z.cps.toList.map sgn)))
theorem call_listS {X : Cx} (hc : X.calm = true) : CallR X (.type "list") rListS := by
  intro pins s σ H xs us Q I r h
  obtain ⟨z, rfl, hz, q⟩ := h
  obtain ⟨u, rfl, t, rfl⟩ := vals1 r
  refine call_list_str (I.ok.hd hc) z t (hn := hz) fun h' tk acc' c' kp hS hacc => ?_
  refine ⟨.ref s.heap.objs.size, upd H s.heap.objs.size (.lst (z.cps.toList.map sgn)), I.laid kp (Nat.le_refl _) (show ObjOk X.prog X.w _ _ _ (.lst (z.cps.toList.map sgn)) from ⟨?_, acc'.toList, c', ?_, ?_⟩), rfl, q _ (I.hok.fresh (Nat.le_refl _))⟩
  · rw [List.length_map]
    exact hz
  · refine vals_of_at (by rw [List.length_map]; simp [hacc.1]) fun j x w h1 h2 => ?_
    obtain ⟨c, y, hc', rfl⟩ := hacc.2 j w (by rw [← Array.getElem?_toList]; exact h2)
    rw [List.getElem?_map, Array.getElem?_toList, hc'] at h1
    cases h1
    exact ⟨y, rfl⟩
  · rw [Array.toArray_toList]
    exact hS
end FW
/-! list(range(n)) -/
namespace FW
open PySem PySem.Spec PyProof.Rows L2
def tListRng (ta : TA) : TE := fun σ H Q => ta σ H fun vs H1 => ∃ n : Nat, vs = [.int (n : Int)] ∧ n ≤ 100000 ∧ ∀ p, H1 p = none → Q (.ref p) (upd H1 p (.lst ((List.range n).map fun i : Nat => V.int (i : Int))))
theorem pe_listRange1 {X : Cx} {a : Expr} {ta : TA} {p q pos cpos : Pos} (hc : X.calm = true) (hg : Gl X "list") (hm : X.mg "list" = none) (hv : bootBuiltins "list" = some (.type "list")) (hg2 : Gl X "range") (hm2 : X.mg "range" = none) (ha : PA X [a] ta)
    (hs2 : starEach [a] X.env = [(false, eval a X.env)] := by rfl)
    (hs : starEach [.Call (.Name "range" q) [a] [] cpos] X.env = (false, eval (.Call (.Name "range" q) [a] [] cpos) X.env) :: starEach [] X.env := by rfl) :
    PE X (.Call (.Name "list" p) [.Call (.Name "range" q) [a] [] cpos] [] pos) (tListRng ta) := by
  refine ⟨fun pins s σ H Q I hq => ?_⟩
  refine wpAny_Call_Name_kw (ld_blt I hg hm hv ?_)
  refine PyProof.Rows.callWith_type1 ?_ hs rfl
  rw [hs]
  show wpAny _ _ (spliced ((false, eval (.Call (.Name "range" q) [a] [] cpos) X.env) :: backTo pos (starEach [] X.env))) _ _ s
  refine Calls.spliced_cons ?_
  refine Call_ (ld_blt I hg2 hm2 boot_range (PyProof.Rows.callWith_type1 (thn (ha.run cpos pins s σ H _ I hq) fun us s1 ⟨vs, H1, I1, r1, q1⟩ => ?_) hs2 rfl))
  obtain ⟨n, e, hn, q⟩ := q1
  subst e
  cases r1 with
  | cons r rr =>
    cases rr
    obtain ⟨t, rfl⟩ := r
    refine call_range_1 ?_
    have I2 : Inv X pins σ H1 { s1 with heap := s1.heap.push { cls := .type "range", data := .fields #[.int 0 s1.toks, .int (n : Int) t, .int 1 (s1.toks + 1)] }, toks := s1.toks + 1 + 1 } := I1.kept fun b o e => Heap.get?_push_of_some _ e
    refine Calls.spliced_nil ?_
    refine call_list_range (n := n) (I2.ok.hd hc) (IsRange.new ..) (small_one (by omega) (by omega) (by omega) (by omega)) (by rw [rangeSize_one]; split <;> omega) (by omega) fun h' tk acc' c' hk hS hacc => ?_
    refine ⟨.ref _, _, I2.laid hk (Nat.le_refl _) (show ObjOk X.prog X.w _ _ _ (.lst ((List.range n).map fun i : Nat => V.int (i : Int))) from ⟨?_, acc'.toList, c', ?_, ?_⟩), rfl, q _ (I2.hok.fresh (Nat.le_refl _))⟩
    · rw [List.length_map, List.length_range]
      exact sz hn
    · refine vals_of_at (by rw [List.length_map, List.length_range]; simp [hacc.1]) fun j x w h1 h2 => ?_
      obtain ⟨y, hy⟩ := hacc.2 j w (by rw [← Array.getElem?_toList]; exact h2)
      rw [List.getElem?_map] at h1
      obtain ⟨i, hi, rfl⟩ := Option.map_eq_some_iff.mp h1
      obtain ⟨h3, h4⟩ := List.getElem?_eq_some_iff.mp hi
      rw [List.getElem_range] at h4
      subst h4
      rw [hy]
      exact ⟨y, by simp⟩
    · rw [Array.toArray_toList]
      exact hS
theorem sl_listE {X : Cx} {K : PySem.W.Frag} (h : X.K = K) : SlR X (rSlL K) := by
  subst h
  exact sl_list
end FW
/-! what stays, for laws with lambdas -/
namespace FW
open PySem PySem.Spec PyProof.Rows L2
theorem Bag.ext {H H' : Hp} {b l : Addr} (B : Bag H b l) (e : LamX.ExtN H H') : Bag H' b l := by
  obtain ⟨ns, i, r, m, c, h1, h2, q⟩ := B
  exact ⟨ns, i, r, m, c, e _ _ h1 (fun _ z => by cases z), e _ _ h2 (fun _ z => by cases z), q⟩
theorem tabs_drawn {T : List (Addr × Str)} {H H' : Hp} {b l : Addr} (t : LamX.Tabs T H) (B : Bag H b l) (s : But b H H') : LamX.Tabs T H' := fun p hp => by
  obtain ⟨xs, hb⟩ := B.la
  obtain ⟨ps, h1, h2, h3⟩ := t p hp
  refine ⟨ps, s _ _ (fun z => ?_) h1, h2, fun pos cv hc => ?_⟩
  · rw [z, hb] at h1
    cases h1
  · obtain ⟨c, e1, e2⟩ := h3 pos cv hc
    refine ⟨c, e1, s _ _ (fun z => ?_) e2⟩
    rw [z, hb] at e2
    cases e2
theorem ErrF.caught {K : PySem.W.Frag} {mg : Str → Option Value} {C : Addr} {f z : String} {cs : List Value} {H1 : Hp} {v : V} {d a : Addr} (T : ErrF K mg C f z cs) (nd : H1 d = none) (na : (upd H1 d (Err1 f z v)) a = none) : Caught K (upd (upd H1 d (Err1 f z v)) a (ExK (.ref C) (some d) a)) a (Str.ofString z) v := by
  obtain ⟨fI, k⟩ := T.kls
  have hne : d ≠ a := fun e => by
    rw [← e, upd_same] at na
    cases na
  exact ⟨C, d, _, upd_same, (upd_ne hne).trans upd_same, k.xf, k.ncode, rfl, T.fi v⟩
theorem dTI {n : Nat} (z : Str) (d : PyData) (h : Deep (n + 1) d) : Deep (n + 2) (.tuple [.str z, d]) := deep_tup (show 2 ≤ 1000 by decide) fun d' hd => by
  simp only [List.mem_cons, List.not_mem_nil, or_false] at hd
  rcases hd with rfl | rfl
  · exact deep_str
  · exact h
theorem take_some {α : Type} {l : List α} {k i : Nat} {x : α} (h : (l.take k)[i]? = some x) : l[i]? = some x := by
  have hi : i < k := by
    have := (List.getElem?_eq_some_iff.mp h).1
    rw [List.length_take] at this
    omega
  rwa [List.getElem?_take_of_lt hi] at h
theorem made_keep {H : Hp} {x dx : Addr} {o1 o2 : HO} (nx : H x = none) (nd : H dx = none) : Same H (upd (upd H dx o1) x o2) := fun z o hz => (upd_ne (ne_of_none hz nx)).trans ((upd_ne (ne_of_none hz nd)).trans hz)
theorem cutV_fromB {xs : List V} {k : Nat} (h : k ≤ xs.length) : cutV xs (some (k : Int)) none = xs.drop k := by
  unfold cutV
  rw [HT.sIx_none, show HT.sIx xs.length 0 (some (k : Int)) = min k xs.length from HT.sIx_nat xs.length 0 k, Nat.min_eq_left h, List.take_of_length_le]
  rw [List.length_drop]
  exact Nat.le_refl _
end FW
/-! a tuple so many times, once also -/
namespace FW
open PySem PySem.Spec PyProof.Rows L2
theorem tuple_mul1 (l : Addr) (items : Array Value) (n : Nat) (dd : Option Addr) (sl : Array (Option Value)) (u : Tok) (c1 : (items.isEmpty || (1 : Int) == 1) = true) :
    Meets (Builtin.«tuple.__mul__» ⟨[.ref l, .int 1 u], []⟩) (fun _ R s => s.heap.get? l = some { cls := .type "tuple", dict := dd, data := .seq items n, slots := sl } ∧ R (.ok (.ret (Value.ref l))) s) :=
  .of_wp fun prog w A R s h => by
    obtain ⟨hp, g, d, tk, os⟩ := s
    obtain ⟨hl, h⟩ := h
    have f1 := AutoSeq1.idx_int
    wp_walk using wpAny_loadPart' hl
    exact ⟨_, rfl, h⟩
def rRepTA (K : PySem.W.Frag) : R2 := fun x y H Q => ∃ l k xs, x = .ref l ∧ y = .int k ∧ SqT K H l xs ∧ xs ≠ [] ∧ 1 ≤ k ∧ k ≤ 1000 ∧ xs.length ≤ 1000 ∧ ∀ H' p, Same H H' → SqT K H' p (List.replicate k.toNat xs).flatten → Q (.ref p) H'
theorem op_repTA {X : Cx} : OpR X (binaryOp .Mult) (rRepTA X.K) := by
  intro pins s σ H x y v u Q I rx ry h
  obtain ⟨l, k, xs, rfl, rfl, hT, hne, h1, h2, hz, q⟩ := h
  by_cases hk : 2 ≤ k
  · exact op_repT _ _ _ _ _ _ _ _ _ I rx ry ⟨l, k, xs, rfl, rfl, hT, hne, hk, h2, hz, fun p np => q _ p (same_upd np) (SqT.of upd_same)⟩
  have k1 : k = 1 := by omega
  subst k1
  cases rx
  obtain ⟨t, rfl⟩ := ry
  obtain ⟨its, r, ⟨⟨cls, dd, data, sl⟩, ho, hc, n, hd⟩, hs⟩ := I.tuple hT
  simp only at hc hd
  subst hc hd
  have c1 : (its.toArray.isEmpty || (1 : Int) == 1) = true := by
    rw [show ((1 : Int) == 1) = true from rfl, Bool.or_true]
  refine wpAny_binaryOp_repeat_ref (T := "tuple") (U := "int") (by decide) ⟨_, ho, rfl⟩ (fun s' => typeIs_int s' 1 t) noFill_tuple_mul PySem.F.fills_int_mul PySem.F.slot_int_rmul repeat_tuple PySem.F.slot_int_index.lookup
    (call_meets PySem.F.slot_int_rmul (typeIs_int s 1 t) PySem.F.entry_int_rmul (PySem.F.args_int_rmul_2 _ _) (int_rmul_tuple 1 t l its.toArray n dd sl)
      ⟨ho, rfl, ⟨_, ho, rfl⟩, call_meets PySem.F.slot_tuple_mul ⟨_, ho, rfl⟩ PySem.F.entry_tuple_mul (PySem.F.args_tuple_mul_2 _ _) (tuple_mul1 l its.toArray n dd sl t c1) ⟨ho, ?_⟩⟩)
  refine ⟨.ref l, H, I, rfl, q H l (Same.refl H) ?_⟩
  rw [show (List.replicate (1 : Int).toNat xs).flatten = xs from by
    show (List.replicate 1 xs).flatten = xs
    simp]
  exact hT
end FW
/-! a op b and v in a, by the class's own methods -/
namespace FW
open PySem PySem.Spec PyProof.Rows L2
section
variable {X : Cx} {CX : CXT} {C f : Addr} {n j k : Nat} {sp : Sp} {E : XK}
def rOwnB (C : Addr) (sp : Sp) (E : XK) : R2 := fun x y H Q => ∃ a dx fs, x = .ref a ∧ H a = some (.ins C dx fs) ∧ Kd H y (.ref C) ∧ sp [x, y] H Q E
theorem op_binI {op : Operator} (hs : PySem.W.findIn X.K (.ref C) (PySem.dunder op.info.2) = some (some (.ref f))) (hf : PySem.W.isFn X.K (.ref f) = true) (hc : PySem.W.selfFirst X.K C = true) (F : FnR X.prog X.w X.K X.mg X.base CX n f sp)
    (hr : Room n X.A) (hx : Passes CX X E) : OpR X (binaryOp op) (rOwnB C sp E) := by
  intro pins s σ H x y v u Q I rx ry h
  obtain ⟨a, dx, fs, rfl, ha, kd, q⟩ := h
  cases (show v = Value.ref a from rx)
  obtain ⟨mA, J, _⟩ := ins_get I.hok ha
  obtain ⟨od, J, _⟩ := J.look
  obtain ⟨m, hF⟩ := I.fr
  refine PySem.W.binop_K hF I.ok.mod.kin J (looks_kd I ry kd) hc hs hf ?_
  refine wpAny_mono (wpAny_call (run_fnR (us := [.ref a, u]) (vs := [.ref a, y]) F hr hx I (.cons rfl (.cons ry .nil)) q)) (fun w s' z => ?_) fun _ _ x => x
  obtain ⟨z', H', I', rz, qz⟩ := z
  exact SlX.cmpback rz ⟨z', H', I', rz, qz⟩
def rOwnIn (C : Addr) (sp : Sp) (E : XK) (neg : Bool) : R2 := fun x y H Q => ∃ a dx fs, y = .ref a ∧ H a = some (.ins C dx fs) ∧ sp [y, x] H (fun v H' => ∃ c : Bool, v = .bl c ∧ Q (.bl (c != neg)) H') E
theorem op_inI (hs : PySem.W.findIn X.K (.ref C) "__contains__" = some (some (.ref f))) (hf : PySem.W.isFn X.K (.ref f) = true) (F : FnR X.prog X.w X.K X.mg X.base CX n f sp)
    (hr : Room n X.A) (hx : Passes CX X E) : OpR X (compareOp .In) (rOwnIn C sp E false) := by
  intro pins s σ H x y v u Q I rx ry h
  obtain ⟨a, dx, fs, rfl, ha, q⟩ := h
  cases (show u = Value.ref a from ry)
  obtain ⟨mA, J, _⟩ := ins_get I.hok ha
  obtain ⟨od, J, _⟩ := J.look
  obtain ⟨m, hF⟩ := I.fr
  refine PySem.W.in_K hF I.ok.mod.kin J hs hf ?_
  refine wpAny_mono (wpAny_call (run_fnR (us := [.ref a, v]) (vs := [.ref a, x]) F hr hx I (.cons rfl (.cons rx .nil)) q)) (fun w s' z => ?_) fun _ _ x => x
  obtain ⟨z', H', I', rz, c, rfl, qz⟩ := z
  obtain rfl : w = Value.bool c := rz
  refine wpAny_truthy_bool ⟨.bl c, H', I', rfl, ?_⟩
  cases c <;> exact qz
theorem op_notInI (hs : PySem.W.findIn X.K (.ref C) "__contains__" = some (some (.ref f))) (hf : PySem.W.isFn X.K (.ref f) = true) (F : FnR X.prog X.w X.K X.mg X.base CX n f sp)
    (hr : Room n X.A) (hx : Passes CX X E) : OpR X (compareOp .NotIn) (rOwnIn C sp E true) := by
  intro pins s σ H x y v u Q I rx ry h
  obtain ⟨a, dx, fs, rfl, ha, q⟩ := h
  cases (show u = Value.ref a from ry)
  obtain ⟨mA, J, _⟩ := ins_get I.hok ha
  obtain ⟨od, J, _⟩ := J.look
  obtain ⟨m, hF⟩ := I.fr
  refine PySem.W.notIn_K hF I.ok.mod.kin J hs hf ?_
  refine wpAny_mono (wpAny_call (run_fnR (us := [.ref a, v]) (vs := [.ref a, x]) F hr hx I (.cons rfl (.cons rx .nil)) q)) (fun w s' z => ?_) fun _ _ x => x
  obtain ⟨z', H', I', rz, c, rfl, qz⟩ := z
  obtain rfl : w = Value.bool c := rz
  refine wpAny_truthy_bool ⟨.bl (!c), H', I', rfl, ?_⟩
  cases c <;> exact qz
end
/-- what a class of one's own says of a binary operator -/
structure OwnB (P : Program) (w : World) (K : PySem.W.Frag) (mg : Str → Option Value) (base : Heap) (C : Addr) (op : Operator) (k : Nat) (sp : Sp) : Prop where
  ex : ∃ f : Addr, PySem.W.findIn K (.ref C) (PySem.dunder op.info.2) = some (some (.ref f)) ∧ PySem.W.isFn K (.ref f) = true ∧ FnR P w K mg base CX0 k f sp
  sf : PySem.W.selfFirst K C = true
theorem op_binO {X : Cx} {C : Addr} {op : Operator} {k j : Nat} {sp : Sp} (o : OwnB X.prog X.w X.K X.mg X.base C op k sp) (hr : Room j X.A) (hk : k ≤ j) : OpR X (binaryOp op) (rOwnB C sp E0) := by
  obtain ⟨f, h1, h2, F⟩ := o.ex
  exact op_binI h1 h2 o.sf F (hr.mono hk) pass0
end FW
/-! x(e, ..), x an instance whose class says `__call__` -/
namespace FW
open PySem PySem.Spec PyProof.Rows L2
/-- the callee an instance: who keeps it, asked when the values are there -/
theorem callee_inst {M : Model} {A : Around} {E Q : Value → Shared → Prop} {s : Shared} {pos : Pos} {a : Addr} {vs : List (Bool × Sem Value)} (pl : (vs.any (·.1)) = false)
    (h : wpAny M A (evalArgs (.ref a) true vs []) (fun g s1 => (∃ ox : Obj, s1.heap.get? a = some ox ∧ ox.data = .plain) ∧ wpAny M A (call (.ref a) g.pos g.kw) Q E s1) E s) : wpAny M A (callWith pos (.ref a) [] vs []) Q E s := by
  unfold callWith
  refine wpAny_bind (wpAny_holding (wpAny_mono h (fun g s1 hg => ?_) fun _ _ z => z))
  obtain ⟨⟨ox, e1, e2⟩, hc⟩ := hg
  refine wpAny_bind (PySem.wpAny_standAt ?_)
  have kp : PySem.W.Looks M s1.heap (keeperOf (.ref a)) .caller := (PySem.W.Looks.ld (part := none) e1).andThen (by simp only [e2]; exact .now)
  have pl2 : (vs.any (·.1) || ([] : List (Option Str × Sem Value)).any (·.1.isNone)) = false := by rw [pl]; rfl
  simp only [pl2]
  refine wpAny_bind (kp.here ?_)
  refine wpAny_bind (wpAny_mono (PySem.wpAny_operateT hc) (fun r s2 z => ?_) fun _ _ z => z)
  exact wpAny_bind (wpAny_holding (wpAny_point (wpAny_pure z)))
section
variable {X : Cx} {CX : CXT} {C f : Addr} {n : Nat} {sp : Sp} {E : XK} {o e : Expr} {es : List Expr} {pos : Pos} {to : TE} {t : TA}
def tCallO (C : Addr) (sp : Sp) (E : XK) (to : TE) (t : TA) : TE := fun σ H Q => to σ H fun x H1 => ∃ a, x = .ref a ∧ t σ H1 fun vs H2 => ∃ dx fs, H2 a = some (.ins C dx fs) ∧ sp (.ref a :: vs) H2 Q E
theorem pe_callO (ho : PE X o to) (hs : PySem.W.findIn X.K (.ref C) "__call__" = some (some (.ref f))) (hf : PySem.W.isFn X.K (.ref f) = true) (hfn : PySem.W.fnIn X.K f = true) (F : FnR X.prog X.w X.K X.mg X.base CX n f sp) (hr : Room n X.A) (hx : Passes CX X E) (ha : PA X (e :: es) t)
    (hev : eval (.Call o (e :: es) [] pos) X.env = (do callWith pos (← eval o X.env) [] (backTo pos (starEach (e :: es) X.env)) (backToKw pos (keywordEach [] X.env))) := by rfl)
    (hse : starEach (e :: es) X.env = (false, eval e X.env) :: starEach es X.env := by rfl) (hpl : (backTo pos (starEach es X.env)).any (·.1) = false := by rfl) : PE X (.Call o (e :: es) [] pos) (tCallO C sp E to t) := by
  refine ⟨fun pins s σ H Q I hq => ?_⟩
  refine Call_ (thn (ho.run pins s σ H _ I hq) fun u s1 ⟨x, H1, I1, rx, a, ex, q1⟩ => ?_) hev
  subst ex
  obtain rfl : u = Value.ref a := rx
  have h2 := ha.run pos pins s1 σ H1 _ I1 q1
  rw [hse] at h2 ⊢
  refine callee_inst (by show (false || (backTo pos (starEach es X.env)).any (·.1)) = false; rw [hpl]; rfl) (PySem.Calls.evalArgs_plain (thn h2 fun us s2 ⟨vs, H2, I2, rv, dx, fs, hi, q2⟩ => ?_))
  obtain ⟨mA, J, _⟩ := ins_get I2.hok hi
  obtain ⟨od, J, _⟩ := J.look
  refine ⟨⟨_, J.at_, rfl⟩, ?_⟩
  refine wpAny_call (PySem.W.kco_code I2.kIn J rfl hs hf hfn ?_)
  exact run_fnR (us := .ref a :: us) (vs := .ref a :: vs) F hr hx I2 (.cons rfl rv) q2
end
end FW
namespace FW
open PySem PySem.Spec PyProof.Rows L2
-- more
section
variable {P : Program} {w : World} {K : PySem.W.Frag} {mg : Str → Option Value} {base : Heap}
/-! a machine's reading -/
def stepM (F : List Nat) (M : List (List Nat)) (st c : Nat) : Nat := ((M[st]?.getD [])[F.idxOf c]?).getD 0
def runM (F : List Nat) (M : List (List Nat)) (st : Nat) (w : List Nat) : Nat := w.foldl (stepM F M) st
theorem runM_snoc {F : List Nat} {M : List (List Nat)} {st : Nat} {w : List Nat} {c : Nat} : runM F M st (w ++ [c]) = stepM F M (runM F M st w) c := by
  unfold runM
  rw [List.foldl_append]
  rfl
theorem stepM_lt {F : List Nat} {M : List (List Nat)} (h : TabOk F.length M) {st c : Nat} (hs : st < M.length) (hc : c ∈ F) : stepM F M st c < M.length := by
  obtain ⟨h1, h2⟩ := h.rows M[st] (List.getElem_mem hs)
  have hi : F.idxOf c < M[st].length := by
    rw [h1]
    exact List.idxOf_lt_length_iff.mpr hc
  unfold stepM
  rw [List.getElem?_eq_getElem hs, Option.getD_some, List.getElem?_eq_getElem hi, Option.getD_some]
  exact h2 _ (List.getElem_mem hi)
theorem runM_lt {F : List Nat} {M : List (List Nat)} (h : TabOk F.length M) : ∀ {w : List Nat} {st : Nat}, st < M.length → (∀ c ∈ w, c ∈ F) → runM F M st w < M.length
  | [], _, hs, _ => hs
  | c :: w, st, hs, hw => runM_lt h (w := w) (stepM_lt h hs (hw c List.mem_cons_self)) fun d hd => hw d (List.mem_cons_of_mem _ hd)
theorem idx_least {c : Nat} : ∀ {F : List Nat} {i : Nat}, i < F.idxOf c → ∀ {h : i < F.length}, F[i] ≠ c
  | [], i, hi, h => absurd h (by simp)
  | x :: F, i, hi, h => fun e => by
    by_cases hx : x = c
    · subst hx
      rw [List.idxOf_cons_self] at hi
      exact absurd hi (Nat.not_lt_zero _)
    · have e1 : (x :: F).idxOf c = F.idxOf c + 1 := by
        rw [List.idxOf_cons, show (x == c) = false from beq_eq_false_iff_ne.mpr hx]
        rfl
      rw [e1] at hi
      cases i with
      | zero => exact hx e
      | succ j => exact idx_least (F := F) (i := j) (Nat.lt_of_succ_lt_succ hi) (h := by simpa using h) (by simpa using e)
/-- text.index of a sign of it -/
theorem occ_sign {F : List Nat} {c : Nat} (hc : c ∈ F) : ∃ r, Builtin.Str.occurrences (S F) (⟨#[c]⟩ : Str) 0 (S F).length 1 = F.idxOf c :: r := by
  have hlt := List.idxOf_lt_length_iff.mpr hc
  have at_ : ∀ i, StrLaws.At (S F) (⟨#[c]⟩ : Str) (S F).length i ↔ F[i]? = some c := fun i => StrLaws.subAt_one (S F) c i
  rcases StrLaws.occ_head (S F) (⟨#[c]⟩ : Str) 1 (Nat.le_refl _) with ⟨_, h⟩ | ⟨i, r, e, h1, h2⟩
  · exact absurd ((at_ _).mpr (by rw [List.getElem?_eq_getElem hlt, List.getElem_idxOf])) (h _)
  · refine ⟨r, ?_⟩
    have hi := (at_ _).mp h1
    obtain ⟨hil, hie⟩ := List.getElem?_eq_some_iff.mp hi
    have le1 : F.idxOf c ≤ i := by
      rcases Nat.lt_or_ge i (F.idxOf c) with q | q
      · exact absurd hie (idx_least q)
      · exact q
    have le2 : i ≤ F.idxOf c := by
      rcases Nat.lt_or_ge (F.idxOf c) i with q | q
      · exact absurd ((at_ _).mpr (by rw [List.getElem?_eq_getElem hlt, List.getElem_idxOf])) (h2 _ q)
      · exact q
    rw [e, Nat.le_antisymm le2 le1]
/-- the rows of a table, tuples -/
def RowsT (K : PySem.W.Frag) (H : Hp) (rs : List V) (M : List (List Nat)) : Prop := rs.length = M.length ∧ ∀ (i : Nat) (v : V) (r : List Nat), rs[i]? = some v → M[i]? = some r → ∃ a, v = .ref a ∧ SqT K H a (r.map nI)
theorem rows_cell {K : PySem.W.Frag} {H : Hp} {F : List Nat} {M : List (List Nat)} {rs : List V} (h : TabOk F.length M) (R : RowsT K H rs M) {st c : Nat} (hs : st < M.length) (hc : c ∈ F) :
    ∃ (a : Addr) (r : List Nat), atI rs ((st : Nat) : Int) = some (.ref a) ∧ SqT K H a (r.map nI) ∧ atI (r.map nI) ((F.idxOf c : Nat) : Int) = some (nI (stepM F M st c)) := by
  obtain ⟨h1, h2⟩ := h.rows M[st] (List.getElem_mem hs)
  have hi : F.idxOf c < M[st].length := by
    rw [h1]
    exact List.idxOf_lt_length_iff.mpr hc
  have hrs : st < rs.length := by rw [R.1]; exact hs
  obtain ⟨a, e, ha⟩ := R.2 st rs[st] M[st] (List.getElem?_eq_getElem hrs) (List.getElem?_eq_getElem hs)
  refine ⟨a, M[st], atI_nat (by rw [List.getElem?_eq_getElem hrs, e]), ha, atI_nat ?_⟩
  rw [List.getElem?_map, List.getElem?_eq_getElem hi]
  show some (nI M[st][List.idxOf c F]) = some (nI (stepM F M st c))
  have e2 : stepM F M st c = M[st][List.idxOf c F] := by
    unfold stepM
    rw [List.getElem?_eq_getElem hs, Option.getD_some, List.getElem?_eq_getElem hi, Option.getD_some]
  rw [e2]
end
end FW
namespace FW
open PySem PySem.Spec PyProof.Rows L2
-- more
section
variable {P : Program} {w : World} {K : PySem.W.Frag} {mg : Str → Option Value} {base : Heap}
/-! two tables read side by side -/
abbrev Pr := Nat × Nat
def addP (P : List Pr) (q : Pr) : List Pr := if q ∈ P then P else P ++ [q]
def addAll (P qs : List Pr) : List Pr := qs.foldl addP P
theorem addAll_snoc {P qs : List Pr} {q : Pr} : addAll P (qs ++ [q]) = addP (addAll P qs) q := by
  unfold addAll
  rw [List.foldl_append]
  rfl
theorem addP_pre (P : List Pr) (q : Pr) : P <+: addP P q := by
  unfold addP
  split
  · exact List.prefix_refl _
  · exact List.prefix_append _ _
theorem addAll_pre : ∀ (qs P : List Pr), P <+: addAll P qs
  | [], P => List.prefix_refl _
  | q :: r, P => (addP_pre P q).trans (addAll_pre r (addP P q))
theorem addP_mem {P : List Pr} {q : Pr} : q ∈ addP P q := by
  unfold addP
  split
  · assumption
  · exact List.mem_append_right _ List.mem_cons_self
theorem addAll_mem : ∀ {qs P : List Pr}, ∀ q ∈ qs, q ∈ addAll P qs
  | q0 :: r, P, q, h => by
    rcases List.mem_cons.mp h with rfl | h
    · exact (addAll_pre r (addP P q)).subset addP_mem
    · exact addAll_mem (qs := r) (P := addP P q0) q h
theorem addP_nd {P : List Pr} {q : Pr} (h : P.Nodup) : (addP P q).Nodup := by
  unfold addP
  split
  · exact h
  · rename_i hq
    exact List.nodup_append.mpr ⟨h, List.nodup_cons.mpr ⟨List.not_mem_nil, List.nodup_nil⟩, fun x hx y hy e => hq (by rw [← List.mem_singleton.mp hy, ← e]; exact hx)⟩
theorem addAll_nd : ∀ (qs : List Pr) {P : List Pr}, P.Nodup → (addAll P qs).Nodup
  | [], _, h => h
  | q :: r, _, h => addAll_nd r (addP_nd h)
theorem addAll_in : ∀ (qs : List Pr) {P : List Pr}, ∀ z ∈ addAll P qs, z ∈ P ∨ z ∈ qs
  | [], _, z, h => .inl h
  | q :: r, P, z, h => by
    rcases addAll_in r (P := addP P q) z h with h | h
    · unfold addP at h
      split at h
      · exact .inl h
      · rcases List.mem_append.mp h with h | h
        · exact .inl h
        · exact .inr (by rw [List.mem_singleton.mp h]; exact List.mem_cons_self)
    · exact .inr (List.mem_cons_of_mem _ h)
theorem idx_pre {P P' : List Pr} (h : P <+: P') {q : Pr} (hq : q ∈ P) : P'.idxOf q = P.idxOf q := by
  obtain ⟨t, rfl⟩ := h
  rw [List.idxOf_append, if_pos hq]
def rowP (P qs : List Pr) : List Nat := qs.map fun q => P.idxOf q
theorem rowP_pre {P P' qs : List Pr} (h : P <+: P') (hq : ∀ q ∈ qs, q ∈ P) : rowP P' qs = rowP P qs := List.map_congr_left fun q hm => idx_pre h (hq q hm)
def sides (M1 M2 : List (List Nat)) (q : Pr) : List Pr := (M1[q.1]?.getD []).zip (M2[q.2]?.getD [])
/-- the pairs met and the rows made of the first of them -/
structure JointS (M1 M2 : List (List Nat)) (P : List Pr) (T : List (List Nat)) : Prop where
  nd : P.Nodup
  hd : P[0]? = some (0, 0)
  lt : ∀ q ∈ P, q.1 < M1.length ∧ q.2 < M2.length
  le : T.length ≤ P.length
  done : ∀ i q, i < T.length → P[i]? = some q → (∀ z ∈ sides M1 M2 q, z ∈ P) ∧ T[i]? = some (rowP P (sides M1 M2 q))
section
variable {M1 M2 T : List (List Nat)} {P : List Pr} {n : Nat}
theorem JointS.start (h1 : 0 < M1.length) (h2 : 0 < M2.length) : JointS M1 M2 [(0, 0)] [] :=
  ⟨List.nodup_cons.mpr ⟨List.not_mem_nil, List.nodup_nil⟩, rfl, fun q hq => by rw [List.mem_singleton.mp hq]; exact ⟨h1, h2⟩, Nat.zero_le _, fun i q h => absurd h (Nat.not_lt_zero i)⟩
theorem sides_lt (k1 : TabOk n M1) (k2 : TabOk n M2) {q : Pr} : ∀ z ∈ sides M1 M2 q, z.1 < M1.length ∧ z.2 < M2.length := by
  intro z hz
  have hm := List.of_mem_zip (a := z.1) (b := z.2) hz
  have side : ∀ {M : List (List Nat)} {i x : Nat}, TabOk n M → x ∈ M[i]?.getD [] → x < M.length := by
    intro M i x k h
    cases e : M[i]? with
    | none =>
      rw [e] at h
      cases h
    | some r =>
      rw [e] at h
      exact (k.rows r (List.mem_of_getElem? e)).2 x h
  exact ⟨side k1 hm.1, side k2 hm.2⟩
theorem JointS.next (J : JointS M1 M2 P T) (k1 : TabOk n M1) (k2 : TabOk n M2) {q : Pr} (hq : P[T.length]? = some q) : JointS M1 M2 (addAll P (sides M1 M2 q)) (T ++ [rowP (addAll P (sides M1 M2 q)) (sides M1 M2 q)]) := by
  have pre := addAll_pre (sides M1 M2 q) P
  have at_ : ∀ {i : Nat} {z : Pr}, P[i]? = some z → (addAll P (sides M1 M2 q))[i]? = some z := by
    intro i z h
    obtain ⟨t, e⟩ := pre
    rw [← e, List.getElem?_append_left (List.getElem?_eq_some_iff.mp h).1]
    exact h
  have lt := (List.getElem?_eq_some_iff.mp hq).1
  refine ⟨addAll_nd _ J.nd, at_ J.hd, fun z hz => ?_, ?_, fun i z hi hz => ?_⟩
  · rcases addAll_in _ z hz with h | h
    · exact J.lt z h
    · exact sides_lt k1 k2 z h
  · rw [List.length_append]
    exact Nat.le_trans (show T.length + 1 ≤ P.length from lt) pre.length_le
  · rw [List.length_append] at hi
    have hi' : i < T.length + 1 := hi
    rcases Nat.lt_or_eq_of_le (Nat.le_of_lt_succ hi') with h | rfl
    · have hP : P[i]? = some P[i] := List.getElem?_eq_getElem (by omega)
      have e := (at_ hP).symm.trans hz
      rw [Option.some.inj e] at hP
      obtain ⟨d1, d2⟩ := J.done i z h hP
      exact ⟨fun y hy => pre.subset (d1 y hy), by rw [List.getElem?_append_left h, rowP_pre pre d1]; exact d2⟩
    · obtain rfl := Option.some.inj ((at_ hq).symm.trans hz)
      refine ⟨fun y hy => addAll_mem y hy, ?_⟩
      rw [List.getElem?_append_right (Nat.le_refl _), Nat.sub_self]
      rfl
theorem JointS.run (J : JointS M1 M2 P T) (full : T.length = P.length) {F : List Nat} (k1 : TabOk F.length M1) (k2 : TabOk F.length M2) : ∀ (m : Nat) (w : List Nat), w.length = m → (∀ c ∈ w, c ∈ F) → P[runM F T 0 w]? = some (runM F M1 0 w, runM F M2 0 w)
  | 0, w, hw, _ => by
    rw [List.length_eq_zero_iff.mp hw]
    exact J.hd
  | m + 1, w, hw, hF => by
    have hne : w ≠ [] := fun e => by rw [e] at hw; cases hw
    obtain ⟨v, c, rfl⟩ : ∃ v c, w = v ++ [c] := ⟨w.dropLast, w.getLast hne, (List.dropLast_concat_getLast hne).symm⟩
    have hv : v.length = m := by
      rw [List.length_append] at hw
      exact Nat.succ.inj hw
    have hc : c ∈ F := hF c (List.mem_append_right _ List.mem_cons_self)
    have ih := J.run full k1 k2 m v hv fun d hd => hF d (List.mem_append_left _ hd)
    rw [runM_snoc, runM_snoc, runM_snoc]
    have hb := J.lt _ (List.mem_of_getElem? ih)
    generalize runM F T 0 v = s at ih ⊢
    generalize runM F M1 0 v = a at ih hb ⊢
    generalize runM F M2 0 v = b at ih hb ⊢
    obtain ⟨d1, d2⟩ := J.done s (a, b) (by rw [full]; exact (List.getElem?_eq_some_iff.mp ih).1) ih
    have cell : ∀ {M : List (List Nat)} {i : Nat}, TabOk F.length M → i < M.length → (M[i]?.getD [])[F.idxOf c]? = some (stepM F M i c) := by
      intro M i k hi
      have hr := (k.rows M[i] (List.getElem_mem hi)).1
      have hx : F.idxOf c < (M[i]?.getD []).length := by
        rw [List.getElem?_eq_getElem hi]
        show F.idxOf c < M[i].length
        rw [hr]
        exact List.idxOf_lt_length_iff.mpr hc
      unfold stepM
      rw [List.getElem?_eq_getElem hx]
      rfl
    have hz : (sides M1 M2 (a, b))[F.idxOf c]? = some (stepM F M1 a c, stepM F M2 b c) := by
      unfold sides
      rw [List.getElem?_zip_eq_some]
      exact ⟨cell k1 hb.1, cell k2 hb.2⟩
    have hmem := d1 _ (List.mem_of_getElem? hz)
    have e : stepM F T s c = P.idxOf (stepM F M1 a c, stepM F M2 b c) := by
      show ((T[s]?.getD [])[F.idxOf c]?).getD 0 = _
      rw [d2]
      show ((rowP P (sides M1 M2 (a, b)))[F.idxOf c]?).getD 0 = _
      unfold rowP
      rw [List.getElem?_map, hz]
      rfl
    rw [e, List.getElem?_eq_getElem (List.idxOf_lt_length_iff.mpr hmem), List.getElem_idxOf]
end
theorem none_same {H H' : Hp} {p : Addr} (s : Same H H') (e : H' p = none) : H p = none := by
  cases q : H p with
  | none => rfl
  | some o =>
    rw [s _ _ q] at e
    cases e
/-- the rows as they lie, lists -/
def RowsL (H : Hp) (rs : List V) (M : List (List Nat)) : Prop := rs.length = M.length ∧ ∀ (i : Nat) (v : V) (r : List Nat), rs[i]? = some v → M[i]? = some r → ∃ a, v = .ref a ∧ H a = some (.lst (r.map nI))
theorem RowsL.nil {H : Hp} : RowsL H [] [] := ⟨rfl, fun i v r h => by cases h⟩
theorem RowsL.keep {H H' : Hp} {rs : List V} {M : List (List Nat)} (h : RowsL H rs M) (s : ∀ a xs, H a = some (.lst xs) → (∃ i : Nat, rs[i]? = some (V.ref a)) → H' a = some (.lst xs)) : RowsL H' rs M :=
  ⟨h.1, fun i v r h1 h2 => let ⟨a, e, ha⟩ := h.2 i v r h1 h2; ⟨a, e, s _ _ ha ⟨i, by rw [h1, e]⟩⟩⟩
theorem RowsL.same {H H' : Hp} {rs : List V} {M : List (List Nat)} (h : RowsL H rs M) (s : Same H H') : RowsL H' rs M := h.keep fun _ _ e _ => s _ _ e
theorem RowsL.snoc {H : Hp} {rs : List V} {M : List (List Nat)} {t : Addr} {r : List Nat} (h : RowsL H rs M) (e : H t = some (.lst (r.map nI))) : RowsL H (rs ++ [.ref t]) (M ++ [r]) := by
  refine ⟨by rw [List.length_append, List.length_append, h.1]; rfl, fun i v r' h1 h2 => ?_⟩
  by_cases hi : i < rs.length
  · rw [List.getElem?_append_left hi] at h1
    rw [List.getElem?_append_left (by rw [← h.1]; exact hi)] at h2
    exact h.2 i v r' h1 h2
  · have hi2 : i = rs.length := by
      obtain ⟨hlt, _⟩ := List.getElem?_eq_some_iff.mp h1
      rw [List.length_append] at hlt
      simp at hlt
      omega
    subst hi2
    rw [List.getElem?_append_right (Nat.le_refl _), Nat.sub_self] at h1
    rw [h.1, List.getElem?_append_right (Nat.le_refl _), Nat.sub_self] at h2
    cases h1
    cases h2
    exact ⟨t, rfl, e⟩
theorem RowsL.tab {K : PySem.W.Frag} {H : Hp} {t : Addr} {rs : List V} {M : List (List Nat)} (h : RowsL H rs M) (e : H t = some (.lst rs)) : TabIn K H (.ref t) rs M := ⟨.inl ⟨t, rfl, SqL.of e⟩, h.1, fun i v r h1 h2 => let ⟨a, e, ha⟩ := h.2 i v r h1 h2; .inl ⟨a, e, SqL.of ha⟩⟩
/-- a list of rows that grows: what was there stays -/
structure Grow (H0 H : Hp) (D : Addr) (rs : List V) (M : List (List Nat)) : Prop where
  d0 : H0 D = none
  keep : Same H0 H
  at_ : H D = some (.lst rs)
  rows : RowsL H rs M
  off : ∀ (i : Nat) (a : Addr), rs[i]? = some (V.ref a) → a ≠ D
theorem Grow.nil {H0 : Hp} {D : Addr} (h : H0 D = none) : Grow H0 (upd H0 D (.lst [])) D [] [] := ⟨h, same_upd h, upd_same, RowsL.nil, fun i a e => by cases e⟩
/-- a row is laid at D2, put behind -/
theorem Grow.add {H0 H H2 : Hp} {D D2 : Addr} {rs : List V} {M : List (List Nat)} {r : List Nat} (g : Grow H0 H D rs M) (n2 : H D2 = none) (b : But D2 H H2) (e : H2 D2 = some (.lst (r.map nI))) : H2 D = some (.lst rs) ∧ Grow H0 (upd H2 D (.lst (rs ++ [.ref D2]))) D (rs ++ [.ref D2]) (M ++ [r]) := by
  have nD : D ≠ D2 := fun z => by
    have h := g.at_
    rw [z, n2] at h
    cases h
  have s2 : Same H H2 := fun c o h => b _ _ (ne_of_none h n2) h
  refine ⟨s2 _ _ g.at_, ⟨g.d0, fun c o h => ?_, upd_same, ?_, fun i a h => ?_⟩⟩
  · rw [upd_ne (ne_of_none h g.d0)]
    exact s2 _ _ (g.keep _ _ h)
  · refine RowsL.snoc (g.rows.keep fun a xs h q => ?_) ?_
    · obtain ⟨i, hi⟩ := q
      rw [upd_ne (g.off i a hi)]
      exact s2 _ _ h
    · rw [upd_ne (Ne.symm nD)]
      exact e
  · by_cases hi : i < rs.length
    · rw [List.getElem?_append_left hi] at h
      exact g.off i a h
    · rw [List.getElem?_append_right (by omega)] at h
      cases hj : i - rs.length with
      | zero =>
        rw [hj] at h
        cases h
        exact Ne.symm nD
      | succ j =>
        rw [hj] at h
        cases h
/-- numbers along a text, laid anew -/
theorem take_snoc {α β : Type} {l : List α} {j : Nat} {c : α} (f : α → β) (h : l[j]? = some c) : (l.take (j + 1)).map f = (l.take j).map f ++ [f c] := by
  rw [List.take_add_one, h, List.map_append]
  rfl
end
end FW
namespace FW
open PySem PySem.Spec PyProof.Rows L2
-- more
section
variable {P : Program} {w : World} {K : PySem.W.Frag} {mg : Str → Option Value} {base : Heap}
/-- the places of the pairs of which g tells -/
def badJ (g : Bool → Bool → Bool) (P : List Pr) (B1 B2 : List Nat) : List Nat := (P.zipIdx.filter fun z => g (decide (z.1.1 ∈ B1)) (decide (z.1.2 ∈ B2))).map (·.2)
theorem badJ_at {g : Bool → Bool → Bool} {P : List Pr} {B1 B2 : List Nat} {s a b : Nat} (h : P[s]? = some (a, b)) : decide (s ∈ badJ g P B1 B2) = g (decide (a ∈ B1)) (decide (b ∈ B2)) := by
  have key : s ∈ badJ g P B1 B2 ↔ g (decide (a ∈ B1)) (decide (b ∈ B2)) = true := by
    unfold badJ
    rw [List.mem_map]
    constructor
    · rintro ⟨z, hz, rfl⟩
      obtain ⟨h1, h2⟩ := List.mem_filter.mp hz
      obtain ⟨q, i⟩ := z
      have e := List.mem_zipIdx_iff_getElem?.mp h1
      rw [h] at e
      cases Option.some.inj e
      exact h2
    · intro hg
      exact ⟨((a, b), s), List.mem_filter.mpr ⟨List.mem_zipIdx_iff_getElem?.mpr h, hg⟩, rfl⟩
  cases hg : g (decide (a ∈ B1)) (decide (b ∈ B2)) with
  | true => exact decide_eq_true (key.mpr hg)
  | false => exact decide_eq_false fun n => by rw [key.mp n] at hg; cases hg
/-- what a joined machine keeps -/
theorem JointS.keeps {M1 M2 T : List (List Nat)} {P : List Pr} {F w B1 B2 : List Nat} {g : Bool → Bool → Bool} (J : JointS M1 M2 P T) (full : T.length = P.length) (k1 : TabOk F.length M1) (k2 : TabOk F.length M2) (hw : ∀ c ∈ w, c ∈ F) :
    decide (runM F T 0 w ∈ badJ g P B1 B2) = g (decide (runM F M1 0 w ∈ B1)) (decide (runM F M2 0 w ∈ B2)) := badJ_at (J.run full k1 k2 _ w rfl hw)
/-- as many pairs at most as there are pairs of states -/
theorem JointS.few {M1 M2 T : List (List Nat)} {P : List Pr} (J : JointS M1 M2 P T) : P.length ≤ M1.length * M2.length := by
  have h := List.Nodup.length_le_of_subset (l₁ := P) (l₂ := (List.range M1.length).flatMap fun a => (List.range M2.length).map fun b => (a, b)) J.nd fun q hq => by
    obtain ⟨h1, h2⟩ := J.lt q hq
    exact List.mem_flatMap.mpr ⟨q.1, List.mem_range.mpr h1, List.mem_map.mpr ⟨q.2, List.mem_range.mpr h2, rfl⟩⟩
  refine Nat.le_trans h (Nat.le_of_eq ?_)
  rw [List.length_flatMap]
  simp only [List.length_map, List.length_range]
  generalize M2.length = k
  generalize M1.length = m
  induction m with
  | zero => simp
  | succ m ih => rw [List.range_succ, List.map_append, List.sum_append, ih, Nat.succ_mul]; rfl
theorem badJ_asc {g : Bool → Bool → Bool} {P : List Pr} {B1 B2 : List Nat} : BadOk P.length (badJ g P B1 B2) := by
  refine ⟨?_, fun x hx => ?_⟩
  · unfold badJ
    rw [List.pairwise_map]
    refine List.Pairwise.filter _ ?_
    rw [List.pairwise_iff_getElem]
    intro i j hi hj hij
    rw [List.getElem_zipIdx, List.getElem_zipIdx]
    show 0 + i < 0 + j
    omega
  · unfold badJ at hx
    obtain ⟨z, hz, rfl⟩ := List.mem_map.mp hx
    have h1 := (List.mem_filter.mp hz).1
    obtain ⟨q, i⟩ := z
    exact (List.getElem?_eq_some_iff.mp (List.mem_zipIdx_iff_getElem?.mp h1)).1
end
end FW
namespace FW
open PySem PySem.Spec PyProof.Rows L2
/-! ### sorted: tuples of numbers and texts, all of one form, as many as there are -/
def kLt : Key → Key → Bool
  | .inl i, .inl j => decide (i < j)
  | .inl _, .inr _ => true
  | .inr _, .inl _ => false
  | .inr x, .inr y => decide (cl x < cl y)
theorem kLt_irrefl (a : Key) : kLt a a = false := by
  cases a with
  | inl i => exact decide_eq_false (Int.lt_irrefl i)
  | inr x => exact decide_eq_false (List.lt_irrefl _)
theorem kLt_trans : ∀ {a b c : Key}, kLt a b = true → kLt b c = true → kLt a c = true
  | .inl _, .inl _, .inl _, h, k => decide_eq_true (Int.lt_trans (of_decide_eq_true h) (of_decide_eq_true k))
  | .inl _, .inl _, .inr _, _, _ => rfl
  | .inl _, .inr _, .inl _, _, k => by cases k
  | .inl _, .inr _, .inr _, _, _ => rfl
  | .inr _, .inl _, _, h, _ => by cases h
  | .inr _, .inr _, .inl _, _, k => by cases k
  | .inr _, .inr _, .inr _, h, k => decide_eq_true (List.lt_trans (of_decide_eq_true h) (of_decide_eq_true k))
theorem kLt_conn : ∀ {a b : Key}, kLt a b = false → kLt b a = true ∨ a = b
  | .inl i, .inl j, h => by
    have h' : ¬ i < j := of_decide_eq_false h
    rcases Int.lt_or_eq_of_le (show j ≤ i by omega) with z | z
    · exact .inl (decide_eq_true z)
    · exact .inr (by rw [z])
  | .inl _, .inr _, h => by cases h
  | .inr _, .inl _, _ => .inl rfl
  | .inr x, .inr y, h => by
    rcases lt_or (show ¬ cl x < cl y from of_decide_eq_false h) with z | z
    · exact .inl (decide_eq_true z)
    · exact .inr (by rw [cl_inj z])
def lexK : List Key → List Key → Bool
  | [], [] => false
  | [], _ :: _ => true
  | _ :: _, [] => false
  | a :: p, b :: q => if a = b then lexK p q else kLt a b
theorem lexK_irrefl : ∀ p : List Key, lexK p p = false
  | [] => rfl
  | a :: p => by
    show (if a = a then lexK p p else kLt a a) = false
    rw [if_pos rfl, lexK_irrefl p]
theorem lexK_trans : ∀ {p q r : List Key}, lexK p q = true → lexK q r = true → lexK p r = true
  | [], [], _, h, _ => by cases h
  | [], _ :: _, [], _, k => by cases k
  | [], _ :: _, _ :: _, _, _ => rfl
  | _ :: _, [], _, h, _ => by cases h
  | _ :: _, _ :: _, [], _, k => by cases k
  | a :: p, b :: q, c :: r, h, k => by
    have h' : (if a = b then lexK p q else kLt a b) = true := h
    have k' : (if b = c then lexK q r else kLt b c) = true := k
    show (if a = c then lexK p r else kLt a c) = true
    by_cases e : a = b
    · rw [if_pos e] at h'
      subst e
      by_cases f : a = c
      · rw [if_pos f] at k'
        rw [if_pos f]
        exact lexK_trans h' k'
      · rw [if_neg f] at k'
        rw [if_neg f]
        exact k'
    · rw [if_neg e] at h'
      by_cases f : b = c
      · subst f
        rw [if_neg e]
        exact h'
      · rw [if_neg f] at k'
        have t := kLt_trans h' k'
        by_cases g : a = c
        · subst g
          rw [kLt_irrefl] at t
          cases t
        · rw [if_neg g]
          exact t
theorem lexK_conn : ∀ {p q : List Key}, lexK p q = false → lexK q p = true ∨ p = q
  | [], [], _ => .inr rfl
  | [], _ :: _, h => by cases h
  | _ :: _, [], _ => .inl rfl
  | a :: p, b :: q, h => by
    have h' : (if a = b then lexK p q else kLt a b) = false := h
    show (if b = a then lexK q p else kLt b a) = true ∨ _
    by_cases e : a = b
    · rw [if_pos e] at h'
      subst e
      rw [if_pos rfl]
      rcases lexK_conn h' with z | z
      · exact .inl z
      · exact .inr (by rw [z])
    · rw [if_neg e] at h'
      rw [if_neg (Ne.symm e)]
      rcases kLt_conn h' with z | z
      · exact .inl z
      · exact absurd z e
theorem swo_K {α : Type} (k : α → List Key) : SrtO.Swo fun v u => lexK (k v) (k u) := by
  refine ⟨fun x y h => ?_, fun x y z h1 h2 => ?_⟩
  · cases e : lexK (k y) (k x) with
    | false => rfl
    | true =>
      have := lexK_trans h e
      rw [lexK_irrefl] at this
      cases this
  · cases e : lexK (k z) (k x) with
    | false => rfl
    | true =>
      rcases lexK_conn h2 with b | b
      · have b' := lexK_trans b e
        rw [b'] at h1
        cases h1
      · rw [b] at e
        rw [e] at h1
        cases h1
/-- lists in this order are told by their members -/
theorem lexK_uniq {α : Type} {k : α → List Key} {l m : List α} (inj : ∀ a ∈ l, ∀ b ∈ l, k a = k b → a = b) (h1 : l.Pairwise fun x y => lexK (k y) (k x) = false) (h2 : m.Pairwise fun x y => lexK (k y) (k x) = false) (p : l.Perm m) : l = m := by
  refine List.Perm.eq_of_pairwise (le := fun x y => lexK (k y) (k x) = false) (fun a b ha hb g1 g2 => ?_) h1 h2 p
  rcases lexK_conn g1 with z | z
  · rw [z] at g2
    cases g2
  · exact (inj b (p.mem_iff.mpr hb) a ha z).symm
def shpK (ks : List Key) : List Bool := ks.map fun k => match k with | .inl _ => true | .inr _ => false
def IsTupK (h : Heap) (v : Value) (ks : List Key) : Prop := ∃ a o us n, v = .ref a ∧ h.get? a = some o ∧ o.cls = .type "tuple" ∧ o.data = .seq (List.toArray us) n ∧ Vals (ks.map kV) us
theorem IsTupK.keeps {h h' : Heap} {v : Value} {ks : List Key} (p : IsTupK h v ks) (k : ∀ b o, h.get? b = some o → o.cls = .type "tuple" → h'.get? b = some o) : IsTupK h' v ks := by
  obtain ⟨a, o, us, n, e, ho, hc, hd, hv⟩ := p
  exact ⟨a, o, us, n, e, k _ _ ho hc, hc, hd, hv⟩
theorem valsK_int {i : Int} {ks : List Key} {us : List Value} (h : Vals ((Sum.inl i :: ks : List Key).map kV) us) : ∃ t r, us = .int i t :: r ∧ Vals (ks.map kV) r := by
  cases h with
  | cons a b =>
    obtain ⟨t, rfl⟩ := (show L2.RelV (.int i) _ from a)
    exact ⟨t, _, rfl, b⟩
theorem valsK_str {x : Str} {ks : List Key} {us : List Value} (h : Vals ((Sum.inr x :: ks : List Key).map kV) us) : ∃ t r, us = .str x t :: r ∧ Vals (ks.map kV) r := by
  cases h with
  | cons a b =>
    obtain ⟨t, rfl⟩ := (show L2.RelV (.str x) _ from a)
    exact ⟨t, _, rfl, b⟩
theorem valsK_nil {us : List Value} (h : Vals (([] : List Key).map kV) us) : us = [] := by
  cases h
  rfl
section
variable {prog : Program} {w : World} {A : Around} {E : Value → Shared → Prop} {s : Shared}
open SrtO
theorem kat_keys {b : Bool} {Q : Bool → Shared → Prop} : ∀ {ks ls : List Key} {us vs : List Value} {i : Nat}, Vals (ks.map kV) us → Vals (ls.map kV) vs → shpK ks = shpK ls → Q (lexK ks ls) s → PySem.W.KatLex prog w A b false Q (us.zip vs) i s
  | [], [], us, vs, i, hu, hv, _, q => by
    rw [valsK_nil hu]
    exact PySem.W.kat_nil q
  | [], _ :: _, _, _, _, _, _, e, _ => by cases e
  | _ :: _, [], _, _, _, _, _, e, _ => by cases e
  | .inl x :: ks, .inr y :: ls, us, vs, i, hu, hv, e, q => by cases (List.cons.inj e).1
  | .inr x :: ks, .inl y :: ls, us, vs, i, hu, hv, e, q => by cases (List.cons.inj e).1
  | .inl x :: ks, .inl y :: ls, us, vs, i, hu, hv, e, q => by
    obtain ⟨t, us, rfl, hu2⟩ := valsK_int hu
    obtain ⟨u, vs, rfl, hv2⟩ := valsK_int hv
    have q' : Q (if (Sum.inl x : Key) = .inl y then lexK ks ls else decide (x < y)) s := q
    show PySem.W.KatLex prog w A b false Q ((.int x t, .int y u) :: us.zip vs) i s
    refine PySem.W.kat_cons (SeqAt.EqAt.int_int x t y u prog w _ _ ?_)
    refine PySem.W.kat_go (fun e1 => ?_) (fun e1 => ?_)
    · have ex : x = y := by simpa using e1
      rw [if_pos (by rw [ex])] at q'
      exact PySem.W.kat_yes (kat_keys hu2 hv2 (List.cons.inj e).2 q')
    · have ex : ¬ x = y := by simpa using e1
      rw [if_neg (fun z => ex (Sum.inl.inj z))] at q'
      exact PySem.W.kat_no (PyProof.Rows.oneLt_any_int q')
  | .inr x :: ks, .inr y :: ls, us, vs, i, hu, hv, e, q => by
    obtain ⟨t, us, rfl, hu2⟩ := valsK_str hu
    obtain ⟨u, vs, rfl, hv2⟩ := valsK_str hv
    have q' : Q (if (Sum.inr x : Key) = .inr y then lexK ks ls else decide (cl x < cl y)) s := q
    show PySem.W.KatLex prog w A b false Q ((.str x t, .str y u) :: us.zip vs) i s
    refine PySem.W.kat_cons (SeqAt.EqAt.str_str x t y u prog w _ _ ?_)
    refine PySem.W.kat_go (fun e1 => ?_) (fun e1 => ?_)
    · have ex : x = y := by simpa using e1
      rw [if_pos (by rw [ex])] at q'
      exact PySem.W.kat_yes (kat_keys hu2 hv2 (List.cons.inj e).2 q')
    · have ex : ¬ x = y := by simpa using e1
      rw [if_neg (fun z => ex (Sum.inr.inj z))] at q'
      exact PySem.W.kat_no (PyProof.Rows.oneLt_any_str q')
theorem vals_len {xs : List V} {us : List Value} (h : Vals xs us) : us.length = xs.length := h.length.symm
theorem tup_cmpK {vs : List Value} {k : Value → List Key} {sh : List Bool} (hp : ∀ v ∈ vs, IsTupK s.heap v (k v)) (hs : ∀ v ∈ vs, shpK (k v) = sh) : Cmp prog w A s (tuples' true) (fun p => p.1 ∈ vs) (lt2 fun v u => lexK (k v) (k u)) := by
  intro p q hm hm'
  have h1 := hp _ hm
  have h2 := hp _ hm'
  have e1 := hs _ hm
  have e2 := hs _ hm'
  show wpAny (model prog w) A (keyLt' (tuples' true) p.1 q.1) (fun r s' => s' = s ∧ r = lexK (k p.1) (k q.1)) (fun _ _ => False) s
  obtain ⟨a, o, us, n, e, ho, hc, hd, hu⟩ := h1
  obtain ⟨a', o', us', n', e', ho', hc', hd', hu'⟩ := h2
  rw [e, e']
  rw [e] at hu e1
  rw [e'] at hu' e2
  refine PySem.W.kat_lt ho hd ho' hd' ?_
  have hl : us.length = us'.length := by
    have l1 := vals_len hu
    have l2 := vals_len hu'
    have l3 := congrArg List.length (e1.trans e2.symm)
    unfold shpK at l3
    rw [List.length_map] at l1 l2
    rw [List.length_map, List.length_map] at l3
    omega
  have hf : decide ((List.toArray us).size < (List.toArray us').size) = false := decide_eq_false (by
    rw [List.size_toArray, List.size_toArray]
    omega)
  rw [hf]
  exact kat_keys hu hu' (e1.trans e2.symm) ⟨rfl, rfl⟩
theorem firsts_K {h : Heap} {k : Value → List Key} {b : Bool} {sh : List Bool} : ∀ {vs : List Value}, (∀ v ∈ vs, IsTupK h v (k v)) → (∀ v ∈ vs, shpK (k v) = b :: sh) → ∃ fs : List Value, PySem.W.KatTups h vs fs ∧ fs.length = vs.length ∧ ∀ f ∈ fs, if b = true then ∃ x t, f = Value.int x t else ∃ x t, f = Value.str x t
  | [], _, _ => ⟨[], PySem.W.KatTups.nil, rfl, fun _ hm => by simp at hm⟩
  | v :: vs, x, y => by
    obtain ⟨fs, kk, hl, hi⟩ := firsts_K (vs := vs) (fun u hu => x u (List.mem_cons_of_mem _ hu)) (fun u hu => y u (List.mem_cons_of_mem _ hu))
    obtain ⟨a, o, us, n, ev, ho, hc, hd, hv⟩ := x v List.mem_cons_self
    have es := y v List.mem_cons_self
    generalize k v = kv at hv es
    subst ev
    match kv, es, hv with
    | [], es, _ => cases es
    | .inl i :: kr, es, hv =>
      obtain ⟨t, us, rfl, _⟩ := valsK_int hv
      refine ⟨.int i t :: fs, PySem.W.KatTups.cons ho hc hd rfl kk, by rw [List.length_cons, List.length_cons, hl], fun f hf => ?_⟩
      have eb : b = true := (List.cons.inj es).1.symm
      rcases List.mem_cons.mp hf with rfl | hf
      · rw [if_pos eb]
        exact ⟨i, t, rfl⟩
      · exact hi f hf
    | .inr i :: kr, es, hv =>
      obtain ⟨t, us, rfl, _⟩ := valsK_str hv
      refine ⟨.str i t :: fs, PySem.W.KatTups.cons ho hc hd rfl kk, by rw [List.length_cons, List.length_cons, hl], fun f hf => ?_⟩
      have eb : b = false := (List.cons.inj es).1.symm
      rcases List.mem_cons.mp hf with rfl | hf
      · rw [if_neg (by rw [eb]; decide)]
        exact ⟨i, t, rfl⟩
      · exact hi f hf
theorem tups_sortableK {a : Addr} {vs : List Value} {k : Value → List Key} {b : Bool} {sh : List Bool} (h0 : 0 < vs.length) (hp : ∀ v ∈ vs, IsTupK s.heap v (k v)) (hs : ∀ v ∈ vs, shpK (k v) = b :: sh) (ha : ∀ o, s.heap.get? a = some o → o.cls ≠ .type "tuple") : SortableO prog w A s a vs fun v u => lexK (k v) (k u) := by
  intro h' keep
  have hp' : ∀ v ∈ vs, IsTupK h' v (k v) := fun v hm => (hp v hm).keeps fun b o e c => keep b o (fun z => by subst z; exact ha o e c) e
  obtain ⟨fs, h1, h2, h3⟩ := firsts_K hp' hs
  refine ⟨tuples' true, fun Q E hq => ?_, tup_cmpK hp' hs⟩
  cases b with
  | false =>
    refine PySem.W.kat_kind (T := .type "str") h1 (by omega) (fun f hm => ?_) (by rfl) ?_
    · obtain ⟨x, t, rfl⟩ := h3 f hm
      exact PySem.W.Looks.now
    · have e : (Value.type "str" != Value.type "tuple") = true := by first | decide +kernel | rfl | decide
      rw [e]
      exact hq
  | true =>
    refine PySem.W.kat_kind (T := .type "int") h1 (by omega) (fun f hm => ?_) (by rfl) ?_
    · obtain ⟨x, t, rfl⟩ := h3 f hm
      exact PySem.W.Looks.now
    · have e : (Value.type "int" != Value.type "tuple") = true := by first | decide +kernel | rfl | decide
      rw [e]
      exact hq
theorem sorted_tupsK {l : Addr} {vs : List Value} {k : Value → List Key} {b : Bool} {sh : List Bool} {Q : Value → Shared → Prop} (hl : s.heap.IsList l vs.toArray) (hz : vs.length ≤ sizeLine) (hp : ∀ v ∈ vs, IsTupK s.heap v (k v)) (hsh : ∀ v ∈ vs, shpK (k v) = b :: sh)
    (h : ∀ (h' : Heap) (d : Addr) (out : List Value), Srtd (fun v u => lexK (k v) (k u)) out → Stb (fun v u => lexK (k v) (k u)) out vs → (∀ b o, s.heap.get? b = some o → h'.get? b = some o) → s.heap.objs.size ≤ d → (∃ n, h'.get? d = some (seqObj "list" out.toArray n)) → Q (.ref d) { s with heap := h' }) :
    wpAny (model prog w) A (call (.builtin "sorted") [.ref l]) Q E s := by
  refine sorted_ord (swo_K k) hl hz (fun h2 h₁ a ha kk => ?_) fun out hs hb => ?_
  · refine tups_sortableK (s := { s with heap := h₁ }) (by omega) (fun v hm => (hp v hm).keeps fun b o e _ => (kk b o e).2) hsh fun o e => ?_
    have e' : some o = some (seqObj "list" vs.toArray 0) := e.symm.trans ha
    cases e'
    intro c
    exact absurd (Value.type.inj c) (by decide)
  · exact h _ _ out hs hb (fun b o e => sortedAll_old e) (Nat.le_succ _) (sortedAll_at s.heap vs out.toArray)
end
/-- sorted(xs), xs a list of tuples of one form (k says which) -/
def rSortedTK (K : PySem.W.Frag) : List V → Hp → VK → Prop := fun vs H Q => ∃ (a : Addr) (xs : List V) (k : V → List Key) (b : Bool) (sh : List Bool), vs = [V.ref a] ∧ SqL K H a xs ∧ (∀ x ∈ xs, shpK (k x) = b :: sh ∧ ∃ t, x = V.ref t ∧ H t = some (.tup ((k x).map kV))) ∧
  ∀ ys p, ys.Pairwise (fun x y => lexK (k y) (k x) = false) → ys.Perm xs → H p = none → Q (.ref p) (upd H p (.lst ys))
section
variable {X : Cx}
theorem cr_sortedTK : CallR X (.builtin "sorted") (rSortedTK X.K) := by
  intro pins s σ H vs us Q I r h
  obtain ⟨a, xs, k, b, sh, rfl, hs, hx, q⟩ := h
  obtain ⟨its, rv, hl, hz⟩ := I.list hs
  obtain ⟨u, rfl, ru⟩ := vals1 r
  obtain rfl : u = Value.ref a := ru
  obtain ⟨e1, e2⟩ := refs_back rv fun x m => by
    obtain ⟨_, t, e, _⟩ := hx x m
    exact ⟨t, e⟩
  have hm : ∀ v ∈ its, ∃ t, v = Value.ref t ∧ V.ref t ∈ xs := fun v hv => by
    obtain ⟨t, rfl⟩ := e2 v hv
    exact ⟨t, rfl, by rw [e1]; exact List.mem_map.mpr ⟨_, hv, rfl⟩⟩
  refine sorted_tupsK (k := fun u => k (backV u)) (b := b) (sh := sh) hl.isList (by rw [← rv.length]; exact hz) (fun v hv => ?_) (fun v hv => ?_) fun h' d out h1 h2 kp hd hn => ?_
  · obtain ⟨t, rfl, hm⟩ := hm v hv
    obtain ⟨_, t', e, ht⟩ := hx _ hm
    cases e
    obtain ⟨_, its2, r2, o, ho, hc, n, hd⟩ := I.hok _ _ ht
    exact ⟨t, o, its2, n, rfl, ho, hc, hd, r2⟩
  · obtain ⟨t, rfl, hm⟩ := hm v hv
    exact (hx _ hm).1
  · have h3 : ∀ u ∈ out, ∃ a, u = Value.ref a := fun u hu => e2 u (h2.perm.mem_iff.mp hu)
    obtain ⟨n, hn⟩ := hn
    have hb : SrtO.Stb (fun x y => lexK (k x) (k y)) (out.map backV) xs := by
      rw [e1]
      exact SrtO.Stb.map (swo_K k) backV h2
    refine ⟨.ref d, upd H d (.lst (out.map backV)), I.laid (t' := s.toks) kp hd ⟨?_, out, n, vals_back h3, hn⟩, rfl, q _ d (SrtO.srtd_map (lt := fun x y => lexK (k x) (k y)) h1) hb.perm (I.hok.fresh hd)⟩
    rw [hb.len]
    exact hz
end
/-! rows of the heap: tuples by what they hold -/
def toKey : V → Option Key
  | .int i => some (.inl i)
  | .str x => some (.inr x)
  | _ => none
def tkOf (H : Hp) : V → List Key
  | .ref a => match H a with
    | some (.tup xs) => xs.filterMap toKey
    | _ => []
  | _ => []
theorem filterMap_kV : ∀ ks : List Key, (ks.map kV).filterMap toKey = ks
  | [] => rfl
  | .inl i :: ks => by
    show Sum.inl i :: (ks.map kV).filterMap toKey = _
    rw [filterMap_kV ks]
  | .inr x :: ks => by
    show Sum.inr x :: (ks.map kV).filterMap toKey = _
    rw [filterMap_kV ks]
theorem tkOf_tup {H : Hp} {a : Addr} {ks : List Key} (h : H a = some (.tup (ks.map kV))) : tkOf H (.ref a) = ks := by
  unfold tkOf
  dsimp only
  rw [h]
  exact filterMap_kV ks
theorem perm_mapX {α β : Type} (f : α → β) : ∀ {ys : List β} {st : List α}, ys.Perm (st.map f) → ∃ so : List α, so.Perm st ∧ so.map f = ys
  | [], st, h => by
    have := h.length_eq
    rw [List.length_map] at this
    cases st with
    | nil => exact ⟨[], .refl _, rfl⟩
    | cons a l => cases this
  | y :: ys, st, h => by
    obtain ⟨r, hr, e⟩ := List.mem_map.mp (h.mem_iff.mp List.mem_cons_self)
    obtain ⟨a, b, rfl⟩ := List.append_of_mem hr
    have h2 : (y :: ys).Perm (y :: (a ++ b).map f) := h.trans (by
      rw [← e]
      exact (List.perm_middle (a := r) (l₁ := a) (l₂ := b)).map f)
    obtain ⟨so, p, m⟩ := perm_mapX f (List.Perm.cons_inv h2)
    exact ⟨r :: so, (p.cons r).trans List.perm_middle.symm, by rw [List.map_cons, e, m]⟩
theorem rows_form {α : Type} {H : Hp} {ts : List (Addr × α)} {kt : α → List Key} {b : Bool} {sh : List Bool} (hts : ∀ q ∈ ts, H q.1 = some (.tup ((kt q.2).map kV))) (hsh : ∀ a, shpK (kt a) = b :: sh) :
    ∀ x ∈ ts.map fun q : Addr × α => V.ref q.1, shpK (tkOf H x) = b :: sh ∧ ∃ t, x = V.ref t ∧ H t = some (.tup ((tkOf H x).map kV)) := fun x hx => by
  obtain ⟨q, hq, rfl⟩ := List.mem_map.mp hx
  have h := hts q hq
  rw [tkOf_tup h]
  exact ⟨hsh _, q.1, rfl, h⟩
theorem rows_sorted {α : Type} {H : Hp} {ts : List (Addr × α)} {kt : α → List Key} (hts : ∀ q ∈ ts, H q.1 = some (.tup ((kt q.2).map kV))) {ys : List V} (p : ys.Perm (ts.map fun q : Addr × α => V.ref q.1)) (s : ys.Pairwise fun x y => lexK (tkOf H y) (tkOf H x) = false) :
    ∃ so : List (Addr × α), ys = so.map (fun q : Addr × α => V.ref q.1) ∧ so.Perm ts ∧ (so.map (·.2)).Pairwise (fun x y => lexK (kt y) (kt x) = false) := by
  obtain ⟨so, p1, e⟩ := perm_mapX (fun q : Addr × α => V.ref q.1) p
  refine ⟨so, e.symm, p1, List.pairwise_map.mpr ?_⟩
  rw [← e] at s
  refine (List.pairwise_map.mp s).imp_of_mem fun {x y} hx hy h => ?_
  rw [tkOf_tup (hts x (p1.mem_iff.mp hx)), tkOf_tup (hts y (p1.mem_iff.mp hy))] at h
  exact h
end FW
/-! {k: v}, the key a tuple of ints and texts -/
namespace FW
open PySem PySem.Spec PyProof.Rows L2
def tDispT (tk tv : TE) : TE := fun σ H Q => ∀ p, H p = none → tk σ (upd H p (.dT [])) fun x H1 => tv σ H1 fun y H2 => ∃ (ks : List Key) (b : Addr), H2 p = some (.dT []) ∧ x = .ref b ∧ H2 b = some (.tup (ks.map kV)) ∧ Q (.ref p) (upd H2 p (.dT [(ks, y)]))
def onePair (R : V → V → Hp → Prop) : List (V × V) → Hp → Prop
  | [(x, y)], H => R x y H
  | _, _ => False
theorem onePair.at_ {R : V → V → Hp → Prop} : ∀ {ps : List (V × V)} {H : Hp}, onePair R ps H → ∃ x y, ps = [(x, y)] ∧ R x y H
  | [(x, y)], H, h => ⟨x, y, rfl, h⟩
  | [], _, h => h.elim
  | _ :: _ :: _, _, h => h.elim
theorem pe_dispT {X : Cx} {pos : Pos} {k v : Expr} {tk tv : TE} (hu : X.A.units + 1 < cLine) (hk : PE X k tk) (hv : PE X v tv) : PE X (.Dict [some k] [v] pos) (tDispT tk tv) := by
  refine ⟨fun pins s σ H Q I q => ?_⟩
  have hn := I.hok.fresh (Nat.le_refl s.heap.objs.size)
  have I1 := I.laid (a := s.heap.objs.size) (o := .dT []) (h' := s.heap.push { cls := .type "dict", data := .dict #[] }) (t' := s.toks) (fun _ _ e => Heap.get?_push_of_some _ e) (Nat.le_refl _) (dt_empty s.heap I.big)
  have walk := (pps_cons (pos := pos) hk hv (pps_nil (X := X) (pos := pos))).run pins _ σ _ (onePair fun x y H2 => ∃ (ks : List Key) (b : Addr), H2 s.heap.objs.size = some (.dT []) ∧ x = .ref b ∧ H2 b = some (.tup (ks.map kV)) ∧ Q (.ref s.heap.objs.size) (upd H2 s.heap.objs.size (.dT [(ks, y)]))) I1 (by
    exact q _ hn)
  rw [arm_eval_Dict, zip_pairTrees _ _ _ _ rfl rfl, dictDisplay_pairs _ (by intro z; cases z) (by rw [pairTrees_length _ _ _ _ rfl rfl]; exact (show 1 < 17 by decide))]
  refine wpAny_bind (wpAny_standAt (wpAny_bind (wpAny_subDictH (knd := tupleKind (mixKind X.prog X.w)) (Q := fun d s' => wpAny (model X.prog X.w) X.A (pure (Value.ref d)) (EP X pins σ Q) X.xe s') (show X.A.units < cLine by omega) (by rw [pairTrees_length _ _ _ _ rfl rfl]; exact (show 1 ≤ 15 by decide)) (thn walk fun ws s2 r => ?_))))
  obtain ⟨ps, H2, I2, rel, r⟩ := r
  obtain ⟨x, y, rfl, ks, b, e, rfl, eb, h2⟩ := r.at_
  obtain ⟨z, hd, xs, r0, dd⟩ := dt_of I2.hok e
  cases r0
  match ws, rel with
  | [(u, r)], rel =>
    obtain ⟨ru, rr⟩ : RelV (.ref b) u ∧ RelV y r := by
      cases rel with
      | cons h _ => exact h
    obtain rfl : u = Value.ref b := ru
    refine ⟨[(ks, b, r)], ⟨rfl, rfl, key_of I2.hok eb, trivial⟩, dd, fun h' tk dd' hs => wpAny_pure ⟨.ref s.heap.objs.size, _, ?_, rfl, h2⟩⟩
    obtain ⟨ob, es, ep, g1, g2, g3, g4, _, g6⟩ := dd'
    refine d_write I2 (by rw [e]; trivial) hs ⟨ob, g1⟩ ⟨(show 1 ≤ sizeLine by decide), hd, [(ks, b, r)], KT.keeps (H := H2) (.cons ⟨rfl, eb, rr⟩ .nil) fun c ys ec => ?_, ob, es, ep, g1, g2, g3, g4, g6⟩
    rw [upd_ne (ne_of ec e (fun z => nomatch z))]
    exact ec
end FW
/-! for p in zip(x, y), the tuple kept under one name: the zip that holds a tuple makes a new one each turn -/
namespace FW
open PySem PySem.Spec PyProof.Rows L2
section
variable {prog : Program} {w : World} {A : Around} {E : Value → Shared → Prop} {s : Shared} {z TI TO T0 i1 i2 : Addr} {fp1 fp2 : List Addr} {n1 n2 i : Nat} {P1 P2 : Nat → Value → Prop} {St1 St2 : Nat → Heap → Prop} {f : Bool} {oT : Obj}
theorem zipH_next {Q : Value → Shared → Prop} (S : ZipSep2 z TI TO i1 i2 fp1 fp2) (D1 : Draws prog w A i1 fp1 n1 P1 St1) (D2 : Draws prog w A i2 fp2 n2 P2 St2) (hz : IsZipHeld s.heap z TI TO T0 f) (hT : s.heap.get? T0 = some oT) (hTI : IsTupOf2 s.heap TI (.ref i1) (.ref i2))
    (st1 : St1 i s.heap) (st2 : St2 i s.heap) (l1 : i < n1) (l2 : i < n2)
    (q : ∀ x1 x2 h2 tk, P1 i x1 → P2 i x2 → IsZipHeld h2 z TI TO T0 true → St1 (i + 1) h2 → St2 (i + 1) h2 → IsTupOf2 h2 s.heap.objs.size x1 x2 → h2.objs.size = s.heap.objs.size + 1 → (∀ c o, c ≠ z → c ≠ i1 → c ≠ i2 → s.heap.get? c = some o → h2.get? c = some o) → Q (.ref s.heap.objs.size) { s with heap := h2, toks := tk }) :
    wpAny (model prog w) A (Builtin.«zip.__next__» ⟨[.ref z], []⟩) (fun fin s2 => ∃ v, fin = .done (.ret v) ∧ Q v s2) E s := by
  obtain ⟨hp, g, d, tk0, os⟩ := s
  show wpAny _ _ (field (.ref z) 2 >>= _) _ _ _
  refine wpAny_bind (wpAny_field hz rfl (x := .bool false) rfl ?_)
  show wpAny _ _ (field (.ref z) 3 >>= _) _ _ _
  refine wpAny_bind (wpAny_field hz rfl (x := .ref TI) rfl (wpAny_bind (wpAny_seqItems hTI rfl ?_)))
  show wpAny _ _ (Builtin.SmallTypes.ownedTupleIsFree (.ref z) >>= _) _ _ _
  refine wpAny_bind (wpAny_tupleHeld_zip hz hT fun g0 hz0 hs0 => ?_)
  simp only [Bool.false_eq_true, if_false]
  refine wpAny_bind ?_
  rw [← Array.forIn_toList]
  simp only [List.forIn_cons, List.forIn_nil]
  refine wpAny_bind (wpAny_bind (wpAny_holding ?_))
  show wpAny _ _ (Builtin.SmallTypes.nextOf (.ref i1) >>= _) _ _ ⟨g0, g, d, _, os⟩
  refine wpAny_bind (D1.item i _ _ _ l1 (D1.over st1 hs0 S.zf1) fun x1 p1 tk1 y1 sn1 hp1 => wpAny_pure (wpAny_pure (wpAny_bind (wpAny_bind (wpAny_holding ?_)))))
  show wpAny _ _ (Builtin.SmallTypes.nextOf (.ref i2) >>= _) _ _ ⟨p1, g, d, tk1, os⟩
  refine wpAny_bind (D2.item i _ _ _ l2 (D2.over (D2.over st2 hs0 S.zf2) hp1 S.sep1_2) fun x2 p2 tk2 y2 sn2 hp2 => wpAny_pure (wpAny_pure (wpAny_pure ?_)))
  show wpAny _ _ (newTuple [x1, x2] >>= _) _ _ ⟨p2, g, d, tk2, os⟩
  refine wpAny_bind (wpAny_newTuple (wpAny_pure ⟨_, rfl, ?_⟩))
  have sz : p2.objs.size = hp.objs.size := by rw [hp2.1, hp1.1, hs0.1]
  have hz2 : IsZipHeld p2 z TI TO T0 true := hp2.extBut _ _ S.zi2 (hp1.extBut _ _ S.zi1 hz0)
  have far : ∀ c o, c ≠ z → c ≠ i1 → c ≠ i2 → hp.get? c = some o → p2.get? c = some o := fun c o c0 c1 c2 e => hp2.extBut _ _ c2 (hp1.extBut _ _ c1 (hs0.extBut _ _ c0 e))
  have up : ∀ c o, p2.get? c = some o → (p2.push { cls := .type "tuple", data := .seq #[x1, x2] }).get? c = some o := fun c o e => Heap.get?_push_of_some _ e
  have new : IsTupOf2 (p2.push { cls := .type "tuple", data := .seq #[x1, x2] }) p2.objs.size x1 x2 := Heap.get?_push_size _ rfl
  have more : (p2.push { cls := .type "tuple", data := .seq #[x1, x2] }).objs.size = p2.objs.size + 1 := Heap.size_push ..
  show Q (.ref p2.objs.size) ⟨_, g, d, tk2, os⟩
  rw [sz] at new more ⊢
  exact q x1 x2 _ tk2 y1 y2 (up _ _ hz2) (D1.frame _ _ _ (D1.over sn1 hp2 S.sep2_1) fun b _ o e => up b o e) (D2.frame _ _ _ sn2 fun b _ o e => up b o e) new more fun c o c0 c1 c2 e => up c o (far c o c0 c1 c2 e)
theorem zipH_stop {Q : Fin → Shared → Prop} (S : ZipSep2 z TI TO i1 i2 fp1 fp2) (D1 : Draws prog w A i1 fp1 n1 P1 St1) (D2 : Draws prog w A i2 fp2 n2 P2 St2) (hz : IsZipHeld s.heap z TI TO T0 f) (hT : s.heap.get? T0 = some oT) (hTI : IsTupOf2 s.heap TI (.ref i1) (.ref i2))
    (st1 : St1 i s.heap) (st2 : St2 i s.heap) (l1 : i ≤ n1) (l2 : i ≤ n2) (last : i = n1 ∨ i = n2)
    (q : ∀ h2 tk e, (∀ c o, c ≠ z → c ≠ i1 → c ≠ i2 → s.heap.get? c = some o → h2.get? c = some o) → (∃ o, h2.get? e = some o ∧ o.cls = .type "StopIteration") → E (.ref e) { s with heap := h2, toks := tk }) :
    wpAny (model prog w) A (Builtin.«zip.__next__» ⟨[.ref z], []⟩) Q E s := by
  obtain ⟨hp, g, d, tk0, os⟩ := s
  show wpAny _ _ (field (.ref z) 2 >>= _) _ _ _
  refine wpAny_bind (wpAny_field hz rfl (x := .bool false) rfl ?_)
  show wpAny _ _ (field (.ref z) 3 >>= _) _ _ _
  refine wpAny_bind (wpAny_field hz rfl (x := .ref TI) rfl (wpAny_bind (wpAny_seqItems hTI rfl ?_)))
  show wpAny _ _ (Builtin.SmallTypes.ownedTupleIsFree (.ref z) >>= _) _ _ _
  refine wpAny_bind (wpAny_tupleHeld_zip hz hT fun g0 hz0 hs0 => ?_)
  simp only [Bool.false_eq_true, if_false]
  refine wpAny_bind ?_
  rw [← Array.forIn_toList]
  simp only [List.forIn_cons, List.forIn_nil]
  refine wpAny_bind (wpAny_bind (wpAny_holding ?_))
  show wpAny _ _ (Builtin.SmallTypes.nextOf (.ref i1) >>= _) _ _ ⟨g0, g, d, _, os⟩
  rcases Nat.lt_or_ge i n1 with hlt | hge
  · refine wpAny_bind (D1.item i _ _ _ hlt (D1.over st1 hs0 S.zf1) fun x1 p1 tk1 y1 sn1 hp1 => wpAny_pure (wpAny_pure (wpAny_bind (wpAny_bind (wpAny_holding ?_)))))
    show wpAny _ _ (Builtin.SmallTypes.nextOf (.ref i2) >>= _) _ _ ⟨p1, g, d, tk1, os⟩
    have e2 : i = n2 := by omega
    exact wpAny_bind (D2.done ⟨p1, g, d, tk1, os⟩ _ _ (by rw [← e2]; exact D2.over (D2.over st2 hs0 S.zf2) hp1 S.sep1_2) fun h2 e hk he => q h2 tk1 e (fun c o c0 c1 c2 x => hk _ _ c2 (hp1.extBut _ _ c1 (hs0.extBut _ _ c0 x))) he)
  · have e1 : i = n1 := by omega
    exact wpAny_bind (D1.done ⟨g0, g, d, _, os⟩ _ _ (by rw [← e1]; exact D1.over st1 hs0 S.zf1) fun h2 e hk he => q h2 _ e (fun c o c0 c1 _ x => hk _ _ c1 (hs0.extBut _ _ c0 x)) he)
end
section
variable {prog : Program} {w : World} {A : Around} {E : Value → Shared → Prop} {s : Shared} {z TI TO T0 i1 i2 : Addr} {fp1 fp2 : List Addr} {n1 n2 i : Nat} {P1 P2 : Nat → Value → Prop} {St1 St2 : Nat → Heap → Prop} {f : Bool} {oT : Obj} {Q : Option Value → Shared → Prop}
theorem pyNext_zipH (S : ZipSep2 z TI TO i1 i2 fp1 fp2) (D1 : Draws prog w A.in1 i1 fp1 n1 P1 St1) (D2 : Draws prog w A.in1 i2 fp2 n2 P2 St2) (hz : IsZipHeld s.heap z TI TO T0 f) (hT : s.heap.get? T0 = some oT) (hTI : IsTupOf2 s.heap TI (.ref i1) (.ref i2))
    (st1 : St1 i s.heap) (st2 : St2 i s.heap) (l1 : i < n1) (l2 : i < n2)
    (q : ∀ x1 x2 h2 tk, P1 i x1 → P2 i x2 → IsZipHeld h2 z TI TO T0 true → St1 (i + 1) h2 → St2 (i + 1) h2 → IsTupOf2 h2 s.heap.objs.size x1 x2 → h2.objs.size = s.heap.objs.size + 1 → (∀ c o, c ≠ z → c ≠ i1 → c ≠ i2 → s.heap.get? c = some o → h2.get? c = some o) → Q (some (.ref s.heap.objs.size)) { s with heap := h2, toks := tk }) :
    wpAny (model prog w) A (pyNext (.ref z)) Q E s := by
  have ty : s.TypeIs (.ref z) "zip" := ⟨_, hz, rfl⟩
  unfold pyNext
  exact wpAny_bind (wpAny_attempt (wpAny_callSpecial?_slot (name := Str.ofString "__next__") ty F.slot_zip_next (wpAny_call_entry F.slot_zip_next ty F.entry_zip_next (zipH_next S D1 D2 hz hT hTI st1 st2 l1 l2 fun x1 x2 h2 tk a b c1 c2 c3 c4 c5 c6 => wpAny_pure (q x1 x2 h2 tk a b c1 c2 c3 c4 c5 c6)) (F.args_zip_next_1 _))))
theorem pyNext_zipH_end (S : ZipSep2 z TI TO i1 i2 fp1 fp2) (D1 : Draws prog w A.in1 i1 fp1 n1 P1 St1) (D2 : Draws prog w A.in1 i2 fp2 n2 P2 St2) (hz : IsZipHeld s.heap z TI TO T0 f) (hT : s.heap.get? T0 = some oT) (hTI : IsTupOf2 s.heap TI (.ref i1) (.ref i2))
    (st1 : St1 i s.heap) (st2 : St2 i s.heap) (l1 : i ≤ n1) (l2 : i ≤ n2) (last : i = n1 ∨ i = n2)
    (q : ∀ h2 tk, (∀ c o, c ≠ z → c ≠ i1 → c ≠ i2 → s.heap.get? c = some o → h2.get? c = some o) → Q none { s with heap := h2, toks := tk }) : wpAny (model prog w) A (pyNext (.ref z)) Q E s := by
  have ty : s.TypeIs (.ref z) "zip" := ⟨_, hz, rfl⟩
  unfold pyNext
  refine wpAny_bind (wpAny_attempt (wpAny_callSpecial?_slot (name := Str.ofString "__next__") ty F.slot_zip_next (wpAny_call_entry F.slot_zip_next ty F.entry_zip_next (zipH_stop S D1 D2 hz hT hTI st1 st2 l1 l2 last fun h2 tk e hk he => ?_) (F.args_zip_next_1 _))))
  obtain ⟨o, ho, hc⟩ := he
  exact wpAny_bind (wpAny_isInstance (T := "StopIteration") (b := true) ⟨o, ho, hc⟩ isSubtype_stop (wpAny_pure (q _ _ hk)))
end
end FW
/-! for p in zip(x, y), one name: the tuple that was handed out may be gone, or may live -/
namespace FW
open PySem PySem.Spec PyProof.Rows L2
section
variable {prog : Program} {w : World} {A : Around} {E : Value → Shared → Prop} {s : Shared} {z TI TO T0 i1 i2 : Addr} {fp1 fp2 : List Addr} {n1 n2 i : Nat} {P1 P2 : Nat → Value → Prop} {St1 St2 : Nat → Heap → Prop} {f : Bool} {a1 a2 : Value}
/-- a zip whose fields are these -/
abbrev ZipRec (h : Heap) (z TI TO : Addr) (v0 v1 : Value) : Prop := h.get? z = some { cls := .type "zip", dict := none, data := .fields #[v0, v1, .bool false, .ref TI, .ref TO], slots := #[] }
theorem dead_free {Q : Bool → Shared → Prop} (hz : IsZipHeld s.heap z TI TO T0 f) (gone : s.heap.get? T0 = none) (h : Q true s) : wpAny (model prog w) A (Builtin.SmallTypes.ownedTupleIsFree (.ref z)) Q E s := by
  unfold Builtin.SmallTypes.ownedTupleIsFree
  refine wpAny_bind (wpAny_field hz rfl (x := rawInt T0) rfl ?_)
  show wpAny _ _ (loadIfAlive ((T0 : Int).toNat) >>= _) _ _ _
  rw [Int.toNat_natCast]
  refine wpAny_bind ?_
  have q : ∀ R : Option Obj → Shared → Prop, R none s → wpAny (model prog w) A (loadIfAlive T0) R E s := fun R r => by
    have r' : R (s.heap.get? T0) s := by
      rw [gone]
      exact r
    exact fun _ _ _ => r'
  refine q _ ?_
  simp only [Option.isNone_none, if_true]
  exact wpAny_pure h
theorem zipF_next {Q : Value → Shared → Prop} (S : ZipSep2 z TI TO i1 i2 fp1 fp2) (D1 : Draws prog w A i1 fp1 n1 P1 St1) (D2 : Draws prog w A i2 fp2 n2 P2 St2) (hz : IsZipHeld s.heap z TI TO T0 f) (gone : s.heap.get? T0 = none) (hTI : IsTupOf2 s.heap TI (.ref i1) (.ref i2)) (hTO : IsTupOf2 s.heap TO a1 a2)
    (st1 : St1 i s.heap) (st2 : St2 i s.heap) (l1 : i < n1) (l2 : i < n2)
    (q : ∀ x1 x2 h2 tk, P1 i x1 → P2 i x2 → IsZipHeld h2 z TI TO s.heap.objs.size false → IsTupOf2 h2 TO x1 x2 → St1 (i + 1) h2 → St2 (i + 1) h2 → IsTupOf2 h2 s.heap.objs.size x1 x2 → h2.objs.size = s.heap.objs.size + 1 → (∀ c o, c ≠ z → c ≠ TO → c ≠ i1 → c ≠ i2 → s.heap.get? c = some o → h2.get? c = some o) → Q (.ref s.heap.objs.size) { s with heap := h2, toks := tk }) :
    wpAny (model prog w) A (Builtin.«zip.__next__» ⟨[.ref z], []⟩) (fun fin s2 => ∃ v, fin = .done (.ret v) ∧ Q v s2) E s := by
  obtain ⟨hp, g, d, tk0, os⟩ := s
  show wpAny _ _ (field (.ref z) 2 >>= _) _ _ _
  refine wpAny_bind (wpAny_field hz rfl (x := .bool false) rfl ?_)
  show wpAny _ _ (field (.ref z) 3 >>= _) _ _ _
  refine wpAny_bind (wpAny_field hz rfl (x := .ref TI) rfl (wpAny_bind (wpAny_seqItems hTI rfl ?_)))
  show wpAny _ _ (Builtin.SmallTypes.ownedTupleIsFree (.ref z) >>= _) _ _ _
  refine wpAny_bind (dead_free hz gone ?_)
  simp only [if_true]
  refine wpAny_bind (wpAny_rule (wpAny_bind (wpAny_field hz rfl (x := .ref TO) rfl (wpAny_bind (wpAny_setField_rec hz (by simp) fun b0 zb0 sb0 => ?_)))))
  replace zb0 : ZipRec b0 z TI TO .ellipsis (.bool f) := zb0
  refine wpAny_bind ?_
  simp only [List.zipIdx_cons, List.zipIdx_nil, List.forIn_cons, List.forIn_nil]
  refine wpAny_bind (wpAny_bind (wpAny_onRaise ?_))
  show wpAny _ _ (Builtin.SmallTypes.nextOf (.ref i1) >>= _) _ _ ⟨b0, g, d, tk0, os⟩
  refine wpAny_bind (D1.item i _ _ _ l1 (D1.over st1 sb0 S.zf1) fun x1 c1 tk1 y1 t1 e1 => wpAny_pure ?_)
  have u1 : IsTupOf2 c1 TO a1 a2 := e1.extBut _ _ S.Ti1 (sb0.extBut _ _ S.TOz hTO)
  refine wpAny_bind (wpAny_seqItems (s := ⟨c1, g, d, tk1, os⟩) u1 rfl (wpAny_bind (updateSeq_IsTupOf2 (s := ⟨c1, g, d, tk1, os⟩) u1 fun b1 v1 sb1 => wpAny_bind (wpAny_letGo (wpAny_pure ?_)))))
  replace v1 : IsTupOf2 b1 TO x1 a2 := v1
  refine wpAny_bind (wpAny_bind (wpAny_onRaise ?_))
  show wpAny _ _ (Builtin.SmallTypes.nextOf (.ref i2) >>= _) _ _ ⟨b1, g, d, tk1, os⟩
  refine wpAny_bind (D2.item i _ _ _ l2 (D2.over (D2.over (D2.over st2 sb0 S.zf2) e1 S.sep1_2) sb1 S.Tf2) fun x2 c2 tk2 y2 t2 e2 => wpAny_pure ?_)
  have u2 : IsTupOf2 c2 TO x1 a2 := e2.extBut _ _ S.Ti2 v1
  refine wpAny_bind (wpAny_seqItems (s := ⟨c2, g, d, tk2, os⟩) u2 rfl (wpAny_bind (updateSeq_IsTupOf2 (s := ⟨c2, g, d, tk2, os⟩) u2 fun b2 v2 sb2 => wpAny_bind (wpAny_letGo (wpAny_pure (wpAny_pure ?_))))))
  replace v2 : IsTupOf2 b2 TO x1 x2 := v2
  refine wpAny_bind (wpAny_seqItems (s := ⟨b2, g, d, tk2, os⟩) v2 rfl (wpAny_bind (wpAny_newTuple ?_)))
  have same_size : b2.objs.size = hp.objs.size := by rw [sb2.1, e2.1, sb1.1, e1.1, sb0.1]
  have zz : ZipRec b2 z TI TO .ellipsis (.bool f) := sb2.extBut _ _ S.TOz.symm (e2.extBut _ _ S.zi2 (sb1.extBut _ _ S.TOz.symm (e1.extBut _ _ S.zi1 zb0)))
  have stay : ∀ c o, c ≠ z → c ≠ TO → c ≠ i1 → c ≠ i2 → hp.get? c = some o → b2.get? c = some o := fun c o k0 kT k1 k2 e => sb2.extBut _ _ kT (e2.extBut _ _ k2 (sb1.extBut _ _ kT (e1.extBut _ _ k1 (sb0.extBut _ _ k0 e))))
  have j1 : St1 (i + 1) b2 := D1.over (D1.over (D1.over t1 sb1 S.Tf1) e2 S.sep2_1) sb2 S.Tf1
  have j2 : St2 (i + 1) b2 := D2.over t2 sb2 S.Tf2
  have zlt : z < b2.objs.size := Heap.lt_size zz
  show wpAny _ _ (Builtin.SmallTypes.ownedTupleHandOut (.ref z) (.ref b2.objs.size) >>= _) _ _ ⟨b2.push { cls := .type "tuple", data := .seq #[x1, x2] }, g, d, tk2, os⟩
  refine wpAny_bind ?_
  unfold Builtin.SmallTypes.ownedTupleHandOut
  have z6 : ZipRec (b2.push { cls := .type "tuple", data := .seq #[x1, x2] }) z TI TO .ellipsis (.bool f) := Heap.get?_push_of_some _ zz
  refine wpAny_bind (wpAny_setField_rec z6 (by simp) fun b7 z7 s7 => ?_)
  replace z7 : ZipRec b7 z TI TO (rawInt b2.objs.size) (.bool f) := z7
  refine wpAny_setField_rec z7 (by simp) fun b8 z8 s8 => ?_
  replace z8 : IsZipHeld b8 z TI TO b2.objs.size false := z8
  have lift : ∀ c o, c ≠ z → b2.get? c = some o → b8.get? c = some o := fun c o k e => s8.extBut _ _ k (s7.extBut _ _ k (Heap.get?_push_of_some _ e))
  have T8 : IsTupOf2 b8 b2.objs.size x1 x2 := s8.extBut _ _ (Nat.ne_of_gt zlt) (s7.extBut _ _ (Nat.ne_of_gt zlt) (Heap.get?_push_size _ rfl))
  have n8 : b8.objs.size = b2.objs.size + 1 := by rw [s8.1, s7.1, Heap.size_push]
  rw [same_size] at z8 T8 n8
  refine wpAny_pure ⟨_, rfl, ?_⟩
  show Q (.ref b2.objs.size) ⟨b8, g, d, tk2, os⟩
  rw [same_size]
  exact q x1 x2 b8 tk2 y1 y2 z8 (lift _ _ S.TOz v2) (D1.frame _ _ _ j1 fun b hb o e => lift b o (fun k => S.zf1 (k ▸ hb)) e) (D2.frame _ _ _ j2 fun b hb o e => lift b o (fun k => S.zf2 (k ▸ hb)) e) T8 n8 fun c o k0 kT k1 k2 e => lift c o k0 (stay c o k0 kT k1 k2 e)
theorem zipF_stop {Q : Fin → Shared → Prop} (S : ZipSep2 z TI TO i1 i2 fp1 fp2) (D1 : Draws prog w A i1 fp1 n1 P1 St1) (D2 : Draws prog w A i2 fp2 n2 P2 St2) (hz : IsZipHeld s.heap z TI TO T0 f) (gone : s.heap.get? T0 = none) (hTI : IsTupOf2 s.heap TI (.ref i1) (.ref i2)) (hTO : IsTupOf2 s.heap TO a1 a2)
    (st1 : St1 i s.heap) (st2 : St2 i s.heap) (l1 : i ≤ n1) (l2 : i ≤ n2) (last : i = n1 ∨ i = n2)
    (q : ∀ h2 tk e, (∀ c o, c ≠ z → c ≠ TO → c ≠ i1 → c ≠ i2 → s.heap.get? c = some o → h2.get? c = some o) → (∃ o, h2.get? e = some o ∧ o.cls = .type "StopIteration") → E (.ref e) { s with heap := h2, toks := tk }) :
    wpAny (model prog w) A (Builtin.«zip.__next__» ⟨[.ref z], []⟩) Q E s := by
  obtain ⟨hp, g, d, tk0, os⟩ := s
  show wpAny _ _ (field (.ref z) 2 >>= _) _ _ _
  refine wpAny_bind (wpAny_field hz rfl (x := .bool false) rfl ?_)
  show wpAny _ _ (field (.ref z) 3 >>= _) _ _ _
  refine wpAny_bind (wpAny_field hz rfl (x := .ref TI) rfl (wpAny_bind (wpAny_seqItems hTI rfl ?_)))
  show wpAny _ _ (Builtin.SmallTypes.ownedTupleIsFree (.ref z) >>= _) _ _ _
  refine wpAny_bind (dead_free hz gone ?_)
  simp only [if_true]
  refine wpAny_bind (wpAny_rule (wpAny_bind (wpAny_field hz rfl (x := .ref TO) rfl (wpAny_bind (wpAny_setField_rec hz (by simp) fun b0 zb0 sb0 => ?_)))))
  replace zb0 : ZipRec b0 z TI TO .ellipsis (.bool f) := zb0
  refine wpAny_bind ?_
  simp only [List.zipIdx_cons, List.zipIdx_nil, List.forIn_cons, List.forIn_nil]
  refine wpAny_bind (wpAny_bind (wpAny_onRaise ?_))
  show wpAny _ _ (Builtin.SmallTypes.nextOf (.ref i1) >>= _) _ _ ⟨b0, g, d, tk0, os⟩
  by_cases lt1 : i < n1
  · refine wpAny_bind (D1.item i _ _ _ lt1 (D1.over st1 sb0 S.zf1) fun x1 c1 tk1 y1 t1 e1 => wpAny_pure ?_)
    have u1 : IsTupOf2 c1 TO a1 a2 := e1.extBut _ _ S.Ti1 (sb0.extBut _ _ S.TOz hTO)
    refine wpAny_bind (wpAny_seqItems (s := ⟨c1, g, d, tk1, os⟩) u1 rfl (wpAny_bind (updateSeq_IsTupOf2 (s := ⟨c1, g, d, tk1, os⟩) u1 fun b1 v1 sb1 => wpAny_bind (wpAny_letGo (wpAny_pure ?_)))))
    have at2 : i = n2 := by omega
    refine wpAny_bind (wpAny_bind (wpAny_onRaise ?_))
    show wpAny _ _ (Builtin.SmallTypes.nextOf (.ref i2) >>= _) _ _ ⟨b1, g, d, tk1, os⟩
    refine wpAny_bind (D2.done ⟨b1, g, d, tk1, os⟩ _ _ (by rw [← at2]; exact D2.over (D2.over (D2.over st2 sb0 S.zf2) e1 S.sep1_2) sb1 S.Tf2) fun r e kr ke => ?_)
    obtain ⟨oe, he, ce⟩ := ke
    have zr : ZipRec r z TI TO .ellipsis (.bool f) := kr _ _ S.zi2 (sb1.extBut _ _ S.TOz.symm (e1.extBut _ _ S.zi1 zb0))
    have ez : e ≠ z := fun x => by
      subst x
      rw [Option.some.inj ((show r.get? e = some oe from he).symm.trans zr)] at ce
      simp at ce
    refine wpAny_setField_rec (s := ⟨r, g, d, tk1, os⟩) zr (by simp) fun r' _ kr' => ?_
    exact q r' tk1 e (fun c o k0 kT k1 k2 x => kr'.extBut _ _ k0 (kr _ _ k2 (sb1.extBut _ _ kT (e1.extBut _ _ k1 (sb0.extBut _ _ k0 x))))) ⟨oe, kr'.extBut _ _ ez he, ce⟩
  · have at1 : i = n1 := by omega
    refine wpAny_bind (D1.done ⟨b0, g, d, tk0, os⟩ _ _ (by rw [← at1]; exact D1.over st1 sb0 S.zf1) fun r e kr ke => ?_)
    obtain ⟨oe, he, ce⟩ := ke
    have zr : ZipRec r z TI TO .ellipsis (.bool f) := kr _ _ S.zi1 zb0
    have ez : e ≠ z := fun x => by
      subst x
      rw [Option.some.inj ((show r.get? e = some oe from he).symm.trans zr)] at ce
      simp at ce
    refine wpAny_setField_rec (s := ⟨r, g, d, tk0, os⟩) zr (by simp) fun r' _ kr' => ?_
    exact q r' tk0 e (fun c o k0 kT k1 k2 x => kr'.extBut _ _ k0 (kr _ _ k1 (sb0.extBut _ _ k0 x))) ⟨oe, kr'.extBut _ _ ez he, ce⟩
end
section
variable {prog : Program} {w : World} {A : Around} {E : Value → Shared → Prop} {s : Shared} {z TI TO T0 i1 i2 : Addr} {fp1 fp2 : List Addr} {n1 n2 i : Nat} {P1 P2 : Nat → Value → Prop} {St1 St2 : Nat → Heap → Prop} {a1 a2 : Value} {Q : Option Value → Shared → Prop}
/-- what a zip may be at a turn: none handed out, or one, that lives or doesn't -/
def ZipAny (h : Heap) (z TI TO : Addr) : Prop := IsZip h z TI TO .none ∨ ∃ T0 f, IsZipHeld h z TI TO T0 f
theorem ZipAny.keep {h h' : Heap} (x : ZipAny h z TI TO) (k : ∀ o, h.get? z = some o → h'.get? z = some o) : ZipAny h' z TI TO := by
  rcases x with x | ⟨T0, f, x⟩
  · exact .inl (k _ x)
  · exact .inr ⟨T0, f, k _ x⟩
theorem ZipAny.obj {h : Heap} (x : ZipAny h z TI TO) : ∃ o, h.get? z = some o ∧ ∀ v, o.data ≠ .cell v := by
  rcases x with x | ⟨T0, f, x⟩
  · exact ⟨_, x, fun v q => nomatch q⟩
  · exact ⟨_, x, fun v q => nomatch q⟩
theorem pyNext_zipAny (S : ZipSep2 z TI TO i1 i2 fp1 fp2) (D1 : Draws prog w A.in1 i1 fp1 n1 P1 St1) (D2 : Draws prog w A.in1 i2 fp2 n2 P2 St2) (hz : ZipAny s.heap z TI TO) (hTI : IsTupOf2 s.heap TI (.ref i1) (.ref i2)) (hTO : IsTupOf2 s.heap TO a1 a2)
    (st1 : St1 i s.heap) (st2 : St2 i s.heap) (l1 : i < n1) (l2 : i < n2)
    (q : ∀ x1 x2 h2 tk, P1 i x1 → P2 i x2 → ZipAny h2 z TI TO → (∃ b1 b2, IsTupOf2 h2 TO b1 b2) → St1 (i + 1) h2 → St2 (i + 1) h2 → IsTupOf2 h2 s.heap.objs.size x1 x2 → h2.objs.size = s.heap.objs.size + 1 → (∀ c o, c ≠ z → c ≠ TO → c ≠ i1 → c ≠ i2 → s.heap.get? c = some o → h2.get? c = some o) → Q (some (.ref s.heap.objs.size)) { s with heap := h2, toks := tk }) :
    wpAny (model prog w) A (pyNext (.ref z)) Q E s := by
  rcases hz with hz | ⟨T0, f, hz⟩
  · exact wpAny_pyNext_zipD2_item S D1 D2 hz hTI hTO st1 st2 l1 l2 fun x1 x2 h2 tk p1 p2 z' TO' s1 s2 hT hn k => q x1 x2 h2 tk p1 p2 (.inr ⟨_, false, z'⟩) ⟨_, _, TO'⟩ s1 s2 hT hn k
  · cases hg : s.heap.get? T0 with
    | some oT => exact pyNext_zipH S D1 D2 hz hg hTI st1 st2 l1 l2 fun x1 x2 h2 tk p1 p2 z' s1 s2 hT hn k => q x1 x2 h2 tk p1 p2 (.inr ⟨_, true, z'⟩) ⟨_, _, k _ _ S.TOz S.Ti1 S.Ti2 hTO⟩ s1 s2 hT hn fun c o k0 _ k1 k2 e => k c o k0 k1 k2 e
    | none =>
      have ty : s.TypeIs (.ref z) "zip" := ⟨_, hz, rfl⟩
      unfold pyNext
      exact wpAny_bind (wpAny_attempt (wpAny_callSpecial?_slot (name := Str.ofString "__next__") ty F.slot_zip_next (wpAny_call_entry F.slot_zip_next ty F.entry_zip_next (zipF_next S D1 D2 hz hg hTI hTO st1 st2 l1 l2 fun x1 x2 h2 tk p1 p2 z' TO' s1 s2 hT hn k => wpAny_pure (q x1 x2 h2 tk p1 p2 (.inr ⟨_, false, z'⟩) ⟨_, _, TO'⟩ s1 s2 hT hn k)) (F.args_zip_next_1 _))))
theorem pyNext_zipAny_end (S : ZipSep2 z TI TO i1 i2 fp1 fp2) (D1 : Draws prog w A.in1 i1 fp1 n1 P1 St1) (D2 : Draws prog w A.in1 i2 fp2 n2 P2 St2) (hz : ZipAny s.heap z TI TO) (hTI : IsTupOf2 s.heap TI (.ref i1) (.ref i2)) (hTO : IsTupOf2 s.heap TO a1 a2)
    (st1 : St1 i s.heap) (st2 : St2 i s.heap) (l1 : i ≤ n1) (l2 : i ≤ n2) (last : i = n1 ∨ i = n2)
    (q : ∀ h2 tk, (∀ c o, c ≠ z → c ≠ TO → c ≠ i1 → c ≠ i2 → s.heap.get? c = some o → h2.get? c = some o) → Q none { s with heap := h2, toks := tk }) : wpAny (model prog w) A (pyNext (.ref z)) Q E s := by
  rcases hz with hz | ⟨T0, f, hz⟩
  · exact wpAny_pyNext_zipD2_end S D1 D2 hz hTI hTO st1 st2 l1 l2 last q
  · cases hg : s.heap.get? T0 with
    | some oT => exact pyNext_zipH_end S D1 D2 hz hg hTI st1 st2 l1 l2 last fun h2 tk k => q h2 tk fun c o k0 _ k1 k2 e => k c o k0 k1 k2 e
    | none =>
      have ty : s.TypeIs (.ref z) "zip" := ⟨_, hz, rfl⟩
      unfold pyNext
      refine wpAny_bind (wpAny_attempt (wpAny_callSpecial?_slot (name := Str.ofString "__next__") ty F.slot_zip_next (wpAny_call_entry F.slot_zip_next ty F.entry_zip_next (zipF_stop S D1 D2 hz hg hTI hTO st1 st2 l1 l2 last fun h2 tk e hk he => ?_) (F.args_zip_next_1 _))))
      obtain ⟨o, ho, hc⟩ := he
      exact wpAny_bind (wpAny_isInstance (T := "StopIteration") (b := true) ⟨o, ho, hc⟩ isSubtype_stop (wpAny_pure (q _ _ hk)))
end
end FW
/-! for p in zip(x, y): the rule -/
namespace FW
open PySem PySem.Spec PySem.Calls PyProof.Rows L2
theorem pyIter_zipAny {prog : Program} {w : World} {A : Around} {E : Value → Shared → Prop} {s : Shared} {z TI TO : Addr} {Q : Value → Shared → Prop} (hz : ZipAny s.heap z TI TO) (h : Q (.ref z) s) : wpAny (model prog w) A (pyIter (.ref z)) Q E s := by
  rcases hz with hz | ⟨T0, f, hz⟩
  · exact wpAny_pyIter_zip hz h
  · have ty : s.TypeIs (.ref z) "zip" := ⟨_, hz, rfl⟩
    exact wpAny_pyIter_slot ty F.slot_zip_iter (wpAny_call_entry F.slot_zip_iter ty F.entry_zip_iter (show wpAny _ _ (ret (.ref z)) _ _ s from wpAny_pure ⟨_, rfl, "zip", _, ty, F.slot_zip_next.lookup, h⟩) (F.args_zip_iter_1 _))
theorem turn_zipN {P : Program} {w : World} {K : PySem.W.Frag} {tg : Expr} {z TI TO i1 i2 : Addr} {k1 k2 : SK}
    (hgo : ∀ it v, letOwnedTupleGo tg it v = pure ())
    (d1 : TI ≠ z) (d2 : TO ≠ z) (d3 : TI ≠ TO) (d4 : TI ≠ i1) (d5 : TI ≠ i2) (d6 : z ≠ i1) (d7 : z ≠ i2) (d8 : TO ≠ i1) (d9 : TO ≠ i2) (d10 : i1 ≠ i2)
    (a1 : ∀ c, k1.at c → c ≠ z ∧ c ≠ TO ∧ c ≠ i1 ∧ c ≠ i2) (a2 : ∀ c, k2.at c → c ≠ z ∧ c ≠ TO ∧ c ≠ i1 ∧ c ≠ i2) :
    Turn P w K tg (ItzG K k1 k2) [z, TI, TO, i1, i2] z (fun i h => ZipAny h z TI TO ∧ IsTupOf2 h TI (.ref i1) (.ref i2) ∧ (∃ x y, IsTupOf2 h TO x y) ∧ k1.iter i1 i h ∧ k2.iter i2 i h) where
  mem := by simp
  obj := fun i h st c hc => by
    obtain ⟨hz, hTI, ⟨x, y, hTO⟩, s1, s2⟩ := st
    have e' : c = z ∨ c = TI ∨ c = TO ∨ c = i1 ∨ c = i2 := by simpa using hc
    rcases e' with q | q | q | q | q
    · rw [q]; exact hz.obj
    · rw [q]; exact ⟨_, hTI, fun v q => nomatch q⟩
    · rw [q]; exact ⟨_, hTO, fun v q => nomatch q⟩
    · rw [q]; exact SK.iter_obj s1
    · rw [q]; exact SK.iter_obj s2
  keep := fun i h h' st k => by
    obtain ⟨hz, hTI, ⟨x, y, hTO⟩, s1, s2⟩ := st
    exact ⟨hz.keep (k z (by simp)), k TI (by simp) _ hTI, ⟨x, y, k TO (by simp) _ hTO⟩, SK.iter_keep s1 fun o q => k i1 (by simp) o q, SK.iter_keep s2 fun o q => k i2 (by simp) o q⟩
  item := by
    intro X hP hw hK hc i pins s σ H E I hf st hg
    subst hP hw hK
    obtain ⟨hz, hTI, ⟨x0, y0, hTO⟩, s1, s2⟩ := st
    obtain ⟨xs, ys, x, y, hqx, hqy, hx, hy⟩ := hg
    obtain ⟨fp1, P1, S1, D1, g1, b1, r1, m1, f1⟩ := SK.draws I hc hqx fun c q => (a1 c q).2.2.1
    obtain ⟨fp2, P2, S2, D2, g2, b2, r2, m2, f2⟩ := SK.draws I hc hqy fun c q => (a2 c q).2.2.2
    have Z : ZipSep2 z TI TO i1 i2 fp1 fp2 :=
      { TIz := d1, TOz := d2, TITO := d3, TIi1 := d4, mem1 := m1, TIi2 := d5, mem2 := m2,
        zf1 := fun q => by rcases f1 z q with e | e; exact d6 e; exact (a1 z e).1 rfl
        Tf1 := fun q => by rcases f1 TO q with e | e; exact d8 e; exact (a1 TO e).2.1 rfl
        zf2 := fun q => by rcases f2 z q with e | e; exact d7 e; exact (a2 z e).1 rfl
        Tf2 := fun q => by rcases f2 TO q with e | e; exact d9 e; exact (a2 TO e).2.1 rfl
        sep1_2 := fun q => by rcases f2 i1 q with e | e; exact d10 e; exact (a2 i1 e).2.2.1 rfl
        sep2_1 := fun q => by rcases f1 i2 q with e | e; exact d10 e.symm; exact (a1 i2 e).2.2.2 rfl }
    have lx : i < xs.length := (List.getElem?_eq_some_iff.mp hx).1
    have ly : i < ys.length := (List.getElem?_eq_some_iff.mp hy).1
    have hzl : z < s.heap.objs.size := let ⟨_, e, _⟩ := hz.obj; Heap.lt_size e
    refine pyNext_zipAny Z D1 D2 hz hTI hTO (g1 i s1) (g2 i s2) lx ly fun u1 u2 h' tk p1 p2 z' TO' s1' s2' hT hsz hk => ?_
    obtain ⟨v1, e1, ru⟩ := r1 i u1 p1
    obtain ⟨v2, e2, ru2⟩ := r2 i u2 p2
    have ev1 : v1 = x := Option.some.inj (e1.symm.trans hx)
    have ev2 : v2 = y := Option.some.inj (e2.symm.trans hy)
    subst ev1 ev2
    refine ⟨_, rfl, ?_⟩
    rw [hgo]
    refine wpAny_pure ?_
    have new : ObjOk X.prog X.w (upd H s.heap.objs.size (.tup [v1, v2])) h' s.heap.objs.size (.tup [v1, v2]) := ⟨by show 2 ≤ sizeLine; decide, [u1, u2], .cons ru (.cons ru2 .nil), ⟨_, hT, rfl, _, rfl⟩⟩
    have I1 : Inv X pins σ (upd H s.heap.objs.size (.tup [v1, v2])) { s with heap := h', toks := tk } :=
      I.turnedNew (t' := tk) (ch := [z, TI, TO, i1, i2]) (fun c o hb q => hk c o (fun q' => hb (by simp [q'])) (fun q' => hb (by simp [q'])) (fun q' => hb (by simp [q'])) (fun q' => hb (by simp [q'])) q) hf (Nat.le_refl _) new
    refine ⟨.ref s.heap.objs.size, _, I1, rfl, ⟨_, v1, v2, rfl, I.hok.fresh (Nat.le_refl _), rfl, fun l hl => by rw [SK.inj I hl hqx]; exact hx, fun l hl => by rw [SK.inj I hl hqy]; exact hy⟩, ⟨z', hk _ _ d1 d3 d4 d5 hTI, TO', b1 _ _ s1', b2 _ _ s2'⟩, fun c hcm => ?_⟩
    have hlt : c < s.heap.objs.size := by
      have e' : c = z ∨ c = TI ∨ c = TO ∨ c = i1 ∨ c = i2 := by simpa using hcm
      rcases e' with q | q | q | q | q
      · rw [q]; exact hzl
      · rw [q]; exact Heap.lt_size hTI
      · rw [q]; exact Heap.lt_size hTO
      · rw [q]; obtain ⟨_, e, _⟩ := SK.iter_obj s1; exact Heap.lt_size e
      · rw [q]; obtain ⟨_, e, _⟩ := SK.iter_obj s2; exact Heap.lt_size e
    rw [upd_ne (Nat.ne_of_lt hlt)]
    exact (hf c hcm).1
  done := by
    intro X hP hw hK hc i pins s σ H E I hf st hg
    subst hP hw hK
    obtain ⟨hz, hTI, ⟨x0, y0, hTO⟩, s1, s2⟩ := st
    obtain ⟨xs, ys, hqx, hqy, hlx, hly, hend⟩ := hg
    obtain ⟨fp1, P1, S1, D1, g1, b1, r1, m1, f1⟩ := SK.draws I hc hqx fun c q => (a1 c q).2.2.1
    obtain ⟨fp2, P2, S2, D2, g2, b2, r2, m2, f2⟩ := SK.draws I hc hqy fun c q => (a2 c q).2.2.2
    have Z : ZipSep2 z TI TO i1 i2 fp1 fp2 :=
      { TIz := d1, TOz := d2, TITO := d3, TIi1 := d4, mem1 := m1, TIi2 := d5, mem2 := m2,
        zf1 := fun q => by rcases f1 z q with e | e; exact d6 e; exact (a1 z e).1 rfl
        Tf1 := fun q => by rcases f1 TO q with e | e; exact d8 e; exact (a1 TO e).2.1 rfl
        zf2 := fun q => by rcases f2 z q with e | e; exact d7 e; exact (a2 z e).1 rfl
        Tf2 := fun q => by rcases f2 TO q with e | e; exact d9 e; exact (a2 TO e).2.1 rfl
        sep1_2 := fun q => by rcases f2 i1 q with e | e; exact d10 e; exact (a2 i1 e).2.2.1 rfl
        sep2_1 := fun q => by rcases f1 i2 q with e | e; exact d10 e.symm; exact (a1 i2 e).2.2.2 rfl }
    exact pyNext_zipAny_end Z D1 D2 hz hTI hTO (g1 i s1) (g2 i s2) hlx hly hend fun h' tk hk => ⟨rfl, I.turnedL (t' := tk) (ch := [z, TI, TO, i1, i2]) (fun c o hb q =>
      hk c o (fun q' => hb (by simp [q'])) (fun q' => hb (by simp [q'])) (fun q' => hb (by simp [q'])) (fun q' => hb (by simp [q'])) q) hf⟩
  self := fun A i s Q E st h => pyIter_zipAny st.1 h
theorem pi_zipN {X : Cx} {e e2 : Expr} {ta : TA} {tg : Expr} {p pos : Pos} (hg : Gl X "zip") (hm : X.mg "zip" = none) (ha : PA X [e, e2] ta)
    (hs : starEach [e, e2] X.env = (false, eval e X.env) :: starEach [e2] X.env := by rfl) (hpl : (backTo pos (starEach [e2] X.env)).any (·.1) = false := by rfl) (hgo : ∀ it v, letOwnedTupleGo tg it v = pure () := by intro _ _; rfl) :
    PI X tg (.Call (.Name "zip" p) [e, e2] [] pos) (iZipG X.K ta) := by
  refine ⟨fun pins s σ H R I h => ?_⟩
  refine Call_ (ld_blt I hg hm PyProof.Rows.boot_zip (PyProof.Rows.callWith_type1 (thn (ha.run pos pins s σ H _ I h) fun us s1 ⟨vs, H1, I1, r1, q1⟩ => ?_) hs hpl))
  obtain ⟨x, y, xs, ys, ex, sx, sy, q⟩ := q1
  subst ex
  cases r1 with
  | cons r rr =>
    cases rr with
    | cons r' rr =>
      cases rr
      obtain ⟨k1, ev1, _, src1, lt1, B1, b1, hb1⟩ := sx.kind I1 r
      obtain ⟨k2, ev2, _, src2, lt2, B2, b2, hb2⟩ := sy.kind I1 r'
      have fresh5 : ∀ c, c ∈ [s1.heap.objs.size + 4, s1.heap.objs.size + 2, s1.heap.objs.size + 3, s1.heap.objs.size, s1.heap.objs.size + 1] → FpOk X pins H1 c := fun c hcm => by
        have e' : c = s1.heap.objs.size + 4 ∨ c = s1.heap.objs.size + 2 ∨ c = s1.heap.objs.size + 3 ∨ c = s1.heap.objs.size ∨ c = s1.heap.objs.size + 1 := by simpa using hcm
        have hle : s1.heap.objs.size ≤ c := by omega
        exact I1.fpOk hle (I1.hok.fresh hle)
      refine zip_begins2 b1 b2 hb1 hb2 fun h' hz hTI hTO h1 h2 hsz hk => wpAny_pyIter_zip hz ?_
      have I2 : Inv X pins σ H1 { s1 with heap := h' } := I1.kept (t' := s1.toks) hk
      have TT := turn_zipN (P := X.prog) (w := X.w) (K := X.K) (tg := tg) (z := s1.heap.objs.size + 4) (TI := s1.heap.objs.size + 2) (TO := s1.heap.objs.size + 3) (i1 := s1.heap.objs.size) (i2 := s1.heap.objs.size + 1) (k1 := k1) (k2 := k2)
        hgo (neN (by omega)) (neN (by omega)) (neN (by omega)) (neN (by omega)) (neN (by omega)) (neN (by omega)) (neN (by omega)) (neN (by omega)) (neN (by omega)) (neN (by omega))
        (fun c hc => have h : c < s1.heap.objs.size := lt1 c hc; ⟨Nat.ne_of_lt (Nat.lt_of_lt_of_le h (Nat.le_add_right _ _)), Nat.ne_of_lt (Nat.lt_of_lt_of_le h (Nat.le_add_right _ _)), Nat.ne_of_lt h, Nat.ne_of_lt (Nat.lt_of_lt_of_le h (Nat.le_add_right _ _))⟩) (fun c hc => have h : c < s1.heap.objs.size := lt2 c hc; ⟨Nat.ne_of_lt (Nat.lt_of_lt_of_le h (Nat.le_add_right _ _)), Nat.ne_of_lt (Nat.lt_of_lt_of_le h (Nat.le_add_right _ _)), Nat.ne_of_lt h, Nat.ne_of_lt (Nat.lt_of_lt_of_le h (Nat.le_add_right _ _))⟩)
      exact ⟨s1.heap.objs.size + 4, [s1.heap.objs.size + 4, s1.heap.objs.size + 2, s1.heap.objs.size + 3, s1.heap.objs.size, s1.heap.objs.size + 1], _, _, H1, rfl, I2, TT, ⟨.inl hz, hTI, ⟨_, _, hTO⟩, SK.begun h1, SK.begun h2⟩, fresh5, q k1 k2 ev1 ev2 src1 src2⟩
theorem kindT {X : Cx} {pins : List (Addr × Obj)} {σ : L2.St} {H : Hp} {s : Shared} {a : Addr} {u : Value} {xs : List V} (I : Inv X pins σ H s) (h : SqT X.K H a xs) (r : L2.RelV (.ref a) u) :
    u = .ref a ∧ (∀ c, (SK.t a).at c → c < s.heap.objs.size) ∧ ∃ B : Heap → Prop, Begins (.ref a) (SK.t a).obj B ∧ B s.heap := by
  obtain ⟨its, rv, p, _⟩ := I.tuple h
  have p' : s.heap.IsTuple a its.toArray := p
  exact ⟨r, fun c e => by rw [show c = a from e]; obtain ⟨o, e, _⟩ := p'; exact Heap.lt_size e, _, begins_tuple a its.toArray, p'⟩
/-- two tuples -/
def iZipT (K : PySem.W.Frag) (ta : TA) : TI := fun σ H R => ta σ H fun vs H1 => ∃ (x y : Addr) (xs ys : List V), vs = [.ref x, .ref y] ∧ SqT K H1 x xs ∧ SqT K H1 y ys ∧ R (ItzG K (.t x) (.t y)) H1
theorem pi_zipT {X : Cx} {e e2 : Expr} {ta : TA} {tg : Expr} {p pos : Pos} (hg : Gl X "zip") (hm : X.mg "zip" = none) (ha : PA X [e, e2] ta)
    (hs : starEach [e, e2] X.env = (false, eval e X.env) :: starEach [e2] X.env := by rfl) (hpl : (backTo pos (starEach [e2] X.env)).any (·.1) = false := by rfl) (hgo : ∀ it v, letOwnedTupleGo tg it v = pure () := by intro _ _; rfl) :
    PI X tg (.Call (.Name "zip" p) [e, e2] [] pos) (iZipT X.K ta) := by
  refine ⟨fun pins s σ H R I h => ?_⟩
  refine Call_ (ld_blt I hg hm PyProof.Rows.boot_zip (PyProof.Rows.callWith_type1 (thn (ha.run pos pins s σ H _ I h) fun us s1 ⟨vs, H1, I1, r1, q1⟩ => ?_) hs hpl))
  obtain ⟨x, y, xs, ys, ex, sx, sy, q⟩ := q1
  subst ex
  cases r1 with
  | cons r rr =>
    cases rr with
    | cons r' rr =>
      cases rr
      obtain ⟨rfl, lt1, B1, b1, hb1⟩ := kindT I1 sx r
      obtain ⟨rfl, lt2, B2, b2, hb2⟩ := kindT I1 sy r'
      have fresh5 : ∀ c, c ∈ [s1.heap.objs.size + 4, s1.heap.objs.size + 2, s1.heap.objs.size + 3, s1.heap.objs.size, s1.heap.objs.size + 1] → FpOk X pins H1 c := fun c hcm => by
        have e' : c = s1.heap.objs.size + 4 ∨ c = s1.heap.objs.size + 2 ∨ c = s1.heap.objs.size + 3 ∨ c = s1.heap.objs.size ∨ c = s1.heap.objs.size + 1 := by simpa using hcm
        have hle : s1.heap.objs.size ≤ c := by omega
        exact I1.fpOk hle (I1.hok.fresh hle)
      refine zip_begins2 b1 b2 hb1 hb2 fun h' hz hTI hTO h1 h2 hsz hk => wpAny_pyIter_zip hz ?_
      have I2 : Inv X pins σ H1 { s1 with heap := h' } := I1.kept (t' := s1.toks) hk
      have TT := turn_zipN (P := X.prog) (w := X.w) (K := X.K) (tg := tg) (z := s1.heap.objs.size + 4) (TI := s1.heap.objs.size + 2) (TO := s1.heap.objs.size + 3) (i1 := s1.heap.objs.size) (i2 := s1.heap.objs.size + 1) (k1 := .t x) (k2 := .t y)
        hgo (neN (by omega)) (neN (by omega)) (neN (by omega)) (neN (by omega)) (neN (by omega)) (neN (by omega)) (neN (by omega)) (neN (by omega)) (neN (by omega)) (neN (by omega))
        (fun c hc => have h : c < s1.heap.objs.size := lt1 c hc; ⟨Nat.ne_of_lt (Nat.lt_of_lt_of_le h (Nat.le_add_right _ _)), Nat.ne_of_lt (Nat.lt_of_lt_of_le h (Nat.le_add_right _ _)), Nat.ne_of_lt h, Nat.ne_of_lt (Nat.lt_of_lt_of_le h (Nat.le_add_right _ _))⟩) (fun c hc => have h : c < s1.heap.objs.size := lt2 c hc; ⟨Nat.ne_of_lt (Nat.lt_of_lt_of_le h (Nat.le_add_right _ _)), Nat.ne_of_lt (Nat.lt_of_lt_of_le h (Nat.le_add_right _ _)), Nat.ne_of_lt h, Nat.ne_of_lt (Nat.lt_of_lt_of_le h (Nat.le_add_right _ _))⟩)
      exact ⟨s1.heap.objs.size + 4, [s1.heap.objs.size + 4, s1.heap.objs.size + 2, s1.heap.objs.size + 3, s1.heap.objs.size, s1.heap.objs.size + 1], _, _, H1, rfl, I2, TT, ⟨.inl hz, hTI, ⟨_, _, hTO⟩, SK.begun h1, SK.begun h2⟩, fresh5, q⟩
end FW
namespace FW
open PySem PySem.Spec PyProof.Rows L2
-- more
section
variable {P : Program} {w : World} {K : PySem.W.Frag} {mg : Str → Option Value} {base : Heap}
/-- pairs met as they are kept: place by place a tuple of two states -/
abbrev prV (q : Pr) : List V := [nI q.1, nI q.2]
def keyP (q : Pr) : List Key := [.inl (q.1 : Int), .inl (q.2 : Int)]
/-- the dict of places -/
def plP (P : List Pr) : List (List Key × V) := P.zipIdx.map fun z => (keyP z.1, nI z.2)
theorem keyP_inj {q z : Pr} (h : keyP q = keyP z) : q = z := by
  obtain ⟨a, b⟩ := q
  obtain ⟨c, d⟩ := z
  simp only [keyP, List.cons.injEq, Sum.inl.injEq, and_true] at h
  obtain ⟨h1, h2⟩ := h
  rw [Int.ofNat.inj h1, Int.ofNat.inj h2]
theorem kV_keyP (q : Pr) : (keyP q).map kV = prV q := rfl
def plK (k : Nat) (P : List Pr) : List (List Key × V) := (P.zipIdx k).map fun z => (keyP z.1, nI z.2)
theorem plK_val (q : Pr) : ∀ (P : List Pr) (k : Nat), valV (plK k P) (keyP q) = if q ∈ P then some (nI (k + P.idxOf q)) else none
  | [], k => by
    rw [if_neg List.not_mem_nil]
    rfl
  | z :: P, k => by
    show valV ((keyP z, nI k) :: plK (k + 1) P) (keyP q) = _
    by_cases e : z = q
    · subst e
      rw [valV_pos rfl, if_pos List.mem_cons_self, List.idxOf_cons_self]
      rfl
    · have hv : valV ((keyP z, nI k) :: plK (k + 1) P) (keyP q) = valV (plK (k + 1) P) (keyP q) := by
        unfold valV
        rw [List.find?_cons_of_neg (by rw [decide_eq_false (fun h => e (keyP_inj h))]; exact Bool.false_ne_true)]
      rw [hv, plK_val q P (k + 1)]
      by_cases m : q ∈ P
      · have e2 : (z == q) = false := beq_eq_false_iff_ne.mpr e
        rw [if_pos m, if_pos (List.mem_cons_of_mem _ m), List.idxOf_cons, e2, cond_false, Nat.add_assoc, Nat.add_comm 1]
      · rw [if_neg m, if_neg (fun h => by
          rcases List.mem_cons.mp h with h | h
          · exact e h.symm
          · exact m h)]
theorem plP_val (P : List Pr) (q : Pr) : valV (plP P) (keyP q) = if q ∈ P then some (nI (P.idxOf q)) else none := by
  have h := plK_val q P 0
  rw [Nat.zero_add] at h
  exact h
theorem plP_len (P : List Pr) : (plP P).length = P.length := by
  unfold plP
  rw [List.length_map, List.length_zipIdx]
theorem plP_put {P : List Pr} {q : Pr} (h : q ∉ P) : putK (plP P) (keyP q) (nI P.length) = plP (P ++ [q]) := by
  unfold putK
  have no : ((plP P).any fun kv => decide (kv.1 = keyP q)) ≠ true := fun z => by
    obtain ⟨kv, hkv, e⟩ := List.any_eq_true.mp z
    obtain ⟨y, hy, rfl⟩ := List.mem_map.mp hkv
    have e' : keyP y.1 = keyP q := of_decide_eq_true e
    obtain ⟨y1, y2⟩ := y
    have hm := List.mem_zipIdx_iff_getElem?.mp hy
    rw [show y1 = q from keyP_inj e'] at hm
    exact h (List.mem_of_getElem? hm)
  rw [if_neg no]
  unfold plP
  rw [List.zipIdx_append, List.map_append, Nat.zero_add]
  rfl
/-- the pairs met behind k rows -/
def jointN (M1 M2 : List (List Nat)) : Nat → List Pr
  | 0 => [(0, 0)]
  | k + 1 => match (jointN M1 M2 k)[k]? with
    | some q => addAll (jointN M1 M2 k) (sides M1 M2 q)
    | none => jointN M1 M2 k
theorem jointN_succ {M1 M2 : List (List Nat)} {k : Nat} {q : Pr} (h : (jointN M1 M2 k)[k]? = some q) : jointN M1 M2 (k + 1) = addAll (jointN M1 M2 k) (sides M1 M2 q) := by
  show (match (jointN M1 M2 k)[k]? with
    | some q => addAll (jointN M1 M2 k) (sides M1 M2 q)
    | none => jointN M1 M2 k) = _
  rw [h]
def PairsT (H : Hp) (us : List V) (P : List Pr) : Prop := us.length = P.length ∧ ∀ (i : Nat) (v : V) (q : Pr), us[i]? = some v → P[i]? = some q → ∃ x, v = .ref x ∧ H x = some (.tup (prV q))
theorem PairsT.keep {H H' : Hp} {us : List V} {P : List Pr} (h : PairsT H us P) (s : ∀ x q, H x = some (.tup (prV q)) → H' x = some (.tup (prV q))) : PairsT H' us P :=
  ⟨h.1, fun i v q h1 h2 => let ⟨x, e, hx⟩ := h.2 i v q h1 h2; ⟨x, e, s x q hx⟩⟩
theorem PairsT.snoc {H : Hp} {us : List V} {P : List Pr} {t : Addr} {q : Pr} (h : PairsT H us P) (e : H t = some (.tup (prV q))) : PairsT H (us ++ [.ref t]) (P ++ [q]) := by
  refine ⟨by rw [List.length_append, List.length_append, h.1]; rfl, fun i v r' h1 h2 => ?_⟩
  by_cases hi : i < us.length
  · rw [List.getElem?_append_left hi] at h1
    rw [List.getElem?_append_left (by rw [← h.1]; exact hi)] at h2
    exact h.2 i v r' h1 h2
  · have hi2 : i = us.length := by
      obtain ⟨hlt, _⟩ := List.getElem?_eq_some_iff.mp h1
      rw [List.length_append] at hlt
      simp at hlt
      omega
    subst hi2
    rw [List.getElem?_append_right (Nat.le_refl _), Nat.sub_self] at h1
    rw [h.1, List.getElem?_append_right (Nat.le_refl _), Nat.sub_self] at h2
    cases h1
    cases h2
    exact ⟨t, rfl, e⟩
abbrev s_pairs_of : Stmt := topS 26
theorem sc_pairs_of : FnScope ["one", "other", "places", "pairs", "table", "left", "right", "row", "pair"] ["one", "other"] (defScope s_pairs_of) := ⟨rfl, rfl, rfl, by decide +kernel, rfl, by decide +kernel, by decide +kernel⟩
def sp_pairs_of (K : PySem.W.Frag) : Sp := fun vs H Q _ => ∃ (t1 t2 : Addr) (rs1 rs2 : List V) (M1 M2 : List (List Nat)) (n : Nat), vs = [.ref t1, .ref t2] ∧ SqT K H t1 rs1 ∧ SqT K H t2 rs2 ∧ RowsT K H rs1 M1 ∧ RowsT K H rs2 M2 ∧ TabOk n M1 ∧ TabOk n M2 ∧ n ≤ 1000 ∧ M1.length * M2.length < 200 ∧
  ∀ H' r a b (P : List Pr) (T : List (List Nat)) (us ws : List V), Same H H' → H' r = some (.tup [.ref a, .ref b]) → H r = none → H' a = some (.lst us) → PairsT H' us P →
    H' b = some (.lst ws) → RowsL H' ws T → JointS M1 M2 P T → T.length = P.length → P = jointN M1 M2 T.length → Q (.ref r) H'
theorem ok_pairs_of {f CM : Addr} {fd : FuncData} {t8 : Tok} {mc : Value} (F : Fun K "pairs_of" "pairs_of" s_pairs_of f fd) (T : Z mg) (gM : mg "Machine" = some (.ref CM)) (rM : ClX.CRead K CM mc) (vM : ClX.CVal K CM mc "MOST" (.int 200) (.int 200 t8)) : FnOk P w K mg base CX0 1 f fd ["one", "other"] (sp_pairs_of K) := by
  refine F.ok sc_pairs_of (fun vs H Q E h => ?_) (fun cdv A outer s H vs Q E hr h => ?_)
  · obtain ⟨t1, t2, rs1, rs2, M1, M2, n, rfl, _⟩ := h
    rfl
  obtain ⟨t1, t2, rs1, rs2, M1, M2, n, rfl, h1, h2, R1, R2, k1, k2, hn, hlt, q⟩ := h
  refine ⟨_, (pss_cons (ps_set (i := 2) sc_pairs_of.nd rfl (.inl rfl) (pe_dispT (hu_of hr) (pe_tup (pa_cons pe_int (pa_cons pe_int pa_nil))) pe_int))
      (pss_cons (ps_set (i := 3) sc_pairs_of.nd rfl (.inl rfl) (pe_lst (pa_cons (pe_tup (pa_cons pe_int (pa_cons pe_int pa_nil))) pa_nil)))
      (pss_cons (ps_set (i := 4) sc_pairs_of.nd rfl (.inl rfl) (pe_lst pa_nil))
      (pss_cons (ps_while PassesOwn.never (pt_cmpR op_lt (pe_callB call_len_seq (by rfl) T.z_len (by decide +kernel) (pa_cons (pv 4) pa_nil)) (pe_callB call_len_seq (by rfl) T.z_len (by decide +kernel) (pa_cons (pv 3) pa_nil)) (nomark _))
        (pss_cons (ps_asg (pe_ix ix_list (pv 3) (pe_callB call_len_seq (by rfl) T.z_len (by decide +kernel) (pa_cons (pv 4) pa_nil)) (fun _ _ => rfl)) (pg_tup rfl (pgs_cons (pg_name (i := 5) sc_pairs_of.nd rfl (.inl rfl)) (pgs_cons (pg_name (i := 6) sc_pairs_of.nd rfl (.inl rfl)) pgs_nil))))
        (pss_cons (ps_set (i := 7) sc_pairs_of.nd rfl (.inl rfl) (pe_lst pa_nil))
        (pss_cons (ps_for PassesOwn.never rfl (pi_zipT (by rfl) T.z_zip (pa_cons (pe_ix ix_tup (pv 0) (pv 5) (fun _ _ => rfl)) (pa_cons (pe_ix ix_tup (pv 1) (pv 6) (fun _ _ => rfl)) pa_nil))) (pg_name (i := 8) sc_pairs_of.nd rfl (.inl rfl))
          (pss_cons (ps_as (ps_if (pt_cmp (pc_dnotin (hu_of hr) (pv 8) (pv 2)))
              (pss_cons (ps_if (pt_cmpR op_eq (pe_callB call_len_seq (by rfl) T.z_len (by decide +kernel) (pa_cons (pv 3) pa_nil)) (ClX.pe_cval (pe_glob (v := .ref CM) rfl gM rfl)) (nomark _)) pss_never pss_nil)
              (pss_cons (ps_dput (hu_of hr) (pv 2) (pv 8) (pe_callB call_len_seq (by rfl) T.z_len (by decide +kernel) (pa_cons (pv 3) pa_nil)) rfl)
              (pss_one (ps_expr (pe_bm PySem.F.plainAttrs_list PySem.F.slot_list_append PySem.F.type_list_append mt_append (pv 3) (pa_cons (pv 8) pa_nil)))))) pss_nil))
          (pss_one (ps_expr (pe_bm PySem.F.plainAttrs_list PySem.F.slot_list_append PySem.F.type_list_append mt_append (pv 7) (pa_cons (pe_dget (hu_of hr) (pv 2) (pv 8) (fun _ _ => rfl)) pa_nil))))))
        (pss_one (ps_expr (pe_bm PySem.F.plainAttrs_list PySem.F.slot_list_append PySem.F.type_list_append mt_append (pv 4) (pa_cons (pv 7) pa_nil))))))))
      (pss_one (ps_ret (pe_tup (pa_cons (pv 3) (pa_cons (pv 4) pa_nil))))))))), ?_⟩
  have nil2 : ∀ {H1 : Hp} {p : Addr}, Same H H1 → H1 p = none → H p = none := fun s n => none_same s n
  refine fun d nd => ?_
  have s1 := same_upd (o := HO.dT []) nd
  refine ⟨(show 2 ≤ sizeLine by decide), fun t nt => ?_⟩
  have s2 := same_upd (o := HO.tup [V.int 0, V.int 0]) nt
  refine ⟨[.inl 0, .inl 0], t, s2 _ _ upd_same, rfl, upd_same, ?_⟩
  have hd0 : (upd (upd (upd H d (.dT [])) t (.tup [V.int 0, V.int 0])) d (.dT [([.inl 0, .inl 0], V.int 0)])) d = some (.dT (plP [(0, 0)])) := upd_same
  have s03 : Same H (upd (upd (upd H d (.dT [])) t (.tup [V.int 0, V.int 0])) d (.dT [([.inl 0, .inl 0], V.int 0)])) := fun z o hz => (upd_ne (ne_of_none hz nd)).trans (s2 _ _ (s1 _ _ hz))
  generalize upd (upd (upd H d (.dT [])) t (.tup [V.int 0, V.int 0])) d (.dT [([.inl 0, .inl 0], V.int 0)]) = H3 at hd0 s03 ⊢
  clear s1 s2 nt
  refine ⟨(show 2 ≤ sizeLine by decide), fun t2' nt2 => ?_⟩
  have s4 := same_upd (o := HO.tup [V.int 0, V.int 0]) nt2
  have ht4 : (upd H3 t2' (.tup [V.int 0, V.int 0])) t2' = some (.tup (prV (0, 0))) := upd_same
  refine ⟨(show 1 ≤ sizeLine by decide), fun a na => ?_⟩
  have s5 := same_upd (o := HO.lst [V.ref t2']) na
  have ha5 : (upd (upd H3 t2' (.tup [V.int 0, V.int 0])) a (.lst [V.ref t2'])) a = some (.lst [V.ref t2']) := upd_same
  have ht5 := s5 _ _ ht4
  have hd5 := s5 _ _ (s4 _ _ hd0)
  have s05 := s03.trans (s4.trans s5)
  have na0 := nil2 (s03.trans s4) na
  generalize upd (upd H3 t2' (.tup [V.int 0, V.int 0])) a (.lst [V.ref t2']) = H5 at ha5 ht5 hd5 s05 ⊢
  clear s4 s5 ht4 na nt2 s03 hd0
  refine ⟨(show 0 ≤ sizeLine by decide), fun b nb => ?_⟩
  have s6 := same_upd (o := HO.lst []) nb
  have ab : a ≠ b := ne_of_none ha5 nb
  have hb6 : (upd H5 b (.lst [])) b = some (.lst []) := upd_same
  have ha6 := s6 _ _ ha5
  have ht6 := s6 _ _ ht5
  have hd6 := s6 _ _ hd5
  have s06 := s05.trans s6
  have nb0 := nil2 s05 nb
  generalize upd H5 b (.lst []) = H6 at ha6 hb6 ht6 hd6 s06 ⊢
  clear s6 nb ha5 ht5 hd5 s05
  dsimp only [gName, tSeq]
  let lenO : Option HO → Nat := fun o => match o with
    | some (.lst xs) => xs.length
    | _ => 0
  have p0 : PairsT H6 [V.ref t2'] [(0, 0)] := ⟨rfl, fun i v q h1 h2 => by
    match i with
    | 0 =>
      cases h1
      cases h2
      exact ⟨t2', rfl, ht6⟩
    | i + 1 => cases h1⟩
  refine while_by (fun σ H' => ∃ (P : List Pr) (T : List (List Nat)) (us ws : List V) (y5 y6 y7 y8 : Option V), σ = [some (.ref t1), some (.ref t2), some (.ref d), some (.ref a), some (.ref b), y5, y6, y7, y8] ∧ Same H H' ∧ H' d = some (.dT (plP P)) ∧ H' a = some (.lst us) ∧ PairsT H' us P ∧
    H' b = some (.lst ws) ∧ RowsL H' ws T ∧ (∀ (i : Nat) (x : Addr), ws[i]? = some (V.ref x) → x ≠ a ∧ x ≠ b) ∧ JointS M1 M2 P T ∧ P = jointN M1 M2 T.length) (fun σ H' => 200 - lenO (H' b))
    ⟨[(0, 0)], [], [V.ref t2'], [], none, none, none, none, rfl, s06, hd6, ha6, p0, hb6, RowsL.nil, (fun i x h => by cases h), JointS.start k1.l1 k2.l1, rfl⟩ ?_ ?_
  · rintro σ H7 ⟨P, T, us, ws, y5, y6, y7, y8, rfl, s7, hd7, ha7, p7, hb7, r7, off7, J, hJ⟩
    have few := J.few
    have le := J.le
    refine ⟨_, rfl, b, _, rfl, .inl (SqL.of hb7), _, rfl, a, _, rfl, .inl (SqL.of ha7), _, _, rfl, rfl, _, rfl, ?_⟩
    refine ite_dec (fun hlt2 => ?_) (fun hge => ?_)
    · have hlt' : T.length < P.length := by
        rw [r7.1, p7.1] at hlt2
        omega
      obtain ⟨q0, hq0⟩ : ∃ q0, P[T.length]? = some q0 := ⟨_, List.getElem?_eq_getElem hlt'⟩
      obtain ⟨v0, hv0⟩ : ∃ v0, us[T.length]? = some v0 := ⟨_, List.getElem?_eq_getElem (by rw [p7.1]; exact hlt')⟩
      obtain ⟨x0, rfl, hx0⟩ := p7.2 _ _ _ hv0 hq0
      obtain ⟨lq, rq⟩ := q0
      have hin := J.lt _ (List.mem_of_getElem? hq0)
      refine ⟨_, rfl, _, rfl, b, _, rfl, .inl (SqL.of hb7), a, _, _, _, rfl, rfl, SqL.of ha7, by rw [r7.1]; exact atI_nat hv0, ?_⟩
      refine ⟨x0, _, rfl, SqT.of hx0, rfl, _, _, rfl, _, _, rfl, rfl, ?_⟩
      refine ⟨(show 0 ≤ sizeLine by decide), fun rw nrw => ?_⟩
      have s8 := same_upd (o := HO.lst []) nrw
      have hrw8 : (upd H7 rw (.lst [])) rw = some (.lst (([] : List Nat).map nI)) := upd_same
      have rwa : rw ≠ a := (ne_of_none ha7 nrw).symm
      have rwb : rw ≠ b := (ne_of_none hb7 nrw).symm
      have rwd : rw ≠ d := (ne_of_none hd7 nrw).symm
      have rw0 := nil2 s7 nrw
      have da : d ≠ a := ne_of hd7 ha7 (by intro z; cases z)
      have db : d ≠ b := ne_of hd7 hb7 (by intro z; cases z)
      have hd8 := s8 _ _ hd7
      have ha8 := s8 _ _ ha7
      have hb8 := s8 _ _ hb7
      have p8 := p7.keep fun x q h => s8 _ _ h
      have r8 := r7.same s8
      have s08 := s7.trans s8
      have offw : ∀ (i : Nat) (x : Addr), ws[i]? = some (V.ref x) → x ≠ rw := fun i x hi e => by
        have hi' : i < T.length := by
          rw [← r7.1]
          exact (List.getElem?_eq_some_iff.mp hi).1
        obtain ⟨x', e', hx'⟩ := r7.2 i _ _ hi (List.getElem?_eq_getElem hi')
        cases e'
        rw [e, nrw] at hx'
        cases hx'
      generalize upd H7 rw (.lst []) = H8 at hrw8 hd8 ha8 hb8 p8 r8 s08 ⊢
      clear s8 nrw hd7 ha7 p7 r7 hx0 s7
      -- the two rows
      obtain ⟨u1, hu1⟩ : ∃ u1, rs1[lq]? = some u1 := ⟨_, List.getElem?_eq_getElem (by rw [R1.1]; exact hin.1)⟩
      obtain ⟨u2, hu2⟩ : ∃ u2, rs2[rq]? = some u2 := ⟨_, List.getElem?_eq_getElem (by rw [R2.1]; exact hin.2)⟩
      have m1 : M1[lq]? = some (M1[lq]'hin.1) := List.getElem?_eq_getElem hin.1
      have m2 : M2[rq]? = some (M2[rq]'hin.2) := List.getElem?_eq_getElem hin.2
      have ln1 := (k1.rows _ (List.mem_of_getElem? m1)).1
      have ln2 := (k2.rows _ (List.mem_of_getElem? m2)).1
      generalize M1[lq]'hin.1 = g1 at m1 ln1
      generalize M2[rq]'hin.2 = g2 at m2 ln2
      obtain ⟨c1, rfl, hc1⟩ := R1.2 _ _ _ hu1 m1
      obtain ⟨c2, rfl, hc2⟩ := R2.2 _ _ _ hu2 m2
      have sd : sides M1 M2 (lq, rq) = g1.zip g2 := by
        unfold sides
        rw [m1, m2]
        rfl
      have hJn := J.next k1 k2 hq0
      have fewN := hJn.few
      have pre : ∀ j, addAll P ((g1.zip g2).take j) <+: addAll P (g1.zip g2) := fun j => by
        have e : addAll P (g1.zip g2) = addAll (addAll P ((g1.zip g2).take j)) ((g1.zip g2).drop j) := by
          unfold addAll
          rw [← List.foldl_append, List.take_append_drop]
        rw [e]
        exact addAll_pre _ _
      have few200 : ∀ j, (addAll P ((g1.zip g2).take j)).length < 200 := fun j => by
        have h1 := (pre j).length_le
        rw [sd] at fewN
        omega
      refine ⟨_, rfl, _, rfl, t1, _, _, _, rfl, rfl, s08.tup h1, atI_nat hu1, _, rfl, _, rfl, t2, _, _, _, rfl, rfl, s08.tup h2, atI_nat hu2, ?_⟩
      refine ⟨c1, c2, _, _, rfl, s08.tup hc1, s08.tup hc2, ?_⟩
      have ln : (g1.zip g2).length = min (g1.map nI).length (g2.map nI).length := by
        rw [List.length_zip, List.length_map, List.length_map]
      refine for_it (walk_zipG (k1 := .t c1) (k2 := .t c2) (xs := g1.map nI) (ys := g2.map nI) rfl) (fun j σ H' => ∃ (us' : List V) (y8 : Option V), σ = [some (.ref t1), some (.ref t2), some (.ref d), some (.ref a), some (.ref b), some (nI lq), some (nI rq), some (.ref rw), y8] ∧ (∀ z o, z ≠ d → z ≠ a → z ≠ rw → H8 z = some o → H' z = some o) ∧
        H' d = some (.dT (plP (addAll P ((g1.zip g2).take j)))) ∧ H' a = some (.lst us') ∧ PairsT H' us' (addAll P ((g1.zip g2).take j)) ∧ H' rw = some (.lst ((rowP (addAll P ((g1.zip g2).take j)) ((g1.zip g2).take j)).map nI)))
        ⟨us, y8, rfl, (fun z o _ _ _ h => h), hd8, ha8, p8, hrw8⟩ (fun j σ H' _ ⟨_, _, _, st, _⟩ => ?_) ?_ ?_
      · have s : Same H H' := fun z o hz => st z o (ne_of_none hz nd) (ne_of_none hz na0) (ne_of_none hz rw0) (s08 _ _ hz)
        exact ⟨s.tup hc1, s.tup hc2⟩
      · rintro j v σ H9 H10 hj ⟨us', y8, rfl, st9, hd9, ha9, p9, hrw9⟩ ⟨tt, v1, v2, rfl, ntt, rfl, e1, e2⟩
        change (g1.map nI)[j]? = some v1 at e1
        change (g2.map nI)[j]? = some v2 at e2
        rw [List.getElem?_map] at e1 e2
        obtain ⟨z1, g1j, rfl⟩ := Option.map_eq_some_iff.mp e1
        obtain ⟨z2, g2j, rfl⟩ := Option.map_eq_some_iff.mp e2
        have zj : (g1.zip g2)[j]? = some (z1, z2) := List.getElem?_zip_eq_some.mpr ⟨g1j, g2j⟩
        have tj : (g1.zip g2).take (j + 1) = (g1.zip g2).take j ++ [(z1, z2)] := by
          rw [List.take_add_one, zj]
          rfl
        have f9 := few200 j
        have f10 := few200 (j + 1)
        rw [tj, addAll_snoc] at f10 ⊢
        have inP : ∀ q ∈ (g1.zip g2).take j, q ∈ addAll P ((g1.zip g2).take j) := fun q hq => addAll_mem q hq
        have s10 := same_upd (o := HO.tup [nI z1, nI z2]) ntt
        have ht10 : (upd H9 tt (.tup [nI z1, nI z2])) tt = some (.tup ((keyP (z1, z2)).map kV)) := upd_same
        have hd10 := s10 _ _ hd9
        have ha10 := s10 _ _ ha9
        have hrw10 := s10 _ _ hrw9
        have p10 := p9.keep fun x q h => s10 _ _ h
        have st10 : ∀ z o, z ≠ d → z ≠ a → z ≠ rw → H8 z = some o → (upd H9 tt (.tup [nI z1, nI z2])) z = some o := fun z o n1 n2 n3 h => s10 _ _ (st9 z o n1 n2 n3 h)
        generalize upd H9 tt (.tup [nI z1, nI z2]) = H10 at ht10 hd10 ha10 hrw10 p10 st10 ⊢
        clear s10 ntt hd9 ha9 hrw9 p9 st9
        generalize addAll P ((g1.zip g2).take j) = P9 at f9 f10 inP hd10 p10 hrw10 ⊢
        have tta : tt ≠ a := ne_of ht10 ha10 (by intro z; cases z)
        have ttd : tt ≠ d := ne_of ht10 hd10 (by intro z; cases z)
        have ttr : tt ≠ rw := ne_of ht10 hrw10 (by intro z; cases z)
        refine ⟨fun σ H' => ∃ us2 : List V, σ = [some (.ref t1), some (.ref t2), some (.ref d), some (.ref a), some (.ref b), some (nI lq), some (nI rq), some (.ref rw), some (.ref tt)] ∧ (∀ z o, z ≠ d → z ≠ a → z ≠ rw → H8 z = some o → H' z = some o) ∧
          H' tt = some (.tup ((keyP (z1, z2)).map kV)) ∧ H' d = some (.dT (plP (addP P9 (z1, z2)))) ∧ H' a = some (.lst us2) ∧ PairsT H' us2 (addP P9 (z1, z2)) ∧ H' rw = some (.lst ((rowP P9 ((g1.zip g2).take j)).map nI)), ?_, ?_⟩
        · refine ⟨_, rfl, _, rfl, d, _, rfl, DGet.t hd10 ht10, _, rfl, ?_⟩
          rw [plP_val]
          by_cases hm : (z1, z2) ∈ P9
          · rw [if_pos hm]
            refine iteF ?_
            have ea : addP P9 (z1, z2) = P9 := if_pos hm
            rw [ea]
            exact ⟨us', rfl, st10, ht10, hd10, ha10, p10, hrw10⟩
          · rw [if_neg hm]
            have ea : addP P9 (z1, z2) = P9 ++ [(z1, z2)] := if_neg hm
            rw [ea] at f10 ⊢
            refine iteT ⟨_, rfl, a, _, rfl, .inl (SqL.of ha10), ?_⟩
            have l9 : us'.length ≠ 200 := by
              rw [p10.1]
              omega
            have us1 : us'.length < sizeLine := sz1 (by rw [p10.1]; omega)
            refine ⟨CM, mc, .int 200, _, rfl, rM, vM, rfl, _, rfl, ?_⟩
            have ne200 : decide (V.int ((us'.length : Nat) : Int) = V.int 200) = false := decide_eq_false fun e => l9 (by
              have e2 : ((us'.length : Nat) : Int) = 200 := V.int.inj e
              omega)
            rw [ne200]
            refine iteF ⟨_, rfl, a, _, rfl, .inl (SqL.of ha10), _, rfl, _, rfl, d, _, rfl, DPut.t hd10 ht10 (by rw [plP_len]; exact sz1 (by omega)), ?_⟩
            rw [p10.1, show V.int ((P9.length : Nat) : Int) = nI P9.length from rfl, plP_put hm]
            have hd11 : (upd H10 d (.dT (plP (P9 ++ [(z1, z2)])))) d = some (.dT (plP (P9 ++ [(z1, z2)]))) := upd_same
            have far : ∀ {z : Addr} {o : HO}, z ≠ d → H10 z = some o → (upd H10 d (.dT (plP (P9 ++ [(z1, z2)])))) z = some o := fun n h => (upd_ne n).trans h
            have ha11 := far da.symm ha10
            have ht11 := far ttd ht10
            have hrw11 := far rwd hrw10
            have p11 : PairsT (upd H10 d (.dT (plP (P9 ++ [(z1, z2)])))) us' P9 := p10.keep fun x q h => far (ne_of h hd10 (by intro z; cases z)) h
            have st11 : ∀ z o, z ≠ d → z ≠ a → z ≠ rw → H8 z = some o → (upd H10 d (.dT (plP (P9 ++ [(z1, z2)])))) z = some o := fun z o n1 n2 n3 h => far n1 (st10 z o n1 n2 n3 h)
            generalize upd H10 d (.dT (plP (P9 ++ [(z1, z2)]))) = H11 at hd11 ha11 ht11 hrw11 p11 st11 ⊢
            clear far
            refine ⟨_, rfl, .inl ⟨rfl, _, SqL.of ha11⟩, _, rfl, a, _, _, rfl, rfl, ha11, us1, ?_⟩
            refine ⟨us' ++ [V.ref tt], rfl, fun z o n1 n2 n3 h => (upd_ne n2).trans (st11 z o n1 n2 n3 h), (upd_ne tta).trans ht11, (upd_ne da).trans hd11, upd_same, ?_, (upd_ne rwa).trans hrw11⟩
            refine PairsT.snoc (p11.keep fun x q h => (upd_ne (ne_of h ha11 (by intro z; cases z))).trans h) ((upd_ne tta).trans ht11)
        · rintro _ H11 ⟨us2, rfl, st11, ht11, hd11, ha11, p11, hrw11⟩
          have lr : (rowP P9 ((g1.zip g2).take j)).length ≤ 1000 := by
            unfold rowP
            rw [List.length_map, List.length_take, List.length_zip, ln1]
            omega
          refine ⟨_, rfl, .inl ⟨rfl, _, SqL.of hrw11⟩, _, rfl, _, rfl, d, nI ((addP P9 (z1, z2)).idxOf (z1, z2)), rfl, by
            have g := DGet.t hd11 ht11
            rw [plP_val, if_pos addP_mem] at g
            exact g, rw, _, _, rfl, rfl, hrw11, by rw [List.length_map]; exact sz1 (by omega), ?_⟩
          refine ⟨us2, _, rfl, fun z o n1 n2 n3 h => (upd_ne n3).trans (st11 z o n1 n2 n3 h), (upd_ne rwd.symm).trans hd11, (upd_ne rwa.symm).trans ha11, p11.keep fun x q h => (upd_ne (ne_of h hrw11 (by intro z; cases z))).trans h, ?_⟩
          rw [upd_same]
          have e : rowP (addP P9 (z1, z2)) ((g1.zip g2).take j ++ [(z1, z2)]) = rowP P9 ((g1.zip g2).take j) ++ [(addP P9 (z1, z2)).idxOf (z1, z2)] := by
            rw [← rowP_pre (addP_pre P9 (z1, z2)) inP]
            unfold rowP
            rw [List.map_append]
            rfl
          rw [e, List.map_append]
          rfl
      · rintro σ H9 ⟨us', y8, rfl, st9, hd9, ha9, p9, hrw9⟩
        rw [← ln, List.take_of_length_le (Nat.le_refl _)] at hd9 p9 hrw9
        have hb9 := st9 _ _ db.symm ab.symm rwb.symm hb8
        have lw : ws.length < sizeLine := sz1 (by rw [r8.1]; omega)
        refine ⟨_, rfl, .inl ⟨rfl, _, SqL.of hb9⟩, _, rfl, b, _, _, rfl, rfl, hb9, lw, ?_⟩
        have far : ∀ {z : Addr} {o : HO}, z ≠ b → H9 z = some o → (upd H9 b (.lst (ws ++ [V.ref rw]))) z = some o := fun n h => (upd_ne n).trans h
        refine ⟨⟨addAll P (g1.zip g2), T ++ [rowP (addAll P (g1.zip g2)) (g1.zip g2)], us', ws ++ [V.ref rw], _, _, _, _, rfl, fun z o hz => far (ne_of_none hz nb0) (st9 z o (ne_of_none hz nd) (ne_of_none hz na0) (ne_of_none hz rw0) (s08 _ _ hz)), far db hd9, far ab ha9, p9.keep fun x q h => far (ne_of h hb9 (by intro z; cases z)) h, upd_same, ?_, fun i x hi => ?_, ?_, ?_⟩, ?_⟩
        · refine RowsL.snoc (RowsL.keep r8 fun x xs hx ⟨i, hi⟩ => ?_) (far rwb hrw9)
          have o1 := off7 i x hi
          exact far o1.2 (st9 _ _ (ne_of hx hd8 (by intro z; cases z)) o1.1 (offw i x hi) hx)
        · by_cases hlt3 : i < ws.length
          · rw [List.getElem?_append_left hlt3] at hi
            exact off7 i x hi
          · have hi2 := (List.getElem?_eq_some_iff.mp hi).1
            rw [List.length_append] at hi2
            have hi3 : i = ws.length := by
              have : i < ws.length + 1 := hi2
              omega
            rw [hi3, List.getElem?_append_right (Nat.le_refl _), Nat.sub_self] at hi
            cases hi
            exact ⟨rwa, rwb⟩
        · rw [← sd]
          exact hJn
        · rw [List.length_append]
          show _ = jointN M1 M2 (T.length + 1)
          rw [jointN_succ (q := (lq, rq)) (by rw [← hJ]; exact hq0), ← hJ, sd]
        · rw [upd_same]
          rw [hb7]
          show 200 - (ws ++ [V.ref rw]).length < 200 - ws.length
          rw [List.length_append]
          show 200 - (ws.length + 1) < 200 - ws.length
          have := r8.1
          omega
    · have full : T.length = P.length := by
        rw [r7.1, p7.1] at hge
        omega
      refine ⟨_, rfl, _, rfl, (show 2 ≤ sizeLine by decide), fun r nr => ?_⟩
      have s9 := same_upd (o := HO.tup [V.ref a, V.ref b]) nr
      exact q _ r a b P T us ws (s7.trans s9) upd_same (nil2 s7 nr) (s9 _ _ ha7) (p7.keep fun x q h => s9 _ _ h) (s9 _ _ hb7) (r7.same s9) J full hJ
  · exact fun σ H Q Q' h ⟨v1, e1, p1, y1, e2, k1, v2, e3, p2, y2, e4, k2, i, j, ei, ej, c, ec, q⟩ => ⟨v1, e1, p1, y1, e2, k1, v2, e3, p2, y2, e4, k2, i, j, ei, ej, c, ec, h _ _ q⟩
end
end FW
/-! C.m(e, .., k = v, ..), m a static method -/
namespace FW
open PySem PySem.Spec PyProof.Rows L2
section
variable {X : Cx} {CX : CXT} {k n : Nat} {f C : Addr} {fd : FuncData} {ps ks : List Str} {sp : Sp} {E : XK} {x m : Str} {p1 pos apos : Pos} {e : Expr} {es : List Expr} {kws : List Keyword} {t tk : TA} {g : List Value → List Value → List Value} {gV : List V → List V → List V}
theorem pe_staticK {pl : Sem Bool} (hg : Gl X x) (hm : X.mg x = some (.ref C)) (S : Sta X.K C m f) (F : FnOk X.prog X.w X.K X.mg X.base CX k f fd ps sp) (hr : Room k X.A) (hb : KBn X.K fd ps n ks g gV) (hx : Passes CX X E) (ha : PA X (e :: es) t) (hkw : PK X kws tk)
    (hall : (backToKw pos (keywordEach kws X.env)).all (·.1.isSome) = true := by rfl) (hks : (backToKw pos (keywordEach kws X.env)).filterMap (·.1) = ks := by rfl)
    (hdb : (x == ("__debug__" : Str)) = false := by decide)
    (hc : eval (.Call (.Attribute (.Name x p1) m apos) (e :: es) kws pos) X.env = (do
      let oc ← eval (.Name x p1) X.env
      standAt apos.atName
      let (fc, fst) ← holding [oc] (getMethod oc m pl)
      callWith pos fc fst (backTo pos (starEach (e :: es) X.env)) (backToKw pos (keywordEach kws X.env))) := by rfl)
    (he : starEach (e :: es) X.env = (false, eval e X.env) :: starEach es X.env := by rfl) (hpl : ((backTo pos (starEach (e :: es) X.env)).any (·.1) || (backToKw pos (keywordEach kws X.env)).any (·.1.isNone)) = false := by rfl) :
    PE X (.Call (.Attribute (.Name x p1) m apos) (e :: es) kws pos) (tCallN n ks.length sp gV E t tk) := by
  refine ⟨fun pins s σ H Q I h => PySem.W.methodCall_KW (pl := pl) (ld_glob I hg hm ?_ hdb) hc⟩
  refine static_get I.kIn S fun u => ?_
  have I1 : Inv X pins σ H { s with toks := u } := I.tok _
  refine PySem.W.callWith_KW (h₀ := X.base) I.ok.mod.kin S.kp hall (thn (ha.run pos pins _ σ H _ I1 h) fun us s1 ⟨vs, H1, I2, r, q⟩ => ?_) hpl he
  refine thn (hkw.run pos pins s1 σ H1 _ I2 q) fun ws s2 ⟨zs, H2, I3, rz, l1, l2, q2⟩ => ⟨I3.kIn, ?_⟩
  rw [hks]
  exact run_fnN F hr hb hx I3 r rz l1 l2 q2
end
end FW
namespace FW
open PySem PySem.Spec PyProof.Rows
def isRefV : Value → Bool
  | .ref _ => true
  | _ => false
/-- own classes, behind them the classes t -/
def ownB (t l : List Value) : Bool := l.dropWhile isRefV == t
theorem own_of {t : List Value} : ∀ {l : List Value}, ownB t l = true → ∃ cs : List Addr, l = cs.map Value.ref ++ t
  | [], e => ⟨[], beq_iff_eq.mp e⟩
  | v :: r, e => by
    cases v with
    | ref c =>
      obtain ⟨cs, h⟩ := own_of (l := r) e
      exact ⟨c :: cs, congrArg (Value.ref c :: ·) h⟩
    | _ => exact ⟨[], beq_iff_eq.mp e⟩
theorem own_pass {t : List Value} (self : Value) (h : refuseLoop self "__setattr__" t = pure ()) : ∀ cs : List Addr, refuseLoop self "__setattr__" (cs.map Value.ref ++ t) = pure ()
  | [] => h
  | _ :: r => (refuseLoop_ref ..).trans (own_pass self h r)
theorem own_has {t : List Value} (z : String) : ∀ cs : List Addr, (cs.map Value.ref ++ t).contains (.type z) = t.contains (.type z)
  | [] => rfl
  | c :: r => by
    rw [List.map_cons, List.cons_append, List.contains_cons, own_has z r]
    rfl
section
open PySem.W PySem.Calls PySem.HandSPX Builtin Builtin.ObjectAttr
variable {prog : Program} {w : World} {A : Around} {R : Result → Shared → Prop} {hp : Heap} {gs : Array GenState} {dr : Drawn} {tk0 : Nat} {os : OsState} {K : W.Frag} {name : Str} {tk : Tok} {v : Value} {x C : Addr} {fv : Array Value} {cd : ClassData} {B : String} {t : List Value} {cs : List Addr}
/-- x.name = v, where x bears no dict as yet -/
theorem osaB_new (SB : StoreFacts B t "object.__setattr__" "object") (KI : K.In hp) (hx : hp.get? x = some { cls := .ref C, data := .fields fv }) (hcd : W.clsIn K C = some cd) (hm : cd.mro = (C :: cs).map Value.ref ++ t) (hh : cd.hasDict = true) (nn : W.findIn K (.ref C) name = some none)
    (q : ∀ h2 tk2 dx, hp.objs.size ≤ dx → dx ≠ x → (∀ c o, c ≠ x → hp.get? c = some o → h2.get? c = some o) → h2.get? x = some { cls := .ref C, dict := some dx, data := .fields fv } → h2.Ns1 dx (fun y => if y = name then some v else none) → R (.ok (.ret .none)) ⟨h2, gs, dr, tk2, os⟩) :
    codeAny (model prog w) A (.call (.builtin "object.__setattr__") ⟨[.ref x, .str name tk, v], []⟩) R ⟨hp, gs, dr, tk0, os⟩ := by
  have J : W.InstAt hp x { cls := .ref C, data := .fields fv } C none := ⟨hx, rfl, rfl, trivial⟩
  have hob : cd.mro.contains (.type "object") = true := by rw [hm]; exact (own_has "object" _).trans SB.hasOwner
  have hxz : x ≠ hp.objs.size := Nat.ne_of_lt (Heap.lt_size hx)
  have isO : W.Looks (model prog w) hp (isInstance (.ref x) (.type "object")) true := J.type.andThen (W.looks_mroIn KI (by unfold W.mroIn; rw [hcd, Option.bind_some, if_neg (by rw [hm]; exact Bool.false_ne_true), hob]))
  have look : W.Looks (model prog w) hp (classData C) cd := W.looks_clsIn KI hcd
  have mroL : W.Looks (model prog w) hp (mroOf (.ref C)) cd.mro := look.andThen .now
  refine codeAny_call_builtin F.store_object.slot.plain F.store_object.entry (@W.check_slot (model prog w) _ _ ⟨hp, gs, dr, tk0, os⟩ "object.__setattr__" "object" "__setattr__" (.ref x) [.str name tk, v] [] _ F.store_object.kind F.store_object.split isO (F.store_object.args (.ref x) (.str name tk) v) ?_)
  rw [W.osa_eq, refuse_eq]
  refine wpAny_bind (wpAny_bind (J.type.at (wpAny_bind (mroL.at ?_))))
  rw [hm, own_pass _ (SB.passes _)]
  refine wpAny_pure (wpAny_bind (J.type.at (wpAny_bind ((W.looks_findIn KI nn).at (wpAny_bind ((show W.Looks (model prog w) hp (storeTaker? none) none from .now).at ?_))))))
  show wpAny _ _ (storeInOwnDict (.ref x) (.ref C) (.str name tk) name v false) _ _ _
  cases cd
  dsimp only at hh
  cases hh
  unfold storeInOwnDict ownDictForStores
  repeat (first | with_reducible refine store_in_new ?dict ?rest | with_reducible refine wpAny_loadPart_at hx ?_ | with_reducible refine look.at ?_ | wp_step)
  case dict => exact ⟨_, #[], _, (Heap.get?_update_ne _ _ _ _ hxz.symm).trans (Heap.get?_push_at rfl rfl), rfl, fun _ z => absurd z (by simp), fun _ => rfl⟩
  case rest =>
    intro h2 tk2 hn hs
    have pu : ∀ {c : Addr} {o : Obj}, hp.get? c = some o → (hp.push { cls := .type "dict", data := .dict #[] }).get? c = some o := fun z => Heap.get?_push_of_some _ z
    exact q h2 tk2 hp.objs.size (Nat.le_refl _) hxz.symm (fun c o nc hc => (hs.2 c (Nat.ne_of_lt (Heap.lt_size hc))).trans ((Heap.get?_update_ne _ _ _ _ nc).trans (pu hc))) ((hs.2 x hxz).trans (Heap.get?_update_self _ (pu hx) rfl)) hn
/-- the same where x bears the dict dx -/
theorem osaB_old {dx : Addr} {m0 : Str → Option Value} {nl : List Str} (SB : StoreFacts B t "object.__setattr__" "object") (KI : K.In hp) (hx : hp.get? x = some { cls := .ref C, dict := some dx, data := .fields fv }) (hns : hp.Ns1 dx m0) (hw : Within m0 nl) (hz : nl.length ≤ 1000) (hcd : W.clsIn K C = some cd) (hm : cd.mro = (C :: cs).map Value.ref ++ t) (hh : cd.hasDict = true) (nn : W.findIn K (.ref C) name = some none)
    (q : ∀ h2 tk2, (∀ c o, c ≠ dx → hp.get? c = some o → h2.get? c = some o) → h2.Ns1 dx (fun y => if y = name then some v else m0 y) → R (.ok (.ret .none)) ⟨h2, gs, dr, tk2, os⟩) :
    codeAny (model prog w) A (.call (.builtin "object.__setattr__") ⟨[.ref x, .str name tk, v], []⟩) R ⟨hp, gs, dr, tk0, os⟩ := by
  obtain ⟨oD, _, _, hoD, _, _⟩ := hns.count hw
  have J : W.InstAt hp x { cls := .ref C, dict := some dx, data := .fields fv } C (some oD) := ⟨hx, rfl, rfl, hoD⟩
  have hob : cd.mro.contains (.type "object") = true := by rw [hm]; exact (own_has "object" _).trans SB.hasOwner
  have isO : W.Looks (model prog w) hp (isInstance (.ref x) (.type "object")) true := J.type.andThen (W.looks_mroIn KI (by unfold W.mroIn; rw [hcd, Option.bind_some, if_neg (by rw [hm]; exact Bool.false_ne_true), hob]))
  have look : W.Looks (model prog w) hp (classData C) cd := W.looks_clsIn KI hcd
  have mroL : W.Looks (model prog w) hp (mroOf (.ref C)) cd.mro := look.andThen .now
  refine codeAny_call_builtin F.store_object.slot.plain F.store_object.entry (@W.check_slot (model prog w) _ _ ⟨hp, gs, dr, tk0, os⟩ "object.__setattr__" "object" "__setattr__" (.ref x) [.str name tk, v] [] _ F.store_object.kind F.store_object.split isO (F.store_object.args (.ref x) (.str name tk) v) ?_)
  rw [W.osa_eq, refuse_eq]
  refine wpAny_bind (wpAny_bind (J.type.at (wpAny_bind (mroL.at ?_))))
  rw [hm, own_pass _ (SB.passes _)]
  refine wpAny_pure (wpAny_bind (J.type.at (wpAny_bind ((W.looks_findIn KI nn).at (wpAny_bind ((show W.Looks (model prog w) hp (storeTaker? none) none from .now).at ?_))))))
  show wpAny _ _ (storeInOwnDict (.ref x) (.ref C) (.str name tk) name v false) _ _ _
  cases cd
  dsimp only at hh
  cases hh
  unfold storeInOwnDict ownDictForStores
  repeat (first | with_reducible refine PySem.OEX.store_in_old hns hw hz ?rest | with_reducible refine wpAny_loadPart_at hx ?_ | with_reducible refine look.at ?_ | wp_step)
  case rest => exact fun h2 tk2 hn hs => q h2 tk2 (fun c o nc hc => (hs.2 c nc).trans hc) hn
end
/-- what is told of an error class of the program, whatever built-in error it stands on -/
structure OexA (K : PySem.W.Frag) (C : Addr) : Prop where
  cls : ∃ (B ni ii : String) (t : List Value), PySem.ExcBaseFacts B ni ii t ∧ PySem.StoreFacts B t "object.__setattr__" "object" ∧ ∃ nm q N bs bm sn sub ab col dd k0 k1 k2 k3 k5, K.lookup C = some (PySem.excClassObj nm q C N bs bm true sn sub ab col dd k0 k1 k2 k3 k5 ni) ∧ ownB t bm = true
  sa : PySem.W.findIn K (.ref C) "__setattr__" = some (some (.builtin "object.__setattr__"))
  exC : PySem.W.subIn K (.ref C) (.type "BaseException") = some true
  tyC : PySem.W.typeIn K (.ref C) = some (.type "type")
  kC : PySem.W.keepIn K (.ref C) = true
open L2
theorem OexA.at_ {K : PySem.W.Frag} {C : Addr} (T : OexA K C) : ∃ (B : String) (t : List Value) (cs : List Addr) (cd : ClassData), PySem.StoreFacts B t "object.__setattr__" "object" ∧ PySem.W.clsIn K C = some cd ∧ cd.mro = (C :: cs).map Value.ref ++ t ∧ cd.hasDict = true := by
  obtain ⟨B, ni, ii, t, _, SB, nm, q, N, bs, bm, sn, sub, ab, col, dd, k0, k1, k2, k3, k5, hC, hb⟩ := T.cls
  obtain ⟨cs, rfl⟩ := own_of hb
  exact ⟨B, t, cs, _, SB, by unfold PySem.W.clsIn; rw [hC] <;> rfl, rfl, rfl⟩
section
variable {X : Cx} {pins : List (Addr × Obj)} {σ : L2.St} {H : Hp} {s : Shared} {a C dx : Addr} {f : Str} {y : V} {u : Value} {fs : List (Str × V)} {Q : Unit → Shared → Prop} {E : Value → Shared → Prop} {A : Around}
theorem setA_new (T : OexA X.K C) (I : Inv X pins σ H s) (ea : H a = some (exo a C none)) (nn : PySem.W.findIn X.K (.ref C) f = some none) (ry : RelV y u)
    (q : ∀ dx s2, H dx = none → dx ≠ a → Inv X pins σ (upd (upd H dx (exd dx [(f, y)])) a (exo a C (some dx))) s2 → Q () s2) : wpAny (model X.prog X.w) A (setAttr (.ref a) f u) Q E s := by
  obtain ⟨B, t, cs, cd, SB, hcd, hm, hh⟩ := T.at_
  obtain ⟨t1, ho⟩ := exo_at I.hok ea
  obtain ⟨hp, gs, dr, tk, os⟩ := s
  refine PySem.W.set_plain I.kIn (ox := { cls := .ref C, dict := none, data := .fields #[.ref t1, .none, .none, .none, .bool false, .none] }) (od := none) ⟨ho, rfl, rfl, trivial⟩ T.sa ?_
  refine osaB_new SB I.kIn ho hcd hm hh nn fun h2 tk2 dx fresh dne keep hx hn => ?_
  have nd : H dx = none := I.hok.fresh fresh
  have far : ∀ {c : Addr}, c ≠ a → c ≠ dx → upd (upd H dx (exd dx [(f, y)])) a (exo a C (some dx)) c = H c := fun n1 n2 => (upd_ne n1).trans (upd_ne n2)
  have nda : ∀ {c : Addr}, H c = none → c ≠ a := fun n => Ne.symm (ne_of_none ea n)
  have ndx : ∀ {c : Addr} {o : Obj}, hp.get? c = some o → c ≠ dx := fun z => Nat.ne_of_lt (Nat.lt_of_lt_of_le (Heap.lt_size z) fresh)
  refine q dx _ nd dne (I.un (t' := tk2) ⟨fun c o z n _ _ => keep c o (nda n) z, fun c o z n _ _ => ⟨o.slots, keep c o (nda n) z⟩, fun c o z n _ => (far (nda n) (ndx z)).trans n, fun c o z _ => ?_, fun c xs z => (far (at_ne ea z exo_tup) (ne_of_none z nd)).trans z, fun c o v z => (far (at_ne ea z exo_frz) (ne_of_none z nd)).trans z, fun c ps z => ⟨#[], by rw [far (at_ne ea z exo_tbl) (ne_of_none z nd), z, Array.append_empty]⟩⟩ fun c o z => ?_)
  · rcases Classical.em (c = a) with rfl | n
    · exact ⟨_, hx⟩
    · exact ⟨o, keep c o n z⟩
  rcases Classical.em (c = a) with rfl | n1
  · rw [upd_same] at z
    cases z
    exact exo_ok hx
  rcases Classical.em (c = dx) with rfl | n2
  · rw [upd_ne n1, upd_same] at z
    cases z
    exact exd_ok hn (relO_put (fs := []) ry fun _ => trivial)
  rw [far n1 n2] at z
  refine (I.hok c o z).stay (fun c2 v hc hv => keep c2 v ?_ hv) (fun c2 hc => (far (at_ne ea hc exo_own) (ne_of_none hc nd)).trans hc) (fun c2 xs hc => (far (at_ne ea hc exo_tup) (ne_of_none hc nd)).trans hc)
  rcases hc with rfl | hc
  · exact n1
  · exact at_ne ea hc exo_own
theorem setA_old (T : OexA X.K C) (I : Inv X pins σ H s) (ea : H a = some (exo a C (some dx))) (ed : H dx = some (exd dx fs)) (hl : fs.length ≤ 900) (nn : PySem.W.findIn X.K (.ref C) f = some none) (ry : RelV y u)
    (q : ∀ s2, Inv X pins σ (upd H dx (exd dx ((f, y) :: fs))) s2 → Q () s2) : wpAny (model X.prog X.w) A (setAttr (.ref a) f u) Q E s := by
  obtain ⟨B, t, cs, cd, SB, hcd, hm, hh⟩ := T.at_
  obtain ⟨t1, ho⟩ := exo_at I.hok ea
  obtain ⟨mA, hns, rel⟩ := exd_at I.hok ed
  obtain ⟨hp, gs, dr, tk, os⟩ := s
  obtain ⟨oD, _, _, hoD, _, _⟩ := hns.count (within_of rel)
  refine PySem.W.set_plain I.kIn (ox := { cls := .ref C, dict := some dx, data := .fields #[.ref t1, .none, .none, .none, .bool false, .none] }) (od := some oD) ⟨ho, rfl, rfl, hoD⟩ T.sa ?_
  refine osaB_old SB I.kIn ho hns (within_of rel) (by rw [List.length_map]; omega) hcd hm hh nn fun h2 tk2 keep hn => ?_
  have there : ∃ o, h2.get? dx = some o := by
    obtain ⟨o, _, _, z, _⟩ := hn
    exact ⟨o, z⟩
  exact q _ (I.write (t' := tk2) (x := dx) (e := dx) (o := exd dx ((f, y) :: fs)) (by rw [ed]; trivial) (.inl rfl) keep there (exd_ok hn (relO_put ry rel)))
end
/-- self.f = e, in an error class of whatever base -/
def tOstA (K : PySem.W.Frag) (f : Str) (to te : TE) : TS := fun D σ H => te σ H fun y H1 => to σ H1 fun x H2 => ∃ a C : Addr, x = .ref a ∧ OexA K C ∧ PySem.W.findIn K (.ref C) f = some none ∧
  ((H2 a = some (exo a C none) ∧ ∀ dx, H2 dx = none → dx ≠ a → D.nx σ (upd (upd H2 dx (exd dx [(f, y)])) a (exo a C (some dx)))) ∨
    ∃ (dx : Addr) (fs : List (Str × V)), H2 a = some (exo a C (some dx)) ∧ H2 dx = some (exd dx fs) ∧ fs.length ≤ 900 ∧ D.nx σ (upd H2 dx (exd dx ((f, y) :: fs))))
section
variable {X : Cx} {o e : Expr} {es : List Expr} {to te : TE} {ta : TA} {f : Str} {p p2 pos : Pos}
theorem ps_ostA (ho : PE X o to) (he : PE X e te) (hs : swapsWith e (some (.Attribute o f p2)) pos.line X.env = pure false := by rfl) : PS X (.Assign [.Attribute o f p2] e pos) (tOstA X.K f to te) := by
  refine ⟨fun pins s σ H D I h => plainObj_wpAny_Assign_Attribute (thn (he.run pins s σ H _ I h) fun v s1 r => ?_) hs⟩
  obtain ⟨y, H1, I1, ry, h1⟩ := r
  refine thn (ho.run pins s1 σ H1 _ I1 h1) fun v2 s2 r => ?_
  obtain ⟨x, H2, I2, rx, a, C, rfl, T, nn, h2⟩ := r
  obtain rfl : v2 = Value.ref a := rx
  rcases h2 with ⟨ea, h3⟩ | ⟨dx, fs, ea, ed, hl, h3⟩
  · exact setA_new T I2 ea nn ry fun dx s3 n ne J => ⟨σ, _, J, h3 dx n ne⟩
  · exact setA_old T I2 ea ed hl nn ry fun s3 J => ⟨σ, _, J, h3⟩
/-- C(e, ..) of such a class -/
theorem pmk_oexA {CX : CXT} {x : Str} {C fI : Addr} {k : Nat} {fd : FuncData} {ps : List Str} {sp : Sp} {ds : List Value} {dvs : List V} (T : OexA X.K C) (iC : PySem.W.findIn X.K (.ref C) "__init__" = some (some (.ref fI))) (tI : PySem.W.typeIn X.K (.ref fI) = some (.type "function"))
    (FI : FnOk X.prog X.w X.K X.mg X.base CX k fI fd ps sp) (hr : Room (k + 1) X.A) (hb : Binds X.K fd ps ds) (hd : Vals dvs ds) (hx : Passes CX X (fun _ _ _ => False)) (hg : Gl X x) (hm : X.mg x = some (.ref C)) (ha : PA X (e :: es) ta)
    (nb : (x == ("__debug__" : Str)) = false := by decide) (he : starEach (e :: es) X.env = (false, eval e X.env) :: starEach es X.env := by rfl) (hpl : (backTo pos (starEach es X.env)).any (·.1) = false := by rfl) :
    PMk X (.Call (.Name x p) (e :: es) [] pos) (tMkO C sp dvs ta) := by
  intro pins s σ H Q I h
  obtain ⟨B, ni, ii, t, EB, _, nm, q, N, bs, bm, sn, sub, ab, col, dd, k0, k1, k2, k3, k5, hC, hbm⟩ := T.cls
  obtain ⟨cs, rfl⟩ := own_of hbm
  refine wpAny_Call_Name_kw (ld_glob I hg hm (PySem.W.callWith_K (h₀ := X.base) I.ok.mod.kin T.kC (thn (ha.run pos pins s σ H _ I h) fun us s1 r => ?_) he hpl) nb)
  obtain ⟨vs, H1, I1, r1, hz, h1⟩ := r
  refine ⟨I1.kIn, ?_⟩
  obtain ⟨hp, g, dr, tk, os⟩ := s1
  show wpAny _ _ (call (.ref C) us) _ _ _
  have fresh : hp.objs.size ≤ hp.objs.size + 1 := Nat.le_succ _
  have n1 : H1 (hp.objs.size + 1) = none := I1.hok.fresh fresh
  have hq := h1 (hp.objs.size + 1) n1
  have stay : ∀ c o, hp.get? c = some o → ((hp.push (PySem.W.kdv_tup us)).push (PySem.HandSPX.excO C hp.objs.size)).get? c = some o := fun c o z => Heap.get?_push_of_some _ (Heap.get?_push_of_some _ z)
  have made : ((hp.push (PySem.W.kdv_tup us)).push (PySem.HandSPX.excO C hp.objs.size)).get? (hp.objs.size + 1) = some (PySem.HandSPX.excO C hp.objs.size) := by heap_get
  have I2 := I1.laid (t' := tk) (a := hp.objs.size + 1) (o := exo (hp.objs.size + 1) C none) (h' := (hp.push (PySem.W.kdv_tup us)).push (PySem.HandSPX.excO C hp.objs.size)) stay fresh (exo_ok made)
  have r2 : Vals (V.ref (hp.objs.size + 1) :: (vs ++ dvs)) (Value.ref (hp.objs.size + 1) :: (us ++ ds)) := .cons rfl (r1.append hd)
  have many : (Value.ref (hp.objs.size + 1) :: us ++ ds).length = ps.length := r2.length.symm.trans (FI.len _ _ _ _ hq)
  have few : us.length ≤ sizeLine := by
    rw [sizeLine_eq, ← Paired.length r1]
    omega
  refine wpAny_call (PySem.HandSPX.call_own EB (fun z => own_has z cs) (I1.kIn _ _ hC) (PySem.W.looks_findIn I1.kIn iC) (fun self => PySem.W.bind_fn I1.kIn self tI) few (codeAny_mono (FI.run _ X.stack _ _ ⟨Value.ref (hp.objs.size + 1) :: us, []⟩ (Value.ref (hp.objs.size + 1) :: (us ++ ds)) _ _ (fun _ _ _ => False) (hr.make C us []) (I2.env0.make C us []) (hb _ (Value.ref (hp.objs.size + 1) :: us) I2.kIn many) r2 hq) fun r s2 back => ?_))
  match r, back with
  | .error er, back => exact hx pins σ _ _ er s2 I2 back
  | .ok (.ret u), back =>
    obtain ⟨_, H2, os2, bare, un, hok, rv, rfl, d, fs, ea, ed, nd, h2⟩ := back
    obtain ⟨h2', g2, d2, t2, os'⟩ := s2
    exact ⟨rv, mk_end (raises_own T.exC T.tyC) I1 fresh stay un hok os2 bare ea ed nd h2⟩
  | .ok .next, back => exact False.elim back
  | .ok .brk, back => exact False.elim back
  | .ok .cont, back => exact False.elim back
end
/-- what is told of an error class of the program of whatever base: its name, its __init__ at fI -/
structure KlsA (K : PySem.W.Frag) (mg : Str → Option Value) (C fI : Addr) (z : String) : Prop where
  g : mg (Str.ofString z) = some (.ref C)
  oex : OexA K C
  cle : ClsE K C
  nam : NameC K C (Str.ofString z)
  xf : XfC K C
  ncode : PySem.W.findIn K (.ref C) "code" = some none
  init : PySem.W.findIn K (.ref C) "__init__" = some (some (.ref fI))
  tI : PySem.W.typeIn K (.ref fI) = some (.type "function")
def sp_initA (K : PySem.W.Frag) (f : String) : Sp := fun vs H Q _ => ∃ (a C : Addr) (v : V) (z : Str), vs = [.ref a, v] ∧ H a = some (exo a C none) ∧ OexA K C ∧ ClsE K C ∧ NameC K C z ∧ PySem.W.findIn K (.ref C) (Str.ofString f) = some none ∧ PySem.W.findIn K (.ref C) "code" = some none ∧
  ∀ dx, H dx = none → dx ≠ a → Q .non (upd (upd (upd H dx (exd dx [(Str.ofString f, v)])) a (exo a C (some dx))) dx (exd dx [("code", .str z), (Str.ofString f, v)]))
section
variable {K : PySem.W.Frag} {mg : Str → Option Value} {C fI : Addr} {x f : String} {H1 : Hp} {v : V} {Q E : XK}
theorem mk1A (T : KlsA K mg C fI x) (nf : PySem.W.findIn K (.ref C) (Str.ofString f) = some none) (h : ∀ d, H1 d = none → Q (.ref C) (some d) (upd H1 d (Err1 f x v))) :
    [v].length ≤ 1000 ∧ ∀ a, H1 a = none → sp_initA K f (.ref a :: ([v] ++ [])) (upd H1 a (exo a C none)) (fun v H2 => v = .non ∧ ∃ (d : Addr) (fs : List (Str × V)), H2 a = some (exo a C (some d)) ∧ H2 d = some (exd d fs) ∧ H1 d = none ∧ Q (.ref C) (some d) (upd (del H2 a) d (.xd fs))) E := by
  refine ⟨(show 1 ≤ 1000 by decide), fun a na => ⟨a, C, v, Str.ofString x, rfl, upd_same, T.oex, T.cle, T.nam, nf, T.ncode, fun d hd hda => ⟨rfl, d, _, ?_, upd_same, ?_, ?_⟩⟩⟩
  · rw [upd_ne (Ne.symm hda), upd_same]
  · rwa [upd_ne hda] at hd
  · rw [upd_ne hda] at hd
    rw [err_heap na hda]
    exact h d hd
end
/-- such a class that the law's own try takes -/
structure ErrA (K : PySem.W.Frag) (mg : Str → Option Value) (C : Addr) (f z : String) (cs : List Value) : Prop where
  kls : ∃ fI, KlsA K mg C fI z
  nf : PySem.W.findIn K (.ref C) (Str.ofString f) = some none
  hex : PySem.W.exmAny K (.ref C) cs = some true
  fi : ∀ v, FieldIs K C [("code", .str (Str.ofString z)), (Str.ofString f, v)] (Str.ofString z) v
theorem fi_state {K : PySem.W.Frag} {C : Addr} (nf : PySem.W.findIn K (.ref C) "state" = some none) (v : V) : FieldIs K C [("code", .str (Str.ofString "UnknownState")), (Str.ofString "state", v)] (Str.ofString "UnknownState") v := by
  unfold FieldIs
  rw [if_neg (by decide +kernel), if_neg (by decide +kernel), if_neg (by decide +kernel), if_pos (by decide +kernel)]
  exact ⟨nf, rfl⟩
theorem ErrA.tried {K : PySem.W.Frag} {mg : Str → Option Value} {C : Addr} {f z : String} {cs : List Value} {Q : VK} {H1 : Hp} {v : V} {d : Addr} (T : ErrA K mg C f z cs) (nd : H1 d = none) (h : ∀ H2 p, Same H1 H2 → H2 p = none → Q (.ref p) (upd H2 p (.tup [.str (Str.ofString z), v]))) :
    PySem.W.exmAny K (.ref C) cs = some true ∧ ∀ a, (upd H1 d (Err1 f z v)) a = none → ∃ (z' : Str) (v' : V), Caught K (upd (upd H1 d (Err1 f z v)) a (ExK (.ref C) (some d) a)) a z' v' ∧ ∀ H2, Same (upd (upd H1 d (Err1 f z v)) a (ExK (.ref C) (some d) a)) H2 → ∀ p, H2 p = none → Q (.ref p) (upd H2 p (.tup [.str z', v'])) := by
  obtain ⟨fI, k⟩ := T.kls
  refine ⟨T.hex, fun a na => ⟨Str.ofString z, v, ?_, fun H2 s2 p np => h H2 p (((same_upd nd).trans (same_upd na)).trans s2) np⟩⟩
  have hne : d ≠ a := fun e => by
    rw [← e, upd_same] at na
    cases na
  exact ⟨C, d, _, upd_same, (upd_ne hne).trans upd_same, k.xf, k.ncode, rfl, T.fi v⟩
section
variable {X : Cx} {k : Nat} {cs : List Value} {σ : L2.St}
theorem oneAsk_errA {Hn : Hp} {D f : Addr} {a : AskS X k} {mg : Str → Option Value} {C : Addr} {fld z : String} {v : V} {dv : PyData} {c' : Addr} {dV : Value} (T : ErrA X.K mg C fld z cs) (nD : Hn D = none) (la : LamAt Hn f (a.lam c' dV) a.dvs) (hv : Dp X.K Hn v dv)
    (h : ∀ H, Same Hn H → ∀ (E : XK) (Q : VK), (∀ H' d, Same H H' → H' d = none → E (.ref C) (some d) (upd H' d (Err1 fld z v))) → a.tb (a.js.map (NdefX.slotAt σ)) E H Q) : OneAsk cs σ Hn D (f, a) (.tuple [.str (Str.ofString z), dv]) := by
  refine fun H s hD => ⟨⟨c', dV, la.same s⟩, fun Q' q => h H s _ _ fun H' d s' nd => T.tried nd fun H2 p s2 np => ?_⟩
  have st := same_upd (o := HO.tup [.str (Str.ofString z), v]) np
  refine q _ _ (s'.trans (s2.trans st)) fun Hx bx => ?_
  obtain ⟨acc, hD⟩ := hD
  have hpD : p ≠ D := fun e => by
    rw [e, s2 _ _ (s' _ _ hD)] at np
    cases np
  have sx : Same Hn Hx := fun c o e => bx c o (ne_of_none e nD) (st _ _ (s2 _ _ (s' _ _ (s _ _ e))))
  exact .tup (SqT.of (bx _ _ hpD upd_same)) (.cons (.str _) (.cons (Dp.same sx hv) .nil))
end
end FW
/-! errors that bear nothing but their code; ~x and -x by the class's own methods -/
namespace FW
open PySem PySem.Spec PyProof.Rows L2
section
variable {X : Cx} {o e : Expr} {es : List Expr} {to te : TE} {ta : TA} {f : Str} {p p2 pos : Pos}
/-- C(e, ..) of such a class -/
theorem pmk_oexA0 {CX : CXT} {x : Str} {C fI : Addr} {k : Nat} {fd : FuncData} {ps : List Str} {sp : Sp} {ds : List Value} {dvs : List V} (T : OexA X.K C) (iC : PySem.W.findIn X.K (.ref C) "__init__" = some (some (.ref fI))) (tI : PySem.W.typeIn X.K (.ref fI) = some (.type "function"))
    (FI : FnOk X.prog X.w X.K X.mg X.base CX k fI fd ps sp) (hr : Room (k + 1) X.A) (hb : Binds X.K fd ps ds) (hd : Vals dvs ds) (hx : Passes CX X (fun _ _ _ => False)) (hg : Gl X x) (hm : X.mg x = some (.ref C))
    (nb : (x == ("__debug__" : Str)) = false := by decide) :
    PMk X (.Call (.Name x p) [] [] pos) (tMkO C sp dvs tNil) := by
  intro pins s σ H Q I h
  obtain ⟨B, ni, ii, t, EB, _, nm, q, N, bs, bm, sn, sub, ab, col, dd, k0, k1, k2, k3, k5, hC, hbm⟩ := T.cls
  obtain ⟨cs, rfl⟩ := own_of hbm
  obtain ⟨hz, h1⟩ := h
  refine wpAny_Call_Name_kw (ld_glob I hg hm (PySem.W.callWith_K0 I.kIn T.kC ?_) nb)
  have I1 := I
  have r1 : Vals [] ([] : List Value) := .nil
  obtain ⟨hp, g, dr, tk, os⟩ := s
  show wpAny _ _ (call (.ref C) []) _ _ _
  have fresh : hp.objs.size ≤ hp.objs.size + 1 := Nat.le_succ _
  have n1 : H (hp.objs.size + 1) = none := I1.hok.fresh fresh
  have hq := h1 (hp.objs.size + 1) n1
  have stay : ∀ c o, hp.get? c = some o → ((hp.push (PySem.W.kdv_tup [])).push (PySem.HandSPX.excO C hp.objs.size)).get? c = some o := fun c o z => Heap.get?_push_of_some _ (Heap.get?_push_of_some _ z)
  have made : ((hp.push (PySem.W.kdv_tup [])).push (PySem.HandSPX.excO C hp.objs.size)).get? (hp.objs.size + 1) = some (PySem.HandSPX.excO C hp.objs.size) := by heap_get
  have I2 := I1.laid (t' := tk) (a := hp.objs.size + 1) (o := exo (hp.objs.size + 1) C none) (h' := (hp.push (PySem.W.kdv_tup [])).push (PySem.HandSPX.excO C hp.objs.size)) stay fresh (exo_ok made)
  have r2 : Vals (V.ref (hp.objs.size + 1) :: dvs) (Value.ref (hp.objs.size + 1) :: ds) := .cons rfl hd
  have many : (Value.ref (hp.objs.size + 1) :: ds).length = ps.length := r2.length.symm.trans (FI.len _ _ _ _ hq)
  have few : ([] : List Value).length ≤ sizeLine := by
    rw [sizeLine_eq, ← Paired.length r1]
    omega
  refine wpAny_call (PySem.HandSPX.call_own EB (fun z => own_has z cs) (I1.kIn _ _ hC) (PySem.W.looks_findIn I1.kIn iC) (fun self => PySem.W.bind_fn I1.kIn self tI) few (codeAny_mono (FI.run _ X.stack _ _ ⟨Value.ref (hp.objs.size + 1) :: [], []⟩ (Value.ref (hp.objs.size + 1) :: ds) _ _ (fun _ _ _ => False) (hr.make C [] []) (I2.env0.make C [] []) (hb _ (Value.ref (hp.objs.size + 1) :: []) I2.kIn many) r2 hq) fun r s2 back => ?_))
  match r, back with
  | .error er, back => exact hx pins σ _ _ er s2 I2 back
  | .ok (.ret u), back =>
    obtain ⟨_, H2, os2, bare, un, hok, rv, rfl, d, fs, ea, ed, nd, h2⟩ := back
    obtain ⟨h2', g2, d2, t2, os'⟩ := s2
    exact ⟨rv, mk_end (raises_own T.exC T.tyC) I1 fresh stay un hok os2 bare ea ed nd h2⟩
  | .ok .next, back => exact False.elim back
  | .ok .brk, back => exact False.elim back
  | .ok .cont, back => exact False.elim back
end
/-- __init__(self): self.code = the class's name -/
def sp_init0 (K : PySem.W.Frag) : Sp := fun vs H Q _ => ∃ (a C : Addr) (z : Str), vs = [.ref a] ∧ H a = some (exo a C none) ∧ OexA K C ∧ ClsE K C ∧ NameC K C z ∧ PySem.W.findIn K (.ref C) "code" = some none ∧
  ∀ dx, H dx = none → dx ≠ a → Q .non (upd (upd H dx (exd dx [("code", .str z)])) a (exo a C (some dx)))
/-- the dict of an error that bears its code alone -/
def Err0 (z : String) : HO := .xd [("code", .str (Str.ofString z))]
section
variable {K : PySem.W.Frag} {mg : Str → Option Value} {C fI : Addr} {x : String} {H1 : Hp} {Q E : XK}
theorem err_heap0 {H : Hp} {a d : Addr} {o1 o2 o3 u : HO} (na : H a = none) (hda : d ≠ a) : upd (del (upd (upd (upd H a o1) d o2) a o3) a) d u = upd H d u := by
  funext b
  by_cases hb : b = d
  · rw [hb, upd_same, upd_same]
  · rw [upd_ne hb, upd_ne hb]
    by_cases ha : b = a
    · rw [ha, del_same, na]
    · rw [del_ne ha, upd_ne ha, upd_ne hb, upd_ne ha]
theorem mk0A (T : KlsA K mg C fI x) (h : ∀ d, H1 d = none → Q (.ref C) (some d) (upd H1 d (Err0 x))) :
    ([] : List V).length ≤ 1000 ∧ ∀ a, H1 a = none → sp_init0 K (.ref a :: ([] ++ [])) (upd H1 a (exo a C none)) (fun v H2 => v = .non ∧ ∃ (d : Addr) (fs : List (Str × V)), H2 a = some (exo a C (some d)) ∧ H2 d = some (exd d fs) ∧ H1 d = none ∧ Q (.ref C) (some d) (upd (del H2 a) d (.xd fs))) E := by
  refine ⟨Nat.zero_le _, fun a na => ⟨a, C, Str.ofString x, rfl, upd_same, T.oex, T.cle, T.nam, T.ncode, fun d hd hda => ⟨rfl, d, _, upd_same, (upd_ne hda).trans upd_same, ?_, ?_⟩⟩⟩
  · rwa [upd_ne hda] at hd
  · rw [upd_ne hda] at hd
    rw [err_heap0 na hda]
    exact h d hd
end
/-- such a class that the law's own try takes -/
structure ErrN (K : PySem.W.Frag) (mg : Str → Option Value) (C : Addr) (z : String) (cs : List Value) : Prop where
  kls : ∃ fI, KlsA K mg C fI z
  hex : PySem.W.exmAny K (.ref C) cs = some true
  fi : FieldIs K C [("code", .str (Str.ofString z))] (Str.ofString z) .non
theorem fi_none {K : PySem.W.Frag} {C : Addr} {z : Str} (h : decide (z ∈ (["InvalidPaper", "OtherFaces", "OtherCutters", "NothingLeft"] : List Str)) = true) : FieldIs K C [("code", .str z)] z .non := by
  have h' := of_decide_eq_true h
  have no : ∀ l : List Str, (["InvalidPaper", "OtherFaces", "OtherCutters", "NothingLeft"] : List Str).all (fun y => !decide (y ∈ l)) = true → z ∉ l := fun l e m => by
    have := List.all_eq_true.mp e z h'
    rw [decide_eq_true m] at this
    cases this
  unfold FieldIs
  rw [if_neg (no _ (by decide +kernel)), if_neg (no _ (by decide +kernel)), if_neg (no _ (by decide +kernel)), if_neg (fun e => no ["UnknownState"] (by decide +kernel) (List.mem_singleton.mpr e)), if_pos h']
theorem ErrN.tried {K : PySem.W.Frag} {mg : Str → Option Value} {C : Addr} {z : String} {cs : List Value} {Q : VK} {H1 : Hp} {d : Addr} (T : ErrN K mg C z cs) (nd : H1 d = none) (h : ∀ H2 p, Same H1 H2 → H2 p = none → Q (.ref p) (upd H2 p (.tup [.str (Str.ofString z), .non]))) :
    PySem.W.exmAny K (.ref C) cs = some true ∧ ∀ a, (upd H1 d (Err0 z)) a = none → ∃ (z' : Str) (v' : V), Caught K (upd (upd H1 d (Err0 z)) a (ExK (.ref C) (some d) a)) a z' v' ∧ ∀ H2, Same (upd (upd H1 d (Err0 z)) a (ExK (.ref C) (some d) a)) H2 → ∀ p, H2 p = none → Q (.ref p) (upd H2 p (.tup [.str z', v'])) := by
  obtain ⟨fI, k⟩ := T.kls
  refine ⟨T.hex, fun a na => ⟨Str.ofString z, .non, ?_, fun H2 s2 p np => h H2 p (((same_upd nd).trans (same_upd na)).trans s2) np⟩⟩
  have hne : d ≠ a := fun e => by
    rw [← e, upd_same] at na
    cases na
  exact ⟨C, d, _, upd_same, (upd_ne hne).trans upd_same, k.xf, k.ncode, rfl, T.fi⟩
section
variable {X : Cx} {k : Nat} {cs : List Value} {σ : L2.St}
theorem oneAsk_errN {Hn : Hp} {D f : Addr} {a : AskS X k} {mg : Str → Option Value} {C : Addr} {z : String} {c' : Addr} {dV : Value} (T : ErrN X.K mg C z cs) (nD : Hn D = none) (la : LamAt Hn f (a.lam c' dV) a.dvs)
    (h : ∀ H, Same Hn H → ∀ (E : XK) (Q : VK), (∀ H' d, Same H H' → H' d = none → E (.ref C) (some d) (upd H' d (Err0 z))) → a.tb (a.js.map (NdefX.slotAt σ)) E H Q) : OneAsk cs σ Hn D (f, a) (.tuple [.str (Str.ofString z), .none]) := by
  refine fun H s hD => ⟨⟨c', dV, la.same s⟩, fun Q' q => h H s _ _ fun H' d s' nd => T.tried nd fun H2 p s2 np => ?_⟩
  have st := same_upd (o := HO.tup [.str (Str.ofString z), .non]) np
  refine q _ _ (s'.trans (s2.trans st)) fun Hx bx => ?_
  obtain ⟨acc, hD⟩ := hD
  have hpD : p ≠ D := fun e => by
    rw [e, s2 _ _ (s' _ _ hD)] at np
    cases np
  exact .tup (SqT.of (bx _ _ hpD upd_same)) (.cons (.str _) (.cons .non .nil))
end
/-! ### own unary operators -/
def rOwnU (C : Addr) (sp : Sp) (E : XK) : V → Hp → VK → Prop := fun x H Q => ∃ a dx fs, x = .ref a ∧ H a = some (.ins C dx fs) ∧ sp [x] H Q E
/-- what a class of one's own says of a method with a name of its own meaning -/
structure OwnM (P : Program) (w : World) (K : PySem.W.Frag) (mg : Str → Option Value) (base : Heap) (CX : CXT) (C : Addr) (m : Str) (k : Nat) (sp : Sp) : Prop where
  ex : ∃ f : Addr, PySem.W.findIn K (.ref C) m = some (some (.ref f)) ∧ PySem.W.isFn K (.ref f) = true ∧ FnR P w K mg base CX k f sp
section
variable {X : Cx} {CX : CXT} {C : Addr} {j k : Nat} {sp : Sp} {E : XK}
theorem un_invO (o : OwnM X.prog X.w X.K X.mg X.base CX C "__invert__" k sp) (hr : Room j X.A) (hk : k ≤ j) (hx : Passes CX X E) : UnR X (unaryOp .Invert) (rOwnU C sp E) := by
  intro pins s σ H x v Q I rx h
  obtain ⟨a, dx, fs, rfl, ha, q⟩ := h
  obtain ⟨f, hs, hf, F⟩ := o.ex
  cases (show v = Value.ref a from rx)
  obtain ⟨mA, J, _⟩ := ins_get I.hok ha
  obtain ⟨od, J, _⟩ := J.look
  obtain ⟨m, hF⟩ := I.fr
  exact PySem.W.ksp_inv hF I.ok.mod.kin J hs hf (wpAny_call (run_fnR (us := [.ref a]) (vs := [.ref a]) F (hr.mono hk) hx I (.cons rfl .nil) q))
theorem un_negO (o : OwnM X.prog X.w X.K X.mg X.base CX C "__neg__" k sp) (hr : Room j X.A) (hk : k ≤ j) (hx : Passes CX X E) : UnR X (unaryOp .USub) (rOwnU C sp E) := by
  intro pins s σ H x v Q I rx h
  obtain ⟨a, dx, fs, rfl, ha, q⟩ := h
  obtain ⟨f, hs, hf, F⟩ := o.ex
  cases (show v = Value.ref a from rx)
  obtain ⟨mA, J, _⟩ := ins_get I.hok ha
  obtain ⟨od, J, _⟩ := J.look
  obtain ⟨m, hF⟩ := I.fr
  exact PySem.W.ksp_neg hF I.ok.mod.kin J hs hf (wpAny_call (run_fnR (us := [.ref a]) (vs := [.ref a]) F (hr.mono hk) hx I (.cons rfl .nil) q))
/-- a binary operator in a place that errors may leave -/
theorem op_binX {op : Operator} (o : OwnM X.prog X.w X.K X.mg X.base CX C (PySem.dunder op.info.2) k sp) (sf : PySem.W.selfFirst X.K C = true) (hr : Room j X.A) (hk : k ≤ j) (hx : Passes CX X E) : OpR X (binaryOp op) (rOwnB C sp E) := by
  obtain ⟨f, h1, h2, F⟩ := o.ex
  exact op_binI h1 h2 sf F (hr.mono hk) hx
end
end FW
/-! a field read where the frag must be given -/
namespace FW
open PySem PySem.Spec PyProof.Rows L2
theorem pe_fldE {X : Cx} {K : PySem.W.Frag} {e : Expr} {ta : TE} {f : Str} {pos : Pos} (h : X.K = K) (he : PE X e ta) (hb : attributeBase e f X.env (eval e X.env) = eval e X.env) : PE X (.Attribute e f pos) (tFld K ta f) := by
  subst h
  exact pe_fld he hb
end FW
namespace FW
open PySem PySem.Spec PyProof.Rows L2
-- more
section
variable {P : Program} {w : World} {K : PySem.W.Frag} {mg : Str → Option Value} {base : Heap}
abbrev s_OtherFaces_init : Stmt := inCls (topS 8) 0
theorem sc_OtherFaces_init : FnScope ["self"] ["self"] (defScope s_OtherFaces_init) := ⟨rfl, rfl, rfl, by decide +kernel, rfl, by decide +kernel, by decide +kernel⟩
theorem ok_OtherFaces_init {f : Addr} {fd : FuncData} (F : Fun K "__init__" "OtherFaces.__init__" s_OtherFaces_init f fd) (G : GsK K) : FnOk P w K mg base CX0 1 f fd ["self"] (sp_init0 K) := by
  refine F.ok sc_OtherFaces_init (fun vs H Q E h => ?_) (fun cdv A outer s H vs Q E hr h => ?_)
  · obtain ⟨a, C, z, rfl, _⟩ := h
    rfl
  · obtain ⟨a, C, z, rfl, ha, T, Te, Tn, nc, q⟩ := h
    refine ⟨_, (pss_one (ps_ostA (pv 0) (pe_name (pe_cls G (pv 0))))), ?_⟩
    exact ⟨_, rfl, a, C, rfl, .inl ha, Te, C, z, rfl, Tn, _, rfl, a, C, rfl, T, nc, .inl ⟨ha, fun dx hd hda => q dx hd hda⟩⟩
abbrev s_check_other : Stmt := topS 27
theorem sc_check_other : FnScope ["one", "other"] ["one", "other"] (defScope s_check_other) := ⟨rfl, rfl, rfl, by decide +kernel, rfl, by decide +kernel, by decide +kernel⟩
def sp_check_other (K : PySem.W.Frag) (CM : Addr) : Sp := fun vs H Q _ => ∃ (x y : Addr) (F : List Nat) (M1 M2 : List (List Nat)) (B1 B2 : List Nat), vs = [.ref x, .ref y] ∧ MachAt K CM H x F M1 B1 ∧ MachAt K CM H y F M2 B2 ∧ ∀ H', Same H H' → Q .non H'
theorem ok_check_other {f CM : Addr} {fd : FuncData} (F : Fun K "check_other" "check_other" s_check_other f fd) (T : Z mg) (gM : mg "Machine" = some (.ref CM)) (MC : MachC K CM) (ME : BookE K CM) : FnOk P w K mg base CX0 1 f fd ["one", "other"] (sp_check_other K CM) := by
  refine F.ok sc_check_other (fun vs H Q E h => ?_) (fun cdv A outer s H vs Q E hr h => ?_)
  · obtain ⟨x, y, F, M1, M2, B1, B2, rfl, _⟩ := h
    rfl
  obtain ⟨x, y, F, M1, M2, B1, B2, rfl, h1, h2, q⟩ := h
  refine ⟨_, (pss_one (ps_if (PW.pt (pw_or (pt_not (pt_val (pe_callB call_isi (by rfl) T.z_isinstance (by decide +kernel) (pa_cons (pv 1) (pa_cons (pe_glob (v := .ref CM) rfl gM rfl) pa_nil))))) (pw_or1 (pt_cmpR op_ne (pe_fld (pv 0) rfl) (pe_fld (pv 1) rfl) (nomark _))))) pss_never pss_nil)), ?_⟩
  obtain ⟨dx, tt, bt, rs, hx, kk⟩ := h1.at_
  obtain ⟨dy, tt', bt', rs', hy, kk'⟩ := h2.at_
  refine ⟨_, rfl, _, _, _, _, true, rfl, .own _, .base (.ins hy MC.c ME.ca ME.cn ME.ct ME.cm), ME.kit, true, rfl, iteF ?_⟩
  refine ⟨_, rfl, x, CM, dx, _, _, rfl, hx, MC.c, MC.nf, rfl, _, rfl, y, CM, dy, _, _, rfl, hy, MC.c, MC.nf, rfl, rfl, _, rfl, ?_⟩
  rw [decide_eq_true rfl]
  exact iteF (q _ (Same.refl _))
def sp_check_otherX (K : PySem.W.Frag) (CM CO : Addr) : Sp := fun vs H _ E => ∃ (x y : Addr) (F1 F2 : List Nat) (M1 M2 : List (List Nat)) (B1 B2 : List Nat), vs = [.ref x, .ref y] ∧ MachAt K CM H x F1 M1 B1 ∧ MachAt K CM H y F2 M2 B2 ∧ F1 ≠ F2 ∧ ∀ H' d, Same H H' → H' d = none → E (.ref CO) (some d) (upd H' d (Err0 "OtherFaces"))
theorem okx_check_other {f CM CO fO : Addr} {fd fdO : FuncData} (F : Fun K "check_other" "check_other" s_check_other f fd) (T : Z mg) (gM : mg "Machine" = some (.ref CM)) (MC : MachC K CM) (ME : BookE K CM) (TO : KlsA K mg CO fO "OtherFaces") (FO : FnOk P w K mg base CX0 1 fO fdO ["self"] (sp_init0 K)) (bO : Binds K fdO ["self"] []) : FnOk P w K mg base (L2.CX P w) 3 f fd ["one", "other"] (sp_check_otherX K CM CO) := by
  refine F.okX sc_check_other (fun vs H Q E h => ?_) (fun cdv A outer s H vs Q E hr h => ?_)
  · obtain ⟨x, y, F1, F2, M1, M2, B1, B2, rfl, _⟩ := h
    rfl
  obtain ⟨x, y, F1, F2, M1, M2, B1, B2, rfl, h1, h2, hne, q⟩ := h
  refine ⟨_, (pss_one (ps_if (PW.pt (pw_or (pt_not (pt_val (pe_callB call_isi (by rfl) T.z_isinstance (by decide +kernel) (pa_cons (pv 1) (pa_cons (pe_glob (v := .ref CM) rfl gM rfl) pa_nil))))) (pw_or1 (pt_cmpR op_ne (pe_fld (pv 0) rfl) (pe_fld (pv 1) rfl) (nomark _)))))
    (pss_one (ps_raise rfl (takes_of rfl rfl rfl rfl) (pmk_oexA0 TO.oex TO.init TO.tI FO (hr.mono (by decide)) bO .nil pass0 (by rfl) TO.g))) pss_nil)), ?_⟩
  obtain ⟨dx, tt, bt, rs, hx, kk⟩ := h1.at_
  obtain ⟨dy, tt', bt', rs', hy, kk'⟩ := h2.at_
  refine ⟨_, rfl, _, _, _, _, true, rfl, .own _, .base (.ins hy MC.c ME.ca ME.cn ME.ct ME.cm), ME.kit, true, rfl, iteF ?_⟩
  refine ⟨_, rfl, x, CM, dx, _, _, rfl, hx, MC.c, MC.nf, rfl, _, rfl, y, CM, dy, _, _, rfl, hy, MC.c, MC.nf, rfl, rfl, _, rfl, ?_⟩
  rw [decide_eq_false (fun e => hne (congrArg (fun z : Str => z.cps.toList) (V.str.inj e)))]
  exact iteT (mk0A TO fun d hd => q _ d (Same.refl _) hd)
end
end FW
namespace FW
open PySem PySem.Spec PyProof.Rows L2
-- more
section
variable {P : Program} {w : World} {K : PySem.W.Frag} {mg : Str → Option Value} {base : Heap}
abbrev s_TooMany_init : Stmt := inCls (topS 9) 0
theorem sc_TooMany_init : FnScope ["self", "most"] ["self", "most"] (defScope s_TooMany_init) := ⟨rfl, rfl, rfl, by decide +kernel, rfl, by decide +kernel, by decide +kernel⟩
theorem ok_TooMany_init {f : Addr} {fd : FuncData} (F : Fun K "__init__" "TooMany.__init__" s_TooMany_init f fd) (G : GsK K) : FnOk P w K mg base CX0 1 f fd ["self", "most"] (sp_init K "most") := by
  refine F.ok sc_TooMany_init (fun vs H Q E h => ?_) (fun cdv A outer s H vs Q E hr h => ?_)
  · obtain ⟨a, C, v, z, rfl, _⟩ := h
    rfl
  · obtain ⟨a, C, v, z, rfl, ha, T, Te, Tn, nf, nc, q⟩ := h
    refine ⟨_, (pss_cons (ps_ost (pv 0) (pv 1)) (pss_one (ps_ost (pv 0) (pe_name (pe_cls G (pv 0)))))), ?_⟩
    refine ⟨_, rfl, _, rfl, a, C, rfl, T, nf, .inl ⟨ha, fun dx hd hda => ?_⟩⟩
    have e1 : (upd (upd H dx (exd dx [(Str.ofString "most", v)])) a (exo a C (some dx))) a = some (exo a C (some dx)) := upd_same
    have e2 : (upd (upd H dx (exd dx [(Str.ofString "most", v)])) a (exo a C (some dx))) dx = some (exd dx [(Str.ofString "most", v)]) := by
      rw [upd_ne hda, upd_same]
    refine ⟨_, rfl, a, C, rfl, .inr ⟨dx, _, e1, e2⟩, Te, C, z, rfl, Tn, _, rfl, a, C, rfl, T, nc, .inr ⟨dx, _, e1, e2, (show 1 ≤ 900 by decide), ?_⟩⟩
    exact q dx hd hda
def sp_pairs_ofX (K : PySem.W.Frag) (CE : Addr) : Sp := fun vs H Q E => ∃ (t1 t2 : Addr) (rs1 rs2 : List V) (M1 M2 : List (List Nat)) (n : Nat), vs = [.ref t1, .ref t2] ∧ SqT K H t1 rs1 ∧ SqT K H t2 rs2 ∧ RowsT K H rs1 M1 ∧ RowsT K H rs2 M2 ∧ TabOk n M1 ∧ TabOk n M2 ∧ n ≤ 1000 ∧
  (∀ H' d k, Same H H' → H' d = none → 200 < (jointN M1 M2 k).length → E (.ref CE) (some d) (upd H' d (Err1 "most" "TooMany" (.int 200)))) ∧
  ∀ H' r a b (P : List Pr) (T : List (List Nat)) (us ws : List V), Same H H' → H' r = some (.tup [.ref a, .ref b]) → H r = none → H' a = some (.lst us) → PairsT H' us P →
    H' b = some (.lst ws) → RowsL H' ws T → JointS M1 M2 P T → T.length = P.length → P = jointN M1 M2 T.length → P.length ≤ 200 → Q (.ref r) H'
theorem okx_pairs_of {f CM CE fE : Addr} {fd fdE : FuncData} {t8 : Tok} {mc : Value} (F : Fun K "pairs_of" "pairs_of" s_pairs_of f fd) (T : Z mg) (gM : mg "Machine" = some (.ref CM)) (rM : ClX.CRead K CM mc) (vM : ClX.CVal K CM mc "MOST" (.int 200) (.int 200 t8)) (TM : Kls K mg CE fE "TooMany") (nM : PySem.W.findIn K (.ref CE) (Str.ofString "most") = some none) (FM : FnOk P w K mg base CX0 1 fE fdE ["self", "most"] (sp_init K "most")) (bM : Binds K fdE ["self", "most"] []) : FnOk P w K mg base (L2.CX P w) 3 f fd ["one", "other"] (sp_pairs_ofX K CE) := by
  refine F.okX sc_pairs_of (fun vs H Q E h => ?_) (fun cdv A outer s H vs Q E hr h => ?_)
  · obtain ⟨t1, t2, rs1, rs2, M1, M2, n, rfl, _⟩ := h
    rfl
  obtain ⟨t1, t2, rs1, rs2, M1, M2, n, rfl, h1, h2, R1, R2, k1, k2, hn, qE, q⟩ := h
  refine ⟨_, (pss_cons (ps_set (i := 2) sc_pairs_of.nd rfl (.inl rfl) (pe_dispT (hu_of hr) (pe_tup (pa_cons pe_int (pa_cons pe_int pa_nil))) pe_int))
      (pss_cons (ps_set (i := 3) sc_pairs_of.nd rfl (.inl rfl) (pe_lst (pa_cons (pe_tup (pa_cons pe_int (pa_cons pe_int pa_nil))) pa_nil)))
      (pss_cons (ps_set (i := 4) sc_pairs_of.nd rfl (.inl rfl) (pe_lst pa_nil))
      (pss_cons (ps_while (passes_of rfl) (pt_cmpR op_lt (pe_callB call_len_seq (by rfl) T.z_len (by decide +kernel) (pa_cons (pv 4) pa_nil)) (pe_callB call_len_seq (by rfl) T.z_len (by decide +kernel) (pa_cons (pv 3) pa_nil)) (nomark _))
        (pss_cons (ps_asg (pe_ix ix_list (pv 3) (pe_callB call_len_seq (by rfl) T.z_len (by decide +kernel) (pa_cons (pv 4) pa_nil)) (fun _ _ => rfl)) (pg_tup rfl (pgs_cons (pg_name (i := 5) sc_pairs_of.nd rfl (.inl rfl)) (pgs_cons (pg_name (i := 6) sc_pairs_of.nd rfl (.inl rfl)) pgs_nil))))
        (pss_cons (ps_set (i := 7) sc_pairs_of.nd rfl (.inl rfl) (pe_lst pa_nil))
        (pss_cons (ps_for (passes_of rfl) rfl (pi_zipT (by rfl) T.z_zip (pa_cons (pe_ix ix_tup (pv 0) (pv 5) (fun _ _ => rfl)) (pa_cons (pe_ix ix_tup (pv 1) (pv 6) (fun _ _ => rfl)) pa_nil))) (pg_name (i := 8) sc_pairs_of.nd rfl (.inl rfl))
          (pss_cons (ps_as (ps_if (pt_cmp (pc_dnotin (hu_of hr) (pv 8) (pv 2)))
              (pss_cons (ps_if (pt_cmpR op_eq (pe_callB call_len_seq (by rfl) T.z_len (by decide +kernel) (pa_cons (pv 3) pa_nil)) (ClX.pe_cval (pe_glob (v := .ref CM) rfl gM rfl)) (nomark _)) (pss_one (ps_raise rfl (takes_of rfl rfl rfl rfl) (pmk_oex TM.oex TM.init TM.tI FM (hr.mono (by decide)) bM .nil pass0 (by rfl) TM.g (pa_cons (ClX.pe_cval (pe_glob (v := .ref CM) rfl gM rfl)) pa_nil)))) pss_nil)
              (pss_cons (ps_dput (hu_of hr) (pv 2) (pv 8) (pe_callB call_len_seq (by rfl) T.z_len (by decide +kernel) (pa_cons (pv 3) pa_nil)) rfl)
              (pss_one (ps_expr (pe_bm PySem.F.plainAttrs_list PySem.F.slot_list_append PySem.F.type_list_append mt_append (pv 3) (pa_cons (pv 8) pa_nil)))))) pss_nil))
          (pss_one (ps_expr (pe_bm PySem.F.plainAttrs_list PySem.F.slot_list_append PySem.F.type_list_append mt_append (pv 7) (pa_cons (pe_dget (hu_of hr) (pv 2) (pv 8) (fun _ _ => rfl)) pa_nil))))))
        (pss_one (ps_expr (pe_bm PySem.F.plainAttrs_list PySem.F.slot_list_append PySem.F.type_list_append mt_append (pv 4) (pa_cons (pv 7) pa_nil))))))))
      (pss_one (ps_ret (pe_tup (pa_cons (pv 3) (pa_cons (pv 4) pa_nil))))))))), ?_⟩
  have nil2 : ∀ {H1 : Hp} {p : Addr}, Same H H1 → H1 p = none → H p = none := fun s n => none_same s n
  refine fun d nd => ?_
  have s1 := same_upd (o := HO.dT []) nd
  refine ⟨(show 2 ≤ sizeLine by decide), fun t nt => ?_⟩
  have s2 := same_upd (o := HO.tup [V.int 0, V.int 0]) nt
  refine ⟨[.inl 0, .inl 0], t, s2 _ _ upd_same, rfl, upd_same, ?_⟩
  have hd0 : (upd (upd (upd H d (.dT [])) t (.tup [V.int 0, V.int 0])) d (.dT [([.inl 0, .inl 0], V.int 0)])) d = some (.dT (plP [(0, 0)])) := upd_same
  have s03 : Same H (upd (upd (upd H d (.dT [])) t (.tup [V.int 0, V.int 0])) d (.dT [([.inl 0, .inl 0], V.int 0)])) := fun z o hz => (upd_ne (ne_of_none hz nd)).trans (s2 _ _ (s1 _ _ hz))
  generalize upd (upd (upd H d (.dT [])) t (.tup [V.int 0, V.int 0])) d (.dT [([.inl 0, .inl 0], V.int 0)]) = H3 at hd0 s03 ⊢
  clear s1 s2 nt
  refine ⟨(show 2 ≤ sizeLine by decide), fun t2' nt2 => ?_⟩
  have s4 := same_upd (o := HO.tup [V.int 0, V.int 0]) nt2
  have ht4 : (upd H3 t2' (.tup [V.int 0, V.int 0])) t2' = some (.tup (prV (0, 0))) := upd_same
  refine ⟨(show 1 ≤ sizeLine by decide), fun a na => ?_⟩
  have s5 := same_upd (o := HO.lst [V.ref t2']) na
  have ha5 : (upd (upd H3 t2' (.tup [V.int 0, V.int 0])) a (.lst [V.ref t2'])) a = some (.lst [V.ref t2']) := upd_same
  have ht5 := s5 _ _ ht4
  have hd5 := s5 _ _ (s4 _ _ hd0)
  have s05 := s03.trans (s4.trans s5)
  have na0 := nil2 (s03.trans s4) na
  generalize upd (upd H3 t2' (.tup [V.int 0, V.int 0])) a (.lst [V.ref t2']) = H5 at ha5 ht5 hd5 s05 ⊢
  clear s4 s5 ht4 na nt2 s03 hd0
  refine ⟨(show 0 ≤ sizeLine by decide), fun b nb => ?_⟩
  have s6 := same_upd (o := HO.lst []) nb
  have ab : a ≠ b := ne_of_none ha5 nb
  have hb6 : (upd H5 b (.lst [])) b = some (.lst []) := upd_same
  have ha6 := s6 _ _ ha5
  have ht6 := s6 _ _ ht5
  have hd6 := s6 _ _ hd5
  have s06 := s05.trans s6
  have nb0 := nil2 s05 nb
  generalize upd H5 b (.lst []) = H6 at ha6 hb6 ht6 hd6 s06 ⊢
  clear s6 nb ha5 ht5 hd5 s05
  dsimp only [gName, tSeq]
  let lenO : Option HO → Nat := fun o => match o with
    | some (.lst xs) => xs.length
    | _ => 0
  have p0 : PairsT H6 [V.ref t2'] [(0, 0)] := ⟨rfl, fun i v q h1 h2 => by
    match i with
    | 0 =>
      cases h1
      cases h2
      exact ⟨t2', rfl, ht6⟩
    | i + 1 => cases h1⟩
  refine while_by (fun σ H' => ∃ (P : List Pr) (T : List (List Nat)) (us ws : List V) (y5 y6 y7 y8 : Option V), σ = [some (.ref t1), some (.ref t2), some (.ref d), some (.ref a), some (.ref b), y5, y6, y7, y8] ∧ Same H H' ∧ H' d = some (.dT (plP P)) ∧ H' a = some (.lst us) ∧ PairsT H' us P ∧
    H' b = some (.lst ws) ∧ RowsL H' ws T ∧ (∀ (i : Nat) (x : Addr), ws[i]? = some (V.ref x) → x ≠ a ∧ x ≠ b) ∧ JointS M1 M2 P T ∧ P = jointN M1 M2 T.length ∧ P.length ≤ 200) (fun σ H' => 200 - lenO (H' b))
    ⟨[(0, 0)], [], [V.ref t2'], [], none, none, none, none, rfl, s06, hd6, ha6, p0, hb6, RowsL.nil, (fun i x h => by cases h), JointS.start k1.l1 k2.l1, rfl, (show 1 ≤ 200 by decide)⟩ ?_ ?_
  · rintro σ H7 ⟨P, T, us, ws, y5, y6, y7, y8, rfl, s7, hd7, ha7, p7, hb7, r7, off7, J, hJ, few⟩
    have le := J.le
    refine ⟨_, rfl, b, _, rfl, .inl (SqL.of hb7), _, rfl, a, _, rfl, .inl (SqL.of ha7), _, _, rfl, rfl, _, rfl, ?_⟩
    refine ite_dec (fun hlt2 => ?_) (fun hge => ?_)
    · have hlt' : T.length < P.length := by
        rw [r7.1, p7.1] at hlt2
        omega
      obtain ⟨q0, hq0⟩ : ∃ q0, P[T.length]? = some q0 := ⟨_, List.getElem?_eq_getElem hlt'⟩
      obtain ⟨v0, hv0⟩ : ∃ v0, us[T.length]? = some v0 := ⟨_, List.getElem?_eq_getElem (by rw [p7.1]; exact hlt')⟩
      obtain ⟨x0, rfl, hx0⟩ := p7.2 _ _ _ hv0 hq0
      obtain ⟨lq, rq⟩ := q0
      have hin := J.lt _ (List.mem_of_getElem? hq0)
      refine ⟨_, rfl, _, rfl, b, _, rfl, .inl (SqL.of hb7), a, _, _, _, rfl, rfl, SqL.of ha7, by rw [r7.1]; exact atI_nat hv0, ?_⟩
      refine ⟨x0, _, rfl, SqT.of hx0, rfl, _, _, rfl, _, _, rfl, rfl, ?_⟩
      refine ⟨(show 0 ≤ sizeLine by decide), fun rw nrw => ?_⟩
      have s8 := same_upd (o := HO.lst []) nrw
      have hrw8 : (upd H7 rw (.lst [])) rw = some (.lst (([] : List Nat).map nI)) := upd_same
      have rwa : rw ≠ a := (ne_of_none ha7 nrw).symm
      have rwb : rw ≠ b := (ne_of_none hb7 nrw).symm
      have rwd : rw ≠ d := (ne_of_none hd7 nrw).symm
      have rw0 := nil2 s7 nrw
      have da : d ≠ a := ne_of hd7 ha7 (by intro z; cases z)
      have db : d ≠ b := ne_of hd7 hb7 (by intro z; cases z)
      have hd8 := s8 _ _ hd7
      have ha8 := s8 _ _ ha7
      have hb8 := s8 _ _ hb7
      have p8 := p7.keep fun x q h => s8 _ _ h
      have r8 := r7.same s8
      have s08 := s7.trans s8
      have offw : ∀ (i : Nat) (x : Addr), ws[i]? = some (V.ref x) → x ≠ rw := fun i x hi e => by
        have hi' : i < T.length := by
          rw [← r7.1]
          exact (List.getElem?_eq_some_iff.mp hi).1
        obtain ⟨x', e', hx'⟩ := r7.2 i _ _ hi (List.getElem?_eq_getElem hi')
        cases e'
        rw [e, nrw] at hx'
        cases hx'
      generalize upd H7 rw (.lst []) = H8 at hrw8 hd8 ha8 hb8 p8 r8 s08 ⊢
      clear s8 nrw hd7 ha7 p7 r7 hx0 s7
      -- the two rows
      obtain ⟨u1, hu1⟩ : ∃ u1, rs1[lq]? = some u1 := ⟨_, List.getElem?_eq_getElem (by rw [R1.1]; exact hin.1)⟩
      obtain ⟨u2, hu2⟩ : ∃ u2, rs2[rq]? = some u2 := ⟨_, List.getElem?_eq_getElem (by rw [R2.1]; exact hin.2)⟩
      have m1 : M1[lq]? = some (M1[lq]'hin.1) := List.getElem?_eq_getElem hin.1
      have m2 : M2[rq]? = some (M2[rq]'hin.2) := List.getElem?_eq_getElem hin.2
      have ln1 := (k1.rows _ (List.mem_of_getElem? m1)).1
      have ln2 := (k2.rows _ (List.mem_of_getElem? m2)).1
      generalize M1[lq]'hin.1 = g1 at m1 ln1
      generalize M2[rq]'hin.2 = g2 at m2 ln2
      obtain ⟨c1, rfl, hc1⟩ := R1.2 _ _ _ hu1 m1
      obtain ⟨c2, rfl, hc2⟩ := R2.2 _ _ _ hu2 m2
      have sd : sides M1 M2 (lq, rq) = g1.zip g2 := by
        unfold sides
        rw [m1, m2]
        rfl
      have hJn := J.next k1 k2 hq0
      have pre : ∀ j, addAll P ((g1.zip g2).take j) <+: addAll P (g1.zip g2) := fun j => by
        have e : addAll P (g1.zip g2) = addAll (addAll P ((g1.zip g2).take j)) ((g1.zip g2).drop j) := by
          unfold addAll
          rw [← List.foldl_append, List.take_append_drop]
        rw [e]
        exact addAll_pre _ _
      refine ⟨_, rfl, _, rfl, t1, _, _, _, rfl, rfl, s08.tup h1, atI_nat hu1, _, rfl, _, rfl, t2, _, _, _, rfl, rfl, s08.tup h2, atI_nat hu2, ?_⟩
      refine ⟨c1, c2, _, _, rfl, s08.tup hc1, s08.tup hc2, ?_⟩
      have ln : (g1.zip g2).length = min (g1.map nI).length (g2.map nI).length := by
        rw [List.length_zip, List.length_map, List.length_map]
      refine for_it (walk_zipG (k1 := .t c1) (k2 := .t c2) (xs := g1.map nI) (ys := g2.map nI) rfl) (fun j σ H' => ∃ (us' : List V) (y8 : Option V), σ = [some (.ref t1), some (.ref t2), some (.ref d), some (.ref a), some (.ref b), some (nI lq), some (nI rq), some (.ref rw), y8] ∧ (∀ z o, z ≠ d → z ≠ a → z ≠ rw → H8 z = some o → H' z = some o) ∧
        H' d = some (.dT (plP (addAll P ((g1.zip g2).take j)))) ∧ H' a = some (.lst us') ∧ PairsT H' us' (addAll P ((g1.zip g2).take j)) ∧ H' rw = some (.lst ((rowP (addAll P ((g1.zip g2).take j)) ((g1.zip g2).take j)).map nI)) ∧ (addAll P ((g1.zip g2).take j)).length ≤ 200)
        ⟨us, y8, rfl, (fun z o _ _ _ h => h), hd8, ha8, p8, hrw8, few⟩ (fun j σ H' _ ⟨_, _, _, st, _⟩ => ?_) ?_ ?_
      · have s : Same H H' := fun z o hz => st z o (ne_of_none hz nd) (ne_of_none hz na0) (ne_of_none hz rw0) (s08 _ _ hz)
        exact ⟨s.tup hc1, s.tup hc2⟩
      · rintro j v σ H9 H10 hj ⟨us', y8, rfl, st9, hd9, ha9, p9, hrw9, f9⟩ ⟨tt, v1, v2, rfl, ntt, rfl, e1, e2⟩
        change (g1.map nI)[j]? = some v1 at e1
        change (g2.map nI)[j]? = some v2 at e2
        rw [List.getElem?_map] at e1 e2
        obtain ⟨z1, g1j, rfl⟩ := Option.map_eq_some_iff.mp e1
        obtain ⟨z2, g2j, rfl⟩ := Option.map_eq_some_iff.mp e2
        have zj : (g1.zip g2)[j]? = some (z1, z2) := List.getElem?_zip_eq_some.mpr ⟨g1j, g2j⟩
        have tj : (g1.zip g2).take (j + 1) = (g1.zip g2).take j ++ [(z1, z2)] := by
          rw [List.take_add_one, zj]
          rfl
        have pre10 : addAll P ((g1.zip g2).take (j + 1)) <+: addAll P (g1.zip g2) := pre (j + 1)
        rw [tj, addAll_snoc] at pre10 ⊢
        have inP : ∀ q ∈ (g1.zip g2).take j, q ∈ addAll P ((g1.zip g2).take j) := fun q hq => addAll_mem q hq
        have s10 := same_upd (o := HO.tup [nI z1, nI z2]) ntt
        have ht10 : (upd H9 tt (.tup [nI z1, nI z2])) tt = some (.tup ((keyP (z1, z2)).map kV)) := upd_same
        have hd10 := s10 _ _ hd9
        have ha10 := s10 _ _ ha9
        have hrw10 := s10 _ _ hrw9
        have p10 := p9.keep fun x q h => s10 _ _ h
        have st10 : ∀ z o, z ≠ d → z ≠ a → z ≠ rw → H8 z = some o → (upd H9 tt (.tup [nI z1, nI z2])) z = some o := fun z o n1 n2 n3 h => s10 _ _ (st9 z o n1 n2 n3 h)
        generalize upd H9 tt (.tup [nI z1, nI z2]) = H10 at ht10 hd10 ha10 hrw10 p10 st10 ⊢
        clear s10 ntt hd9 ha9 hrw9 p9 st9
        generalize addAll P ((g1.zip g2).take j) = P9 at f9 pre10 inP hd10 p10 hrw10 ⊢
        have tta : tt ≠ a := ne_of ht10 ha10 (by intro z; cases z)
        have ttd : tt ≠ d := ne_of ht10 hd10 (by intro z; cases z)
        have ttr : tt ≠ rw := ne_of ht10 hrw10 (by intro z; cases z)
        refine ⟨fun σ H' => ∃ us2 : List V, σ = [some (.ref t1), some (.ref t2), some (.ref d), some (.ref a), some (.ref b), some (nI lq), some (nI rq), some (.ref rw), some (.ref tt)] ∧ (∀ z o, z ≠ d → z ≠ a → z ≠ rw → H8 z = some o → H' z = some o) ∧
          H' tt = some (.tup ((keyP (z1, z2)).map kV)) ∧ H' d = some (.dT (plP (addP P9 (z1, z2)))) ∧ H' a = some (.lst us2) ∧ PairsT H' us2 (addP P9 (z1, z2)) ∧ H' rw = some (.lst ((rowP P9 ((g1.zip g2).take j)).map nI)) ∧ (addP P9 (z1, z2)).length ≤ 200, ?_, ?_⟩
        · refine ⟨_, rfl, _, rfl, d, _, rfl, DGet.t hd10 ht10, _, rfl, ?_⟩
          rw [plP_val]
          by_cases hm : (z1, z2) ∈ P9
          · rw [if_pos hm]
            refine iteF ?_
            have ea : addP P9 (z1, z2) = P9 := if_pos hm
            rw [ea]
            exact ⟨us', rfl, st10, ht10, hd10, ha10, p10, hrw10, f9⟩
          · rw [if_neg hm]
            have ea : addP P9 (z1, z2) = P9 ++ [(z1, z2)] := if_neg hm
            rw [ea] at pre10 ⊢
            refine iteT ⟨_, rfl, a, _, rfl, .inl (SqL.of ha10), ?_⟩
            have us1 : us'.length < sizeLine := sz1 (by rw [p10.1]; omega)
            refine ⟨CM, mc, .int 200, _, rfl, rM, vM, rfl, _, rfl, ?_⟩
            by_cases l9 : us'.length = 200
            · rw [decide_eq_true (show V.int ((us'.length : Nat) : Int) = V.int 200 from by rw [l9]; rfl)]
              refine iteT ⟨CM, mc, .int 200, _, rfl, rM, vM, mk1 TM nM fun dd hdd => qE _ dd (T.length + 1) (fun z o hz => st10 z o (ne_of_none hz nd) (ne_of_none hz na0) (ne_of_none hz rw0) (s08 _ _ hz)) hdd ?_⟩
              have h201 := pre10.length_le
              rw [List.length_append, ← p10.1, l9] at h201
              rw [jointN_succ (q := (lq, rq)) (by rw [← hJ]; exact hq0), ← hJ, sd]
              exact h201
            have lp9 : P9.length < 200 := by
              rw [p10.1] at l9
              omega
            have ne200 : decide (V.int ((us'.length : Nat) : Int) = V.int 200) = false := decide_eq_false fun e => l9 (by
              have e2 : ((us'.length : Nat) : Int) = 200 := V.int.inj e
              omega)
            rw [ne200]
            refine iteF ⟨_, rfl, a, _, rfl, .inl (SqL.of ha10), _, rfl, _, rfl, d, _, rfl, DPut.t hd10 ht10 (by rw [plP_len]; exact sz1 (by omega)), ?_⟩
            rw [p10.1, show V.int ((P9.length : Nat) : Int) = nI P9.length from rfl, plP_put hm]
            have hd11 : (upd H10 d (.dT (plP (P9 ++ [(z1, z2)])))) d = some (.dT (plP (P9 ++ [(z1, z2)]))) := upd_same
            have far : ∀ {z : Addr} {o : HO}, z ≠ d → H10 z = some o → (upd H10 d (.dT (plP (P9 ++ [(z1, z2)])))) z = some o := fun n h => (upd_ne n).trans h
            have ha11 := far da.symm ha10
            have ht11 := far ttd ht10
            have hrw11 := far rwd hrw10
            have p11 : PairsT (upd H10 d (.dT (plP (P9 ++ [(z1, z2)])))) us' P9 := p10.keep fun x q h => far (ne_of h hd10 (by intro z; cases z)) h
            have st11 : ∀ z o, z ≠ d → z ≠ a → z ≠ rw → H8 z = some o → (upd H10 d (.dT (plP (P9 ++ [(z1, z2)])))) z = some o := fun z o n1 n2 n3 h => far n1 (st10 z o n1 n2 n3 h)
            generalize upd H10 d (.dT (plP (P9 ++ [(z1, z2)]))) = H11 at hd11 ha11 ht11 hrw11 p11 st11 ⊢
            clear far
            refine ⟨_, rfl, .inl ⟨rfl, _, SqL.of ha11⟩, _, rfl, a, _, _, rfl, rfl, ha11, us1, ?_⟩
            refine ⟨us' ++ [V.ref tt], rfl, fun z o n1 n2 n3 h => (upd_ne n2).trans (st11 z o n1 n2 n3 h), (upd_ne tta).trans ht11, (upd_ne da).trans hd11, upd_same, ?_, (upd_ne rwa).trans hrw11, by rw [List.length_append]; exact lp9⟩
            refine PairsT.snoc (p11.keep fun x q h => (upd_ne (ne_of h ha11 (by intro z; cases z))).trans h) ((upd_ne tta).trans ht11)
        · rintro _ H11 ⟨us2, rfl, st11, ht11, hd11, ha11, p11, hrw11, f11⟩
          have lr : (rowP P9 ((g1.zip g2).take j)).length ≤ 1000 := by
            unfold rowP
            rw [List.length_map, List.length_take, List.length_zip, ln1]
            omega
          refine ⟨_, rfl, .inl ⟨rfl, _, SqL.of hrw11⟩, _, rfl, _, rfl, d, nI ((addP P9 (z1, z2)).idxOf (z1, z2)), rfl, by
            have g := DGet.t hd11 ht11
            rw [plP_val, if_pos addP_mem] at g
            exact g, rw, _, _, rfl, rfl, hrw11, by rw [List.length_map]; exact sz1 (by omega), ?_⟩
          refine ⟨us2, _, rfl, fun z o n1 n2 n3 h => (upd_ne n3).trans (st11 z o n1 n2 n3 h), (upd_ne rwd.symm).trans hd11, (upd_ne rwa.symm).trans ha11, p11.keep fun x q h => (upd_ne (ne_of h hrw11 (by intro z; cases z))).trans h, ?_, f11⟩
          rw [upd_same]
          have e : rowP (addP P9 (z1, z2)) ((g1.zip g2).take j ++ [(z1, z2)]) = rowP P9 ((g1.zip g2).take j) ++ [(addP P9 (z1, z2)).idxOf (z1, z2)] := by
            rw [← rowP_pre (addP_pre P9 (z1, z2)) inP]
            unfold rowP
            rw [List.map_append]
            rfl
          rw [e, List.map_append]
          rfl
      · rintro σ H9 ⟨us', y8, rfl, st9, hd9, ha9, p9, hrw9, f9⟩
        rw [← ln, List.take_of_length_le (Nat.le_refl _)] at hd9 p9 hrw9 f9
        have hb9 := st9 _ _ db.symm ab.symm rwb.symm hb8
        have lw : ws.length < sizeLine := sz1 (by rw [r8.1]; omega)
        refine ⟨_, rfl, .inl ⟨rfl, _, SqL.of hb9⟩, _, rfl, b, _, _, rfl, rfl, hb9, lw, ?_⟩
        have far : ∀ {z : Addr} {o : HO}, z ≠ b → H9 z = some o → (upd H9 b (.lst (ws ++ [V.ref rw]))) z = some o := fun n h => (upd_ne n).trans h
        refine ⟨⟨addAll P (g1.zip g2), T ++ [rowP (addAll P (g1.zip g2)) (g1.zip g2)], us', ws ++ [V.ref rw], _, _, _, _, rfl, fun z o hz => far (ne_of_none hz nb0) (st9 z o (ne_of_none hz nd) (ne_of_none hz na0) (ne_of_none hz rw0) (s08 _ _ hz)), far db hd9, far ab ha9, p9.keep fun x q h => far (ne_of h hb9 (by intro z; cases z)) h, upd_same, ?_, fun i x hi => ?_, ?_, ?_, f9⟩, ?_⟩
        · refine RowsL.snoc (RowsL.keep r8 fun x xs hx ⟨i, hi⟩ => ?_) (far rwb hrw9)
          have o1 := off7 i x hi
          exact far o1.2 (st9 _ _ (ne_of hx hd8 (by intro z; cases z)) o1.1 (offw i x hi) hx)
        · by_cases hlt3 : i < ws.length
          · rw [List.getElem?_append_left hlt3] at hi
            exact off7 i x hi
          · have hi2 := (List.getElem?_eq_some_iff.mp hi).1
            rw [List.length_append] at hi2
            have hi3 : i = ws.length := by
              have : i < ws.length + 1 := hi2
              omega
            rw [hi3, List.getElem?_append_right (Nat.le_refl _), Nat.sub_self] at hi
            cases hi
            exact ⟨rwa, rwb⟩
        · rw [← sd]
          exact hJn
        · rw [List.length_append]
          show _ = jointN M1 M2 (T.length + 1)
          rw [jointN_succ (q := (lq, rq)) (by rw [← hJ]; exact hq0), ← hJ, sd]
        · rw [upd_same]
          rw [hb7]
          show 200 - (ws ++ [V.ref rw]).length < 200 - ws.length
          rw [List.length_append]
          show 200 - (ws.length + 1) < 200 - ws.length
          have := r8.1
          omega
    · have full : T.length = P.length := by
        rw [r7.1, p7.1] at hge
        omega
      refine ⟨_, rfl, _, rfl, (show 2 ≤ sizeLine by decide), fun r nr => ?_⟩
      have s9 := same_upd (o := HO.tup [V.ref a, V.ref b]) nr
      exact q _ r a b P T us ws (s7.trans s9) upd_same (nil2 s7 nr) (s9 _ _ ha7) (p7.keep fun x q h => s9 _ _ h) (s9 _ _ hb7) (r7.same s9) J full hJ few
  · exact fun σ H Q Q' h ⟨v1, e1, p1, y1, e2, k1, v2, e3, p2, y2, e4, k2, i, j, ei, ej, c, ec, q⟩ => ⟨v1, e1, p1, y1, e2, k1, v2, e3, p2, y2, e4, k2, i, j, ei, ej, c, ec, h _ _ q⟩
end
end FW
namespace FW
open PySem PySem.Spec PyProof.Rows L2
-- more
section
variable {P : Program} {w : World} {K : PySem.W.Frag} {mg : Str → Option Value} {base : Heap}
theorem deep_Ns {n : Nat} {B : List Nat} (h : B.length ≤ 1000) : Deep (n + 1) (.list (B.map dN)) := by
  unfold Deep
  refine ⟨by rw [List.length_map]; exact h, fun d hd => ?_⟩
  obtain ⟨c, _, rfl⟩ := List.mem_map.mp hd
  show Deep n (.int _)
  unfold Deep
  trivial
theorem deep_Rw {n : Nat} {r : List Nat} (h : r.length ≤ 1000) : Deep (n + 1) (dR r) := by
  show Deep (n + 1) (.tuple (r.map dN))
  unfold Deep
  refine ⟨by rw [List.length_map]; exact h, fun d hd => ?_⟩
  obtain ⟨c, _, rfl⟩ := List.mem_map.mp hd
  show Deep n (.int _)
  unfold Deep
  trivial
theorem deep_Ms {n k : Nat} {M : List (List Nat)} (h : TabOk k M) (hk : k ≤ 1000) : Deep (n + 2) (.list (M.map dR)) := deep_list (by rw [List.length_map]; exact Nat.le_trans h.l2 (by decide)) fun d hd => by
  obtain ⟨r, hr, rfl⟩ := List.mem_map.mp hd
  exact deep_Rw (by rw [(h.rows r hr).1]; exact hk)
theorem inV_N (n : Nat) (l : List Nat) : inV (nI n) (l.map nI) = decide (n ∈ l) := by
  unfold inV
  rw [List.any_map, Bool.eq_iff_iff, List.any_eq_true, decide_eq_true_iff]
  have q : ∀ x : Nat, eqV (nI x) (nI n) = decide (x = n) := fun x => eqv_N x n
  constructor
  · rintro ⟨x, hx, e⟩
    have e' : eqV (nI x) (nI n) = true := e
    rw [q] at e'
    rw [← of_decide_eq_true e']
    exact hx
  · intro h
    exact ⟨n, h, (q n).trans (decide_eq_true rfl)⟩
theorem flat_N (l : List Nat) : (l.map nI).all flatV = true := by
  rw [List.all_map, List.all_eq_true]
  intro x _
  rfl
/-- the states that are not bad -/
def goodL (C : List Nat) (n : Nat) : List Nat := (List.range n).filter fun k => decide (k ∉ C)
theorem goodL_succ (C : List Nat) (n : Nat) : goodL C (n + 1) = goodL C n ++ if n ∈ C then [] else [n] := by
  unfold goodL
  rw [List.range_succ, List.filter_append]
  by_cases h : n ∈ C
  · rw [if_pos h]
    simp [h]
  · rw [if_neg h]
    simp [h]
theorem goodL_len (C : List Nat) (n : Nat) : (goodL C n).length ≤ n := by
  have := List.length_filter_le (fun k => decide (k ∉ C)) (List.range n)
  rw [List.length_range] at this
  exact this
theorem goodL_ok (C : List Nat) (n : Nat) : BadOk n (goodL C n) := ⟨List.Pairwise.filter _ List.pairwise_lt_range, fun x hx => List.mem_range.mp (List.mem_filter.mp hx).1⟩
theorem goodL_ne {C : List Nat} {n : Nat} (h : 0 < n) : goodL C n ≠ C := fun e => by
  by_cases z : 0 ∈ C
  · rw [← e] at z
    have := of_decide_eq_true (List.mem_filter.mp z).2
    rw [e] at z
    exact this z
  · have : 0 ∈ goodL C n := List.mem_filter.mpr ⟨List.mem_range.mpr h, decide_eq_true z⟩
    rw [e] at this
    exact z this
theorem MachAt.tin {CM : Addr} {H : Hp} {x : Addr} {F : List Nat} {M : List (List Nat)} {B : List Nat} {tt bt : Addr} {rs : List V} (kk : KeptAt K H tt bt rs M B) : TabIn K H (.ref tt) rs M := ⟨.inr ⟨tt, rfl, SqT.of kk.tab⟩, kk.len, fun i v r h1 h2 => let ⟨a, e, h⟩ := kk.rows i v r h1 h2; .inr ⟨a, e, h⟩⟩
abbrev s_Machine_invert : Stmt := inCls (topS 28) 8
theorem sc_Machine_invert : FnScope ["self", "good", "state"] ["self"] (defScope s_Machine_invert) := ⟨rfl, rfl, rfl, by decide +kernel, rfl, by decide +kernel, by decide +kernel⟩
def sp_Machine_invert (K : PySem.W.Frag) (CM : Addr) : Sp := fun vs H Q _ => ∃ (x : Addr) (F : List Nat) (M : List (List Nat)) (B : List Nat), vs = [.ref x] ∧ MachAt K CM H x F M B ∧ bFaces (.str (S F)) = true ∧ ∀ H' z, Same H H' → H z = none → MachAt K CM H' z F M (goodL B M.length) → Q (.ref z) H'
theorem ok_Machine_invert {f CM fM : Addr} {fd fdM : FuncData} (F : Fun K "__invert__" "Machine.__invert__" s_Machine_invert f fd) (T : Z mg) (gMa : mg "Machine" = some (.ref CM)) (MC : MachC K CM) (MM : Mk K CM fM) (FM : FnOk P w K mg base CX0 5 fM fdM ["self", "faces", "table", "bad"] (sp_Machine_init K)) (bM3 : Binds K fdM ["self", "faces", "table", "bad"] []) : FnOk P w K mg base CX0 7 f fd ["self"] (sp_Machine_invert K CM) := by
  refine F.ok sc_Machine_invert (fun vs H Q E h => ?_) (fun cdv A outer s H vs Q E hr h => ?_)
  · obtain ⟨x, F, M, B, rfl, _⟩ := h
    rfl
  obtain ⟨x, fs, M, B, rfl, hM, hb, q⟩ := h
  refine ⟨_, (pss_cons (ps_setLc (i := 1) (own := [("state", 2)]) (g := (gName 2)) (by rfl) sc_Machine_invert.nd rfl rfl (sw_true rfl rfl rfl (by decide +kernel)) (pi_range1 (by rfl) T.z_range (pa_cons (pe_callB call_len_seq (by rfl) T.z_len (by decide +kernel) (pa_cons (pe_fld (pv 0) rfl) pa_nil)) pa_nil)) (blkOk_by (N := ["self", "good", "state"]) (sc := defScope s_Machine_invert) (by decide +kernel)) (fun _ _ _ _ _ => (pg_name (i := 2) sc_Machine_invert.nd rfl (.inl rfl))) (fun _ _ _ _ _ => (pts_one (pt_cmpR (op_notInE (K := K) rfl) (pv 2) (pe_fldE (K := K) rfl (pv 0) rfl) (by rfl)))) (fun _ _ _ _ _ => (pv 2)))
    (pss_one (ps_ret (pe_make MM FM (hr.mono (by decide)) (by rfl) gMa bM3 .nil pass0 (pa_cons (pe_fld (pv 0) rfl) (pa_cons (pe_fld (pv 0) rfl) (pa_cons (pv 1) pa_nil))))))), ?_⟩
  obtain ⟨dx, tt, bt, rs, hx, kk⟩ := hM.at_
  have l2 := hM.tab.l2
  refine ⟨_, rfl, x, CM, dx, _, _, rfl, hx, MC.c, MC.nt, rfl, tt, _, rfl, .inr (SqT.of kk.tab), ?_⟩
  rw [kk.len]
  refine ⟨(M.length : Nat), rfl, by omega, by omega, fun D nD => ?_⟩
  have sD := same_upd (o := HO.lst ([] : List V)) nD
  have stay : ∀ (o : HO), Same H (upd H D o) := fun o => same_upd nD
  refine lc_range (n := ((M.length : Nat) : Int).toNat) (fun i H' => H' = upd H D (.lst ((goodL B i).map nI))) rfl ?_ ?_
  · rintro i _ hi rfl
    have hi1 : i < M.length := by omega
    have il := goodL_len B i
    refine ⟨rfl, _, rfl, _, rfl, x, CM, dx, _, _, rfl, stay _ _ _ hx, MC.c, MC.nb, rfl, bt, B.map nI, rfl, .inr ((stay _).tup kk.bad), rfl, flat_N B, _, rfl, ?_⟩
    have e : inV (V.int (0 + (i : Int))) (B.map nI) = decide (i ∈ B) := by
      rw [Int.zero_add]
      exact inV_N i B
    by_cases hm : i ∈ B
    · rw [show (if true = true then !inV (V.int (0 + (i : Int))) (B.map nI) else inV (V.int (0 + (i : Int))) (B.map nI)) = false from by rw [if_pos rfl, e, decide_eq_true hm]; rfl]
      refine iteF ?_
      rw [goodL_succ, if_pos hm, List.append_nil]
    · rw [show (if true = true then !inV (V.int (0 + (i : Int))) (B.map nI) else inV (V.int (0 + (i : Int))) (B.map nI)) = true from by rw [if_pos rfl, e, decide_eq_false hm]; rfl]
      refine iteT ⟨_, rfl, _, upd_same, by rw [List.length_map]; exact sz1 (by omega), ?_⟩
      rw [upd_upd, goodL_succ, if_neg hm, List.map_append, Int.zero_add]
      rfl
  rintro _ rfl
  have e2 : ((M.length : Nat) : Int).toNat = M.length := by omega
  rw [e2]
  have s1 := same_upd (o := HO.lst ((goodL B M.length).map nI)) nD
  have hD : (upd H D (.lst ((goodL B M.length).map nI))) D = some (.lst ((goodL B M.length).map nI)) := upd_same
  generalize upd H D (.lst ((goodL B M.length).map nI)) = H1 at s1 hD ⊢
  have kk1 := kk.same s1
  refine ⟨_, rfl, x, CM, dx, _, _, rfl, s1 _ _ hx, MC.c, MC.nf, rfl, _, rfl, x, CM, dx, _, _, rfl, s1 _ _ hx, MC.c, MC.nt, rfl, _, rfl, ?_⟩
  refine fun z dz nz ndz _ => machine_made MC hb hM.fl (MachAt.tin (CM := CM) (x := x) (F := fs) kk1) hM.tab (.inl ⟨D, rfl, SqL.of hD⟩) (goodL_ok B M.length) nz ndz fun H2 s2 hz => ⟨rfl, q H2 z (s1.trans s2) (none_same s1 nz) hz⟩
end
end FW
namespace FW
open PySem PySem.Spec PyProof.Rows L2
-- more
section
variable {P : Program} {w : World} {K : PySem.W.Frag} {mg : Str → Option Value} {base : Heap}
def sp_Machine_join (K : PySem.W.Frag) (CM : Addr) (g : Bool → Bool → Bool) : Sp := fun vs H Q _ => ∃ (x y : Addr) (F : List Nat) (M1 M2 : List (List Nat)) (B1 B2 : List Nat), vs = [.ref x, .ref y] ∧ MachAt K CM H x F M1 B1 ∧ MachAt K CM H y F M2 B2 ∧ bFaces (.str (S F)) = true ∧ M1.length * M2.length < 200 ∧
  ∀ H' z P T, Same H H' → H z = none → MachAt K CM H' z F T (badJ g P B1 B2) → JointS M1 M2 P T → T.length = P.length → P = jointN M1 M2 T.length → Q (.ref z) H'
theorem badJ_snoc {g : Bool → Bool → Bool} {P : List Pr} {a b : Nat} {B1 B2 : List Nat} : badJ g (P ++ [(a, b)]) B1 B2 = badJ g P B1 B2 ++ if g (decide (a ∈ B1)) (decide (b ∈ B2)) = true then [P.length] else [] := by
  unfold badJ
  rw [List.zipIdx_append, List.filter_append, List.map_append, Nat.zero_add]
  congr 1
  show ((([((a, b), P.length)] : List (Pr × Nat)).filter fun z => g (decide (z.1.1 ∈ B1)) (decide (z.1.2 ∈ B2))).map (·.2)) = _
  by_cases h : g (decide (a ∈ B1)) (decide (b ∈ B2)) = true
  · rw [if_pos h]
    simp [List.filter, h]
  · rw [if_neg h]
    simp [List.filter, h]
theorem badJ_len {g : Bool → Bool → Bool} {P : List Pr} {B1 B2 : List Nat} : (badJ g P B1 B2).length ≤ P.length := by
  unfold badJ
  rw [List.length_map]
  exact Nat.le_trans (List.length_filter_le ..) (by rw [List.length_zipIdx]; exact Nat.le_refl _)
theorem JointS.rowok {M1 M2 T : List (List Nat)} {P : List Pr} {n : Nat} (J : JointS M1 M2 P T) (k1 : TabOk n M1) (k2 : TabOk n M2) (full : T.length = P.length) : ∀ r ∈ T, r.length = n ∧ ∀ x ∈ r, x < T.length := by
  intro r hr
  obtain ⟨i, hi, rfl⟩ := List.getElem_of_mem hr
  have hP : P[i]? = some (P[i]'(by omega)) := List.getElem?_eq_getElem (by omega)
  obtain ⟨d1, d2⟩ := J.done i _ hi hP
  have lt := J.lt _ (List.mem_of_getElem? hP)
  generalize P[i]'(by omega) = q at hP d1 d2 lt
  rw [List.getElem?_eq_getElem hi] at d2
  rw [Option.some.inj d2]
  refine ⟨?_, fun x hx => ?_⟩
  · unfold rowP sides
    rw [List.length_map, List.length_zip, List.getElem?_eq_getElem lt.1, List.getElem?_eq_getElem lt.2]
    show min (M1[q.1]).length (M2[q.2]).length = n
    rw [(k1.rows _ (List.getElem_mem lt.1)).1, (k2.rows _ (List.getElem_mem lt.2)).1, Nat.min_self]
  · unfold rowP at hx
    obtain ⟨z, hz, rfl⟩ := List.mem_map.mp hx
    rw [full]
    exact List.idxOf_lt_length_iff.mpr (d1 z hz)
abbrev s_Machine_and : Stmt := inCls (topS 28) 9
theorem sc_Machine_and : FnScope ["self", "other", "pairs", "table", "bad", "at", "one", "two"] ["self", "other"] (defScope s_Machine_and) := ⟨rfl, rfl, rfl, by decide +kernel, rfl, by decide +kernel, by decide +kernel⟩
theorem ok_Machine_and {f CM fM : Addr} {fd fdM : FuncData} (F : Fun K "__and__" "Machine.__and__" s_Machine_and f fd) (T : Z mg) (gMa : mg "Machine" = some (.ref CM)) (MC : MachC K CM) (MM : Mk K CM fM) (FM : FnOk P w K mg base CX0 5 fM fdM ["self", "faces", "table", "bad"] (sp_Machine_init K)) (bM3 : Binds K fdM ["self", "faces", "table", "bad"] [])
    (c_check_other : Cal P w K mg base CX0 1 "check_other" s_check_other ["one", "other"] (sp_check_other K CM)) (c_pairs_of : Cal P w K mg base CX0 1 "pairs_of" s_pairs_of ["one", "other"] (sp_pairs_of K)) : FnOk P w K mg base CX0 7 f fd ["self", "other"] (sp_Machine_join K CM or) := by
  refine F.ok sc_Machine_and (fun vs H Q E h => ?_) (fun cdv A outer s H vs Q E hr h => ?_)
  · obtain ⟨x, y, F, M1, M2, B1, B2, rfl, _⟩ := h
    rfl
  obtain ⟨x, y, fs, M1, M2, B1, B2, rfl, h1, h2, hb, hlt, q⟩ := h
  refine ⟨_, (pss_cons (ps_expr (pe_c c_check_other hr (by decide) (by rfl) (pa_cons (pv 0) (pa_cons (pv 1) pa_nil))))
    (pss_cons (ps_asg (pe_c c_pairs_of hr (by decide) (by rfl) (pa_cons (pe_fld (pv 0) rfl) (pa_cons (pe_fld (pv 1) rfl) pa_nil))) (pg_tup rfl (pgs_cons (pg_name (i := 2) sc_Machine_and.nd rfl (.inl rfl)) (pgs_cons (pg_name (i := 3) sc_Machine_and.nd rfl (.inl rfl)) pgs_nil))))
    (pss_cons (ps_setLc (i := 4) (own := [("at", 5), ("one", 6), ("two", 7)]) (g := (gTup K 2 (gCons (gName 5) (gCons (gTup K 2 (gCons (gName 6) (gCons (gName 7) gNil))) gNil)))) (by rfl) sc_Machine_and.nd rfl rfl (sw_true rfl rfl rfl (by decide +kernel)) (pi_enumG (by rfl) T.z_enumerate (pa_cons (pv 2) pa_nil)) (blkOk_by (N := ["self", "other", "pairs", "table", "bad", "at", "one", "two"]) (sc := defScope s_Machine_and) (by decide +kernel)) (fun _ _ _ _ _ => (pg_tup rfl (pgs_cons (pg_name (i := 5) sc_Machine_and.nd rfl (.inl rfl)) (pgs_cons (pg_tup rfl (pgs_cons (pg_name (i := 6) sc_Machine_and.nd rfl (.inl rfl)) (pgs_cons (pg_name (i := 7) sc_Machine_and.nd rfl (.inl rfl)) pgs_nil))) pgs_nil)))) (fun _ _ _ _ _ => (pts_one (PW.pt (pw_or (pt_cmpR (op_inE (K := K) rfl) (pv 6) (pe_fldE (K := K) rfl (pv 0) rfl) (by rfl)) (pw_or1 (pt_cmpR (op_inE (K := K) rfl) (pv 7) (pe_fldE (K := K) rfl (pv 1) rfl) (by rfl))))))) (fun _ _ _ _ _ => (pv 5)))
    (pss_one (ps_ret (pe_make MM FM (hr.mono (by decide)) (by rfl) gMa bM3 .nil pass0 (pa_cons (pe_fld (pv 0) rfl) (pa_cons (pv 3) (pa_cons (pv 4) pa_nil))))))))), ?_⟩
  obtain ⟨dx, tt, bt, rs, hx, kk⟩ := h1.at_
  obtain ⟨dy, tt', bt', rs', hy, kk'⟩ := h2.at_
  refine ⟨_, rfl, _, rfl, x, y, fs, M1, M2, B1, B2, rfl, h1, h2, fun H1 s1 => ?_⟩
  have hx1 := s1 _ _ hx
  have hy1 := s1 _ _ hy
  have kk1 := kk.same s1
  have kk1' := kk'.same s1
  refine ⟨_, rfl, x, CM, dx, _, _, rfl, hx1, MC.c, MC.nt, rfl, _, rfl, y, CM, dy, _, _, rfl, hy1, MC.c, MC.nt, rfl, tt, tt', rs, rs', M1, M2, fs.length, rfl, SqT.of kk1.tab, SqT.of kk1'.tab, ⟨kk1.len, kk1.rows⟩, ⟨kk1'.len, kk1'.rows⟩, h1.tab, h2.tab, h1.fl, hlt, fun H2 r a b P' T us ws s2 hr2 nr2 ha2 p2 hb2 r2 J full hJ => ?_⟩
  refine ⟨r, _, rfl, SqT.of hr2, rfl, _, _, rfl, _, _, rfl, rfl, ?_⟩
  have s12 := s1.trans s2
  have hx2 := s2 _ _ hx1
  have hy2 := s2 _ _ hy1
  have kk2 := kk1.same s2
  have kk2' := kk1'.same s2
  have few := J.few
  refine ⟨_, rfl, .ref a, us, rfl, .l (SqL.of ha2), fun k ev src => ?_⟩
  have stay : ∀ H', Same H2 H' → k.src K H' us := fun H' s => by
    cases k with
    | l a => exact s.seq src
    | t a => exact s.tup src
    | s z t => cases ev
  refine fun D nD => ?_
  refine lc_it walk_enumG (fun i H' => Same H2 H' ∧ H' D = some (.lst ((badJ or (P'.take i) B1 B2).map nI))) ⟨same_upd nD, upd_same⟩ (fun i H' _ h => stay _ h.1) ?_ ?_
  · rintro i v H3 H4 hi ⟨s3, hD3⟩ ⟨T', a1, b1', rfl, nT, rfl, hx1', hy1'⟩
    obtain rfl : V.int (i : Nat) = a1 := Option.some.inj hx1'
    have hy2' : us[i]? = some b1' := hy1'
    have hiP : i < P'.length := by
      rw [← p2.1]
      exact (List.getElem?_eq_some_iff.mp hy2').1
    obtain ⟨z, rfl, hz⟩ := p2.2 i _ _ hy2' (List.getElem?_eq_getElem hiP)
    have hPi : P'[i]? = some P'[i] := List.getElem?_eq_getElem hiP
    generalize P'[i] = pr at hz hPi
    obtain ⟨l1, l2⟩ := pr
    have s4 := s3.trans (same_upd (o := HO.tup [V.int (i : Nat), V.ref z]) nT)
    have hD4 := (same_upd (o := HO.tup [V.int (i : Nat), V.ref z]) nT) _ _ hD3
    have hT4 : (upd H3 T' (.tup [V.int (i : Nat), V.ref z])) T' = some (.tup [V.int (i : Nat), V.ref z]) := upd_same
    generalize upd H3 T' (.tup [V.int (i : Nat), V.ref z]) = H4 at s4 hD4 hT4 ⊢
    refine ⟨T', _, rfl, SqT.of hT4, rfl, _, _, rfl, _, _, rfl, z, _, rfl, SqT.of (s4 _ _ hz), rfl, _, _, rfl, _, _, rfl, rfl, rfl, ?_⟩
    have lb : ((badJ or (P'.take i) B1 B2).map nI).length < sizeLine := by
      rw [List.length_map]
      have h1 := badJ_len (g := or) (P := P'.take i) (B1 := B1) (B2 := B2)
      rw [List.length_take] at h1
      exact sz1 (by omega)
    have sn : P'.take (i + 1) = P'.take i ++ [(l1, l2)] := by
      rw [List.take_add_one, hPi]
      rfl
    have lt : (P'.take i).length = i := by
      rw [List.length_take]
      omega
    refine ⟨rfl, _, rfl, _, rfl, x, CM, dx, _, _, rfl, s4 _ _ hx2, MC.c, MC.nb, rfl, bt, B1.map nI, rfl, .inr (s4.tup kk2.bad), rfl, flat_N B1, _, rfl, ?_⟩
    rw [show (if false = true then !inV (nI l1) (B1.map nI) else inV (nI l1) (B1.map nI)) = decide (l1 ∈ B1) from by rw [if_neg Bool.false_ne_true, inV_N]]
    refine ite_dec (fun m1 => ?_) (fun m1 => ?_)
    · refine ⟨_, rfl, _, hD4, lb, fun z o hz => (upd_ne (ne_of_none hz nD)).trans (s4 _ _ hz), ?_⟩
      rw [upd_same, sn, badJ_snoc, if_pos (by simp [*]), lt, List.map_append]
      rfl
    · refine ⟨_, rfl, _, rfl, y, CM, dy, _, _, rfl, s4 _ _ hy2, MC.c, MC.nb, rfl, bt', B2.map nI, rfl, .inr (s4.tup kk2'.bad), rfl, flat_N B2, _, rfl, ?_⟩
      rw [show (if false = true then !inV (nI l2) (B2.map nI) else inV (nI l2) (B2.map nI)) = decide (l2 ∈ B2) from by rw [if_neg Bool.false_ne_true, inV_N]]
      refine ite_dec (fun m2 => ?_) (fun m2 => ?_)
      · refine ⟨_, rfl, _, hD4, lb, fun z o hz => (upd_ne (ne_of_none hz nD)).trans (s4 _ _ hz), ?_⟩
        rw [upd_same, sn, badJ_snoc, if_pos (by simp [*]), lt, List.map_append]
        rfl
      · refine ⟨s4, ?_⟩
        rw [hD4, sn, badJ_snoc, if_neg (by simp [*]), List.append_nil]
  · rintro H3 ⟨s3, hD3⟩
    rw [List.take_of_length_le (Nat.le_of_eq p2.1.symm)] at hD3
    have s13 := s12.trans s3
    refine ⟨_, rfl, x, CM, dx, _, _, rfl, s3 _ _ hx2, MC.c, MC.nf, rfl, _, rfl, _, rfl, ?_⟩
    have tOk : TabOk fs.length T := ⟨by rw [full]; exact (List.getElem?_eq_some_iff.mp J.hd).1, by omega, fun r hr => J.rowok h1.tab h2.tab full r hr⟩
    refine fun z dz nz ndz _ => machine_made MC hb h1.fl ((r2.same s3).tab (s3 _ _ hb2)) tOk (.inl ⟨D, rfl, SqL.of hD3⟩) (by rw [full]; exact badJ_asc) nz ndz fun H4 s4 hz => ⟨rfl, q H4 z P' T (s13.trans s4) (none_same s13 nz) hz J full hJ⟩
abbrev s_Machine_or : Stmt := inCls (topS 28) 10
theorem sc_Machine_or : FnScope ["self", "other", "pairs", "table", "bad", "at", "one", "two"] ["self", "other"] (defScope s_Machine_or) := ⟨rfl, rfl, rfl, by decide +kernel, rfl, by decide +kernel, by decide +kernel⟩
theorem ok_Machine_or {f CM fM : Addr} {fd fdM : FuncData} (F : Fun K "__or__" "Machine.__or__" s_Machine_or f fd) (T : Z mg) (gMa : mg "Machine" = some (.ref CM)) (MC : MachC K CM) (MM : Mk K CM fM) (FM : FnOk P w K mg base CX0 5 fM fdM ["self", "faces", "table", "bad"] (sp_Machine_init K)) (bM3 : Binds K fdM ["self", "faces", "table", "bad"] [])
    (c_check_other : Cal P w K mg base CX0 1 "check_other" s_check_other ["one", "other"] (sp_check_other K CM)) (c_pairs_of : Cal P w K mg base CX0 1 "pairs_of" s_pairs_of ["one", "other"] (sp_pairs_of K)) : FnOk P w K mg base CX0 7 f fd ["self", "other"] (sp_Machine_join K CM and) := by
  refine F.ok sc_Machine_or (fun vs H Q E h => ?_) (fun cdv A outer s H vs Q E hr h => ?_)
  · obtain ⟨x, y, F, M1, M2, B1, B2, rfl, _⟩ := h
    rfl
  obtain ⟨x, y, fs, M1, M2, B1, B2, rfl, h1, h2, hb, hlt, q⟩ := h
  refine ⟨_, (pss_cons (ps_expr (pe_c c_check_other hr (by decide) (by rfl) (pa_cons (pv 0) (pa_cons (pv 1) pa_nil))))
    (pss_cons (ps_asg (pe_c c_pairs_of hr (by decide) (by rfl) (pa_cons (pe_fld (pv 0) rfl) (pa_cons (pe_fld (pv 1) rfl) pa_nil))) (pg_tup rfl (pgs_cons (pg_name (i := 2) sc_Machine_or.nd rfl (.inl rfl)) (pgs_cons (pg_name (i := 3) sc_Machine_or.nd rfl (.inl rfl)) pgs_nil))))
    (pss_cons (ps_setLc (i := 4) (own := [("at", 5), ("one", 6), ("two", 7)]) (g := (gTup K 2 (gCons (gName 5) (gCons (gTup K 2 (gCons (gName 6) (gCons (gName 7) gNil))) gNil)))) (by rfl) sc_Machine_or.nd rfl rfl (sw_true rfl rfl rfl (by decide +kernel)) (pi_enumG (by rfl) T.z_enumerate (pa_cons (pv 2) pa_nil)) (blkOk_by (N := ["self", "other", "pairs", "table", "bad", "at", "one", "two"]) (sc := defScope s_Machine_or) (by decide +kernel)) (fun _ _ _ _ _ => (pg_tup rfl (pgs_cons (pg_name (i := 5) sc_Machine_or.nd rfl (.inl rfl)) (pgs_cons (pg_tup rfl (pgs_cons (pg_name (i := 6) sc_Machine_or.nd rfl (.inl rfl)) (pgs_cons (pg_name (i := 7) sc_Machine_or.nd rfl (.inl rfl)) pgs_nil))) pgs_nil)))) (fun _ _ _ _ _ => (pts_one (PW.pt (pw_and (pt_cmpR (op_inE (K := K) rfl) (pv 6) (pe_fldE (K := K) rfl (pv 0) rfl) (by rfl)) (pw_and1 (pt_cmpR (op_inE (K := K) rfl) (pv 7) (pe_fldE (K := K) rfl (pv 1) rfl) (by rfl))))))) (fun _ _ _ _ _ => (pv 5)))
    (pss_one (ps_ret (pe_make MM FM (hr.mono (by decide)) (by rfl) gMa bM3 .nil pass0 (pa_cons (pe_fld (pv 0) rfl) (pa_cons (pv 3) (pa_cons (pv 4) pa_nil))))))))), ?_⟩
  obtain ⟨dx, tt, bt, rs, hx, kk⟩ := h1.at_
  obtain ⟨dy, tt', bt', rs', hy, kk'⟩ := h2.at_
  refine ⟨_, rfl, _, rfl, x, y, fs, M1, M2, B1, B2, rfl, h1, h2, fun H1 s1 => ?_⟩
  have hx1 := s1 _ _ hx
  have hy1 := s1 _ _ hy
  have kk1 := kk.same s1
  have kk1' := kk'.same s1
  refine ⟨_, rfl, x, CM, dx, _, _, rfl, hx1, MC.c, MC.nt, rfl, _, rfl, y, CM, dy, _, _, rfl, hy1, MC.c, MC.nt, rfl, tt, tt', rs, rs', M1, M2, fs.length, rfl, SqT.of kk1.tab, SqT.of kk1'.tab, ⟨kk1.len, kk1.rows⟩, ⟨kk1'.len, kk1'.rows⟩, h1.tab, h2.tab, h1.fl, hlt, fun H2 r a b P' T us ws s2 hr2 nr2 ha2 p2 hb2 r2 J full hJ => ?_⟩
  refine ⟨r, _, rfl, SqT.of hr2, rfl, _, _, rfl, _, _, rfl, rfl, ?_⟩
  have s12 := s1.trans s2
  have hx2 := s2 _ _ hx1
  have hy2 := s2 _ _ hy1
  have kk2 := kk1.same s2
  have kk2' := kk1'.same s2
  have few := J.few
  refine ⟨_, rfl, .ref a, us, rfl, .l (SqL.of ha2), fun k ev src => ?_⟩
  have stay : ∀ H', Same H2 H' → k.src K H' us := fun H' s => by
    cases k with
    | l a => exact s.seq src
    | t a => exact s.tup src
    | s z t => cases ev
  refine fun D nD => ?_
  refine lc_it walk_enumG (fun i H' => Same H2 H' ∧ H' D = some (.lst ((badJ and (P'.take i) B1 B2).map nI))) ⟨same_upd nD, upd_same⟩ (fun i H' _ h => stay _ h.1) ?_ ?_
  · rintro i v H3 H4 hi ⟨s3, hD3⟩ ⟨T', a1, b1', rfl, nT, rfl, hx1', hy1'⟩
    obtain rfl : V.int (i : Nat) = a1 := Option.some.inj hx1'
    have hy2' : us[i]? = some b1' := hy1'
    have hiP : i < P'.length := by
      rw [← p2.1]
      exact (List.getElem?_eq_some_iff.mp hy2').1
    obtain ⟨z, rfl, hz⟩ := p2.2 i _ _ hy2' (List.getElem?_eq_getElem hiP)
    have hPi : P'[i]? = some P'[i] := List.getElem?_eq_getElem hiP
    generalize P'[i] = pr at hz hPi
    obtain ⟨l1, l2⟩ := pr
    have s4 := s3.trans (same_upd (o := HO.tup [V.int (i : Nat), V.ref z]) nT)
    have hD4 := (same_upd (o := HO.tup [V.int (i : Nat), V.ref z]) nT) _ _ hD3
    have hT4 : (upd H3 T' (.tup [V.int (i : Nat), V.ref z])) T' = some (.tup [V.int (i : Nat), V.ref z]) := upd_same
    generalize upd H3 T' (.tup [V.int (i : Nat), V.ref z]) = H4 at s4 hD4 hT4 ⊢
    refine ⟨T', _, rfl, SqT.of hT4, rfl, _, _, rfl, _, _, rfl, z, _, rfl, SqT.of (s4 _ _ hz), rfl, _, _, rfl, _, _, rfl, rfl, rfl, ?_⟩
    have lb : ((badJ and (P'.take i) B1 B2).map nI).length < sizeLine := by
      rw [List.length_map]
      have h1 := badJ_len (g := and) (P := P'.take i) (B1 := B1) (B2 := B2)
      rw [List.length_take] at h1
      exact sz1 (by omega)
    have sn : P'.take (i + 1) = P'.take i ++ [(l1, l2)] := by
      rw [List.take_add_one, hPi]
      rfl
    have lt : (P'.take i).length = i := by
      rw [List.length_take]
      omega
    refine ⟨rfl, _, rfl, _, rfl, x, CM, dx, _, _, rfl, s4 _ _ hx2, MC.c, MC.nb, rfl, bt, B1.map nI, rfl, .inr (s4.tup kk2.bad), rfl, flat_N B1, _, rfl, ?_⟩
    rw [show (if false = true then !inV (nI l1) (B1.map nI) else inV (nI l1) (B1.map nI)) = decide (l1 ∈ B1) from by rw [if_neg Bool.false_ne_true, inV_N]]
    refine ite_dec (fun m1 => ?_) (fun m1 => ?_)
    · refine ⟨_, rfl, _, rfl, y, CM, dy, _, _, rfl, s4 _ _ hy2, MC.c, MC.nb, rfl, bt', B2.map nI, rfl, .inr (s4.tup kk2'.bad), rfl, flat_N B2, _, rfl, ?_⟩
      rw [show (if false = true then !inV (nI l2) (B2.map nI) else inV (nI l2) (B2.map nI)) = decide (l2 ∈ B2) from by rw [if_neg Bool.false_ne_true, inV_N]]
      refine ite_dec (fun m2 => ?_) (fun m2 => ?_)
      · refine ⟨_, rfl, _, hD4, lb, fun z o hz => (upd_ne (ne_of_none hz nD)).trans (s4 _ _ hz), ?_⟩
        rw [upd_same, sn, badJ_snoc, if_pos (by simp [*]), lt, List.map_append]
        rfl
      · refine ⟨s4, ?_⟩
        rw [hD4, sn, badJ_snoc, if_neg (by simp [*]), List.append_nil]
    · refine ⟨s4, ?_⟩
      rw [hD4, sn, badJ_snoc, if_neg (by simp [*]), List.append_nil]
  · rintro H3 ⟨s3, hD3⟩
    rw [List.take_of_length_le (Nat.le_of_eq p2.1.symm)] at hD3
    have s13 := s12.trans s3
    refine ⟨_, rfl, x, CM, dx, _, _, rfl, s3 _ _ hx2, MC.c, MC.nf, rfl, _, rfl, _, rfl, ?_⟩
    have tOk : TabOk fs.length T := ⟨by rw [full]; exact (List.getElem?_eq_some_iff.mp J.hd).1, by omega, fun r hr => J.rowok h1.tab h2.tab full r hr⟩
    refine fun z dz nz ndz _ => machine_made MC hb h1.fl ((r2.same s3).tab (s3 _ _ hb2)) tOk (.inl ⟨D, rfl, SqL.of hD3⟩) (by rw [full]; exact badJ_asc) nz ndz fun H4 s4 hz => ⟨rfl, q H4 z P' T (s13.trans s4) (none_same s13 nz) hz J full hJ⟩
end
end FW
namespace FW
open PySem PySem.Spec PyProof.Rows L2
-- more
section
variable {P : Program} {w : World} {K : PySem.W.Frag} {mg : Str → Option Value} {base : Heap}
def sp_Machine_joinE (K : PySem.W.Frag) (CM CE : Addr) (g : Bool → Bool → Bool) : Sp := fun vs H Q E => ∃ (x y : Addr) (F : List Nat) (M1 M2 : List (List Nat)) (B1 B2 : List Nat), vs = [.ref x, .ref y] ∧ MachAt K CM H x F M1 B1 ∧ MachAt K CM H y F M2 B2 ∧ bFaces (.str (S F)) = true ∧
  (∀ H' d k, Same H H' → H' d = none → 200 < (jointN M1 M2 k).length → E (.ref CE) (some d) (upd H' d (Err1 "most" "TooMany" (.int 200)))) ∧
  ∀ H' z P T, Same H H' → H z = none → MachAt K CM H' z F T (badJ g P B1 B2) → JointS M1 M2 P T → T.length = P.length → P = jointN M1 M2 T.length → P.length ≤ 200 → Q (.ref z) H'
theorem okx_Machine_and {f CM CE fM : Addr} {fd fdM : FuncData} (F : Fun K "__and__" "Machine.__and__" s_Machine_and f fd) (T : Z mg) (gMa : mg "Machine" = some (.ref CM)) (MC : MachC K CM) (MM : Mk K CM fM) (FM : FnOk P w K mg base CX0 5 fM fdM ["self", "faces", "table", "bad"] (sp_Machine_init K)) (bM3 : Binds K fdM ["self", "faces", "table", "bad"] [])
    (c_check_other : Cal P w K mg base CX0 1 "check_other" s_check_other ["one", "other"] (sp_check_other K CM)) (cx_pairs_of : Cal P w K mg base (L2.CX P w) 3 "pairs_of" s_pairs_of ["one", "other"] (sp_pairs_ofX K CE)) : FnOk P w K mg base (L2.CX P w) 7 f fd ["self", "other"] (sp_Machine_joinE K CM CE or) := by
  refine F.okX sc_Machine_and (fun vs H Q E h => ?_) (fun cdv A outer s H vs Q E hr h => ?_)
  · obtain ⟨x, y, F, M1, M2, B1, B2, rfl, _⟩ := h
    rfl
  obtain ⟨x, y, fs, M1, M2, B1, B2, rfl, h1, h2, hb, qE, q⟩ := h
  refine ⟨_, (pss_cons (ps_expr (pe_c c_check_other hr (by decide) (by rfl) (pa_cons (pv 0) (pa_cons (pv 1) pa_nil))))
    (pss_cons (ps_asg (pe_cx (E := E) cx_pairs_of hr (by decide) (by rfl) (passes_call (takes_of rfl rfl rfl rfl) (fun _ _ _ _ h => h)) (pa_cons (pe_fld (pv 0) rfl) (pa_cons (pe_fld (pv 1) rfl) pa_nil))) (pg_tup rfl (pgs_cons (pg_name (i := 2) sc_Machine_and.nd rfl (.inl rfl)) (pgs_cons (pg_name (i := 3) sc_Machine_and.nd rfl (.inl rfl)) pgs_nil))))
    (pss_cons (ps_setLc (i := 4) (own := [("at", 5), ("one", 6), ("two", 7)]) (g := (gTup K 2 (gCons (gName 5) (gCons (gTup K 2 (gCons (gName 6) (gCons (gName 7) gNil))) gNil)))) (by rfl) sc_Machine_and.nd rfl rfl (sw_true rfl rfl rfl (by decide +kernel)) (pi_enumG (by rfl) T.z_enumerate (pa_cons (pv 2) pa_nil)) (blkOk_by (N := ["self", "other", "pairs", "table", "bad", "at", "one", "two"]) (sc := defScope s_Machine_and) (by decide +kernel)) (fun _ _ _ _ _ => (pg_tup rfl (pgs_cons (pg_name (i := 5) sc_Machine_and.nd rfl (.inl rfl)) (pgs_cons (pg_tup rfl (pgs_cons (pg_name (i := 6) sc_Machine_and.nd rfl (.inl rfl)) (pgs_cons (pg_name (i := 7) sc_Machine_and.nd rfl (.inl rfl)) pgs_nil))) pgs_nil)))) (fun _ _ _ _ _ => (pts_one (PW.pt (pw_or (pt_cmpR (op_inE (K := K) rfl) (pv 6) (pe_fldE (K := K) rfl (pv 0) rfl) (by rfl)) (pw_or1 (pt_cmpR (op_inE (K := K) rfl) (pv 7) (pe_fldE (K := K) rfl (pv 1) rfl) (by rfl))))))) (fun _ _ _ _ _ => (pv 5)))
    (pss_one (ps_ret (pe_make MM FM (hr.mono (by decide)) (by rfl) gMa bM3 .nil pass0 (pa_cons (pe_fld (pv 0) rfl) (pa_cons (pv 3) (pa_cons (pv 4) pa_nil))))))))), ?_⟩
  obtain ⟨dx, tt, bt, rs, hx, kk⟩ := h1.at_
  obtain ⟨dy, tt', bt', rs', hy, kk'⟩ := h2.at_
  refine ⟨_, rfl, _, rfl, x, y, fs, M1, M2, B1, B2, rfl, h1, h2, fun H1 s1 => ?_⟩
  have hx1 := s1 _ _ hx
  have hy1 := s1 _ _ hy
  have kk1 := kk.same s1
  have kk1' := kk'.same s1
  refine ⟨_, rfl, x, CM, dx, _, _, rfl, hx1, MC.c, MC.nt, rfl, _, rfl, y, CM, dy, _, _, rfl, hy1, MC.c, MC.nt, rfl, tt, tt', rs, rs', M1, M2, fs.length, rfl, SqT.of kk1.tab, SqT.of kk1'.tab, ⟨kk1.len, kk1.rows⟩, ⟨kk1'.len, kk1'.rows⟩, h1.tab, h2.tab, h1.fl, fun H2 d k s2 nd2 hk => qE H2 d k (s1.trans s2) nd2 hk, fun H2 r a b P' T us ws s2 hr2 nr2 ha2 p2 hb2 r2 J full hJ few => ?_⟩
  refine ⟨r, _, rfl, SqT.of hr2, rfl, _, _, rfl, _, _, rfl, rfl, ?_⟩
  have s12 := s1.trans s2
  have hx2 := s2 _ _ hx1
  have hy2 := s2 _ _ hy1
  have kk2 := kk1.same s2
  have kk2' := kk1'.same s2
  refine ⟨_, rfl, .ref a, us, rfl, .l (SqL.of ha2), fun k ev src => ?_⟩
  have stay : ∀ H', Same H2 H' → k.src K H' us := fun H' s => by
    cases k with
    | l a => exact s.seq src
    | t a => exact s.tup src
    | s z t => cases ev
  refine fun D nD => ?_
  refine lc_it walk_enumG (fun i H' => Same H2 H' ∧ H' D = some (.lst ((badJ or (P'.take i) B1 B2).map nI))) ⟨same_upd nD, upd_same⟩ (fun i H' _ h => stay _ h.1) ?_ ?_
  · rintro i v H3 H4 hi ⟨s3, hD3⟩ ⟨T', a1, b1', rfl, nT, rfl, hx1', hy1'⟩
    obtain rfl : V.int (i : Nat) = a1 := Option.some.inj hx1'
    have hy2' : us[i]? = some b1' := hy1'
    have hiP : i < P'.length := by
      rw [← p2.1]
      exact (List.getElem?_eq_some_iff.mp hy2').1
    obtain ⟨z, rfl, hz⟩ := p2.2 i _ _ hy2' (List.getElem?_eq_getElem hiP)
    have hPi : P'[i]? = some P'[i] := List.getElem?_eq_getElem hiP
    generalize P'[i] = pr at hz hPi
    obtain ⟨l1, l2⟩ := pr
    have s4 := s3.trans (same_upd (o := HO.tup [V.int (i : Nat), V.ref z]) nT)
    have hD4 := (same_upd (o := HO.tup [V.int (i : Nat), V.ref z]) nT) _ _ hD3
    have hT4 : (upd H3 T' (.tup [V.int (i : Nat), V.ref z])) T' = some (.tup [V.int (i : Nat), V.ref z]) := upd_same
    generalize upd H3 T' (.tup [V.int (i : Nat), V.ref z]) = H4 at s4 hD4 hT4 ⊢
    refine ⟨T', _, rfl, SqT.of hT4, rfl, _, _, rfl, _, _, rfl, z, _, rfl, SqT.of (s4 _ _ hz), rfl, _, _, rfl, _, _, rfl, rfl, rfl, ?_⟩
    have lb : ((badJ or (P'.take i) B1 B2).map nI).length < sizeLine := by
      rw [List.length_map]
      have h1 := badJ_len (g := or) (P := P'.take i) (B1 := B1) (B2 := B2)
      rw [List.length_take] at h1
      exact sz1 (by omega)
    have sn : P'.take (i + 1) = P'.take i ++ [(l1, l2)] := by
      rw [List.take_add_one, hPi]
      rfl
    have lt : (P'.take i).length = i := by
      rw [List.length_take]
      omega
    refine ⟨rfl, _, rfl, _, rfl, x, CM, dx, _, _, rfl, s4 _ _ hx2, MC.c, MC.nb, rfl, bt, B1.map nI, rfl, .inr (s4.tup kk2.bad), rfl, flat_N B1, _, rfl, ?_⟩
    rw [show (if false = true then !inV (nI l1) (B1.map nI) else inV (nI l1) (B1.map nI)) = decide (l1 ∈ B1) from by rw [if_neg Bool.false_ne_true, inV_N]]
    refine ite_dec (fun m1 => ?_) (fun m1 => ?_)
    · refine ⟨_, rfl, _, hD4, lb, fun z o hz => (upd_ne (ne_of_none hz nD)).trans (s4 _ _ hz), ?_⟩
      rw [upd_same, sn, badJ_snoc, if_pos (by simp [*]), lt, List.map_append]
      rfl
    · refine ⟨_, rfl, _, rfl, y, CM, dy, _, _, rfl, s4 _ _ hy2, MC.c, MC.nb, rfl, bt', B2.map nI, rfl, .inr (s4.tup kk2'.bad), rfl, flat_N B2, _, rfl, ?_⟩
      rw [show (if false = true then !inV (nI l2) (B2.map nI) else inV (nI l2) (B2.map nI)) = decide (l2 ∈ B2) from by rw [if_neg Bool.false_ne_true, inV_N]]
      refine ite_dec (fun m2 => ?_) (fun m2 => ?_)
      · refine ⟨_, rfl, _, hD4, lb, fun z o hz => (upd_ne (ne_of_none hz nD)).trans (s4 _ _ hz), ?_⟩
        rw [upd_same, sn, badJ_snoc, if_pos (by simp [*]), lt, List.map_append]
        rfl
      · refine ⟨s4, ?_⟩
        rw [hD4, sn, badJ_snoc, if_neg (by simp [*]), List.append_nil]
  · rintro H3 ⟨s3, hD3⟩
    rw [List.take_of_length_le (Nat.le_of_eq p2.1.symm)] at hD3
    have s13 := s12.trans s3
    refine ⟨_, rfl, x, CM, dx, _, _, rfl, s3 _ _ hx2, MC.c, MC.nf, rfl, _, rfl, _, rfl, ?_⟩
    have tOk : TabOk fs.length T := ⟨by rw [full]; exact (List.getElem?_eq_some_iff.mp J.hd).1, by omega, fun r hr => J.rowok h1.tab h2.tab full r hr⟩
    refine fun z dz nz ndz _ => machine_made MC hb h1.fl ((r2.same s3).tab (s3 _ _ hb2)) tOk (.inl ⟨D, rfl, SqL.of hD3⟩) (by rw [full]; exact badJ_asc) nz ndz fun H4 s4 hz => ⟨rfl, q H4 z P' T (s13.trans s4) (none_same s13 nz) hz J full hJ few⟩
theorem okx_Machine_or {f CM CE fM : Addr} {fd fdM : FuncData} (F : Fun K "__or__" "Machine.__or__" s_Machine_or f fd) (T : Z mg) (gMa : mg "Machine" = some (.ref CM)) (MC : MachC K CM) (MM : Mk K CM fM) (FM : FnOk P w K mg base CX0 5 fM fdM ["self", "faces", "table", "bad"] (sp_Machine_init K)) (bM3 : Binds K fdM ["self", "faces", "table", "bad"] [])
    (c_check_other : Cal P w K mg base CX0 1 "check_other" s_check_other ["one", "other"] (sp_check_other K CM)) (cx_pairs_of : Cal P w K mg base (L2.CX P w) 3 "pairs_of" s_pairs_of ["one", "other"] (sp_pairs_ofX K CE)) : FnOk P w K mg base (L2.CX P w) 7 f fd ["self", "other"] (sp_Machine_joinE K CM CE and) := by
  refine F.okX sc_Machine_or (fun vs H Q E h => ?_) (fun cdv A outer s H vs Q E hr h => ?_)
  · obtain ⟨x, y, F, M1, M2, B1, B2, rfl, _⟩ := h
    rfl
  obtain ⟨x, y, fs, M1, M2, B1, B2, rfl, h1, h2, hb, qE, q⟩ := h
  refine ⟨_, (pss_cons (ps_expr (pe_c c_check_other hr (by decide) (by rfl) (pa_cons (pv 0) (pa_cons (pv 1) pa_nil))))
    (pss_cons (ps_asg (pe_cx (E := E) cx_pairs_of hr (by decide) (by rfl) (passes_call (takes_of rfl rfl rfl rfl) (fun _ _ _ _ h => h)) (pa_cons (pe_fld (pv 0) rfl) (pa_cons (pe_fld (pv 1) rfl) pa_nil))) (pg_tup rfl (pgs_cons (pg_name (i := 2) sc_Machine_or.nd rfl (.inl rfl)) (pgs_cons (pg_name (i := 3) sc_Machine_or.nd rfl (.inl rfl)) pgs_nil))))
    (pss_cons (ps_setLc (i := 4) (own := [("at", 5), ("one", 6), ("two", 7)]) (g := (gTup K 2 (gCons (gName 5) (gCons (gTup K 2 (gCons (gName 6) (gCons (gName 7) gNil))) gNil)))) (by rfl) sc_Machine_or.nd rfl rfl (sw_true rfl rfl rfl (by decide +kernel)) (pi_enumG (by rfl) T.z_enumerate (pa_cons (pv 2) pa_nil)) (blkOk_by (N := ["self", "other", "pairs", "table", "bad", "at", "one", "two"]) (sc := defScope s_Machine_or) (by decide +kernel)) (fun _ _ _ _ _ => (pg_tup rfl (pgs_cons (pg_name (i := 5) sc_Machine_or.nd rfl (.inl rfl)) (pgs_cons (pg_tup rfl (pgs_cons (pg_name (i := 6) sc_Machine_or.nd rfl (.inl rfl)) (pgs_cons (pg_name (i := 7) sc_Machine_or.nd rfl (.inl rfl)) pgs_nil))) pgs_nil)))) (fun _ _ _ _ _ => (pts_one (PW.pt (pw_and (pt_cmpR (op_inE (K := K) rfl) (pv 6) (pe_fldE (K := K) rfl (pv 0) rfl) (by rfl)) (pw_and1 (pt_cmpR (op_inE (K := K) rfl) (pv 7) (pe_fldE (K := K) rfl (pv 1) rfl) (by rfl))))))) (fun _ _ _ _ _ => (pv 5)))
    (pss_one (ps_ret (pe_make MM FM (hr.mono (by decide)) (by rfl) gMa bM3 .nil pass0 (pa_cons (pe_fld (pv 0) rfl) (pa_cons (pv 3) (pa_cons (pv 4) pa_nil))))))))), ?_⟩
  obtain ⟨dx, tt, bt, rs, hx, kk⟩ := h1.at_
  obtain ⟨dy, tt', bt', rs', hy, kk'⟩ := h2.at_
  refine ⟨_, rfl, _, rfl, x, y, fs, M1, M2, B1, B2, rfl, h1, h2, fun H1 s1 => ?_⟩
  have hx1 := s1 _ _ hx
  have hy1 := s1 _ _ hy
  have kk1 := kk.same s1
  have kk1' := kk'.same s1
  refine ⟨_, rfl, x, CM, dx, _, _, rfl, hx1, MC.c, MC.nt, rfl, _, rfl, y, CM, dy, _, _, rfl, hy1, MC.c, MC.nt, rfl, tt, tt', rs, rs', M1, M2, fs.length, rfl, SqT.of kk1.tab, SqT.of kk1'.tab, ⟨kk1.len, kk1.rows⟩, ⟨kk1'.len, kk1'.rows⟩, h1.tab, h2.tab, h1.fl, fun H2 d k s2 nd2 hk => qE H2 d k (s1.trans s2) nd2 hk, fun H2 r a b P' T us ws s2 hr2 nr2 ha2 p2 hb2 r2 J full hJ few => ?_⟩
  refine ⟨r, _, rfl, SqT.of hr2, rfl, _, _, rfl, _, _, rfl, rfl, ?_⟩
  have s12 := s1.trans s2
  have hx2 := s2 _ _ hx1
  have hy2 := s2 _ _ hy1
  have kk2 := kk1.same s2
  have kk2' := kk1'.same s2
  refine ⟨_, rfl, .ref a, us, rfl, .l (SqL.of ha2), fun k ev src => ?_⟩
  have stay : ∀ H', Same H2 H' → k.src K H' us := fun H' s => by
    cases k with
    | l a => exact s.seq src
    | t a => exact s.tup src
    | s z t => cases ev
  refine fun D nD => ?_
  refine lc_it walk_enumG (fun i H' => Same H2 H' ∧ H' D = some (.lst ((badJ and (P'.take i) B1 B2).map nI))) ⟨same_upd nD, upd_same⟩ (fun i H' _ h => stay _ h.1) ?_ ?_
  · rintro i v H3 H4 hi ⟨s3, hD3⟩ ⟨T', a1, b1', rfl, nT, rfl, hx1', hy1'⟩
    obtain rfl : V.int (i : Nat) = a1 := Option.some.inj hx1'
    have hy2' : us[i]? = some b1' := hy1'
    have hiP : i < P'.length := by
      rw [← p2.1]
      exact (List.getElem?_eq_some_iff.mp hy2').1
    obtain ⟨z, rfl, hz⟩ := p2.2 i _ _ hy2' (List.getElem?_eq_getElem hiP)
    have hPi : P'[i]? = some P'[i] := List.getElem?_eq_getElem hiP
    generalize P'[i] = pr at hz hPi
    obtain ⟨l1, l2⟩ := pr
    have s4 := s3.trans (same_upd (o := HO.tup [V.int (i : Nat), V.ref z]) nT)
    have hD4 := (same_upd (o := HO.tup [V.int (i : Nat), V.ref z]) nT) _ _ hD3
    have hT4 : (upd H3 T' (.tup [V.int (i : Nat), V.ref z])) T' = some (.tup [V.int (i : Nat), V.ref z]) := upd_same
    generalize upd H3 T' (.tup [V.int (i : Nat), V.ref z]) = H4 at s4 hD4 hT4 ⊢
    refine ⟨T', _, rfl, SqT.of hT4, rfl, _, _, rfl, _, _, rfl, z, _, rfl, SqT.of (s4 _ _ hz), rfl, _, _, rfl, _, _, rfl, rfl, rfl, ?_⟩
    have lb : ((badJ and (P'.take i) B1 B2).map nI).length < sizeLine := by
      rw [List.length_map]
      have h1 := badJ_len (g := and) (P := P'.take i) (B1 := B1) (B2 := B2)
      rw [List.length_take] at h1
      exact sz1 (by omega)
    have sn : P'.take (i + 1) = P'.take i ++ [(l1, l2)] := by
      rw [List.take_add_one, hPi]
      rfl
    have lt : (P'.take i).length = i := by
      rw [List.length_take]
      omega
    refine ⟨rfl, _, rfl, _, rfl, x, CM, dx, _, _, rfl, s4 _ _ hx2, MC.c, MC.nb, rfl, bt, B1.map nI, rfl, .inr (s4.tup kk2.bad), rfl, flat_N B1, _, rfl, ?_⟩
    rw [show (if false = true then !inV (nI l1) (B1.map nI) else inV (nI l1) (B1.map nI)) = decide (l1 ∈ B1) from by rw [if_neg Bool.false_ne_true, inV_N]]
    refine ite_dec (fun m1 => ?_) (fun m1 => ?_)
    · refine ⟨_, rfl, _, rfl, y, CM, dy, _, _, rfl, s4 _ _ hy2, MC.c, MC.nb, rfl, bt', B2.map nI, rfl, .inr (s4.tup kk2'.bad), rfl, flat_N B2, _, rfl, ?_⟩
      rw [show (if false = true then !inV (nI l2) (B2.map nI) else inV (nI l2) (B2.map nI)) = decide (l2 ∈ B2) from by rw [if_neg Bool.false_ne_true, inV_N]]
      refine ite_dec (fun m2 => ?_) (fun m2 => ?_)
      · refine ⟨_, rfl, _, hD4, lb, fun z o hz => (upd_ne (ne_of_none hz nD)).trans (s4 _ _ hz), ?_⟩
        rw [upd_same, sn, badJ_snoc, if_pos (by simp [*]), lt, List.map_append]
        rfl
      · refine ⟨s4, ?_⟩
        rw [hD4, sn, badJ_snoc, if_neg (by simp [*]), List.append_nil]
    · refine ⟨s4, ?_⟩
      rw [hD4, sn, badJ_snoc, if_neg (by simp [*]), List.append_nil]
  · rintro H3 ⟨s3, hD3⟩
    rw [List.take_of_length_le (Nat.le_of_eq p2.1.symm)] at hD3
    have s13 := s12.trans s3
    refine ⟨_, rfl, x, CM, dx, _, _, rfl, s3 _ _ hx2, MC.c, MC.nf, rfl, _, rfl, _, rfl, ?_⟩
    have tOk : TabOk fs.length T := ⟨by rw [full]; exact (List.getElem?_eq_some_iff.mp J.hd).1, by omega, fun r hr => J.rowok h1.tab h2.tab full r hr⟩
    refine fun z dz nz ndz _ => machine_made MC hb h1.fl ((r2.same s3).tab (s3 _ _ hb2)) tOk (.inl ⟨D, rfl, SqL.of hD3⟩) (by rw [full]; exact badJ_asc) nz ndz fun H4 s4 hz => ⟨rfl, q H4 z P' T (s13.trans s4) (none_same s13 nz) hz J full hJ few⟩
end
end FW
namespace FW
open PySem PySem.Spec PyProof.Rows L2
-- more
section
variable {P : Program} {w : World} {K : PySem.W.Frag} {mg : Str → Option Value} {base : Heap}
theorem lower_asc : lower.Pairwise (· < ·) := by decide +kernel
theorem choice_sub {r L : List Nat} {m : Int} (hL : L.Pairwise (· < ·)) (s : List.Sublist r L) (h0 : 0 < r.length) (hm : (r.length : Int) ≤ m) : bChoice (.str (S r)) L m = true := by
  show (true && (decide ((1 : Int) ≤ (r.length : Int)) && decide ((r.length : Int) ≤ m)) && (r.all fun c => decide (c ∈ L)) && ascB r) = true
  rw [decide_eq_true (by omega), decide_eq_true hm, mem_all (fun c hc => s.subset hc), asc_sorted (hL.sublist s)]
  rfl
/-- what is no list stays -/
def NL (H H' : Hp) : Prop := ∀ c o, H c = some o → (∀ ws, o ≠ HO.lst ws) → H' c = some o
theorem NL.refl {H : Hp} : NL H H := fun _ _ e _ => e
theorem NL.set {H H' : Hp} {a : Addr} {ws : List V} {o : HO} (h : NL H H') (e : H' a = some (.lst ws)) : NL H (upd H' a o) := fun c o' e' n => by
  have q := h _ _ e' n
  rw [upd_ne (fun z => by rw [z, e] at q; cases q; exact n _ rfl)]
  exact q
theorem NL.same {H H' H'' : Hp} (h : NL H H') (s : Same H' H'') : NL H H'' := fun c o e n => s _ _ (h _ _ e n)
theorem sqT_nl {H H' : Hp} {a : Addr} {xs : List V} (h : SqT K H a xs) (s : NL H H') : SqT K H' a xs := by
  rcases h with (h | ⟨o, h⟩) | h
  · exact .inl (.inl (s _ _ h (fun ws z => by cases z)))
  · exact .inl (.inr ⟨o, s _ _ h (fun ws z => by cases z)⟩)
  · exact .inr h
theorem MachAt.nl {CM : Addr} {H H' : Hp} {x : Addr} {F : List Nat} {M : List (List Nat)} {B : List Nat} (k : MachAt K CM H x F M B) (s : NL H H') : MachAt K CM H' x F M B := by
  obtain ⟨dx, tt, bt, rs, h, kk⟩ := k.at_
  exact ⟨⟨dx, tt, bt, rs, s _ _ h (fun ws z => by cases z), ⟨s _ _ kk.tab (fun ws z => by cases z), kk.len, fun i v r h1 h2 => let ⟨a, e, h⟩ := kk.rows i v r h1 h2; ⟨a, e, sqT_nl h s⟩, sqT_nl kk.bad s⟩⟩, k.fl, k.tab, k.bad⟩
abbrev s__law_machine : Stmt := topS 39
theorem sc__law_machine : FnScope ["_law_faces", "_law_mach"] ["_law_faces", "_law_mach"] (defScope s__law_machine) := ⟨rfl, rfl, rfl, by decide +kernel, rfl, by decide +kernel, by decide +kernel⟩
/-- the list of a table and of its bad states -/
structure MachL (K : PySem.W.Frag) (H : Hp) (p t u : Addr) (rs : List V) (M : List (List Nat)) (B : List Nat) : Prop where
  two : SqL K H p [.ref t, .ref u]
  tab : SqL K H t rs
  row : RowsT K H rs M
  bad : SqL K H u (B.map nI)
def sp__law_machine (K : PySem.W.Frag) (CM : Addr) : Sp := fun vs H Q _ => ∃ (p t u : Addr) (F : List Nat) (rs : List V) (M : List (List Nat)) (B : List Nat), vs = [.str (S F), .ref p] ∧ bFaces (.str (S F)) = true ∧ F.length ≤ 1000 ∧ MachL K H p t u rs M B ∧ TabOk F.length M ∧ BadOk M.length B ∧ ∀ H' x, Same H H' → H x = none → MachAt K CM H' x F M B → Q (.ref x) H'
theorem ok__law_machine {f CM fM : Addr} {fd fdM : FuncData} (F : Fun K "_law_machine" "_law_machine" s__law_machine f fd) (gMa : mg "Machine" = some (.ref CM)) (MC : MachC K CM) (MM : Mk K CM fM) (FM : FnOk P w K mg base CX0 5 fM fdM ["self", "faces", "table", "bad"] (sp_Machine_init K)) (bM3 : Binds K fdM ["self", "faces", "table", "bad"] []) : FnOk P w K mg base CX0 7 f fd ["_law_faces", "_law_mach"] (sp__law_machine K CM) := by
  refine F.ok sc__law_machine (fun vs H Q E h => ?_) (fun cdv A outer s H vs Q E hr h => ?_)
  · obtain ⟨p, t, u, fs, rs, M, B, rfl, _⟩ := h
    rfl
  obtain ⟨p, t, u, fs, rs, M, B, rfl, hb, hl, hp, hM, hB, q⟩ := h
  refine ⟨_, (pss_one (ps_ret (pe_make MM FM (hr.mono (by decide)) (by rfl) gMa bM3 .nil pass0 (pa_cons (pv 0) (pa_cons (pe_ix ix_list (pv 1) pe_int (fun _ _ => rfl)) (pa_cons (pe_ix ix_list (pv 1) pe_int (fun _ _ => rfl)) pa_nil)))))), ?_⟩
  have hT : TabIn K H (.ref t) rs M := ⟨.inl ⟨t, rfl, hp.tab⟩, hp.row.1, fun i v r h1 h2 => let ⟨a, e, h⟩ := hp.row.2 i v r h1 h2; .inr ⟨a, e, h⟩⟩
  exact ⟨_, rfl, _, rfl, p, _, 0, _, rfl, rfl, hp.two, atI_nat (j := 0) rfl, _, rfl, p, _, 1, _, rfl, rfl, hp.two, atI_nat (j := 1) rfl, fun x dx nx ndx _ => machine_made MC hb hl hT hM (.inl ⟨u, rfl, hp.bad⟩) hB nx ndx fun H' s' hX => ⟨rfl, q H' x s' nx hX⟩⟩
end
end FW
namespace FW
open PySem PySem.Spec PyProof.Rows L2
-- more
section
variable {P : Program} {w : World} {K : PySem.W.Frag} {mg : Str → Option Value} {base : Heap}
abbrev s__law_some_machine : Stmt := topS 38
theorem sc__law_some_machine : FnScope ["_law_bag", "_law_faces", "_law_most", "_law_size", "_law_table", "_law_at", "_law_face"] ["_law_bag", "_law_faces", "_law_most"] (defScope s__law_some_machine) := ⟨rfl, rfl, rfl, by decide +kernel, rfl, by decide +kernel, by decide +kernel⟩
/-- the names of the block around the inner one -/
abbrev in_some_machine : Scope := { kind := .function, names := [(".0", .local), ("_law_at", .local), ("tuple", .globalImplicit), ("_law_bag", .cell), ("_law_faces", .cell), ("_law_size", .cell)], isGenerator := false, isCoroutine := false }
/-- the rows as they lie -/
def RowsAt (H : Hp) (rs : List V) (M : List (List Nat)) : Prop := rs.length = M.length ∧ ∀ (i : Nat) (v : V) (r : List Nat), rs[i]? = some v → M[i]? = some r → ∃ a, v = .ref a ∧ H a = some (.tup (r.map nI))
theorem RowsAt.same {H H' : Hp} {rs : List V} {M : List (List Nat)} (h : RowsAt H rs M) (s : Same H H') : RowsAt H' rs M := ⟨h.1, fun i v r h1 h2 => let ⟨a, e, ha⟩ := h.2 i v r h1 h2; ⟨a, e, s _ _ ha⟩⟩
theorem RowsAt.but {H H' : Hp} {rs : List V} {M : List (List Nat)} {b : Addr} {o : List V} (h : RowsAt H rs M) (e : H b = some (.lst o)) (s : But b H H') : RowsAt H' rs M := ⟨h.1, fun i v r h1 h2 => let ⟨a, ea, ha⟩ := h.2 i v r h1 h2; ⟨a, ea, s _ _ (fun z => by rw [z, e] at ha; cases ha) ha⟩⟩
theorem RowsAt.snoc {H : Hp} {rs : List V} {M : List (List Nat)} {t : Addr} {r : List Nat} (h : RowsAt H rs M) (e : H t = some (.tup (r.map nI))) : RowsAt H (rs ++ [.ref t]) (M ++ [r]) := by
  refine ⟨by rw [List.length_append, List.length_append, h.1]; rfl, fun i v r' h1 h2 => ?_⟩
  by_cases hi : i < rs.length
  · rw [List.getElem?_append_left hi] at h1
    rw [List.getElem?_append_left (by rw [← h.1]; exact hi)] at h2
    exact h.2 i v r' h1 h2
  · have hi2 : i = rs.length := by
      obtain ⟨hlt, _⟩ := List.getElem?_eq_some_iff.mp h1
      rw [List.length_append] at hlt
      simp at hlt
      omega
    subst hi2
    rw [List.getElem?_append_right (Nat.le_refl _), Nat.sub_self] at h1
    rw [h.1, List.getElem?_append_right (Nat.le_refl _), Nat.sub_self] at h2
    cases h1
    cases h2
    exact ⟨t, rfl, e⟩
theorem Bag.lst {H : Hp} {b lb : Addr} (B : Bag H b lb) : ∃ o, H b = some (.lst o) := by
  obtain ⟨ns, i, r, m, c, hb, _⟩ := B
  exact ⟨_, hb⟩
def sp__law_some_machine (K : PySem.W.Frag) : Sp := fun vs H Q _ => ∃ (b lb : Addr) (F : List Nat) (m : Nat), vs = [.ref b, .str (S F), .int (m : Int)] ∧ Bag H b lb ∧ 0 < F.length ∧ F.length ≤ 100 ∧ 0 < m ∧ m ≤ 100 ∧
  ∀ H' p t u rs M B, TabOk F.length M → M.length ≤ m → BadOk M.length B → RowsAt H' rs M → But b H H' → Bag H' b lb → H p = none → t ≠ b → u ≠ b → H' t = some (.lst rs) → H' u = some (.lst (B.map nI)) → H' p = some (.lst [.ref t, .ref u]) → Q (.ref p) H'
theorem ok__law_some_machine {f : Addr} {fd : FuncData} (F : Fun K "_law_some_machine" "_law_some_machine" s__law_some_machine f fd) (T : Z mg) (c__law_draw : Cal P w K mg base CX0 1 "_law_draw" s__law_draw ["_law_bag", "_law_many"] (sp__law_draw K)) : FnOk P w K mg base CX0 2 f fd ["_law_bag", "_law_faces", "_law_most"] (sp__law_some_machine K) := by
  refine F.ok sc__law_some_machine (fun vs H Q E h => ?_) (fun cdv A outer s H vs Q E hr h => ?_)
  · obtain ⟨b, lb, F, m, rfl, _⟩ := h
    rfl
  obtain ⟨b, lb, fs, m, rfl, B, hF0, hF, hm0, hm, q⟩ := h
  refine ⟨_, (pss_cons (ps_set (i := 3) sc__law_some_machine.nd rfl (.inr rfl) (pe_op op_add pe_int (pe_c c__law_draw hr (by decide) (by rfl) (pa_cons (pv 0) (pa_cons (pv 2) pa_nil)))))
      (pss_cons (ps_setLc (i := 4) (own := [("_law_at", 5)]) (g := (gName 5)) (by rfl) sc__law_some_machine.nd rfl rfl (sw_true rfl rfl rfl (by decide +kernel)) (pi_range1 (by rfl) T.z_range (pa_cons (pv 3) pa_nil)) (blkOk_by (N := ["_law_bag", "_law_faces", "_law_most", "_law_size", "_law_table", "_law_at", "_law_face"]) (sc := defScope s__law_some_machine) (by decide +kernel)) (fun _ _ _ _ _ => (pg_name (i := 5) sc__law_some_machine.nd rfl (.inl rfl))) (fun _ _ _ _ _ => pts_nil) (fun _ _ _ _ _ => (pe_callTy (call_tuple_ofE rfl) (by rfl) T.z_tuple (by decide +kernel) (pa_cons (pe_lc (own := [("_law_face", 6)]) (g := (gName 6)) (by rfl) sc__law_some_machine.nd (pi_str (pv 1)) (blkOk_by (N := ["_law_bag", "_law_faces", "_law_most", "_law_size", "_law_table", "_law_at", "_law_face"]) (sc := in_some_machine) (by decide +kernel)) (fun _ _ _ _ _ => (pg_name (i := 6) sc__law_some_machine.nd rfl (.inl rfl))) (fun _ _ _ _ _ => pts_nil) (fun _ _ _ _ _ => (pe_c c__law_draw hr (by decide) (by rfl) (pa_cons (pv 0) (pa_cons (pv 3) pa_nil))))) pa_nil))))
      (pss_one (ps_ret (pe_lst (pa_cons (pv 4) (pa_cons (pe_lc (own := [("_law_at", 5)]) (g := (gName 5)) (by rfl) sc__law_some_machine.nd (pi_range1 (by rfl) T.z_range (pa_cons (pv 3) pa_nil)) (blkOk_by (N := ["_law_bag", "_law_faces", "_law_most", "_law_size", "_law_table", "_law_at", "_law_face"]) (sc := defScope s__law_some_machine) (by decide +kernel)) (fun _ _ _ _ _ => (pg_name (i := 5) sc__law_some_machine.nd rfl (.inl rfl))) (fun _ _ _ _ _ => (pts_one (pt_cmpR op_eq (pe_c c__law_draw hr (by decide) (by rfl) (pa_cons (pv 0) (pa_cons pe_int pa_nil))) pe_int (nomark _)))) (fun _ _ _ _ _ => (pv 5))) pa_nil))))))), ?_⟩
  refine ⟨_, rfl, _, rfl, b, lb, _, rfl, B, by omega, by omega, fun H1 z z0 z1 b1 B1 => ?_⟩
  obtain ⟨k, rfl⟩ : ∃ k : Nat, z = (k : Int) := ⟨z.toNat, by omega⟩
  refine ⟨_, _, rfl, rfl, ?_⟩
  have e1 : (fun i j : Int => V.int (i + j)) 1 (k : Int) = V.int ((k + 1 : Nat) : Int) := congrArg V.int (by omega)
  rw [e1]
  have hk : k + 1 ≤ m := by omega
  have n0 : 0 < k + 1 := by omega
  generalize k + 1 = n at hk n0 ⊢
  refine ⟨_, rfl, _, rfl, by omega, by omega, fun D hD => ?_⟩
  have nDb : D ≠ b := B1.ne hD
  have nDl : D ≠ lb := B1.ne2 hD
  refine lc_range (n := n) (fun i H' => ∃ (M : List (List Nat)) (rs : List V), M.length = i ∧ (∀ r ∈ M, r.length = fs.length ∧ ∀ x ∈ r, x < n) ∧ RowsAt H' rs M ∧ H' D = some (.lst rs) ∧ Bag H' b lb ∧ But b H1 H') ⟨[], [], rfl, by simp, ⟨rfl, by simp⟩, upd_same, B1.same (same_upd hD), (same_upd hD).but⟩ ?_ ?_
  · rintro i H' hi ⟨M, rs, hl, hM, hR, hDD, B', ho⟩
    refine ⟨rfl, ?_⟩
    refine ⟨_, rfl, S fs, rfl, fun D2 hD2 => ?_⟩
    have n2b : D2 ≠ b := B'.ne hD2
    have n2l : D2 ≠ lb := B'.ne2 hD2
    have n2D : D2 ≠ D := (ne_of_none hDD hD2).symm
    have nD2 : ∀ a o, H' a = some o → a ≠ D2 := fun a o e => ne_of_none e hD2
    refine lc_it walk_str (fun j H2 => ∃ r : List Nat, r.length = j ∧ (∀ x ∈ r, x < n) ∧ H2 D2 = some (.lst (r.map nI)) ∧ Bag H2 b lb ∧ But b H' H2) ⟨[], rfl, by simp, upd_same, B'.same (same_upd hD2), (same_upd hD2).but⟩ (fun _ _ _ _ => trivial) ?_ ?_
    · rintro j x H2 _ hj ⟨r, hrl, hr', hd2, B2, o2⟩ ⟨rfl, _, _, rfl⟩
      have hj' : j < fs.length := hj
      refine ⟨rfl, ?_⟩
      refine ⟨_, rfl, _, rfl, b, lb, _, rfl, B2, by omega, by omega, fun H3 z z0 z1 b3 B3 => ?_⟩
      obtain ⟨y, rfl⟩ : ∃ y : Nat, z = (y : Int) := ⟨z.toNat, by omega⟩
      refine ⟨_, b3 _ _ n2b hd2, by rw [List.length_map]; exact sz1 (by omega), r ++ [y], by rw [List.length_append, hrl]; rfl, ?_, ?_, B3.upd n2b n2l, fun a o n e => ?_⟩
      · intro x hx
        rcases List.mem_append.mp hx with e | e
        · exact hr' x e
        · rw [List.mem_singleton.mp e]
          omega
      · rw [upd_same, List.map_append]
        rfl
      · rw [upd_ne (nD2 a o e)]
        exact b3 _ _ n (o2 a o n e)
    · rintro H2 ⟨r, hrl, hr', hd2, B2, o2⟩
      have hrl : r.length = fs.length := hrl
      refine ⟨D2, r.map nI, rfl, .inl ⟨SqL.of hd2, fun t nt => ?_⟩⟩
      have st := same_upd (o := HO.tup (r.map nI)) nt
      have tt := (upd_same : (upd H2 t (HO.tup (r.map nI))) t = _)
      have B3 := B2.same st
      have o3 := o2.trans st.but
      clear st
      generalize upd H2 t (HO.tup (r.map nI)) = H3 at tt B3 o3 ⊢
      have nDb' : D ≠ b := nDb
      refine ⟨_, o3 _ _ nDb hDD, by rw [hR.1]; exact sz1 (by omega), M ++ [r], rs ++ [.ref t], by rw [List.length_append, hl]; rfl, ?_, ?_, upd_same, B3.upd nDb nDl, ?_⟩
      · intro q hq
        rcases List.mem_append.mp hq with e | e
        · exact hM q e
        · rw [List.mem_singleton.mp e]
          exact ⟨hrl, hr'⟩
      · obtain ⟨ob, hob⟩ := B'.lst
        have R3 : RowsAt H3 rs M := hR.but hob o3
        exact (R3.but (b := D) (o3 _ _ nDb hDD) (fun c o n e => by rw [upd_ne n]; exact e)).snoc (by rw [upd_ne (fun z => by rw [z, o3 _ _ nDb hDD] at tt; cases tt)]; exact tt)
      · intro a o n e
        rw [upd_ne (fun z => by rw [z, hD] at e; cases e)]
        exact o3 _ _ n (ho a o n e)
  · rintro H2 ⟨M, rs, hl, hM, hR, hDD, B', ho⟩
    obtain ⟨ob, hob⟩ := B'.lst
    refine ⟨_, rfl, _, rfl, _, rfl, by omega, by omega, fun D2 hD2 => ?_⟩
    have n2b : D2 ≠ b := B'.ne hD2
    have n2l : D2 ≠ lb := B'.ne2 hD2
    have nD2 : ∀ a o, H2 a = some o → a ≠ D2 := fun a o e => ne_of_none e hD2
    refine lc_range (n := n) (fun i H' => ∃ B : List Nat, B.Pairwise (· < ·) ∧ (∀ x ∈ B, x < i) ∧ B.length ≤ i ∧ H' D2 = some (.lst (B.map nI)) ∧ Bag H' b lb ∧ But b H2 H') ⟨[], .nil, by simp, by simp, upd_same, B'.same (same_upd hD2), (same_upd hD2).but⟩ ?_ ?_
    · rintro i H3 hi ⟨C, hC, hC', hCl, hDC, B3, o3⟩
      refine ⟨rfl, ?_⟩
      refine ⟨_, rfl, b, lb, _, rfl, B3, by decide, by decide, fun H4 z z0 z1 b4 B4 => ?_⟩
      refine ⟨rfl, _, rfl, ite_dec (fun _ => ?_) (fun _ => ?_)⟩
      · refine ⟨_, rfl, _, b4 _ _ n2b hDC, by rw [List.length_map]; exact sz1 (by omega), C ++ [i], ?_, ?_, by rw [List.length_append]; exact Nat.succ_le_succ hCl, ?_, B4.upd n2b n2l, fun a o n e => ?_⟩
        · exact List.pairwise_append.mpr ⟨hC, List.pairwise_singleton _ _, fun x hx y hy => by rw [List.mem_singleton.mp hy]; exact hC' x hx⟩
        · intro x hx
          rcases List.mem_append.mp hx with e | e
          · exact Nat.lt_succ_of_lt (hC' x e)
          · rw [List.mem_singleton.mp e]
            exact Nat.lt_succ_self _
        · rw [upd_same, List.map_append]
          show some (HO.lst (C.map nI ++ [V.int (0 + (i : Int))])) = _
          rw [Int.zero_add]
          rfl
        · rw [upd_ne (nD2 a o e)]
          exact b4 _ _ n (o3 a o n e)
      · exact ⟨C, hC, fun x hx => Nat.lt_succ_of_lt (hC' x hx), Nat.le_succ_of_le hCl, b4 _ _ n2b hDC, B4, o3.trans b4⟩
    · rintro H3 ⟨C, hC, hC', hCl, hDC, B3, o3⟩
      refine ⟨(show 2 ≤ sizeLine by decide), fun p np => ?_⟩
      have sp := same_upd (o := HO.lst [V.ref D, V.ref D2]) np
      have b3 : But b H1 H3 := ho.trans o3
      refine q _ p D D2 rs M C ⟨by omega, by omega, fun r hr => ⟨(hM r hr).1, fun x hx => by rw [hl]; exact (hM r hr).2 x hx⟩⟩ (by omega) ⟨hC, fun x hx => by rw [hl]; exact hC' x hx⟩ ((hR.but hob o3).same sp) ((b1.trans b3).trans sp.but) (B3.same sp) ?_ nDb n2b (sp _ _ (o3 _ _ nDb hDD)) (sp _ _ hDC) upd_same
      cases e : H p with
      | none => rfl
      | some o =>
        have n : p ≠ b := B3.ne np
        have := b3 _ _ n (b1 _ _ n e)
        rw [np] at this
        cases this
end
end FW
namespace FW
open PySem PySem.Spec PyProof.Rows L2
-- more
section
variable {P : Program} {w : World} {K : PySem.W.Frag} {mg : Str → Option Value} {base : Heap}
/-! the joined machine as the law writes it -/
def prP (z : Pr) : PyData := .tuple [.int z.1, .int z.2]
theorem prP_lay (z : Pr) : (prP z).canLay0 = true := by simp [prP, PyData.canLay0, PyData.canLayAll0]
theorem prP_depth (z : Pr) : (prP z).depth = 1 := by simp [prP, PyData.depth, PyData.depthAll]
theorem prPs_lay : ∀ zs : List Pr, PyData.canLayAll0 (zs.map prP) = true
  | [] => by simp [PyData.canLayAll0]
  | z :: zs => by simp [PyData.canLayAll0, prP_lay z, prPs_lay zs]
theorem prPs_depth : ∀ zs : List Pr, PyData.depthAll (zs.map prP) ≤ 1
  | [] => by simp [PyData.depthAll]
  | z :: zs => by
    have h1 := prPs_depth zs
    have h2 := prP_depth z
    simp only [List.map_cons, PyData.depthAll]
    omega
theorem prP_shaped (z : Pr) : SeqAt.shaped (prP z) = true := by
  have h := prP_depth z
  show ((prP z).canLay0 && decide ((prP z).depth ≤ 64)) = true
  rw [Bool.and_eq_true]
  exact ⟨prP_lay z, decide_eq_true (by omega)⟩
theorem prPs_shaped (zs : List Pr) : SeqAt.shaped (.list (zs.map prP)) = true := by
  have h1 := prPs_depth zs
  have h2 : PyData.depth (.list (zs.map prP)) ≤ 64 := by
    simp only [PyData.depth]
    omega
  show (PyData.canLay0 (.list (zs.map prP)) && decide (PyData.depth (.list (zs.map prP)) ≤ 64)) = true
  rw [Bool.and_eq_true]
  exact ⟨by simp only [PyData.canLay0]; exact prPs_lay zs, decide_eq_true h2⟩
theorem prP_eqv (z w : Pr) : PyData.eqv (prP z) (prP w) = decide (z = w) := by
  obtain ⟨a, b⟩ := z
  obtain ⟨a', b'⟩ := w
  have e : PyData.eqv (prP (a, b)) (prP (a', b')) = (((a : Int) == (a' : Int)) && (((b : Int) == (b' : Int)) && true)) := by simp only [prP, PyData.eqv, PyData.eqvAll]
  rw [e]
  by_cases h : ((a, b) : Pr) = (a', b')
  · cases h
    simp
  · rw [decide_eq_false h]
    by_cases h1 : a = a'
    · by_cases h2 : b = b'
      · exact absurd (by rw [h1, h2]) h
      · have q : ((b : Int) == (b' : Int)) = false := beq_eq_false_iff_ne.mpr (by omega)
        rw [q, Bool.false_and, Bool.and_false]
    · have q : ((a : Int) == (a' : Int)) = false := beq_eq_false_iff_ne.mpr (by omega)
      rw [q, Bool.false_and]
theorem prP_any (P : List Pr) (q : Pr) : ((P.map prP).any fun z => PyData.eqv z (prP q)) = decide (q ∈ P) := by
  induction P with
  | nil => rfl
  | cons z P ih =>
    rw [List.map_cons, List.any_cons, ih, prP_eqv]
    by_cases e : z = q
    · rw [decide_eq_true e, decide_eq_true (show q ∈ z :: P from by rw [e]; exact List.mem_cons_self)]
      rfl
    · rw [decide_eq_false e, Bool.false_or]
      exact decide_eq_decide.mpr ⟨List.mem_cons_of_mem _, fun h => (List.mem_cons.mp h).resolve_left fun n => e n.symm⟩
theorem dp_pairs {H : Hp} : ∀ {us : List V} {P : List Pr}, PairsT H us P → DpAll K H us (P.map prP)
  | [], [], _ => .nil
  | [], _ :: _, h => by cases h.1
  | _ :: _, [], h => by cases h.1
  | u :: us, z :: P, h => by
    obtain ⟨x, rfl, hx⟩ := h.2 0 u z rfl rfl
    exact .cons (.tup (SqT.of hx) (.cons (.int _) (.cons (.int _) .nil))) (dp_pairs ⟨Nat.succ.inj h.1, fun i v q h1 h2 => h.2 (i + 1) v q h1 h2⟩)
theorem jointN_none {M1 M2 : List (List Nat)} {k : Nat} (h : (jointN M1 M2 k).length ≤ k) : jointN M1 M2 (k + 1) = jointN M1 M2 k := by
  show (match (jointN M1 M2 k)[k]? with
    | some q => addAll (jointN M1 M2 k) (sides M1 M2 q)
    | none => jointN M1 M2 k) = _
  rw [List.getElem?_eq_none h]
theorem jointN_stay {M1 M2 : List (List Nat)} {k : Nat} (h : (jointN M1 M2 k).length ≤ k) : ∀ m, jointN M1 M2 (k + m) = jointN M1 M2 k
  | 0 => rfl
  | m + 1 => by
    have ih := jointN_stay h m
    rw [← Nat.add_assoc, jointN_none (by rw [ih]; omega), ih]
theorem JointS.uniq {M1 M2 : List (List Nat)} {P P' : List Pr} {T T' : List (List Nat)} (J : JointS M1 M2 P T) (J' : JointS M1 M2 P' T') (f : T.length = P.length) (f' : T'.length = P'.length) (e : P = jointN M1 M2 T.length) (e' : P' = jointN M1 M2 T'.length) : P = P' ∧ T = T' := by
  have key : ∀ {k k' : Nat}, (jointN M1 M2 k).length ≤ k → k ≤ k' → jointN M1 M2 k' = jointN M1 M2 k := fun h hk => by
    rw [← Nat.add_sub_cancel' hk]
    exact jointN_stay h _
  have eP : P = P' := by
    rcases Nat.le_total T.length T'.length with h | h
    · rw [e', key (by rw [← e]; omega) h, ← e]
    · rw [e, key (by rw [← e']; omega) h, ← e']
  subst eP
  refine ⟨rfl, List.ext_getElem? fun i => ?_⟩
  by_cases hi : i < P.length
  · have hP : P[i]? = some P[i] := List.getElem?_eq_getElem hi
    rw [(J.done i _ (by omega) hP).2, (J'.done i _ (by omega) hP).2]
  · rw [List.getElem?_eq_none (by omega), List.getElem?_eq_none (by omega)]
theorem hu65 {k : Nat} {A : Around} (r : Room k A) : A.units + 65 < cLine := by
  have := r.un
  omega
theorem idx_le : ∀ {P : List Pr} {m : Nat} (h : m < P.length), P.idxOf P[m] ≤ m
  | z :: P, 0, _ => by
    show (z :: P).idxOf z ≤ 0
    rw [List.idxOf_cons_self]
    exact Nat.le_refl _
  | z :: P, m + 1, h => by
    have h' : m < P.length := Nat.lt_of_succ_lt_succ h
    have ih := idx_le (P := P) (m := m) h'
    show (z :: P).idxOf (P[m]'h') ≤ m + 1
    rw [List.idxOf_cons]
    cases z == P[m]'h' with
    | true => exact Nat.zero_le _
    | false => exact Nat.succ_le_succ ih
theorem first_at {P : List Pr} {q : Pr} (h : q ∈ P) : (P.map prP)[P.idxOf q]? = some (prP q) ∧ ∀ (m : Nat) (z' : PyData), m < P.idxOf q → (P.map prP)[m]? = some z' → PyData.eqv z' (prP q) = false := by
  refine ⟨?_, fun m z' hm hz => ?_⟩
  · rw [List.getElem?_map, List.getElem?_eq_getElem (List.idxOf_lt_length_iff.mpr h), List.getElem_idxOf]
    rfl
  · rw [List.getElem?_map] at hz
    obtain ⟨z, hz1, rfl⟩ := Option.map_eq_some_iff.mp hz
    rw [prP_eqv]
    refine decide_eq_false fun e => ?_
    obtain ⟨hlt, e2⟩ := List.getElem?_eq_some_iff.mp hz1
    exact absurd hm (Nat.not_lt.mpr (by rw [← e, ← e2]; exact idx_le hlt))
abbrev s__law_joint : Stmt := topS 40
theorem sc__law_joint : FnScope ["_law_faces", "_law_one", "_law_two", "_law_pairs", "_law_rows", "_law_at", "_law_row", "_law_k", "_law_face", "_law_pair"] ["_law_faces", "_law_one", "_law_two"] (defScope s__law_joint) := ⟨rfl, rfl, rfl, by decide +kernel, rfl, by decide +kernel, by decide +kernel⟩
def sp__law_joint (K : PySem.W.Frag) : Sp := fun vs H Q _ => ∃ (p1 p2 t1 t2 u1 u2 : Addr) (F : List Nat) (rs1 rs2 : List V) (M1 M2 : List (List Nat)) (B1 B2 : List Nat), vs = [.str (S F), .ref p1, .ref p2] ∧ F.length ≤ 26 ∧ MachL K H p1 t1 u1 rs1 M1 B1 ∧ MachL K H p2 t2 u2 rs2 M2 B2 ∧ TabOk F.length M1 ∧ TabOk F.length M2 ∧ M1.length * M2.length < 40 ∧
  ∀ H' r a b (P : List Pr) (T : List (List Nat)) (us ws : List V), Same H H' → H' r = some (.lst [.ref a, .ref b]) → H r = none → H a = none → H b = none → H' a = some (.lst us) → PairsT H' us P →
    H' b = some (.lst ws) → RowsAt H' ws T → JointS M1 M2 P T → T.length = P.length → P = jointN M1 M2 T.length → Q (.ref r) H'
theorem ok__law_joint {f : Addr} {fd : FuncData} (F : Fun K "_law_joint" "_law_joint" s__law_joint f fd) (T : Z mg) : FnOk P w K mg base CX0 1 f fd ["_law_faces", "_law_one", "_law_two"] (sp__law_joint K) := by
  refine F.ok sc__law_joint (fun vs H Q E h => ?_) (fun cdv A outer s H vs Q E hr h => ?_)
  · obtain ⟨p1, p2, t1, t2, u1, u2, fs, rs1, rs2, M1, M2, B1, B2, rfl, _⟩ := h
    rfl
  obtain ⟨p1, p2, t1, t2, u1, u2, fs, rs1, rs2, M1, M2, B1, B2, rfl, hf, L1, L2, k1, k2, hlt, q⟩ := h
  refine ⟨_, (pss_cons (ps_par (i := 3) (j := 4) (by rfl) sc__law_joint.nd rfl rfl (by decide) rfl rfl (pa_cons (pe_lst (pa_cons (pe_tup (pa_cons pe_int (pa_cons pe_int pa_nil))) pa_nil)) (pa_cons (pe_lst pa_nil) pa_nil)) (by rfl))
      (pss_cons (ps_for PassesOwn.never rfl (pi_range1 (by rfl) T.z_range (pa_cons pe_int pa_nil)) (pg_name (i := 5) sc__law_joint.nd rfl (.inl rfl))
        (pss_one (ps_if (pt_cmpR op_lt (pv 5) (pe_callB call_len_seq (by rfl) T.z_len (by decide +kernel) (pa_cons (pv 3) pa_nil)) (nomark _)) (pss_cons (ps_set (i := 6) sc__law_joint.nd rfl (.inl rfl) (pe_lst pa_nil))
      (pss_cons (ps_for PassesOwn.never rfl (pi_enumG (by rfl) T.z_enumerate (pa_cons (pv 0) pa_nil)) (pg_tup rfl (pgs_cons (pg_name (i := 7) sc__law_joint.nd rfl (.inl rfl)) (pgs_cons (pg_name (i := 8) sc__law_joint.nd rfl (.inl rfl)) pgs_nil)))
        (pss_cons (ps_set (i := 9) sc__law_joint.nd rfl (.inl rfl) (pe_tup (pa_cons (pe_ix ix_tup (pe_ix ix_list (pe_ix ix_list (pv 1) pe_int (fun _ _ => rfl)) (pe_ix ix_tup (pe_ix ix_list (pv 3) (pv 5) (fun _ _ => rfl)) pe_int (fun _ _ => rfl)) (fun _ _ => rfl)) (pv 7) (fun _ _ => rfl)) (pa_cons (pe_ix ix_tup (pe_ix ix_list (pe_ix ix_list (pv 2) pe_int (fun _ _ => rfl)) (pe_ix ix_tup (pe_ix ix_list (pv 3) (pv 5) (fun _ _ => rfl)) pe_int (fun _ _ => rfl)) (fun _ _ => rfl)) (pv 7) (fun _ _ => rfl)) pa_nil))))
      (pss_cons (ps_as (ps_if (pt_cmpR (op_notInD (hu65 hr)) (pv 9) (pv 3) (by rfl)) (pss_one (ps_expr (pe_bm PySem.F.plainAttrs_list PySem.F.slot_list_append PySem.F.type_list_append mt_append (pv 3) (pa_cons (pv 9) pa_nil)))) pss_nil))
      (pss_one (ps_expr (pe_bm PySem.F.plainAttrs_list PySem.F.slot_list_append PySem.F.type_list_append mt_append (pv 6) (pa_cons (pe_bm PySem.F.plainAttrs_list PySem.F.slot_list_index PySem.F.type_list_index (mt_indexD (hu65 hr)) (pv 3) (pa_cons (pv 9) pa_nil)) pa_nil)))))))
      (pss_one (ps_expr (pe_bm PySem.F.plainAttrs_list PySem.F.slot_list_append PySem.F.type_list_append mt_append (pv 4) (pa_cons (pe_callTy call_tuple_of (by rfl) T.z_tuple (by decide +kernel) (pa_cons (pv 6) pa_nil)) pa_nil)))))) pss_nil)))
      (pss_one (ps_ret (pe_lst (pa_cons (pv 3) (pa_cons (pv 4) pa_nil))))))), ?_⟩
  refine ⟨(show 2 ≤ sizeLine by decide), fun t nt => ?_⟩
  have s1 := same_upd (o := HO.tup [V.int 0, V.int 0]) nt
  have ht1 : (upd H t (.tup [V.int 0, V.int 0])) t = some (.tup (prV (0, 0))) := upd_same
  generalize upd H t (.tup [V.int 0, V.int 0]) = H1 at s1 ht1 ⊢
  refine ⟨(show 1 ≤ sizeLine by decide), fun a na => ?_⟩
  have s2 := same_upd (o := HO.lst [V.ref t]) na
  have ha2 : (upd H1 a (.lst [V.ref t])) a = some (.lst [V.ref t]) := upd_same
  have ht2 := s2 _ _ ht1
  have na0 := none_same s1 na
  have s02 := s1.trans s2
  generalize upd H1 a (.lst [V.ref t]) = H2 at s02 ha2 ht2 ⊢
  clear s2 ht1 na
  refine ⟨(show 0 ≤ sizeLine by decide), fun b nb => ?_⟩
  have s3 := same_upd (o := HO.lst []) nb
  have hb3 : (upd H2 b (.lst [])) b = some (.lst []) := upd_same
  have ha3 := s3 _ _ ha2
  have ht3 := s3 _ _ ht2
  have nb0 := none_same s02 nb
  have s03 := s02.trans s3
  have ab : a ≠ b := ne_of_none ha2 nb
  generalize upd H2 b (.lst []) = H3 at s03 ha3 ht3 hb3 ⊢
  clear s3 ht2 ha2 nb s02
  have p0 : PairsT H3 [V.ref t] [(0, 0)] := ⟨rfl, fun i v q h1 h2 => by
    match i with
    | 0 =>
      cases h1
      cases h2
      exact ⟨t, rfl, ht3⟩
    | i + 1 => cases h1⟩
  refine ⟨_, _, rfl, 40, rfl, by omega, by omega, ?_⟩
  refine for_range (n := ((40 : Int)).toNat) (fun i σ H' => ∃ (P : List Pr) (T : List (List Nat)) (us ws : List V) (y5 y6 y7 y8 y9 : Option V), σ = [some (.str (S fs)), some (.ref p1), some (.ref p2), some (.ref a), some (.ref b), y5, y6, y7, y8, y9] ∧ Same H H' ∧ H' a = some (.lst us) ∧ PairsT H' us P ∧ H' b = some (.lst ws) ∧ RowsAt H' ws T ∧ JointS M1 M2 P T ∧ P = jointN M1 M2 T.length ∧ (T.length = i ∨ T.length = P.length ∧ T.length ≤ i))
    ⟨[(0, 0)], [], [V.ref t], [], none, none, none, none, none, rfl, s03, ha3, p0, hb3, ⟨rfl, fun i v r h => by cases h⟩, JointS.start k1.l1 k2.l1, rfl, .inl rfl⟩ ?_ ?_
  · rintro i σ H7 hi ⟨P, T, us, ws, y5, y6, y7, y8, y9, rfl, s7, ha7, p7, hb7, r7, J, hJ, hT⟩
    have few := J.few
    have le := J.le
    refine ⟨_, rfl, _, rfl, a, _, rfl, .inl (SqL.of ha7), _, _, rfl, rfl, _, rfl, ?_⟩
    refine ite_dec (fun hlt2 => ?_) (fun hge => ?_)
    · have hip : i < P.length := by
        rw [p7.1] at hlt2
        omega
      have hTi : T.length = i := by omega
      obtain ⟨q0, hq0⟩ : ∃ q0, P[i]? = some q0 := ⟨_, List.getElem?_eq_getElem hip⟩
      obtain ⟨v0, hv0⟩ : ∃ v0, us[i]? = some v0 := ⟨_, List.getElem?_eq_getElem (by rw [p7.1]; exact hip)⟩
      obtain ⟨x0, rfl, hx0⟩ := p7.2 _ _ _ hv0 hq0
      obtain ⟨lq, rq⟩ := q0
      have hin := J.lt _ (List.mem_of_getElem? hq0)
      refine ⟨(show 0 ≤ sizeLine by decide), fun rw nrw => ?_⟩
      have s8 := same_upd (o := HO.lst []) nrw
      have hrw8 : (upd H7 rw (.lst [])) rw = some (.lst (([] : List Nat).map nI)) := upd_same
      have rwa : rw ≠ a := (ne_of_none ha7 nrw).symm
      have rwb : rw ≠ b := (ne_of_none hb7 nrw).symm
      have rw0 := none_same s7 nrw
      have ha8 := s8 _ _ ha7
      have hb8 := s8 _ _ hb7
      have hx8 := s8 _ _ hx0
      have p8 := p7.keep fun x q h => s8 _ _ h
      have r8 := r7.same s8
      have s08 := s7.trans s8
      generalize upd H7 rw (.lst []) = H8 at hrw8 ha8 hb8 hx8 p8 r8 s08 ⊢
      clear s8 nrw ha7 hb7 p7 r7 hx0 s7
      obtain ⟨w1, hw1⟩ : ∃ w1, rs1[lq]? = some w1 := ⟨_, List.getElem?_eq_getElem (by rw [L1.row.1]; exact hin.1)⟩
      obtain ⟨w2, hw2⟩ : ∃ w2, rs2[rq]? = some w2 := ⟨_, List.getElem?_eq_getElem (by rw [L2.row.1]; exact hin.2)⟩
      have m1 : M1[lq]? = some (M1[lq]'hin.1) := List.getElem?_eq_getElem hin.1
      have m2 : M2[rq]? = some (M2[rq]'hin.2) := List.getElem?_eq_getElem hin.2
      have ln1 := (k1.rows _ (List.mem_of_getElem? m1)).1
      have ln2 := (k2.rows _ (List.mem_of_getElem? m2)).1
      generalize M1[lq]'hin.1 = g1 at m1 ln1
      generalize M2[rq]'hin.2 = g2 at m2 ln2
      obtain ⟨c1, rfl, hc1⟩ := L1.row.2 _ _ _ hw1 m1
      obtain ⟨c2, rfl, hc2⟩ := L2.row.2 _ _ _ hw2 m2
      have sd : sides M1 M2 (lq, rq) = g1.zip g2 := by
        unfold sides
        rw [m1, m2]
        rfl
      have hq0' : P[T.length]? = some (lq, rq) := by rw [hTi]; exact hq0
      have hJn := J.next k1 k2 hq0'
      have fewN := hJn.few
      have ln : (g1.zip g2).length = fs.length := by
        rw [List.length_zip, ln1, ln2, Nat.min_self]
      have pre : ∀ j, addAll P ((g1.zip g2).take j) <+: addAll P (g1.zip g2) := fun j => by
        have e : addAll P (g1.zip g2) = addAll (addAll P ((g1.zip g2).take j)) ((g1.zip g2).drop j) := by
          unfold addAll
          rw [← List.foldl_append, List.take_append_drop]
        rw [e]
        exact addAll_pre _ _
      have few40 : ∀ j, (addAll P ((g1.zip g2).take j)).length < 40 := fun j => by
        have h1 := (pre j).length_le
        rw [sd] at fewN
        omega
      refine ⟨_, rfl, .str (S fs), fs.map sgn, rfl, .s rfl, fun k ev src => ?_⟩
      refine for_it (walk_enumG (xs := fs.map sgn)) (fun j σ H' => ∃ (us' : List V) (y7 y8 y9 : Option V), σ = [some (.str (S fs)), some (.ref p1), some (.ref p2), some (.ref a), some (.ref b), some (.int (0 + (i : Int))), some (.ref rw), y7, y8, y9] ∧ (∀ z o, z ≠ a → z ≠ rw → H8 z = some o → H' z = some o) ∧
        H' a = some (.lst us') ∧ PairsT H' us' (addAll P ((g1.zip g2).take j)) ∧ H' rw = some (.lst ((rowP (addAll P ((g1.zip g2).take j)) ((g1.zip g2).take j)).map nI)))
        ⟨us, _, _, _, rfl, (fun z o _ _ h => h), ha8, p8, hrw8⟩ (fun j σ H' _ ⟨_, _, _, _, _, st, _⟩ => ?_) ?_ ?_
      · have s : Same H H' := fun z o hz => st z o (ne_of_none hz na0) (ne_of_none hz rw0) (s08 _ _ hz)
        cases k with
        | l a => cases ev
        | t a => cases ev
        | s x kk => cases ev; exact src
      · rintro j v σ H9 H10 hj ⟨us', y7, y8, y9, rfl, st9, ha9, p9, hrw9⟩ ⟨T', a1, b1', rfl, nT, rfl, hx1, hy1⟩
        obtain rfl : V.int (j : Nat) = a1 := Option.some.inj hx1
        have hj' : j < fs.length := by rwa [List.length_map] at hj
        have hy2 : (fs.map sgn)[j]? = some b1' := hy1
        obtain ⟨z1, g1j⟩ : ∃ z1, g1[j]? = some z1 := ⟨_, List.getElem?_eq_getElem (by omega)⟩
        obtain ⟨z2, g2j⟩ : ∃ z2, g2[j]? = some z2 := ⟨_, List.getElem?_eq_getElem (by omega)⟩
        have zj : (g1.zip g2)[j]? = some (z1, z2) := List.getElem?_zip_eq_some.mpr ⟨g1j, g2j⟩
        have tj : (g1.zip g2).take (j + 1) = (g1.zip g2).take j ++ [(z1, z2)] := by
          rw [List.take_add_one, zj]
          rfl
        have f9 := few40 j
        have f10 := few40 (j + 1)
        rw [tj, addAll_snoc] at f10 ⊢
        have sT := same_upd (o := HO.tup [V.int (j : Nat), b1']) nT
        have hT9 : (upd H9 T' (.tup [V.int (j : Nat), b1'])) T' = some (.tup [V.int (j : Nat), b1']) := upd_same
        have ha10 := sT _ _ ha9
        have hrw10 := sT _ _ hrw9
        have p10 := p9.keep fun x q h => sT _ _ h
        have st10 : ∀ z o, z ≠ a → z ≠ rw → H8 z = some o → (upd H9 T' (.tup [V.int (j : Nat), b1'])) z = some o := fun z o n1 n2 h => sT _ _ (st9 z o n1 n2 h)
        generalize upd H9 T' (.tup [V.int (j : Nat), b1']) = H10 at hT9 ha10 hrw10 p10 st10 ⊢
        clear sT nT ha9 hrw9 p9 st9
        have s10 : Same H H10 := fun z o hz => st10 z o (ne_of_none hz na0) (ne_of_none hz rw0) (s08 _ _ hz)
        refine ⟨T', _, rfl, SqT.of hT9, rfl, _, _, rfl, _, _, rfl, rfl, ?_⟩
        generalize hPj : addAll P ((g1.zip g2).take j) = P9 at f9 f10 p10 hrw10 ⊢
        have inP : ∀ q ∈ (g1.zip g2).take j, q ∈ P9 := fun q hq => by rw [← hPj]; exact addAll_mem q hq
        have hPi : P9[i]? = some (lq, rq) := by
          rw [← hPj]
          obtain ⟨tt, e⟩ := addAll_pre ((g1.zip g2).take j) P
          rw [← e, List.getElem?_append_left hip]
          exact hq0
        obtain ⟨v9, hv9⟩ : ∃ v9, us'[i]? = some v9 := ⟨_, List.getElem?_eq_getElem (by rw [p10.1]; exact (List.getElem?_eq_some_iff.mp hPi).1)⟩
        obtain ⟨x9, rfl, hx9⟩ := p10.2 _ _ _ hv9 hPi
        have eg1 : (g1.map nI)[j]? = some (nI z1) := by rw [List.getElem?_map, g1j]; rfl
        have eg2 : (g2.map nI)[j]? = some (nI z2) := by rw [List.getElem?_map, g2j]; rfl
        refine ⟨_, rfl, p1, _, 0, _, rfl, rfl, s10.seq L1.two, atI_nat (j := 0) rfl, _, rfl, _, rfl, a, _, _, _, rfl, rfl, SqL.of ha10, atI_of (show (0 : Int) + (i : Int) = ((i : Nat) : Int) by omega) hv9, x9, _, 0, _, rfl, rfl, SqT.of hx9, atI_nat (j := 0) rfl, t1, _, _, _, rfl, rfl, s10.seq L1.tab, atI_nat hw1, _, rfl, c1, _, _, _, rfl, rfl, s10.tup hc1, atI_nat eg1, ?_⟩
        refine ⟨_, rfl, p2, _, 0, _, rfl, rfl, s10.seq L2.two, atI_nat (j := 0) rfl, _, rfl, _, rfl, a, _, _, _, rfl, rfl, SqL.of ha10, atI_of (show (0 : Int) + (i : Int) = ((i : Nat) : Int) by omega) hv9, x9, _, 1, _, rfl, rfl, SqT.of hx9, atI_nat (j := 1) rfl, t2, _, _, _, rfl, rfl, s10.seq L2.tab, atI_nat hw2, _, rfl, c2, _, _, _, rfl, rfl, s10.tup hc2, atI_nat eg2, ?_⟩
        refine ⟨(show 2 ≤ sizeLine by decide), fun tt ntt => ?_⟩
        have sU := same_upd (o := HO.tup [nI z1, nI z2]) ntt
        have htt : (upd H10 tt (.tup [nI z1, nI z2])) tt = some (.tup (prV (z1, z2))) := upd_same
        have ha11 := sU _ _ ha10
        have hrw11 := sU _ _ hrw10
        have p11 := p10.keep fun x q h => sU _ _ h
        have st11 : ∀ z o, z ≠ a → z ≠ rw → H8 z = some o → (upd H10 tt (.tup [nI z1, nI z2])) z = some o := fun z o n1 n2 h => sU _ _ (st10 z o n1 n2 h)
        generalize upd H10 tt (.tup [nI z1, nI z2]) = H11 at htt ha11 hrw11 p11 st11 ⊢
        clear sU ntt ha10 hrw10 p10 st10 hx9 hT9 s10
        have tta : tt ≠ a := ne_of htt ha11 (by intro z; cases z)
        have ttr : tt ≠ rw := ne_of htt hrw11 (by intro z; cases z)
        have dpt : ∀ {G : Hp}, G tt = some (.tup (prV (z1, z2))) → Dp K G (.ref tt) (prP (z1, z2)) := fun h => .tup (SqT.of h) (.cons (.int _) (.cons (.int _) .nil))
        refine ⟨fun σ H' => ∃ us2 : List V, σ = [some (.str (S fs)), some (.ref p1), some (.ref p2), some (.ref a), some (.ref b), some (.int (0 + (i : Int))), some (.ref rw), some (nI j), some b1', some (.ref tt)] ∧ (∀ z o, z ≠ a → z ≠ rw → H8 z = some o → H' z = some o) ∧
          H' tt = some (.tup (prV (z1, z2))) ∧ H' a = some (.lst us2) ∧ PairsT H' us2 (addP P9 (z1, z2)) ∧ H' rw = some (.lst ((rowP P9 ((g1.zip g2).take j)).map nI)), ?_, ?_⟩
        · refine ⟨_, rfl, _, rfl, prP (z1, z2), P9.map prP, dpt htt, .lst (SqL.of ha11) (dp_pairs p11), prP_shaped _, prPs_shaped _, _, rfl, ?_⟩
          rw [prP_any]
          by_cases hm : (z1, z2) ∈ P9
          · rw [decide_eq_true hm]
            refine iteF ?_
            have ea : addP P9 (z1, z2) = P9 := if_pos hm
            rw [ea]
            exact ⟨us', rfl, st11, htt, ha11, p11, hrw11⟩
          · rw [decide_eq_false hm]
            have ea : addP P9 (z1, z2) = P9 ++ [(z1, z2)] := if_neg hm
            rw [ea] at f10 ⊢
            have us1 : us'.length < sizeLine := sz1 (by rw [p11.1]; omega)
            refine iteT ⟨_, rfl, .inl ⟨rfl, _, SqL.of ha11⟩, _, rfl, a, _, _, rfl, rfl, ha11, us1, ?_⟩
            refine ⟨us' ++ [V.ref tt], rfl, fun z o n1 n2 h => (upd_ne n1).trans (st11 z o n1 n2 h), (upd_ne tta).trans htt, upd_same, ?_, (upd_ne rwa).trans hrw11⟩
            exact PairsT.snoc (p11.keep fun x q h => (upd_ne (ne_of h ha11 (by intro z; cases z))).trans h) ((upd_ne tta).trans htt)
        · rintro _ H12 ⟨us2, rfl, st12, ht12, ha12, p12, hrw12⟩
          have lr : (rowP P9 ((g1.zip g2).take j)).length ≤ 26 := by
            unfold rowP
            rw [List.length_map, List.length_take, ln]
            omega
          obtain ⟨fa1, fa2⟩ := first_at (addP_mem (P := P9) (q := (z1, z2)))
          refine ⟨_, rfl, .inl ⟨rfl, _, SqL.of hrw12⟩, _, rfl, .inl ⟨rfl, _, SqL.of ha12⟩, _, rfl, a, _, prP (z1, z2), (addP P9 (z1, z2)).map prP, (addP P9 (z1, z2)).idxOf (z1, z2), prP (z1, z2), rfl, rfl, .lst (SqL.of ha12) (dp_pairs p12), dpt ht12, prPs_shaped _, prP_shaped _, fa1, by rw [prP_eqv]; exact decide_eq_true rfl, fa2, rw, _, _, rfl, rfl, hrw12, by rw [List.length_map]; exact sz1 (by omega), ?_⟩
          refine ⟨us2, _, _, _, rfl, fun z o n1 n2 h => (upd_ne n2).trans (st12 z o n1 n2 h), (upd_ne rwa.symm).trans ha12, p12.keep fun x q h => (upd_ne (ne_of h hrw12 (by intro z; cases z))).trans h, ?_⟩
          rw [upd_same]
          have e : rowP (addP P9 (z1, z2)) ((g1.zip g2).take j ++ [(z1, z2)]) = rowP P9 ((g1.zip g2).take j) ++ [(addP P9 (z1, z2)).idxOf (z1, z2)] := by
            rw [← rowP_pre (addP_pre P9 (z1, z2)) inP]
            unfold rowP
            rw [List.map_append]
            rfl
          rw [e, List.map_append]
          rfl
      · rintro σ H9 ⟨us', y7, y8, y9, rfl, st9, ha9, p9, hrw9⟩
        rw [show (fs.map sgn).length = (g1.zip g2).length from by rw [List.length_map, ln], List.take_of_length_le (Nat.le_refl _)] at p9 hrw9
        have hb9 := st9 _ _ ab.symm rwb.symm hb8
        refine ⟨_, rfl, .inl ⟨rfl, _, SqL.of hb9⟩, _, rfl, rw, _, rfl, .inl ⟨SqL.of hrw9, fun tp ntp => ?_⟩⟩
        have sV := same_upd (o := HO.tup ((rowP (addAll P (g1.zip g2)) (g1.zip g2)).map nI)) ntp
        have htp : (upd H9 tp (.tup ((rowP (addAll P (g1.zip g2)) (g1.zip g2)).map nI))) tp = some (.tup ((rowP (addAll P (g1.zip g2)) (g1.zip g2)).map nI)) := upd_same
        have hb10 := sV _ _ hb9
        have ha10 := sV _ _ ha9
        have p10 := p9.keep fun x q h => sV _ _ h
        have st10 : ∀ z o, z ≠ a → z ≠ rw → H8 z = some o → (upd H9 tp (.tup ((rowP (addAll P (g1.zip g2)) (g1.zip g2)).map nI))) z = some o := fun z o n1 n2 h => sV _ _ (st9 z o n1 n2 h)
        generalize upd H9 tp (.tup ((rowP (addAll P (g1.zip g2)) (g1.zip g2)).map nI)) = H10 at htp hb10 ha10 p10 st10 ⊢
        clear sV ntp hb9 ha9 p9 st9 hrw9
        have tpb : tp ≠ b := ne_of htp hb10 (by intro z; cases z)
        have r10 : RowsAt H10 ws T := ⟨r8.1, fun i v r h1 h2 => let ⟨x, e, hx⟩ := r8.2 i v r h1 h2; ⟨x, e, st10 _ _ (ne_of hx ha8 (by intro z; cases z)) (ne_of hx hrw8 (by intro z; cases z)) hx⟩⟩
        refine ⟨b, _, _, rfl, rfl, hb10, sz1 (by rw [r10.1]; omega), ?_⟩
        have far : ∀ {z : Addr} {o : HO}, z ≠ b → H10 z = some o → (upd H10 b (.lst (ws ++ [V.ref tp]))) z = some o := fun n h => (upd_ne n).trans h
        refine ⟨addAll P (g1.zip g2), T ++ [rowP (addAll P (g1.zip g2)) (g1.zip g2)], us', ws ++ [V.ref tp], _, _, _, _, _, rfl, fun z o hz => far (ne_of_none hz nb0) (st10 z o (ne_of_none hz na0) (ne_of_none hz rw0) (s08 _ _ hz)), far ab ha10, p10.keep fun x q h => far (ne_of h hb10 (by intro z; cases z)) h, upd_same, ?_, ?_, ?_, .inl ?_⟩
        · exact RowsAt.snoc ⟨r10.1, fun i v r h1 h2 => let ⟨x, e, hx⟩ := r10.2 i v r h1 h2; ⟨x, e, far (ne_of hx hb10 (by intro z; cases z)) hx⟩⟩ (far tpb htp)
        · rw [← sd]
          exact hJn
        · rw [List.length_append]
          show _ = jointN M1 M2 (T.length + 1)
          rw [jointN_succ (q := (lq, rq)) (by rw [← hJ]; exact hq0'), ← hJ, sd]
        · rw [List.length_append, hTi]
          rfl
    · have hge' : P.length ≤ i := by
        rw [p7.1] at hge
        omega
      exact ⟨P, T, us, ws, _, _, _, _, _, rfl, s7, ha7, p7, hb7, r7, J, hJ, .inr (by omega)⟩
  · rintro σ H7 ⟨P, T, us, ws, y5, y6, y7, y8, y9, rfl, s7, ha7, p7, hb7, r7, J, hJ, hT⟩
    have few := J.few
    have le := J.le
    have full : T.length = P.length := by
      rcases hT with h | h
      · have h' : T.length = 40 := h
        omega
      · exact h.1
    refine ⟨_, rfl, _, rfl, (show 2 ≤ sizeLine by decide), fun r nr => ?_⟩
    have s9 := same_upd (o := HO.lst [V.ref a, V.ref b]) nr
    exact q _ r a b P T us ws (s7.trans s9) upd_same (none_same s7 nr) na0 nb0 (s9 _ _ ha7) (p7.keep fun x q h => s9 _ _ h) (s9 _ _ hb7) (r7.same s9) J full hJ
end
end FW
namespace FW
open PySem PySem.Spec PyProof.Rows L2
/-- errors that bear how many at most -/
theorem fi_most {K : PySem.W.Frag} {C : Addr} {z : Str} (h : decide (z ∈ (["TooMany", "Full"] : List Str)) = true) (nf : PySem.W.findIn K (.ref C) (Str.ofString "most") = some none) (v : V) : FieldIs K C [("code", .str z), (Str.ofString "most", v)] z v := by
  have h' := of_decide_eq_true h
  have no : z ∉ (["InvalidLine", "InvalidStep", "InvalidTable", "InvalidBad", "InvalidPlan", "UnknownRoom"] : List Str) := fun m => by
    have : (["TooMany", "Full"] : List Str).all (fun y => !decide (y ∈ (["InvalidLine", "InvalidStep", "InvalidTable", "InvalidBad", "InvalidPlan", "UnknownRoom"] : List Str))) = true := by decide +kernel
    have := List.all_eq_true.mp this z h'
    rw [decide_eq_true m] at this
    cases this
  unfold FieldIs
  rw [if_neg no, if_pos h']
  exact ⟨nf, rfl⟩
end FW
namespace FW
open PySem PySem.Spec PyProof.Rows L2
-- more
section
variable {P : Program} {w : World} {K : PySem.W.Frag} {mg : Str → Option Value} {base : Heap}
abbrev s__law_field : Stmt := topS 33
theorem sc__law_field : FnScope ["_law_e"] ["_law_e"] (defScope s__law_field) := ⟨rfl, rfl, rfl, by decide +kernel, rfl, by decide +kernel, by decide +kernel⟩
theorem inV_strs (z : Str) : ∀ ts : List Str, inV (.str z) (ts.map V.str) = decide (z ∈ ts)
  | [] => rfl
  | t :: r => by
    have ih := inV_strs z r
    unfold inV at ih ⊢
    rw [List.map_cons, List.any_cons, ih]
    by_cases h : z = t
    · subst h
      rw [show eqV (.str z) (.str z) = true from beq_self_eq_true z, Bool.true_or]
      exact (decide_eq_true List.mem_cons_self).symm
    · rw [show eqV (.str t) (.str z) = false from beq_eq_false_iff_ne.mpr (Ne.symm h), Bool.false_or]
      by_cases h2 : z ∈ r
      · rw [decide_eq_true h2, decide_eq_true (List.mem_cons_of_mem _ h2)]
      · rw [decide_eq_false h2, decide_eq_false (fun q => (List.mem_cons.mp q).elim h h2)]
theorem all_strs : ∀ ts : List Str, (ts.map V.str).all flatV = true
  | [] => rfl
  | _ :: r => all_strs r
theorem ok__law_field {f : Addr} {fd : FuncData} (F : Fun K "_law_field" "_law_field" s__law_field f fd) : FnW P w K mg base 1 f fd ["_law_e"] (sp__law_field K) := by
  refine okW F sc__law_field (fun vs H Q E h => ?_) (fun cdv A outer s H vs Q p hr h => ?_)
  · obtain ⟨a, z, v, rfl, _⟩ := h
    rfl
  · obtain ⟨a, z, v, rfl, hc, q⟩ := h
    refine ⟨_, (pss_cons (ps_if (pt_cmpR op_in_seq (pe_xk (pv 0)) (pe_lst (pa_cons pe_str (pa_cons pe_str (pa_cons pe_str (pa_cons pe_str (pa_cons pe_str (pa_cons pe_str pa_nil))))))) (by rfl)) (pss_one (ps_ret (pe_xk (pv 0)))) pss_nil)
      (pss_cons (ps_if (pt_cmpR op_in_seq (pe_xk (pv 0)) (pe_lst (pa_cons pe_str (pa_cons pe_str pa_nil))) (by rfl)) (pss_one (ps_ret (pe_xk (pv 0)))) pss_nil)
      (pss_cons (ps_if (pt_cmpR op_in_seq (pe_xk (pv 0)) (pe_lst (pa_cons pe_str (pa_cons pe_str pa_nil))) (by rfl)) (pss_one (ps_ret (pe_xk (pv 0)))) pss_nil)
      (pss_cons (ps_if (pt_cmpR op_eq (pe_xk (pv 0)) pe_str (nomark _)) (pss_one (ps_ret (pe_xk (pv 0)))) pss_nil)
      (pss_one (ps_ret (pe_ifExp (pt_cmpR op_in_seq (pe_xk (pv 0)) (pe_lst (pa_cons pe_str (pa_cons pe_str (pa_cons pe_str (pa_cons pe_str pa_nil))))) (by rfl)) pe_non (pe_xk (pv 0))))))))), ?_⟩
    obtain ⟨C, dd, fs, h1, h2, h3, h4, h5, h6⟩ := hc
    unfold FieldIs at h6
    refine ⟨_, rfl, a, C, dd, fs, _, rfl, h1, h2, h3, h4, h5, ?_⟩
    refine ⟨(show 6 ≤ sizeLine by decide), fun p1 n1 => ?_⟩
    refine ⟨p1, (["InvalidLine", "InvalidStep", "InvalidTable", "InvalidBad", "InvalidPlan", "UnknownRoom"] : List Str).map V.str, rfl, .inl (SqL.of upd_same), rfl, all_strs _, _, rfl, ?_⟩
    have s1 : Same H _ := same_upd (o := HO.lst ((["InvalidLine", "InvalidStep", "InvalidTable", "InvalidBad", "InvalidPlan", "UnknownRoom"] : List Str).map V.str)) n1
    rw [if_neg Bool.false_ne_true, inV_strs]
    by_cases b1 : z ∈ (["InvalidLine", "InvalidStep", "InvalidTable", "InvalidBad", "InvalidPlan", "UnknownRoom"] : List Str)
    · rw [decide_eq_true b1]
      rw [if_pos b1] at h6
      exact iteT ⟨_, rfl, a, C, dd, fs, _, rfl, s1 _ _ h1, s1 _ _ h2, h3, h6.1, h6.2, q _ s1⟩
    rw [decide_eq_false b1]
    rw [if_neg b1] at h6
    refine iteF ?_
    refine ⟨_, rfl, a, C, dd, fs, _, rfl, s1 _ _ h1, s1 _ _ h2, h3, h4, h5, ?_⟩
    refine ⟨(show 2 ≤ sizeLine by decide), fun p2 n2 => ?_⟩
    refine ⟨p2, (["TooMany", "Full"] : List Str).map V.str, rfl, .inl (SqL.of upd_same), rfl, all_strs _, _, rfl, ?_⟩
    have s2 := s1.trans (same_upd (o := HO.lst ((["TooMany", "Full"] : List Str).map V.str)) n2)
    rw [if_neg Bool.false_ne_true, inV_strs]
    by_cases b2 : z ∈ (["TooMany", "Full"] : List Str)
    · rw [decide_eq_true b2]
      rw [if_pos b2] at h6
      exact iteT ⟨_, rfl, a, C, dd, fs, _, rfl, s2 _ _ h1, s2 _ _ h2, h3, h6.1, h6.2, q _ s2⟩
    rw [decide_eq_false b2]
    rw [if_neg b2] at h6
    refine iteF ?_
    refine ⟨_, rfl, a, C, dd, fs, _, rfl, s2 _ _ h1, s2 _ _ h2, h3, h4, h5, ?_⟩
    refine ⟨(show 2 ≤ sizeLine by decide), fun p3 n3 => ?_⟩
    refine ⟨p3, (["InvalidText", "InvalidPage"] : List Str).map V.str, rfl, .inl (SqL.of upd_same), rfl, all_strs _, _, rfl, ?_⟩
    have s3 := s2.trans (same_upd (o := HO.lst ((["InvalidText", "InvalidPage"] : List Str).map V.str)) n3)
    rw [if_neg Bool.false_ne_true, inV_strs]
    by_cases b3 : z ∈ (["InvalidText", "InvalidPage"] : List Str)
    · rw [decide_eq_true b3]
      rw [if_pos b3] at h6
      exact iteT ⟨_, rfl, a, C, dd, fs, _, rfl, s3 _ _ h1, s3 _ _ h2, h3, h6.1, h6.2, q _ s3⟩
    rw [decide_eq_false b3]
    rw [if_neg b3] at h6
    refine iteF ?_
    refine ⟨_, rfl, a, C, dd, fs, _, rfl, s3 _ _ h1, s3 _ _ h2, h3, h4, h5, rfl, _, rfl, ?_⟩
    by_cases b4 : z = "UnknownState"
    · rw [show decide (V.str z = V.str "UnknownState") = true from decide_eq_true (congrArg V.str b4)]
      rw [if_pos b4] at h6
      exact iteT ⟨_, rfl, a, C, dd, fs, _, rfl, s3 _ _ h1, s3 _ _ h2, h3, h6.1, h6.2, q _ s3⟩
    rw [show decide (V.str z = V.str "UnknownState") = false from decide_eq_false fun e => b4 (V.str.inj e)]
    rw [if_neg b4] at h6
    refine iteF ?_
    refine ⟨_, rfl, a, C, dd, fs, _, rfl, s3 _ _ h1, s3 _ _ h2, h3, h4, h5, ?_⟩
    refine ⟨(show 4 ≤ sizeLine by decide), fun p4 n4 => ?_⟩
    refine ⟨p4, (["InvalidPaper", "OtherFaces", "OtherCutters", "NothingLeft"] : List Str).map V.str, rfl, .inl (SqL.of upd_same), rfl, all_strs _, _, rfl, ?_⟩
    have s4 := s3.trans (same_upd (o := HO.lst ((["InvalidPaper", "OtherFaces", "OtherCutters", "NothingLeft"] : List Str).map V.str)) n4)
    rw [if_neg Bool.false_ne_true, inV_strs]
    by_cases b5 : z ∈ (["InvalidPaper", "OtherFaces", "OtherCutters", "NothingLeft"] : List Str)
    · rw [decide_eq_true b5]
      rw [if_pos b5] at h6
      subst h6
      exact iteT (q _ s4)
    rw [decide_eq_false b5]
    rw [if_neg b5] at h6
    exact iteF ⟨_, rfl, a, C, dd, fs, _, rfl, s4 _ _ h1, s4 _ _ h2, h3, h6.1, h6.2, q _ s4⟩
abbrev s__law_try : Stmt := topS 34
theorem sc__law_try : FnScope ["_law_ask", "_law_e"] ["_law_ask"] (defScope s__law_try) := ⟨rfl, rfl, rfl, by decide +kernel, rfl, by decide +kernel, by decide +kernel⟩
theorem gives__law_try {X : Cx} {g fF C1 C2 C3 : Addr} {fdF : FuncData} {cdg : Value} {q : Str} {k : Nat} (F : FnW X.prog X.w X.K X.mg X.base 1 fF fdF ["_law_e"] (sp__law_field X.K)) (mF : X.mg "_law_field" = some (.ref fF)) (kF : PySem.W.keepIn X.K (.ref fF) = true) (bF : Binds X.K fdF ["_law_e"] [])
    (g1 : X.mg "HouseError" = some (.ref C1)) (g2 : X.mg "Missing" = some (.ref C2)) (g3 : X.mg "NothingLeft" = some (.ref C3)) (hr : Room (k + 3) X.A) :
    LamX.GivesTo X ["_law_ask", "_law_e"] "_law_try" (defScope s__law_try) g cdg (defBody s__law_try) "_law_ask" q (TTry X.K [.ref C1, .ref C2, .ref C3]) := by
  intro f c' s H Q tl act hc h
  have hrm : ∀ (a : Addr) (env : Env), L2H.RoomH 1 ((X.A.deeper env).mark (some (.ref a))) := fun a env => ⟨by
    have z := hr.dp
    show X.A.depth + 1 + 3 * 1 + 5 < _
    omega, by
    have z := hr.un
    show X.A.units + 3 + 16 * 1 + 200 < _
    omega⟩
  refine ⟨_, pss_one (ps_try3 (X := (cxOf C8.CX0 X.prog X.w X.K X.mg X.base ["_law_ask", "_law_e"] "_law_try" (defScope s__law_try) g cdg X.A X.stack s H C8.E0).nox) (C1 := C1) (C2 := C2) (C3 := C3) (i := 1)
      (ts := tRet (tTup (tCons (tXk X.K "code" (tVar 1)) (tCons (fun σ H Q => tCons (tVar 1) tNil σ H fun vs H1 => sp__law_field X.K vs H1 Q E0) tNil))))
      (tb := fun W D σ H => ∃ Ech : XK, (∀ cls d σ' H', Ech cls d H' → W cls d σ' H') ∧ σ[0]? = some (some (.ref f)) ∧ H c' = some (LamX.CodeO c' q) ∧ tl Ech H fun v H1 => [V.str "", v].length ≤ sizeLine ∧ ∀ p, H1 p = none → D.rt (.ref p) (upd H1 p (.tup [.str "", v])))
      rfl rfl rfl sc__law_try.nd rfl rfl (by rfl) g1 (by rfl) g2 (by rfl) g3 (fun W pn xe tk _ => ?body) (fun a pn => ?suite)), ?read⟩
  case suite => exact pss_one (ps_ret (pe_tup (pa_cons (pe_xk (pv 1)) (pa_cons (pe_callW F (hrm a _) (by rfl) mF kF bF (pa_cons (pv 1) pa_nil)) pa_nil))))
  case body =>
    refine ⟨fun pins s' σ H' D I h' => ?_⟩
    obtain ⟨Ech, hW, h1, h2, h3⟩ := h'
    have hp := fun p1 p2 => act W pn xe Ech p1 p2 tk hW
    refine (pss_one (ps_ret (pe_tup (pa_cons pe_str (pa_cons (hp _ _) pa_nil))))).run pins s' σ H' D I ⟨h1, h2, h3⟩
  case read =>
    refine ⟨_, fun cls d σ' H' h' => ?_, rfl, hc, h⟩
    obtain ⟨he, ha⟩ := h'
    refine ⟨he, fun a na hl => ?_⟩
    obtain ⟨z, v, hcg, hq⟩ := ha a na
    have hlt : 1 < σ'.length := by
      rw [hl]
      exact (by decide : 1 < 2)
    have e1 : (σ'.set 1 (some (V.ref a)))[1]? = some (some (.ref a)) := List.getElem?_set_self hlt
    have hcg2 := hcg
    obtain ⟨C, dd, fs, h1, h2, h3, h4, h5, h6⟩ := hcg2
    refine ⟨_, e1, a, C, dd, fs, _, rfl, h1, h2, h3, h4, h5, _, e1, a, z, v, rfl, hcg, fun H2 sm => ?_⟩
    exact ⟨(show 2 ≤ sizeLine by decide), fun p np => hq H2 sm p np⟩
abbrev s__law_tries : Stmt := topS 35
theorem sc__law_tries : FnScope ["_law_asks", "_law_ask"] ["_law_asks"] (defScope s__law_tries) := ⟨rfl, rfl, rfl, by decide +kernel, rfl, by decide +kernel, by decide +kernel⟩
theorem ok__law_tries {b0 : Heap} {k : Nat} {f g fF C1 C2 C3 : Addr} {fd fdg fdF : FuncData} (F : Fun K "_law_tries" "_law_tries" s__law_tries f fd) (m : Mod K mg b0) (sub : ∀ b o, b0.get? b = some o → base.get? b = some o) (sz : b0.objs.size ≤ base.objs.size)
    (G : Fun K "_law_try" "_law_try" s__law_try g fdg) (mG : mg "_law_try" = some (.ref g)) (bG : Binds K fdg ["_law_ask"] [])
    (FF : FnW P w K mg base 1 fF fdF ["_law_e"] (sp__law_field K)) (mF : mg "_law_field" = some (.ref fF)) (kF : PySem.W.keepIn K (.ref fF) = true) (bF : Binds K fdF ["_law_e"] [])
    (g1 : mg "HouseError" = some (.ref C1)) (g2 : mg "Missing" = some (.ref C2)) (g3 : mg "NothingLeft" = some (.ref C3)) :
    FnOk P w K mg base CX0 (k + 4) f fd ["_law_asks"] (sp_tries P w K mg b0 base k [.ref C1, .ref C2, .ref C3]) := by
  obtain ⟨oc, od, kV, doc, pm, an, cdv, ct, osl, rfl, lk, hcd⟩ := G.ex
  refine F.ok sc__law_tries (fun vs H Q E h => ?_) (fun cdv A outer s H vs Q E hr h => ?_)
  · obtain ⟨l, fs, rfl, _⟩ := h
    rfl
  obtain ⟨l, fs, rfl, hn, hl, hc⟩ := h
  refine ⟨_, pss_one (ps_ret (pe_lc (own := [("_law_ask", 1)]) (g := gName 1) (te := tItem P w K mg b0 base k [.ref C1, .ref C2, .ref C3] 1) (by rfl) sc__law_tries.nd (pi_list (pv 0)) (blkOk_by (N := ["_law_asks", "_law_ask"]) (sc := defScope s__law_tries) (by decide +kernel)) (fun _ _ _ _ _ => pg_name (i := 1) sc__law_tries.nd rfl (.inl rfl)) (fun _ _ _ _ _ => pts_nil)
    (fun s1 H1 C cl fp => pe_item (a := "_law_ask") m sub sz (by rfl) mG G.kp lk hcd bG sc__law_try rfl (.inl rfl) (fun q => gives__law_try FF mF kF bF g1 g2 g3 hr) (hr.mono (by omega)) rfl (.inl rfl)))), ?_⟩
  refine ⟨.ref l, rfl, l, rfl, ⟨_, .inl (.inl hl)⟩, fun D nD => ?_⟩
  exact chain_walk (fun x => rfl) (show 1 < 2 by decide) hn nD hl (hc D nD)
theorem RowsAt.extN {H H' : Hp} {rs : List V} {M : List (List Nat)} (h : RowsAt H rs M) (s : LamX.ExtN H H') : RowsAt H' rs M := ⟨h.1, fun i v r h1 h2 => let ⟨a, e, ha⟩ := h.2 i v r h1 h2; ⟨a, e, s _ _ ha (fun _ z => by cases z)⟩⟩
theorem sqT_extN {H H' : Hp} {a : Addr} {xs : List V} (h : SqT K H a xs) (s : LamX.ExtN H H') : SqT K H' a xs := by
  rcases h with (h | ⟨o, h⟩) | h
  · exact .inl (.inl (s _ _ h (fun ws z => by cases z)))
  · exact .inl (.inr ⟨o, s _ _ h (fun ws z => by cases z)⟩)
  · exact .inr h
theorem MachAt.extN {CM : Addr} {H H' : Hp} {x : Addr} {F : List Nat} {M : List (List Nat)} {B : List Nat} (k : MachAt K CM H x F M B) (s : LamX.ExtN H H') : MachAt K CM H' x F M B := by
  obtain ⟨dx, tt, bt, rs, h, kk⟩ := k.at_
  exact ⟨⟨dx, tt, bt, rs, s _ _ h (fun ws z => by cases z), ⟨s _ _ kk.tab (fun ws z => by cases z), kk.len, fun i v r h1 h2 => let ⟨a, e, h⟩ := kk.rows i v r h1 h2; ⟨a, e, sqT_extN h s⟩, sqT_extN kk.bad s⟩⟩, k.fl, k.tab, k.bad⟩
/-- the drawn machine as it is written and as it is made -/
structure SitQ (K : PySem.W.Frag) (TL : List (Addr × Str)) (CM : Addr) (H : Hp) (b l p t u x : Addr) (F : List Nat) (rs : List V) (M : List (List Nat)) (B : List Nat) : Prop where
  bag : Bag H b l
  tabs : LamX.Tabs TL H
  hp : H p = some (.lst [.ref t, .ref u])
  ht : H t = some (.lst rs)
  hu : H u = some (.lst (B.map nI))
  hR : RowsAt H rs M
  hX : MachAt K CM H x F M B
  pb : p ≠ b
  tb : t ≠ b
  ub : u ≠ b
section
variable {TL : List (Addr × Str)} {CM : Addr} {H H' : Hp} {b l p t u x : Addr} {F : List Nat} {rs : List V} {M : List (List Nat)} {B : List Nat}
theorem SitQ.same (h : SitQ K TL CM H b l p t u x F rs M B) (s : Same H H') : SitQ K TL CM H' b l p t u x F rs M B := ⟨h.bag.same s, h.tabs.ext s, s _ _ h.hp, s _ _ h.ht, s _ _ h.hu, h.hR.same s, h.hX.same s, h.pb, h.tb, h.ub⟩
theorem SitQ.drawn (h : SitQ K TL CM H b l p t u x F rs M B) (s : But b H H') (Bg : Bag H' b l) : SitQ K TL CM H' b l p t u x F rs M B := by
  obtain ⟨xs, hb⟩ := h.bag.la
  exact ⟨Bg, tabs_drawn h.tabs h.bag s, s _ _ h.pb h.hp, s _ _ h.tb h.ht, s _ _ h.ub h.hu, h.hR.but hb s, h.hX.nl (fun c o e n => s _ _ (fun z => by
    rw [z, hb] at e
    cases e
    exact n _ rfl) e), h.pb, h.tb, h.ub⟩
theorem SitQ.ext (h : SitQ K TL CM H b l p t u x F rs M B) (s : LamX.ExtN H H') (T : LamX.Tabs TL H') : SitQ K TL CM H' b l p t u x F rs M B := ⟨h.bag.ext s, T, s _ _ h.hp (fun _ z => by cases z), s _ _ h.ht (fun _ z => by cases z), s _ _ h.hu (fun _ z => by cases z), h.hR.extN s, h.hX.extN s, h.pb, h.tb, h.ub⟩
theorem SitQ.rows (h : SitQ K TL CM H b l p t u x F rs M B) : RowsT K H rs M := ⟨h.hR.1, fun i v r h1 h2 => let ⟨a, e, ha⟩ := h.hR.2 i v r h1 h2; ⟨a, e, SqT.of ha⟩⟩
theorem SitQ.ml (h : SitQ K TL CM H b l p t u x F rs M B) : MachL K H p t u rs M B := ⟨SqL.of h.hp, SqL.of h.ht, h.rows, SqL.of h.hu⟩
end
/-- the ring of n states -/
def ringT (n : Nat) : List (List Nat) := (List.range n).map fun s => [(s + 1) % n]
theorem ring_len (n : Nat) : (ringT n).length = n := by
  unfold ringT
  rw [List.length_map, List.length_range]
theorem ring_ok {n : Nat} (h1 : 1 ≤ n) (h2 : n ≤ 200) : TabOk 1 (ringT n) := ⟨by rw [ring_len]; exact h1, by rw [ring_len]; exact h2, fun r hr => by
  obtain ⟨s, _, rfl⟩ := List.mem_map.mp hr
  refine ⟨rfl, fun z hz => ?_⟩
  rw [List.mem_singleton.mp hz, ring_len]
  exact Nat.mod_lt _ h1⟩
theorem ring_step {n s c : Nat} (hs : s < n) : stepM [c] (ringT n) s c = (s + 1) % n := by
  unfold stepM ringT
  simp [hs]
theorem ring_run {n : Nat} (h1 : 1 ≤ n) (c : Nat) {s : Nat} (hs : s < n) : ∀ k, runM [c] (ringT n) s (List.replicate k c) = (s + k) % n
  | 0 => (Nat.mod_eq_of_lt hs).symm
  | k + 1 => by
    rw [List.replicate_succ', runM_snoc, ring_run h1 c hs k, ring_step (Nat.mod_lt _ h1), Nat.mod_add_mod]
    rfl
/-! the rings of m and n states side by side -/
theorem lcm_pos {m n : Nat} (hm : 0 < m) (hn : 0 < n) : 0 < Nat.lcm m n := Nat.pos_of_ne_zero fun e => by
  rcases Nat.lcm_eq_zero_iff.mp e with h | h <;> omega
theorem pr_ne {m n i j : Nat} (hij : i < j) (hj : j < Nat.lcm m n) (h1 : i % m = j % m) (h2 : i % n = j % n) : False := by
  have d1 : m ∣ j - i := Nat.dvd_of_mod_eq_zero (Nat.sub_mod_eq_zero_of_mod_eq h1.symm)
  have d2 : n ∣ j - i := Nat.dvd_of_mod_eq_zero (Nat.sub_mod_eq_zero_of_mod_eq h2.symm)
  have h := Nat.le_of_dvd (by omega) (Nat.lcm_dvd d1 d2)
  omega
def orbit (m n k : Nat) : List Pr := (List.range k).map fun i => (i % m, i % n)
theorem orbit_len (m n k : Nat) : (orbit m n k).length = k := by
  unfold orbit
  rw [List.length_map, List.length_range]
theorem orbit_succ (m n k : Nat) : orbit m n (k + 1) = orbit m n k ++ [(k % m, k % n)] := by
  unfold orbit
  rw [List.range_succ, List.map_append]
  rfl
theorem ring_at {m s : Nat} (hs : s < m) : (ringT m)[s]? = some [(s + 1) % m] := by
  unfold ringT
  rw [List.getElem?_map, List.getElem?_range hs]
  rfl
theorem ring_joint {m n : Nat} (hm : 0 < m) (hn : 0 < n) : ∀ k, jointN (ringT m) (ringT n) k = orbit m n (min (k + 1) (Nat.lcm m n))
  | 0 => by
    have h := lcm_pos hm hn
    rw [show min (0 + 1) (Nat.lcm m n) = 1 by omega]
    show [(0, 0)] = [(0 % m, 0 % n)]
    rw [Nat.zero_mod, Nat.zero_mod]
  | k + 1 => by
    have ih := ring_joint hm hn k
    have h := lcm_pos hm hn
    by_cases hk : k < Nat.lcm m n
    · rw [show min (k + 1) (Nat.lcm m n) = k + 1 by omega] at ih
      have hat : (jointN (ringT m) (ringT n) k)[k]? = some (k % m, k % n) := by
        rw [ih]
        unfold orbit
        rw [List.getElem?_map, List.getElem?_range (Nat.lt_succ_self k)]
        rfl
      have sd : sides (ringT m) (ringT n) (k % m, k % n) = [((k + 1) % m, (k + 1) % n)] := by
        unfold sides
        show ((ringT m)[k % m]?.getD []).zip ((ringT n)[k % n]?.getD []) = _
        rw [ring_at (Nat.mod_lt _ hm), ring_at (Nat.mod_lt _ hn)]
        show [((k % m + 1) % m, (k % n + 1) % n)] = _
        rw [Nat.mod_add_mod, Nat.mod_add_mod]
      rw [jointN_succ hat, sd, ih]
      show addP (orbit m n (k + 1)) ((k + 1) % m, (k + 1) % n) = _
      by_cases hk2 : k + 1 < Nat.lcm m n
      · rw [show min (k + 1 + 1) (Nat.lcm m n) = k + 1 + 1 by omega, orbit_succ m n (k + 1)]
        refine if_neg fun hin => ?_
        unfold orbit at hin
        obtain ⟨i, hi, e⟩ := List.mem_map.mp hin
        have e1 : i % m = (k + 1) % m := congrArg Prod.fst e
        have e2 : i % n = (k + 1) % n := congrArg Prod.snd e
        exact pr_ne (List.mem_range.mp hi) hk2 e1 e2
      · have ek : k + 1 = Nat.lcm m n := by omega
        rw [show min (k + 1 + 1) (Nat.lcm m n) = k + 1 by omega]
        refine if_pos ?_
        unfold orbit
        refine List.mem_map.mpr ⟨0, List.mem_range.mpr (Nat.succ_pos _), ?_⟩
        rw [ek, Nat.mod_eq_zero_of_dvd (Nat.dvd_lcm_left m n), Nat.mod_eq_zero_of_dvd (Nat.dvd_lcm_right m n), Nat.zero_mod, Nat.zero_mod]
    · rw [jointN_none (by rw [ih, orbit_len]; omega), ih, show min (k + 1 + 1) (Nat.lcm m n) = min (k + 1) (Nat.lcm m n) by omega]
theorem ring_most {m n : Nat} (hm : 0 < m) (hn : 0 < n) {k : Nat} (h : 200 < (jointN (ringT m) (ringT n) k).length) : 200 < Nat.lcm m n := by
  rw [ring_joint hm hn, orbit_len] at h
  omega
theorem ring_full {m n : Nat} (hm : 0 < m) (hn : 0 < n) {P : List Pr} {T : List (List Nat)} (f : T.length = P.length) (e : P = jointN (ringT m) (ringT n) T.length) : T.length = Nat.lcm m n := by
  have h := congrArg List.length e
  rw [ring_joint hm hn, orbit_len, ← f] at h
  omega
/-- what both go into, up to k -/
def mults (m n k : Nat) : List Nat := ((List.range k).map (· + 1)).filter fun s => decide (s % m = 0) && decide (s % n = 0)
theorem mults_succ (m n k : Nat) : mults m n (k + 1) = mults m n k ++ if (k + 1) % m = 0 ∧ (k + 1) % n = 0 then [k + 1] else [] := by
  unfold mults
  rw [List.range_succ, List.map_append, List.filter_append]
  congr 1
  show ([k + 1].filter fun s => decide (s % m = 0) && decide (s % n = 0)) = _
  by_cases h : (k + 1) % m = 0 ∧ (k + 1) % n = 0
  · rw [if_pos h]
    simp [List.filter, h]
  · rw [if_neg h]
    have : (decide ((k + 1) % m = 0) && decide ((k + 1) % n = 0)) = false := by
      rw [Bool.and_eq_false_iff, decide_eq_false_iff_not, decide_eq_false_iff_not]
      exact Decidable.not_and_iff_or_not.mp h
    simp [List.filter, this]
theorem mults_len (m n k : Nat) : (mults m n k).length ≤ k := by
  unfold mults
  refine Nat.le_trans (List.length_filter_le ..) ?_
  rw [List.length_map, List.length_range]
  exact Nat.le_refl _
theorem mults_head {m n : Nat} (hm : 0 < m) (hn : 0 < n) : ∀ k, (k < Nat.lcm m n → mults m n k = []) ∧ (Nat.lcm m n ≤ k → (mults m n k)[0]? = some (Nat.lcm m n))
  | 0 => ⟨fun _ => rfl, fun h => absurd (lcm_pos hm hn) (by omega)⟩
  | k + 1 => by
    obtain ⟨h1, h2⟩ := mults_head hm hn k
    rw [mults_succ]
    refine ⟨fun h => ?_, fun h => ?_⟩
    · rw [h1 (by omega), if_neg fun hd => ?_]
      · rfl
      · have := Nat.le_of_dvd (by omega) (Nat.lcm_dvd (Nat.dvd_of_mod_eq_zero hd.1) (Nat.dvd_of_mod_eq_zero hd.2))
        omega
    · by_cases he : Nat.lcm m n ≤ k
      · have hh := h2 he
        rw [List.getElem?_append_left (List.getElem?_eq_some_iff.mp hh).1]
        exact hh
      · have ek : k + 1 = Nat.lcm m n := by omega
        rw [h1 (by omega), ek, if_pos ⟨Nat.mod_eq_zero_of_dvd (Nat.dvd_lcm_left m n), Nat.mod_eq_zero_of_dvd (Nat.dvd_lcm_right m n)⟩]
        rfl
theorem lcm_le {m n : Nat} (hm : 0 < m) (hn : 0 < n) : Nat.lcm m n ≤ m * n := Nat.le_of_dvd (Nat.mul_pos hm hn) (Nat.lcm_dvd_mul m n)
end
end FW
namespace FW
open PySem PySem.Spec PyProof.Rows L2
-- more
section
variable {P : Program} {w : World} {K : PySem.W.Frag} {mg : Str → Option Value} {base : Heap}
abbrev s_law : Stmt := topS 41
theorem sc_law : FnScope ["_law_script", "_law_bag", "_law_faces", "_law_one", "_law_two", "_law_pairs", "_law_rows", "_law_first", "_law_second", "_law_either", "_law_each", "_law_both", "_law_some", "_law_many", "_law_more", "_law_rings", "_law_whole", "_law_due", "_law_asks", "_law_at", "_law_pair", "_law_size"] ["_law_script"] (defScope s_law) := ⟨rfl, rfl, rfl, by decide +kernel, rfl, by decide +kernel, by decide +kernel⟩
abbrev lm (s : Stmt) (j : Nat) : Arguments × Expr × Scope := lamParts ((listOf s).getD j (.Constant .none 0 ⟨0, 0, 0, 0⟩))
abbrev XL (P : Program) (w : World) (K : PySem.W.Frag) (mg : Str → Option Value) (base : Heap) (f c : Addr) (A : Around) (outer : List Env) (s : Shared) (H : Hp) (E : XK) : Cx :=
  (cxOf CX0 P w K mg base ["_law_script", "_law_bag", "_law_faces", "_law_one", "_law_two", "_law_pairs", "_law_rows", "_law_first", "_law_second", "_law_either", "_law_each", "_law_both", "_law_some", "_law_many", "_law_more", "_law_rings", "_law_whole", "_law_due", "_law_asks", "_law_at", "_law_pair", "_law_size"] "law" (defScope s_law) f (.ref c) A outer s H E).nox
def sp_law (K : PySem.W.Frag) (Pt : Addr) : Sp := fun vs H Q _ => ∃ (a : Addr) (ns : List Int), vs = [.ref a] ∧ SqL K H a (ns.map V.int) ∧ ns.length ≤ 63 ∧ H Pt = some (.tbl #[]) ∧ ∀ H', Q (.bl true) H'
abbrev in_ring : Scope := { kind := .function, names := [(".0", .local), ("_law_size", .cell), ("Machine", .globalImplicit), ("range", .globalImplicit)], isGenerator := false, isCoroutine := false }
abbrev tabL (Pt f c : Addr) : List (Addr × Str) := [(Pt, (envOfC "law" (defScope s_law) 0 f (.ref c)).qual ++ "<lambda>")]
theorem ask_inv {CM x : Addr} {F : List Nat} {M : List (List Nat)} {B : List Nat} {H : Hp} {Q : VK} (hX : MachAt K CM H x F M B) (hb : bFaces (.str (S F)) = true) (q : ∀ H' z, Same H H' → H z = none → MachAt K CM H' z F M (goodL B M.length) → Q (.ref z) H') : rOwnU CM (sp_Machine_invert K CM) E0 (.ref x) H Q := by
  obtain ⟨dx, tt, bt, rs, hx, kk⟩ := hX.at_
  exact ⟨x, dx, _, rfl, hx, x, F, M, B, rfl, hX, hb, q⟩
/-- the drawn machines as they are written and made, and what was made of them -/
structure S15 (K : PySem.W.Frag) (CM b : Addr) (F : List Nat) (p t u x p' t' u' y : Addr) (rs rs' : List V) (M1 M2 : List (List Nat)) (B1 B2 : List Nat) (zs : List (Addr × List (List Nat) × List Nat)) (H : Hp) : Prop where
  hp : H p = some (.lst [.ref t, .ref u])
  ht : H t = some (.lst rs)
  hu : H u = some (.lst (B1.map nI))
  hR : RowsAt H rs M1
  hp' : H p' = some (.lst [.ref t', .ref u'])
  ht' : H t' = some (.lst rs')
  hu' : H u' = some (.lst (B2.map nI))
  hR' : RowsAt H rs' M2
  hX : MachAt K CM H x F M1 B1
  hY : MachAt K CM H y F M2 B2
  hz : ∀ z ∈ zs, MachAt K CM H z.1 F z.2.1 z.2.2
  ne : p ≠ b ∧ t ≠ b ∧ u ≠ b ∧ p' ≠ b ∧ t' ≠ b ∧ u' ≠ b
section
variable {CM b : Addr} {F : List Nat} {p t u x p' t' u' y : Addr} {rs rs' : List V} {M1 M2 : List (List Nat)} {B1 B2 : List Nat} {zs : List (Addr × List (List Nat) × List Nat)} {H H' : Hp}
theorem S15.same (h : S15 K CM b F p t u x p' t' u' y rs rs' M1 M2 B1 B2 zs H) (s : Same H H') : S15 K CM b F p t u x p' t' u' y rs rs' M1 M2 B1 B2 zs H' :=
  ⟨s _ _ h.hp, s _ _ h.ht, s _ _ h.hu, h.hR.same s, s _ _ h.hp', s _ _ h.ht', s _ _ h.hu', h.hR'.same s, h.hX.same s, h.hY.same s, fun z hz => (h.hz z hz).same s, h.ne⟩
theorem S15.drawn (h : S15 K CM b F p t u x p' t' u' y rs rs' M1 M2 B1 B2 zs H) {l : Addr} (Bg : Bag H b l) (s : But b H H') : S15 K CM b F p t u x p' t' u' y rs rs' M1 M2 B1 B2 zs H' := by
  obtain ⟨xs, hb⟩ := Bg.la
  obtain ⟨n1, n2, n3, n4, n5, n6⟩ := h.ne
  have nl : NL H H' := fun c o e n => s _ _ (fun z => by
    rw [z, hb] at e
    cases e
    exact n _ rfl) e
  exact ⟨s _ _ n1 h.hp, s _ _ n2 h.ht, s _ _ n3 h.hu, h.hR.but hb s, s _ _ n4 h.hp', s _ _ n5 h.ht', s _ _ n6 h.hu', h.hR'.but hb s, h.hX.nl nl, h.hY.nl nl, fun z hz => (h.hz z hz).nl nl, h.ne⟩
theorem S15.ext (h : S15 K CM b F p t u x p' t' u' y rs rs' M1 M2 B1 B2 zs H) (s : LamX.ExtN H H') : S15 K CM b F p t u x p' t' u' y rs rs' M1 M2 B1 B2 zs H' :=
  ⟨s _ _ h.hp (fun _ z => by cases z), s _ _ h.ht (fun _ z => by cases z), s _ _ h.hu (fun _ z => by cases z), h.hR.extN s, s _ _ h.hp' (fun _ z => by cases z), s _ _ h.ht' (fun _ z => by cases z), s _ _ h.hu' (fun _ z => by cases z), h.hR'.extN s, h.hX.extN s, h.hY.extN s, fun z hz => (h.hz z hz).extN s, h.ne⟩
theorem S15.put (h : S15 K CM b F p t u x p' t' u' y rs rs' M1 M2 B1 B2 zs H) {z : Addr} {M : List (List Nat)} {B : List Nat} (hz : MachAt K CM H z F M B) : S15 K CM b F p t u x p' t' u' y rs rs' M1 M2 B1 B2 ((z, M, B) :: zs) H :=
  ⟨h.hp, h.ht, h.hu, h.hR, h.hp', h.ht', h.hu', h.hR', h.hX, h.hY, fun w hw => by
    rcases List.mem_cons.mp hw with rfl | hw
    · exact hz
    · exact h.hz w hw, h.ne⟩
theorem S15.ml (h : S15 K CM b F p t u x p' t' u' y rs rs' M1 M2 B1 B2 zs H) : MachL K H p t u rs M1 B1 := ⟨SqL.of h.hp, SqL.of h.ht, ⟨h.hR.1, fun i v r h1 h2 => let ⟨a, e, ha⟩ := h.hR.2 i v r h1 h2; ⟨a, e, SqT.of ha⟩⟩, SqL.of h.hu⟩
theorem S15.ml' (h : S15 K CM b F p t u x p' t' u' y rs rs' M1 M2 B1 B2 zs H) : MachL K H p' t' u' rs' M2 B2 := ⟨SqL.of h.hp', SqL.of h.ht', ⟨h.hR'.1, fun i v r h1 h2 => let ⟨a, e, ha⟩ := h.hR'.2 i v r h1 h2; ⟨a, e, SqT.of ha⟩⟩, SqL.of h.hu'⟩
end
theorem ask_join {CM x y : Addr} {F : List Nat} {M1 M2 : List (List Nat)} {B1 B2 : List Nat} {g : Bool → Bool → Bool} {H : Hp} {Q : VK} (hX : MachAt K CM H x F M1 B1) (hY : MachAt K CM H y F M2 B2) (hb : bFaces (.str (S F)) = true) (hlt : M1.length * M2.length < 200)
    (q : ∀ H' z P T, Same H H' → H z = none → MachAt K CM H' z F T (badJ g P B1 B2) → JointS M1 M2 P T → T.length = P.length → P = jointN M1 M2 T.length → Q (.ref z) H') : rOwnB CM (sp_Machine_join K CM g) E0 (.ref x) (.ref y) H Q := by
  obtain ⟨dx, tt, bt, rs, hx, kk⟩ := hX.at_
  obtain ⟨dy, tt', bt', rs', hy, kk'⟩ := hY.at_
  exact ⟨x, dx, _, rfl, hx, .ins hy, x, y, F, M1, M2, B1, B2, rfl, hX, hY, hb, hlt, q⟩
theorem ask_joinE {CM CE x y : Addr} {F : List Nat} {M1 M2 : List (List Nat)} {B1 B2 : List Nat} {g : Bool → Bool → Bool} {H : Hp} {Q : VK} {E : XK} (hX : MachAt K CM H x F M1 B1) (hY : MachAt K CM H y F M2 B2) (hb : bFaces (.str (S F)) = true)
    (qE : ∀ H' d k, Same H H' → H' d = none → 200 < (jointN M1 M2 k).length → E (.ref CE) (some d) (upd H' d (Err1 "most" "TooMany" (.int 200))))
    (q : ∀ H' z P T, Same H H' → H z = none → MachAt K CM H' z F T (badJ g P B1 B2) → JointS M1 M2 P T → T.length = P.length → P = jointN M1 M2 T.length → P.length ≤ 200 → Q (.ref z) H') : rOwnB CM (sp_Machine_joinE K CM CE g) E (.ref x) (.ref y) H Q := by
  obtain ⟨dx, tt, bt, rs, hx, kk⟩ := hX.at_
  obtain ⟨dy, tt', bt', rs', hy, kk'⟩ := hY.at_
  exact ⟨x, dx, _, rfl, hx, .ins hy, x, y, F, M1, M2, B1, B2, rfl, hX, hY, hb, qE, q⟩
/-- rings in a list -/
def RingsAt (K : PySem.W.Frag) (CM : Addr) (H : Hp) (zs : List Addr) (ss : List Nat) : Prop := zs.length = ss.length ∧ ∀ (i : Nat) (z : Addr) (s : Nat), zs[i]? = some z → ss[i]? = some s → MachAt K CM H z [97] (ringT s) []
theorem RingsAt.same {CM : Addr} {H H' : Hp} {zs : List Addr} {ss : List Nat} (h : RingsAt K CM H zs ss) (s : Same H H') : RingsAt K CM H' zs ss := ⟨h.1, fun i z n h1 h2 => (h.2 i z n h1 h2).same s⟩
theorem RingsAt.extN {CM : Addr} {H H' : Hp} {zs : List Addr} {ss : List Nat} (h : RingsAt K CM H zs ss) (s : LamX.ExtN H H') : RingsAt K CM H' zs ss := ⟨h.1, fun i z n h1 h2 => (h.2 i z n h1 h2).extN s⟩
theorem RingsAt.snoc {CM : Addr} {H : Hp} {zs : List Addr} {ss : List Nat} {z : Addr} {s : Nat} (h : RingsAt K CM H zs ss) (hz : MachAt K CM H z [97] (ringT s) []) : RingsAt K CM H (zs ++ [z]) (ss ++ [s]) := by
  refine ⟨by rw [List.length_append, List.length_append, h.1]; rfl, fun i v r h1 h2 => ?_⟩
  by_cases hi : i < zs.length
  · rw [List.getElem?_append_left hi] at h1
    rw [List.getElem?_append_left (by rw [← h.1]; exact hi)] at h2
    exact h.2 i v r h1 h2
  · have hi2 : i = zs.length := by
      obtain ⟨hlt, _⟩ := List.getElem?_eq_some_iff.mp h1
      rw [List.length_append] at hlt
      simp at hlt
      omega
    subst hi2
    rw [List.getElem?_append_right (Nat.le_refl _), Nat.sub_self] at h1
    rw [h.1, List.getElem?_append_right (Nat.le_refl _), Nat.sub_self] at h2
    cases h1
    cases h2
    exact hz
/-- the joined machine as the law reckons it -/
structure JL (ja jb : Addr) (us ws : List V) (P : List Pr) (T : List (List Nat)) (H : Hp) : Prop where
  ha : H ja = some (.lst us)
  hp : PairsT H us P
  hb : H jb = some (.lst ws)
  hr : RowsAt H ws T
theorem JL.same {ja jb : Addr} {us ws : List V} {P : List Pr} {T : List (List Nat)} {H H' : Hp} (h : JL ja jb us ws P T H) (s : Same H H') : JL ja jb us ws P T H' := ⟨s _ _ h.ha, h.hp.keep fun x q e => s _ _ e, s _ _ h.hb, h.hr.same s⟩
theorem RingsAt.nl {CM : Addr} {H H' : Hp} {zs : List Addr} {ss : List Nat} (h : RingsAt K CM H zs ss) (s : NL H H') : RingsAt K CM H' zs ss := ⟨h.1, fun i z n h1 h2 => (h.2 i z n h1 h2).nl s⟩
theorem ask_ring {CM CE x y : Addr} {m n : Nat} {g : Bool → Bool → Bool} {H : Hp} {Q : VK} {E : XK} (hX : MachAt K CM H x [97] (ringT m) []) (hY : MachAt K CM H y [97] (ringT n) []) (hm : 0 < m) (hn : 0 < n) (hL : Nat.lcm m n ≤ 200)
    (q : ∀ H' z T B, Same H H' → MachAt K CM H' z [97] T B → T.length = Nat.lcm m n → Q (.ref z) H') : rOwnB CM (sp_Machine_joinE K CM CE g) E (.ref x) (.ref y) H Q :=
  ask_joinE hX hY (by decide +kernel) (fun H' d k _ _ hk => absurd (ring_most hm hn hk) (by omega)) fun H' z P T s _ hz _ full e _ => q H' z T _ s hz (ring_full hm hn full e)
theorem ask_ringX {CM CE x y : Addr} {m n : Nat} {g : Bool → Bool → Bool} {H : Hp} {Q : VK} {E : XK} (hX : MachAt K CM H x [97] (ringT m) []) (hY : MachAt K CM H y [97] (ringT n) []) (hm : 0 < m) (hn : 0 < n) (hL : 200 < Nat.lcm m n)
    (qE : ∀ H' d, Same H H' → H' d = none → E (.ref CE) (some d) (upd H' d (Err1 "most" "TooMany" (.int 200)))) : rOwnB CM (sp_Machine_joinE K CM CE g) E (.ref x) (.ref y) H Q :=
  ask_joinE hX hY (by decide +kernel) (fun H' d k s nd _ => qE H' d s nd) fun H' z P T s _ hz _ full e few => absurd (ring_full hm hn full e) (by omega)
theorem nI_zero {x : Nat} (h : nI x = V.int 0) : x = 0 := Int.ofNat.inj (V.int.inj h)
theorem ok_law {f c Pt fT C1 C2 C3 CE CM : Addr} {oc kV doc pm ct : Value} {od an : Option Addr} {osl : Array (Option Value)} {fdT : FuncData}  {fdM : FuncData} {fdS : FuncData} (T : Z mg)
    (lk : K.lookup f = some ⟨oc, od, .func (PySem.W.fnOf "law" "law" (defArgs s_law) (defBody s_law) (defScope s_law) .none kV doc pm an (.ref c) ct), osl⟩) (hcd : PySem.W.codeIn K (.ref c) "law" = true) (TB : LamX.TabB base mg c Pt)
    (TM : ErrF K mg CE "most" "TooMany" [.ref C1, .ref C2, .ref C3])
    (MC : MachC K CM)
    (o_and : OwnB P w K mg base CM .BitAnd 7 (sp_Machine_join K CM or)) (o_or : OwnB P w K mg base CM .BitOr 7 (sp_Machine_join K CM and)) (o_inv : OwnM P w K mg base CX0 CM "__invert__" 7 (sp_Machine_invert K CM))
    (ox_and : OwnM P w K mg base (L2.CX P w) CM (PySem.dunder Operator.BitAnd.info.2) 7 (sp_Machine_joinE K CM CE or)) (ox_or : OwnM P w K mg base (L2.CX P w) CM (PySem.dunder Operator.BitOr.info.2) 7 (sp_Machine_joinE K CM CE and)) (sfM : PySem.W.selfFirst K CM = true) (o_eq : OwnE P w K mg base CM 1 (sp_Machine_eq K CM))
    (gMa : mg "Machine" = some (.ref CM)) (MM : Mk K CM fM) (bM3 : Binds K fdM ["self", "faces", "table", "bad"] []) (bM2 : Binds K fdM ["self", "faces", "table", "bad"] [.ref ae]) (hae : ∀ H, SqT K H ae [])
    (mT : mg "_law_tries" = some (.ref fT)) (kT : PySem.W.keepIn K (.ref fT) = true) (bT : L2.Binds K fdT ["_law_asks"] [])
    (FT : ∀ b2 : Heap, Mod K mg base → (∀ b o, base.get? b = some o → b2.get? b = some o) → base.objs.size ≤ b2.objs.size → FnOk P w K mg b2 CX0 12 fT fdT ["_law_asks"] (sp_tries P w K mg base b2 8 [.ref C1, .ref C2, .ref C3]))
    (c__law_same : Cal P w K mg base CX0 5 "_law_same" s__law_same ["_law_found", "_law_due"] (sp__law_same K 3))
    (hp : PropOf K CM "size" p_size f_size) (FS : FnOk P w K mg base CX0 1 f_size fdS ["self"] (sp_Machine_size K CM)) (bS : Binds K fdS ["self"] [])
    (FM : FnOk P w K mg base CX0 5 fM fdM ["self", "faces", "table", "bad"] (sp_Machine_init K))
    (c__law_draw : Cal P w K mg base CX0 1 "_law_draw" s__law_draw ["_law_bag", "_law_many"] (sp__law_draw K))
    (c_table : MCal P w K mg base CX0 CM 1 "table" ["self"] (sp_Machine_table K CM))
    (c_bad : MCal P w K mg base CX0 CM 1 "bad" ["self"] (sp_Machine_bad K CM))
    (c__law_machine : Cal P w K mg base CX0 7 "_law_machine" s__law_machine ["_law_faces", "_law_mach"] (sp__law_machine K CM))
    (c__law_joint : Cal P w K mg base CX0 1 "_law_joint" s__law_joint ["_law_faces", "_law_one", "_law_two"] (sp__law_joint K))
    (c__law_some_machine : Cal P w K mg base CX0 2 "_law_some_machine" s__law_some_machine ["_law_bag", "_law_faces", "_law_most"] (sp__law_some_machine K))
    (c__law_some_faces : Cal P w K mg base CX0 3 "_law_some_faces" s__law_some_faces ["_law_bag", "_law_most"] (sp__law_some_faces K))
    (c__law_open : Cal P w K mg base CX0 1 "_law_open" s__law_open ["_law_script"] (sp__law_open K)) : FnOk P w K mg base CX0 14 f (PySem.W.fnOf "law" "law" (defArgs s_law) (defBody s_law) (defScope s_law) .none kV doc pm an (.ref c) ct) ["_law_script"] (sp_law K Pt) := by
  refine fn_of lk hcd sc_law (fun vs H Q E h => ?_) (fun A outer s H vs Q E hr h => ?_)
  · obtain ⟨a, ns, rfl, _⟩ := h
    rfl
  obtain ⟨a, ns, rfl, hS, hlen, hP, q⟩ := h
  refine ⟨_, PSs.nox (pss_cons (ps_set (i := 1) sc_law.nd rfl (.inl rfl) (pe_c c__law_open hr (by decide) (by rfl) (pa_cons (pv 0) pa_nil)))
      (pss_cons (ps_set (i := 2) sc_law.nd rfl (.inl rfl) (pe_c c__law_some_faces hr (by decide) (by rfl) (pa_cons (pv 1) (pa_cons pe_int pa_nil))))
      (pss_cons (ps_asg (pe_tup (pa_cons (pe_c c__law_some_machine hr (by decide) (by rfl) (pa_cons (pv 1) (pa_cons (pv 2) (pa_cons pe_int pa_nil)))) (pa_cons (pe_c c__law_some_machine hr (by decide) (by rfl) (pa_cons (pv 1) (pa_cons (pv 2) (pa_cons pe_int pa_nil)))) pa_nil))) (pg_tup rfl (pgs_cons (pg_name (i := 3) sc_law.nd rfl (.inr rfl)) (pgs_cons (pg_name (i := 4) sc_law.nd rfl (.inr rfl)) pgs_nil))))
      (pss_cons (ps_asg (pe_c c__law_joint hr (by decide) (by rfl) (pa_cons (pv 2) (pa_cons (pv 3) (pa_cons (pv 4) pa_nil)))) (pg_unl rfl (pgs_cons (pg_name (i := 5) sc_law.nd rfl (.inl rfl)) (pgs_cons (pg_name (i := 6) sc_law.nd rfl (.inr rfl)) pgs_nil))))
      (pss_cons (ps_as (ps_par (i := 7) (j := 8) (by rfl) sc_law.nd rfl rfl (by decide) rfl rfl (pa_cons (pe_c c__law_machine hr (by decide) (by rfl) (pa_cons (pv 2) (pa_cons (pv 3) pa_nil))) (pa_cons (pe_c c__law_machine hr (by decide) (by rfl) (pa_cons (pv 2) (pa_cons (pv 4) pa_nil))) pa_nil)) (by rfl)))
      (pss_cons (ps_setLc (i := 9) (own := [("_law_at", 19), ("_law_pair", 20)]) (g := (gTup K 2 (gCons (gName 19) (gCons (gName 20) gNil)))) (by rfl) sc_law.nd rfl rfl (sw_true rfl rfl rfl (by decide +kernel)) (pi_enumG (by rfl) T.z_enumerate (pa_cons (pv 5) pa_nil)) (blkOk_by (N := ["_law_script", "_law_bag", "_law_faces", "_law_one", "_law_two", "_law_pairs", "_law_rows", "_law_first", "_law_second", "_law_either", "_law_each", "_law_both", "_law_some", "_law_many", "_law_more", "_law_rings", "_law_whole", "_law_due", "_law_asks", "_law_at", "_law_pair", "_law_size"]) (sc := defScope s_law) (by decide +kernel)) (fun _ _ _ _ _ => (pg_tup rfl (pgs_cons (pg_name (i := 19) sc_law.nd rfl (.inl rfl)) (pgs_cons (pg_name (i := 20) sc_law.nd rfl (.inl rfl)) pgs_nil)))) (fun _ _ _ _ _ => (pts_one (PW.pt (pw_or (pt_cmpR (op_inE (K := K) rfl) (pe_ix (ix_tupE (K := K) rfl) (pv 20) pe_int (fun _ _ => rfl)) (pe_ix (ix_listE (K := K) rfl) (pv 3) pe_int (fun _ _ => rfl)) (by rfl)) (pw_or1 (pt_cmpR (op_inE (K := K) rfl) (pe_ix (ix_tupE (K := K) rfl) (pv 20) pe_int (fun _ _ => rfl)) (pe_ix (ix_listE (K := K) rfl) (pv 4) pe_int (fun _ _ => rfl)) (by rfl))))))) (fun _ _ _ _ _ => (pv 19)))
      (pss_cons (ps_setLc (i := 10) (own := [("_law_at", 19), ("_law_pair", 20)]) (g := (gTup K 2 (gCons (gName 19) (gCons (gName 20) gNil)))) (by rfl) sc_law.nd rfl rfl (sw_true rfl rfl rfl (by decide +kernel)) (pi_enumG (by rfl) T.z_enumerate (pa_cons (pv 5) pa_nil)) (blkOk_by (N := ["_law_script", "_law_bag", "_law_faces", "_law_one", "_law_two", "_law_pairs", "_law_rows", "_law_first", "_law_second", "_law_either", "_law_each", "_law_both", "_law_some", "_law_many", "_law_more", "_law_rings", "_law_whole", "_law_due", "_law_asks", "_law_at", "_law_pair", "_law_size"]) (sc := defScope s_law) (by decide +kernel)) (fun _ _ _ _ _ => (pg_tup rfl (pgs_cons (pg_name (i := 19) sc_law.nd rfl (.inl rfl)) (pgs_cons (pg_name (i := 20) sc_law.nd rfl (.inl rfl)) pgs_nil)))) (fun _ _ _ _ _ => (pts_one (PW.pt (pw_and (pt_cmpR (op_inE (K := K) rfl) (pe_ix (ix_tupE (K := K) rfl) (pv 20) pe_int (fun _ _ => rfl)) (pe_ix (ix_listE (K := K) rfl) (pv 3) pe_int (fun _ _ => rfl)) (by rfl)) (pw_and1 (pt_cmpR (op_inE (K := K) rfl) (pe_ix (ix_tupE (K := K) rfl) (pv 20) pe_int (fun _ _ => rfl)) (pe_ix (ix_listE (K := K) rfl) (pv 4) pe_int (fun _ _ => rfl)) (by rfl))))))) (fun _ _ _ _ _ => (pv 19)))
      (pss_cons (ps_par (i := 11) (j := 12) (by rfl) sc_law.nd rfl rfl (by decide) rfl rfl (pa_cons (pe_op (op_binO o_and hr (by decide)) (pv 7) (pv 8)) (pa_cons (pe_op (op_binO o_or hr (by decide)) (pv 7) (pv 8)) pa_nil)) (by rfl))
      (pss_cons (ps_if (pt_not (pt_val (pe_c c__law_same hr (by decide) (by rfl) (pa_cons (pe_lst (pa_cons (pe_m0 c_table MC.c hr (by decide) (pv 11)) (pa_cons (pe_m0 c_bad MC.c hr (by decide) (pv 11)) (pa_cons (pe_m0 c_table MC.c hr (by decide) (pv 12)) (pa_cons (pe_m0 c_bad MC.c hr (by decide) (pv 12)) (pa_cons (pe_prop (pv 11) MC.c hp FS (hr.mono (by decide)) bS .nil pass0 rfl) pa_nil)))))) (pa_cons (pe_lst (pa_cons (pv 6) (pa_cons (pv 9) (pa_cons (pv 6) (pa_cons (pv 10) (pa_cons (pe_callB call_len_seq (by rfl) T.z_len (by decide +kernel) (pa_cons (pv 5) pa_nil)) pa_nil)))))) pa_nil))))) (pss_one (ps_ret pe_bl)) pss_nil)
      (pss_cons (ps_as (ps_if (PW.pt (pw_or (pt_cmpR (op_neO o_eq hr (by decide)) (pv 11) (pe_make MM FM (hr.mono (by decide)) (by rfl) gMa bM3 .nil pass0 (pa_cons (pv 2) (pa_cons (pv 6) (pa_cons (pv 9) pa_nil)))) (nomark _)) (pw_or1 (pt_not (pt_val (pe_c c__law_same hr (by decide) (by rfl) (pa_cons (pe_m0 c_table MC.c hr (by decide) (pe_un (un_invO o_inv hr (by decide) pass0) (pv 7))) (pa_cons (pe_ix ix_list (pv 3) pe_int (fun _ _ => rfl)) pa_nil)))))))) (pss_one (ps_ret pe_bl)) pss_nil))
      (pss_cons (ps_asg (pe_tup (pa_cons (pe_op op_add pe_int (pe_c c__law_draw hr (by decide) (by rfl) (pa_cons (pv 1) (pa_cons pe_int pa_nil)))) (pa_cons (pe_op op_add pe_int (pe_c c__law_draw hr (by decide) (by rfl) (pa_cons (pv 1) (pa_cons pe_int pa_nil)))) pa_nil))) (pg_tup rfl (pgs_cons (pg_name (i := 13) sc_law.nd rfl (.inr rfl)) (pgs_cons (pg_name (i := 14) sc_law.nd rfl (.inr rfl)) pgs_nil))))
      (pss_cons (ps_set (i := 15) sc_law.nd rfl (.inr rfl) (pe_lc (own := [("_law_size", 21)]) (g := (gName 21)) (by rfl) sc_law.nd (pi_list (pe_lst (pa_cons (pv 13) (pa_cons (pv 14) pa_nil)))) (blkOk_by (N := ["_law_script", "_law_bag", "_law_faces", "_law_one", "_law_two", "_law_pairs", "_law_rows", "_law_first", "_law_second", "_law_either", "_law_each", "_law_both", "_law_some", "_law_many", "_law_more", "_law_rings", "_law_whole", "_law_due", "_law_asks", "_law_at", "_law_pair", "_law_size"]) (sc := defScope s_law) (by decide +kernel)) (fun _ _ _ _ _ => (pg_name (i := 21) sc_law.nd rfl (.inr rfl))) (fun _ _ _ _ _ => pts_nil) (fun _ _ _ _ _ => (pe_make MM FM (hr.mono (by decide)) (by rfl) gMa bM2 (dvs := [V.ref ae]) (.cons rfl .nil) pass0 (pa_cons pe_str (pa_cons (pe_lc (own := [("_law_at", 19)]) (g := (gName 19)) (by rfl) sc_law.nd (pi_range1 (by rfl) T.z_range (pa_cons (pv 21) pa_nil)) (blkOk_by (N := ["_law_script", "_law_bag", "_law_faces", "_law_one", "_law_two", "_law_pairs", "_law_rows", "_law_first", "_law_second", "_law_either", "_law_each", "_law_both", "_law_some", "_law_many", "_law_more", "_law_rings", "_law_whole", "_law_due", "_law_asks", "_law_at", "_law_pair", "_law_size"]) (sc := in_ring) (by decide +kernel)) (fun _ _ _ _ _ => (pg_name (i := 19) sc_law.nd rfl (.inl rfl))) (fun _ _ _ _ _ => pts_nil) (fun _ _ _ _ _ => (pe_tup (pa_cons (pe_op op_mod (pe_callTy call_int1 (by rfl) T.z_int (by decide +kernel) (pa_cons (pe_op op_add (pv 19) pe_int) pa_nil)) (pv 21)) pa_nil)))) pa_nil))))))
      (pss_cons (ps_set (i := 16) sc_law.nd rfl (.inl rfl) (pe_ix ix_list (pe_lc (own := [("_law_size", 21)]) (g := (gName 21)) (by rfl) sc_law.nd (pi_range2 (by rfl) T.z_range (pa_cons pe_int (pa_cons (pe_op op_add (pe_op op_mul (pv 13) (pv 14)) pe_int) pa_nil))) (blkOk_by (N := ["_law_script", "_law_bag", "_law_faces", "_law_one", "_law_two", "_law_pairs", "_law_rows", "_law_first", "_law_second", "_law_either", "_law_each", "_law_both", "_law_some", "_law_many", "_law_more", "_law_rings", "_law_whole", "_law_due", "_law_asks", "_law_at", "_law_pair", "_law_size"]) (sc := defScope s_law) (by decide +kernel)) (fun _ _ _ _ _ => (pg_name (i := 21) sc_law.nd rfl (.inl rfl))) (fun _ _ _ _ _ => (pts_one (PW.pt (pw_and (pt_cmpR op_eq (pe_op op_mod (pe_callTy call_int1 (by rfl) T.z_int (by decide +kernel) (pa_cons (pv 21) pa_nil)) (pv 13)) pe_int (nomark _)) (pw_and1 (pt_cmpR op_eq (pe_op op_mod (pe_callTy call_int1 (by rfl) T.z_int (by decide +kernel) (pa_cons (pv 21) pa_nil)) (pv 14)) pe_int (nomark _))))))) (fun _ _ _ _ _ => (pv 21))) pe_int (fun _ _ => rfl)))
      (pss_cons (ps_as (ps_set (i := 17) sc_law.nd rfl (.inl rfl) (pe_ifExp (pt_cmpR op_le (pv 16) pe_int (nomark _)) (pe_tup (pa_cons pe_str (pa_cons (pv 16) pa_nil))) (pe_tup (pa_cons pe_str (pa_cons pe_int pa_nil))))))
      (pss_cons (ps_set (i := 18) sc_law.nd rfl (.inl rfl) (pe_lst (pa_cons (pe_lam0 (T := [(Pt, (envOfC "law" (defScope s_law) 0 f (.ref c)).qual ++ "<lambda>")]) TB rfl (List.mem_singleton.mpr rfl) (fun p hp _ => congrArg Prod.snd (List.mem_singleton.mp hp)) (by rfl) (show lamFree (defScope s_law) _ = true by decide +kernel)) (pa_cons (pe_lam1 (T := [(Pt, (envOfC "law" (defScope s_law) 0 f (.ref c)).qual ++ "<lambda>")]) TB rfl (List.mem_singleton.mpr rfl) (fun p hp _ => congrArg Prod.snd (List.mem_singleton.mp hp)) rfl rfl (show lamFree (defScope s_law) _ = true by decide +kernel)) pa_nil))))
      (pss_cons (ps_if (pt_not (pt_val (pe_c c__law_same hr (by decide) (by rfl) (pa_cons (pe_tries (cs := [.ref C1, .ref C2, .ref C3]) (k := 8) (kk := 12)
        [ask0 (X := XL P w K mg base f c A outer s H E) (k := 7) (lm ((defBody s_law).getD 14 (.Pass ⟨0, 0, 0, 0⟩)) 0).1 (lm ((defBody s_law).getD 14 (.Pass ⟨0, 0, 0, 0⟩)) 0).2.1 (lm ((defBody s_law).getD 14 (.Pass ⟨0, 0, 0, 0⟩)) 0).2.2 ["_law_rings"] ["_law_rings"] [15] (by decide +kernel) (show NdefX.ndefB (defScope s_law) (lm ((defBody s_law).getD 14 (.Pass ⟨0, 0, 0, 0⟩)) 0).2.2 _ = true by decide +kernel) rfl (fun _ _ _ _ _ _ => by rfl)
            (fun c' dV A outer s H E f hr => (pe_prop (pe_op (op_binX (E := E) ox_and sfM hr (by decide) (passes_call (takes_of rfl rfl rfl rfl) (fun _ _ _ _ h => h))) (pe_ix (ix_listE (K := K) rfl) (pv 0) pe_int (fun _ _ => rfl)) (pe_ix (ix_listE (K := K) rfl) (pv 0) pe_int (fun _ _ => rfl))) MC.c hp FS (hr.mono (by decide)) bS .nil pass0 rfl)),
          ask1 (X := XL P w K mg base f c A outer s H E) (k := 7) (lm ((defBody s_law).getD 14 (.Pass ⟨0, 0, 0, 0⟩)) 1).1 (lm ((defBody s_law).getD 14 (.Pass ⟨0, 0, 0, 0⟩)) 1).2.1 (lm ((defBody s_law).getD 14 (.Pass ⟨0, 0, 0, 0⟩)) 1).2.2 "_law_one_z" 0 ["_law_one_z", "_law_rings"] ["_law_rings"] [15] (by decide +kernel) (show NdefX.ndefB (defScope s_law) (lm ((defBody s_law).getD 14 (.Pass ⟨0, 0, 0, 0⟩)) 1).2.2 _ = true by decide +kernel) rfl (fun _ _ _ _ _ _ _ => ⟨_, rfl, fun _ => rfl⟩)
            (fun c' dV A outer s H E f hr => (pe_prop (pe_op (op_binX (E := E) ox_or sfM hr (by decide) (passes_call (takes_of rfl rfl rfl rfl) (fun _ _ _ _ h => h))) (pe_ix (ix_listE (K := K) rfl) (pv 1) pe_int (fun _ _ => rfl)) (pe_ix (ix_listE (K := K) rfl) (pv 1) pe_int (fun _ _ => rfl))) MC.c hp FS (hr.mono (by decide)) bS .nil pass0 rfl))]
        (show 2 < sizeLine by decide) (fun _ => rfl) rfl rfl FT (hr.mono (by decide)) (by rfl) mT kT bT (pa_cons (pv 18) pa_nil)) (pa_cons (pe_lst (pa_cons (pv 17) (pa_cons (pv 17) pa_nil))) pa_nil))))) (pss_one (ps_ret pe_bl)) pss_nil)
      (pss_cons (ps_set (i := 6) sc_law.nd rfl (.inr rfl) (pe_lc (own := [("_law_size", 21)]) (g := (gName 21)) (by rfl) sc_law.nd (pi_list (pe_lst (pa_cons pe_int (pa_cons pe_int (pa_cons pe_int (pa_cons pe_int pa_nil)))))) (blkOk_by (N := ["_law_script", "_law_bag", "_law_faces", "_law_one", "_law_two", "_law_pairs", "_law_rows", "_law_first", "_law_second", "_law_either", "_law_each", "_law_both", "_law_some", "_law_many", "_law_more", "_law_rings", "_law_whole", "_law_due", "_law_asks", "_law_at", "_law_pair", "_law_size"]) (sc := defScope s_law) (by decide +kernel)) (fun _ _ _ _ _ => (pg_name (i := 21) sc_law.nd rfl (.inr rfl))) (fun _ _ _ _ _ => pts_nil) (fun _ _ _ _ _ => (pe_make MM FM (hr.mono (by decide)) (by rfl) gMa bM2 (dvs := [V.ref ae]) (.cons rfl .nil) pass0 (pa_cons pe_str (pa_cons (pe_lc (own := [("_law_at", 19)]) (g := (gName 19)) (by rfl) sc_law.nd (pi_range1 (by rfl) T.z_range (pa_cons (pv 21) pa_nil)) (blkOk_by (N := ["_law_script", "_law_bag", "_law_faces", "_law_one", "_law_two", "_law_pairs", "_law_rows", "_law_first", "_law_second", "_law_either", "_law_each", "_law_both", "_law_some", "_law_many", "_law_more", "_law_rings", "_law_whole", "_law_due", "_law_asks", "_law_at", "_law_pair", "_law_size"]) (sc := in_ring) (by decide +kernel)) (fun _ _ _ _ _ => (pg_name (i := 19) sc_law.nd rfl (.inl rfl))) (fun _ _ _ _ _ => pts_nil) (fun _ _ _ _ _ => (pe_tup (pa_cons (pe_op op_mod (pe_callTy call_int1 (by rfl) T.z_int (by decide +kernel) (pa_cons (pe_op op_add (pv 19) pe_int) pa_nil)) (pv 21)) pa_nil)))) pa_nil))))))
      (pss_cons (ps_set (i := 18) sc_law.nd rfl (.inl rfl) (pe_lst (pa_cons (pe_lam0 (T := [(Pt, (envOfC "law" (defScope s_law) 0 f (.ref c)).qual ++ "<lambda>")]) TB rfl (List.mem_singleton.mpr rfl) (fun p hp _ => congrArg Prod.snd (List.mem_singleton.mp hp)) (by rfl) (show lamFree (defScope s_law) _ = true by decide +kernel)) (pa_cons (pe_lam1 (T := [(Pt, (envOfC "law" (defScope s_law) 0 f (.ref c)).qual ++ "<lambda>")]) TB rfl (List.mem_singleton.mpr rfl) (fun p hp _ => congrArg Prod.snd (List.mem_singleton.mp hp)) rfl rfl (show lamFree (defScope s_law) _ = true by decide +kernel)) (pa_cons (pe_lam1 (T := [(Pt, (envOfC "law" (defScope s_law) 0 f (.ref c)).qual ++ "<lambda>")]) TB rfl (List.mem_singleton.mpr rfl) (fun p hp _ => congrArg Prod.snd (List.mem_singleton.mp hp)) rfl rfl (show lamFree (defScope s_law) _ = true by decide +kernel)) (pa_cons (pe_lam1 (T := [(Pt, (envOfC "law" (defScope s_law) 0 f (.ref c)).qual ++ "<lambda>")]) TB rfl (List.mem_singleton.mpr rfl) (fun p hp _ => congrArg Prod.snd (List.mem_singleton.mp hp)) rfl rfl (show lamFree (defScope s_law) _ = true by decide +kernel)) pa_nil))))))
      (pss_one (ps_ret (pe_c c__law_same hr (by decide) (by rfl) (pa_cons (pe_tries (cs := [.ref C1, .ref C2, .ref C3]) (k := 8) (kk := 12)
        [ask0 (X := XL P w K mg base f c A outer s H E) (k := 7) (lm ((defBody s_law).getD 17 (.Pass ⟨0, 0, 0, 0⟩)) 0).1 (lm ((defBody s_law).getD 17 (.Pass ⟨0, 0, 0, 0⟩)) 0).2.1 (lm ((defBody s_law).getD 17 (.Pass ⟨0, 0, 0, 0⟩)) 0).2.2 ["_law_rows"] ["_law_rows"] [6] (by decide +kernel) (show NdefX.ndefB (defScope s_law) (lm ((defBody s_law).getD 17 (.Pass ⟨0, 0, 0, 0⟩)) 0).2.2 _ = true by decide +kernel) rfl (fun _ _ _ _ _ _ => by rfl)
            (fun c' dV A outer s H E f hr => (pe_prop (pe_op (op_binX (E := E) ox_and sfM hr (by decide) (passes_call (takes_of rfl rfl rfl rfl) (fun _ _ _ _ h => h))) (pe_ix (ix_listE (K := K) rfl) (pv 0) pe_int (fun _ _ => rfl)) (pe_ix (ix_listE (K := K) rfl) (pv 0) pe_int (fun _ _ => rfl))) MC.c hp FS (hr.mono (by decide)) bS .nil pass0 rfl)),
          ask1 (X := XL P w K mg base f c A outer s H E) (k := 7) (lm ((defBody s_law).getD 17 (.Pass ⟨0, 0, 0, 0⟩)) 1).1 (lm ((defBody s_law).getD 17 (.Pass ⟨0, 0, 0, 0⟩)) 1).2.1 (lm ((defBody s_law).getD 17 (.Pass ⟨0, 0, 0, 0⟩)) 1).2.2 "_law_one_z" 0 ["_law_one_z", "_law_rows"] ["_law_rows"] [6] (by decide +kernel) (show NdefX.ndefB (defScope s_law) (lm ((defBody s_law).getD 17 (.Pass ⟨0, 0, 0, 0⟩)) 1).2.2 _ = true by decide +kernel) rfl (fun _ _ _ _ _ _ _ => ⟨_, rfl, fun _ => rfl⟩)
            (fun c' dV A outer s H E f hr => (pe_prop (pe_op (op_binX (E := E) ox_or sfM hr (by decide) (passes_call (takes_of rfl rfl rfl rfl) (fun _ _ _ _ h => h))) (pe_ix (ix_listE (K := K) rfl) (pv 1) pe_int (fun _ _ => rfl)) (pe_ix (ix_listE (K := K) rfl) (pv 1) pe_int (fun _ _ => rfl))) MC.c hp FS (hr.mono (by decide)) bS .nil pass0 rfl)),
          ask1 (X := XL P w K mg base f c A outer s H E) (k := 7) (lm ((defBody s_law).getD 17 (.Pass ⟨0, 0, 0, 0⟩)) 2).1 (lm ((defBody s_law).getD 17 (.Pass ⟨0, 0, 0, 0⟩)) 2).2.1 (lm ((defBody s_law).getD 17 (.Pass ⟨0, 0, 0, 0⟩)) 2).2.2 "_law_two_z" 0 ["_law_two_z", "_law_rows"] ["_law_rows"] [6] (by decide +kernel) (show NdefX.ndefB (defScope s_law) (lm ((defBody s_law).getD 17 (.Pass ⟨0, 0, 0, 0⟩)) 2).2.2 _ = true by decide +kernel) rfl (fun _ _ _ _ _ _ _ => ⟨_, rfl, fun _ => rfl⟩)
            (fun c' dV A outer s H E f hr => (pe_op (op_binX (E := E) ox_and sfM hr (by decide) (passes_call (takes_of rfl rfl rfl rfl) (fun _ _ _ _ h => h))) (pe_ix (ix_listE (K := K) rfl) (pv 1) pe_int (fun _ _ => rfl)) (pe_ix (ix_listE (K := K) rfl) (pv 1) pe_int (fun _ _ => rfl)))),
          ask1 (X := XL P w K mg base f c A outer s H E) (k := 7) (lm ((defBody s_law).getD 17 (.Pass ⟨0, 0, 0, 0⟩)) 3).1 (lm ((defBody s_law).getD 17 (.Pass ⟨0, 0, 0, 0⟩)) 3).2.1 (lm ((defBody s_law).getD 17 (.Pass ⟨0, 0, 0, 0⟩)) 3).2.2 "_law_three" 0 ["_law_three", "_law_rows"] ["_law_rows"] [6] (by decide +kernel) (show NdefX.ndefB (defScope s_law) (lm ((defBody s_law).getD 17 (.Pass ⟨0, 0, 0, 0⟩)) 3).2.2 _ = true by decide +kernel) rfl (fun _ _ _ _ _ _ _ => ⟨_, rfl, fun _ => rfl⟩)
            (fun c' dV A outer s H E f hr => (pe_op (op_binX (E := E) ox_or sfM hr (by decide) (passes_call (takes_of rfl rfl rfl rfl) (fun _ _ _ _ h => h))) (pe_ix (ix_listE (K := K) rfl) (pv 1) pe_int (fun _ _ => rfl)) (pe_ix (ix_listE (K := K) rfl) (pv 1) pe_int (fun _ _ => rfl))))]
        (show 4 < sizeLine by decide) (fun _ => rfl) rfl rfl FT (hr.mono (by decide)) (by rfl) mT kT bT (pa_cons (pv 18) pa_nil)) (pa_cons (pe_lst (pa_cons (pe_tup (pa_cons pe_str (pa_cons pe_int pa_nil))) (pa_cons (pe_tup (pa_cons pe_str (pa_cons pe_int pa_nil))) (pa_cons (pe_tup (pa_cons pe_str (pa_cons pe_int pa_nil))) (pa_cons (pe_tup (pa_cons pe_str (pa_cons pe_int pa_nil))) pa_nil))))) pa_nil))))))))))))))))))))))), ?_⟩
  refine ⟨_, rfl, a, ns, rfl, hS, hlen, fun H1 b l nb nl s1 B1 => ?_⟩
  have hPb : Pt ≠ b := ne_of_none hP nb
  have hP1 := s1 _ _ hP
  refine ⟨_, rfl, b, l, 3, rfl, B1, by decide, by decide, fun H2 F hsub hF0 hF b2 B2 => ?_⟩
  have hP2 := b2 _ _ hPb hP1
  have TB2 : LamX.Tabs (tabL Pt f c) H2 := fun p' hp' => by rw [List.mem_singleton.mp hp']; exact LamX.TabS.nil hP2
  have hb1 : bFaces (.str (S F)) = true := choice_sub lower_asc hsub hF0 (by omega)
  clear hP hP1 hP2 hPb s1 b2 B1
  refine ⟨_, rfl, _, rfl, b, l, F, 5, rfl, B2, hF0, by omega, by decide, by decide, fun H3 p t u rs M1 Bd1 hM1 hM14 hB1 hR1 b3 B3 np tb ub ht hu hp => ?_⟩
  have pb := B2.ne np
  have TB3 := tabs_drawn TB2 B2 b3
  refine ⟨_, rfl, _, rfl, b, l, F, 5, rfl, B3, hF0, by omega, by decide, by decide, fun H4 p' t' u' rs' M2 Bd2 hM2 hM24 hB2 hR2 b4 B4 np' tb' ub' ht' hu' hp' => ?_⟩
  have pb' := B3.ne np'
  have TB4 := tabs_drawn TB3 B3 b4
  obtain ⟨xs3, hb3⟩ := B3.la
  replace hp := b4 _ _ pb hp
  replace ht := b4 _ _ tb ht
  replace hu := b4 _ _ ub hu
  replace hR1 := hR1.but hb3 b4
  clear TB2 TB3 B2 B3 b3 b4 np np' hb3
  have rT : ∀ {H : Hp} {rs : List V} {M : List (List Nat)}, RowsAt H rs M → RowsT K H rs M := fun h => ⟨h.1, fun i v r h1 h2 => let ⟨a, e, ha⟩ := h.2 i v r h1 h2; ⟨a, e, SqT.of ha⟩⟩
  refine ⟨(show 2 ≤ sizeLine by decide), fun q1 nq => ⟨q1, _, rfl, SqT.of upd_same, rfl, _, _, rfl, _, _, rfl, rfl, ?_⟩⟩
  have y1 := same_upd (o := HO.tup [V.ref p, V.ref p']) nq
  have B5 := B4.same y1
  have TB5 := TB4.ext y1
  replace hp := y1 _ _ hp
  replace ht := y1 _ _ ht
  replace hu := y1 _ _ hu
  replace hR1 := hR1.same y1
  replace hp' := y1 _ _ hp'
  replace ht' := y1 _ _ ht'
  replace hu' := y1 _ _ hu'
  replace hR2 := hR2.same y1
  generalize upd H4 q1 (HO.tup [V.ref p, V.ref p']) = H5 at B5 TB5 hp ht hu hR1 hp' ht' hu' hR2 ⊢
  clear y1 nq B4 TB4
  have hlt25 : M1.length * M2.length < 40 := Nat.lt_of_le_of_lt (Nat.mul_le_mul hM14 hM24) (by decide)
  have hlt : M1.length * M2.length < 200 := by omega
  -- the law's own joint
  refine ⟨_, rfl, _, rfl, _, rfl, p, p', t, t', u, u', F, rs, rs', M1, M2, Bd1, Bd2, rfl, by omega, ⟨SqL.of hp, SqL.of ht, rT hR1, SqL.of hu⟩, ⟨SqL.of hp', SqL.of ht', rT hR2, SqL.of hu'⟩, hM1, hM2, hlt25, fun H6 rj ja jb PJ TJ us ws s6 hrj nrj nja njb hja hPJ hjb hRJ JJ fullJ eJ => ?_⟩
  refine ⟨rj, _, rfl, SqL.of hrj, rfl, _, _, rfl, _, _, rfl, rfl, ?_⟩
  have jl : JL ja jb us ws PJ TJ H6 := ⟨hja, hPJ, hjb, hRJ⟩
  clear hja hPJ hjb hRJ hrj nrj nja njb
  -- the two machines
  refine ⟨fun σ H' => ∃ x y : Addr, σ = [some (.ref a), some (.ref b), some (.str (S F)), some (.ref p), some (.ref p'), some (.ref ja), some (.ref jb), some (.ref x), some (.ref y), none, none, none, none, none, none, none, none, none, none, none, none, none] ∧ S15 K CM b F p t u x p' t' u' y rs rs' M1 M2 Bd1 Bd2 [] H' ∧ JL ja jb us ws PJ TJ H' ∧ Bag H' b l ∧ LamX.Tabs (tabL Pt f c) H', ?_, ?_⟩
  · refine ⟨_, rfl, _, rfl, p, t, u, F, rs, M1, Bd1, rfl, hb1, by omega, ⟨SqL.of (s6 _ _ hp), SqL.of (s6 _ _ ht), rT (hR1.same s6), SqL.of (s6 _ _ hu)⟩, hM1, hB1, fun H7 x s7 nx hX => ?_⟩
    have s57 := s6.trans s7
    refine ⟨_, rfl, _, rfl, p', t', u', F, rs', M2, Bd2, rfl, hb1, by omega, ⟨SqL.of (s57 _ _ hp'), SqL.of (s57 _ _ ht'), rT (hR2.same s57), SqL.of (s57 _ _ hu')⟩, hM2, hB2, fun H8 y s8 ny hY => ⟨_, _, rfl, ?_⟩⟩
    have s58 := s57.trans s8
    exact ⟨x, y, rfl, ⟨s58 _ _ hp, s58 _ _ ht, s58 _ _ hu, hR1.same s58, s58 _ _ hp', s58 _ _ ht', s58 _ _ hu', hR2.same s58, hX.same s8, hY, (fun _ h => nomatch h), pb, tb, ub, pb', tb', ub'⟩, jl.same (s7.trans s8), B5.same s58, TB5.ext s58⟩
  rintro _ H8 ⟨x, y, rfl, st, jl8, B8, TB8⟩
  clear hp ht hu hR1 hp' ht' hu' hR2 s6 B5 TB5 pb tb ub pb' tb' ub' jl
  have jl := jl8
  clear jl8
  have few := JJ.few
  -- bad states of the one, of the other
  refine ⟨_, rfl, .ref ja, us, rfl, .l (SqL.of jl.ha), fun k ev src => ?_⟩
  have stay : ∀ H', Same H8 H' → k.src K H' us := fun H' s => by
    cases k with
    | l a => exact s.seq src
    | t a => exact s.tup src
    | s z t => cases ev
  refine fun D nD => ?_
  refine lc_it walk_enumG (fun i H' => Same H8 H' ∧ H' D = some (.lst ((badJ or (PJ.take i) Bd1 Bd2).map nI))) ⟨same_upd nD, upd_same⟩ (fun i H' _ h => stay _ h.1) ?_ ?_
  · rintro i v H3 H4 hi ⟨s3, hD3⟩ ⟨T', a1, b1', rfl, nT, rfl, hx1', hy1'⟩
    obtain rfl : V.int (i : Nat) = a1 := Option.some.inj hx1'
    have hy2' : us[i]? = some b1' := hy1'
    have hiP : i < PJ.length := by
      rw [← jl.hp.1]
      exact (List.getElem?_eq_some_iff.mp hy2').1
    obtain ⟨z, rfl, hz⟩ := jl.hp.2 i _ _ hy2' (List.getElem?_eq_getElem hiP)
    have hPi : PJ[i]? = some PJ[i] := List.getElem?_eq_getElem hiP
    generalize PJ[i] = pr at hz hPi
    obtain ⟨l1, l2⟩ := pr
    have s4 := s3.trans (same_upd (o := HO.tup [V.int (i : Nat), V.ref z]) nT)
    have hD4 := (same_upd (o := HO.tup [V.int (i : Nat), V.ref z]) nT) _ _ hD3
    have hT4 : (upd H3 T' (.tup [V.int (i : Nat), V.ref z])) T' = some (.tup [V.int (i : Nat), V.ref z]) := upd_same
    generalize upd H3 T' (.tup [V.int (i : Nat), V.ref z]) = H4 at s4 hD4 hT4 ⊢
    refine ⟨T', _, rfl, SqT.of hT4, rfl, _, _, rfl, _, _, rfl, rfl, ?_⟩
    have lb : ((badJ or (PJ.take i) Bd1 Bd2).map nI).length < sizeLine := by
      rw [List.length_map]
      have h1 := badJ_len (g := or) (P := PJ.take i) (B1 := Bd1) (B2 := Bd2)
      rw [List.length_take] at h1
      exact sz1 (by omega)
    have sn : PJ.take (i + 1) = PJ.take i ++ [(l1, l2)] := by
      rw [List.take_add_one, hPi]
      rfl
    have lt : (PJ.take i).length = i := by
      rw [List.length_take]
      omega
    have st4 := st.same s4
    refine ⟨rfl, _, rfl, z, _, 0, _, rfl, rfl, SqT.of (s4 _ _ hz), atI_nat (j := 0) rfl, _, rfl, p, _, 1, _, rfl, rfl, SqL.of st4.hp, atI_nat (j := 1) rfl, u, Bd1.map nI, rfl, .inl (SqL.of st4.hu), rfl, flat_N Bd1, _, rfl, ?_⟩
    rw [show (if false = true then !inV (nI l1) (Bd1.map nI) else inV (nI l1) (Bd1.map nI)) = decide (l1 ∈ Bd1) from by rw [if_neg Bool.false_ne_true, inV_N]]
    refine ite_dec (fun m1 => ?_) (fun m1 => ?_)
    · refine ⟨_, rfl, _, hD4, lb, fun z o hz => (upd_ne (ne_of_none hz nD)).trans (s4 _ _ hz), ?_⟩
      rw [upd_same, sn, badJ_snoc, if_pos (by simp [*]), lt, List.map_append]
      rfl
    · refine ⟨_, rfl, z, _, 1, _, rfl, rfl, SqT.of (s4 _ _ hz), atI_nat (j := 1) rfl, _, rfl, p', _, 1, _, rfl, rfl, SqL.of st4.hp', atI_nat (j := 1) rfl, u', Bd2.map nI, rfl, .inl (SqL.of st4.hu'), rfl, flat_N Bd2, _, rfl, ?_⟩
      rw [show (if false = true then !inV (nI l2) (Bd2.map nI) else inV (nI l2) (Bd2.map nI)) = decide (l2 ∈ Bd2) from by rw [if_neg Bool.false_ne_true, inV_N]]
      refine ite_dec (fun m2 => ?_) (fun m2 => ?_)
      · refine ⟨_, rfl, _, hD4, lb, fun z o hz => (upd_ne (ne_of_none hz nD)).trans (s4 _ _ hz), ?_⟩
        rw [upd_same, sn, badJ_snoc, if_pos (by simp [*]), lt, List.map_append]
        rfl
      · refine ⟨s4, ?_⟩
        rw [hD4, sn, badJ_snoc, if_neg (by simp [*]), List.append_nil]
  rintro H9 ⟨s3, hdD⟩
  rw [List.take_of_length_le (Nat.le_of_eq jl.hp.1.symm)] at hdD
  replace st := st.same s3
  replace jl := jl.same s3
  have B9 := B8.same s3
  have TB9 := TB8.ext s3
  clear s3 nD stay src B8 TB8
  refine ⟨_, rfl, .ref ja, us, rfl, .l (SqL.of jl.ha), fun k ev src => ?_⟩
  have stay : ∀ H', Same H9 H' → k.src K H' us := fun H' s => by
    cases k with
    | l a => exact s.seq src
    | t a => exact s.tup src
    | s z t => cases ev
  refine fun E2 nD => ?_
  refine lc_it walk_enumG (fun i H' => Same H9 H' ∧ H' E2 = some (.lst ((badJ and (PJ.take i) Bd1 Bd2).map nI))) ⟨same_upd nD, upd_same⟩ (fun i H' _ h => stay _ h.1) ?_ ?_
  · rintro i v H3 H4 hi ⟨s3, hD3⟩ ⟨T', a1, b1', rfl, nT, rfl, hx1', hy1'⟩
    obtain rfl : V.int (i : Nat) = a1 := Option.some.inj hx1'
    have hy2' : us[i]? = some b1' := hy1'
    have hiP : i < PJ.length := by
      rw [← jl.hp.1]
      exact (List.getElem?_eq_some_iff.mp hy2').1
    obtain ⟨z, rfl, hz⟩ := jl.hp.2 i _ _ hy2' (List.getElem?_eq_getElem hiP)
    have hPi : PJ[i]? = some PJ[i] := List.getElem?_eq_getElem hiP
    generalize PJ[i] = pr at hz hPi
    obtain ⟨l1, l2⟩ := pr
    have s4 := s3.trans (same_upd (o := HO.tup [V.int (i : Nat), V.ref z]) nT)
    have hD4 := (same_upd (o := HO.tup [V.int (i : Nat), V.ref z]) nT) _ _ hD3
    have hT4 : (upd H3 T' (.tup [V.int (i : Nat), V.ref z])) T' = some (.tup [V.int (i : Nat), V.ref z]) := upd_same
    generalize upd H3 T' (.tup [V.int (i : Nat), V.ref z]) = H4 at s4 hD4 hT4 ⊢
    refine ⟨T', _, rfl, SqT.of hT4, rfl, _, _, rfl, _, _, rfl, rfl, ?_⟩
    have lb : ((badJ and (PJ.take i) Bd1 Bd2).map nI).length < sizeLine := by
      rw [List.length_map]
      have h1 := badJ_len (g := and) (P := PJ.take i) (B1 := Bd1) (B2 := Bd2)
      rw [List.length_take] at h1
      exact sz1 (by omega)
    have sn : PJ.take (i + 1) = PJ.take i ++ [(l1, l2)] := by
      rw [List.take_add_one, hPi]
      rfl
    have lt : (PJ.take i).length = i := by
      rw [List.length_take]
      omega
    have st4 := st.same s4
    refine ⟨rfl, _, rfl, z, _, 0, _, rfl, rfl, SqT.of (s4 _ _ hz), atI_nat (j := 0) rfl, _, rfl, p, _, 1, _, rfl, rfl, SqL.of st4.hp, atI_nat (j := 1) rfl, u, Bd1.map nI, rfl, .inl (SqL.of st4.hu), rfl, flat_N Bd1, _, rfl, ?_⟩
    rw [show (if false = true then !inV (nI l1) (Bd1.map nI) else inV (nI l1) (Bd1.map nI)) = decide (l1 ∈ Bd1) from by rw [if_neg Bool.false_ne_true, inV_N]]
    refine ite_dec (fun m1 => ?_) (fun m1 => ?_)
    · refine ⟨_, rfl, z, _, 1, _, rfl, rfl, SqT.of (s4 _ _ hz), atI_nat (j := 1) rfl, _, rfl, p', _, 1, _, rfl, rfl, SqL.of st4.hp', atI_nat (j := 1) rfl, u', Bd2.map nI, rfl, .inl (SqL.of st4.hu'), rfl, flat_N Bd2, _, rfl, ?_⟩
      rw [show (if false = true then !inV (nI l2) (Bd2.map nI) else inV (nI l2) (Bd2.map nI)) = decide (l2 ∈ Bd2) from by rw [if_neg Bool.false_ne_true, inV_N]]
      refine ite_dec (fun m2 => ?_) (fun m2 => ?_)
      · refine ⟨_, rfl, _, hD4, lb, fun z o hz => (upd_ne (ne_of_none hz nD)).trans (s4 _ _ hz), ?_⟩
        rw [upd_same, sn, badJ_snoc, if_pos (by simp [*]), lt, List.map_append]
        rfl
      · refine ⟨s4, ?_⟩
        rw [hD4, sn, badJ_snoc, if_neg (by simp [*]), List.append_nil]
    · refine ⟨s4, ?_⟩
      rw [hD4, sn, badJ_snoc, if_neg (by simp [*]), List.append_nil]
  rintro H10 ⟨s3, hdE2⟩
  rw [List.take_of_length_le (Nat.le_of_eq jl.hp.1.symm)] at hdE2
  replace st := st.same s3
  replace jl := jl.same s3
  have B10 := B9.same s3
  have TB10 := TB9.ext s3
  replace hdD := s3 _ _ hdD
  clear s3 nD stay src B9 TB9
  -- joined by the program
  refine ⟨_, rfl, _, rfl, ask_join st.hX st.hY hb1 hlt fun H11 z1 P1 T1 s11 nz1 hz1 J1 full1 e1 => ?_⟩
  obtain ⟨rfl, rfl⟩ := JJ.uniq J1 fullJ full1 eJ e1
  replace st := (st.same s11).put hz1
  replace jl := jl.same s11
  replace hdD := s11 _ _ hdD
  replace hdE2 := s11 _ _ hdE2
  have B11 := B10.same s11
  have TB11 := TB10.ext s11
  clear s11 nz1 hz1 B10 TB10 J1 full1 e1
  refine ⟨_, rfl, _, rfl, ask_join st.hX st.hY hb1 hlt fun H12 z2 P2 T2 s12 nz2 hz2 J2 full2 e2 => ⟨_, _, rfl, ?_⟩⟩
  obtain ⟨rfl, rfl⟩ := JJ.uniq J2 fullJ full2 eJ e2
  replace st := (st.same s12).put hz2
  replace jl := jl.same s12
  replace hdD := s12 _ _ hdD
  replace hdE2 := s12 _ _ hdE2
  have B12 := B11.same s12
  have TB12 := TB11.ext s12
  clear s12 nz2 hz2 B11 TB11 J2 full2 e2
  have hz1 := st.hz (z1, TJ, badJ or PJ Bd1 Bd2) (by simp)
  have hz2 := st.hz (z2, TJ, badJ and PJ Bd1 Bd2) (by simp)
  obtain ⟨dz1, _, _, _, hv1, _⟩ := hz1.at_
  obtain ⟨dz2, _, _, _, hv2, _⟩ := hz2.at_
  -- tables and bad states
  refine ⟨_, rfl, z1, dz1, _, rfl, hv1, rfl, z1, F, TJ, _, rfl, hz1, fun q3 rs3 nq3 l3 r3 => ?_⟩
  have v1 := same_upd (o := HO.lst rs3) nq3
  refine ⟨_, rfl, z1, dz1, _, rfl, v1 _ _ hv1, rfl, z1, F, TJ, _, rfl, hz1.same v1, fun q4 nq4 => ?_⟩
  have v2 := same_upd (o := HO.lst ((badJ or PJ Bd1 Bd2).map nI)) nq4
  have v12 := v1.trans v2
  refine ⟨_, rfl, z2, dz2, _, rfl, v12 _ _ hv2, rfl, z2, F, TJ, _, rfl, hz2.same v12, fun q5 rs5 nq5 l5 r5 => ?_⟩
  have v3 := same_upd (o := HO.lst rs5) nq5
  have v13 := v12.trans v3
  refine ⟨_, rfl, z2, dz2, _, rfl, v13 _ _ hv2, rfl, z2, F, TJ, _, rfl, hz2.same v13, fun q6 nq6 => ?_⟩
  have v4 := same_upd (o := HO.lst ((badJ and PJ Bd1 Bd2).map nI)) nq6
  have v14 := v13.trans v4
  refine ⟨_, rfl, z1, dz1, _, rfl, v14 _ _ hv1, z1, F, TJ, _, rfl, hz1.same v14, (show 5 ≤ sizeLine by decide), fun q7 nq7 => ?_⟩
  have v5 := same_upd (o := HO.lst [V.ref q3, V.ref q4, V.ref q5, V.ref q6, nI TJ.length]) nq7
  have v15 := v14.trans v5
  refine ⟨_, rfl, _, rfl, _, rfl, _, rfl, _, rfl, ja, us, rfl, .inl (SqL.of (v15 _ _ jl.ha)), (show 5 ≤ sizeLine by decide), fun q8 nq8 => ?_⟩
  have v6 := same_upd (o := HO.lst [V.ref jb, V.ref D, V.ref jb, V.ref E2, V.int (us.length : Int)]) nq8
  have v56 := v5.trans v6
  have v16 := v15.trans v6
  have jl6 := jl.same v16
  have rA : ∀ {H : Hp} {rs : List V} {M : List (List Nat)}, RowsAt H rs M → ∀ (i : Nat) (v : V) (r : List Nat), rs[i]? = some v → M[i]? = some r → ∃ a, v = .ref a ∧ SqT K H a (r.map nI) := fun h i v r h1 h2 => let ⟨a, e, ha⟩ := h.2 i v r h1 h2; ⟨a, e, SqT.of ha⟩
  have eU : V.int (us.length : Int) = nI TJ.length := by rw [fullJ, ← jl.hp.1]
  refine ⟨_, _, .list [.list (TJ.map dR), .list ((badJ or PJ Bd1 Bd2).map dN), .list (TJ.map dR), .list ((badJ and PJ Bd1 Bd2).map dN), .int (TJ.length : Int)], rfl,
    .lst (SqL.of (v6 _ _ upd_same)) (.cons (.lst (SqL.of ((v2.trans (v3.trans (v4.trans v56))) _ _ upd_same)) (dp_rowsM l3 fun i v r h1 h2 => let ⟨a, e, h⟩ := r3 i v r h1 h2; ⟨a, e, v16.tup h⟩)) (.cons (.lst (SqL.of ((v3.trans (v4.trans v56)) _ _ upd_same)) (dp_nums _)) (.cons (.lst (SqL.of ((v4.trans v56) _ _ upd_same)) (dp_rowsM l5 fun i v r h1 h2 => let ⟨a, e, h⟩ := r5 i v r h1 h2; ⟨a, e, (v3.trans (v4.trans v56)).tup h⟩)) (.cons (.lst (SqL.of (v56 _ _ upd_same)) (dp_nums _)) (.cons (.int _) .nil))))),
    .lst (SqL.of upd_same) (.cons (.lst (SqL.of jl6.hb) (dp_rowsM jl6.hr.1 (rA jl6.hr))) (.cons (.lst (SqL.of (v16 _ _ hdD)) (dp_nums _)) (.cons (.lst (SqL.of jl6.hb) (dp_rowsM jl6.hr.1 (rA jl6.hr))) (.cons (.lst (SqL.of (v16 _ _ hdE2)) (dp_nums _)) (.cons (by rw [eU]; exact .int _) .nil))))), ?_, fun H20 s20 => ⟨_, rfl, iteF ?_⟩⟩
  · refine deep_list (show 5 ≤ 1000 by decide) fun d hd => ?_
    have c1 : (badJ or PJ Bd1 Bd2).length ≤ 1000 := Nat.le_trans badJ_len (by omega)
    have c2 : (badJ and PJ Bd1 Bd2).length ≤ 1000 := Nat.le_trans badJ_len (by omega)
    simp only [List.mem_cons, List.not_mem_nil, or_false] at hd
    rcases hd with rfl | rfl | rfl | rfl | rfl
    · exact deep_Ms hz1.tab (by omega)
    · exact deep_Ns c1
    · exact deep_Ms hz1.tab (by omega)
    · exact deep_Ns c2
    · unfold Deep
      trivial
  replace st := (st.same v16).same s20
  replace jl := jl6.same s20
  replace hdD := s20 _ _ (v16 _ _ hdD)
  have B20 := (B12.same v16).same s20
  have TB20 := (TB12.ext v16).ext s20
  clear v1 v2 v3 v4 v5 v6 v12 v13 v14 v15 v56 v16 s20 jl6 rA nq3 nq4 nq5 nq6 nq7 nq8 r3 r5 hv1 hv2 hz1 hz2 B12 TB12 hdE2
  refine ⟨fun σ H' => σ = [some (.ref a), some (.ref b), some (.str (S F)), some (.ref p), some (.ref p'), some (.ref ja), some (.ref jb), some (.ref x), some (.ref y), some (.ref D), some (.ref E2), some (.ref z1), some (.ref z2), none, none, none, none, none, none, none, none, none] ∧ Bag H' b l ∧ LamX.Tabs (tabL Pt f c) H', ?_, ?_⟩
  · have hz1 := st.hz (z1, TJ, badJ or PJ Bd1 Bd2) (by simp)
    obtain ⟨dz1, _, _, _, hv1, _⟩ := hz1.at_
    have hT : TabIn K H20 (.ref jb) ws TJ := ⟨.inl ⟨jb, rfl, SqL.of jl.hb⟩, jl.hr.1, fun i v r h1 h2 => let ⟨a, e, h⟩ := jl.hr.2 i v r h1 h2; .inr ⟨a, e, SqT.of h⟩⟩
    have hBJ : BadOk TJ.length (badJ or PJ Bd1 Bd2) := by rw [fullJ]; exact badJ_asc
    refine ⟨_, rfl, _, rfl, _, rfl, _, rfl, fun zm dm nzm ndm _ => machine_made (F := F) (M := TJ) (B := badJ or PJ Bd1 Bd2) MC hb1 (by omega) hT hz1.tab (.inl ⟨D, rfl, SqL.of hdD⟩) hBJ nzm ndm fun H21 s21 hZ => ⟨rfl, ?_⟩⟩
    obtain ⟨dz2, _, _, _, hv2, _⟩ := hZ.at_
    refine ⟨z1, dz1, _, _, rfl, s21 _ _ hv1, .ins hv2, o_eq.nf, z1, .ref zm, F, TJ, _, rfl, hz1.same s21, .inl ⟨zm, F, TJ, _, rfl, hZ, true, congrArg V.bl (decide_eq_true ⟨rfl, rfl, rfl⟩), _, rfl, iteF ?_⟩⟩
    replace st := st.same s21
    refine ⟨_, rfl, ask_inv st.hX hb1 fun H22 z3 s22 nz3 hz3 => ?_⟩
    obtain ⟨dz3, _, _, _, hv3, _⟩ := hz3.at_
    refine ⟨z3, dz3, _, rfl, hv3, rfl, z3, F, M1, _, rfl, hz3, fun q3 rs3 nq3 l3 r3 => ?_⟩
    have v1 := same_upd (o := HO.lst rs3) nq3
    have s23 := s22.trans v1
    replace st := st.same s23
    refine ⟨_, rfl, p, _, 0, _, rfl, rfl, SqL.of st.hp, atI_nat (j := 0) rfl, ?_⟩
    have s24 := s21.trans s23
    refine ⟨_, _, .list (M1.map dR), rfl, .lst (SqL.of upd_same) (dp_rowsM l3 fun i v r h1 h2 => let ⟨a, e, h⟩ := r3 i v r h1 h2; ⟨a, e, v1.tup h⟩), .lst (SqL.of st.ht) (dp_rowsM st.hR.1 fun i v r h1 h2 => let ⟨a, e, ha⟩ := st.hR.2 i v r h1 h2; ⟨a, e, SqT.of ha⟩), deep_Ms hM1 (by omega), fun H25 s25 => ⟨_, rfl, iteF ?_⟩⟩
    exact ⟨rfl, B20.same (s24.trans s25), TB20.ext (s24.trans s25)⟩
  · rintro _ H21 ⟨rfl, B21, TB21⟩
    clear st jl hdD hb1 hlt25 hlt few JJ fullJ eJ B20 TB20
    -- rings
    refine ⟨_, rfl, b, l, 20, rfl, B21, by decide, by decide, fun H22 k1 k10 k11 b22 B22 => ?_⟩
    have TB22 := tabs_drawn TB21 B21 b22
    obtain ⟨k1, rfl⟩ := Int.eq_ofNat_of_zero_le k10
    refine ⟨_, _, rfl, rfl, ?_⟩
    rw [show (fun i j : Int => V.int (i + j)) 1 (k1 : Int) = nI (k1 + 1) from congrArg V.int (by omega)]
    refine ⟨_, rfl, b, l, 20, rfl, B22, by decide, by decide, fun H23 k2 k20 k21 b23 B23 => ?_⟩
    have TB23 := tabs_drawn TB22 B22 b23
    obtain ⟨k2, rfl⟩ := Int.eq_ofNat_of_zero_le k20
    refine ⟨_, _, rfl, rfl, ?_⟩
    rw [show (fun i j : Int => V.int (i + j)) 1 (k2 : Int) = nI (k2 + 1) from congrArg V.int (by omega)]
    have m1 : 1 ≤ k1 + 1 := by omega
    have m2 : k1 + 1 ≤ 20 := by omega
    have n1 : 1 ≤ k2 + 1 := by omega
    have n2 : k2 + 1 ≤ 20 := by omega
    generalize k1 + 1 = m at m1 m2 ⊢
    generalize k2 + 1 = n at n1 n2 ⊢
    clear k10 k11 k20 k21 b22 b23 B22 TB22 B21 TB21
    refine ⟨(show 2 ≤ sizeLine by decide), fun q1 nq => ⟨q1, _, rfl, SqT.of upd_same, rfl, _, _, rfl, _, _, rfl, rfl, ?_⟩⟩
    have y1 := same_upd (o := HO.tup [nI m, nI n]) nq
    have TB24 := TB23.ext y1
    generalize upd H23 q1 (HO.tup [nI m, nI n]) = H24 at TB24 ⊢
    clear y1 nq B23 TB23
    refine ⟨_, rfl, _, rfl, (show 2 ≤ sizeLine by decide), fun Lq nLq => ⟨Lq, rfl, ⟨_, SqL.of upd_same⟩, ?_⟩⟩
    have y1 := same_upd (o := HO.lst [nI m, nI n]) nLq
    have hLDa : (upd H24 Lq (.lst [nI m, nI n])) Lq = some (.lst (([m, n] : List Nat).map nI)) := upd_same
    have TB25 := TB24.ext y1
    generalize upd H24 Lq (.lst [nI m, nI n]) = H25 at TB25 hLDa ⊢
    clear y1 nLq TB24
    have posA : ∀ s ∈ ([m, n] : List Nat), 1 ≤ s ∧ s ≤ 200 := fun s hs => by
      simp only [List.mem_cons, List.not_mem_nil, or_false] at hs
      omega
    refine fun Da nDa => ?_
    refine lc_it (walk_list (xs := ([m, n] : List Nat).map nI)) (fun i H' => ∃ zs : List Addr, Same H25 H' ∧ H' Da = some (.lst (zs.map V.ref)) ∧ RingsAt K CM H' zs (([m, n] : List Nat).take i)) ⟨[], same_upd nDa, upd_same, rfl, fun i z s h => by cases h⟩ (fun i H' _ ⟨_, h, _⟩ => SqL.of (h _ _ hLDa)) ?_ ?_
    · rintro i v H3 H3' hi ⟨zs, s3, hD3, hR3⟩ ⟨rfl, hv⟩
      rw [List.getElem?_map] at hv
      obtain ⟨n, hn, rfl⟩ := Option.map_eq_some_iff.mp hv
      obtain ⟨n1, n2⟩ := posA n (List.mem_of_getElem? hn)
      have npos : (0 : Int) < (n : Int) := by omega
      refine ⟨rfl, _, rfl, _, rfl, by omega, by omega, fun Dr hDr => ?_⟩
      have Drn : Dr ≠ Da := (ne_of_none hD3 hDr).symm
      refine lc_range (n := n) (fun i H' => ∃ rs2 : List V, rs2.length = i ∧ Same H3' H' ∧ H' Dr = some (.lst rs2) ∧ RowsAt H' rs2 ((List.range i).map fun s => [(s + 1) % n])) ⟨[], rfl, same_upd hDr, upd_same, rfl, by simp⟩ ?_ ?_
      · rintro j H' hj ⟨rs2, hl2, s2, hD2, hR2⟩
        refine ⟨rfl, _, rfl, _, _, rfl, rfl, .inl ⟨_, rfl, _, rfl, _, _, rfl, rfl, npos, (show 1 ≤ sizeLine by decide), fun tq ntq => ?_⟩⟩
        have ev : (fun i j : Int => V.int (i % j)) (0 + (j : Int) + 1) (n : Int) = nI ((j + 1) % n) := congrArg V.int (by rw [Int.zero_add]; rfl)
        rw [ev]
        have k1 := same_upd (o := HO.tup [nI ((j + 1) % n)]) ntq
        have tD : tq ≠ Dr := (ne_of_none hD2 ntq).symm
        have hD4 := k1 _ _ hD2
        have R3 := hR2.same k1
        have e3 := @upd_same H' tq (HO.tup [nI ((j + 1) % n)])
        have s4 := s2.trans k1
        generalize upd H' tq (HO.tup [nI ((j + 1) % n)]) = H4 at hD4 R3 e3 s4 ⊢
        refine ⟨rs2, hD4, by rw [hl2]; exact sz1 (by omega), rs2 ++ [.ref tq], by rw [List.length_append, hl2]; rfl, fun c o e => (upd_ne (ne_of_none e hDr)).trans (s4 _ _ e), upd_same, ?_⟩
        rw [List.range_succ, List.map_append]
        exact (R3.but (b := Dr) hD4 (fun c o n e => (upd_ne n).trans e)).snoc ((upd_ne tD).trans e3)
      rintro H5 ⟨rs2, hl2, s5, hD5, hR5⟩
      have hTab : TabIn K H5 (.ref Dr) rs2 (ringT n) := ⟨.inl ⟨Dr, rfl, SqL.of hD5⟩, hR5.1, fun i v r h1 h2 => let ⟨a, e, h⟩ := hR5.2 i v r h1 h2; .inr ⟨a, e, SqT.of h⟩⟩
      refine fun x2 dx nx ndx _ => machine_made (F := [97]) (M := ringT n) (B := []) MC (by decide +kernel) (by decide) hTab (ring_ok n1 n2) (.inr ⟨ae, rfl, hae _⟩) ⟨.nil, (fun _ h => nomatch h)⟩ nx ndx fun H6 s6 hX => ⟨rfl, ?_⟩
      have s36 := s5.trans s6
      have hD6 := s36 _ _ hD3
      have nl6 : NL H6 (upd H6 Da (.lst (zs.map V.ref ++ [V.ref x2]))) := NL.refl.set hD6
      refine ⟨_, hD6, by rw [List.length_map, hR3.1, List.length_take]; exact sz1 (by have : i < 4 := Nat.lt_of_lt_of_le hi (by simp); omega), zs ++ [x2], fun z o hz => (upd_ne (ne_of_none hz nDa)).trans (s36 _ _ (s3 _ _ hz)), by rw [upd_same, List.map_append]; rfl, ?_⟩
      rw [List.take_add_one, hn]
      exact RingsAt.snoc ⟨hR3.1, fun i z s h1 h2 => ((hR3.2 i z s h1 h2).same s36).nl nl6⟩ (hX.nl nl6)
    rintro H26 ⟨zsDa, sDa, hdDa, rgDa⟩
    rw [List.take_of_length_le (by rw [List.length_map]; exact Nat.le_refl _)] at rgDa

    replace TB25 := TB25.ext sDa
    have TB26 := TB25
    clear TB25 sDa hLDa nDa posA
    have mpos : (0 : Int) < (m : Int) := by omega
    have npos : (0 : Int) < (n : Int) := by omega
    -- what both go into
    have hmn : m * n ≤ 400 := Nat.mul_le_mul m2 n2
    have em : (m : Int) * (n : Int) = ((m * n : Nat) : Int) := rfl
    have cnt : ((m : Int) * (n : Int) + 1 - 1).toNat = m * n := by rw [em]; omega
    refine ⟨_, rfl, _, rfl, _, _, rfl, rfl, .inl (by omega), _, _, rfl, rfl, 1, _, rfl, by rw [em]; omega, fun D2 nD2 => ?_⟩
    refine lc_range (n := ((m : Int) * (n : Int) + 1 - 1).toNat) (fun i H' => Same H26 H' ∧ H' D2 = some (.lst ((mults m n i).map nI))) ⟨same_upd nD2, upd_same⟩ ?_ ?_
    · rintro i H' hi ⟨s2, hD2⟩
      rw [cnt] at hi
      have ev1 : (fun i j : Int => V.int (i % j)) (1 + (i : Int)) (m : Int) = nI ((i + 1) % m) := congrArg V.int (by rw [Int.add_comm]; rfl)
      have ev2 : (fun i j : Int => V.int (i % j)) (1 + (i : Int)) (n : Int) = nI ((i + 1) % n) := congrArg V.int (by rw [Int.add_comm]; rfl)
      have ev3 : V.int (1 + (i : Int)) = nI (i + 1) := congrArg V.int (by rw [Int.add_comm]; rfl)
      refine ⟨rfl, _, rfl, .inl ⟨_, rfl, _, rfl, _, _, rfl, rfl, mpos, rfl, _, rfl, ?_⟩⟩
      rw [ev1]
      refine ite_dec (fun h1 => ?_) (fun h1 => ?_)
      · refine ⟨_, rfl, .inl ⟨_, rfl, _, rfl, _, _, rfl, rfl, npos, rfl, _, rfl, ?_⟩⟩
        rw [ev2]
        refine ite_dec (fun h2 => ?_) (fun h2 => ?_)
        · refine ⟨_, rfl, _, hD2, by rw [List.length_map]; have := mults_len m n i; exact sz1 (by omega), fun z o hz => (upd_ne (ne_of_none hz nD2)).trans (s2 _ _ hz), ?_⟩
          rw [upd_same, mults_succ, if_pos ⟨nI_zero h1, nI_zero h2⟩, List.map_append, ev3]
          rfl
        · refine ⟨s2, ?_⟩
          rw [hD2, mults_succ, if_neg (fun h => h2 (by rw [h.2]; rfl)), List.append_nil]
      · refine ⟨s2, ?_⟩
        rw [hD2, mults_succ, if_neg (fun h => h1 (by rw [h.1]; rfl)), List.append_nil]
    rintro H27 ⟨s27, hD27⟩
    rw [cnt] at hD27
    have hhead : ((mults m n (m * n)).map nI)[0]? = some (nI (Nat.lcm m n)) := by
      rw [List.getElem?_map, (mults_head (by omega) (by omega) (m * n)).2 (lcm_le (by omega) (by omega))]
      rfl
    refine ⟨D2, _, 0, _, rfl, rfl, SqL.of hD27, atI_nat (j := 0) hhead, ?_⟩
    have TB27 := TB26.ext s27
    replace hdDa := s27 _ _ hdDa
    replace rgDa := rgDa.same s27
    clear s27 hD27 nD2 hhead TB26
    -- what is due
    refine ⟨fun σ H' => ∃ (t : Addr) (z : Str) (v : Nat), σ = [some (.ref a), some (.ref b), some (.str (S F)), some (.ref p), some (.ref p'), some (.ref ja), some (.ref jb), some (.ref x), some (.ref y), some (.ref D), some (.ref E2), some (.ref z1), some (.ref z2), some (nI m), some (nI n), some (.ref Da), some (nI (Nat.lcm m n)), some (.ref t), none, none, none, none] ∧ H' t = some (.tup [.str z, nI v]) ∧ (Nat.lcm m n ≤ 200 ∧ z = "" ∧ v = Nat.lcm m n ∨ 200 < Nat.lcm m n ∧ z = "TooMany" ∧ v = 200) ∧ H' Da = some (.lst (zsDa.map V.ref)) ∧ RingsAt K CM H' zsDa [m, n] ∧ LamX.Tabs (tabL Pt f c) H', ?_, ?_⟩
    · refine ⟨_, rfl, _, _, rfl, rfl, _, rfl, ?_⟩
      refine ite_dec (fun h => ?_) (fun h => ?_)
      · have h' : Nat.lcm m n ≤ 200 := by omega
        refine ⟨_, rfl, (show 2 ≤ sizeLine by decide), fun t nt => ?_⟩
        have y1 := same_upd (o := HO.tup [V.str "", nI (Nat.lcm m n)]) nt
        exact ⟨t, "", _, rfl, upd_same, .inl ⟨h', rfl, rfl⟩, y1 _ _ hdDa, rgDa.same y1, TB27.ext y1⟩
      · have h' : 200 < Nat.lcm m n := by omega
        refine ⟨(show 2 ≤ sizeLine by decide), fun t nt => ?_⟩
        have y1 := same_upd (o := HO.tup [V.str "TooMany", V.int 200]) nt
        exact ⟨t, "TooMany", 200, rfl, upd_same, .inr ⟨h', rfl, rfl⟩, y1 _ _ hdDa, rgDa.same y1, TB27.ext y1⟩
    rintro _ H28 ⟨td, zd, vd, rfl, htd, hdue, hdDa8, rgDa8, TB28⟩
    clear hdDa rgDa TB27
    refine ⟨TB28, fun f1 c1 v1 G1 e1 T1 m1' la1 => ?_⟩
    refine ⟨T1, fun f2 c2 v2 G2 e2 T2 m2' la2 => ?_⟩
    replace la1 := la1.ext e2
    have ex := e1.trans e2
    replace hdDa8 := ex _ _ hdDa8 (fun _ z => by cases z)
    replace htd := ex _ _ htd (fun _ z => by cases z)
    replace rgDa8 := rgDa8.extN ex
    clear ex e1 e2 T1 m1' m2' TB28
    refine ⟨(show 2 ≤ sizeLine by decide), fun l7 nl7 => ?_⟩
    have sl' := same_upd (o := HO.lst [V.ref f1, .ref f2]) nl7
    have hl7 : (upd G2 l7 (.lst [V.ref f1, .ref f2])) l7 = some (.lst ([f1, f2].map V.ref)) := upd_same
    replace la1 := la1.same sl'
    replace la2 := la2.same sl'
    replace hdDa8 := sl' _ _ hdDa8
    replace htd := sl' _ _ htd
    replace rgDa8 := rgDa8.same sl'
    have TB29 := T2.ext sl'
    generalize upd G2 l7 (.lst [V.ref f1, .ref f2]) = G7 at la1 la2 hdDa8 htd rgDa8 TB29 hl7 ⊢
    clear sl' nl7 T2
    have mp : 0 < m := m1
    have np : 0 < n := n1
    obtain ⟨ra, rb, rfl⟩ : ∃ ra rb, zsDa = [ra, rb] := by
      have h2 : zsDa.length = 2 := rgDa8.1
      match zsDa, h2 with
      | [u, v], _ => exact ⟨u, v, rfl⟩
    have hra := rgDa8.2 0 ra m rfl rfl
    have hrb := rgDa8.2 1 rb n rfl rfl
    refine ⟨_, rfl, l7, [f1, f2], rfl, rfl, hl7, tries_run [.tuple [.str zd, .int vd], .tuple [.str zd, .int vd]] hl7 (fun D' nD' => ?_) (fun H7 D' s7 nD' hD' => ?_)⟩
    · rcases hdue with ⟨hL, rfl, rfl⟩ | ⟨hL, rfl, rfl⟩
      · refine ⟨?_, ?_, trivial⟩
        · exact oneAsk_ok nD' la1 fun H s hD E Q h => ⟨_, rfl, Da, _, 0, _, rfl, rfl, SqL.of (s _ _ hdDa8), atI_nat (j := 0) rfl, _, rfl, Da, _, 1, _, rfl, rfl, SqL.of (s _ _ hdDa8), atI_nat (j := 1) rfl, ask_ring (hra.same s) (hrb.same s) mp np hL fun H' z T B s' hz hT => by
            obtain ⟨dz, _, _, _, hv, _⟩ := hz.at_
            exact ⟨z, dz, _, rfl, hv, z, [97], T, B, rfl, hz, h H' _ s' fun Hx bx => by rw [hT]; exact .int _⟩⟩
        · exact oneAsk_ok nD' la2 fun H s hD E Q h => ⟨_, rfl, Da, _, 0, _, rfl, rfl, SqL.of (s _ _ hdDa8), atI_nat (j := 0) rfl, _, rfl, Da, _, 1, _, rfl, rfl, SqL.of (s _ _ hdDa8), atI_nat (j := 1) rfl, ask_ring (hra.same s) (hrb.same s) mp np hL fun H' z T B s' hz hT => by
            obtain ⟨dz, _, _, _, hv, _⟩ := hz.at_
            exact ⟨z, dz, _, rfl, hv, z, [97], T, B, rfl, hz, h H' _ s' fun Hx bx => by rw [hT]; exact .int _⟩⟩
      · refine ⟨?_, ?_, trivial⟩
        · exact oneAsk_err TM nD' la1 (.int 200) fun H s E Q h => ⟨_, rfl, Da, _, 0, _, rfl, rfl, SqL.of (s _ _ hdDa8), atI_nat (j := 0) rfl, _, rfl, Da, _, 1, _, rfl, rfl, SqL.of (s _ _ hdDa8), atI_nat (j := 1) rfl, ask_ringX (hra.same s) (hrb.same s) mp np hL h⟩
        · exact oneAsk_err TM nD' la2 (.int 200) fun H s E Q h => ⟨_, rfl, Da, _, 0, _, rfl, rfl, SqL.of (s _ _ hdDa8), atI_nat (j := 0) rfl, _, rfl, Da, _, 1, _, rfl, rfl, SqL.of (s _ _ hdDa8), atI_nat (j := 1) rfl, ask_ringX (hra.same s) (hrb.same s) mp np hL h⟩
    refine ⟨_, rfl, _, rfl, (show 2 ≤ sizeLine by decide), fun t2 nt2 => ?_⟩
    have k2 := same_upd (o := HO.lst [V.ref td, V.ref td]) nt2
    have htd2 := k2 _ _ (s7 _ _ htd)
    refine ⟨_, _, _, rfl, Dp.same k2 hD', .lst (SqL.of upd_same) (.cons (.tup (SqT.of htd2) (.cons (.str _) (.cons (.int _) .nil))) (.cons (.tup (SqT.of htd2) (.cons (.str _) (.cons (.int _) .nil))) .nil)), deep_list (show 2 ≤ 1000 by decide) (fun d hd => ?_), fun H8 s8 => ⟨_, rfl, iteF ?_⟩⟩
    · simp only [List.mem_cons, List.not_mem_nil, or_false, or_self] at hd
      subst hd
      exact dTI _ _ (by unfold Deep; trivial)
    have TB30 := (TB29.ext (s7.trans k2)).ext s8
    clear hdDa8 htd rgDa8 TB29 hl7 la1 la2 hra hrb hD' s7 nD' k2 htd2 nt2 s8 hdue
    -- four rings
    refine ⟨(show 4 ≤ sizeLine by decide), fun Lq nLq => ⟨Lq, rfl, ⟨_, SqL.of upd_same⟩, ?_⟩⟩
    have y1 := same_upd (o := HO.lst [V.int 1, V.int 200, V.int 67, V.int 3]) nLq
    have hLDb : (upd H8 Lq (.lst [V.int 1, V.int 200, V.int 67, V.int 3])) Lq = some (.lst (([1, 200, 67, 3] : List Nat).map nI)) := upd_same
    have TB31 := TB30.ext y1
    generalize upd H8 Lq (.lst [V.int 1, V.int 200, V.int 67, V.int 3]) = H31 at TB31 hLDb ⊢
    clear y1 nLq TB30
    have posB : ∀ s ∈ ([1, 200, 67, 3] : List Nat), 1 ≤ s ∧ s ≤ 200 := by decide
    refine fun Db nDb => ?_
    refine lc_it (walk_list (xs := ([1, 200, 67, 3] : List Nat).map nI)) (fun i H' => ∃ zs : List Addr, Same H31 H' ∧ H' Db = some (.lst (zs.map V.ref)) ∧ RingsAt K CM H' zs (([1, 200, 67, 3] : List Nat).take i)) ⟨[], same_upd nDb, upd_same, rfl, fun i z s h => by cases h⟩ (fun i H' _ ⟨_, h, _⟩ => SqL.of (h _ _ hLDb)) ?_ ?_
    · rintro i v H3 H3' hi ⟨zs, s3, hD3, hR3⟩ ⟨rfl, hv⟩
      rw [List.getElem?_map] at hv
      obtain ⟨n, hn, rfl⟩ := Option.map_eq_some_iff.mp hv
      obtain ⟨n1, n2⟩ := posB n (List.mem_of_getElem? hn)
      have npos : (0 : Int) < (n : Int) := by omega
      refine ⟨rfl, _, rfl, _, rfl, by omega, by omega, fun Dr hDr => ?_⟩
      have Drn : Dr ≠ Db := (ne_of_none hD3 hDr).symm
      refine lc_range (n := n) (fun i H' => ∃ rs2 : List V, rs2.length = i ∧ Same H3' H' ∧ H' Dr = some (.lst rs2) ∧ RowsAt H' rs2 ((List.range i).map fun s => [(s + 1) % n])) ⟨[], rfl, same_upd hDr, upd_same, rfl, by simp⟩ ?_ ?_
      · rintro j H' hj ⟨rs2, hl2, s2, hD2, hR2⟩
        refine ⟨rfl, _, rfl, _, _, rfl, rfl, .inl ⟨_, rfl, _, rfl, _, _, rfl, rfl, npos, (show 1 ≤ sizeLine by decide), fun tq ntq => ?_⟩⟩
        have ev : (fun i j : Int => V.int (i % j)) (0 + (j : Int) + 1) (n : Int) = nI ((j + 1) % n) := congrArg V.int (by rw [Int.zero_add]; rfl)
        rw [ev]
        have k1 := same_upd (o := HO.tup [nI ((j + 1) % n)]) ntq
        have tD : tq ≠ Dr := (ne_of_none hD2 ntq).symm
        have hD4 := k1 _ _ hD2
        have R3 := hR2.same k1
        have e3 := @upd_same H' tq (HO.tup [nI ((j + 1) % n)])
        have s4 := s2.trans k1
        generalize upd H' tq (HO.tup [nI ((j + 1) % n)]) = H4 at hD4 R3 e3 s4 ⊢
        refine ⟨rs2, hD4, by rw [hl2]; exact sz1 (by omega), rs2 ++ [.ref tq], by rw [List.length_append, hl2]; rfl, fun c o e => (upd_ne (ne_of_none e hDr)).trans (s4 _ _ e), upd_same, ?_⟩
        rw [List.range_succ, List.map_append]
        exact (R3.but (b := Dr) hD4 (fun c o n e => (upd_ne n).trans e)).snoc ((upd_ne tD).trans e3)
      rintro H5 ⟨rs2, hl2, s5, hD5, hR5⟩
      have hTab : TabIn K H5 (.ref Dr) rs2 (ringT n) := ⟨.inl ⟨Dr, rfl, SqL.of hD5⟩, hR5.1, fun i v r h1 h2 => let ⟨a, e, h⟩ := hR5.2 i v r h1 h2; .inr ⟨a, e, SqT.of h⟩⟩
      refine fun x2 dx nx ndx _ => machine_made (F := [97]) (M := ringT n) (B := []) MC (by decide +kernel) (by decide) hTab (ring_ok n1 n2) (.inr ⟨ae, rfl, hae _⟩) ⟨.nil, (fun _ h => nomatch h)⟩ nx ndx fun H6 s6 hX => ⟨rfl, ?_⟩
      have s36 := s5.trans s6
      have hD6 := s36 _ _ hD3
      have nl6 : NL H6 (upd H6 Db (.lst (zs.map V.ref ++ [V.ref x2]))) := NL.refl.set hD6
      refine ⟨_, hD6, by rw [List.length_map, hR3.1, List.length_take]; exact sz1 (by have : i < 4 := Nat.lt_of_lt_of_le hi (by simp); omega), zs ++ [x2], fun z o hz => (upd_ne (ne_of_none hz nDb)).trans (s36 _ _ (s3 _ _ hz)), by rw [upd_same, List.map_append]; rfl, ?_⟩
      rw [List.take_add_one, hn]
      exact RingsAt.snoc ⟨hR3.1, fun i z s h1 h2 => ((hR3.2 i z s h1 h2).same s36).nl nl6⟩ (hX.nl nl6)
    rintro H32 ⟨zsDb, sDb, hdDb, rgDb⟩
    rw [List.take_of_length_le (by rw [List.length_map]; exact Nat.le_refl _)] at rgDb

    have TB32 := TB31.ext sDb
    clear sDb hLDb nDb posB TB31
    refine ⟨TB32, fun f1 c1 v1 G1 e1 T1 m1' la1 => ?_⟩
    refine ⟨T1, fun f2 c2 v2 G2 e2 T2 m2' la2 => ?_⟩
    refine ⟨T2, fun f3 c3 v3 G3 e3 T3 m3' la3 => ?_⟩
    refine ⟨T3, fun f4 c4 v4 G4 e4 T4 m4' la4 => ?_⟩
    replace la1 := ((la1.ext e2).ext e3).ext e4
    replace la2 := (la2.ext e3).ext e4
    replace la3 := la3.ext e4
    have ex := ((e1.trans e2).trans e3).trans e4
    replace hdDb := ex _ _ hdDb (fun _ z => by cases z)
    replace rgDb := rgDb.extN ex
    clear ex e1 e2 e3 e4 T1 T2 T3 T4 m1' m2' m3' m4' TB32
    refine ⟨(show 4 ≤ sizeLine by decide), fun l7 nl7 => ?_⟩
    have sl' := same_upd (o := HO.lst [V.ref f1, .ref f2, .ref f3, .ref f4]) nl7
    have hl7 : (upd G4 l7 (.lst [V.ref f1, .ref f2, .ref f3, .ref f4])) l7 = some (.lst ([f1, f2, f3, f4].map V.ref)) := upd_same
    replace la1 := la1.same sl'
    replace la2 := la2.same sl'
    replace la3 := la3.same sl'
    replace la4 := la4.same sl'
    replace hdDb := sl' _ _ hdDb
    replace rgDb := rgDb.same sl'
    generalize upd G4 l7 (.lst [V.ref f1, .ref f2, .ref f3, .ref f4]) = G7 at la1 la2 la3 la4 hdDb rgDb hl7 ⊢
    clear sl' nl7
    obtain ⟨ra, rb, rc, rd, rfl⟩ : ∃ ra rb rc rd, zsDb = [ra, rb, rc, rd] := by
      have h2 : zsDb.length = 4 := rgDb.1
      match zsDb, h2 with
      | [u, v, x, y], _ => exact ⟨u, v, x, y, rfl⟩
    have hra := rgDb.2 0 ra 1 rfl rfl
    have hrb := rgDb.2 1 rb 200 rfl rfl
    have hrc := rgDb.2 2 rc 67 rfl rfl
    have hrd := rgDb.2 3 rd 3 rfl rfl
    have lcA : Nat.lcm 200 1 = 200 := by decide +kernel
    have lcB : Nat.lcm 1 200 = 200 := by decide +kernel
    have lcC : Nat.lcm 67 3 = 201 := by decide +kernel
    have lcD : Nat.lcm 3 67 = 201 := by decide +kernel
    refine ⟨_, rfl, l7, [f1, f2, f3, f4], rfl, rfl, hl7, tries_run [.tuple [.str "", .int 200], .tuple [.str "", .int 200], .tuple [.str "TooMany", .int 200], .tuple [.str "TooMany", .int 200]] hl7 (fun D' nD' => ?_) (fun H7 D' s7 nD' hD' => ?_)⟩
    · refine ⟨?_, ?_, ?_, ?_, trivial⟩
      · exact oneAsk_ok nD' la1 fun H s hD E Q h => ⟨_, rfl, Db, _, 1, _, rfl, rfl, SqL.of (s _ _ hdDb), atI_nat (j := 1) rfl, _, rfl, Db, _, 0, _, rfl, rfl, SqL.of (s _ _ hdDb), atI_nat (j := 0) rfl, ask_ring (hrb.same s) (hra.same s) (by decide) (by decide) (by omega) fun H' z T B s' hz hT => by
          obtain ⟨dz, _, _, _, hv, _⟩ := hz.at_
          exact ⟨z, dz, _, rfl, hv, z, [97], T, B, rfl, hz, h H' _ s' fun Hx bx => by rw [hT, lcA]; exact .int _⟩⟩
      · exact oneAsk_ok nD' la2 fun H s hD E Q h => ⟨_, rfl, Db, _, 0, _, rfl, rfl, SqL.of (s _ _ hdDb), atI_nat (j := 0) rfl, _, rfl, Db, _, 1, _, rfl, rfl, SqL.of (s _ _ hdDb), atI_nat (j := 1) rfl, ask_ring (hra.same s) (hrb.same s) (by decide) (by decide) (by omega) fun H' z T B s' hz hT => by
          obtain ⟨dz, _, _, _, hv, _⟩ := hz.at_
          exact ⟨z, dz, _, rfl, hv, z, [97], T, B, rfl, hz, h H' _ s' fun Hx bx => by rw [hT, lcB]; exact .int _⟩⟩
      · exact oneAsk_err TM nD' la3 (.int 200) fun H s E Q h => ⟨_, rfl, Db, _, 2, _, rfl, rfl, SqL.of (s _ _ hdDb), atI_nat (j := 2) rfl, _, rfl, Db, _, 3, _, rfl, rfl, SqL.of (s _ _ hdDb), atI_nat (j := 3) rfl, ask_ringX (hrc.same s) (hrd.same s) (by decide) (by decide) (by omega) h⟩
      · exact oneAsk_err TM nD' la4 (.int 200) fun H s E Q h => ⟨_, rfl, Db, _, 3, _, rfl, rfl, SqL.of (s _ _ hdDb), atI_nat (j := 3) rfl, _, rfl, Db, _, 2, _, rfl, rfl, SqL.of (s _ _ hdDb), atI_nat (j := 2) rfl, ask_ringX (hrd.same s) (hrc.same s) (by decide) (by decide) (by omega) h⟩
    refine ⟨(show 2 ≤ sizeLine by decide), fun t1 nt1 => ?_⟩
    have k1 := same_upd (o := HO.tup [V.str "", V.int 200]) nt1
    refine ⟨(show 2 ≤ sizeLine by decide), fun t2 nt2 => ?_⟩
    have k2 := same_upd (o := HO.tup [V.str "", V.int 200]) nt2
    refine ⟨(show 2 ≤ sizeLine by decide), fun t3 nt3 => ?_⟩
    have k3 := same_upd (o := HO.tup [V.str "TooMany", V.int 200]) nt3
    refine ⟨(show 2 ≤ sizeLine by decide), fun t4 nt4 => ?_⟩
    have k4 := same_upd (o := HO.tup [V.str "TooMany", V.int 200]) nt4
    refine ⟨(show 4 ≤ sizeLine by decide), fun t5 nt5 => ?_⟩
    have k5 := same_upd (o := HO.lst [V.ref t1, .ref t2, .ref t3, .ref t4]) nt5
    have tt : ∀ {Hx Hy : Hp} {t : Addr} {z : Str}, Same Hx Hy → Hx t = some (.tup [V.str z, V.int 200]) → Dp K Hy (.ref t) (.tuple [.str z, .int 200]) := fun s h => .tup (SqT.of (s _ _ h)) (.cons (.str _) (.cons (.int _) .nil))
    refine ⟨_, _, _, rfl, Dp.same (k1.trans (k2.trans (k3.trans (k4.trans k5)))) hD', .lst (SqL.of upd_same) (.cons (tt (k2.trans (k3.trans (k4.trans k5))) upd_same) (.cons (tt (k3.trans (k4.trans k5)) upd_same) (.cons (tt (k4.trans k5) upd_same) (.cons (tt k5 upd_same) .nil)))), deep_list (show 4 ≤ 1000 by decide) (fun d hd => ?_), fun H' _ => q _⟩
    simp only [List.mem_cons, List.not_mem_nil, or_false] at hd
    rcases hd with rfl | rfl | rfl | rfl <;> exact dTI _ _ (by unfold Deep; trivial)
end
end FW
namespace FW
open PySem PySem.Spec PyProof.Rows L2
/-- the end of a law row whose law's own text holds a lambda: the law's table at P, its code object at c -/
theorem walk_tab {l : PySem.W.OpenLaw} {n k : Nat} {q : Program} {loose : List Str} {XP : (Str → Option Value) → Heap → Prop} {YP : World → Heap → Prop} {d : DefRec} {K : Params → PySem.W.Frag} {x : Str} {sp : PySem.W.Frag → Addr → Sp} {c P : Addr}
    (hn : l.most = some n) (hn2 : n ≤ sizeLine) (hdf : d.params.defaults = []) (hr : Room k callerA) (hY : ∀ (w : World) (h : Heap), YP w h → (K w.params).In h)
    (hT : ∀ (w : World) (h : Heap), YP w h → h.get? P = some (PySem.W.tabObj #[])) (hnP : ∀ pr : Params, (K pr).lookup P = none)
    (F : ∀ (w : World) (mg : Str → Option Value) (fa : Addr) (h : Heap), (K w.params).In h → h.Ns mainGlobals mg → mg d.name = some (.ref fa) →
      ∃ fd : FuncData, (∀ (s : Shared) (u : Value), BindsTo s fd ⟨[u], []⟩ [(x, u)]) ∧ ∀ base : Heap, (K w.params).In base → base.Ns mainGlobals mg → LamX.TabB base mg c P → FnOk l.prog w (K w.params) mg base L2.CX0 k fa fd [x] (sp (K w.params) P))
    (hc : ∀ pr : Params, PySem.W.codeHdIn (K pr) c P = true) (hsp : ∀ (pr : Params) (H : Hp) (a : Addr) (ns : List Int), ns.length ≤ n → H P = some (.tbl #[]) → SqL (K pr) H a (ns.map V.int) → sp (K pr) P [.ref a] H (fun v _ => v = .bl true) fun _ _ _ => False) :
    PySem.W.WalkO q loose XP YP l.row.toRowW d [] (fun f vs => PySem.call f vs) := by
  refine Att.attach_callB hn hdf fun w s₀ s₁ mg mb fa o pm cd doc a vs ns G Y ho hd hcd hmg hobj hints hlen hbits hg => ?_
  have X := hY w _ Y
  obtain ⟨fd, hb, hF⟩ := F w mg fa _ X G.T.g hmg
  have hP := hT w _ Y
  refine LamX.law_callTs (cs := [(c, P)]) X G.T.g G.T.b G.T.builtins G.T.nolimit hg (fun p hp => ?_) (fun p hp => ?_) (fun p hp => ?_) G.T.bmain hobj hints (Nat.le_trans hlen hn2) hr
    (fun base h1 h2 h3 => hF base h1 h2 (h3 _ List.mem_cons_self)) hb (fun H hH hS => hsp w.params H a ns hlen (hH _ List.mem_cons_self) hS) (fun _ _ _ z => z)
  · rw [List.mem_singleton.mp hp]
    exact hP
  · rw [List.mem_singleton.mp hp]
    exact hnP w.params
  · rw [List.mem_singleton.mp hp]
    exact PySem.W.codeHd_of_K X (hc w.params)
end FW
namespace FW
open PySem PySem.Spec PyProof.Rows L2
theorem all_mk {l : PySem.W.OpenLaw} {w : World} {K : PySem.W.Frag} {h : Heap} {mg : Str → Option Value} {fa : Addr} {C_TooMany fI_TooMany NC_TooMany C1 C2 C3 CM f_Mi T_Mi ae f_M_and f_is_string f_is_ascending f_is_choice f_is_faces f_is_integer f_is_number f_is_row f_check_table f_check_bad f_check_other f_pairs_of f_M_or f_M_invert f_M_eq f__law_tries f__law_try f__law_field f__law_same p_size f_M_size f__law_draw f_M_table f_M_bad f__law_machine f__law_joint f__law_some_machine f__law_letters f__law_some_faces f__law_open f_law c Pt : Addr} {tk_TooMany tM tk__LOWER tk__MOST_FACES : Tok} {nm_TooMany qn_TooMany : Str} {bs_TooMany bm_TooMany sub_TooMany r_size : List Value} {sn_TooMany : List Str} {ab_TooMany : Bool} {col_TooMany : Option Bool} {k0_TooMany k1_TooMany k3_TooMany k5_TooMany : Option Value} {dd_TooMany odI_TooMany anI_TooMany od_Mi an_Mi dt_Mi da_Mi od_M_and an_M_and od_is_string an_is_string od_is_ascending an_is_ascending od_is_choice an_is_choice od_is_faces an_is_faces od_is_integer an_is_integer od_is_number an_is_number od_is_row an_is_row od_check_table an_check_table od_check_bad an_check_bad od_check_other an_check_other od_pairs_of an_pairs_of od_M_or an_M_or od_M_invert an_M_invert od_M_eq an_M_eq od__law_tries an__law_tries od__law_try an__law_try od__law_field an__law_field od__law_same an__law_same od_M_size an_M_size od__law_draw an__law_draw od_M_table an_M_table od_M_bad an_M_bad od__law_machine an__law_machine od__law_joint an__law_joint od__law_some_machine an__law_some_machine od__law_letters an__law_letters od__law_some_faces an__law_some_faces od__law_open an__law_open od_law an_law : Option Addr} {slI_TooMany sl_Mi st_Mi sa_Mi sl_M_and sl_is_string sl_is_ascending sl_is_choice sl_is_faces sl_is_integer sl_is_number sl_is_row sl_check_table sl_check_bad sl_check_other sl_pairs_of sl_M_or sl_M_invert sl_M_eq sl__law_tries sl__law_try sl__law_field sl__law_same sl_M_size sl__law_draw sl_M_table sl_M_bad sl__law_machine sl__law_joint sl__law_some_machine sl__law_letters sl__law_some_faces sl__law_open sl_law : Array (Option Value)} {ocI_TooMany kVI_TooMany dcI_TooMany pmI_TooMany cdI_TooMany ctI_TooMany oc_Mi kV_Mi dc_Mi pm_Mi cd_Mi ct_Mi ot_Mi oc_M_and kV_M_and dc_M_and pm_M_and cd_M_and ct_M_and oc_is_string kV_is_string dc_is_string pm_is_string cd_is_string ct_is_string oc_is_ascending kV_is_ascending dc_is_ascending pm_is_ascending cd_is_ascending ct_is_ascending oc_is_choice kV_is_choice dc_is_choice pm_is_choice cd_is_choice ct_is_choice oc_is_faces kV_is_faces dc_is_faces pm_is_faces cd_is_faces ct_is_faces oc_is_integer kV_is_integer dc_is_integer pm_is_integer cd_is_integer ct_is_integer oc_is_number kV_is_number dc_is_number pm_is_number cd_is_number ct_is_number oc_is_row kV_is_row dc_is_row pm_is_row cd_is_row ct_is_row oc_check_table kV_check_table dc_check_table pm_check_table cd_check_table ct_check_table oc_check_bad kV_check_bad dc_check_bad pm_check_bad cd_check_bad ct_check_bad oc_check_other kV_check_other dc_check_other pm_check_other cd_check_other ct_check_other oc_pairs_of kV_pairs_of dc_pairs_of pm_pairs_of cd_pairs_of ct_pairs_of oc_M_or kV_M_or dc_M_or pm_M_or cd_M_or ct_M_or oc_M_invert kV_M_invert dc_M_invert pm_M_invert cd_M_invert ct_M_invert oc_M_eq kV_M_eq dc_M_eq pm_M_eq cd_M_eq ct_M_eq oc__law_tries kV__law_tries dc__law_tries pm__law_tries cd__law_tries ct__law_tries oc__law_try kV__law_try dc__law_try pm__law_try cd__law_try ct__law_try oc__law_field kV__law_field dc__law_field pm__law_field cd__law_field ct__law_field oc__law_same kV__law_same dc__law_same pm__law_same cd__law_same ct__law_same oc_M_size kV_M_size dc_M_size pm_M_size cd_M_size ct_M_size oc__law_draw kV__law_draw dc__law_draw pm__law_draw cd__law_draw ct__law_draw oc_M_table kV_M_table dc_M_table pm_M_table cd_M_table ct_M_table oc_M_bad kV_M_bad dc_M_bad pm_M_bad cd_M_bad ct_M_bad oc__law_machine kV__law_machine dc__law_machine pm__law_machine cd__law_machine ct__law_machine oc__law_joint kV__law_joint dc__law_joint pm__law_joint cd__law_joint ct__law_joint oc__law_some_machine kV__law_some_machine dc__law_some_machine pm__law_some_machine cd__law_some_machine ct__law_some_machine oc__law_letters kV__law_letters dc__law_letters pm__law_letters cd__law_letters ct__law_letters oc__law_some_faces kV__law_some_faces dc__law_some_faces pm__law_some_faces cd__law_some_faces ct__law_some_faces oc__law_open kV__law_open dc__law_open pm__law_open cd__law_open ct__law_open oc_law kV_law dc_law pm_law ct_law : Value} {nt_Mi na_Mi : Nat} (X : K.In h) (G : h.Ns mainGlobals mg) (hfa : mg "law" = some (.ref fa))
    (gs1 : PySem.W.specialIn K (.builtin "object.__class__") "__get__" = some (some (.builtin "getset_descriptor.__get__")))
    (gs2 : PySem.W.takesIn K (.builtin "object.__class__") = some true)
    (eg_TooMany : PySem.W.nsIn K mainGlobals "TooMany" = some (some (.ref C_TooMany)))
    (el_TooMany : K.lookup C_TooMany = some (excClassObj nm_TooMany qn_TooMany C_TooMany NC_TooMany bs_TooMany bm_TooMany true sn_TooMany sub_TooMany ab_TooMany col_TooMany dd_TooMany k0_TooMany k1_TooMany (some (.str "TooMany" tk_TooMany)) k3_TooMany k5_TooMany "ValueError.__new__"))
    (eb_TooMany : PySem.HandSPX.refsVE bm_TooMany = true)
    (esa_TooMany : PySem.W.findIn K (.ref C_TooMany) "__setattr__" = some (some (.builtin "object.__setattr__")))
    (ex_TooMany : PySem.W.subIn K (.ref C_TooMany) (.type "BaseException") = some true)
    (ety_TooMany : PySem.W.typeIn K (.ref C_TooMany) = some (.type "type"))
    (ek_TooMany : PySem.W.keepIn K (.ref C_TooMany) = true)
    (ecl_TooMany : (PySem.W.clsIn K C_TooMany).isSome = true)
    (ega_TooMany : PySem.W.findIn K (.ref C_TooMany) "__getattribute__" = some (some (.builtin "BaseException.__getattribute__")))
    (egg_TooMany : PySem.W.findIn K (.ref C_TooMany) "__getattr__" = some none)
    (efc_TooMany : PySem.W.findIn K (.ref C_TooMany) "__class__" = some (some (.builtin "object.__class__")))
    (eob_TooMany : PySem.W.mroIn K C_TooMany (.type "object") = some true)
    (ehd_TooMany : PySem.W.hasDictIn K C_TooMany = true)
    (enc_TooMany : PySem.W.findIn K (.ref C_TooMany) "code" = some none)
    (enf_TooMany : PySem.W.findIn K (.ref C_TooMany) "most" = some none)
    (eini_TooMany : PySem.W.findIn K (.ref C_TooMany) "__init__" = some (some (.ref fI_TooMany)))
    (etI_TooMany : PySem.W.typeIn K (.ref fI_TooMany) = some (.type "function"))
    (elI_TooMany : K.lookup fI_TooMany = some ⟨ocI_TooMany, odI_TooMany, .func (PySem.W.fnOf "__init__" "TooMany.__init__" (defArgs s_TooMany_init) (defBody s_TooMany_init) (defScope s_TooMany_init) .none kVI_TooMany dcI_TooMany pmI_TooMany anI_TooMany cdI_TooMany ctI_TooMany), slI_TooMany⟩)
    (ecI_TooMany : PySem.W.codeIn K cdI_TooMany "TooMany.__init__" = true)
    (ekI_TooMany : PySem.W.keepIn K (.ref fI_TooMany) = true)
    (erd_TooMany : PySem.W.readsIn K C_TooMany (.type "type") = true)
    (efdn_TooMany : PySem.W.findCls K (.ref C_TooMany) (.type "type") "__name__" = some (.get (.builtin "getset_descriptor.__get__") (.builtin "type.__name__") (.ref C_TooMany) (.type "type")))
    (e_C1 : PySem.W.nsIn K mainGlobals "HouseError" = some (some (.ref C1)))
    (e_C2 : PySem.W.nsIn K mainGlobals "Missing" = some (some (.ref C2)))
    (e_C3 : PySem.W.nsIn K mainGlobals "NothingLeft" = some (some (.ref C3)))
    (hx_TooMany : PySem.W.exmAny K (.ref C_TooMany) [.ref C1, .ref C2, .ref C3] = some true)
    (M_g : PySem.W.nsIn K mainGlobals "Machine" = some (some (.ref CM)))
    (M_pg : PySem.W.plainGet K CM Str.empty = true)
    (M_hd : PySem.W.hasDictIn K CM = true)
    (M_po : PySem.W.plainOver K CM = true)
    (M_sa : PySem.W.findIn K (.ref CM) "__setattr__" = some (some (.builtin "object.__setattr__")))
    (M_nf : PySem.W.findIn K (.ref CM) "faces" = some none)
    (M_nt : PySem.W.findIn K (.ref CM) "_table" = some none)
    (M_nb : PySem.W.findIn K (.ref CM) "_bad" = some none)
    (M_mk : PySem.W.makesIn K CM = true)
    (M_kp : PySem.W.keepIn K (.ref CM) = true)
    (M_rd : PySem.W.readsIn K CM (.type "type") = true)
    (M_sg : PySem.W.specialIn K (.ref CM) "__getattribute__" = some (some (.builtin "type.__getattribute__")))
    (M_most : PySem.W.findCls K (.ref CM) (.type "type") "MOST" = some (.val (.int 200 tM)))
    (M_init : PySem.W.findIn K (.ref CM) "__init__" = some (some (.ref f_Mi)))
    (M_ifn : PySem.W.isFn K (.ref f_Mi) = true)
    (l_Mi : K.lookup f_Mi = some ⟨oc_Mi, od_Mi, .func (PySem.W.fnOf "__init__" "Machine.__init__" (defArgs s_Machine_init) (defBody s_Machine_init) (defScope s_Machine_init) (.ref T_Mi) kV_Mi dc_Mi pm_Mi an_Mi cd_Mi ct_Mi), sl_Mi⟩)
    (c_Mi : PySem.W.codeIn K cd_Mi "Machine.__init__" = true)
    (k_Mi : PySem.W.keepIn K (.ref f_Mi) = true)
    (t_Mi : K.lookup T_Mi = some ⟨ot_Mi, dt_Mi, .seq #[.ref ae] nt_Mi, st_Mi⟩)
    (e_Mi : K.lookup ae = some ⟨.type "tuple", da_Mi, .seq #[] na_Mi, sa_Mi⟩)
    (at_M_and : PySem.W.findIn K (.ref CM) "__and__" = some (some (.ref f_M_and)))
    (fn_M_and : PySem.W.isFn K (.ref f_M_and) = true)
    (l_M_and : K.lookup f_M_and = some ⟨oc_M_and, od_M_and, .func (PySem.W.fnOf "__and__" "Machine.__and__" (defArgs s_Machine_and) (defBody s_Machine_and) (defScope s_Machine_and) .none kV_M_and dc_M_and pm_M_and an_M_and cd_M_and ct_M_and), sl_M_and⟩)
    (c_M_and : PySem.W.codeIn K cd_M_and "Machine.__and__" = true)
    (k_M_and : PySem.W.keepIn K (.ref f_M_and) = true)
    (z__LOWER : PySem.W.nsIn K mainGlobals "_LOWER" = some (some (.str "abcdefghijklmnopqrstuvwxyz" tk__LOWER)))
    (z__MOST_FACES : PySem.W.nsIn K mainGlobals "_MOST_FACES" = some (some (.int 6 tk__MOST_FACES)))
    (a_is_string : PySem.W.nsIn K mainGlobals "is_string" = some (some (.ref f_is_string)))
    (l_is_string : K.lookup f_is_string = some ⟨oc_is_string, od_is_string, .func (PySem.W.fnOf "is_string" "is_string" (defArgs s_is_string) (defBody s_is_string) (defScope s_is_string) .none kV_is_string dc_is_string pm_is_string an_is_string cd_is_string ct_is_string), sl_is_string⟩)
    (c_is_string : PySem.W.codeIn K cd_is_string "is_string" = true)
    (k_is_string : PySem.W.keepIn K (.ref f_is_string) = true)
    (a_is_ascending : PySem.W.nsIn K mainGlobals "is_ascending" = some (some (.ref f_is_ascending)))
    (l_is_ascending : K.lookup f_is_ascending = some ⟨oc_is_ascending, od_is_ascending, .func (PySem.W.fnOf "is_ascending" "is_ascending" (defArgs s_is_ascending) (defBody s_is_ascending) (defScope s_is_ascending) .none kV_is_ascending dc_is_ascending pm_is_ascending an_is_ascending cd_is_ascending ct_is_ascending), sl_is_ascending⟩)
    (c_is_ascending : PySem.W.codeIn K cd_is_ascending "is_ascending" = true)
    (k_is_ascending : PySem.W.keepIn K (.ref f_is_ascending) = true)
    (a_is_choice : PySem.W.nsIn K mainGlobals "is_choice" = some (some (.ref f_is_choice)))
    (l_is_choice : K.lookup f_is_choice = some ⟨oc_is_choice, od_is_choice, .func (PySem.W.fnOf "is_choice" "is_choice" (defArgs s_is_choice) (defBody s_is_choice) (defScope s_is_choice) .none kV_is_choice dc_is_choice pm_is_choice an_is_choice cd_is_choice ct_is_choice), sl_is_choice⟩)
    (c_is_choice : PySem.W.codeIn K cd_is_choice "is_choice" = true)
    (k_is_choice : PySem.W.keepIn K (.ref f_is_choice) = true)
    (a_is_faces : PySem.W.nsIn K mainGlobals "is_faces" = some (some (.ref f_is_faces)))
    (l_is_faces : K.lookup f_is_faces = some ⟨oc_is_faces, od_is_faces, .func (PySem.W.fnOf "is_faces" "is_faces" (defArgs s_is_faces) (defBody s_is_faces) (defScope s_is_faces) .none kV_is_faces dc_is_faces pm_is_faces an_is_faces cd_is_faces ct_is_faces), sl_is_faces⟩)
    (c_is_faces : PySem.W.codeIn K cd_is_faces "is_faces" = true)
    (k_is_faces : PySem.W.keepIn K (.ref f_is_faces) = true)
    (a_is_integer : PySem.W.nsIn K mainGlobals "is_integer" = some (some (.ref f_is_integer)))
    (l_is_integer : K.lookup f_is_integer = some ⟨oc_is_integer, od_is_integer, .func (PySem.W.fnOf "is_integer" "is_integer" (defArgs s_is_integer) (defBody s_is_integer) (defScope s_is_integer) .none kV_is_integer dc_is_integer pm_is_integer an_is_integer cd_is_integer ct_is_integer), sl_is_integer⟩)
    (c_is_integer : PySem.W.codeIn K cd_is_integer "is_integer" = true)
    (k_is_integer : PySem.W.keepIn K (.ref f_is_integer) = true)
    (a_is_number : PySem.W.nsIn K mainGlobals "is_number" = some (some (.ref f_is_number)))
    (l_is_number : K.lookup f_is_number = some ⟨oc_is_number, od_is_number, .func (PySem.W.fnOf "is_number" "is_number" (defArgs s_is_number) (defBody s_is_number) (defScope s_is_number) .none kV_is_number dc_is_number pm_is_number an_is_number cd_is_number ct_is_number), sl_is_number⟩)
    (c_is_number : PySem.W.codeIn K cd_is_number "is_number" = true)
    (k_is_number : PySem.W.keepIn K (.ref f_is_number) = true)
    (a_is_row : PySem.W.nsIn K mainGlobals "is_row" = some (some (.ref f_is_row)))
    (l_is_row : K.lookup f_is_row = some ⟨oc_is_row, od_is_row, .func (PySem.W.fnOf "is_row" "is_row" (defArgs s_is_row) (defBody s_is_row) (defScope s_is_row) .none kV_is_row dc_is_row pm_is_row an_is_row cd_is_row ct_is_row), sl_is_row⟩)
    (c_is_row : PySem.W.codeIn K cd_is_row "is_row" = true)
    (k_is_row : PySem.W.keepIn K (.ref f_is_row) = true)
    (a_check_table : PySem.W.nsIn K mainGlobals "check_table" = some (some (.ref f_check_table)))
    (l_check_table : K.lookup f_check_table = some ⟨oc_check_table, od_check_table, .func (PySem.W.fnOf "check_table" "check_table" (defArgs s_check_table) (defBody s_check_table) (defScope s_check_table) .none kV_check_table dc_check_table pm_check_table an_check_table cd_check_table ct_check_table), sl_check_table⟩)
    (c_check_table : PySem.W.codeIn K cd_check_table "check_table" = true)
    (k_check_table : PySem.W.keepIn K (.ref f_check_table) = true)
    (a_check_bad : PySem.W.nsIn K mainGlobals "check_bad" = some (some (.ref f_check_bad)))
    (l_check_bad : K.lookup f_check_bad = some ⟨oc_check_bad, od_check_bad, .func (PySem.W.fnOf "check_bad" "check_bad" (defArgs s_check_bad) (defBody s_check_bad) (defScope s_check_bad) .none kV_check_bad dc_check_bad pm_check_bad an_check_bad cd_check_bad ct_check_bad), sl_check_bad⟩)
    (c_check_bad : PySem.W.codeIn K cd_check_bad "check_bad" = true)
    (k_check_bad : PySem.W.keepIn K (.ref f_check_bad) = true)
    (M_ca : PySem.W.findIn K (.ref CM) "__class__" = some (some (.builtin "object.__class__")))
    (M_cn : PySem.W.specialIn K (.builtin "object.__class__") "__get__" = some (some (.builtin "getset_descriptor.__get__")))
    (M_ct : PySem.W.takesIn K (.builtin "object.__class__") = some true)
    (M_cm : PySem.W.mroIn K CM (.type "object") = some true)
    (M_kit : PySem.W.kitOne K (.ref CM) (.ref CM) = some true)
    (a_check_other : PySem.W.nsIn K mainGlobals "check_other" = some (some (.ref f_check_other)))
    (l_check_other : K.lookup f_check_other = some ⟨oc_check_other, od_check_other, .func (PySem.W.fnOf "check_other" "check_other" (defArgs s_check_other) (defBody s_check_other) (defScope s_check_other) .none kV_check_other dc_check_other pm_check_other an_check_other cd_check_other ct_check_other), sl_check_other⟩)
    (c_check_other : PySem.W.codeIn K cd_check_other "check_other" = true)
    (k_check_other : PySem.W.keepIn K (.ref f_check_other) = true)
    (a_pairs_of : PySem.W.nsIn K mainGlobals "pairs_of" = some (some (.ref f_pairs_of)))
    (l_pairs_of : K.lookup f_pairs_of = some ⟨oc_pairs_of, od_pairs_of, .func (PySem.W.fnOf "pairs_of" "pairs_of" (defArgs s_pairs_of) (defBody s_pairs_of) (defScope s_pairs_of) .none kV_pairs_of dc_pairs_of pm_pairs_of an_pairs_of cd_pairs_of ct_pairs_of), sl_pairs_of⟩)
    (c_pairs_of : PySem.W.codeIn K cd_pairs_of "pairs_of" = true)
    (k_pairs_of : PySem.W.keepIn K (.ref f_pairs_of) = true)
    (M_sf : PySem.W.selfFirst K CM = true)
    (at_M_or : PySem.W.findIn K (.ref CM) "__or__" = some (some (.ref f_M_or)))
    (fn_M_or : PySem.W.isFn K (.ref f_M_or) = true)
    (l_M_or : K.lookup f_M_or = some ⟨oc_M_or, od_M_or, .func (PySem.W.fnOf "__or__" "Machine.__or__" (defArgs s_Machine_or) (defBody s_Machine_or) (defScope s_Machine_or) .none kV_M_or dc_M_or pm_M_or an_M_or cd_M_or ct_M_or), sl_M_or⟩)
    (c_M_or : PySem.W.codeIn K cd_M_or "Machine.__or__" = true)
    (k_M_or : PySem.W.keepIn K (.ref f_M_or) = true)
    (at_M_invert : PySem.W.findIn K (.ref CM) "__invert__" = some (some (.ref f_M_invert)))
    (fn_M_invert : PySem.W.isFn K (.ref f_M_invert) = true)
    (l_M_invert : K.lookup f_M_invert = some ⟨oc_M_invert, od_M_invert, .func (PySem.W.fnOf "__invert__" "Machine.__invert__" (defArgs s_Machine_invert) (defBody s_Machine_invert) (defScope s_Machine_invert) .none kV_M_invert dc_M_invert pm_M_invert an_M_invert cd_M_invert ct_M_invert), sl_M_invert⟩)
    (c_M_invert : PySem.W.codeIn K cd_M_invert "Machine.__invert__" = true)
    (k_M_invert : PySem.W.keepIn K (.ref f_M_invert) = true)
    (at_M_eq : PySem.W.findIn K (.ref CM) "__eq__" = some (some (.ref f_M_eq)))
    (fn_M_eq : PySem.W.isFn K (.ref f_M_eq) = true)
    (l_M_eq : K.lookup f_M_eq = some ⟨oc_M_eq, od_M_eq, .func (PySem.W.fnOf "__eq__" "Machine.__eq__" (defArgs s_Machine_eq) (defBody s_Machine_eq) (defScope s_Machine_eq) .none kV_M_eq dc_M_eq pm_M_eq an_M_eq cd_M_eq ct_M_eq), sl_M_eq⟩)
    (c_M_eq : PySem.W.codeIn K cd_M_eq "Machine.__eq__" = true)
    (k_M_eq : PySem.W.keepIn K (.ref f_M_eq) = true)
    (M_ne : PySem.W.findIn K (.ref CM) "__ne__" = some (some (.builtin "object.__ne__")))
    (M_nf1 : PySem.W.notFirst K CM (.ref CM) = true)
    (a__law_tries : PySem.W.nsIn K mainGlobals "_law_tries" = some (some (.ref f__law_tries)))
    (l__law_tries : K.lookup f__law_tries = some ⟨oc__law_tries, od__law_tries, .func (PySem.W.fnOf "_law_tries" "_law_tries" (defArgs s__law_tries) (defBody s__law_tries) (defScope s__law_tries) .none kV__law_tries dc__law_tries pm__law_tries an__law_tries cd__law_tries ct__law_tries), sl__law_tries⟩)
    (c__law_tries : PySem.W.codeIn K cd__law_tries "_law_tries" = true)
    (k__law_tries : PySem.W.keepIn K (.ref f__law_tries) = true)
    (a__law_try : PySem.W.nsIn K mainGlobals "_law_try" = some (some (.ref f__law_try)))
    (l__law_try : K.lookup f__law_try = some ⟨oc__law_try, od__law_try, .func (PySem.W.fnOf "_law_try" "_law_try" (defArgs s__law_try) (defBody s__law_try) (defScope s__law_try) .none kV__law_try dc__law_try pm__law_try an__law_try cd__law_try ct__law_try), sl__law_try⟩)
    (c__law_try : PySem.W.codeIn K cd__law_try "_law_try" = true)
    (k__law_try : PySem.W.keepIn K (.ref f__law_try) = true)
    (a__law_field : PySem.W.nsIn K mainGlobals "_law_field" = some (some (.ref f__law_field)))
    (l__law_field : K.lookup f__law_field = some ⟨oc__law_field, od__law_field, .func (PySem.W.fnOf "_law_field" "_law_field" (defArgs s__law_field) (defBody s__law_field) (defScope s__law_field) .none kV__law_field dc__law_field pm__law_field an__law_field cd__law_field ct__law_field), sl__law_field⟩)
    (c__law_field : PySem.W.codeIn K cd__law_field "_law_field" = true)
    (k__law_field : PySem.W.keepIn K (.ref f__law_field) = true)
    (a__law_same : PySem.W.nsIn K mainGlobals "_law_same" = some (some (.ref f__law_same)))
    (l__law_same : K.lookup f__law_same = some ⟨oc__law_same, od__law_same, .func (PySem.W.fnOf "_law_same" "_law_same" (defArgs s__law_same) (defBody s__law_same) (defScope s__law_same) .none kV__law_same dc__law_same pm__law_same an__law_same cd__law_same ct__law_same), sl__law_same⟩)
    (c__law_same : PySem.W.codeIn K cd__law_same "_law_same" = true)
    (k__law_same : PySem.W.keepIn K (.ref f__law_same) = true)
    (P_at : PySem.W.findIn K (.ref CM) "size" = some (some (.ref p_size)))
    (P_get : PySem.W.specialIn K (.ref p_size) "__get__" = some (some (.builtin "property.__get__")))
    (P_tak : PySem.W.takesIn K (.ref p_size) = some true)
    (P_rec : PySem.W.recIn K p_size "property" = some (.ref f_M_size :: r_size))
    (l_M_size : K.lookup f_M_size = some ⟨oc_M_size, od_M_size, .func (PySem.W.fnOf "size" "Machine.size" (defArgs s_Machine_size) (defBody s_Machine_size) (defScope s_Machine_size) .none kV_M_size dc_M_size pm_M_size an_M_size cd_M_size ct_M_size), sl_M_size⟩)
    (c_M_size : PySem.W.codeIn K cd_M_size "Machine.size" = true)
    (k_M_size : PySem.W.keepIn K (.ref f_M_size) = true)
    (a__law_draw : PySem.W.nsIn K mainGlobals "_law_draw" = some (some (.ref f__law_draw)))
    (l__law_draw : K.lookup f__law_draw = some ⟨oc__law_draw, od__law_draw, .func (PySem.W.fnOf "_law_draw" "_law_draw" (defArgs s__law_draw) (defBody s__law_draw) (defScope s__law_draw) .none kV__law_draw dc__law_draw pm__law_draw an__law_draw cd__law_draw ct__law_draw), sl__law_draw⟩)
    (c__law_draw : PySem.W.codeIn K cd__law_draw "_law_draw" = true)
    (k__law_draw : PySem.W.keepIn K (.ref f__law_draw) = true)
    (at_M_table : PySem.W.findIn K (.ref CM) "table" = some (some (.ref f_M_table)))
    (fn_M_table : PySem.W.isFn K (.ref f_M_table) = true)
    (l_M_table : K.lookup f_M_table = some ⟨oc_M_table, od_M_table, .func (PySem.W.fnOf "table" "Machine.table" (defArgs s_Machine_table) (defBody s_Machine_table) (defScope s_Machine_table) .none kV_M_table dc_M_table pm_M_table an_M_table cd_M_table ct_M_table), sl_M_table⟩)
    (c_M_table : PySem.W.codeIn K cd_M_table "Machine.table" = true)
    (k_M_table : PySem.W.keepIn K (.ref f_M_table) = true)
    (at_M_bad : PySem.W.findIn K (.ref CM) "bad" = some (some (.ref f_M_bad)))
    (fn_M_bad : PySem.W.isFn K (.ref f_M_bad) = true)
    (l_M_bad : K.lookup f_M_bad = some ⟨oc_M_bad, od_M_bad, .func (PySem.W.fnOf "bad" "Machine.bad" (defArgs s_Machine_bad) (defBody s_Machine_bad) (defScope s_Machine_bad) .none kV_M_bad dc_M_bad pm_M_bad an_M_bad cd_M_bad ct_M_bad), sl_M_bad⟩)
    (c_M_bad : PySem.W.codeIn K cd_M_bad "Machine.bad" = true)
    (k_M_bad : PySem.W.keepIn K (.ref f_M_bad) = true)
    (a__law_machine : PySem.W.nsIn K mainGlobals "_law_machine" = some (some (.ref f__law_machine)))
    (l__law_machine : K.lookup f__law_machine = some ⟨oc__law_machine, od__law_machine, .func (PySem.W.fnOf "_law_machine" "_law_machine" (defArgs s__law_machine) (defBody s__law_machine) (defScope s__law_machine) .none kV__law_machine dc__law_machine pm__law_machine an__law_machine cd__law_machine ct__law_machine), sl__law_machine⟩)
    (c__law_machine : PySem.W.codeIn K cd__law_machine "_law_machine" = true)
    (k__law_machine : PySem.W.keepIn K (.ref f__law_machine) = true)
    (a__law_joint : PySem.W.nsIn K mainGlobals "_law_joint" = some (some (.ref f__law_joint)))
    (l__law_joint : K.lookup f__law_joint = some ⟨oc__law_joint, od__law_joint, .func (PySem.W.fnOf "_law_joint" "_law_joint" (defArgs s__law_joint) (defBody s__law_joint) (defScope s__law_joint) .none kV__law_joint dc__law_joint pm__law_joint an__law_joint cd__law_joint ct__law_joint), sl__law_joint⟩)
    (c__law_joint : PySem.W.codeIn K cd__law_joint "_law_joint" = true)
    (k__law_joint : PySem.W.keepIn K (.ref f__law_joint) = true)
    (a__law_some_machine : PySem.W.nsIn K mainGlobals "_law_some_machine" = some (some (.ref f__law_some_machine)))
    (l__law_some_machine : K.lookup f__law_some_machine = some ⟨oc__law_some_machine, od__law_some_machine, .func (PySem.W.fnOf "_law_some_machine" "_law_some_machine" (defArgs s__law_some_machine) (defBody s__law_some_machine) (defScope s__law_some_machine) .none kV__law_some_machine dc__law_some_machine pm__law_some_machine an__law_some_machine cd__law_some_machine ct__law_some_machine), sl__law_some_machine⟩)
    (c__law_some_machine : PySem.W.codeIn K cd__law_some_machine "_law_some_machine" = true)
    (k__law_some_machine : PySem.W.keepIn K (.ref f__law_some_machine) = true)
    (a__law_letters : PySem.W.nsIn K mainGlobals "_law_letters" = some (some (.ref f__law_letters)))
    (l__law_letters : K.lookup f__law_letters = some ⟨oc__law_letters, od__law_letters, .func (PySem.W.fnOf "_law_letters" "_law_letters" (defArgs s__law_letters) (defBody s__law_letters) (defScope s__law_letters) .none kV__law_letters dc__law_letters pm__law_letters an__law_letters cd__law_letters ct__law_letters), sl__law_letters⟩)
    (c__law_letters : PySem.W.codeIn K cd__law_letters "_law_letters" = true)
    (k__law_letters : PySem.W.keepIn K (.ref f__law_letters) = true)
    (a__law_some_faces : PySem.W.nsIn K mainGlobals "_law_some_faces" = some (some (.ref f__law_some_faces)))
    (l__law_some_faces : K.lookup f__law_some_faces = some ⟨oc__law_some_faces, od__law_some_faces, .func (PySem.W.fnOf "_law_some_faces" "_law_some_faces" (defArgs s__law_some_faces) (defBody s__law_some_faces) (defScope s__law_some_faces) .none kV__law_some_faces dc__law_some_faces pm__law_some_faces an__law_some_faces cd__law_some_faces ct__law_some_faces), sl__law_some_faces⟩)
    (c__law_some_faces : PySem.W.codeIn K cd__law_some_faces "_law_some_faces" = true)
    (k__law_some_faces : PySem.W.keepIn K (.ref f__law_some_faces) = true)
    (a__law_open : PySem.W.nsIn K mainGlobals "_law_open" = some (some (.ref f__law_open)))
    (l__law_open : K.lookup f__law_open = some ⟨oc__law_open, od__law_open, .func (PySem.W.fnOf "_law_open" "_law_open" (defArgs s__law_open) (defBody s__law_open) (defScope s__law_open) .none kV__law_open dc__law_open pm__law_open an__law_open cd__law_open ct__law_open), sl__law_open⟩)
    (c__law_open : PySem.W.codeIn K cd__law_open "_law_open" = true)
    (k__law_open : PySem.W.keepIn K (.ref f__law_open) = true)
    (a_law : PySem.W.nsIn K mainGlobals "law" = some (some (.ref f_law)))
    (l_law : K.lookup f_law = some ⟨oc_law, od_law, .func (PySem.W.fnOf "law" "law" (defArgs s_law) (defBody s_law) (defScope s_law) .none kV_law dc_law pm_law an_law (.ref c) ct_law), sl_law⟩)
    (c_law : PySem.W.codeIn K (.ref c) "law" = true)
    (y_isinstance : PySem.W.nsIn K mainGlobals "isinstance" = some none)
    (y_str : PySem.W.nsIn K mainGlobals "str" = some none)
    (y_all : PySem.W.nsIn K mainGlobals "all" = some none)
    (y_any : PySem.W.nsIn K mainGlobals "any" = some none)
    (y_len : PySem.W.nsIn K mainGlobals "len" = some none)
    (y_int : PySem.W.nsIn K mainGlobals "int" = some none)
    (y_list : PySem.W.nsIn K mainGlobals "list" = some none)
    (y_abs : PySem.W.nsIn K mainGlobals "abs" = some none)
    (y_bool : PySem.W.nsIn K mainGlobals "bool" = some none)
    (y_tuple : PySem.W.nsIn K mainGlobals "tuple" = some none)
    (y_zip : PySem.W.nsIn K mainGlobals "zip" = some none)
    (y_range : PySem.W.nsIn K mainGlobals "range" = some none)
    (y_enumerate : PySem.W.nsIn K mainGlobals "enumerate" = some none)
    (y_sorted : PySem.W.nsIn K mainGlobals "sorted" = some none)
    (y_dict : PySem.W.nsIn K mainGlobals "dict" = some none)
    (y_set : PySem.W.nsIn K mainGlobals "set" = some none)
    (y_sum : PySem.W.nsIn K mainGlobals "sum" = some none)
    (y_min : PySem.W.nsIn K mainGlobals "min" = some none)
    (y_max : PySem.W.nsIn K mainGlobals "max" = some none)
    (y_reversed : PySem.W.nsIn K mainGlobals "reversed" = some none)
    (y_repr : PySem.W.nsIn K mainGlobals "repr" = some none)
    (y_ord : PySem.W.nsIn K mainGlobals "ord" = some none)
    : ∃ fd : FuncData, (∀ (s : Shared) (v : Value), BindsTo s fd ⟨[v], []⟩ [("_law_script", v)]) ∧ ∀ base : Heap, K.In base → base.Ns mainGlobals mg → LamX.TabB base mg c Pt → FnOk l.prog w K mg base L2.CX0 14 fa fd ["_law_script"] (sp_law K Pt) := by
  have e := hfa.symm.trans (PySem.W.mg_of X G a_law)
  cases e
  have T : Z mg := ⟨PySem.W.mg_none_of X G y_isinstance, PySem.W.mg_none_of X G y_str, PySem.W.mg_none_of X G y_all, PySem.W.mg_none_of X G y_any, PySem.W.mg_none_of X G y_len, PySem.W.mg_none_of X G y_int, PySem.W.mg_none_of X G y_list, PySem.W.mg_none_of X G y_abs, PySem.W.mg_none_of X G y_bool, PySem.W.mg_none_of X G y_tuple, PySem.W.mg_none_of X G y_zip, PySem.W.mg_none_of X G y_range, PySem.W.mg_none_of X G y_enumerate, PySem.W.mg_none_of X G y_sorted, PySem.W.mg_none_of X G y_dict, PySem.W.mg_none_of X G y_set, PySem.W.mg_none_of X G y_sum, PySem.W.mg_none_of X G y_min, PySem.W.mg_none_of X G y_max, PySem.W.mg_none_of X G y_reversed, PySem.W.mg_none_of X G y_repr, PySem.W.mg_none_of X G y_ord⟩
  have GS : GsK K := ⟨gs1, gs2⟩
  have Fi_TooMany := fun_mk (st := s_TooMany_init) elI_TooMany ecI_TooMany ekI_TooMany
  have bI_TooMany := Fi_TooMany.binds (ps := ["self", "most"]) fun _ _ _ _ _ _ us hl => match us, hl with | [_, _], _ => rfl
  have Kls_TooMany : Kls K mg C_TooMany fI_TooMany "TooMany" := ⟨PySem.W.mg_of X G eg_TooMany, ⟨⟨_, _, _, _, _, _, _, _, _, _, _, _, _, _, _, el_TooMany, eb_TooMany⟩, esa_TooMany, ex_TooMany, ety_TooMany, ek_TooMany⟩, ⟨ecl_TooMany, ega_TooMany, egg_TooMany, ex_TooMany, efc_TooMany, eob_TooMany⟩, ⟨⟨_, tk_TooMany, el_TooMany, rfl⟩, ety_TooMany, erd_TooMany, efdn_TooMany⟩, ⟨ega_TooMany, egg_TooMany, ex_TooMany, ehd_TooMany⟩, enc_TooMany, eini_TooMany, etI_TooMany⟩
  have nf_TooMany := enf_TooMany
  have g_C1 := PySem.W.mg_of X G e_C1
  have g_C2 := PySem.W.mg_of X G e_C2
  have g_C3 := PySem.W.mg_of X G e_C3
  have Err_TooMany : ErrF K mg C_TooMany "most" "TooMany" [.ref C1, .ref C2, .ref C3] := ⟨⟨_, Kls_TooMany⟩, nf_TooMany, hx_TooMany, fun v => fi_most (z := Str.ofString "TooMany") (by decide +kernel) nf_TooMany v⟩
  have gMm := PySem.W.mg_of X G M_g
  have MC : MachC K CM := ⟨⟨M_pg, M_hd, M_po, M_sa⟩, M_nf, M_nt, M_nb⟩
  have rCm : ClX.CRead K CM (.type "type") := ⟨M_rd, M_sg⟩
  have rM := rCm
  have vM : ClX.CVal K CM (.type "type") "MOST" (.int 200) (.int 200 tM) := ⟨M_most, ⟨tM, rfl⟩⟩
  have F_Mi := fund_mk1 (v := V.ref ae) l_Mi c_Mi k_Mi t_Mi rfl
  have MM : Mk K CM f_Mi := ⟨M_mk, M_init, M_ifn, M_kp⟩
  have hae : ∀ H, SqT K H ae [] := sqT_nil e_Mi
  obtain ⟨ds3, vs3, bM3⟩ := F_Mi.binds1 (ps := ["self", "faces", "table", "bad"]) 4 1 (List.cons_ne_nil _ _) rfl fun _ _ _ _ _ _ _ us its hl1 hl2 => match us, its, hl1, hl2 with | [_, _, _, _], [_], _, _ => ⟨_, rfl, rfl⟩
  cases vs3
  obtain ⟨ds2, vs2, bM2⟩ := F_Mi.binds1 (ps := ["self", "faces", "table", "bad"]) 3 0 (List.cons_ne_nil _ _) rfl fun _ _ _ _ _ _ _ us its hl1 hl2 => match us, its, hl1, hl2 with | [_, _, _], [_], _, _ => ⟨_, rfl, rfl⟩
  cases one_ref vs2
  have F_M_and := fun_mk (st := s_Machine_and) l_M_and c_M_and k_M_and
  have b_M_and := F_M_and.binds (ps := ["self", "other"]) fun _ _ _ _ _ _ us hl => match us, hl with | [_, _], _ => rfl
  have mt_M_and : Meth K CM "__and__" f_M_and := ⟨at_M_and, fn_M_and, k_M_and⟩
  have g__LOWER := PySem.W.mg_of X G z__LOWER
  have g__MOST_FACES := PySem.W.mg_of X G z__MOST_FACES
  have F_is_string := fun_mk (st := s_is_string) l_is_string c_is_string k_is_string
  have b_is_string := F_is_string.binds (ps := ["value", "faces"]) fun _ _ _ _ _ _ us hl => match us, hl with | [_, _], _ => rfl
  have m_is_string := PySem.W.mg_of X G a_is_string
  have F_is_ascending := fun_mk (st := s_is_ascending) l_is_ascending c_is_ascending k_is_ascending
  have b_is_ascending := F_is_ascending.binds (ps := ["text"]) fun _ _ _ _ _ _ us hl => match us, hl with | [_], _ => rfl
  have m_is_ascending := PySem.W.mg_of X G a_is_ascending
  have F_is_choice := fun_mk (st := s_is_choice) l_is_choice c_is_choice k_is_choice
  have b_is_choice := F_is_choice.binds (ps := ["value", "letters", "most"]) fun _ _ _ _ _ _ us hl => match us, hl with | [_, _, _], _ => rfl
  have m_is_choice := PySem.W.mg_of X G a_is_choice
  have F_is_faces := fun_mk (st := s_is_faces) l_is_faces c_is_faces k_is_faces
  have b_is_faces := F_is_faces.binds (ps := ["value"]) fun _ _ _ _ _ _ us hl => match us, hl with | [_], _ => rfl
  have m_is_faces := PySem.W.mg_of X G a_is_faces
  have F_is_integer := fun_mk (st := s_is_integer) l_is_integer c_is_integer k_is_integer
  have b_is_integer := F_is_integer.binds (ps := ["value"]) fun _ _ _ _ _ _ us hl => match us, hl with | [_], _ => rfl
  have m_is_integer := PySem.W.mg_of X G a_is_integer
  have F_is_number := fun_mk (st := s_is_number) l_is_number c_is_number k_is_number
  have b_is_number := F_is_number.binds (ps := ["value", "least", "most"]) fun _ _ _ _ _ _ us hl => match us, hl with | [_, _, _], _ => rfl
  have m_is_number := PySem.W.mg_of X G a_is_number
  have F_is_row := fun_mk (st := s_is_row) l_is_row c_is_row k_is_row
  have b_is_row := F_is_row.binds (ps := ["value", "faces", "size"]) fun _ _ _ _ _ _ us hl => match us, hl with | [_, _, _], _ => rfl
  have m_is_row := PySem.W.mg_of X G a_is_row
  have F_check_table := fun_mk (st := s_check_table) l_check_table c_check_table k_check_table
  have b_check_table := F_check_table.binds (ps := ["faces", "table"]) fun _ _ _ _ _ _ us hl => match us, hl with | [_, _], _ => rfl
  have m_check_table := PySem.W.mg_of X G a_check_table
  have F_check_bad := fun_mk (st := s_check_bad) l_check_bad c_check_bad k_check_bad
  have b_check_bad := F_check_bad.binds (ps := ["size", "bad"]) fun _ _ _ _ _ _ us hl => match us, hl with | [_, _], _ => rfl
  have m_check_bad := PySem.W.mg_of X G a_check_bad
  have ME : BookE K CM := ⟨M_ca, M_cn, M_ct, M_cm, M_kit⟩
  have F_check_other := fun_mk (st := s_check_other) l_check_other c_check_other k_check_other
  have b_check_other := F_check_other.binds (ps := ["one", "other"]) fun _ _ _ _ _ _ us hl => match us, hl with | [_, _], _ => rfl
  have m_check_other := PySem.W.mg_of X G a_check_other
  have F_pairs_of := fun_mk (st := s_pairs_of) l_pairs_of c_pairs_of k_pairs_of
  have b_pairs_of := F_pairs_of.binds (ps := ["one", "other"]) fun _ _ _ _ _ _ us hl => match us, hl with | [_, _], _ => rfl
  have m_pairs_of := PySem.W.mg_of X G a_pairs_of
  have F_M_or := fun_mk (st := s_Machine_or) l_M_or c_M_or k_M_or
  have b_M_or := F_M_or.binds (ps := ["self", "other"]) fun _ _ _ _ _ _ us hl => match us, hl with | [_, _], _ => rfl
  have mt_M_or : Meth K CM "__or__" f_M_or := ⟨at_M_or, fn_M_or, k_M_or⟩
  have F_M_invert := fun_mk (st := s_Machine_invert) l_M_invert c_M_invert k_M_invert
  have b_M_invert := F_M_invert.binds (ps := ["self"]) fun _ _ _ _ _ _ us hl => match us, hl with | [_], _ => rfl
  have mt_M_invert : Meth K CM "__invert__" f_M_invert := ⟨at_M_invert, fn_M_invert, k_M_invert⟩
  have F_M_eq := fun_mk (st := s_Machine_eq) l_M_eq c_M_eq k_M_eq
  have b_M_eq := F_M_eq.binds (ps := ["self", "other"]) fun _ _ _ _ _ _ us hl => match us, hl with | [_, _], _ => rfl
  have F__law_tries := fun_mk (st := s__law_tries) l__law_tries c__law_tries k__law_tries
  have b__law_tries := F__law_tries.binds (ps := ["_law_asks"]) fun _ _ _ _ _ _ us hl => match us, hl with | [_], _ => rfl
  have m__law_tries := PySem.W.mg_of X G a__law_tries
  have F__law_try := fun_mk (st := s__law_try) l__law_try c__law_try k__law_try
  have b__law_try := F__law_try.binds (ps := ["_law_ask"]) fun _ _ _ _ _ _ us hl => match us, hl with | [_], _ => rfl
  have m__law_try := PySem.W.mg_of X G a__law_try
  have F__law_field := fun_mk (st := s__law_field) l__law_field c__law_field k__law_field
  have b__law_field := F__law_field.binds (ps := ["_law_e"]) fun _ _ _ _ _ _ us hl => match us, hl with | [_], _ => rfl
  have m__law_field := PySem.W.mg_of X G a__law_field
  have F__law_same := fun_mk (st := s__law_same) l__law_same c__law_same k__law_same
  have b__law_same := F__law_same.binds (ps := ["_law_found", "_law_due"]) fun _ _ _ _ _ _ us hl => match us, hl with | [_, _], _ => rfl
  have m__law_same := PySem.W.mg_of X G a__law_same
  have F_M_size := fun_mk (st := s_Machine_size) l_M_size c_M_size k_M_size
  have b_M_size := F_M_size.binds (ps := ["self"]) fun _ _ _ _ _ _ us hl => match us, hl with | [_], _ => rfl
  have hp : PropOf K CM "size" p_size f_M_size := ⟨P_at, P_get, P_tak, ⟨_, P_rec⟩⟩
  have bS := b_M_size
  have F__law_draw := fun_mk (st := s__law_draw) l__law_draw c__law_draw k__law_draw
  have b__law_draw := F__law_draw.binds (ps := ["_law_bag", "_law_many"]) fun _ _ _ _ _ _ us hl => match us, hl with | [_, _], _ => rfl
  have m__law_draw := PySem.W.mg_of X G a__law_draw
  have F_M_table := fun_mk (st := s_Machine_table) l_M_table c_M_table k_M_table
  have b_M_table := F_M_table.binds (ps := ["self"]) fun _ _ _ _ _ _ us hl => match us, hl with | [_], _ => rfl
  have mt_M_table : Meth K CM "table" f_M_table := ⟨at_M_table, fn_M_table, k_M_table⟩
  have F_M_bad := fun_mk (st := s_Machine_bad) l_M_bad c_M_bad k_M_bad
  have b_M_bad := F_M_bad.binds (ps := ["self"]) fun _ _ _ _ _ _ us hl => match us, hl with | [_], _ => rfl
  have mt_M_bad : Meth K CM "bad" f_M_bad := ⟨at_M_bad, fn_M_bad, k_M_bad⟩
  have F__law_machine := fun_mk (st := s__law_machine) l__law_machine c__law_machine k__law_machine
  have b__law_machine := F__law_machine.binds (ps := ["_law_faces", "_law_mach"]) fun _ _ _ _ _ _ us hl => match us, hl with | [_, _], _ => rfl
  have m__law_machine := PySem.W.mg_of X G a__law_machine
  have F__law_joint := fun_mk (st := s__law_joint) l__law_joint c__law_joint k__law_joint
  have b__law_joint := F__law_joint.binds (ps := ["_law_faces", "_law_one", "_law_two"]) fun _ _ _ _ _ _ us hl => match us, hl with | [_, _, _], _ => rfl
  have m__law_joint := PySem.W.mg_of X G a__law_joint
  have F__law_some_machine := fun_mk (st := s__law_some_machine) l__law_some_machine c__law_some_machine k__law_some_machine
  have b__law_some_machine := F__law_some_machine.binds (ps := ["_law_bag", "_law_faces", "_law_most"]) fun _ _ _ _ _ _ us hl => match us, hl with | [_, _, _], _ => rfl
  have m__law_some_machine := PySem.W.mg_of X G a__law_some_machine
  have F__law_letters := fun_mk (st := s__law_letters) l__law_letters c__law_letters k__law_letters
  have b__law_letters := F__law_letters.binds (ps := ["_law_bag", "_law_letters_here", "_law_many"]) fun _ _ _ _ _ _ us hl => match us, hl with | [_, _, _], _ => rfl
  have m__law_letters := PySem.W.mg_of X G a__law_letters
  have F__law_some_faces := fun_mk (st := s__law_some_faces) l__law_some_faces c__law_some_faces k__law_some_faces
  have b__law_some_faces := F__law_some_faces.binds (ps := ["_law_bag", "_law_most"]) fun _ _ _ _ _ _ us hl => match us, hl with | [_, _], _ => rfl
  have m__law_some_faces := PySem.W.mg_of X G a__law_some_faces
  have F__law_open := fun_mk (st := s__law_open) l__law_open c__law_open k__law_open
  have b__law_open := F__law_open.binds (ps := ["_law_script"]) fun _ _ _ _ _ _ us hl => match us, hl with | [_], _ => rfl
  have m__law_open := PySem.W.mg_of X G a__law_open
  refine ⟨PySem.W.fnOf "law" "law" (defArgs s_law) (defBody s_law) (defScope s_law) .none kV_law dc_law pm_law an_law (.ref c) ct_law, fun s v => .of_eq rfl, fun base _ _ TB => ?_⟩
  have FI_TooMany := ok_TooMany_init (P := l.prog) (w := w) (mg := mg) (base := base) Fi_TooMany GS
  have c_is_string : Cal l.prog w K mg base CX0 1 "is_string" s_is_string _ _ := ⟨_, _, ok_is_string F_is_string T, m_is_string, F_is_string, b_is_string⟩
  have c_is_ascending : Cal l.prog w K mg base CX0 1 "is_ascending" s_is_ascending _ _ := ⟨_, _, ok_is_ascending F_is_ascending T, m_is_ascending, F_is_ascending, b_is_ascending⟩
  have c_is_choice : Cal l.prog w K mg base CX0 2 "is_choice" s_is_choice _ _ := ⟨_, _, ok_is_choice F_is_choice T c_is_string c_is_ascending, m_is_choice, F_is_choice, b_is_choice⟩
  have c_is_faces : Cal l.prog w K mg base CX0 3 "is_faces" s_is_faces _ _ := ⟨_, _, ok_is_faces F_is_faces g__LOWER g__MOST_FACES c_is_choice, m_is_faces, F_is_faces, b_is_faces⟩
  have c_is_integer : Cal l.prog w K mg base CX0 1 "is_integer" s_is_integer _ _ := ⟨_, _, ok_is_integer F_is_integer T, m_is_integer, F_is_integer, b_is_integer⟩
  have c_is_number : Cal l.prog w K mg base CX0 2 "is_number" s_is_number _ _ := ⟨_, _, ok_is_number F_is_number c_is_integer, m_is_number, F_is_number, b_is_number⟩
  have c_is_row : Cal l.prog w K mg base CX0 3 "is_row" s_is_row _ _ := ⟨_, _, ok_is_row F_is_row T c_is_number, m_is_row, F_is_row, b_is_row⟩
  have c_check_table : Cal l.prog w K mg base CX0 4 "check_table" s_check_table _ _ := ⟨_, _, ok_check_table F_check_table T gMm rM vM c_is_row, m_check_table, F_check_table, b_check_table⟩
  have c_check_bad : Cal l.prog w K mg base CX0 3 "check_bad" s_check_bad _ _ := ⟨_, _, ok_check_bad F_check_bad T c_is_number, m_check_bad, F_check_bad, b_check_bad⟩
  have FM := ok_Machine_init (P := l.prog) (w := w) (mg := mg) (base := base) F_Mi T c_is_faces c_check_table c_check_bad
  have c_check_other : Cal l.prog w K mg base CX0 1 "check_other" s_check_other _ _ := ⟨_, _, ok_check_other F_check_other T gMm MC ME, m_check_other, F_check_other, b_check_other⟩
  have c_pairs_of : Cal l.prog w K mg base CX0 1 "pairs_of" s_pairs_of _ _ := ⟨_, _, ok_pairs_of F_pairs_of T gMm rM vM, m_pairs_of, F_pairs_of, b_pairs_of⟩
  have o_and : OwnB l.prog w K mg base CM .BitAnd 7 (sp_Machine_join K CM or) := ⟨⟨f_M_and, at_M_and, fn_M_and, ((ok_Machine_and (P := l.prog) (w := w) (mg := mg) (base := base) F_M_and T gMm MC MM FM bM3 c_check_other c_pairs_of).raw b_M_and .nil).imp fun vs H Q E h => by rw [List.append_nil]; exact h⟩, M_sf⟩
  have o_or : OwnB l.prog w K mg base CM .BitOr 7 (sp_Machine_join K CM and) := ⟨⟨f_M_or, at_M_or, fn_M_or, ((ok_Machine_or (P := l.prog) (w := w) (mg := mg) (base := base) F_M_or T gMm MC MM FM bM3 c_check_other c_pairs_of).raw b_M_or .nil).imp fun vs H Q E h => by rw [List.append_nil]; exact h⟩, M_sf⟩
  have o_inv : OwnM l.prog w K mg base CX0 CM "__invert__" 7 (sp_Machine_invert K CM) := ⟨⟨f_M_invert, at_M_invert, fn_M_invert, ((ok_Machine_invert (P := l.prog) (w := w) (mg := mg) (base := base) F_M_invert T gMm MC MM FM bM3).raw b_M_invert .nil).imp fun vs H Q E h => by rw [List.append_nil]; exact h⟩⟩
  have cx_pairs_of : Cal l.prog w K mg base (L2.CX l.prog w) 3 "pairs_of" s_pairs_of _ _ := ⟨_, _, okx_pairs_of F_pairs_of T gMm rM vM Kls_TooMany nf_TooMany FI_TooMany bI_TooMany, m_pairs_of, F_pairs_of, b_pairs_of⟩
  have ox_and : OwnM l.prog w K mg base (L2.CX l.prog w) CM (PySem.dunder Operator.BitAnd.info.2) 7 (sp_Machine_joinE K CM C_TooMany or) := ⟨⟨f_M_and, at_M_and, fn_M_and, ((okx_Machine_and (P := l.prog) (w := w) (mg := mg) (base := base) F_M_and T gMm MC MM FM bM3 c_check_other cx_pairs_of).raw b_M_and .nil).imp fun vs H Q E h => by rw [List.append_nil]; exact h⟩⟩
  have ox_or : OwnM l.prog w K mg base (L2.CX l.prog w) CM (PySem.dunder Operator.BitOr.info.2) 7 (sp_Machine_joinE K CM C_TooMany and) := ⟨⟨f_M_or, at_M_or, fn_M_or, ((okx_Machine_or (P := l.prog) (w := w) (mg := mg) (base := base) F_M_or T gMm MC MM FM bM3 c_check_other cx_pairs_of).raw b_M_or .nil).imp fun vs H Q E h => by rw [List.append_nil]; exact h⟩⟩
  have o_eqM : OwnE l.prog w K mg base CM 1 (sp_Machine_eq K CM) := ⟨⟨f_M_eq, at_M_eq, fn_M_eq, ((ok_Machine_eq (P := l.prog) (w := w) (mg := mg) (base := base) F_M_eq T gMm MC ME).raw b_M_eq .nil).imp fun vs H Q E h => by rw [List.append_nil]; exact h⟩, M_ne, M_cm, M_nf1⟩
  have g0 : Cal l.prog w K mg base CX0 1 "_law_same" s__law_same ["_law_found", "_law_due"] (fun _ _ _ _ => False) := ⟨_, _, nk_false, m__law_same, F__law_same, b__law_same⟩
  have g1 : Cal l.prog w K mg base CX0 2 "_law_same" s__law_same ["_law_found", "_law_due"] (sp__law_same K 0) := ⟨_, _, ok__law_same_step (n := 0) F__law_same T g0 (fun m _ _ _ _ e => absurd e (Nat.succ_ne_zero m).symm), m__law_same, F__law_same, b__law_same⟩
  have g2 : Cal l.prog w K mg base CX0 3 "_law_same" s__law_same ["_law_found", "_law_due"] (sp__law_same K 1) := ⟨_, _, ok__law_same_step (n := 1) F__law_same T g1 (fun m _ _ _ _ e h => by cases e; exact h), m__law_same, F__law_same, b__law_same⟩
  have g3 : Cal l.prog w K mg base CX0 4 "_law_same" s__law_same ["_law_found", "_law_due"] (sp__law_same K 2) := ⟨_, _, ok__law_same_step (n := 2) F__law_same T g2 (fun m _ _ _ _ e h => by cases e; exact h), m__law_same, F__law_same, b__law_same⟩
  have c__law_same : Cal l.prog w K mg base CX0 5 "_law_same" s__law_same ["_law_found", "_law_due"] (sp__law_same K 3) := ⟨_, _, ok__law_same_step (n := 3) F__law_same T g3 (fun m _ _ _ _ e h => by cases e; exact h), m__law_same, F__law_same, b__law_same⟩
  have FS := ok_Machine_size (P := l.prog) (w := w) (mg := mg) (base := base) F_M_size T MC
  have c__law_draw : Cal l.prog w K mg base CX0 1 "_law_draw" s__law_draw _ _ := ⟨_, _, ok__law_draw F__law_draw T, m__law_draw, F__law_draw, b__law_draw⟩
  have ok_M_table := ok_Machine_table (P := l.prog) (w := w) (mg := mg) (base := base) F_M_table T MC
  have cm_M_table : MCal l.prog w K mg base CX0 CM 1 "table" _ _ := ⟨_, _, mt_M_table, ok_M_table, b_M_table⟩
  have c_table := cm_M_table
  have ok_M_bad := ok_Machine_bad (P := l.prog) (w := w) (mg := mg) (base := base) F_M_bad T MC
  have cm_M_bad : MCal l.prog w K mg base CX0 CM 1 "bad" _ _ := ⟨_, _, mt_M_bad, ok_M_bad, b_M_bad⟩
  have c_bad := cm_M_bad
  have c__law_machine : Cal l.prog w K mg base CX0 7 "_law_machine" s__law_machine _ _ := ⟨_, _, ok__law_machine F__law_machine gMm MC MM FM bM3, m__law_machine, F__law_machine, b__law_machine⟩
  have c__law_joint : Cal l.prog w K mg base CX0 1 "_law_joint" s__law_joint _ _ := ⟨_, _, ok__law_joint F__law_joint T, m__law_joint, F__law_joint, b__law_joint⟩
  have c__law_some_machine : Cal l.prog w K mg base CX0 2 "_law_some_machine" s__law_some_machine _ _ := ⟨_, _, ok__law_some_machine F__law_some_machine T c__law_draw, m__law_some_machine, F__law_some_machine, b__law_some_machine⟩
  have c__law_letters : Cal l.prog w K mg base CX0 2 "_law_letters" s__law_letters _ _ := ⟨_, _, ok__law_letters F__law_letters T c__law_draw, m__law_letters, F__law_letters, b__law_letters⟩
  have c__law_some_faces : Cal l.prog w K mg base CX0 3 "_law_some_faces" s__law_some_faces _ _ := ⟨_, _, ok__law_some_faces F__law_some_faces T c__law_draw c__law_letters, m__law_some_faces, F__law_some_faces, b__law_some_faces⟩
  have c__law_open : Cal l.prog w K mg base CX0 1 "_law_open" s__law_open _ _ := ⟨_, _, ok__law_open F__law_open T, m__law_open, F__law_open, b__law_open⟩
  exact ok_law T l_law c_law TB Err_TooMany MC o_and o_or o_inv ox_and ox_or M_sf o_eqM gMm MM bM3 bM2 hae m__law_tries k__law_tries b__law_tries (fun b2 m sub sz => ok__law_tries (P := l.prog) (w := w) (base := b2) (k := 8) F__law_tries m sub sz F__law_try m__law_try b__law_try (ok__law_field (P := l.prog) (w := w) (mg := mg) (base := b2) F__law_field) m__law_field k__law_field b__law_field g_C1 g_C2 g_C3) c__law_same hp FS bS FM c__law_draw cm_M_table cm_M_bad c__law_machine c__law_joint c__law_some_machine c__law_some_faces c__law_open
end FW
open PySem PySem.W PyProof.Rows
set_option maxHeartbeats 0 in
theorem PySem.Challenge.cw_fourwalls_k15_states_of_joined_machines_holds : PySem.Challenge.rw_fourwalls_k15_states_of_joined_machines.Holds := by
  w_on; o_law
  refine FW.head_kmJ0 (r := FW.hR) (q := FW.hq) (K := FW.hk0.heap_1) (as := FW.has) (ts := FW.hts) (e := FW.hasE) (M := 20000) (loose := FW.hnames) (d := HandSHeadRun.topDef FW.hR.prog 41) (kwd := []) _ rfl (by kernel_rfl) (fun s => by kernel_rfl) FW.hRA FW.hRB FW.hRC (by kernel_rfl) (by kernel_rfl) (by kernel_rfl) (by rfl) (by first | assumption | decide +kernel) (by decide +kernel) ⟨rfl, rfl, rfl, rfl, rfl, by decide +kernel⟩ ?hw ?hc
  case hw => w_witness2
  k_fill
  refine' FW.walk_tab (l := PySem.Challenge.rw_fourwalls_k15_states_of_joined_machines) (n := 63) (k := 14) (x := "_law_script") (sp := FW.sp_law) rfl (by decide) (by kernel_rfl) ⟨rfl, by decide, by decide⟩ (fun w h Y => PySem.W.km_in_of Y) (fun w h Y => PySem.W.km_tabs_of Y _ List.mem_cons_self) ?hnP ?F ?hcode ?hsp
  case hsp => exact fun pr H a ns hl hP hS => ⟨a, ns, rfl, hS, hl, hP, fun _ => rfl⟩
  case hnP => exact fun pr => by kernel_rfl
  case F =>
    intro w mg fa h KX G hmg0
    have hmg : mg ("law" : PySem.Str) = some (.ref fa) := by
      have e : (HandSHeadRun.topDef FW.hR.prog 41).name = ("law" : PySem.Str) := by kernel_rfl
      rw [← e]
      exact hmg0
    refine' FW.all_mk KX G hmg ?gs1 ?gs2 ?eg_TooMany ?el_TooMany ?eb_TooMany ?esa_TooMany ?ex_TooMany ?ety_TooMany ?ek_TooMany ?ecl_TooMany ?ega_TooMany ?egg_TooMany ?efc_TooMany ?eob_TooMany ?ehd_TooMany ?enc_TooMany ?enf_TooMany ?eini_TooMany ?etI_TooMany ?elI_TooMany ?ecI_TooMany ?ekI_TooMany ?erd_TooMany ?efdn_TooMany ?e_C1 ?e_C2 ?e_C3 ?hx_TooMany ?M_g ?M_pg ?M_hd ?M_po ?M_sa ?M_nf ?M_nt ?M_nb ?M_mk ?M_kp ?M_rd ?M_sg ?M_most ?M_init ?M_ifn ?l_Mi ?c_Mi ?k_Mi ?t_Mi ?e_Mi ?at_M_and ?fn_M_and ?l_M_and ?c_M_and ?k_M_and ?z__LOWER ?z__MOST_FACES ?a_is_string ?l_is_string ?c_is_string ?k_is_string ?a_is_ascending ?l_is_ascending ?c_is_ascending ?k_is_ascending ?a_is_choice ?l_is_choice ?c_is_choice ?k_is_choice ?a_is_faces ?l_is_faces ?c_is_faces ?k_is_faces ?a_is_integer ?l_is_integer ?c_is_integer ?k_is_integer ?a_is_number ?l_is_number ?c_is_number ?k_is_number ?a_is_row ?l_is_row ?c_is_row ?k_is_row ?a_check_table ?l_check_table ?c_check_table ?k_check_table ?a_check_bad ?l_check_bad ?c_check_bad ?k_check_bad ?M_ca ?M_cn ?M_ct ?M_cm ?M_kit ?a_check_other ?l_check_other ?c_check_other ?k_check_other ?a_pairs_of ?l_pairs_of ?c_pairs_of ?k_pairs_of ?M_sf ?at_M_or ?fn_M_or ?l_M_or ?c_M_or ?k_M_or ?at_M_invert ?fn_M_invert ?l_M_invert ?c_M_invert ?k_M_invert ?at_M_eq ?fn_M_eq ?l_M_eq ?c_M_eq ?k_M_eq ?M_ne ?M_nf1 ?a__law_tries ?l__law_tries ?c__law_tries ?k__law_tries ?a__law_try ?l__law_try ?c__law_try ?k__law_try ?a__law_field ?l__law_field ?c__law_field ?k__law_field ?a__law_same ?l__law_same ?c__law_same ?k__law_same ?P_at ?P_get ?P_tak ?P_rec ?l_M_size ?c_M_size ?k_M_size ?a__law_draw ?l__law_draw ?c__law_draw ?k__law_draw ?at_M_table ?fn_M_table ?l_M_table ?c_M_table ?k_M_table ?at_M_bad ?fn_M_bad ?l_M_bad ?c_M_bad ?k_M_bad ?a__law_machine ?l__law_machine ?c__law_machine ?k__law_machine ?a__law_joint ?l__law_joint ?c__law_joint ?k__law_joint ?a__law_some_machine ?l__law_some_machine ?c__law_some_machine ?k__law_some_machine ?a__law_letters ?l__law_letters ?c__law_letters ?k__law_letters ?a__law_some_faces ?l__law_some_faces ?c__law_some_faces ?k__law_some_faces ?a__law_open ?l__law_open ?c__law_open ?k__law_open ?a_law ?l_law ?c_law ?y_isinstance ?y_str ?y_all ?y_any ?y_len ?y_int ?y_list ?y_abs ?y_bool ?y_tuple ?y_zip ?y_range ?y_enumerate ?y_sorted ?y_dict ?y_set ?y_sum ?y_min ?y_max ?y_reversed ?y_repr ?y_ord
    case gs1 => first | k_is | kernel_rfl
    case gs2 => first | k_is | kernel_rfl
    case eg_TooMany => first | k_is | kernel_rfl
    case el_TooMany => first | k_is | kernel_rfl
    case eb_TooMany => first | k_is | kernel_rfl
    case esa_TooMany => first | k_is | kernel_rfl
    case ex_TooMany => first | k_is | kernel_rfl
    case ety_TooMany => first | k_is | kernel_rfl
    case ek_TooMany => first | k_is | kernel_rfl
    case ecl_TooMany => first | k_is | kernel_rfl
    case ega_TooMany => first | k_is | kernel_rfl
    case egg_TooMany => first | k_is | kernel_rfl
    case efc_TooMany => first | k_is | kernel_rfl
    case eob_TooMany => first | k_is | kernel_rfl
    case ehd_TooMany => first | k_is | kernel_rfl
    case enc_TooMany => first | k_is | kernel_rfl
    case enf_TooMany => first | k_is | kernel_rfl
    case eini_TooMany => first | k_is | kernel_rfl
    case etI_TooMany => first | k_is | kernel_rfl
    case elI_TooMany => first | k_is | kernel_rfl
    case ecI_TooMany => first | k_is | kernel_rfl
    case ekI_TooMany => first | k_is | kernel_rfl
    case erd_TooMany => first | k_is | kernel_rfl
    case efdn_TooMany => first | k_is | kernel_rfl
    case e_C1 => first | k_is | kernel_rfl
    case e_C2 => first | k_is | kernel_rfl
    case e_C3 => first | k_is | kernel_rfl
    case hx_TooMany => first | k_is | kernel_rfl
    case M_g => first | k_is | kernel_rfl
    case M_pg => first | k_is | kernel_rfl
    case M_hd => first | k_is | kernel_rfl
    case M_po => first | k_is | kernel_rfl
    case M_sa => first | k_is | kernel_rfl
    case M_nf => first | k_is | kernel_rfl
    case M_nt => first | k_is | kernel_rfl
    case M_nb => first | k_is | kernel_rfl
    case M_mk => first | k_is | kernel_rfl
    case M_kp => first | k_is | kernel_rfl
    case M_rd => first | k_is | kernel_rfl
    case M_sg => first | k_is | kernel_rfl
    case M_most => first | k_is | kernel_rfl
    case M_init => first | k_is | kernel_rfl
    case M_ifn => first | k_is | kernel_rfl
    case l_Mi => first | k_is | kernel_rfl
    case c_Mi => first | k_is | kernel_rfl
    case k_Mi => first | k_is | kernel_rfl
    case t_Mi => first | k_is | kernel_rfl
    case e_Mi => first | k_is | kernel_rfl
    case at_M_and => first | k_is | kernel_rfl
    case fn_M_and => first | k_is | kernel_rfl
    case l_M_and => first | k_is | kernel_rfl
    case c_M_and => first | k_is | kernel_rfl
    case k_M_and => first | k_is | kernel_rfl
    case z__LOWER => first | k_is | kernel_rfl
    case z__MOST_FACES => first | k_is | kernel_rfl
    case a_is_string => first | k_is | kernel_rfl
    case l_is_string => first | k_is | kernel_rfl
    case c_is_string => first | k_is | kernel_rfl
    case k_is_string => first | k_is | kernel_rfl
    case a_is_ascending => first | k_is | kernel_rfl
    case l_is_ascending => first | k_is | kernel_rfl
    case c_is_ascending => first | k_is | kernel_rfl
    case k_is_ascending => first | k_is | kernel_rfl
    case a_is_choice => first | k_is | kernel_rfl
    case l_is_choice => first | k_is | kernel_rfl
    case c_is_choice => first | k_is | kernel_rfl
    case k_is_choice => first | k_is | kernel_rfl
    case a_is_faces => first | k_is | kernel_rfl
    case l_is_faces => first | k_is | kernel_rfl
    case c_is_faces => first | k_is | kernel_rfl
    case k_is_faces => first | k_is | kernel_rfl
    case a_is_integer => first | k_is | kernel_rfl
    case l_is_integer => first | k_is | kernel_rfl
    case c_is_integer => first | k_is | kernel_rfl
    case k_is_integer => first | k_is | kernel_rfl
    case a_is_number => first | k_is | kernel_rfl
    case l_is_number => first | k_is | kernel_rfl
    case c_is_number => first | k_is | kernel_rfl
    case k_is_number => first | k_is | kernel_rfl
    case a_is_row => first | k_is | kernel_rfl
    case l_is_row => first | k_is | kernel_rfl
    case c_is_row => first | k_is | kernel_rfl
    case k_is_row => first | k_is | kernel_rfl
    case a_check_table => first | k_is | kernel_rfl
    case l_check_table => first | k_is | kernel_rfl
    case c_check_table => first | k_is | kernel_rfl
    case k_check_table => first | k_is | kernel_rfl
    case a_check_bad => first | k_is | kernel_rfl
    case l_check_bad => first | k_is | kernel_rfl
    case c_check_bad => first | k_is | kernel_rfl
    case k_check_bad => first | k_is | kernel_rfl
    case M_ca => first | k_is | kernel_rfl
    case M_cn => first | k_is | kernel_rfl
    case M_ct => first | k_is | kernel_rfl
    case M_cm => first | k_is | kernel_rfl
    case M_kit => first | k_is | kernel_rfl
    case a_check_other => first | k_is | kernel_rfl
    case l_check_other => first | k_is | kernel_rfl
    case c_check_other => first | k_is | kernel_rfl
    case k_check_other => first | k_is | kernel_rfl
    case a_pairs_of => first | k_is | kernel_rfl
    case l_pairs_of => first | k_is | kernel_rfl
    case c_pairs_of => first | k_is | kernel_rfl
    case k_pairs_of => first | k_is | kernel_rfl
    case M_sf => first | k_is | kernel_rfl
    case at_M_or => first | k_is | kernel_rfl
    case fn_M_or => first | k_is | kernel_rfl
    case l_M_or => first | k_is | kernel_rfl
    case c_M_or => first | k_is | kernel_rfl
    case k_M_or => first | k_is | kernel_rfl
    case at_M_invert => first | k_is | kernel_rfl
    case fn_M_invert => first | k_is | kernel_rfl
    case l_M_invert => first | k_is | kernel_rfl
    case c_M_invert => first | k_is | kernel_rfl
    case k_M_invert => first | k_is | kernel_rfl
    case at_M_eq => first | k_is | kernel_rfl
    case fn_M_eq => first | k_is | kernel_rfl
    case l_M_eq => first | k_is | kernel_rfl
    case c_M_eq => first | k_is | kernel_rfl
    case k_M_eq => first | k_is | kernel_rfl
    case M_ne => first | k_is | kernel_rfl
    case M_nf1 => first | k_is | kernel_rfl
    case a__law_tries => first | k_is | kernel_rfl
    case l__law_tries => first | k_is | kernel_rfl
    case c__law_tries => first | k_is | kernel_rfl
    case k__law_tries => first | k_is | kernel_rfl
    case a__law_try => first | k_is | kernel_rfl
    case l__law_try => first | k_is | kernel_rfl
    case c__law_try => first | k_is | kernel_rfl
    case k__law_try => first | k_is | kernel_rfl
    case a__law_field => first | k_is | kernel_rfl
    case l__law_field => first | k_is | kernel_rfl
    case c__law_field => first | k_is | kernel_rfl
    case k__law_field => first | k_is | kernel_rfl
    case a__law_same => first | k_is | kernel_rfl
    case l__law_same => first | k_is | kernel_rfl
    case c__law_same => first | k_is | kernel_rfl
    case k__law_same => first | k_is | kernel_rfl
    case P_at => first | k_is | kernel_rfl
    case P_get => first | k_is | kernel_rfl
    case P_tak => first | k_is | kernel_rfl
    case P_rec => first | k_is | kernel_rfl
    case l_M_size => first | k_is | kernel_rfl
    case c_M_size => first | k_is | kernel_rfl
    case k_M_size => first | k_is | kernel_rfl
    case a__law_draw => first | k_is | kernel_rfl
    case l__law_draw => first | k_is | kernel_rfl
    case c__law_draw => first | k_is | kernel_rfl
    case k__law_draw => first | k_is | kernel_rfl
    case at_M_table => first | k_is | kernel_rfl
    case fn_M_table => first | k_is | kernel_rfl
    case l_M_table => first | k_is | kernel_rfl
    case c_M_table => first | k_is | kernel_rfl
    case k_M_table => first | k_is | kernel_rfl
    case at_M_bad => first | k_is | kernel_rfl
    case fn_M_bad => first | k_is | kernel_rfl
    case l_M_bad => first | k_is | kernel_rfl
    case c_M_bad => first | k_is | kernel_rfl
    case k_M_bad => first | k_is | kernel_rfl
    case a__law_machine => first | k_is | kernel_rfl
    case l__law_machine => first | k_is | kernel_rfl
    case c__law_machine => first | k_is | kernel_rfl
    case k__law_machine => first | k_is | kernel_rfl
    case a__law_joint => first | k_is | kernel_rfl
    case l__law_joint => first | k_is | kernel_rfl
    case c__law_joint => first | k_is | kernel_rfl
    case k__law_joint => first | k_is | kernel_rfl
    case a__law_some_machine => first | k_is | kernel_rfl
    case l__law_some_machine => first | k_is | kernel_rfl
    case c__law_some_machine => first | k_is | kernel_rfl
    case k__law_some_machine => first | k_is | kernel_rfl
    case a__law_letters => first | k_is | kernel_rfl
    case l__law_letters => first | k_is | kernel_rfl
    case c__law_letters => first | k_is | kernel_rfl
    case k__law_letters => first | k_is | kernel_rfl
    case a__law_some_faces => first | k_is | kernel_rfl
    case l__law_some_faces => first | k_is | kernel_rfl
    case c__law_some_faces => first | k_is | kernel_rfl
    case k__law_some_faces => first | k_is | kernel_rfl
    case a__law_open => first | k_is | kernel_rfl
    case l__law_open => first | k_is | kernel_rfl
    case c__law_open => first | k_is | kernel_rfl
    case k__law_open => first | k_is | kernel_rfl
    case a_law => first | k_is | kernel_rfl
    case l_law => first | k_is | kernel_rfl
    case c_law => first | k_is | kernel_rfl
    case y_isinstance => first | k_is | kernel_rfl
    case y_str => first | k_is | kernel_rfl
    case y_all => first | k_is | kernel_rfl
    case y_any => first | k_is | kernel_rfl
    case y_len => first | k_is | kernel_rfl
    case y_int => first | k_is | kernel_rfl
    case y_list => first | k_is | kernel_rfl
    case y_abs => first | k_is | kernel_rfl
    case y_bool => first | k_is | kernel_rfl
    case y_tuple => first | k_is | kernel_rfl
    case y_zip => first | k_is | kernel_rfl
    case y_range => first | k_is | kernel_rfl
    case y_enumerate => first | k_is | kernel_rfl
    case y_sorted => first | k_is | kernel_rfl
    case y_dict => first | k_is | kernel_rfl
    case y_set => first | k_is | kernel_rfl
    case y_sum => first | k_is | kernel_rfl
    case y_min => first | k_is | kernel_rfl
    case y_max => first | k_is | kernel_rfl
    case y_reversed => first | k_is | kernel_rfl
    case y_repr => first | k_is | kernel_rfl
    case y_ord => first | k_is | kernel_rfl
  case hcode => exact fun pr => by kernel_rfl
