import PyProof.Rows.All
import Wide.All
import OpenK.AllK
import Wide.FinOn
import KE.KNestM
import KE.KStateDown
import HandS.Head0
import HandS.Head1
import HandS.Head2
import HandS.Head3
import KE.KTypeName
import KE.KExcIs
import HandS.Base
import HandS.Call
import HandS.Exc
import HandS.ExcInit
import HandS.ExcField
import KE.KTryMore
import HandS.HotCalls
import HandS.Lambda
import HandS.Words
import HandS.WordsExc
import PyProof.EqAt
import PyProof.EqKinds
import PyProof.TupleCall
import KE.KUnpack
import HandS.List
import HandS.Comp
import HandS.Iter
import HandS.Text
import HandS.WordsList
import KE.GoesMore
import HandS.Walk
import HandS.IsInst
import HandS.Ends
import HandS.Zip
import HandS.Codes
import HandS.Style
import KE.KRevSl
import KE.GoesEnum
import HandS.Star
import HandS.SlotsOwn
import PyProof.InstEq
import HandS.More
import HandS.Conv
import HandS.FStr
import HandS.ClsMeth
import HandS.EndTab
import HandS.HeadHook4
import HandS.Nested
import HandS.SortRule
import KE.KSortTupAny
import PyProof.Rows.SortShellAny
import PyProof.StrBlock2
import HandS.TupMul
import HandS.NoneIn
import PyProof.Rows.Range3
import PyProof.Conv_bool
import HandS.MethStar
import PyProof.ListStr
import PyProof.ListRange
import OpenK.KMeth
import KE.KOpsOwn
import KE.KParD
import HandS.MakeKwOnly
import HandS.DictComp
import HandS.Small
import HandS.Wide
import HandS.Gcd
import HandS.MakeKw
import PyProof.DictUpdate
import KE.KStar
import HandS.Sort
import HandS.WordsDict
import HandS.Replace
import HandS.Property
import PyProof.ListMulRight
import PyProof.TwoTypes
import KE.KCallOwn
import HandS.ListItems
import HandS.Defaults
import PyProof.ListTruth
import HandS.TupAny
import PySem.Challenge.RW_fourwalls_k41_whole_weights_reckoned
set_option Elab.async false
set_option linter.all false
set_option maxRecDepth 100000
set_option maxHeartbeats 16000000
/-! the head of a law with tables in one run of the kernel: the objects read off the tree -/
namespace FW
open PySem PySem.W PySem.Calls PyProof.Rows HandSHeadRun
noncomputable def obK (as ts : List Addr) (s : SharedT) : List (Option Obj) × List (Option Obj) := (as.map (getT s), ts.map (getT s))
theorem head_km {r : OpenRow} {q : Program} {K : Params → Frag} {as ts : List Addr} {e : ∀ P, as = (K P).map (·.1)} {M : Nat} {loose : List PySem.Str} {d : DefRec} {kwd : List (PySem.Str × PySem.Expr)}
    (H : Hook) (hH : H = kmHook K as e ts)
    (eo : opening r.prog = plainProg r.prog.main.scope.names) (f : ∀ s, fenceModules? r.prog s = some s) (run : ∀ w, RunEq r q (kmHook K as e ts) (obK as ts) M loose w)
    (hdef : defOf q r.name = some (d, kwd)) (hp : r.prog.theDef r.name = some (d.params, d.body, d.scope)) (hk : kwWritten? d.params.kwonlyargs d.params.kw_defaults = some kwd)
    (hwr : (!r.writes || r.records.isEmpty) = true) (k1 : r.wellSaid = true) (ok : (chainsOk q && opensWell r.prog && (frees r.toRowW && r.within.isEmpty)) = true) (hb : r.prog.bare) (hw : r.toRowW.promised)
    (call : WalkO q loose (XL q []) (kmHook K as e ts).says r.toRowW d kwd fun f vs => PySem.call f vs) : r.Holds := by
  refine head_any (H := kmHook K as e ts) (ob := obK as ts) (M := M) (loose := loose) (d := d) (kwd := kwd) (fun s => ?_) eo f run hdef hp hk hwr k1 ok hb hw call
  show (as.map (getT s), ts.map (getT s)) = (as.map s.abs.heap.get?, ts.map s.abs.heap.get?)
  rw [show getT s = s.abs.heap.get? from funext (getT_eq s)]
theorem head_kk {r : OpenRow} {q : Program} {K : Params → Frag} {as : List Addr} {e : ∀ P, as = (K P).map (·.1)} {M : Nat} {loose : List PySem.Str} {d : DefRec} {kwd : List (PySem.Str × PySem.Expr)}
    (H : Hook) (hH : H = kHook K as e)
    (eo : opening r.prog = plainProg r.prog.main.scope.names) (f : ∀ s, fenceModules? r.prog s = some s) (run : ∀ w, RunEq r q (kHook K as e) (fun s => as.map (getT s)) M loose w)
    (hdef : defOf q r.name = some (d, kwd)) (hp : r.prog.theDef r.name = some (d.params, d.body, d.scope)) (hk : kwWritten? d.params.kwonlyargs d.params.kw_defaults = some kwd)
    (hwr : (!r.writes || r.records.isEmpty) = true) (k1 : r.wellSaid = true) (ok : (chainsOk q && opensWell r.prog && (frees r.toRowW && r.within.isEmpty)) = true) (hb : r.prog.bare) (hw : r.toRowW.promised)
    (call : WalkO q loose (XL q []) (kHook K as e).says r.toRowW d kwd fun f vs => PySem.call f vs) : r.Holds := by
  refine head_any (H := kHook K as e) (ob := fun s => as.map (getT s)) (M := M) (loose := loose) (d := d) (kwd := kwd) (fun s => ?_) eo f run hdef hp hk hwr k1 ok hb hw call
  show as.map (getT s) = as.map s.abs.heap.get?
  rw [show getT s = s.abs.heap.get? from funext (getT_eq s)]
theorem head_kmI {r : OpenRow} {q : Program} {K : Params → Frag} {as ts : List Addr} {e : ∀ P, as = (K P).map (·.1)} {M : Nat} {loose : List PySem.Str} {d : DefRec} {kwd : List (PySem.Str × PySem.Expr)}
    (H : Hook) (hH : H = kmHook K as e ts) (run : ∀ w, RunEqI r q (kmHook K as e ts) (obK as ts) M loose w)
    (hdef : defOf q r.name = some (d, kwd)) (hp : r.prog.theDef r.name = some (d.params, d.body, d.scope)) (hk : kwWritten? d.params.kwonlyargs d.params.kw_defaults = some kwd)
    (hwr : (!r.writes || r.records.isEmpty) = true) (k1 : r.wellSaid = true) (ok : (chainsOk q && opensWell r.prog && (frees r.toRowW && r.within.isEmpty)) = true) (hb : r.prog.bare) (hw : r.toRowW.promised)
    (call : WalkO q loose (XL q []) (kmHook K as e ts).says r.toRowW d kwd fun f vs => PySem.call f vs) : r.Holds := by
  refine head_imp (H := kmHook K as e ts) (ob := obK as ts) (M := M) (loose := loose) (d := d) (kwd := kwd) (fun s => ?_) run hdef hp hk hwr k1 ok hb hw call
  show (as.map (getT s), ts.map (getT s)) = (as.map s.abs.heap.get?, ts.map s.abs.heap.get?)
  rw [show getT s = s.abs.heap.get? from funext (getT_eq s)]
theorem head_kkI {r : OpenRow} {q : Program} {K : Params → Frag} {as : List Addr} {e : ∀ P, as = (K P).map (·.1)} {M : Nat} {loose : List PySem.Str} {d : DefRec} {kwd : List (PySem.Str × PySem.Expr)}
    (H : Hook) (hH : H = kHook K as e) (run : ∀ w, RunEqI r q (kHook K as e) (fun s => as.map (getT s)) M loose w)
    (hdef : defOf q r.name = some (d, kwd)) (hp : r.prog.theDef r.name = some (d.params, d.body, d.scope)) (hk : kwWritten? d.params.kwonlyargs d.params.kw_defaults = some kwd)
    (hwr : (!r.writes || r.records.isEmpty) = true) (k1 : r.wellSaid = true) (ok : (chainsOk q && opensWell r.prog && (frees r.toRowW && r.within.isEmpty)) = true) (hb : r.prog.bare) (hw : r.toRowW.promised)
    (call : WalkO q loose (XL q []) (kHook K as e).says r.toRowW d kwd fun f vs => PySem.call f vs) : r.Holds := by
  refine head_imp (H := kHook K as e) (ob := fun s => as.map (getT s)) (M := M) (loose := loose) (d := d) (kwd := kwd) (fun s => ?_) run hdef hp hk hwr k1 ok hb hw call
  show as.map (getT s) = as.map s.abs.heap.get?
  rw [show getT s = s.abs.heap.get? from funext (getT_eq s)]
theorem opt_pair {α β γ : Type} {X : Option α} {f : α → β} {g : α → γ} {a : β} {b : γ} (h1 : X.map f = some a) (h2 : X.map g = some b) : X.map (fun s => (f s, g s)) = some (a, b) := by
  cases X with
  | none => cases h1
  | some s =>
    cases h1
    cases h2
    rfl
/-- the three looks at the run's end, each a run of its own -/
def RunA (r : OpenRow) (M : Nat) (w : World) : Prop := (wholeF (fun p => stepQ (denQ tabQ) p w) fenceQ M r.prog).map (fun x => looksF r.prog x.1.heap x.2.abs) = some true
def RunB (r : OpenRow) (q : Program) (M : Nat) (loose : List PySem.Str) (w : World) : Prop := (wholeF (fun p => stepQ (denQ tabQ) p w) fenceQ M r.prog).map (fun x => seenQ q loose (importedModules r.prog.main.body) (fun s => xlAt q [] s && recOk r.toRowW.records s) x.2.abs) = some (openGood q loose)
def RunC (r : OpenRow) (H : Hook) (ob : SharedT → H.α) (M : Nat) (w : World) : Prop := (wholeF (fun p => stepQ (denQ tabQ) p w) fenceQ M r.prog).map (fun x => ob x.2) = some (H.val w)
theorem run_abc {r : OpenRow} {q : Program} {H : Hook} {ob : SharedT → H.α} {M : Nat} {loose : List PySem.Str} {w : World} (a : RunA r M w) (b : RunB r q M loose w) (c : RunC r H ob M w) : RunEqI r q H ob M loose w := opt_pair a (opt_pair b c)
theorem head_kmJ {r : OpenRow} {q : Program} {K : Params → Frag} {as ts : List Addr} {e : ∀ P, as = (K P).map (·.1)} {M : Nat} {loose : List PySem.Str} {d : DefRec} {kwd : List (PySem.Str × PySem.Expr)}
    (H : Hook) (hH : H = kmHook K as e ts) (ra : ∀ w, RunA r M w) (rb : ∀ w, RunB r q M loose w) (run : ∀ w, RunC r (kmHook K as e ts) (obK as ts) M w)
    (hdef : defOf q r.name = some (d, kwd)) (hp : r.prog.theDef r.name = some (d.params, d.body, d.scope)) (hk : kwWritten? d.params.kwonlyargs d.params.kw_defaults = some kwd)
    (hwr : (!r.writes || r.records.isEmpty) = true) (k1 : r.wellSaid = true) (ok : (chainsOk q && opensWell r.prog && (frees r.toRowW && r.within.isEmpty)) = true) (hb : r.prog.bare) (hw : r.toRowW.promised)
    (call : WalkO q loose (XL q []) (kmHook K as e ts).says r.toRowW d kwd fun f vs => PySem.call f vs) : r.Holds :=
  head_kmI H hH (fun w => run_abc (ra w) (rb w) (run w)) hdef hp hk hwr k1 ok hb hw call
theorem keepH {r : OpenRow} (h : r.Holds) (H : Hook) : r.Holds := h
noncomputable def obK1 (as : List Addr) (s : SharedT) : List (Option Obj) := as.map (getT s)
theorem head_kkJ {r : OpenRow} {q : Program} {K : Params → Frag} {as : List Addr} {e : ∀ P, as = (K P).map (·.1)} {M : Nat} {loose : List PySem.Str} {d : DefRec} {kwd : List (PySem.Str × PySem.Expr)}
    (H : Hook) (hH : H = kHook K as e) (ra : ∀ w, RunA r M w) (rb : ∀ w, RunB r q M loose w) (run : ∀ w, RunC r (kHook K as e) (obK1 as) M w)
    (hdef : defOf q r.name = some (d, kwd)) (hp : r.prog.theDef r.name = some (d.params, d.body, d.scope)) (hk : kwWritten? d.params.kwonlyargs d.params.kw_defaults = some kwd)
    (hwr : (!r.writes || r.records.isEmpty) = true) (k1 : r.wellSaid = true) (ok : (chainsOk q && opensWell r.prog && (frees r.toRowW && r.within.isEmpty)) = true) (hb : r.prog.bare) (hw : r.toRowW.promised)
    (call : WalkO q loose (XL q []) (kHook K as e).says r.toRowW d kwd fun f vs => PySem.call f vs) : r.Holds :=
  head_kkI H hH (fun w => run_abc (ra w) (rb w) (run w)) hdef hp hk hwr k1 ok hb hw call
/-- .. of a program without imports -/
def RunA0 (r : OpenRow) (M : Nat) (w : World) : Prop := ∀ os : OsState, (endF (stepQ (denQ tabQ) r.prog w) M r.prog w os).map (fun s => looksF r.prog (boot_heap w.params) s.abs) = some true
def RunB0 (r : OpenRow) (q : Program) (M : Nat) (loose : List PySem.Str) (w : World) : Prop := ∀ os : OsState, (endF (stepQ (denQ tabQ) r.prog w) M r.prog w os).map (fun s => seenQ q loose (importedModules r.prog.main.body) (fun s => xlAt q [] s && recOk r.toRowW.records s) s.abs) = some (openGood q loose)
def RunC0 (r : OpenRow) (H : Hook) (ob : SharedT → H.α) (M : Nat) (w : World) : Prop := ∀ os : OsState, (endF (stepQ (denQ tabQ) r.prog w) M r.prog w os).map ob = some (H.val w)
theorem run_abc0 {r : OpenRow} {q : Program} {H : Hook} {ob : SharedT → H.α} {M : Nat} {loose : List PySem.Str} {w : World} (a : RunA0 r M w) (b : RunB0 r q M loose w) (c : RunC0 r H ob M w) : RunEq r q H ob M loose w := fun os => opt_pair (a os) (opt_pair (b os) (c os))
theorem head_kmJ0 {r : OpenRow} {q : Program} {K : Params → Frag} {as ts : List Addr} {e : ∀ P, as = (K P).map (·.1)} {M : Nat} {loose : List PySem.Str} {d : DefRec} {kwd : List (PySem.Str × PySem.Expr)}
    (H : Hook) (hH : H = kmHook K as e ts) (eo : opening r.prog = plainProg r.prog.main.scope.names) (f : ∀ s, fenceModules? r.prog s = some s) (ra : ∀ w, RunA0 r M w) (rb : ∀ w, RunB0 r q M loose w) (run : ∀ w, RunC0 r (kmHook K as e ts) (obK as ts) M w)
    (hdef : defOf q r.name = some (d, kwd)) (hp : r.prog.theDef r.name = some (d.params, d.body, d.scope)) (hk : kwWritten? d.params.kwonlyargs d.params.kw_defaults = some kwd)
    (hwr : (!r.writes || r.records.isEmpty) = true) (k1 : r.wellSaid = true) (ok : (chainsOk q && opensWell r.prog && (frees r.toRowW && r.within.isEmpty)) = true) (hb : r.prog.bare) (hw : r.toRowW.promised)
    (call : WalkO q loose (XL q []) (kmHook K as e ts).says r.toRowW d kwd fun f vs => PySem.call f vs) : r.Holds :=
  head_km H hH eo f (fun w => run_abc0 (ra w) (rb w) (run w)) hdef hp hk hwr k1 ok hb hw call
theorem head_kkJ0 {r : OpenRow} {q : Program} {K : Params → Frag} {as : List Addr} {e : ∀ P, as = (K P).map (·.1)} {M : Nat} {loose : List PySem.Str} {d : DefRec} {kwd : List (PySem.Str × PySem.Expr)}
    (H : Hook) (hH : H = kHook K as e) (eo : opening r.prog = plainProg r.prog.main.scope.names) (f : ∀ s, fenceModules? r.prog s = some s) (ra : ∀ w, RunA0 r M w) (rb : ∀ w, RunB0 r q M loose w) (run : ∀ w, RunC0 r (kHook K as e) (obK1 as) M w)
    (hdef : defOf q r.name = some (d, kwd)) (hp : r.prog.theDef r.name = some (d.params, d.body, d.scope)) (hk : kwWritten? d.params.kwonlyargs d.params.kw_defaults = some kwd)
    (hwr : (!r.writes || r.records.isEmpty) = true) (k1 : r.wellSaid = true) (ok : (chainsOk q && opensWell r.prog && (frees r.toRowW && r.within.isEmpty)) = true) (hb : r.prog.bare) (hw : r.toRowW.promised)
    (call : WalkO q loose (XL q []) (kHook K as e).says r.toRowW d kwd fun f vs => PySem.call f vs) : r.Holds :=
  head_kk H hH eo f (fun w => run_abc0 (ra w) (rb w) (run w)) hdef hp hk hwr k1 ok hb hw call
end FW
namespace FW
abbrev hR : PySem.W.OpenRow := PySem.W.OpenLaw.row PySem.Challenge.rw_fourwalls_k41_whole_weights_reckoned
abbrev hq : PySem.Program := PySem.W.view hR.prog [41]
def hn0 : List PySem.Str := ["__name__", "HouseError", "Missing", "InvalidFaces", "InvalidFace", "InvalidString", "InvalidNumber", "OtherFaces", "NothingLeft", "_LOWER", "_MOST_FACES", "is_ascending", "is_choice", "is_faces", "is_integer", "is_string", "is_letter", "is_room", "check_numbers", "check_weights", "made", "added", "multiplied", "told_numbers", "Weights", "_law_open", "_law_draw", "_law_same", "_law_field", "_law_try"]
def hn1 : List PySem.Str := ["_law_tries", "_law_letters", "_law_some_faces", "_law_some_weights", "_law_put_at", "_law_numbers", "_law_added", "_law_taken"]
def hnames : List PySem.Str := hn0 ++ hn1
section
open PySem PySem.W PyProof.Rows
local macro_rules | `(tactic| o_head $H) => `(tactic| (refine FW.keepH ?_ $H; assumption))
theorem hk0 (X : hR.Holds) : hR.Holds := by
  w_on; k_head
end
def has : List PySem.Addr := [2, 3, 15, 22, 23, 24, 25, 28, 35, 36, 37, 38, 41, 48, 50, 51, 53, 54, 55, 56, 57, 60, 67, 69, 70, 72, 73, 74, 75, 76, 79, 86, 88, 89, 91, 92, 93, 94, 95, 98, 105, 107, 108, 110, 111, 112, 113, 114, 117, 124, 126, 127, 129, 130, 131, 132, 133, 136, 143, 145, 146, 148, 149, 150, 151, 152, 153, 156, 159, 160, 161, 163, 164, 166, 167, 168, 170, 171, 173, 174, 175, 177, 178, 180, 181, 182, 185, 186, 187, 189, 190, 192, 193, 194, 196, 197, 199, 200, 201, 203, 204, 206, 207, 208, 210, 211, 213, 214, 215, 217, 218, 220, 221, 222, 225, 226, 227, 230, 231, 232, 235, 236, 244, 245, 248, 249, 250, 252, 253, 255, 256, 257, 258, 260, 261, 263, 264, 265, 267, 268, 270, 271, 272, 274, 275, 277, 278, 279, 281, 282, 284, 285, 286, 288, 289, 291, 292, 293, 296, 297, 298, 300, 301, 303, 304, 305, 307, 308, 310, 311, 312, 315, 316, 317, 319, 320, 322, 323, 324, 326, 327, 329, 330, 331, 333, 334, 336, 337, 338, 340, 341, 343, 344, 345, 348, 349, 350, 352, 353, 355, 356, 357, 358, 359, 360, 361, 364, 366, 367, 369, 370, 371, 373, 374, 376, 377, 378, 381, 382, 383, 385, 386, 388, 389, 390, 392, 393, 395, 396, 397, 400, 401, 402, 404, 405, 407, 408, 409, 411, 412, 414, 415, 416, 419, 420, 421, 423, 424, 426, 427, 428, 431, 432, 433, 435, 436, 438, 439, 440, 442, 443, 445, 446, 447, 450, 451]
def hts : List PySem.Addr := [448]
theorem hasE : ∀ P, has = (hk0.heap_1 P).map (·.1) := fun _ => by kernel_rfl
theorem hRC (w : PySem.World) : FW.RunC0 FW.hR (PySem.W.kmHook hk0.heap_1 has hasE hts) (FW.obK has hts) 20000 w := by
  refine PySem.W.byRow2 "special-get-raises" (P := fun w => FW.RunC0 FW.hR (PySem.W.kmHook hk0.heap_1 has hasE hts) (FW.obK has hts) 20000 w) (fun w => ?_) (fun w => ?_) w
  · intro os
    kernel_rfl
  · intro os
    kernel_rfl
theorem hRA (w : PySem.World) : FW.RunA0 FW.hR 20000 w := by
  refine PySem.W.byRow2 "special-get-raises" (P := fun w => FW.RunA0 FW.hR 20000 w) (fun w => ?_) (fun w => ?_) w
  · intro os
    kernel_rfl
  · intro os
    kernel_rfl
theorem hRB (w : PySem.World) : FW.RunB0 FW.hR FW.hq 20000 FW.hnames w := by
  refine PySem.W.byRow2 "special-get-raises" (P := fun w => FW.RunB0 FW.hR FW.hq 20000 FW.hnames w) (fun w => ?_) (fun w => ?_) w
  · intro os
    kernel_rfl
  · intro os
    kernel_rfl
end FW
namespace FW
open PySem PySem.Spec PyProof.Rows L2 Builtin Builtin.Getset_descriptor PySem.W
/-! ### the name of a class of the program -/
theorem own_dga (d tp : Value) (C : Addr) : descrGetArgs ⟨[d, .ref C, tp], []⟩ = pure (d, some (.ref C), given tp) := by kernel_rfl
section
variable {prog : Program} {w : World} {A : Around} {E : Value → Shared → Prop} {s : Shared} {K : PySem.W.Frag}
theorem own_get {C : Addr} {tp : Value} {R : Result → Shared → Prop} {o : Obj} {z : Str} {tk : Tok} (X : K.In s.heap) (ht : PySem.W.typeIn K (.ref C) = some (.type "type")) (ho : s.heap.get? C = some o) (hs : o.slots[2]? = some (some (.str z tk)))
    (h : R (.ok (.ret (.str z tk))) s) :
    codeAny (model prog w) A (.call (.builtin "getset_descriptor.__get__") ⟨[.builtin "type.__name__", .ref C, tp], []⟩) R s := by
  obtain ⟨hh, g, dr, t, os⟩ := s
  have t1 : Looks (model prog w) hh (typeOf (.ref C)) (.type "type") := looks_typeIn X ht
  have t2 : Looks (model prog w) hh (isSubtype (.type "type") (.type "type")) true := .of_pure (by
    rw [isSubtype_type]
    kernel_rfl)
  refine codeAny_call_builtin KF.slot_gs.plain KF.entry_gs
    (KF.slot_gs.check _ _ _ _ _ _ _ _
      ktyn_type (KF.args_gs _ _ _) ?_)
  unfold Builtin.«getset_descriptor.__get__» descrGet
  rw [own_dga]
  refine wpAny_bind (wpAny_pure ?_)
  unfold descrGetter descrCheckInstance descrNameAndClass isInstance
  simp only [ktyn_owner]
  repeat lk
  refine ⟨Code.quiet_builtin _ (by decide +kernel), codeAny_builtin
    ktyn_entry ?_⟩
  unfold Builtin.«type.__name__»
  dsimp only
  unfold keptObject PySem.slotAt
  dsimp only
  refine wpAny_bind (wpAny_bind (wpAny_loadPart ho (wpAny_pure ?_)))
  rw [hs]
  exact wpAny_pure h
/-- the name that a class of the program was made with -/
structure NameC (K : PySem.W.Frag) (C : Addr) (z : Str) : Prop where
  ob : ∃ (o : Obj) (tk : Tok), K.lookup C = some o ∧ o.slots[2]? = some (some (.str z tk))
  ty : PySem.W.typeIn K (.ref C) = some (.type "type")
  rd : readsIn K C (.type "type") = true
  fd : findCls K (.ref C) (.type "type") "__name__" = some (.get (.builtin "getset_descriptor.__get__") (.builtin "type.__name__") (.ref C) (.type "type"))
theorem name_get {C : Addr} {z : Str} {ex : Bool} {Q : Value → Shared → Prop} (X : K.In s.heap) (N : NameC K C z) (h : ∀ tk u, Q (.str z tk) { s with toks := u }) : wpAny (model prog w) A (getAttr (.ref C) "__name__" ex) Q E s := by
  obtain ⟨o, tk, ho, hs⟩ := N.ob
  refine cls_bind X N.rd N.fd (wpAny_call ?_)
  exact own_get (s := { s with toks := s.toks + 1 }) X N.ty (X _ _ ho) hs (handed_on rfl (h tk _))
/-- what an exception class has for the reading of e.__class__ -/
structure ClsE (K : PySem.W.Frag) (C : Addr) : Prop where
  cl : (clsIn K C).isSome = true
  ga : PySem.W.findIn K (.ref C) "__getattribute__" = some (some (.builtin "BaseException.__getattribute__"))
  gg : PySem.W.findIn K (.ref C) "__getattr__" = some none
  ex : PySem.W.subIn K (.ref C) (.type "BaseException") = some true
  fc : PySem.W.findIn K (.ref C) "__class__" = some (some (.builtin "object.__class__"))
  ob : PySem.W.mroIn K C (.type "object") = some true
structure GsK (K : PySem.W.Frag) : Prop where
  sp : specialIn K (.builtin "object.__class__") "__get__" = some (some (.builtin "getset_descriptor.__get__"))
  tk : takesIn K (.builtin "object.__class__") = some true
theorem cls_get {x C : Addr} {ox : Obj} {od : Option Obj} {ex : Bool} {Q : Value → Shared → Prop} (X : K.In s.heap) (I : InstAt s.heap x ox C od) (T : ClsE K C) (G : GsK K) (h : ∀ u, Q (.ref C) { s with toks := u }) : wpAny (model prog w) A (getAttr (.ref x) "__class__" ex) Q E s := by
  obtain ⟨hp, g, d, t, os⟩ := s
  have hf : findObj K C od "__class__" = some (.bind (.builtin "getset_descriptor.__get__") (.builtin "object.__class__")) := findObj_dataE T.cl T.fc G.sp G.tk
  have l0 := I.type (M := model prog w)
  have l1 := looks_findIn (M := model prog w) X T.ga
  have l2 := looks_findIn (M := model prog w) X T.gg
  have l3 := looks_find (M := model prog w) X I hf
  have sub : Looks (model prog w) hp (isInstance (.ref x) (.type "BaseException")) true := l0.andThen (looks_subIn X T.ex)
  have n0 : (ex && onTheHeap (Value.builtin "BaseException.__getattribute__")) = false := by cases ex <;> rfl
  have n2 : (Value.builtin "BaseException.__getattribute__" == Value.builtin "object.__getattribute__") = false := by
    decide +kernel
  have n1 : (onTheHeap (.ref C) && Value.builtin "BaseException.__getattribute__" == Value.builtin "object.__getattribute__") = false := (congrArg (onTheHeap (.ref C) && ·) n2).trans (Bool.and_false _)
  unfold getAttr getAttrBy
  refine wpAny_bind (wpAny_mkText (wpAny_holding (wpAny_bind (l0.at (wpAny_bind (l1.at ?_))))))
  dsimp only
  rw [n1, if_neg Bool.false_ne_true]
  unfold getAttrByItsOwn hookBefore
  refine wpAny_bind ?_
  rw [if_pos (by rfl)]
  refine l2.at ?_
  refine wpAny_bind (wpAny_attempt (wpAny_holding ?_))
  unfold callGetattribute
  rw [n0, if_neg Bool.false_ne_true]
  unfold boundAndCalled
  rw [PySem.F.excAttr_ValueError.ga.bind (.ref x)]
  refine wpAny_bind (wpAny_pure ?_)
  refine wpAny_call (codeAny_call_builtin PySem.F.excAttr_ValueError.ga.plain
    PySem.F.entry_bexc_ga ?_)
  refine @PySem.W.check_slot (model prog w) _ _ ⟨hp, g, d, t + 1, os⟩ "BaseException.__getattribute__" "BaseException" "__getattribute__" (.ref x)
    [.str "__class__" t] [] _ (by decide +kernel) (by decide +kernel) sub (PySem.F.args_bexc_ga (.ref x) (.str "__class__" t)) ?_
  unfold Builtin.«object.__getattribute__»
  refine wpAny_bind (wpAny_of_eq (a := ((Value.ref x : Value), [Value.str "__class__" t]))
    (by first | rfl | (simp only [slotArgs]; rfl)) ?_)
  refine wpAny_bind (wpAny_pure (wpAny_bind (l0.at (wpAny_bind (l3.at ?_)))))
  refine wpAny_bind (wpAny_holding (wpAny_call
    (class_get (s := ⟨hp, g, d, t + 1, os⟩) (ox := ox) (od := od) X I T.ob ?_)))
  refine wpAny_pure ?_
  exact handed_on rfl (h _)
end
/-! ### the readings -/
section
variable {X : Cx} {e : Expr} {te : TE} {p : Pos}
/-- the object at a is an exception that is being made -/
def Exo (H : Hp) (a C : Addr) : Prop := H a = some (exo a C none) ∨ ∃ (d : Addr) (fs : List (Str × V)), H a = some (exo a C (some d)) ∧ H d = some (exd d fs)
theorem Exo.inst {P : Program} {w : World} {H : Hp} {h : Heap} {a C : Addr} (x : Exo H a C) (hok : HOk P w H h) : ∃ (ox : Obj) (od : Option Obj), InstAt h a ox C od := by
  rcases x with q | ⟨d, fs, q, q2⟩
  · obtain ⟨t1, ho⟩ := exo_at hok q
    exact ⟨_, none, ho, rfl, rfl, True.intro⟩
  · obtain ⟨t1, ho⟩ := exo_at hok q
    obtain ⟨mA, ⟨od, es, ep, h1, _⟩, _⟩ := exd_at hok q2
    exact ⟨_, some od, ho, rfl, rfl, h1⟩
theorem pe_cls (G : GsK X.K) (he : PE X e te) (hb : attributeBase e "__class__" X.env (eval e X.env) = eval e X.env := by rfl) : PE X (.Attribute e "__class__" p) (fun σ H Q => te σ H fun x H1 => ∃ a C : Addr, x = .ref a ∧ Exo H1 a C ∧ ClsE X.K C ∧ Q (.ref C) H1) := by
  refine ⟨fun pins s σ H Q I h => attr_of hb (thn (he.run pins s σ H _ I h) fun u s1 hh => ?_)⟩
  obtain ⟨x, H1, I1, rx, a, C, ex, xo, T, q⟩ := hh
  subst ex
  obtain rfl : u = Value.ref a := rx
  obtain ⟨ox, od, J⟩ := xo.inst I1.hok
  exact cls_get I1.kIn J T G fun u => ⟨.ref C, H1, I1.tok _, rfl, q⟩
theorem pe_name (he : PE X e te) (hb : attributeBase e "__name__" X.env (eval e X.env) = eval e X.env := by rfl) : PE X (.Attribute e "__name__" p) (fun σ H Q => te σ H fun x H1 => ∃ (C : Addr) (z : Str), x = .ref C ∧ NameC X.K C z ∧ Q (.str z) H1) := by
  refine ⟨fun pins s σ H Q I h => attr_of hb (thn (he.run pins s σ H _ I h) fun u s1 hh => ?_)⟩
  obtain ⟨x, H1, I1, rx, C, z, ex, N, q⟩ := hh
  subst ex
  obtain rfl : u = Value.ref C := rx
  exact name_get I1.kIn N fun tk u => ⟨.str z, H1, I1.tok _, ⟨tk, rfl⟩, q⟩
end
end FW
namespace FW
open PySem PySem.Spec PyProof.Rows L2
/-! ### a caught exception as one of the things that the heap is known to hold -/
def ExK (cls : Value) (d : Option Addr) (a : Addr) : HO := .ext fun h => ∃ (oe : Obj) (vs : Array Value), h.get? a = some oe ∧ Zc cls d oe ∧ oe.data = .fields vs
theorem exk_ok {P : Program} {w : World} {H : Hp} {h : Heap} {a : Addr} {cls : Value} {d : Option Addr} {oe : Obj} {vs : Array Value} (ha : h.get? a = some oe) (hz : Zc cls d oe) (hd : oe.data = .fields vs) : ObjOk P w H h a (ExK cls d a) :=
  ⟨⟨oe, vs, ha, hz, hd⟩, ⟨oe, ha⟩, fun _ _ ⟨o, v, q1, q2, q3⟩ st => ⟨o, v, st _ q1, q2, q3⟩⟩
theorem exk_at {P : Program} {w : World} {H : Hp} {h : Heap} {a : Addr} {cls : Value} {d : Option Addr} (ok : HOk P w H h) (e : H a = some (ExK cls d a)) : ∃ (oe : Obj) (vs : Array Value), h.get? a = some oe ∧ Zc cls d oe ∧ oe.data = .fields vs := by
  have z : ObjOk P w H h a (.ext fun h => ∃ (oe : Obj) (vs : Array Value), h.get? a = some oe ∧ Zc cls d oe ∧ oe.data = .fields vs) := ok a _ e
  exact z.1
section
variable {X : Cx} {pins : List (Addr × Obj)} {σ : L2.St} {H : Hp} {s : Shared}
theorem adopt {a : Addr} {cls : Value} {d : Option Addr} {oe : Obj} {vs : Array Value} (I : Inv X pins σ H s) (ha : s.heap.get? a = some oe) (hz : Zc cls d oe) (hd : oe.data = .fields vs) (na : H a = none) (nL : a ≠ X.env.locals)
    (n0 : X.s_0.heap.get? a = none) (np : ∀ p ∈ X.pn ++ pins, p.1 ≠ a) : Inv X pins σ (upd H a (ExK cls d a)) s where
  ok := I.ok
  os := I.os
  bare := I.bare
  base :=
    { keep := I.base.keep
      slot := I.base.slot
      free := fun b o e n hx => (upd_ne (fun z => by rw [z, n0] at e; cases e)).trans (I.base.free b o e n hx)
      there := I.base.there
      tups := fun b xs q => (upd_ne (ne_of_none (I.base.tups b xs q) na)).trans (I.base.tups b xs q)
      frzs := fun b o u q => (upd_ne (ne_of_none (I.base.frzs b o u q) na)).trans (I.base.frzs b o u q)
      tbls := fun b ps q => by
        obtain ⟨more, e⟩ := I.base.tbls b ps q
        exact ⟨more, (upd_ne (ne_of_none e na)).trans e⟩ }
  loc := I.loc
  cell := I.cell
  free := (upd_ne (Ne.symm nL)).trans I.free
  freeC := fun x c e => (upd_ne (fun z => by
    obtain ⟨v, o, ho, hc⟩ := I.cell x c e
    rw [z, ha] at ho
    cases ho
    rw [hd] at hc
    cases hc)).trans (I.freeC x c e)
  pin := fun p hp => by
    obtain ⟨q1, q2, q3, q4, q5⟩ := I.pin p hp
    exact ⟨q1, (upd_ne (np p hp)).trans q2, q3, q4, q5⟩
  hok := fun b o e => by
    by_cases hb : b = a
    · subst hb
      rw [upd_same] at e
      cases e
      exact exk_ok ha hz hd
    · rw [upd_ne hb] at e
      exact (I.hok b o e).stay (fun _ _ _ q => q) (fun c q => (upd_ne (ne_of_none q na)).trans q) fun c xs q => (upd_ne (ne_of_none q na)).trans q
  len := I.len
theorem in_suite {a : Addr} (I : Inv X pins σ H s) : Inv (X.suite a (X.pn ++ pins)) [] σ H s :=
  ⟨I.ok.suite _ _, I.os, I.bare, I.base, I.loc, I.cell, I.free, I.freeC, fun p hp => I.pin p ((List.append_nil (X.pn ++ pins)) ▸ hp), I.hok, I.len⟩
theorem of_suite {a : Addr} {pn' : List (Addr × Obj)} (I : Inv (X.suite a (X.pn ++ pins)) pn' σ H s) (ok : X.Ok) : Inv X pins σ H s :=
  ⟨ok, I.os, I.bare, I.base, I.loc, I.cell, I.free, I.freeC, fun p hp => I.pin p (List.mem_append_left _ hp), I.hok, I.len⟩
end
theorem flying_kept {B h h' : Heap} {l : List Env} {a : Addr} {Z : Obj → Prop} (x : HandSPX.FlyingZ B l a Z h) (k : ∀ b o, h.get? b = some o → h'.get? b = some o) : HandSPX.FlyingZ B l a Z h' := by
  obtain ⟨k1, k2, k3, oe, vs, T, oT, ts, h1, h2, h3, h4, h5, h6, h7, h8, h9⟩ := x
  exact ⟨fun b o e => k b o (k1 b o e), k2, k3.of_keeps fun b o e _ => ⟨o, k b o e, rfl⟩, oe, vs, T, oT, ts, k a _ h1, h2, h3, h4, h5, h6, k T _ h7, h8, h9⟩
/-- what 'except (x1, x2, x3) as n' wishes: it takes the exception; slot i is n's -/
def wIn (K : PySem.W.Frag) (m : Nat) (cs : List Value) (i : Nat) (ts : TS) (D : Ends) : WX := fun cls d σ H =>
  PySem.W.exmAny K cls cs = some true ∧ ∀ a, H a = none → σ.length = m → ts { nx := fun σ' H' => D.nx (σ'.set i none) H', rt := D.rt, bk := fun σ' H' => D.bk (σ'.set i none) H', ct := fun σ' H' => D.ct (σ'.set i none) H' } (σ.set i (some (.ref a))) (upd H a (ExK cls d a))
section
variable {X : Cx} {x1 x2 x3 n : Str} {C1 C2 C3 : Addr} {i : Nat} {body suite : List Stmt} {b₀ : Stmt} {q1 q2 q3 qt pos pos' : Pos} {tb : WX → TS} {ts : TS}
theorem ps_try3 {cx} (hs : X.stack = X.env :: X.outer) (hf : X.env.frame = some X.env.locals) (hex : X.ex = []) (hN : X.N.Nodup) (hi : X.N[i]? = some n) (hln : X.env.kindOf n = some .local)
    (g1 : Gl X x1) (m1 : X.mg x1 = some (.ref C1)) (g2 : Gl X x2) (m2 : X.mg x2 = some (.ref C2)) (g3 : Gl X x3) (m3 : X.mg x3 = some (.ref C3))
    (hb : ∀ (W : WX) (pn : List (Addr × Obj)) (xe : Value → Shared → Prop), Takes (X.tr pn xe) W → PassesOwn (model X.prog X.w) X.A X.env xe → PSs (X.tr pn xe) body (tb W))
    (hsu : ∀ (a : Addr) (pn : List (Addr × Obj)), PSs (X.suite a pn) (b₀ :: suite) ts)
    (d1 : (x1 == ("__debug__" : Str)) = false := by decide) (d2 : (x2 == ("__debug__" : Str)) = false := by decide) (d3 : (x3 == ("__debug__" : Str)) = false := by decide) :
    PS X (.Try body [.ExceptHandler (some (.Tuple [.Name x1 q1, .Name x2 q2, .Name x3 q3] cx qt)) (some n) (b₀ :: suite) pos'] [] [] pos) (fun D σ H => tb (wIn X.K X.N.length [.ref C1, .ref C2, .ref C3] i ts D) D σ H) := by
  refine ⟨fun pins s σ H D I h => wpAny_Try_except ?_⟩
  have ok := I.ok
  have fr : X.A.frames = some (X.env :: X.outer) := ok.frames.trans (congrArg some hs)
  have hl : Loc X.env.scope n := .inl hln
  generalize hhd : [ExceptHandler.ExceptHandler (some (.Tuple [.Name x1 q1, .Name x2 q2, .Name x3 q3] cx qt)) (some n) (b₀ :: suite) pos'] = hd
  let xe' : Value → Shared → Prop := fun e s1 => wpAny (model X.prog X.w) X.A (noteFrame e X.env)
    (fun _ s2 => wpAny (model X.prog X.w) X.A (setFlight e none)
      (fun _ s3 => wpAny (model X.prog X.w) X.A (handleBy e X.env hd) (SP X pins D) X.xe s3) X.xe s2) X.xe s1
  have caught : Takes (X.tr (X.pn ++ pins) xe') (wIn X.K X.N.length [.ref C1, .ref C2, .ref C3] i ts D) := by
    rintro u s' ⟨a, B, sI, pins', σ', H', cls, d, rfl, J', nb, up, sky, na, os, ag, w1, w2⟩
    have J : Inv X pins σ' H' sI := J'.ofTry ok
    have sk : Sky B (X.env :: X.outer) a (Zc cls d) X.env.locals s'.heap := hs ▸ sky
    show wpAny (model X.prog X.w) X.A (noteFrame (.ref a) X.env) _ _ _
    refine Sky.land Zc.steady fr hf sk fun h3 fl up3 => ?_
    have J3 : Inv X pins σ' H' { s' with heap := h3 } := J.landed nb fl.1 (up.trans up3) os ag
    obtain ⟨oe, vs, he, hz, hdt⟩ := fl.there
    have out : a ∉ frs (X.env :: X.outer) := fun hm => by
      obtain ⟨_, o, e', hn⟩ := fl.2.2.1.mem hm
      rw [he] at e'
      cases e'
      exact hn _ hdt
    have nL : a ≠ X.env.locals := fun z => out (List.mem_filterMap.mpr ⟨X.env, List.mem_cons_self, hf.trans (congrArg some z.symm)⟩)
    have nB : B.get? a = none := fl.2.1
    have notI : ∀ o, sI.heap.get? a ≠ some o := fun o e => by
      rw [nb a o e (hs ▸ out)] at nB
      cases nB
    have n0 : X.s_0.heap.get? a = none := by
      cases e : X.s_0.heap.get? a with
      | none => rfl
      | some o =>
        obtain ⟨o', e'⟩ := J.base.there a o e (by rw [hex]; exact List.not_mem_nil)
        exact absurd e' (notI o')
    have np : ∀ p ∈ X.pn ++ pins, p.1 ≠ a := fun p hp z => notI p.2 (z ▸ (J.pin p hp).1)
    subst hhd
    refine wpAny_handleBy_cons (codeAny_handlers_test ?_) (fun q => by cases q)
    have S3 : Inv (X.suite a (X.pn ++ pins)) [] σ' H' { s' with heap := h3 } := in_suite J3
    refine wpAny_Tuple_spliced (Calls.spliced_cons (ld_glob (X := X.suite a (X.pn ++ pins)) S3 g1 m1 ?_ d1))
    refine Calls.spliced_cons (ld_glob (X := X.suite a (X.pn ++ pins)) S3 g2 m2 ?_ d2)
    refine Calls.spliced_cons (ld_glob (X := X.suite a (X.pn ++ pins)) S3 g3 m3 ?_ d3)
    refine Calls.spliced_nil ⟨(show 3 ≤ sizeLine by decide), ?_⟩
    have kp : ∀ b o, h3.get? b = some o → (h3.push { cls := .type "tuple", data := .seq [Value.ref C1, .ref C2, .ref C3].toArray }).get? b = some o := fun b o e => Heap.get?_push_of_some _ e
    have tp := Heap.get?_push_size h3 (o := { cls := .type "tuple", data := .seq [Value.ref C1, .ref C2, .ref C3].toArray }) rfl
    have fl2 := flying_kept fl kp
    generalize (h3.push { cls := .type "tuple", data := .seq [Value.ref C1, .ref C2, .ref C3].toArray }) = h4 at kp tp fl2
    have up4 : h3.UpToSlots h4 := .of_keeps kp
    have ty : PySem.W.Looks (model X.prog X.w) h4 (typeOf (.ref a)) cls := fun _ _ _ _ k q => wpAny_typeOf_ref (k _ _ (kp _ _ he)) (by rw [hz.1]; exact q)
    refine (PySem.W.exm_tup3 (M := model X.prog X.w) (J3.kIn.keeps kp) ty tp w1).here ?_
    refine codeAny_handlers_suite_as ?_
    refine HandSPX.lands_againZ fl2 fun h5 fl5 up5 => ?_
    have J5 : Inv X pins σ' H' { s' with heap := h5 } := J.landed nb fl5.1 (((up.trans up3).trans up4).trans up5) os ag
    obtain ⟨oe5, vs5, he5, hz5, hd5⟩ := fl5.there
    have S5 : Inv (X.suite a (X.pn ++ pins)) [] σ' (upd H' a (ExK cls d a)) { s' with heap := h5 } := in_suite (adopt J5 he5 hz5 hd5 na nL n0 np)
    refine store_ok (X := X.suite a (X.pn ++ pins)) (v := .ref a) S5 hN hi hl rfl (fun s6 S6 => ?_) (.inr hln)
    refine wpAny_mono ((hsu a (X.pn ++ pins)).run [] s6 _ _ _ S6 (w2 a na J.len)) (fun f s7 hsp => ?_) (fun _ _ z => False.elim z)
    have gone : ∀ {σ7 : L2.St} {H7 : Hp} {Q : Shared → Prop}, Inv (X.suite a (X.pn ++ pins)) [] σ7 H7 s7 → (∀ s8, Inv X pins (σ7.set i none) H7 s8 → Q s8) →
        wpAny (model X.prog X.w) X.A (do bindName X.env n .none; unbindBehindTheSuite X.env n pos') (fun _ s8 => Q s8) X.xe s7 := fun S7 hq => gone_ok (of_suite S7 ok) hN hi hln hq
    cases f with
    | next =>
      obtain ⟨σ7, H7, S7, q7⟩ := hsp
      exact gone S7 fun _ J8 => ⟨_, _, J8, q7⟩
    | brk =>
      obtain ⟨σ7, H7, S7, q7⟩ := hsp
      exact gone S7 fun _ J8 => ⟨_, _, J8, q7⟩
    | cont =>
      obtain ⟨σ7, H7, S7, q7⟩ := hsp
      exact gone S7 fun _ J8 => ⟨_, _, J8, q7⟩
    | ret u =>
      obtain ⟨v7, σ7, H7, S7, r7, q7⟩ := hsp
      exact gone S7 fun _ J8 => ⟨_, _, _, J8, r7, q7⟩
  refine wpAny_mono ((hb _ (X.pn ++ pins) xe' caught PassesOwn.looking).run [] s σ H D (I.toTry _) h) (fun f s1 hsp => ?_) (fun _ _ z => z)
  cases f with
  | next =>
    obtain ⟨σ2, H2, J2, q⟩ := hsp
    exact wpAny_execs_nil ⟨σ2, H2, J2.ofTry ok, q⟩
  | brk =>
    obtain ⟨σ2, H2, J2, q⟩ := hsp
    exact ⟨σ2, H2, J2.ofTry ok, q⟩
  | cont =>
    obtain ⟨σ2, H2, J2, q⟩ := hsp
    exact ⟨σ2, H2, J2.ofTry ok, q⟩
  | ret u =>
    obtain ⟨v, σ2, H2, J2, r, q⟩ := hsp
    exact ⟨v, σ2, H2, J2.ofTry ok, r, q⟩
end
/-! ### a field of such a thing -/
def tXk (K : PySem.W.Frag) (f : Str) (te : TE) : TE := fun σ H Q => te σ H fun x H1 => ∃ (a C dd : Addr) (fs : List (Str × V)) (v : V), x = .ref a ∧ H1 a = some (ExK (.ref C) (some dd) a) ∧ H1 dd = some (.xd fs) ∧
  XfC K C ∧ PySem.W.findIn K (.ref C) f = some none ∧ fs.lookup f = some v ∧ Q v H1
theorem pe_xk {X : Cx} {e : Expr} {te : TE} {pos : Pos} {f : Str} (he : PE X e te) (hb : attributeBase e f X.env (eval e X.env) = eval e X.env := by rfl) : PE X (.Attribute e f pos) (tXk X.K f te) := by
  refine ⟨fun pins s σ H Q I h => attr_of hb (thn (he.run pins s σ H _ I h) fun u s1 hh => ?_)⟩
  obtain ⟨x, H1, I1, rx, a, C, dd, fs, v, ex, ea, ed, T, hno, l, q⟩ := hh
  subst ex
  obtain rfl : u = Value.ref a := rx
  obtain ⟨oe, vs, ha, hz, hd⟩ := exk_at I1.hok ea
  have hx : ObjOk X.prog X.w H1 s1.heap dd (.xd fs) := I1.hok dd _ ed
  obtain ⟨mA, hns, hr⟩ := hx
  obtain ⟨od, ho, hl⟩ := lookIn_ns hns
  obtain ⟨u, hu, ru⟩ := RelO.some_of (v := v) (o := mA f) (by rw [← l]; exact hr f)
  have J : PySem.W.InstAt s1.heap a oe C (some od) := ⟨ha, hz.1, (by unfold PySem.W.notCls; rw [hd] <;> rfl), (by rw [hz.2]; exact ho)⟩
  exact HandSPX.exc_get I1.kIn J T.ga T.gg T.exC (PySem.W.findObj_own T.hdC hno rfl ((hl f).trans (congrArg some hu))) (handed_of ru)
    ⟨v, H1, I1.tok _, ru, q⟩
end FW
namespace FW
open PySem PySem.Spec PyProof.Rows L2
/-! ### defs that are called while an exception is handled; they raise nothing -/
structure FnW (P : Program) (w : World) (K : PySem.W.Frag) (mg : Str → Option Value) (base : Heap) (k : Nat) (f : Addr) (fd : FuncData) (ps : List Str) (sp : Sp) : Prop where
  len : ∀ vs H Q E, sp vs H Q E → vs.length = ps.length
  run : ∀ (A : Around) (outer : List Env) (s : Shared) (H : Hp) (args : Args) (us : List Value) (vs : List V) (Q : VK), L2H.RoomH k A → Env0 P w K mg base A outer s H → BindsTo s fd args (ps.zip us) → Vals vs us → sp vs H Q E0 →
    codeAny (model P w) A (.call (.ref f) args) (CR L2.CX0 outer P w H s Q E0) s
section
variable {P : Program} {w : World} {K : PySem.W.Frag} {mg : Str → Option Value} {base : Heap}
theorem okW {x qual : Str} {st : Stmt} {f : Addr} {fd : FuncData} {N ps : List Str} {k : Nat} {sp : Sp} (F : Fun K x qual st f fd) (S : FnScope N ps (defScope st)) (len : ∀ vs H Q E, sp vs H Q E → vs.length = ps.length)
    (hbody : ∀ (cdv : Value) (A : Around) (outer : List Env) (s : Shared) (H : Hp) (vs : List V) (Q : VK) (p : Addr × Obj), L2H.RoomH k (A.deeper (envOfC qual (defScope st) s.heap.objs.size f cdv)) → sp vs H Q E0 →
      ∃ t, PSs (L2H.cxH L2.CX0 P w K mg base N qual (defScope st) f cdv A outer s H E0 p).nox (defBody st) t ∧ t { nx := fun _ H' => Q .non H', rt := Q } (L2.start N vs) H) : FnW P w K mg base (k + 1) f fd ps sp := by
  obtain ⟨oc, od, kV, doc, pm, an, cdv, ct, osl, rfl, lk, hcd⟩ := F.ex
  refine ⟨len, fun A outer s H args us vs Q hr e0 hb r hsp => ?_⟩
  have there : ∀ b o, K.lookup b = some o → s.heap.get? b = some o ∧ H b = none := fun b o e => e0.bs b o (e0.mod.kin b o e)
  obtain ⟨fat, fnn⟩ := there _ _ lk
  have nfr : f ∉ frs outer := fun hm => by
    have z := (e0.funs.mem hm).1
    rw [e0.mod.kin _ _ lk] at z
    cases z
  have pin : L2H.PinOk outer H s (f, _) := ⟨fat, fnn, nfr, fun v z => by cases z⟩
  have KX : K.In s.heap := fun b o e => (there b o e).1
  have ks : ∀ y ∈ ps.zip us, (defScope st).names.lookup y.1 = some .local ∨ ((defScope st).names.lookup y.1 = some .cell ∧ ((cellsFrom (s.heap.objs.size + 1) (defScope st).names []).lookup y.1).isSome = true) := by
    rintro ⟨n, v⟩ hy
    exact (S.par n (List.of_mem_zip hy).1).imp id fun q => ⟨q, PySem.W.cellsFrom_some _ _ _ (.inl q)⟩
  refine codeAny_call_function hr.depth fat rfl S.co S.gen rfl (PySem.W.codeRec_of KX hcd) (hb _ _ _ _ ?_)
  refine wpAny_newFunctionEnv_cells S.kind ks fun env he s1 x => ?_
  subst he
  refine ⟨(e0.mod.nolimit.keeps fun b o e => (e0.bs b o e).1).keeps x.toInCall.keep, codeAny_func ?_⟩
  obtain ⟨t, ht, hq⟩ := hbody cdv A outer s H vs Q _ (hr.deeper _) hsp
  have I := L2H.inv_startH (CX := L2.CX0) (E := E0) (base := base) (mg := mg) (w := w) (P := P) S pin e0 (len _ _ _ _ hsp) r x
  refine wpAny_mono (ht.nox.run [] s1 _ H _ I hq) (fun fl s' hs => ?_) (fun _ _ hs => hs)
  cases fl with
  | ret u =>
    obtain ⟨v, σ', H', J, rv, q⟩ := hs
    exact ⟨v, H', J.os, J.bare, J.base, J.hok, rv, q⟩
  | next =>
    obtain ⟨σ', H', J, q⟩ := hs
    exact ⟨V.non, H', J.os, J.bare, J.base, J.hok, rfl, q⟩
  | brk =>
    obtain ⟨_, _, _, q⟩ := hs
    exact q.elim
  | cont =>
    obtain ⟨_, _, _, q⟩ := hs
    exact q.elim
end
section
variable {X : Cx} {k : Nat} {f : Addr} {fd : FuncData} {ps : List Str} {sp : Sp} {x : Str} {p pos : Pos} {e : Expr} {es : List Expr} {t : TA}
theorem pe_callW (F : FnW X.prog X.w X.K X.mg X.base k f fd ps sp) (hr : L2H.RoomH k X.A) (hg : Gl X x) (hm : X.mg x = some (.ref f)) (hk : PySem.W.keepIn X.K (.ref f) = true) (hb : Binds X.K fd ps [])
    (ha : PA X (e :: es) t) (hdb : (x == ("__debug__" : Str)) = false := by decide) (he : starEach (e :: es) X.env = (false, eval e X.env) :: starEach es X.env := by rfl)
    (hpl : (backTo pos (starEach es X.env)).any (·.1) = false := by rfl) : PE X (.Call (.Name x p) (e :: es) [] pos) (fun σ H Q => t σ H fun vs H1 => sp vs H1 Q E0) := by
  refine ⟨fun pins s σ H Q I h => wpAny_Call_Name_kw (ld_glob I hg hm ?_ hdb)⟩
  refine PySem.W.callWith_K (h₀ := X.base) I.ok.mod.kin hk (thn (ha.run pos pins s σ H _ I h) ?_) he hpl
  rintro us s1 ⟨vs, H1, I1, r, q⟩
  have hl : us.length = ps.length := r.length.symm.trans (F.len _ _ _ _ q)
  have hb' : BindsTo s1 fd ⟨us, []⟩ (ps.zip us) := by
    have z := hb s1 us I1.kIn (by rw [List.append_nil]; exact hl)
    rwa [List.append_nil] at z
  refine ⟨I1.kIn, wpAny_call (codeAny_mono (F.run X.A X.stack s1 H1 ⟨us, []⟩ us vs Q hr I1.env0 hb' r q) fun r s' hq => ?_)⟩
  cases r with
  | error e => exact hq.elim
  | ok fl =>
    cases fl with
    | ret u => exact I1.after hq
    | next => exact hq.elim
    | brk => exact hq.elim
    | cont => exact hq.elim
end
end FW
namespace L2
open PySem PySem.Spec PySem.Calls PyProof.Rows
/-! ### a text unpacked into names -/
abbrev sgn (c : Nat) : V := .str ⟨#[c]⟩
section
variable {prog : Program} {w : World} {A : Around} {E : Value → Shared → Prop}
theorem draw_str {it : Addr} {x : Str} {t : Tok} {ty : String} (hty : ty = "str_ascii_iterator" ∨ ty = "str_iterator") : ∀ (n i : Nat) (s : Shared) (Q : List Value → Shared → Prop), s.heap.IsStrIter it ty x t i → i + n ≤ x.cps.size →
    (∀ h' tk us, h'.IsStrIter it ty x t (i + n) → Heap.SameBut it s.heap h' → Vals (((x.cps.toList.drop i).take n).map sgn) us → Q us { s with heap := h', toks := tk }) → wpAny (model prog w) A (draw (.ref it) n) Q E s
  | 0, i, s, Q, hit, _, hQ => by
    show wpAny _ _ (pure []) Q E s
    exact wpAny_pure (hQ s.heap s.toks [] hit (Heap.SameBut.refl ..) .nil)
  | n + 1, i, s, Q, hit, hle, hQ => by
    have hlt : i < x.cps.size := by omega
    show wpAny _ _ (pyNext (.ref it) >>= _) Q E s
    have hx : x.cps[i]? = some x.cps[i] := Array.getElem?_eq_getElem hlt
    have hd : x.cps.toList.drop i = x.cps[i] :: x.cps.toList.drop (i + 1) := by
      rw [List.drop_eq_getElem_cons (by simpa using hlt)]
      simp
    have go : ∀ h₁, h₁.IsStrIter it ty x t (i + 1) → Heap.SameBut it s.heap h₁ → wpAny (model prog w) A (match (some (.str ⟨#[x.cps[i]]⟩ s.toks) : Option Value) with
        | none => pure []
        | some v => do return v :: (← holding [v] (draw (.ref it) n))) Q E { s with heap := h₁, toks := s.toks + 1 } := fun h₁ hit₁ hs₁ => by
      refine wpAny_bind (wpAny_holding (draw_str hty n (i + 1) _ _ hit₁ (by omega) fun h₂ tk us hit₂ hs₂ r => wpAny_pure ?_))
      refine hQ h₂ tk _ (by rw [show i + (n + 1) = i + 1 + n by omega]; exact hit₂) (hs₁.trans hs₂) ?_
      rw [hd, List.take_succ_cons, List.map_cons]
      exact .cons ⟨_, rfl⟩ r
    rcases hty with e | e
    · subst e
      exact wpAny_bind (wpAny_pyNext_ascii_item hit hx fun h₁ hit₁ hs₁ => go h₁ hit₁ hs₁)
    · subst e
      exact wpAny_bind (wpAny_pyNext_wide_item hit hx fun h₁ hit₁ hs₁ => go h₁ hit₁ hs₁)
theorem items_str {x : Str} {t : Tok} {s : Shared} {Q : List Value → Shared → Prop} (hh : A.handled = none)
    (hQ : ∀ h' tk us, Heap.ExtBut s.heap.objs.size s.heap h' → Vals (x.cps.toList.map sgn) us → Q us { s with heap := h', toks := tk }) : wpAny (model prog w) A (unpackItems (.str x t) x.cps.size none) Q E s := by
  unfold unpackItems
  refine wpAny_bind ?_
  unfold notIterableAtAll
  refine wpAny_bind (wpAny_specialOf (typeIs_str s x t) F.slot_str_iter.lookup ?_)
  refine wpAny_pure ?_
  simp only [Bool.false_eq_true, if_false]
  have go : ∀ (ty : String), ty = "str_ascii_iterator" ∨ ty = "str_iterator" → ∀ s₁ : Shared, s₁ = { s with heap := s.heap.push { cls := .type ty, data := .fields #[.str x t, .int 0 0] } } → 
      wpAny (model prog w) A (do
        let items ← holding [.ref s.heap.objs.size] (draw (.ref s.heap.objs.size) x.cps.size)
        if items.length < x.cps.size then
          rule "unpack.too-few"; raiseError "ValueError" s!"not enough values to unpack (expected {x.cps.size}, got {items.length})"
        if (← holding items (pyNext (.ref s.heap.objs.size))).isSome then
          rule "unpack.too-many"; raiseError "ValueError" s!"too many values to unpack (expected {x.cps.size})"
        return items) Q E s₁ := fun ty hty s₁ hs => by
    subst hs
    have hit0 : (s.heap.push { cls := .type ty, data := .fields #[.str x t, .int 0 0] }).IsStrIter s.heap.objs.size ty x t 0 := ⟨_, Heap.get?_push_size _ rfl, rfl, rfl⟩
    refine wpAny_bind (wpAny_holding (draw_str hty x.cps.size 0 _ _ hit0 (by omega) fun h₁ tk us hit₁ hs₁ r => ?_))
    have hall : (x.cps.toList.drop 0).take x.cps.size = x.cps.toList := by
      rw [List.drop_zero]; exact List.take_of_length_le (by simp)
    rw [hall] at r
    have hl : us.length = x.cps.size := by rw [← r.length, List.length_map]; simp
    rw [if_neg (by omega)]
    have fin : ∀ h₂, Heap.ExtBut s.heap.objs.size h₁ h₂ → Heap.ExtBut s.heap.objs.size s.heap h₂ := fun h₂ he₂ b o hb e => he₂ b o hb (hs₁.extBut b o hb (Heap.get?_push_of_some _ e))
    have hend : x.cps[0 + x.cps.size]? = none := Array.getElem?_eq_none (by omega)
    rcases hty with e | e
    · subst e
      refine wpAny_bind (wpAny_holding (wpAny_pyNext_ascii_end (s := { s with heap := h₁, toks := tk }) hh hit₁ hend fun h₂ he₂ => ?_))
      simp only [Option.isSome_none, Bool.false_eq_true, if_false]
      exact wpAny_pure (hQ h₂ tk us (fin h₂ he₂) r)
    · subst e
      refine wpAny_bind (wpAny_holding (wpAny_pyNext_wide_end (s := { s with heap := h₁, toks := tk }) hh hit₁ hend fun h₂ he₂ => ?_))
      simp only [Option.isSome_none, Bool.false_eq_true, if_false]
      exact wpAny_pure (hQ h₂ tk us (fin h₂ he₂) r)
  cases ha : x.cps.all (· < 128)
  · exact wpAny_bind (wpAny_holding (wpAny_pyIter_wide ha (go _ (.inr rfl) _ rfl)))
  · exact wpAny_bind (wpAny_holding (wpAny_pyIter_ascii ha (go _ (.inl rfl) _ rfl)))
end
section
variable {X : Cx} {pos : Pos}
/-- (a, b, ..) = a text of that many signs -/
def gUstr (n : Nat) (t : TGs) : TG := fun v σ H Q => ∃ z : Str, v = .str z ∧ z.cps.size = n ∧ t (z.cps.toList.map sgn) σ H Q
theorem pg_ustr {es : List Expr} {k : Nat} {t : TGs} {n : Nat} (hc : X.calm = true) (h : PGs X es t)
    (hn : (assignEach es X.env).length = n := by rfl) (hst : (assignEach es X.env).findIdx? (·.1) = none := by rfl) : PG X (.Tuple es k pos) (gUstr n t) := by
  refine ⟨fun pins s σ H v u Q I r hw => ?_⟩
  obtain ⟨z, e1, hz, hw⟩ := hw
  subst e1
  obtain ⟨tk0, rfl⟩ := r
  have hn' : (assignEach es X.env).length = z.cps.size := hn.trans hz.symm
  rw [PyProof.Rows.assign_Tuple]
  refine wpAny_bind (wpAny_standAt ?_)
  unfold unpack
  rw [hn', hst]
  refine wpAny_bind (wpAny_holding (items_str (I.ok.hd hc) fun h' tk us hx r => ?_))
  have I1 : Inv X pins σ H { s with heap := h', toks := tk } := I.kept (t' := tk) fun b o e => hx b o (Nat.ne_of_lt (Heap.lt_size e)) e
  exact h.run pins _ σ H _ us Q I1 r hw
end
/-! ### a call by keywords alone -/
section
variable {X : Cx} {CX : CXT} {k : Nat} {f : Addr} {fd : FuncData} {ps ks : List Str} {sp : Sp} {E : XK} {x : Str} {p pos kpos : Pos} {e : Expr} {kws : List Keyword} {tk : TA} {nm : Option Str} {g : List Value → List Value → List Value} {gV : List V → List V → List V}
theorem pe_callK0 (F : FnOk X.prog X.w X.K X.mg X.base CX k f fd ps sp) (hr : Room k X.A) (hg : Gl X x) (hm : X.mg x = some (.ref f)) (hk : PySem.W.keepIn X.K (.ref f) = true) (hb : KBinds X.K fd ps ks g gV) (hx : Passes CX X E)
    (hkw : PK X kws tk) (hall : (backToKw pos (keywordEach kws X.env)).all (·.1.isSome) = true := by rfl) (hks : (backToKw pos (keywordEach kws X.env)).filterMap (·.1) = ks := by rfl)
    (hdb : (x == ("__debug__" : Str)) = false := by decide)
    (hpl : ((backTo pos (starEach [] X.env)).any (·.1) || (backToKw pos (keywordEach kws X.env)).any (·.1.isNone)) = false := by rfl) :
    PE X (.Call (.Name x p) [] kws pos) (tCallK sp gV E tNil tk) := by
  refine ⟨fun pins s σ H Q I h => ?_⟩
  refine wpAny_Call_Name_kw (ld_glob I hg hm ?_ hdb)
  refine PySem.W.callWith_KW0 (h₀ := X.base) I.ok.mod.kin hk hall (thn (hkw.run pos pins s σ H _ I h) fun ws s2 ⟨zs, H2, I2, rz, q2⟩ => ⟨I2.kIn, ?_⟩) hpl
  rw [hks]
  exact run_fnk F hr hb hx I2 .nil rz q2
end
/-! ### a def of the module, by its name -/
structure Cal (P : Program) (w : World) (K : PySem.W.Frag) (mg : Str → Option Value) (base : Heap) (CX : CXT) (k : Nat) (x : Str) (st : Stmt) (ps : List Str) (sp : Sp) : Prop where
  ex : ∃ (f : Addr) (fd : FuncData), FnOk P w K mg base CX k f fd ps sp ∧ mg x = some (.ref f) ∧ Fun K x x st f fd ∧ Binds K fd ps []
/-- how a call with keywords binds, for every such def's data -/
def KB (K : PySem.W.Frag) (x : Str) (st : Stmt) (ps ks : List Str) (g : List Value → List Value → List Value) (gV : List V → List V → List V) : Prop := ∀ (f : Addr) (fd : FuncData), Fun K x x st f fd → KBinds K fd ps ks g gV
section
variable {X : Cx} {CX : CXT} {k j : Nat} {x : Str} {st : Stmt} {ps ks : List Str} {sp : Sp} {E : XK} {p pos : Pos} {e : Expr} {es : List Expr} {kws : List Keyword} {t tk : TA} {g : List Value → List Value → List Value} {gV : List V → List V → List V}
theorem pe_cx (c : Cal X.prog X.w X.K X.mg X.base CX k x st ps sp) (hr : Room j X.A) (hk : k ≤ j) (hg : Gl X x) (hx : Passes CX X E) (ha : PA X (e :: es) t)
    (hdb : (x == ("__debug__" : Str)) = false := by decide) (he : starEach (e :: es) X.env = (false, eval e X.env) :: starEach es X.env := by rfl) (hpl : (backTo pos (starEach es X.env)).any (·.1) = false := by rfl) :
    PE X (.Call (.Name x p) (e :: es) [] pos) (tCall sp [] E t) := by
  obtain ⟨f, fd, F, hm, fn, b⟩ := c.ex
  exact pe_call F (hr.mono hk) hg hm fn.kp b .nil hx ha hdb he hpl
theorem pe_cx0 (c : Cal X.prog X.w X.K X.mg X.base CX k x st ps sp) (hr : Room j X.A) (hk : k ≤ j) (hg : Gl X x) (hx : Passes CX X E)
    (hdb : (x == ("__debug__" : Str)) = false := by decide) : PE X (.Call (.Name x p) [] [] pos) (tCall sp [] E tNil) := by
  obtain ⟨f, fd, F, hm, fn, b⟩ := c.ex
  exact pe_call0 F (hr.mono hk) hg hm fn.kp b .nil hx hdb
theorem pe_c (c : Cal X.prog X.w X.K X.mg X.base CX0 k x st ps sp) (hr : Room j X.A) (hk : k ≤ j) (hg : Gl X x) (ha : PA X (e :: es) t)
    (hdb : (x == ("__debug__" : Str)) = false := by decide) (he : starEach (e :: es) X.env = (false, eval e X.env) :: starEach es X.env := by rfl) (hpl : (backTo pos (starEach es X.env)).any (·.1) = false := by rfl) :
    PE X (.Call (.Name x p) (e :: es) [] pos) (tCall sp [] E0 t) := pe_cx c hr hk hg pass0 ha hdb he hpl
theorem pe_ck (c : Cal X.prog X.w X.K X.mg X.base CX0 k x st ps sp) (b : KB X.K x st ps ks g gV) (hr : Room j X.A) (hk : k ≤ j) (hg : Gl X x) (ha : PA X (e :: es) t) (hkw : PK X kws tk)
    (hall : (backToKw pos (keywordEach kws X.env)).all (·.1.isSome) = true := by rfl) (hks : (backToKw pos (keywordEach kws X.env)).filterMap (·.1) = ks := by rfl)
    (hdb : (x == ("__debug__" : Str)) = false := by decide) (he : starEach (e :: es) X.env = (false, eval e X.env) :: starEach es X.env := by rfl)
    (hpl : ((backTo pos (starEach (e :: es) X.env)).any (·.1) || (backToKw pos (keywordEach kws X.env)).any (·.1.isNone)) = false := by rfl) :
    PE X (.Call (.Name x p) (e :: es) kws pos) (tCallK sp gV E0 t tk) := by
  obtain ⟨f, fd, F, hm, fn, _⟩ := c.ex
  exact pe_callK F (hr.mono hk) hg hm fn.kp (b f fd fn) pass0 ha hkw hall hks hdb he hpl
theorem pe_ck0 (c : Cal X.prog X.w X.K X.mg X.base CX0 k x st ps sp) (b : KB X.K x st ps ks g gV) (hr : Room j X.A) (hk : k ≤ j) (hg : Gl X x) (hkw : PK X kws tk)
    (hall : (backToKw pos (keywordEach kws X.env)).all (·.1.isSome) = true := by rfl) (hks : (backToKw pos (keywordEach kws X.env)).filterMap (·.1) = ks := by rfl)
    (hdb : (x == ("__debug__" : Str)) = false := by decide) 
    (hpl : ((backTo pos (starEach [] X.env)).any (·.1) || (backToKw pos (keywordEach kws X.env)).any (·.1.isNone)) = false := by rfl) :
    PE X (.Call (.Name x p) [] kws pos) (tCallK sp gV E0 tNil tk) := by
  obtain ⟨f, fd, F, hm, fn, _⟩ := c.ex
  exact pe_callK0 F (hr.mono hk) hg hm fn.kp (b f fd fn) pass0 hkw hall hks hdb hpl
end
/-! ### heaps -/
theorem same_upd {H : Hp} {p : Addr} {o : HO} (h : H p = none) : Same H (upd H p o) := fun b x e => by
  rw [upd_ne (ne_of_none e h)]
  exact e
/-- all that was tracked but what stands at b -/
def But (b : Addr) (H H' : Hp) : Prop := ∀ a o, a ≠ b → H a = some o → H' a = some o
theorem But.refl (b : Addr) (H : Hp) : But b H H := fun _ _ _ h => h
theorem But.trans {b : Addr} {H H1 H2 : Hp} (x : But b H H1) (y : But b H1 H2) : But b H H2 := fun a o n h => y a o n (x a o n h)
theorem Same.but {b : Addr} {H H' : Hp} (x : Same H H') : But b H H' := fun a o _ h => x a o h
theorem But.seq {K : PySem.W.Frag} {b a : Addr} {H H' : Hp} {xs : List V} (e : But b H H') (n : a ≠ b) (h : SqL K H a xs) : SqL K H' a xs := by
  rcases h with (h | ⟨o, h⟩) | h
  · exact .inl (.inl (e _ _ n h))
  · exact .inl (.inr ⟨o, e _ _ n h⟩)
  · exact .inr h
theorem But.upd {b : Addr} {H0 H : Hp} {o : HO} (s : But b H0 H) : But b H0 (upd H b o) := fun a x n e => by
  rw [upd_ne n]
  exact s a x n e
theorem Same.tup {K : PySem.W.Frag} {a : Addr} {H H' : Hp} {xs : List V} (e : Same H H') (h : SqT K H a xs) : SqT K H' a xs := by
  rcases h with (h | ⟨o, h⟩) | h
  · exact .inl (.inl (e _ _ h))
  · exact .inl (.inr ⟨o, e _ _ h⟩)
  · exact .inr h
theorem But.tup {K : PySem.W.Frag} {b a : Addr} {H H' : Hp} {xs : List V} (e : But b H H') (n : a ≠ b) (h : SqT K H a xs) : SqT K H' a xs := by
  rcases h with (h | ⟨o, h⟩) | h
  · exact .inl (.inl (e _ _ n h))
  · exact .inl (.inr ⟨o, e _ _ n h⟩)
  · exact .inr h
end L2
namespace L2
open PySem PySem.Spec PySem.Calls PyProof.Rows
/-! ### zip of lists, tuples and texts in any mix -/
/-- what such a thing is: a list or a tuple at an address, a text -/
inductive SK where
  | l (a : Addr) | t (a : Addr) | s (x : Str) (k : Tok)
def SK.iter : SK → Addr → Nat → Heap → Prop
  | .l a, it, i, h => h.IsListIter it a i
  | .t a, it, i, h => h.IsTupleIter it a i
  | .s x k, it, i, h => h.IsStrIter it (strIterType x) x k i
def SK.at : SK → Addr → Prop
  | .l a, c => c = a
  | .t a, c => c = a
  | .s _ _, _ => False
def SK.val : SK → V
  | .l a => .ref a
  | .t a => .ref a
  | .s x _ => .str x
/-- its items, by the abstract heap -/
inductive Src (K : PySem.W.Frag) (H : Hp) : V → List V → Prop where
  | l {a : Addr} {xs : List V} (h : SqL K H a xs) : Src K H (.ref a) xs
  | t {a : Addr} {xs : List V} (h : SqT K H a xs) : Src K H (.ref a) xs
  | s {x : Str} {xs : List V} (h : xs = x.cps.toList.map sgn) : Src K H (.str x) xs
/-- .. of a known kind -/
def SK.src (K : PySem.W.Frag) (H : Hp) : SK → List V → Prop
  | .l a, xs => SqL K H a xs
  | .t a, xs => SqT K H a xs
  | .s x _, xs => xs = x.cps.toList.map sgn
def SK.obj : SK → Obj
  | .l a => { cls := .type "list_iterator", data := .fields #[.ref a, .int 0 0] }
  | .t a => { cls := .type "tuple_iterator", data := .fields #[.ref a, .int 0 0] }
  | .s x k => { cls := .type (strIterType x), data := .fields #[.str x k, .int 0 0] }
def SK.raw : SK → Value
  | .l a => .ref a
  | .t a => .ref a
  | .s x k => .str x k
theorem SK.iter_keep {k : SK} {it : Addr} {i : Nat} {h h' : Heap} (s : k.iter it i h) (q : ∀ o, h.get? it = some o → h'.get? it = some o) : k.iter it i h' := by
  cases k with
  | l a => exact Heap.IsListIter.at s q
  | t a => exact Heap.IsTupleIter.at s q
  | s x k => exact let ⟨o, ho, r⟩ := s; ⟨o, q o ho, r⟩
theorem SK.iter_obj {k : SK} {it : Addr} {i : Nat} {h : Heap} (s : k.iter it i h) : ∃ o, h.get? it = some o ∧ ∀ v, o.data ≠ .cell v := by
  cases k with
  | l a => obtain ⟨o, e, _, d⟩ := s; exact ⟨o, e, fun v q => by rw [d] at q; cases q⟩
  | t a => obtain ⟨o, e, _, d⟩ := s; exact ⟨o, e, fun v q => by rw [d] at q; cases q⟩
  | s x k => obtain ⟨o, e, _, d⟩ := s; exact ⟨o, e, fun v q => by rw [d] at q; cases q⟩
/-- what the iterator draws while the thing stands so -/
theorem SK.draws {X : Cx} {pins : List (Addr × Obj)} {σ : St} {H : Hp} {s : Shared} {k : SK} {it : Addr} {xs : List V} (I : Inv X pins σ H s) (hc : X.calm = true) (hs : k.src X.K H xs) (hn : ∀ c, k.at c → c ≠ it) :
    ∃ (fp : List Addr) (P : Nat → Value → Prop) (S : Nat → Heap → Prop), Draws X.prog X.w X.A.in1 it fp xs.length P S ∧ (∀ i, k.iter it i s.heap → S i s.heap) ∧ (∀ i h', S i h' → k.iter it i h') ∧
      (∀ i u, P i u → ∃ v, xs[i]? = some v ∧ RelV v u) ∧ it ∈ fp ∧ ∀ c ∈ fp, c = it ∨ k.at c := by
  have hh : X.A.in1.handled = none := I.ok.hd hc
  cases k with
  | l a =>
    obtain ⟨its, rv, p, _⟩ := I.list hs
    refine ⟨[it, a], fun i v => its.toArray[i]? = some v, fun i h => h.IsListIter it a i ∧ h.IsList a its.toArray, by rw [show xs.length = its.toArray.size from rv.length.trans (by simp)]; exact Draws.list hh it a (hn a rfl) its.toArray, fun i q => ⟨q, p.isList⟩, fun i h' q => q.1, fun i u q => ?_, by simp, fun c hc => by
      rcases List.mem_cons.mp hc with e | e
      · exact .inl e
      · exact .inr (List.mem_singleton.mp e)⟩
    have q : its.toArray[i]? = some u := q
    cases e : xs[i]? with
    | none =>
      have := rv.none_of e
      rw [List.getElem?_toArray, this] at q
      cases q
    | some v =>
      obtain ⟨w', h1, h2⟩ := rv.get e
      rw [List.getElem?_toArray, h1] at q
      cases q
      exact ⟨v, rfl, h2⟩
  | t a =>
    obtain ⟨its, rv, p, _⟩ := I.tuple hs
    refine ⟨[it, a], fun i v => its.toArray[i]? = some v, fun i h => h.IsTupleIter it a i ∧ h.IsTuple a its.toArray, by rw [show xs.length = its.toArray.size from rv.length.trans (by simp)]; exact Draws.tuple hh it a (hn a rfl) its.toArray, fun i q => ⟨q, show s.heap.IsTuple a its.toArray from p⟩, fun i h' q => q.1, fun i u q => ?_, by simp, fun c hc => by
      rcases List.mem_cons.mp hc with e | e
      · exact .inl e
      · exact .inr (List.mem_singleton.mp e)⟩
    have q : its.toArray[i]? = some u := q
    cases e : xs[i]? with
    | none =>
      have := rv.none_of e
      rw [List.getElem?_toArray, this] at q
      cases q
    | some v =>
      obtain ⟨w', h1, h2⟩ := rv.get e
      rw [List.getElem?_toArray, h1] at q
      cases q
      exact ⟨v, rfl, h2⟩
  | s x tk =>
    have hs' : xs = x.cps.toList.map sgn := hs
    subst hs'
    refine ⟨[it], fun i v => ∃ c u, x.cps[i]? = some c ∧ v = .str ⟨#[c]⟩ u, fun i h => h.IsStrIter it (strIterType x) x tk i, by rw [show (x.cps.toList.map sgn).length = x.cps.size by simp]; exact Draws.text hh it x tk, fun i q => q, fun i h' q => q, fun i u q => ?_, by simp, fun c hc => .inl (List.mem_singleton.mp hc)⟩
    obtain ⟨c, t, h1, rfl⟩ := q
    refine ⟨sgn c, ?_, ⟨t, rfl⟩⟩
    rw [List.getElem?_map, Array.getElem?_toList, h1]
    rfl
/-- the items as they stand at each turn, in new pairs -/
def ItzG (K : PySem.W.Frag) (k1 k2 : SK) : It :=
  ⟨fun i H => ∃ (xs ys : List V) (x y : V), k1.src K H xs ∧ k2.src K H ys ∧ xs[i]? = some x ∧ ys[i]? = some y,
    fun i H v H' => ∃ T x y, v = .ref T ∧ H T = none ∧ H' = upd H T (.tup [x, y]) ∧ (∀ xs, k1.src K H xs → xs[i]? = some x) ∧ ∀ ys, k2.src K H ys → ys[i]? = some y,
    fun i H => ∃ xs ys : List V, k1.src K H xs ∧ k2.src K H ys ∧ i ≤ xs.length ∧ i ≤ ys.length ∧ (i = xs.length ∨ i = ys.length)⟩
theorem SK.inj {X : Cx} {pins : List (Addr × Obj)} {σ : St} {H : Hp} {s : Shared} {k : SK} {xs ys : List V} (I : Inv X pins σ H s) (h1 : k.src X.K H xs) (h2 : k.src X.K H ys) : xs = ys := by
  cases k with
  | l a => exact I.list_inj h1 h2
  | t a => exact I.tuple_inj h1 h2
  | s x t => exact (show xs = _ from h1).trans (show ys = _ from h2).symm
theorem turn_zipG {P : Program} {w : World} {K : PySem.W.Frag} {elts : List Expr} {kk : Nat} {tpos : Pos} {z TI TO i1 i2 : Addr} {k1 k2 : SK}
    (d1 : TI ≠ z) (d2 : TO ≠ z) (d3 : TI ≠ TO) (d4 : TI ≠ i1) (d5 : TI ≠ i2) (d6 : z ≠ i1) (d7 : z ≠ i2) (d8 : TO ≠ i1) (d9 : TO ≠ i2) (d10 : i1 ≠ i2)
    (a1 : ∀ c, k1.at c → c ≠ z ∧ c ≠ TO ∧ c ≠ i1 ∧ c ≠ i2) (a2 : ∀ c, k2.at c → c ≠ z ∧ c ≠ TO ∧ c ≠ i1 ∧ c ≠ i2) :
    Turn P w K (.Tuple elts kk tpos) (ItzG K k1 k2) [z, TI, TO, i1, i2] z (fun i h => IsZip h z TI TO .none ∧ IsTupOf2 h TI (.ref i1) (.ref i2) ∧ (∃ x y, IsTupOf2 h TO x y) ∧ k1.iter i1 i h ∧ k2.iter i2 i h) where
  mem := by simp
  obj := fun i h st c hc => by
    obtain ⟨hz, hTI, ⟨x, y, hTO⟩, s1, s2⟩ := st
    have e' : c = z ∨ c = TI ∨ c = TO ∨ c = i1 ∨ c = i2 := by simpa using hc
    rcases e' with q | q | q | q | q
    · rw [q]; exact ⟨_, hz, fun v q => nomatch q⟩
    · rw [q]; exact ⟨_, hTI, fun v q => nomatch q⟩
    · rw [q]; exact ⟨_, hTO, fun v q => nomatch q⟩
    · rw [q]; exact SK.iter_obj s1
    · rw [q]; exact SK.iter_obj s2
  keep := fun i h h' st k => by
    obtain ⟨hz, hTI, ⟨x, y, hTO⟩, s1, s2⟩ := st
    exact ⟨k z (by simp) _ hz, k TI (by simp) _ hTI, ⟨x, y, k TO (by simp) _ hTO⟩, SK.iter_keep s1 fun o q => k i1 (by simp) o q, SK.iter_keep s2 fun o q => k i2 (by simp) o q⟩
  item := by
    intro X hP hw hK hc i pins s σ H E I hf st hg
    subst hP hw hK
    obtain ⟨hz, hTI, ⟨x0, y0, hTO⟩, s1, s2⟩ := st
    obtain ⟨xs, ys, x, y, hqx, hqy, hx, hy⟩ := hg
    obtain ⟨fp1, P1, S1, D1, g1, b1, r1, m1, f1⟩ := SK.draws I hc hqx fun c q => (a1 c q).2.2.1
    obtain ⟨fp2, P2, S2, D2, g2, b2, r2, m2, f2⟩ := SK.draws I hc hqy fun c q => (a2 c q).2.2.2
    have Z : ZipSep2 z TI TO i1 i2 fp1 fp2 :=
      { TIz := d1, TOz := d2, TITO := d3, TIi1 := d4, mem1 := m1, TIi2 := d5, mem2 := m2,
        zf1 := fun q => by rcases f1 z q with e | e; exact d6 e; exact (a1 z e).1 rfl
        Tf1 := fun q => by rcases f1 TO q with e | e; exact d8 e; exact (a1 TO e).2.1 rfl
        zf2 := fun q => by rcases f2 z q with e | e; exact d7 e; exact (a2 z e).1 rfl
        Tf2 := fun q => by rcases f2 TO q with e | e; exact d9 e; exact (a2 TO e).2.1 rfl
        sep1_2 := fun q => by rcases f2 i1 q with e | e; exact d10 e; exact (a2 i1 e).2.2.1 rfl
        sep2_1 := fun q => by rcases f1 i2 q with e | e; exact d10 e.symm; exact (a1 i2 e).2.2.2 rfl }
    have lx : i < xs.length := (List.getElem?_eq_some_iff.mp hx).1
    have ly : i < ys.length := (List.getElem?_eq_some_iff.mp hy).1
    have hzl : z < s.heap.objs.size := Heap.lt_size hz
    refine wpAny_pyNext_zipD2_item Z D1 D2 hz hTI hTO (g1 i s1) (g2 i s2) lx ly fun u1 u2 h' tk p1 p2 z' TO' s1' s2' hT hsz hk => ?_
    obtain ⟨v1, e1, ru⟩ := r1 i u1 p1
    obtain ⟨v2, e2, ru2⟩ := r2 i u2 p2
    have ev1 : v1 = x := Option.some.inj (e1.symm.trans hx)
    have ev2 : v2 = y := Option.some.inj (e2.symm.trans hy)
    subst ev1 ev2
    refine ⟨_, rfl, wpAny_letOwnedTupleGo_zip (s := { s with heap := h', toks := tk }) z' fun h'' z'' sb => ?_⟩
    have hT2 : h''.get? s.heap.objs.size = some { cls := .type "tuple", data := .seq #[u1, u2] } := (sb.2 _ (Nat.ne_of_gt hzl)).trans hT
    have new : ObjOk X.prog X.w (upd H s.heap.objs.size (.tup [v1, v2])) h'' s.heap.objs.size (.tup [v1, v2]) :=
      ⟨by show 2 ≤ sizeLine; decide, [u1, u2], .cons ru (.cons ru2 .nil), ⟨_, hT2, rfl, _, rfl⟩⟩
    have I1 : Inv X pins σ (upd H s.heap.objs.size (.tup [v1, v2])) { s with heap := h'', toks := tk } :=
      I.turnedNew (t' := tk) (ch := [z, TI, TO, i1, i2]) (fun c o hb q => (sb.2 c (fun q' => hb (by simp [q']))).trans (hk c o (fun q' => hb (by simp [q'])) (fun q' => hb (by simp [q'])) (fun q' => hb (by simp [q'])) (fun q' => hb (by simp [q'])) q)) hf (Nat.le_refl _) new
    refine ⟨.ref s.heap.objs.size, _, I1, rfl, ⟨_, v1, v2, rfl, I.hok.fresh (Nat.le_refl _), rfl, fun l hl => by rw [SK.inj I hl hqx]; exact hx, fun l hl => by rw [SK.inj I hl hqy]; exact hy⟩, ⟨z'', ?_, ⟨u1, u2, ?_⟩, ?_, ?_⟩, fun c hcm => ?_⟩
    · exact (sb.2 _ d1).trans (hk _ _ d1 d3 d4 d5 hTI)
    · exact (sb.2 _ d2).trans TO'
    · exact SK.iter_keep (b1 _ _ s1') fun o q => (sb.2 _ d6.symm).trans q
    · exact SK.iter_keep (b2 _ _ s2') fun o q => (sb.2 _ d7.symm).trans q
    · have hlt : c < s.heap.objs.size := by
        have e' : c = z ∨ c = TI ∨ c = TO ∨ c = i1 ∨ c = i2 := by simpa using hcm
        rcases e' with q | q | q | q | q
        · rw [q]; exact hzl
        · rw [q]; exact Heap.lt_size hTI
        · rw [q]; exact Heap.lt_size hTO
        · rw [q]; obtain ⟨_, e, _⟩ := SK.iter_obj s1; exact Heap.lt_size e
        · rw [q]; obtain ⟨_, e, _⟩ := SK.iter_obj s2; exact Heap.lt_size e
      rw [upd_ne (Nat.ne_of_lt hlt)]
      exact (hf c hcm).1
  done := by
    intro X hP hw hK hc i pins s σ H E I hf st hg
    subst hP hw hK
    obtain ⟨hz, hTI, ⟨x0, y0, hTO⟩, s1, s2⟩ := st
    obtain ⟨xs, ys, hqx, hqy, hlx, hly, hend⟩ := hg
    obtain ⟨fp1, P1, S1, D1, g1, b1, r1, m1, f1⟩ := SK.draws I hc hqx fun c q => (a1 c q).2.2.1
    obtain ⟨fp2, P2, S2, D2, g2, b2, r2, m2, f2⟩ := SK.draws I hc hqy fun c q => (a2 c q).2.2.2
    have Z : ZipSep2 z TI TO i1 i2 fp1 fp2 :=
      { TIz := d1, TOz := d2, TITO := d3, TIi1 := d4, mem1 := m1, TIi2 := d5, mem2 := m2,
        zf1 := fun q => by rcases f1 z q with e | e; exact d6 e; exact (a1 z e).1 rfl
        Tf1 := fun q => by rcases f1 TO q with e | e; exact d8 e; exact (a1 TO e).2.1 rfl
        zf2 := fun q => by rcases f2 z q with e | e; exact d7 e; exact (a2 z e).1 rfl
        Tf2 := fun q => by rcases f2 TO q with e | e; exact d9 e; exact (a2 TO e).2.1 rfl
        sep1_2 := fun q => by rcases f2 i1 q with e | e; exact d10 e; exact (a2 i1 e).2.2.1 rfl
        sep2_1 := fun q => by rcases f1 i2 q with e | e; exact d10 e.symm; exact (a1 i2 e).2.2.2 rfl }
    exact wpAny_pyNext_zipD2_end Z D1 D2 hz hTI hTO (g1 i s1) (g2 i s2) hlx hly hend fun h' tk hk => ⟨rfl, I.turnedL (t' := tk) (ch := [z, TI, TO, i1, i2]) (fun c o hb q =>
      hk c o (fun q' => hb (by simp [q'])) (fun q' => hb (by simp [q'])) (fun q' => hb (by simp [q'])) (fun q' => hb (by simp [q'])) q) hf⟩
  self := fun A i s Q E st h => wpAny_pyIter_zip st.1 h
def iZipG (K : PySem.W.Frag) (ta : TA) : TI := fun σ H R => ta σ H fun vs H1 => ∃ (x y : V) (xs ys : List V), vs = [x, y] ∧ Src K H1 x xs ∧ Src K H1 y ys ∧
  ∀ k1 k2 : SK, k1.val = x → k2.val = y → k1.src K H1 xs → k2.src K H1 ys → R (ItzG K k1 k2) H1
/-- the kind of a value with items -/
theorem Src.kind {X : Cx} {pins : List (Addr × Obj)} {σ : St} {H : Hp} {s : Shared} {x : V} {u : Value} {xs : List V} (I : Inv X pins σ H s) (h : Src X.K H x xs) (r : RelV x u) :
    ∃ k : SK, k.val = x ∧ k.raw = u ∧ k.src X.K H xs ∧ (∀ c, k.at c → c < s.heap.objs.size) ∧ ∃ B : Heap → Prop, Begins u k.obj B ∧ B s.heap := by
  cases h with
  | @l a xs h =>
    cases (show u = Value.ref a from r)
    obtain ⟨its, rv, p, _⟩ := I.list h
    exact ⟨.l a, rfl, rfl, h, fun c e => by rw [show c = a from e]; exact p.lt, _, begins_list a its.toArray, p.isList⟩
  | @t a xs h =>
    cases (show u = Value.ref a from r)
    obtain ⟨its, rv, p, _⟩ := I.tuple h
    have p' : s.heap.IsTuple a its.toArray := p
    exact ⟨.t a, rfl, rfl, h, fun c e => by rw [show c = a from e]; obtain ⟨o, e, _⟩ := p'; exact Heap.lt_size e, _, begins_tuple a its.toArray, p'⟩
  | @s z xs h =>
    obtain ⟨t, rfl⟩ := (show ∃ t, u = Value.str z t from r)
    exact ⟨.s z t, rfl, rfl, h, fun c e => False.elim e, _, begins_text z t, trivial⟩
theorem SK.begun {k : SK} {it : Addr} {h : Heap} (e : h.get? it = some k.obj) : k.iter it 0 h := by
  cases k with
  | l a => exact ⟨_, e, rfl, rfl⟩
  | t a => exact ⟨_, e, rfl, rfl⟩
  | s x t => exact ⟨_, e, rfl, rfl⟩
theorem neN {a b : Nat} (h : a < b ∨ b < a) : a ≠ b := by omega
theorem pi_zipG {X : Cx} {e e2 : Expr} {ta : TA} {p pos tpos : Pos} {elts : List Expr} {kk : Nat} (hg : Gl X "zip") (hm : X.mg "zip" = none) (ha : PA X [e, e2] ta)
    (hs : starEach [e, e2] X.env = (false, eval e X.env) :: starEach [e2] X.env := by rfl) (hpl : (backTo pos (starEach [e2] X.env)).any (·.1) = false := by rfl) :
    PI X (.Tuple elts kk tpos) (.Call (.Name "zip" p) [e, e2] [] pos) (iZipG X.K ta) := by
  refine ⟨fun pins s σ H R I h => ?_⟩
  refine Call_ (ld_blt I hg hm PyProof.Rows.boot_zip (PyProof.Rows.callWith_type1 (thn (ha.run pos pins s σ H _ I h) fun us s1 ⟨vs, H1, I1, r1, q1⟩ => ?_) hs hpl))
  obtain ⟨x, y, xs, ys, ex, sx, sy, q⟩ := q1
  subst ex
  cases r1 with
  | cons r rr =>
    cases rr with
    | cons r' rr =>
      cases rr
      obtain ⟨k1, ev1, _, src1, lt1, B1, b1, hb1⟩ := sx.kind I1 r
      obtain ⟨k2, ev2, _, src2, lt2, B2, b2, hb2⟩ := sy.kind I1 r'
      have fresh5 : ∀ c, c ∈ [s1.heap.objs.size + 4, s1.heap.objs.size + 2, s1.heap.objs.size + 3, s1.heap.objs.size, s1.heap.objs.size + 1] → FpOk X pins H1 c := fun c hcm => by
        have e' : c = s1.heap.objs.size + 4 ∨ c = s1.heap.objs.size + 2 ∨ c = s1.heap.objs.size + 3 ∨ c = s1.heap.objs.size ∨ c = s1.heap.objs.size + 1 := by simpa using hcm
        have hle : s1.heap.objs.size ≤ c := by omega
        exact I1.fpOk hle (I1.hok.fresh hle)
      refine zip_begins2 b1 b2 hb1 hb2 fun h' hz hTI hTO h1 h2 hsz hk => wpAny_pyIter_zip hz ?_
      have I2 : Inv X pins σ H1 { s1 with heap := h' } := I1.kept (t' := s1.toks) hk
      have TT := turn_zipG (P := X.prog) (w := X.w) (K := X.K) (elts := elts) (kk := kk) (tpos := tpos) (z := s1.heap.objs.size + 4) (TI := s1.heap.objs.size + 2) (TO := s1.heap.objs.size + 3) (i1 := s1.heap.objs.size) (i2 := s1.heap.objs.size + 1) (k1 := k1) (k2 := k2)
        (neN (by omega)) (neN (by omega)) (neN (by omega)) (neN (by omega)) (neN (by omega)) (neN (by omega)) (neN (by omega)) (neN (by omega)) (neN (by omega)) (neN (by omega))
        (fun c hc => have h : c < s1.heap.objs.size := lt1 c hc; ⟨Nat.ne_of_lt (Nat.lt_of_lt_of_le h (Nat.le_add_right _ _)), Nat.ne_of_lt (Nat.lt_of_lt_of_le h (Nat.le_add_right _ _)), Nat.ne_of_lt h, Nat.ne_of_lt (Nat.lt_of_lt_of_le h (Nat.le_add_right _ _))⟩) (fun c hc => have h : c < s1.heap.objs.size := lt2 c hc; ⟨Nat.ne_of_lt (Nat.lt_of_lt_of_le h (Nat.le_add_right _ _)), Nat.ne_of_lt (Nat.lt_of_lt_of_le h (Nat.le_add_right _ _)), Nat.ne_of_lt h, Nat.ne_of_lt (Nat.lt_of_lt_of_le h (Nat.le_add_right _ _))⟩)
      exact ⟨s1.heap.objs.size + 4, [s1.heap.objs.size + 4, s1.heap.objs.size + 2, s1.heap.objs.size + 3, s1.heap.objs.size, s1.heap.objs.size + 1], _, _, H1, rfl, I2, TT, ⟨hz, hTI, ⟨_, _, hTO⟩, SK.begun h1, SK.begun h2⟩, fresh5, q k1 k2 ev1 ev2 src1 src2⟩
theorem walk_zipG {K : PySem.W.Frag} {k1 k2 : SK} {xs ys : List V} {n : Nat} (hn : n = min xs.length ys.length) : Walk (ItzG K k1 k2) n (fun H => k1.src K H xs ∧ k2.src K H ys) (YPair (fun i => xs[i]?) (fun i => ys[i]?)) := by
  subst hn
  refine ⟨fun i _ hi q => ?_, fun _ q => ⟨xs, ys, q.1, q.2, by omega, by omega, by omega⟩, fun i H v H' _ q y => ?_⟩
  · have h1 : i < xs.length := by omega
    have h2 : i < ys.length := by omega
    exact ⟨xs, ys, xs[i], ys[i], q.1, q.2, by simp [h1], by simp [h2]⟩
  · obtain ⟨T, x, z, h1, h2, h3, h4, h5⟩ := y
    exact ⟨T, x, z, h1, h2, h3, h4 xs q.1, h5 ys q.2⟩
end L2
namespace FW
open PySem PySem.Spec PyProof.Rows L2
/-- the built-in names that stand as they were -/
structure Z (mg : Str → Option Value) : Prop where
  z_isinstance : mg "isinstance" = none
  z_str : mg "str" = none
  z_all : mg "all" = none
  z_any : mg "any" = none
  z_len : mg "len" = none
  z_int : mg "int" = none
  z_list : mg "list" = none
  z_abs : mg "abs" = none
  z_bool : mg "bool" = none
  z_tuple : mg "tuple" = none
  z_zip : mg "zip" = none
  z_range : mg "range" = none
  z_enumerate : mg "enumerate" = none
  z_sorted : mg "sorted" = none
  z_dict : mg "dict" = none
  z_set : mg "set" = none
  z_sum : mg "sum" = none
  z_min : mg "min" = none
  z_max : mg "max" = none
  z_reversed : mg "reversed" = none
  z_repr : mg "repr" = none
  z_ord : mg "ord" = none
section
variable {P : Program} {w : World} {K : PySem.W.Frag} {mg : Str → Option Value} {base : Heap}
/-- a value that is no text -/
def NotS (K : PySem.W.Frag) (H : Hp) (v : V) : Prop := ∃ T : String, TyX K H v (.type T) ∧ kitB T "str" = some false
def isStr : V → Bool
  | .str _ => true
  | _ => false
def strOf : V → Str
  | .str z => z
  | _ => ⟨#[]⟩
theorem str_of {v : V} (h : isStr v = true) : ∃ z, v = .str z := by
  cases v with
  | str z => exact ⟨z, rfl⟩
  | _ => exact absurd (show false = true from h) Bool.false_ne_true
theorem sz {n : Nat} (h : n ≤ 100000) : n ≤ sizeLine := Nat.le_trans h (by decide)
theorem sz1 {n : Nat} (h : n ≤ 100000) : n < sizeLine := Nat.lt_of_le_of_lt h (by decide)
def bString (v : V) (fs : Str) : Bool := isStr v && (strOf v).cps.toList.all fun c => decide (c ∈ fs.cps.toList)
def sp_is_string (K : PySem.W.Frag) : Sp := fun vs H Q _ => ∃ (v : V) (fs : Str), vs = [v, .str fs] ∧ ((isStr v = true ∧ (strOf v).cps.size ≤ 100000) ∨ (isStr v = false ∧ NotS K H v)) ∧ ∀ H', Same H H' → Q (.bl (bString v fs)) H'
theorem NotS.same {H H' : Hp} {v : V} (n : NotS K H v) (q : ∀ T, TyX K H v T → TyX K H' v T) : NotS K H' v := let ⟨T, t, k⟩ := n; ⟨T, q _ t, k⟩
def bRoom (v : V) (fs : Str) : Bool := bString v fs && decide ((strOf v).cps.size = 4)
def sp_is_room (K : PySem.W.Frag) : Sp := fun vs H Q _ => ∃ (v : V) (fs : Str), vs = [v, .str fs] ∧ ((isStr v = true ∧ (strOf v).cps.size ≤ 100000) ∨ (isStr v = false ∧ NotS K H v)) ∧ ∀ H', Same H H' → Q (.bl (bRoom v fs)) H'
def bCut (v : V) (fs : Str) : Bool := isStr v && decide ((strOf v).cps.size = 3) && decide ((strOf v).cps.toList.getD 0 0 ∈ ("|-" : Str).cps.toList) && ((strOf v).cps.toList.drop 1).all fun c => decide (c ∈ fs.cps.toList)
def sp_is_cut (K : PySem.W.Frag) : Sp := fun vs H Q _ => ∃ (v : V) (fs : Str), vs = [v, .str fs] ∧ ((isStr v = true ∧ (strOf v).cps.size ≤ 100000) ∨ (isStr v = false ∧ NotS K H v)) ∧ ∀ H', Same H H' → Q (.bl (bCut v fs)) H'
theorem cutS_from {z : Str} (h : 1 ≤ z.cps.size) : cutS z (some 1) none = ⟨(z.cps.toList.drop 1).toArray⟩ := by
  unfold cutS
  rw [HT.sIx_none, show HT.sIx z.length 0 (some 1) = min 1 z.length from HT.sIx_nat z.length 0 1]
  have e : min 1 z.length = 1 := Nat.min_eq_left h
  rw [e, List.take_of_length_le]
  simp [Str.length]
def S4 (a b c d : Nat) : Str := ⟨#[a, b, c, d]⟩
def S3 (a b c : Nat) : Str := ⟨#[a, b, c]⟩
/-- both parts of a room by a cut; the codes of the signs: 124 upright -/
def partsC (n e s w sg x y : Nat) : List Str := if sg = 124 then [S4 n x s w, S4 n e s y] else [S4 n e x w, S4 y e s w]
def sp_parts_of (K : PySem.W.Frag) : Sp := fun vs H Q _ => ∃ (n e s w : Nat) (cut : Str), vs = [.str (S4 n e s w), .str cut] ∧
  ((cut = ("" : Str) ∧ ∀ p, H p = none → Q (.ref p) (upd H p (.lst [.str (S4 n e s w)]))) ∨ ∃ sg x y, cut = S3 sg x y ∧ ∀ p, H p = none → Q (.ref p) (upd H p (.lst ((partsC n e s w sg x y).map V.str))))
def Bag (H : Hp) (b l : Addr) : Prop := ∃ (ns : List Int) (i r m c : Int), H b = some (.lst [.ref l, .int i, .int r, .int m, .int c]) ∧ H l = some (.lst (ns.map V.int)) ∧ ns.length ≤ 1000 ∧ 0 ≤ i ∧ 0 ≤ m ∧ m < 2147483648
theorem bag_ne {l : Addr} {ns : List Int} {i r m c : Int} : HO.lst (ns.map V.int) ≠ HO.lst [.ref l, .int i, .int r, .int m, .int c] := by
  intro e
  have e1 := HO.lst.inj e
  cases ns with
  | nil => cases e1
  | cons n ns =>
    have e2 := List.head_eq_of_cons_eq e1
    cases e2
theorem Bag.same {H H' : Hp} {b l : Addr} (B : Bag H b l) (s : Same H H') : Bag H' b l := by
  obtain ⟨ns, i, r, m, c, h1, h2, q⟩ := B
  exact ⟨ns, i, r, m, c, s _ _ h1, s _ _ h2, q⟩
theorem Bag.la {H : Hp} {b l : Addr} (B : Bag H b l) : ∃ xs, H b = some (.lst xs) := let ⟨_, _, _, _, _, h, _⟩ := B; ⟨_, h⟩
theorem Bag.lb {H : Hp} {b l : Addr} (B : Bag H b l) : ∃ xs, H l = some (.lst xs) := let ⟨_, _, _, _, _, _, h, _⟩ := B; ⟨_, h⟩
/-- what is new is not the bag -/
theorem Bag.ne {H : Hp} {b l p : Addr} (B : Bag H b l) (h : H p = none) : p ≠ b := fun e => by
  obtain ⟨xs, h1⟩ := B.la
  rw [e, h1] at h
  cases h
theorem Bag.ne2 {H : Hp} {b l p : Addr} (B : Bag H b l) (h : H p = none) : p ≠ l := fun e => by
  obtain ⟨xs, h1⟩ := B.lb
  rw [e, h1] at h
  cases h
/-- another object changes -/
theorem Bag.upd {H : Hp} {b l p : Addr} {o : HO} (B : Bag H b l) (h1 : p ≠ b) (h2 : p ≠ l) : Bag (L2.upd H p o) b l := by
  obtain ⟨ns, i, r, m, c, g1, g2, q⟩ := B
  exact ⟨ns, i, r, m, c, by rw [upd_ne h1.symm]; exact g1, by rw [upd_ne h2.symm]; exact g2, q⟩
def sp__law_open (K : PySem.W.Frag) : Sp := fun vs H Q _ => ∃ (a : Addr) (ns : List Int), vs = [.ref a] ∧ SqL K H a (ns.map V.int) ∧ ns.length ≤ 63 ∧ ∀ H' b l, H b = none → H l = none → Same H H' → Bag H' b l → Q (.ref b) H'
theorem cutV_to {xs : List V} {k : Nat} : cutV xs none (some (k : Int)) = xs.take k := by
  unfold cutV
  rw [HT.sIx_none, HT.sIx_nat]
  show List.take (min k xs.length - 0) (List.drop 0 xs) = _
  rw [List.drop_zero, Nat.sub_zero, List.take_eq_take_iff]
  omega
def sp__law_draw (K : PySem.W.Frag) : Sp := fun vs H Q _ => ∃ (b l : Addr) (k : Int), vs = [.ref b, .int k] ∧ Bag H b l ∧ 0 < k ∧ k < 1073741824 ∧ ∀ H' z, 0 ≤ z → z < k → But b H H' → Bag H' b l → Q (.int z) H'
/-- behind the first part of a draw -/
def BagAt (H0 H : Hp) (b l : Addr) (ns : List Int) : Prop := But b H0 H ∧ H l = some (.lst (ns.map V.int)) ∧ ∃ i r m c : Int, H b = some (.lst [.ref l, .int i, .int r, .int m, .int c]) ∧ 0 ≤ i ∧ 0 ≤ m ∧ m < 2147483648
abbrev S (l : List Nat) : Str := ⟨l.toArray⟩
theorem S_cat (a b : List Nat) : S a ++ S b = S (a ++ b) := SX.S_cat a b
theorem S_len (a : List Nat) : (S a).length = a.length := SX.S_len a
theorem S_tl (x : Str) : S x.cps.toList = x := SX.S_tl x
theorem atI_of {α : Type} {xs : List α} {z : Int} {j : Nat} {v : α} (e : z = (j : Int)) (h : xs[j]? = some v) : atI xs z = some v := by
  rw [e]
  exact atI_nat h
theorem S_sub (l : List Nat) (i : Nat) : cutS (S l) (some (i : Int)) none = S (l.drop i) := by
  unfold cutS
  rw [HT.sIx_none, HT.sIx_nat]
  show (⟨(List.take ((S l).length - min i (S l).length) (List.drop (min i (S l).length) l)).toArray⟩ : Str) = ⟨(l.drop i).toArray⟩
  rw [S_len]
  have e : List.take (l.length - min i l.length) (List.drop (min i l.length) l) = l.drop i := by
    by_cases h : i ≤ l.length
    · rw [Nat.min_eq_left h]
      exact List.take_of_length_le (by rw [List.length_drop]; exact Nat.le_refl _)
    · rw [Nat.min_eq_right (by omega), List.drop_eq_nil_of_le (as := l) (i := i) (by omega)]
      simp
  rw [e]
theorem S_to (l : List Nat) (i : Nat) : cutS (S l) none (some (i : Int)) = S (l.take i) := by
  unfold cutS
  rw [HT.sIx_none, HT.sIx_nat]
  show (⟨(List.take (min i (S l).length - 0) (List.drop 0 l)).toArray⟩ : Str) = ⟨(l.take i).toArray⟩
  rw [S_len, List.drop_zero, Nat.sub_zero]
  have e : List.take (min i l.length) l = l.take i := by
    rw [List.take_eq_take_iff]
    omega
  rw [e]
def Items (K : PySem.W.Frag) (H : Hp) (b : Addr) (x : V) (xs : List V) : Prop := (∃ a, a ≠ b ∧ x = .ref a ∧ SqL K H a xs) ∨ (∃ a, a ≠ b ∧ x = .ref a ∧ SqT K H a xs) ∨ ∃ l, x = .str (S l) ∧ xs = l.map sgn
def sp__law_of (K : PySem.W.Frag) : Sp := fun vs H Q _ => ∃ (b l : Addr) (x : V) (xs : List V), vs = [.ref b, x] ∧ Bag H b l ∧ Items K H b x xs ∧ 0 < xs.length ∧ xs.length ≤ 100000 ∧ ∀ H' v, v ∈ xs → But b H H' → Bag H' b l → Q v H'
mutual
/-- data that nest at most so deep -/
def Deep : Nat → PyData → Prop
  | _, .none => True
  | _, .bool _ => True
  | _, .int _ => True
  | _, .str _ => True
  | 0, .list _ => False
  | 0, .tuple _ => False
  | n + 1, .list ds => ds.length ≤ 1000 ∧ ∀ d ∈ ds, Deep n d
  | n + 1, .tuple ds => ds.length ≤ 1000 ∧ ∀ d ∈ ds, Deep n d
  | _, .dict _ => False
end
def sp__law_same (K : PySem.W.Frag) (n : Nat) : Sp := fun vs H Q _ => ∃ (x y : V) (d : PyData), vs = [x, y] ∧ Dp K H x d ∧ Dp K H y d ∧ Deep n d ∧ ∀ H', Same H H' → Q (.bl true) H'
theorem tyL {H : Hp} {a : Addr} {xs : List V} (h : SqL K H a xs) : TyX K H (.ref a) (.type "list") := by
  rcases h with (h | ⟨o, h⟩) | ⟨o, its, n, h, c, _⟩
  · exact .base (.lst h)
  · exact .base (.frz h)
  · exact .kList h c
theorem tyT {H : Hp} {a : Addr} {xs : List V} (h : SqT K H a xs) : TyX K H (.ref a) (.type "tuple") := by
  rcases h with (h | ⟨o, h⟩) | ⟨o, its, n, h, c, _⟩
  · exact .base (.tup h)
  · exact .fTuple h
  · exact .kTuple h c
theorem Dp.same {H H' : Hp} (s : Same H H') : ∀ {v : V} {d : PyData}, Dp K H v d → Dp K H' v d := by
  intro v d h
  exact @Dp.rec K H (fun v d _ => Dp K H' v d) (fun vs ds _ => DpAll K H' vs ds) .non (fun b => .bl b) (fun i => .int i) (fun x => .str x) (fun h _ ih => .lst (s.seq h) ih) (fun h _ ih => .tup (s.tup h) ih) .nil (fun _ _ i1 i2 => .cons i1 i2) v d h
theorem DpAll.same {H H' : Hp} (s : Same H H') : ∀ {vs : List V} {ds : List PyData}, DpAll K H vs ds → DpAll K H' vs ds
  | _, _, .nil => .nil
  | _, _, .cons h t => .cons (Dp.same s h) (DpAll.same s t)
theorem DpAll.len {H : Hp} : ∀ {vs : List V} {ds : List PyData}, DpAll K H vs ds → vs.length = ds.length
  | _, _, .nil => rfl
  | _, _, .cons _ t => congrArg (· + 1) (DpAll.len t)
theorem DpAll.at {H : Hp} : ∀ {vs : List V} {ds : List PyData} {i : Nat} {v : V}, DpAll K H vs ds → vs[i]? = some v → ∃ d, ds[i]? = some d ∧ Dp K H v d
  | _, _, _, _, .nil, e => by simp at e
  | _, _, 0, v, .cons h _, e => by
    have e1 := Option.some.inj (show some _ = some v from e)
    exact ⟨_, rfl, e1 ▸ h⟩
  | _, _, i + 1, v, .cons _ t, e => DpAll.at (i := i) t e
theorem walk_zipT {a b : Addr} {xs ys : List V} {n : Nat} (hn : n = min xs.length ys.length) : Walk (RZ.ItzT K a b) n (fun H => SqT K H a xs ∧ SqT K H b ys) (YPair (fun i => xs[i]?) (fun i => ys[i]?)) := by
  subst hn
  refine ⟨fun i _ hi q => ?_, fun _ q => ⟨xs, ys, q.1, q.2, by omega⟩, fun i H v H' _ q y => ?_⟩
  · have h1 : i < xs.length := by omega
    have h2 : i < ys.length := by omega
    exact ⟨xs, ys, xs[i], ys[i], q.1, q.2, by simp [h1], by simp [h2]⟩
  · obtain ⟨T, x, z, h1, h2, h3, h4, h5⟩ := y
    exact ⟨T, x, z, h1, h2, h3, h4 xs q.1, h5 ys q.2⟩
/-- the answers of isinstance(x, (list, tuple)) -/
theorem kitAny_lt {T : String} {r1 r2 : Bool} (h1 : kitB T "list" = some r1) (h2 : kitB T "tuple" = some r2) : PySem.W.kitAny K (.type T) [.type "list", .type "tuple"] = some (r1 || r2) := by
  refine kitAny_cons (kit_ty h1) (fun e => ?_) (fun e => by rw [e]; rfl)
  subst e
  refine kitAny_cons (kit_ty h2) (fun e => ?_) (fun e => by rw [e]; rfl)
  subst e
  rfl
theorem seq_but {H H' : Hp} {D a : Addr} {xs : List V} (nD : ∀ c u, H c = some u → c ≠ D) (bt : But D H H') (h : SqL K H a xs) : SqL K H' a xs := by
  rcases h with (h | ⟨o, h⟩) | h
  · exact .inl (.inl (bt _ _ (nD _ _ h) h))
  · exact .inl (.inr ⟨o, bt _ _ (nD _ _ h) h⟩)
  · exact .inr h
theorem tup_but {H H' : Hp} {D a : Addr} {xs : List V} (nD : ∀ c u, H c = some u → c ≠ D) (bt : But D H H') (h : SqT K H a xs) : SqT K H' a xs := by
  rcases h with (h | ⟨o, h⟩) | h
  · exact .inl (.inl (bt _ _ (nD _ _ h) h))
  · exact .inl (.inr ⟨o, bt _ _ (nD _ _ h) h⟩)
  · exact .inr h
theorem nk_false {k : Nat} {f : Addr} {fd : FuncData} {ps : List Str} : FnOk P w K mg base CX0 k f fd ps (fun _ _ _ _ => False) := ⟨fun _ _ _ _ h => h.elim, fun _ _ _ _ _ _ _ _ _ _ _ _ _ h => h.elim⟩
def sp__law_letters (K : PySem.W.Frag) : Sp := fun vs H Q _ => ∃ (b lb : Addr) (L : List Nat) (k : Nat), vs = [.ref b, .str (S L), .int k] ∧ Bag H b lb ∧ k ≤ L.length ∧ L.length ≤ 1000 ∧ ∀ H' r, List.Sublist r L → r.length = k → But b H H' → Bag H' b lb → Q (.str (S r)) H'
theorem sub_next {L r : List Nat} {low z : Nat} (h : List.Sublist r (L.take low)) (hl : low ≤ z) (hz : z < L.length) : List.Sublist (r ++ [L[z]]) (L.take (z + 1)) := by
  rw [List.take_add_one, List.getElem?_eq_getElem hz]
  refine List.Sublist.append ?_ (List.Sublist.refl _)
  exact h.trans (List.take_sublist_take_left hl)
def lower : List Nat := ("abcdefghijklmnopqrstuvwxyz" : Str).cps.toList
def sp__law_some_faces (K : PySem.W.Frag) : Sp := fun vs H Q _ => ∃ (b lb : Addr) (m : Nat), vs = [.ref b, .int m] ∧ Bag H b lb ∧ 0 < m ∧ m ≤ 26 ∧ ∀ H' r, List.Sublist r lower → 0 < r.length → r.length ≤ m → But b H H' → Bag H' b lb → Q (.str (S r)) H'
theorem lower_len : lower.length = 26 := by decide +kernel
/-- a sign of a text -/
theorem of_str {H : Hp} {b : Addr} {l : List Nat} {v : V} (h : v ∈ l.map sgn) : ∃ c ∈ l, v = sgn c := by
  obtain ⟨c, hc, e⟩ := List.mem_map.mp h
  exact ⟨c, hc, e.symm⟩
def sp__law_some_room (K : PySem.W.Frag) : Sp := fun vs H Q _ => ∃ (b lb : Addr) (fs : List Nat), vs = [.ref b, .str (S fs)] ∧ Bag H b lb ∧ 0 < fs.length ∧ fs.length ≤ 100 ∧ ∀ H' n e s w, n ∈ fs → e ∈ fs → s ∈ fs → w ∈ fs → But b H H' → Bag H' b lb → Q (.str (S4 n e s w)) H'
def sp__law_some_cut (K : PySem.W.Frag) : Sp := fun vs H Q _ => ∃ (b lb : Addr) (fs : List Nat), vs = [.ref b, .str (S fs)] ∧ Bag H b lb ∧ 0 < fs.length ∧ fs.length ≤ 100 ∧ ∀ H' g x y, (g = 124 ∨ g = 45) → x ∈ fs → y ∈ fs → But b H H' → Bag H' b lb → Q (.str (S3 g x y)) H'
def sp__law_string (K : PySem.W.Frag) : Sp := fun vs H Q _ => ∃ (b lb : Addr) (fs : List Nat) (m : Nat), vs = [.ref b, .str (S fs), .int m] ∧ Bag H b lb ∧ 0 < fs.length ∧ fs.length ≤ 100 ∧ m ≤ 1000 ∧ ∀ H' r, (∀ c ∈ r, c ∈ fs) → r.length ≤ m → But b H H' → Bag H' b lb → Q (.str (S r)) H'
theorem joinL_ones : ∀ r : List Nat, TL.joinL [] (r.map fun c => [c]) = r
  | [] => rfl
  | [c] => rfl
  | c :: d :: r => by
    show [c] ++ ([] ++ TL.joinL [] ((d :: r).map fun c => [c])) = c :: d :: r
    rw [joinL_ones (d :: r)]
    rfl
theorem join_ones (r : List Nat) : Txt.join (S []) ((r.map fun c => [c]).map S) = S r := by
  rw [SX.join_S, joinL_ones]
theorem lens_ones (r : List Nat) : (((r.map fun c => [c]).map S).map (·.length)).sum = r.length := by
  induction r with
  | nil => rfl
  | cons c r ih =>
    rw [List.map_cons, List.map_cons, List.map_cons, List.sum_cons, ih, List.length_cons]
    show 1 + r.length = r.length + 1
    omega
def sp__law_split (K : PySem.W.Frag) : Sp := fun vs H Q _ => ∃ (n e s w sg x y : Nat), vs = [.str (S4 n e s w), .str (S3 sg x y)] ∧ ∀ p, H p = none → Q (.ref p) (upd H p (.lst ((partsC n e s w sg x y).map V.str)))
theorem sub4_1 {a b c d : Nat} : cutS (S4 a b c d) (some 1) none = S [b, c, d] := S_sub [a, b, c, d] 1
theorem sub4_2 {a b c d : Nat} : cutS (S4 a b c d) (some 2) none = S [c, d] := S_sub [a, b, c, d] 2
theorem to4_2 {a b c d : Nat} : cutS (S4 a b c d) none (some 2) = S [a, b] := S_to [a, b, c, d] 2
theorem to4_3 {a b c d : Nat} : cutS (S4 a b c d) none (some 3) = S [a, b, c] := S_to [a, b, c, d] 3
def swp {α : Type} : List α → List α → List α
  | [], [a, b] => [b, a]
  | _, _ => []
theorem swp_vals {vs : List V} {us : List Value} {zs : List V} {ws : List Value} (r : Vals vs us) (q : Vals zs ws) : Vals (swp vs zs) (swp us ws) := by
  cases r with
  | cons _ _ => exact .nil
  | nil =>
    cases q with
    | nil => exact .nil
    | cons q1 t =>
      cases t with
      | nil => exact .nil
      | cons q2 t =>
        cases t with
        | nil => exact .cons q2 (.cons q1 .nil)
        | cons _ _ => exact .nil
theorem kb_swap {K : PySem.W.Frag} {x : Str} {st : Stmt} {p1 p2 : Str}
    (h : ∀ (kV doc pm : Value) (an : Option Addr) (cdv ct : Value) (u v : Value), bindArgs (PySem.W.fnOf x x (defArgs st) (defBody st) (defScope st) .none kV doc pm an cdv ct) ⟨[], [(p2, u), (p1, v)]⟩ = pure [(p1, v), (p2, u)]) :
    KB K x st [p1, p2] [p2, p1] swp swp := by
  intro f fd F
  obtain ⟨oc, od, kV, doc, pm, an, cdv, ct, osl, rfl, lk, hcd⟩ := F.ex
  refine ⟨fun s us ws _ hl => ?_, fun r q => swp_vals r q⟩
  match us, ws, hl with
  | [], [u, v], _ => exact .of_eq (h kV doc pm an cdv ct u v)
  | [], [], hl => exact absurd (show 0 = 2 from hl) (by decide)
  | [], [_], hl => exact absurd (show 0 = 2 from hl) (by decide)
  | [], _ :: _ :: _ :: _, hl => exact absurd (show 0 = 2 from hl) (by decide)
  | _ :: _, ws, hl => exact absurd (show 0 = 2 from hl) (by decide)
structure St3 (H : Hp) (b l g : Addr) (gl : List Nat) : Prop where
  bag : Bag H b l
  gn : H g = some (.lst (gl.map sgn))
  gb : g ≠ b
  gz : g ≠ l
theorem St3.same (s : St3 H b l g gl) (q : Same H H') : St3 H' b l g gl := ⟨s.bag.same q, q _ _ s.gn, s.gb, s.gz⟩
theorem St3.new (s : St3 H b l g gl) (n : H p = none) : St3 (upd H p o) b l g gl := s.same (same_upd n)
theorem St3.drawn (s : St3 H b l g gl) (q : But b H H') (B : Bag H' b l) : St3 H' b l g gl := ⟨B, q _ _ s.gb s.gn, s.gb, s.gz⟩
/-- a value that is no text, by the heap -/
def NS (H : Hp) (v : V) : Prop := v = .non ∨ (∃ i, v = .int i) ∨ (∃ c, v = .bl c) ∨ (∃ p xs, v = .ref p ∧ H p = some (.lst xs)) ∨ ∃ p xs, v = .ref p ∧ H p = some (.tup xs)
theorem NS.same {H H' : Hp} {v : V} (n : NS H v) (q : Same H H') : NS H' v := by
  rcases n with e | e | e | ⟨p, xs, e, h⟩ | ⟨p, xs, e, h⟩
  · exact .inl e
  · exact .inr (.inl e)
  · exact .inr (.inr (.inl e))
  · exact .inr (.inr (.inr (.inl ⟨p, xs, e, q _ _ h⟩)))
  · exact .inr (.inr (.inr (.inr ⟨p, xs, e, q _ _ h⟩)))
theorem NS.not {K : PySem.W.Frag} {H : Hp} {v : V} (n : NS H v) : isStr v = false ∧ NotS K H v := by
  rcases n with rfl | ⟨i, rfl⟩ | ⟨c, rfl⟩ | ⟨p, xs, rfl, h⟩ | ⟨p, xs, rfl, h⟩
  · exact ⟨rfl, "NoneType", .base .non, by decide +kernel⟩
  · exact ⟨rfl, "int", .base (.int i), by decide +kernel⟩
  · exact ⟨rfl, "bool", .base (.bl c), by decide +kernel⟩
  · exact ⟨rfl, "list", .base (.lst h), by decide +kernel⟩
  · exact ⟨rfl, "tuple", .base (.tup h), by decide +kernel⟩
theorem NS.b {H : Hp} {v : V} (n : NS H v) (fs : Str) : bString v fs = false ∧ bRoom v fs = false ∧ bCut v fs = false := by
  have e := (n.not (K := default)).1
  refine ⟨?_, ?_, ?_⟩
  · unfold bString
    rw [e]
    rfl
  · unfold bRoom bString
    rw [e]
    rfl
  · unfold bCut
    rw [e]
    rfl
theorem mem_all {l fs : List Nat} (h : ∀ c ∈ l, c ∈ fs) : (l.all fun c => decide (c ∈ fs)) = true := by
  rw [List.all_eq_true]
  intro c hc
  exact decide_eq_true (h c hc)
theorem not_all {l fs : List Nat} {c : Nat} (hc : c ∈ l) (h : c ∉ fs) : (l.all fun c => decide (c ∈ fs)) = false := by
  rw [List.all_eq_false]
  exact ⟨c, hc, by rw [decide_eq_false h]; exact Bool.false_ne_true⟩
theorem bString_yes {l fs : List Nat} (h : ∀ c ∈ l, c ∈ fs) : bString (.str (S l)) (S fs) = true := mem_all h
theorem bString_no {l fs : List Nat} {c : Nat} (hc : c ∈ l) (h : c ∉ fs) : bString (.str (S l)) (S fs) = false := not_all hc h
theorem bRoom_no {l fs : List Nat} {c : Nat} (hc : c ∈ l) (h : c ∉ fs) : bRoom (.str (S l)) (S fs) = false := by
  unfold bRoom
  rw [bString_no hc h]
  rfl
theorem bRoom_len {l fs : List Nat} (h : l.length ≠ 4) : bRoom (.str (S l)) (S fs) = false := by
  unfold bRoom
  rw [show decide ((strOf (.str (S l))).cps.size = 4) = false from decide_eq_false h, Bool.and_false]
theorem bRoom_is {l fs : List Nat} (h : ∀ c ∈ l, c ∈ fs) : bRoom (.str (S l)) (S fs) = decide (l.length = 4) := by
  unfold bRoom
  rw [bString_yes h]
  rfl
theorem bCut_S (l fs : List Nat) : bCut (.str (S l)) (S fs) = (decide (l.length = 3) && decide (l.getD 0 0 ∈ [124, 45]) && (l.drop 1).all fun c => decide (c ∈ fs)) := rfl
theorem bCut_yes {g x y : Nat} {fs : List Nat} (hg : g = 124 ∨ g = 45) (hx : x ∈ fs) (hy : y ∈ fs) : bCut (.str (S3 g x y)) (S fs) = true := by
  show bCut (.str (S [g, x, y])) (S fs) = true
  rw [bCut_S, show ([g, x, y].drop 1) = [x, y] from rfl, mem_all (by
    intro c hc
    rcases List.mem_cons.mp hc with e | e
    · rw [e]
      exact hx
    · rw [List.mem_singleton.mp e]
      exact hy)]
  rcases hg with rfl | rfl <;> rfl
theorem bCut_len {l fs : List Nat} (h : l.length ≠ 3) : bCut (.str (S l)) (S fs) = false := by
  rw [bCut_S, decide_eq_false h]
  rfl
theorem bCut_sign {g x y : Nat} {fs : List Nat} (h1 : g ≠ 124) (h2 : g ≠ 45) : bCut (.str (S [g, x, y])) (S fs) = false := by
  rw [bCut_S, show decide (([g, x, y] : List Nat).getD 0 0 ∈ [124, 45]) = false from decide_eq_false (by
    intro q
    rcases List.mem_cons.mp q with e | e
    · exact h1 e
    · exact h2 (List.mem_singleton.mp e)), Bool.and_false]
  rfl
theorem bCut_face {g x y c : Nat} {fs : List Nat} (hc : c = x ∨ c = y) (h : c ∉ fs) : bCut (.str (S [g, x, y])) (S fs) = false := by
  rw [bCut_S, show ([g, x, y].drop 1) = [x, y] from rfl, not_all (c := c) (by
    rcases hc with rfl | rfl
    · exact List.mem_cons_self
    · exact List.mem_cons_of_mem _ List.mem_cons_self) h, Bool.and_false]
/-- the letters that are none of few letters -/
theorem gone_pos : ∀ (L fs : List Nat), L.Nodup → L.length ≤ (L.filter fun c => !decide (c ∈ fs)).length + fs.length
  | L, [], _ => by
    rw [List.filter_eq_self.mpr (fun c _ => by simp)]
    exact Nat.le_add_right _ _
  | L, f :: fs, nd => by
    have ih := gone_pos L fs nd
    have h : (L.filter fun c => !decide (c ∈ fs)).length ≤ (L.filter fun c => !decide (c ∈ f :: fs)).length + 1 := by
      have e : (L.filter fun c => !decide (c ∈ f :: fs)) = (L.filter fun c => !decide (c ∈ fs)).filter fun c => !decide (c = f) := by
        rw [List.filter_filter]
        refine List.filter_congr fun c _ => ?_
        by_cases h1 : c = f
        · subst h1
          simp
        · by_cases h2 : c ∈ fs <;> simp [h1, h2]
      rw [e]
      have nd2 : (L.filter fun c => !decide (c ∈ fs)).Nodup := nd.filter _
      generalize (L.filter fun c => !decide (c ∈ fs)) = M at nd2
      clear e ih
      induction M with
      | nil => exact Nat.zero_le _
      | cons m M ihM =>
        have nd3 := List.nodup_cons.mp nd2
        rw [List.filter_cons]
        by_cases hm : m = f
        · subst hm
          have e2 : (M.filter fun c => !decide (c = m)) = M := List.filter_eq_self.mpr fun c hc => by
            have : c ≠ m := fun q => nd3.1 (q ▸ hc)
            simp [this]
          rw [if_neg (by simp), e2, List.length_cons]
          exact Nat.le_refl _
        · rw [if_pos (by simp [hm]), List.length_cons, List.length_cons]
          have := ihM nd3.2
          omega
    rw [List.length_cons]
    omega
theorem lower_nd : lower.Nodup := by decide +kernel
theorem low_range {c : Nat} (h : c ∈ lower) : 97 ≤ c ∧ c ≤ 122 := by
  have : ∀ c ∈ lower, 97 ≤ c ∧ c ≤ 122 := by decide +kernel
  exact this c h
/-- lists of truth values as data -/
theorem dp_bls {K : PySem.W.Frag} {H : Hp} : ∀ bs : List Bool, DpAll K H (bs.map V.bl) (bs.map PyData.bool)
  | [] => .nil
  | b :: bs => .cons (.bl b) (dp_bls bs)
theorem deep_bls {bs : List Bool} (h : bs.length ≤ 1000) : Deep 3 (.list (bs.map PyData.bool)) := by
  unfold Deep
  refine ⟨by rw [List.length_map]; exact h, fun d hd => ?_⟩
  obtain ⟨c, _, rfl⟩ := List.mem_map.mp hd
  unfold Deep
  trivial
theorem dp_strs {K : PySem.W.Frag} {H : Hp} : ∀ zs : List Str, DpAll K H (zs.map V.str) (zs.map PyData.str)
  | [] => .nil
  | b :: bs => .cons (.str b) (dp_strs bs)
theorem deep_list {n : Nat} {ds : List PyData} (h : ds.length ≤ 1000) (q : ∀ d ∈ ds, Deep n d) : Deep (n + 1) (.list ds) := by
  unfold Deep
  exact ⟨h, q⟩
theorem deep_strs {n : Nat} {zs : List Str} (h : zs.length ≤ 1000) : Deep (n + 1) (.list (zs.map PyData.str)) := by
  unfold Deep
  refine ⟨by rw [List.length_map]; exact h, fun d hd => ?_⟩
  obtain ⟨c, _, rfl⟩ := List.mem_map.mp hd
  unfold Deep
  trivial
theorem parts_len {n e s w g x y : Nat} : (partsC n e s w g x y).length = 2 := by
  unfold partsC
  split <;> rfl
theorem same_bls {H : Hp} {p p' : Addr} {bs : List Bool} {Q : VK} {E : XK} (h : H p = some (.lst (bs.map V.bl))) (h' : H p' = some (.lst (bs.map V.bl))) (hl : bs.length ≤ 1000) (q : ∀ H', Same H H' → Q (.bl true) H') : sp__law_same K 3 [.ref p, .ref p'] H Q E :=
  ⟨_, _, .list (bs.map PyData.bool), rfl, .lst (SqL.of h) (dp_bls bs), .lst (SqL.of h') (dp_bls bs), deep_bls hl, q⟩
end
end FW
namespace L2
open PySem PySem.Spec PySem.Calls PyProof.Rows
section
variable {X : Cx}
/-! ### a text backwards -/
def tRevS (te : TE) : TE := fun σ H Q => te σ H fun x H1 => ∃ z : Str, x = .str z ∧ z.length ≤ sizeLine ∧ Q (.str ⟨z.cps.toList.reverse.toArray⟩) H1
theorem rev_pick (z : Str) : (Builtin.Str.strSliceIndices none none (-1) z.length).filterMap (z.cps[·]?) = z.cps.toList.reverse := by
  have e : Builtin.Str.strSliceIndices none none (-1) z.length = (List.range z.cps.size).reverse := by
    unfold Builtin.Str.strSliceIndices
    show sliceRange ((z.cps.size : Int) - 1) (-1) (-1) = _
    rw [PySem.W.krv_sliceRange, PySem.W.krv_range]
  rw [e, List.filterMap_reverse]
  have h := PySem.W.krv_all z.cps
  rw [h]
theorem pe_revS {e : Expr} {te : TE} {k : Nat} {p1 p2 p3 pos : Pos} (he : PE X e te) : PE X (.Subscript e (.Slice none none (some (.UnaryOp .USub (.Constant (.int 1) k p1) p2)) p3) pos) (tRevS te) := by
  refine ⟨fun pins s σ H Q I h => ?_⟩
  refine Subscript_ (thn (he.run pins s σ H _ I h) fun v s1 ⟨x, H1, I1, r1, q1⟩ => ?_)
  obtain ⟨z, ex, hz, q⟩ := q1
  subst ex
  obtain ⟨t, rfl⟩ := r1
  have hst : PO X (some (.UnaryOp .USub (.Constant (.int 1) k p1) p2)) (tPart (tUn (rU fun i => .int (-i)) (tC (.int 1)))) := po_some (pe_un un_neg pe_int)
  refine wpAny_Slice (thn (po_none.run pins s1 σ H1 (fun o H2 => o = none ∧ H2 = H1) I1 ⟨rfl, rfl⟩) fun vl s2 ⟨l, H2, I2, pl, el, e2⟩ => ?_)
  subst el e2
  refine thn (po_none.run pins s2 σ H2 (fun o H3 => o = none ∧ H3 = H2) I2 ⟨rfl, rfl⟩) fun vu s3 ⟨u, H3, I3, pu, eu, e3⟩ => ?_
  subst eu e3
  refine thn (hst.run pins s3 σ H3 (fun o H4 => o = some (-1) ∧ H4 = H3) I3 ⟨1, rfl, -1, rfl, rfl, rfl⟩) fun vs s4 ⟨o, H4, I4, ps, eo, e4⟩ => ?_
  subst eo e4
  obtain ⟨lo, rfl, el⟩ := IsPart.raw pl
  obtain ⟨up, rfl, eu⟩ := IsPart.raw pu
  obtain ⟨st, rfl, es⟩ := IsPart.raw ps
  have I5 : Inv X pins σ H4 { s4 with heap := s4.heap.push { cls := .type "slice", data := .fields #[partValue lo, partValue up, partValue st] } } := I4.kept (t' := s4.toks) fun b ob q => Heap.get?_push_of_some _ q
  show wpAny (model X.prog X.w) X.A (subscriptTail e (.Slice none none (some (.UnaryOp .USub (.Constant (.int 1) k p1) p2)) p3) (.str z t) (.ref s4.heap.objs.size)) (EP X pins σ Q) X.xe { s4 with heap := s4.heap.push { cls := .type "slice", data := .fields #[partValue lo, partValue up, partValue st] } }
  refine tail_any (ops := [.str z t, .ref s4.heap.objs.size]) (typeIs_str _ z t) (PySem.F.slot_str_getitem.lookup) ?_ (by with_unfolding_all rfl)
  refine wpAny_getItem_str_slice (l := lo) (u := up) (st := st) ⟨_, Heap.get?_push_size _ rfl, rfl, rfl⟩ (by rw [es]; rfl) ?_
  have hl : z.cps.toList.reverse.length ≤ sizeLine := by
    rw [List.length_reverse, Array.length_toList]
    exact hz
  have em : PySem.sliceMade z t lo up st = Made.str ⟨z.cps.toList.reverse.toArray⟩ := by
    unfold PySem.sliceMade PySem.slicePicked
    rw [el, eu, es]
    show (if (((-1 : Int) == 1) && _) = true then _ else Made.str ⟨((Builtin.Str.strSliceIndices none none (-1) z.length).filterMap (z.cps[·]?)).toArray⟩) = _
    rw [rev_pick]
    rfl
  rw [em]
  exact ⟨by show z.cps.toList.reverse.toArray.size ≤ sizeLine; rw [List.size_toArray]; exact hl, .str _, H4, I5.tok _, ⟨_, rfl⟩, q⟩
end
end L2
namespace FW
open PySem PySem.Spec PyProof.Rows L2
section
variable {P : Program} {w : World} {K : PySem.W.Frag} {mg : Str → Option Value} {base : Heap}
/-! ### ascending choices of letters -/
def ascB : List Nat → Bool
  | [] => true
  | [_] => true
  | a :: b :: r => decide (a < b) && ascB (b :: r)
theorem asc_next : ∀ (l : List Nat) (i : Nat) (h : i + 1 < l.length), ascB (l.take (i + 1 + 1)) = (ascB (l.take (i + 1)) && decide (l[i] < l[i + 1]))
  | [], _, h => absurd h (Nat.not_lt_zero _)
  | [_], i, h => absurd h (by simp)
  | a :: b :: r, 0, h => by
    show (decide (a < b) && ascB [b]) = (true && decide (a < b))
    show (decide (a < b) && true) = (true && decide (a < b))
    rw [Bool.and_true, Bool.true_and]
  | a :: b :: r, i + 1, h => by
    have ih := asc_next (b :: r) i (by simpa using h)
    show (decide (a < b) && ascB ((b :: r).take (i + 1 + 1))) = ((decide (a < b) && ascB ((b :: r).take (i + 1))) && _)
    rw [ih, Bool.and_assoc]
    rfl
theorem asc_sorted : ∀ {l : List Nat}, l.Pairwise (· < ·) → ascB l = true
  | [], _ => rfl
  | [_], _ => rfl
  | a :: b :: r, h => by
    have h1 := List.pairwise_cons.mp h
    show (decide (a < b) && ascB (b :: r)) = true
    rw [decide_eq_true (h1.1 b List.mem_cons_self), asc_sorted h1.2]
    rfl
theorem lt_sgn (x y : Nat) : decide (([x] : List Nat) < [y]) = decide (x < y) := by
  by_cases h : x < y
  · rw [decide_eq_true h]
    exact decide_eq_true (List.Lex.rel h)
  · rw [decide_eq_false h]
    refine decide_eq_false fun q => h ?_
    cases q with
    | rel r => exact r
    | cons r => cases r
def bChoice (v : V) (L : List Nat) (m : Int) : Bool := isStr v && (decide ((1 : Int) ≤ ((strOf v).cps.size : Int)) && decide (((strOf v).cps.size : Int) ≤ m)) && ((strOf v).cps.toList.all fun c => decide (c ∈ L)) && ascB (strOf v).cps.toList
theorem bChoice_1 {z : Str} {L : List Nat} {m : Int} (h : decide ((1 : Int) ≤ (z.length : Int)) = false) : bChoice (.str z) L m = false := by
  unfold bChoice
  rw [show decide ((1 : Int) ≤ ((strOf (V.str z)).cps.size : Int)) = false from h, Bool.false_and, Bool.and_false, Bool.false_and, Bool.false_and]
theorem bChoice_2 {z : Str} {L : List Nat} {m : Int} (h : decide ((z.length : Int) ≤ m) = false) : bChoice (.str z) L m = false := by
  unfold bChoice
  rw [show decide (((strOf (V.str z)).cps.size : Int) ≤ m) = false from h, Bool.and_false, Bool.and_false, Bool.false_and, Bool.false_and]
theorem bChoice_3 {z : Str} {L : List Nat} {m : Int} (h : decide ((1 : Int) ≤ (z.length : Int)) = true) (h2 : decide ((z.length : Int) ≤ m) = true) : bChoice (.str z) L m = (bString (.str z) (S L) && ascB z.cps.toList) := by
  unfold bChoice
  rw [show decide ((1 : Int) ≤ ((strOf (V.str z)).cps.size : Int)) = true from h, show decide (((strOf (V.str z)).cps.size : Int) ≤ m) = true from h2]
  rfl
/-- a value that may be asked: a text that is not too long, or another thing of known kind -/
def Askd (K : PySem.W.Frag) (H : Hp) (v : V) : Prop := (isStr v = true ∧ (strOf v).cps.size ≤ 100000) ∨ (isStr v = false ∧ NotS K H v)
def upper : List Nat := ("ABCDEFGHIJKLMNOPQRSTUVWXYZ" : Str).cps.toList
abbrev bFaces (v : V) : Bool := bChoice v lower 6
abbrev bCutters (v : V) : Bool := bChoice v upper 4
def bAddress (v : V) : Bool := bString v (S [48, 49])
def sp_is_ascending (K : PySem.W.Frag) : Sp := fun vs H Q _ => ∃ l : List Nat, vs = [.str (S l)] ∧ l.length ≤ 100000 ∧ ∀ H', Same H H' → Q (.bl (ascB l)) H'
def sp_is_choice (K : PySem.W.Frag) : Sp := fun vs H Q _ => ∃ (v : V) (L : List Nat) (m : Int), vs = [v, .str (S L), .int m] ∧ Askd K H v ∧ ∀ H', Same H H' → Q (.bl (bChoice v L m)) H'
def sp_is_faces (K : PySem.W.Frag) : Sp := fun vs H Q _ => ∃ v : V, vs = [v] ∧ Askd K H v ∧ ∀ H', Same H H' → Q (.bl (bFaces v)) H'
def sp_is_cutters (K : PySem.W.Frag) : Sp := fun vs H Q _ => ∃ v : V, vs = [v] ∧ Askd K H v ∧ ∀ H', Same H H' → Q (.bl (bCutters v)) H'
def sp_is_address (K : PySem.W.Frag) : Sp := fun vs H Q _ => ∃ v : V, vs = [v] ∧ Askd K H v ∧ ∀ H', Same H H' → Q (.bl (bAddress v)) H'
/-- numbers -/
def bNumber (v : V) (lo hi : Int) : Bool := match v with
  | .int i => decide (lo ≤ i) && decide (i ≤ hi)
  | _ => false
def isNum : V → Bool
  | .int _ => true
  | .bl _ => true
  | _ => false
def NotI (K : PySem.W.Frag) (H : Hp) (v : V) : Prop := ∃ T : String, TyX K H v (.type T) ∧ kitB T "int" = some false
def sp_is_number (K : PySem.W.Frag) : Sp := fun vs H Q _ => ∃ (v : V) (lo hi : Int), vs = [v, .int lo, .int hi] ∧ (isNum v = true ∨ (isNum v = false ∧ NotI K H v)) ∧ Q (.bl (bNumber v lo hi)) H
def sp__law_rising (K : PySem.W.Frag) : Sp := fun vs H Q _ => ∃ (l L : List Nat) (m : Int), vs = [.str (S l), .str (S L), .int m] ∧ l.length ≤ 100000 ∧ ∀ H', Same H H' → Q (.bl (bChoice (.str (S l)) L m)) H'
/-- one keyword; three keywords backwards -/
def one1 {α : Type} : List α → List α → List α
  | [], [a] => [a]
  | _, _ => []
def rev3 {α : Type} : List α → List α → List α
  | [], [a, b, c] => [c, b, a]
  | _, _ => []
theorem one1_vals {vs : List V} {us : List Value} {zs : List V} {ws : List Value} (r : Vals vs us) (q : Vals zs ws) : Vals (one1 vs zs) (one1 us ws) := by
  cases r with
  | cons _ _ => exact .nil
  | nil =>
    cases q with
    | nil => exact .nil
    | cons q1 t =>
      cases t with
      | nil => exact .cons q1 .nil
      | cons _ _ => exact .nil
theorem rev3_vals {vs : List V} {us : List Value} {zs : List V} {ws : List Value} (r : Vals vs us) (q : Vals zs ws) : Vals (rev3 vs zs) (rev3 us ws) := by
  cases r with
  | cons _ _ => exact .nil
  | nil =>
    cases q with
    | nil => exact .nil
    | cons q1 t =>
      cases t with
      | nil => exact .nil
      | cons q2 t =>
        cases t with
        | nil => exact .nil
        | cons q3 t =>
          cases t with
          | nil => exact .cons q3 (.cons q2 (.cons q1 .nil))
          | cons _ _ => exact .nil
theorem kb_one {K : PySem.W.Frag} {x : Str} {st : Stmt} {p1 : Str}
    (h : ∀ (kV doc pm : Value) (an : Option Addr) (cdv ct : Value) (u : Value), bindArgs (PySem.W.fnOf x x (defArgs st) (defBody st) (defScope st) .none kV doc pm an cdv ct) ⟨[], [(p1, u)]⟩ = pure [(p1, u)]) :
    KB K x st [p1] [p1] one1 one1 := by
  intro f fd F
  obtain ⟨oc, od, kV, doc, pm, an, cdv, ct, osl, rfl, lk, hcd⟩ := F.ex
  refine ⟨fun s us ws _ hl => ?_, fun r q => one1_vals r q⟩
  match us, ws, hl with
  | [], [u], _ => exact .of_eq (h kV doc pm an cdv ct u)
  | [], [], hl => exact absurd (show 0 = 1 from hl) (by decide)
  | [], _ :: _ :: _, hl => exact absurd (show 0 = 1 from hl) (by decide)
  | _ :: _, ws, hl => exact absurd (show 0 = 1 from hl) (by decide)
theorem kb_rev3 {K : PySem.W.Frag} {x : Str} {st : Stmt} {p1 p2 p3 : Str}
    (h : ∀ (kV doc pm : Value) (an : Option Addr) (cdv ct : Value) (u v t : Value), bindArgs (PySem.W.fnOf x x (defArgs st) (defBody st) (defScope st) .none kV doc pm an cdv ct) ⟨[], [(p3, u), (p2, v), (p1, t)]⟩ = pure [(p1, t), (p2, v), (p3, u)]) :
    KB K x st [p1, p2, p3] [p3, p2, p1] rev3 rev3 := by
  intro f fd F
  obtain ⟨oc, od, kV, doc, pm, an, cdv, ct, osl, rfl, lk, hcd⟩ := F.ex
  refine ⟨fun s us ws _ hl => ?_, fun r q => rev3_vals r q⟩
  match us, ws, hl with
  | [], [u, v, t], _ => exact .of_eq (h kV doc pm an cdv ct u v t)
  | [], [], hl => exact absurd (show 0 = 3 from hl) (by decide)
  | [], [_], hl => exact absurd (show 0 = 3 from hl) (by decide)
  | [], [_, _], hl => exact absurd (show 0 = 3 from hl) (by decide)
  | [], _ :: _ :: _ :: _ :: _, hl => exact absurd (show 0 = 3 from hl) (by decide)
  | _ :: _, ws, hl => exact absurd (show 0 = 3 from hl) (by decide)
theorem but_fresh {H H1 H' : Hp} {D : Addr} (s : Same H H1) (n : H1 D = none) (b : But D H1 H') : Same H H' := fun c u e => b c u (ne_of_none (s _ _ e) n) (s _ _ e)
end
end FW
namespace FW
open PySem PySem.Spec PyProof.Rows L2
def inCls (c : Stmt) (j : Nat) : Stmt := match c with
  | .ClassDef _ _ _ b _ _ _ _ _ _ _ => b.getD j (.Pass ⟨0, 0, 0, 0⟩)
  | s => s
def bLetter (v : V) (L : List Nat) : Bool := isStr v && decide ((strOf v).cps.size = 1) && decide ((strOf v).cps.toList.getD 0 0 ∈ L)
section
variable {P : Program} {w : World} {K : PySem.W.Frag} {mg : Str → Option Value} {base : Heap}
def sp_is_letter (K : PySem.W.Frag) : Sp := fun vs H Q _ => ∃ (v : V) (L : List Nat), vs = [v, .str (S L)] ∧ Askd K H v ∧ ∀ H', Same H H' → Q (.bl (bLetter v L)) H'
/-- what is told of an error class of the program: its name, its __init__ at fI -/
structure Kls (K : PySem.W.Frag) (mg : Str → Option Value) (C fI : Addr) (z : String) : Prop where
  g : mg (Str.ofString z) = some (.ref C)
  oex : OexC K C
  cle : ClsE K C
  nam : NameC K C (Str.ofString z)
  xf : XfC K C
  ncode : PySem.W.findIn K (.ref C) "code" = some none
  init : PySem.W.findIn K (.ref C) "__init__" = some (some (.ref fI))
  tI : PySem.W.typeIn K (.ref fI) = some (.type "function")
/-- __init__(self, f): self.f = f; self.code = the class's name -/
def sp_init (K : PySem.W.Frag) (f : String) : Sp := fun vs H Q _ => ∃ (a C : Addr) (v : V) (z : Str), vs = [.ref a, v] ∧ H a = some (exo a C none) ∧ OexC K C ∧ ClsE K C ∧ NameC K C z ∧ PySem.W.findIn K (.ref C) (Str.ofString f) = some none ∧ PySem.W.findIn K (.ref C) "code" = some none ∧
  ∀ dx, H dx = none → dx ≠ a → Q .non (upd (upd (upd H dx (exd dx [(Str.ofString f, v)])) a (exo a C (some dx))) dx (exd dx [("code", .str z), (Str.ofString f, v)]))
/-- the dict of an error that bears one value -/
def Err1 (f : String) (z : String) (v : V) : HO := .xd [("code", .str (Str.ofString z)), (Str.ofString f, v)]
theorem err_heap {H : Hp} {a d : Addr} {o1 o2 o3 o4 u : HO} (na : H a = none) (hda : d ≠ a) : upd (del (upd (upd (upd (upd H a o1) d o2) a o3) d o4) a) d u = upd H d u := by
  funext b
  by_cases hb : b = d
  · rw [hb, upd_same, upd_same]
  · rw [upd_ne hb, upd_ne hb]
    by_cases ha : b = a
    · rw [ha, del_same, na]
    · rw [del_ne ha, upd_ne hb, upd_ne ha, upd_ne hb, upd_ne ha]
/-- C(e): the error that its __init__ leaves -/
theorem mk1 {x f : String} {C fI : Addr} {H1 : Hp} {v : V} {Q : XK} {E : XK} (T : Kls K mg C fI x) (nf : PySem.W.findIn K (.ref C) (Str.ofString f) = some none) (h : ∀ d, H1 d = none → Q (.ref C) (some d) (upd H1 d (Err1 f x v))) :
    [v].length ≤ 1000 ∧ ∀ a, H1 a = none → sp_init K f (.ref a :: ([v] ++ [])) (upd H1 a (exo a C none)) (fun v H2 => v = .non ∧ ∃ (d : Addr) (fs : List (Str × V)), H2 a = some (exo a C (some d)) ∧ H2 d = some (exd d fs) ∧ H1 d = none ∧ Q (.ref C) (some d) (upd (del H2 a) d (.xd fs))) E := by
  refine ⟨(show 1 ≤ 1000 by decide), fun a na => ⟨a, C, v, Str.ofString x, rfl, upd_same, T.oex, T.cle, T.nam, nf, T.ncode, fun d hd hda => ⟨rfl, d, _, ?_, upd_same, ?_, ?_⟩⟩⟩
  · rw [upd_ne (Ne.symm hda), upd_same]
  · rwa [upd_ne hda] at hd
  · rw [upd_ne hda] at hd
    rw [err_heap na hda]
    exact h d hd
/-- the promise of a def that checks its first argument -/
def FieldIs (K : PySem.W.Frag) (C : Addr) (fs : List (Str × V)) (z : Str) (v : V) : Prop :=
  if z ∈ (["InvalidLine", "InvalidStep", "InvalidTable", "InvalidBad", "InvalidPlan", "UnknownRoom"] : List Str) then PySem.W.findIn K (.ref C) "at" = some none ∧ fs.lookup (Str.ofString "at") = some v
  else if z ∈ (["TooMany", "Full"] : List Str) then PySem.W.findIn K (.ref C) "most" = some none ∧ fs.lookup (Str.ofString "most") = some v
  else if z ∈ (["InvalidText", "InvalidPage"] : List Str) then PySem.W.findIn K (.ref C) "line" = some none ∧ fs.lookup (Str.ofString "line") = some v
  else if z = "UnknownState" then PySem.W.findIn K (.ref C) "state" = some none ∧ fs.lookup (Str.ofString "state") = some v
  else if z ∈ (["InvalidPaper", "OtherFaces", "OtherCutters", "NothingLeft"] : List Str) then v = .non
  else PySem.W.findIn K (.ref C) "given" = some none ∧ fs.lookup (Str.ofString "given") = some v
/-- a caught error of the program: its class, its dict, its code, what it bears -/
def Caught (K : PySem.W.Frag) (H : Hp) (a : Addr) (z : Str) (v : V) : Prop := ∃ (C dd : Addr) (fs : List (Str × V)), H a = some (ExK (.ref C) (some dd) a) ∧ H dd = some (.xd fs) ∧ XfC K C ∧ PySem.W.findIn K (.ref C) "code" = some none ∧ fs.lookup (Str.ofString "code") = some (.str z) ∧ FieldIs K C fs z v
theorem Caught.same {H H' : Hp} {a : Addr} {z : Str} {v : V} (h : Same H H') : Caught K H a z v → Caught K H' a z v := fun ⟨C, dd, fs, h1, h2, r⟩ => ⟨C, dd, fs, h _ _ h1, h _ _ h2, r⟩
def sp__law_field (K : PySem.W.Frag) : Sp := fun vs H Q _ => ∃ (a : Addr) (z : Str) (v : V), vs = [.ref a] ∧ Caught K H a z v ∧ ∀ H', Same H H' → Q v H'
/-- what _law_try makes of what it asks -/
def TTry (K : PySem.W.Frag) (cs : List Value) : (XK → Hp → VK → Prop) → Hp → VK → Prop := fun tl H Q =>
  tl (fun cls d H1 => PySem.W.exmAny K cls cs = some true ∧ ∀ a, H1 a = none → ∃ (z : Str) (v : V), Caught K (upd H1 a (ExK cls d a)) a z v ∧ ∀ H2, Same (upd H1 a (ExK cls d a)) H2 → ∀ p, H2 p = none → Q (.ref p) (upd H2 p (.tup [.str z, v])))
    H (fun v H1 => [V.str "", v].length ≤ sizeLine ∧ ∀ p, H1 p = none → Q (.ref p) (upd H1 p (.tup [.str "", v])))
end
end FW
namespace FW
open PySem PySem.Spec PyProof.Rows L2
section
variable {X : Cx} {k j : Nat} {x : Str} {st : Stmt} {ps ks : List Str} {sp : Sp} {p pos : Pos} {e : Expr} {es : List Expr} {kws : List Keyword} {t tk : TA} {g : List Value → List Value → List Value} {gV : List V → List V → List V}
/-- a def that may raise, called where it raises nothing -/
theorem pe_cE (c : Cal X.prog X.w X.K X.mg X.base (L2.CX X.prog X.w) k x st ps sp) (hr : Room j X.A) (hk : k ≤ j) (hg : Gl X x) (ha : PA X (e :: es) t)
    (hdb : (x == ("__debug__" : Str)) = false := by decide) (he : starEach (e :: es) X.env = (false, eval e X.env) :: starEach es X.env := by rfl) (hpl : (backTo pos (starEach es X.env)).any (·.1) = false := by rfl) :
    PE X (.Call (.Name x p) (e :: es) [] pos) (tCall sp [] E0 t) := pe_cx c hr hk hg passL ha hdb he hpl
theorem pe_ck0E (c : Cal X.prog X.w X.K X.mg X.base (L2.CX X.prog X.w) k x st ps sp) (b : KB X.K x st ps ks g gV) (hr : Room j X.A) (hk : k ≤ j) (hg : Gl X x) (hkw : PK X kws tk)
    (hall : (backToKw pos (keywordEach kws X.env)).all (·.1.isSome) = true := by rfl) (hks : (backToKw pos (keywordEach kws X.env)).filterMap (·.1) = ks := by rfl)
    (hdb : (x == ("__debug__" : Str)) = false := by decide)
    (hpl : ((backTo pos (starEach [] X.env)).any (·.1) || (backToKw pos (keywordEach kws X.env)).any (·.1.isNone)) = false := by rfl) :
    PE X (.Call (.Name x p) [] kws pos) (tCallK sp gV E0 tNil tk) := by
  obtain ⟨f, fd, F, hm, fn, _⟩ := c.ex
  exact pe_callK0 F (hr.mono hk) hg hm fn.kp (b f fd fn) passL hkw hall hks hdb hpl
end
/-! ### what stands when only tables grow -/
section
variable {K : PySem.W.Frag} {H H' : Hp}
theorem ext_seq {a : Addr} {xs : List V} (e : LamX.ExtN H H') (h : SqL K H a xs) : SqL K H' a xs := by
  rcases h with (h | ⟨o, h⟩) | h
  · exact .inl (.inl (e _ _ h (fun _ z => by cases z)))
  · exact .inl (.inr ⟨o, e _ _ h (fun _ z => by cases z)⟩)
  · exact .inr h
theorem ext_tup {a : Addr} {xs : List V} (e : LamX.ExtN H H') (h : SqT K H a xs) : SqT K H' a xs := by
  rcases h with (h | ⟨o, h⟩) | h
  · exact .inl (.inl (e _ _ h (fun _ z => by cases z)))
  · exact .inl (.inr ⟨o, e _ _ h (fun _ z => by cases z)⟩)
  · exact .inr h
theorem dp_ext (e : LamX.ExtN H H') {v : V} {d : PyData} (h : Dp K H v d) : Dp K H' v d :=
  @Dp.rec K H (fun v d _ => Dp K H' v d) (fun vs ds _ => DpAll K H' vs ds) .non (fun b => .bl b) (fun i => .int i) (fun x => .str x) (fun h _ ih => .lst (ext_seq e h) ih) (fun h _ ih => .tup (ext_tup e h) ih) .nil (fun _ _ i1 i2 => .cons i1 i2) v d h
theorem ns_ext (e : LamX.ExtN H H') {v : V} (n : NS H v) : NS H' v := by
  rcases n with n | n | n | ⟨p, xs, z, h⟩ | ⟨p, xs, z, h⟩
  · exact .inl n
  · exact .inr (.inl n)
  · exact .inr (.inr (.inl n))
  · exact .inr (.inr (.inr (.inl ⟨p, xs, z, e _ _ h (fun _ q => by cases q)⟩)))
  · exact .inr (.inr (.inr (.inr ⟨p, xs, z, e _ _ h (fun _ q => by cases q)⟩)))
end
end FW
namespace FW
open PySem PySem.Spec PyProof.Rows L2
/-! ### a walk over a list or a tuple -/
def iSeq (K : PySem.W.Frag) (tl : TE) : TI := fun σ H R => tl σ H fun x H1 => ∃ a, x = .ref a ∧ (((∃ xs, SqL K H1 a xs) ∧ R (Itl K a) H1) ∨ ((∃ xs, SqT K H1 a xs) ∧ R (Itt K a) H1))
theorem pi_seq {X : Cx} {tg l : Expr} {tl : TE} (hl : PE X l tl) : PI X tg l (iSeq X.K tl) := by
  refine ⟨fun pins s σ H R I h => thn (hl.run pins s σ H _ I h) ?_⟩
  rintro v s1 ⟨x, H1, I1, r1, a, e, q1⟩
  subst e
  obtain rfl : v = Value.ref a := r1
  have fp : ∀ b ∈ [s1.heap.objs.size], FpOk X pins H1 b := fun b hb => by
    rw [List.mem_singleton.mp hb]
    exact I1.fpOk (Nat.le_refl _) (I1.hok.fresh (Nat.le_refl _))
  rcases q1 with ⟨⟨xs, hq⟩, q⟩ | ⟨⟨xs, hq⟩, q⟩
  · obtain ⟨its, rv, p, hz⟩ := I1.list hq
    exact wpAny_pyIter_list p.isList ⟨s1.heap.objs.size, [s1.heap.objs.size], _, _, H1, rfl, I1.kept (t' := s1.toks) fun b o e => Heap.get?_push_of_some _ e, turn_list a _,
      ⟨_, Heap.get?_push_size _ rfl, rfl, rfl⟩, fp, q⟩
  · obtain ⟨its, rv, p, hz⟩ := I1.tuple hq
    exact wpAny_pyIter_tuple (show s1.heap.IsTuple a its.toArray from p) ⟨s1.heap.objs.size, [s1.heap.objs.size], _, _, H1, rfl, I1.kept (t' := s1.toks) fun b o e => Heap.get?_push_of_some _ e, turn_tuple a _,
      ⟨_, Heap.get?_push_size _ rfl, rfl, rfl⟩, fp, q⟩
end FW
namespace FW
open PySem PySem.Spec PyProof.Rows L2
/-! ### enumerate(x): a list, a tuple or a text -/
theorem meets_enum1 {v : Value} {o : Obj} {B0 : Heap → Prop} (B : Begins v o B0) :
    Meets (Builtin.«enumerate.__new__» ⟨[.type "enumerate", v], []⟩) (fun _ R s => B0 s.heap ∧
      R (.ok (.ret (.ref (s.heap.push o).objs.size))) { s with heap := (s.heap.push o).push { cls := .type "enumerate", data := .fields #[.none, .bool false, .ref s.heap.objs.size, rawInt 0, .none, .none] } }) :=
  .of_wp fun prog w A R s hh => by
    obtain ⟨hp, gg, dd, tk, os⟩ := s
    obtain ⟨hb, hr⟩ := hh
    have hsub := sub_enumerate
    have go : ∀ {A' : Around} {E : Value → Shared → Prop} {Q : Value → Shared → Prop}, Q (.ref hp.objs.size) ⟨hp.push o, gg, dd, tk, os⟩ → wpAny (model prog w) A' (pyIter v) Q E ⟨hp, gg, dd, tk, os⟩ := fun q => B.iter prog w _ _ ⟨hp, gg, dd, tk, os⟩ _ hb q
    wp_walk using go
    refine wpAny_stack_any fun st => wpAny_pure ?_
    split
    · rename_i c _ _ _ _ _
      cases (c == Value.type "enumerate")
      · wp_walk using go
        exact ⟨_, rfl, hr⟩
      · wp_walk using go
        exact ⟨_, rfl, hr⟩
    · wp_walk using go
      exact ⟨_, rfl, hr⟩
section
variable {prog : Program} {w : World} {A : Around} {E : Value → Shared → Prop} {s : Shared}
theorem enum_begin1 {v : Value} {o : Obj} {B0 : Heap → Prop} {Q : Value → Shared → Prop} (B : Begins v o B0) (hb : B0 s.heap)
    (h : ∀ h', IsEnum h' (s.heap.objs.size + 1) s.heap.objs.size 0 .none → h'.get? s.heap.objs.size = some o → (∀ b u, s.heap.get? b = some u → h'.get? b = some u) → Q (.ref (s.heap.objs.size + 1)) { s with heap := h' }) :
    wpAny (model prog w) A (call (.type "enumerate") [v]) Q E s := by
  refine callType_new F.called_enumerate (by decide) (F.typeCall_enumerate_1 _) (F.newCall_enumerate_1 _) (fun obj => F.args_object_init_2 obj _)
    F.entry_enumerate_new (meets_enum1 B) ⟨hb, ?_⟩
  have sz1 : (s.heap.push o).objs.size = s.heap.objs.size + 1 := Heap.size_push ..
  show _ ∧ _
  rw [sz1]
  have en : IsEnum ((s.heap.push o).push { cls := .type "enumerate", data := .fields #[.none, .bool false, .ref s.heap.objs.size, rawInt 0, .none, .none] }) (s.heap.objs.size + 1) s.heap.objs.size 0 .none := by
    have z := Heap.get?_push_size (s.heap.push o) (o := { cls := .type "enumerate", data := .fields #[.none, .bool false, .ref s.heap.objs.size, rawInt 0, .none, .none] }) rfl
    rwa [sz1] at z
  exact ⟨⟨_, en, rfl⟩, h _ en (Heap.get?_push_of_some _ (Heap.get?_push_size _ B.free)) fun b u x => Heap.get?_push_of_some _ (Heap.get?_push_of_some _ x)⟩
end
def IteG (K : PySem.W.Frag) (k : SK) : It :=
  ⟨fun i H => ∃ (xs : List V) (x : V), k.src K H xs ∧ xs[i]? = some x, fun i H v H' => ∃ T x, v = .ref T ∧ H T = none ∧ H' = upd H T (.tup [.int (i : Nat), x]) ∧ ∀ xs, k.src K H xs → xs[i]? = some x, fun i H => ∃ xs : List V, k.src K H xs ∧ i = xs.length⟩
theorem turn_enumG {P : Program} {w : World} {K : PySem.W.Frag} {elts : List Expr} {kk : Nat} {tpos : Pos} {e it : Addr} {k : SK} (hne : e ≠ it) (ha : ∀ c, k.at c → c ≠ e ∧ c ≠ it) :
    Turn P w K (.Tuple elts kk tpos) (IteG K k) [e, it] e (fun i h => (∃ old, IsEnum h e it ((i : Nat) : Int) old) ∧ k.iter it i h) where
  mem := List.mem_cons_self
  obj := fun i h st b hb => by
    obtain ⟨⟨old, he⟩, hi⟩ := st
    have e' : b = e ∨ b = it := by simpa using hb
    rcases e' with z | z
    · rw [z]
      exact ⟨_, he, fun v q => nomatch q⟩
    · rw [z]
      exact SK.iter_obj hi
  keep := fun i h h' st k => by
    obtain ⟨⟨old, he⟩, hi⟩ := st
    exact ⟨⟨old, k e (by simp) _ he⟩, SK.iter_keep hi fun o q => k it (by simp) o q⟩
  item := by
    intro X hP hw hK hc i pins s σ H E I hf st hg
    subst hP hw hK
    obtain ⟨⟨old, he⟩, hi⟩ := st
    obtain ⟨xs, x, hq, hx⟩ := hg
    obtain ⟨fp, Pp, Sp, D, g1, b1, r1, m1, f1⟩ := SK.draws I hc hq fun c q => (ha c q).2
    have lx : i < xs.length := (List.getElem?_eq_some_iff.mp hx).1
    have hel : e < s.heap.objs.size := Heap.lt_size he
    have hil : it < s.heap.objs.size := by
      obtain ⟨_, q, _⟩ := SK.iter_obj hi
      exact Heap.lt_size q
    have hef : e ∉ fp := fun q => by
      rcases f1 e q with z | z
      · exact hne z
      · exact (ha e z).1 rfl
    refine wpAny_pyNext_enum_itemD D he (g1 i hi) lx hne hef fun u h' tk p ho hs hT hsz hk => ?_
    obtain ⟨v1, e1, ru⟩ := r1 i u p
    obtain rfl : v1 = x := Option.some.inj (e1.symm.trans hx)
    refine ⟨_, rfl, wpAny_letOwnedTupleGo_enum (s := { s with heap := h', toks := tk + 1 }) ho fun h'' he' sb => ?_⟩
    have hT2 : h''.get? s.heap.objs.size = some { cls := .type "tuple", data := .seq #[.int i tk, u] } := (sb.2 _ (Nat.ne_of_gt hel)).trans hT
    have new : ObjOk X.prog X.w (upd H s.heap.objs.size (.tup [.int (i : Nat), v1])) h'' s.heap.objs.size (.tup [.int (i : Nat), v1]) :=
      ⟨(show 2 ≤ sizeLine by decide), [.int i tk, u], .cons ⟨_, rfl⟩ (.cons ru .nil), ⟨_, hT2, rfl, _, rfl⟩⟩
    have I1 : Inv X pins σ (upd H s.heap.objs.size (.tup [.int (i : Nat), v1])) { s with heap := h'', toks := tk + 1 } :=
      I.turnedNew (ch := [e, it]) (fun b ob hb q => (sb.2 b (fun z => hb (by simp [z]))).trans (hk b ob (fun z => hb (by simp [z])) (fun z => hb (by simp [z])) q)) hf (Nat.le_refl _) new
    refine ⟨.ref s.heap.objs.size, _, I1, rfl, ⟨_, v1, rfl, I.hok.fresh (Nat.le_refl _), rfl, fun ys hy => by rw [SK.inj I hy hq]; exact hx⟩, ⟨⟨u, ?_⟩, SK.iter_keep (b1 _ _ hs) fun o q => (sb.2 it (Ne.symm hne)).trans q⟩, fun b hb => ?_⟩
    · rw [show ((i + 1 : Nat) : Int) = (i : Int) + 1 by omega]
      exact he'
    · have e' : b = e ∨ b = it := by simpa using hb
      have hb' : b < s.heap.objs.size := by
        rcases e' with z | z
        · rw [z]
          exact hel
        · rw [z]
          exact hil
      rw [upd_ne (Nat.ne_of_lt hb')]
      exact (hf b hb).1
  done := by
    intro X hP hw hK hc i pins s σ H E I hf st hg
    subst hP hw hK
    obtain ⟨⟨old, he⟩, hi⟩ := st
    obtain ⟨xs, hq, rfl⟩ := hg
    obtain ⟨fp, Pp, Sp, D, g1, b1, r1, m1, f1⟩ := SK.draws I hc hq fun c q => (ha c q).2
    obtain ⟨f0, f1', f2, f3, f4, f5⟩ := hf it (by simp)
    exact wpAny_pyNext_enum_endD D he (g1 _ hi) fun h' eb => ⟨rfl, I.turned (t' := s.toks) (fun b o hb q => eb b o hb q) f0 f1' f3 f4 f5⟩
  self := fun A i s Q E st h => by
    obtain ⟨⟨old, he⟩, _⟩ := st
    exact wpAny_pyIter_enum he h
def iEnumG (K : PySem.W.Frag) (ta : TA) : TI := fun σ H R => ta σ H fun vs H1 => ∃ (x : V) (xs : List V), vs = [x] ∧ Src K H1 x xs ∧ ∀ k : SK, k.val = x → k.src K H1 xs → R (IteG K k) H1
theorem pi_enumG {X : Cx} {e : Expr} {ta : TA} {p pos tpos : Pos} {elts : List Expr} {kk : Nat} (hg : Gl X "enumerate") (hm : X.mg "enumerate" = none) (ha : PA X [e] ta) (hs : starEach [e] X.env = [(false, eval e X.env)] := by rfl) :
    PI X (.Tuple elts kk tpos) (.Call (.Name "enumerate" p) [e] [] pos) (iEnumG X.K ta) := by
  refine ⟨fun pins s σ H R I h => ?_⟩
  refine Call_ (ld_blt I hg hm boot_enumerate (PyProof.Rows.callWith_type1 (thn (ha.run pos pins s σ H _ I h) ?_) hs rfl))
  rintro us s1 ⟨vs, H1, I1, r1, x, xs, ex, sx, q⟩
  subst ex
  cases r1 with
  | cons r rr =>
    cases rr
    obtain ⟨k, ev, _, src, lt, B0, b0, hb0⟩ := sx.kind I1 r
    refine enum_begin1 b0 hb0 fun h' he hi hk => wpAny_pyIter_enum he ?_
    have I2 : Inv X pins σ H1 { s1 with heap := h' } := I1.kept (t' := s1.toks) hk
    refine ⟨s1.heap.objs.size + 1, [s1.heap.objs.size + 1, s1.heap.objs.size], _, _, H1, rfl, I2, turn_enumG (k := k) (Nat.succ_ne_self _) (fun c hc => ?_), ⟨⟨.none, he⟩, SK.begun hi⟩, fun b hb => ?_, q k ev src⟩
    · have hlt := lt c hc
      exact ⟨Nat.ne_of_lt (Nat.lt_succ_of_lt hlt), Nat.ne_of_lt hlt⟩
    · have e' : b = s1.heap.objs.size + 1 ∨ b = s1.heap.objs.size := by simpa using hb
      have hle : s1.heap.objs.size ≤ b := by
        rcases e' with z | z
        · rw [z]
          exact Nat.le_add_right _ _
        · rw [z]
          exact Nat.le_refl _
      exact I1.fpOk hle (I1.hok.fresh hle)
theorem walk_enumG {K : PySem.W.Frag} {k : SK} {xs : List V} : Walk (IteG K k) xs.length (fun H => k.src K H xs) (YPair (fun i => some (.int (i : Nat))) (fun i => xs[i]?)) := by
  refine ⟨fun i _ hi q => ⟨xs, xs[i], q, by simp [hi]⟩, fun _ q => ⟨xs, q, rfl⟩, fun i H v H' _ q y => ?_⟩
  obtain ⟨T, x, h1, h2, h3, h4⟩ := y
  exact ⟨T, .int (i : Nat), x, h1, h2, h3, rfl, h4 xs q⟩
end FW
namespace FW
open PySem PySem.Spec PyProof.Rows L2
/-! ### C.m(..), m a static method of the class at C over the function at f -/
structure Sta (K : PySem.W.Frag) (C : Addr) (m : Str) (f : Addr) : Prop where
  rd : PySem.W.readsIn K C (.type "type") = true
  fd : ∃ (p : Addr) (rest : List Value), PySem.W.findCls K (.ref C) (.type "type") m = some (.get (.builtin "staticmethod.__get__") (.ref p) .none (.ref C)) ∧ PySem.W.recIn K p "staticmethod" = some (.ref f :: rest)
  sg : PySem.W.specialIn K (.ref C) "__getattribute__" = some (some (.builtin "type.__getattribute__"))
  kp : PySem.W.keepIn K (.ref f) = true
theorem static_get {prog : Program} {w : World} {A : Around} {E : Value → Shared → Prop} {s : Shared} {K : PySem.W.Frag} {C f : Addr} {m : Str} {pl : Sem Bool} {Q : Value × List Value → Shared → Prop} (X : K.In s.heap) (S : Sta K C m f)
    (h : ∀ u, Q (.ref f, []) { s with toks := u }) : wpAny (model prog w) A (getMethod (.ref C) m pl) Q E s := by
  obtain ⟨p, rest, fd, rc⟩ := S.fd
  exact PySem.W.method_cls X S.sg (PySem.W.cls_bind X S.rd fd (wpAny_call (PySem.W.sm_get (s := { s with toks := s.toks + 1 }) X rc (PySem.W.handed_on rfl (h _)))))
section
variable {X : Cx} {CX : CXT} {k : Nat} {f C : Addr} {fd : FuncData} {ps : List Str} {sp : Sp} {dvs : List V} {ds : List Value} {E : XK} {x m : Str} {p1 pos apos : Pos} {e : Expr} {es : List Expr} {t : TA}
theorem pe_static {pl : Sem Bool} (hg : Gl X x) (hm : X.mg x = some (.ref C)) (S : Sta X.K C m f) (F : FnOk X.prog X.w X.K X.mg X.base CX k f fd ps sp) (hr : Room k X.A) (hb : L2.Binds X.K fd ps ds) (hd : Vals dvs ds) (hx : Passes CX X E) (ha : PA X (e :: es) t)
    (hdb : (x == ("__debug__" : Str)) = false := by decide)
    (hc : eval (.Call (.Attribute (.Name x p1) m apos) (e :: es) [] pos) X.env = (do
      let oc ← eval (.Name x p1) X.env
      standAt apos.atName
      let (fc, fst) ← holding [oc] (getMethod oc m pl)
      callWith pos fc fst (backTo pos (starEach (e :: es) X.env)) (backToKw pos (keywordEach [] X.env))) := by rfl)
    (he : starEach (e :: es) X.env = (false, eval e X.env) :: starEach es X.env := by rfl) (hpl : (backTo pos (starEach es X.env)).any (·.1) = false := by rfl) :
    PE X (.Call (.Attribute (.Name x p1) m apos) (e :: es) [] pos) (tCall sp dvs E t) := by
  refine ⟨fun pins s σ H Q I h => PySem.W.methodCall_KW (pl := pl) (ld_glob I hg hm ?_ hdb) hc⟩
  refine static_get I.kIn S fun u => ?_
  have I1 : Inv X pins σ H { s with toks := u } := I.tok _
  refine PySem.W.callWith_K (first := []) (h₀ := X.base) I.ok.mod.kin S.kp (thn (ha.run pos pins _ σ H _ I1 h) ?_) he hpl
  rintro us s2 ⟨vs, H2, I2, r, q2⟩
  exact ⟨I2.kIn, run_fn F hr hb hd hx I2 r q2⟩
end
end FW
namespace FW
open PySem PySem.Spec PyProof.Rows L2 StX
/-- three parameters ahead of the starred one -/
theorem bind_star3 {B : List Value → Sem (List (Str × Value))} {p1 p2 p3 pv : Str} (h0 : ∀ a b c, B [a, b, c] = (newTuple [] >>= fun t => pure [(p1, a), (p2, b), (p3, c), (pv, t)]))
    (h1 : ∀ a b c r rs, B (a :: b :: c :: r :: rs) = (newTuple (r :: rs) >>= fun t => pure [(p1, a), (p2, b), (p3, c), (pv, t)])) :
    ∀ us rest : List Value, us.length = [p1, p2, p3].length → B (us ++ rest) = (newTuple rest >>= fun t => pure ([p1, p2, p3].zip us ++ [(pv, t)]))
  | [a, b, c], [], _ => h0 a b c
  | [a, b, c], r :: rs, _ => h1 a b c r rs
section
variable {X : Cx} {CX : CXT} {k : Nat} {f C : Addr} {sp : Sp} {E : XK} {x : Str} {e : Expr} {es : List Expr} {t : TA} {p pos : Pos}
/-- C(e, .., *y) -/
theorem pe_makeS (M : Mk X.K C f) (F : FnR X.prog X.w X.K X.mg X.base CX k f sp) (hr : Room (k + 1) X.A) (hg : Gl X x) (hm : X.mg x = some (.ref C)) (hx : Passes CX X E) (ha : PA X (e :: es) t) (hd : (x == ("__debug__" : Str)) = false := by decide)
    (he : starEach (e :: es) X.env = (false, eval e X.env) :: starEach es X.env := by rfl) (hst : (backTo pos (starEach es X.env)).any (·.1) = true := by rfl) :
    PE X (.Call (.Name x p) (e :: es) [] pos) (tMakeR C sp E t) := by
  refine ⟨fun pins s σ H Q I h => wpAny_Call_Name_kw (ld_glob I hg hm ?_ hd)⟩
  refine PySem.W.callWith_S2 (h₀ := X.base) I.ok.mod.kin M.kp (thn (ha.run pos pins s σ H _ I h) ?_) he hst
  rintro us s1 ⟨vs, H1, I1, r, q⟩
  exact ⟨I1.kIn, run_makeR M F hr hx I1 r q⟩
end
end FW
namespace FW
open PySem PySem.Spec PyProof.Rows L2
/-! ### tests, and what may be forgotten behind an expression -/
theorem ite_dec {p : Prop} [d : Decidable p] {A B : Prop} (h1 : p → A) (h2 : ¬ p → B) : if decide p = true then A else B := by
  by_cases h : p
  · rw [decide_eq_true h]
    exact iteT (h1 h)
  · rw [decide_eq_false h]
    exact iteF (h2 h)
theorem ite_ndec {p : Prop} [d : Decidable p] {A B : Prop} (h1 : ¬ p → A) (h2 : p → B) : if (!decide p) = true then A else B := by
  by_cases h : p
  · rw [decide_eq_true h]
    exact iteF (h2 h)
  · rw [decide_eq_false h]
    exact iteT (h1 h)
theorem ite_bl {c : Bool} {A B : Prop} (h1 : c = true → A) (h2 : c = false → B) : if c = true then A else B := by
  cases c with
  | true => exact iteT (h1 rfl)
  | false => exact iteF (h2 rfl)
theorem ite_nbl {c : Bool} {A B : Prop} (h1 : c = false → A) (h2 : c = true → B) : if (!c) = true then A else B := by
  cases c with
  | true => exact iteF (h2 rfl)
  | false => exact iteT (h1 rfl)
section
variable {X : Cx}
/-- an expression, and what is kept of its value and the heap -/
def tAs (t : TE) : TE := fun σ H Q => ∃ R : V → Hp → Prop, t σ H R ∧ ∀ v H', R v H' → Q v H'
theorem pe_as {e : Expr} {t : TE} (h : PE X e t) : PE X e (tAs t) := ⟨fun pins s σ H Q I hw => by
  obtain ⟨R, hR, hq⟩ := hw
  exact thn (h.run pins s σ H R I hR) fun v s1 ⟨x, H1, I1, r1, q1⟩ => ⟨x, H1, I1, r1, hq _ _ q1⟩⟩
/-- a test, and what is kept -/
def tAsT (t : TT) : TT := fun σ H Q => ∃ R : Bool → Hp → Prop, t σ H R ∧ ∀ v H', R v H' → Q v H'
theorem pt_as {e : Expr} {t : TT} (h : PT X e t) : PT X e (tAsT t) := ⟨fun pins s σ H Q I hw => by
  obtain ⟨R, hR, hq⟩ := hw
  exact thn (h.run pins s σ H R I hR) fun v s1 ⟨H1, I1, q1⟩ => ⟨H1, I1, hq _ _ q1⟩⟩
/-- a statement, and what is kept behind it where it goes on -/
def tAsS (t : TS) : TS := fun D σ H => ∃ R : L2.St → Hp → Prop, t { D with nx := R } σ H ∧ ∀ σ' H', R σ' H' → D.nx σ' H'
theorem ps_as {st : Stmt} {t : TS} (h : PS X st t) : PS X st (tAsS t) := ⟨fun pins s σ H D I hw => by
  obtain ⟨R, hR, hq⟩ := hw
  refine thn (h.run pins s σ H _ I hR) fun f s1 z => ?_
  cases f with
  | next => exact (let ⟨σ', H1, I1, q1⟩ := z; ⟨σ', H1, I1, hq _ _ q1⟩)
  | _ => exact z⟩
end
end FW
namespace FW
open PySem PySem.Spec PyProof.Rows L2
/-! ### == and != by an own __eq__ -/
/-- what the type of a value is -/
inductive Kd (H : Hp) : V → Value → Prop
  | ins {b C dy : Addr} {gs : List (Str × V)} (e : H b = some (.ins C dy gs)) : Kd H (.ref b) (.ref C)
  | non : Kd H .non (.type "NoneType")
  | str (z : Str) : Kd H (.str z) (.type "str")
  | int (i : Int) : Kd H (.int i) (.type "int")
  | lst {b : Addr} {xs : List V} (e : H b = some (.lst xs)) : Kd H (.ref b) (.type "list")
  | tup {b : Addr} {xs : List V} (e : H b = some (.tup xs)) : Kd H (.ref b) (.type "tuple")
section
variable {X : Cx} {CX : CXT} {pins : List (Addr × Obj)} {σ : L2.St} {H : Hp} {s : Shared} {C f : Addr} {n : Nat} {sp : Sp} {E : XK}
theorem looks_kd {y : V} {u t : Value} (I : Inv X pins σ H s) (r : RelV y u) (k : Kd H y t) : PySem.W.Looks (model X.prog X.w) s.heap (typeOf u) t := by
  cases k with
  | ins e =>
    cases r
    obtain ⟨mA, J, _⟩ := ins_get I.hok e
    obtain ⟨od, J, _⟩ := J.look
    exact J.type
  | non => cases r; exact .of_pure rfl
  | str z => obtain ⟨t, rfl⟩ := r; exact .of_pure rfl
  | int z => obtain ⟨t, rfl⟩ := r; exact .of_pure rfl
  | lst e =>
    cases r
    obtain ⟨z, its, k, r, e⟩ := I.hok _ _ e
    exact (PySem.W.Looks.ld e).andThen .now
  | tup e =>
    cases r
    obtain ⟨its, k, r, p⟩ := I.hok _ _ e
    obtain ⟨⟨cls, dd, data, sl⟩, ho, hc, _⟩ := id p
    simp only at hc
    subst hc
    exact (PySem.W.Looks.ld ho).andThen .now
/-- a op y, a an instance of the class at C with its own __eq__ -/
def rOwnI (K : PySem.W.Frag) (C : Addr) (sp : Sp) (E : XK) (neg : Bool) : R2 := fun x y H Q => ∃ a dx fs t, x = .ref a ∧ H a = some (.ins C dx fs) ∧ Kd H y t ∧ PySem.W.notFirst K C t = true ∧ sp [x, y] H (fun v H' => ∃ c : Bool, v = .bl c ∧ Q (.bl (c != neg)) H') E
theorem op_eqI (hs : PySem.W.findIn X.K (.ref C) "__eq__" = some (some (.ref f))) (hf : PySem.W.isFn X.K (.ref f) = true) (F : FnR X.prog X.w X.K X.mg X.base CX n f sp)
    (hr : Room n X.A) (hx : Passes CX X E) : OpR X (compareOp .Eq) (rOwnI X.K C sp E false) := by
  intro pins s σ H x y v u Q I rx ry h
  obtain ⟨a, dx, fs, t, rfl, ha, k, hn, q⟩ := h
  cases (show v = Value.ref a from rx)
  obtain ⟨mA, J, _⟩ := ins_get I.hok ha
  obtain ⟨od, J, _⟩ := J.look
  obtain ⟨m, hF⟩ := I.fr
  show wpAny _ _ (richCompare .Eq _ _) _ _ s
  refine PySem.W.cmp_K (op := .Eq) (tb := t) hr.units0 hF I.ok.mod.kin J (looks_kd I ry k) hn hs hf ?_
  refine wpAny_mono (wpAny_call (run_fnR (us := [.ref a, u]) (vs := [.ref a, y]) F hr hx I (.cons rfl (.cons ry .nil)) q)) (fun w s' z => ?_) fun _ _ x => x
  obtain ⟨z', H', I', rz, c, rfl, qz⟩ := z
  refine SlX.cmpback rz ⟨.bl c, H', I', rz, ?_⟩
  cases c <;> exact qz
theorem ne_K {prog : Program} {w : World} {A : Around} {E : Value → Shared → Prop} {s : Shared} {K : PySem.W.Frag} {x C L : Addr} {h₀ : Heap} {m : Str → Option Value} {ox : Obj} {od : Option Obj} {tb b : Value} {Q : Value → Shared → Prop} (hu : A.units + 1 < cLine)
    (F : Fr h₀ L s.heap m) (X₀ : K.In h₀) (I : PySem.W.InstAt s.heap x ox C od) (hb : PySem.W.Looks (model prog w) s.heap (typeOf b) tb) (hn : PySem.W.notFirst K C tb = true)
    (hs : PySem.W.findIn K (.ref C) "__eq__" = some (some (.ref f))) (hf : PySem.W.isFn K (.ref f) = true) (hne : PySem.W.findIn K (.ref C) "__ne__" = some (some (.builtin "object.__ne__"))) (hob : PySem.W.mroIn K C (.type "object") = some true)
    (h : wpAny (model prog w) A.in1 (call (.ref f) [.ref x, b]) (fun v s' => ∃ c : Bool, v = .bool c ∧ Q (.bool (!c)) s') E s) : wpAny (model prog w) A (richCompare .NotEq (.ref x) b) Q E s := by
  have X := X₀.keeps F.keep
  have S := (PySem.F.cmp_object).ne
  have bi : wpAny (model prog w) A (call (.builtin "object.__ne__") [.ref x, b]) (fun v s' => ∃ c : Bool, v = .bool (!c) ∧ Q (.bool (!c)) s') E s := by
    refine wpAny_call (codeAny_call_builtin S.plain PySem.F.cmpEntry_ne (PySem.W.check_slot PySem.F.cmpKind_ne PySem.F.cmpSplit_ne ?_ (PySem.F.cmpArgs_ne _ _) ?_))
    · exact fun A E Q s' k q => by
        unfold isInstance
        exact wpAny_bind ((I.type.keeps k).here ((PySem.W.looks_mroIn (X.keeps k) hob).here q))
    unfold Builtin.«object.__ne__»
    have fin2 : wpAny (model prog w) A.in1 (callSpecialIfBound? (.ref x) "__eq__" [b]) (fun r s' => ∃ c : Bool, r = some (.bool c) ∧ Q (.bool (!c)) s') E s :=
      PySem.W.ifBound_K X I hs hf (wpAny_mono h (fun v s' ⟨c, e, q⟩ => ⟨c, by rw [e], q⟩) fun _ _ e => e)
    repeat (first
      | with_reducible refine wpAny_cRoomFor (Nat.lt_of_le_of_lt (Nat.le_refl _) hu) ?_
      | (refine wpAny_bind (m := callSpecialIfBound? (.ref x) (Str.ofString "__eq__") [b]) (wpAny_mono fin2 (fun r s' hr => by
          obtain ⟨c, rfl, hq⟩ := hr
          repeat (first | exact ⟨c, rfl, hq⟩ | exact wpAny_pure ⟨c, rfl, hq⟩ | (refine wpAny_bind (m := truthy (.bool _)) (wpAny_truthy_bool ?_)) | wp_step)) fun _ _ e => e))
      | wp_step)
  have one : wpAny (model prog w) A (tryCompare (.ref x) "__ne__" b) (fun r s' => ∃ v, r = some v ∧ Q v s') E s := by
    unfold tryCompare
    refine wpAny_bind ?_
    simp only [callSpecialIfBound?, bindSpecialIfBound?]
    refine wpAny_holding (wpAny_bind (wpAny_bind (wpAny_bind (I.type.here ((PySem.W.looks_findIn X hne).here ?_)))))
    refine wpAny_bind (wpAny_askSetting (wpAny_ite ?_))
    simp only [S.bind]
    have fin : wpAny (model prog w) A (call (.builtin "object.__ne__") ([.ref x] ++ [b]) >>= fun v => pure (some v)) (fun r s' => wpAny (model prog w) A (match r with | some .notImplemented | none => pure none | some v => pure (some v)) (fun r s' => ∃ v, r = some v ∧ Q v s') E s') E s := by
      refine wpAny_bind (wpAny_mono bi (fun v s' hv => ?_) fun _ _ e => e)
      obtain ⟨c, rfl, hq⟩ := hv
      exact wpAny_pure (wpAny_pure ⟨_, rfl, hq⟩)
    split
    · exact wpAny_bind (wpAny_pure (wpAny_pure fin))
    · exact wpAny_tryCatch (wpAny_bind (wpAny_pure (wpAny_pure fin)))
  unfold richCompare
  simp only [oneThing_ref]
  refine wpAny_holding (wpAny_bind (wpAny_cRoomFor (Nat.lt_of_succ_lt hu) ?_))
  refine wpAny_bind (I.type.here (wpAny_bind (hb.here ?_)))
  split
  · rename_i q
    have e : PySem.W.subIn K tb (.ref C) = some false := by
      rcases Bool.or_eq_true_iff.mp hn with e | e
      · rw [beq_iff_eq.mp e] at q; simp at q
      · exact beq_iff_eq.mp e
    refine wpAny_bind ((PySem.W.looks_subIn X e).here ?_)
    simp only [Bool.false_eq_true, if_false]
    refine wpAny_bind (wpAny_mono one (fun r s' z => ?_) fun _ _ e => e)
    obtain ⟨v, rfl, hq⟩ := z
    exact wpAny_pure hq
  · refine wpAny_bind (wpAny_pure ?_)
    simp only [Bool.false_eq_true, if_false]
    refine wpAny_bind (wpAny_mono one (fun r s' z => ?_) fun _ _ e => e)
    obtain ⟨v, rfl, hq⟩ := z
    exact wpAny_pure hq
theorem op_neI (hs : PySem.W.findIn X.K (.ref C) "__eq__" = some (some (.ref f))) (hf : PySem.W.isFn X.K (.ref f) = true) (hne : PySem.W.findIn X.K (.ref C) "__ne__" = some (some (.builtin "object.__ne__"))) (hob : PySem.W.mroIn X.K C (.type "object") = some true)
    (F : FnR X.prog X.w X.K X.mg X.base CX n f sp) (hr : Room (n + 1) X.A) (hx : Passes CX X E) : OpR X (compareOp .NotEq) (rOwnI X.K C sp E true) := by
  intro pins s σ H x y v u Q I rx ry h
  obtain ⟨a, dx, fs, t, rfl, ha, k, hn, q⟩ := h
  cases (show v = Value.ref a from rx)
  obtain ⟨mA, J, _⟩ := ins_get I.hok ha
  obtain ⟨od, J, _⟩ := J.look
  obtain ⟨m, hF⟩ := I.fr
  show wpAny _ _ (richCompare .NotEq _ _) _ _ s
  refine ne_K (by have := hr.un; omega) hF I.ok.mod.kin J (looks_kd I ry k) hn hs hf hne hob ?_
  refine wpAny_mono (wpAny_call (SlX.run_at (us := [.ref a, u]) (ws := [.ref a, y]) F hr.in1 I.env0.in1 hx I (.cons rfl (.cons ry .nil)) q)) (fun w s' z => ?_) fun _ _ x => x
  obtain ⟨z', H', I', rz, c, rfl, qz⟩ := z
  cases (show w = Value.bool c from rz)
  refine ⟨c, rfl, .bl (!c), H', I', rfl, ?_⟩
  cases c <;> exact qz
end
end FW
namespace FW
open PySem PySem.Spec PyProof.Rows L2
section
variable {X : Cx} {CX : CXT} {k : Nat} {f C : Addr} {fd : FuncData} {ps ks : List Str} {sp : Sp} {E : XK} {x m : Str} {p1 pos apos : Pos} {kws : List Keyword} {tk : TA} {g : List Value → List Value → List Value} {gV : List V → List V → List V}
/-- C.m(k=e, ..), m a static method -/
theorem pe_staticK0 {pl : Sem Bool} (hg : Gl X x) (hm : X.mg x = some (.ref C)) (S : Sta X.K C m f) (F : FnOk X.prog X.w X.K X.mg X.base CX k f fd ps sp) (hr : Room k X.A) (hb : KBinds X.K fd ps ks g gV) (hx : Passes CX X E) (hkw : PK X kws tk)
    (hall : (backToKw pos (keywordEach kws X.env)).all (·.1.isSome) = true := by rfl) (hks : (backToKw pos (keywordEach kws X.env)).filterMap (·.1) = ks := by rfl)
    (hdb : (x == ("__debug__" : Str)) = false := by decide)
    (hc : eval (.Call (.Attribute (.Name x p1) m apos) [] kws pos) X.env = (do
      let oc ← eval (.Name x p1) X.env
      standAt apos.atName
      let (fc, fst) ← holding [oc] (getMethod oc m pl)
      callWith pos fc fst (backTo pos (starEach [] X.env)) (backToKw pos (keywordEach kws X.env))) := by rfl)
    (hpl : ((backTo pos (starEach [] X.env)).any (·.1) || (backToKw pos (keywordEach kws X.env)).any (·.1.isNone)) = false := by rfl) :
    PE X (.Call (.Attribute (.Name x p1) m apos) [] kws pos) (tCallK sp gV E tNil tk) := by
  refine ⟨fun pins s σ H Q I h => PySem.W.methodCall_KW (pl := pl) (ld_glob I hg hm ?_ hdb) hc⟩
  refine static_get I.kIn S fun u => ?_
  have I1 : Inv X pins σ H { s with toks := u } := I.tok _
  refine PySem.W.callWith_KW0 (h₀ := X.base) I.ok.mod.kin S.kp hall (thn (hkw.run pos pins _ σ H _ I1 h) fun ws s2 ⟨zs, H2, I2, rz, q2⟩ => ⟨I2.kIn, ?_⟩) hpl
  rw [hks]
  exact run_fnk F hr hb hx I2 .nil rz q2
end
end FW
namespace FW
open PySem PySem.Spec PyProof.Rows L2
/-! ### data that may be compared -/
/-- data that nest at most so deep, all of whose texts may be laid -/
inductive Lay : Nat → PyData → Prop
  | non {n : Nat} : Lay n .none
  | bl {n : Nat} (b : Bool) : Lay n (.bool b)
  | int {n : Nat} (i : Int) : Lay n (.int i)
  | str {n : Nat} {x : Str} (h : PyData.strOk x = true) : Lay n (.str x)
  | lst {n : Nat} {ds : List PyData} (h : ∀ d ∈ ds, Lay n d) : Lay (n + 1) (.list ds)
  | tup {n : Nat} {ds : List PyData} (h : ∀ d ∈ ds, Lay n d) : Lay (n + 1) (.tuple ds)
theorem lay_all {n : Nat} : ∀ {ds : List PyData}, (∀ d ∈ ds, d.canLay0 = true ∧ d.depth ≤ n) → PyData.canLayAll0 ds = true ∧ PyData.depthAll ds ≤ n
  | [], _ => ⟨rfl, Nat.zero_le _⟩
  | d :: ds, h => by
    have h1 := h d List.mem_cons_self
    have h2 := lay_all (ds := ds) fun x hx => h x (List.mem_cons_of_mem _ hx)
    refine ⟨?_, ?_⟩
    · show (d.canLay0 && PyData.canLayAll0 ds) = true
      rw [h1.1, h2.1]
      rfl
    · show max d.depth (PyData.depthAll ds) ≤ n
      exact Nat.max_le.mpr ⟨h1.2, h2.2⟩
theorem Lay.ok {n : Nat} {d : PyData} (h : Lay n d) : d.canLay0 = true ∧ d.depth ≤ n := by
  induction h with
  | non => exact ⟨rfl, Nat.zero_le _⟩
  | bl b => exact ⟨rfl, Nat.zero_le _⟩
  | int i => exact ⟨rfl, Nat.zero_le _⟩
  | str h => exact ⟨h, Nat.zero_le _⟩
  | lst h ih => exact ⟨(lay_all ih).1, Nat.succ_le_succ (lay_all ih).2⟩
  | tup h ih => exact ⟨(lay_all ih).1, Nat.succ_le_succ (lay_all ih).2⟩
theorem Lay.shaped {n : Nat} {d : PyData} (h : Lay n d) (hn : n ≤ 64) : SeqAt.shaped d = true := by
  unfold SeqAt.shaped
  rw [h.ok.1, decide_eq_true (Nat.le_trans h.ok.2 hn)]
  rfl
theorem eqvAll_map {α : Type} [DecidableEq α] {f : α → PyData} (h : ∀ x y, PyData.eqv (f x) (f y) = decide (x = y)) : ∀ xs ys : List α, PyData.eqvAll (xs.map f) (ys.map f) = decide (xs = ys)
  | [], [] => by
    rw [decide_eq_true rfl]
    rfl
  | [], y :: ys => by
    rw [decide_eq_false (by simp)]
    rfl
  | x :: xs, [] => by
    rw [decide_eq_false (by simp)]
    rfl
  | x :: xs, y :: ys => by
    show (PyData.eqv (f x) (f y) && PyData.eqvAll (xs.map f) (ys.map f)) = _
    rw [h, eqvAll_map h xs ys, ← Bool.decide_and]
    exact decide_eq_decide.mpr (by simp)
theorem eqv_S (a b : List Nat) : PyData.eqv (.str (S a)) (.str (S b)) = decide (a = b) := by
  show (S a == S b) = _
  by_cases h : a = b
  · subst h
    rw [decide_eq_true rfl]
    exact beq_self_eq_true _
  · rw [decide_eq_false h]
    refine beq_eq_false_iff_ne.mpr fun e => h ?_
    have := congrArg (fun z : Str => z.cps.toList) e
    exact this
theorem eqv_tupS (a b : List (List Nat)) : PyData.eqv (.tuple (a.map fun p => .str (S p))) (.tuple (b.map fun p => .str (S p))) = decide (a = b) := by
  show PyData.eqvAll _ _ = _
  exact eqvAll_map eqv_S a b
end FW
namespace FW
open PySem PySem.Spec PyProof.Rows L2
def topS (i : Nat) : Stmt := PySem.Challenge.pw_fourwalls_k41_whole_weights_reckoned.main.body.getD i (.Pass ⟨0, 0, 0, 0⟩)
section
variable {P : Program} {w : World} {K : PySem.W.Frag} {mg : Str → Option Value} {base : Heap}
abbrev s__law_open : Stmt := topS 28
theorem sc__law_open : FnScope ["_law_script", "_law_mixed", "_law_cell"] ["_law_script"] (defScope s__law_open) := ⟨rfl, rfl, rfl, by decide +kernel, rfl, by decide +kernel, by decide +kernel⟩
theorem ok__law_open {f : Addr} {fd : FuncData} (F : Fun K "_law_open" "_law_open" s__law_open f fd) (T : Z mg) : FnOk P w K mg base CX0 1 f fd ["_law_script"] (sp__law_open K) := by
  refine F.ok sc__law_open (fun vs H Q E h => ?_) (fun cdv A outer s H vs Q E hr h => ?_)
  · obtain ⟨a, ns, rfl, _⟩ := h
    rfl
  · obtain ⟨a, ns, rfl, hS, hlen, q⟩ := h
    refine ⟨_, (pss_cons (ps_set (i := 1) sc__law_open.nd rfl (.inl rfl) pe_int)
      (pss_cons (ps_for PassesOwn.never rfl (pi_list (pe_slice sl_list (pv 0) po_none (po_some pe_int))) (pg_name (i := 2) sc__law_open.nd rfl (.inl rfl))
        (pss_one (ps_set (i := 1) sc__law_open.nd rfl (.inl rfl) (pe_op op_mod (pe_callTy call_int1 (by rfl) T.z_int (by decide +kernel) (pa_cons (pe_op op_add (pe_op op_add (pe_op op_mul (pv 1) pe_int) (pe_op op_mul (pe_op op_mod (pe_callTy call_int1 (by rfl) T.z_int (by decide +kernel) (pa_cons (pv 2) pa_nil)) pe_int) pe_int)) pe_int) pa_nil)) pe_int))))
      (pss_one (ps_ret (pe_lst (pa_cons (pe_callTy call_list_of (by rfl) T.z_list (by decide +kernel) (pa_cons (pe_slice sl_list (pv 0) po_none (po_some pe_int)) pa_nil)) (pa_cons pe_int (pa_cons pe_int (pa_cons (pv 1) (pa_cons pe_int pa_nil)))))))))), ?_⟩
    have ecut : cutV (ns.map V.int) none (some 63) = ns.map V.int := by
      rw [show (63 : Int) = ((63 : Nat) : Int) from rfl, cutV_to]
      exact List.take_of_length_le (by rw [List.length_map]; exact hlen)
    refine ⟨_, rfl, 63, rfl, a, _, rfl, hS, fun p np => ?_⟩
    rw [ecut]
    have s1 : Same H (upd H p (.lst (ns.map V.int))) := same_upd np
    refine ⟨p, rfl, ⟨_, SqL.of upd_same⟩, for_it (walk_list (xs := ns.map V.int)) (fun i σ H' => ∃ m y, σ = [some (.ref a), some (.int m), y] ∧ 0 ≤ m ∧ m < 2147483648 ∧ H' = upd H p (.lst (ns.map V.int)))
      ⟨10042, none, rfl, by decide, by decide, rfl⟩ (fun i σ H' _ ⟨_, _, _, _, _, e⟩ => by rw [e]; exact SqL.of upd_same) ?_ ?_⟩
    · rintro i x σ _ _ hi ⟨m, y, rfl, h0, h1, rfl⟩ ⟨rfl, hx⟩
      obtain ⟨z, rfl⟩ : ∃ z, x = V.int z := by
        rw [List.getElem?_map] at hx
        cases e : ns[i]? with
        | none => rw [e] at hx; cases hx
        | some u => rw [e] at hx; exact ⟨u, (Option.some.inj hx).symm⟩
      refine ⟨_, rfl, _, _, rfl, rfl, .inr ⟨by decide, by decide⟩, _, rfl, .inl ⟨_, rfl, _, _, rfl, rfl, (show (0 : Int) < 1000033 by decide), _, _, rfl, rfl, .inr ⟨by decide, by decide⟩, _, _, rfl, rfl, _, _, rfl, rfl, .inl ⟨_, rfl, _, _, rfl, rfl, (show (0 : Int) < 2147483549 by decide), ?_⟩⟩⟩
      refine ⟨_, _, rfl, Int.emod_nonneg _ (by decide), ?_, rfl⟩
      exact Int.lt_trans (Int.emod_lt_of_pos _ (by decide)) (by decide)
    · rintro σ _ ⟨m, y, rfl, h0, h1, rfl⟩
      refine ⟨_, rfl, 63, rfl, a, _, rfl, s1.seq hS, fun p2 np2 => ?_⟩
      rw [ecut]
      have s2 := same_upd (o := HO.lst (ns.map V.int)) np2
      refine ⟨p2, _, rfl, .inl (SqL.of upd_same), fun l nl => ?_⟩
      have s3 := same_upd (o := HO.lst (ns.map V.int)) nl
      refine ⟨_, rfl, (show 5 ≤ sizeLine by decide), fun b nb => ?_⟩
      have s4 := same_upd (o := HO.lst [V.ref l, V.int 0, V.int 0, V.int m, V.int 0]) nb
      have s5 := (s1.trans s2).trans s3
      refine q _ b l (s5.free nb) ((s1.trans s2).free nl) (s5.trans s4) ⟨ns, 0, 0, m, 0, upd_same, s4 _ _ upd_same, by omega, by decide, h0, h1⟩
abbrev s__law_draw : Stmt := topS 29
theorem sc__law_draw : FnScope ["_law_bag", "_law_many", "_law_cell", "_law_digit", "_law_twice"] ["_law_bag", "_law_many"] (defScope s__law_draw) := ⟨rfl, rfl, rfl, by decide +kernel, rfl, by decide +kernel, by decide +kernel⟩
theorem ok__law_draw {f : Addr} {fd : FuncData} (F : Fun K "_law_draw" "_law_draw" s__law_draw f fd) (T : Z mg) : FnOk P w K mg base CX0 1 f fd ["_law_bag", "_law_many"] (sp__law_draw K) := by
  refine F.ok sc__law_draw (fun vs H Q E h => ?_) (fun cdv A outer s H vs Q E hr h => ?_)
  · obtain ⟨b, l, k, rfl, _⟩ := h
    rfl
  · obtain ⟨b, l, k, rfl, ⟨ns, i, r, m, c, hb, hL, hlen, hi, hm0, hm1⟩, hk, hk2, q⟩ := h
    have nlb : l ≠ b := ne_of hL hb bag_ne
    refine ⟨_, (pss_cons (ps_asg (pe_op op_add (pe_ix ix_list (pv 0) pe_int (fun _ _ => rfl)) pe_int) (pg_sub (pv 0) pe_int set_list))
      (C8.pss_cut (ps_if (PW.pt (pw_and (pt_cmpR op_eq (pe_ix ix_list (pv 0) pe_int (fun _ _ => rfl)) pe_int (nomark _)) (pw_and1 (pt_cmpR op_lt (pe_ix ix_list (pv 0) pe_int (fun _ _ => rfl)) (pe_callB call_len (by rfl) T.z_len (by decide +kernel) (pa_cons (pe_ix ix_list (pv 0) pe_int (fun _ _ => rfl)) pa_nil)) (nomark _))))) (pss_cons (ps_set (i := 2) sc__law_draw.nd rfl (.inl rfl) (pe_ix ix_list (pe_ix ix_list (pv 0) pe_int (fun _ _ => rfl)) (pe_ix ix_list (pv 0) pe_int (fun _ _ => rfl)) (fun _ _ => rfl)))
      (pss_cons (ps_asg (pe_op op_add (pe_ix ix_list (pv 0) pe_int (fun _ _ => rfl)) pe_int) (pg_sub (pv 0) pe_int set_list))
      (pss_one (ps_if (pt_cmpR op_ge (pe_callB call_abs (by rfl) T.z_abs (by decide +kernel) (pa_cons (pv 2) pa_nil)) (pe_op op_pow pe_int pe_int) (nomark _)) (pss_one (ps_asg (pe_callB call_abs (by rfl) T.z_abs (by decide +kernel) (pa_cons (pv 2) pa_nil)) (pg_sub (pv 0) pe_int set_list))) (pss_one (ps_asg (pe_op op_mod (pe_callTy call_int1 (by rfl) T.z_int (by decide +kernel) (pa_cons (pe_op op_add (pe_op op_add (pe_op op_mul (pe_ix ix_list (pv 0) pe_int (fun _ _ => rfl)) pe_int) (pe_op op_mul (pe_op op_mod (pe_callTy call_int1 (by rfl) T.z_int (by decide +kernel) (pa_cons (pv 2) pa_nil)) pe_int) pe_int)) pe_int) pa_nil)) pe_int) (pg_sub (pv 0) pe_int set_list))))))) pss_nil)
      (pss_cons (ps_if (pt_cmpR op_gt (pe_ix ix_list (pv 0) pe_int (fun _ _ => rfl)) pe_int (nomark _)) (pss_cons (ps_set (i := 3) sc__law_draw.nd rfl (.inl rfl) (pe_op op_mod (pe_callTy call_int1 (by rfl) T.z_int (by decide +kernel) (pa_cons (pe_ix ix_list (pv 0) pe_int (fun _ _ => rfl)) pa_nil)) (pv 1)))
      (pss_cons (ps_asg (pe_op op_fdivN (pe_ix ix_list (pv 0) pe_int (fun _ _ => rfl)) (pv 1)) (pg_sub (pv 0) pe_int set_list))
      (pss_one (ps_ret (pv 3))))) pss_nil)
      (pss_cons (ps_set (i := 4) sc__law_draw.nd rfl (.inl rfl) (pe_op op_mod (pe_callTy call_int1 (by rfl) T.z_int (by decide +kernel) (pa_cons (pe_op op_add (pe_op op_mul (pe_ix ix_list (pv 0) pe_int (fun _ _ => rfl)) (pe_ix ix_list (pv 0) pe_int (fun _ _ => rfl))) (pe_op op_mul (pe_ix ix_list (pv 0) pe_int (fun _ _ => rfl)) pe_int)) pa_nil)) pe_int))
      (pss_cons (ps_asg (pe_op op_mod (pe_callTy call_int1 (by rfl) T.z_int (by decide +kernel) (pa_cons (pe_op op_add (pe_op op_add (pe_op op_mul (pv 4) pe_int) (pe_op op_mul (pe_ix ix_list (pv 0) pe_int (fun _ _ => rfl)) pe_int)) pe_int) pa_nil)) pe_int) (pg_sub (pv 0) pe_int set_list))
      (pss_one (ps_ret (pe_op op_mod (pe_callTy call_int1 (by rfl) T.z_int (by decide +kernel) (pa_cons (pe_op op_fdivN (pe_ix ix_list (pv 0) pe_int (fun _ _ => rfl)) pe_int) pa_nil)) (pv 1))))))))), ?_⟩
    -- bag[4] += 1
    refine ⟨_, rfl, b, _, 4, _, rfl, rfl, SqL.of hb, rfl, _, _, rfl, rfl, _, rfl, b, _, 4, 4, rfl, rfl, hb, rfl, ?_⟩
    have B1 : BagAt H (upd H b (.lst [.ref l, .int i, .int r, .int m, .int (c + 1)])) b l ns := ⟨(But.refl b H).upd, by rw [upd_ne nlb]; exact hL, i, r, m, c + 1, upd_same, hi, hm0, hm1⟩
    refine ⟨fun σ' H1 => ∃ x2 x3 x4, σ' = [some (.ref b), some (.int k), x2, x3, x4] ∧ BagAt H H1 b l ns, ?_, ?_⟩
    · have hL1 : (upd H b (.lst [.ref l, .int i, .int r, .int m, .int (c + 1)])) l = some (.lst (ns.map V.int)) := by rw [upd_ne nlb]; exact hL
      refine ⟨_, rfl, b, _, 2, _, rfl, rfl, SqL.of upd_same, rfl, rfl, _, rfl, ite2 (fun _ => ?_) (fun _ => ?_)⟩
      · refine ⟨_, rfl, b, _, 1, _, rfl, rfl, SqL.of upd_same, rfl, _, rfl, b, _, 0, _, rfl, rfl, SqL.of upd_same, rfl, _, _, rfl, .inl ⟨_, SqL.of hL1, rfl⟩, _, _, rfl, rfl, _, rfl, ite2 (fun hlt => ?_) (fun _ => ?_)⟩
        · have hlt : i < ((ns.map V.int).length : Int) := of_decide_eq_true hlt
          rw [List.length_map] at hlt
          have hin : i.toNat < ns.length := by omega
          have hat : atI (ns.map V.int) i = some (.int ns[i.toNat]) := by
            have e : i = ((i.toNat : Nat) : Int) := by omega
            refine at_of e ?_
            rw [List.getElem?_map, List.getElem?_eq_getElem hin]
            rfl
          refine ⟨_, rfl, b, _, 0, _, rfl, rfl, SqL.of upd_same, rfl, _, rfl, b, _, 1, _, rfl, rfl, SqL.of upd_same, rfl, l, _, i, _, rfl, rfl, SqL.of hL1, hat, ?_⟩
          refine ⟨_, rfl, b, _, 1, _, rfl, rfl, SqL.of upd_same, rfl, _, _, rfl, rfl, _, rfl, b, _, 1, 1, rfl, rfl, upd_same, rfl, ?_⟩
          refine ⟨_, rfl, _, rfl, _, _, rfl, rfl, ⟨by decide, by decide, by decide⟩, _, _, rfl, rfl, _, rfl, ite2 (fun _ => ?_) (fun _ => ?_)⟩
          · refine ⟨_, rfl, _, rfl, _, rfl, b, _, 2, 2, rfl, rfl, upd_same, rfl, _, _, _, rfl, (((But.refl b H).upd).upd).upd, ?_, _, _, _, _, upd_same, ?_, hm0, hm1⟩
            · rw [upd_ne nlb, upd_ne nlb]
              exact hL1
            · omega
          · refine ⟨_, rfl, b, _, 3, _, rfl, rfl, SqL.of upd_same, rfl, _, _, rfl, rfl, .inr ⟨by decide, by decide⟩, _, rfl, .inl ⟨_, rfl, _, _, rfl, rfl, (show (0 : Int) < 1000033 by decide), _, _, rfl, rfl, .inr ⟨by decide, by decide⟩, _, _, rfl, rfl, _, _, rfl, rfl, .inl ⟨_, rfl, _, _, rfl, rfl, (show (0 : Int) < 2147483587 by decide), ?_⟩⟩⟩
            refine ⟨_, rfl, b, _, 3, 3, rfl, rfl, upd_same, rfl, _, _, _, rfl, (((But.refl b H).upd).upd).upd, ?_, _, _, _, _, upd_same, ?_, Int.emod_nonneg _ (by decide), Int.lt_trans (Int.emod_lt_of_pos _ (by decide)) (by decide)⟩
            · rw [upd_ne nlb, upd_ne nlb]
              exact hL1
            · omega
        · exact ⟨_, _, _, rfl, B1⟩
      · exact ⟨_, _, _, rfl, B1⟩
    · rintro σ' H1 ⟨x2, x3, x4, rfl, hbut, hL1, i1, r1, m1, c1, hb1, hi1, hm01, hm11⟩
      have fin : ∀ H2, But b H H2 → H2 l = some (.lst (ns.map V.int)) → ∀ i2 r2 m2 c2 : Int, H2 b = some (.lst [.ref l, .int i2, .int r2, .int m2, .int c2]) → 0 ≤ i2 → 0 ≤ m2 → m2 < 2147483648 → Bag H2 b l := fun H2 _ h2 i2 r2 m2 c2 h3 h4 h5 h6 => ⟨ns, i2, r2, m2, c2, h3, h2, hlen, h4, h5, h6⟩
      refine ⟨_, rfl, b, _, 2, _, rfl, rfl, SqL.of hb1, rfl, _, _, rfl, rfl, _, rfl, ite2 (fun _ => ?_) (fun _ => ?_)⟩
      · refine ⟨_, rfl, b, _, 2, _, rfl, rfl, SqL.of hb1, rfl, .inl ⟨_, rfl, _, rfl, _, _, rfl, rfl, hk, ?_⟩⟩
        refine ⟨_, rfl, b, _, 2, _, rfl, rfl, SqL.of hb1, rfl, _, rfl, _, _, rfl, rfl, ⟨by omega, by omega⟩, _, rfl, b, _, 2, 2, rfl, rfl, hb1, rfl, _, rfl, ?_⟩
        refine q _ _ (Int.emod_nonneg _ (by omega)) (Int.emod_lt_of_pos _ hk) hbut.upd (fin _ hbut.upd (by rw [upd_ne nlb]; exact hL1) _ _ _ _ upd_same hi1 hm01 hm11)
      · refine ⟨_, rfl, b, _, 3, _, rfl, rfl, SqL.of hb1, rfl, _, rfl, b, _, 3, _, rfl, rfl, SqL.of hb1, rfl, _, _, rfl, rfl, .inl ⟨by omega, by omega⟩, _, rfl, b, _, 4, _, rfl, rfl, SqL.of hb1, rfl, _, _, rfl, rfl, .inr ⟨by decide, by decide⟩, _, _, rfl, rfl, .inl ⟨_, rfl, _, _, rfl, rfl, (show (0 : Int) < 2147483629 by decide), ?_⟩⟩
        refine ⟨_, rfl, _, _, rfl, rfl, .inr ⟨by decide, by decide⟩, _, rfl, b, _, 3, _, rfl, rfl, SqL.of hb1, rfl, _, _, rfl, rfl, .inr ⟨by decide, by decide⟩, _, _, rfl, rfl, _, _, rfl, rfl, .inl ⟨_, rfl, _, _, rfl, rfl, (show (0 : Int) < 2147483587 by decide), ?_⟩⟩
        refine ⟨_, rfl, b, _, 3, 3, rfl, rfl, hb1, rfl, ?_⟩
        refine ⟨_, rfl, b, _, 3, _, rfl, rfl, SqL.of upd_same, rfl, _, _, rfl, rfl, ⟨by decide, by decide⟩, .inl ⟨_, rfl, _, rfl, _, _, rfl, rfl, hk, ?_⟩⟩
        refine q _ _ (Int.emod_nonneg _ (by omega)) (Int.emod_lt_of_pos _ hk) hbut.upd (fin _ hbut.upd (by rw [upd_ne nlb]; exact hL1) _ _ _ _ upd_same hi1 (Int.emod_nonneg _ (by decide)) (Int.lt_trans (Int.emod_lt_of_pos _ (by decide)) (by decide)))
abbrev s__law_same : Stmt := topS 30
theorem sc__law_same : FnScope ["_law_found", "_law_due", "_law_a", "_law_b"] ["_law_found", "_law_due"] (defScope s__law_same) := ⟨rfl, rfl, rfl, by decide +kernel, rfl, by decide +kernel, by decide +kernel⟩
theorem ok__law_same_step {f : Addr} {fd : FuncData} {n : Nat} {sp : Sp} (F : Fun K "_law_same" "_law_same" s__law_same f fd) (T : Z mg)
    (c__law_same : Cal P w K mg base CX0 (n + 1) "_law_same" s__law_same ["_law_found", "_law_due"] sp) (hsp : ∀ m vs H Q E, n = m + 1 → sp__law_same K m vs H Q E → sp vs H Q E) : FnOk P w K mg base CX0 (n + 2) f fd ["_law_found", "_law_due"] (sp__law_same K n) := by
  refine F.ok sc__law_same (fun vs H Q E h => ?_) (fun cdv A outer s H vs Q E hr h => ?_)
  · obtain ⟨x, y, d, rfl, _⟩ := h
    rfl
  · obtain ⟨x, y, d, rfl, hx, hy, hd, q⟩ := h
    refine ⟨_, (pss_cons (ps_if (PW.pt (pw_or (pt_cmpR op_isN (pv 1) pe_non (nomark _)) (pw_or1 (pt_cmpR op_isN (pv 0) pe_non (nomark _))))) (pss_one (ps_ret (pe_and (pe_cmpR op_isN (pv 1) pe_non (nomark _)) (pe_one (pe_cmpR op_isN (pv 0) pe_non (nomark _)))))) pss_nil)
      (pss_cons (ps_if (pt_val (pe_callB call_isiT (by rfl) T.z_isinstance (by decide +kernel) (pa_cons (pv 1) (pa_cons (pe_tup (pa_cons (pe_bltn (v := .ty "list") (u := .type "list") (by rfl) T.z_list (by decide +kernel) rfl) (pa_cons (pe_bltn (v := .ty "tuple") (u := .type "tuple") (by rfl) T.z_tuple (by decide +kernel) rfl) pa_nil))) pa_nil)))) (pss_cons (ps_if (pt_cmpR op_ne (pe_callB call_isi (by rfl) T.z_isinstance (by decide +kernel) (pa_cons (pv 0) (pa_cons (pe_bltn (v := .ty "list") (u := .type "list") (by rfl) T.z_list (by decide +kernel) rfl) pa_nil))) (pe_callB call_isi (by rfl) T.z_isinstance (by decide +kernel) (pa_cons (pv 1) (pa_cons (pe_bltn (v := .ty "list") (u := .type "list") (by rfl) T.z_list (by decide +kernel) rfl) pa_nil))) (nomark _)) (pss_one (ps_ret pe_bl)) pss_nil)
      (pss_cons (ps_if (PW.pt (pw_or (pt_cmpR op_ne (pe_callB call_isi (by rfl) T.z_isinstance (by decide +kernel) (pa_cons (pv 0) (pa_cons (pe_bltn (v := .ty "tuple") (u := .type "tuple") (by rfl) T.z_tuple (by decide +kernel) rfl) pa_nil))) (pe_callB call_isi (by rfl) T.z_isinstance (by decide +kernel) (pa_cons (pv 1) (pa_cons (pe_bltn (v := .ty "tuple") (u := .type "tuple") (by rfl) T.z_tuple (by decide +kernel) rfl) pa_nil))) (nomark _)) (pw_or1 (pt_cmpR op_ne (pe_callB call_len (by rfl) T.z_len (by decide +kernel) (pa_cons (pv 0) pa_nil)) (pe_callB call_len (by rfl) T.z_len (by decide +kernel) (pa_cons (pv 1) pa_nil)) (nomark _))))) (pss_one (ps_ret pe_bl)) pss_nil)
      (pss_one (ps_ret (pe_callB (cr_all rfl) (by rfl) T.z_all (by decide +kernel) (pa_cons (pe_lc (own := [("_law_a", 2), ("_law_b", 3)]) (g := (gTup K 2 (gCons (gName 2) (gCons (gName 3) gNil)))) (by rfl) sc__law_same.nd (RZ.pi_zipA (by rfl) T.z_zip (pa_cons (pv 0) (pa_cons (pv 1) pa_nil))) (blkOk_by (N := ["_law_found", "_law_due", "_law_a", "_law_b"]) (sc := defScope s__law_same) (by decide +kernel)) (fun _ _ _ _ _ => (pg_tup rfl (pgs_cons (pg_name (i := 2) sc__law_same.nd rfl (.inl rfl)) (pgs_cons (pg_name (i := 3) sc__law_same.nd rfl (.inl rfl)) pgs_nil)))) (fun _ _ _ _ _ => pts_nil) (fun _ _ _ _ _ => (pe_c c__law_same hr (Nat.le_refl _) (by rfl) (pa_cons (pv 2) (pa_cons (pv 3) pa_nil))))) pa_nil)))))) pss_nil)
      (pss_cons (ps_if (pt_val (pe_callB call_isiT (by rfl) T.z_isinstance (by decide +kernel) (pa_cons (pv 0) (pa_cons (pe_tup (pa_cons (pe_bltn (v := .ty "list") (u := .type "list") (by rfl) T.z_list (by decide +kernel) rfl) (pa_cons (pe_bltn (v := .ty "tuple") (u := .type "tuple") (by rfl) T.z_tuple (by decide +kernel) rfl) pa_nil))) pa_nil)))) (pss_one (ps_ret pe_bl)) pss_nil)
      (pss_cons (ps_if (pt_cmpR op_ne (pe_callB call_isi (by rfl) T.z_isinstance (by decide +kernel) (pa_cons (pv 0) (pa_cons (pe_bltn (v := .ty "bool") (u := .type "bool") (by rfl) T.z_bool (by decide +kernel) rfl) pa_nil))) (pe_callB call_isi (by rfl) T.z_isinstance (by decide +kernel) (pa_cons (pv 1) (pa_cons (pe_bltn (v := .ty "bool") (u := .type "bool") (by rfl) T.z_bool (by decide +kernel) rfl) pa_nil))) (nomark _)) (pss_one (ps_ret pe_bl)) pss_nil)
      (pss_cons (ps_if (pt_cmpR op_ne (pe_callB call_isi (by rfl) T.z_isinstance (by decide +kernel) (pa_cons (pv 0) (pa_cons (pe_bltn (v := .ty "int") (u := .type "int") (by rfl) T.z_int (by decide +kernel) rfl) pa_nil))) (pe_callB call_isi (by rfl) T.z_isinstance (by decide +kernel) (pa_cons (pv 1) (pa_cons (pe_bltn (v := .ty "int") (u := .type "int") (by rfl) T.z_int (by decide +kernel) rfl) pa_nil))) (nomark _)) (pss_one (ps_ret pe_bl)) pss_nil)
      (pss_one (ps_ret (pe_and (pe_cmpR op_eq (pe_callB call_isi (by rfl) T.z_isinstance (by decide +kernel) (pa_cons (pv 0) (pa_cons (pe_bltn (v := .ty "str") (u := .type "str") (by rfl) T.z_str (by decide +kernel) rfl) pa_nil))) (pe_callB call_isi (by rfl) T.z_isinstance (by decide +kernel) (pa_cons (pv 1) (pa_cons (pe_bltn (v := .ty "str") (u := .type "str") (by rfl) T.z_str (by decide +kernel) rfl) pa_nil))) (nomark _)) (pe_one (pe_cmpR op_eq (pv 0) (pv 1) (nomark _))))))))))), ?_⟩
    have kinds : (x = .non ∧ y = .non) ∨ (∃ (Ty : String) (r1 r2 r3 : Bool), x = y ∧ x ≠ .non ∧ (∀ H', TyX K H' x (.type Ty)) ∧ kitB Ty "list" = some false ∧ kitB Ty "tuple" = some false ∧ kitB Ty "bool" = some r1 ∧ kitB Ty "int" = some r2 ∧ kitB Ty "str" = some r3 ∧ scal x x = true) ∨
        (∃ (m : Nat) (a b : Addr) (xs ys : List V) (ds : List PyData), n = m + 1 ∧ x = .ref a ∧ y = .ref b ∧ SqL K H a xs ∧ SqL K H b ys ∧ DpAll K H xs ds ∧ DpAll K H ys ds ∧ ds.length ≤ 1000 ∧ ∀ d ∈ ds, Deep m d) ∨
        (∃ (m : Nat) (a b : Addr) (xs ys : List V) (ds : List PyData), n = m + 1 ∧ x = .ref a ∧ y = .ref b ∧ SqT K H a xs ∧ SqT K H b ys ∧ DpAll K H xs ds ∧ DpAll K H ys ds ∧ ds.length ≤ 1000 ∧ ∀ d ∈ ds, Deep m d) := by
      cases hx with
      | non =>
        cases hy
        exact .inl ⟨rfl, rfl⟩
      | bl b =>
        cases hy
        exact .inr (.inl ⟨"bool", true, true, false, rfl, (fun e => by cases e), fun _ => .base (.bl b), by decide +kernel, by decide +kernel, by decide +kernel, by decide +kernel, by decide +kernel, rfl⟩)
      | int b =>
        cases hy
        exact .inr (.inl ⟨"int", false, true, false, rfl, (fun e => by cases e), fun _ => .base (.int b), by decide +kernel, by decide +kernel, by decide +kernel, by decide +kernel, by decide +kernel, rfl⟩)
      | str b =>
        cases hy
        exact .inr (.inl ⟨"str", false, false, true, rfl, (fun e => by cases e), fun _ => .base (.str b), by decide +kernel, by decide +kernel, by decide +kernel, by decide +kernel, by decide +kernel, rfl⟩)
      | lst h1 h2 =>
        cases hy with
        | lst h3 h4 =>
          cases n with
          | zero =>
            unfold Deep at hd
            exact hd.elim
          | succ m =>
            unfold Deep at hd
            exact .inr (.inr (.inl ⟨m, _, _, _, _, _, rfl, rfl, rfl, h1, h3, h2, h4, hd.1, hd.2⟩))
      | tup h1 h2 =>
        cases hy with
        | tup h3 h4 =>
          cases n with
          | zero =>
            unfold Deep at hd
            exact hd.elim
          | succ m =>
            unfold Deep at hd
            exact .inr (.inr (.inr ⟨m, _, _, _, _, _, rfl, rfl, rfl, h1, h3, h2, h4, hd.1, hd.2⟩))
    rcases kinds with ⟨rfl, rfl⟩ | ⟨Ty, r1, r2, r3, rfl, hn, ht, k1, k2, k3, k4, k5, hs⟩ | ⟨m, a, b, xs, ys, ds, hm, rfl, rfl, hSx, hSy, hDx, hDy, hdl, hdd⟩ | ⟨m, a, b, xs, ys, ds, hm, rfl, rfl, hSx, hSy, hDx, hDy, hdl, hdd⟩
    · refine ⟨_, rfl, rfl, _, rfl, ite2 (fun _ => ?_) (fun h => absurd (decide_eq_true rfl) h)⟩
      refine iteT ?_
      refine ⟨_, rfl, rfl, _, rfl, ite2 (fun _ => ?_) (fun h => absurd (decide_eq_true rfl) h)⟩
      refine ⟨_, rfl, rfl, ?_⟩
      rw [decide_eq_true rfl]
      exact q _ (Same.refl H)
    · refine ⟨_, rfl, rfl, _, rfl, ite2 (fun h => absurd (of_decide_eq_true h) hn) (fun _ => ?_)⟩
      refine ⟨_, rfl, rfl, _, rfl, ite2 (fun h => absurd (of_decide_eq_true h) hn) (fun _ => ?_)⟩
      refine ⟨_, rfl, (show 2 ≤ sizeLine by decide), fun p np => ⟨_, p, _, _, _, false, rfl, upd_same, .cons (.ty _) (.cons (.ty _) .nil), ht _, kitAny_lt k1 k2, _, rfl, iteF ?_⟩⟩
      have s1 := same_upd (o := HO.tup [V.ty "list", V.ty "tuple"]) np
      refine ⟨_, rfl, (show 2 ≤ sizeLine by decide), fun p2 np2 => ⟨_, p2, _, _, _, false, rfl, upd_same, .cons (.ty _) (.cons (.ty _) .nil), ht _, kitAny_lt k1 k2, _, rfl, iteF ?_⟩⟩
      have s2 := s1.trans (same_upd (o := HO.tup [V.ty "list", V.ty "tuple"]) np2)
      refine ⟨_, rfl, _, _, _, _, r1, rfl, .ty _, ht _, kit_ty k3, _, rfl, _, _, _, _, r1, rfl, .ty _, ht _, kit_ty k3, rfl, _, rfl, iteNS rfl ?_⟩
      refine ⟨_, rfl, _, _, _, _, r2, rfl, .ty _, ht _, kit_ty k4, _, rfl, _, _, _, _, r2, rfl, .ty _, ht _, kit_ty k4, rfl, _, rfl, iteNS rfl ?_⟩
      refine ⟨_, rfl, _, _, _, _, r3, rfl, .ty _, ht _, kit_ty k5, _, rfl, _, _, _, _, r3, rfl, .ty _, ht _, kit_ty k5, rfl, _, rfl, ite2 (fun _ => ?_) (fun h => absurd (decide_eq_true rfl) h)⟩
      refine ⟨_, rfl, _, rfl, hs, ?_⟩
      rw [decide_eq_true rfl]
      exact q _ s2
    · refine ⟨_, rfl, rfl, _, rfl, ite2 (fun h => absurd (of_decide_eq_true h) (fun e => by cases e)) (fun _ => ?_)⟩
      refine ⟨_, rfl, rfl, _, rfl, ite2 (fun h => absurd (of_decide_eq_true h) (fun e => by cases e)) (fun _ => ?_)⟩
      refine ⟨_, rfl, (show 2 ≤ sizeLine by decide), fun p np => ?_⟩
      have s1 := same_upd (o := HO.tup [V.ty "list", V.ty "tuple"]) np
      have hSx1 := s1.seq hSx
      have hSy1 := s1.seq hSy
      refine ⟨_, p, _, _, _, true, rfl, upd_same, .cons (.ty _) (.cons (.ty _) .nil), tyL hSy1, kitAny_lt (r1 := true) (r2 := false) (by decide +kernel) (by decide +kernel), _, rfl, iteT ?_⟩
      refine ⟨_, rfl, _, _, _, _, true, rfl, .ty _, tyL hSx1, kit_ty (by decide +kernel), _, rfl, _, _, _, _, true, rfl, .ty _, tyL hSy1, kit_ty (by decide +kernel), rfl, _, rfl, iteNS rfl ?_⟩
      refine ⟨_, rfl, _, _, _, _, false, rfl, .ty _, tyL hSx1, kit_ty (by decide +kernel), _, rfl, _, _, _, _, false, rfl, .ty _, tyL hSy1, kit_ty (by decide +kernel), rfl, _, rfl, iteNS rfl ?_⟩
      refine ⟨_, rfl, _, _, rfl, .inl ⟨_, hSx1, rfl⟩, _, rfl, _, _, rfl, .inl ⟨_, hSy1, rfl⟩, rfl, _, rfl, iteNS (by rw [DpAll.len hDx, DpAll.len hDy]) ?_⟩
      refine ⟨_, rfl, _, rfl, a, b, xs, ys, rfl, .inl ⟨hSx1, hSy1, fun D hD => ?_⟩⟩
      refine lc_it (walk_zip (xs := xs) (ys := ys) (n := ds.length) (by rw [DpAll.len hDx, DpAll.len hDy, Nat.min_self])) (fun i H' => But D (upd H p (.tup [.ty "list", .ty "tuple"])) H' ∧ H' D = some (.lst (List.replicate i (.bl true)))) ⟨(same_upd hD).but, upd_same⟩ (fun i H' _ pv => ?_) ?_ ?_
      · have nD : ∀ c u, (upd H p (.tup [.ty "list", .ty "tuple"])) c = some u → c ≠ D := fun c u e => ne_of_none e hD
        exact ⟨seq_but nD pv.1 hSx1, seq_but nD pv.1 hSy1⟩
      · rintro i _ H' _ hi ⟨bt, hDD⟩ ⟨T', x1, y1, rfl, nT, rfl, hx1, hy1⟩
        obtain ⟨d1, e1, g1⟩ := DpAll.at hDx hx1
        obtain ⟨d2, e2, g2⟩ := DpAll.at hDy hy1
        have ed : d1 = d2 := Option.some.inj (e1.symm.trans e2)
        subst ed
        have nDT : D ≠ T' := ne_of_none hDD nT
        have sT := same_upd (o := HO.tup [x1, y1]) nT
        have nD : ∀ c u, H c = some u → c ≠ D := fun c u e => ne_of_none (s1 _ _ e) hD
        have sH : Same H (upd H' T' (.tup [x1, y1])) := fun c u e => sT _ _ (bt c u (nD c u e) (s1 _ _ e))
        refine ⟨T', [x1, y1], rfl, SqT.of upd_same, rfl, x1, [y1], rfl, y1, [], rfl, rfl, rfl, ?_⟩
        refine ⟨_, rfl, _, rfl, hsp m _ _ _ _ hm ⟨x1, y1, d1, rfl, Dp.same sH g1, Dp.same sH g2, hdd d1 (List.mem_of_getElem? e1), fun H2 s2 => ?_⟩⟩
        refine ⟨_, s2 _ _ (sT _ _ hDD), ?_, fun c u n e => ?_, ?_⟩
        · rw [List.length_replicate]
          exact sz1 (by omega)
        · rw [upd_ne n]
          exact s2 _ _ (sT _ _ (bt c u n e))
        · rw [upd_same, ← List.replicate_succ']
      · rintro H' ⟨bt, hDD⟩
        refine ⟨D, List.replicate ds.length true, rfl, SqL.of (by rw [hDD, List.map_replicate]), ?_⟩
        rw [show (List.replicate ds.length true).all id = true from by rw [List.all_eq_true]; intro z hz; rw [List.eq_of_mem_replicate hz]; rfl]
        exact q _ fun c u e => bt c u (ne_of_none (s1 _ _ e) hD) (s1 _ _ e)
    · refine ⟨_, rfl, rfl, _, rfl, ite2 (fun h => absurd (of_decide_eq_true h) (fun e => by cases e)) (fun _ => ?_)⟩
      refine ⟨_, rfl, rfl, _, rfl, ite2 (fun h => absurd (of_decide_eq_true h) (fun e => by cases e)) (fun _ => ?_)⟩
      refine ⟨_, rfl, (show 2 ≤ sizeLine by decide), fun p np => ?_⟩
      have s1 := same_upd (o := HO.tup [V.ty "list", V.ty "tuple"]) np
      have hSx1 := s1.tup hSx
      have hSy1 := s1.tup hSy
      refine ⟨_, p, _, _, _, true, rfl, upd_same, .cons (.ty _) (.cons (.ty _) .nil), tyT hSy1, kitAny_lt (r1 := false) (r2 := true) (by decide +kernel) (by decide +kernel), _, rfl, iteT ?_⟩
      refine ⟨_, rfl, _, _, _, _, false, rfl, .ty _, tyT hSx1, kit_ty (by decide +kernel), _, rfl, _, _, _, _, false, rfl, .ty _, tyT hSy1, kit_ty (by decide +kernel), rfl, _, rfl, iteNS rfl ?_⟩
      refine ⟨_, rfl, _, _, _, _, true, rfl, .ty _, tyT hSx1, kit_ty (by decide +kernel), _, rfl, _, _, _, _, true, rfl, .ty _, tyT hSy1, kit_ty (by decide +kernel), rfl, _, rfl, iteNS rfl ?_⟩
      refine ⟨_, rfl, _, _, rfl, .inr ⟨_, hSx1, rfl⟩, _, rfl, _, _, rfl, .inr ⟨_, hSy1, rfl⟩, rfl, _, rfl, iteNS (by rw [DpAll.len hDx, DpAll.len hDy]) ?_⟩
      refine ⟨_, rfl, _, rfl, a, b, xs, ys, rfl, .inr ⟨hSx1, hSy1, fun D hD => ?_⟩⟩
      refine lc_it (walk_zipT (xs := xs) (ys := ys) (n := ds.length) (by rw [DpAll.len hDx, DpAll.len hDy, Nat.min_self])) (fun i H' => But D (upd H p (.tup [.ty "list", .ty "tuple"])) H' ∧ H' D = some (.lst (List.replicate i (.bl true)))) ⟨(same_upd hD).but, upd_same⟩ (fun i H' _ pv => ?_) ?_ ?_
      · have nD : ∀ c u, (upd H p (.tup [.ty "list", .ty "tuple"])) c = some u → c ≠ D := fun c u e => ne_of_none e hD
        exact ⟨tup_but nD pv.1 hSx1, tup_but nD pv.1 hSy1⟩
      · rintro i _ H' _ hi ⟨bt, hDD⟩ ⟨T', x1, y1, rfl, nT, rfl, hx1, hy1⟩
        obtain ⟨d1, e1, g1⟩ := DpAll.at hDx hx1
        obtain ⟨d2, e2, g2⟩ := DpAll.at hDy hy1
        have ed : d1 = d2 := Option.some.inj (e1.symm.trans e2)
        subst ed
        have nDT : D ≠ T' := ne_of_none hDD nT
        have sT := same_upd (o := HO.tup [x1, y1]) nT
        have nD : ∀ c u, H c = some u → c ≠ D := fun c u e => ne_of_none (s1 _ _ e) hD
        have sH : Same H (upd H' T' (.tup [x1, y1])) := fun c u e => sT _ _ (bt c u (nD c u e) (s1 _ _ e))
        refine ⟨T', [x1, y1], rfl, SqT.of upd_same, rfl, x1, [y1], rfl, y1, [], rfl, rfl, rfl, ?_⟩
        refine ⟨_, rfl, _, rfl, hsp m _ _ _ _ hm ⟨x1, y1, d1, rfl, Dp.same sH g1, Dp.same sH g2, hdd d1 (List.mem_of_getElem? e1), fun H2 s2 => ?_⟩⟩
        refine ⟨_, s2 _ _ (sT _ _ hDD), ?_, fun c u n e => ?_, ?_⟩
        · rw [List.length_replicate]
          exact sz1 (by omega)
        · rw [upd_ne n]
          exact s2 _ _ (sT _ _ (bt c u n e))
        · rw [upd_same, ← List.replicate_succ']
      · rintro H' ⟨bt, hDD⟩
        refine ⟨D, List.replicate ds.length true, rfl, SqL.of (by rw [hDD, List.map_replicate]), ?_⟩
        rw [show (List.replicate ds.length true).all id = true from by rw [List.all_eq_true]; intro z hz; rw [List.eq_of_mem_replicate hz]; rfl]
        exact q _ fun c u e => bt c u (ne_of_none (s1 _ _ e) hD) (s1 _ _ e)
abbrev s__law_letters : Stmt := topS 34
theorem sc__law_letters : FnScope ["_law_bag", "_law_letters_here", "_law_many", "_law_found", "_law_low", "_law_k", "_law_at"] ["_law_bag", "_law_letters_here", "_law_many"] (defScope s__law_letters) := ⟨rfl, rfl, rfl, by decide +kernel, rfl, by decide +kernel, by decide +kernel⟩
theorem ok__law_letters {f : Addr} {fd : FuncData} (F : Fun K "_law_letters" "_law_letters" s__law_letters f fd) (T : Z mg) (c__law_draw : Cal P w K mg base CX0 1 "_law_draw" s__law_draw ["_law_bag", "_law_many"] (sp__law_draw K)) : FnOk P w K mg base CX0 2 f fd ["_law_bag", "_law_letters_here", "_law_many"] (sp__law_letters K) := by
  refine F.ok sc__law_letters (fun vs H Q E h => ?_) (fun cdv A outer s H vs Q E hr h => ?_)
  · obtain ⟨b, lb, L, k, rfl, _⟩ := h
    rfl
  · obtain ⟨b, lb, L, k, rfl, B, hk, hL, q⟩ := h
    refine ⟨_, (pss_cons (ps_asg (pe_tup (pa_cons pe_str (pa_cons pe_int pa_nil))) (pg_tup rfl (pgs_cons (pg_name (i := 3) sc__law_letters.nd rfl (.inl rfl)) (pgs_cons (pg_name (i := 4) sc__law_letters.nd rfl (.inl rfl)) pgs_nil))))
      (pss_cons (ps_for PassesOwn.never rfl (pi_range1 (by rfl) T.z_range (pa_cons (pv 2) pa_nil)) (pg_name (i := 5) sc__law_letters.nd rfl (.inl rfl))
        (pss_cons (ps_set (i := 6) sc__law_letters.nd rfl (.inl rfl) (pe_op op_add (pv 4) (pe_c c__law_draw hr (by decide) (by rfl) (pa_cons (pv 0) (pa_cons (pe_op op_sub (pe_op op_sub (pe_callB call_len_str (by rfl) T.z_len (by decide +kernel) (pa_cons (pv 1) pa_nil)) (pv 4)) (pe_op op_sub (pe_op op_sub (pv 2) pe_int) (pv 5))) pa_nil)))))
      (pss_one (ps_par (i := 3) (j := 4) (by rfl) sc__law_letters.nd rfl rfl (by decide) rfl rfl (pa_cons (pe_op op_add_str (pv 3) (pe_ix ix_str (pv 1) (pv 6) (fun _ _ => rfl))) (pa_cons (pe_op op_add (pv 6) pe_int) pa_nil)) (by rfl)))))
      (pss_one (ps_ret (pv 3))))), ?_⟩
    refine ⟨(show 2 ≤ sizeLine by decide), fun p np => ⟨p, _, rfl, SqT.of upd_same, rfl, _, _, rfl, _, _, rfl, rfl, _, rfl, k, rfl, by omega, by omega, ?_⟩⟩
    have s0 := same_upd (o := HO.tup [V.str "", V.int 0]) np
    refine for_range (n := ((k : Nat) : Int).toNat) (fun i σ H' => ∃ (r : List Nat) (low : Nat) (y5 y6 : Option V), σ = [some (.ref b), some (.str (S L)), some (.int k), some (.str (S r)), some (.int low), y5, y6] ∧ But b H H' ∧ Bag H' b lb ∧ List.Sublist r (L.take low) ∧ r.length = i ∧ low + (k - i) ≤ L.length)
      ⟨[], 0, none, none, rfl, s0.but, B.same s0, List.nil_sublist _, rfl, by omega⟩ ?_ ?_
    · rintro i σ H' hi ⟨r, low, y5, y6, rfl, hb, B', hs, hr', hlow⟩
      have hi : i < k := by omega
      refine ⟨_, rfl, _, rfl, _, rfl, _, rfl, by rw [S_len]; exact sz (by omega), _, rfl, _, _, rfl, rfl, _, rfl, _, _, rfl, rfl, _, rfl, _, _, rfl, rfl, _, _, rfl, rfl, ?_⟩
      rw [S_len]
      refine ⟨b, lb, _, rfl, B', by omega, by omega, fun H2 z z0 z1 hb2 B2 => ?_⟩
      refine ⟨_, _, rfl, rfl, ?_⟩
      have hz : low + z.toNat < L.length := by omega
      refine ⟨_, rfl, _, rfl, _, rfl, S L, _, L[low + z.toNat], rfl, rfl, by rw [S_len]; exact sz (by omega), atI_of (show (low : Int) + z = ((low + z.toNat : Nat) : Int) by omega) (List.getElem?_eq_getElem hz), _, _, rfl, rfl, ?_, _, rfl, _, _, rfl, rfl, _, _, rfl, ?_⟩
      · rw [S_len]
        exact sz (by show r.length + 1 ≤ 100000; omega)
      · refine ⟨r ++ [L[low + z.toNat]], low + z.toNat + 1, some (.int (0 + (i : Int))), some (.int ((low : Int) + z)), ?_, hb.trans hb2, B2, sub_next hs (by omega) hz, by rw [List.length_append, hr']; rfl, by omega⟩
        rw [← S_cat]
        have e : ((low : Int) + z + 1) = (((low + z.toNat + 1 : Nat)) : Int) := by omega
        rw [← e]
        rfl
    · rintro σ H' ⟨r, low, y5, y6, rfl, hb, B', hs, hr', hlow⟩
      exact ⟨_, rfl, q _ _ (hs.trans (List.take_sublist _ _)) (by omega) hb B'⟩
abbrev s__law_some_faces : Stmt := topS 35
theorem sc__law_some_faces : FnScope ["_law_bag", "_law_most"] ["_law_bag", "_law_most"] (defScope s__law_some_faces) := ⟨rfl, rfl, rfl, by decide +kernel, rfl, by decide +kernel, by decide +kernel⟩
theorem ok__law_some_faces {f : Addr} {fd : FuncData} (F : Fun K "_law_some_faces" "_law_some_faces" s__law_some_faces f fd) (T : Z mg) (c__law_draw : Cal P w K mg base CX0 1 "_law_draw" s__law_draw ["_law_bag", "_law_many"] (sp__law_draw K))
    (c__law_letters : Cal P w K mg base CX0 2 "_law_letters" s__law_letters ["_law_bag", "_law_letters_here", "_law_many"] (sp__law_letters K)) : FnOk P w K mg base CX0 3 f fd ["_law_bag", "_law_most"] (sp__law_some_faces K) := by
  refine F.ok sc__law_some_faces (fun vs H Q E h => ?_) (fun cdv A outer s H vs Q E hr h => ?_)
  · obtain ⟨b, lb, m, rfl, _⟩ := h
    rfl
  · obtain ⟨b, lb, m, rfl, B, h0, h1, q⟩ := h
    refine ⟨_, (pss_one (ps_ret (pe_c c__law_letters hr (by decide) (by rfl) (pa_cons (pv 0) (pa_cons pe_str (pa_cons (pe_op op_add pe_int (pe_c c__law_draw hr (by decide) (by rfl) (pa_cons (pv 0) (pa_cons (pv 1) pa_nil)))) pa_nil)))))), ?_⟩
    refine ⟨_, rfl, _, rfl, _, rfl, b, lb, _, rfl, B, by omega, by omega, fun H1 z z0 z1 hb B1 => ?_⟩
    refine ⟨_, _, rfl, rfl, b, lb, lower, 1 + z.toNat, ?_, B1, by rw [lower_len]; omega, by rw [lower_len]; omega, fun H2 r hs hr' hb2 B2 => ?_⟩
    · have e : (1 : Int) + z = ((1 + z.toNat : Nat) : Int) := by omega
      rw [← e]
      rfl
    · exact q _ r hs (by omega) (by omega) (hb.trans hb2) B2
abbrev s_is_string : Stmt := topS 16
theorem sc_is_string : FnScope ["value", "faces", "face"] ["value", "faces"] (defScope s_is_string) := ⟨rfl, rfl, rfl, by decide +kernel, rfl, by decide +kernel, by decide +kernel⟩
theorem ok_is_string {f : Addr} {fd : FuncData} (F : Fun K "is_string" "is_string" s_is_string f fd) (T : Z mg) : FnOk P w K mg base CX0 1 f fd ["value", "faces"] (sp_is_string K) := by
  refine F.ok sc_is_string (fun vs H Q E h => ?_) (fun cdv A outer s H vs Q E hr h => ?_)
  · obtain ⟨v, fs, rfl, _⟩ := h
    rfl
  · obtain ⟨v, fs, rfl, hv, q⟩ := h
    refine ⟨_, (pss_one (ps_ret (pe_and (pe_callB call_isi (by rfl) T.z_isinstance (by decide +kernel) (pa_cons (pv 0) (pa_cons (pe_bltn (v := .ty "str") (u := .type "str") (by rfl) T.z_str (by decide +kernel) rfl) pa_nil))) (pe_one (pe_callB (cr_all rfl) (by rfl) T.z_all (by decide +kernel) (pa_cons (pe_lc (own := [("face", 2)]) (g := (gName 2)) (by rfl) sc_is_string.nd (pi_str (pv 0)) (blkOk_by (N := ["value", "faces", "face"]) (sc := defScope s_is_string) (by decide +kernel)) (fun _ _ _ _ _ => (pg_name (i := 2) sc_is_string.nd rfl (.inl rfl))) (fun _ _ _ _ _ => pts_nil) (fun _ _ _ _ _ => (pe_cmpR op_in_sign (pv 2) (pv 1) rfl))) pa_nil)))))), ?_⟩
    rcases hv with ⟨hs, hl⟩ | ⟨hs, T, ht, hk⟩
    · obtain ⟨z, rfl⟩ := str_of hs
      refine ⟨_, rfl, _, _, _, _, true, rfl, .ty _, .base (.str z), kit_ty (by decide +kernel), true, rfl, iteT ?_⟩
      refine ⟨_, rfl, z, rfl, fun D hD => lc_it walk_str (fun i H' => H' = upd H D (.lst ((z.cps.toList.take i).map fun c => V.bl (decide (c ∈ fs.cps.toList))))) rfl (fun _ _ _ _ => trivial) ?_ ?_⟩
      · rintro i x _ _ hi rfl ⟨rfl, c, hc, rfl⟩
        refine ⟨rfl, ?_⟩
        refine ⟨_, rfl, _, rfl, c, fs, rfl, rfl, _, upd_same, ?_, ?_⟩
        · rw [List.length_map, List.length_take]
          have hl : z.cps.size ≤ 100000 := hl
          exact sz1 (Nat.le_trans (Nat.min_le_left _ _) (by omega))
        · rw [upd_upd]
          have e : z.cps.toList.take (i + 1) = z.cps.toList.take i ++ [c] := by
            rw [List.take_add_one]
            have : z.cps.toList[i]? = some c := by rw [Array.getElem?_toList]; exact hc
            rw [this]
            rfl
          rw [e, List.map_append]
          rfl
      · rintro H' rfl
        refine ⟨D, z.cps.toList.map fun c => decide (c ∈ fs.cps.toList), rfl, SqL.of ?_, ?_⟩
        · rw [upd_same, List.take_of_length_le (by simp), List.map_map]
          rfl
        · have e : (z.cps.toList.map fun c => decide (c ∈ fs.cps.toList)).all id = bString (.str z) fs := by
            unfold bString isStr strOf
            rw [List.all_map]
            rfl
          rw [e]
          exact q _ (same_upd hD)
    · refine ⟨_, rfl, _, _, _, _, false, rfl, .ty _, ht, kit_ty hk, false, rfl, iteF ?_⟩
      have e : bString v fs = false := by
        unfold bString
        rw [hs]
        rfl
      rw [e] at q
      exact q _ (Same.refl H)
theorem kb_is_string_0_faces_value : KB K "is_string" s_is_string ["value", "faces"] ["faces", "value"] swp swp := kb_swap fun _ _ _ _ _ _ _ _ => rfl
abbrev s_is_ascending : Stmt := topS 12
theorem sc_is_ascending : FnScope ["text", "one", "other"] ["text"] (defScope s_is_ascending) := ⟨rfl, rfl, rfl, by decide +kernel, rfl, by decide +kernel, by decide +kernel⟩
theorem ok_is_ascending {f : Addr} {fd : FuncData} (F : Fun K "is_ascending" "is_ascending" s_is_ascending f fd) (T : Z mg) : FnOk P w K mg base CX0 1 f fd ["text"] (sp_is_ascending K) := by
  refine F.ok sc_is_ascending (fun vs H Q E h => ?_) (fun cdv A outer s H vs Q E hr h => ?_)
  · obtain ⟨l, rfl, _⟩ := h
    rfl
  · obtain ⟨l, rfl, hl, q⟩ := h
    refine ⟨_, (pss_one (ps_ret (pe_callB (cr_all rfl) (by rfl) T.z_all (by decide +kernel) (pa_cons (pe_lc (own := [("one", 1), ("other", 2)]) (g := (gTup K 2 (gCons (gName 1) (gCons (gName 2) gNil)))) (by rfl) sc_is_ascending.nd (pi_zipG (by rfl) T.z_zip (pa_cons (pv 0) (pa_cons (pe_slice sl_str (pv 0) (po_some pe_int) po_none) pa_nil))) (blkOk_by (N := ["text", "one", "other"]) (sc := defScope s_is_ascending) (by decide +kernel)) (fun _ _ _ _ _ => (pg_tup rfl (pgs_cons (pg_name (i := 1) sc_is_ascending.nd rfl (.inl rfl)) (pgs_cons (pg_name (i := 2) sc_is_ascending.nd rfl (.inl rfl)) pgs_nil)))) (fun _ _ _ _ _ => pts_nil) (fun _ _ _ _ _ => (pe_cmpR op_lt_str (pv 1) (pv 2) (nomark _)))) pa_nil)))), ?_⟩
    refine ⟨_, rfl, _, rfl, 1, rfl, _, rfl, by rw [S_len]; exact sz hl, ?_⟩
    rw [show cutS (S l) (some 1) none = S (l.drop 1) from S_sub l 1]
    refine ⟨_, _, l.map sgn, (l.drop 1).map sgn, rfl, .s rfl, .s rfl, fun k1 k2 _ _ g1 g2 D hD => ?_⟩
    have stay : ∀ (k : SK) (H' : Hp) (xs : List V), (k.val = .str (S l) ∨ k.val = .str (S (l.drop 1))) → k.src K H xs → k.src K H' xs := fun k H' xs h q => by
      cases k with
      | l a => rcases h with h | h <;> cases h
      | t a => rcases h with h | h <;> cases h
      | s x t => exact q
    have hk1 : ∀ H', k1.src K H' (l.map sgn) := fun H' => stay k1 H' _ (.inl (by assumption)) g1
    have hk2 : ∀ H', k2.src K H' ((l.drop 1).map sgn) := fun H' => stay k2 H' _ (.inr (by assumption)) g2
    refine lc_it (walk_zipG (xs := l.map sgn) (ys := (l.drop 1).map sgn) (n := l.length - 1) (by rw [List.length_map, List.length_map, List.length_drop]; omega)) (fun i H' => But D H H' ∧ ∃ bs : List Bool, H' D = some (.lst (bs.map V.bl)) ∧ bs.length = i ∧ bs.all id = ascB (l.take (i + 1)))
      ⟨(same_upd hD).but, [], upd_same, rfl, ?_⟩ (fun i H' _ _ => ⟨hk1 H', hk2 H'⟩) ?_ ?_
    · cases l with
      | nil => rfl
      | cons a r => rfl
    · rintro i _ H' _ hi ⟨bt, bs, hDD, hbl, hba⟩ ⟨T', x1, y1, rfl, nT, rfl, hx1, hy1⟩
      have h1 : i + 1 < l.length := by omega
      have ex : x1 = sgn l[i] := by
        have : (l.map sgn)[i]? = some x1 := hx1
        rw [List.getElem?_map, List.getElem?_eq_getElem (by omega)] at this
        exact (Option.some.inj this).symm
      have ey : y1 = sgn l[i + 1] := by
        have : ((l.drop 1).map sgn)[i]? = some y1 := hy1
        rw [List.getElem?_map, List.getElem?_drop, Nat.add_comm 1 i, List.getElem?_eq_getElem h1] at this
        exact (Option.some.inj this).symm
      subst ex ey
      have nDT : D ≠ T' := ne_of_none hDD nT
      refine ⟨T', _, rfl, SqT.of upd_same, rfl, _, _, rfl, _, [], rfl, rfl, rfl, ?_⟩
      refine ⟨_, rfl, _, rfl, _, _, rfl, rfl, _, (same_upd nT) _ _ hDD, by rw [List.length_map]; exact sz1 (by omega), fun a o n e => ?_, bs ++ [decide (l[i] < l[i + 1])], ?_, by rw [List.length_append, hbl]; rfl, ?_⟩
      · rw [upd_ne n]
        exact (same_upd nT) _ _ (bt a o n e)
      · rw [upd_same, List.map_append]
        exact congrArg (fun z => some (HO.lst (bs.map V.bl ++ [V.bl z]))) (lt_sgn _ _)
      · rw [List.all_append, hba, asc_next l i h1]
        show (_ && (_ && true)) = _
        rw [Bool.and_true]
        rfl
    · rintro H' ⟨bt, bs, hDD, hbl, hba⟩
      refine ⟨D, bs, rfl, SqL.of hDD, ?_⟩
      rw [hba, List.take_of_length_le (by omega)]
      exact q _ (but_fresh (Same.refl H) hD bt)
abbrev s_is_choice : Stmt := topS 13
theorem sc_is_choice : FnScope ["value", "letters", "most"] ["value", "letters", "most"] (defScope s_is_choice) := ⟨rfl, rfl, rfl, by decide +kernel, rfl, by decide +kernel, by decide +kernel⟩
theorem ok_is_choice {f : Addr} {fd : FuncData} (F : Fun K "is_choice" "is_choice" s_is_choice f fd) (T : Z mg) (c_is_string : Cal P w K mg base CX0 1 "is_string" s_is_string ["value", "faces"] (sp_is_string K))
    (c_is_ascending : Cal P w K mg base CX0 1 "is_ascending" s_is_ascending ["text"] (sp_is_ascending K)) : FnOk P w K mg base CX0 2 f fd ["value", "letters", "most"] (sp_is_choice K) := by
  refine F.ok sc_is_choice (fun vs H Q E h => ?_) (fun cdv A outer s H vs Q E hr h => ?_)
  · obtain ⟨v, L, m, rfl, _⟩ := h
    rfl
  · obtain ⟨v, L, m, rfl, hv, q⟩ := h
    refine ⟨_, (pss_cons (ps_if (PW.pt (pw_or (pt_not (pt_val (pe_callB call_isi (by rfl) T.z_isinstance (by decide +kernel) (pa_cons (pv 0) (pa_cons (pe_bltn (v := .ty "str") (u := .type "str") (by rfl) T.z_str (by decide +kernel) rfl) pa_nil))))) (pw_or1 (pt_not (pt_chain op_le op_le pe_int (pe_callB call_len_str (by rfl) T.z_len (by decide +kernel) (pa_cons (pv 0) pa_nil)) (pv 2)))))) (pss_one (ps_ret pe_bl)) pss_nil)
      (pss_one (ps_ret (pe_and (pe_c c_is_string hr (by decide) (by rfl) (pa_cons (pv 0) (pa_cons (pv 1) pa_nil))) (pe_one (pe_c c_is_ascending hr (by decide) (by rfl) (pa_cons (pv 0) pa_nil))))))), ?_⟩
    rcases hv with ⟨hs, hl⟩ | ⟨hs, Ty, ht, hk⟩
    · obtain ⟨z, rfl⟩ := str_of hs
      have hl : z.cps.size ≤ 100000 := hl
      refine ⟨_, rfl, _, _, _, _, true, rfl, .ty _, .base (.str z), kit_ty (by decide +kernel), true, rfl, iteF ?_⟩
      refine ⟨_, rfl, z, rfl, sz hl, _, _, rfl, rfl, _, rfl, ?_⟩
      cases h1 : decide ((1 : Int) ≤ (z.length : Int)) with
      | false =>
        refine iteF ⟨_, rfl, iteT ?_⟩
        have e : bChoice (.str z) L m = false := bChoice_1 h1
        rw [e] at q
        exact q _ (Same.refl H)
      | true =>
        refine iteT ⟨_, rfl, _, _, rfl, rfl, _, rfl, ?_⟩
        cases h2 : decide ((z.length : Int) ≤ m) with
        | false =>
          refine iteT ?_
          have e : bChoice (.str z) L m = false := bChoice_2 h2
          rw [e] at q
          exact q _ (Same.refl H)
        | true =>
          refine iteF ?_
          refine ⟨_, rfl, _, rfl, _, _, rfl, .inl ⟨rfl, hl⟩, fun H1 s1 => ⟨_, rfl, ?_⟩⟩
          have e : bChoice (.str z) L m = (bString (.str z) (S L) && ascB z.cps.toList) := bChoice_3 h1 h2
          cases h3 : bString (.str z) (S L) with
          | false =>
            rw [h3] at e
            rw [e] at q
            exact iteF (q _ s1)
          | true =>
            rw [h3] at e
            refine iteT ⟨_, rfl, z.cps.toList, by rw [S_tl z]; rfl, by simpa using hl, fun H2 s2 => ?_⟩
            rw [e] at q
            exact q _ (s1.trans s2)
    · refine ⟨_, rfl, _, _, _, _, false, rfl, .ty _, ht, kit_ty hk, false, rfl, iteT (iteT ?_)⟩
      have e : bChoice v L m = false := by
        unfold bChoice
        rw [hs]
        rfl
      rw [e] at q
      exact q _ (Same.refl H)
abbrev s_is_faces : Stmt := topS 14
theorem sc_is_faces : FnScope ["value"] ["value"] (defScope s_is_faces) := ⟨rfl, rfl, rfl, by decide +kernel, rfl, by decide +kernel, by decide +kernel⟩
theorem ok_is_faces {f : Addr} {fd : FuncData} (F : Fun K "is_faces" "is_faces" s_is_faces f fd) {t1 t2 : Tok} (g__LOWER : mg "_LOWER" = some (.str "abcdefghijklmnopqrstuvwxyz" t1)) (g__MOST_FACES : mg "_MOST_FACES" = some (.int 6 t2))
    (c_is_choice : Cal P w K mg base CX0 2 "is_choice" s_is_choice ["value", "letters", "most"] (sp_is_choice K)) : FnOk P w K mg base CX0 3 f fd ["value"] (sp_is_faces K) := by
  refine F.ok sc_is_faces (fun vs H Q E h => ?_) (fun cdv A outer s H vs Q E hr h => ?_)
  · obtain ⟨v, rfl, _⟩ := h
    rfl
  · obtain ⟨v, rfl, hv, q⟩ := h
    refine ⟨_, (pss_one (ps_ret (pe_c c_is_choice hr (by decide) (by rfl) (pa_cons (pv 0) (pa_cons (pe_glob (v := .str "abcdefghijklmnopqrstuvwxyz") rfl g__LOWER ⟨_, rfl⟩) (pa_cons (pe_glob (v := .int 6) rfl g__MOST_FACES ⟨_, rfl⟩) pa_nil)))))), ?_⟩
    exact ⟨_, rfl, v, lower, 6, rfl, hv, q⟩
abbrev s_is_letter : Stmt := topS 17
theorem sc_is_letter : FnScope ["value", "letters"] ["value", "letters"] (defScope s_is_letter) := ⟨rfl, rfl, rfl, by decide +kernel, rfl, by decide +kernel, by decide +kernel⟩
theorem ok_is_letter {f : Addr} {fd : FuncData} (F : Fun K "is_letter" "is_letter" s_is_letter f fd) (T : Z mg) : FnOk P w K mg base CX0 1 f fd ["value", "letters"] (sp_is_letter K) := by
  refine F.ok sc_is_letter (fun vs H Q E h => ?_) (fun cdv A outer s H vs Q E hr h => ?_)
  · obtain ⟨v, L, rfl, _⟩ := h
    rfl
  · obtain ⟨v, L, rfl, hv, q⟩ := h
    refine ⟨_, (pss_one (ps_ret (pe_and (pe_callB call_isi (by rfl) T.z_isinstance (by decide +kernel) (pa_cons (pv 0) (pa_cons (pe_bltn (v := .ty "str") (u := .type "str") (by rfl) T.z_str (by decide +kernel) rfl) pa_nil))) (pe_and (pe_cmpR op_eq (pe_callB call_len_str (by rfl) T.z_len (by decide +kernel) (pa_cons (pv 0) pa_nil)) pe_int (nomark _)) (pe_one (pe_cmpR op_in_sign (pv 0) (pv 1) rfl)))))), ?_⟩
    have q1 := q _ (Same.refl H)
    rcases hv with ⟨hs, hl⟩ | ⟨hs, Ty, ht, hk⟩
    · obtain ⟨z, rfl⟩ := str_of hs
      refine ⟨_, rfl, _, _, _, _, true, rfl, .ty _, .base (.str z), kit_ty (by decide +kernel), true, rfl, iteT ?_⟩
      refine ⟨_, rfl, z, rfl, sz hl, rfl, _, rfl, ?_⟩
      by_cases h1 : z.cps.size = 1
      · rw [show decide (V.int (z.length : Int) = V.int 1) = true from decide_eq_true (by rw [show z.length = 1 from h1]; rfl)]
        refine iteT ?_
        obtain ⟨c, rfl⟩ : ∃ c, z = S [c] := by
          obtain ⟨⟨l⟩⟩ := z
          match l, h1 with
          | [c], _ => exact ⟨c, rfl⟩
        refine ⟨_, rfl, _, rfl, c, _, rfl, rfl, ?_⟩
        exact q1
      · rw [show decide (V.int (z.length : Int) = V.int 1) = false from decide_eq_false fun e => h1 (by
          have e1 := V.int.inj e
          show z.length = 1
          omega)]
        refine iteF ?_
        have e : bLetter (.str z) L = false := by
          unfold bLetter
          rw [show decide ((strOf (V.str z)).cps.size = 1) = false from decide_eq_false h1, Bool.and_false, Bool.false_and]
        rw [e] at q1
        exact q1
    · refine ⟨_, rfl, _, _, _, _, false, rfl, .ty _, ht, kit_ty hk, false, rfl, iteF ?_⟩
      have e : bLetter v L = false := by
        unfold bLetter
        rw [hs, Bool.false_and, Bool.false_and]
      rw [e] at q1
      exact q1
abbrev s_is_room : Stmt := topS 18
theorem sc_is_room : FnScope ["value", "faces"] ["value", "faces"] (defScope s_is_room) := ⟨rfl, rfl, rfl, by decide +kernel, rfl, by decide +kernel, by decide +kernel⟩
theorem ok_is_room {f : Addr} {fd : FuncData} (F : Fun K "is_room" "is_room" s_is_room f fd) (T : Z mg) (c_is_string : Cal P w K mg base CX0 1 "is_string" s_is_string ["value", "faces"] (sp_is_string K)) : FnOk P w K mg base CX0 2 f fd ["value", "faces"] (sp_is_room K) := by
  refine F.ok sc_is_room (fun vs H Q E h => ?_) (fun cdv A outer s H vs Q E hr h => ?_)
  · obtain ⟨v, fs, rfl, _⟩ := h
    rfl
  · obtain ⟨v, fs, rfl, hv, q⟩ := h
    refine ⟨_, (pss_one (ps_ret (pe_and (pe_c c_is_string hr (by decide) (by rfl) (pa_cons (pv 0) (pa_cons (pv 1) pa_nil))) (pe_one (pe_cmpR op_eq (pe_callB call_len_str (by rfl) T.z_len (by decide +kernel) (pa_cons (pv 0) pa_nil)) pe_int (nomark _)))))), ?_⟩
    refine ⟨_, rfl, _, rfl, v, fs, rfl, hv, fun H1 sm => ⟨_, rfl, ?_⟩⟩
    cases hb : bString v fs with
    | false =>
      refine iteF ?_
      have e : bRoom v fs = false := by
        unfold bRoom
        rw [hb]
        rfl
      rw [e] at q
      exact q _ sm
    | true =>
      refine iteT ?_
      have hs : isStr v = true := by
        unfold bString at hb
        rw [Bool.and_eq_true] at hb
        exact hb.1
      rcases hv with ⟨_, hl⟩ | ⟨h0, _⟩
      · obtain ⟨z, rfl⟩ := str_of hs
        refine ⟨_, rfl, z, rfl, sz hl, rfl, ?_⟩
        have e : bRoom (.str z) fs = decide (V.int (z.length : Int) = V.int 4) := by
          unfold bRoom
          rw [hb]
          by_cases h4 : z.cps.size = 4
          · rw [decide_eq_true (show V.int (z.length : Int) = V.int 4 by rw [show z.length = 4 from h4]; rfl)]
            exact decide_eq_true h4
          · rw [decide_eq_false (show ¬ V.int (z.length : Int) = V.int 4 from fun q => h4 (by
              have q1 := V.int.inj q
              show z.length = 4
              omega))]
            exact decide_eq_false h4
        rw [e] at q
        exact q _ sm
      · rw [hs] at h0
        cases h0
abbrev s_is_integer : Stmt := topS 15
theorem sc_is_integer : FnScope ["value"] ["value"] (defScope s_is_integer) := ⟨rfl, rfl, rfl, by decide +kernel, rfl, by decide +kernel, by decide +kernel⟩
def bInt : V → Bool
  | .int _ => true
  | _ => false
def sp_is_integer (K : PySem.W.Frag) : Sp := fun vs H Q _ => ∃ v : V, vs = [v] ∧ (isNum v = true ∨ (isNum v = false ∧ NotI K H v)) ∧ Q (.bl (bInt v)) H
theorem ok_is_integer {f : Addr} {fd : FuncData} (F : Fun K "is_integer" "is_integer" s_is_integer f fd) (T : Z mg) : FnOk P w K mg base CX0 1 f fd ["value"] (sp_is_integer K) := by
  refine F.ok sc_is_integer (fun vs H Q E h => ?_) (fun cdv A outer s H vs Q E hr h => ?_)
  · obtain ⟨v, rfl, _⟩ := h
    rfl
  · obtain ⟨v, rfl, hv, q⟩ := h
    refine ⟨_, (pss_one (ps_ret (pe_and (pe_callB call_isi (by rfl) T.z_isinstance (by decide +kernel) (pa_cons (pv 0) (pa_cons (pe_bltn (v := .ty "int") (u := .type "int") (by rfl) T.z_int (by decide +kernel) rfl) pa_nil))) (pe_one (pe_not (pe_callB call_isi (by rfl) T.z_isinstance (by decide +kernel) (pa_cons (pv 0) (pa_cons (pe_bltn (v := .ty "bool") (u := .type "bool") (by rfl) T.z_bool (by decide +kernel) rfl) pa_nil)))))))), ?_⟩
    rcases hv with hn | ⟨hn, Ty, ht, hk⟩
    · cases v with
      | int i =>
        refine ⟨_, rfl, _, _, _, _, true, rfl, .ty _, .base (.int i), kit_ty (by decide +kernel), true, rfl, iteT ?_⟩
        exact ⟨_, rfl, _, _, _, _, false, rfl, .ty _, .base (.int i), kit_ty (by decide +kernel), false, rfl, q⟩
      | bl b =>
        refine ⟨_, rfl, _, _, _, _, true, rfl, .ty _, .base (.bl b), kit_ty (by decide +kernel), true, rfl, iteT ?_⟩
        exact ⟨_, rfl, _, _, _, _, true, rfl, .ty _, .base (.bl b), kit_ty (by decide +kernel), true, rfl, q⟩
      | _ => exact absurd (show false = true from hn) Bool.false_ne_true
    · refine ⟨_, rfl, _, _, _, _, false, rfl, .ty _, ht, kit_ty hk, false, rfl, iteF ?_⟩
      have e : bInt v = false := by
        cases v with
        | int i => exact absurd (show true = false from hn) Bool.true_eq_false.mp
        | _ => rfl
      rw [e] at q
      exact q
abbrev s_InvalidFaces_init : Stmt := inCls (topS 3) 0
theorem sc_InvalidFaces_init : FnScope ["self", "given"] ["self", "given"] (defScope s_InvalidFaces_init) := ⟨rfl, rfl, rfl, by decide +kernel, rfl, by decide +kernel, by decide +kernel⟩
theorem ok_InvalidFaces_init {f : Addr} {fd : FuncData} (F : Fun K "__init__" "InvalidFaces.__init__" s_InvalidFaces_init f fd) (G : GsK K) : FnOk P w K mg base CX0 1 f fd ["self", "given"] (sp_init K "given") := by
  refine F.ok sc_InvalidFaces_init (fun vs H Q E h => ?_) (fun cdv A outer s H vs Q E hr h => ?_)
  · obtain ⟨a, C, v, z, rfl, _⟩ := h
    rfl
  · obtain ⟨a, C, v, z, rfl, ha, T, Te, Tn, nf, nc, q⟩ := h
    refine ⟨_, (pss_cons (ps_ost (pv 0) (pv 1)) (pss_one (ps_ost (pv 0) (pe_name (pe_cls G (pv 0)))))), ?_⟩
    refine ⟨_, rfl, _, rfl, a, C, rfl, T, nf, .inl ⟨ha, fun dx hd hda => ?_⟩⟩
    have e1 : (upd (upd H dx (exd dx [(Str.ofString "given", v)])) a (exo a C (some dx))) a = some (exo a C (some dx)) := upd_same
    have e2 : (upd (upd H dx (exd dx [(Str.ofString "given", v)])) a (exo a C (some dx))) dx = some (exd dx [(Str.ofString "given", v)]) := by
      rw [upd_ne hda, upd_same]
    refine ⟨_, rfl, a, C, rfl, .inr ⟨dx, _, e1, e2⟩, Te, C, z, rfl, Tn, _, rfl, a, C, rfl, T, nc, .inr ⟨dx, _, e1, e2, (show 1 ≤ 900 by decide), ?_⟩⟩
    exact q dx hd hda
abbrev s_InvalidFace_init : Stmt := inCls (topS 4) 0
theorem sc_InvalidFace_init : FnScope ["self", "given"] ["self", "given"] (defScope s_InvalidFace_init) := ⟨rfl, rfl, rfl, by decide +kernel, rfl, by decide +kernel, by decide +kernel⟩
theorem ok_InvalidFace_init {f : Addr} {fd : FuncData} (F : Fun K "__init__" "InvalidFace.__init__" s_InvalidFace_init f fd) (G : GsK K) : FnOk P w K mg base CX0 1 f fd ["self", "given"] (sp_init K "given") := by
  refine F.ok sc_InvalidFace_init (fun vs H Q E h => ?_) (fun cdv A outer s H vs Q E hr h => ?_)
  · obtain ⟨a, C, v, z, rfl, _⟩ := h
    rfl
  · obtain ⟨a, C, v, z, rfl, ha, T, Te, Tn, nf, nc, q⟩ := h
    refine ⟨_, (pss_cons (ps_ost (pv 0) (pv 1)) (pss_one (ps_ost (pv 0) (pe_name (pe_cls G (pv 0)))))), ?_⟩
    refine ⟨_, rfl, _, rfl, a, C, rfl, T, nf, .inl ⟨ha, fun dx hd hda => ?_⟩⟩
    have e1 : (upd (upd H dx (exd dx [(Str.ofString "given", v)])) a (exo a C (some dx))) a = some (exo a C (some dx)) := upd_same
    have e2 : (upd (upd H dx (exd dx [(Str.ofString "given", v)])) a (exo a C (some dx))) dx = some (exd dx [(Str.ofString "given", v)]) := by
      rw [upd_ne hda, upd_same]
    refine ⟨_, rfl, a, C, rfl, .inr ⟨dx, _, e1, e2⟩, Te, C, z, rfl, Tn, _, rfl, a, C, rfl, T, nc, .inr ⟨dx, _, e1, e2, (show 1 ≤ 900 by decide), ?_⟩⟩
    exact q dx hd hda
abbrev s_InvalidString_init : Stmt := inCls (topS 5) 0
theorem sc_InvalidString_init : FnScope ["self", "given"] ["self", "given"] (defScope s_InvalidString_init) := ⟨rfl, rfl, rfl, by decide +kernel, rfl, by decide +kernel, by decide +kernel⟩
theorem ok_InvalidString_init {f : Addr} {fd : FuncData} (F : Fun K "__init__" "InvalidString.__init__" s_InvalidString_init f fd) (G : GsK K) : FnOk P w K mg base CX0 1 f fd ["self", "given"] (sp_init K "given") := by
  refine F.ok sc_InvalidString_init (fun vs H Q E h => ?_) (fun cdv A outer s H vs Q E hr h => ?_)
  · obtain ⟨a, C, v, z, rfl, _⟩ := h
    rfl
  · obtain ⟨a, C, v, z, rfl, ha, T, Te, Tn, nf, nc, q⟩ := h
    refine ⟨_, (pss_cons (ps_ost (pv 0) (pv 1)) (pss_one (ps_ost (pv 0) (pe_name (pe_cls G (pv 0)))))), ?_⟩
    refine ⟨_, rfl, _, rfl, a, C, rfl, T, nf, .inl ⟨ha, fun dx hd hda => ?_⟩⟩
    have e1 : (upd (upd H dx (exd dx [(Str.ofString "given", v)])) a (exo a C (some dx))) a = some (exo a C (some dx)) := upd_same
    have e2 : (upd (upd H dx (exd dx [(Str.ofString "given", v)])) a (exo a C (some dx))) dx = some (exd dx [(Str.ofString "given", v)]) := by
      rw [upd_ne hda, upd_same]
    refine ⟨_, rfl, a, C, rfl, .inr ⟨dx, _, e1, e2⟩, Te, C, z, rfl, Tn, _, rfl, a, C, rfl, T, nc, .inr ⟨dx, _, e1, e2, (show 1 ≤ 900 by decide), ?_⟩⟩
    exact q dx hd hda
abbrev s_InvalidNumber_init : Stmt := inCls (topS 6) 0
theorem sc_InvalidNumber_init : FnScope ["self", "given"] ["self", "given"] (defScope s_InvalidNumber_init) := ⟨rfl, rfl, rfl, by decide +kernel, rfl, by decide +kernel, by decide +kernel⟩
theorem ok_InvalidNumber_init {f : Addr} {fd : FuncData} (F : Fun K "__init__" "InvalidNumber.__init__" s_InvalidNumber_init f fd) (G : GsK K) : FnOk P w K mg base CX0 1 f fd ["self", "given"] (sp_init K "given") := by
  refine F.ok sc_InvalidNumber_init (fun vs H Q E h => ?_) (fun cdv A outer s H vs Q E hr h => ?_)
  · obtain ⟨a, C, v, z, rfl, _⟩ := h
    rfl
  · obtain ⟨a, C, v, z, rfl, ha, T, Te, Tn, nf, nc, q⟩ := h
    refine ⟨_, (pss_cons (ps_ost (pv 0) (pv 1)) (pss_one (ps_ost (pv 0) (pe_name (pe_cls G (pv 0)))))), ?_⟩
    refine ⟨_, rfl, _, rfl, a, C, rfl, T, nf, .inl ⟨ha, fun dx hd hda => ?_⟩⟩
    have e1 : (upd (upd H dx (exd dx [(Str.ofString "given", v)])) a (exo a C (some dx))) a = some (exo a C (some dx)) := upd_same
    have e2 : (upd (upd H dx (exd dx [(Str.ofString "given", v)])) a (exo a C (some dx))) dx = some (exd dx [(Str.ofString "given", v)]) := by
      rw [upd_ne hda, upd_same]
    refine ⟨_, rfl, a, C, rfl, .inr ⟨dx, _, e1, e2⟩, Te, C, z, rfl, Tn, _, rfl, a, C, rfl, T, nc, .inr ⟨dx, _, e1, e2, (show 1 ≤ 900 by decide), ?_⟩⟩
    exact q dx hd hda
end
end FW
namespace FW
open PySem PySem.Spec PyProof.Rows L2
/-! ### a lambda as a thing of the heap; with defaults or without -/
/-- its names, cells and code object; what it answers; its defaults' tuple -/
structure LF where
  F : NdefX.NF
  e : Expr
  dV : Value
abbrev LF.fd (l : LF) (doc pm ctv : Value) : FuncData := PySem.W.kdv_fn l.F.name l.F.qual l.F.params (.expr l.e) l.F.scope l.F.cl l.dV doc pm (.ref l.F.c) ctv
abbrev LF.ob (l : LF) (doc pm ctv : Value) : Obj := { cls := .type "function", data := .func (l.fd doc pm ctv) }
def LamO (f : Addr) (l : LF) : HO := .ext fun h => ∃ doc pm ctv : Value, h.get? f = some (l.ob doc pm ctv)
theorem lamO_ne {f : Addr} {l : LF} (ps : Array Value) : LamO f l ≠ .tbl ps := by
  intro z
  unfold LamO at z
  cases z
theorem lamO_at {P : Program} {w : World} {H : Hp} {h : Heap} {f : Addr} {l : LF} (ok : HOk P w H h) (e : H f = some (LamO f l)) : ∃ doc pm ctv : Value, h.get? f = some (l.ob doc pm ctv) := (ok f _ e).1
/-- the lambda l stands at f, its code object too, its defaults are dvs -/
structure LamAt (H : Hp) (f : Addr) (l : LF) (dvs : List V) : Prop where
  fn : H f = some (LamO f l)
  co : H l.F.c = some (LamX.CodeO l.F.c l.F.qual)
  df : (dvs = [] ∧ l.dV = .none) ∨ (dvs ≠ [] ∧ ∃ T, l.dV = .ref T ∧ H T = some (.tup dvs))
theorem LamAt.ext {H H' : Hp} {f : Addr} {l : LF} {dvs : List V} (a : LamAt H f l dvs) (e : LamX.ExtN H H') : LamAt H' f l dvs :=
  ⟨e _ _ a.fn lamO_ne, e _ _ a.co LamX.codeO_ne, a.df.imp id fun ⟨n, T, h1, h2⟩ => ⟨n, T, h1, e _ _ h2 (fun _ z => by cases z)⟩⟩
theorem LamAt.same {H H' : Hp} {f : Addr} {l : LF} {dvs : List V} (a : LamAt H f l dvs) (e : Same H H') : LamAt H' f l dvs := a.ext fun b o h _ => e b o h
section
variable {X : Cx} {pins : List (Addr × Obj)} {σ : L2.St} {H : Hp} {s : Shared}
theorem inv_lam {l : LF} {t' : Nat} {doc pm ctv : Value} (I : Inv X pins σ H s) : Inv X pins σ (upd H s.heap.objs.size (LamO s.heap.objs.size l)) { s with heap := s.heap.push (l.ob doc pm ctv), toks := t' } := by
  have e : (s.heap.push (l.ob doc pm ctv)).get? s.heap.objs.size = some (l.ob doc pm ctv) := Heap.get?_push_size _ rfl
  exact I.laid (a := s.heap.objs.size) (fun _ _ q => Heap.get?_push_of_some _ q) (Nat.le_refl _) ⟨⟨doc, pm, ctv, e⟩, ⟨_, e⟩, fun h1 h2 ⟨d, p, t, z⟩ st => ⟨d, p, t, st _ z⟩⟩
/-- a lambda's object is made; its code object is new, or stands in the table -/
theorem lamD_make {T : List (Addr × Str)} {c P : Addr} {params : Arguments} {body : Expr} {scope : Scope} {pos : Pos} {dV : Value} {E Q : Value → Shared → Prop} (I : Inv X pins σ H s) (TB : LamX.TabB X.base X.mg c P)
    (hcode : X.env.code = .ref c) (hm : (P, X.env.qual ++ "<lambda>") ∈ T) (hu : ∀ p ∈ T, p.1 = P → p.2 = X.env.qual ++ "<lambda>")
    (hT : LamX.Tabs T H) (hfree : ∀ y ∈ scope.names, y.2 = .free → ∃ c, X.env.cells.lookup y.1 = some c)
    (h : ∀ (f c' : Addr) (H1 : Hp) (s' : Shared), Inv X pins σ H1 s' → LamX.ExtN H H1 → LamX.Tabs T H1 → H f = none →
      H1 f = some (LamO f ⟨⟨"<lambda>", X.env.qual ++ "<lambda>", params, [], scope, cloFrom X.env.cells scope.names [], c'⟩, body, dV⟩) → H1 c' = some (LamX.CodeO c' (X.env.qual ++ "<lambda>")) → Q (.ref f) s') :
    wpAny (model X.prog X.w) X.A (makeTail "<lambda>" (X.env.qual ++ "<lambda>") params (.expr body) scope X.env dV .none none pos pos.line) Q E s := by
  obtain ⟨ps, atP, tri, among⟩ := (show LamX.TabS H P (X.env.qual ++ "<lambda>") from hT _ hm)
  have bP := TB.bm.keeps I.bk
  have obP : s.heap.get? P = some { cls := .none, data := .fields ps } := I.hok P _ atP
  have tabStep : ∀ {H1 : Hp} {f : Addr} {l : LF}, LamX.Tabs T H1 → H1 f = none → LamX.Tabs T (upd H1 f (LamO f l)) := fun t n => t.ext fun b o e => by rw [upd_ne (ne_of_none e n)]; exact e
  have extStep : ∀ {H1 : Hp} {f : Addr} {l : LF}, LamX.ExtN H H1 → H1 f = none → LamX.ExtN H (upd H1 f (LamO f l)) := fun t n b o e q => by
    have z := t b o e q
    rw [upd_ne (ne_of_none z n)]
    exact z
  cases hc : codeAmong pos ps.toList with
  | some cv =>
    obtain ⟨c', rfl, hco⟩ := among pos cv hc
    refine PySem.W.kdv_makeTailHit (mg := X.mg) (c := c) (P := P) (ps := ps) (closure_ok hfree) I.ok.glob (I.mod.glob.keeps I.bk) hcode (TB.code.keeps I.bk) obP tri hc bP fun ctv doc h' tk hx hsz => ?_
    have I1 : Inv X pins σ H { s with heap := h', toks := tk } := I.kept hx
    have nF : H h'.objs.size = none := I1.hok.fresh (Nat.le_refl _)
    refine h h'.objs.size c' _ _ (inv_lam (t' := tk) I1) (extStep (LamX.ExtN.refl H) nF) (tabStep hT nF) nF upd_same ?_
    rw [upd_ne (ne_of_none hco nF)]
    exact hco
  | none =>
    refine PySem.W.kdv_makeTail (mg := X.mg) (c := c) (P := P) (ps := ps) (closure_ok hfree) I.ok.glob (I.mod.glob.keeps I.bk) hcode (TB.code.keeps I.bk) obP tri hc TB.gP bP fun c' ctv doc h' tk hx hge hlt hrec htb => ?_
    obtain ⟨c2, oc, vs, t, e2, hoc, hd, hv⟩ := hrec
    cases e2
    have nC : H c' = none := I.hok.fresh hge
    have I1 := LamX.inv_table (t' := tk) (more := #[rawInt pos.line, rawInt pos.col, .ref c']) I atP hx htb hge ⟨oc, vs, t, hoc, hd, hv⟩
    generalize hH1 : upd (upd H P (.tbl (ps ++ #[rawInt pos.line, rawInt pos.col, .ref c']))) c' (LamX.CodeO c' (X.env.qual ++ "<lambda>")) = H1 at I1
    have at1 : H1 c' = some (LamX.CodeO c' (X.env.qual ++ "<lambda>")) := by
      rw [← hH1]
      exact upd_same
    have hE : LamX.ExtN H H1 := fun b o e n => by
      rw [← hH1, upd_ne (ne_of_none e nC), upd_ne (fun z => n ps (by rw [z, atP] at e; exact (Option.some.inj e).symm))]
      exact e
    have T1 : LamX.Tabs T H1 := by
      intro p hp
      by_cases hb : p.1 = P
      · rw [hu p hp hb, hb]
        refine ⟨ps ++ #[rawInt pos.line, rawInt pos.col, .ref c'], ?_, ?_, fun p' cv hcv => ?_⟩
        · rw [← hH1, upd_ne (ne_of_none atP nC), upd_same]
        · rw [Array.toList_append]
          exact PySem.TriplesOk_snoc _ _ _ _ tri
        · rw [Array.toList_append] at hcv
          rcases LamX.among_app _ tri hcv with z | z
          · obtain ⟨c0, e1, e2⟩ := among p' cv z
            exact ⟨c0, e1, hE _ _ e2 LamX.codeO_ne⟩
          · exact ⟨c', z, at1⟩
      · obtain ⟨ps', a1, a2, a3⟩ := hT p hp
        refine ⟨ps', ?_, a2, fun p' cv hcv => ?_⟩
        · rw [← hH1, upd_ne (ne_of_none a1 nC), upd_ne hb]
          exact a1
        · obtain ⟨c0, e1, e2⟩ := a3 p' cv hcv
          exact ⟨c0, e1, hE _ _ e2 LamX.codeO_ne⟩
    have nF : H1 h'.objs.size = none := I1.hok.fresh (Nat.le_refl _)
    refine h h'.objs.size c' _ _ (inv_lam (t' := tk) I1) (extStep hE nF) (tabStep T1 nF) (I.hok.fresh (Nat.le_trans hge (Nat.le_of_lt hlt))) upd_same ?_
    rw [upd_ne (ne_of_none at1 nF)]
    exact at1
end
/-- the reading of a lambda as a value -/
def tLamV (T : List (Addr × Str)) (mk : Addr → Value → LF) (dvs : List V) : TE := fun σ H Q => LamX.Tabs T H ∧ ∀ (f c' : Addr) (dV : Value) (H1 : Hp), LamX.ExtN H H1 → LamX.Tabs T H1 → H f = none → LamAt H1 f (mk c' dV) dvs → Q (.ref f) H1
abbrev lamF (X : Cx) (params : Arguments) (body : Expr) (scope : Scope) (c' : Addr) (dV : Value) : LF := ⟨⟨"<lambda>", X.env.qual ++ "<lambda>", params, [], scope, cloFrom X.env.cells scope.names [], c'⟩, body, dV⟩
def lamFree (sc scope : Scope) : Bool := scope.names.all fun y => !decide (y.2 = .free) || decide (sc.names.lookup y.1 = some .cell) || decide (sc.names.lookup y.1 = some .free)
theorem lam_free {X : Cx} {scope : Scope} (h : lamFree X.env.scope scope = true) (ok : X.Ok) : ∀ y ∈ scope.names, y.2 = .free → ∃ c, X.env.cells.lookup y.1 = some c := by
  unfold lamFree at h
  rw [List.all_eq_true] at h
  intro y hy e
  have z := h y hy
  simp only [e, decide_true, Bool.not_true, Bool.false_or, Bool.or_eq_true, decide_eq_true_eq] at z
  exact ok.has _ z
section
variable {X : Cx}
/-- lambda: body -/
theorem pe_lam0 {T : List (Addr × Str)} {c P : Addr} {params : Arguments} {body : Expr} {scope : Scope} {pos : Pos} (TB : LamX.TabB X.base X.mg c P) (hcode : X.env.code = .ref c) (hm : (P, X.env.qual ++ "<lambda>") ∈ T)
    (hu : ∀ p ∈ T, p.1 = P → p.2 = X.env.qual ++ "<lambda>") (hdef : defaultsOf params X.env = ([], [])) (hfree : lamFree X.env.scope scope = true) :
    PE X (.Lambda params body scope pos) (tLamV T (lamF X params body scope) []) := by
  refine ⟨fun pins s σ H Q I h => ?_⟩
  obtain ⟨hT, h⟩ := h
  refine PySem.W.kla_eval hdef ?_
  rw [makeFunction_eq]
  simp only [List.zip_nil_right, List.filterMap_nil, List.isEmpty_nil, if_true, pure_bind]
  exact lamD_make I TB hcode hm hu hT (lam_free hfree I.ok) fun f c' H1 s' I1 e1 t1 n1 f1 c1 => ⟨.ref f, H1, I1, rfl, h f c' .none H1 e1 t1 n1 ⟨f1, c1, .inl ⟨rfl, rfl⟩⟩⟩
/-- lambda name=n: body -/
theorem pe_lam1 {T : List (Addr × Str)} {c P : Addr} {params : Arguments} {body : Expr} {scope : Scope} {pos : Pos} {n : Int} {j : Nat} {dp : Pos} (TB : LamX.TabB X.base X.mg c P) (hcode : X.env.code = .ref c) (hm : (P, X.env.qual ++ "<lambda>") ∈ T)
    (hu : ∀ p ∈ T, p.1 = P → p.2 = X.env.qual ++ "<lambda>") (hd : params.defaults = [.Constant (.int n) j dp]) (hk : params.kw_defaults = []) (hfree : lamFree X.env.scope scope = true) :
    PE X (.Lambda params body scope pos) (tLamV T (lamF X params body scope) [.int n]) := by
  refine ⟨fun pins s σ H Q I h => ?_⟩
  obtain ⟨hT, h⟩ := h
  refine PySem.W.kdv_lam (by rw [hd]; rfl) hk ?_
  rw [hd]
  refine PySem.W.kdv_all1 (thn ((pe_int (X := X)).run pins s σ H (fun v H1 => v = .int n ∧ H1 = H) I ⟨rfl, rfl⟩) fun u s1 ⟨v, H1, I1, r, e1, e2⟩ => PySem.W.kdv_all0 ?_)
  subst e1
  subst e2
  rw [makeFunction_eq]
  simp only [List.zip_nil_right, List.filterMap_nil, List.isEmpty_nil, List.isEmpty_cons, if_true, pure_bind, Bool.false_eq_true, if_false]
  refine wpAny_bind (wpAny_newTextTuple ?_)
  have nT : H1 s1.heap.objs.size = none := I1.hok.fresh (Nat.le_refl _)
  have I2 : Inv X pins σ (upd H1 s1.heap.objs.size (.tup [.int n])) { s1 with heap := s1.heap.push { cls := .type "tuple", data := .seq [u].toArray }, toks := s1.toks } :=
    I1.laid (fun _ _ q => Heap.get?_push_of_some _ q) (Nat.le_refl _) ⟨sz1 (by decide), [u], .cons r .nil, ⟨_, Heap.get?_push_size _ rfl, rfl, _, rfl⟩⟩
  have ex : ∀ b o, H1 b = some o → upd H1 s1.heap.objs.size (.tup [.int n]) b = some o := fun b o q => by
    rw [upd_ne (ne_of_none q nT)]
    exact q
  refine lamD_make I2 TB hcode hm hu (hT.ext ex) (lam_free hfree I.ok) fun f c' H3 s' I3 e3 t3 n3 f3 c3 => ⟨.ref f, H3, I3, rfl, ?_⟩
  refine h f c' (.ref s1.heap.objs.size) H3 ((LamX.ExtN.of ex).trans e3) t3 ?_ ⟨f3, c3, .inr ⟨by simp, _, rfl, e3 _ _ upd_same (fun _ z => by cases z)⟩⟩
  exact NdefX.upd_none n3
end
end FW
namespace FW
open PySem PySem.Spec PyProof.Rows L2
/-! ### lambdas in a list, each called two frames below the def that made them -/
theorem mod_more {K : PySem.W.Frag} {mg : Str → Option Value} {base b2 : Heap} (m : Mod K mg base) (k : ∀ b o, base.get? b = some o → b2.get? b = some o) : Mod K mg b2 := by
  obtain ⟨m1, m2, ⟨mb, m3, m4⟩, m5⟩ := m
  exact ⟨m1.keeps k, m2.keeps k, ⟨mb, m3.keeps k, m4⟩, m5.keeps k⟩
theorem funs_more {h base b2 : Heap} : ∀ {l : List Env}, h.FunFrames base l → (∀ b ∈ frs l, b2.get? b = none) → h.FunFrames b2 l
  | [], _, _ => trivial
  | env :: r, ⟨h1, ⟨L, o, hf, hn, ho, hd⟩, h3⟩, n => by
    have e : frs (env :: r) = L :: frs r := by
      unfold frs
      rw [List.filterMap_cons, hf]
    rw [e] at n
    exact ⟨h1, ⟨L, o, hf, n L (List.mem_cons_self), ho, hd⟩, funs_more h3 fun b hb => n b (List.mem_cons_of_mem _ hb)⟩
/-- a ground that holds less -/
theorem env0_less {P : Program} {w : World} {K : PySem.W.Frag} {mg : Str → Option Value} {base b2 : Heap} {A : Around} {outer : List Env} {s : Shared} {H : Hp} (e0 : Env0 P w K mg b2 A outer s H) (m : Mod K mg base) (sub : ∀ b o, base.get? b = some o → b2.get? b = some o)
    (sz : base.objs.size ≤ b2.objs.size) : Env0 P w K mg base A outer s H := by
  refine ⟨e0.frames, m, fun b o e => e0.bs b o (sub b o e), Nat.le_trans sz e0.bsz, ?_, e0.frf, e0.hok, e0.bare⟩
  refine funs_more e0.funs fun b hb => ?_
  cases e : base.get? b with
  | none => rfl
  | some o =>
    have z := (e0.funs.mem hb).1
    rw [sub b o e] at z
    cases z
/-- the ground, with the cells of the def that runs -/
theorem ground_cells {X : Cx} {pins : List (Addr × Obj)} {σ : L2.St} {H : Hp} {s : Shared} (I : Inv X pins σ H s) (hfn : ∀ x, X.fn x = true) (hst : X.stack = X.env :: X.outer) (hf : X.env.frame = some X.env.locals) :
    ∃ b2 : Heap, (∀ b o, X.base.get? b = some o → b2.get? b = some o) ∧ X.base.objs.size ≤ b2.objs.size ∧ Env0 X.prog X.w X.K X.mg b2 X.A X.stack s H ∧ ∀ y c, X.env.cells.lookup y = some c → ∀ v, s.heap.IsCell c v → b2.IsCell c v := by
  let isC : Addr → Bool := fun b => X.env.cells.any fun p => decide (X.env.cells.lookup p.1 = some b)
  have hC1 : ∀ b, isC b = true → ∃ y, X.env.cells.lookup y = some b := fun b e => by
    obtain ⟨p, _, hp⟩ := List.any_eq_true.mp e
    exact ⟨p.1, of_decide_eq_true hp⟩
  have hC2 : ∀ y b, X.env.cells.lookup y = some b → isC b = true := fun y b e => List.any_eq_true.mpr ⟨(y, b), PySem.mem_of_lookup e, decide_eq_true e⟩
  let hid : List Addr := (List.range s.heap.objs.size).filter fun b => (X.base.get? b).isNone && !isC b
  have up : ∀ b o, X.base.get? b = some o → (PySem.W.hideAll s.heap hid).get? b = some o := fun b o e => by
    refine PySem.W.hideAll_get hid (I.bk b o e) fun hm => ?_
    have z := (List.mem_filter.mp hm).2
    rw [e] at z
    simp at z
  have dn : ∀ b o, (PySem.W.hideAll s.heap hid).get? b = some o → s.heap.get? b = some o ∧ ((∃ u, X.base.get? b = some u) ∨ ∃ y, X.env.cells.lookup y = some b) := fun b o e => by
    have e1 := PySem.W.of_hideAll hid e
    refine ⟨e1, ?_⟩
    cases q : X.base.get? b with
    | some u => exact .inl ⟨u, rfl⟩
    | none =>
      cases q2 : isC b with
      | true => exact .inr (hC1 b q2)
      | false =>
        have hm : b ∈ hid := List.mem_filter.mpr ⟨List.mem_range.mpr (Heap.lt_size e1), by rw [q, q2]; rfl⟩
        have z := PySem.W.hideAll_none hid (h := s.heap) hm
        rw [e] at z
        cases z
  have sz : (PySem.W.hideAll s.heap hid).objs.size = s.heap.objs.size := PySem.W.hideAll_size hid s.heap
  have e0 := I.env0
  refine ⟨PySem.W.hideAll s.heap hid, up, by rw [sz]; exact e0.bsz, ⟨e0.frames, mod_more e0.mod up, fun b o e => ?_, Nat.le_of_eq sz, ?_, e0.frf, e0.hok, e0.bare⟩, fun y c e v ⟨o, ho, hd⟩ => ?_⟩
  · obtain ⟨e1, z⟩ := dn b o e
    refine ⟨e1, ?_⟩
    rcases z with ⟨u, z⟩ | ⟨y, z⟩
    · exact (e0.bs b u z).2
    · exact I.freeC y b z
  · refine funs_more e0.funs fun b hb => ?_
    cases q : (PySem.W.hideAll s.heap hid).get? b with
    | none => rfl
    | some o =>
      exfalso
      rcases (dn b o q).2 with ⟨u, z⟩ | ⟨y, z⟩
      · have z2 := (e0.funs.mem hb).1
        rw [z] at z2
        cases z2
      · rcases List.mem_cons.mp (I.stkSub b hb) with e | e
        · exact I.cne y b z e
        · obtain ⟨_, o2, ho2, _⟩ := I.ok.funs.mem e
          exact absurd (Nat.lt_of_lt_of_le (Heap.lt_size ho2) (I.ok.cab y b (hfn y) z)) (Nat.lt_irrefl _)
  · refine ⟨o, PySem.W.hideAll_get hid ho fun hm => ?_, hd⟩
    have z := (List.mem_filter.mp hm).2
    rw [hC2 y c e] at z
    simp at z
/-- what the cells hold, told of the ground -/
abbrev CellsIn (cl : List (Str × Addr)) (fr : List Str) (ws : List (Option V)) (g : Heap) : Prop := NdefX.CellsAt cl fr ws g fun _ => none
theorem cells_in {X : Cx} {b2 : Heap} {H : Hp} {s : Shared} {cl : List (Str × Addr)} {fr : List Str} {ws : List (Option V)} (C : NdefX.CellsAt cl fr ws s.heap H) (hs : ∀ y c, cl.lookup y = some c → ∃ y', X.env.cells.lookup y' = some c)
    (k : ∀ y c, X.env.cells.lookup y = some c → ∀ v, s.heap.IsCell c v → b2.IsCell c v) : CellsIn cl fr ws b2 := by
  have k2 : ∀ y c, cl.lookup y = some c → ∀ v, s.heap.IsCell c v → b2.IsCell c v := fun y c e v z => by
    obtain ⟨y', e'⟩ := hs y c e
    exact k y' c e' v z
  refine ⟨C.len, fun y c e => ?_, C.inj, fun i y e => ?_⟩
  · obtain ⟨_, v, z⟩ := C.all y c e
    exact ⟨rfl, v, k2 y c e v z⟩
  · obtain ⟨c, hc, hv⟩ := C.has i y e
    refine ⟨c, hc, fun v ev => ?_⟩
    obtain ⟨u, r, z⟩ := hv v ev
    exact ⟨u, r, k2 y c hc _ z⟩
theorem cells_out {b2 : Heap} {H : Hp} {h : Heap} {cl : List (Str × Addr)} {fr : List Str} {ws : List (Option V)} (C : CellsIn cl fr ws b2) (bs : ∀ b o, b2.get? b = some o → h.get? b = some o ∧ H b = none) : NdefX.CellsAt cl fr ws h H := by
  have k : ∀ c v, b2.IsCell c v → h.IsCell c v ∧ H c = none := fun c v ⟨o, ho, hd⟩ => ⟨⟨o, (bs c o ho).1, hd⟩, (bs c o ho).2⟩
  refine ⟨C.len, fun y c e => ?_, C.inj, fun i y e => ?_⟩
  · obtain ⟨_, v, z⟩ := C.all y c e
    exact ⟨(k c _ z).2, v, (k c _ z).1⟩
  · obtain ⟨c, hc, hv⟩ := C.has i y e
    refine ⟨c, hc, fun v ev => ?_⟩
    obtain ⟨u, r, z⟩ := hv v ev
    exact ⟨u, r, (k c _ z).1⟩
/-- what a call of the lambda does, by what its cells hold -/
def LamRun (P : Program) (w : World) (K : PySem.W.Frag) (mg : Str → Option Value) (base : Heap) (k : Nat) (l : LF) (dvs : List V) (fr : List Str) (tb : List (Option V) → XK → Hp → VK → Prop) : Prop :=
  ∀ (A : Around) (outer : List Env) (s : Shared) (H : Hp) (f : Addr) (ws : List (Option V)) (Q : VK) (E : XK), Room k A → Env0 P w K mg base A outer s H → LamAt H f l dvs → NdefX.CellsAt l.F.cl fr ws s.heap H → tb ws E H Q →
    codeAny (model P w) A (.call (.ref f) ⟨[], []⟩) (CR (L2.CX P w) outer P w H s Q E) s
/-- what its parameters are bound to -/
def LamBinds (P : Program) (w : World) (l : LF) (dvs : List V) (ps : List Str) : Prop :=
  ∀ (s : Shared) (H : Hp) (f : Addr), HOk P w H s.heap → LamAt H f l dvs → ∀ doc pm ctv : Value, ∃ us, Vals dvs us ∧ BindsTo s (l.fd doc pm ctv) ⟨[], []⟩ (ps.zip us)
theorem lam_run {P : Program} {w : World} {K : PySem.W.Frag} {mg : Str → Option Value} {base : Heap} {k : Nat} {l : LF} {dvs : List V} {N ps fr : List Str} {tb : XK → TE} (S : NdefX.NScope N ps fr l.F.scope) (hl : dvs.length = ps.length) (hb : LamBinds P w l dvs ps)
    (hbody : ∀ (A : Around) (outer : List Env) (s : Shared) (H : Hp) (E : XK) (f : Addr), Room k (A.deeper (NdefX.envF l.F f s.heap.objs.size)) → PE (NdefX.ncx (L2.CX P w) P w K mg base N l.F f A outer s H E) l.e (tb E)) :
    LamRun P w K mg base (k + 1) l dvs fr fun ws E H Q => tb E (NdefX.startF N dvs ws) H Q := by
  intro A outer s H f ws Q E hr e0 la C h
  obtain ⟨doc, pm, ctv, ho⟩ := lamO_at e0.hok la.fn
  obtain ⟨us, r, hbd⟩ := hb s H f e0.hok la doc pm ctv
  have lim : s.heap.NoLimit := e0.mod.nolimit.keeps fun b o e => (e0.bs b o e).1
  refine PySem.W.kla_callFunE hr.depth ho rfl S.co S.gen rfl (NdefX.codeO_at e0.hok la.co) ?_
  refine hbd _ _ _ _ (wpAny_newFunctionEnv S.nocell (fun ⟨n, _⟩ hy => S.par n (List.of_mem_zip hy).1) (fun h₁ hns hsb => ⟨lim.fresh _ hsb, ?_⟩) S.kind)
  show codeAny _ _ (.expr l.e (NdefX.envF l.F f s.heap.objs.size)) _ _
  have kp : ∀ b o, s.heap.get? b = some o → h₁.get? b = some o := fun b o e => hsb.extBut b o (Nat.ne_of_lt (Heap.lt_size e)) (Heap.get?_push_of_some _ e)
  have I : Inv (NdefX.ncx (L2.CX P w) P w K mg base N l.F f A outer s H E) [] (NdefX.startF N dvs ws) H { s with heap := h₁, toks := s.toks + (ps.zip us).length } := NdefX.inv_startN S hr.hd e0 hl r C hns kp
  refine PySem.W.kla_codeExpr (wpAny_mono ((hbody A outer s H E f (hr.deeper _)).run [] _ _ H Q I h) (fun v s' hq => ?_) fun e s' hq => hq)
  obtain ⟨w', H', J', rv, q⟩ := hq
  exact ⟨w', H', J'.os, J'.bare, J'.base, J'.hok, rv, q⟩
theorem binds_0 {P : Program} {w : World} {l : LF} (h : l.dV = .none → ∀ doc pm ctv : Value, bindArgs (l.fd doc pm ctv) ⟨[], []⟩ = pure []) : LamBinds P w l [] [] := fun s H f _ la doc pm ctv => by
  rcases la.df with ⟨_, e⟩ | ⟨n, _⟩
  · exact ⟨[], .nil, BindsTo.of_eq (h e doc pm ctv)⟩
  · exact absurd rfl n
theorem binds_1 {P : Program} {w : World} {l : LF} {x : V} {p : Str} (h : ∀ doc pm ctv : Value, ∃ k : Option (Array Value) → Sem (List (Str × Value)), bindArgs (l.fd doc pm ctv) ⟨[], []⟩ = seqItems? l.dV >>= k ∧ ∀ u : Value, k (some #[u]) = pure [(p, u)]) : LamBinds P w l [x] [p] := by
  intro s H f ok la doc pm ctv
  rcases la.df with ⟨z, _⟩ | ⟨_, T, e1, e2⟩
  · cases z
  · obtain ⟨_, its, r, ob, hob, _, n, hd⟩ := ok T _ e2
    cases r with
    | cons r rr =>
      cases rr
      obtain ⟨k, h1, h2⟩ := h doc pm ctv
      exact ⟨[_], .cons r .nil, BindsTo.of_defaults (T := T) (o := ob) (n := n) (k := k) e1 hob hd h1 (h2 _)⟩
section
variable {Z : Cx}
/-- a(), a a local that holds the lambda; the ground tells what its cells hold -/
theorem pe_ask {base : Heap} {k : Nat} {f : Addr} {l : LF} {dvs : List V} {fr : List Str} {ws : List (Option V)} {tb : List (Option V) → XK → Hp → VK → Prop} {a : Str} {E : XK} {p1 p2 : Pos} (lr : LamRun Z.prog Z.w Z.K Z.mg base k l dvs fr tb) (C : CellsIn l.F.cl fr ws Z.base)
    (m : Mod Z.K Z.mg base) (sub : ∀ b o, base.get? b = some o → Z.base.get? b = some o) (sz : base.objs.size ≤ Z.base.objs.size) (hr : Room k Z.A) (hx : Passes (L2.CX Z.prog Z.w) Z E) (hN : Z.N[0]? = some a) (hv : Vis Z.env.scope a) (hd : (a == ("__debug__" : Str)) = false) (hcd : (a == ("__classdict__" : Str)) = false) :
    PE Z (.Call (.Name a p1) [] [] p2) (fun σ H Q => σ[0]? = some (some (.ref f)) ∧ H l.F.c = some (LamX.CodeO l.F.c l.F.qual) ∧ LamAt H f l dvs ∧ tb ws E H Q) := by
  refine ⟨fun pins s σ H Q I h => ?_⟩
  obtain ⟨hs, hc, la, ht⟩ := h
  refine wpAny_Call_Name_kw (thn ((pe_var (pos := p1) (i := 0) hN hv hd hcd).run pins s σ H (fun v H1 => v = .ref f ∧ H1 = H) I ⟨.ref f, hs, rfl, rfl⟩) fun u s1 ⟨v, H1, I1, r1, q1⟩ => ?_)
  obtain ⟨ev, eH⟩ := q1
  subst ev
  rw [eH] at I1
  obtain rfl : u = Value.ref f := r1
  obtain ⟨doc, pm, ctv, ho⟩ := lamO_at I1.hok la.fn
  refine PySem.W.callWith_F0 (first := []) ⟨_, _, _, _, ho⟩ ?_
  show wpAny _ _ (call (.ref f) []) _ _ _
  refine wpAny_call (codeAny_mono (lr Z.A Z.stack s1 H f ws Q E hr (env0_less I1.env0 m sub sz) la (cells_out C I1.bs) ht) fun r s' hq => ?_)
  cases r with
  | error e => exact hx pins σ H s1 e s' I1 hq
  | ok fl =>
    cases fl with
    | ret u => exact I1.after hq
    | next => exact False.elim hq
    | brk => exact False.elim hq
    | cont => exact False.elim hq
end
/-- x(y) where y holds a lambda that x calls and whose errors it takes -/
def LamIt (P : Program) (w : World) (K : PySem.W.Frag) (mg : Str → Option Value) (base b2 : Heap) (k : Nat) (cs : List Value) (f : Addr) (H : Hp) (Q : VK) : Prop := ∃ (l : LF) (dvs : List V) (fr : List Str) (ws : List (Option V)) (tb : List (Option V) → XK → Hp → VK → Prop),
  LamAt H f l dvs ∧ LamRun P w K mg base k l dvs fr tb ∧ CellsIn l.F.cl fr ws b2 ∧ ∃ Q0 : VK, TTry K cs (tb ws) H Q0 ∧ ∀ v H', Q0 v H' → Q v H'
def tItem (P : Program) (w : World) (K : PySem.W.Frag) (mg : Str → Option Value) (base b2 : Heap) (k : Nat) (cs : List Value) (i : Nat) : TE := fun σ H Q => ∃ f : Addr, σ[i]? = some (some (.ref f)) ∧ LamIt P w K mg base b2 k cs f H Q
section
variable {X : Cx}
theorem pe_item {base : Heap} {k i : Nat} {cs : List Value} {x a y : Str} {g : Addr} {pg : Arguments} {bg : List Stmt} {sg : Scope} {dV kV doc pm cdv ct oc : Value} {an od : Option Addr} {osl : Array (Option Value)} {Ng : List Str} {p py pos : Pos}
    (m : Mod X.K X.mg base) (sub : ∀ b o, base.get? b = some o → X.base.get? b = some o) (sz : base.objs.size ≤ X.base.objs.size)
    (hg : Gl X x) (hm : X.mg x = some (.ref g)) (hk : PySem.W.keepIn X.K (.ref g) = true) (lk : X.K.lookup g = some ⟨oc, od, .func (PySem.W.fnOf x x pg bg sg dV kV doc pm an cdv ct), osl⟩) (hcg : PySem.W.codeIn X.K cdv x = true)
    (hb : L2.Binds X.K (PySem.W.fnOf x x pg bg sg dV kV doc pm an cdv ct) [a] []) (Sg : FnScope Ng [a] sg) (hNg : Ng[0]? = some a) (hva : Vis sg a) (hG : ∀ q : Str, LamX.GivesTo X Ng x sg g cdv bg a q (TTry X.K cs)) (hr : Room (k + 1) X.A)
    (hN : X.N[i]? = some y) (hv : Vis X.env.scope y)
    (hdb : (x == ("__debug__" : Str)) = false := by decide) (hd : (a == ("__debug__" : Str)) = false := by decide) (hcd : (a == ("__classdict__" : Str)) = false := by decide) (hyd : (y == ("__debug__" : Str)) = false := by decide) (hyc : (y == ("__classdict__" : Str)) = false := by decide) :
    PE X (.Call (.Name x p) [.Name y py] [] pos) (tItem X.prog X.w X.K X.mg base X.base k cs i) := by
  refine ⟨fun pins s σ H Q I h => ?_⟩
  obtain ⟨f, hs, l, dvs, fr, ws, tb, la, lr, C, Q0, ht, hQ⟩ := h
  refine wpAny_Call_Name_kw (ld_glob I hg hm ?_ hdb)
  refine PySem.W.callWith_K (h₀ := X.base) I.ok.mod.kin hk ?_ (by rfl) (by rfl)
  show wpAny _ _ (spliced ((false, eval (.Name y py) X.env) :: backTo pos (starEach [] X.env))) _ _ s
  refine Calls.spliced_cons (thn ((pe_var (pos := py) (i := i) hN hv hyd hyc).run pins s σ H (fun v H1 => v = .ref f ∧ H1 = H) I ⟨.ref f, hs, rfl, rfl⟩) fun u s1 ⟨v, H1, I1, r1, q1⟩ => ?_)
  obtain ⟨ev, eH⟩ := q1
  subst ev
  rw [eH] at I1
  obtain rfl : u = Value.ref f := r1
  refine Calls.spliced_nil ⟨I1.kIn, ?_⟩
  have rc : codeAny (model X.prog X.w) X.A (.call (.ref g) ⟨[.ref f], []⟩) (CR C8.CX0 X.stack X.prog X.w H s1 Q0 C8.E0) s1 := by
    refine LamX.run_ofS (N := Ng) (ps := [a]) (us := [.ref f]) (vs := [.ref f]) lk hcg Sg hr I1.env0 (hb s1 [.ref f] I1.kIn rfl) (.cons rfl .nil) rfl fun hr' => ?_
    obtain ⟨t', ht', hq'⟩ := hG l.F.qual f l.F.c s1 H Q0 (fun E H' Q' => LamAt H' f l dvs ∧ tb ws E H' Q') (fun W pn xe E p1 p2 tk hW => pe_ask (Z := (cxOf C8.CX0 X.prog X.w X.K X.mg X.base Ng x sg g cdv X.A X.stack s1 H C8.E0).tr pn xe) (base := base) lr C m sub sz hr' (passes_call tk hW) hNg hva hd hcd)
      la.co ⟨la, ht⟩
    exact ⟨t', ht'.nox, hq'⟩
  refine wpAny_call (codeAny_mono rc fun r s2 hq => ?_)
  cases r with
  | error e => exact (show False from hq).elim
  | ok fl =>
    cases fl with
    | ret u =>
      obtain ⟨v, H', I', rv, q⟩ := I1.after hq
      exact ⟨v, H', I', rv, hQ v H' q⟩
    | next => exact False.elim hq
    | brk => exact False.elim hq
    | cont => exact False.elim hq
end
/-- the list l of the lambdas fs, walked; D the new list -/
def ChainI (it : Addr → Hp → VK → Prop) (l D : Addr) (all : List V) (Q : VK) : List Addr → List V → Hp → Prop
  | [], _, H => Q (.ref D) H
  | f :: r, acc, H => it f H fun v H1 => H1 l = some (.lst all) ∧ H1 D = some (.lst acc) ∧ ChainI it l D all Q r (acc ++ [v]) (upd H1 D (.lst (acc ++ [v])))
def sp_tries (P : Program) (w : World) (K : PySem.W.Frag) (mg : Str → Option Value) (base b2 : Heap) (k : Nat) (cs : List Value) : Sp := fun vs H Q _ => ∃ (l : Addr) (fs : List Addr), vs = [.ref l] ∧ fs.length < sizeLine ∧ H l = some (.lst (fs.map V.ref)) ∧
  ∀ D, H D = none → ChainI (LamIt P w K mg base b2 k cs) l D (fs.map V.ref) Q fs [] (upd H D (.lst []))
/-- [x(y) for y in l], the list's items by turns -/
theorem chain_walk {P : Program} {w : World} {K : PySem.W.Frag} {mg : Str → Option Value} {base b2 : Heap} {k : Nat} {cs : List Value} {σ : L2.St} {H1 : Hp} {l D : Addr} {fs : List Addr} {vs : List Nat} {i : Nat} {Q : VK} (hi : ∀ x : V, wipe ((wipe σ vs).set i (some x)) vs = wipe σ vs) (hl2 : i < (wipe σ vs).length)
    (sz : fs.length < sizeLine) (nD : H1 D = none) (hl : H1 l = some (.lst (fs.map V.ref))) (h : ChainI (LamIt P w K mg base b2 k cs) l D (fs.map V.ref) Q fs [] (upd H1 D (.lst []))) :
    ∃ W : Nat → Nat → Hp → Prop, (∃ m, W 0 m (upd H1 D (.lst []))) ∧ ∀ j m H, W j m H →
      ((Itl K l).stop j H ∧ Q (.ref D) H) ∨ ((Itl K l).go j H ∧ ∃ Nx : Hp → Prop, (∀ H', Nx H' → ∃ m', m' < m ∧ W (j + 1) m' H') ∧ ∀ x H', (Itl K l).yld j H x H' → gName i x (wipe σ vs) H' fun σ2 H2 => wipe σ2 vs = wipe σ vs ∧ tYes σ2 H2 fun b H3 =>
        if b = true then tItem P w K mg base b2 k cs i σ2 H3 fun y H4 => ∃ acc, H4 D = some (.lst acc) ∧ acc.length < sizeLine ∧ Nx (upd H4 D (.lst (acc ++ [y]))) else Nx H3) := by
  have nl : l ≠ D := ne_of_none hl nD
  refine lc_list (K := K) (a := l) (xs := fs.map V.ref) (fun j H => ∃ acc : List V, acc.length = j ∧ H l = some (.lst (fs.map V.ref)) ∧ H D = some (.lst acc) ∧ ChainI (LamIt P w K mg base b2 k cs) l D (fs.map V.ref) Q (fs.drop j) acc H) ⟨[], rfl, by rw [upd_ne nl]; exact hl, upd_same, h⟩
    (fun j H _ pv => .inl (.inl (by obtain ⟨_, _, z, _⟩ := pv; exact z))) (fun j x H ex pv => ?_) fun H pv => ?_
  · obtain ⟨acc, ha, h1, h2, hc⟩ := pv
    have hj : j < fs.length := by
      have z := (List.getElem?_eq_some_iff.mp ex).1
      rw [List.length_map] at z
      exact z
    have ex2 : x = V.ref fs[j] := by
      rw [List.getElem?_map, List.getElem?_eq_getElem hj] at ex
      exact (Option.some.inj ex).symm
    subst ex2
    rw [List.drop_eq_getElem_cons hj] at hc
    refine ⟨hi _, ?_⟩
    show tItem P w K mg base b2 k cs i _ H _
    refine ⟨fs[j], List.getElem?_set_self hl2, ?_⟩
    obtain ⟨lf, dvs, fr, ws, tb, la, lr, C, ht⟩ := hc
    refine ⟨lf, dvs, fr, ws, tb, la, lr, C, ?_⟩
    obtain ⟨Q0, ht, hQ⟩ := ht
    refine ⟨Q0, ht, fun v H4 q => ?_⟩
    obtain ⟨c1, c2, c3⟩ := hQ v H4 q
    have hlen : acc.length < sizeLine := by omega
    refine ⟨acc, c2, hlen, acc ++ [v], ?_, ?_, upd_same, c3⟩
    · rw [List.length_append, ha]
      rfl
    · rw [upd_ne nl]
      exact c1
  · obtain ⟨acc, ha, h1, h2, hc⟩ := pv
    rw [List.length_map, List.drop_length] at hc
    exact hc
/-- a lambda of the law's list: how it is made, what its call does -/
structure AskS (X : Cx) (k : Nat) where
  lam : Addr → Value → LF
  dvs : List V
  fr : List Str
  js : List Nat
  tb : List (Option V) → XK → Hp → VK → Prop
  run : ∀ c' dV, LamRun X.prog X.w X.K X.mg X.base k (lam c' dV) dvs fr tb
  caps : X.Ok → ∀ c' dV, NdefX.Caps X (lam c' dV).F.cl fr js
/-- told at the law: each lambda of the list l tried, D the new list -/
def ChainL (X : Cx) (k : Nat) (cs : List Value) (σ : L2.St) (l D : Addr) (all : List V) (Q : VK) : List (Addr × AskS X k) → List V → Hp → Prop
  | [], _, H => Q (.ref D) H
  | (f, a) :: r, acc, H => (∃ c' dV, LamAt H f (a.lam c' dV) a.dvs) ∧ TTry X.K cs (a.tb (a.js.map (NdefX.slotAt σ))) H fun v H1 => H1 l = some (.lst all) ∧ H1 D = some (.lst acc) ∧ ChainL X k cs σ l D all Q r (acc ++ [v]) (upd H1 D (.lst (acc ++ [v])))
def tTries {X : Cx} {k : Nat} (cs : List Value) (asks : List (AskS X k)) (t : TA) : TE := fun σ H Q => t σ H fun vs H1 => ∃ (l : Addr) (fs : List Addr), vs = [.ref l] ∧ fs.length = asks.length ∧ H1 l = some (.lst (fs.map V.ref)) ∧
  ∀ D, H1 D = none → ChainL X k cs σ l D (fs.map V.ref) Q (fs.zip asks) [] (upd H1 D (.lst []))
section
variable {X : Cx} {pins : List (Addr × Obj)} {σ : L2.St} {H0 : Hp} {s : Shared} {k : Nat} {cs : List Value} {b2 : Heap}
theorem chain_in (I : Inv X pins σ H0 s) (kc : ∀ y c, X.env.cells.lookup y = some c → ∀ v, s.heap.IsCell c v → b2.IsCell c v) {l D : Addr} {all : List V} {Q : VK} : ∀ (r : List (Addr × AskS X k)) (acc : List V) (H : Hp),
    ChainL X k cs σ l D all Q r acc H → ChainI (LamIt X.prog X.w X.K X.mg X.base b2 k cs) l D all Q (r.map (·.1)) acc H
  | [], _, _, h => h
  | (f, a) :: r, acc, H, ⟨⟨c', dV, la⟩, ht⟩ => by
    have cp := a.caps I.ok c' dV
    refine ⟨a.lam c' dV, a.dvs, a.fr, a.js.map (NdefX.slotAt σ), a.tb, la, a.run c' dV, cells_in (NdefX.cells_of I cp) (fun y c e => ⟨y, cp.sub y c e⟩) kc, _, ht, fun v H1 ⟨q1, q2, q3⟩ => ⟨q1, q2, chain_in I kc r _ _ q3⟩⟩
end
section
variable {X : Cx}
/-- x(e): the lambdas of the list e tried, one by one -/
theorem pe_tries {k kk : Nat} {cs : List Value} {x a : Str} {g : Addr} {fd : FuncData} {e : Expr} {t : TA} {p pos : Pos} (asks : List (AskS X k)) (hn : asks.length < sizeLine) (hfn : ∀ x, X.fn x = true) (hst : X.stack = X.env :: X.outer) (hf : X.env.frame = some X.env.locals)
    (F : ∀ b2 : Heap, Mod X.K X.mg X.base → (∀ b o, X.base.get? b = some o → b2.get? b = some o) → X.base.objs.size ≤ b2.objs.size → FnOk X.prog X.w X.K X.mg b2 C8.CX0 kk g fd [a] (sp_tries X.prog X.w X.K X.mg X.base b2 k cs))
    (hr : Room kk X.A) (hg : Gl X x) (hm : X.mg x = some (.ref g)) (hk : PySem.W.keepIn X.K (.ref g) = true) (hb : L2.Binds X.K fd [a] []) (ha : PA X [e] t)
    (hdb : (x == ("__debug__" : Str)) = false := by decide) (he : starEach [e] X.env = [(false, eval e X.env)] := by rfl) : PE X (.Call (.Name x p) [e] [] pos) (tTries cs asks t) := by
  refine ⟨fun pins s σ H Q I h => ?_⟩
  refine wpAny_Call_Name_kw (ld_glob I hg hm ?_ hdb)
  refine PySem.W.callWith_K (h₀ := X.base) I.ok.mod.kin hk (thn (ha.run pos pins s σ H _ I h) fun us s1 ⟨vs, H1, I1, r, q⟩ => ⟨I1.kIn, ?_⟩) he (by rfl)
  obtain ⟨l, fs, rfl, hl, hH, hc⟩ := q
  obtain ⟨b2, sub, sz, e0, kc⟩ := ground_cells I1 hfn hst hf
  have hlen : us.length = [a].length := by
    rw [← r.length]
    rfl
  have hz : (fs.zip asks).map (·.1) = fs := by
    rw [List.map_fst_zip]
    omega
  have hsp : sp_tries X.prog X.w X.K X.mg X.base b2 k cs [.ref l] H1 Q C8.E0 := ⟨l, fs, rfl, by omega, hH, fun D nD => by
    have z := chain_in (b2 := b2) I1 kc _ _ _ (hc D nD)
    rw [hz] at z
    exact z⟩
  refine wpAny_call (codeAny_mono ((F b2 I1.ok.mod sub sz).run X.A X.stack s1 H1 ⟨us, []⟩ us [.ref l] Q C8.E0 hr e0 (by have z := hb s1 us I1.kIn (by rw [List.append_nil]; exact hlen); rw [List.append_nil] at z; exact z) r hsp) fun r s' hq => ?_)
  cases r with
  | error e => exact (show False from hq).elim
  | ok fl =>
    cases fl with
    | ret u => exact I1.after hq
    | next => exact False.elim hq
    | brk => exact False.elim hq
    | cont => exact False.elim hq
end
end FW
namespace FW
open PySem PySem.Spec PyProof.Rows L2
/-! ### methods and static methods by their names -/
structure MCal (P : Program) (w : World) (K : PySem.W.Frag) (mg : Str → Option Value) (base : Heap) (CX : CXT) (C : Addr) (k : Nat) (m : Str) (ps : List Str) (sp : Sp) : Prop where
  ex : ∃ (f : Addr) (fd : FuncData), Meth K C m f ∧ FnOk P w K mg base CX k f fd ps sp ∧ L2.Binds K fd ps []
structure SCal (P : Program) (w : World) (K : PySem.W.Frag) (mg : Str → Option Value) (base : Heap) (CX : CXT) (x : Str) (C : Addr) (k : Nat) (m : Str) (st : Stmt) (ps : List Str) (sp : Sp) : Prop where
  g : mg x = some (.ref C)
  ex : ∃ (f : Addr) (fd : FuncData) (q : Str), Sta K C m f ∧ FnOk P w K mg base CX k f fd ps sp ∧ L2.Binds K fd ps [] ∧ Fun K m q st f fd
section
variable {X : Cx} {k j : Nat} {C : Addr} {x m : Str} {st : Stmt} {ps ks : List Str} {sp : Sp} {o e : Expr} {es : List Expr} {kws : List Keyword} {apos pos p1 : Pos} {ta : TE} {t tk : TA} {CX : CXT} {E : XK} {g : List Value → List Value → List Value} {gV : List V → List V → List V}
theorem pe_mx {pl : Sem Bool} (c : MCal X.prog X.w X.K X.mg X.base CX C k m ps sp) (hC : Cls X.K C) (hr : Room j X.A) (hk : k ≤ j) (hx : Passes CX X E) (he : PE X o ta) (ha : PA X (e :: es) t)
    (hst : starEach (e :: es) X.env = (false, eval e X.env) :: starEach es X.env := by rfl) (hpl : (backTo pos (starEach es X.env)).any (·.1) = false := by rfl)
    (ht : eval (.Call (.Attribute o m apos) (e :: es) [] pos) X.env = (do
      let ov ← eval o X.env
      standAt apos.atName
      let (f, first) ← holding [ov] (getMethod ov m pl)
      callWith pos f first (backTo pos (starEach (e :: es) X.env)) (backToKw pos (keywordEach [] X.env))) := by rfl) :
    PE X (.Call (.Attribute o m apos) (e :: es) [] pos) (tMeth C m sp [] E ta t) := by
  obtain ⟨f, fd, M, F, b⟩ := c.ex
  exact pe_meth he hC M F (hr.mono hk) b .nil hx ha hst hpl ht
theorem pe_mx0 {pl : Sem Bool} (c : MCal X.prog X.w X.K X.mg X.base CX C k m ps sp) (hC : Cls X.K C) (hr : Room j X.A) (hk : k ≤ j) (hx : Passes CX X E) (he : PE X o ta)
    (ht : eval (.Call (.Attribute o m apos) [] [] pos) X.env = (do
      let ov ← eval o X.env
      standAt apos.atName
      let (f, first) ← holding [ov] (getMethod ov m pl)
      callWith pos f first (backTo pos (starEach [] X.env)) (backToKw pos (keywordEach [] X.env))) := by rfl) :
    PE X (.Call (.Attribute o m apos) [] [] pos) (tMeth C m sp [] E ta tNil) := by
  obtain ⟨f, fd, M, F, b⟩ := c.ex
  exact pe_meth0 he hC M F (hr.mono hk) b .nil hx ht
theorem pe_m {pl : Sem Bool} (c : MCal X.prog X.w X.K X.mg X.base CX0 C k m ps sp) (hC : Cls X.K C) (hr : Room j X.A) (hk : k ≤ j) (he : PE X o ta) (ha : PA X (e :: es) t)
    (hst : starEach (e :: es) X.env = (false, eval e X.env) :: starEach es X.env := by rfl) (hpl : (backTo pos (starEach es X.env)).any (·.1) = false := by rfl)
    (ht : eval (.Call (.Attribute o m apos) (e :: es) [] pos) X.env = (do
      let ov ← eval o X.env
      standAt apos.atName
      let (f, first) ← holding [ov] (getMethod ov m pl)
      callWith pos f first (backTo pos (starEach (e :: es) X.env)) (backToKw pos (keywordEach [] X.env))) := by rfl) :
    PE X (.Call (.Attribute o m apos) (e :: es) [] pos) (tMeth C m sp [] E0 ta t) := pe_mx c hC hr hk pass0 he ha hst hpl ht
theorem pe_m0 {pl : Sem Bool} (c : MCal X.prog X.w X.K X.mg X.base CX0 C k m ps sp) (hC : Cls X.K C) (hr : Room j X.A) (hk : k ≤ j) (he : PE X o ta)
    (ht : eval (.Call (.Attribute o m apos) [] [] pos) X.env = (do
      let ov ← eval o X.env
      standAt apos.atName
      let (f, first) ← holding [ov] (getMethod ov m pl)
      callWith pos f first (backTo pos (starEach [] X.env)) (backToKw pos (keywordEach [] X.env))) := by rfl) :
    PE X (.Call (.Attribute o m apos) [] [] pos) (tMeth C m sp [] E0 ta tNil) := pe_mx0 c hC hr hk pass0 he ht
theorem pe_s {pl : Sem Bool} (c : SCal X.prog X.w X.K X.mg X.base CX0 x C k m st ps sp) (hr : Room j X.A) (hk : k ≤ j) (hg : Gl X x) (ha : PA X (e :: es) t)
    (hdb : (x == ("__debug__" : Str)) = false := by decide)
    (hc : eval (.Call (.Attribute (.Name x p1) m apos) (e :: es) [] pos) X.env = (do
      let oc ← eval (.Name x p1) X.env
      standAt apos.atName
      let (fc, fst) ← holding [oc] (getMethod oc m pl)
      callWith pos fc fst (backTo pos (starEach (e :: es) X.env)) (backToKw pos (keywordEach [] X.env))) := by rfl)
    (he : starEach (e :: es) X.env = (false, eval e X.env) :: starEach es X.env := by rfl) (hpl : (backTo pos (starEach es X.env)).any (·.1) = false := by rfl) :
    PE X (.Call (.Attribute (.Name x p1) m apos) (e :: es) [] pos) (tCall sp [] E0 t) := by
  obtain ⟨f, fd, q, S, F, b, _⟩ := c.ex
  exact pe_static hg c.g S F (hr.mono hk) b .nil pass0 ha hdb hc he hpl
theorem pe_sk0 {pl : Sem Bool} (c : SCal X.prog X.w X.K X.mg X.base CX0 x C k m st ps sp) (hb : ∀ f fd q, Fun X.K m q st f fd → KBinds X.K fd ps ks g gV) (hr : Room j X.A) (hk : k ≤ j) (hg : Gl X x) (hkw : PK X kws tk)
    (hall : (backToKw pos (keywordEach kws X.env)).all (·.1.isSome) = true := by rfl) (hks : (backToKw pos (keywordEach kws X.env)).filterMap (·.1) = ks := by rfl)
    (hdb : (x == ("__debug__" : Str)) = false := by decide)
    (hc : eval (.Call (.Attribute (.Name x p1) m apos) [] kws pos) X.env = (do
      let oc ← eval (.Name x p1) X.env
      standAt apos.atName
      let (fc, fst) ← holding [oc] (getMethod oc m pl)
      callWith pos fc fst (backTo pos (starEach [] X.env)) (backToKw pos (keywordEach kws X.env))) := by rfl)
    (hpl : ((backTo pos (starEach [] X.env)).any (·.1) || (backToKw pos (keywordEach kws X.env)).any (·.1.isNone)) = false := by rfl) :
    PE X (.Call (.Attribute (.Name x p1) m apos) [] kws pos) (tCallK sp gV E0 tNil tk) := by
  obtain ⟨f, fd, q, S, F, b, fn⟩ := c.ex
  exact pe_staticK0 hg c.g S F (hr.mono hk) (hb f fd q fn) pass0 hkw hall hks hdb hc hpl
theorem kbs_one {K : PySem.W.Frag} {x p1 : Str} {st : Stmt}
    (h : ∀ (q : Str) (kV doc pm : Value) (an : Option Addr) (cdv ct : Value) (u : Value), bindArgs (PySem.W.fnOf x q (defArgs st) (defBody st) (defScope st) .none kV doc pm an cdv ct) ⟨[], [(p1, u)]⟩ = pure [(p1, u)]) :
    ∀ f fd q, Fun K x q st f fd → KBinds K fd [p1] [p1] one1 one1 := by
  intro f fd q F
  obtain ⟨oc, od, kV, doc, pm, an, cdv, ct, osl, rfl, lk, hcd⟩ := F.ex
  refine ⟨fun s us ws _ hl => ?_, fun r q => one1_vals r q⟩
  match us, ws, hl with
  | [], [u], _ => exact .of_eq (h q kV doc pm an cdv ct u)
  | [], [], hl => exact absurd (show 0 = 1 from hl) (by decide)
  | [], _ :: _ :: _, hl => exact absurd (show 0 = 1 from hl) (by decide)
  | _ :: _, ws, hl => exact absurd (show 0 = 1 from hl) (by decide)
structure OwnE (P : Program) (w : World) (K : PySem.W.Frag) (mg : Str → Option Value) (base : Heap) (C : Addr) (k : Nat) (sp : Sp) : Prop where
  ex : ∃ f : Addr, PySem.W.findIn K (.ref C) "__eq__" = some (some (.ref f)) ∧ PySem.W.isFn K (.ref f) = true ∧ FnR P w K mg base CX0 k f sp
  ne : PySem.W.findIn K (.ref C) "__ne__" = some (some (.builtin "object.__ne__"))
  ob : PySem.W.mroIn K C (.type "object") = some true
  nf : PySem.W.notFirst K C (.ref C) = true
theorem op_eqO (o : OwnE X.prog X.w X.K X.mg X.base C k sp) (hr : Room j X.A) (hk : k ≤ j) : OpR X (compareOp .Eq) (rOwnI X.K C sp E0 false) := by
  obtain ⟨f, h1, h2, F⟩ := o.ex
  exact op_eqI h1 h2 F (hr.mono hk) pass0
theorem op_neO (o : OwnE X.prog X.w X.K X.mg X.base C k sp) (hr : Room j X.A) (hk : k + 1 ≤ j) : OpR X (compareOp .NotEq) (rOwnI X.K C sp E0 true) := by
  obtain ⟨f, h1, h2, F⟩ := o.ex
  exact op_neI h1 h2 o.ne o.ob F (hr.mono hk) pass0
end
end FW
namespace FW
open PySem PySem.Spec PyProof.Rows L2
/-! ### the lambdas of a list, by their texts -/
def lamParts : Expr → Arguments × Expr × Scope
  | .Lambda p b s _ => (p, b, s)
  | e => (⟨[], [], none, [], [], none, []⟩, e, default)
def listOf : Stmt → List Expr
  | .Assign _ (.List es _) _ => es
  | _ => []
section
variable {X : Cx} {k : Nat}
def ask0 (params : Arguments) (body : Expr) (scope : Scope) (N fr : List Str) (js : List Nat) {tb : XK → TE} (hS : NdefX.nscB N [] fr scope = true) (hB : NdefX.ndefB X.env.scope scope fr = true) (hjs : js.map (fun j => X.N[j]?) = fr.map some)
    (hb : ∀ (q : Str) (cl : List (Str × Addr)) (doc pm cv ctv : Value), bindArgs (PySem.W.kdv_fn "<lambda>" q params (.expr body) scope cl .none doc pm cv ctv) ⟨[], []⟩ = pure [])
    (hbody : ∀ (c' : Addr) (dV : Value) (A : Around) (outer : List Env) (s : Shared) (H : Hp) (E : XK) (f : Addr), Room k (A.deeper (NdefX.envF (lamF X params body scope c' dV).F f s.heap.objs.size)) →
      PE (NdefX.ncx (L2.CX X.prog X.w) X.prog X.w X.K X.mg X.base N (lamF X params body scope c' dV).F f A outer s H E) body (tb E)) : AskS X (k + 1) where
  lam := lamF X params body scope
  dvs := []
  fr := fr
  js := js
  tb := fun ws E H Q => tb E (NdefX.startF N [] ws) H Q
  run := fun c' dV => lam_run (tb := tb) (NdefX.nscope_by hS) rfl (binds_0 fun e doc pm ctv => by
    have e : dV = .none := e
    subst e
    exact hb _ _ _ _ _ _) (hbody c' dV)
  caps := fun ok c' dV => NdefX.Caps.made ok (NdefX.ndef_free hB) (NdefX.ndef_fr hB) hjs
def ask1 (params : Arguments) (body : Expr) (scope : Scope) (p : Str) (n : Int) (N fr : List Str) (js : List Nat) {tb : XK → TE} (hS : NdefX.nscB N [p] fr scope = true) (hB : NdefX.ndefB X.env.scope scope fr = true) (hjs : js.map (fun j => X.N[j]?) = fr.map some)
    (hb : ∀ (q : Str) (cl : List (Str × Addr)) (dV doc pm cv ctv : Value), ∃ k : Option (Array Value) → Sem (List (Str × Value)), bindArgs (PySem.W.kdv_fn "<lambda>" q params (.expr body) scope cl dV doc pm cv ctv) ⟨[], []⟩ = seqItems? dV >>= k ∧ ∀ u : Value, k (some #[u]) = pure [(p, u)])
    (hbody : ∀ (c' : Addr) (dV : Value) (A : Around) (outer : List Env) (s : Shared) (H : Hp) (E : XK) (f : Addr), Room k (A.deeper (NdefX.envF (lamF X params body scope c' dV).F f s.heap.objs.size)) →
      PE (NdefX.ncx (L2.CX X.prog X.w) X.prog X.w X.K X.mg X.base N (lamF X params body scope c' dV).F f A outer s H E) body (tb E)) : AskS X (k + 1) where
  lam := lamF X params body scope
  dvs := [.int n]
  fr := fr
  js := js
  tb := fun ws E H Q => tb E (NdefX.startF N [.int n] ws) H Q
  run := fun c' dV => lam_run (tb := tb) (NdefX.nscope_by hS) rfl (binds_1 fun doc pm ctv => hb _ _ _ _ _ _ _) (hbody c' dV)
  caps := fun ok c' dV => NdefX.Caps.made ok (NdefX.ndef_free hB) (NdefX.ndef_fr hB) hjs
end
/-! ### o.m(k = e, ..) -/
section
variable {X : Cx} {CX : CXT} {k j : Nat} {f C : Addr} {fd : FuncData} {ps ks : List Str} {sp : Sp} {E : XK} {m : Str} {pos apos : Pos} {o : Expr} {kws : List Keyword} {ta : TE} {tk : TA} {g : List Value → List Value → List Value} {gV : List V → List V → List V}
def tMethK (C : Addr) (m : Str) (sp : Sp) (gV : List V → List V → List V) (E : XK) (ta : TE) (tk : TA) : TE := fun σ H Q => ta σ H fun x H1 => ∃ a dx fs, x = .ref a ∧ H1 a = some (.ins C dx fs) ∧ fs.lookup m = none ∧ tk σ H1 fun zs H2 => sp (gV [x] zs) H2 Q E
theorem pe_methK0 {pl : Sem Bool} (he : PE X o ta) (c : Cls X.K C) (hm : Meth X.K C m f) (F : FnOk X.prog X.w X.K X.mg X.base CX k f fd ps sp) (hr : Room k X.A) (hb : KBinds X.K fd ps ks g gV) (hx : Passes CX X E) (hkw : PK X kws tk)
    (hall : (backToKw pos (keywordEach kws X.env)).all (·.1.isSome) = true := by rfl) (hks : (backToKw pos (keywordEach kws X.env)).filterMap (·.1) = ks := by rfl) (hpl : ((backTo pos (starEach [] X.env)).any (·.1) || (backToKw pos (keywordEach kws X.env)).any (·.1.isNone)) = false := by rfl)
    (ht : eval (.Call (.Attribute o m apos) [] kws pos) X.env = (do
      let ov ← eval o X.env
      standAt apos.atName
      let (f, first) ← holding [ov] (getMethod ov m pl)
      callWith pos f first (backTo pos (starEach [] X.env)) (backToKw pos (keywordEach kws X.env))) := by rfl) :
    PE X (.Call (.Attribute o m apos) [] kws pos) (tMethK C m sp gV E ta tk) := by
  refine ⟨fun pins s σ H Q I h => ?_⟩
  refine PySem.W.methodCall_KW (pl := pl) (thn (he.run pins s σ H _ I h) fun u s1 ⟨x, H1, I1, rx, a, dx, fs, ex, ea, l, q⟩ => ?_) ht
  subst ex
  obtain rfl : u = Value.ref a := rx
  refine getmeth_ok I1 ea c hm l ?_
  refine PySem.W.callWith_KW0 (first := [.ref a]) (h₀ := X.base) I1.ok.mod.kin hm.kp hall (thn (hkw.run pos pins s1 σ H1 _ I1 q) fun ws s2 ⟨zs, H2, I2, rz, q2⟩ => ⟨I2.kIn, ?_⟩) hpl
  rw [hks]
  exact run_fnk (us := [.ref a]) (vs := [.ref a]) F hr hb hx I2 (.cons rfl .nil) rz q2
structure MCalK (P : Program) (w : World) (K : PySem.W.Frag) (mg : Str → Option Value) (base : Heap) (CX : CXT) (C : Addr) (k : Nat) (m : Str) (ps ks : List Str) (g : List Value → List Value → List Value) (gV : List V → List V → List V) (sp : Sp) : Prop where
  ex : ∃ (f : Addr) (fd : FuncData), Meth K C m f ∧ FnOk P w K mg base CX k f fd ps sp ∧ KBinds K fd ps ks g gV
theorem pe_mk0 {pl : Sem Bool} (c : MCalK X.prog X.w X.K X.mg X.base CX0 C k m ps ks g gV sp) (hC : Cls X.K C) (hr : Room j X.A) (hk : k ≤ j) (he : PE X o ta) (hkw : PK X kws tk)
    (hall : (backToKw pos (keywordEach kws X.env)).all (·.1.isSome) = true := by rfl) (hks : (backToKw pos (keywordEach kws X.env)).filterMap (·.1) = ks := by rfl) (hpl : ((backTo pos (starEach [] X.env)).any (·.1) || (backToKw pos (keywordEach kws X.env)).any (·.1.isNone)) = false := by rfl)
    (ht : eval (.Call (.Attribute o m apos) [] kws pos) X.env = (do
      let ov ← eval o X.env
      standAt apos.atName
      let (f, first) ← holding [ov] (getMethod ov m pl)
      callWith pos f first (backTo pos (starEach [] X.env)) (backToKw pos (keywordEach kws X.env))) := by rfl) :
    PE X (.Call (.Attribute o m apos) [] kws pos) (tMethK C m sp gV E0 ta tk) := by
  obtain ⟨f, fd, hm, F, b⟩ := c.ex
  exact pe_methK0 he hC hm F (hr.mono hk) b pass0 hkw hall hks hpl ht
end
def swp1 {α : Type} : List α → List α → List α
  | [a], [u, v] => [a, v, u]
  | _, _ => []
theorem swp1_vals {vs : List V} {us : List Value} {zs : List V} {ws : List Value} (r : Vals vs us) (q : Vals zs ws) : Vals (swp1 vs zs) (swp1 us ws) := by
  cases r with
  | nil => exact .nil
  | cons r0 rr =>
    cases rr with
    | cons _ _ => exact .nil
    | nil =>
      cases q with
      | nil => exact .nil
      | cons q0 qq =>
        cases qq with
        | nil => exact .nil
        | cons q1 qqq =>
          cases qqq with
          | nil => exact .cons r0 (.cons q1 (.cons q0 .nil))
          | cons _ _ => exact .nil
theorem kbm_swap {K : PySem.W.Frag} {x qual : Str} {st : Stmt} {f : Addr} {fd : FuncData} {p0 p1 p2 : Str} (F : Fun K x qual st f fd)
    (h : ∀ (kV doc pm : Value) (an : Option Addr) (cdv ct : Value) (a u v : Value), bindArgs (PySem.W.fnOf x qual (defArgs st) (defBody st) (defScope st) .none kV doc pm an cdv ct) ⟨[a], [(p2, u), (p1, v)]⟩ = pure [(p0, a), (p1, v), (p2, u)]) :
    KBinds K fd [p0, p1, p2] [p2, p1] swp1 swp1 := by
  obtain ⟨oc, od, kV, doc, pm, an, cdv, ct, osl, rfl, lk, hcd⟩ := F.ex
  refine ⟨fun s us ws _ hl => ?_, fun r q => swp1_vals r q⟩
  match us, ws, hl with
  | [a], [u, v], _ => exact .of_eq (h kV doc pm an cdv ct a u v)
  | [], ws, hl => exact absurd (show 0 = 3 from hl) (by decide)
  | [_], [], hl => exact absurd (show 0 = 3 from hl) (by decide)
  | [_], [_], hl => exact absurd (show 0 = 3 from hl) (by decide)
  | [_], _ :: _ :: _ :: _, hl => exact absurd (show 0 = 3 from hl) (by decide)
  | _ :: _ :: _, ws, hl => exact absurd (show 0 = 3 from hl) (by decide)
/-- an error class of the program that the law's own try takes; f: what its error bears -/
structure ErrF (K : PySem.W.Frag) (mg : Str → Option Value) (C : Addr) (f z : String) (cs : List Value) : Prop where
  kls : ∃ fI, Kls K mg C fI z
  nf : PySem.W.findIn K (.ref C) (Str.ofString f) = some none
  hex : PySem.W.exmAny K (.ref C) cs = some true
  fi : ∀ v, FieldIs K C [("code", .str (Str.ofString z)), (Str.ofString f, v)] (Str.ofString z) v
abbrev ErrK (K : PySem.W.Frag) (mg : Str → Option Value) (C : Addr) (z : String) (cs : List Value) : Prop := ErrF K mg C "given" z cs
def givenB (z : Str) : Bool := !decide (z ∈ (["InvalidLine", "InvalidStep", "InvalidTable", "InvalidBad", "InvalidPlan", "UnknownRoom"] : List Str)) && !decide (z ∈ (["TooMany", "Full"] : List Str)) && !decide (z ∈ (["InvalidText", "InvalidPage"] : List Str)) && !decide (z = "UnknownState") && !decide (z ∈ (["InvalidPaper", "OtherFaces", "OtherCutters", "NothingLeft"] : List Str))
theorem fi_given {K : PySem.W.Frag} {C : Addr} {z : Str} (h : givenB z = true) (nf : PySem.W.findIn K (.ref C) (Str.ofString "given") = some none) (v : V) : FieldIs K C [("code", .str z), (Str.ofString "given", v)] z v := by
  unfold givenB at h
  simp only [Bool.and_eq_true, Bool.not_eq_true', decide_eq_false_iff_not] at h
  obtain ⟨⟨⟨⟨h1, h2⟩, h3⟩, h4⟩, h5⟩ := h
  unfold FieldIs
  rw [if_neg h1, if_neg h2, if_neg h3, if_neg h4, if_neg h5]
  exact ⟨nf, rfl⟩
theorem fi_at {K : PySem.W.Frag} {C : Addr} {z : Str} (h : decide (z ∈ (["InvalidLine", "InvalidStep", "InvalidTable", "InvalidBad", "InvalidPlan", "UnknownRoom"] : List Str)) = true) (nf : PySem.W.findIn K (.ref C) (Str.ofString "at") = some none) (v : V) : FieldIs K C [("code", .str z), (Str.ofString "at", v)] z v := by
  unfold FieldIs
  rw [if_pos (of_decide_eq_true h)]
  exact ⟨nf, rfl⟩
/-- what the law's try makes of such an error -/
theorem ErrF.tried {K : PySem.W.Frag} {mg : Str → Option Value} {C : Addr} {f z : String} {cs : List Value} {Q : VK} {H1 : Hp} {v : V} {d : Addr} (T : ErrF K mg C f z cs) (nd : H1 d = none) (h : ∀ H2 p, Same H1 H2 → H2 p = none → Q (.ref p) (upd H2 p (.tup [.str (Str.ofString z), v]))) :
    PySem.W.exmAny K (.ref C) cs = some true ∧ ∀ a, (upd H1 d (Err1 f z v)) a = none → ∃ (z' : Str) (v' : V), Caught K (upd (upd H1 d (Err1 f z v)) a (ExK (.ref C) (some d) a)) a z' v' ∧ ∀ H2, Same (upd (upd H1 d (Err1 f z v)) a (ExK (.ref C) (some d) a)) H2 → ∀ p, H2 p = none → Q (.ref p) (upd H2 p (.tup [.str z', v'])) := by
  obtain ⟨fI, k⟩ := T.kls
  refine ⟨T.hex, fun a na => ⟨Str.ofString z, v, ?_, fun H2 s2 p np => h H2 p (((same_upd nd).trans (same_upd na)).trans s2) np⟩⟩
  have hne : d ≠ a := fun e => by
    rw [← e, upd_same] at na
    cases na
  exact ⟨C, d, _, upd_same, (upd_ne hne).trans upd_same, k.xf, k.ncode, rfl, T.fi v⟩
end FW
namespace FW
open PySem PySem.Spec PyProof.Rows L2
/-! ### sorted: pairs of texts -/
abbrev cl (x : Str) : List Nat := x.cps.toList
def lexS (p q : Str × Str) : Bool := if p.1 = q.1 then decide (cl p.2 < cl q.2) else decide (cl p.1 < cl q.1)
theorem cl_inj {x y : Str} (h : cl x = cl y) : x = y := by
  obtain ⟨⟨a⟩⟩ := x
  obtain ⟨⟨b⟩⟩ := y
  have : a = b := h
  rw [this]
theorem lexS_iff {p q : Str × Str} : lexS p q = true ↔ cl p.1 < cl q.1 ∨ (cl p.1 = cl q.1 ∧ cl p.2 < cl q.2) := by
  unfold lexS
  by_cases e : p.1 = q.1
  · rw [if_pos e, decide_eq_true_eq, e]
    exact ⟨fun h => .inr ⟨rfl, h⟩, fun h => h.elim (fun z => absurd z (List.lt_irrefl _)) (·.2)⟩
  · rw [if_neg e, decide_eq_true_eq]
    exact ⟨.inl, fun h => h.elim id fun z => absurd (cl_inj z.1) e⟩
theorem lexS_no {p q : Str × Str} : lexS p q = false ↔ ¬ (cl p.1 < cl q.1 ∨ (cl p.1 = cl q.1 ∧ cl p.2 < cl q.2)) := by
  rw [← lexS_iff]
  cases lexS p q <;> simp
theorem lt_or {a b : List Nat} (h : ¬ a < b) : b < a ∨ a = b := by
  by_cases e : a = b
  · exact .inr e
  · refine .inl ?_
    have h1 : b ≤ a := h
    rcases Classical.em (b < a) with z | z
    · exact z
    · exact absurd (List.le_antisymm (show a ≤ b from z) h1) e
theorem swo_S {α : Type} (k : α → Str × Str) : SrtO.Swo fun v u => lexS (k v) (k u) := by
  refine ⟨fun x y h => ?_, fun x y z h1 h2 => ?_⟩
  · have a := lexS_iff.mp h
    refine lexS_no.mpr fun b => ?_
    rcases a with a | ⟨e, a⟩
    · rcases b with b | ⟨e, b⟩
      · exact List.lt_irrefl _ (List.lt_trans a b)
      · rw [e] at a
        exact List.lt_irrefl _ a
    · rcases b with b | ⟨_, b⟩
      · rw [e] at b
        exact List.lt_irrefl _ b
      · exact List.lt_irrefl _ (List.lt_trans a b)
  · have a := lexS_no.mp h1
    have b := lexS_no.mp h2
    refine lexS_no.mpr fun c => ?_
    simp only [not_or, not_and] at a b
    rcases c with c | ⟨e, c⟩
    · rcases lt_or a.1 with a1 | a1
      · rcases lt_or b.1 with b1 | b1
        · exact List.lt_irrefl _ (List.lt_trans (List.lt_trans c a1) b1)
        · have c2 := List.lt_trans c a1
          rw [b1] at c2
          exact List.lt_irrefl _ c2
      · rw [← a1] at c
        exact b.1 c
    · rcases lt_or a.1 with a1 | a1
      · rcases lt_or b.1 with b1 | b1
        · rw [e] at b1
          exact List.lt_irrefl _ (List.lt_trans a1 b1)
        · rw [← b1, e] at a1
          exact List.lt_irrefl _ a1
      · have b0 : cl (k z).1 = cl (k y).1 := e.trans a1.symm
        rcases lt_or (a.2 a1) with a2 | a2
        · rcases lt_or (b.2 b0) with b2 | b2
          · exact List.lt_irrefl _ (List.lt_trans (List.lt_trans c a2) b2)
          · rw [b2] at c
            exact List.lt_irrefl _ (List.lt_trans a2 c)
        · rw [← a2] at c
          exact b.2 b0 c
def IsPairS (h : Heap) (v : Value) (x y : Str) : Prop := ∃ a o t u n, v = .ref a ∧ h.get? a = some o ∧ o.cls = .type "tuple" ∧ o.data = .seq #[.str x t, .str y u] n
theorem IsPairS.keeps {h h' : Heap} {v : Value} {x y : Str} (p : IsPairS h v x y) (k : ∀ b o, h.get? b = some o → o.cls = .type "tuple" → h'.get? b = some o) : IsPairS h' v x y := by
  obtain ⟨a, o, t, u, n, e, ho, hc, hd⟩ := p
  exact ⟨a, o, t, u, n, e, k _ _ ho hc, hc, hd⟩
theorem firsts_S {h : Heap} : ∀ {vs : List Value}, (∀ v ∈ vs, ∃ x y, IsPairS h v x y) → ∃ fs : List Value, PySem.W.KatTups h vs fs ∧ fs.length = vs.length ∧ ∀ f ∈ fs, ∃ x t, f = Value.str x t
  | [], _ => ⟨[], PySem.W.KatTups.nil, rfl, fun _ hm => by simp at hm⟩
  | v :: vs, x => by
    obtain ⟨fs, k, hl, hi⟩ := firsts_S (vs := vs) fun u hu => x u (List.mem_cons_of_mem _ hu)
    obtain ⟨z, y, a, o, t, u, n, rfl, ho, hc, hd⟩ := x v (List.mem_cons_self ..)
    refine ⟨.str z t :: fs, PySem.W.KatTups.cons ho hc hd rfl k, by rw [List.length_cons, List.length_cons, hl], fun f hf => ?_⟩
    rcases List.mem_cons.mp hf with rfl | hf
    · exact ⟨z, t, rfl⟩
    · exact hi f hf
section
variable {prog : Program} {w : World} {A : Around} {E : Value → Shared → Prop} {s : Shared}
open SrtO
theorem pair_cmpS {vs : List Value} {k : Value → Str × Str} (hp : ∀ v ∈ vs, IsPairS s.heap v (k v).1 (k v).2) : Cmp prog w A s (tuples' true) (fun p => p.1 ∈ vs) (lt2 fun v u => lexS (k v) (k u)) := by
  intro p q hm hm'
  have h1 := hp _ hm
  have h2 := hp _ hm'
  show wpAny (model prog w) A (keyLt' (tuples' true) p.1 q.1) (fun r s' => s' = s ∧ r = lexS (k p.1) (k q.1)) (fun _ _ => False) s
  unfold lexS
  generalize (k p.1).1 = x at h1 ⊢
  generalize (k p.1).2 = y at h1 ⊢
  generalize (k q.1).1 = x' at h2 ⊢
  generalize (k q.1).2 = y' at h2 ⊢
  obtain ⟨a, o, t, u, n, e, ho, hc, hd⟩ := h1
  obtain ⟨a', o', t', u', n', e', ho', hc', hd'⟩ := h2
  rw [e, e']
  refine PySem.W.kat_lt ho hd ho' hd' ?_
  show PySem.W.KatLex prog w A true (decide (2 < 2)) _ [(.str x t, .str x' t'), (.str y u, .str y' u')] 0 s
  refine PySem.W.kat_cons (SeqAt.EqAt.str_str x t x' t' prog w _ _ ?_)
  refine PySem.W.kat_go (fun e1 => ?_) (fun e1 => ?_)
  · have ex : x = x' := by simpa using e1
    refine PySem.W.kat_yes (PySem.W.kat_cons (SeqAt.EqAt.str_str y u y' u' prog w _ _ ?_))
    refine PySem.W.kat_go (fun e2 => ?_) (fun e2 => ?_)
    · have ey : y = y' := by simpa using e2
      have e3 : (if x = x' then decide (cl y < cl y') else decide (cl x < cl x')) = false := by
        rw [if_pos ex, ey]
        exact decide_eq_false (List.lt_irrefl _)
      exact PySem.W.kat_yes (PySem.W.kat_nil ⟨rfl, e3.symm⟩)
    · have e3 : (if x = x' then decide (cl y < cl y') else decide (cl x < cl x')) = decide (cl y < cl y') := if_pos ex
      exact PySem.W.kat_no (PyProof.Rows.oneLt_any_str ⟨rfl, e3.symm⟩)
  · have ex : ¬ x = x' := by simpa using e1
    have e3 : (if x = x' then decide (cl y < cl y') else decide (cl x < cl x')) = decide (cl x < cl x') := if_neg ex
    exact PySem.W.kat_no (PyProof.Rows.oneLt_any_str ⟨rfl, e3.symm⟩)
theorem pairs_sortableS {a : Addr} {vs : List Value} {k : Value → Str × Str} (h0 : 0 < vs.length) (hp : ∀ v ∈ vs, IsPairS s.heap v (k v).1 (k v).2) (ha : ∀ o, s.heap.get? a = some o → o.cls ≠ .type "tuple") : SortableO prog w A s a vs fun v u => lexS (k v) (k u) := by
  intro h' keep
  have hp' : ∀ v ∈ vs, IsPairS h' v (k v).1 (k v).2 := fun v hm => (hp v hm).keeps fun b o e c => keep b o (fun z => by subst z; exact ha o e c) e
  obtain ⟨fs, h1, h2, h3⟩ := firsts_S fun v hm => ⟨_, _, hp' v hm⟩
  refine ⟨tuples' true, fun Q E hq => ?_, pair_cmpS hp'⟩
  refine PySem.W.kat_kind (T := .type "str") h1 (by omega) (fun f hm => ?_) (by rfl) ?_
  · obtain ⟨x, t, rfl⟩ := h3 f hm
    exact PySem.W.Looks.now
  · have e : (Value.type "str" != Value.type "tuple") = true := by first | decide +kernel | rfl | decide
    rw [e]
    exact hq
theorem sorted_pairsS {l : Addr} {vs : List Value} {k : Value → Str × Str} {Q : Value → Shared → Prop} (hl : s.heap.IsList l vs.toArray) (hz : vs.length ≤ sizeLine) (hp : ∀ v ∈ vs, IsPairS s.heap v (k v).1 (k v).2)
    (h : ∀ (h' : Heap) (d : Addr) (out : List Value), Srtd (fun v u => lexS (k v) (k u)) out → Stb (fun v u => lexS (k v) (k u)) out vs → (∀ b o, s.heap.get? b = some o → h'.get? b = some o) → s.heap.objs.size ≤ d → (∃ n, h'.get? d = some (seqObj "list" out.toArray n)) → Q (.ref d) { s with heap := h' }) :
    wpAny (model prog w) A (call (.builtin "sorted") [.ref l]) Q E s := by
  refine sorted_ord (swo_S k) hl hz (fun h2 h₁ a ha kk => ?_) fun out hs hb => ?_
  · refine pairs_sortableS (s := { s with heap := h₁ }) (by omega) (fun v hm => (hp v hm).keeps fun b o e _ => (kk b o e).2) fun o e => ?_
    have e' : some o = some (seqObj "list" vs.toArray 0) := e.symm.trans ha
    cases e'
    intro c
    exact absurd (Value.type.inj c) (by decide)
  · exact h _ _ out hs hb (fun b o e => sortedAll_old e) (Nat.le_succ _) (sortedAll_at s.heap vs out.toArray)
end
/-- sorted(xs), xs a list of pairs of texts (k says which) -/
def rSortedSS (K : PySem.W.Frag) : List V → Hp → VK → Prop := fun vs H Q => ∃ (a : Addr) (xs : List V) (k : V → Str × Str), vs = [V.ref a] ∧ SqL K H a xs ∧ (∀ x ∈ xs, ∃ t, x = V.ref t ∧ H t = some (.tup [.str (k x).1, .str (k x).2])) ∧
  ∀ ys p, ys.Pairwise (fun x y => lexS (k y) (k x) = false) → ys.Perm xs → H p = none → Q (.ref p) (upd H p (.lst ys))
section
variable {X : Cx}
theorem cr_sortedSS : CallR X (.builtin "sorted") (rSortedSS X.K) := by
  intro pins s σ H vs us Q I r h
  obtain ⟨a, xs, k, rfl, hs, hx, q⟩ := h
  obtain ⟨its, rv, hl, hz⟩ := I.list hs
  obtain ⟨u, rfl, ru⟩ := vals1 r
  obtain rfl : u = Value.ref a := ru
  obtain ⟨e1, e2⟩ := refs_back rv fun x m => by
    obtain ⟨t, e, _⟩ := hx x m
    exact ⟨t, e⟩
  refine sorted_pairsS (k := fun u => k (backV u)) hl.isList (by rw [← rv.length]; exact hz) (fun v hv => ?_) fun h' d out h1 h2 kp hd hn => ?_
  · obtain ⟨t, rfl⟩ := e2 v hv
    have hm : V.ref t ∈ xs := by rw [e1]; exact List.mem_map.mpr ⟨_, hv, rfl⟩
    obtain ⟨t', e, ht⟩ := hx _ hm
    cases e
    obtain ⟨_, its2, r2, o, ho, hc, n, hd⟩ := I.hok _ _ ht
    obtain ⟨u1, u2, rfl, ri, rj⟩ := vals2 r2
    obtain ⟨t1, rfl⟩ := ri
    obtain ⟨t2, rfl⟩ := rj
    exact ⟨t, o, t1, t2, n, rfl, ho, hc, hd⟩
  · have h3 : ∀ u ∈ out, ∃ a, u = Value.ref a := fun u hu => e2 u (h2.perm.mem_iff.mp hu)
    obtain ⟨n, hn⟩ := hn
    have hb : SrtO.Stb (fun x y => lexS (k x) (k y)) (out.map backV) xs := by
      rw [e1]
      exact SrtO.Stb.map (swo_S k) backV h2
    refine ⟨.ref d, upd H d (.lst (out.map backV)), I.laid (t' := s.toks) kp hd ⟨?_, out, n, vals_back h3, hn⟩, rfl, q _ d (SrtO.srtd_map (lt := fun x y => lexS (k x) (k y)) h1) hb.perm (I.hok.fresh hd)⟩
    rw [hb.len]
    exact hz
end
end FW
namespace FW
open PySem PySem.Spec PyProof.Rows L2
/-! ### sorted: texts, as many as there are -/
theorem strs_vals : ∀ {xs : List Str} {us : List Value}, Vals (xs.map V.str) us → StrsAre us xs
  | [], [], _ => .nil
  | [], _ :: _, h => by cases h
  | _ :: _, [], h => by cases h
  | x :: xs, u :: us, h => by
    have h1 : L2.RelV (.str x) u ∧ Vals (xs.map V.str) us := by
      cases h with
      | cons a b => exact ⟨a, b⟩
    obtain ⟨t, rfl⟩ := h1.1
    exact .cons x t (strs_vals h1.2)
theorem vals_strs {xs : List Str} {us : List Value} (h : StrsAre us xs) : Vals (xs.map V.str) us := by
  induction h with
  | nil => exact .nil
  | cons y t h ih => exact .cons ⟨t, rfl⟩ ih
def rSortedSA (K : PySem.W.Frag) : List V → Hp → VK → Prop := fun vs H Q => ∃ (a : Addr) (xs : List Str), vs = [V.ref a] ∧ SqL K H a (xs.map V.str) ∧ ∀ (ys : List Str) (p : Addr), ys.Perm xs → PyProof.Rows.sortedS ys = true → H p = none → Q (.ref p) (upd H p (.lst (ys.map V.str)))
section
variable {X : Cx}
theorem cr_sortedSA : CallR X (.builtin "sorted") (rSortedSA X.K) := by
  intro pins s σ H vs us Q I r h
  obtain ⟨a, xs, rfl, hs, q⟩ := h
  obtain ⟨its, rv, hl, hz⟩ := I.list hs
  obtain ⟨u, rfl, ru⟩ := L2.vals1 r
  obtain rfl : u = Value.ref a := ru
  have hst := strs_vals rv
  refine sorted_strsAny hl.isList hst (by rw [← rv.length]; exact hz) fun out ss' ho hp hso => ?_
  obtain ⟨n, hn⟩ := sortedAll_at s.heap its out
  refine ⟨.ref (s.heap.objs.size + 1), upd H (s.heap.objs.size + 1) (.lst (ss'.map V.str)), I.laid (t' := s.toks) (fun b o e => sortedAll_old e) (Nat.le_succ _) ⟨?_, out.toList, n, vals_strs ho, ?_⟩, rfl, q _ _ hp hso (I.hok.fresh (Nat.le_succ _))⟩
  · rw [List.length_map, hp.length_eq]
    rwa [List.length_map] at hz
  · rw [Array.toArray_toList]
    exact hn
end
end FW
namespace FW
open PySem PySem.Spec PyProof.Rows L2
/-! ### a text so many times -/
def rMulS : R2 := fun x y H Q => ∃ (z : Str) (n : Int), x = .str z ∧ y = .int n ∧ MulOk z n ∧ Q (.str (Txt.mul z n)) H
theorem op_mulS {X : Cx} : OpR X (binaryOp .Mult) rMulS := by
  intro pins s σ H x y v u Q I rx ry h
  obtain ⟨z, n, rfl, rfl, ok, q⟩ := h
  obtain ⟨t, rfl⟩ := rx
  obtain ⟨t', rfl⟩ := ry
  exact SB.mul ok fun t'' k => ⟨.str _, H, I.tok _, ⟨_, rfl⟩, q⟩
theorem mulOk1 (c : Nat) {n : Int} (h : n = 3 ∨ n = 4 ∨ n = 5) : MulOk (S [c]) n := by
  rcases h with rfl | rfl | rfl
  · exact ⟨by decide, fun _ _ => (by decide : ¬ ((1 : Nat) : Int) > (2 ^ 63 - 1) / 3), fun _ _ => (by decide : Builtin.Str.tooLong (1 * 3) = false)⟩
  · exact ⟨by decide, fun _ _ => (by decide : ¬ ((1 : Nat) : Int) > (2 ^ 63 - 1) / 4), fun _ _ => (by decide : Builtin.Str.tooLong (1 * 4) = false)⟩
  · exact ⟨by decide, fun _ _ => (by decide : ¬ ((1 : Nat) : Int) > (2 ^ 63 - 1) / 5), fun _ _ => (by decide : Builtin.Str.tooLong (1 * 5) = false)⟩
theorem mul3 (c : Nat) : Txt.mul (S [c]) 3 = S [c, c, c] := rfl
theorem mul4 (c : Nat) : Txt.mul (S [c]) 4 = S [c, c, c, c] := rfl
theorem mul5 (c : Nat) : Txt.mul (S [c]) 5 = S [c, c, c, c, c] := rfl
end FW
namespace FW
open PySem PySem.Spec PyProof.Rows L2
/-! ### helpers of many laws -/
theorem lastOf {α : Type} {l : List α} (h : 0 < l.length) : ∃ i z, l = i ++ [z] := ⟨l.dropLast, l.getLast (List.ne_nil_of_length_pos h), (List.dropLast_concat_getLast _).symm⟩
theorem atI_lst {α : Type} {i : List α} {z : α} : atI (i ++ [z]) (-1) = some z := by
  have h : ixN (i ++ [z]).length (-1) = some i.length := by
    unfold ixN
    rw [List.length_append]
    show (if (0 : Int) ≤ -1 then _ else _) = _
    rw [if_neg (by omega), if_pos (by show -((i.length + 1 : Nat) : Int) ≤ -1; omega)]
    congr 1
    show ((-1 : Int) + ((i.length + 1 : Nat) : Int)).toNat = i.length
    omega
  unfold atI
  rw [h]
  show (i ++ [z])[i.length]? = some z
  rw [List.getElem?_append_right (Nat.le_refl _), Nat.sub_self]
  rfl
theorem rep_flat {α : Type} (x : α) (k : Nat) : (List.replicate (k : Int).toNat [x]).flatten = List.replicate k x := by
  rw [Int.toNat_natCast]
  induction k with
  | zero => rfl
  | succ k ih => rw [List.replicate_succ, List.replicate_succ, List.flatten_cons, ih]; rfl
/-- a comprehension over the signs of a text: tests and items that leave the heap -/
theorem lc_strP {z : Str} {σ : L2.St} {vs : List Nat} {H1 : Hp} {D : Addr} {Qd : Hp → Prop} {i : Nat} {tt : TT} {te : TE} (t : Nat → Bool) (v : Nat → V) (nD : H1 D = none) (hz : z.cps.size < sizeLine) (hw : ∀ x : V, wipe ((wipe σ vs).set i (some x)) vs = wipe σ vs)
    (hT : ∀ c ∈ z.cps.toList, ∀ H, Same H1 H → ∀ R : Bool → Hp → Prop, R (t c) H → tt ((wipe σ vs).set i (some (sgn c))) H R)
    (hE : ∀ c ∈ z.cps.toList, t c = true → ∀ H, Same H1 H → ∀ R : VK, R (v c) H → te ((wipe σ vs).set i (some (sgn c))) H R)
    (q : Qd (upd H1 D (.lst ((z.cps.toList.filter t).map v)))) :
    ∃ W : Nat → Nat → Hp → Prop, (∃ m, W 0 m (upd H1 D (.lst []))) ∧ ∀ j m H, W j m H →
      ((Its z).stop j H ∧ Qd H) ∨ ((Its z).go j H ∧ ∃ Nx : Hp → Prop, (∀ H', Nx H' → ∃ m', m' < m ∧ W (j + 1) m' H') ∧ ∀ x H', (Its z).yld j H x H' → gName i x (wipe σ vs) H' fun σ2 H2 => wipe σ2 vs = wipe σ vs ∧ tt σ2 H2 fun b H3 =>
        if b = true then te σ2 H3 fun y H4 => ∃ acc, H4 D = some (.lst acc) ∧ acc.length < sizeLine ∧ Nx (upd H4 D (.lst (acc ++ [y]))) else Nx H3) := by
  refine lc_it walk_str (fun i H' => H' = upd H1 D (.lst (((z.cps.toList.take i).filter t).map v))) rfl (fun _ _ _ _ => trivial) ?_ ?_
  · rintro j x _ _ hj rfl ⟨rfl, c, hc, rfl⟩
    have hc1 : z.cps.toList[j]? = some c := by rw [Array.getElem?_toList]; exact hc
    have e : z.cps.toList.take (j + 1) = z.cps.toList.take j ++ [c] := by
      rw [List.take_add_one, hc1]
      rfl
    have hm := List.mem_of_getElem? hc1
    refine ⟨hw _, hT c hm _ (same_upd nD) _ ?_⟩
    rw [e, List.filter_append, List.filter_cons]
    cases h : t c with
    | true =>
      rw [if_pos rfl]
      refine hE c hm h _ (same_upd nD) _ ⟨_, upd_same, ?_, ?_⟩
      · rw [List.length_map]
        refine Nat.lt_of_le_of_lt (List.length_filter_le _ _) (Nat.lt_of_le_of_lt (List.length_take_le' _ _) hz)
      · rw [upd_upd, if_pos rfl, List.map_append]
        rfl
    | false =>
      rw [if_neg Bool.false_ne_true, if_neg Bool.false_ne_true, List.filter_nil, List.append_nil]
  · rintro _ rfl
    rw [List.take_of_length_le (show z.cps.toList.length ≤ z.cps.size from Nat.le_refl _)]
    exact q
/-- the same over a list -/
theorem lc_listP {K : PySem.W.Frag} {a : Addr} {xs : List V} {σ : L2.St} {vs : List Nat} {H1 : Hp} {D : Addr} {Qd : Hp → Prop} {i : Nat} {tt : TT} {te : TE} (t : V → Bool) (v : V → V) (ha : SqL K H1 a xs) (nD : H1 D = none) (hz : xs.length < sizeLine) (hw : ∀ x : V, wipe ((wipe σ vs).set i (some x)) vs = wipe σ vs)
    (hT : ∀ x ∈ xs, ∀ H, Same H1 H → ∀ R : Bool → Hp → Prop, R (t x) H → tt ((wipe σ vs).set i (some x)) H R)
    (hE : ∀ x ∈ xs, t x = true → ∀ H, Same H1 H → ∀ R : VK, R (v x) H → te ((wipe σ vs).set i (some x)) H R)
    (q : Qd (upd H1 D (.lst ((xs.filter t).map v)))) :
    ∃ W : Nat → Nat → Hp → Prop, (∃ m, W 0 m (upd H1 D (.lst []))) ∧ ∀ j m H, W j m H →
      ((Itl K a).stop j H ∧ Qd H) ∨ ((Itl K a).go j H ∧ ∃ Nx : Hp → Prop, (∀ H', Nx H' → ∃ m', m' < m ∧ W (j + 1) m' H') ∧ ∀ x H', (Itl K a).yld j H x H' → gName i x (wipe σ vs) H' fun σ2 H2 => wipe σ2 vs = wipe σ vs ∧ tt σ2 H2 fun b H3 =>
        if b = true then te σ2 H3 fun y H4 => ∃ acc, H4 D = some (.lst acc) ∧ acc.length < sizeLine ∧ Nx (upd H4 D (.lst (acc ++ [y]))) else Nx H3) := by
  refine lc_it (walk_list (xs := xs)) (fun i H' => H' = upd H1 D (.lst (((xs.take i).filter t).map v))) rfl (fun j H' _ e => by rw [e]; exact (same_upd nD).seq ha) ?_ ?_
  · rintro j x _ H' hj rfl ⟨rfl, hc1⟩
    have e : xs.take (j + 1) = xs.take j ++ [x] := by
      rw [List.take_add_one, hc1]
      rfl
    have hm := List.mem_of_getElem? hc1
    refine ⟨hw _, hT x hm _ (same_upd nD) _ ?_⟩
    rw [e, List.filter_append, List.filter_cons]
    cases h : t x with
    | true =>
      rw [if_pos rfl]
      refine hE x hm h _ (same_upd nD) _ ⟨_, upd_same, ?_, ?_⟩
      · rw [List.length_map]
        refine Nat.lt_of_le_of_lt (List.length_filter_le _ _) (Nat.lt_of_le_of_lt (List.length_take_le' _ _) hz)
      · rw [upd_upd, if_pos rfl, List.map_append]
        rfl
    | false =>
      rw [if_neg Bool.false_ne_true, if_neg Bool.false_ne_true, List.filter_nil, List.append_nil]
  · rintro _ rfl
    rw [List.take_of_length_le (Nat.le_refl _)]
    exact q
section
variable {K : PySem.W.Frag}
/-- a value of some kind, no error's own -/
structure OddX (K : PySem.W.Frag) (H : Hp) (v : V) (d : PyData) : Prop where
  kind : (isStr v = true ∧ (strOf v).cps.size ≤ 100) ∨ NS H v
  dp : Dp K H v d
  deep : ∀ n, Deep (n + 1) d
theorem OddX.same {H H' : Hp} {v : V} {d : PyData} (o : OddX K H v d) (s : Same H H') : OddX K H' v d := ⟨o.kind.imp id fun n => n.same s, Dp.same s o.dp, o.deep⟩
theorem OddX.ext {H H' : Hp} {v : V} {d : PyData} (o : OddX K H v d) (e : LamX.ExtN H H') : OddX K H' v d := ⟨o.kind.imp id fun n => ns_ext e n, dp_ext e o.dp, o.deep⟩
theorem OddX.askd {H : Hp} {v : V} {d : PyData} (o : OddX K H v d) : Askd K H v := o.kind.elim (fun h => .inl ⟨h.1, Nat.le_trans h.2 (by decide)⟩) fun n => .inr n.not
theorem oddX_str {H : Hp} {z : Str} (h : z.cps.size ≤ 100) : OddX K H (.str z) (.str z) := ⟨.inl ⟨rfl, h⟩, .str z, fun _ => by unfold Deep; trivial⟩
theorem oddX_non {H : Hp} : OddX K H .non .none := ⟨.inr (.inl rfl), .non, fun _ => by unfold Deep; trivial⟩
theorem oddX_int {H : Hp} (n : Int) : OddX K H (.int n) (.int n) := ⟨.inr (.inr (.inl ⟨_, rfl⟩)), .int n, fun _ => by unfold Deep; trivial⟩
theorem oddX_bl {H : Hp} (c : Bool) : OddX K H (.bl c) (.bool c) := ⟨.inr (.inr (.inr (.inl ⟨_, rfl⟩))), .bl c, fun _ => by unfold Deep; trivial⟩
theorem oddX_lst {H : Hp} {p : Addr} (zs : List Str) (h : H p = some (.lst (zs.map V.str))) (hl : zs.length ≤ 100) : OddX K H (.ref p) (.list (zs.map PyData.str)) :=
  ⟨.inr (.inr (.inr (.inr (.inl ⟨p, _, rfl, h⟩)))), .lst (SqL.of h) (dp_strs zs), fun n => deep_strs (by omega)⟩
theorem oddX_tup {H : Hp} {p : Addr} (zs : List Str) (h : H p = some (.tup (zs.map V.str))) (hl : zs.length ≤ 100) : OddX K H (.ref p) (.tuple (zs.map PyData.str)) :=
  ⟨.inr (.inr (.inr (.inr (.inr ⟨p, _, rfl, h⟩)))), .tup (SqT.of h) (dp_strs zs), fun n => by
    unfold Deep
    refine ⟨by rw [List.length_map]; omega, fun d hd => ?_⟩
    obtain ⟨c, _, rfl⟩ := List.mem_map.mp hd
    unfold Deep
    trivial⟩
/-- the same, and it stays while the bag alone changes -/
def OddD (K : PySem.W.Frag) (b : Addr) (H : Hp) (v : V) (d : PyData) : Prop := ∀ H', But b H H' → OddX K H' v d
theorem OddD.now {H : Hp} {b : Addr} {v : V} {d : PyData} (o : OddD K b H v d) : OddX K H v d := o H (Same.refl H).but
theorem OddD.drawn {H H' : Hp} {b : Addr} {v : V} {d : PyData} (o : OddD K b H v d) (s : But b H H') : OddD K b H' v d := fun H2 s2 => o H2 (s.trans s2)
theorem OddD.same {H H' : Hp} {b : Addr} {v : V} {d : PyData} (o : OddD K b H v d) (s : Same H H') : OddD K b H' v d := o.drawn s.but
theorem oddD_of {H : Hp} {b : Addr} {v : V} {d : PyData} (h : ∀ H', OddX K H' v d) : OddD K b H v d := fun H' _ => h H'
theorem oddD_lst {H : Hp} {b p : Addr} (zs : List Str) (n : p ≠ b) (h : H p = some (.lst (zs.map V.str))) (hl : zs.length ≤ 100) : OddD K b H (.ref p) (.list (zs.map PyData.str)) := fun H' s => oddX_lst zs (s _ _ n h) hl
theorem oddD_tup {H : Hp} {b p : Addr} (zs : List Str) (n : p ≠ b) (h : H p = some (.tup (zs.map V.str))) (hl : zs.length ≤ 100) : OddD K b H (.ref p) (.tuple (zs.map PyData.str)) := fun H' s => oddX_tup zs (s _ _ n h) hl
theorem ns_letter {H : Hp} {v : V} (n : NS H v) (L : List Nat) : bLetter v L = false := by
  unfold bLetter
  rw [(n.not (K := default)).1]
  rfl
theorem str_room {l F : List Nat} (h : l.length ≠ 4 ∨ ∃ c ∈ l, c ∉ F) : bRoom (.str (S l)) (S F) = false := by
  unfold bRoom
  rcases h with h | ⟨c, hc, hF⟩
  · rw [show decide ((strOf (V.str (S l))).cps.size = 4) = false from decide_eq_false h, Bool.and_false]
  · rw [show bString (.str (S l)) (S F) = false from by
      unfold bString
      rw [show ((strOf (V.str (S l))).cps.toList.all fun c => decide (c ∈ (S F).cps.toList)) = false from by
        rw [List.all_eq_false]
        exact ⟨c, hc, by simpa using hF⟩]
      rfl, Bool.false_and]
theorem str_letter {l L : List Nat} (h : l.length ≠ 1 ∨ ∃ c, l = [c] ∧ c ∉ L) : bLetter (.str (S l)) L = false := by
  unfold bLetter
  rcases h with h | ⟨c, rfl, hc⟩
  · rw [show decide ((strOf (V.str (S l))).cps.size = 1) = false from decide_eq_false h]
    rfl
  · rw [show decide ((strOf (V.str (S [c]))).cps.toList.getD 0 0 ∈ L) = false from decide_eq_false hc, Bool.and_false]
/-- a number or None as data -/
def dOptN : Option Nat → PyData
  | some i => .int (i : Nat)
  | none => .none
theorem deep_non {n : Nat} : Deep n .none := by unfold Deep; trivial
theorem deep_bool {n : Nat} {b : Bool} : Deep n (.bool b) := by unfold Deep; trivial
theorem deep_int {n : Nat} {i : Int} : Deep n (.int i) := by unfold Deep; trivial
theorem deep_str {n : Nat} {z : Str} : Deep n (.str z) := by unfold Deep; trivial
theorem deep_tup {n : Nat} {ds : List PyData} (h : ds.length ≤ 1000) (q : ∀ d ∈ ds, Deep n d) : Deep (n + 1) (.tuple ds) := by
  unfold Deep
  exact ⟨h, q⟩
theorem deep_optN {n : Nat} (o : Option Nat) : Deep n (dOptN o) := by
  cases o
  · exact deep_non
  · exact deep_int
theorem deep_mono : ∀ (n : Nat) {d : PyData}, Deep n d → Deep (n + 1) d
  | n, .none, _ => deep_non
  | n, .bool _, _ => deep_bool
  | n, .int _, _ => deep_int
  | n, .str _, _ => deep_str
  | 0, .list _, h => by unfold Deep at h; exact h.elim
  | 0, .tuple _, h => by unfold Deep at h; exact h.elim
  | n + 1, .list ds, h => by
    unfold Deep at h
    exact deep_list h.1 fun d hd => deep_mono n (h.2 d hd)
  | n + 1, .tuple ds, h => by
    unfold Deep at h
    exact deep_tup h.1 fun d hd => deep_mono n (h.2 d hd)
  | 0, .dict _, h => by unfold Deep at h; exact h.elim
  | n + 1, .dict _, h => by unfold Deep at h; exact h.elim
end
end FW
namespace FW
open PySem PySem.Spec PyProof.Rows L2
/-! ### the lambdas of a list, tried one by one: what is told of each -/
section
variable {X : Cx} {k : Nat} {cs : List Value} {σ : L2.St}
/-- one lambda of the list: D is the list that is filled -/
def OneAsk (cs : List Value) (σ : L2.St) (Hn : Hp) (D : Addr) (fa : Addr × AskS X k) (d : PyData) : Prop :=
  ∀ H, Same Hn H → (∃ acc, H D = some (.lst acc)) → (∃ c' dV, LamAt H fa.1 (fa.2.lam c' dV) fa.2.dvs) ∧
    ∀ Q' : VK, (∀ H' v, Same H H' → (∀ Hx, But D H' Hx → Dp X.K Hx v d) → Q' v H') → TTry X.K cs (fa.2.tb (fa.2.js.map (NdefX.slotAt σ))) H Q'
def AllAsk (cs : List Value) (σ : L2.St) (Hn : Hp) (D : Addr) : List (Addr × AskS X k) → List PyData → Prop
  | [], [] => True
  | fa :: r, d :: ds => OneAsk cs σ Hn D fa d ∧ AllAsk cs σ Hn D r ds
  | _, _ => False
theorem dpAll_snoc {K : PySem.W.Frag} {H : Hp} : ∀ {vs : List V} {ds : List PyData} {v : V} {d : PyData}, DpAll K H vs ds → Dp K H v d → DpAll K H (vs ++ [v]) (ds ++ [d])
  | _, _, _, _, .nil, h => .cons h .nil
  | _, _, _, _, .cons a t, h => .cons a (dpAll_snoc t h)
theorem chain_run {Hn : Hp} {l D : Addr} {all : List V} {Q : VK} (nD : Hn D = none) (hl : Hn l = some (.lst all)) : ∀ (r : List (Addr × AskS X k)) (ds : List PyData) (acc : List V) (dacc : List PyData) (H : Hp), Same Hn H → H D = some (.lst acc) →
    (∀ Hx, But D H Hx → DpAll X.K Hx acc dacc) → AllAsk cs σ Hn D r ds → (∀ H' vs, Same Hn H' → H' D = some (.lst vs) → DpAll X.K H' vs (dacc ++ ds) → Q (.ref D) H') → ChainL X k cs σ l D all Q r acc H
  | [], [], acc, dacc, H, s, hD, hd, _, q => q H acc s hD (by rw [List.append_nil]; exact hd H fun _ _ _ e => e)
  | [], _ :: _, _, _, _, _, _, _, a, _ => a.elim
  | _ :: _, [], _, _, _, _, _, _, a, _ => a.elim
  | (f, a) :: r, d :: ds, acc, dacc, H, s, hD, hd, ⟨h1, h2⟩, q => by
    obtain ⟨la, ht⟩ := h1 H s ⟨acc, hD⟩
    refine ⟨la, ht _ fun H' v s' hv => ⟨s' _ _ (s _ _ hl), s' _ _ hD, ?_⟩⟩
    have sn : Same Hn (upd H' D (.lst (acc ++ [v]))) := fun c o e => (upd_ne (ne_of_none e nD)).trans (s' _ _ (s _ _ e))
    refine chain_run nD hl r ds (acc ++ [v]) (dacc ++ [d]) _ sn upd_same (fun Hx bx => ?_) h2 (fun H2 vs s2 h2 hd2 => q H2 vs s2 h2 (by rw [List.append_assoc] at hd2; exact hd2))
    have b1 : But D H' Hx := fun c o n e => bx c o n ((upd_ne n).trans e)
    exact dpAll_snoc (hd Hx fun c o n e => b1 c o n (s' _ _ e)) (hv Hx b1)
theorem tries_run {H1 : Hp} {l : Addr} {fs : List Addr} {asks : List (AskS X k)} {Q : VK} (ds : List PyData) (hl : H1 l = some (.lst (fs.map V.ref))) (one : ∀ D, H1 D = none → AllAsk cs σ H1 D (fs.zip asks) ds) (q : ∀ H' D, Same H1 H' → H1 D = none → Dp X.K H' (.ref D) (.list ds) → Q (.ref D) H') :
    ∀ D, H1 D = none → ChainL X k cs σ l D (fs.map V.ref) Q (fs.zip asks) [] (upd H1 D (.lst [])) := fun D nD =>
  chain_run nD hl _ ds [] [] _ (same_upd nD) upd_same (fun _ _ => .nil) (one D nD) fun H' vs s hD hd => q H' D s nD (.lst (SqL.of hD) hd)
/-- an ask that raises -/
theorem oneAsk_err {Hn : Hp} {D f : Addr} {a : AskS X k} {mg : Str → Option Value} {C : Addr} {fld z : String} {v : V} {dv : PyData} {c' : Addr} {dV : Value} (T : ErrF X.K mg C fld z cs) (nD : Hn D = none) (la : LamAt Hn f (a.lam c' dV) a.dvs) (hv : Dp X.K Hn v dv)
    (h : ∀ H, Same Hn H → ∀ (E : XK) (Q : VK), (∀ H' d, Same H H' → H' d = none → E (.ref C) (some d) (upd H' d (Err1 fld z v))) → a.tb (a.js.map (NdefX.slotAt σ)) E H Q) : OneAsk cs σ Hn D (f, a) (.tuple [.str (Str.ofString z), dv]) := by
  refine fun H s hD => ⟨⟨c', dV, la.same s⟩, fun Q' q => h H s _ _ fun H' d s' nd => T.tried nd fun H2 p s2 np => ?_⟩
  have st := same_upd (o := HO.tup [.str (Str.ofString z), v]) np
  refine q _ _ (s'.trans (s2.trans st)) fun Hx bx => ?_
  obtain ⟨acc, hD⟩ := hD
  have hpD : p ≠ D := fun e => by
    rw [e, s2 _ _ (s' _ _ hD)] at np
    cases np
  have sx : Same Hn Hx := fun c o e => bx c o (ne_of_none e nD) (st _ _ (s2 _ _ (s' _ _ (s _ _ e))))
  exact .tup (SqT.of (bx _ _ hpD upd_same)) (.cons (.str _) (.cons (Dp.same sx hv) .nil))
/-- an ask that answers -/
theorem oneAsk_ok {Hn : Hp} {D f : Addr} {a : AskS X k} {dv : PyData} {c' : Addr} {dV : Value} (nD : Hn D = none) (la : LamAt Hn f (a.lam c' dV) a.dvs)
    (h : ∀ H, Same Hn H → (∃ acc, H D = some (.lst acc)) → ∀ (E : XK) (Q : VK), (∀ H' v, Same H H' → (∀ Hx, But D H' Hx → Dp X.K Hx v dv) → Q v H') → a.tb (a.js.map (NdefX.slotAt σ)) E H Q) : OneAsk cs σ Hn D (f, a) (.tuple [.str "", dv]) := by
  refine fun H s hD => ⟨⟨c', dV, la.same s⟩, fun Q' q => h H s hD _ _ fun H' v s' hv => ⟨(show 2 ≤ sizeLine by decide), fun p np => ?_⟩⟩
  have st := same_upd (o := HO.tup [.str "", v]) np
  refine q _ _ (s'.trans st) fun Hx bx => ?_
  obtain ⟨acc, hD⟩ := hD
  have hpD : p ≠ D := fun e => by
    rw [e, s' _ _ hD] at np
    cases np
  have b1 : But D H' Hx := fun c o n e => bx c o n (st _ _ e)
  exact .tup (SqT.of (bx _ _ hpD upd_same)) (.cons (.str _) (.cons (hv Hx b1) .nil))
end
end FW
namespace FW
open PySem PySem.Spec PyProof.Rows L2
/-! ### len, repr and bool of own objects -/
section
variable {X : Cx} {CX : CXT} {C f : Addr} {n : Nat} {sp : Sp} {E : XK}
def rOwn1 (C : Addr) (sp : Sp) (E : XK) (ok : V → Prop) : List V → Hp → VK → Prop := fun xs H Q => ∃ a dx fs, xs = [V.ref a] ∧ H a = some (.ins C dx fs) ∧ sp [.ref a] H (fun v H' => ok v ∧ Q v H') E
theorem cr_lenO (hs : PySem.W.findIn X.K (.ref C) "__len__" = some (some (.ref f))) (hf : PySem.W.isFn X.K (.ref f) = true) (F : FnR X.prog X.w X.K X.mg X.base CX n f sp) (hr : Room (n + 1) X.A) (hx : Passes CX X E) :
    CallR X (.builtin "len") (rOwn1 C sp E fun v => ∃ i : Int, v = .int i ∧ 0 ≤ i ∧ i < 2 ^ 63) := by
  intro pins s σ H vs us Q I r h
  obtain ⟨a, dx, fs, rfl, ha, q⟩ := h
  obtain ⟨u, rfl, ru⟩ := L2.vals1 r
  obtain rfl : u = Value.ref a := ru
  obtain ⟨mA, J, _⟩ := ins_get I.hok ha
  obtain ⟨od, J, _⟩ := J.look
  obtain ⟨m, hF⟩ := I.fr
  refine PySem.W.len_K hF I.ok.mod.kin J hs hf ?_
  refine wpAny_mono (wpAny_call (SlX.run_at (us := [.ref a]) (ws := [.ref a]) F hr.in1 I.env0.in1 hx I (.cons rfl .nil) q)) (fun w s' z => ?_) fun _ _ x => x
  obtain ⟨z', H', I', rz, ⟨i, rfl, h0, h1⟩, qz⟩ := z
  obtain ⟨t, rfl⟩ := rz
  exact ⟨⟨h0, h1⟩, .int i, H', I'.tok _, ⟨_, rfl⟩, qz⟩
theorem cr_reprO (hs : PySem.W.findIn X.K (.ref C) "__repr__" = some (some (.ref f))) (hf : PySem.W.isFn X.K (.ref f) = true) (F : FnR X.prog X.w X.K X.mg X.base CX n f sp) (hr : Room (n + 1) X.A) (hx : Passes CX X E) :
    CallR X (.builtin "repr") (rOwn1 C sp E fun v => ∃ z : Str, v = .str z) := by
  intro pins s σ H vs us Q I r h
  obtain ⟨a, dx, fs, rfl, ha, q⟩ := h
  obtain ⟨u, rfl, ru⟩ := L2.vals1 r
  obtain rfl : u = Value.ref a := ru
  obtain ⟨mA, J, _⟩ := ins_get I.hok ha
  obtain ⟨od, J, _⟩ := J.look
  obtain ⟨m, hF⟩ := I.fr
  refine PySem.W.repr_K (by have := hr.in1.un; omega) hF I.ok.mod.kin J hs hf ?_
  refine wpAny_mono (wpAny_call (SlX.run_at (us := [.ref a]) (ws := [.ref a]) F hr.in1 I.env0.in1 hx I (.cons rfl .nil) q)) (fun w s' z => ?_) fun _ _ x => x
  obtain ⟨z', H', I', rz, ⟨z, rfl⟩, qz⟩ := z
  obtain ⟨t, rfl⟩ := rz
  exact ⟨.str z, H', I', ⟨_, rfl⟩, qz⟩
theorem cr_boolO (hs : PySem.W.findIn X.K (.ref C) "__bool__" = some (some (.ref f))) (hf : PySem.W.isFn X.K (.ref f) = true) (F : FnR X.prog X.w X.K X.mg X.base CX n f sp) (hr : Room (n + 2) X.A) (hx : Passes CX X E) :
    CallR X (.type "bool") (rOwn1 C sp E fun v => ∃ b : Bool, v = .bl b) := by
  intro pins s σ H vs us Q I r h
  obtain ⟨a, dx, fs, rfl, ha, q⟩ := h
  obtain ⟨u, rfl, ru⟩ := L2.vals1 r
  obtain rfl : u = Value.ref a := ru
  obtain ⟨mA, J, _⟩ := ins_get I.hok ha
  obtain ⟨od, J, _⟩ := J.look
  obtain ⟨m, hF⟩ := I.fr
  refine callType_newIn PySem.F.called_bool (by decide) (PySem.F.typeCall_bool_1 _) (PySem.F.newCall_bool_1 _) (fun obj => PySem.F.args_object_init_2 obj _) PySem.F.entry_bool_new
    (S := fun A R s => wpAny (model X.prog X.w) A.in1 (truthy (.ref a)) (fun b s' => R (.ok (.ret (.bool b))) s') (fun e s' => R (.error e) s') s) ?_ ?_
  · intro A R s h
    unfold Builtin.«bool.__new__»
    repeat (first | (refine wpAny_bind (m := truthy _) (wpAny_mono h (fun b s' hb => ?_) fun _ _ e => e)) | wp_step)
    exact hb
  · refine PySem.W.truthy_K hF I.ok.mod.kin J hs hf ?_
    refine wpAny_mono (wpAny_call (SlX.run_at (us := [.ref a]) (ws := [.ref a]) F hr.in1.in1 I.env0.in1.in1 hx I (.cons rfl .nil) q)) (fun w s' z => ?_) fun _ _ x => x
    obtain ⟨z', H', I', rz, ⟨b, rfl⟩, qz⟩ := z
    obtain rfl : w = Value.bool b := rz
    exact ⟨PySem.typeIs_bool _ b, .bl b, H', I', rfl, qz⟩
end
end FW
namespace FW
open PySem PySem.Spec PyProof.Rows L2
/-! ### rules with the frag given; methods that take any number of values -/
theorem ix_listE {X : Cx} {K : PySem.W.Frag} (h : X.K = K) : IxR X (rIxL K) := by
  subst h
  exact ix_list
theorem ix_tupE {X : Cx} {K : PySem.W.Frag} (h : X.K = K) : IxR X (rIxT K) := by
  subst h
  exact ix_tup
theorem op_inE {X : Cx} {K : PySem.W.Frag} (h : X.K = K) : OpR X (compareOp .In) (rIn K false) := by
  subst h
  exact op_in_seq
theorem op_notInE {X : Cx} {K : PySem.W.Frag} (h : X.K = K) : OpR X (compareOp .NotIn) (rIn K true) := by
  subst h
  exact op_notIn_seq
theorem sl_tupE {X : Cx} {K : PySem.W.Frag} (h : X.K = K) : SlR X (rSlT K) := by
  subst h
  exact sl_tup
theorem op_catTE {X : Cx} {K : PySem.W.Frag} (h : X.K = K) : OpR X (binaryOp .Add) (rCatT K) := by
  subst h
  exact op_catT
theorem noneS {H H' : Hp} {p : Addr} (s : Same H H') (n : H' p = none) : H p = none := by
  cases z : H p with
  | none => rfl
  | some o =>
    rw [s _ _ z] at n
    cases n
/-- flat values as data -/
def flD : V → PyData
  | .bl b => .bool b
  | .int i => .int i
  | .str z => .str z
  | _ => .none
theorem dp_fl {K : PySem.W.Frag} {H : Hp} {v : V} (h : flatV v = true) : Dp K H v (flD v) := by
  cases v with
  | non => exact .non
  | bl b => exact .bl b
  | int i => exact .int i
  | str z => exact .str z
  | _ => exact absurd (show false = true from h) Bool.false_ne_true
theorem dp_flat {K : PySem.W.Frag} {H : Hp} : ∀ {xs : List V}, xs.all flatV = true → DpAll K H xs (xs.map flD)
  | [], _ => .nil
  | x :: r, h => by
    have h' : (flatV x && r.all flatV) = true := h
    obtain ⟨h1, h2⟩ := Bool.and_eq_true_iff.mp h'
    exact .cons (dp_fl h1) (dp_flat h2)
theorem deep_fl {n : Nat} (v : V) : Deep n (flD v) := by
  cases v <;> first | exact deep_non | exact deep_bool | exact deep_int | exact deep_str
theorem deep_flat {n : Nat} {xs : List V} (h : xs.length ≤ 1000) : Deep (n + 1) (.list (xs.map flD)) := deep_list (by rw [List.length_map]; exact h) fun d hd => by
  obtain ⟨v, _, rfl⟩ := List.mem_map.mp hd
  exact deep_fl v
theorem deep_flatT {n : Nat} {xs : List V} (h : xs.length ≤ 1000) : Deep (n + 1) (.tuple (xs.map flD)) := deep_tup (by rw [List.length_map]; exact h) fun d hd => by
  obtain ⟨v, _, rfl⟩ := List.mem_map.mp hd
  exact deep_fl v
theorem oddX_lstF {K : PySem.W.Frag} {H : Hp} {p : Addr} (xs : List V) (hf : xs.all flatV = true) (h : H p = some (.lst xs)) (hl : xs.length ≤ 100) : OddX K H (.ref p) (.list (xs.map flD)) :=
  ⟨.inr (.inr (.inr (.inr (.inl ⟨p, _, rfl, h⟩)))), .lst (SqL.of h) (dp_flat hf), fun _ => deep_flat (by omega)⟩
theorem oddX_tupF {K : PySem.W.Frag} {H : Hp} {p : Addr} (xs : List V) (hf : xs.all flatV = true) (h : H p = some (.tup xs)) (hl : xs.length ≤ 100) : OddX K H (.ref p) (.tuple (xs.map flD)) :=
  ⟨.inr (.inr (.inr (.inr (.inr ⟨p, _, rfl, h⟩)))), .tup (SqT.of h) (dp_flat hf), fun _ => deep_flatT (by omega)⟩
theorem oddD_lstF {K : PySem.W.Frag} {H : Hp} {b p : Addr} (xs : List V) (hf : xs.all flatV = true) (n : p ≠ b) (h : H p = some (.lst xs)) (hl : xs.length ≤ 100) : OddD K b H (.ref p) (.list (xs.map flD)) := fun H' s => oddX_lstF xs hf (s _ _ n h) hl
theorem oddD_tupF {K : PySem.W.Frag} {H : Hp} {b p : Addr} (xs : List V) (hf : xs.all flatV = true) (n : p ≠ b) (h : H p = some (.tup xs)) (hl : xs.length ≤ 100) : OddD K b H (.ref p) (.tuple (xs.map flD)) := fun H' s => oddX_tupF xs hf (s _ _ n h) hl
/-- asked whether it is a number -/
def AskN (K : PySem.W.Frag) (H : Hp) (v : V) : Prop := isNum v = true ∨ (isNum v = false ∧ NotI K H v)
theorem OddX.askn {K : PySem.W.Frag} {H : Hp} {v : V} {d : PyData} (o : OddX K H v d) : AskN K H v := by
  rcases o.kind with ⟨h, _⟩ | rfl | ⟨i, rfl⟩ | ⟨c, rfl⟩ | ⟨p, xs, rfl, h⟩ | ⟨p, xs, rfl, h⟩
  · obtain ⟨z, rfl⟩ := str_of h
    exact .inr ⟨rfl, "str", .base (.str z), by decide +kernel⟩
  · exact .inr ⟨rfl, "NoneType", .base .non, by decide +kernel⟩
  · exact .inl rfl
  · exact .inl rfl
  · exact .inr ⟨rfl, "list", .base (.lst h), by decide +kernel⟩
  · exact .inr ⟨rfl, "tuple", .base (.tup h), by decide +kernel⟩
section
variable {X : Cx} {CX : CXT} {k j : Nat} {f C : Addr} {sp : Sp} {E : XK} {m : Str} {o e : Expr} {es : List Expr} {ta : TE} {t : TA} {pos apos : Pos}
def tMethR (C : Addr) (m : Str) (sp : Sp) (E : XK) (ta : TE) (t : TA) : TE := fun σ H Q => ta σ H fun x H1 => ∃ a dx fs, x = .ref a ∧ H1 a = some (.ins C dx fs) ∧ fs.lookup m = none ∧ t σ H1 fun vs H2 => sp (V.ref a :: vs) H2 Q E
/-- o.m(e, ..), m told of by what it is called with -/
theorem pe_methR {pl : Sem Bool} (he : PE X o ta) (c : Cls X.K C) (hm : Meth X.K C m f) (F : FnR X.prog X.w X.K X.mg X.base CX k f sp) (hr : Room k X.A) (hx : Passes CX X E) (ha : PA X (e :: es) t)
    (hst : starEach (e :: es) X.env = (false, eval e X.env) :: starEach es X.env := by rfl) (hpl : (backTo pos (starEach es X.env)).any (·.1) = false := by rfl)
    (ht : eval (.Call (.Attribute o m apos) (e :: es) [] pos) X.env = (do
      let ov ← eval o X.env
      standAt apos.atName
      let (f, first) ← holding [ov] (getMethod ov m pl)
      callWith pos f first (backTo pos (starEach (e :: es) X.env)) (backToKw pos (keywordEach [] X.env))) := by rfl) :
    PE X (.Call (.Attribute o m apos) (e :: es) [] pos) (tMethR C m sp E ta t) := by
  refine ⟨fun pins s σ H Q I h => ?_⟩
  refine PySem.W.methodCall_KW (pl := pl) (thn (he.run pins s σ H _ I h) fun u s1 ⟨x, H1, I1, rx, a, dx, fs, ex, ea, l, q⟩ => ?_) ht
  subst ex
  obtain rfl : u = Value.ref a := rx
  refine getmeth_ok I1 ea c hm l ?_
  refine PySem.W.callWith_K (first := [.ref a]) (h₀ := X.base) I.ok.mod.kin hm.kp (thn (ha.run pos pins s1 σ H1 _ I1 q) fun us s2 ⟨vs, H2, I2, r, q2⟩ => ⟨I2.kIn, ?_⟩) hst hpl
  exact wpAny_call (L2.run_fnR (us := .ref a :: us) (vs := .ref a :: vs) F hr hx I2 (.cons rfl r) q2)
/-- o.m() -/
theorem pe_methR0 {pl : Sem Bool} (he : PE X o ta) (c : Cls X.K C) (hm : Meth X.K C m f) (F : FnR X.prog X.w X.K X.mg X.base CX k f sp) (hr : Room k X.A) (hx : Passes CX X E)
    (ht : eval (.Call (.Attribute o m apos) [] [] pos) X.env = (do
      let ov ← eval o X.env
      standAt apos.atName
      let (f, first) ← holding [ov] (getMethod ov m pl)
      callWith pos f first (backTo pos (starEach [] X.env)) (backToKw pos (keywordEach [] X.env))) := by rfl) :
    PE X (.Call (.Attribute o m apos) [] [] pos) (tMethR C m sp E ta tNil) := by
  refine ⟨fun pins s σ H Q I h => ?_⟩
  refine PySem.W.methodCall_KW (pl := pl) (thn (he.run pins s σ H _ I h) fun u s1 ⟨x, H1, I1, rx, a, dx, fs, ex, ea, l, q⟩ => ?_) ht
  subst ex
  obtain rfl : u = Value.ref a := rx
  refine getmeth_ok I1 ea c hm l ?_
  exact PySem.W.callWith_K0 (first := [.ref a]) I1.kIn hm.kp (wpAny_call (L2.run_fnR (us := [.ref a]) (vs := [.ref a]) F hr hx I1 (.cons rfl .nil) q))
structure MCalR (P : Program) (w : World) (K : PySem.W.Frag) (mg : Str → Option Value) (base : Heap) (CX : CXT) (C : Addr) (k : Nat) (m : Str) (sp : Sp) : Prop where
  ex : ∃ f : Addr, Meth K C m f ∧ FnR P w K mg base CX k f sp
theorem pe_mR {pl : Sem Bool} (c : MCalR X.prog X.w X.K X.mg X.base CX0 C k m sp) (hC : Cls X.K C) (hr : Room j X.A) (hk : k ≤ j) (he : PE X o ta) (ha : PA X (e :: es) t)
    (hst : starEach (e :: es) X.env = (false, eval e X.env) :: starEach es X.env := by rfl) (hpl : (backTo pos (starEach es X.env)).any (·.1) = false := by rfl)
    (ht : eval (.Call (.Attribute o m apos) (e :: es) [] pos) X.env = (do
      let ov ← eval o X.env
      standAt apos.atName
      let (f, first) ← holding [ov] (getMethod ov m pl)
      callWith pos f first (backTo pos (starEach (e :: es) X.env)) (backToKw pos (keywordEach [] X.env))) := by rfl) :
    PE X (.Call (.Attribute o m apos) (e :: es) [] pos) (tMethR C m sp E0 ta t) := by
  obtain ⟨f, hm, F⟩ := c.ex
  exact pe_methR he hC hm F (hr.mono hk) pass0 ha hst hpl ht
theorem pe_mR0 {pl : Sem Bool} (c : MCalR X.prog X.w X.K X.mg X.base CX0 C k m sp) (hC : Cls X.K C) (hr : Room j X.A) (hk : k ≤ j) (he : PE X o ta)
    (ht : eval (.Call (.Attribute o m apos) [] [] pos) X.env = (do
      let ov ← eval o X.env
      standAt apos.atName
      let (f, first) ← holding [ov] (getMethod ov m pl)
      callWith pos f first (backTo pos (starEach [] X.env)) (backToKw pos (keywordEach [] X.env))) := by rfl) :
    PE X (.Call (.Attribute o m apos) [] [] pos) (tMethR C m sp E0 ta tNil) := by
  obtain ⟨f, hm, F⟩ := c.ex
  exact pe_methR0 he hC hm F (hr.mono hk) pass0 ht
theorem pe_mRx {pl : Sem Bool} (c : MCalR X.prog X.w X.K X.mg X.base CX C k m sp) (hC : Cls X.K C) (hr : Room j X.A) (hk : k ≤ j) (hx : Passes CX X E) (he : PE X o ta) (ha : PA X (e :: es) t)
    (hst : starEach (e :: es) X.env = (false, eval e X.env) :: starEach es X.env := by rfl) (hpl : (backTo pos (starEach es X.env)).any (·.1) = false := by rfl)
    (ht : eval (.Call (.Attribute o m apos) (e :: es) [] pos) X.env = (do
      let ov ← eval o X.env
      standAt apos.atName
      let (f, first) ← holding [ov] (getMethod ov m pl)
      callWith pos f first (backTo pos (starEach (e :: es) X.env)) (backToKw pos (keywordEach [] X.env))) := by rfl) :
    PE X (.Call (.Attribute o m apos) (e :: es) [] pos) (tMethR C m sp E ta t) := by
  obtain ⟨f, hm, F⟩ := c.ex
  exact pe_methR he hC hm F (hr.mono hk) hx ha hst hpl ht
end
end FW
/-! list(text) -/
namespace FW
open PySem PySem.Spec PyProof.Rows L2
def rListS : List V → Hp → VK → Prop := fun xs H Q => ∃ z : Str, xs = [V.str z] ∧ z.cps.size ≤ sizeLine ∧ ∀ p, H p = none → Q (.ref p) (upd H p (.lst (z.cps.toList.map sgn)))
theorem call_listS {X : Cx} (hc : X.calm = true) : CallR X (.type "list") rListS := by
  intro pins s σ H xs us Q I r h
  obtain ⟨z, rfl, hz, q⟩ := h
  obtain ⟨u, rfl, t, rfl⟩ := vals1 r
  refine call_list_str (I.ok.hd hc) z t (hn := hz) fun h' tk acc' c' kp hS hacc => ?_
  refine ⟨.ref s.heap.objs.size, upd H s.heap.objs.size (.lst (z.cps.toList.map sgn)), I.laid kp (Nat.le_refl _) (show ObjOk X.prog X.w _ _ _ (.lst (z.cps.toList.map sgn)) from ⟨?_, acc'.toList, c', ?_, ?_⟩), rfl, q _ (I.hok.fresh (Nat.le_refl _))⟩
  · rw [List.length_map]
    exact hz
  · refine vals_of_at (by rw [List.length_map]; simp [hacc.1]) fun j x w h1 h2 => ?_
    obtain ⟨c, y, hc', rfl⟩ := hacc.2 j w (by rw [← Array.getElem?_toList]; exact h2)
    rw [List.getElem?_map, Array.getElem?_toList, hc'] at h1
    cases h1
    exact ⟨y, rfl⟩
  · rw [Array.toArray_toList]
    exact hS
end FW
/-! list(range(n)) -/
namespace FW
open PySem PySem.Spec PyProof.Rows L2
def tListRng (ta : TA) : TE := fun σ H Q => ta σ H fun vs H1 => ∃ n : Nat, vs = [.int (n : Int)] ∧ n ≤ 100000 ∧ ∀ p, H1 p = none → Q (.ref p) (upd H1 p (.lst ((List.range n).map fun i : Nat => V.int (i : Int))))
theorem pe_listRange1 {X : Cx} {a : Expr} {ta : TA} {p q pos cpos : Pos} (hc : X.calm = true) (hg : Gl X "list") (hm : X.mg "list" = none) (hv : bootBuiltins "list" = some (.type "list")) (hg2 : Gl X "range") (hm2 : X.mg "range" = none) (ha : PA X [a] ta)
    (hs2 : starEach [a] X.env = [(false, eval a X.env)] := by rfl)
    (hs : starEach [.Call (.Name "range" q) [a] [] cpos] X.env = (false, eval (.Call (.Name "range" q) [a] [] cpos) X.env) :: starEach [] X.env := by rfl) :
    PE X (.Call (.Name "list" p) [.Call (.Name "range" q) [a] [] cpos] [] pos) (tListRng ta) := by
  refine ⟨fun pins s σ H Q I hq => ?_⟩
  refine wpAny_Call_Name_kw (ld_blt I hg hm hv ?_)
  refine PyProof.Rows.callWith_type1 ?_ hs rfl
  rw [hs]
  show wpAny _ _ (spliced ((false, eval (.Call (.Name "range" q) [a] [] cpos) X.env) :: backTo pos (starEach [] X.env))) _ _ s
  refine Calls.spliced_cons ?_
  refine Call_ (ld_blt I hg2 hm2 boot_range (PyProof.Rows.callWith_type1 (thn (ha.run cpos pins s σ H _ I hq) fun us s1 ⟨vs, H1, I1, r1, q1⟩ => ?_) hs2 rfl))
  obtain ⟨n, e, hn, q⟩ := q1
  subst e
  cases r1 with
  | cons r rr =>
    cases rr
    obtain ⟨t, rfl⟩ := r
    refine call_range_1 ?_
    have I2 : Inv X pins σ H1 { s1 with heap := s1.heap.push { cls := .type "range", data := .fields #[.int 0 s1.toks, .int (n : Int) t, .int 1 (s1.toks + 1)] }, toks := s1.toks + 1 + 1 } := I1.kept fun b o e => Heap.get?_push_of_some _ e
    refine Calls.spliced_nil ?_
    refine call_list_range (n := n) (I2.ok.hd hc) (IsRange.new ..) (small_one (by omega) (by omega) (by omega) (by omega)) (by rw [rangeSize_one]; split <;> omega) (by omega) fun h' tk acc' c' hk hS hacc => ?_
    refine ⟨.ref _, _, I2.laid hk (Nat.le_refl _) (show ObjOk X.prog X.w _ _ _ (.lst ((List.range n).map fun i : Nat => V.int (i : Int))) from ⟨?_, acc'.toList, c', ?_, ?_⟩), rfl, q _ (I2.hok.fresh (Nat.le_refl _))⟩
    · rw [List.length_map, List.length_range]
      exact sz hn
    · refine vals_of_at (by rw [List.length_map, List.length_range]; simp [hacc.1]) fun j x w h1 h2 => ?_
      obtain ⟨y, hy⟩ := hacc.2 j w (by rw [← Array.getElem?_toList]; exact h2)
      rw [List.getElem?_map] at h1
      obtain ⟨i, hi, rfl⟩ := Option.map_eq_some_iff.mp h1
      obtain ⟨h3, h4⟩ := List.getElem?_eq_some_iff.mp hi
      rw [List.getElem_range] at h4
      subst h4
      rw [hy]
      exact ⟨y, by simp⟩
    · rw [Array.toArray_toList]
      exact hS
theorem sl_listE {X : Cx} {K : PySem.W.Frag} (h : X.K = K) : SlR X (rSlL K) := by
  subst h
  exact sl_list
end FW
/-! what stays, for laws with lambdas -/
namespace FW
open PySem PySem.Spec PyProof.Rows L2
theorem Bag.ext {H H' : Hp} {b l : Addr} (B : Bag H b l) (e : LamX.ExtN H H') : Bag H' b l := by
  obtain ⟨ns, i, r, m, c, h1, h2, q⟩ := B
  exact ⟨ns, i, r, m, c, e _ _ h1 (fun _ z => by cases z), e _ _ h2 (fun _ z => by cases z), q⟩
theorem tabs_drawn {T : List (Addr × Str)} {H H' : Hp} {b l : Addr} (t : LamX.Tabs T H) (B : Bag H b l) (s : But b H H') : LamX.Tabs T H' := fun p hp => by
  obtain ⟨xs, hb⟩ := B.la
  obtain ⟨ps, h1, h2, h3⟩ := t p hp
  refine ⟨ps, s _ _ (fun z => ?_) h1, h2, fun pos cv hc => ?_⟩
  · rw [z, hb] at h1
    cases h1
  · obtain ⟨c, e1, e2⟩ := h3 pos cv hc
    refine ⟨c, e1, s _ _ (fun z => ?_) e2⟩
    rw [z, hb] at e2
    cases e2
theorem ErrF.caught {K : PySem.W.Frag} {mg : Str → Option Value} {C : Addr} {f z : String} {cs : List Value} {H1 : Hp} {v : V} {d a : Addr} (T : ErrF K mg C f z cs) (nd : H1 d = none) (na : (upd H1 d (Err1 f z v)) a = none) : Caught K (upd (upd H1 d (Err1 f z v)) a (ExK (.ref C) (some d) a)) a (Str.ofString z) v := by
  obtain ⟨fI, k⟩ := T.kls
  have hne : d ≠ a := fun e => by
    rw [← e, upd_same] at na
    cases na
  exact ⟨C, d, _, upd_same, (upd_ne hne).trans upd_same, k.xf, k.ncode, rfl, T.fi v⟩
theorem dTI {n : Nat} (z : Str) (d : PyData) (h : Deep (n + 1) d) : Deep (n + 2) (.tuple [.str z, d]) := deep_tup (show 2 ≤ 1000 by decide) fun d' hd => by
  simp only [List.mem_cons, List.not_mem_nil, or_false] at hd
  rcases hd with rfl | rfl
  · exact deep_str
  · exact h
theorem take_some {α : Type} {l : List α} {k i : Nat} {x : α} (h : (l.take k)[i]? = some x) : l[i]? = some x := by
  have hi : i < k := by
    have := (List.getElem?_eq_some_iff.mp h).1
    rw [List.length_take] at this
    omega
  rwa [List.getElem?_take_of_lt hi] at h
theorem made_keep {H : Hp} {x dx : Addr} {o1 o2 : HO} (nx : H x = none) (nd : H dx = none) : Same H (upd (upd H dx o1) x o2) := fun z o hz => (upd_ne (ne_of_none hz nx)).trans ((upd_ne (ne_of_none hz nd)).trans hz)
theorem cutV_fromB {xs : List V} {k : Nat} (h : k ≤ xs.length) : cutV xs (some (k : Int)) none = xs.drop k := by
  unfold cutV
  rw [HT.sIx_none, show HT.sIx xs.length 0 (some (k : Int)) = min k xs.length from HT.sIx_nat xs.length 0 k, Nat.min_eq_left h, List.take_of_length_le]
  rw [List.length_drop]
  exact Nat.le_refl _
end FW
/-! a tuple so many times, once also -/
namespace FW
open PySem PySem.Spec PyProof.Rows L2
theorem tuple_mul1 (l : Addr) (items : Array Value) (n : Nat) (dd : Option Addr) (sl : Array (Option Value)) (u : Tok) (c1 : (items.isEmpty || (1 : Int) == 1) = true) :
    Meets (Builtin.«tuple.__mul__» ⟨[.ref l, .int 1 u], []⟩) (fun _ R s => s.heap.get? l = some { cls := .type "tuple", dict := dd, data := .seq items n, slots := sl } ∧ R (.ok (.ret (Value.ref l))) s) :=
  .of_wp fun prog w A R s h => by
    obtain ⟨hp, g, d, tk, os⟩ := s
    obtain ⟨hl, h⟩ := h
    have f1 := AutoSeq1.idx_int
    wp_walk using wpAny_loadPart' hl
    exact ⟨_, rfl, h⟩
def rRepTA (K : PySem.W.Frag) : R2 := fun x y H Q => ∃ l k xs, x = .ref l ∧ y = .int k ∧ SqT K H l xs ∧ xs ≠ [] ∧ 1 ≤ k ∧ k ≤ 1000 ∧ xs.length ≤ 1000 ∧ ∀ H' p, Same H H' → SqT K H' p (List.replicate k.toNat xs).flatten → Q (.ref p) H'
theorem op_repTA {X : Cx} : OpR X (binaryOp .Mult) (rRepTA X.K) := by
  intro pins s σ H x y v u Q I rx ry h
  obtain ⟨l, k, xs, rfl, rfl, hT, hne, h1, h2, hz, q⟩ := h
  by_cases hk : 2 ≤ k
  · exact op_repT _ _ _ _ _ _ _ _ _ I rx ry ⟨l, k, xs, rfl, rfl, hT, hne, hk, h2, hz, fun p np => q _ p (same_upd np) (SqT.of upd_same)⟩
  have k1 : k = 1 := by omega
  subst k1
  cases rx
  obtain ⟨t, rfl⟩ := ry
  obtain ⟨its, r, ⟨⟨cls, dd, data, sl⟩, ho, hc, n, hd⟩, hs⟩ := I.tuple hT
  simp only at hc hd
  subst hc hd
  have c1 : (its.toArray.isEmpty || (1 : Int) == 1) = true := by
    rw [show ((1 : Int) == 1) = true from rfl, Bool.or_true]
  refine wpAny_binaryOp_repeat_ref (T := "tuple") (U := "int") (by decide) ⟨_, ho, rfl⟩ (fun s' => typeIs_int s' 1 t) noFill_tuple_mul PySem.F.fills_int_mul PySem.F.slot_int_rmul repeat_tuple PySem.F.slot_int_index.lookup
    (call_meets PySem.F.slot_int_rmul (typeIs_int s 1 t) PySem.F.entry_int_rmul (PySem.F.args_int_rmul_2 _ _) (int_rmul_tuple 1 t l its.toArray n dd sl)
      ⟨ho, rfl, ⟨_, ho, rfl⟩, call_meets PySem.F.slot_tuple_mul ⟨_, ho, rfl⟩ PySem.F.entry_tuple_mul (PySem.F.args_tuple_mul_2 _ _) (tuple_mul1 l its.toArray n dd sl t c1) ⟨ho, ?_⟩⟩)
  refine ⟨.ref l, H, I, rfl, q H l (Same.refl H) ?_⟩
  rw [show (List.replicate (1 : Int).toNat xs).flatten = xs from by
    show (List.replicate 1 xs).flatten = xs
    simp]
  exact hT
end FW
/-! a op b and v in a, by the class's own methods -/
namespace FW
open PySem PySem.Spec PyProof.Rows L2
section
variable {X : Cx} {CX : CXT} {C f : Addr} {n j k : Nat} {sp : Sp} {E : XK}
def rOwnB (C : Addr) (sp : Sp) (E : XK) : R2 := fun x y H Q => ∃ a dx fs, x = .ref a ∧ H a = some (.ins C dx fs) ∧ Kd H y (.ref C) ∧ sp [x, y] H Q E
theorem op_binI {op : Operator} (hs : PySem.W.findIn X.K (.ref C) (PySem.dunder op.info.2) = some (some (.ref f))) (hf : PySem.W.isFn X.K (.ref f) = true) (hc : PySem.W.selfFirst X.K C = true) (F : FnR X.prog X.w X.K X.mg X.base CX n f sp)
    (hr : Room n X.A) (hx : Passes CX X E) : OpR X (binaryOp op) (rOwnB C sp E) := by
  intro pins s σ H x y v u Q I rx ry h
  obtain ⟨a, dx, fs, rfl, ha, kd, q⟩ := h
  cases (show v = Value.ref a from rx)
  obtain ⟨mA, J, _⟩ := ins_get I.hok ha
  obtain ⟨od, J, _⟩ := J.look
  obtain ⟨m, hF⟩ := I.fr
  refine PySem.W.binop_K hF I.ok.mod.kin J (looks_kd I ry kd) hc hs hf ?_
  refine wpAny_mono (wpAny_call (run_fnR (us := [.ref a, u]) (vs := [.ref a, y]) F hr hx I (.cons rfl (.cons ry .nil)) q)) (fun w s' z => ?_) fun _ _ x => x
  obtain ⟨z', H', I', rz, qz⟩ := z
  exact SlX.cmpback rz ⟨z', H', I', rz, qz⟩
def rOwnIn (C : Addr) (sp : Sp) (E : XK) (neg : Bool) : R2 := fun x y H Q => ∃ a dx fs, y = .ref a ∧ H a = some (.ins C dx fs) ∧ sp [y, x] H (fun v H' => ∃ c : Bool, v = .bl c ∧ Q (.bl (c != neg)) H') E
theorem op_inI (hs : PySem.W.findIn X.K (.ref C) "__contains__" = some (some (.ref f))) (hf : PySem.W.isFn X.K (.ref f) = true) (F : FnR X.prog X.w X.K X.mg X.base CX n f sp)
    (hr : Room n X.A) (hx : Passes CX X E) : OpR X (compareOp .In) (rOwnIn C sp E false) := by
  intro pins s σ H x y v u Q I rx ry h
  obtain ⟨a, dx, fs, rfl, ha, q⟩ := h
  cases (show u = Value.ref a from ry)
  obtain ⟨mA, J, _⟩ := ins_get I.hok ha
  obtain ⟨od, J, _⟩ := J.look
  obtain ⟨m, hF⟩ := I.fr
  refine PySem.W.in_K hF I.ok.mod.kin J hs hf ?_
  refine wpAny_mono (wpAny_call (run_fnR (us := [.ref a, v]) (vs := [.ref a, x]) F hr hx I (.cons rfl (.cons rx .nil)) q)) (fun w s' z => ?_) fun _ _ x => x
  obtain ⟨z', H', I', rz, c, rfl, qz⟩ := z
  obtain rfl : w = Value.bool c := rz
  refine wpAny_truthy_bool ⟨.bl c, H', I', rfl, ?_⟩
  cases c <;> exact qz
theorem op_notInI (hs : PySem.W.findIn X.K (.ref C) "__contains__" = some (some (.ref f))) (hf : PySem.W.isFn X.K (.ref f) = true) (F : FnR X.prog X.w X.K X.mg X.base CX n f sp)
    (hr : Room n X.A) (hx : Passes CX X E) : OpR X (compareOp .NotIn) (rOwnIn C sp E true) := by
  intro pins s σ H x y v u Q I rx ry h
  obtain ⟨a, dx, fs, rfl, ha, q⟩ := h
  cases (show u = Value.ref a from ry)
  obtain ⟨mA, J, _⟩ := ins_get I.hok ha
  obtain ⟨od, J, _⟩ := J.look
  obtain ⟨m, hF⟩ := I.fr
  refine PySem.W.notIn_K hF I.ok.mod.kin J hs hf ?_
  refine wpAny_mono (wpAny_call (run_fnR (us := [.ref a, v]) (vs := [.ref a, x]) F hr hx I (.cons rfl (.cons rx .nil)) q)) (fun w s' z => ?_) fun _ _ x => x
  obtain ⟨z', H', I', rz, c, rfl, qz⟩ := z
  obtain rfl : w = Value.bool c := rz
  refine wpAny_truthy_bool ⟨.bl (!c), H', I', rfl, ?_⟩
  cases c <;> exact qz
end
/-- what a class of one's own says of a binary operator -/
structure OwnB (P : Program) (w : World) (K : PySem.W.Frag) (mg : Str → Option Value) (base : Heap) (C : Addr) (op : Operator) (k : Nat) (sp : Sp) : Prop where
  ex : ∃ f : Addr, PySem.W.findIn K (.ref C) (PySem.dunder op.info.2) = some (some (.ref f)) ∧ PySem.W.isFn K (.ref f) = true ∧ FnR P w K mg base CX0 k f sp
  sf : PySem.W.selfFirst K C = true
theorem op_binO {X : Cx} {C : Addr} {op : Operator} {k j : Nat} {sp : Sp} (o : OwnB X.prog X.w X.K X.mg X.base C op k sp) (hr : Room j X.A) (hk : k ≤ j) : OpR X (binaryOp op) (rOwnB C sp E0) := by
  obtain ⟨f, h1, h2, F⟩ := o.ex
  exact op_binI h1 h2 o.sf F (hr.mono hk) pass0
end FW
/-! o[e] and o[e] = v by the class's own methods -/
namespace FW
open PySem PySem.Spec PyProof.Rows L2
section
variable {X : Cx} {CX : CXT} {C f : Addr} {n : Nat} {sp : Sp} {E : XK} {a b : Expr} {pos : Pos} {ta tb : TE}
/-- o[e], o an instance of the class at C -/
def tIxO (C : Addr) (sp : Sp) (E : XK) (ta tb : TE) : TE := tOp (fun x y H Q => ∃ (o dx : Addr) (fs : List (Str × V)), x = .ref o ∧ H o = some (.ins C dx fs) ∧ sp [x, y] H Q E) ta tb
theorem pe_ixO (hs : PySem.W.findIn X.K (.ref C) "__getitem__" = some (some (.ref f))) (hfi : PySem.W.fnIn X.K f = true) (hf : PySem.W.isFn X.K (.ref f) = true) (F : FnR X.prog X.w X.K X.mg X.base CX n f sp) (hr : Room (n + 1) X.A) (hx : Passes CX X E) (ha : PE X a ta) (hb : PE X b tb)
    (hsl : ∀ v u, subscripted b true v u = runValue (.builtin "lifetime.subscript" ⟨[v, u], []⟩) := by intro _ _; with_unfolding_all rfl) : PE X (.Subscript a b pos) (tIxO C sp E ta tb) := by
  refine ⟨fun pins s σ H Q I h => ?_⟩
  refine Subscript_ (binT ha hb I h fun v u s2 x y H2 I2 rx ry q => ?_)
  obtain ⟨o, dx, fs, rfl, ho, q⟩ := q
  cases (show v = Value.ref o from rx)
  obtain ⟨mA, J, _⟩ := ins_get I2.hok ho
  obtain ⟨od, J, _⟩ := J.look
  obtain ⟨m, hF⟩ := I2.fr
  refine PySem.W.sub_K hF I2.ok.mod.kin J hs hfi hf ?_ (hsl _ _)
  refine wpAny_mono (wpAny_call (SlX.run_at (us := [.ref o, u]) (ws := [.ref o, y]) F hr.in1 I2.env0.in1 hx I2 (.cons rfl (.cons ry .nil)) q)) (fun w s' z => ?_) fun _ _ x => x
  exact z
/-- o[e] = v -/
def rSetO (C : Addr) (sp : Sp) (E : XK) : TSet := fun o i v H Q => ∃ (a dx : Addr) (fs : List (Str × V)), o = .ref a ∧ H a = some (.ins C dx fs) ∧ sp [o, i, v] H (fun _ H' => Q H') E
theorem set_own (hq : PySem.W.noSeq X.K C = true) (hs : PySem.W.findIn X.K (.ref C) "__setitem__" = some (some (.ref f))) (hf : PySem.W.isFn X.K (.ref f) = true) (F : FnR X.prog X.w X.K X.mg X.base CX n f sp) (hr : Room n X.A) (hx : Passes CX X E) : PSet X (rSetO C sp E) := by
  intro pins s σ H o i v ov iv u Q I ro ri rv h
  obtain ⟨a, dx, fs, rfl, ha, q⟩ := h
  cases (show ov = Value.ref a from ro)
  obtain ⟨mA, J, _⟩ := ins_get I.hok ha
  obtain ⟨od, J, _⟩ := J.look
  obtain ⟨m, hF⟩ := I.fr
  refine PySem.W.ksp_setItem hF I.ok.mod.kin J hq hs hf ?_
  refine wpAny_mono (wpAny_call (run_fnR (us := [.ref a, iv, u]) (vs := [.ref a, i, v]) F hr hx I (.cons rfl (.cons ri (.cons rv .nil))) q)) (fun w s' z => ?_) fun _ _ x => x
  obtain ⟨_, H', I', _, qz⟩ := z
  exact ⟨H', I', qz⟩
end
end FW
namespace FW
open PySem PySem.Spec PyProof.Rows L2
theorem forIn_steps {α β : Type} {f : α → β → Sem (ForInStep β)} (g : β → α → β) (inv : β → List α → Prop)
    (h : ∀ b x xs, inv b (x :: xs) → f x b = pure (.yield (g b x)) ∧ inv (g b x) xs) : ∀ (xs : List α) (b : β), inv b xs → forIn xs b f = pure (xs.foldl g b)
  | [], b, _ => rfl
  | x :: xs, b, i => by
    obtain ⟨e, i'⟩ := h b x xs i
    rw [List.forIn_cons, e]
    exact forIn_steps g inv h xs _ i'
/-- the keywords of a call that name parameters -/
def ownK (names : List Str) (kw : List (Str × Value)) : List (Str × Value) := kw.filter fun x => names.contains x.1
def restK (names : List Str) (kw : List (Str × Value)) : List (Str × Value) := kw.filter fun x => !names.contains x.1
def stepK (names : List Str) (b : List (Str × Value) × List (Str × Value)) (x : Str × Value) : List (Str × Value) × List (Str × Value) := if names.contains x.1 = true then (b.1 ++ [x], b.2) else (b.1, b.2 ++ [x])
theorem stepK_all (names : List Str) : ∀ (kw : List (Str × Value)) (b : List (Str × Value) × List (Str × Value)), kw.foldl (stepK names) b = (b.1 ++ ownK names kw, b.2 ++ restK names kw)
  | [], b => by simp [ownK, restK]
  | x :: xs, b => by
    rw [List.foldl_cons, stepK_all names xs]
    unfold stepK ownK restK
    by_cases h : names.contains x.1 = true
    · simp only [h, if_true, List.filter_cons, Bool.not_true, Bool.false_eq_true, if_false, List.append_assoc, List.cons_append, List.nil_append]
    · simp only [h, if_false, List.filter_cons, Bool.not_eq_true] at *
      simp only [h, Bool.not_false, if_true, if_false, Bool.false_eq_true, List.append_assoc, List.cons_append, List.nil_append]
theorem lookup_none {l : List (Str × Value)} {k : Str} (h : k ∉ l.map (·.1)) : l.lookup k = none := by
  induction l with
  | nil => rfl
  | cons x xs ih =>
    rw [List.map_cons, List.mem_cons, not_or] at h
    obtain ⟨a, b⟩ := x
    rw [List.lookup_cons, show (k == a) = false from beq_eq_false_iff_ne.mpr h.1]
    exact ih h.2
/-- what is left over: a new dict, its items one behind another -/
def fillK (R : List (Str × Value)) (front : List (Str × Value)) (nm : Str) : Sem (List (Str × Value)) := (alloc ({ cls := .type "dict", data := .dict #[] } : Obj) : Sem Addr) >>= fun d => forIn R PUnit.unit (fun x _ => (nsSet d x.1 x.2 >>= fun _ => pure (ForInStep.yield PUnit.unit))) >>= fun _ => pure (front ++ [(nm, Value.ref d)])
abbrev nmW : List Str := [("self" : Str), ("faces" : Str), ("each" : Str)]
section
variable {x qual : Str} {params : Arguments} {body : List Stmt} {scope : Scope} {D : Addr} {doc pm : Value} {an : Option Addr} {cdv ct : Value} {kw : List (Str × Value)} {kn : Arg}
theorem bindW (h1 : params.posonlyargs = []) (h2 : params.args.map (·.arg) = [("self" : Str), ("faces" : Str)]) (h3 : params.kwonlyargs.map (·.arg) = [("each" : Str)]) (h4 : params.vararg = none) (h5 : params.kwarg = some kn)
   (us : List Value) (S : List (Str × Value)) (hS : [("self" : Str), ("faces" : Str)].zip us ++ ownK nmW kw = S) (hn : (S.map (·.1)).Nodup) (hz : (restK nmW kw).length ≤ sizeLine) (a f : Value) (hl : us.length ≤ 2) (hs : S.lookup ("self" : Str) = some a) (hf : S.lookup ("faces" : Str) = some f) :
   (∀ e, S.lookup ("each" : Str) = some e → bindArgs (PySem.W.fnOf x qual params body scope .none (.ref D) doc pm an cdv ct) ⟨us, kw⟩ = fillK (restK nmW kw) [("self", a), ("faces", f), ("each", e)] kn.arg) ∧
   (S.lookup ("each" : Str) = none → ∃ k, bindArgs (PySem.W.fnOf x qual params body scope .none (.ref D) doc pm an cdv ct) ⟨us, kw⟩ = (nsGet D "each" >>= k) ∧ ∀ e, k (some e) = fillK (restK nmW kw) [("self", a), ("faces", f), ("each", e)] kn.arg) := by
  have hz' : ¬ (restK nmW kw).length > sizeLine + 1 := by omega
  have hl' : ¬ us.length > 2 := by omega
  have hse : bindArgs (PySem.W.fnOf x qual params body scope .none (.ref D) doc pm an cdv ct) ⟨us, kw⟩ = bindArgs (PySem.W.fnOf x qual params body scope .none (.ref D) doc pm an cdv ct) ⟨us, kw⟩ := rfl
  conv at hse => rhs; unfold bindArgs PySem.W.fnOf
  simp only [h1, h2, h3, h4, h5] at hse
  rw [forIn_steps (stepK nmW) (fun b xs => ((b.1 ++ ownK nmW xs).map (·.1)).Nodup) ?_ kw _ (by simp only [List.map_nil, List.nil_append]; rw [hS]; exact hn)] at hse
  · rw [stepK_all] at hse
    simp only [List.map_nil, List.nil_append, List.filter_nil, List.isEmpty_nil, Bool.not_true, Bool.false_eq_true, if_false, pure_bind, hS] at hse
    have e0 : seqItems? Value.none = pure none := rfl
    simp only [e0, pure_bind, List.length_cons, List.length_nil, Nat.zero_add, Nat.reduceAdd, decide_eq_false hl', Bool.false_and, Bool.false_eq_true, if_false, Option.getD_none, List.drop_nil, List.length_nil, Nat.sub_zero, List.take_succ_cons, List.take_zero, List.filter_cons, List.filter_nil, hs, hf, Option.isNone_some, List.isEmpty_nil, Bool.not_true, List.zip_nil_right, List.forIn_nil, List.forIn_cons, List.drop_succ_cons, List.drop_zero] at hse
    refine ⟨fun e he => ?_, fun he => ?_⟩
    · rw [hse]
      simp only [he, Option.isNone_some, Bool.false_eq_true, if_false, pure_bind, List.isEmpty_nil, Bool.not_true, if_neg hz', List.filterMap_cons, List.filterMap_nil, List.append_nil, List.cons_append, List.nil_append, hs, hf, Option.map_some]
      rfl
    · simp only [he, Option.isNone_none, if_true, bind_assoc, if_neg hz'] at hse
      have z1 : ∀ e : Value, List.lookup ("self" : Str) (S ++ [(("each" : Str), e)]) = some a := fun e => by rw [List.lookup_append, hs]; rfl
      have z2 : ∀ e : Value, List.lookup ("faces" : Str) (S ++ [(("each" : Str), e)]) = some f := fun e => by rw [List.lookup_append, hf]; rfl
      have z3 : ∀ e : Value, List.lookup ("each" : Str) (S ++ [(("each" : Str), e)]) = some e := fun e => by rw [List.lookup_append, he]; rfl
      refine ⟨_, hse, fun e => ?_⟩
      simp only [pure_bind, List.isEmpty_nil, Bool.not_true, Bool.false_eq_true, if_false, List.filterMap_cons, List.filterMap_nil, List.append_nil, List.cons_append, List.nil_append, z1, z2, z3, Option.map_some]
      rfl
  · intro b x xs hb
    have e : ([("self" : Str), ("faces" : Str)].contains x.1 || [("each" : Str)].contains x.1) = nmW.contains x.1 := by
      simp only [List.contains_cons, List.contains_nil, Bool.or_false, Bool.or_assoc]
    rw [e]
    by_cases h : nmW.contains x.1 = true
    · have hb' : ((b.1 ++ x :: ownK nmW xs).map (·.1)).Nodup := by
        have e2 : ownK nmW (x :: xs) = x :: ownK nmW xs := by unfold ownK; rw [List.filter_cons, if_pos h]
        rw [e2] at hb
        exact hb
      have e3 : (List.lookup x.1 b.1).isSome = false := by
        rw [lookup_none]
        · rfl
        · intro hm
          rw [List.map_append, List.map_cons, List.nodup_append] at hb'
          exact hb'.2.2 _ hm _ (List.mem_cons_self ..) rfl
      unfold stepK
      simp only [h, if_true, e3, Bool.false_eq_true, if_false]
      refine ⟨trivial, ?_⟩
      rw [List.append_assoc]
      exact hb'
    · unfold stepK
      rw [Bool.not_eq_true] at h
      simp only [h, Bool.false_eq_true, if_false, Option.isSome_some, if_true]
      refine ⟨trivial, ?_⟩
      have e2 : ownK nmW (x :: xs) = ownK nmW xs := by unfold ownK; rw [List.filter_cons, h]; rfl
      rw [e2] at hb
      exact hb
end
end FW
namespace FW
open PySem PySem.Spec PyProof.Rows L2 StX
open PySem.W (kwEs kwDistinct dictOf putL_new putName_dict putL)
theorem push_upd (h : Heap) (o : Obj) (f : Obj → Obj) : (h.push o).update h.objs.size f = h.push (f o) := by
  obtain ⟨objs, l⟩ := h
  show (⟨(objs.push o).modify objs.size f, l⟩ : Heap) = ⟨objs.push (f o), l⟩
  congr 1
  apply Array.ext
  · simp
  · intro i h1 h2
    rw [Array.getElem_modify]
    by_cases e : i = objs.size
    · subst e; simp
    · have : i < objs.size := by simp at h2; omega
      simp [Array.getElem_push, this, Ne.symm e]
section
variable {M : Model} {A : Around} {E : Value → Shared → Prop}
theorem nsSet_last {s : Shared} {h : Heap} {es : List DictEntry} {n : Nat} {k : Str} {v : Value} {Q : Unit → Shared → Prop} (eh : s.heap = h.push (dictOf es n)) (hs : ∀ e ∈ es, e.key.isStr k = false) (hr : ∀ e ∈ es, e.refKey = false)
    (hq : Q () { s with heap := h.push (dictOf (es ++ [⟨PyData.keyHash M.w.params k, .str k s.toks, v⟩]) (n + 1)), toks := s.toks + 1 }) : wpAny M A (nsSet h.objs.size k v) Q E s := by
  have e1 : es.any (·.key.isStr k) = false := by
    cases q : es.any (·.key.isStr k) with
    | false => rfl
    | true => obtain ⟨e, he, z⟩ := List.any_eq_true.mp q; rw [hs e he] at z; cases z
  have e2 : es.any (·.refKey) = false := by
    cases q : es.any (·.refKey) with
    | false => rfl
    | true => obtain ⟨e, he, z⟩ := List.any_eq_true.mp q; rw [hr e he] at z; cases z
  have e : Obj.putName k (PyData.keyHash M.w.params k) (.str k s.toks) v (dictOf es n) = dictOf (es ++ [⟨PyData.keyHash M.w.params k, .str k s.toks, v⟩]) (n + 1) := by
    rw [putName_dict, putL_new hs]
    show dictOf _ (if es.any (·.key.isStr k) then n else n + 1) = _
    rw [e1, if_neg Bool.false_ne_true]
  have D : s.heap.get? h.objs.size = some (dictOf es n) := by rw [eh]; exact Heap.get?_push_size _ rfl
  have c : aRefKeyMayBeTheName k es.toArray = false := by
    rw [PySem.aRefKeyMayBeTheName_at, ← Array.any_toList, ← Array.any_toList]
    show (!es.any (·.key.isStr k) && es.any (·.refKey)) = false
    rw [e2, Bool.and_false]
  unfold nsSet
  refine wpAny_bind (wpAny_bind (wpAny_askSetting (wpAny_pure (wpAny_bind (wpAny_mkText (wpAny_bind (wpAny_loadPart D ?_)))))))
  dsimp only
  rw [c]
  refine wpAny_updatePart D ?_
  have z : s.heap.update h.objs.size (Obj.putName k (PyData.keyHash M.w.params k) (.str k s.toks) v) = h.push (dictOf (es ++ [⟨PyData.keyHash M.w.params k, .str k s.toks, v⟩]) (n + 1)) := by rw [eh, push_upd, e]
  rw [← z] at hq
  exact hq
theorem wp_fill {h : Heap} {Q : PUnit → Shared → Prop} : ∀ (R : List (Str × Value)) (s : Shared) (es : List DictEntry) (n : Nat), s.heap = h.push (dictOf es n) → (∀ e ∈ es, ∀ x ∈ R, e.key.isStr x.1 = false) → (∀ e ∈ es, e.refKey = false) → (R.map (·.1)).Nodup →
    Q ⟨⟩ { s with heap := h.push (dictOf (es ++ kwEs M.w.params s.toks R) (n + R.length)), toks := s.toks + R.length } →
    wpAny M A (forIn R PUnit.unit fun x _ => (nsSet h.objs.size x.1 x.2 >>= fun _ => pure (ForInStep.yield PUnit.unit))) Q E s
  | [], s, es, n, eh, _, _, _, hq => by
    rw [List.forIn_nil]
    refine wpAny_pure ?_
    have z : { s with heap := h.push (dictOf (es ++ kwEs M.w.params s.toks []) (n + 0)), toks := s.toks + 0 } = s := by
      show { s with heap := h.push (dictOf (es ++ []) n), toks := s.toks } = s
      rw [List.append_nil, ← eh]
    rw [List.length_nil, z] at hq
    exact hq
  | x :: r, s, es, n, eh, hs, hr, hn, hq => by
    obtain ⟨hn1, hn2⟩ := List.nodup_cons.mp (show (x.1 :: r.map (·.1)).Nodup from hn)
    rw [List.forIn_cons]
    refine wpAny_bind (wpAny_bind (nsSet_last eh (fun e he => hs e he x (.head _)) hr (wpAny_pure ?_)))
    refine wp_fill r _ _ _ rfl (fun e he y hy => ?_) (fun e he => ?_) hn2 ?_
    · rcases List.mem_append.mp he with he | he
      · exact hs e he y (.tail _ hy)
      · obtain rfl := List.mem_singleton.mp he
        show (x.1 == y.1) = false
        exact beq_eq_false_iff_ne.mpr fun q => hn1 (by rw [q]; exact List.mem_map_of_mem hy)
    · rcases List.mem_append.mp he with he | he
      · exact hr e he
      · obtain rfl := List.mem_singleton.mp he
        rfl
    · have t1 : s.toks + 1 + r.length = s.toks + (r.length + 1) := by omega
      have t2 : n + 1 + r.length = n + (r.length + 1) := by omega
      have t3 : es ++ [⟨PyData.keyHash M.w.params x.1, .str x.1 s.toks, x.2⟩] ++ kwEs M.w.params (s.toks + 1) r = es ++ kwEs M.w.params s.toks (x :: r) := by rw [List.append_assoc]; rfl
      dsimp only
      rw [t1, t2, t3]
      exact hq
theorem wp_fillK {s : Shared} {R front : List (Str × Value)} {nm : Str} {Q : List (Str × Value) → Shared → Prop} (hn : (R.map (·.1)).Nodup)
    (hq : Q (front ++ [(nm, Value.ref s.heap.objs.size)]) { s with heap := s.heap.push (dictOf (kwEs M.w.params s.toks R) R.length), toks := s.toks + R.length }) : wpAny M A (fillK R front nm) Q E s := by
  unfold fillK
  refine wpAny_bind (wpAny_alloc (wpAny_bind ?_))
  refine wp_fill (h := s.heap) R _ [] 0 rfl (fun _ he => nomatch he) (fun _ he => nomatch he) hn (wpAny_pure ?_)
  rw [List.nil_append, Nat.zero_add]
  exact hq
end
/-! ### texts as keys of a new dict -/
def keysOf (R : List (Str × V)) : List (Key × V) := R.map fun x => (Sum.inr x.1, x.2)
theorem kwEs_pairsM {P : Program} {w : World} : ∀ (R : List (Str × Value)) (t : Tok), Pairs (mixKind P w) (kwEs w.params t R) (R.map fun x => ((Sum.inr x.1 : Key), x.2))
  | [], _ => Pairs.nil
  | x :: r, t => Pairs.cons (mixKind_str P w x.1 t) rfl (kwEs_pairsM r (t + 1))
theorem kw_dictOf {P : Program} {w : World} {h : Heap} {R : List (Str × Value)} (t : Tok) (n : Nat) (hn : (R.map (·.1)).Nodup) : (h.push (dictOf (kwEs w.params t R) n)).DictOf (mixKind P w) h.objs.size (R.map fun x => ((Sum.inr x.1 : Key), x.2)) := by
  refine Heap.dictOf_iff.mpr ⟨_, Heap.get?_push_size _ rfl, ⟨(kwEs w.params t R).toArray, n, ⟨rfl, rfl, rfl⟩, rfl, fun e he => ?_, kwEs_pairsM R t, ?_⟩⟩
  · obtain ⟨k, u, hk, hh⟩ := PySem.W.kwEs_key R t e (List.mem_toArray.mp he)
    exact ⟨Sum.inr k, by rw [hk]; exact mixKind_str P w k u, hh.trans rfl⟩
  · rw [List.map_map]
    have e : (List.map ((fun x : Key × Value => x.1) ∘ fun x : Str × Value => ((Sum.inr x.1 : Key), x.2)) R) = (R.map (·.1)).map Sum.inr := by rw [List.map_map]; rfl
    rw [e]
    exact List.pairwise_map.mpr (hn.imp fun h e => h (Sum.inr.inj e))
end FW
/-! defs with `**` and keyword-only parameters, called with keywords -/
namespace FW
open PySem PySem.Spec PyProof.Rows L2 StX
/-- a promise by positional values and by the values of keywords named ks -/
def FnKw (P : Program) (w : World) (K : PySem.W.Frag) (mg : Str → Option Value) (base : Heap) (CX : CXT) (k : Nat) (f : Addr) (ks : List Str) (sp : List V → List V → Hp → VK → XK → Prop) : Prop :=
  ∀ (A : Around) (outer : List Env) (s : Shared) (H : Hp) (us ws : List Value) (vs zs : List V) (Q : VK) (E : XK), Room k A → Env0 P w K mg base A outer s H → Vals vs us → Vals zs ws → zs.length = ks.length → sp vs zs H Q E →
    codeAny (model P w) A (.call (.ref f) ⟨us, ks.zip ws⟩) (CR CX outer P w H s Q E) s
/-- pairs by name -/
def KS (l : List (Str × V)) (m : List (Str × Value)) : Prop := Paired (fun (p : Str × V) (q : Str × Value) => p.1 = q.1 ∧ RelV p.2 q.2) l m
theorem KS.zip : ∀ {ks : List Str} {zs : List V} {ws : List Value}, Vals zs ws → KS (ks.zip zs) (ks.zip ws)
  | [], _, _, _ => by rw [List.zip_nil_left, List.zip_nil_left]; exact .nil
  | k :: ks, [], _, .nil => .nil
  | k :: ks, z :: zs, _, .cons r rs => .cons ⟨rfl, r⟩ (KS.zip rs)
theorem KS.append {l l' : List (Str × V)} {m m' : List (Str × Value)} (a : KS l m) (b : KS l' m') : KS (l ++ l') (m ++ m') := by
  unfold KS at *
  induction a with
  | nil => exact b
  | cons h t ih => exact .cons h ih
theorem KS.filter {l : List (Str × V)} {m : List (Str × Value)} (p : Str → Bool) (a : KS l m) : KS (l.filter fun x => p x.1) (m.filter fun x => p x.1) := by
  unfold KS at *
  induction a with
  | nil => exact .nil
  | @cons x y xs ys h t ih =>
    obtain ⟨h1, h2⟩ := h
    rw [List.filter_cons, List.filter_cons, ← h1]
    by_cases q : p x.1 = true
    · rw [if_pos q, if_pos q]; exact .cons ⟨h1, h2⟩ ih
    · rw [if_neg q, if_neg q]; exact ih
theorem KS.names {l : List (Str × V)} {m : List (Str × Value)} (a : KS l m) : m.map (·.1) = l.map (·.1) := by
  unfold KS at a
  induction a with
  | nil => rfl
  | cons h t ih => rw [List.map_cons, List.map_cons, ih, h.1]
theorem KS.look {l : List (Str × V)} {m : List (Str × Value)} {k : Str} {v : V} (a : KS l m) : l.lookup k = some v → ∃ u, m.lookup k = some u ∧ RelV v u := by
  unfold KS at a
  induction a with
  | nil => exact fun h => nomatch h
  | @cons x y xs ys h t ih =>
    obtain ⟨x1, x2⟩ := x
    obtain ⟨y1, y2⟩ := y
    obtain ⟨h1, h2⟩ := h
    dsimp only at h1 h2
    subst h1
    intro e
    rw [List.lookup_cons] at e ⊢
    cases q : (k == x1) with
    | true => rw [q] at e; cases e; exact ⟨y2, rfl, h2⟩
    | false => rw [q] at e; exact ih e
theorem KS.look0 {l : List (Str × V)} {m : List (Str × Value)} {k : Str} (a : KS l m) : l.lookup k = none → m.lookup k = none := by
  unfold KS at a
  induction a with
  | nil => exact fun h => rfl
  | @cons x y xs ys h t ih =>
    obtain ⟨x1, x2⟩ := x
    obtain ⟨y1, y2⟩ := y
    obtain ⟨h1, h2⟩ := h
    dsimp only at h1 h2
    subst h1
    intro e
    rw [List.lookup_cons] at e ⊢
    cases q : (k == x1) with
    | true => rw [q] at e; cases e
    | false => rw [q] at e; exact ih e
theorem KS.len {l : List (Str × V)} {m : List (Str × Value)} (a : KS l m) : m.length = l.length := by
  unfold KS at a
  induction a with
  | nil => rfl
  | cons h t ih => rw [List.length_cons, List.length_cons, ih]
theorem KS.kv {l : List (Str × V)} {m : List (Str × Value)} (a : KS l m) : KV (keysOf l) (m.map fun x => ((Sum.inr x.1 : Key), x.2)) := by
  unfold KS at a
  unfold KV keysOf
  induction a with
  | nil => exact .nil
  | cons h t ih => exact .cons ⟨congrArg Sum.inr h.1, h.2⟩ ih
/-- how the values of a call go to (self, faces, *, each = dv, **rest) -/
structure KwW (dv : V) (vs : List V) (kz : List (Str × V)) (a f e : V) (R : List (Str × V)) : Prop where
  few : vs.length ≤ 2
  nd : (([("self" : Str), ("faces" : Str)].zip vs ++ kz.filter fun x => nmW.contains x.1).map (·.1)).Nodup
  self : ([("self" : Str), ("faces" : Str)].zip vs ++ kz.filter fun x => nmW.contains x.1).lookup ("self" : Str) = some a
  faces : ([("self" : Str), ("faces" : Str)].zip vs ++ kz.filter fun x => nmW.contains x.1).lookup ("faces" : Str) = some f
  each : (([("self" : Str), ("faces" : Str)].zip vs ++ kz.filter fun x => nmW.contains x.1).lookup ("each" : Str)).getD dv = e
  rest : (kz.filter fun x => !nmW.contains x.1) = R
  nr : (R.map (·.1)).Nodup
  zr : R.length ≤ sizeLine
section
variable {CX : CXT} {P : Program} {w : World} {K : PySem.W.Frag} {mg : Str → Option Value} {base : Heap} {k : Nat} {f : Addr} {x qual : Str} {params : Arguments} {body : List Stmt} {scope : Scope} {fd : FuncData} {N : List Str} {dv : V} {sp : Sp} {kn : Arg}
theorem fn_kw (F : FunD K x qual params body scope [] [(("each" : Str), dv)] f fd) (h1 : params.posonlyargs = []) (h2 : params.args.map (·.arg) = [("self" : Str), ("faces" : Str)]) (h3 : params.kwonlyargs.map (·.arg) = [("each" : Str)]) (h4 : params.vararg = none) (h5 : params.kwarg = some kn)
    (S : FnScope N [("self" : Str), ("faces" : Str), ("each" : Str), kn.arg] scope) (hCX : CXUp CX) (ks : List Str)
    (hbody : ∀ (cdv : Value) (A : Around) (outer : List Env) (s : Shared) (H : Hp) (vs : List V) (Q : VK) (E : XK), Room k (A.deeper (envOfC qual scope s.heap.objs.size f cdv)) → sp vs H Q E →
      ∃ t, PSs (cxOf CX P w K mg base N qual scope f cdv A outer s H E) body t ∧ t { nx := fun _ H' => Q .non H', rt := Q } (start N vs) H) :
    FnKw P w K mg base CX (k + 1) f ks (fun vs zs H Q E => ∃ a fa ea R, KwW dv vs (ks.zip zs) a fa ea R ∧ ∀ d, H d = none → sp [a, fa, ea, .ref d] (upd H d (.dK (keysOf R))) Q E) := by
  intro A outer s H us ws vs zs Q E hr e0 r rz hl ⟨a, fa, ea, R, W, hq⟩
  obtain ⟨oc, od, dV, kV, doc, pm, an, cdv, ct, osl, rfl, lk, hcd, hD, hK⟩ := F.ex
  have hd : dV = .none := by
    rcases hD with ⟨_, e⟩ | ⟨e, _⟩
    · exact e
    · exact absurd rfl e
  subst hd
  obtain ⟨D, rfl, hns⟩ : ∃ D : Addr, kV = .ref D ∧ ∃ u, PySem.W.nsIn K D ("each" : Str) = some (some u) ∧ RelV dv u := by
    rcases hK with e | ⟨D, e, q⟩
    · cases e
    · exact ⟨D, e, q _ (List.mem_cons_self ..)⟩
  obtain ⟨ud, hns, rd⟩ := hns
  have kz : KS (ks.zip zs) (ks.zip ws) := KS.zip rz
  have kS : KS ([("self" : Str), ("faces" : Str)].zip vs ++ (ks.zip zs).filter fun x => nmW.contains x.1) ([("self" : Str), ("faces" : Str)].zip us ++ ownK nmW (ks.zip ws)) := (KS.zip r).append (kz.filter fun k => nmW.contains k)
  have kR : KS R (restK nmW (ks.zip ws)) := by rw [← W.rest]; exact kz.filter fun k => !nmW.contains k
  obtain ⟨ua, ha, ra⟩ := kS.look W.self
  obtain ⟨uf, hf, rf⟩ := kS.look W.faces
  have hnd := W.nd
  rw [← kS.names] at hnd
  have hnr := W.nr
  rw [← kR.names] at hnr
  have hzr := W.zr
  rw [← kR.len] at hzr
  have hus : us.length ≤ 2 := by rw [← r.length]; exact W.few
  have bw := bindW (x := x) (qual := qual) (body := body) (scope := scope) (D := D) (doc := doc) (pm := pm) (an := an) (cdv := cdv) (ct := ct) h1 h2 h3 h4 h5 us _ rfl hnd hzr ua uf hus ha hf
  have hn : H s.heap.objs.size = none := e0.hok.fresh (Nat.le_refl _)
  have KX : K.In s.heap := e0.mod.kin.keeps fun b o e => (e0.bs b o e).1
  have bnd : Bnd CX P w K mg base (PySem.W.fnOf x qual params body scope .none (.ref D) doc pm an cdv ct) ⟨us, ks.zip ws⟩ [("self" : Str), ("faces" : Str), ("each" : Str), kn.arg] A outer s H E (fun xs H2 => ∃ d, H d = none ∧ xs = [a, fa, ea, .ref d] ∧ H2 = upd H d (.dK (keysOf R))) := by
    intro A' Ex Q' h
    have fin : ∀ ue, RelV ea ue → wpAny (model P w) A' (fillK (restK nmW (ks.zip ws)) [("self", ua), ("faces", uf), ("each", ue)] kn.arg) Q' Ex s := by
      intro ue re
      refine wp_fillK hnr ?_
      have new : ObjOk P w (upd H s.heap.objs.size (.dK (keysOf R))) (s.heap.push (PySem.W.dictOf (PySem.W.kwEs w.params s.toks (restK nmW (ks.zip ws))) (restK nmW (ks.zip ws)).length)) s.heap.objs.size (.dK (keysOf R)) :=
        ⟨by unfold keysOf; rw [List.length_map]; exact W.zr, beq_eq_false_iff_ne.mpr (Ne.symm (Nat.ne_of_lt (env0_big e0))), _, kR.kv, kw_dictOf _ _ hnr⟩
      have un := un_laid (fs := frs outer) (s := s) (o := PySem.W.dictOf (PySem.W.kwEs w.params s.toks (restK nmW (ks.zip ws))) (restK nmW (ks.zip ws)).length) (u := .dK (keysOf R)) hn
      have e2 := env0_laid e0 new
      exact h { s with heap := s.heap.push (PySem.W.dictOf (PySem.W.kwEs w.params s.toks (restK nmW (ks.zip ws))) (restK nmW (ks.zip ws)).length), toks := s.toks + (restK nmW (ks.zip ws)).length } _ [a, fa, ea, .ref s.heap.objs.size] [ua, uf, ue, .ref s.heap.objs.size]
        ⟨e2.frames, e2.mod, e2.bs, e2.bsz, e2.funs, e2.frf, e2.hok, e2.bare⟩ un rfl (fun e s' => hCX outer s H _ _ E e s' un (fun b o q => Heap.get?_push_of_some _ q) rfl) (.cons ra (.cons rf (.cons re (.cons rfl .nil)))) rfl ⟨_, hn, rfl, rfl⟩
    cases q : ([("self" : Str), ("faces" : Str)].zip vs ++ (ks.zip zs).filter fun x => nmW.contains x.1).lookup ("each" : Str) with
    | some v =>
      have ee := W.each
      rw [q] at ee
      obtain ⟨ue, he, re⟩ := kS.look q
      rw [bw.1 ue he]
      exact fin ue (ee ▸ re)
    | none =>
      have ee := W.each
      rw [q] at ee
      obtain ⟨kk, hk1, hk2⟩ := bw.2 (kS.look0 q)
      rw [hk1]
      refine wpAny_bind ((PySem.W.looks_nsIn KX hns).here ?_)
      rw [hk2]
      exact fin ud (ee ▸ rd)
  refine run_bnd lk hcd S hr e0 bnd fun s2 H2 xs ⟨d, hd, ex, eH⟩ hr' => ?_
  subst ex eH
  exact hbody cdv A outer s2 _ _ Q E hr' (hq d hd)
end
/-- C(.., k = v, ..), C's `__init__` by values and keywords -/
def tMakeW (C : Addr) (sp : List V → List V → Hp → VK → XK → Prop) (m : Nat) (E : XK) (t tk : TA) : TE := fun σ H Q => t σ H fun vs H1 => tk σ H1 fun zs H2 => zs.length = m ∧ ∀ x dx, H2 x = none → H2 dx = none → dx ≠ x →
  sp (.ref x :: vs) zs (upd (upd H2 dx (.own x)) x (.ins C dx [])) (fun v H3 => v = .non ∧ Q (.ref x) H3) E
section
variable {X : Cx} {CX : CXT} {k : Nat} {f C : Addr} {ks : List Str} {sp : List V → List V → Hp → VK → XK → Prop} {E : XK} {x : Str} {p pos : Pos} {e : Expr} {es : List Expr} {kws : List Keyword} {t tk : TA}
theorem run_makeW {pins : List (Addr × Obj)} {σ : L2.St} {H : Hp} {s : Shared} {Q : VK} {us ws : List Value} {vs zs : List V} (M : Mk X.K C f) (F : FnKw X.prog X.w X.K X.mg X.base CX k f ks sp) (hr : Room (k + 1) X.A) (hx : Passes CX X E)
    (I : Inv X pins σ H s) (r : Vals vs us) (rz : Vals zs ws) (l2 : zs.length = ks.length)
    (h : ∀ x dx, H x = none → H dx = none → dx ≠ x → sp (.ref x :: vs) zs (upd (upd H dx (.own x)) x (.ins C dx [])) (fun v H2 => v = .non ∧ Q (.ref x) H2) E) :
    wpAny (model X.prog X.w) X.A (call (.ref C) us (ks.zip ws)) (EP X pins σ Q) X.xe s := by
  have hq := h (s.heap.objs.size + 1) s.heap.objs.size (I.hok.fresh (Nat.le_succ _)) (I.hok.fresh (Nat.le_refl _)) (Nat.ne_of_lt (Nat.lt_succ_self _))
  have I2 := Inv.made (C := C) I
  have r1 : Vals (V.ref (s.heap.objs.size + 1) :: vs) (Value.ref (s.heap.objs.size + 1) :: us) := .cons rfl r
  refine wpAny_call (make_map (f := f) I.kIn M.makes M.init (beq_iff_eq.mp M.fn) (codeAny_mono (F _ X.stack _ _ (Value.ref (s.heap.objs.size + 1) :: us) ws _ _ _ E (hr.make C us (ks.zip ws)) (I2.env0.make C us (ks.zip ws)) r1 rz l2 hq) fun r s' hq' => ?_))
  cases r with
  | error e => exact hx pins σ _ _ e s' I2 hq'
  | ok fl =>
    cases fl with
    | ret u =>
      obtain ⟨v, H', I3, rv, ev, q3⟩ := I2.after hq'
      subst ev
      exact ⟨rv, ⟨V.ref (s.heap.objs.size + 1), H', I3, rfl, q3⟩⟩
    | next => exact False.elim hq'
    | brk => exact False.elim hq'
    | cont => exact False.elim hq'
/-- C(k = v, ..) -/
theorem pe_makeW0 (M : Mk X.K C f) (F : FnKw X.prog X.w X.K X.mg X.base CX k f ks sp) (hr : Room (k + 1) X.A) (hg : Gl X x) (hm : X.mg x = some (.ref C)) (hx : Passes CX X E) (hkw : PK X kws tk)
    (hall : (backToKw pos (keywordEach kws X.env)).all (·.1.isSome) = true := by rfl) (hks : (backToKw pos (keywordEach kws X.env)).filterMap (·.1) = ks := by rfl) (hdb : (x == ("__debug__" : Str)) = false := by decide)
    (hpl : ((backTo pos (starEach [] X.env)).any (·.1) || (backToKw pos (keywordEach kws X.env)).any (·.1.isNone)) = false := by rfl) :
    PE X (.Call (.Name x p) [] kws pos) (tMakeW C sp ks.length E tNil tk) := by
  refine ⟨fun pins s σ H Q I h => ?_⟩
  refine wpAny_Call_Name_kw (ld_glob I hg hm ?_ hdb)
  refine PySem.W.callWith_KW0 (h₀ := X.base) I.ok.mod.kin M.kp hall ?_ hpl
  refine thn (hkw.run pos pins s σ H _ I h) fun ws s2 ⟨zs, H2, I2, rz, l2, q2⟩ => ⟨I2.kIn, ?_⟩
  rw [hks]
  exact run_makeW (us := []) (vs := []) M F hr hx I2 .nil rz l2 q2
/-- C(e, .., k = v, ..) -/
theorem pe_makeW (M : Mk X.K C f) (F : FnKw X.prog X.w X.K X.mg X.base CX k f ks sp) (hr : Room (k + 1) X.A) (hg : Gl X x) (hm : X.mg x = some (.ref C)) (hx : Passes CX X E) (ha : PA X (e :: es) t) (hkw : PK X kws tk)
    (hall : (backToKw pos (keywordEach kws X.env)).all (·.1.isSome) = true := by rfl) (hks : (backToKw pos (keywordEach kws X.env)).filterMap (·.1) = ks := by rfl) (hdb : (x == ("__debug__" : Str)) = false := by decide)
    (he : starEach (e :: es) X.env = (false, eval e X.env) :: starEach es X.env := by rfl) (hpl : ((backTo pos (starEach (e :: es) X.env)).any (·.1) || (backToKw pos (keywordEach kws X.env)).any (·.1.isNone)) = false := by rfl) :
    PE X (.Call (.Name x p) (e :: es) kws pos) (tMakeW C sp ks.length E t tk) := by
  refine ⟨fun pins s σ H Q I h => ?_⟩
  refine wpAny_Call_Name_kw (ld_glob I hg hm ?_ hdb)
  refine PySem.W.callWith_KW (h₀ := X.base) I.ok.mod.kin M.kp hall (thn (ha.run pos pins s σ H _ I h) fun us s1 ⟨vs, H1, I1, r, q⟩ => ?_) hpl he
  refine thn (hkw.run pos pins s1 σ H1 _ I1 q) fun ws s2 ⟨zs, H2, I2, rz, l2, q2⟩ => ⟨I2.kIn, ?_⟩
  rw [hks]
  exact run_makeW M F hr hx I2 r rz l2 q2
/-- C(e, ..): no keywords -/
theorem FnKw.plain (F : FnKw X.prog X.w X.K X.mg X.base CX k f [] sp) : FnR X.prog X.w X.K X.mg X.base CX k f (fun vs H Q E => sp vs [] H Q E) :=
  fun A outer s H us vs Q E hr e0 r hs => F A outer s H us [] vs [] Q E hr e0 r .nil rfl hs
end
end FW
/-! C.m(e, .., k = v, ..), m a static method -/
namespace FW
open PySem PySem.Spec PyProof.Rows L2
section
variable {X : Cx} {CX : CXT} {k n : Nat} {f C : Addr} {fd : FuncData} {ps ks : List Str} {sp : Sp} {E : XK} {x m : Str} {p1 pos apos : Pos} {e : Expr} {es : List Expr} {kws : List Keyword} {t tk : TA} {g : List Value → List Value → List Value} {gV : List V → List V → List V}
theorem pe_staticK {pl : Sem Bool} (hg : Gl X x) (hm : X.mg x = some (.ref C)) (S : Sta X.K C m f) (F : FnOk X.prog X.w X.K X.mg X.base CX k f fd ps sp) (hr : Room k X.A) (hb : KBn X.K fd ps n ks g gV) (hx : Passes CX X E) (ha : PA X (e :: es) t) (hkw : PK X kws tk)
    (hall : (backToKw pos (keywordEach kws X.env)).all (·.1.isSome) = true := by rfl) (hks : (backToKw pos (keywordEach kws X.env)).filterMap (·.1) = ks := by rfl)
    (hdb : (x == ("__debug__" : Str)) = false := by decide)
    (hc : eval (.Call (.Attribute (.Name x p1) m apos) (e :: es) kws pos) X.env = (do
      let oc ← eval (.Name x p1) X.env
      standAt apos.atName
      let (fc, fst) ← holding [oc] (getMethod oc m pl)
      callWith pos fc fst (backTo pos (starEach (e :: es) X.env)) (backToKw pos (keywordEach kws X.env))) := by rfl)
    (he : starEach (e :: es) X.env = (false, eval e X.env) :: starEach es X.env := by rfl) (hpl : ((backTo pos (starEach (e :: es) X.env)).any (·.1) || (backToKw pos (keywordEach kws X.env)).any (·.1.isNone)) = false := by rfl) :
    PE X (.Call (.Attribute (.Name x p1) m apos) (e :: es) kws pos) (tCallN n ks.length sp gV E t tk) := by
  refine ⟨fun pins s σ H Q I h => PySem.W.methodCall_KW (pl := pl) (ld_glob I hg hm ?_ hdb) hc⟩
  refine static_get I.kIn S fun u => ?_
  have I1 : Inv X pins σ H { s with toks := u } := I.tok _
  refine PySem.W.callWith_KW (h₀ := X.base) I.ok.mod.kin S.kp hall (thn (ha.run pos pins _ σ H _ I1 h) fun us s1 ⟨vs, H1, I2, r, q⟩ => ?_) hpl he
  refine thn (hkw.run pos pins s1 σ H1 _ I2 q) fun ws s2 ⟨zs, H2, I3, rz, l1, l2, q2⟩ => ⟨I3.kIn, ?_⟩
  rw [hks]
  exact run_fnN F hr hb hx I3 r rz l1 l2 q2
end
end FW
namespace FW
open PySem PySem.Spec PyProof.Rows
def isRefV : Value → Bool
  | .ref _ => true
  | _ => false
/-- own classes, behind them the classes t -/
def ownB (t l : List Value) : Bool := l.dropWhile isRefV == t
theorem own_of {t : List Value} : ∀ {l : List Value}, ownB t l = true → ∃ cs : List Addr, l = cs.map Value.ref ++ t
  | [], e => ⟨[], beq_iff_eq.mp e⟩
  | v :: r, e => by
    cases v with
    | ref c =>
      obtain ⟨cs, h⟩ := own_of (l := r) e
      exact ⟨c :: cs, congrArg (Value.ref c :: ·) h⟩
    | _ => exact ⟨[], beq_iff_eq.mp e⟩
theorem own_pass {t : List Value} (self : Value) (h : refuseLoop self "__setattr__" t = pure ()) : ∀ cs : List Addr, refuseLoop self "__setattr__" (cs.map Value.ref ++ t) = pure ()
  | [] => h
  | _ :: r => (refuseLoop_ref ..).trans (own_pass self h r)
theorem own_has {t : List Value} (z : String) : ∀ cs : List Addr, (cs.map Value.ref ++ t).contains (.type z) = t.contains (.type z)
  | [] => rfl
  | c :: r => by
    rw [List.map_cons, List.cons_append, List.contains_cons, own_has z r]
    rfl
section
open PySem.W PySem.Calls PySem.HandSPX Builtin Builtin.ObjectAttr
variable {prog : Program} {w : World} {A : Around} {R : Result → Shared → Prop} {hp : Heap} {gs : Array GenState} {dr : Drawn} {tk0 : Nat} {os : OsState} {K : W.Frag} {name : Str} {tk : Tok} {v : Value} {x C : Addr} {fv : Array Value} {cd : ClassData} {B : String} {t : List Value} {cs : List Addr}
/-- x.name = v, where x bears no dict as yet -/
theorem osaB_new (SB : StoreFacts B t "object.__setattr__" "object") (KI : K.In hp) (hx : hp.get? x = some { cls := .ref C, data := .fields fv }) (hcd : W.clsIn K C = some cd) (hm : cd.mro = (C :: cs).map Value.ref ++ t) (hh : cd.hasDict = true) (nn : W.findIn K (.ref C) name = some none)
    (q : ∀ h2 tk2 dx, hp.objs.size ≤ dx → dx ≠ x → (∀ c o, c ≠ x → hp.get? c = some o → h2.get? c = some o) → h2.get? x = some { cls := .ref C, dict := some dx, data := .fields fv } → h2.Ns1 dx (fun y => if y = name then some v else none) → R (.ok (.ret .none)) ⟨h2, gs, dr, tk2, os⟩) :
    codeAny (model prog w) A (.call (.builtin "object.__setattr__") ⟨[.ref x, .str name tk, v], []⟩) R ⟨hp, gs, dr, tk0, os⟩ := by
  have J : W.InstAt hp x { cls := .ref C, data := .fields fv } C none := ⟨hx, rfl, rfl, trivial⟩
  have hob : cd.mro.contains (.type "object") = true := by rw [hm]; exact (own_has "object" _).trans SB.hasOwner
  have hxz : x ≠ hp.objs.size := Nat.ne_of_lt (Heap.lt_size hx)
  have isO : W.Looks (model prog w) hp (isInstance (.ref x) (.type "object")) true := J.type.andThen (W.looks_mroIn KI (by unfold W.mroIn; rw [hcd, Option.bind_some, if_neg (by rw [hm]; exact Bool.false_ne_true), hob]))
  have look : W.Looks (model prog w) hp (classData C) cd := W.looks_clsIn KI hcd
  have mroL : W.Looks (model prog w) hp (mroOf (.ref C)) cd.mro := look.andThen .now
  refine codeAny_call_builtin F.store_object.slot.plain F.store_object.entry (@W.check_slot (model prog w) _ _ ⟨hp, gs, dr, tk0, os⟩ "object.__setattr__" "object" "__setattr__" (.ref x) [.str name tk, v] [] _ F.store_object.kind F.store_object.split isO (F.store_object.args (.ref x) (.str name tk) v) ?_)
  rw [W.osa_eq, refuse_eq]
  refine wpAny_bind (wpAny_bind (J.type.at (wpAny_bind (mroL.at ?_))))
  rw [hm, own_pass _ (SB.passes _)]
  refine wpAny_pure (wpAny_bind (J.type.at (wpAny_bind ((W.looks_findIn KI nn).at (wpAny_bind ((show W.Looks (model prog w) hp (storeTaker? none) none from .now).at ?_))))))
  show wpAny _ _ (storeInOwnDict (.ref x) (.ref C) (.str name tk) name v false) _ _ _
  cases cd
  dsimp only at hh
  cases hh
  unfold storeInOwnDict ownDictForStores
  repeat (first | with_reducible refine store_in_new ?dict ?rest | with_reducible refine wpAny_loadPart_at hx ?_ | with_reducible refine look.at ?_ | wp_step)
  case dict => exact ⟨_, #[], _, (Heap.get?_update_ne _ _ _ _ hxz.symm).trans (Heap.get?_push_at rfl rfl), rfl, fun _ z => absurd z (by simp), fun _ => rfl⟩
  case rest =>
    intro h2 tk2 hn hs
    have pu : ∀ {c : Addr} {o : Obj}, hp.get? c = some o → (hp.push { cls := .type "dict", data := .dict #[] }).get? c = some o := fun z => Heap.get?_push_of_some _ z
    exact q h2 tk2 hp.objs.size (Nat.le_refl _) hxz.symm (fun c o nc hc => (hs.2 c (Nat.ne_of_lt (Heap.lt_size hc))).trans ((Heap.get?_update_ne _ _ _ _ nc).trans (pu hc))) ((hs.2 x hxz).trans (Heap.get?_update_self _ (pu hx) rfl)) hn
/-- the same where x bears the dict dx -/
theorem osaB_old {dx : Addr} {m0 : Str → Option Value} {nl : List Str} (SB : StoreFacts B t "object.__setattr__" "object") (KI : K.In hp) (hx : hp.get? x = some { cls := .ref C, dict := some dx, data := .fields fv }) (hns : hp.Ns1 dx m0) (hw : Within m0 nl) (hz : nl.length ≤ 1000) (hcd : W.clsIn K C = some cd) (hm : cd.mro = (C :: cs).map Value.ref ++ t) (hh : cd.hasDict = true) (nn : W.findIn K (.ref C) name = some none)
    (q : ∀ h2 tk2, (∀ c o, c ≠ dx → hp.get? c = some o → h2.get? c = some o) → h2.Ns1 dx (fun y => if y = name then some v else m0 y) → R (.ok (.ret .none)) ⟨h2, gs, dr, tk2, os⟩) :
    codeAny (model prog w) A (.call (.builtin "object.__setattr__") ⟨[.ref x, .str name tk, v], []⟩) R ⟨hp, gs, dr, tk0, os⟩ := by
  obtain ⟨oD, _, _, hoD, _, _⟩ := hns.count hw
  have J : W.InstAt hp x { cls := .ref C, dict := some dx, data := .fields fv } C (some oD) := ⟨hx, rfl, rfl, hoD⟩
  have hob : cd.mro.contains (.type "object") = true := by rw [hm]; exact (own_has "object" _).trans SB.hasOwner
  have isO : W.Looks (model prog w) hp (isInstance (.ref x) (.type "object")) true := J.type.andThen (W.looks_mroIn KI (by unfold W.mroIn; rw [hcd, Option.bind_some, if_neg (by rw [hm]; exact Bool.false_ne_true), hob]))
  have look : W.Looks (model prog w) hp (classData C) cd := W.looks_clsIn KI hcd
  have mroL : W.Looks (model prog w) hp (mroOf (.ref C)) cd.mro := look.andThen .now
  refine codeAny_call_builtin F.store_object.slot.plain F.store_object.entry (@W.check_slot (model prog w) _ _ ⟨hp, gs, dr, tk0, os⟩ "object.__setattr__" "object" "__setattr__" (.ref x) [.str name tk, v] [] _ F.store_object.kind F.store_object.split isO (F.store_object.args (.ref x) (.str name tk) v) ?_)
  rw [W.osa_eq, refuse_eq]
  refine wpAny_bind (wpAny_bind (J.type.at (wpAny_bind (mroL.at ?_))))
  rw [hm, own_pass _ (SB.passes _)]
  refine wpAny_pure (wpAny_bind (J.type.at (wpAny_bind ((W.looks_findIn KI nn).at (wpAny_bind ((show W.Looks (model prog w) hp (storeTaker? none) none from .now).at ?_))))))
  show wpAny _ _ (storeInOwnDict (.ref x) (.ref C) (.str name tk) name v false) _ _ _
  cases cd
  dsimp only at hh
  cases hh
  unfold storeInOwnDict ownDictForStores
  repeat (first | with_reducible refine PySem.OEX.store_in_old hns hw hz ?rest | with_reducible refine wpAny_loadPart_at hx ?_ | with_reducible refine look.at ?_ | wp_step)
  case rest => exact fun h2 tk2 hn hs => q h2 tk2 (fun c o nc hc => (hs.2 c nc).trans hc) hn
end
/-- what is told of an error class of the program, whatever built-in error it stands on -/
structure OexA (K : PySem.W.Frag) (C : Addr) : Prop where
  cls : ∃ (B ni ii : String) (t : List Value), PySem.ExcBaseFacts B ni ii t ∧ PySem.StoreFacts B t "object.__setattr__" "object" ∧ ∃ nm q N bs bm sn sub ab col dd k0 k1 k2 k3 k5, K.lookup C = some (PySem.excClassObj nm q C N bs bm true sn sub ab col dd k0 k1 k2 k3 k5 ni) ∧ ownB t bm = true
  sa : PySem.W.findIn K (.ref C) "__setattr__" = some (some (.builtin "object.__setattr__"))
  exC : PySem.W.subIn K (.ref C) (.type "BaseException") = some true
  tyC : PySem.W.typeIn K (.ref C) = some (.type "type")
  kC : PySem.W.keepIn K (.ref C) = true
open L2
theorem OexA.at_ {K : PySem.W.Frag} {C : Addr} (T : OexA K C) : ∃ (B : String) (t : List Value) (cs : List Addr) (cd : ClassData), PySem.StoreFacts B t "object.__setattr__" "object" ∧ PySem.W.clsIn K C = some cd ∧ cd.mro = (C :: cs).map Value.ref ++ t ∧ cd.hasDict = true := by
  obtain ⟨B, ni, ii, t, _, SB, nm, q, N, bs, bm, sn, sub, ab, col, dd, k0, k1, k2, k3, k5, hC, hb⟩ := T.cls
  obtain ⟨cs, rfl⟩ := own_of hb
  exact ⟨B, t, cs, _, SB, by unfold PySem.W.clsIn; rw [hC] <;> rfl, rfl, rfl⟩
section
variable {X : Cx} {pins : List (Addr × Obj)} {σ : L2.St} {H : Hp} {s : Shared} {a C dx : Addr} {f : Str} {y : V} {u : Value} {fs : List (Str × V)} {Q : Unit → Shared → Prop} {E : Value → Shared → Prop} {A : Around}
theorem setA_new (T : OexA X.K C) (I : Inv X pins σ H s) (ea : H a = some (exo a C none)) (nn : PySem.W.findIn X.K (.ref C) f = some none) (ry : RelV y u)
    (q : ∀ dx s2, H dx = none → dx ≠ a → Inv X pins σ (upd (upd H dx (exd dx [(f, y)])) a (exo a C (some dx))) s2 → Q () s2) : wpAny (model X.prog X.w) A (setAttr (.ref a) f u) Q E s := by
  obtain ⟨B, t, cs, cd, SB, hcd, hm, hh⟩ := T.at_
  obtain ⟨t1, ho⟩ := exo_at I.hok ea
  obtain ⟨hp, gs, dr, tk, os⟩ := s
  refine PySem.W.set_plain I.kIn (ox := { cls := .ref C, dict := none, data := .fields #[.ref t1, .none, .none, .none, .bool false, .none] }) (od := none) ⟨ho, rfl, rfl, trivial⟩ T.sa ?_
  refine osaB_new SB I.kIn ho hcd hm hh nn fun h2 tk2 dx fresh dne keep hx hn => ?_
  have nd : H dx = none := I.hok.fresh fresh
  have far : ∀ {c : Addr}, c ≠ a → c ≠ dx → upd (upd H dx (exd dx [(f, y)])) a (exo a C (some dx)) c = H c := fun n1 n2 => (upd_ne n1).trans (upd_ne n2)
  have nda : ∀ {c : Addr}, H c = none → c ≠ a := fun n => Ne.symm (ne_of_none ea n)
  have ndx : ∀ {c : Addr} {o : Obj}, hp.get? c = some o → c ≠ dx := fun z => Nat.ne_of_lt (Nat.lt_of_lt_of_le (Heap.lt_size z) fresh)
  refine q dx _ nd dne (I.un (t' := tk2) ⟨fun c o z n _ _ => keep c o (nda n) z, fun c o z n _ _ => ⟨o.slots, keep c o (nda n) z⟩, fun c o z n _ => (far (nda n) (ndx z)).trans n, fun c o z _ => ?_, fun c xs z => (far (at_ne ea z exo_tup) (ne_of_none z nd)).trans z, fun c o v z => (far (at_ne ea z exo_frz) (ne_of_none z nd)).trans z, fun c ps z => ⟨#[], by rw [far (at_ne ea z exo_tbl) (ne_of_none z nd), z, Array.append_empty]⟩⟩ fun c o z => ?_)
  · rcases Classical.em (c = a) with rfl | n
    · exact ⟨_, hx⟩
    · exact ⟨o, keep c o n z⟩
  rcases Classical.em (c = a) with rfl | n1
  · rw [upd_same] at z
    cases z
    exact exo_ok hx
  rcases Classical.em (c = dx) with rfl | n2
  · rw [upd_ne n1, upd_same] at z
    cases z
    exact exd_ok hn (relO_put (fs := []) ry fun _ => trivial)
  rw [far n1 n2] at z
  refine (I.hok c o z).stay (fun c2 v hc hv => keep c2 v ?_ hv) (fun c2 hc => (far (at_ne ea hc exo_own) (ne_of_none hc nd)).trans hc) (fun c2 xs hc => (far (at_ne ea hc exo_tup) (ne_of_none hc nd)).trans hc)
  rcases hc with rfl | hc
  · exact n1
  · exact at_ne ea hc exo_own
theorem setA_old (T : OexA X.K C) (I : Inv X pins σ H s) (ea : H a = some (exo a C (some dx))) (ed : H dx = some (exd dx fs)) (hl : fs.length ≤ 900) (nn : PySem.W.findIn X.K (.ref C) f = some none) (ry : RelV y u)
    (q : ∀ s2, Inv X pins σ (upd H dx (exd dx ((f, y) :: fs))) s2 → Q () s2) : wpAny (model X.prog X.w) A (setAttr (.ref a) f u) Q E s := by
  obtain ⟨B, t, cs, cd, SB, hcd, hm, hh⟩ := T.at_
  obtain ⟨t1, ho⟩ := exo_at I.hok ea
  obtain ⟨mA, hns, rel⟩ := exd_at I.hok ed
  obtain ⟨hp, gs, dr, tk, os⟩ := s
  obtain ⟨oD, _, _, hoD, _, _⟩ := hns.count (within_of rel)
  refine PySem.W.set_plain I.kIn (ox := { cls := .ref C, dict := some dx, data := .fields #[.ref t1, .none, .none, .none, .bool false, .none] }) (od := some oD) ⟨ho, rfl, rfl, hoD⟩ T.sa ?_
  refine osaB_old SB I.kIn ho hns (within_of rel) (by rw [List.length_map]; omega) hcd hm hh nn fun h2 tk2 keep hn => ?_
  have there : ∃ o, h2.get? dx = some o := by
    obtain ⟨o, _, _, z, _⟩ := hn
    exact ⟨o, z⟩
  exact q _ (I.write (t' := tk2) (x := dx) (e := dx) (o := exd dx ((f, y) :: fs)) (by rw [ed]; trivial) (.inl rfl) keep there (exd_ok hn (relO_put ry rel)))
end
/-- self.f = e, in an error class of whatever base -/
def tOstA (K : PySem.W.Frag) (f : Str) (to te : TE) : TS := fun D σ H => te σ H fun y H1 => to σ H1 fun x H2 => ∃ a C : Addr, x = .ref a ∧ OexA K C ∧ PySem.W.findIn K (.ref C) f = some none ∧
  ((H2 a = some (exo a C none) ∧ ∀ dx, H2 dx = none → dx ≠ a → D.nx σ (upd (upd H2 dx (exd dx [(f, y)])) a (exo a C (some dx)))) ∨
    ∃ (dx : Addr) (fs : List (Str × V)), H2 a = some (exo a C (some dx)) ∧ H2 dx = some (exd dx fs) ∧ fs.length ≤ 900 ∧ D.nx σ (upd H2 dx (exd dx ((f, y) :: fs))))
section
variable {X : Cx} {o e : Expr} {es : List Expr} {to te : TE} {ta : TA} {f : Str} {p p2 pos : Pos}
theorem ps_ostA (ho : PE X o to) (he : PE X e te) (hs : swapsWith e (some (.Attribute o f p2)) pos.line X.env = pure false := by rfl) : PS X (.Assign [.Attribute o f p2] e pos) (tOstA X.K f to te) := by
  refine ⟨fun pins s σ H D I h => plainObj_wpAny_Assign_Attribute (thn (he.run pins s σ H _ I h) fun v s1 r => ?_) hs⟩
  obtain ⟨y, H1, I1, ry, h1⟩ := r
  refine thn (ho.run pins s1 σ H1 _ I1 h1) fun v2 s2 r => ?_
  obtain ⟨x, H2, I2, rx, a, C, rfl, T, nn, h2⟩ := r
  obtain rfl : v2 = Value.ref a := rx
  rcases h2 with ⟨ea, h3⟩ | ⟨dx, fs, ea, ed, hl, h3⟩
  · exact setA_new T I2 ea nn ry fun dx s3 n ne J => ⟨σ, _, J, h3 dx n ne⟩
  · exact setA_old T I2 ea ed hl nn ry fun s3 J => ⟨σ, _, J, h3⟩
/-- C(e, ..) of such a class -/
theorem pmk_oexA {CX : CXT} {x : Str} {C fI : Addr} {k : Nat} {fd : FuncData} {ps : List Str} {sp : Sp} {ds : List Value} {dvs : List V} (T : OexA X.K C) (iC : PySem.W.findIn X.K (.ref C) "__init__" = some (some (.ref fI))) (tI : PySem.W.typeIn X.K (.ref fI) = some (.type "function"))
    (FI : FnOk X.prog X.w X.K X.mg X.base CX k fI fd ps sp) (hr : Room (k + 1) X.A) (hb : Binds X.K fd ps ds) (hd : Vals dvs ds) (hx : Passes CX X (fun _ _ _ => False)) (hg : Gl X x) (hm : X.mg x = some (.ref C)) (ha : PA X (e :: es) ta)
    (nb : (x == ("__debug__" : Str)) = false := by decide) (he : starEach (e :: es) X.env = (false, eval e X.env) :: starEach es X.env := by rfl) (hpl : (backTo pos (starEach es X.env)).any (·.1) = false := by rfl) :
    PMk X (.Call (.Name x p) (e :: es) [] pos) (tMkO C sp dvs ta) := by
  intro pins s σ H Q I h
  obtain ⟨B, ni, ii, t, EB, _, nm, q, N, bs, bm, sn, sub, ab, col, dd, k0, k1, k2, k3, k5, hC, hbm⟩ := T.cls
  obtain ⟨cs, rfl⟩ := own_of hbm
  refine wpAny_Call_Name_kw (ld_glob I hg hm (PySem.W.callWith_K (h₀ := X.base) I.ok.mod.kin T.kC (thn (ha.run pos pins s σ H _ I h) fun us s1 r => ?_) he hpl) nb)
  obtain ⟨vs, H1, I1, r1, hz, h1⟩ := r
  refine ⟨I1.kIn, ?_⟩
  obtain ⟨hp, g, dr, tk, os⟩ := s1
  show wpAny _ _ (call (.ref C) us) _ _ _
  have fresh : hp.objs.size ≤ hp.objs.size + 1 := Nat.le_succ _
  have n1 : H1 (hp.objs.size + 1) = none := I1.hok.fresh fresh
  have hq := h1 (hp.objs.size + 1) n1
  have stay : ∀ c o, hp.get? c = some o → ((hp.push (PySem.W.kdv_tup us)).push (PySem.HandSPX.excO C hp.objs.size)).get? c = some o := fun c o z => Heap.get?_push_of_some _ (Heap.get?_push_of_some _ z)
  have made : ((hp.push (PySem.W.kdv_tup us)).push (PySem.HandSPX.excO C hp.objs.size)).get? (hp.objs.size + 1) = some (PySem.HandSPX.excO C hp.objs.size) := by heap_get
  have I2 := I1.laid (t' := tk) (a := hp.objs.size + 1) (o := exo (hp.objs.size + 1) C none) (h' := (hp.push (PySem.W.kdv_tup us)).push (PySem.HandSPX.excO C hp.objs.size)) stay fresh (exo_ok made)
  have r2 : Vals (V.ref (hp.objs.size + 1) :: (vs ++ dvs)) (Value.ref (hp.objs.size + 1) :: (us ++ ds)) := .cons rfl (r1.append hd)
  have many : (Value.ref (hp.objs.size + 1) :: us ++ ds).length = ps.length := r2.length.symm.trans (FI.len _ _ _ _ hq)
  have few : us.length ≤ sizeLine := by
    rw [sizeLine_eq, ← Paired.length r1]
    omega
  refine wpAny_call (PySem.HandSPX.call_own EB (fun z => own_has z cs) (I1.kIn _ _ hC) (PySem.W.looks_findIn I1.kIn iC) (fun self => PySem.W.bind_fn I1.kIn self tI) few (codeAny_mono (FI.run _ X.stack _ _ ⟨Value.ref (hp.objs.size + 1) :: us, []⟩ (Value.ref (hp.objs.size + 1) :: (us ++ ds)) _ _ (fun _ _ _ => False) (hr.make C us []) (I2.env0.make C us []) (hb _ (Value.ref (hp.objs.size + 1) :: us) I2.kIn many) r2 hq) fun r s2 back => ?_))
  match r, back with
  | .error er, back => exact hx pins σ _ _ er s2 I2 back
  | .ok (.ret u), back =>
    obtain ⟨_, H2, os2, bare, un, hok, rv, rfl, d, fs, ea, ed, nd, h2⟩ := back
    obtain ⟨h2', g2, d2, t2, os'⟩ := s2
    exact ⟨rv, mk_end (raises_own T.exC T.tyC) I1 fresh stay un hok os2 bare ea ed nd h2⟩
  | .ok .next, back => exact False.elim back
  | .ok .brk, back => exact False.elim back
  | .ok .cont, back => exact False.elim back
end
/-- what is told of an error class of the program of whatever base: its name, its __init__ at fI -/
structure KlsA (K : PySem.W.Frag) (mg : Str → Option Value) (C fI : Addr) (z : String) : Prop where
  g : mg (Str.ofString z) = some (.ref C)
  oex : OexA K C
  cle : ClsE K C
  nam : NameC K C (Str.ofString z)
  xf : XfC K C
  ncode : PySem.W.findIn K (.ref C) "code" = some none
  init : PySem.W.findIn K (.ref C) "__init__" = some (some (.ref fI))
  tI : PySem.W.typeIn K (.ref fI) = some (.type "function")
def sp_initA (K : PySem.W.Frag) (f : String) : Sp := fun vs H Q _ => ∃ (a C : Addr) (v : V) (z : Str), vs = [.ref a, v] ∧ H a = some (exo a C none) ∧ OexA K C ∧ ClsE K C ∧ NameC K C z ∧ PySem.W.findIn K (.ref C) (Str.ofString f) = some none ∧ PySem.W.findIn K (.ref C) "code" = some none ∧
  ∀ dx, H dx = none → dx ≠ a → Q .non (upd (upd (upd H dx (exd dx [(Str.ofString f, v)])) a (exo a C (some dx))) dx (exd dx [("code", .str z), (Str.ofString f, v)]))
section
variable {K : PySem.W.Frag} {mg : Str → Option Value} {C fI : Addr} {x f : String} {H1 : Hp} {v : V} {Q E : XK}
theorem mk1A (T : KlsA K mg C fI x) (nf : PySem.W.findIn K (.ref C) (Str.ofString f) = some none) (h : ∀ d, H1 d = none → Q (.ref C) (some d) (upd H1 d (Err1 f x v))) :
    [v].length ≤ 1000 ∧ ∀ a, H1 a = none → sp_initA K f (.ref a :: ([v] ++ [])) (upd H1 a (exo a C none)) (fun v H2 => v = .non ∧ ∃ (d : Addr) (fs : List (Str × V)), H2 a = some (exo a C (some d)) ∧ H2 d = some (exd d fs) ∧ H1 d = none ∧ Q (.ref C) (some d) (upd (del H2 a) d (.xd fs))) E := by
  refine ⟨(show 1 ≤ 1000 by decide), fun a na => ⟨a, C, v, Str.ofString x, rfl, upd_same, T.oex, T.cle, T.nam, nf, T.ncode, fun d hd hda => ⟨rfl, d, _, ?_, upd_same, ?_, ?_⟩⟩⟩
  · rw [upd_ne (Ne.symm hda), upd_same]
  · rwa [upd_ne hda] at hd
  · rw [upd_ne hda] at hd
    rw [err_heap na hda]
    exact h d hd
end
/-- such a class that the law's own try takes -/
structure ErrA (K : PySem.W.Frag) (mg : Str → Option Value) (C : Addr) (f z : String) (cs : List Value) : Prop where
  kls : ∃ fI, KlsA K mg C fI z
  nf : PySem.W.findIn K (.ref C) (Str.ofString f) = some none
  hex : PySem.W.exmAny K (.ref C) cs = some true
  fi : ∀ v, FieldIs K C [("code", .str (Str.ofString z)), (Str.ofString f, v)] (Str.ofString z) v
theorem fi_state {K : PySem.W.Frag} {C : Addr} (nf : PySem.W.findIn K (.ref C) "state" = some none) (v : V) : FieldIs K C [("code", .str (Str.ofString "UnknownState")), (Str.ofString "state", v)] (Str.ofString "UnknownState") v := by
  unfold FieldIs
  rw [if_neg (by decide +kernel), if_neg (by decide +kernel), if_neg (by decide +kernel), if_pos (by decide +kernel)]
  exact ⟨nf, rfl⟩
theorem ErrA.tried {K : PySem.W.Frag} {mg : Str → Option Value} {C : Addr} {f z : String} {cs : List Value} {Q : VK} {H1 : Hp} {v : V} {d : Addr} (T : ErrA K mg C f z cs) (nd : H1 d = none) (h : ∀ H2 p, Same H1 H2 → H2 p = none → Q (.ref p) (upd H2 p (.tup [.str (Str.ofString z), v]))) :
    PySem.W.exmAny K (.ref C) cs = some true ∧ ∀ a, (upd H1 d (Err1 f z v)) a = none → ∃ (z' : Str) (v' : V), Caught K (upd (upd H1 d (Err1 f z v)) a (ExK (.ref C) (some d) a)) a z' v' ∧ ∀ H2, Same (upd (upd H1 d (Err1 f z v)) a (ExK (.ref C) (some d) a)) H2 → ∀ p, H2 p = none → Q (.ref p) (upd H2 p (.tup [.str z', v'])) := by
  obtain ⟨fI, k⟩ := T.kls
  refine ⟨T.hex, fun a na => ⟨Str.ofString z, v, ?_, fun H2 s2 p np => h H2 p (((same_upd nd).trans (same_upd na)).trans s2) np⟩⟩
  have hne : d ≠ a := fun e => by
    rw [← e, upd_same] at na
    cases na
  exact ⟨C, d, _, upd_same, (upd_ne hne).trans upd_same, k.xf, k.ncode, rfl, T.fi v⟩
section
variable {X : Cx} {k : Nat} {cs : List Value} {σ : L2.St}
theorem oneAsk_errA {Hn : Hp} {D f : Addr} {a : AskS X k} {mg : Str → Option Value} {C : Addr} {fld z : String} {v : V} {dv : PyData} {c' : Addr} {dV : Value} (T : ErrA X.K mg C fld z cs) (nD : Hn D = none) (la : LamAt Hn f (a.lam c' dV) a.dvs) (hv : Dp X.K Hn v dv)
    (h : ∀ H, Same Hn H → ∀ (E : XK) (Q : VK), (∀ H' d, Same H H' → H' d = none → E (.ref C) (some d) (upd H' d (Err1 fld z v))) → a.tb (a.js.map (NdefX.slotAt σ)) E H Q) : OneAsk cs σ Hn D (f, a) (.tuple [.str (Str.ofString z), dv]) := by
  refine fun H s hD => ⟨⟨c', dV, la.same s⟩, fun Q' q => h H s _ _ fun H' d s' nd => T.tried nd fun H2 p s2 np => ?_⟩
  have st := same_upd (o := HO.tup [.str (Str.ofString z), v]) np
  refine q _ _ (s'.trans (s2.trans st)) fun Hx bx => ?_
  obtain ⟨acc, hD⟩ := hD
  have hpD : p ≠ D := fun e => by
    rw [e, s2 _ _ (s' _ _ hD)] at np
    cases np
  have sx : Same Hn Hx := fun c o e => bx c o (ne_of_none e nD) (st _ _ (s2 _ _ (s' _ _ (s _ _ e))))
  exact .tup (SqT.of (bx _ _ hpD upd_same)) (.cons (.str _) (.cons (Dp.same sx hv) .nil))
end
end FW
namespace FW
open PySem PySem.Spec PyProof.Rows L2
-- more
section
variable {P : Program} {w : World} {K : PySem.W.Frag} {mg : Str → Option Value} {base : Heap}
abbrev s_check_numbers : Stmt := topS 20
theorem sc_check_numbers : FnScope ["faces", "numbers", "name", "face"] ["faces", "numbers"] (defScope s_check_numbers) := ⟨rfl, rfl, rfl, by decide +kernel, rfl, by decide +kernel, by decide +kernel⟩
def LetOk (F : List Nat) (R : List (Str × V)) : Prop := ∀ p ∈ R, bLetter (.str p.1) F = true
def NumOk (R : List (Str × V)) : Prop := ∀ p ∈ R, ∃ i, p.2 = V.int i
def sp_check_numbers (K : PySem.W.Frag) (CF CN : Addr) : Sp := fun vs H Q E => ∃ (F : List Nat) (d : Addr) (R : List (Str × V)), vs = [.str (S F), .ref d] ∧ H d = some (.dK (keysOf R)) ∧ (R.map (·.1)).Nodup ∧ (∀ p ∈ R, p.1.cps.size ≤ 1000) ∧
  ((LetOk F R ∧ NumOk R ∧ ∀ H', Same H H' → Q .non H') ∨
   (∃ R1 nm v R2, R = R1 ++ (nm, v) :: R2 ∧ LetOk F R1 ∧ bLetter (.str nm) F = false ∧ ∀ H' dd, But d H H' → H' dd = none → E (.ref CF) (some dd) (upd H' dd (Err1 "given" "InvalidFace" (.str nm)))) ∨
   ∃ R1 nm v R2, R = R1 ++ (nm, v) :: R2 ∧ LetOk F R ∧ NumOk R1 ∧ bInt v = false ∧ (∀ H', But d H H' → AskN K H' v) ∧ ∀ H' dd, But d H H' → H' dd = none → E (.ref CN) (some dd) (upd H' dd (Err1 "given" "InvalidNumber" v)))
theorem but_unlock {H H' : Hp} {d : Addr} {o u : HO} (hd : H d = some u) (s : Same (upd H d o) H') : Same H (upd H' d u) := fun b x e => by
  by_cases h : b = d
  · subst h; rw [upd_same, ← hd]; exact e
  · rw [upd_ne h]; exact s _ _ (by rw [upd_ne h]; exact e)
theorem but_lock {H H' : Hp} {d : Addr} {o : HO} (s : Same (upd H d o) H') : But d H H' := fun b x n e => s _ _ (by rw [upd_ne n]; exact e)
theorem keysOf_val {R : List (Str × V)} (nd : (R.map (·.1)).Nodup) {i : Nat} {p : Str × V} (h : R[i]? = some p) : valV (keysOf R) (Sum.inr p.1) = some p.2 := by
  induction R generalizing i with
  | nil => cases h
  | cons x r ih =>
    obtain ⟨n1, n2⟩ := List.nodup_cons.mp (show (x.1 :: r.map (·.1)).Nodup from nd)
    cases i with
    | zero =>
      obtain rfl : x = p := Option.some.inj h
      exact valV_pos (p := ((Sum.inr x.1 : Key), x.2)) rfl
    | succ i =>
      have hm : p ∈ r := List.mem_of_getElem? h
      refine (valV_neg (p := ((Sum.inr x.1 : Key), x.2)) (r := keysOf r) (fun e => n1 ?_)).trans (ih n2 h)
      rw [show x.1 = p.1 from Sum.inr.inj e]
      exact List.mem_map_of_mem hm
theorem okx_check_numbers {f CF CN fF fN : Addr} {fd fdF fdN : FuncData} (F : Fun K "check_numbers" "check_numbers" s_check_numbers f fd) (T : Z mg) (TF : Kls K mg CF fF "InvalidFace") (nF : PySem.W.findIn K (.ref CF) (Str.ofString "given") = some none) (FF : FnOk P w K mg base CX0 1 fF fdF ["self", "given"] (sp_init K "given")) (bF : Binds K fdF ["self", "given"] [])
    (TN : Kls K mg CN fN "InvalidNumber") (nN : PySem.W.findIn K (.ref CN) (Str.ofString "given") = some none) (FN : FnOk P w K mg base CX0 1 fN fdN ["self", "given"] (sp_init K "given")) (bN : Binds K fdN ["self", "given"] [])
    (c_is_letter : Cal P w K mg base CX0 1 "is_letter" s_is_letter ["value", "letters"] (sp_is_letter K)) (c_is_integer : Cal P w K mg base CX0 1 "is_integer" s_is_integer ["value"] (sp_is_integer K)) : FnOk P w K mg base (L2.CX P w) 3 f fd ["faces", "numbers"] (sp_check_numbers K CF CN) := by
  refine F.okX sc_check_numbers (fun vs H Q E h => ?_) (fun cdv A outer s H vs Q E hr h => ?_)
  · obtain ⟨fs, d, R, rfl, _⟩ := h
    rfl
  obtain ⟨fs, d, R, rfl, hd, nd, short, h⟩ := h
  refine ⟨_, (pss_cons (ps_lock (ps_for (passes_of rfl) rfl (pi_keys (pv 1)) (pg_name (i := 2) sc_check_numbers.nd rfl (.inl rfl))
      (pss_one (ps_if (pt_not (pt_val (pe_c c_is_letter hr (by decide) (by rfl) (pa_cons (pv 2) (pa_cons (pv 0) pa_nil)))))
        (pss_one (ps_raise rfl (takes_of rfl rfl rfl rfl) (pmk_oex TF.oex TF.init TF.tI FF (hr.mono (by decide)) bF .nil pass0 (by rfl) TF.g (pa_cons (pv 2) pa_nil)))) pss_nil))))
    (pss_one (ps_lock (ps_for (passes_of rfl) rfl (pi_keys (pv 1)) (pg_name (i := 3) sc_check_numbers.nd rfl (.inl rfl))
      (pss_one (ps_if (pt_not (pt_val (pe_c c_is_integer hr (by decide) (by rfl) (pa_cons (pe_dget (hu_of hr) (pv 1) (pv 3) (fun _ _ => rfl)) pa_nil))))
        (pss_one (ps_raise rfl (takes_of rfl rfl rfl rfl) (pmk_oex TN.oex TN.init TN.tI FN (hr.mono (by decide)) bN .nil pass0 (by rfl) TN.g (pa_cons (pe_dget (hu_of hr) (pv 1) (pv 3) (fun _ _ => rfl)) pa_nil)))) pss_nil)))))), ?_⟩
  have hlen : (keysOf R).length = R.length := List.length_map ..
  refine ⟨d, .dK (keysOf R), hd, trivial, fun od => ⟨_, rfl, d, od, rfl, .inl ⟨keysOf R, upd_same, ?_⟩⟩⟩
  -- the names
  refine for_it (walk_keys (kvs := keysOf R)) (fun i σ H' => ∃ y2 : Option V, σ = [some (.str (S fs)), some (.ref d), y2, none] ∧ Same (upd H d (.frz od (.dK (keysOf R)))) H' ∧ LetOk fs (R.take i) ∧ (∀ R1 nm v R2, R = R1 ++ (nm, v) :: R2 → bLetter (.str nm) fs = false → i ≤ R1.length)) ⟨_, rfl, Same.refl _, (fun p hp => by cases hp), fun _ _ _ _ _ _ => Nat.zero_le _⟩ (fun i σ H' _ ⟨_, _, s, _⟩ => s _ _ upd_same) ?_ ?_
  · rintro i v σ H3 H4 hi ⟨y2, rfl, s3, hok, hbd⟩ ⟨rfl, k, v', hkv, rfl⟩
    obtain ⟨p, hp, ekv⟩ := Option.map_eq_some_iff.mp ((List.getElem?_map ..).symm.trans hkv)
    obtain ⟨rfl, rfl⟩ := Prod.mk.inj ekv
    have hpm := List.mem_of_getElem? hp
    refine ⟨_, rfl, _, rfl, .str p.1, fs, rfl, .inl ⟨rfl, Nat.le_trans (short p hpm) (by decide)⟩, fun H5 s5 => ⟨_, rfl, ?_⟩⟩
    cases hb : bLetter (.str p.1) fs with
    | true =>
      refine iteF ⟨_, rfl, s3.trans s5, fun p' hp' => ?_, fun R1 nm v R2 e hb' => ?_⟩
      · rw [List.take_add_one, hp] at hp'
        rcases List.mem_append.mp hp' with h1 | h1
        · exact hok p' h1
        · obtain rfl := List.mem_singleton.mp h1
          exact hb
      · have h0 := hbd R1 nm v R2 e hb'
        rcases Nat.lt_or_ge i R1.length with h1 | h1
        · exact h1
        · have : i = R1.length := Nat.le_antisymm h0 h1
          rw [e, this, List.getElem?_append_right (Nat.le_refl _), Nat.sub_self] at hp
          obtain rfl : (nm, v) = p := Option.some.inj hp
          rw [hb'] at hb
          cases hb
    | false =>
      refine iteT ⟨_, rfl, mk1 TF nF fun dd hdd => ?_⟩
      have hsplit : R = R.take i ++ p :: R.drop (i + 1) := by
        have hi' : i < R.length := (List.getElem?_eq_some_iff.mp hp).1
        have e2 := (List.getElem?_eq_some_iff.mp hp).2
        rw [← e2, ← List.drop_eq_getElem_cons hi', List.take_append_drop]
      have sB : But d H H5 := but_lock (s3.trans s5)
      rcases h with ⟨hl, _⟩ | ⟨R1, nm, v, R2, e, hl1, hb1, q⟩ | ⟨R1, nm, v, R2, e, hl, _⟩
      · exact absurd (hl p hpm) (by rw [hb]; decide)
      · have h0 := hbd R1 nm v R2 e hb1
        have h1 : i = R1.length := by
          rcases Nat.lt_or_ge i R1.length with h1 | h1
          · have : p ∈ R1 := by
              rw [e, List.getElem?_append_left h1] at hp
              exact List.mem_of_getElem? hp
            exact absurd (hl1 p this) (by rw [hb]; decide)
          · exact Nat.le_antisymm h0 h1
        rw [e, h1, List.getElem?_append_right (Nat.le_refl _), Nat.sub_self] at hp
        obtain rfl : (nm, v) = p := Option.some.inj hp
        exact q H5 dd sB hdd
      · exact absurd (hl p hpm) (by rw [hb]; decide)
  · rintro σ H3 ⟨y2, rfl, s3, hok, hbd⟩
    rw [hlen, List.take_length] at hok
    rw [hlen] at hbd
    refine ⟨s3 _ _ upd_same, ?_⟩
    have s4 := but_unlock hd s3
    have hd4 : (upd H3 d (.dK (keysOf R))) d = some (.dK (keysOf R)) := upd_same
    refine ⟨d, .dK (keysOf R), hd4, trivial, fun od2 => ⟨_, rfl, d, od2, rfl, .inl ⟨keysOf R, upd_same, ?_⟩⟩⟩
    have hnb : ∀ R1 nm v R2, R = R1 ++ (nm, v) :: R2 → bLetter (.str nm) fs = false → False := fun R1 nm v R2 e hb => by
      have := hbd R1 nm v R2 e hb
      rw [e, List.length_append, List.length_cons] at this
      omega
    refine for_it (walk_keys (kvs := keysOf R)) (fun i σ H' => ∃ y2 y3 : Option V, σ = [some (.str (S fs)), some (.ref d), y2, y3] ∧ Same (upd (upd H3 d (.dK (keysOf R))) d (.frz od2 (.dK (keysOf R)))) H' ∧ NumOk (R.take i)) ⟨_, _, rfl, Same.refl _, (fun p hp => by cases hp)⟩ (fun i σ H' _ ⟨_, _, _, s, _⟩ => s _ _ upd_same) ?_ ?_
    · rintro i v σ HX H5 hi ⟨y2, y3, rfl, s5, hnum⟩ ⟨rfl, k, v', hkv, rfl⟩
      obtain ⟨p, hp, ekv⟩ := Option.map_eq_some_iff.mp ((List.getElem?_map ..).symm.trans hkv)
      obtain ⟨rfl, rfl⟩ := Prod.mk.inj ekv
      have hpm := List.mem_of_getElem? hp
      have hg : DGet H5 d (.str p.1) (some p.2) := by
        have : DGet H5 d (.str p.1) (valV (keysOf R) (.inr p.1)) := .inl ⟨_, _, .inr ⟨od2, s5 _ _ upd_same⟩, rfl, rfl⟩
        rwa [keysOf_val nd hp] at this
      have sB : But d H H5 := s4.but.trans (but_lock s5)
      have htk : R.take (i + 1) = R.take i ++ [p] := by
        rw [List.take_add_one, hp]
        rfl
      have good : (∃ j, p.2 = V.int j) → NumOk (R.take (i + 1)) := fun hj p' hp' => by
        rw [htk] at hp'
        rcases List.mem_append.mp hp' with h1 | h1
        · exact hnum p' h1
        · obtain rfl := List.mem_singleton.mp h1
          exact hj
      by_cases hb : bInt p.2 = true
      · obtain ⟨j, hj⟩ : ∃ j, p.2 = V.int j := by
          cases e : p.2 with
          | int j => exact ⟨j, rfl⟩
          | _ => rw [e] at hb; cases hb
        have gi := good ⟨j, hj⟩
        rw [hj] at hg
        refine ⟨_, rfl, _, rfl, d, .int j, rfl, hg, .int j, rfl, .inl rfl, _, rfl, iteF ?_⟩
        exact ⟨_, _, rfl, s5, gi⟩
      · rw [Bool.not_eq_true] at hb
        rcases h with ⟨_, hn, _⟩ | ⟨R1, nm, v, R2, e, hl1, hb1, q⟩ | ⟨R1, nm, v, R2, e, hl, hn1, hbi, hak, q⟩
        · obtain ⟨j, hj⟩ := hn p hpm
          rw [hj] at hb
          cases hb
        · exact (hnb R1 nm v R2 e hb1).elim
        · have hiR : i = R1.length := by
            rcases Nat.lt_trichotomy i R1.length with h1 | h1 | h1
            · have : p ∈ R1 := by
                rw [e, List.getElem?_append_left h1] at hp
                exact List.mem_of_getElem? hp
              obtain ⟨j, hj⟩ := hn1 p this
              rw [hj] at hb
              cases hb
            · exact h1
            · have : (nm, v) ∈ R.take i := by
                rw [e, List.take_append, List.mem_append]
                right
                obtain ⟨m, hm⟩ : ∃ m, i - R1.length = m + 1 := ⟨i - R1.length - 1, by omega⟩
                rw [hm, List.take_succ_cons]
                exact List.mem_cons_self ..
              obtain ⟨j, hj⟩ := hnum _ this
              rw [show v = V.int j from hj] at hbi
              cases hbi
          rw [e, hiR, List.getElem?_append_right (Nat.le_refl _), Nat.sub_self] at hp
          obtain rfl : (nm, v) = p := Option.some.inj hp
          refine ⟨_, rfl, _, rfl, d, v, rfl, hg, v, rfl, hak _ sB, _, rfl, ?_⟩
          rw [hbi]
          refine iteT ⟨_, rfl, _, rfl, d, v, rfl, hg, mk1 TN nN fun dd hdd => ?_⟩
          exact q H5 dd sB hdd
    · rintro σ H5 ⟨y2, y3, rfl, s5, hnum⟩
      rw [hlen, List.take_length] at hnum
      refine ⟨s5 _ _ upd_same, ?_⟩
      have s6 := s4.trans (but_unlock hd4 s5)
      rcases h with ⟨_, _, q⟩ | ⟨R1, nm, v, R2, e, hl1, hb1, q⟩ | ⟨R1, nm, v, R2, e, hl, hn1, hbi, hak, q⟩
      · exact q _ s6
      · exact (hnb R1 nm v R2 e hb1).elim
      · have hvm : (nm, v) ∈ R := by
          rw [e]
          exact List.mem_append_right _ (List.mem_cons_self ..)
        obtain ⟨j, hj⟩ := hnum _ hvm
        rw [show v = V.int j from hj] at hbi
        cases hbi
end
end FW
/-! {c: v(c) for c in text}; a dict by the signs of a text -/
namespace FW
open PySem PySem.Spec PyProof.Rows L2
def numK (F : List Nat) (v : Nat → V) : List (Key × V) := F.map fun c => ((Sum.inr (S [c]) : Key), v c)
theorem sing_inj {a b : Nat} (h : S [a] = S [b]) : a = b := by
  have : ([a] : List Nat) = [b] := congrArg (fun z : Str => z.cps.toList) h
  exact List.cons.inj this |>.1
theorem numK_none {c : Nat} (v : Nat → V) : ∀ {F : List Nat}, c ∉ F → valV (numK F v) (Sum.inr (S [c])) = none
  | [], _ => rfl
  | a :: F, h => by
    have h1 : ¬ c = a := fun e => h (e ▸ List.mem_cons_self ..)
    refine (valV_neg (p := ((Sum.inr (S [a]) : Key), v a)) (r := numK F v) (fun e => h1 (sing_inj (Sum.inr.inj e)).symm)).trans (numK_none v fun e => h (List.mem_cons_of_mem _ e))
theorem numK_val {c : Nat} (v : Nat → V) : ∀ {F : List Nat}, c ∈ F → valV (numK F v) (Sum.inr (S [c])) = some (v c)
  | [], h => by cases h
  | a :: F, h => by
    by_cases e : a = c
    · subst e
      exact valV_pos (p := ((Sum.inr (S [a]) : Key), v a)) rfl
    · refine (valV_neg (p := ((Sum.inr (S [a]) : Key), v a)) (r := numK F v) (fun e' => e (sing_inj (Sum.inr.inj e')))).trans (numK_val v ?_)
      rcases List.mem_cons.mp h with h | h
      · exact absurd h.symm e
      · exact h
theorem numK_put {c : Nat} (v : Nat → V) (y : V) {F : List Nat} (h : c ∈ F) : putK (numK F v) (Sum.inr (S [c])) y = numK F (fun a => if a = c then y else v a) := by
  unfold putK
  rw [if_pos (by rw [valV_any, numK_val v h]; rfl)]
  unfold numK
  rw [List.map_map]
  refine List.map_congr_left fun a _ => ?_
  show (if (Sum.inr (S [a]) : Key) = Sum.inr (S [c]) then ((Sum.inr (S [a]) : Key), y) else ((Sum.inr (S [a]) : Key), v a)) = _
  by_cases e : a = c
  · subst e
    rw [if_pos rfl]
    simp
  · rw [if_neg (fun z => e (sing_inj (Sum.inr.inj z)))]; simp [e]
theorem numK_snoc (F : List Nat) (c : Nat) (v : Nat → V) : numK (F ++ [c]) v = numK F v ++ [((Sum.inr (S [c]) : Key), v c)] := by
  unfold numK
  rw [List.map_append]
  rfl
theorem dc_strP {F : List Nat} {σ : L2.St} {vs : List Nat} {H1 : Hp} {D : Addr} {Qd : Hp → Prop} {i : Nat} {tt : TT} {tk tv : TE} (v : Nat → V) (nD : H1 D = none) (hz : F.length < sizeLine) (nd : F.Nodup) (hw : ∀ x : V, wipe ((wipe σ vs).set i (some x)) vs = wipe σ vs)
    (hT : ∀ c ∈ F, ∀ H, Same H1 H → ∀ R : Bool → Hp → Prop, R true H → tt ((wipe σ vs).set i (some (.str (S [c])))) H R)
    (hK : ∀ c ∈ F, ∀ H, Same H1 H → ∀ R : VK, R (.str (S [c])) H → tk ((wipe σ vs).set i (some (.str (S [c])))) H R)
    (hE : ∀ c ∈ F, ∀ H, Same H1 H → ∀ R : VK, R (v c) H → tv ((wipe σ vs).set i (some (.str (S [c])))) H R)
    (q : Qd (upd H1 D (.dK (numK F v)))) :
    ∃ W : Nat → Nat → Hp → Prop, (∃ m, W 0 m (upd H1 D (.dK []))) ∧ ∀ j m H, W j m H →
      ((Its (S F)).stop j H ∧ Qd H) ∨ ((Its (S F)).go j H ∧ ∃ Nx : Hp → Prop, (∀ H', Nx H' → ∃ m', m' < m ∧ W (j + 1) m' H') ∧ ∀ x H', (Its (S F)).yld j H x H' → gName i x (wipe σ vs) H' fun σ2 H2 => wipe σ2 vs = wipe σ vs ∧ tt σ2 H2 fun b H3 =>
        if b = true then tk σ2 H3 fun y H4 => tv σ2 H4 fun z H5 => ∃ kvs k, y = kV k ∧ H5 D = some (.dK kvs) ∧ kvs.length < sizeLine ∧ Nx (upd H5 D (.dK (putK kvs k z))) else Nx H3) := by
  refine ⟨fun j m H => m = F.length - j ∧ j ≤ F.length ∧ H = upd H1 D (.dK (numK (F.take j) v)), ⟨F.length, by simp, Nat.zero_le _, rfl⟩, ?_⟩
  rintro j m H ⟨rfl, hj, rfl⟩
  by_cases hlt : j < F.length
  · refine .inr ⟨(walk_str (z := S F)).goes j _ (by exact hlt) trivial, fun H' => H' = upd H1 D (.dK (numK (F.take (j + 1)) v)), fun H' p' => ⟨F.length - (j + 1), by omega, rfl, hlt, p'⟩, fun x H' y => ?_⟩
    obtain ⟨rfl, c, hc, rfl⟩ := (walk_str (z := S F)).yields j _ x H' hlt trivial y
    have hc1 : F[j]? = some c := by
      have : (S F).cps.toList[j]? = some c := by rw [Array.getElem?_toList]; exact hc
      exact this
    have e : F.take (j + 1) = F.take j ++ [c] := by
      rw [List.take_add_one, hc1]
      rfl
    have hm := List.mem_of_getElem? hc1
    have hnot : c ∉ F.take j := by
      have nd2 : (F.take (j + 1)).Nodup := nd.sublist (List.take_sublist _ _)
      rw [e, List.nodup_append] at nd2
      exact fun h => nd2.2.2 c h c (List.mem_singleton.mpr rfl) rfl
    refine ⟨hw _, hT c hm _ (same_upd nD) _ ?_⟩
    rw [if_pos rfl]
    refine hK c hm _ (same_upd nD) _ (hE c hm _ (same_upd nD) _ ⟨_, Sum.inr (S [c]), rfl, upd_same, ?_, ?_⟩)
    · show (List.map _ (F.take j)).length < _
      rw [List.length_map, List.length_take]
      omega
    · rw [putK_new _ (numK_none v hnot), upd_upd, e, numK_snoc]
  · have ej : j = F.length := by omega
    subst ej
    rw [List.take_length]
    exact .inl ⟨(walk_str (z := S F)).stops _ trivial, q⟩
end FW
namespace FW
open PySem PySem.Spec PyProof.Rows L2
-- more
section
variable {P : Program} {w : World} {K : PySem.W.Frag} {mg : Str → Option Value} {base : Heap}
abbrev s_Weights_init : Stmt := inCls (topS 26) 0
theorem sc_Weights_init : FnScope ["self", "faces", "each", "numbers", "face"] ["self", "faces", "each", "numbers"] (defScope s_Weights_init) := ⟨rfl, rfl, rfl, by decide +kernel, rfl, by decide +kernel, by decide +kernel⟩
def wtF (F : List Nat) (e : Int) (nd : Addr) : List (Str × V) := [("faces", .str (S F)), ("_each", .int e), ("_numbers", .ref nd)]
structure WtC (K : PySem.W.Frag) (C : Addr) : Prop where
  c : Cls K C
  nf : NoAttr K C "faces"
  ne : NoAttr K C "_each"
  nn : NoAttr K C "_numbers"
/-- weights at x, their numbers at nd -/
structure WtA (C : Addr) (H : Hp) (x nd : Addr) (F : List Nat) (e : Int) (v : Nat → Int) : Prop where
  at_ : ∃ dx, H x = some (.ins C dx (wtF F e nd))
  num : H nd = some (.dK (numK F fun c => .int (v c)))
  fl : F.length ≤ 1000
  nd : F.Nodup
theorem WtA.same {C x nd : Addr} {H H' : Hp} {F : List Nat} {e : Int} {v : Nat → Int} (a : WtA C H x nd F e v) (s : Same H H') : WtA C H' x nd F e v := ⟨let ⟨dx, h⟩ := a.at_; ⟨dx, s _ _ h⟩, s _ _ a.num, a.fl, a.nd⟩
def sp_Weights_init (K : PySem.W.Frag) (CI CF CN CW : Addr) : Sp := fun vs H Q E => ∃ (x d : Addr) (fv ev : V) (R : List (Str × V)), vs = [.ref x, fv, ev, .ref d] ∧ H d = some (.dK (keysOf R)) ∧ (R.map (·.1)).Nodup ∧ (∀ p ∈ R, p.1.cps.size ≤ 1000) ∧
  (((∀ H', Same H H' → Askd K H' fv) ∧ bFaces fv = false ∧ ∀ H' dd, Same H H' → H' dd = none → E (.ref CI) (some dd) (upd H' dd (Err1 "given" "InvalidFaces" fv))) ∨
   ∃ F : List Nat, fv = .str (S F) ∧ bFaces (.str (S F)) = true ∧ F.length ≤ 1000 ∧ F.Nodup ∧
    ((bInt ev = false ∧ (∀ H', Same H H' → AskN K H' ev) ∧ ∀ H' dd, Same H H' → H' dd = none → E (.ref CN) (some dd) (upd H' dd (Err1 "given" "InvalidNumber" ev))) ∨
     ∃ e : Int, ev = .int e ∧
      ((LetOk F R ∧ NumOk R ∧ ∃ dx, H x = some (.ins CW dx []) ∧ ∃ v : Nat → Int, (∀ c ∈ F, (valV (keysOf R) (Sum.inr (S [c]))).getD (.int 0) = .int (v c)) ∧ ∀ H' nd, But x H H' → H nd = none → WtA CW H' x nd F e v → H' x = some (.ins CW dx (wtF F e nd)) → Q .non H') ∨
       (∃ R1 nm v R2, R = R1 ++ (nm, v) :: R2 ∧ LetOk F R1 ∧ bLetter (.str nm) F = false ∧ ∀ H' dd, But d H H' → H' dd = none → E (.ref CF) (some dd) (upd H' dd (Err1 "given" "InvalidFace" (.str nm)))) ∨
       ∃ R1 nm v R2, R = R1 ++ (nm, v) :: R2 ∧ LetOk F R ∧ NumOk R1 ∧ bInt v = false ∧ (∀ H', But d H H' → AskN K H' v) ∧ ∀ H' dd, But d H H' → H' dd = none → E (.ref CN) (some dd) (upd H' dd (Err1 "given" "InvalidNumber" v)))))
theorem okx_Weights_init {f CI CF CN CW fI fN : Addr} {fd fdI fdN : FuncData} (F : FunD K "__init__" "Weights.__init__" (defArgs s_Weights_init) (defBody s_Weights_init) (defScope s_Weights_init) [] [(("each" : Str), .int 0)] f fd) (T : Z mg) (WC : WtC K CW)
    (TI : Kls K mg CI fI "InvalidFaces") (nI : PySem.W.findIn K (.ref CI) (Str.ofString "given") = some none) (FI : FnOk P w K mg base CX0 1 fI fdI ["self", "given"] (sp_init K "given")) (bI : Binds K fdI ["self", "given"] [])
    (TN : Kls K mg CN fN "InvalidNumber") (nN : PySem.W.findIn K (.ref CN) (Str.ofString "given") = some none) (FN : FnOk P w K mg base CX0 1 fN fdN ["self", "given"] (sp_init K "given")) (bN : Binds K fdN ["self", "given"] [])
    (c_is_faces : Cal P w K mg base CX0 3 "is_faces" s_is_faces ["value"] (sp_is_faces K)) (c_is_integer : Cal P w K mg base CX0 1 "is_integer" s_is_integer ["value"] (sp_is_integer K))
    (cx_check_numbers : Cal P w K mg base (L2.CX P w) 3 "check_numbers" s_check_numbers ["faces", "numbers"] (sp_check_numbers K CF CN)) (ks : List Str) :
    FnKw P w K mg base (L2.CX P w) 4 f ks (fun vs zs H Q E => ∃ a fa ea R, KwW (.int 0) vs (ks.zip zs) a fa ea R ∧ ∀ d, H d = none → sp_Weights_init K CI CF CN CW [a, fa, ea, .ref d] (upd H d (.dK (keysOf R))) Q E) := by
  refine fn_kw F rfl rfl rfl rfl rfl sc_Weights_init StX.cxUp ks (fun cdv A outer s H vs Q E hr h => ?_)
  obtain ⟨x, d, fv, ev, R, rfl, hd, hnd, short, h⟩ := h
  refine ⟨_, (pss_cons (ps_if (pt_not (pt_val (pe_c c_is_faces hr (by decide) (by rfl) (pa_cons (pv 1) pa_nil)))) (pss_one (ps_raise rfl (takes_of rfl rfl rfl rfl) (pmk_oex TI.oex TI.init TI.tI FI (hr.mono (by decide)) bI .nil pass0 (by rfl) TI.g (pa_cons (pv 1) pa_nil)))) pss_nil)
    (pss_cons (ps_if (pt_not (pt_val (pe_c c_is_integer hr (by decide) (by rfl) (pa_cons (pv 2) pa_nil)))) (pss_one (ps_raise rfl (takes_of rfl rfl rfl rfl) (pmk_oex TN.oex TN.init TN.tI FN (hr.mono (by decide)) bN .nil pass0 (by rfl) TN.g (pa_cons (pv 2) pa_nil)))) pss_nil)
    (pss_cons (ps_expr (pe_cx (E := E) cx_check_numbers hr (by decide) (by rfl) (passes_call (takes_of rfl rfl rfl rfl) (fun _ _ _ _ h => h)) (pa_cons (pv 1) (pa_cons (pv 3) pa_nil))))
    (pss_cons (ps_fld (pv 0) (pv 1) rfl)
    (pss_cons (ps_fld (pv 0) (pv 2) rfl)
    (pss_one (ps_fld (pv 0) (pe_dc (own := [("face", 4)]) (g := gName 4) (by rfl) sc_Weights_init.nd (pi_str (pv 1)) (blkOk_by (N := ["self", "faces", "each", "numbers", "face"]) (sc := defScope s_Weights_init) (by decide +kernel)) (fun _ _ _ _ _ => (pg_name (i := 4) sc_Weights_init.nd rfl (.inl rfl))) (fun _ _ _ _ _ => pts_nil) (fun _ _ _ _ _ => (pv 4)) (fun _ _ _ _ _ => (pe_dget2 (hu_of hr) (pv 3) (pv 4) pe_int ⟨rfl, rfl, rfl, rfl⟩))) rfl))))))), ?_⟩
  rcases h with ⟨hask, hno, q⟩ | ⟨fs, rfl, b1, l1, ndF, h⟩
  · refine ⟨_, rfl, fv, rfl, hask _ (Same.refl _), fun H1 s1 => ⟨_, rfl, ?_⟩⟩
    rw [hno]
    exact iteT ⟨_, rfl, mk1 TI nI fun dd hdd => q _ dd s1 hdd⟩
  refine ⟨_, rfl, .str (S fs), rfl, .inl ⟨rfl, (show fs.length ≤ 100000 by omega)⟩, fun H1 s1 => ⟨_, rfl, ?_⟩⟩
  rw [b1]
  refine iteF ?_
  rcases h with ⟨hno, hask, q⟩ | ⟨e, rfl, h⟩
  · refine ⟨_, rfl, ev, rfl, hask _ s1, _, rfl, ?_⟩
    rw [hno]
    exact iteT ⟨_, rfl, mk1 TN nN fun dd hdd => q _ dd s1 hdd⟩
  refine ⟨_, rfl, .int e, rfl, .inl rfl, _, rfl, iteF ?_⟩
  have hd1 := s1 _ _ hd
  refine ⟨_, rfl, _, rfl, fs, d, R, rfl, hd1, hnd, short, ?_⟩
  rcases h with ⟨hL, hN, dx, hx, v, hv, q⟩ | ⟨R1, nm, v, R2, e1, h1, h2, q⟩ | ⟨R1, nm, v, R2, e1, h1, h2, h3, h4, q⟩
  · refine .inl ⟨hL, hN, fun H2 s2 => ?_⟩
    have s02 := s1.trans s2
    have hx2 := s02 _ _ hx
    have hd2 := s02 _ _ hd
    have hxd : d ≠ x := fun e => by rw [e, hx] at hd; cases hd
    refine ⟨_, rfl, _, rfl, x, CW, dx, [], rfl, hx2, WC.c, WC.nf, by decide, ?_⟩
    have ef : putF (Str.ofString "faces") (V.str (S fs)) ([] : List (Str × V)) = ([("faces", .str (S fs))] : List (Str × V)) := rfl
    rw [ef]
    refine ⟨_, rfl, _, rfl, x, CW, dx, _, rfl, upd_same, WC.c, WC.ne, (show 1 < 1000 by decide), ?_⟩
    have ef2 : putF (Str.ofString "_each") (V.int e) ([("faces", .str (S fs))] : List (Str × V)) = ([("faces", .str (S fs)), ("_each", .int e)] : List (Str × V)) := rfl
    rw [ef2, upd_upd]
    refine ⟨_, rfl, _, rfl, fun D nD => ?_⟩
    have hDx : D ≠ x := fun e => by rw [e, upd_same] at nD; cases nD
    have nD2 : H2 D = none := by rw [upd_ne hDx] at nD; exact nD
    refine dc_strP (i := 4) (fun c => .int (v c)) nD (Nat.lt_of_le_of_lt l1 (by decide)) ndF (fun _ => rfl) (fun c _ H _ R h => h) (fun c _ H _ R h => ⟨_, rfl, h⟩) (fun c hc H s R' h => ?_) ?_
    · have hdH : H d = some (.dK (keysOf R)) := s _ _ (by rw [upd_ne hxd]; exact hd2)
      refine ⟨_, rfl, d, rfl, .inl ⟨_, .inl hdH⟩, _, rfl, valV (keysOf R) (Sum.inr (S [c])), DGet.k (k := Sum.inr (S [c])) hdH, ?_⟩
      rw [hv c hc]
      exact h
    · have hxD : (upd (upd H2 x (.ins CW dx [("faces", .str (S fs)), ("_each", .int e)])) D (.dK (numK fs fun c => .int (v c)))) x = some (.ins CW dx [("faces", .str (S fs)), ("_each", .int e)]) := by rw [upd_ne (Ne.symm hDx), upd_same]
      refine ⟨_, rfl, x, CW, dx, _, rfl, hxD, WC.c, WC.nn, (show 2 < 1000 by decide), ?_⟩
      have ef3 : putF (Str.ofString "_numbers") (V.ref D) ([("faces", .str (S fs)), ("_each", .int e)] : List (Str × V)) = wtF fs e D := rfl
      rw [ef3]
      have nDH : H D = none := by
        cases hh : H D with
        | none => rfl
        | some o => rw [s02 _ _ hh] at nD2; cases nD2
      refine q _ D (fun b o n hb => ?_) nDH ⟨⟨dx, upd_same⟩, by rw [upd_ne hDx, upd_same], l1, ndF⟩ upd_same
      have hbD : b ≠ D := fun e => by rw [e, nDH] at hb; cases hb
      rw [upd_ne n, upd_ne hbD, upd_ne n]
      exact s02 _ _ hb
  · exact .inr (.inl ⟨R1, nm, v, R2, e1, h1, h2, fun H' dd s hdd => q H' dd (s1.but.trans s) hdd⟩)
  · exact .inr (.inr ⟨R1, nm, v, R2, e1, h1, h2, h3, fun H' s => h4 H' (s1.but.trans s), fun H' dd s hdd => q H' dd (s1.but.trans s) hdd⟩)
end
end FW
namespace FW
open PySem PySem.Spec PyProof.Rows L2
-- more
section
variable {P : Program} {w : World} {K : PySem.W.Frag} {mg : Str → Option Value} {base : Heap}
abbrev s_Weights_each : Stmt := inCls (topS 26) 1
theorem sc_Weights_each : FnScope ["self"] ["self"] (defScope s_Weights_each) := ⟨rfl, rfl, rfl, by decide +kernel, rfl, by decide +kernel, by decide +kernel⟩
def sp_Weights_each (CW : Addr) : Sp := fun vs H Q _ => ∃ (x nd : Addr) (F : List Nat) (e : Int) (v : Nat → Int), vs = [.ref x] ∧ WtA CW H x nd F e v ∧ Q (.int e) H
theorem ok_Weights_each {f CW : Addr} {fd : FuncData} (F : Fun K "each" "Weights.each" s_Weights_each f fd) (WC : WtC K CW) : FnOk P w K mg base CX0 1 f fd ["self"] (sp_Weights_each CW) := by
  refine F.ok sc_Weights_each (fun vs H Q E h => ?_) (fun cdv A outer s H vs Q E hr h => ?_)
  · obtain ⟨x, nd, fs, e, v, rfl, _⟩ := h
    rfl
  obtain ⟨x, nd, fs, e, v, rfl, hW, q⟩ := h
  refine ⟨_, (pss_one (ps_ret (pe_fld (pv 0) rfl))), ?_⟩
  obtain ⟨dx, hx⟩ := hW.at_
  exact ⟨_, rfl, x, CW, dx, _, _, rfl, hx, WC.c, WC.ne, rfl, q⟩
theorem letter_of {F : List Nat} {c : Nat} (h : c ∈ F) : bLetter (.str (S [c])) F = true := by
  unfold bLetter
  rw [show isStr (.str (S [c])) = true from rfl, show decide ((strOf (V.str (S [c]))).cps.size = 1) = true from decide_eq_true rfl, Bool.true_and, Bool.true_and]
  exact decide_eq_true h
abbrev s_Weights_getitem : Stmt := inCls (topS 26) 4
theorem sc_Weights_getitem : FnScope ["self", "at"] ["self", "at"] (defScope s_Weights_getitem) := ⟨rfl, rfl, rfl, by decide +kernel, rfl, by decide +kernel, by decide +kernel⟩
def sp_Weights_getitem (K : PySem.W.Frag) (CF CW : Addr) : Sp := fun vs H Q E => ∃ (x nd : Addr) (F : List Nat) (e : Int) (v : Nat → Int) (y : V), vs = [.ref x, y] ∧ WtA CW H x nd F e v ∧
  ((∃ c, y = .str (S [c]) ∧ c ∈ F ∧ ∀ H', Same H H' → Q (.int (v c)) H') ∨ (Askd K H y ∧ bLetter y F = false ∧ ∀ H' dd, Same H H' → H' dd = none → E (.ref CF) (some dd) (upd H' dd (Err1 "given" "InvalidFace" y))))
theorem okx_Weights_getitem {f CF CW fF : Addr} {fd fdF : FuncData} (F : Fun K "__getitem__" "Weights.__getitem__" s_Weights_getitem f fd) (T : Z mg) (WC : WtC K CW) (TF : Kls K mg CF fF "InvalidFace") (nF : PySem.W.findIn K (.ref CF) (Str.ofString "given") = some none) (FF : FnOk P w K mg base CX0 1 fF fdF ["self", "given"] (sp_init K "given")) (bF : Binds K fdF ["self", "given"] [])
    (c_is_letter : Cal P w K mg base CX0 1 "is_letter" s_is_letter ["value", "letters"] (sp_is_letter K)) : FnOk P w K mg base (L2.CX P w) 3 f fd ["self", "at"] (sp_Weights_getitem K CF CW) := by
  refine F.okX sc_Weights_getitem (fun vs H Q E h => ?_) (fun cdv A outer s H vs Q E hr h => ?_)
  · obtain ⟨x, nd, fs, e, v, y, rfl, _⟩ := h
    rfl
  obtain ⟨x, nd, fs, e, v, y, rfl, hW, h⟩ := h
  refine ⟨_, (pss_cons (ps_if (pt_not (pt_val (pe_c c_is_letter hr (by decide) (by rfl) (pa_cons (pv 1) (pa_cons (pe_fld (pv 0) rfl) pa_nil)))))
        (pss_one (ps_raise rfl (takes_of rfl rfl rfl rfl) (pmk_oex TF.oex TF.init TF.tI FF (hr.mono (by decide)) bF .nil pass0 (by rfl) TF.g (pa_cons (pv 1) pa_nil)))) pss_nil)
    (pss_one (ps_ret (pe_dget (hu_of hr) (pe_fld (pv 0) rfl) (pv 1) (fun _ _ => rfl))))), ?_⟩
  obtain ⟨dx, hx⟩ := hW.at_
  rcases h with ⟨c, rfl, hc, q⟩ | ⟨hask, hno, q⟩
  · refine ⟨_, rfl, _, rfl, x, CW, dx, _, _, rfl, hx, WC.c, WC.nf, rfl, _, fs, rfl, .inl ⟨rfl, (show 1 ≤ 100000 by decide)⟩, fun H1 s1 => ⟨_, rfl, ?_⟩⟩
    rw [letter_of hc]
    refine iteF ⟨_, rfl, x, CW, dx, _, _, rfl, s1 _ _ hx, WC.c, WC.nn, rfl, _, rfl, nd, _, rfl, ?_, q _ s1⟩
    have hg := DGet.k (k := Sum.inr (S [c])) (s1 _ _ hW.num)
    rwa [numK_val _ hc] at hg
  · refine ⟨_, rfl, _, rfl, x, CW, dx, _, _, rfl, hx, WC.c, WC.nf, rfl, y, fs, rfl, hask, fun H1 s1 => ⟨_, rfl, ?_⟩⟩
    rw [hno]
    exact iteT ⟨_, rfl, mk1 TF nF fun dd hdd => q _ dd s1 hdd⟩
abbrev s_Weights_setitem : Stmt := inCls (topS 26) 5
theorem sc_Weights_setitem : FnScope ["self", "at", "worth"] ["self", "at", "worth"] (defScope s_Weights_setitem) := ⟨rfl, rfl, rfl, by decide +kernel, rfl, by decide +kernel, by decide +kernel⟩
def putV (v : Nat → Int) (c : Nat) (n : Int) : Nat → Int := fun a => if a = c then n else v a
def sp_Weights_setitem (K : PySem.W.Frag) (CF CN CW : Addr) : Sp := fun vs H Q E => ∃ (x nd : Addr) (F : List Nat) (e : Int) (v : Nat → Int) (y z : V), vs = [.ref x, y, z] ∧ WtA CW H x nd F e v ∧
  ((∃ c n, y = .str (S [c]) ∧ c ∈ F ∧ z = .int n ∧ ∀ H', But nd H H' → WtA CW H' x nd F e (putV v c n) → Q .non H') ∨
   (Askd K H y ∧ bLetter y F = false ∧ ∀ H' dd, Same H H' → H' dd = none → E (.ref CF) (some dd) (upd H' dd (Err1 "given" "InvalidFace" y))) ∨
   (∃ c, y = .str (S [c]) ∧ c ∈ F ∧ bInt z = false ∧ (∀ H', Same H H' → AskN K H' z) ∧ ∀ H' dd, Same H H' → H' dd = none → E (.ref CN) (some dd) (upd H' dd (Err1 "given" "InvalidNumber" z))))
theorem WtA.put {C x nd : Addr} {H H' : Hp} {F : List Nat} {e : Int} {v : Nat → Int} {c : Nat} {n : Int} (a : WtA C H x nd F e v) (s : Same H H') (hc : c ∈ F) : But nd H (upd H' nd (.dK (putK (numK F fun c => .int (v c)) (Sum.inr (S [c])) (.int n)))) ∧ WtA C (upd H' nd (.dK (putK (numK F fun c => .int (v c)) (Sum.inr (S [c])) (.int n)))) x nd F e (putV v c n) := by
  obtain ⟨dx, hx⟩ := a.at_
  have hne : x ≠ nd := fun z => by rw [z, a.num] at hx; cases hx
  refine ⟨fun b o hb eo => by rw [upd_ne hb]; exact s _ _ eo, ⟨dx, by rw [upd_ne hne]; exact s _ _ hx⟩, ?_, a.fl, a.nd⟩
  rw [upd_same, numK_put _ _ hc]
  congr 2
  unfold numK
  refine List.map_congr_left fun b _ => ?_
  unfold putV
  by_cases h : b = c
  · simp [h]
  · simp [h]
theorem okx_Weights_setitem {f CF CN CW fF fN : Addr} {fd fdF fdN : FuncData} (F : Fun K "__setitem__" "Weights.__setitem__" s_Weights_setitem f fd) (T : Z mg) (WC : WtC K CW) (TF : Kls K mg CF fF "InvalidFace") (nF : PySem.W.findIn K (.ref CF) (Str.ofString "given") = some none) (FF : FnOk P w K mg base CX0 1 fF fdF ["self", "given"] (sp_init K "given")) (bF : Binds K fdF ["self", "given"] [])
    (TN : Kls K mg CN fN "InvalidNumber") (nN : PySem.W.findIn K (.ref CN) (Str.ofString "given") = some none) (FN : FnOk P w K mg base CX0 1 fN fdN ["self", "given"] (sp_init K "given")) (bN : Binds K fdN ["self", "given"] [])
    (c_is_letter : Cal P w K mg base CX0 1 "is_letter" s_is_letter ["value", "letters"] (sp_is_letter K)) (c_is_integer : Cal P w K mg base CX0 1 "is_integer" s_is_integer ["value"] (sp_is_integer K)) : FnOk P w K mg base (L2.CX P w) 3 f fd ["self", "at", "worth"] (sp_Weights_setitem K CF CN CW) := by
  refine F.okX sc_Weights_setitem (fun vs H Q E h => ?_) (fun cdv A outer s H vs Q E hr h => ?_)
  · obtain ⟨x, nd, fs, e, v, y, z, rfl, _⟩ := h
    rfl
  obtain ⟨x, nd, fs, e, v, y, z, rfl, hW, h⟩ := h
  refine ⟨_, (pss_cons (ps_if (pt_not (pt_val (pe_c c_is_letter hr (by decide) (by rfl) (pa_cons (pv 1) (pa_cons (pe_fld (pv 0) rfl) pa_nil)))))
        (pss_one (ps_raise rfl (takes_of rfl rfl rfl rfl) (pmk_oex TF.oex TF.init TF.tI FF (hr.mono (by decide)) bF .nil pass0 (by rfl) TF.g (pa_cons (pv 1) pa_nil)))) pss_nil)
    (pss_cons (ps_if (pt_not (pt_val (pe_c c_is_integer hr (by decide) (by rfl) (pa_cons (pv 2) pa_nil))))
        (pss_one (ps_raise rfl (takes_of rfl rfl rfl rfl) (pmk_oex TN.oex TN.init TN.tI FN (hr.mono (by decide)) bN .nil pass0 (by rfl) TN.g (pa_cons (pv 2) pa_nil)))) pss_nil)
    (pss_one (ps_asg (pv 2) (pg_sub (pe_fld (pv 0) rfl) (pv 1) (set_dict (hu_of hr))))))), ?_⟩
  obtain ⟨dx, hx⟩ := hW.at_
  rcases h with ⟨c, n, rfl, hc, rfl, q⟩ | ⟨hask, hno, q⟩ | ⟨c, rfl, hc, hno, hask, q⟩
  · refine ⟨_, rfl, _, rfl, x, CW, dx, _, _, rfl, hx, WC.c, WC.nf, rfl, _, fs, rfl, .inl ⟨rfl, (show 1 ≤ 100000 by decide)⟩, fun H1 s1 => ⟨_, rfl, ?_⟩⟩
    rw [letter_of hc]
    refine iteF ⟨_, rfl, .int n, rfl, .inl rfl, _, rfl, iteF ?_⟩
    obtain ⟨sB, hW'⟩ := hW.put (n := n) s1 hc
    refine ⟨_, rfl, _, rfl, x, CW, dx, _, _, rfl, s1 _ _ hx, WC.c, WC.nn, rfl, _, rfl, nd, _, rfl, DPut.k (k := Sum.inr (S [c])) (s1 _ _ hW.num) ?_, q _ sB hW'⟩
    show (List.map _ fs).length < _
    rw [List.length_map]
    exact Nat.lt_of_le_of_lt hW.fl (by decide)
  · refine ⟨_, rfl, _, rfl, x, CW, dx, _, _, rfl, hx, WC.c, WC.nf, rfl, y, fs, rfl, hask, fun H1 s1 => ⟨_, rfl, ?_⟩⟩
    rw [hno]
    exact iteT ⟨_, rfl, mk1 TF nF fun dd hdd => q _ dd s1 hdd⟩
  · refine ⟨_, rfl, _, rfl, x, CW, dx, _, _, rfl, hx, WC.c, WC.nf, rfl, _, fs, rfl, .inl ⟨rfl, (show 1 ≤ 100000 by decide)⟩, fun H1 s1 => ⟨_, rfl, ?_⟩⟩
    rw [letter_of hc]
    refine iteF ⟨_, rfl, z, rfl, hask _ s1, _, rfl, ?_⟩
    rw [hno]
    exact iteT ⟨_, rfl, mk1 TN nN fun dd hdd => q _ dd s1 hdd⟩
abbrev s_Weights_put : Stmt := inCls (topS 26) 2
theorem sc_Weights_put : FnScope ["self", "face", "number"] ["self", "face", "number"] (defScope s_Weights_put) := ⟨rfl, rfl, rfl, by decide +kernel, rfl, by decide +kernel, by decide +kernel⟩
theorem okx_Weights_put {f CF CN CW fS : Addr} {fd fdS : FuncData} (F : Fun K "put" "Weights.put" s_Weights_put f fd) (hq : PySem.W.noSeq K CW = true) (hs : PySem.W.findIn K (.ref CW) "__setitem__" = some (some (.ref fS))) (hf : PySem.W.isFn K (.ref fS) = true)
    (FS : FnOk P w K mg base (L2.CX P w) 3 fS fdS ["self", "at", "worth"] (sp_Weights_setitem K CF CN CW)) (bS : Binds K fdS ["self", "at", "worth"] []) : FnOk P w K mg base (L2.CX P w) 4 f fd ["self", "face", "number"] (sp_Weights_setitem K CF CN CW) := by
  refine F.okX sc_Weights_put (fun vs H Q E h => ?_) (fun cdv A outer s H vs Q E hr h => ?_)
  · obtain ⟨x, nd, fs, e, v, y, z, rfl, _⟩ := h
    rfl
  obtain ⟨x, nd, fs, e, v, y, z, rfl, hW, h⟩ := h
  refine ⟨_, (pss_one (ps_asg (pv 2) (pg_sub (pv 0) (pv 1) (set_own hq hs hf (FS.raw bS .nil) hr (passes_call (E := E) (takes_of rfl rfl rfl rfl) (fun _ _ _ _ h => h)))))), ?_⟩
  obtain ⟨dx, hx⟩ := hW.at_
  refine ⟨_, rfl, _, rfl, _, rfl, x, dx, _, rfl, hx, ?_⟩
  refine ⟨x, nd, fs, e, v, y, z, rfl, hW, ?_⟩
  rcases h with ⟨c, n, rfl, hc, rfl, q⟩ | h | h
  · exact .inl ⟨c, n, rfl, hc, rfl, fun H' s w => q H' s w⟩
  · exact .inr (.inl h)
  · exact .inr (.inr h)
abbrev s_Weights_call : Stmt := inCls (topS 26) 7
theorem sc_Weights_call : FnScope ["self", "room", "face"] ["self", "room"] (defScope s_Weights_call) := ⟨rfl, rfl, rfl, by decide +kernel, rfl, by decide +kernel, by decide +kernel⟩
def sp_Weights_call (K : PySem.W.Frag) (CS CW : Addr) : Sp := fun vs H Q E => ∃ (x nd : Addr) (F : List Nat) (e : Int) (v : Nat → Int) (y : V), vs = [.ref x, y] ∧ WtA CW H x nd F e v ∧
  ((∃ rm : List Nat, y = .str (S rm) ∧ bRoom y (S F) = true ∧ rm.length ≤ 1000 ∧ (∀ c ∈ rm, c ∈ F) ∧ ∀ H', Same H H' → Q (.int (e + (rm.map v).sum)) H') ∨
   (((isStr y = true ∧ (strOf y).cps.size ≤ 100000) ∨ (isStr y = false ∧ NotS K H y)) ∧ bRoom y (S F) = false ∧ ∀ H' dd, Same H H' → H' dd = none → E (.ref CS) (some dd) (upd H' dd (Err1 "given" "InvalidString" y))))
theorem okx_Weights_call {f CS CW fS : Addr} {fd fdS : FuncData} (F : Fun K "__call__" "Weights.__call__" s_Weights_call f fd) (T : Z mg) (WC : WtC K CW) (TS : Kls K mg CS fS "InvalidString") (nS : PySem.W.findIn K (.ref CS) (Str.ofString "given") = some none) (FS : FnOk P w K mg base CX0 1 fS fdS ["self", "given"] (sp_init K "given")) (bS : Binds K fdS ["self", "given"] [])
    (c_is_room : Cal P w K mg base CX0 2 "is_room" s_is_room ["value", "faces"] (sp_is_room K)) : FnOk P w K mg base (L2.CX P w) 3 f fd ["self", "room"] (sp_Weights_call K CS CW) := by
  refine F.okX sc_Weights_call (fun vs H Q E h => ?_) (fun cdv A outer s H vs Q E hr h => ?_)
  · obtain ⟨x, nd, fs, e, v, y, rfl, _⟩ := h
    rfl
  obtain ⟨x, nd, fs, e, v, y, rfl, hW, h⟩ := h
  refine ⟨_, (pss_cons (ps_if (pt_not (pt_val (pe_c c_is_room hr (by decide) (by rfl) (pa_cons (pv 1) (pa_cons (pe_fld (pv 0) rfl) pa_nil)))))
        (pss_one (ps_raise rfl (takes_of rfl rfl rfl rfl) (pmk_oex TS.oex TS.init TS.tI FS (hr.mono (by decide)) bS .nil pass0 (by rfl) TS.g (pa_cons (pv 1) pa_nil)))) pss_nil)
    (pss_one (ps_ret (pe_op op_add (pe_fld (pv 0) rfl) (pe_callB (cr_sum rfl) (by rfl) T.z_sum (by decide +kernel) (pa_cons (pe_lc (own := [("face", 2)]) (g := (gName 2)) (by rfl) sc_Weights_call.nd (pi_str (pv 1)) (blkOk_by (N := ["self", "room", "face"]) (sc := defScope s_Weights_call) (by decide +kernel)) (fun _ _ _ _ _ => (pg_name (i := 2) sc_Weights_call.nd rfl (.inl rfl))) (fun _ _ _ _ _ => pts_nil) (fun _ _ _ _ _ => (pe_dget (td := tFld K (tVar 0) "_numbers") (hu_of hr) (pe_fld (ta := tVar 0) (pv 0) rfl) (pv 2) (fun _ _ => rfl)))) pa_nil)))))), ?_⟩
  obtain ⟨dx, hx⟩ := hW.at_
  rcases h with ⟨rm, rfl, hb, hl, hin, q⟩ | ⟨hask, hno, q⟩
  · refine ⟨_, rfl, _, rfl, x, CW, dx, _, _, rfl, hx, WC.c, WC.nf, rfl, _, _, rfl, .inl ⟨rfl, (show rm.length ≤ 100000 by omega)⟩, fun H1 s1 => ⟨_, rfl, ?_⟩⟩
    rw [hb]
    refine iteF ⟨_, rfl, x, CW, dx, _, _, rfl, s1 _ _ hx, WC.c, WC.ne, rfl, _, rfl, _, rfl, fun D nD => ?_⟩
    refine lc_strP (i := 2) (fun _ => true) (fun c => .int (v c)) nD (Nat.lt_of_le_of_lt (show rm.length ≤ 1000 from hl) (by decide)) (fun _ => rfl) (fun c _ H _ R h => h) (fun c hc _ H s R h => ?_) ?_
    · have hc' : c ∈ fs := hin c hc
      have hg := DGet.k (k := Sum.inr (S [c])) (s _ _ (s1 _ _ hW.num))
      rw [numK_val _ hc'] at hg
      exact ⟨_, rfl, x, CW, dx, _, _, rfl, s _ _ (s1 _ _ hx), WC.c, WC.nn, rfl, _, rfl, nd, _, rfl, hg, h⟩
    · rw [show ((S rm).cps.toList.filter fun _ => true) = rm from List.filter_eq_self.mpr fun _ _ => rfl]
      refine ⟨D, rm.map v, rfl, .inl (.inl ?_), _, _, rfl, rfl, q _ (s1.trans (same_upd nD))⟩
      rw [upd_same, List.map_map]
      rfl
  · refine ⟨_, rfl, _, rfl, x, CW, dx, _, _, rfl, hx, WC.c, WC.nf, rfl, y, _, rfl, hask, fun H1 s1 => ⟨_, rfl, ?_⟩⟩
    rw [hno]
    exact iteT ⟨_, rfl, mk1 TS nS fun dd hdd => q _ dd s1 hdd⟩
end
end FW
namespace FW
open PySem PySem.Spec PyProof.Rows L2
/-! ### a lambda, with or without defaults, given to a def that calls it -/
section
variable {X : Cx}
/-- what the giving reads -/
def tGive {X : Cx} {k : Nat} (T : List (Addr × Str)) (TT : (XK → Hp → VK → Prop) → Hp → VK → Prop) (a : AskS X k) : TE := fun σ H Q => LamX.Tabs T H ∧ ∀ H1, LamX.ExtN H H1 → LamX.Tabs T H1 → TT (fun E H' Q' => a.tb (a.js.map (NdefX.slotAt σ)) E H' Q') H1 Q
theorem pe_give {T : List (Addr × Str)} {TT : (XK → Hp → VK → Prop) → Hp → VK → Prop} {k : Nat} {x a : Str} {g : Addr} {pg : Arguments} {bg : List Stmt} {sg : Scope} {dV kV doc pm cdv ct oc : Value} {an od : Option Addr} {osl : Array (Option Value)} {Ng : List Str} {e : Expr} {p pos : Pos}
    (L : AskS X k) (he : PE X e (tLamV T L.lam L.dvs)) (hfn : ∀ x, X.fn x = true) (hst : X.stack = X.env :: X.outer) (hf : X.env.frame = some X.env.locals)
    (hTT : ∀ (tl tl' : XK → Hp → VK → Prop) (H : Hp) (Q : VK), (∀ E Q', tl E H Q' → tl' E H Q') → TT tl H Q → TT tl' H Q)
    (hg : Gl X x) (hm : X.mg x = some (.ref g)) (hk : PySem.W.keepIn X.K (.ref g) = true) (lk : X.K.lookup g = some ⟨oc, od, .func (PySem.W.fnOf x x pg bg sg dV kV doc pm an cdv ct), osl⟩) (hcg : PySem.W.codeIn X.K cdv x = true)
    (hb : L2.Binds X.K (PySem.W.fnOf x x pg bg sg dV kV doc pm an cdv ct) [a] []) (Sg : FnScope Ng [a] sg) (hNg : Ng[0]? = some a) (hva : Vis sg a) (hG : ∀ (b2 : Heap) (q : Str), LamX.GivesTo { X with base := b2 } Ng x sg g cdv bg a q TT) (hr : Room (k + 1) X.A)
    (hdb : (x == ("__debug__" : Str)) = false := by decide) (hd : (a == ("__debug__" : Str)) = false := by decide) (hcd : (a == ("__classdict__" : Str)) = false := by decide) (hse : starEach [e] X.env = [(false, eval e X.env)] := by rfl) :
    PE X (.Call (.Name x p) [e] [] pos) (tGive T TT L) := by
  refine ⟨fun pins s σ H Q I h => ?_⟩
  obtain ⟨hT, h⟩ := h
  refine wpAny_Call_Name_kw (ld_glob I hg hm ?_ hdb)
  refine PySem.W.callWith_K (h₀ := X.base) I.ok.mod.kin hk (thn ((pa_cons he pa_nil hse).run pos pins s σ H (fun vs H1 => ∃ (f c' : Addr) (dV : Value), vs = [.ref f] ∧ LamAt H1 f (L.lam c' dV) L.dvs ∧ TT (fun E H' Q' => L.tb (L.js.map (NdefX.slotAt σ)) E H' Q') H1 Q) I ⟨hT, fun f c' dV H1 e1 t1 _ la => ⟨f, c', dV, rfl, la, h H1 e1 t1⟩⟩) fun us s1 ⟨vs, H1, I1, r1, q1⟩ => ⟨I1.kIn, ?_⟩) hse (by rfl)
  obtain ⟨f, c', dV', rfl, la, ht⟩ := q1
  cases r1 with
  | @cons _ u _ ur r0 rr =>
  cases rr
  obtain rfl : u = Value.ref f := r0
  obtain ⟨b2, sub, sz, e0, kc⟩ := ground_cells I1 hfn hst hf
  have cp := L.caps I1.ok c' dV'
  have C := cells_in (b2 := b2) (NdefX.cells_of I1 cp) (fun y c e => ⟨y, cp.sub y c e⟩) kc
  have rc : codeAny (model X.prog X.w) X.A (.call (.ref g) ⟨[.ref f], []⟩) (CR C8.CX0 X.stack X.prog X.w H1 s1 Q C8.E0) s1 := by
    refine LamX.run_ofS (N := Ng) (ps := [a]) (us := [.ref f]) (vs := [.ref f]) lk hcg Sg hr e0 (hb s1 [.ref f] I1.kIn rfl) (.cons rfl .nil) rfl fun hr' => ?_
    obtain ⟨t', ht', hq'⟩ := hG b2 (L.lam c' dV').F.qual f (L.lam c' dV').F.c s1 H1 Q (fun E H' Q' => LamAt H' f (L.lam c' dV') L.dvs ∧ L.tb (L.js.map (NdefX.slotAt σ)) E H' Q')
      (fun W pn xe E p1 p2 tk hW => pe_ask (Z := (cxOf C8.CX0 X.prog X.w X.K X.mg b2 Ng x sg g cdv X.A X.stack s1 H1 C8.E0).tr pn xe) (base := X.base) (L.run c' dV') C I1.ok.mod sub sz hr' (passes_call tk hW) hNg hva hd hcd)
      la.co (hTT _ _ H1 Q (fun E Q' z => ⟨la, z⟩) ht)
    exact ⟨t', ht'.nox, hq'⟩
  refine wpAny_call (codeAny_mono rc fun r s2 hq => ?_)
  cases r with
  | error e => exact (show False from hq).elim
  | ok fl =>
    cases fl with
    | ret u => exact I1.after hq
    | next => exact False.elim hq
    | brk => exact False.elim hq
    | cont => exact False.elim hq
/-- f(k = e ..) in a lambda, f may raise -/
theorem pe_ckx0 {CX : CXT} {x : Str} {st : Stmt} {ps ks : List Str} {sp : Sp} {k j : Nat} {E : XK} {kws : List Keyword} {tk : TA} {p pos : Pos} {g : List Value → List Value → List Value} {gV : List V → List V → List V} (c : Cal X.prog X.w X.K X.mg X.base CX k x st ps sp) (b : KB X.K x st ps ks g gV) (hr : Room j X.A) (hk : k ≤ j) (hg : Gl X x) (hx : Passes CX X E) (hkw : PK X kws tk)
    (hall : (backToKw pos (keywordEach kws X.env)).all (·.1.isSome) = true := by rfl) (hks : (backToKw pos (keywordEach kws X.env)).filterMap (·.1) = ks := by rfl)
    (hdb : (x == ("__debug__" : Str)) = false := by decide)
    (hpl : ((backTo pos (starEach [] X.env)).any (·.1) || (backToKw pos (keywordEach kws X.env)).any (·.1.isNone)) = false := by rfl) :
    PE X (.Call (.Name x p) [] kws pos) (tCallK sp gV E tNil tk) := by
  obtain ⟨f, fd, F, hm, fn, _⟩ := c.ex
  exact pe_callK0 F (hr.mono hk) hg hm fn.kp (b f fd fn) hx hkw hall hks hdb hpl
end
end FW
/-! fractions in lowest terms -/
namespace FW
open PySem PySem.Spec PyProof.Rows L2
def gcdI (t b : Int) : Int := ((Nat.gcd t.natAbs b.natAbs : Nat) : Int)
def byI (t b : Int) : Int := if b < 0 then -(gcdI t b) else gcdI t b
def low (t b : Int) : Int × Int := (t.fdiv (byI t b), b.fdiv (byI t b))
theorem gcdI_pos {t b : Int} (h : b ≠ 0) : 0 < gcdI t b := by
  have : 0 < Nat.gcd t.natAbs b.natAbs := Nat.gcd_pos_of_pos_right _ (by omega)
  unfold gcdI
  omega
theorem byI_ne {t b : Int} (h : b ≠ 0) : byI t b ≠ 0 := by
  have := gcdI_pos (t := t) h
  unfold byI
  split <;> omega
theorem gcdI_le {t b : Int} (h : b ≠ 0) : (gcdI t b).natAbs ≤ b.natAbs := by
  have : Nat.gcd t.natAbs b.natAbs ≤ b.natAbs := Nat.gcd_le_right _ (by omega)
  unfold gcdI
  omega
theorem byI_le {t b : Int} (h : b ≠ 0) : (byI t b).natAbs ≤ b.natAbs := by
  have := gcdI_le (t := t) h
  unfold byI
  split <;> omega
/-- what lowest terms are -/
structure Low (t b : Int) : Prop where
  pos : 0 < b
  cop : Nat.gcd t.natAbs b.natAbs = 1
theorem low_mk {t b : Int} (h : b ≠ 0) : Low (low t b).1 (low t b).2 ∧ t = byI t b * (low t b).1 ∧ b = byI t b * (low t b).2 := by
  have gp := gcdI_pos (t := t) h
  obtain ⟨u, hu⟩ : ((Nat.gcd t.natAbs b.natAbs : Nat) : Int) ∣ t := Int.ofNat_dvd_left.mpr (Nat.gcd_dvd_left _ _)
  obtain ⟨v, hv⟩ : ((Nat.gcd t.natAbs b.natAbs : Nat) : Int) ∣ b := Int.ofNat_dvd_left.mpr (Nat.gcd_dvd_right _ _)
  have eu : t.natAbs = Nat.gcd t.natAbs b.natAbs * u.natAbs := by
    have := congrArg Int.natAbs hu
    rwa [Int.natAbs_mul, Int.natAbs_natCast] at this
  have ev : b.natAbs = Nat.gcd t.natAbs b.natAbs * v.natAbs := by
    have := congrArg Int.natAbs hv
    rwa [Int.natAbs_mul, Int.natAbs_natCast] at this
  have hg : Nat.gcd t.natAbs b.natAbs = Nat.gcd t.natAbs b.natAbs * Nat.gcd u.natAbs v.natAbs := by
    have := Nat.gcd_mul_left (Nat.gcd t.natAbs b.natAbs) u.natAbs v.natAbs
    rw [← eu, ← ev] at this
    exact this
  have hgp : 0 < Nat.gcd t.natAbs b.natAbs := Nat.gcd_pos_of_pos_right _ (by omega)
  have hc : Nat.gcd u.natAbs v.natAbs = 1 := Nat.eq_of_mul_eq_mul_left hgp (by rw [← hg, Nat.mul_one])
  have hgd : gcdI t b = ((Nat.gcd t.natAbs b.natAbs : Nat) : Int) := rfl
  rw [← hgd] at hu hv
  by_cases hb : b < 0
  · have e : byI t b = -(gcdI t b) := by unfold byI; rw [if_pos hb]
    have e1 : (low t b).1 = -u := by
      show t.fdiv (byI t b) = -u
      rw [e]
      have : t = -(gcdI t b) * (-u) := by rw [Int.neg_mul_neg]; exact hu
      conv => lhs; arg 1; rw [this]
      exact Int.mul_fdiv_cancel_left _ (by omega)
    have e2 : (low t b).2 = -v := by
      show b.fdiv (byI t b) = -v
      rw [e]
      have : b = -(gcdI t b) * (-v) := by rw [Int.neg_mul_neg]; exact hv
      conv => lhs; arg 1; rw [this]
      exact Int.mul_fdiv_cancel_left _ (by omega)
    rw [e1, e2, e]
    refine ⟨⟨?_, by rw [Int.natAbs_neg, Int.natAbs_neg]; exact hc⟩, by rw [Int.neg_mul_neg]; exact hu, by rw [Int.neg_mul_neg]; exact hv⟩
    have : gcdI t b * v < 0 := by omega
    have hv0 : v < 0 := by
      rcases Int.lt_or_le v 0 with h1 | h1
      · exact h1
      · have := Int.mul_nonneg (Int.le_of_lt gp) h1
        omega
    omega
  · have e : byI t b = gcdI t b := by unfold byI; rw [if_neg hb]
    have e1 : (low t b).1 = u := by
      show t.fdiv (byI t b) = u
      rw [e]
      conv => lhs; arg 1; rw [hu]
      exact Int.mul_fdiv_cancel_left _ (by omega)
    have e2 : (low t b).2 = v := by
      show b.fdiv (byI t b) = v
      rw [e]
      conv => lhs; arg 1; rw [hv]
      exact Int.mul_fdiv_cancel_left _ (by omega)
    rw [e1, e2, e]
    refine ⟨⟨?_, hc⟩, hu, hv⟩
    have : 0 < gcdI t b * v := by omega
    rcases Int.lt_or_le 0 v with h1 | h1
    · exact h1
    · have := Int.mul_nonpos_of_nonneg_of_nonpos (Int.le_of_lt gp) h1
      omega
theorem low_le {t b : Int} (h : b ≠ 0) : (low t b).1.natAbs ≤ t.natAbs ∧ (low t b).2.natAbs ≤ b.natAbs := by
  obtain ⟨_, h1, h2⟩ := low_mk (t := t) h
  have hb := byI_ne (t := t) h
  have p : 1 ≤ (byI t b).natAbs := by omega
  constructor
  · conv => rhs; rw [h1]
    rw [Int.natAbs_mul]
    exact Nat.le_mul_of_pos_left _ p
  · conv => rhs; rw [h2]
    rw [Int.natAbs_mul]
    exact Nat.le_mul_of_pos_left _ p
theorem low_scale {t b m : Int} (h : Low t b) (hm : 0 < m) : low (t * m) (b * m) = (t, b) := by
  have hp : 0 < b * m := Int.mul_pos h.pos hm
  have e : byI (t * m) (b * m) = m := by
    unfold byI gcdI
    rw [if_neg (by omega), Int.natAbs_mul, Int.natAbs_mul, Nat.gcd_mul_right, h.cop, Nat.one_mul]
    omega
  unfold low
  rw [e, Int.mul_fdiv_cancel _ (by omega), Int.mul_fdiv_cancel _ (by omega)]
theorem low_low {t b : Int} (h : b ≠ 0) : low (low t b).1 (low t b).2 = low t b := by
  have := low_scale (low_mk (t := t) h).1 (show (0 : Int) < 1 by decide)
  rwa [Int.mul_one, Int.mul_one] at this
/-- Euclid's turns -/
structure Euc (g : Nat) (i : Nat) (a b : Nat) : Prop where
  gcd : Nat.gcd a b = g
  la : a < 2 ^ 120
  lb : b < 2 ^ 120
  dec : i = 0 ∨ (b ≤ a ∧ a * b * 2 ^ (i - 1) ≤ 2 ^ 240)
theorem Euc.start {a b : Nat} (ha : a < 2 ^ 120) (hb : b < 2 ^ 120) : Euc (Nat.gcd a b) 0 a b := ⟨rfl, ha, hb, .inl rfl⟩
theorem Euc.next {g i a b : Nat} (e : Euc g i a b) (hb : 0 < b) : Euc g (i + 1) b (a % b) := by
  have hm : a % b < b := Nat.mod_lt _ hb
  refine ⟨by rw [← e.gcd, Nat.gcd_comm a b, Nat.gcd_rec b a, Nat.gcd_comm], e.lb, Nat.lt_trans hm e.lb, .inr ⟨Nat.le_of_lt hm, ?_⟩⟩
  rw [Nat.add_sub_cancel]
  rcases e.dec with h0 | ⟨hle, h⟩
  · subst h0
    rw [Nat.pow_zero, Nat.mul_one]
    have h1 : b * (a % b) ≤ 2 ^ 120 * 2 ^ 120 := Nat.mul_le_mul (Nat.le_of_lt e.lb) (Nat.le_of_lt (Nat.lt_trans hm e.lb))
    rwa [← Nat.pow_add] at h1
  · rcases Nat.eq_zero_or_pos i with hi | hi
    · subst hi
      rw [Nat.pow_zero, Nat.mul_one]
      have h1 : b * (a % b) ≤ 2 ^ 120 * 2 ^ 120 := Nat.mul_le_mul (Nat.le_of_lt e.lb) (Nat.le_of_lt (Nat.lt_trans hm e.lb))
      rwa [← Nat.pow_add] at h1
    · obtain ⟨j, rfl⟩ : ∃ j, i = j + 1 := ⟨i - 1, by omega⟩
      rw [Nat.add_sub_cancel] at h
      have h2 : 2 * (a % b) ≤ a := by
        have h3 := Nat.div_add_mod a b
        have h4 : 1 ≤ a / b := (Nat.one_le_div_iff hb).mpr hle
        have h5 : b * 1 ≤ b * (a / b) := Nat.mul_le_mul_left b h4
        omega
      calc b * (a % b) * 2 ^ (j + 1) = b * (2 * (a % b)) * 2 ^ j := by
            rw [Nat.pow_succ]
            rw [Nat.mul_comm (2 ^ j) 2, ← Nat.mul_assoc, Nat.mul_assoc b, Nat.mul_comm (a % b) 2]
        _ ≤ b * a * 2 ^ j := Nat.mul_le_mul_right _ (Nat.mul_le_mul_left b h2)
        _ = a * b * 2 ^ j := by rw [Nat.mul_comm b a]
        _ ≤ 2 ^ 240 := h
theorem Euc.last {g a b : Nat} (e : Euc g 4000 a b) : a = g := by
  rcases e.dec with h | ⟨hle, h⟩
  · cases h
  · have hb : b = 0 := by
      rcases Nat.eq_zero_or_pos b with h0 | h0
      · exact h0
      · have h1 : 1 * 2 ^ 3999 ≤ a * b * 2 ^ (4000 - 1) := Nat.mul_le_mul_right _ (Nat.mul_pos (Nat.lt_of_lt_of_le h0 hle) h0)
        have h2 : (2 : Nat) ^ 3999 ≤ 2 ^ 240 := by
          rw [Nat.one_mul] at h1
          exact Nat.le_trans h1 h
        exact absurd ((Nat.pow_le_pow_iff_right (by decide : 1 < 2)).mp h2) (by decide)
    rw [← e.gcd, hb, Nat.gcd_zero_right]
theorem Euc.done {g i a : Nat} (e : Euc g i a 0) : a = g := by rw [← e.gcd, Nat.gcd_zero_right]
def CDivN9 (i j : Int) : Prop := j ≠ 0 ∧ j.natAbs < 2 ^ 120
theorem op_fdivN9 {X : Cx} : OpR X (binaryOp .FloorDiv) (rI CDivN9 fun i j => .int (i.fdiv j)) := opI fun _ _ _ _ _ _ _ hc q => floordiv_int hc.1 q (.inl (PyProof.noPylong_of_log2 (Nat.lt_of_lt_of_le (PySem.Flt.log2_lt_of (k := 120) (by decide) hc.2) (by decide))))
end FW
namespace FW
open PySem PySem.Spec PyProof.Rows L2
-- more
section
variable {P : Program} {w : World} {K : PySem.W.Frag} {mg : Str → Option Value} {base : Heap}
def sp__law_drawW (K : PySem.W.Frag) : Sp := fun vs H Q _ => ∃ (b l : Addr) (k : Int), vs = [.ref b, .int k] ∧ Bag H b l ∧ 0 < k ∧ k < 2 ^ 100 ∧ ∀ H' z, 0 ≤ z → z < k → But b H H' → Bag H' b l → Q (.int z) H'
theorem okW__law_draw {f : Addr} {fd : FuncData} (F : Fun K "_law_draw" "_law_draw" s__law_draw f fd) (T : Z mg) : FnOk P w K mg base CX0 1 f fd ["_law_bag", "_law_many"] (sp__law_drawW K) := by
  refine F.ok sc__law_draw (fun vs H Q E h => ?_) (fun cdv A outer s H vs Q E hr h => ?_)
  · obtain ⟨b, l, k, rfl, _⟩ := h
    rfl
  · obtain ⟨b, l, k, rfl, ⟨ns, i, r, m, c, hb, hL, hlen, hi, hm0, hm1⟩, hk, hk2, q⟩ := h
    have nlb : l ≠ b := ne_of hL hb bag_ne
    refine ⟨_, (pss_cons (ps_asg (pe_op op_add (pe_ix ix_list (pv 0) pe_int (fun _ _ => rfl)) pe_int) (pg_sub (pv 0) pe_int set_list))
      (C8.pss_cut (ps_if (PW.pt (pw_and (pt_cmpR op_eq (pe_ix ix_list (pv 0) pe_int (fun _ _ => rfl)) pe_int (nomark _)) (pw_and1 (pt_cmpR op_lt (pe_ix ix_list (pv 0) pe_int (fun _ _ => rfl)) (pe_callB call_len (by rfl) T.z_len (by decide +kernel) (pa_cons (pe_ix ix_list (pv 0) pe_int (fun _ _ => rfl)) pa_nil)) (nomark _))))) (pss_cons (ps_set (i := 2) sc__law_draw.nd rfl (.inl rfl) (pe_ix ix_list (pe_ix ix_list (pv 0) pe_int (fun _ _ => rfl)) (pe_ix ix_list (pv 0) pe_int (fun _ _ => rfl)) (fun _ _ => rfl)))
      (pss_cons (ps_asg (pe_op op_add (pe_ix ix_list (pv 0) pe_int (fun _ _ => rfl)) pe_int) (pg_sub (pv 0) pe_int set_list))
      (pss_one (ps_if (pt_cmpR op_ge (pe_callB call_abs (by rfl) T.z_abs (by decide +kernel) (pa_cons (pv 2) pa_nil)) (pe_op op_pow pe_int pe_int) (nomark _)) (pss_one (ps_asg (pe_callB call_abs (by rfl) T.z_abs (by decide +kernel) (pa_cons (pv 2) pa_nil)) (pg_sub (pv 0) pe_int set_list))) (pss_one (ps_asg (pe_op op_mod (pe_callTy call_int1 (by rfl) T.z_int (by decide +kernel) (pa_cons (pe_op op_add (pe_op op_add (pe_op op_mul (pe_ix ix_list (pv 0) pe_int (fun _ _ => rfl)) pe_int) (pe_op op_mul (pe_op op_mod (pe_callTy call_int1 (by rfl) T.z_int (by decide +kernel) (pa_cons (pv 2) pa_nil)) pe_int) pe_int)) pe_int) pa_nil)) pe_int) (pg_sub (pv 0) pe_int set_list))))))) pss_nil)
      (pss_cons (ps_if (pt_cmpR op_gt (pe_ix ix_list (pv 0) pe_int (fun _ _ => rfl)) pe_int (nomark _)) (pss_cons (ps_set (i := 3) sc__law_draw.nd rfl (.inl rfl) (pe_op op_mod (pe_callTy call_int1 (by rfl) T.z_int (by decide +kernel) (pa_cons (pe_ix ix_list (pv 0) pe_int (fun _ _ => rfl)) pa_nil)) (pv 1)))
      (pss_cons (ps_asg (pe_op op_fdivN9 (pe_ix ix_list (pv 0) pe_int (fun _ _ => rfl)) (pv 1)) (pg_sub (pv 0) pe_int set_list))
      (pss_one (ps_ret (pv 3))))) pss_nil)
      (pss_cons (ps_set (i := 4) sc__law_draw.nd rfl (.inl rfl) (pe_op op_mod (pe_callTy call_int1 (by rfl) T.z_int (by decide +kernel) (pa_cons (pe_op op_add (pe_op op_mul (pe_ix ix_list (pv 0) pe_int (fun _ _ => rfl)) (pe_ix ix_list (pv 0) pe_int (fun _ _ => rfl))) (pe_op op_mul (pe_ix ix_list (pv 0) pe_int (fun _ _ => rfl)) pe_int)) pa_nil)) pe_int))
      (pss_cons (ps_asg (pe_op op_mod (pe_callTy call_int1 (by rfl) T.z_int (by decide +kernel) (pa_cons (pe_op op_add (pe_op op_add (pe_op op_mul (pv 4) pe_int) (pe_op op_mul (pe_ix ix_list (pv 0) pe_int (fun _ _ => rfl)) pe_int)) pe_int) pa_nil)) pe_int) (pg_sub (pv 0) pe_int set_list))
      (pss_one (ps_ret (pe_op op_mod (pe_callTy call_int1 (by rfl) T.z_int (by decide +kernel) (pa_cons (pe_op op_fdivN (pe_ix ix_list (pv 0) pe_int (fun _ _ => rfl)) pe_int) pa_nil)) (pv 1))))))))), ?_⟩
    -- bag[4] += 1
    refine ⟨_, rfl, b, _, 4, _, rfl, rfl, SqL.of hb, rfl, _, _, rfl, rfl, _, rfl, b, _, 4, 4, rfl, rfl, hb, rfl, ?_⟩
    have B1 : BagAt H (upd H b (.lst [.ref l, .int i, .int r, .int m, .int (c + 1)])) b l ns := ⟨(But.refl b H).upd, by rw [upd_ne nlb]; exact hL, i, r, m, c + 1, upd_same, hi, hm0, hm1⟩
    refine ⟨fun σ' H1 => ∃ x2 x3 x4, σ' = [some (.ref b), some (.int k), x2, x3, x4] ∧ BagAt H H1 b l ns, ?_, ?_⟩
    · have hL1 : (upd H b (.lst [.ref l, .int i, .int r, .int m, .int (c + 1)])) l = some (.lst (ns.map V.int)) := by rw [upd_ne nlb]; exact hL
      refine ⟨_, rfl, b, _, 2, _, rfl, rfl, SqL.of upd_same, rfl, rfl, _, rfl, ite2 (fun _ => ?_) (fun _ => ?_)⟩
      · refine ⟨_, rfl, b, _, 1, _, rfl, rfl, SqL.of upd_same, rfl, _, rfl, b, _, 0, _, rfl, rfl, SqL.of upd_same, rfl, _, _, rfl, .inl ⟨_, SqL.of hL1, rfl⟩, _, _, rfl, rfl, _, rfl, ite2 (fun hlt => ?_) (fun _ => ?_)⟩
        · have hlt : i < ((ns.map V.int).length : Int) := of_decide_eq_true hlt
          rw [List.length_map] at hlt
          have hin : i.toNat < ns.length := by omega
          have hat : atI (ns.map V.int) i = some (.int ns[i.toNat]) := by
            have e : i = ((i.toNat : Nat) : Int) := by omega
            refine at_of e ?_
            rw [List.getElem?_map, List.getElem?_eq_getElem hin]
            rfl
          refine ⟨_, rfl, b, _, 0, _, rfl, rfl, SqL.of upd_same, rfl, _, rfl, b, _, 1, _, rfl, rfl, SqL.of upd_same, rfl, l, _, i, _, rfl, rfl, SqL.of hL1, hat, ?_⟩
          refine ⟨_, rfl, b, _, 1, _, rfl, rfl, SqL.of upd_same, rfl, _, _, rfl, rfl, _, rfl, b, _, 1, 1, rfl, rfl, upd_same, rfl, ?_⟩
          refine ⟨_, rfl, _, rfl, _, _, rfl, rfl, ⟨by decide, by decide, by decide⟩, _, _, rfl, rfl, _, rfl, ite2 (fun _ => ?_) (fun _ => ?_)⟩
          · refine ⟨_, rfl, _, rfl, _, rfl, b, _, 2, 2, rfl, rfl, upd_same, rfl, _, _, _, rfl, (((But.refl b H).upd).upd).upd, ?_, _, _, _, _, upd_same, ?_, hm0, hm1⟩
            · rw [upd_ne nlb, upd_ne nlb]
              exact hL1
            · omega
          · refine ⟨_, rfl, b, _, 3, _, rfl, rfl, SqL.of upd_same, rfl, _, _, rfl, rfl, .inr ⟨by decide, by decide⟩, _, rfl, .inl ⟨_, rfl, _, _, rfl, rfl, (show (0 : Int) < 1000033 by decide), _, _, rfl, rfl, .inr ⟨by decide, by decide⟩, _, _, rfl, rfl, _, _, rfl, rfl, .inl ⟨_, rfl, _, _, rfl, rfl, (show (0 : Int) < 2147483587 by decide), ?_⟩⟩⟩
            refine ⟨_, rfl, b, _, 3, 3, rfl, rfl, upd_same, rfl, _, _, _, rfl, (((But.refl b H).upd).upd).upd, ?_, _, _, _, _, upd_same, ?_, Int.emod_nonneg _ (by decide), Int.lt_trans (Int.emod_lt_of_pos _ (by decide)) (by decide)⟩
            · rw [upd_ne nlb, upd_ne nlb]
              exact hL1
            · omega
        · exact ⟨_, _, _, rfl, B1⟩
      · exact ⟨_, _, _, rfl, B1⟩
    · rintro σ' H1 ⟨x2, x3, x4, rfl, hbut, hL1, i1, r1, m1, c1, hb1, hi1, hm01, hm11⟩
      have fin : ∀ H2, But b H H2 → H2 l = some (.lst (ns.map V.int)) → ∀ i2 r2 m2 c2 : Int, H2 b = some (.lst [.ref l, .int i2, .int r2, .int m2, .int c2]) → 0 ≤ i2 → 0 ≤ m2 → m2 < 2147483648 → Bag H2 b l := fun H2 _ h2 i2 r2 m2 c2 h3 h4 h5 h6 => ⟨ns, i2, r2, m2, c2, h3, h2, hlen, h4, h5, h6⟩
      refine ⟨_, rfl, b, _, 2, _, rfl, rfl, SqL.of hb1, rfl, _, _, rfl, rfl, _, rfl, ite2 (fun _ => ?_) (fun _ => ?_)⟩
      · refine ⟨_, rfl, b, _, 2, _, rfl, rfl, SqL.of hb1, rfl, .inl ⟨_, rfl, _, rfl, _, _, rfl, rfl, hk, ?_⟩⟩
        refine ⟨_, rfl, b, _, 2, _, rfl, rfl, SqL.of hb1, rfl, _, rfl, _, _, rfl, rfl, ⟨by omega, by omega⟩, _, rfl, b, _, 2, 2, rfl, rfl, hb1, rfl, _, rfl, ?_⟩
        refine q _ _ (Int.emod_nonneg _ (by omega)) (Int.emod_lt_of_pos _ hk) hbut.upd (fin _ hbut.upd (by rw [upd_ne nlb]; exact hL1) _ _ _ _ upd_same hi1 hm01 hm11)
      · refine ⟨_, rfl, b, _, 3, _, rfl, rfl, SqL.of hb1, rfl, _, rfl, b, _, 3, _, rfl, rfl, SqL.of hb1, rfl, _, _, rfl, rfl, .inl ⟨by omega, by omega⟩, _, rfl, b, _, 4, _, rfl, rfl, SqL.of hb1, rfl, _, _, rfl, rfl, .inr ⟨by decide, by decide⟩, _, _, rfl, rfl, .inl ⟨_, rfl, _, _, rfl, rfl, (show (0 : Int) < 2147483629 by decide), ?_⟩⟩
        refine ⟨_, rfl, _, _, rfl, rfl, .inr ⟨by decide, by decide⟩, _, rfl, b, _, 3, _, rfl, rfl, SqL.of hb1, rfl, _, _, rfl, rfl, .inr ⟨by decide, by decide⟩, _, _, rfl, rfl, _, _, rfl, rfl, .inl ⟨_, rfl, _, _, rfl, rfl, (show (0 : Int) < 2147483587 by decide), ?_⟩⟩
        refine ⟨_, rfl, b, _, 3, 3, rfl, rfl, hb1, rfl, ?_⟩
        refine ⟨_, rfl, b, _, 3, _, rfl, rfl, SqL.of upd_same, rfl, _, _, rfl, rfl, ⟨by decide, by decide⟩, .inl ⟨_, rfl, _, rfl, _, _, rfl, rfl, hk, ?_⟩⟩
        refine q _ _ (Int.emod_nonneg _ (by omega)) (Int.emod_lt_of_pos _ hk) hbut.upd (fin _ hbut.upd (by rw [upd_ne nlb]; exact hL1) _ _ _ _ upd_same hi1 (Int.emod_nonneg _ (by decide)) (Int.lt_trans (Int.emod_lt_of_pos _ (by decide)) (by decide)))
abbrev s__law_some_weights : Stmt := topS 36
theorem sc__law_some_weights : FnScope ["_law_bag", "_law_faces", "_law_most", "_law_each_z", "_law_numbers_here", "_law_found", "_law_face", "_law_number"] ["_law_bag", "_law_faces", "_law_most"] (defScope s__law_some_weights) := ⟨rfl, rfl, rfl, by decide +kernel, rfl, by decide +kernel, by decide +kernel⟩
theorem vals_fun : ∀ {F : List Nat} {ns : List Int}, F.Nodup → ns.length = F.length → ∃ v : Nat → Int, F.map v = ns
  | [], [], _, _ => ⟨fun _ => 0, rfl⟩
  | [], _ :: _, _, h => by cases h
  | _ :: _, [], _, h => by cases h
  | a :: F, n :: ns, nd, h => by
    obtain ⟨h1, h2⟩ := List.nodup_cons.mp nd
    obtain ⟨v, hv⟩ := vals_fun h2 (Nat.succ.inj h)
    refine ⟨putV v a n, ?_⟩
    rw [List.map_cons]
    congr 1
    · exact if_pos rfl
    · rw [← hv]
      refine List.map_congr_left fun b hb => if_neg fun (e : b = a) => h1 (e ▸ hb)
def sp__law_some_weights (K : PySem.W.Frag) (CW : Addr) : Sp := fun vs H Q _ => ∃ (b lb : Addr) (F : List Nat) (m : Int), vs = [.ref b, .str (S F), .int m] ∧ Bag H b lb ∧ bFaces (.str (S F)) = true ∧ F.Nodup ∧ F.length ≤ 1000 ∧ 0 ≤ m ∧ m < 2 ^ 60 ∧
  ∀ H' p x nd pn e v, But b H H' → Bag H' b lb → H p = none → H x = none → H nd = none → H pn = none → H' p = some (.lst [.ref x, .int e, .ref pn]) → H' pn = some (.lst ((F.map v).map V.int)) → WtA CW H' x nd F e v → (-m ≤ e ∧ e ≤ m) → (∀ c ∈ F, -m ≤ v c ∧ v c ≤ m) → Q (.ref p) H'
def sp_init_of (K : PySem.W.Frag) (CI CF CN CW : Addr) (ks : List Str) : List V → List V → Hp → VK → XK → Prop := fun vs zs H Q E => ∃ a fa ea R, KwW (.int 0) vs (ks.zip zs) a fa ea R ∧ ∀ d, H d = none → sp_Weights_init K CI CF CN CW [a, fa, ea, .ref d] (upd H d (.dK (keysOf R))) Q E
theorem none_but {b : Addr} {H H' : Hp} {p : Addr} (s : But b H H') (h : H' p = none) (n : p ≠ b) : H p = none := by
  cases e : H p with
  | none => rfl
  | some o => rw [s _ _ n e] at h; cases h
theorem none_same {H H' : Hp} {p : Addr} (s : Same H H') (h : H' p = none) : H p = none := by
  cases e : H p with
  | none => rfl
  | some o => rw [s _ _ e] at h; cases h
theorem bag_but {H H' : Hp} {x b l : Addr} (B : Bag H b l) (s : But x H H') (h1 : b ≠ x) (h2 : l ≠ x) : Bag H' b l := by
  obtain ⟨ns, i, r, m, c, hb, hl, h⟩ := B
  exact ⟨ns, i, r, m, c, s _ _ h1 hb, s _ _ h2 hl, h⟩
/-- right weights made -/
theorem init_good {CI CF CN CW x dx : Addr} {H2 : Hp} {ks : List Str} {vs zs : List V} {R : List (Str × V)} {F : List Nat} {e : Int} {v : Nat → Int} {Q : VK} {E : XK} (W : KwW (.int 0) vs (ks.zip zs) (.ref x) (.str (S F)) (.int e) R) (short : ∀ p ∈ R, p.1.cps.size ≤ 1000) (bF : bFaces (.str (S F)) = true) (lF : F.length ≤ 1000) (nF : F.Nodup)
    (hL : LetOk F R) (hN : NumOk R) (hv : ∀ c ∈ F, (valV (keysOf R) (Sum.inr (S [c]))).getD (.int 0) = .int (v c)) (nx : H2 x = none) (ndx : H2 dx = none) (hdx : dx ≠ x)
    (q : ∀ H' nd, Same H2 H' → H2 nd = none → nd ≠ x → WtA CW H' x nd F e v → Q .non H') : sp_init_of K CI CF CN CW ks vs zs (upd (upd H2 dx (.own x)) x (.ins CW dx [])) Q E := by
  refine ⟨.ref x, .str (S F), .int e, R, W, fun d hd => ⟨x, d, .str (S F), .int e, R, rfl, upd_same, W.nr, short, .inr ⟨F, rfl, bF, lF, nF, .inr ⟨e, rfl, .inl ⟨hL, hN, dx, ?_, v, hv, fun H' nd s hnd hW hx => ?_⟩⟩⟩⟩⟩
  · have hdx2 : x ≠ d := fun z => by rw [← z, upd_same] at hd; cases hd
    rw [upd_ne hdx2, upd_same]
  · have hdx2 : d ≠ x := fun z => by rw [z, upd_same] at hd; cases hd
    have hnx : nd ≠ x := fun z => by
      rw [z] at hnd
      rw [upd_ne (Ne.symm hdx2), upd_same] at hnd
      cases hnd
    have hnd2 : H2 nd = none := by
      cases h : H2 nd with
      | none => rfl
      | some o =>
        have h1 : nd ≠ d := fun z => by rw [z, upd_same] at hnd; cases hnd
        have h2 : nd ≠ dx := fun z => by rw [z, ndx] at h; cases h
        rw [upd_ne h1, upd_ne hnx, upd_ne h2, h] at hnd
        cases hnd
    refine q H' nd (fun b o hb => ?_) hnd2 hnx hW
    have b1 : b ≠ x := fun z => by rw [z, nx] at hb; cases hb
    have b2 : b ≠ dx := fun z => by rw [z, ndx] at hb; cases hb
    have b3 : b ≠ d := fun z => by rw [z] at hb; rw [upd_ne hdx2, upd_ne (fun z2 => b2 (by rw [z, z2])), hb] at hd; cases hd
    exact s _ _ b1 (by rw [upd_ne b3, upd_ne b1, upd_ne b2]; exact hb)
theorem kwW_each {x : Addr} {F : List Nat} {e : Int} : KwW (.int 0) [.ref x, .str (S F)] ([("each" : Str)].zip [.int e]) (.ref x) (.str (S F)) (.int e) [] :=
  ⟨(show 2 ≤ 2 by decide), by show ([("self" : Str), ("faces" : Str), ("each" : Str)]).Nodup; decide, rfl, rfl, rfl, rfl, List.nodup_nil, by decide⟩
theorem ok__law_some_weights {f CI CF CN CW fI : Addr} {fd : FuncData} (F : Fun K "_law_some_weights" "_law_some_weights" s__law_some_weights f fd) (T : Z mg) (WC : WtC K CW) (MK : Mk K CW fI) (gW : mg "Weights" = some (.ref CW)) (FI : FnKw P w K mg base (L2.CX P w) 4 fI ["each"] (sp_init_of K CI CF CN CW ["each"]))
    (cx_put : MCal P w K mg base (L2.CX P w) CW 4 "put" ["self", "face", "number"] (sp_Weights_setitem K CF CN CW)) (c__law_draw : Cal P w K mg base CX0 1 "_law_draw" s__law_draw ["_law_bag", "_law_many"] (sp__law_drawW K)) : FnOk P w K mg base CX0 6 f fd ["_law_bag", "_law_faces", "_law_most"] (sp__law_some_weights K CW) := by
  refine F.ok sc__law_some_weights (fun vs H Q E h => ?_) (fun cdv A outer s H vs Q E hr h => ?_)
  · obtain ⟨b, lb, F, m, rfl, _⟩ := h
    rfl
  obtain ⟨b, lb, fs, m, rfl, B, bF, nF, lF, m0, m1, q⟩ := h
  refine ⟨_, (pss_cons (ps_par (i := 3) (j := 4) (by rfl) sc__law_some_weights.nd rfl rfl (by decide) rfl rfl (pa_cons (pe_op op_sub (pe_c c__law_draw hr (by decide) (by rfl) (pa_cons (pv 0) (pa_cons (pe_op op_add (pe_op op_mul pe_int (pv 2)) pe_int) pa_nil))) (pv 2)) (pa_cons (pe_lc (own := [("_law_face", 6)]) (g := (gName 6)) (by rfl) sc__law_some_weights.nd (pi_str (pv 1)) (blkOk_by (N := ["_law_bag", "_law_faces", "_law_most", "_law_each_z", "_law_numbers_here", "_law_found", "_law_face", "_law_number"]) (sc := defScope s__law_some_weights) (by decide +kernel)) (fun _ _ _ _ _ => (pg_name (i := 6) sc__law_some_weights.nd rfl (.inl rfl))) (fun _ _ _ _ _ => pts_nil) (fun _ _ _ _ _ => (pe_op op_sub (pe_c c__law_draw hr (by decide) (by rfl) (pa_cons (pv 0) (pa_cons (pe_op op_add (pe_op op_mul pe_int (pv 2)) pe_int) pa_nil))) (pv 2)))) pa_nil)) (by rfl))
      (pss_cons (ps_set (i := 5) sc__law_some_weights.nd rfl (.inl rfl) (pe_makeW (E := E0) MK FI (hr.mono (by decide)) (by rfl) gW passL (pa_cons (pv 1) pa_nil) (pk_cons (pv 3) pk_nil)))
      (pss_cons (ps_for PassesOwn.never rfl (pi_zipG (by rfl) T.z_zip (pa_cons (pv 1) (pa_cons (pv 4) pa_nil))) (pg_tup rfl (pgs_cons (pg_name (i := 6) sc__law_some_weights.nd rfl (.inl rfl)) (pgs_cons (pg_name (i := 7) sc__law_some_weights.nd rfl (.inl rfl)) pgs_nil)))
        (pss_one (ps_expr (pe_mx (E := E0) cx_put WC.c hr (by decide) passL (pv 5) (pa_cons (pv 6) (pa_cons (pv 7) pa_nil))))))
      (pss_one (ps_ret (pe_lst (pa_cons (pv 5) (pa_cons (pv 3) (pa_cons (pv 4) pa_nil))))))))), ?_⟩
  have hmul : CMul 2 m := .inl ⟨by decide, by decide⟩
  refine ⟨_, rfl, _, rfl, _, _, rfl, rfl, hmul, _, _, rfl, rfl, b, lb, _, rfl, B, by omega, by omega, fun H1 z1 z1a z1b b1 B1 => ?_⟩
  refine ⟨_, rfl, _, _, rfl, rfl, _, rfl, S fs, rfl, fun D nD => ?_⟩
  have nDb : D ≠ b := B1.ne nD
  have nDl : D ≠ lb := B1.ne2 nD
  refine lc_it walk_str (fun j H2 => ∃ ns : List Int, ns.length = j ∧ H2 D = some (.lst (ns.map V.int)) ∧ Bag H2 b lb ∧ But b H1 H2 ∧ ∀ n ∈ ns, -m ≤ n ∧ n ≤ m) ⟨[], rfl, upd_same, B1.same (same_upd nD), (same_upd nD).but, fun _ h => nomatch h⟩ (fun _ _ _ _ => trivial) ?_ ?_
  · rintro j x H2 _ hj ⟨ns, hnl, hD2, B2, o2, hbd⟩ ⟨rfl, _, _, rfl⟩
    have hj' : j < fs.length := hj
    refine ⟨rfl, ?_⟩
    refine ⟨_, rfl, _, rfl, _, _, rfl, rfl, hmul, _, _, rfl, rfl, b, lb, _, rfl, B2, by omega, by omega, fun H3 z2 z2a z2b b3 B3 => ?_⟩
    refine ⟨_, rfl, _, _, rfl, rfl, _, b3 _ _ nDb hD2, by rw [List.length_map]; exact sz1 (by omega), ns ++ [z2 - m], by rw [List.length_append, hnl]; rfl, ?_, B3.upd nDb nDl, fun a o n e => ?_, fun n hn => ?_⟩
    · rw [upd_same, List.map_append]
      rfl
    · rw [upd_ne (fun z => by rw [z, nD] at e; cases e)]
      exact b3 _ _ n (o2 a o n e)
    · rcases List.mem_append.mp hn with hn | hn
      · exact hbd n hn
      · rw [List.mem_singleton.mp hn]
        omega
  · rintro H2 ⟨ns, hnl, hD2, B2, o2, hbd⟩
    have hnl : ns.length = fs.length := hnl
    refine ⟨_, _, rfl, ?_⟩
    -- the weights made
    refine ⟨_, rfl, _, rfl, rfl, fun x dx nx ndx hdx => ?_⟩
    refine init_good kwW_each (fun _ h => nomatch h) bF lF nF (fun _ h => nomatch h) (fun _ h => nomatch h) (v := fun _ => 0) (fun _ _ => rfl) nx ndx hdx fun H3 nd s3 hnd hnx hW => ⟨rfl, ?_⟩
    have hxb : x ≠ b := B2.ne nx
    have hxl : x ≠ lb := B2.ne2 nx
    have hnb : nd ≠ b := B2.ne hnd
    have hnl2 : nd ≠ lb := B2.ne2 hnd
    have hD3 := s3 _ _ hD2
    have B3 := B2.same s3
    have o3 : But b H1 H3 := o2.trans s3.but
    have nx0 : H x = none := none_but b1 (none_but o2 nx hxb) hxb
    have nnd0 : H nd = none := none_but b1 (none_but o2 hnd hnb) hnb
    have nD0 : H D = none := none_but b1 nD nDb
    have hDn : D ≠ nd := fun z => by rw [z, hnd] at hD2; cases hD2
    refine ⟨_, rfl, _, rfl, _, _, _, _, rfl, .s rfl, .l (SqL.of hD3), fun k1 k2 e1 e2 g1 g2 => ?_⟩
    have hk1 : ∀ H', k1.src K H' (fs.map sgn) := fun H' => by
      cases k1 with
      | l a => cases e1
      | t a => cases e1
      | s x t => exact g1
    have hk2 : ∀ H', H' D = some (.lst (ns.map V.int)) → k2.src K H' (ns.map V.int) := fun H' h => by
      cases k2 with
      | l a => cases e2; exact SqL.of h
      | t a =>
        cases e2
        rcases (show SqT K H3 D (ns.map V.int) from g2) with (h' | ⟨o, h'⟩) | h'
        · rw [hD3] at h'; cases h'
        · rw [hD3] at h'; cases h'
        · exact .inr h'
      | s x t => cases e2
    refine for_it (walk_zipG (xs := fs.map sgn) (ys := ns.map V.int) (n := fs.length) (by rw [List.length_map, List.length_map, hnl, Nat.min_self])) (fun i σ H' => ∃ (y6 y7 : Option V) (v : Nat → Int), σ = [some (.ref b), some (.str (S fs)), some (.int m), some (.int (z1 - m)), some (.ref D), some (.ref x), y6, y7] ∧
      WtA CW H' x nd fs (z1 - m) v ∧ (∀ j c, j < i → fs[j]? = some c → ns[j]? = some (v c)) ∧ H' D = some (.lst (ns.map V.int)) ∧ Bag H' b lb ∧ But b H H') ⟨_, _, _, rfl, hW, (fun _ _ h => absurd h (Nat.not_lt_zero _)), hD3, B3, b1.trans o3⟩ (fun i σ H' _ ⟨_, _, _, _, _, _, h, _⟩ => ⟨hk1 H', hk2 H' h⟩) ?_ ?_
    · rintro i v0 σ H4 H5 hi ⟨y6, y7, v, rfl, hW4, hv4, hD4, B4, o4⟩ ⟨T', x1, y1, rfl, nT, rfl, hx1, hy1⟩
      have hfi : fs[i]? = some fs[i] := List.getElem?_eq_getElem hi
      have hni : ns[i]? = some ns[i] := List.getElem?_eq_getElem (by rw [hnl]; exact hi)
      have ex : x1 = V.str (S [fs[i]]) := by
        have : (fs.map sgn)[i]? = some x1 := hx1
        rw [List.getElem?_map, hfi] at this
        exact (Option.some.inj this).symm
      have ey : y1 = V.int ns[i] := by
        have : (ns.map V.int)[i]? = some y1 := hy1
        rw [List.getElem?_map, hni] at this
        exact (Option.some.inj this).symm
      subst ex ey
      refine ⟨T', _, rfl, SqT.of upd_same, rfl, _, _, rfl, _, [], rfl, rfl, ?_⟩
      have s5 := same_upd (o := HO.tup [V.str (S [fs[i]]), V.int ns[i]]) nT
      have hW5 := hW4.same s5
      obtain ⟨dw, hxw⟩ := hW5.at_
      have B5 := B4.same s5
      have hD5 := s5 _ _ hD4
      have o5 := o4.trans s5.but
      clear hW4 B4 hD4 o4 s5
      generalize upd H4 T' (HO.tup [V.str (S [fs[i]]), V.int ns[i]]) = H5 at *
      refine ⟨_, rfl, x, dw, _, rfl, hxw, rfl, _, rfl, _, rfl, x, nd, fs, z1 - m, v, _, _, rfl, hW5, .inl ⟨fs[i], ns[i], rfl, List.getElem_mem hi, rfl, fun H6 b6 hW6 => ?_⟩⟩
      refine ⟨_, _, _, rfl, hW6, fun j c hj hc => ?_, b6 _ _ hDn hD5, bag_but B5 b6 (Ne.symm hnb) (Ne.symm hnl2), fun a o n e => b6 _ _ (fun z => by rw [z, nnd0] at e; cases e) (o5 a o n e)⟩
      unfold putV
      rcases Nat.lt_succ_iff_lt_or_eq.mp hj with h | h
      · have hne : ¬ c = fs[i] := fun z => by
          obtain ⟨hjl, hje⟩ := List.getElem?_eq_some_iff.mp hc
          exact (List.pairwise_iff_getElem.mp nF j i hjl hi h) (hje.trans z)
        rw [if_neg hne]
        exact hv4 j c h hc
      · subst h
        rw [hfi] at hc
        rw [if_pos (Option.some.inj hc).symm]
        exact hni
    · rintro σ H4 ⟨y6, y7, v, rfl, hW4, hv4, hD4, B4, o4⟩
      refine ⟨_, rfl, _, rfl, _, rfl, (show 3 ≤ sizeLine by decide), fun p np => ?_⟩
      have ens : ns = fs.map v := by
        refine List.ext_getElem (by rw [List.length_map, hnl]) fun j h1 h2 => ?_
        have hj : j < fs.length := by rw [← hnl]; exact h1
        have := hv4 j fs[j] hj (List.getElem?_eq_getElem hj)
        rw [List.getElem?_eq_getElem h1] at this
        rw [List.getElem_map]
        exact Option.some.inj this
      have s5 := same_upd (o := HO.lst [V.ref x, V.int (z1 - m), V.ref D]) np
      have hpb : p ≠ b := B4.ne np
      exact q _ p x nd D (z1 - m) v (o4.trans s5.but) (B4.same s5) (none_but o4 np hpb) nx0 nnd0 nD0 upd_same (by rw [← ens]; exact s5 _ _ hD4) (hW4.same s5) (by omega) (fun c hc => hbd _ (by rw [ens]; exact List.mem_map.mpr ⟨c, hc, rfl⟩))
end
end FW
/-! a dict filled from another one: `{**d, ..}` and `f(**d)` -/
namespace FW
open PySem PySem.Spec PyProof.Rows L2
section
variable {prog : Program} {w : World} {A : Around} {E : Value → Shared → Prop} {s : Shared} {KT : Type} [DecidableEq KT] {knd : KeyKind prog w KT}
/-- one entry put -/
theorem wp_put {x : Addr} {old : List (KT × Value)} {k : KT} {ky vl : Value} {Q : Unit → Shared → Prop} (isk : knd.is k ky = true) (dd : s.heap.DictOf knd x old) (few : old.length ≤ sizeLine)
    (q : ∀ g, g.DictOf knd x (stored old k vl) → Heap.SameBut x s.heap g → Q () { s with heap := g }) : wpAny (model prog w) A (dictPut x (knd.hash k) ky vl) Q E s := by
  obtain ⟨ob, ee, ep, hob, cl, dat, ks, prs, nd⟩ := dd
  have hz : ee.size ≤ sizeLine := by
    have := prs.length
    rw [Array.length_toList] at this
    omega
  have same : (ee.findIdx? fun y => knd.is k y.key) = old.findIdx? fun p => decide (p.1 = k) := by
    rw [← prs.findIdx k]
    cases ee
    simp
  unfold dictPut
  refine wpAny_bind (wpAny_dictFind_of isk hob dat ks ?_)
  cases fi : ee.findIdx? fun y => knd.is k y.key with
  | some i =>
    have yes := any_of_findIdx_some (same ▸ fi)
    dsimp only
    refine wpAny_updateDict hob dat (q _ ⟨_, _, ep, Heap.get?_update_self _ hob (Obj.isFreed_of_dict (Obj.data_mapDict dat _)), cl.mapDict _, Obj.data_mapDict dat _, ks.modify _ _, ?_, ?_⟩ ?_)
    · have fl : ee.toList.findIdx? (fun y => knd.is k y.key) = some i := by
        rw [← fi]
        cases ee
        simp
      have m := prs.modify nd fl vl
      rw [stored, if_pos yes]
      cases ee
      simpa using m
    · rw [stored, if_pos yes, keys_map_store]
      exact nd
    · exact Heap.SameBut.update ..
  | none =>
    have out : k ∉ old.map (·.1) := not_mem_of_findIdx_none (same ▸ fi)
    have no : ¬ (old.any fun p => decide (p.1 = k)) = true := fun z => by
      obtain ⟨p, hp, e⟩ := List.any_eq_true.mp z
      exact out (List.mem_map.mpr ⟨p, hp, of_decide_eq_true e⟩)
    dsimp only
    refine wpAny_updateDictKeys (hz := hz) hob dat (q _ ⟨_, _, ep + 1, Heap.get?_update_self _ hob (Obj.isFreed_of_dict (Obj.data_mapDictKeys dat _)), cl.mapDictKeys _, Obj.data_mapDictKeys dat _, ks.push isk _, ?_, ?_⟩ ?_)
    · have m := prs.append isk (knd.hash k) vl
      rw [stored, if_neg no]
      cases ee
      simpa using m
    · rw [stored, if_neg no, List.map_append]
      refine List.nodup_append.mpr ⟨nd, by simp, fun a ha b hb e => ?_⟩
      rw [List.map_cons, List.map_nil, List.mem_singleton] at hb
      subst e hb
      exact out ha
    · exact Heap.SameBut.update ..
end
section
variable {P : Program} {w : World} {A : Around} {E : Value → Shared → Prop} {s : Shared}
theorem find_new {x : Addr} {old : List (Key × Value)} {k : Key} {ky : Value} {Q : Option Nat → Shared → Prop} (isk : (mixKind P w).is k ky = true) (dd : s.heap.DictOf (mixKind P w) x old) (out : k ∉ old.map (·.1)) (q : Q none s) :
    wpAny (model P w) A (dictFind x ky ((mixKind P w).hash k)) Q E s := by
  obtain ⟨ob, ee, ep, hob, cl, dat, ks, prs, nd⟩ := dd
  refine wpAny_dictFind_of isk hob dat ks ?_
  have same : (ee.findIdx? fun y => (mixKind P w).is k y.key) = old.findIdx? fun p => decide (p.1 = k) := by
    rw [← prs.findIdx k]
    cases ee
    simp
  rw [same, List.findIdx?_eq_none_iff.mpr fun p hp => decide_eq_false fun e => out (List.mem_map.mpr ⟨p, hp, e⟩)]
  exact q
/-- x takes over the entries of y (texts and numbers as keys); u: each key must be new -/
theorem wp_merge {x y : Addr} {old more : List (Key × Value)} {u : Bool} {Q : Unit → Shared → Prop} (ne : x ≠ y) (ns : (y == sysModules) = false) (dx : s.heap.DictOf (mixKind P w) x old) (dy : s.heap.DictOf (mixKind P w) y more) (few : old.length + more.length ≤ sizeLine)
    (new : u = true → ((old ++ more).map (·.1)).Nodup) (q : ∀ g, g.DictOf (mixKind P w) x (merged old more) → g.DictOf (mixKind P w) y more → Heap.SameBut x s.heap g → Q () { s with heap := g }) : wpAny (model P w) A (mergeMapping x (.ref y) u) Q E s := by
  obtain ⟨ox, ex, px, hox, clx, datx, ksx, prx, ndx⟩ := id dx
  obtain ⟨oy, ey, py, hoy, cly, daty, ksy, pry, ndy⟩ := id dy
  have len : more.length = ey.size := by
    rw [← pry.length]
    simp
  unfold mergeMapping
  refine wpAny_bind (wpAny_isInstance dy.typeIs isSubtype_dict_dict ?_)
  dsimp only
  rw [if_pos rfl]
  refine wpAny_bind (wpAny_specialOf dy.typeIs F.slot_dict_iter.lookup (wpAny_bind (wpAny_pure ?_)))
  rw [beq_self_eq_true]
  dsimp only
  rw [if_neg (by rw [ns]; exact Bool.false_ne_true)]
  refine wpAny_bind (wpAny_dictEntries hox datx ?_)
  split
  case' isTrue =>
    refine wpAny_bind (wpAny_dictEntries hoy daty (wpAny_bind (wpAny_of_eq (a := PUnit.unit) ?quiet ?_)))
  case quiet =>
    rw [← Array.forIn_toList]
    refine forIn_yield_id _ fun e he c => ?_
    obtain ⟨k, hk, _⟩ := ksy e (Array.mem_toList_iff.mp he)
    rcases keyIs_shape hk with ⟨i, t, _, e1⟩ | ⟨z, t, _, e1⟩ <;> rw [e1]
  all_goals
    refine wpAny_bind (wpAny_dictEntries hoy daty ?_)
    refine wpAny_bind (wpAny_dictEpoch hoy daty ?_)
    refine wpAny_bind ?_
    rw [List.range_eq_range']
    refine wpAny_forIn_list _ (fun rest _ s' => ∃ g i, s' = { s with heap := g } ∧ rest = List.range' i (ey.size - i) ∧ i ≤ ey.size ∧ g.DictOf (mixKind P w) x (merged old (more.take i)) ∧ g.get? y = some oy ∧ Heap.SameBut x s.heap g)
      _ ?_ ?_ _ _ ⟨s.heap, 0, rfl, by simp, Nat.zero_le _, by simpa [merged] using dx, hoy, Heap.SameBut.refl _ _⟩
    · rintro j rest b s' ⟨g, i, rfl, hr, hi, dg, gy, sg⟩
      have lt : i < ey.size := by
        rcases Nat.lt_or_ge i ey.size with h | h
        · exact h
        · rw [Nat.sub_eq_zero_of_le h] at hr
          exact nomatch hr
      have e1 : ey.size - i = (ey.size - (i + 1)) + 1 := by omega
      rw [e1, List.range'_succ] at hr
      obtain ⟨rfl, rfl⟩ := List.cons.inj hr
      refine wpAny_bind (wpAny_dictEntries gy daty ?_)
      rw [Array.getElem?_eq_getElem lt]
      have mi : more[j]? = some (more[j]'(by rw [len]; exact lt)) := List.getElem?_eq_getElem _
      generalize more[j]'(by rw [len]; exact lt) = kv at mi
      obtain ⟨k, v⟩ := kv
      obtain ⟨isk, hv⟩ := pry.get? (e := ey[j]) (by simp [lt]) mi
      obtain ⟨k', isk', hh⟩ := ksy ey[j] (Array.getElem_mem lt)
      obtain rfl : k' = k := (mixKind P w).inj _ _ _ isk' isk
      have lm : (merged old (more.take j)).length ≤ sizeLine := by
        have := merged_length_le old (more.take j)
        have : (more.take j).length ≤ more.length := by
          rw [List.length_take]
          exact Nat.min_le_right _ _
        omega
      dsimp only
      rw [hh]
      refine wpAny_bind (wpAny_holding ?_)
      cases u with
      | false =>
        rw [if_neg Bool.false_ne_true]
        refine wp_put isk dg lm fun g2 dg2 sg2 => ?_
        have gy2 : g2.get? y = some oy := (sg2.2 y (Ne.symm ne)).trans gy
        refine wpAny_bind (wpAny_dictEpoch gy2 daty ?_)
        rw [if_neg (by simp)]
        refine wpAny_pure ⟨g2, j + 1, rfl, rfl, lt, ?_, gy2, sg.trans sg2⟩
        rw [merged_take_succ old more j (k', v) mi]
        rw [← hv]
        exact dg2
      | true =>
        rw [if_pos rfl]
        have nw := new rfl
        have nt : ((old ++ more.take j).map (·.1)).Nodup := by
          rw [← List.take_append_drop j more, ← List.append_assoc, List.map_append] at nw
          exact (List.nodup_append.mp nw).1
        have out : k' ∉ (merged old (more.take j)).map (·.1) := fun z => by
          rw [merged_append_of_fresh _ _ nt] at z
          have sp : more = more.take j ++ (k', v) :: more.drop (j + 1) := by
            have hl : j < more.length := by rw [len]; exact lt
            have hg := (List.getElem?_eq_some_iff.mp mi).2
            rw [← hg, ← List.drop_eq_getElem_cons hl, List.take_append_drop]
          rw [sp, ← List.append_assoc, List.map_append] at nw
          exact (List.nodup_append.mp nw).2.2 _ z _ (List.mem_map.mpr ⟨(k', v), List.mem_cons_self, rfl⟩) rfl
        refine wpAny_bind (find_new isk dg out ?_)
        rw [if_neg (by simp)]
        refine wp_put isk dg lm fun g2 dg2 sg2 => ?_
        have gy2 : g2.get? y = some oy := (sg2.2 y (Ne.symm ne)).trans gy
        refine wpAny_bind (wpAny_dictEpoch gy2 daty ?_)
        rw [if_neg (by simp)]
        refine wpAny_pure ⟨g2, j + 1, rfl, rfl, lt, ?_, gy2, sg.trans sg2⟩
        rw [merged_take_succ old more j (k', v) mi]
        rw [← hv]
        exact dg2
    · rintro b s' ⟨g, i, rfl, hr, hi, dg, gy, sg⟩
      have hin : i = ey.size := by
        rcases Nat.lt_or_ge i ey.size with h | h
        · have e : ey.size - i = (ey.size - (i + 1)) + 1 := by omega
          rw [e, List.range'_succ] at hr
          exact nomatch hr
        · exact Nat.le_antisymm hi h
      rw [hin, ← len, List.take_length] at dg
      exact wpAny_pure (q g dg ⟨oy, ey, py, gy, cly, daty, ksy, pry, ndy⟩ sg)
end
end FW
/-! `{**d, k: v}` -/
namespace FW
open PySem PySem.Spec PyProof.Rows L2
section
variable {X : Cx}
/-- a dict's entries taken over, one more put -/
def tDStar (t1 tk t2 : TE) : TE := fun σ H Q => ∀ p, H p = none → t1 σ (upd H p (.dK [])) fun x H1 => ∃ y kvs, x = .ref y ∧ y ≠ p ∧ H1 y = some (.dK kvs) ∧ H1 p = some (.dK []) ∧ kvs.length ≤ 1000 ∧
  ∀ q, (upd H1 p (.dK kvs)) q = none → tk σ (upd (upd H1 p (.dK kvs)) q (.dK [])) fun k H2 => t2 σ H2 fun v H3 => ∃ key, k = kV key ∧ p ≠ q ∧ H3 q = some (.dK []) ∧ H3 p = some (.dK kvs) ∧ Q (.ref p) (upd (upd H3 q (.dK [(key, v)])) p (.dK (putK kvs key v)))
theorem pe_dspread {e1 ek e2 : Expr} {t1 tk t2 : TE} {pos : Pos} (h1 : PE X e1 t1) (hk : PE X ek tk) (h2 : PE X e2 t2) : PE X (.Dict [none, some ek] [e1, e2] pos) (tDStar t1 tk t2) := by
  refine ⟨fun pins s σ H Q I h => ?_⟩
  rw [arm_eval_Dict]
  refine wpAny_bind (wpAny_standAt ?_)
  show wpAny _ _ (dictDisplay [(none, do let x ← eval e1 X.env; standAt pos; pure x), (some (eval ek X.env), do let x ← eval e2 X.env; standAt pos; pure x)]) _ _ s
  unfold dictDisplay
  dsimp only
  simp only [List.forIn_cons, List.forIn_nil, List.isEmpty_nil, if_true, pure_bind]
  refine wpAny_bind (wpAny_bind (wpAny_bind (wpAny_alloc ?_)))
  have np : H s.heap.objs.size = none := I.hok.fresh (Nat.le_refl _)
  have I1 : Inv X pins σ (upd H s.heap.objs.size (.dK [])) { s with heap := s.heap.push { cls := .type "dict", data := .dict #[] } } :=
    I.laid (t' := s.toks) (fun b o e => Heap.get?_push_of_some _ e) (Nat.le_refl _) (dk_empty s.heap I.big)
  have h := h _ np
  generalize s.heap.objs.size = p at np I1 h ⊢
  refine wpAny_bind (wpAny_holding (wpAny_bind (thn (h1.run pins _ σ _ _ I1 h) fun u s2 hq => wpAny_bind (wpAny_standAt (wpAny_pure ?_)))))
  obtain ⟨x, H1, I2, r, y, kvs, ex, ne, hy, hp, few, hq⟩ := hq
  subst ex
  obtain rfl : u = Value.ref y := r
  obtain ⟨z, hdy, vs, rel, dd⟩ := dk_of I2.hok hy
  obtain ⟨z0, hdp, vs0, rel0, dd0⟩ := dk_of I2.hok hp
  cases rel0
  have lv : vs.length ≤ 1000 := by rw [← rel.length]; exact few
  have ndv : (vs.map (·.1)).Nodup := by
    obtain ⟨_, _, _, _, _, _, _, _, n⟩ := dd
    exact n
  refine wpAny_bind (wpAny_onRaise (wpAny_tryCatch (wpAny_onRaise (wpAny_holding (wp_merge (Ne.symm ne) hdy dd0 dd (Nat.le_trans (by rw [List.length_nil]; omega) (show 1000 ≤ sizeLine by decide)) (fun e => nomatch e) fun g dx dy sb => ?_)))))
  rw [merged_nil_of_nodup vs ndv] at dx
  have he : ∃ o, g.get? p = some o := let ⟨o, _, _, e, _⟩ := dx; ⟨o, e⟩
  have I3 : Inv X pins σ (upd H1 p (.dK kvs)) { s2 with heap := g } := d_write (t' := s2.toks) I2 (by rw [hp]; exact True.intro) sb he (dk_new (Nat.le_trans few (by decide)) hdp rel dx)
  refine wpAny_pure ?_
  dsimp only
  rw [if_neg (by simp)]
  refine wpAny_bind (wpAny_pure (wpAny_pure ?_))
  dsimp only
  rw [if_neg (by simp)]
  generalize ({ s2 with heap := g } : Shared) = s3 at I3 ⊢
  refine wpAny_bind (wpAny_bind (wpAny_holding ?_))
  unfold subDict
  refine wpAny_bind (wpAny_alloc ?_)
  have nq : (upd H1 p (.dK kvs)) s3.heap.objs.size = none := I3.hok.fresh (Nat.le_refl _)
  have I4 : Inv X pins σ (upd (upd H1 p (.dK kvs)) s3.heap.objs.size (.dK [])) { s3 with heap := s3.heap.push { cls := .type "dict", data := .dict #[] } } :=
    I3.laid (t' := s3.toks) (fun b o e => Heap.get?_push_of_some _ e) (Nat.le_refl _) (dk_empty s3.heap I3.big)
  have hq := hq _ nq
  generalize s3.heap.objs.size = q at nq I4 hq ⊢
  refine wpAny_bind (wpAny_holding ?_)
  rw [if_pos (by simp)]
  refine wpAny_bind (evalPairs_cons (thn (hk.run pins _ σ _ _ I4 hq) fun ku s4 hq => ?_))
  obtain ⟨kx, H2, I5, rk, hq⟩ := hq
  refine wpAny_bind (thn (h2.run pins _ σ _ _ I5 hq) fun vu s5 hq => wpAny_bind (wpAny_standAt (wpAny_pure (evalPairs_nil ?_))))
  obtain ⟨vx, H3, I6, rv, key, ek', npq, h3q, h3p, hfin⟩ := hq
  subst ek'
  refine wpAny_holding (wpAny_bind ?_)
  rw [List.forIn_cons]
  refine wpAny_bind (wpAny_bind (d_dictSet I6 h3q (show 0 < sizeLine by decide) rk rv fun s6 I7 => wpAny_pure ?_))
  dsimp only
  rw [List.forIn_nil]
  refine wpAny_pure (wpAny_pure (wpAny_pure ?_))
  have e1 : (upd H3 q (.dK (putK [] key vx))) q = some (.dK [(key, vx)]) := upd_same
  have e2 : (upd H3 q (.dK (putK [] key vx))) p = some (.dK kvs) := by rw [upd_ne npq]; exact h3p
  obtain ⟨_, hsq, vq, relq, ddq⟩ := dk_of I7.hok e1
  obtain ⟨zp, hsp, vp, relp, ddp⟩ := dk_of I7.hok e2
  obtain ⟨u1, rfl, ru⟩ : ∃ u1, vq = [(key, u1)] ∧ RelV vx u1 := by
    cases relq with
    | @cons a b _ bs r0 rr =>
      cases rr
      obtain ⟨b1, b2⟩ := b
      obtain ⟨r1, r2⟩ := r0
      cases (show key = b1 from r1)
      exact ⟨b2, rfl, r2⟩
  have lp : vp.length ≤ 1000 := by rw [← relp.length]; exact few
  refine wpAny_bind (wpAny_onRaise (wpAny_holding (wp_merge npq hsq ddp ddq (Nat.le_trans (Nat.succ_le_succ lp) (show 1001 ≤ sizeLine by decide)) (fun e => nomatch e) fun g2 dx2 dy2 sb2 => ?_)))
  have he2 : ∃ o, g2.get? p = some o := let ⟨o, _, _, e, _⟩ := dx2; ⟨o, e⟩
  have l2 : (putK kvs key vx).length ≤ sizeLine := Nat.le_trans (length_putK kvs key vx) (Nat.le_trans (Nat.succ_le_succ few) (show 1001 ≤ sizeLine by decide))
  have I8 := d_write (t' := s6.toks) I7 (by rw [e2]; exact True.intro) sb2 he2 (dk_new l2 hsp (relp.put key ru) dx2)
  exact wpAny_pure (wpAny_pure ⟨.ref p, _, I8, rfl, hfin⟩)
end
end FW
/-! C(e, .., **d) -/
namespace FW
open PySem PySem.Spec PyProof.Rows L2 StX
section
variable {P : Program} {w : World} {A : Around} {E : Value → Shared → Prop} {s : Shared}
/-- the names and values of a dict with texts as keys -/
theorem kw_out : ∀ {R : List (Str × V)} {vs : List (Key × Value)} {es : List DictEntry}, Pairs (mixKind P w) es vs → KV (keysOf R) vs → ∃ ws, Vals (R.map (·.2)) ws ∧ ws.length = R.length ∧
    ∀ (f : DictEntry → List (Str × Value) → Sem (ForInStep (List (Str × Value)))), (∀ e acc z t, e.key = .str z t → f e acc = pure (.yield (acc ++ [(z, e.val)]))) → ∀ acc, forIn es acc f = pure (acc ++ (R.map (·.1)).zip ws)
  | [], _, _, p, k => by
    cases k
    cases p
    exact ⟨[], .nil, rfl, fun f hf acc => by rw [List.forIn_nil]; show _ = pure (acc ++ []); rw [List.append_nil]⟩
  | x :: R, vs, es, p, k => by
    cases k with
    | @cons _ b _ bs r0 rr =>
    obtain ⟨b1, b2⟩ := b
    obtain ⟨r1, r2⟩ := r0
    cases (show (Sum.inr x.1 : Key) = b1 from r1)
    cases p with
    | @cons e _ es' _ ik ev pr =>
    obtain ⟨ws, v1, l1, h⟩ := kw_out pr rr
    refine ⟨b2 :: ws, .cons r2 v1, by rw [List.length_cons, List.length_cons, l1], fun f hf acc => ?_⟩
    obtain ⟨z, t, e1, e2⟩ : ∃ z t, (Sum.inr x.1 : Key) = Sum.inr z ∧ e.key = .str z t := by
      rcases keyIs_shape (show keyIs (Sum.inr x.1) e.key = true from ik) with ⟨i, t, e1, _⟩ | ⟨z, t, e1, e2⟩
      · cases e1
      · exact ⟨z, t, e1, e2⟩
    cases Sum.inr.inj e1
    rw [List.forIn_cons, hf e acc _ t e2, pure_bind]
    show forIn es' (acc ++ [(x.1, e.val)]) f = _
    rw [h f hf, show e.val = b2 from ev]
    congr 1
    show acc ++ [(x.1, b2)] ++ _ = acc ++ ((x.1, b2) :: _)
    rw [List.append_assoc]
    rfl
theorem wp_kwIn {f : Value} {d : Addr} {R : List (Str × V)} {vs : List (Key × Value)} {Q : List (Str × Value) → Shared → Prop} (dd : s.heap.DictOf (mixKind P w) d vs) (k : KV (keysOf R) vs) (q : ∀ ws, Vals (R.map (·.2)) ws → ws.length = R.length → Q ((R.map (·.1)).zip ws) s) : wpAny (model P w) A (keywordsIn f d) Q E s := by
  obtain ⟨ob, es, ep, hob, cl, dat, ks, prs, nd⟩ := dd
  obtain ⟨ws, v, l, h⟩ := kw_out prs k
  unfold keywordsIn
  refine wpAny_bind (wpAny_dictEntries hob dat ?_)
  rw [← Array.forIn_toList]
  refine wpAny_bind (wpAny_of_eq (h _ (fun e acc z t e1 => ?_) []) ?_)
  · dsimp only
    rw [e1]
  · rw [List.nil_append]
    exact wpAny_pure (q ws v l)
theorem wp_callKW {f : Value} {first : List Value} {pos : Pos} {Q : Value → Shared → Prop} {G : Heap → Prop} {args : List (Bool × Sem Value)} {kws : List (Option Str × Sem Value)} (hst : (args.any (·.1) || kws.any (·.1.isNone)) = true)
    (hk : ∀ h, G h → ∃ k, (k = Keeper.frame ∨ k = Keeper.machine ∨ k = Keeper.boundFrame) ∧ PySem.W.Looks (model P w) h (keeperOf f) k)
    (h : wpAny (model P w) A (evalArgs f true args kws) (fun a s₁ => G s₁.heap ∧ wpAny (model P w) A (call f (first ++ a.pos) a.kw) Q E s₁) E s) : wpAny (model P w) A (callWith pos f first args kws) Q E s := by
  unfold callWith
  refine wpAny_bind (wpAny_holding (wpAny_mono h (fun a s1 z => wpAny_bind (wpAny_standAt ?_)) fun _ _ x => x))
  obtain ⟨z1, z2⟩ := z
  obtain ⟨k, hk', L⟩ := hk _ z1
  dsimp only
  rw [hst]
  refine wpAny_bind (L.here ?_)
  have back : ∀ {t : Sem Value}, wpAny (model P w) A t Q E s1 → wpAny (model P w) A (do let r ← t; holding [r] point; pure r) Q E s1 := fun ht =>
    wpAny_bind (wpAny_mono ht (fun r s2 hr => wpAny_bind (wpAny_holding (wpAny_point (wpAny_pure hr)))) fun _ _ x => x)
  rcases hk' with rfl | rfl | rfl
  · exact back (by unfold callMarked; exact PySem.Calls.wpAny_keep z2)
  · exact back (wpAny_operating z2)
  · exact back (wpAny_operating z2)
end
section
variable {X : Cx} {CX : CXT} {k : Nat} {f C : Addr} {sp : List Str → List V → List V → Hp → VK → XK → Prop} {E : XK} {x : Str} {p pos pk : Pos} {e ek : Expr} {es : List Expr} {t : TA} {tk : TE}
/-- what C(e, .., **d) asks -/
def tMakeKw (C : Addr) (sp : List Str → List V → List V → Hp → VK → XK → Prop) (E : XK) (t : TA) (tk : TE) : TE := fun σ H Q => t σ H fun vs H1 => ∀ p, H1 p = none → tk σ (upd H1 p (.dK [])) fun y H2 => ∃ d R, y = .ref d ∧ d ≠ p ∧ H2 d = some (.dK (keysOf R)) ∧ H2 p = some (.dK []) ∧ R.length ≤ 1000 ∧
  ∀ x dx, (upd H2 p (.dK (keysOf R))) x = none → (upd H2 p (.dK (keysOf R))) dx = none → dx ≠ x → sp (R.map (·.1)) (.ref x :: vs) (R.map (·.2)) (upd (upd (upd H2 p (.dK (keysOf R))) dx (.own x)) x (.ins C dx [])) (fun v H3 => v = .non ∧ Q (.ref x) H3) E
theorem pe_makeKw (M : Mk X.K C f) (F : ∀ ks, FnKw X.prog X.w X.K X.mg X.base CX k f ks (sp ks)) (hr : Room (k + 1) X.A) (hg : Gl X x) (hm : X.mg x = some (.ref C)) (hx : Passes CX X E) (ha : PA X (e :: es) t) (hk : PE X ek tk)
    (hdb : (x == ("__debug__" : Str)) = false := by decide) (he : starEach (e :: es) X.env = (false, eval e X.env) :: starEach es X.env := by rfl) :
    PE X (.Call (.Name x p) (e :: es) [⟨none, ek, pk⟩] pos) (tMakeKw C sp E t tk) := by
  refine ⟨fun pins s σ H Q I h => ?_⟩
  refine wpAny_Call_Name_kw (ld_glob I hg hm ?_ hdb)
  refine wp_callKW (f := .ref C) (G := X.K.In) (by show (_ || ([(none, (do let v ← eval ek X.env; standAt pos; pure v))] : List (Option Str × Sem Value)).any (·.1.isNone)) = true; exact Bool.or_true _) (PySem.W.keeps_K M.kp) ?_
  have h2 := ha.run pos pins s σ H _ I h
  rw [he] at h2 ⊢
  show wpAny _ _ (evalArgs (.ref C) true ((false, eval e X.env) :: backTo pos (starEach es X.env)) [(none, (do let v ← eval ek X.env; standAt pos; pure v))]) _ _ s
  unfold evalArgs
  refine wpAny_bind (thn h2 fun us s1 q1 => wpAny_bind (wpAny_pure ?_))
  obtain ⟨vs, H1, I1, r, q1⟩ := q1
  dsimp only
  refine wpAny_holding ?_
  rw [if_neg (by simp)]
  unfold mergedKeywords
  dsimp only
  refine wpAny_bind (wpAny_bind (wpAny_alloc ?_))
  have np : H1 s1.heap.objs.size = none := I1.hok.fresh (Nat.le_refl _)
  have I2 : Inv X pins σ (upd H1 s1.heap.objs.size (.dK [])) { s1 with heap := s1.heap.push { cls := .type "dict", data := .dict #[] } } :=
    I1.laid (t' := s1.toks) (fun b o e => Heap.get?_push_of_some _ e) (Nat.le_refl _) (dk_empty s1.heap I1.big)
  have q1 := q1 _ np
  generalize s1.heap.objs.size = p' at np I2 q1 ⊢
  refine wpAny_bind (wpAny_holding ?_)
  rw [List.forIn_cons]
  refine wpAny_bind (wpAny_bind ?_)
  dsimp only
  rw [if_pos (show ([] : List (Str × Sem Value)).isEmpty = true from rfl)]
  refine wpAny_bind (wpAny_pure (wpAny_bind (wpAny_bind (thn (hk.run pins _ σ _ _ I2 q1) fun u s2 q2 => wpAny_bind (wpAny_standAt (wpAny_pure ?_))))))
  obtain ⟨y, H2, I3, ry, d, R, ey, ndp, hd, hp, few, q3⟩ := q2
  subst ey
  obtain rfl : u = Value.ref d := ry
  obtain ⟨_, hsd, vd, reld, ddd⟩ := dk_of I3.hok hd
  obtain ⟨_, hsp, vp, relp, ddp⟩ := dk_of I3.hok hp
  cases relp
  have lk : (keysOf R).length = R.length := by unfold keysOf; rw [List.length_map]
  have lv : vd.length ≤ 1000 := by rw [← reld.length, lk]; exact few
  have ndv : (vd.map (·.1)).Nodup := by
    obtain ⟨_, _, _, _, _, _, _, _, n⟩ := ddd
    exact n
  refine wpAny_bind (wpAny_onRaise (wpAny_holding (wpAny_tryCatch (wpAny_onRaise (wp_merge (Ne.symm ndp) hsd ddp ddd (Nat.le_trans (by rw [List.length_nil]; omega) (show 1000 ≤ sizeLine by decide)) (fun _ => ndv) fun g dx dy sb => ?_)))))
  rw [merged_nil_of_nodup vd ndv] at dx
  have he' : ∃ o, g.get? p' = some o := let ⟨o, _, _, e, _⟩ := dx; ⟨o, e⟩
  have I4 : Inv X pins σ (upd H2 p' (.dK (keysOf R))) { s2 with heap := g } := d_write (t' := s2.toks) I3 (by rw [hp]; exact True.intro) sb he' (dk_new (Nat.le_trans (by rw [lk]; exact few) (show 1000 ≤ sizeLine by decide)) hsp reld dx)
  refine wpAny_pure ?_
  dsimp only
  rw [List.forIn_nil]
  refine wpAny_pure ?_
  rw [if_pos (show ([] : List (Str × Sem Value)).isEmpty = true from rfl)]
  refine wpAny_pure (wpAny_pure (wpAny_bind (wpAny_pure (wpAny_bind (wpAny_holding (wp_kwIn dx reld fun ws vw lw => wpAny_pure ?_))))))
  refine ⟨I4.kIn, ?_⟩
  exact run_makeW M (F (R.map (·.1))) hr hx I4 r vw (by rw [List.length_map, List.length_map]) (q3)
end
end FW
/-! list(d.values()) -/
namespace FW
open PySem PySem.Spec PyProof.Rows L2
section
variable {X : Cx} {o : Expr} {p pos apos mpos : Pos} {td : TE}
def tListVals (td : TE) : TE := fun σ H Q => td σ H fun x H1 => ∃ a kvs, x = V.ref a ∧ H1 a = some (.dK kvs) ∧ ∀ q, H1 q = none → Q (.ref q) (upd H1 q (.lst (kvs.map (·.2))))
theorem pe_listVals (hc : X.calm = true) (hg : Gl X "list") (hm : X.mg "list" = none) (hv : bootBuiltins "list" = some (.type "list")) (hd : PE X o td) (hbase : attributeBase o "values" X.env (eval o X.env) = eval o X.env := by rfl) (hline : (apos.endLine == mpos.line) = true := by rfl)
    (hse : starEach [Expr.Call (.Attribute o "values" apos) [] [] mpos] X.env = (false, eval (Expr.Call (.Attribute o "values" apos) [] [] mpos) X.env) :: starEach [] X.env := by rfl) :
    PE X (.Call (.Name "list" p) [.Call (.Attribute o "values" apos) [] [] mpos] [] pos) (tListVals td) := by
  refine ⟨fun pins s σ H Q I h => ?_⟩
  refine wpAny_Call_Name_kw (ld_blt I hg hm hv ?_ (by decide) (by decide))
  refine PyProof.Rows.callWith_type1 ?_ hse rfl
  rw [hse]
  refine Calls.spliced_cons (wpAny_Call_method0_late hbase hline (thn (hd.run pins s σ H _ I h) fun v s1 hq => ?_))
  obtain ⟨x, H1, I1, r1, a, kvs, ex, ha, q⟩ := hq
  subst ex
  obtain rfl : v = Value.ref a := r1
  obtain ⟨z, hsys, vs, rel, dof⟩ := dk_of I1.hok ha
  obtain ⟨ep, dat⟩ := dof.dictAt
  obtain ⟨ob, es, ho, ex, _⟩ := id dat
  refine ⟨"dict", "dict.values", F.plainAttrs_dict, F.slot_dict_values, F.type_dict_values, ⟨ob, ho, ex.1⟩, fun b e => ?_, Calls.callWith_builtin rfl (PySem.evalArgs_none ?_)⟩
  · cases e
    exact ⟨ob, ho, ex.2.1⟩
  refine call_meetsIn F.slot_dict_values ⟨ob, ho, ex.1⟩ F.entry_dict_values (F.args_dict_values_1 _) (meets_dict_values (mixKind X.prog X.w) a hsys) ⟨⟨vs, dof⟩, ?_⟩
  refine Calls.spliced_nil ?_
  have k1 : ∀ b u, s1.heap.get? b = some u → (s1.heap.push { cls := .type "dict_values", data := .fields #[.ref a] }).get? b = some u := fun b u e => Heap.get?_push_of_some _ e
  have I2 : Inv X pins σ H1 { s1 with heap := s1.heap.push { cls := .type "dict_values", data := .fields #[.ref a] } } := I1.kept (t' := s1.toks) k1
  have lv : kvs.length = vs.length := Paired.length rel
  have hview : (s1.heap.push { cls := .type "dict_values", data := .fields #[.ref a] }).IsValuesView s1.heap.objs.size a := ⟨_, Heap.get?_push_size _ rfl, rfl, rfl⟩
  have dat2 := dat.keep k1
  refine PySem.W.kdl_call (PySem.W.kdl_values (knd := mixKind X.prog X.w) (kvs := vs) (ep := ep) (d := a) (r := s1.heap.objs.size)) (I2.ok.hd hc) ⟨hview, dat2⟩ (by rw [← lv]; exact z) fun h' tk acc' c' keep hS hacc => ?_
  refine ⟨.ref _, _, I2.laid (o := .lst (kvs.map (·.2))) keep (Nat.le_refl _) ⟨by rw [List.length_map]; exact z, acc'.toList, c', ?_, by rw [Array.toArray_toList]; exact hS⟩, rfl, q _ (I2.hok.fresh (Nat.le_refl _))⟩
  have el : acc'.toList.length = acc'.size := by simp
  refine vals_of_at (by rw [List.length_map, el, hacc.1, lv]) fun j x w h1 h2 => ?_
  obtain ⟨k, hk⟩ := hacc.2 j w (by rw [← Array.getElem?_toList]; exact h2)
  obtain ⟨y, hy, ry⟩ := KV.at' rel hk
  rw [List.getElem?_map, hy] at h1
  cases h1
  exact ry
end
end FW
/-! == of two dicts with whole numbers by the same letters -/
namespace FW
open PySem PySem.Spec PyProof.Rows L2
section
variable {A : Around} {s : Shared}
theorem hitsN {F : List Nat} {v v' : Nat → Int} {vb : List (Key × Value)} (rb : KV (numK F fun c => .int (v' c)) vb) : ∀ {G : List Nat} {va : List (Key × Value)}, (∀ c ∈ G, c ∈ F) → KV (numK G fun c => .int (v c)) va → PySem.W.KeqHits A s vb va (decide (∀ c ∈ G, v c = v' c))
  | [], va, _, ra => by
    cases ra
    exact .nil
  | c :: G, va, hG, ra => by
    cases ra with
    | @cons _ b _ bs r0 rr =>
    obtain ⟨b1, b2⟩ := b
    obtain ⟨r1, r2⟩ := r0
    cases (show (Sum.inr (S [c]) : Key) = b1 from r1)
    obtain ⟨t, rfl⟩ := (show ∃ t, b2 = Value.int (v c) t from r2)
    have hc : c ∈ F := hG c List.mem_cons_self
    have rv := rb.val (Sum.inr (S [c]))
    rw [numK_val _ hc] at rv
    obtain ⟨y, hy, ry⟩ := rv.some_of
    obtain ⟨t', rfl⟩ := (show ∃ t, y = Value.int (v' c) t from ry)
    have e : decide (∀ c' ∈ c :: G, v c' = v' c') = ((v c == v' c) && decide (∀ c' ∈ G, v c' = v' c')) := by
      by_cases h1 : v c = v' c
      · rw [beq_iff_eq.mpr h1, Bool.true_and]
        exact decide_eq_decide.mpr ⟨fun h c' hc' => h c' (List.mem_cons_of_mem _ hc'), fun h c' hc' => (List.mem_cons.mp hc').elim (fun z => z ▸ h1) (fun z => h c' z)⟩
      · rw [beq_eq_false_iff_ne.mpr h1, Bool.false_and]
        exact decide_eq_false fun h => h1 (h c List.mem_cons_self)
    rw [e]
    exact .hit hy (SeqAt.EqAt.int_int _ _ _ _) (hitsN rb (fun c' hc' => hG c' (List.mem_cons_of_mem _ hc')) rr)
end
section
variable {X : Cx}
def rEqNum : R2 := fun x y H Q => ∃ (a b : Addr) (F : List Nat) (v v' : Nat → Int), x = .ref a ∧ y = .ref b ∧ H a = some (.dK (numK F fun c => .int (v c))) ∧ H b = some (.dK (numK F fun c => .int (v' c))) ∧ Q (.bl (decide (∀ c ∈ F, v c = v' c))) H
theorem op_eq_num (hu : X.A.units < cLine) : OpR X (compareOp .Eq) rEqNum := by
  intro pins s σ H x y p q Q I rx ry h
  obtain ⟨a, b, F, v, v', rfl, rfl, ea, eb, hq⟩ := h
  obtain rfl : p = Value.ref a := rx
  obtain rfl : q = Value.ref b := ry
  obtain ⟨_, ya, va, ra, da⟩ := dk_of I.hok ea
  obtain ⟨_, yb, vb, rb, db⟩ := dk_of I.hok eb
  have hl : va.length = vb.length := by rw [← ra.length, ← rb.length]; unfold numK; rw [List.length_map, List.length_map]
  exact PySem.W.keq_eq (r := decide (∀ c ∈ F, v c = v' c)) ya yb da db hu (fun _ => hitsN rb (fun _ h => h) ra) (fin_bl I hq (by simp [hl]))
end
end FW
namespace FW
open PySem PySem.Spec PyProof.Rows L2
-- more
section
variable {P : Program} {w : World} {K : PySem.W.Frag} {mg : Str → Option Value} {base : Heap}
abbrev s_made : Stmt := topS 22
theorem sc_made : FnScope ["faces", "each", "numbers", "given"] ["faces", "each", "numbers"] (defScope s_made) := ⟨rfl, rfl, rfl, by decide +kernel, rfl, by decide +kernel, by decide +kernel⟩
theorem zip_fs {α β : Type} : ∀ R : List (α × β), (R.map (·.1)).zip (R.map (·.2)) = R
  | [] => rfl
  | x :: r => by rw [List.map_cons, List.map_cons, List.zip_cons_cons, zip_fs r]
/-- letters with numbers, as keywords -/
def letR (F : List Nat) (v : Nat → Int) : List (Str × V) := F.map fun c => (S [c], V.int (v c))
theorem letR_keys (F : List Nat) (v : Nat → Int) : keysOf (letR F v) = numK F fun c => .int (v c) := by
  unfold keysOf letR numK
  rw [List.map_map]
  rfl
theorem letR_fst (F : List Nat) (v : Nat → Int) : (letR F v).map (·.1) = F.map fun c => S [c] := by
  unfold letR
  rw [List.map_map]
  rfl
theorem sing_not {z : Str} (c : Nat) (h : z.cps.size ≠ 1) : (z == S [c]) = false := beq_eq_false_iff_ne.mpr fun e => h (by rw [e]; rfl)
theorem letR_no (F : List Nat) (v : Nat → Int) : ∀ p ∈ letR F v, nmW.contains p.1 = false := fun p hp => by
  obtain ⟨c, _, rfl⟩ := List.mem_map.mp hp
  show List.contains [("self" : Str), "faces", "each"] (S [c]) = false
  have e1 : ((S [c]) == ("self" : Str)) = false := beq_eq_false_iff_ne.mpr fun e => absurd (congrArg (fun z : Str => z.cps.size) e) (show ¬ (1 : Nat) = 4 by decide)
  have e2 : ((S [c]) == ("faces" : Str)) = false := beq_eq_false_iff_ne.mpr fun e => absurd (congrArg (fun z : Str => z.cps.size) e) (show ¬ (1 : Nat) = 5 by decide)
  have e3 : ((S [c]) == ("each" : Str)) = false := beq_eq_false_iff_ne.mpr fun e => absurd (congrArg (fun z : Str => z.cps.size) e) (show ¬ (1 : Nat) = 4 by decide)
  rw [List.contains_cons, List.contains_cons, List.contains_cons, e1, e2, e3]
  rfl
theorem kwW_given {x : Addr} {F e : V} {R : List (Str × V)} (h : ∀ p ∈ R, nmW.contains p.1 = false) (nd : (R.map (·.1)).Nodup) (zr : R.length ≤ 1000) : KwW (.int 0) [.ref x, F] ((R ++ [(("each" : Str), e)] : List (Str × V))) (.ref x) F e R := by
  have f1 : ((R ++ [(("each" : Str), e)]).filter fun x => nmW.contains x.1) = [(("each" : Str), e)] := by
    rw [List.filter_append, List.filter_eq_nil_iff.mpr fun p hp => by rw [h p hp]; exact Bool.false_ne_true]
    rfl
  have f2 : ((R ++ [(("each" : Str), e)]).filter fun x => !nmW.contains x.1) = R := by
    rw [List.filter_append, List.filter_eq_self.mpr fun p hp => by rw [h p hp]; rfl]
    show R ++ [] = R
    rw [List.append_nil]
  refine ⟨(show 2 ≤ 2 by decide), ?_, ?_, ?_, ?_, f2, nd, Nat.le_trans zr (by decide)⟩
  · rw [f1]
    show ([("self" : Str), ("faces" : Str), ("each" : Str)]).Nodup
    decide
  · rw [f1]; rfl
  · rw [f1]; rfl
  · rw [f1]; rfl
def sp_made (K : PySem.W.Frag) (CW : Addr) : Sp := fun vs H Q _ => ∃ (F : List Nat) (e : Int) (nd : Addr) (v : Nat → Int), vs = [.str (S F), .int e, .ref nd] ∧ bFaces (.str (S F)) = true ∧ F.Nodup ∧ F.length ≤ 900 ∧ H nd = some (.dK (numK F fun c => .int (v c))) ∧
  ∀ H' x nd', Same H H' → H x = none → H nd' = none → WtA CW H' x nd' F e v → Q (.ref x) H'
theorem ok_made {f CI CF CN CW fI : Addr} {fd : FuncData} (F : Fun K "made" "made" s_made f fd) (T : Z mg) (MK : Mk K CW fI) (gW : mg "Weights" = some (.ref CW)) (FIW : ∀ ks, FnKw P w K mg base (L2.CX P w) 4 fI ks (sp_init_of K CI CF CN CW ks)) :
    FnOk P w K mg base CX0 6 f fd ["faces", "each", "numbers"] (sp_made K CW) := by
  refine F.ok sc_made (fun vs H Q E h => ?_) (fun cdv A outer s H vs Q E hr h => ?_)
  · obtain ⟨fs, e, nd, v, rfl, _⟩ := h
    rfl
  obtain ⟨fs, e, nd, v, rfl, bF, nF, lF, hnd, q⟩ := h
  refine ⟨_, (pss_cons (ps_set (i := 3) sc_made.nd rfl (.inl rfl) (pe_dspread (pv 2) pe_str (pv 1)))
    (pss_one (ps_ret (pe_makeKw (E := E0) MK FIW (hr.mono (by decide)) (by rfl) gW passL (pa_cons (pv 0) pa_nil) (pv 3))))), ?_⟩
  have lk : (numK fs fun c => .int (v c)).length ≤ 1000 := by
    unfold numK
    rw [List.length_map]
    omega
  refine fun p np => ?_
  have ndp : nd ≠ p := fun z => by rw [z, np] at hnd; cases hnd
  refine ⟨_, rfl, nd, _, rfl, ndp, (upd_ne ndp).trans hnd, upd_same, lk, fun q1 nq => ?_⟩
  have npq : p ≠ q1 := fun z => by rw [← z, upd_same] at nq; cases nq
  refine ⟨_, rfl, Sum.inr ("each" : Str), rfl, npq, upd_same, (upd_ne npq).trans upd_same, ?_⟩
  have np2 : valV (numK fs fun c => .int (v c)) (Sum.inr ("each" : Str)) = none := by
    cases hh : valV (numK fs fun c => V.int (v c)) (Sum.inr ("each" : Str)) with
    | none => rfl
    | some y =>
      obtain ⟨z, hz, e0⟩ := List.mem_map.mp (valV_in hh)
      obtain ⟨c, _, rfl⟩ := List.mem_map.mp hz
      have e2 : S [c] = ("each" : Str) := Sum.inr.inj e0
      exact absurd (congrArg (fun z : Str => z.cps.size) e2) (show ¬ (1 : Nat) = 4 by decide)
  rw [putK_new _ np2]
  have ek : (numK fs fun c => V.int (v c)) ++ [((Sum.inr ("each" : Str) : Key), V.int e)] = keysOf (letR fs v ++ [(("each" : Str), V.int e)]) := by
    rw [← letR_keys]
    unfold keysOf
    rw [List.map_append]
    rfl
  rw [ek]
  generalize hG : upd (upd (upd (upd (upd H p (.dK [])) p (.dK (numK fs fun c => .int (v c)))) q1 (.dK [])) q1 (.dK [((Sum.inr ("each" : Str) : Key), V.int e)])) p (.dK (keysOf (letR fs v ++ [(("each" : Str), V.int e)]))) = G
  have sG : Same H G := fun b o hb => by
    have b1 : b ≠ p := fun z => by rw [z, np] at hb; cases hb
    have b2 : b ≠ q1 := fun z => by
      rw [z] at hb
      rw [upd_ne (Ne.symm npq), upd_ne (Ne.symm npq), hb] at nq
      cases nq
    rw [← hG, upd_ne b1, upd_ne b2, upd_ne b2, upd_ne b1, upd_ne b1]
    exact hb
  have hGp : G p = some (.dK (keysOf (letR fs v ++ [(("each" : Str), V.int e)]))) := by rw [← hG]; exact upd_same
  clear hG
  refine ⟨_, rfl, fun p2 np3 => ?_⟩
  have pp2 : p ≠ p2 := fun z => by rw [← z, hGp] at np3; cases np3
  refine ⟨_, rfl, p, letR fs v ++ [(("each" : Str), V.int e)], rfl, pp2, (upd_ne pp2).trans hGp, upd_same, ?_, fun x dx nx ndx hdx => ?_⟩
  · rw [List.length_append]
    show (letR fs v).length + 1 ≤ 1000
    unfold letR
    rw [List.length_map]
    omega
  have s2 : Same G (upd (upd G p2 (.dK [])) p2 (.dK (keysOf (letR fs v ++ [(("each" : Str), V.int e)])))) := fun b o hb => by
    have b1 : b ≠ p2 := fun z => by rw [z, np3] at hb; cases hb
    rw [upd_ne b1, upd_ne b1]
    exact hb
  have ndl : ((letR fs v).map (·.1)).Nodup := by
    rw [letR_fst]
    exact List.nodup_iff_pairwise_ne.mpr (List.pairwise_map.mpr ((List.nodup_iff_pairwise_ne.mp nF).imp fun h e => h (sing_inj e)))
  have W : KwW (.int 0) [.ref x, .str (S fs)] (((letR fs v ++ [(("each" : Str), V.int e)]).map (·.1)).zip ((letR fs v ++ [(("each" : Str), V.int e)]).map (·.2))) (.ref x) (.str (S fs)) (.int e) (letR fs v) := by
    rw [zip_fs]
    exact kwW_given (letR_no fs v) ndl (by unfold letR; rw [List.length_map]; omega)
  refine init_good W (fun p' hp' => ?_) bF (by omega) nF (fun p' hp' => ?_) (fun p' hp' => ?_) (v := v) (fun c hc => ?_) nx ndx hdx fun H3 nd3 s3 hnd3 hnx hW => ⟨rfl, q H3 x nd3 (sG.trans (s2.trans s3)) ?_ ?_ hW⟩
  · obtain ⟨c, _, rfl⟩ := List.mem_map.mp hp'
    exact (show 1 ≤ 1000 by decide)
  · obtain ⟨c, hc, rfl⟩ := List.mem_map.mp hp'
    exact letter_of hc
  · obtain ⟨c, hc, rfl⟩ := List.mem_map.mp hp'
    exact ⟨_, rfl⟩
  · rw [letR_keys, numK_val _ hc]
    rfl
  · exact none_same (sG.trans s2) nx
  · exact none_same (sG.trans s2) hnd3
end
end FW
/-! errors that bear nothing but their code; ~x and -x by the class's own methods -/
namespace FW
open PySem PySem.Spec PyProof.Rows L2
section
variable {X : Cx} {o e : Expr} {es : List Expr} {to te : TE} {ta : TA} {f : Str} {p p2 pos : Pos}
/-- C(e, ..) of such a class -/
theorem pmk_oexA0 {CX : CXT} {x : Str} {C fI : Addr} {k : Nat} {fd : FuncData} {ps : List Str} {sp : Sp} {ds : List Value} {dvs : List V} (T : OexA X.K C) (iC : PySem.W.findIn X.K (.ref C) "__init__" = some (some (.ref fI))) (tI : PySem.W.typeIn X.K (.ref fI) = some (.type "function"))
    (FI : FnOk X.prog X.w X.K X.mg X.base CX k fI fd ps sp) (hr : Room (k + 1) X.A) (hb : Binds X.K fd ps ds) (hd : Vals dvs ds) (hx : Passes CX X (fun _ _ _ => False)) (hg : Gl X x) (hm : X.mg x = some (.ref C))
    (nb : (x == ("__debug__" : Str)) = false := by decide) :
    PMk X (.Call (.Name x p) [] [] pos) (tMkO C sp dvs tNil) := by
  intro pins s σ H Q I h
  obtain ⟨B, ni, ii, t, EB, _, nm, q, N, bs, bm, sn, sub, ab, col, dd, k0, k1, k2, k3, k5, hC, hbm⟩ := T.cls
  obtain ⟨cs, rfl⟩ := own_of hbm
  obtain ⟨hz, h1⟩ := h
  refine wpAny_Call_Name_kw (ld_glob I hg hm (PySem.W.callWith_K0 I.kIn T.kC ?_) nb)
  have I1 := I
  have r1 : Vals [] ([] : List Value) := .nil
  obtain ⟨hp, g, dr, tk, os⟩ := s
  show wpAny _ _ (call (.ref C) []) _ _ _
  have fresh : hp.objs.size ≤ hp.objs.size + 1 := Nat.le_succ _
  have n1 : H (hp.objs.size + 1) = none := I1.hok.fresh fresh
  have hq := h1 (hp.objs.size + 1) n1
  have stay : ∀ c o, hp.get? c = some o → ((hp.push (PySem.W.kdv_tup [])).push (PySem.HandSPX.excO C hp.objs.size)).get? c = some o := fun c o z => Heap.get?_push_of_some _ (Heap.get?_push_of_some _ z)
  have made : ((hp.push (PySem.W.kdv_tup [])).push (PySem.HandSPX.excO C hp.objs.size)).get? (hp.objs.size + 1) = some (PySem.HandSPX.excO C hp.objs.size) := by heap_get
  have I2 := I1.laid (t' := tk) (a := hp.objs.size + 1) (o := exo (hp.objs.size + 1) C none) (h' := (hp.push (PySem.W.kdv_tup [])).push (PySem.HandSPX.excO C hp.objs.size)) stay fresh (exo_ok made)
  have r2 : Vals (V.ref (hp.objs.size + 1) :: dvs) (Value.ref (hp.objs.size + 1) :: ds) := .cons rfl hd
  have many : (Value.ref (hp.objs.size + 1) :: ds).length = ps.length := r2.length.symm.trans (FI.len _ _ _ _ hq)
  have few : ([] : List Value).length ≤ sizeLine := by
    rw [sizeLine_eq, ← Paired.length r1]
    omega
  refine wpAny_call (PySem.HandSPX.call_own EB (fun z => own_has z cs) (I1.kIn _ _ hC) (PySem.W.looks_findIn I1.kIn iC) (fun self => PySem.W.bind_fn I1.kIn self tI) few (codeAny_mono (FI.run _ X.stack _ _ ⟨Value.ref (hp.objs.size + 1) :: [], []⟩ (Value.ref (hp.objs.size + 1) :: ds) _ _ (fun _ _ _ => False) (hr.make C [] []) (I2.env0.make C [] []) (hb _ (Value.ref (hp.objs.size + 1) :: []) I2.kIn many) r2 hq) fun r s2 back => ?_))
  match r, back with
  | .error er, back => exact hx pins σ _ _ er s2 I2 back
  | .ok (.ret u), back =>
    obtain ⟨_, H2, os2, bare, un, hok, rv, rfl, d, fs, ea, ed, nd, h2⟩ := back
    obtain ⟨h2', g2, d2, t2, os'⟩ := s2
    exact ⟨rv, mk_end (raises_own T.exC T.tyC) I1 fresh stay un hok os2 bare ea ed nd h2⟩
  | .ok .next, back => exact False.elim back
  | .ok .brk, back => exact False.elim back
  | .ok .cont, back => exact False.elim back
end
/-- __init__(self): self.code = the class's name -/
def sp_init0 (K : PySem.W.Frag) : Sp := fun vs H Q _ => ∃ (a C : Addr) (z : Str), vs = [.ref a] ∧ H a = some (exo a C none) ∧ OexA K C ∧ ClsE K C ∧ NameC K C z ∧ PySem.W.findIn K (.ref C) "code" = some none ∧
  ∀ dx, H dx = none → dx ≠ a → Q .non (upd (upd H dx (exd dx [("code", .str z)])) a (exo a C (some dx)))
/-- the dict of an error that bears its code alone -/
def Err0 (z : String) : HO := .xd [("code", .str (Str.ofString z))]
section
variable {K : PySem.W.Frag} {mg : Str → Option Value} {C fI : Addr} {x : String} {H1 : Hp} {Q E : XK}
theorem err_heap0 {H : Hp} {a d : Addr} {o1 o2 o3 u : HO} (na : H a = none) (hda : d ≠ a) : upd (del (upd (upd (upd H a o1) d o2) a o3) a) d u = upd H d u := by
  funext b
  by_cases hb : b = d
  · rw [hb, upd_same, upd_same]
  · rw [upd_ne hb, upd_ne hb]
    by_cases ha : b = a
    · rw [ha, del_same, na]
    · rw [del_ne ha, upd_ne ha, upd_ne hb, upd_ne ha]
theorem mk0A (T : KlsA K mg C fI x) (h : ∀ d, H1 d = none → Q (.ref C) (some d) (upd H1 d (Err0 x))) :
    ([] : List V).length ≤ 1000 ∧ ∀ a, H1 a = none → sp_init0 K (.ref a :: ([] ++ [])) (upd H1 a (exo a C none)) (fun v H2 => v = .non ∧ ∃ (d : Addr) (fs : List (Str × V)), H2 a = some (exo a C (some d)) ∧ H2 d = some (exd d fs) ∧ H1 d = none ∧ Q (.ref C) (some d) (upd (del H2 a) d (.xd fs))) E := by
  refine ⟨Nat.zero_le _, fun a na => ⟨a, C, Str.ofString x, rfl, upd_same, T.oex, T.cle, T.nam, T.ncode, fun d hd hda => ⟨rfl, d, _, upd_same, (upd_ne hda).trans upd_same, ?_, ?_⟩⟩⟩
  · rwa [upd_ne hda] at hd
  · rw [upd_ne hda] at hd
    rw [err_heap0 na hda]
    exact h d hd
end
/-- such a class that the law's own try takes -/
structure ErrN (K : PySem.W.Frag) (mg : Str → Option Value) (C : Addr) (z : String) (cs : List Value) : Prop where
  kls : ∃ fI, KlsA K mg C fI z
  hex : PySem.W.exmAny K (.ref C) cs = some true
  fi : FieldIs K C [("code", .str (Str.ofString z))] (Str.ofString z) .non
theorem fi_none {K : PySem.W.Frag} {C : Addr} {z : Str} (h : decide (z ∈ (["InvalidPaper", "OtherFaces", "OtherCutters", "NothingLeft"] : List Str)) = true) : FieldIs K C [("code", .str z)] z .non := by
  have h' := of_decide_eq_true h
  have no : ∀ l : List Str, (["InvalidPaper", "OtherFaces", "OtherCutters", "NothingLeft"] : List Str).all (fun y => !decide (y ∈ l)) = true → z ∉ l := fun l e m => by
    have := List.all_eq_true.mp e z h'
    rw [decide_eq_true m] at this
    cases this
  unfold FieldIs
  rw [if_neg (no _ (by decide +kernel)), if_neg (no _ (by decide +kernel)), if_neg (no _ (by decide +kernel)), if_neg (fun e => no ["UnknownState"] (by decide +kernel) (List.mem_singleton.mpr e)), if_pos h']
theorem ErrN.tried {K : PySem.W.Frag} {mg : Str → Option Value} {C : Addr} {z : String} {cs : List Value} {Q : VK} {H1 : Hp} {d : Addr} (T : ErrN K mg C z cs) (nd : H1 d = none) (h : ∀ H2 p, Same H1 H2 → H2 p = none → Q (.ref p) (upd H2 p (.tup [.str (Str.ofString z), .non]))) :
    PySem.W.exmAny K (.ref C) cs = some true ∧ ∀ a, (upd H1 d (Err0 z)) a = none → ∃ (z' : Str) (v' : V), Caught K (upd (upd H1 d (Err0 z)) a (ExK (.ref C) (some d) a)) a z' v' ∧ ∀ H2, Same (upd (upd H1 d (Err0 z)) a (ExK (.ref C) (some d) a)) H2 → ∀ p, H2 p = none → Q (.ref p) (upd H2 p (.tup [.str z', v'])) := by
  obtain ⟨fI, k⟩ := T.kls
  refine ⟨T.hex, fun a na => ⟨Str.ofString z, .non, ?_, fun H2 s2 p np => h H2 p (((same_upd nd).trans (same_upd na)).trans s2) np⟩⟩
  have hne : d ≠ a := fun e => by
    rw [← e, upd_same] at na
    cases na
  exact ⟨C, d, _, upd_same, (upd_ne hne).trans upd_same, k.xf, k.ncode, rfl, T.fi⟩
section
variable {X : Cx} {k : Nat} {cs : List Value} {σ : L2.St}
theorem oneAsk_errN {Hn : Hp} {D f : Addr} {a : AskS X k} {mg : Str → Option Value} {C : Addr} {z : String} {c' : Addr} {dV : Value} (T : ErrN X.K mg C z cs) (nD : Hn D = none) (la : LamAt Hn f (a.lam c' dV) a.dvs)
    (h : ∀ H, Same Hn H → ∀ (E : XK) (Q : VK), (∀ H' d, Same H H' → H' d = none → E (.ref C) (some d) (upd H' d (Err0 z))) → a.tb (a.js.map (NdefX.slotAt σ)) E H Q) : OneAsk cs σ Hn D (f, a) (.tuple [.str (Str.ofString z), .none]) := by
  refine fun H s hD => ⟨⟨c', dV, la.same s⟩, fun Q' q => h H s _ _ fun H' d s' nd => T.tried nd fun H2 p s2 np => ?_⟩
  have st := same_upd (o := HO.tup [.str (Str.ofString z), .non]) np
  refine q _ _ (s'.trans (s2.trans st)) fun Hx bx => ?_
  obtain ⟨acc, hD⟩ := hD
  have hpD : p ≠ D := fun e => by
    rw [e, s2 _ _ (s' _ _ hD)] at np
    cases np
  exact .tup (SqT.of (bx _ _ hpD upd_same)) (.cons (.str _) (.cons .non .nil))
end
/-! ### own unary operators -/
def rOwnU (C : Addr) (sp : Sp) (E : XK) : V → Hp → VK → Prop := fun x H Q => ∃ a dx fs, x = .ref a ∧ H a = some (.ins C dx fs) ∧ sp [x] H Q E
/-- what a class of one's own says of a method with a name of its own meaning -/
structure OwnM (P : Program) (w : World) (K : PySem.W.Frag) (mg : Str → Option Value) (base : Heap) (CX : CXT) (C : Addr) (m : Str) (k : Nat) (sp : Sp) : Prop where
  ex : ∃ f : Addr, PySem.W.findIn K (.ref C) m = some (some (.ref f)) ∧ PySem.W.isFn K (.ref f) = true ∧ FnR P w K mg base CX k f sp
section
variable {X : Cx} {CX : CXT} {C : Addr} {j k : Nat} {sp : Sp} {E : XK}
theorem un_invO (o : OwnM X.prog X.w X.K X.mg X.base CX C "__invert__" k sp) (hr : Room j X.A) (hk : k ≤ j) (hx : Passes CX X E) : UnR X (unaryOp .Invert) (rOwnU C sp E) := by
  intro pins s σ H x v Q I rx h
  obtain ⟨a, dx, fs, rfl, ha, q⟩ := h
  obtain ⟨f, hs, hf, F⟩ := o.ex
  cases (show v = Value.ref a from rx)
  obtain ⟨mA, J, _⟩ := ins_get I.hok ha
  obtain ⟨od, J, _⟩ := J.look
  obtain ⟨m, hF⟩ := I.fr
  exact PySem.W.ksp_inv hF I.ok.mod.kin J hs hf (wpAny_call (run_fnR (us := [.ref a]) (vs := [.ref a]) F (hr.mono hk) hx I (.cons rfl .nil) q))
theorem un_negO (o : OwnM X.prog X.w X.K X.mg X.base CX C "__neg__" k sp) (hr : Room j X.A) (hk : k ≤ j) (hx : Passes CX X E) : UnR X (unaryOp .USub) (rOwnU C sp E) := by
  intro pins s σ H x v Q I rx h
  obtain ⟨a, dx, fs, rfl, ha, q⟩ := h
  obtain ⟨f, hs, hf, F⟩ := o.ex
  cases (show v = Value.ref a from rx)
  obtain ⟨mA, J, _⟩ := ins_get I.hok ha
  obtain ⟨od, J, _⟩ := J.look
  obtain ⟨m, hF⟩ := I.fr
  exact PySem.W.ksp_neg hF I.ok.mod.kin J hs hf (wpAny_call (run_fnR (us := [.ref a]) (vs := [.ref a]) F (hr.mono hk) hx I (.cons rfl .nil) q))
/-- a binary operator in a place that errors may leave -/
theorem op_binX {op : Operator} (o : OwnM X.prog X.w X.K X.mg X.base CX C (PySem.dunder op.info.2) k sp) (sf : PySem.W.selfFirst X.K C = true) (hr : Room j X.A) (hk : k ≤ j) (hx : Passes CX X E) : OpR X (binaryOp op) (rOwnB C sp E) := by
  obtain ⟨f, h1, h2, F⟩ := o.ex
  exact op_binI h1 h2 sf F (hr.mono hk) hx
end
end FW
/-! a comprehension over a text whose items may add to the heap -/
namespace FW
open PySem PySem.Spec PyProof.Rows L2
theorem lc_strX {F : List Nat} {σ : L2.St} {vs : List Nat} {H1 : Hp} {D : Addr} {Qd : Hp → Prop} {i : Nat} {tt : TT} {te : TE} (v : Nat → V) (nD : H1 D = none) (hz : F.length < sizeLine) (hw : ∀ x : V, wipe ((wipe σ vs).set i (some x)) vs = wipe σ vs)
    (hT : ∀ c ∈ F, ∀ H, Same H1 H → ∀ R : Bool → Hp → Prop, R true H → tt ((wipe σ vs).set i (some (sgn c))) H R)
    (hE : ∀ c ∈ F, ∀ H, Same H1 H → ∀ R : VK, (∀ H', Same H H' → R (v c) H') → te ((wipe σ vs).set i (some (sgn c))) H R)
    (q : ∀ H', Same H1 H' → H' D = some (.lst (F.map v)) → Qd H') :
    ∃ W : Nat → Nat → Hp → Prop, (∃ m, W 0 m (upd H1 D (.lst []))) ∧ ∀ j m H, W j m H →
      ((Its (S F)).stop j H ∧ Qd H) ∨ ((Its (S F)).go j H ∧ ∃ Nx : Hp → Prop, (∀ H', Nx H' → ∃ m', m' < m ∧ W (j + 1) m' H') ∧ ∀ x H', (Its (S F)).yld j H x H' → gName i x (wipe σ vs) H' fun σ2 H2 => wipe σ2 vs = wipe σ vs ∧ tt σ2 H2 fun b H3 =>
        if b = true then te σ2 H3 fun y H4 => ∃ acc, H4 D = some (.lst acc) ∧ acc.length < sizeLine ∧ Nx (upd H4 D (.lst (acc ++ [y]))) else Nx H3) := by
  refine lc_it walk_str (fun j H2 => H2 D = some (.lst ((F.take j).map v)) ∧ Same H1 H2) ⟨upd_same, same_upd nD⟩ (fun _ _ _ _ => trivial) ?_ ?_
  · rintro j z H2 _ hj ⟨hD2, s2⟩ ⟨rfl, c, hc, rfl⟩
    have hj' : j < F.length := hj
    have hcF : F[j]? = some c := by
      rw [show F[j]? = (S F).cps.toList[j]? from rfl, Array.getElem?_toList]
      exact hc
    have hcm := List.mem_of_getElem? hcF
    refine ⟨hw _, hT c hcm _ s2 _ ?_⟩
    rw [if_pos rfl]
    refine hE c hcm _ s2 _ fun H3 s3 => ⟨_, s3 _ _ hD2, ?_, ?_, fun a o e => ?_⟩
    · rw [List.length_map, List.length_take]
      omega
    · rw [upd_same, List.take_add_one, hcF, List.map_append]
      rfl
    · rw [upd_ne (fun z => by rw [z, nD] at e; cases e)]
      exact s3 _ _ (s2 _ _ e)
  · rintro H2 ⟨hD2, s2⟩
    rw [show F.take (S F).cps.size = F from List.take_of_length_le (Nat.le_refl _)] at hD2
    exact q H2 s2 hD2
end FW
/-! {c: v(c) for c in text}, where the values may lay things down -/
namespace FW
open PySem PySem.Spec PyProof.Rows L2
theorem dc_strX {F : List Nat} {σ : L2.St} {vs : List Nat} {H1 : Hp} {D : Addr} {Qd : Hp → Prop} {i : Nat} {tt : TT} {tk tv : TE} (v : Nat → V) (nD : H1 D = none) (hz : F.length < sizeLine) (nd : F.Nodup) (hw : ∀ x : V, wipe ((wipe σ vs).set i (some x)) vs = wipe σ vs)
    (hT : ∀ c ∈ F, ∀ H, Same H1 H → ∀ R : Bool → Hp → Prop, R true H → tt ((wipe σ vs).set i (some (.str (S [c])))) H R)
    (hK : ∀ c ∈ F, ∀ H, Same H1 H → ∀ R : VK, R (.str (S [c])) H → tk ((wipe σ vs).set i (some (.str (S [c])))) H R)
    (hE : ∀ c ∈ F, ∀ H, Same H1 H → ∀ R : VK, (∀ H', Same H H' → R (v c) H') → tv ((wipe σ vs).set i (some (.str (S [c])))) H R)
    (q : ∀ H', Same H1 H' → H' D = some (.dK (numK F v)) → Qd H') :
    ∃ W : Nat → Nat → Hp → Prop, (∃ m, W 0 m (upd H1 D (.dK []))) ∧ ∀ j m H, W j m H →
      ((Its (S F)).stop j H ∧ Qd H) ∨ ((Its (S F)).go j H ∧ ∃ Nx : Hp → Prop, (∀ H', Nx H' → ∃ m', m' < m ∧ W (j + 1) m' H') ∧ ∀ x H', (Its (S F)).yld j H x H' → gName i x (wipe σ vs) H' fun σ2 H2 => wipe σ2 vs = wipe σ vs ∧ tt σ2 H2 fun b H3 =>
        if b = true then tk σ2 H3 fun y H4 => tv σ2 H4 fun z H5 => ∃ kvs k, y = kV k ∧ H5 D = some (.dK kvs) ∧ kvs.length < sizeLine ∧ Nx (upd H5 D (.dK (putK kvs k z))) else Nx H3) := by
  refine ⟨fun j m H => m = F.length - j ∧ j ≤ F.length ∧ H D = some (.dK (numK (F.take j) v)) ∧ Same H1 H, ⟨F.length, by simp, Nat.zero_le _, upd_same, same_upd nD⟩, ?_⟩
  rintro j m H ⟨rfl, hj, hD, sH⟩
  by_cases hlt : j < F.length
  · refine .inr ⟨(walk_str (z := S F)).goes j _ (by exact hlt) trivial, fun H' => H' D = some (.dK (numK (F.take (j + 1)) v)) ∧ Same H1 H', fun H' p' => ⟨F.length - (j + 1), by omega, rfl, hlt, p'⟩, fun x H' y => ?_⟩
    obtain ⟨rfl, c, hc, rfl⟩ := (walk_str (z := S F)).yields j _ x H' hlt trivial y
    have hc1 : F[j]? = some c := by
      have : (S F).cps.toList[j]? = some c := by rw [Array.getElem?_toList]; exact hc
      exact this
    have e : F.take (j + 1) = F.take j ++ [c] := by
      rw [List.take_add_one, hc1]
      rfl
    have hm := List.mem_of_getElem? hc1
    have hnot : c ∉ F.take j := by
      have nd2 : (F.take (j + 1)).Nodup := nd.sublist (List.take_sublist _ _)
      rw [e, List.nodup_append] at nd2
      exact fun h => nd2.2.2 c h c (List.mem_singleton.mpr rfl) rfl
    refine ⟨hw _, hT c hm _ sH _ ?_⟩
    rw [if_pos rfl]
    refine hK c hm _ sH _ (hE c hm _ sH _ fun H5 s5 => ⟨_, Sum.inr (S [c]), rfl, s5 _ _ hD, ?_, ?_, fun a o ea => ?_⟩)
    · show (List.map _ (F.take j)).length < _
      rw [List.length_map, List.length_take]
      omega
    · rw [upd_same, putK_new _ (numK_none v hnot), e, numK_snoc]
    · rw [upd_ne (fun z => by rw [z, nD] at ea; cases ea)]
      exact s5 _ _ (sH _ _ ea)
  · have ej : j = F.length := by omega
    subst ej
    rw [List.take_length] at hD
    exact .inl ⟨(walk_str (z := S F)).stops _ trivial, q H sH hD⟩
end FW
/-! name = {k: v for ..} on one line, the name a local -/
namespace FW
open PySem PySem.Spec PyProof.Rows L2
section
variable {X : Cx}
theorem ps_setDc {i : Nat} {y : Str} {py : Pos} {kx vx tg iter : Expr} {ifs : List Expr} {scope : Scope} {own : List (Str × Nat)} {pos spos : Pos} {wi : TI} {g : TG} {tt : TT} {tk tv : TE} (hc : X.calm = true) (hN : X.N.Nodup) (hy : X.N[i]? = some y) (hyl : X.env.scope.names.lookup y = some .local)
    (hsw : swapsWith (.DictComp kx vx [⟨tg, iter, ifs, 0⟩] scope pos) (some (.Name y py)) spos.line X.env = pure true) (hi : PI X tg iter wi) (ok : BlkOk X.N X.env.scope scope own)
    (hg : ∀ (s : Shared) (H : Hp) (C : Addr) (cl : List (Str × Addr)) (fp : List Addr), PG (X.blk s H scope (compEnvC scope cl C X.env) fp) tg g) (ht : ∀ (s : Shared) (H : Hp) (C : Addr) (cl : List (Str × Addr)) (fp : List Addr), PTs (X.blk s H scope (compEnvC scope cl C X.env) fp) ifs tt)
    (hk : ∀ (s : Shared) (H : Hp) (C : Addr) (cl : List (Str × Addr)) (fp : List Addr), PE (X.blk s H scope (compEnvC scope cl C X.env) fp) kx tk)
    (he : ∀ (s : Shared) (H : Hp) (C : Addr) (cl : List (Str × Addr)) (fp : List Addr), PE (X.blk s H scope (compEnvC scope cl C X.env) fp) vx tv) (hs : ∀ x, foldedSetIterable iter X.env x = pure x := by intro _; rfl) :
    PS X (.Assign [.Name y py] (.DictComp kx vx [⟨tg, iter, ifs, 0⟩] scope pos) spos) (tAsg (tDc wi g tt tk tv (own.map (·.2))) (gName i)) := by
  refine ⟨fun pins s σ H D I h => ?_⟩
  rw [exec_Assign_Name_used _ _ _ _ hsw]
  refine wpAny_bind (wpAny_standAt (wpAny_bind ?_))
  show wpAny _ X.A (do let _ ← comprehension (.DictComp kx vx [⟨tg, iter, ifs, 0⟩] scope pos) scope X.env (firstIterPos [⟨tg, iter, ifs, 0⟩] pos) newDict false (eval iter X.env) (some (assign (.Name y py) X.env))) _ _ s
  have h : tDc wi g tt tk tv (own.map (·.2)) σ H (fun x H1 => gName i x σ H1 D.nx) := h
  refine wpAny_bind (thn (dc_core (Qf := fun _ s' => SP X pins D .next s') hc hN I hi ok hg ht hk he hs h fun L C s' m H' I' q hn f => ?_) fun _ s' hq => wpAny_pure (wpAny_pure hq))
  show wpAny _ _ (assign (.Name y py) X.env (.ref L)) _ _ _
  refine wpAny_assign_Name (store_ok2 (v := V.ref L) I' hN hy (.inl hyl) rfl (fun s2 I2 ⟨a, sb, ha⟩ => ?_) (.inr hyl))
  obtain ⟨f0, f1, f2, f3, f4, f5⟩ := f
  have haC : C ≠ a := by
    rcases ha with z | z
    · rw [z]; exact f1
    · exact fun e => f4 y a z e.symm
  refine ⟨m, hn.sameBut sb haC, fun h3 sb3 => ?_⟩
  exact ⟨_, H', I2.turned (t' := s2.toks) (fun b o hb e => (sb3.2 b hb).trans e) f0 f1 f3 f4 f5, q⟩
theorem sw_trueD {kx vx : Expr} {gs : List Comprehension} {scope : Scope} {pos py : Pos} {y : Str} {l : Nat} {env : Env} (hk : env.scope.kind = .function) (hy : env.scope.names.lookup y = some .local) (hl : (py.line == pos.line) = true)
    (ha : (scope.names.any fun (n, k) => n == y && (k == .local || k == .cell)) = false) : swapsWith (.DictComp kx vx gs scope pos) (some (.Name y py)) l env = pure true := by
  have ky : env.kindOf y = some .local := hy
  have hb : env.blockKind = .function := by unfold Env.blockKind; rw [hk]; rfl
  unfold swapsWith
  simp only [hb, ky, ha, Expr.pos, hl]
  rfl
end
end FW
namespace FW
open PySem PySem.Spec PyProof.Rows L2
-- more
section
variable {P : Program} {w : World} {K : PySem.W.Frag} {mg : Str → Option Value} {base : Heap}
abbrev s_OtherFaces_init : Stmt := inCls (topS 7) 0
theorem sc_OtherFaces_init : FnScope ["self"] ["self"] (defScope s_OtherFaces_init) := ⟨rfl, rfl, rfl, by decide +kernel, rfl, by decide +kernel, by decide +kernel⟩
theorem ok_OtherFaces_init {f : Addr} {fd : FuncData} (F : Fun K "__init__" "OtherFaces.__init__" s_OtherFaces_init f fd) (G : GsK K) : FnOk P w K mg base CX0 1 f fd ["self"] (sp_init0 K) := by
  refine F.ok sc_OtherFaces_init (fun vs H Q E h => ?_) (fun cdv A outer s H vs Q E hr h => ?_)
  · obtain ⟨a, C, z, rfl, _⟩ := h
    rfl
  · obtain ⟨a, C, z, rfl, ha, T, Te, Tn, nc, q⟩ := h
    refine ⟨_, (pss_one (ps_ostA (pv 0) (pe_name (pe_cls G (pv 0))))), ?_⟩
    exact ⟨_, rfl, a, C, rfl, .inl ha, Te, C, z, rfl, Tn, _, rfl, a, C, rfl, T, nc, .inl ⟨ha, fun dx hd hda => q dx hd hda⟩⟩
abbrev s_Weights_copy : Stmt := inCls (topS 26) 3
theorem sc_Weights_copy : FnScope ["self"] ["self"] (defScope s_Weights_copy) := ⟨rfl, rfl, rfl, by decide +kernel, rfl, by decide +kernel, by decide +kernel⟩
def sp_Weights_copy (K : PySem.W.Frag) (CW : Addr) : Sp := fun vs H Q _ => ∃ (x nd : Addr) (F : List Nat) (e : Int) (v : Nat → Int), vs = [.ref x] ∧ WtA CW H x nd F e v ∧ bFaces (.str (S F)) = true ∧ F.length ≤ 900 ∧ ∀ H' x' nd', Same H H' → H x' = none → H nd' = none → WtA CW H' x' nd' F e v → Q (.ref x') H'
theorem ok_Weights_copy {f CW : Addr} {fd : FuncData} (F : Fun K "copy" "Weights.copy" s_Weights_copy f fd) (WC : WtC K CW) (c_made : Cal P w K mg base CX0 6 "made" s_made ["faces", "each", "numbers"] (sp_made K CW)) : FnOk P w K mg base CX0 7 f fd ["self"] (sp_Weights_copy K CW) := by
  refine F.ok sc_Weights_copy (fun vs H Q E h => ?_) (fun cdv A outer s H vs Q E hr h => ?_)
  · obtain ⟨x, nd, fs, e, v, rfl, _⟩ := h
    rfl
  obtain ⟨x, nd, fs, e, v, rfl, hW, bF, lF, q⟩ := h
  refine ⟨_, (pss_one (ps_ret (pe_c c_made hr (by decide) (by rfl) (pa_cons (pe_fld (pv 0) rfl) (pa_cons (pe_fld (pv 0) rfl) (pa_cons (pe_fld (pv 0) rfl) pa_nil)))))), ?_⟩
  obtain ⟨dx, hx⟩ := hW.at_
  exact ⟨_, rfl, x, CW, dx, _, _, rfl, hx, WC.c, WC.nf, rfl, _, rfl, x, CW, dx, _, _, rfl, hx, WC.c, WC.ne, rfl, _, rfl, x, CW, dx, _, _, rfl, hx, WC.c, WC.nn, rfl, fs, e, nd, v, rfl, bF, hW.nd, lF, hW.num, q⟩
structure BookE (K : PySem.W.Frag) (CB : Addr) : Prop where
  ca : PySem.W.findIn K (.ref CB) "__class__" = some (some (.builtin "object.__class__"))
  cn : PySem.W.specialIn K (.builtin "object.__class__") "__get__" = some (some (.builtin "getset_descriptor.__get__"))
  ct : PySem.W.takesIn K (.builtin "object.__class__") = some true
  cm : PySem.W.mroIn K CB (.type "object") = some true
  kit : PySem.W.kitOne K (.ref CB) (.ref CB) = some true
abbrev s_check_weights : Stmt := topS 21
theorem sc_check_weights : FnScope ["weights", "faces"] ["weights", "faces"] (defScope s_check_weights) := ⟨rfl, rfl, rfl, by decide +kernel, rfl, by decide +kernel, by decide +kernel⟩
def sp_check_weights (K : PySem.W.Frag) (CO CW : Addr) : Sp := fun vs H Q E => ∃ (y nd : Addr) (F' : List Nat) (e : Int) (v : Nat → Int) (F : List Nat), vs = [.ref y, .str (S F)] ∧ WtA CW H y nd F' e v ∧
  ((F' = F ∧ Q .non H) ∨ (F' ≠ F ∧ ∀ H' d, Same H H' → H' d = none → E (.ref CO) (some d) (upd H' d (Err0 "OtherFaces"))))
theorem okx_check_weights {f CW CO fO : Addr} {fd fdO : FuncData} (F : Fun K "check_weights" "check_weights" s_check_weights f fd) (T : Z mg) (gW : mg "Weights" = some (.ref CW)) (WC : WtC K CW) (WE : BookE K CW) (TO : KlsA K mg CO fO "OtherFaces") (FO : FnOk P w K mg base CX0 1 fO fdO ["self"] (sp_init0 K)) (bO : Binds K fdO ["self"] []) : FnOk P w K mg base (L2.CX P w) 3 f fd ["weights", "faces"] (sp_check_weights K CO CW) := by
  refine F.okX sc_check_weights (fun vs H Q E h => ?_) (fun cdv A outer s H vs Q E hr h => ?_)
  · obtain ⟨y, nd, F', e, v, F, rfl, _⟩ := h
    rfl
  obtain ⟨y, nd, F', e, v, fs, rfl, hW, h⟩ := h
  refine ⟨_, (pss_one (ps_if (PW.pt (pw_or (pt_not (pt_val (pe_callB call_isi (by rfl) T.z_isinstance (by decide +kernel) (pa_cons (pv 0) (pa_cons (pe_glob (v := .ref CW) rfl gW rfl) pa_nil))))) (pw_or1 (pt_cmpR op_ne (pe_fld (pv 0) rfl) (pv 1) (nomark _)))))
    (pss_one (ps_raise rfl (takes_of rfl rfl rfl rfl) (pmk_oexA0 TO.oex TO.init TO.tI FO (hr.mono (by decide)) bO .nil pass0 (by rfl) TO.g))) pss_nil)), ?_⟩
  obtain ⟨dy, hy⟩ := hW.at_
  refine ⟨_, rfl, _, _, _, _, true, rfl, .own _, .base (.ins hy WC.c WE.ca WE.cn WE.ct WE.cm), WE.kit, true, rfl, iteF ?_⟩
  refine ⟨_, rfl, y, CW, dy, _, _, rfl, hy, WC.c, WC.nf, rfl, _, rfl, rfl, _, rfl, ?_⟩
  rcases h with ⟨rfl, q⟩ | ⟨hne, q⟩
  · rw [decide_eq_true rfl]
    exact iteF q
  · rw [decide_eq_false (fun e => hne (congrArg (fun z : Str => z.cps.toList) (V.str.inj e)))]
    exact iteT (mk0A TO fun d hd => q _ d (Same.refl _) hd)
abbrev s_added : Stmt := topS 23
theorem sc_added : FnScope ["one", "other", "times", "numbers", "face"] ["one", "other", "times"] (defScope s_added) := ⟨rfl, rfl, rfl, by decide +kernel, rfl, by decide +kernel, by decide +kernel⟩
def sp_added (K : PySem.W.Frag) (CW : Addr) : Sp := fun vs H Q _ => ∃ (x nd y nd' : Addr) (F : List Nat) (e e' : Int) (v v' : Nat → Int) (t : Int), vs = [.ref x, .ref y, .int t] ∧ WtA CW H x nd F e v ∧ WtA CW H y nd' F e' v' ∧ bFaces (.str (S F)) = true ∧ F.length ≤ 900 ∧ (-(2 ^ 64) < t ∧ t < 2 ^ 64) ∧
  ∀ H' z nz, Same H H' → H z = none → H nz = none → WtA CW H' z nz F (e + t * e') (fun c => v c + t * v' c) → Q (.ref z) H'
theorem ok_added {f CF CW fG p_each f_each : Addr} {fd fdE : FuncData} (F : Fun K "added" "added" s_added f fd) (WC : WtC K CW)
    (iG : PySem.W.findIn K (.ref CW) "__getitem__" = some (some (.ref fG))) (iGi : PySem.W.fnIn K fG = true) (iGf : PySem.W.isFn K (.ref fG) = true) (FG : FnR P w K mg base (L2.CX P w) 3 fG (sp_Weights_getitem K CF CW))
    (hp : PropOf K CW "each" p_each f_each) (FE : FnOk P w K mg base CX0 1 f_each fdE ["self"] (sp_Weights_each CW)) (bE : Binds K fdE ["self"] [])
    (c_made : Cal P w K mg base CX0 6 "made" s_made ["faces", "each", "numbers"] (sp_made K CW)) : FnOk P w K mg base CX0 7 f fd ["one", "other", "times"] (sp_added K CW) := by
  refine F.ok sc_added (fun vs H Q E h => ?_) (fun cdv A outer s H vs Q E hr h => ?_)
  · obtain ⟨x, nd, y, nd', F, e, e', v, v', t, rfl, _⟩ := h
    rfl
  obtain ⟨x, nd, y, nd', fs, e, e', v, v', t, rfl, hW, hW', bF, lF, ht, q⟩ := h
  refine ⟨_, (pss_cons (ps_setDc (i := 3) (own := [("face", 4)]) (g := gName 4) (by rfl) sc_added.nd rfl rfl (sw_trueD rfl rfl rfl (by decide +kernel)) (pi_str (pe_fld (pv 0) rfl)) (blkOk_by (N := ["one", "other", "times", "numbers", "face"]) (sc := defScope s_added) (by decide +kernel)) (fun _ _ _ _ _ => (pg_name (i := 4) sc_added.nd rfl (.inl rfl))) (fun _ _ _ _ _ => pts_nil) (fun _ _ _ _ _ => (pv 4))
      (fun _ _ _ _ _ => (pe_op op_add (pe_ixO (E := E0) iG iGi iGf FG (hr.mono (by decide)) passL (pv 0) (pv 4)) (pe_op op_mul (pv 2) (pe_ixO (E := E0) iG iGi iGf FG (hr.mono (by decide)) passL (pv 1) (pv 4))))))
    (pss_one (ps_ret (pe_c c_made hr (by decide) (by rfl) (pa_cons (pe_fld (pv 0) rfl) (pa_cons (pe_op op_add (pe_prop (pv 0) WC.c hp FE (hr.mono (by decide)) bE .nil pass0 rfl) (pe_op op_mul (pv 2) (pe_prop (pv 1) WC.c hp FE (hr.mono (by decide)) bE .nil pass0 rfl))) (pa_cons (pv 3) pa_nil))))))), ?_⟩
  obtain ⟨dx, hx⟩ := hW.at_
  have cm : ∀ i, CMul t i := fun i => .inl ht
  refine ⟨_, rfl, x, CW, dx, _, _, rfl, hx, WC.c, WC.nf, rfl, _, rfl, fun D nD => ?_⟩
  refine dc_strX (i := 4) (fun c => .int (v c + t * v' c)) nD (Nat.lt_of_le_of_lt lF (show 900 < sizeLine by decide)) hW.nd (fun _ => rfl) (fun c _ H _ R h => h) (fun c _ H _ R h => ⟨_, rfl, h⟩) (fun c hc H1 s1 R h => ?_) (fun H2 s2 hD => ?_)
  · have hW1 := hW.same s1
    obtain ⟨dx1, hx1⟩ := hW1.at_
    refine ⟨_, rfl, _, rfl, x, dx1, _, rfl, hx1, x, nd, fs, e, v, _, rfl, hW1, .inl ⟨c, rfl, hc, fun H2 s2 => ?_⟩⟩
    have hW2 := (hW'.same s1).same s2
    obtain ⟨dy2, hy2⟩ := hW2.at_
    exact ⟨_, rfl, _, rfl, _, rfl, y, dy2, _, rfl, hy2, y, nd', fs, e', v', _, rfl, hW2, .inl ⟨c, rfl, hc, fun H3 s3 => ⟨_, _, rfl, rfl, cm _, _, _, rfl, rfl, h _ (s2.trans s3)⟩⟩⟩
  · have hW1 := hW.same s2
    have hW2 := hW'.same s2
    obtain ⟨dx1, hx1⟩ := hW1.at_
    obtain ⟨dy1, hy1⟩ := hW2.at_
    exact ⟨_, rfl, x, CW, dx1, _, _, rfl, hx1, WC.c, WC.nf, rfl, _, rfl, x, dx1, _, rfl, hx1, x, nd, fs, e, v, rfl, hW1, _, rfl, _, rfl, y, dy1, _, rfl, hy1, y, nd', fs, e', v', rfl, hW2, _, _, rfl, rfl, cm _, _, _, rfl, rfl, _, rfl, fs, _, D, _, rfl, bF, hW.nd, lF, hD, fun H' z nz s nz1 nz2 h => q H' z nz (s2.trans s) (none_same s2 nz1) (none_same s2 nz2) h⟩
abbrev s_multiplied : Stmt := topS 24
theorem sc_multiplied : FnScope ["weights", "number", "face"] ["weights", "number"] (defScope s_multiplied) := ⟨rfl, rfl, rfl, by decide +kernel, rfl, by decide +kernel, by decide +kernel⟩
def sp_multiplied (K : PySem.W.Frag) (CW : Addr) : Sp := fun vs H Q _ => ∃ (x nd : Addr) (F : List Nat) (e : Int) (v : Nat → Int) (t : Int), vs = [.ref x, .int t] ∧ WtA CW H x nd F e v ∧ bFaces (.str (S F)) = true ∧ F.length ≤ 900 ∧ (-(2 ^ 64) < t ∧ t < 2 ^ 64) ∧
  ∀ H' z nz, Same H H' → H z = none → H nz = none → WtA CW H' z nz F (t * e) (fun c => t * v c) → Q (.ref z) H'
theorem ok_multiplied {f CF CW fG p_each f_each : Addr} {fd fdE : FuncData} (F : Fun K "multiplied" "multiplied" s_multiplied f fd) (WC : WtC K CW)
    (iG : PySem.W.findIn K (.ref CW) "__getitem__" = some (some (.ref fG))) (iGi : PySem.W.fnIn K fG = true) (iGf : PySem.W.isFn K (.ref fG) = true) (FG : FnR P w K mg base (L2.CX P w) 3 fG (sp_Weights_getitem K CF CW))
    (hp : PropOf K CW "each" p_each f_each) (FE : FnOk P w K mg base CX0 1 f_each fdE ["self"] (sp_Weights_each CW)) (bE : Binds K fdE ["self"] [])
    (c_made : Cal P w K mg base CX0 6 "made" s_made ["faces", "each", "numbers"] (sp_made K CW)) : FnOk P w K mg base CX0 7 f fd ["weights", "number"] (sp_multiplied K CW) := by
  refine F.ok sc_multiplied (fun vs H Q E h => ?_) (fun cdv A outer s H vs Q E hr h => ?_)
  · obtain ⟨x, nd, F, e, v, t, rfl, _⟩ := h
    rfl
  obtain ⟨x, nd, fs, e, v, t, rfl, hW, bF, lF, ht, q⟩ := h
  refine ⟨_, (pss_one (ps_ret (pe_c c_made hr (by decide) (by rfl) (pa_cons (pe_fld (pv 0) rfl) (pa_cons (pe_op op_mul (pv 1) (pe_prop (pv 0) WC.c hp FE (hr.mono (by decide)) bE .nil pass0 rfl)) (pa_cons (pe_dc (own := [("face", 2)]) (g := gName 2) (by rfl) sc_multiplied.nd (pi_str (pe_fld (pv 0) rfl)) (blkOk_by (N := ["weights", "number", "face"]) (sc := defScope s_multiplied) (by decide +kernel)) (fun _ _ _ _ _ => (pg_name (i := 2) sc_multiplied.nd rfl (.inl rfl))) (fun _ _ _ _ _ => pts_nil) (fun _ _ _ _ _ => (pv 2))
      (fun _ _ _ _ _ => (pe_op op_mul (pv 1) (pe_ixO (E := E0) iG iGi iGf FG (hr.mono (by decide)) passL (pv 0) (pv 2))))) pa_nil)))))), ?_⟩
  obtain ⟨dx, hx⟩ := hW.at_
  have cm : ∀ i, CMul t i := fun i => .inl ht
  refine ⟨_, rfl, x, CW, dx, _, _, rfl, hx, WC.c, WC.nf, rfl, _, rfl, _, rfl, x, dx, _, rfl, hx, x, nd, fs, e, v, rfl, hW, _, _, rfl, rfl, cm _, _, rfl, x, CW, dx, _, _, rfl, hx, WC.c, WC.nf, rfl, _, rfl, fun D nD => ?_⟩
  refine dc_strX (i := 2) (fun c => .int (t * v c)) nD (Nat.lt_of_le_of_lt lF (show 900 < sizeLine by decide)) hW.nd (fun _ => rfl) (fun c _ H _ R h => h) (fun c _ H _ R h => ⟨_, rfl, h⟩) (fun c hc H1 s1 R h => ?_) (fun H2 s2 hD => ?_)
  · have hW1 := hW.same s1
    obtain ⟨dx1, hx1⟩ := hW1.at_
    exact ⟨_, rfl, _, rfl, _, rfl, x, dx1, _, rfl, hx1, x, nd, fs, e, v, _, rfl, hW1, .inl ⟨c, rfl, hc, fun H2 s2 => ⟨_, _, rfl, rfl, cm _, h _ s2⟩⟩⟩
  · exact ⟨fs, _, D, _, rfl, bF, hW.nd, lF, hD, fun H' z nz s nz1 nz2 h => q H' z nz (s2.trans s) (none_same s2 nz1) (none_same s2 nz2) h⟩
end
end FW
/-! own operators with a whole number on the other side, and in place -/
namespace PySem.W
open PySem PySem.Calls PyProof.Rows
theorem int_mul_ins (a : Int) (t : Tok) (l : Addr) (o : Obj) (C dx : Addr) (e : o = instObj C dx) :
    Meets (Builtin.«int.__mul__» ⟨[.int a t, .ref l], []⟩) (fun _ R s => s.heap.get? l = some o ∧ R (.ok (.ret Value.notImplemented)) s) := by
  subst e
  exact .of_wp fun prog w A R s h => by obtain ⟨hp, g, d, tk, os⟩ := s; obtain ⟨hl, h⟩ := h; wp_walk; exact ⟨_, rfl, h⟩
section
variable {prog : Program} {w : World} {A : Around} {E : Value → Shared → Prop} {s : Shared} {K : Frag} {x dx C L f g : Addr} {h₀ : Heap} {m : Str → Option Value} {od : Option Obj} {rc : Option Value}
theorem ksp_rmul {i : Int} {tk : Tok} {Q : Value → Shared → Prop} (F : Fr h₀ L s.heap m) (X₀ : K.In h₀) (I : InstAt s.heap x (instObj C dx) C od) (hc : selfFirst K C = true)
    (hs : findIn K (.ref C) (PySem.dunder "mul") = some (some (.ref g))) (hr : findIn K (.ref C) (dunderR "mul") = some (some (.ref f))) (hf : isFn K (.ref f) = true) (hsub : subIn K (.ref C) (.type "int") = some false)
    (h : wpAny (model prog w) A (call (.ref f) [.ref x, .int i tk]) (CmpBack Q) E s) : wpAny (model prog w) A (binaryOp .Mult (.int i tk) (.ref x)) Q E s := by
  have X := X₀.keeps F.keep
  obtain ⟨cd, rest, hcd, hm⟩ := ksp_first hc
  have one := ksp_try X I hr hf h
  have hT : s.TypeIs (.int i tk) "int" := typeIs_int s i tk
  have two : wpAny (model prog w) A (tryMethod (.int i tk) (PySem.dunder "mul") (.ref x)) (fun r s' => r = none ∧ s' = s) E s :=
    wpAny_tryMethod_declines hT PySem.F.slot_int_mul (call_meets PySem.F.slot_int_mul hT PySem.F.entry_int_mul (PySem.F.args_int_mul_2 _ _) (int_mul_ins i tk x _ C dx rfl) ⟨I.at_, rfl, rfl, rfl⟩)
  obtain ⟨hh, gg, d, tt, os⟩ := s
  have L1 : Looks (model prog w) hh (typeOf (.ref x)) (.ref C) := I.type
  have L3 : Looks (model prog w) hh (fillsNumberSlot (.ref C) "mul") true := fills_K X hcd hm hs
  have L5 : Looks (model prog w) hh (isSubtype (.ref C) (.type "int")) false := looks_subIn X hsub
  have hne : (Value.type "int" == Value.ref C) = false := Bool.eq_false_iff.mpr fun q => by cases beq_iff_eq.mp q
  have hpy : numberSlotInPython (.type "int") "mul" = pure false := rfl
  unfold binaryOp
  refine wpAny_holding (wpAny_bind ?_)
  show wpAny _ _ (binaryOp1 "mul" _ _) _ _ _
  unfold binaryOp1
  refine wpAny_bind (wpAny_typeOf hT (wpAny_bind (L1.at (wpAny_bind (wpAny_of_eq PySem.F.fills_int_mul ?_)))))
  simp only [hne, Bool.false_eq_true, if_false]
  refine wpAny_bind (L3.at ?_)
  simp only [Bool.and_self, if_true]
  refine wpAny_bind (L5.at ?_)
  simp only [Bool.false_eq_true, if_false, pure_bind, Bool.not_false, Bool.and_self, if_true, hpy]
  refine wpAny_bind (wpAny_mono two (fun r s' hr' => ?_) fun _ _ e => e)
  obtain ⟨rfl, rfl⟩ := hr'
  simp only [Bool.false_eq_true, if_false, pure_bind, Bool.not_false, Bool.and_self, if_true]
  refine wpAny_bind (wpAny_mono one (fun r s' hr' => ?_) fun _ _ e => e)
  obtain ⟨v, rfl, hq⟩ := hr'
  exact wpAny_bind (wpAny_rule (wpAny_pure (wpAny_pure hq)))
end
end PySem.W
namespace FW
open PySem PySem.Spec PyProof.Rows L2
section
variable {X : Cx} {CX : CXT} {C f g : Addr} {n j k : Nat} {sp : Sp} {E : XK}
/-- x op y by x's class's method -/
def rOwnP (C : Addr) (sp : Sp) (E : XK) : R2 := fun x y H Q => ∃ a dx fs, x = .ref a ∧ H a = some (.ins C dx fs) ∧ sp [x, y] H Q E
/-- x op i -/
def rOwnN (C : Addr) (sp : Sp) (E : XK) : R2 := fun x y H Q => ∃ a dx fs i, x = .ref a ∧ y = .int i ∧ H a = some (.ins C dx fs) ∧ sp [x, y] H Q E
/-- i op x -/
def rOwnR (C : Addr) (sp : Sp) (E : XK) : R2 := fun y x H Q => ∃ a dx fs i, x = .ref a ∧ y = .int i ∧ H a = some (.ins C dx fs) ∧ sp [x, y] H Q E
theorem op_inP {op : Operator} (o : OwnM X.prog X.w X.K X.mg X.base CX C (dunderI op.info.2) k sp) (hc : PySem.W.selfFirst X.K C = true) (hr : Room j X.A) (hk : k ≤ j) (hx : Passes CX X E) : OpR X (inplaceOp op) (rOwnP C sp E) := by
  intro pins s σ H x y v u Q I rx ry h
  obtain ⟨a, dx, fs, rfl, ha, q⟩ := h
  obtain ⟨f, hs, hf, F⟩ := o.ex
  cases (show v = Value.ref a from rx)
  obtain ⟨mA, J, _⟩ := ins_get I.hok ha
  obtain ⟨od, J, _⟩ := J.look
  obtain ⟨m, hF⟩ := I.fr
  refine PySem.W.ksp_inplace hF I.ok.mod.kin J hc hs hf ?_
  refine wpAny_mono (wpAny_call (run_fnR (us := [.ref a, u]) (vs := [.ref a, y]) F (hr.mono hk) hx I (.cons rfl (.cons ry .nil)) q)) (fun w s' z => ?_) fun _ _ x => x
  obtain ⟨z', H', I', rz, qz⟩ := z
  exact SlX.cmpback rz ⟨z', H', I', rz, qz⟩
theorem op_mulN (o : OwnM X.prog X.w X.K X.mg X.base CX C "__mul__" k sp) (hc : PySem.W.selfFirst X.K C = true) (hR : PySem.W.findIn X.K (.ref C) "__rmul__" = some (some (.ref g))) (hr : Room j X.A) (hk : k ≤ j) (hx : Passes CX X E) : OpR X (binaryOp .Mult) (rOwnN C sp E) := by
  intro pins s σ H x y v u Q I rx ry h
  obtain ⟨a, dx, fs, i, rfl, rfl, ha, q⟩ := h
  obtain ⟨f, hs, hf, F⟩ := o.ex
  cases (show v = Value.ref a from rx)
  obtain ⟨mA, J, _⟩ := ins_get I.hok ha
  obtain ⟨od, J, _⟩ := J.look
  obtain ⟨m, hF⟩ := I.fr
  have ry' := ry
  obtain ⟨tk, rfl⟩ := ry'
  refine PySem.W.ksp_binT (T := "int") (fo := some (.builtin "int.__mul__")) (ro := some (.builtin "int.__rmul__")) hF I.ok.mod.kin J rfl hc hs hf hR (.inr ⟨_, rfl⟩) (by kernel_rfl) (by kernel_rfl) (by kernel_rfl) ?_
  refine wpAny_mono (wpAny_call (run_fnR (us := [.ref a, .int i tk]) (vs := [.ref a, .int i]) F (hr.mono hk) hx I (.cons rfl (.cons ry .nil)) q)) (fun w s' z => ?_) fun _ _ x => x
  obtain ⟨z', H', I', rz, qz⟩ := z
  exact SlX.cmpback rz ⟨z', H', I', rz, qz⟩
theorem op_mulR (o : OwnM X.prog X.w X.K X.mg X.base CX C "__rmul__" k sp) (hc : PySem.W.selfFirst X.K C = true) (hM : PySem.W.findIn X.K (.ref C) "__mul__" = some (some (.ref g))) (hI : PySem.W.mroIn X.K C (.type "int") = some false) (hr : Room j X.A) (hk : k ≤ j) (hx : Passes CX X E) : OpR X (binaryOp .Mult) (rOwnR C sp E) := by
  intro pins s σ H y x u v Q I ry rx h
  obtain ⟨a, dx, fs, i, rfl, rfl, ha, q⟩ := h
  obtain ⟨f, hs, hf, F⟩ := o.ex
  cases (show v = Value.ref a from rx)
  obtain ⟨mA, J, _⟩ := ins_get I.hok ha
  obtain ⟨od, J, _⟩ := J.look
  obtain ⟨m, hF⟩ := I.fr
  have ry' := ry
  obtain ⟨tk, rfl⟩ := ry'
  refine PySem.W.ksp_rmul hF I.ok.mod.kin J hc hM hs hf hI ?_
  refine wpAny_mono (wpAny_call (run_fnR (us := [.ref a, .int i tk]) (vs := [.ref a, .int i]) F (hr.mono hk) hx I (.cons rfl (.cons ry .nil)) q)) (fun w s' z => ?_) fun _ _ x => x
  obtain ⟨z', H', I', rz, qz⟩ := z
  exact SlX.cmpback rz ⟨z', H', I', rz, qz⟩
end
end FW
namespace FW
open PySem PySem.Spec PyProof.Rows L2
-- more
section
variable {P : Program} {w : World} {K : PySem.W.Frag} {mg : Str → Option Value} {base : Heap}
section
variable {CW b p x nd pn : Addr} {H H' : Hp} {F : List Nat} {e : Int} {v : Nat → Int}
theorem WtA.drawn (a : WtA CW H x nd F e v) (s : But b H H') (h1 : x ≠ b) (h2 : nd ≠ b) : WtA CW H' x nd F e v := ⟨let ⟨dx, h⟩ := a.at_; ⟨dx, s _ _ h1 h⟩, s _ _ h2 a.num, a.fl, a.nd⟩
theorem WtA.ext (a : WtA CW H x nd F e v) (s : LamX.ExtN H H') : WtA CW H' x nd F e v := ⟨let ⟨dx, h⟩ := a.at_; ⟨dx, s _ _ h (fun _ z => by cases z)⟩, s _ _ a.num (fun _ z => by cases z), a.fl, a.nd⟩
end
abbrev s_Weights_add : Stmt := inCls (topS 26) 8
theorem sc_Weights_add : FnScope ["self", "other"] ["self", "other"] (defScope s_Weights_add) := ⟨rfl, rfl, rfl, by decide +kernel, rfl, by decide +kernel, by decide +kernel⟩
def sp_Weights_sum (K : PySem.W.Frag) (CO CW : Addr) (t : Int) : Sp := fun vs H Q E => ∃ (x nd y nd' : Addr) (F F' : List Nat) (e e' : Int) (v v' : Nat → Int), vs = [.ref x, .ref y] ∧ WtA CW H x nd F e v ∧ WtA CW H y nd' F' e' v' ∧
  ((F' = F ∧ bFaces (.str (S F)) = true ∧ F.length ≤ 900 ∧ ∀ H' z nz, Same H H' → H z = none → H nz = none → WtA CW H' z nz F (e + t * e') (fun c => v c + t * v' c) → Q (.ref z) H') ∨
   (F' ≠ F ∧ ∀ H' d, Same H H' → H' d = none → E (.ref CO) (some d) (upd H' d (Err0 "OtherFaces"))))
theorem okx_Weights_add {f CO CW : Addr} {fd : FuncData} (F : Fun K "__add__" "Weights.__add__" s_Weights_add f fd) (WC : WtC K CW) (cx_check_weights : Cal P w K mg base (L2.CX P w) 3 "check_weights" s_check_weights ["weights", "faces"] (sp_check_weights K CO CW)) (c_added : Cal P w K mg base CX0 7 "added" s_added ["one", "other", "times"] (sp_added K CW)) : FnOk P w K mg base (L2.CX P w) 8 f fd ["self", "other"] (sp_Weights_sum K CO CW 1) := by
  refine F.okX sc_Weights_add (fun vs H Q E h => ?_) (fun cdv A outer s H vs Q E hr h => ?_)
  · obtain ⟨x, nd, y, nd', F, F', e, e', v, v', rfl, _⟩ := h
    rfl
  obtain ⟨x, nd, y, nd', fs, fs', e, e', v, v', rfl, hW, hW', h⟩ := h
  refine ⟨_, (pss_cons (ps_expr (pe_cx (E := E) cx_check_weights hr (by decide) (by rfl) (passes_call (takes_of rfl rfl rfl rfl) (fun _ _ _ _ h => h)) (pa_cons (pv 1) (pa_cons (pe_fld (pv 0) rfl) pa_nil))))
    (pss_one (ps_ret (pe_c c_added hr (by decide) (by rfl) (pa_cons (pv 0) (pa_cons (pv 1) (pa_cons pe_int pa_nil))))))), ?_⟩
  obtain ⟨dx, hx⟩ := hW.at_
  refine ⟨_, rfl, _, rfl, x, CW, dx, _, _, rfl, hx, WC.c, WC.nf, rfl, y, nd', fs', e', v', fs, rfl, hW', ?_⟩
  rcases h with ⟨rfl, bF, lF, q⟩ | h
  · exact .inl ⟨rfl, _, rfl, _, rfl, x, nd, y, nd', fs', e, e', v, v', 1, rfl, hW, hW', bF, lF, by decide, q⟩
  · exact .inr h
abbrev s_Weights_sub : Stmt := inCls (topS 26) 9
theorem sc_Weights_sub : FnScope ["self", "other"] ["self", "other"] (defScope s_Weights_sub) := ⟨rfl, rfl, rfl, by decide +kernel, rfl, by decide +kernel, by decide +kernel⟩
theorem okx_Weights_sub {f CO CW : Addr} {fd : FuncData} (F : Fun K "__sub__" "Weights.__sub__" s_Weights_sub f fd) (WC : WtC K CW) (cx_check_weights : Cal P w K mg base (L2.CX P w) 3 "check_weights" s_check_weights ["weights", "faces"] (sp_check_weights K CO CW)) (c_added : Cal P w K mg base CX0 7 "added" s_added ["one", "other", "times"] (sp_added K CW)) : FnOk P w K mg base (L2.CX P w) 8 f fd ["self", "other"] (sp_Weights_sum K CO CW (-1)) := by
  refine F.okX sc_Weights_sub (fun vs H Q E h => ?_) (fun cdv A outer s H vs Q E hr h => ?_)
  · obtain ⟨x, nd, y, nd', F, F', e, e', v, v', rfl, _⟩ := h
    rfl
  obtain ⟨x, nd, y, nd', fs, fs', e, e', v, v', rfl, hW, hW', h⟩ := h
  refine ⟨_, (pss_cons (ps_expr (pe_cx (E := E) cx_check_weights hr (by decide) (by rfl) (passes_call (takes_of rfl rfl rfl rfl) (fun _ _ _ _ h => h)) (pa_cons (pv 1) (pa_cons (pe_fld (pv 0) rfl) pa_nil))))
    (pss_one (ps_ret (pe_c c_added hr (by decide) (by rfl) (pa_cons (pv 0) (pa_cons (pv 1) (pa_cons (pe_un un_neg pe_int) pa_nil))))))), ?_⟩
  obtain ⟨dx, hx⟩ := hW.at_
  refine ⟨_, rfl, _, rfl, x, CW, dx, _, _, rfl, hx, WC.c, WC.nf, rfl, y, nd', fs', e', v', fs, rfl, hW', ?_⟩
  rcases h with ⟨rfl, bF, lF, q⟩ | h
  · exact .inl ⟨rfl, _, rfl, _, rfl, _, rfl, x, nd, y, nd', fs', e, e', v, v', -1, rfl, hW, hW', bF, lF, by decide, q⟩
  · exact .inr h
abbrev s_Weights_iadd : Stmt := inCls (topS 26) 10
theorem sc_Weights_iadd : FnScope ["self", "other", "total", "face"] ["self", "other"] (defScope s_Weights_iadd) := ⟨rfl, rfl, rfl, by decide +kernel, rfl, by decide +kernel, by decide +kernel⟩
def sp_Weights_iadd (K : PySem.W.Frag) (CO CW : Addr) : Sp := fun vs H Q E => ∃ (x nd y nd' : Addr) (F F' : List Nat) (e e' : Int) (v v' : Nat → Int), vs = [.ref x, .ref y] ∧ WtA CW H x nd F e v ∧ WtA CW H y nd' F' e' v' ∧
  ((F' = F ∧ bFaces (.str (S F)) = true ∧ F.length ≤ 900 ∧ ∀ H' D, But x H H' → H D = none → WtA CW H' x D F (e + 1 * e') (fun c => v c + 1 * v' c) → Q (.ref x) H') ∨
   (F' ≠ F ∧ ∀ H' d, Same H H' → H' d = none → E (.ref CO) (some d) (upd H' d (Err0 "OtherFaces"))))
theorem okx_Weights_iadd {f CF CO CW fG p_each f_each : Addr} {fd fdE : FuncData} (F : Fun K "__iadd__" "Weights.__iadd__" s_Weights_iadd f fd) (WC : WtC K CW)
    (iG : PySem.W.findIn K (.ref CW) "__getitem__" = some (some (.ref fG))) (iGi : PySem.W.fnIn K fG = true) (iGf : PySem.W.isFn K (.ref fG) = true) (FG : FnR P w K mg base (L2.CX P w) 3 fG (sp_Weights_getitem K CF CW))
    (hp : PropOf K CW "each" p_each f_each) (FE : FnOk P w K mg base CX0 1 f_each fdE ["self"] (sp_Weights_each CW)) (bE : Binds K fdE ["self"] [])
    (cx_check_weights : Cal P w K mg base (L2.CX P w) 3 "check_weights" s_check_weights ["weights", "faces"] (sp_check_weights K CO CW)) (c_added : Cal P w K mg base CX0 7 "added" s_added ["one", "other", "times"] (sp_added K CW)) : FnOk P w K mg base (L2.CX P w) 8 f fd ["self", "other"] (sp_Weights_iadd K CO CW) := by
  refine F.okX sc_Weights_iadd (fun vs H Q E h => ?_) (fun cdv A outer s H vs Q E hr h => ?_)
  · obtain ⟨x, nd, y, nd', F, F', e, e', v, v', rfl, _⟩ := h
    rfl
  obtain ⟨x, nd, y, nd', fs, fs', e, e', v, v', rfl, hW, hW', h⟩ := h
  refine ⟨_, (pss_cons (ps_expr (pe_cx (E := E) cx_check_weights hr (by decide) (by rfl) (passes_call (takes_of rfl rfl rfl rfl) (fun _ _ _ _ h => h)) (pa_cons (pv 1) (pa_cons (pe_fld (pv 0) rfl) pa_nil))))
    (pss_cons (ps_set (i := 2) sc_Weights_iadd.nd rfl (.inr rfl) (pe_c c_added hr (by decide) (by rfl) (pa_cons (pv 0) (pa_cons (pv 1) (pa_cons pe_int pa_nil)))))
    (pss_cons (ps_fld (pv 0) (pe_prop (pv 2) WC.c hp FE (hr.mono (by decide)) bE .nil pass0 rfl) rfl)
    (pss_cons (ps_fld (pv 0) (pe_dc (own := [("face", 3)]) (g := gName 3) (by rfl) sc_Weights_iadd.nd (pi_str (pe_fld (pv 0) rfl)) (blkOk_by (N := ["self", "other", "total", "face"]) (sc := defScope s_Weights_iadd) (by decide +kernel)) (fun _ _ _ _ _ => (pg_name (i := 3) sc_Weights_iadd.nd rfl (.inl rfl))) (fun _ _ _ _ _ => pts_nil) (fun _ _ _ _ _ => (pv 3))
      (fun _ _ _ _ _ => (pe_ixO (E := E0) iG iGi iGf FG (hr.mono (by decide)) passL (pv 2) (pv 3)))) rfl)
    (pss_one (ps_ret (pv 0))))))), ?_⟩
  obtain ⟨dx, hx⟩ := hW.at_
  refine ⟨_, rfl, _, rfl, x, CW, dx, _, _, rfl, hx, WC.c, WC.nf, rfl, y, nd', fs', e', v', fs, rfl, hW', ?_⟩
  rcases h with ⟨rfl, bF, lF, q⟩ | h
  case inr => exact .inr h
  refine .inl ⟨rfl, _, rfl, _, rfl, x, nd, y, nd', fs', e, e', v, v', 1, rfl, hW, hW', bF, lF, by decide, fun H1 z nz s1 nz1 nz2 hZ => ?_⟩
  have hx1 := s1 _ _ hx
  obtain ⟨dz, hz⟩ := hZ.at_
  have hzx : z ≠ x := fun e => by rw [e, hx] at nz1; cases nz1
  have nzx : nz ≠ x := fun e => by rw [e, hx] at nz2; cases nz2
  refine ⟨_, rfl, z, dz, _, rfl, hz, z, nz, fs', _, _, rfl, hZ, _, rfl, x, CW, dx, _, rfl, hx1, WC.c, WC.ne, (show 3 < 1000 by decide), ?_⟩
  have ef : putF (Str.ofString "_each") (V.int (e + 1 * e')) (wtF fs' e nd) = wtF fs' (e + 1 * e') nd := rfl
  rw [ef]
  have o2 : But x H1 (upd H1 x (.ins CW dx (wtF fs' (e + 1 * e') nd))) := fun b o hb eb => by rw [upd_ne hb]; exact eb
  have hZ2 := hZ.drawn o2 hzx nzx
  have hx2 : (upd H1 x (.ins CW dx (wtF fs' (e + 1 * e') nd))) x = some (.ins CW dx (wtF fs' (e + 1 * e') nd)) := upd_same
  generalize upd H1 x (.ins CW dx (wtF fs' (e + 1 * e') nd)) = H2 at o2 hZ2 hx2 ⊢
  refine ⟨_, rfl, x, CW, dx, _, _, rfl, hx2, WC.c, WC.nf, rfl, _, rfl, fun D nD => ?_⟩
  refine dc_strX (i := 3) (fun c => .int (v c + 1 * v' c)) nD (Nat.lt_of_le_of_lt lF (show 900 < sizeLine by decide)) hW.nd (fun _ => rfl) (fun c _ H _ R h => h) (fun c _ H _ R h => ⟨_, rfl, h⟩) (fun c hc H3 s3 R h => ?_) (fun H3 s3 hD => ?_)
  · have hZ3 := hZ2.same s3
    obtain ⟨dz3, hz3⟩ := hZ3.at_
    exact ⟨_, rfl, _, rfl, z, dz3, _, rfl, hz3, z, nz, fs', _, _, _, rfl, hZ3, .inl ⟨c, rfl, hc, fun H4 s4 => h _ s4⟩⟩
  · have hx3 := s3 _ _ hx2
    have hDx : D ≠ x := fun e => by rw [e, hx2] at nD; cases nD
    refine ⟨_, rfl, x, CW, dx, _, rfl, hx3, WC.c, WC.nn, (show 3 < 1000 by decide), ?_⟩
    have ef2 : putF (Str.ofString "_numbers") (V.ref D) (wtF fs' (e + 1 * e') nd) = wtF fs' (e + 1 * e') D := rfl
    rw [ef2]
    refine ⟨_, rfl, q _ D (fun b o hb eb => ?_) ?_ ⟨⟨dx, upd_same⟩, by rw [upd_ne hDx]; exact hD, hW.fl, hW.nd⟩⟩
    · rw [upd_ne hb]
      exact s3 _ _ (o2 _ _ hb (s1 _ _ eb))
    · cases hh : H D with
      | none => rfl
      | some o => rw [o2 _ _ hDx (s1 _ _ hh)] at nD; cases nD
abbrev s_Weights_neg : Stmt := inCls (topS 26) 11
theorem sc_Weights_neg : FnScope ["self"] ["self"] (defScope s_Weights_neg) := ⟨rfl, rfl, rfl, by decide +kernel, rfl, by decide +kernel, by decide +kernel⟩
def sp_Weights_neg (K : PySem.W.Frag) (CW : Addr) : Sp := fun vs H Q _ => ∃ (x nd : Addr) (F : List Nat) (e : Int) (v : Nat → Int), vs = [.ref x] ∧ WtA CW H x nd F e v ∧ bFaces (.str (S F)) = true ∧ F.length ≤ 900 ∧ ∀ H' z nz, Same H H' → H z = none → H nz = none → WtA CW H' z nz F (-1 * e) (fun c => -1 * v c) → Q (.ref z) H'
theorem ok_Weights_neg {f CW : Addr} {fd : FuncData} (F : Fun K "__neg__" "Weights.__neg__" s_Weights_neg f fd) (c_multiplied : Cal P w K mg base CX0 7 "multiplied" s_multiplied ["weights", "number"] (sp_multiplied K CW)) : FnOk P w K mg base CX0 8 f fd ["self"] (sp_Weights_neg K CW) := by
  refine F.ok sc_Weights_neg (fun vs H Q E h => ?_) (fun cdv A outer s H vs Q E hr h => ?_)
  · obtain ⟨x, nd, F, e, v, rfl, _⟩ := h
    rfl
  obtain ⟨x, nd, fs, e, v, rfl, hW, bF, lF, q⟩ := h
  exact ⟨_, (pss_one (ps_ret (pe_c c_multiplied hr (by decide) (by rfl) (pa_cons (pv 0) (pa_cons (pe_un un_neg pe_int) pa_nil))))), _, rfl, _, rfl, x, nd, fs, e, v, -1, rfl, hW, bF, lF, by decide, q⟩
abbrev s_Weights_mul : Stmt := inCls (topS 26) 12
theorem sc_Weights_mul : FnScope ["self", "other"] ["self", "other"] (defScope s_Weights_mul) := ⟨rfl, rfl, rfl, by decide +kernel, rfl, by decide +kernel, by decide +kernel⟩
def sp_Weights_mul (K : PySem.W.Frag) (CW : Addr) : Sp := fun vs H Q _ => ∃ (x nd : Addr) (F : List Nat) (e : Int) (v : Nat → Int) (n : Int), vs = [.ref x, .int n] ∧ WtA CW H x nd F e v ∧ bFaces (.str (S F)) = true ∧ F.length ≤ 900 ∧ (-(2 ^ 64) < n ∧ n < 2 ^ 64) ∧ ∀ H' z nz, Same H H' → H z = none → H nz = none → WtA CW H' z nz F (n * e) (fun c => n * v c) → Q (.ref z) H'
theorem ok_Weights_mul {f CW : Addr} {fd : FuncData} (F : Fun K "__mul__" "Weights.__mul__" s_Weights_mul f fd) (c_is_integer : Cal P w K mg base CX0 1 "is_integer" s_is_integer ["value"] (sp_is_integer K)) (c_multiplied : Cal P w K mg base CX0 7 "multiplied" s_multiplied ["weights", "number"] (sp_multiplied K CW)) : FnOk P w K mg base CX0 8 f fd ["self", "other"] (sp_Weights_mul K CW) := by
  refine F.ok sc_Weights_mul (fun vs H Q E h => ?_) (fun cdv A outer s H vs Q E hr h => ?_)
  · obtain ⟨x, nd, F, e, v, n, rfl, _⟩ := h
    rfl
  obtain ⟨x, nd, fs, e, v, n, rfl, hW, bF, lF, hn, q⟩ := h
  exact ⟨_, (pss_cons (ps_if (pt_not (pt_val (pe_c c_is_integer hr (by decide) (by rfl) (pa_cons (pv 1) pa_nil)))) pss_never pss_nil) (pss_one (ps_ret (pe_c c_multiplied hr (by decide) (by rfl) (pa_cons (pv 0) (pa_cons (pv 1) pa_nil)))))), _, rfl, .int n, rfl, .inl rfl, _, rfl, iteF ⟨_, rfl, _, rfl, x, nd, fs, e, v, n, rfl, hW, bF, lF, hn, q⟩⟩
abbrev s_Weights_rmul : Stmt := inCls (topS 26) 13
theorem sc_Weights_rmul : FnScope ["self", "other"] ["self", "other"] (defScope s_Weights_rmul) := ⟨rfl, rfl, rfl, by decide +kernel, rfl, by decide +kernel, by decide +kernel⟩
theorem ok_Weights_rmul {f CW : Addr} {fd : FuncData} (F : Fun K "__rmul__" "Weights.__rmul__" s_Weights_rmul f fd) (c_is_integer : Cal P w K mg base CX0 1 "is_integer" s_is_integer ["value"] (sp_is_integer K)) (c_multiplied : Cal P w K mg base CX0 7 "multiplied" s_multiplied ["weights", "number"] (sp_multiplied K CW)) : FnOk P w K mg base CX0 8 f fd ["self", "other"] (sp_Weights_mul K CW) := by
  refine F.ok sc_Weights_rmul (fun vs H Q E h => ?_) (fun cdv A outer s H vs Q E hr h => ?_)
  · obtain ⟨x, nd, F, e, v, n, rfl, _⟩ := h
    rfl
  obtain ⟨x, nd, fs, e, v, n, rfl, hW, bF, lF, hn, q⟩ := h
  exact ⟨_, (pss_cons (ps_if (pt_not (pt_val (pe_c c_is_integer hr (by decide) (by rfl) (pa_cons (pv 1) pa_nil)))) pss_never pss_nil) (pss_one (ps_ret (pe_c c_multiplied hr (by decide) (by rfl) (pa_cons (pv 0) (pa_cons (pv 1) pa_nil)))))), _, rfl, .int n, rfl, .inl rfl, _, rfl, iteF ⟨_, rfl, _, rfl, x, nd, fs, e, v, n, rfl, hW, bF, lF, hn, q⟩⟩
end
end FW
namespace FW
open PySem PySem.Spec PyProof.Rows L2
-- more
section
variable {P : Program} {w : World} {K : PySem.W.Frag} {mg : Str → Option Value} {base : Heap}
abbrev s__law_numbers : Stmt := topS 38
theorem sc__law_numbers : FnScope ["_law_weights", "_law_faces", "_law_face"] ["_law_weights", "_law_faces"] (defScope s__law_numbers) := ⟨rfl, rfl, rfl, by decide +kernel, rfl, by decide +kernel, by decide +kernel⟩
def sp__law_numbers (K : PySem.W.Frag) (CW : Addr) : Sp := fun vs H Q _ => ∃ (x nd : Addr) (F : List Nat) (e : Int) (v : Nat → Int), vs = [.ref x, .str (S F)] ∧ WtA CW H x nd F e v ∧ F.length ≤ 900 ∧
  ∀ H' p, Same H H' → H p = none → H' p = some (.lst ((e :: F.map v).map V.int)) → Q (.ref p) H'
theorem ok__law_numbers {f CF CW fG p_each f_each : Addr} {fd fdE : FuncData} (F : Fun K "_law_numbers" "_law_numbers" s__law_numbers f fd) (WC : WtC K CW)
    (iG : PySem.W.findIn K (.ref CW) "__getitem__" = some (some (.ref fG))) (iGi : PySem.W.fnIn K fG = true) (iGf : PySem.W.isFn K (.ref fG) = true) (FG : FnR P w K mg base (L2.CX P w) 3 fG (sp_Weights_getitem K CF CW))
    (hp : PropOf K CW "each" p_each f_each) (FE : FnOk P w K mg base CX0 1 f_each fdE ["self"] (sp_Weights_each CW)) (bE : Binds K fdE ["self"] []) : FnOk P w K mg base CX0 5 f fd ["_law_weights", "_law_faces"] (sp__law_numbers K CW) := by
  refine F.ok sc__law_numbers (fun vs H Q E h => ?_) (fun cdv A outer s H vs Q E hr h => ?_)
  · obtain ⟨x, nd, F, e, v, rfl, _⟩ := h
    rfl
  obtain ⟨x, nd, fs, e, v, rfl, hW, lF, q⟩ := h
  refine ⟨_, (pss_one (ps_ret (pe_op op_cat (pe_lst (pa_cons (pe_prop (pv 0) WC.c hp FE (hr.mono (by decide)) bE .nil pass0 rfl) pa_nil)) (pe_lc (own := [("_law_face", 2)]) (g := (gName 2)) (by rfl) sc__law_numbers.nd (pi_str (pv 1)) (blkOk_by (N := ["_law_weights", "_law_faces", "_law_face"]) (sc := defScope s__law_numbers) (by decide +kernel)) (fun _ _ _ _ _ => (pg_name (i := 2) sc__law_numbers.nd rfl (.inl rfl))) (fun _ _ _ _ _ => pts_nil) (fun _ _ _ _ _ => (pe_ixO (E := E0) iG iGi iGf FG (hr.mono (by decide)) passL (pv 0) (pv 2))))))), ?_⟩
  obtain ⟨dx, hx⟩ := hW.at_
  refine ⟨_, rfl, x, dx, _, rfl, hx, x, nd, fs, e, v, rfl, hW, (show 1 ≤ sizeLine by decide), fun q1 nq1 => ?_⟩
  have s1 := same_upd (o := HO.lst [V.int e]) nq1
  have hq1 : (upd H q1 (HO.lst [V.int e])) q1 = some (.lst [V.int e]) := upd_same
  refine ⟨_, rfl, _, rfl, fun D nD => ?_⟩
  refine lc_strX (fun c => .int (v c)) nD (Nat.lt_of_le_of_lt lF (show 900 < sizeLine by decide)) (fun _ => rfl) (fun c _ H' _ R h => h) (fun c hc H' s' R h => ?_) (fun H9 s9 hD9 => ?_)
  · have hWs := (hW.same s1).same s'
    obtain ⟨dw, hxw⟩ := hWs.at_
    exact ⟨_, rfl, _, rfl, x, dw, _, rfl, hxw, x, nd, fs, e, v, _, rfl, hWs, .inl ⟨c, rfl, hc, fun H'' s'' => h H'' s''⟩⟩
  refine ⟨q1, D, _, _, rfl, rfl, s9 _ _ hq1, hD9, Nat.le_trans (show 1 + (fs.map fun c => V.int (v c)).length ≤ 901 by rw [List.length_map]; omega) (by decide), fun q2 nq2 => ?_⟩
  refine q _ q2 ((s1.trans s9).trans (same_upd nq2)) (none_same (s1.trans s9) nq2) ?_
  rw [upd_same, List.map_cons, List.map_map]
  rfl
abbrev s__law_put_at : Stmt := topS 37
theorem sc__law_put_at : FnScope ["_law_weights", "_law_face", "_law_number"] ["_law_weights", "_law_face", "_law_number"] (defScope s__law_put_at) := ⟨rfl, rfl, rfl, by decide +kernel, rfl, by decide +kernel, by decide +kernel⟩
def sp__law_put_at (K : PySem.W.Frag) (CW : Addr) : Sp := fun vs H Q _ => ∃ (x nd : Addr) (F : List Nat) (e : Int) (v : Nat → Int) (c : Nat) (n : Int), vs = [.ref x, .str (S [c]), .int n] ∧ WtA CW H x nd F e v ∧ c ∈ F ∧
  ∀ H', But nd H H' → WtA CW H' x nd F e (putV v c n) → Q (.int n) H'
theorem okx__law_put_at {f CF CN CW fS fG : Addr} {fd fdS : FuncData} (F : Fun K "_law_put_at" "_law_put_at" s__law_put_at f fd) (hq : PySem.W.noSeq K CW = true) (hs : PySem.W.findIn K (.ref CW) "__setitem__" = some (some (.ref fS))) (hf : PySem.W.isFn K (.ref fS) = true)
    (FS : FnOk P w K mg base (L2.CX P w) 3 fS fdS ["self", "at", "worth"] (sp_Weights_setitem K CF CN CW)) (bS : Binds K fdS ["self", "at", "worth"] [])
    (iG : PySem.W.findIn K (.ref CW) "__getitem__" = some (some (.ref fG))) (iGi : PySem.W.fnIn K fG = true) (iGf : PySem.W.isFn K (.ref fG) = true) (FG : FnR P w K mg base (L2.CX P w) 3 fG (sp_Weights_getitem K CF CW)) : FnOk P w K mg base (L2.CX P w) 5 f fd ["_law_weights", "_law_face", "_law_number"] (sp__law_put_at K CW) := by
  refine F.okX sc__law_put_at (fun vs H Q E h => ?_) (fun cdv A outer s H vs Q E hr h => ?_)
  · obtain ⟨x, nd, fs, e, v, c, n, rfl, _⟩ := h
    rfl
  obtain ⟨x, nd, fs, e, v, c, n, rfl, hW, hc, q⟩ := h
  refine ⟨_, (pss_cons (ps_asg (pv 2) (pg_sub (pv 0) (pv 1) (set_own hq hs hf (FS.raw bS .nil) (hr.mono (by decide)) (passes_call (E := E) (takes_of rfl rfl rfl rfl) (fun _ _ _ _ h => h)))))
    (pss_one (ps_ret (pe_ixO iG iGi iGf FG (hr.mono (by decide)) (passes_call (E := E) (takes_of rfl rfl rfl rfl) (fun _ _ _ _ h => h)) (pv 0) (pv 1))))), ?_⟩
  obtain ⟨dx, hx⟩ := hW.at_
  refine ⟨_, rfl, _, rfl, _, rfl, x, dx, _, rfl, hx, ?_⟩
  refine ⟨x, nd, fs, e, v, _, _, rfl, hW, .inl ⟨c, n, rfl, hc, rfl, fun H1 o1 hW1 => ?_⟩⟩
  obtain ⟨dx1, hx1⟩ := hW1.at_
  refine ⟨_, rfl, _, rfl, x, dx1, _, rfl, hx1, x, nd, fs, e, _, _, rfl, hW1, .inl ⟨c, rfl, hc, fun H2 s2 => ?_⟩⟩
  rw [show putV v c n c = n from if_pos rfl]
  exact q H2 (o1.trans s2.but) (hW1.same s2)
abbrev s__law_added : Stmt := topS 39
theorem sc__law_added : FnScope ["_law_one", "_law_other", "_law_same_here"] ["_law_one", "_law_other"] (defScope s__law_added) := ⟨rfl, rfl, rfl, by decide +kernel, rfl, by decide +kernel, by decide +kernel⟩
def sp__law_added (K : PySem.W.Frag) (CO CW : Addr) : Sp := fun vs H Q E => ∃ (x nd y nd' : Addr) (F F' : List Nat) (e e' : Int) (v v' : Nat → Int), vs = [.ref x, .ref y] ∧ WtA CW H x nd F e v ∧ WtA CW H y nd' F' e' v' ∧
  ((F' = F ∧ bFaces (.str (S F)) = true ∧ F.length ≤ 900 ∧ ∀ H' D p, But x H H' → H D = none → H p = none → H' p = some (.lst [.ref x, .ref x]) → WtA CW H' x D F (e + 1 * e') (fun c => v c + 1 * v' c) → Q (.ref p) H') ∨
   (F' ≠ F ∧ ∀ H' d, Same H H' → H' d = none → E (.ref CO) (some d) (upd H' d (Err0 "OtherFaces"))))
theorem okx__law_added {f CO CW : Addr} {fd : FuncData} (F : Fun K "_law_added" "_law_added" s__law_added f fd) (ox_iadd : OwnM P w K mg base (L2.CX P w) CW "__iadd__" 8 (sp_Weights_iadd K CO CW)) (sfW : PySem.W.selfFirst K CW = true) : FnOk P w K mg base (L2.CX P w) 9 f fd ["_law_one", "_law_other"] (sp__law_added K CO CW) := by
  refine F.okX sc__law_added (fun vs H Q E h => ?_) (fun cdv A outer s H vs Q E hr h => ?_)
  · obtain ⟨x, nd, y, nd', F, F', e, e', v, v', rfl, _⟩ := h
    rfl
  obtain ⟨x, nd, y, nd', fs, fs', e, e', v, v', rfl, hW, hW', h⟩ := h
  refine ⟨_, (pss_cons (ps_set (i := 2) sc__law_added.nd rfl (.inl rfl) (pv 0))
    (pss_cons (ps_aug (i := 0) sc__law_added.nd rfl (.inl rfl) (pv 1) (fun pins s σ H x y v u Q I rx ry q => augR (op_inP (op := .Add) (E := E) ox_iadd sfW hr (by decide) (passes_call (takes_of rfl rfl rfl rfl) (fun _ _ _ _ h => h))) I rx ry q))
    (pss_one (ps_ret (pe_lst (pa_cons (pv 0) (pa_cons (pv 2) pa_nil))))))), ?_⟩
  obtain ⟨dx, hx⟩ := hW.at_
  refine ⟨_, rfl, _, rfl, _, rfl, x, dx, _, rfl, hx, x, nd, y, nd', fs, fs', e, e', v, v', rfl, hW, hW', ?_⟩
  rcases h with ⟨rfl, bF, lF, q⟩ | h
  · refine .inl ⟨rfl, bF, lF, fun H1 D o1 nD hW1 => ⟨_, rfl, _, rfl, (show 2 ≤ sizeLine by decide), fun p np => ?_⟩⟩
    have hxp : x ≠ p := fun e0 => by
      obtain ⟨d1, h1⟩ := hW1.at_
      rw [e0, np] at h1
      cases h1
    exact q _ D p (o1.trans (same_upd np).but) nD (none_but o1 np (Ne.symm hxp)) upd_same (hW1.same (same_upd np))
  · exact .inr h
abbrev s__law_taken : Stmt := topS 40
theorem sc__law_taken : FnScope ["_law_one", "_law_other"] ["_law_one", "_law_other"] (defScope s__law_taken) := ⟨rfl, rfl, rfl, by decide +kernel, rfl, by decide +kernel, by decide +kernel⟩
def sp__law_taken (K : PySem.W.Frag) (CO CW : Addr) : Sp := fun vs H _ E => ∃ (x nd y nd' : Addr) (F F' : List Nat) (e e' : Int) (v v' : Nat → Int), vs = [.ref x, .ref y] ∧ WtA CW H x nd F e v ∧ WtA CW H y nd' F' e' v' ∧ F' ≠ F ∧ ∀ H' d, Same H H' → H' d = none → E (.ref CO) (some d) (upd H' d (Err0 "OtherFaces"))
theorem okx__law_taken {f CO CW : Addr} {fd : FuncData} (F : Fun K "_law_taken" "_law_taken" s__law_taken f fd) (ox_sub : OwnM P w K mg base (L2.CX P w) CW "__sub__" 8 (sp_Weights_sum K CO CW (-1))) (sfW : PySem.W.selfFirst K CW = true) : FnOk P w K mg base (L2.CX P w) 9 f fd ["_law_one", "_law_other"] (sp__law_taken K CO CW) := by
  refine F.okX sc__law_taken (fun vs H Q E h => ?_) (fun cdv A outer s H vs Q E hr h => ?_)
  · obtain ⟨x, nd, y, nd', F, F', e, e', v, v', rfl, _⟩ := h
    rfl
  obtain ⟨x, nd, y, nd', fs, fs', e, e', v, v', rfl, hW, hW', h⟩ := h
  refine ⟨_, (pss_one (ps_ret (pe_op (op_binX (op := .Sub) (E := E) ox_sub sfW hr (by decide) (passes_call (takes_of rfl rfl rfl rfl) (fun _ _ _ _ h => h))) (pv 0) (pv 1)))), ?_⟩
  obtain ⟨dx, hx⟩ := hW.at_
  obtain ⟨dy, hy⟩ := hW'.at_
  exact ⟨_, rfl, _, rfl, x, dx, _, rfl, hx, .ins hy, x, nd, y, nd', fs, fs', e, e', v, v', rfl, hW, hW', .inr h⟩
end
end FW
/-! x(e, ..), x an instance whose class says `__call__` -/
namespace FW
open PySem PySem.Spec PyProof.Rows L2
/-- the callee an instance: who keeps it, asked when the values are there -/
theorem callee_inst {M : Model} {A : Around} {E Q : Value → Shared → Prop} {s : Shared} {pos : Pos} {a : Addr} {vs : List (Bool × Sem Value)} (pl : (vs.any (·.1)) = false)
    (h : wpAny M A (evalArgs (.ref a) true vs []) (fun g s1 => (∃ ox : Obj, s1.heap.get? a = some ox ∧ ox.data = .plain) ∧ wpAny M A (call (.ref a) g.pos g.kw) Q E s1) E s) : wpAny M A (callWith pos (.ref a) [] vs []) Q E s := by
  unfold callWith
  refine wpAny_bind (wpAny_holding (wpAny_mono h (fun g s1 hg => ?_) fun _ _ z => z))
  obtain ⟨⟨ox, e1, e2⟩, hc⟩ := hg
  refine wpAny_bind (PySem.wpAny_standAt ?_)
  have kp : PySem.W.Looks M s1.heap (keeperOf (.ref a)) .caller := (PySem.W.Looks.ld (part := none) e1).andThen (by simp only [e2]; exact .now)
  have pl2 : (vs.any (·.1) || ([] : List (Option Str × Sem Value)).any (·.1.isNone)) = false := by rw [pl]; rfl
  simp only [pl2]
  refine wpAny_bind (kp.here ?_)
  refine wpAny_bind (wpAny_mono (PySem.wpAny_operateT hc) (fun r s2 z => ?_) fun _ _ z => z)
  exact wpAny_bind (wpAny_holding (wpAny_point (wpAny_pure z)))
section
variable {X : Cx} {CX : CXT} {C f : Addr} {n : Nat} {sp : Sp} {E : XK} {o e : Expr} {es : List Expr} {pos : Pos} {to : TE} {t : TA}
def tCallO (C : Addr) (sp : Sp) (E : XK) (to : TE) (t : TA) : TE := fun σ H Q => to σ H fun x H1 => ∃ a, x = .ref a ∧ t σ H1 fun vs H2 => ∃ dx fs, H2 a = some (.ins C dx fs) ∧ sp (.ref a :: vs) H2 Q E
theorem pe_callO (ho : PE X o to) (hs : PySem.W.findIn X.K (.ref C) "__call__" = some (some (.ref f))) (hf : PySem.W.isFn X.K (.ref f) = true) (hfn : PySem.W.fnIn X.K f = true) (F : FnR X.prog X.w X.K X.mg X.base CX n f sp) (hr : Room n X.A) (hx : Passes CX X E) (ha : PA X (e :: es) t)
    (hev : eval (.Call o (e :: es) [] pos) X.env = (do callWith pos (← eval o X.env) [] (backTo pos (starEach (e :: es) X.env)) (backToKw pos (keywordEach [] X.env))) := by rfl)
    (hse : starEach (e :: es) X.env = (false, eval e X.env) :: starEach es X.env := by rfl) (hpl : (backTo pos (starEach es X.env)).any (·.1) = false := by rfl) : PE X (.Call o (e :: es) [] pos) (tCallO C sp E to t) := by
  refine ⟨fun pins s σ H Q I hq => ?_⟩
  refine Call_ (thn (ho.run pins s σ H _ I hq) fun u s1 ⟨x, H1, I1, rx, a, ex, q1⟩ => ?_) hev
  subst ex
  obtain rfl : u = Value.ref a := rx
  have h2 := ha.run pos pins s1 σ H1 _ I1 q1
  rw [hse] at h2 ⊢
  refine callee_inst (by show (false || (backTo pos (starEach es X.env)).any (·.1)) = false; rw [hpl]; rfl) (PySem.Calls.evalArgs_plain (thn h2 fun us s2 ⟨vs, H2, I2, rv, dx, fs, hi, q2⟩ => ?_))
  obtain ⟨mA, J, _⟩ := ins_get I2.hok hi
  obtain ⟨od, J, _⟩ := J.look
  refine ⟨⟨_, J.at_, rfl⟩, ?_⟩
  refine wpAny_call (PySem.W.kco_code I2.kIn J rfl hs hf hfn ?_)
  exact run_fnR (us := .ref a :: us) (vs := .ref a :: vs) F hr hx I2 (.cons rfl rv) q2
end
end FW
namespace FW
open PySem PySem.Spec PyProof.Rows L2
-- more
section
variable {P : Program} {w : World} {K : PySem.W.Frag} {mg : Str → Option Value} {base : Heap}
theorem lower_asc : lower.Pairwise (· < ·) := by decide +kernel
theorem choice_sub {r L : List Nat} {m : Int} (hL : L.Pairwise (· < ·)) (s : List.Sublist r L) (h0 : 0 < r.length) (hm : (r.length : Int) ≤ m) : bChoice (.str (S r)) L m = true := by
  show (true && (decide ((1 : Int) ≤ (r.length : Int)) && decide ((r.length : Int) ≤ m)) && (r.all fun c => decide (c ∈ L)) && ascB r) = true
  rw [decide_eq_true (by omega), decide_eq_true hm, mem_all (fun c hc => s.subset hc), asc_sorted (hL.sublist s)]
  rfl
/-! sorted signs -/
theorem lt_orN {a b : List Nat} (h : ¬ b < a) : a < b ∨ a = b := by
  rcases List.le_iff_lt_or_eq.mp (List.not_lt.mp h) with e | e
  · exact .inl e
  · exact .inr e
theorem sortedS_pwN : ∀ {ys : List Str}, PyProof.Rows.sortedS ys = true → ys.Pairwise (fun x y => ¬ y.cps.toList < x.cps.toList)
  | [], _ => .nil
  | [_], _ => List.pairwise_singleton _ _
  | x :: y :: r, h => by
    have h' : (!ltCps (y.cps.toList) (x.cps.toList) && PyProof.Rows.sortedS (y :: r)) = true := h
    simp only [Bool.and_eq_true, Bool.not_eq_true'] at h'
    have h1 : ¬ y.cps.toList < x.cps.toList := by
      have := h'.1
      rw [PyProof.Rows.ltCps_eq] at this
      exact of_decide_eq_false this
    have ih := sortedS_pwN (ys := y :: r) h'.2
    refine .cons (fun z hz => ?_) ih
    rcases List.mem_cons.mp hz with rfl | hz
    · exact h1
    · have h2 : ¬ z.cps.toList < y.cps.toList := List.rel_of_pairwise_cons ih hz
      intro q
      rcases lt_orN h1 with a | a
      · exact h2 (List.lt_trans q a)
      · rw [a] at q
        exact h2 q
def one1S (c : Nat) : Str := ⟨#[c]⟩
theorem join_signsP : ∀ cs : List Nat, PySem.Str.join "" (cs.map one1S) = S cs
  | [] => rfl
  | [_] => rfl
  | c :: d :: r => by
    have ih := join_signsP (d :: r)
    show S [c] ++ ("" : Str) ++ PySem.Str.join "" ((d :: r).map one1S) = _
    rw [ih, show ("" : Str) = S [] from rfl, S_cat, S_cat]
    rfl
theorem join_signs (cs : List Nat) : Txt.join "" (cs.map one1S) = S cs := (eq_of_beq (PyProof.Rows.join_plain_closes "" (cs.map one1S))).trans (join_signsP cs)
theorem odd_faces {gz : Nat} {F0 : List Nat} {ys : List Str} (hz : gz ∉ F0) (hg : gz ∈ lower) (hsub : List.Sublist F0 lower) (h0 : 0 < F0.length) (pm : ys.Perm ((gz :: F0.drop 1).map one1S)) (hs : PyProof.Rows.sortedS ys = true) :
    ∃ cs : List Nat, ys = cs.map one1S ∧ cs.length = F0.length ∧ cs.Pairwise (· < ·) ∧ (∀ c ∈ cs, c ∈ lower) ∧ gz ∈ cs := by
  have e1 : ys = (ys.map fun z => z.cps.toList.headD 0).map one1S := by
    rw [List.map_map]
    have : ys.map id = ys.map (one1S ∘ fun z => z.cps.toList.headD 0) := List.map_congr_left fun z h => by
      obtain ⟨c, _, rfl⟩ := List.mem_map.mp (pm.mem_iff.mp h)
      rfl
    rw [← this, List.map_id]
  have pm2 : (ys.map fun z => z.cps.toList.headD 0).Perm (gz :: F0.drop 1) := by
    have := pm.map fun z => z.cps.toList.headD 0
    rw [List.map_map] at this
    have e2 : (gz :: F0.drop 1).map ((fun z : Str => z.cps.toList.headD 0) ∘ one1S) = gz :: F0.drop 1 := by
      have : (gz :: F0.drop 1).map ((fun z : Str => z.cps.toList.headD 0) ∘ one1S) = (gz :: F0.drop 1).map id := List.map_congr_left fun c _ => rfl
      rw [this, List.map_id]
    rw [e2] at this
    exact this
  have hpw := sortedS_pwN hs
  rw [e1] at hpw
  generalize (ys.map fun z => z.cps.toList.headD 0) = cs at e1 pm2 hpw
  have nd : (gz :: F0.drop 1).Nodup := List.nodup_cons.mpr ⟨fun h => hz (List.mem_of_mem_drop h), (lower_nd.sublist hsub).sublist (List.drop_sublist _ _)⟩
  have hle : cs.Pairwise (fun a b => ¬ b < a) := (List.pairwise_map.mp hpw).imp fun {a b} h q => h (show [b] < [a] from List.cons_lt_cons_iff.mpr (.inl q))
  refine ⟨cs, e1, ?_, (hle.and (pm2.nodup_iff.mpr nd)).imp fun {a b} h => by have h1 := h.1; have h2 : a ≠ b := h.2; omega, fun c hc => ?_, pm2.mem_iff.mpr List.mem_cons_self⟩
  · rw [pm2.length_eq, List.length_cons, List.length_drop]
    omega
  · rcases List.mem_cons.mp (pm2.mem_iff.mp hc) with rfl | e
    · exact hg
    · exact hsub.subset (List.mem_of_mem_drop e)
theorem choice_asc {r L : List Nat} {m : Int} (ha : r.Pairwise (· < ·)) (s : ∀ c ∈ r, c ∈ L) (h0 : 0 < r.length) (hm : (r.length : Int) ≤ m) : bChoice (.str (S r)) L m = true := by
  show (true && (decide ((1 : Int) ≤ (r.length : Int)) && decide ((r.length : Int) ≤ m)) && (r.all fun c => decide (c ∈ L)) && ascB r) = true
  rw [decide_eq_true (by omega), decide_eq_true hm, mem_all s, asc_sorted ha]
  rfl
abbrev s__law_field : Stmt := topS 31
theorem sc__law_field : FnScope ["_law_e"] ["_law_e"] (defScope s__law_field) := ⟨rfl, rfl, rfl, by decide +kernel, rfl, by decide +kernel, by decide +kernel⟩
theorem inV_strs (z : Str) : ∀ ts : List Str, inV (.str z) (ts.map V.str) = decide (z ∈ ts)
  | [] => rfl
  | t :: r => by
    have ih := inV_strs z r
    unfold inV at ih ⊢
    rw [List.map_cons, List.any_cons, ih]
    by_cases h : z = t
    · subst h
      rw [show eqV (.str z) (.str z) = true from beq_self_eq_true z, Bool.true_or]
      exact (decide_eq_true List.mem_cons_self).symm
    · rw [show eqV (.str t) (.str z) = false from beq_eq_false_iff_ne.mpr (Ne.symm h), Bool.false_or]
      by_cases h2 : z ∈ r
      · rw [decide_eq_true h2, decide_eq_true (List.mem_cons_of_mem _ h2)]
      · rw [decide_eq_false h2, decide_eq_false (fun q => (List.mem_cons.mp q).elim h h2)]
theorem all_strs : ∀ ts : List Str, (ts.map V.str).all flatV = true
  | [] => rfl
  | _ :: r => all_strs r
theorem ok__law_field {f : Addr} {fd : FuncData} (F : Fun K "_law_field" "_law_field" s__law_field f fd) : FnW P w K mg base 1 f fd ["_law_e"] (sp__law_field K) := by
  refine okW F sc__law_field (fun vs H Q E h => ?_) (fun cdv A outer s H vs Q p hr h => ?_)
  · obtain ⟨a, z, v, rfl, _⟩ := h
    rfl
  · obtain ⟨a, z, v, rfl, hc, q⟩ := h
    refine ⟨_, (pss_cons (ps_if (pt_cmpR op_in_seq (pe_xk (pv 0)) (pe_lst (pa_cons pe_str (pa_cons pe_str (pa_cons pe_str (pa_cons pe_str (pa_cons pe_str (pa_cons pe_str pa_nil))))))) (by rfl)) (pss_one (ps_ret (pe_xk (pv 0)))) pss_nil)
      (pss_cons (ps_if (pt_cmpR op_in_seq (pe_xk (pv 0)) (pe_lst (pa_cons pe_str (pa_cons pe_str pa_nil))) (by rfl)) (pss_one (ps_ret (pe_xk (pv 0)))) pss_nil)
      (pss_cons (ps_if (pt_cmpR op_in_seq (pe_xk (pv 0)) (pe_lst (pa_cons pe_str (pa_cons pe_str pa_nil))) (by rfl)) (pss_one (ps_ret (pe_xk (pv 0)))) pss_nil)
      (pss_cons (ps_if (pt_cmpR op_eq (pe_xk (pv 0)) pe_str (nomark _)) (pss_one (ps_ret (pe_xk (pv 0)))) pss_nil)
      (pss_one (ps_ret (pe_ifExp (pt_cmpR op_in_seq (pe_xk (pv 0)) (pe_lst (pa_cons pe_str (pa_cons pe_str (pa_cons pe_str (pa_cons pe_str pa_nil))))) (by rfl)) pe_non (pe_xk (pv 0))))))))), ?_⟩
    obtain ⟨C, dd, fs, h1, h2, h3, h4, h5, h6⟩ := hc
    unfold FieldIs at h6
    refine ⟨_, rfl, a, C, dd, fs, _, rfl, h1, h2, h3, h4, h5, ?_⟩
    refine ⟨(show 6 ≤ sizeLine by decide), fun p1 n1 => ?_⟩
    refine ⟨p1, (["InvalidLine", "InvalidStep", "InvalidTable", "InvalidBad", "InvalidPlan", "UnknownRoom"] : List Str).map V.str, rfl, .inl (SqL.of upd_same), rfl, all_strs _, _, rfl, ?_⟩
    have s1 : Same H _ := same_upd (o := HO.lst ((["InvalidLine", "InvalidStep", "InvalidTable", "InvalidBad", "InvalidPlan", "UnknownRoom"] : List Str).map V.str)) n1
    rw [if_neg Bool.false_ne_true, inV_strs]
    by_cases b1 : z ∈ (["InvalidLine", "InvalidStep", "InvalidTable", "InvalidBad", "InvalidPlan", "UnknownRoom"] : List Str)
    · rw [decide_eq_true b1]
      rw [if_pos b1] at h6
      exact iteT ⟨_, rfl, a, C, dd, fs, _, rfl, s1 _ _ h1, s1 _ _ h2, h3, h6.1, h6.2, q _ s1⟩
    rw [decide_eq_false b1]
    rw [if_neg b1] at h6
    refine iteF ?_
    refine ⟨_, rfl, a, C, dd, fs, _, rfl, s1 _ _ h1, s1 _ _ h2, h3, h4, h5, ?_⟩
    refine ⟨(show 2 ≤ sizeLine by decide), fun p2 n2 => ?_⟩
    refine ⟨p2, (["TooMany", "Full"] : List Str).map V.str, rfl, .inl (SqL.of upd_same), rfl, all_strs _, _, rfl, ?_⟩
    have s2 := s1.trans (same_upd (o := HO.lst ((["TooMany", "Full"] : List Str).map V.str)) n2)
    rw [if_neg Bool.false_ne_true, inV_strs]
    by_cases b2 : z ∈ (["TooMany", "Full"] : List Str)
    · rw [decide_eq_true b2]
      rw [if_pos b2] at h6
      exact iteT ⟨_, rfl, a, C, dd, fs, _, rfl, s2 _ _ h1, s2 _ _ h2, h3, h6.1, h6.2, q _ s2⟩
    rw [decide_eq_false b2]
    rw [if_neg b2] at h6
    refine iteF ?_
    refine ⟨_, rfl, a, C, dd, fs, _, rfl, s2 _ _ h1, s2 _ _ h2, h3, h4, h5, ?_⟩
    refine ⟨(show 2 ≤ sizeLine by decide), fun p3 n3 => ?_⟩
    refine ⟨p3, (["InvalidText", "InvalidPage"] : List Str).map V.str, rfl, .inl (SqL.of upd_same), rfl, all_strs _, _, rfl, ?_⟩
    have s3 := s2.trans (same_upd (o := HO.lst ((["InvalidText", "InvalidPage"] : List Str).map V.str)) n3)
    rw [if_neg Bool.false_ne_true, inV_strs]
    by_cases b3 : z ∈ (["InvalidText", "InvalidPage"] : List Str)
    · rw [decide_eq_true b3]
      rw [if_pos b3] at h6
      exact iteT ⟨_, rfl, a, C, dd, fs, _, rfl, s3 _ _ h1, s3 _ _ h2, h3, h6.1, h6.2, q _ s3⟩
    rw [decide_eq_false b3]
    rw [if_neg b3] at h6
    refine iteF ?_
    refine ⟨_, rfl, a, C, dd, fs, _, rfl, s3 _ _ h1, s3 _ _ h2, h3, h4, h5, rfl, _, rfl, ?_⟩
    by_cases b4 : z = "UnknownState"
    · rw [show decide (V.str z = V.str "UnknownState") = true from decide_eq_true (congrArg V.str b4)]
      rw [if_pos b4] at h6
      exact iteT ⟨_, rfl, a, C, dd, fs, _, rfl, s3 _ _ h1, s3 _ _ h2, h3, h6.1, h6.2, q _ s3⟩
    rw [show decide (V.str z = V.str "UnknownState") = false from decide_eq_false fun e => b4 (V.str.inj e)]
    rw [if_neg b4] at h6
    refine iteF ?_
    refine ⟨_, rfl, a, C, dd, fs, _, rfl, s3 _ _ h1, s3 _ _ h2, h3, h4, h5, ?_⟩
    refine ⟨(show 4 ≤ sizeLine by decide), fun p4 n4 => ?_⟩
    refine ⟨p4, (["InvalidPaper", "OtherFaces", "OtherCutters", "NothingLeft"] : List Str).map V.str, rfl, .inl (SqL.of upd_same), rfl, all_strs _, _, rfl, ?_⟩
    have s4 := s3.trans (same_upd (o := HO.lst ((["InvalidPaper", "OtherFaces", "OtherCutters", "NothingLeft"] : List Str).map V.str)) n4)
    rw [if_neg Bool.false_ne_true, inV_strs]
    by_cases b5 : z ∈ (["InvalidPaper", "OtherFaces", "OtherCutters", "NothingLeft"] : List Str)
    · rw [decide_eq_true b5]
      rw [if_pos b5] at h6
      subst h6
      exact iteT (q _ s4)
    rw [decide_eq_false b5]
    rw [if_neg b5] at h6
    exact iteF ⟨_, rfl, a, C, dd, fs, _, rfl, s4 _ _ h1, s4 _ _ h2, h3, h6.1, h6.2, q _ s4⟩
abbrev s__law_try : Stmt := topS 32
theorem sc__law_try : FnScope ["_law_ask", "_law_e"] ["_law_ask"] (defScope s__law_try) := ⟨rfl, rfl, rfl, by decide +kernel, rfl, by decide +kernel, by decide +kernel⟩
theorem gives__law_try {X : Cx} {g fF C1 C2 C3 : Addr} {fdF : FuncData} {cdg : Value} {q : Str} {k : Nat} (F : FnW X.prog X.w X.K X.mg X.base 1 fF fdF ["_law_e"] (sp__law_field X.K)) (mF : X.mg "_law_field" = some (.ref fF)) (kF : PySem.W.keepIn X.K (.ref fF) = true) (bF : Binds X.K fdF ["_law_e"] [])
    (g1 : X.mg "HouseError" = some (.ref C1)) (g2 : X.mg "Missing" = some (.ref C2)) (g3 : X.mg "NothingLeft" = some (.ref C3)) (hr : Room (k + 3) X.A) :
    LamX.GivesTo X ["_law_ask", "_law_e"] "_law_try" (defScope s__law_try) g cdg (defBody s__law_try) "_law_ask" q (TTry X.K [.ref C1, .ref C2, .ref C3]) := by
  intro f c' s H Q tl act hc h
  have hrm : ∀ (a : Addr) (env : Env), L2H.RoomH 1 ((X.A.deeper env).mark (some (.ref a))) := fun a env => ⟨by
    have z := hr.dp
    show X.A.depth + 1 + 3 * 1 + 5 < _
    omega, by
    have z := hr.un
    show X.A.units + 3 + 16 * 1 + 200 < _
    omega⟩
  refine ⟨_, pss_one (ps_try3 (X := (cxOf C8.CX0 X.prog X.w X.K X.mg X.base ["_law_ask", "_law_e"] "_law_try" (defScope s__law_try) g cdg X.A X.stack s H C8.E0).nox) (C1 := C1) (C2 := C2) (C3 := C3) (i := 1)
      (ts := tRet (tTup (tCons (tXk X.K "code" (tVar 1)) (tCons (fun σ H Q => tCons (tVar 1) tNil σ H fun vs H1 => sp__law_field X.K vs H1 Q E0) tNil))))
      (tb := fun W D σ H => ∃ Ech : XK, (∀ cls d σ' H', Ech cls d H' → W cls d σ' H') ∧ σ[0]? = some (some (.ref f)) ∧ H c' = some (LamX.CodeO c' q) ∧ tl Ech H fun v H1 => [V.str "", v].length ≤ sizeLine ∧ ∀ p, H1 p = none → D.rt (.ref p) (upd H1 p (.tup [.str "", v])))
      rfl rfl rfl sc__law_try.nd rfl rfl (by rfl) g1 (by rfl) g2 (by rfl) g3 (fun W pn xe tk _ => ?body) (fun a pn => ?suite)), ?read⟩
  case suite => exact pss_one (ps_ret (pe_tup (pa_cons (pe_xk (pv 1)) (pa_cons (pe_callW F (hrm a _) (by rfl) mF kF bF (pa_cons (pv 1) pa_nil)) pa_nil))))
  case body =>
    refine ⟨fun pins s' σ H' D I h' => ?_⟩
    obtain ⟨Ech, hW, h1, h2, h3⟩ := h'
    have hp := fun p1 p2 => act W pn xe Ech p1 p2 tk hW
    refine (pss_one (ps_ret (pe_tup (pa_cons pe_str (pa_cons (hp _ _) pa_nil))))).run pins s' σ H' D I ⟨h1, h2, h3⟩
  case read =>
    refine ⟨_, fun cls d σ' H' h' => ?_, rfl, hc, h⟩
    obtain ⟨he, ha⟩ := h'
    refine ⟨he, fun a na hl => ?_⟩
    obtain ⟨z, v, hcg, hq⟩ := ha a na
    have hlt : 1 < σ'.length := by
      rw [hl]
      exact (by decide : 1 < 2)
    have e1 : (σ'.set 1 (some (V.ref a)))[1]? = some (some (.ref a)) := List.getElem?_set_self hlt
    have hcg2 := hcg
    obtain ⟨C, dd, fs, h1, h2, h3, h4, h5, h6⟩ := hcg2
    refine ⟨_, e1, a, C, dd, fs, _, rfl, h1, h2, h3, h4, h5, _, e1, a, z, v, rfl, hcg, fun H2 sm => ?_⟩
    exact ⟨(show 2 ≤ sizeLine by decide), fun p np => hq H2 sm p np⟩
abbrev s__law_tries : Stmt := topS 33
theorem sc__law_tries : FnScope ["_law_asks", "_law_ask"] ["_law_asks"] (defScope s__law_tries) := ⟨rfl, rfl, rfl, by decide +kernel, rfl, by decide +kernel, by decide +kernel⟩
theorem ok__law_tries {b0 : Heap} {k : Nat} {f g fF C1 C2 C3 : Addr} {fd fdg fdF : FuncData} (F : Fun K "_law_tries" "_law_tries" s__law_tries f fd) (m : Mod K mg b0) (sub : ∀ b o, b0.get? b = some o → base.get? b = some o) (sz : b0.objs.size ≤ base.objs.size)
    (G : Fun K "_law_try" "_law_try" s__law_try g fdg) (mG : mg "_law_try" = some (.ref g)) (bG : Binds K fdg ["_law_ask"] [])
    (FF : FnW P w K mg base 1 fF fdF ["_law_e"] (sp__law_field K)) (mF : mg "_law_field" = some (.ref fF)) (kF : PySem.W.keepIn K (.ref fF) = true) (bF : Binds K fdF ["_law_e"] [])
    (g1 : mg "HouseError" = some (.ref C1)) (g2 : mg "Missing" = some (.ref C2)) (g3 : mg "NothingLeft" = some (.ref C3)) :
    FnOk P w K mg base CX0 (k + 4) f fd ["_law_asks"] (sp_tries P w K mg b0 base k [.ref C1, .ref C2, .ref C3]) := by
  obtain ⟨oc, od, kV, doc, pm, an, cdv, ct, osl, rfl, lk, hcd⟩ := G.ex
  refine F.ok sc__law_tries (fun vs H Q E h => ?_) (fun cdv A outer s H vs Q E hr h => ?_)
  · obtain ⟨l, fs, rfl, _⟩ := h
    rfl
  obtain ⟨l, fs, rfl, hn, hl, hc⟩ := h
  refine ⟨_, pss_one (ps_ret (pe_lc (own := [("_law_ask", 1)]) (g := gName 1) (te := tItem P w K mg b0 base k [.ref C1, .ref C2, .ref C3] 1) (by rfl) sc__law_tries.nd (pi_list (pv 0)) (blkOk_by (N := ["_law_asks", "_law_ask"]) (sc := defScope s__law_tries) (by decide +kernel)) (fun _ _ _ _ _ => pg_name (i := 1) sc__law_tries.nd rfl (.inl rfl)) (fun _ _ _ _ _ => pts_nil)
    (fun s1 H1 C cl fp => pe_item (a := "_law_ask") m sub sz (by rfl) mG G.kp lk hcd bG sc__law_try rfl (.inl rfl) (fun q => gives__law_try FF mF kF bF g1 g2 g3 hr) (hr.mono (by omega)) rfl (.inl rfl)))), ?_⟩
  refine ⟨.ref l, rfl, l, rfl, ⟨_, .inl (.inl hl)⟩, fun D nD => ?_⟩
  exact chain_walk (fun x => rfl) (show 1 < 2 by decide) hn nD hl (hc D nD)
end
end FW
/-! x(e, .., k = v, ..), x an instance whose class says `__call__` -/
namespace FW
open PySem PySem.Spec PyProof.Rows L2
theorem callee_instK {M : Model} {A : Around} {E Q : Value → Shared → Prop} {s : Shared} {pos : Pos} {a : Addr} {vs : List (Bool × Sem Value)} {ks : List (Option Str × Sem Value)} (pl : (vs.any (·.1) || ks.any (·.1.isNone)) = false)
    (h : wpAny M A (evalArgs (.ref a) true vs ks) (fun g s1 => (∃ ox : Obj, s1.heap.get? a = some ox ∧ ox.data = .plain) ∧ wpAny M A (call (.ref a) g.pos g.kw) Q E s1) E s) : wpAny M A (callWith pos (.ref a) [] vs ks) Q E s := by
  unfold callWith
  refine wpAny_bind (wpAny_holding (wpAny_mono h (fun g s1 hg => ?_) fun _ _ z => z))
  obtain ⟨⟨ox, e1, e2⟩, hc⟩ := hg
  refine wpAny_bind (PySem.wpAny_standAt ?_)
  have kp : PySem.W.Looks M s1.heap (keeperOf (.ref a)) .caller := (PySem.W.Looks.ld (part := none) e1).andThen (by simp only [e2]; exact .now)
  simp only [pl]
  refine wpAny_bind (kp.here ?_)
  refine wpAny_bind (wpAny_mono (PySem.wpAny_operateT hc) (fun r s2 z => ?_) fun _ _ z => z)
  exact wpAny_bind (wpAny_holding (wpAny_point (wpAny_pure z)))
/-- o(e, .., k = v, ..) -/
def tCallOK (C : Addr) (n m : Nat) (sp : Sp) (gV : List V → List V → List V) (E : XK) (to : TE) (t tk : TA) : TE := fun σ H Q => to σ H fun x H1 => ∃ a, x = .ref a ∧ t σ H1 fun vs H2 => tk σ H2 fun zs H3 => vs.length = n ∧ zs.length = m ∧ ∃ dx fs, H3 a = some (.ins C dx fs) ∧ sp (gV (.ref a :: vs) zs) H3 Q E
section
variable {X : Cx} {CX : CXT} {k n : Nat} {f C : Addr} {fd : FuncData} {ps ks : List Str} {sp : Sp} {E : XK} {o e : Expr} {es : List Expr} {kws : List Keyword} {pos : Pos} {to : TE} {t tk : TA} {g : List Value → List Value → List Value} {gV : List V → List V → List V}
theorem pe_callOK (ho : PE X o to) (hs : PySem.W.findIn X.K (.ref C) "__call__" = some (some (.ref f))) (hf : PySem.W.isFn X.K (.ref f) = true) (hfn : PySem.W.fnIn X.K f = true) (F : FnOk X.prog X.w X.K X.mg X.base CX k f fd ps sp) (hr : Room k X.A) (hb : KBn X.K fd ps (n + 1) ks g gV) (hx : Passes CX X E) (ha : PA X (e :: es) t) (hkw : PK X kws tk)
    (hall : (backToKw pos (keywordEach kws X.env)).all (·.1.isSome) = true := by rfl) (hks : (backToKw pos (keywordEach kws X.env)).filterMap (·.1) = ks := by rfl)
    (hev : eval (.Call o (e :: es) kws pos) X.env = (do callWith pos (← eval o X.env) [] (backTo pos (starEach (e :: es) X.env)) (backToKw pos (keywordEach kws X.env))) := by rfl)
    (he : starEach (e :: es) X.env = (false, eval e X.env) :: starEach es X.env := by rfl) (hpl : ((backTo pos (starEach (e :: es) X.env)).any (·.1) || (backToKw pos (keywordEach kws X.env)).any (·.1.isNone)) = false := by rfl) :
    PE X (.Call o (e :: es) kws pos) (tCallOK C n ks.length sp gV E to t tk) := by
  refine ⟨fun pins s σ H Q I hq => ?_⟩
  rw [hev]
  refine wpAny_bind (thn (ho.run pins s σ H _ I hq) fun u s1 r => ?_)
  obtain ⟨x, H1, I1, rx, a, rfl, h1⟩ := r
  obtain rfl : u = Value.ref a := rx
  refine callee_instK hpl (evalArgs_kw2 hall (thn (ha.run pos pins s1 σ H1 _ I1 h1) fun us s2 r => ?_) he)
  obtain ⟨vs, H2, I2, rv, h2⟩ := r
  refine thn (hkw.run pos pins s2 σ H2 _ I2 h2) fun ws s3 r => ?_
  obtain ⟨zs, H3, I3, rz, l1, l2, dx, fs, hi, h3⟩ := r
  obtain ⟨mA, J, _⟩ := ins_get I3.hok hi
  obtain ⟨od, J, _⟩ := J.look
  refine ⟨⟨_, J.at_, rfl⟩, ?_⟩
  rw [hks]
  have r1 : Vals (V.ref a :: vs) (Value.ref a :: us) := .cons rfl rv
  have n1 : (Value.ref a :: us).length = n + 1 := by rw [List.length_cons, ← rv.length, l1]
  refine wpAny_call (PySem.W.kco_code I3.kIn J rfl hs hf hfn (codeAny_mono (F.run X.A X.stack s3 H3 ⟨Value.ref a :: us, ks.zip ws⟩ (g (Value.ref a :: us) ws) (gV (.ref a :: vs) zs) Q E hr I3.env0 (hb.to s3 (Value.ref a :: us) ws I3.kIn n1 (rz.length.symm.trans l2)) (hb.rel r1 rz) h3) fun r s4 hq4 => ?_))
  match r, hq4 with
  | .error er, hq4 => exact hx pins σ H3 s3 er s4 I3 hq4
  | .ok (.ret u), hq4 => exact I3.after hq4
  | .ok .next, hq4 => exact False.elim hq4
  | .ok .brk, hq4 => exact False.elim hq4
  | .ok .cont, hq4 => exact False.elim hq4
end
end FW
/-! bool(list); o(k = v); o.m(k = v) where it may raise -/
namespace FW
open PySem PySem.Spec PyProof.Rows L2
section
variable {X : Cx}
def rBoolL (K : PySem.W.Frag) : List V → Hp → VK → Prop := fun xs H Q => ∃ p ys, xs = [.ref p] ∧ SqL K H p ys ∧ Q (.bl (!ys.isEmpty)) H
theorem call_boolL : CallR X (.type "bool") (rBoolL X.K) := by
  intro pins s σ H xs us Q I r h
  obtain ⟨p, ys, rfl, hq, q⟩ := h
  obtain ⟨u, rfl, ru⟩ := L2.vals1 r
  obtain rfl : u = Value.ref p := ru
  obtain ⟨its, rv, pl, hz⟩ := I.list hq
  refine callType_newIn PySem.F.called_bool (by decide) (PySem.F.typeCall_bool_1 _) (PySem.F.newCall_bool_1 _) (fun obj => PySem.F.args_object_init_2 obj _) PySem.F.entry_bool_new
    (S := fun A R s => wpAny (model X.prog X.w) A.in1 (truthy (.ref p)) (fun b s' => R (.ok (.ret (.bool b))) s') (fun e s' => R (.error e) s') s) ?_ ?_
  · intro A R s h
    unfold Builtin.«bool.__new__»
    repeat (first | (refine wpAny_bind (m := truthy _) (wpAny_mono h (fun b s' hb => ?_) fun _ _ e => e)) | wp_step)
    exact hb
  · have hl : its.length = ys.length := rv.length.symm
    have h63 := line63
    refine wpAny_truthy_list pl.isList (by simp only [List.size_toArray]; omega) ?_
    have e : (!its.toArray.isEmpty) = !ys.isEmpty := by
      cases ys with
      | nil => cases its with
        | nil => rfl
        | cons _ _ => cases hl
      | cons _ _ => cases its with
        | nil => cases hl
        | cons _ _ => rfl
    rw [e]
    exact ⟨PySem.typeIs_bool _ _, .bl _, H, I.tok _, rfl, q⟩
end
section
variable {X : Cx} {CX : CXT} {k : Nat} {f C : Addr} {fd : FuncData} {ps ks : List Str} {sp : Sp} {E : XK} {o : Expr} {kws : List Keyword} {pos : Pos} {to : TE} {tk : TA} {g : List Value → List Value → List Value} {gV : List V → List V → List V}
/-- o(k = v, ..) -/
theorem pe_callOK0 (ho : PE X o to) (hs : PySem.W.findIn X.K (.ref C) "__call__" = some (some (.ref f))) (hf : PySem.W.isFn X.K (.ref f) = true) (hfn : PySem.W.fnIn X.K f = true) (F : FnOk X.prog X.w X.K X.mg X.base CX k f fd ps sp) (hr : Room k X.A) (hb : KBn X.K fd ps 1 ks g gV) (hx : Passes CX X E) (hkw : PK X kws tk)
    (hall : (backToKw pos (keywordEach kws X.env)).all (·.1.isSome) = true := by rfl) (hks : (backToKw pos (keywordEach kws X.env)).filterMap (·.1) = ks := by rfl)
    (hev : eval (.Call o [] kws pos) X.env = (do callWith pos (← eval o X.env) [] (backTo pos (starEach [] X.env)) (backToKw pos (keywordEach kws X.env))) := by rfl)
    (hpl : ((backTo pos (starEach [] X.env)).any (·.1) || (backToKw pos (keywordEach kws X.env)).any (·.1.isNone)) = false := by rfl) :
    PE X (.Call o [] kws pos) (tCallOK C 0 ks.length sp gV E to tNil tk) := by
  refine ⟨fun pins s σ H Q I hq => ?_⟩
  rw [hev]
  refine wpAny_bind (thn (ho.run pins s σ H _ I hq) fun u s1 r => ?_)
  obtain ⟨x, H1, I1, rx, a, rfl, h1⟩ := r
  obtain rfl : u = Value.ref a := rx
  refine callee_instK hpl (evalArgs_kw2_nil hall (thn (hkw.run pos pins s1 σ H1 _ I1 h1) fun ws s3 r => ?_))
  obtain ⟨zs, H3, I3, rz, _, l2, dx, fs, hi, h3⟩ := r
  obtain ⟨mA, J, _⟩ := ins_get I3.hok hi
  obtain ⟨od, J, _⟩ := J.look
  refine ⟨⟨_, J.at_, rfl⟩, ?_⟩
  rw [hks]
  have r1 : Vals [V.ref a] [Value.ref a] := .cons rfl .nil
  refine wpAny_call (PySem.W.kco_code I3.kIn J rfl hs hf hfn (codeAny_mono (F.run X.A X.stack s3 H3 ⟨[Value.ref a], ks.zip ws⟩ (g [Value.ref a] ws) (gV [.ref a] zs) Q E hr I3.env0 (hb.to s3 [Value.ref a] ws I3.kIn rfl (rz.length.symm.trans l2)) (hb.rel r1 rz) h3) fun r s4 hq4 => ?_))
  match r, hq4 with
  | .error er, hq4 => exact hx pins σ H3 s3 er s4 I3 hq4
  | .ok (.ret u), hq4 => exact I3.after hq4
  | .ok .next, hq4 => exact False.elim hq4
  | .ok .brk, hq4 => exact False.elim hq4
  | .ok .cont, hq4 => exact False.elim hq4
end
def idp1 {α : Type} : List α → List α → List α
  | [a], [u, v] => [a, u, v]
  | _, _ => []
theorem idp1_vals {vs zs : List V} {us ws : List Value} (r : Vals vs us) (q : Vals zs ws) : Vals (idp1 vs zs) (idp1 us ws) := by
  cases r with
  | nil => exact .nil
  | cons r1 r2 =>
    cases r2 with
    | cons _ _ => exact .nil
    | nil =>
      cases q with
      | nil => exact .nil
      | cons q1 q2 =>
        cases q2 with
        | nil => exact .nil
        | cons q2 q3 =>
          cases q3 with
          | nil => exact .cons r1 (.cons q1 (.cons q2 .nil))
          | cons _ _ => exact .nil
theorem kbm_id {K : PySem.W.Frag} {x qual : Str} {st : Stmt} {f : Addr} {fd : FuncData} {p0 p1 p2 : Str} (F : Fun K x qual st f fd)
    (h : ∀ (kV doc pm : Value) (an : Option Addr) (cdv ct : Value) (a u v : Value), bindArgs (PySem.W.fnOf x qual (defArgs st) (defBody st) (defScope st) .none kV doc pm an cdv ct) ⟨[a], [(p1, u), (p2, v)]⟩ = pure [(p0, a), (p1, u), (p2, v)]) :
    KBinds K fd [p0, p1, p2] [p1, p2] idp1 idp1 := by
  obtain ⟨oc, od, kV, doc, pm, an, cdv, ct, osl, rfl, lk, hcd⟩ := F.ex
  refine ⟨fun s us ws _ hl => ?_, fun r q => idp1_vals r q⟩
  match us, ws, hl with
  | [a], [u, v], _ => exact .of_eq (h kV doc pm an cdv ct a u v)
  | [], ws, hl => exact absurd (show 0 = 3 from hl) (by decide)
  | [_], [], hl => exact absurd (show 0 = 3 from hl) (by decide)
  | [_], [_], hl => exact absurd (show 0 = 3 from hl) (by decide)
  | [_], _ :: _ :: _ :: _, hl => exact absurd (show 0 = 3 from hl) (by decide)
  | _ :: _ :: _, ws, hl => exact absurd (show 0 = 3 from hl) (by decide)
section
variable {X : Cx} {CX : CXT} {C : Addr} {k j : Nat} {m : Str} {ps ks : List Str} {sp : Sp} {E : XK} {o : Expr} {kws : List Keyword} {apos pos : Pos} {ta : TE} {tk : TA} {g : List Value → List Value → List Value} {gV : List V → List V → List V}
/-- o.m(k = v, ..), m may raise -/
theorem pe_mkx {pl : Sem Bool} (c : MCalK X.prog X.w X.K X.mg X.base CX C k m ps ks g gV sp) (hC : Cls X.K C) (hr : Room j X.A) (hk : k ≤ j) (hx : Passes CX X E) (he : PE X o ta) (hkw : PK X kws tk)
    (hall : (backToKw pos (keywordEach kws X.env)).all (·.1.isSome) = true := by rfl) (hks : (backToKw pos (keywordEach kws X.env)).filterMap (·.1) = ks := by rfl) (hpl : ((backTo pos (starEach [] X.env)).any (·.1) || (backToKw pos (keywordEach kws X.env)).any (·.1.isNone)) = false := by rfl)
    (ht : eval (.Call (.Attribute o m apos) [] kws pos) X.env = (do
      let ov ← eval o X.env
      standAt apos.atName
      let (f, first) ← holding [ov] (getMethod ov m pl)
      callWith pos f first (backTo pos (starEach [] X.env)) (backToKw pos (keywordEach kws X.env))) := by rfl) :
    PE X (.Call (.Attribute o m apos) [] kws pos) (tMethK C m sp gV E ta tk) := by
  obtain ⟨f, fd, hm, F, b⟩ := c.ex
  exact pe_methK0 he hC hm F (hr.mono hk) b hx hkw hall hks hpl ht
end
end FW
namespace FW
open PySem PySem.Spec PyProof.Rows L2
-- more
section
variable {P : Program} {w : World} {K : PySem.W.Frag} {mg : Str → Option Value} {base : Heap}
abbrev s_law : Stmt := topS 41
theorem sc_law : FnScope ["_law_script", "_law_bag", "_law_faces", "_law_first", "_law_second", "_law_one", "_law_other", "_law_many", "_law_left", "_law_right", "_law_found", "_law_due", "_law_weights", "_law_twin", "_law_pair", "_law_gone", "_law_more", "_law_asks", "_law_a", "_law_b", "_law_letter"] ["_law_script"] (defScope s_law) := ⟨rfl, rfl, rfl, by decide +kernel, rfl, by decide +kernel, by decide +kernel⟩
abbrev lm (s : Stmt) (j : Nat) : Arguments × Expr × Scope := lamParts ((listOf s).getD j (.Constant .none 0 ⟨0, 0, 0, 0⟩))
abbrev XL (P : Program) (w : World) (K : PySem.W.Frag) (mg : Str → Option Value) (base : Heap) (f c : Addr) (A : Around) (outer : List Env) (s : Shared) (H : Hp) (E : XK) : Cx :=
  (cxOf CX0 P w K mg base ["_law_script", "_law_bag", "_law_faces", "_law_first", "_law_second", "_law_one", "_law_other", "_law_many", "_law_left", "_law_right", "_law_found", "_law_due", "_law_weights", "_law_twin", "_law_pair", "_law_gone", "_law_more", "_law_asks", "_law_a", "_law_b", "_law_letter"] "law" (defScope s_law) f (.ref c) A outer s H E).nox
def sp_law (K : PySem.W.Frag) (Pt : Addr) : Sp := fun vs H Q _ => ∃ (a : Addr) (ns : List Int), vs = [.ref a] ∧ SqL K H a (ns.map V.int) ∧ ns.length ≤ 63 ∧ H Pt = some (.tbl #[]) ∧ ∀ H', Q (.bl true) H'
abbrev tabL (Pt f c : Addr) : List (Addr × Str) := [(Pt, (envOfC "law" (defScope s_law) 0 f (.ref c)).qual ++ "<lambda>")]
/-- the drawn weights -/
structure Heavy (CW b : Addr) (H : Hp) (p x nd pn : Addr) (F : List Nat) (e : Int) (v : Nat → Int) : Prop where
  hp : H p = some (.lst [.ref x, .int e, .ref pn])
  hpn : H pn = some (.lst ((F.map v).map V.int))
  hW : WtA CW H x nd F e v
  pb : p ≠ b
  pnb : pn ≠ b
  xb : x ≠ b
  ndb : nd ≠ b
section
variable {CW b p x nd pn : Addr} {H H' : Hp} {F : List Nat} {e : Int} {v : Nat → Int}
theorem Heavy.drawn (h : Heavy CW b H p x nd pn F e v) (s : But b H H') : Heavy CW b H' p x nd pn F e v := ⟨s _ _ h.pb h.hp, s _ _ h.pnb h.hpn, h.hW.drawn s h.xb h.ndb, h.pb, h.pnb, h.xb, h.ndb⟩
theorem Heavy.same (h : Heavy CW b H p x nd pn F e v) (s : Same H H') : Heavy CW b H' p x nd pn F e v := h.drawn s.but
theorem Heavy.ext (h : Heavy CW b H p x nd pn F e v) (s : LamX.ExtN H H') : Heavy CW b H' p x nd pn F e v := ⟨s _ _ h.hp (fun _ z => by cases z), s _ _ h.hpn (fun _ z => by cases z), h.hW.ext s, h.pb, h.pnb, h.xb, h.ndb⟩
end
theorem dpI {K : PySem.W.Frag} {H : Hp} : ∀ ns : List Int, DpAll K H (ns.map V.int) (ns.map PyData.int)
  | [] => .nil
  | n :: r => .cons (.int n) (dpI r)
theorem deepI {n : Nat} {ns : List Int} (h : ns.length ≤ 1000) : Deep (n + 1) (.list (ns.map PyData.int)) := deep_list (by rw [List.length_map]; exact h) fun d hd => by
  obtain ⟨i, _, rfl⟩ := List.mem_map.mp hd
  exact deep_int
theorem all_faces {l : List Nat} {ys : List Str} (nd : l.Nodup) (hin : ∀ c ∈ l, c ∈ lower) (pm : ys.Perm (l.map one1S)) (hs : PyProof.Rows.sortedS ys = true) :
    ∃ cs : List Nat, ys = cs.map one1S ∧ cs.length = l.length ∧ cs.Pairwise (· < ·) ∧ (∀ c ∈ cs, c ∈ lower) ∧ ∀ c ∈ l, c ∈ cs := by
  have e1 : ys = (ys.map fun z => z.cps.toList.headD 0).map one1S := by
    rw [List.map_map]
    have : ys.map id = ys.map (one1S ∘ fun z => z.cps.toList.headD 0) := List.map_congr_left fun z h => by
      obtain ⟨c, _, rfl⟩ := List.mem_map.mp (pm.mem_iff.mp h)
      rfl
    rw [← this, List.map_id]
  have pm2 : (ys.map fun z => z.cps.toList.headD 0).Perm l := by
    have := pm.map fun z => z.cps.toList.headD 0
    rw [List.map_map] at this
    have e2 : l.map ((fun z : Str => z.cps.toList.headD 0) ∘ one1S) = l := by
      have : l.map ((fun z : Str => z.cps.toList.headD 0) ∘ one1S) = l.map id := List.map_congr_left fun c _ => rfl
      rw [this, List.map_id]
    rw [e2] at this
    exact this
  have hpw := sortedS_pwN hs
  rw [e1] at hpw
  generalize (ys.map fun z => z.cps.toList.headD 0) = cs at e1 pm2 hpw
  have hle : cs.Pairwise (fun a b => ¬ b < a) := (List.pairwise_map.mp hpw).imp fun {a b} h q => h (show [b] < [a] from List.cons_lt_cons_iff.mpr (.inl q))
  refine ⟨cs, e1, pm2.length_eq, (hle.and (pm2.nodup_iff.mpr nd)).imp fun {a b} h => by have h1 := h.1; have h2 : a ≠ b := h.2; omega, fun c hc => hin c (pm2.mem_iff.mp hc), fun c hc => pm2.mem_iff.mpr hc⟩
/-- the two drawn weights and what they were drawn from -/
structure Two (CW : Addr) (H : Hp) (x1 nd1 x2 nd2 : Addr) (F : List Nat) (e1 : Int) (v1 : Nat → Int) (e2 : Int) (v2 : Nat → Int) (l1 l2 : Addr) : Prop where
  w1 : WtA CW H x1 nd1 F e1 v1
  w2 : WtA CW H x2 nd2 F e2 v2
  h1 : H l1 = some (.lst ((e1 :: F.map v1).map V.int))
  h2 : H l2 = some (.lst ((e2 :: F.map v2).map V.int))
section
variable {CW x1 nd1 x2 nd2 l1 l2 z : Addr} {H0 H H' : Hp} {F : List Nat} {e1 e2 : Int} {v1 v2 : Nat → Int}
theorem Two.same (t : Two CW H x1 nd1 x2 nd2 F e1 v1 e2 v2 l1 l2) (s : Same H H') : Two CW H' x1 nd1 x2 nd2 F e1 v1 e2 v2 l1 l2 := ⟨t.w1.same s, t.w2.same s, s _ _ t.h1, s _ _ t.h2⟩
theorem Two.ext (t : Two CW H x1 nd1 x2 nd2 F e1 v1 e2 v2 l1 l2) (s : LamX.ExtN H H') : Two CW H' x1 nd1 x2 nd2 F e1 v1 e2 v2 l1 l2 := ⟨t.w1.ext s, t.w2.ext s, s _ _ t.h1 (fun _ z => by cases z), s _ _ t.h2 (fun _ z => by cases z)⟩
theorem none_ne {H : Hp} {a z : Addr} {o : HO} (h : H a = some o) (n : H z = none) : a ≠ z := fun e => by rw [e, n] at h; cases h
/-- where what changes lay free when the two were there -/
theorem Two.off (t0 : Two CW H0 x1 nd1 x2 nd2 F e1 v1 e2 v2 l1 l2) (nz : H0 z = none) (t : Two CW H x1 nd1 x2 nd2 F e1 v1 e2 v2 l1 l2) (o : But z H H') : Two CW H' x1 nd1 x2 nd2 F e1 v1 e2 v2 l1 l2 := by
  obtain ⟨d1, hx1⟩ := t0.w1.at_
  obtain ⟨d2, hx2⟩ := t0.w2.at_
  exact ⟨t.w1.drawn o (none_ne hx1 nz) (none_ne t0.w1.num nz), t.w2.drawn o (none_ne hx2 nz) (none_ne t0.w2.num nz), o _ _ (none_ne t0.h1 nz) t.h1, o _ _ (none_ne t0.h2 nz) t.h2⟩
end
theorem dpAll_end {K : PySem.W.Frag} {H : Hp} {v : V} {d : PyData} (q : Dp K H v d) : ∀ {vs : List V} {ds : List PyData}, DpAll K H vs ds → DpAll K H (vs ++ [v]) (ds ++ [d])
  | [], _, h => by cases h; exact .cons q .nil
  | x :: r, _, h => by
    cases h with
    | cons a b => exact .cons a (dpAll_end q b)
theorem zw_map (g : Int → Int → Int) (v w : Nat → Int) : ∀ F : List Nat, List.zipWith g (F.map v) (F.map w) = F.map fun c => g (v c) (w c)
  | [] => rfl
  | c :: r => by
    rw [List.map_cons, List.map_cons, List.zipWith_cons_cons, zw_map g v w r]
    rfl
abbrev Wq := Addr × Addr × Int × (Nat → Int)
def rowQ (F : List Nat) (q : Wq) : List Int := q.2.2.1 :: F.map q.2.2.2
def AllQ (CW : Addr) (H : Hp) (F : List Nat) (L : List Wq) : Prop := ∀ q ∈ L, WtA CW H q.1 q.2.1 F q.2.2.1 q.2.2.2
theorem AllQ.same {CW : Addr} {H H' : Hp} {F : List Nat} {L : List Wq} (h : AllQ CW H F L) (s : Same H H') : AllQ CW H' F L := fun q hq => (h q hq).same s
def onI (g : Int → Int) : V → V
  | .int n => .int (g n)
  | z => z
theorem onI_map (g : Int → Int) (A : List Int) : ((A.map V.int).filter fun _ => true).map (onI g) = (A.map g).map V.int := by
  rw [List.filter_eq_self.mpr fun _ _ => rfl, List.map_map, List.map_map]
  rfl
def RowsAt (H : Hp) (D : Addr) : List Addr → List (List Int) → Prop
  | [], [] => True
  | p :: ps, r :: rs => (p ≠ D ∧ H p = some (.lst (r.map V.int))) ∧ RowsAt H D ps rs
  | _, _ => False
theorem RowsAt.but {D : Addr} {H H' : Hp} (o : But D H H') : ∀ {ps : List Addr} {rs : List (List Int)}, RowsAt H D ps rs → RowsAt H' D ps rs
  | [], [], _ => trivial
  | _ :: _, _ :: _, h => ⟨⟨h.1.1, o _ _ h.1.1 h.1.2⟩, RowsAt.but o h.2⟩
  | [], _ :: _, h => h
  | _ :: _, [], h => h
theorem RowsAt.snoc {D p : Addr} {H : Hp} {r : List Int} (n : p ≠ D) (e : H p = some (.lst (r.map V.int))) : ∀ {ps : List Addr} {rs : List (List Int)}, RowsAt H D ps rs → RowsAt H D (ps ++ [p]) (rs ++ [r])
  | [], [], _ => ⟨⟨n, e⟩, trivial⟩
  | _ :: _, _ :: _, h => ⟨h.1, RowsAt.snoc n e h.2⟩
  | [], _ :: _, h => h.elim
  | _ :: _, [], h => h.elim
theorem RowsAt.len {D : Addr} {H : Hp} : ∀ {ps : List Addr} {rs : List (List Int)}, RowsAt H D ps rs → ps.length = rs.length
  | [], [], _ => rfl
  | _ :: _, _ :: _, h => congrArg Nat.succ (RowsAt.len h.2)
  | [], _ :: _, h => h.elim
  | _ :: _, [], h => h.elim
theorem RowsAt.dp {K : PySem.W.Frag} {D : Addr} {H : Hp} : ∀ {ps : List Addr} {rs : List (List Int)}, RowsAt H D ps rs → DpAll K H (ps.map V.ref) (rs.map fun r => PyData.list (r.map PyData.int))
  | [], [], _ => .nil
  | _ :: _, _ :: _, h => .cons (.lst (SqL.of h.1.2) (dpI _)) (RowsAt.dp h.2)
  | [], _ :: _, h => h.elim
  | _ :: _, [], h => h.elim
theorem tabs_dK {T : List (Addr × Str)} {H H' : Hp} {n : Addr} {kvs : List (Key × V)} (t : LamX.Tabs T H) (hn : H n = some (.dK kvs)) (s : But n H H') : LamX.Tabs T H' := fun p hp => by
  obtain ⟨ps, h1, h2, h3⟩ := t p hp
  refine ⟨ps, s _ _ (fun z => ?_) h1, h2, fun pos cv hc => ?_⟩
  · rw [z, hn] at h1
    cases h1
  · obtain ⟨c, e1, e2⟩ := h3 pos cv hc
    refine ⟨c, e1, s _ _ (fun z => ?_) e2⟩
    rw [z, hn] at e2
    cases e2
theorem tabs_ins {T : List (Addr × Str)} {H H' : Hp} {n C dx : Addr} {fs : List (Str × V)} (t : LamX.Tabs T H) (hn : H n = some (.ins C dx fs)) (s : But n H H') : LamX.Tabs T H' := fun p hp => by
  obtain ⟨ps, h1, h2, h3⟩ := t p hp
  refine ⟨ps, s _ _ (fun z => ?_) h1, h2, fun pos cv hc => ?_⟩
  · rw [z, hn] at h1
    cases h1
  · obtain ⟨c, e1, e2⟩ := h3 pos cv hc
    refine ⟨c, e1, s _ _ (fun z => ?_) e2⟩
    rw [z, hn] at e2
    cases e2
/-- where one of them changes, each is still there -/
theorem some_put {CW : Addr} {H H' : Hp} {F : List Nat} {L : List Wq} {q0 : Wq} {v0 : Nat → Int} (h : ∀ q ∈ L, ∃ v : Nat → Int, WtA CW H q.1 q.2.1 F q.2.2.1 v) (n0 : ∃ v : Nat → Int, H q0.2.1 = some (.dK (numK F fun c => .int (v c)))) (o : But q0.2.1 H H') (h0 : WtA CW H' q0.1 q0.2.1 F q0.2.2.1 v0) : ∀ q ∈ L, ∃ v : Nat → Int, WtA CW H' q.1 q.2.1 F q.2.2.1 v := fun q hq => by
  obtain ⟨v, hW⟩ := h q hq
  obtain ⟨d, hx⟩ := hW.at_
  obtain ⟨v1, hn⟩ := n0
  have hne : q.1 ≠ q0.2.1 := fun e => by rw [e, hn] at hx; cases hx
  by_cases e : q.2.1 = q0.2.1
  · exact ⟨v0, ⟨d, o _ _ hne hx⟩, by rw [e]; exact h0.num, hW.fl, hW.nd⟩
  · exact ⟨v, hW.drawn o hne e⟩
theorem kwW_n {x : Addr} {F : V} : KwW (.int 0) [.ref x, F] (([] : List Str).zip []) (.ref x) F (.int 0) [] :=
  ⟨(show 2 ≤ 2 by decide), by show ([("self" : Str), ("faces" : Str)]).Nodup; decide, rfl, rfl, rfl, rfl, List.nodup_nil, (show 0 ≤ sizeLine by decide)⟩
theorem sum_ones : ∀ cs : List Nat, ((cs.map one1S).map fun x => x.length).sum = cs.length
  | [] => rfl
  | c :: r => by
    rw [List.map_cons, List.map_cons, List.sum_cons, sum_ones r, List.length_cons]
    show 1 + r.length = _
    omega
theorem ok_law {f c Pt fT C1 C2 C3 CI CF CN CO CW fIW fG fRm fMu p_each f_each : Addr} {oc kV doc pm ct : Value} {od an : Option Addr} {osl : Array (Option Value)} {fdT : FuncData} {fdE : FuncData} (T : Z mg)
    (lk : K.lookup f = some ⟨oc, od, .func (PySem.W.fnOf "law" "law" (defArgs s_law) (defBody s_law) (defScope s_law) .none kV doc pm an (.ref c) ct), osl⟩) (hcd : PySem.W.codeIn K (.ref c) "law" = true) (TB : LamX.TabB base mg c Pt)
    (TO : ErrN K mg CO "OtherFaces" [.ref C1, .ref C2, .ref C3])
    (WC : WtC K CW) (gW : mg "Weights" = some (.ref CW)) (MW : Mk K CW fIW) (FIW : ∀ ks, FnKw P w K mg base (L2.CX P w) 4 fIW ks (sp_init_of K CI CF CN CW ks))
    (iG : PySem.W.findIn K (.ref CW) "__getitem__" = some (some (.ref fG))) (iGi : PySem.W.fnIn K fG = true) (iGf : PySem.W.isFn K (.ref fG) = true) (FG : FnR P w K mg base (L2.CX P w) 3 fG (sp_Weights_getitem K CF CW))
    (cx_put : MCal P w K mg base (L2.CX P w) CW 4 "put" ["self", "face", "number"] (sp_Weights_setitem K CF CN CW))
    (c_copy : MCal P w K mg base CX0 CW 7 "copy" ["self"] (sp_Weights_copy K CW))
    (ox_add : OwnM P w K mg base (L2.CX P w) CW (PySem.dunder Operator.Add.info.2) 8 (sp_Weights_sum K CO CW 1)) (ox_sub : OwnM P w K mg base (L2.CX P w) CW (PySem.dunder Operator.Sub.info.2) 8 (sp_Weights_sum K CO CW (-1))) (sfW : PySem.W.selfFirst K CW = true)
    (o_mul : OwnM P w K mg base CX0 CW "__mul__" 8 (sp_Weights_mul K CW)) (o_rmul : OwnM P w K mg base CX0 CW "__rmul__" 8 (sp_Weights_mul K CW)) (hRm : PySem.W.findIn K (.ref CW) "__rmul__" = some (some (.ref fRm))) (hMu : PySem.W.findIn K (.ref CW) "__mul__" = some (some (.ref fMu))) (hIn : PySem.W.mroIn K CW (.type "int") = some false) (o_neg : OwnM P w K mg base CX0 CW "__neg__" 8 (sp_Weights_neg K CW))
    (cx__law_added : Cal P w K mg base (L2.CX P w) 9 "_law_added" s__law_added ["_law_one", "_law_other"] (sp__law_added K CO CW)) (cx__law_taken : Cal P w K mg base (L2.CX P w) 9 "_law_taken" s__law_taken ["_law_one", "_law_other"] (sp__law_taken K CO CW)) (cx__law_put_at : Cal P w K mg base (L2.CX P w) 5 "_law_put_at" s__law_put_at ["_law_weights", "_law_face", "_law_number"] (sp__law_put_at K CW))
    (hp : PropOf K CW "each" p_each f_each) (FE : FnOk P w K mg base CX0 1 f_each fdE ["self"] (sp_Weights_each CW)) (bE : Binds K fdE ["self"] [])
    (mT : mg "_law_tries" = some (.ref fT)) (kT : PySem.W.keepIn K (.ref fT) = true) (bT : L2.Binds K fdT ["_law_asks"] [])
    (FT : ∀ b2 : Heap, Mod K mg base → (∀ b o, base.get? b = some o → b2.get? b = some o) → base.objs.size ≤ b2.objs.size → FnOk P w K mg b2 CX0 14 fT fdT ["_law_asks"] (sp_tries P w K mg base b2 10 [.ref C1, .ref C2, .ref C3]))
    (c__law_same : Cal P w K mg base CX0 5 "_law_same" s__law_same ["_law_found", "_law_due"] (sp__law_same K 3))
    (c__law_numbers : Cal P w K mg base CX0 5 "_law_numbers" s__law_numbers ["_law_weights", "_law_faces"] (sp__law_numbers K CW))
    (c__law_draw : Cal P w K mg base CX0 1 "_law_draw" s__law_draw ["_law_bag", "_law_many"] (sp__law_draw K))
    (c__law_some_weights : Cal P w K mg base CX0 6 "_law_some_weights" s__law_some_weights ["_law_bag", "_law_faces", "_law_most"] (sp__law_some_weights K CW))
    (c__law_some_faces : Cal P w K mg base CX0 3 "_law_some_faces" s__law_some_faces ["_law_bag", "_law_most"] (sp__law_some_faces K))
    (c__law_open : Cal P w K mg base CX0 1 "_law_open" s__law_open ["_law_script"] (sp__law_open K)) : FnOk P w K mg base CX0 16 f (PySem.W.fnOf "law" "law" (defArgs s_law) (defBody s_law) (defScope s_law) .none kV doc pm an (.ref c) ct) ["_law_script"] (sp_law K Pt) := by
  refine fn_of lk hcd sc_law (fun vs H Q E h => ?_) (fun A outer s H vs Q E hr h => ?_)
  · obtain ⟨a, ns, rfl, _⟩ := h
    rfl
  obtain ⟨a, ns, rfl, hS, hlen, hP, q⟩ := h
  refine ⟨_, PSs.nox (pss_cons (ps_set (i := 1) sc_law.nd rfl (.inl rfl) (pe_c c__law_open hr (by decide) (by rfl) (pa_cons (pv 0) pa_nil)))
      (pss_cons (ps_set (i := 2) sc_law.nd rfl (.inr rfl) (pe_c c__law_some_faces hr (by decide) (by rfl) (pa_cons (pv 1) (pa_cons pe_int pa_nil))))
      (pss_cons (ps_par (i := 3) (j := 4) (by rfl) sc_law.nd rfl rfl (by decide) rfl rfl (pa_cons (pe_c c__law_some_weights hr (by decide) (by rfl) (pa_cons (pv 1) (pa_cons (pv 2) (pa_cons (pe_op op_pow pe_int pe_int) pa_nil)))) (pa_cons (pe_c c__law_some_weights hr (by decide) (by rfl) (pa_cons (pv 1) (pa_cons (pv 2) (pa_cons pe_int pa_nil)))) pa_nil)) (by rfl))
      (pss_cons (ps_asg (pe_tup (pa_cons (pe_ix ix_list (pv 3) pe_int (fun _ _ => rfl)) (pa_cons (pe_ix ix_list (pv 4) pe_int (fun _ _ => rfl)) (pa_cons (pe_op op_sub (pe_c c__law_draw hr (by decide) (by rfl) (pa_cons (pv 1) (pa_cons pe_int pa_nil))) pe_int) pa_nil)))) (pg_tup rfl (pgs_cons (pg_name (i := 5) sc_law.nd rfl (.inr rfl)) (pgs_cons (pg_name (i := 6) sc_law.nd rfl (.inl rfl)) (pgs_cons (pg_name (i := 7) sc_law.nd rfl (.inr rfl)) pgs_nil)))))
      (pss_cons (ps_par (i := 8) (j := 9) (by rfl) sc_law.nd rfl rfl (by decide) rfl rfl (pa_cons (pe_op op_cat (pe_lst (pa_cons (pe_ix ix_list (pv 3) pe_int (fun _ _ => rfl)) pa_nil)) (pe_ix ix_list (pv 3) pe_int (fun _ _ => rfl))) (pa_cons (pe_op op_cat (pe_lst (pa_cons (pe_ix ix_list (pv 4) pe_int (fun _ _ => rfl)) pa_nil)) (pe_ix ix_list (pv 4) pe_int (fun _ _ => rfl))) pa_nil)) (by rfl))
      (pss_cons (ps_set (i := 10) sc_law.nd rfl (.inl rfl) (pe_lst (pa_cons (pe_op (op_binX (E := E0) ox_add sfW hr (by decide) passL) (pv 5) (pv 6)) (pa_cons (pe_op (op_binX (E := E0) ox_sub sfW hr (by decide) passL) (pv 5) (pv 6)) (pa_cons (pe_op (op_mulN (E := E0) o_mul sfW hRm hr (by decide) pass0) (pv 5) (pv 7)) (pa_cons (pe_op (op_mulR (E := E0) o_rmul sfW hMu hIn hr (by decide) pass0) (pv 7) (pv 5)) (pa_cons (pe_un (un_negO (E := E0) o_neg hr (by decide) pass0) (pv 5)) pa_nil)))))))
      (pss_cons (ps_set (i := 11) sc_law.nd rfl (.inl rfl) (pe_lst (pa_cons (pe_lc (own := [("_law_a", 18), ("_law_b", 19)]) (g := (gTup K 2 (gCons (gName 18) (gCons (gName 19) gNil)))) (by rfl) sc_law.nd (pi_zipG (by rfl) T.z_zip (pa_cons (pv 8) (pa_cons (pv 9) pa_nil))) (blkOk_by (N := ["_law_script", "_law_bag", "_law_faces", "_law_first", "_law_second", "_law_one", "_law_other", "_law_many", "_law_left", "_law_right", "_law_found", "_law_due", "_law_weights", "_law_twin", "_law_pair", "_law_gone", "_law_more", "_law_asks", "_law_a", "_law_b", "_law_letter"]) (sc := defScope s_law) (by decide +kernel)) (fun _ _ _ _ _ => (pg_tup rfl (pgs_cons (pg_name (i := 18) sc_law.nd rfl (.inl rfl)) (pgs_cons (pg_name (i := 19) sc_law.nd rfl (.inl rfl)) pgs_nil)))) (fun _ _ _ _ _ => pts_nil) (fun _ _ _ _ _ => (pe_op op_add (pv 18) (pv 19)))) (pa_cons (pe_lc (own := [("_law_a", 18), ("_law_b", 19)]) (g := (gTup K 2 (gCons (gName 18) (gCons (gName 19) gNil)))) (by rfl) sc_law.nd (pi_zipG (by rfl) T.z_zip (pa_cons (pv 8) (pa_cons (pv 9) pa_nil))) (blkOk_by (N := ["_law_script", "_law_bag", "_law_faces", "_law_first", "_law_second", "_law_one", "_law_other", "_law_many", "_law_left", "_law_right", "_law_found", "_law_due", "_law_weights", "_law_twin", "_law_pair", "_law_gone", "_law_more", "_law_asks", "_law_a", "_law_b", "_law_letter"]) (sc := defScope s_law) (by decide +kernel)) (fun _ _ _ _ _ => (pg_tup rfl (pgs_cons (pg_name (i := 18) sc_law.nd rfl (.inl rfl)) (pgs_cons (pg_name (i := 19) sc_law.nd rfl (.inl rfl)) pgs_nil)))) (fun _ _ _ _ _ => pts_nil) (fun _ _ _ _ _ => (pe_op op_sub (pv 18) (pv 19)))) (pa_cons (pe_lc (own := [("_law_a", 18)]) (g := (gName 18)) (by rfl) sc_law.nd (pi_list (pv 8)) (blkOk_by (N := ["_law_script", "_law_bag", "_law_faces", "_law_first", "_law_second", "_law_one", "_law_other", "_law_many", "_law_left", "_law_right", "_law_found", "_law_due", "_law_weights", "_law_twin", "_law_pair", "_law_gone", "_law_more", "_law_asks", "_law_a", "_law_b", "_law_letter"]) (sc := defScope s_law) (by decide +kernel)) (fun _ _ _ _ _ => (pg_name (i := 18) sc_law.nd rfl (.inl rfl))) (fun _ _ _ _ _ => pts_nil) (fun _ _ _ _ _ => (pe_op op_mul (pv 18) (pv 7)))) (pa_cons (pe_lc (own := [("_law_a", 18)]) (g := (gName 18)) (by rfl) sc_law.nd (pi_list (pv 8)) (blkOk_by (N := ["_law_script", "_law_bag", "_law_faces", "_law_first", "_law_second", "_law_one", "_law_other", "_law_many", "_law_left", "_law_right", "_law_found", "_law_due", "_law_weights", "_law_twin", "_law_pair", "_law_gone", "_law_more", "_law_asks", "_law_a", "_law_b", "_law_letter"]) (sc := defScope s_law) (by decide +kernel)) (fun _ _ _ _ _ => (pg_name (i := 18) sc_law.nd rfl (.inl rfl))) (fun _ _ _ _ _ => pts_nil) (fun _ _ _ _ _ => (pe_op op_mul (pv 7) (pv 18)))) (pa_cons (pe_lc (own := [("_law_a", 18)]) (g := (gName 18)) (by rfl) sc_law.nd (pi_list (pv 8)) (blkOk_by (N := ["_law_script", "_law_bag", "_law_faces", "_law_first", "_law_second", "_law_one", "_law_other", "_law_many", "_law_left", "_law_right", "_law_found", "_law_due", "_law_weights", "_law_twin", "_law_pair", "_law_gone", "_law_more", "_law_asks", "_law_a", "_law_b", "_law_letter"]) (sc := defScope s_law) (by decide +kernel)) (fun _ _ _ _ _ => (pg_name (i := 18) sc_law.nd rfl (.inl rfl))) (fun _ _ _ _ _ => pts_nil) (fun _ _ _ _ _ => (pe_op op_sub pe_int (pv 18)))) pa_nil)))))))
      (pss_cons (ps_if (pt_not (pt_val (pe_c c__law_same hr (by decide) (by rfl) (pa_cons (pe_lc (own := [("_law_weights", 12)]) (g := (gName 12)) (by rfl) sc_law.nd (pi_list (pv 10)) (blkOk_by (N := ["_law_script", "_law_bag", "_law_faces", "_law_first", "_law_second", "_law_one", "_law_other", "_law_many", "_law_left", "_law_right", "_law_found", "_law_due", "_law_weights", "_law_twin", "_law_pair", "_law_gone", "_law_more", "_law_asks", "_law_a", "_law_b", "_law_letter"]) (sc := defScope s_law) (by decide +kernel)) (fun _ _ _ _ _ => (pg_name (i := 12) sc_law.nd rfl (.inl rfl))) (fun _ _ _ _ _ => pts_nil) (fun _ _ _ _ _ => (pe_c c__law_numbers hr (by decide) (by rfl) (pa_cons (pv 12) (pa_cons (pv 2) pa_nil))))) (pa_cons (pv 11) pa_nil))))) (pss_one (ps_ret pe_bl)) pss_nil)
      (pss_cons (ps_for PassesOwn.never rfl (pi_list (pv 10)) (pg_name (i := 12) sc_law.nd rfl (.inl rfl))
        (pss_one (ps_expr (pe_mx (E := E0) cx_put WC.c hr (by decide) passL (pv 12) (pa_cons (pe_ix ix_str (pv 2) pe_int (fun _ _ => rfl)) (pa_cons pe_int pa_nil))))))
      (pss_cons (ps_if (pt_not (pt_val (pe_c c__law_same hr (by decide) (by rfl) (pa_cons (pe_lst (pa_cons (pe_c c__law_numbers hr (by decide) (by rfl) (pa_cons (pv 5) (pa_cons (pv 2) pa_nil))) (pa_cons (pe_c c__law_numbers hr (by decide) (by rfl) (pa_cons (pv 6) (pa_cons (pv 2) pa_nil))) pa_nil))) (pa_cons (pe_lst (pa_cons (pv 8) (pa_cons (pv 9) pa_nil))) pa_nil))))) (pss_one (ps_ret pe_bl)) pss_nil)
      (pss_cons (ps_set (i := 13) sc_law.nd rfl (.inl rfl) (pe_m0 c_copy WC.c hr (by decide) (pv 5)))
      (pss_cons (ps_set (i := 14) sc_law.nd rfl (.inl rfl) (pe_cx (E := E0) cx__law_added hr (by decide) (by rfl) passL (pa_cons (pv 13) (pa_cons (pv 6) pa_nil))))
      (pss_cons (ps_if (pt_not (pt_val (pe_c c__law_same hr (by decide) (by rfl) (pa_cons (pe_lst (pa_cons (pe_c c__law_numbers hr (by decide) (by rfl) (pa_cons (pe_ix ix_list (pv 14) pe_int (fun _ _ => rfl)) (pa_cons (pv 2) pa_nil))) (pa_cons (pe_c c__law_numbers hr (by decide) (by rfl) (pa_cons (pe_ix ix_list (pv 14) pe_int (fun _ _ => rfl)) (pa_cons (pv 2) pa_nil))) (pa_cons (pe_c c__law_numbers hr (by decide) (by rfl) (pa_cons (pv 5) (pa_cons (pv 2) pa_nil))) pa_nil)))) (pa_cons (pe_lst (pa_cons (pe_ix ix_list (pv 11) pe_int (fun _ _ => rfl)) (pa_cons (pe_ix ix_list (pv 11) pe_int (fun _ _ => rfl)) (pa_cons (pv 8) pa_nil)))) pa_nil))))) (pss_one (ps_ret pe_bl)) pss_nil)
      (pss_cons (ps_if (pt_not (pt_val (pe_c c__law_same hr (by decide) (by rfl) (pa_cons (pe_lst (pa_cons (pe_cx (E := E0) cx__law_put_at hr (by decide) (by rfl) passL (pa_cons (pv 13) (pa_cons (pe_ix ix_str (pv 2) (pe_un un_neg pe_int) (fun _ _ => rfl)) (pa_cons (pv 7) pa_nil)))) (pa_cons (pe_ixO (E := E0) iG iGi iGf FG (hr.mono (by decide)) passL (pv 13) (pe_ix ix_str (pv 2) (pe_un un_neg pe_int) (fun _ _ => rfl))) (pa_cons (pe_c c__law_numbers hr (by decide) (by rfl) (pa_cons (pv 5) (pa_cons (pv 2) pa_nil))) pa_nil)))) (pa_cons (pe_lst (pa_cons (pv 7) (pa_cons (pv 7) (pa_cons (pv 8) pa_nil)))) pa_nil))))) (pss_one (ps_ret pe_bl)) pss_nil)
      (pss_cons (ps_set (i := 15) sc_law.nd rfl (.inl rfl) (pe_ix ix_list (pe_lc (own := [("_law_letter", 20)]) (g := (gName 20)) (by rfl) sc_law.nd (pi_str pe_str) (blkOk_by (N := ["_law_script", "_law_bag", "_law_faces", "_law_first", "_law_second", "_law_one", "_law_other", "_law_many", "_law_left", "_law_right", "_law_found", "_law_due", "_law_weights", "_law_twin", "_law_pair", "_law_gone", "_law_more", "_law_asks", "_law_a", "_law_b", "_law_letter"]) (sc := defScope s_law) (by decide +kernel)) (fun _ _ _ _ _ => (pg_name (i := 20) sc_law.nd rfl (.inl rfl))) (fun _ _ _ _ _ => (pts_one (pt_cmpR op_notIn_sign (pv 20) (pv 2) rfl))) (fun _ _ _ _ _ => (pv 20))) pe_int (fun _ _ => rfl)))
      (pss_cons (ps_set (i := 16) sc_law.nd rfl (.inr rfl) (StX.pe_makeR (E := E0) MW ((FIW []).plain) (hr.mono (by decide)) (by rfl) gW passL (pa_cons (pe_join pe_str (pe_callB cr_sortedSA (by rfl) T.z_sorted (by decide +kernel) (pa_cons (pe_callTy (call_listS rfl) (by rfl) T.z_list (by decide +kernel) (pa_cons (pe_op op_add_str (pv 2) (pv 15)) pa_nil)) pa_nil))) pa_nil)))
      (pss_cons (ps_set (i := 17) sc_law.nd rfl (.inl rfl) (pe_lst (pa_cons (pe_lam0 (T := [(Pt, (envOfC "law" (defScope s_law) 0 f (.ref c)).qual ++ "<lambda>")]) TB rfl (List.mem_singleton.mpr rfl) (fun p hp _ => congrArg Prod.snd (List.mem_singleton.mp hp)) (by rfl) (show lamFree (defScope s_law) _ = true by decide +kernel)) (pa_cons (pe_lam1 (T := [(Pt, (envOfC "law" (defScope s_law) 0 f (.ref c)).qual ++ "<lambda>")]) TB rfl (List.mem_singleton.mpr rfl) (fun p hp _ => congrArg Prod.snd (List.mem_singleton.mp hp)) rfl rfl (show lamFree (defScope s_law) _ = true by decide +kernel)) (pa_cons (pe_lam1 (T := [(Pt, (envOfC "law" (defScope s_law) 0 f (.ref c)).qual ++ "<lambda>")]) TB rfl (List.mem_singleton.mpr rfl) (fun p hp _ => congrArg Prod.snd (List.mem_singleton.mp hp)) rfl rfl (show lamFree (defScope s_law) _ = true by decide +kernel)) (pa_cons (pe_lam1 (T := [(Pt, (envOfC "law" (defScope s_law) 0 f (.ref c)).qual ++ "<lambda>")]) TB rfl (List.mem_singleton.mpr rfl) (fun p hp _ => congrArg Prod.snd (List.mem_singleton.mp hp)) rfl rfl (show lamFree (defScope s_law) _ = true by decide +kernel)) pa_nil))))))
      (pss_one (ps_ret (pe_and (pe_c c__law_same hr (by decide) (by rfl) (pa_cons (pe_tries (cs := [.ref C1, .ref C2, .ref C3]) (k := 10) (kk := 14)
        [ask0 (X := XL P w K mg base f c A outer s H E) (k := 9) (lm ((defBody s_law).getD 16 (.Pass ⟨0, 0, 0, 0⟩)) 0).1 (lm ((defBody s_law).getD 16 (.Pass ⟨0, 0, 0, 0⟩)) 0).2.1 (lm ((defBody s_law).getD 16 (.Pass ⟨0, 0, 0, 0⟩)) 0).2.2 ["_law_one", "_law_more"] ["_law_one", "_law_more"] [5, 16] (by decide +kernel) (show NdefX.ndefB (defScope s_law) (lm ((defBody s_law).getD 16 (.Pass ⟨0, 0, 0, 0⟩)) 0).2.2 _ = true by decide +kernel) rfl (fun _ _ _ _ _ _ => by rfl)
            (fun c' dV A outer s H E f hr => (pe_op (op_binX (E := E) ox_add sfW hr (by decide) (passes_call (takes_of rfl rfl rfl rfl) (fun _ _ _ _ h => h))) (pv 0) (pv 1))),
          ask1 (X := XL P w K mg base f c A outer s H E) (k := 9) (lm ((defBody s_law).getD 16 (.Pass ⟨0, 0, 0, 0⟩)) 1).1 (lm ((defBody s_law).getD 16 (.Pass ⟨0, 0, 0, 0⟩)) 1).2.1 (lm ((defBody s_law).getD 16 (.Pass ⟨0, 0, 0, 0⟩)) 1).2.2 "_law_a" 0 ["_law_a", "_law_one", "_law_more"] ["_law_one", "_law_more"] [5, 16] (by decide +kernel) (show NdefX.ndefB (defScope s_law) (lm ((defBody s_law).getD 16 (.Pass ⟨0, 0, 0, 0⟩)) 1).2.2 _ = true by decide +kernel) rfl (fun _ _ _ _ _ _ _ => ⟨_, rfl, fun _ => rfl⟩)
            (fun c' dV A outer s H E f hr => (pe_cx (E := E) cx__law_taken hr (by decide) (by rfl) (passes_call (takes_of rfl rfl rfl rfl) (fun _ _ _ _ h => h)) (pa_cons (pv 1) (pa_cons (pv 2) pa_nil)))),
          ask1 (X := XL P w K mg base f c A outer s H E) (k := 9) (lm ((defBody s_law).getD 16 (.Pass ⟨0, 0, 0, 0⟩)) 2).1 (lm ((defBody s_law).getD 16 (.Pass ⟨0, 0, 0, 0⟩)) 2).2.1 (lm ((defBody s_law).getD 16 (.Pass ⟨0, 0, 0, 0⟩)) 2).2.2 "_law_b" 0 ["_law_b", "_law_one", "_law_more"] ["_law_one", "_law_more"] [5, 16] (by decide +kernel) (show NdefX.ndefB (defScope s_law) (lm ((defBody s_law).getD 16 (.Pass ⟨0, 0, 0, 0⟩)) 2).2.2 _ = true by decide +kernel) rfl (fun _ _ _ _ _ _ _ => ⟨_, rfl, fun _ => rfl⟩)
            (fun c' dV A outer s H E f hr => (pe_cx (E := E) cx__law_added hr (by decide) (by rfl) (passes_call (takes_of rfl rfl rfl rfl) (fun _ _ _ _ h => h)) (pa_cons (pv 1) (pa_cons (pv 2) pa_nil)))),
          ask1 (X := XL P w K mg base f c A outer s H E) (k := 9) (lm ((defBody s_law).getD 16 (.Pass ⟨0, 0, 0, 0⟩)) 3).1 (lm ((defBody s_law).getD 16 (.Pass ⟨0, 0, 0, 0⟩)) 3).2.1 (lm ((defBody s_law).getD 16 (.Pass ⟨0, 0, 0, 0⟩)) 3).2.2 "_law_c" 0 ["_law_c", "_law_more", "_law_one"] ["_law_more", "_law_one"] [16, 5] (by decide +kernel) (show NdefX.ndefB (defScope s_law) (lm ((defBody s_law).getD 16 (.Pass ⟨0, 0, 0, 0⟩)) 3).2.2 _ = true by decide +kernel) rfl (fun _ _ _ _ _ _ _ => ⟨_, rfl, fun _ => rfl⟩)
            (fun c' dV A outer s H E f hr => (pe_op (op_binX (E := E) ox_add sfW hr (by decide) (passes_call (takes_of rfl rfl rfl rfl) (fun _ _ _ _ h => h))) (pv 1) (pv 2)))]
        (show 4 < sizeLine by decide) (fun _ => rfl) rfl rfl FT (hr.mono (by decide)) (by rfl) mT kT bT (pa_cons (pv 17) pa_nil)) (pa_cons (pe_op op_rep (pe_lst (pa_cons (pe_tup (pa_cons pe_str (pa_cons pe_non pa_nil))) pa_nil)) pe_int) pa_nil))) (pe_one (pe_c c__law_same hr (by decide) (by rfl) (pa_cons (pe_c c__law_numbers hr (by decide) (by rfl) (pa_cons (pv 5) (pa_cons (pv 2) pa_nil))) (pa_cons (pv 8) pa_nil)))))))))))))))))))))))), ?_⟩
  refine ⟨_, rfl, a, ns, rfl, hS, hlen, fun H1 b l nb nl s1 B1 => ?_⟩
  have hPb : Pt ≠ b := ne_of_none hP nb
  have hP1 := s1 _ _ hP
  refine ⟨_, rfl, b, l, 4, rfl, B1, by decide, by decide, fun H2 F hsub hF0 hF b2 B2 => ?_⟩
  have hP2 := b2 _ _ hPb hP1
  have TB2 : LamX.Tabs (tabL Pt f c) H2 := fun p' hp' => by rw [List.mem_singleton.mp hp']; exact LamX.TabS.nil hP2
  have hb1 : bFaces (.str (S F)) = true := choice_sub lower_asc hsub hF0 (by omega)
  have nF : F.Nodup := hsub.nodup lower_nd
  have lF : F.length ≤ 900 := by omega
  clear hP hP1 hP2 hPb s1 b2 B1
  refine ⟨_, rfl, _, rfl, _, _, rfl, rfl, (by unfold CPow; decide), b, l, F, _, rfl, B2, hb1, nF, by omega, by decide, by decide, fun H3 p1 x1 nd1 pn1 e1 v1 b3 B3 np nx nnd npn hp hpn hW he1 hv1 => ?_⟩
  have HV1 : Heavy CW b H3 p1 x1 nd1 pn1 F e1 v1 := ⟨hp, hpn, hW, B2.ne np, B2.ne npn, B2.ne nx, B2.ne nnd⟩
  have TB3 := tabs_drawn TB2 B2 b3
  clear TB2 B2 b3 np nx nnd npn hp hpn hW
  refine ⟨_, rfl, _, rfl, b, l, F, _, rfl, B3, hb1, nF, by omega, by decide, by decide, fun H4 p2 x2 nd2 pn2 e2 v2 b4 B4 np nx nnd npn hp hpn hW he2 hv2 => ⟨_, _, rfl, ?_⟩⟩
  have HV2 : Heavy CW b H4 p2 x2 nd2 pn2 F e2 v2 := ⟨hp, hpn, hW, B3.ne np, B3.ne npn, B3.ne nx, B3.ne nnd⟩
  replace HV1 := HV1.drawn b4
  have TB4 := tabs_drawn TB3 B3 b4
  clear TB3 B3 b4 np nx nnd npn hp hpn hW
  refine ⟨_, rfl, p1, _, 0, _, rfl, rfl, SqL.of HV1.hp, rfl, _, rfl, p2, _, 0, _, rfl, rfl, SqL.of HV2.hp, rfl, _, rfl, b, l, 21, rfl, B4, by decide, by decide, fun H5 z z0 z21 b5 B5 => ⟨_, _, rfl, rfl, (show 3 ≤ sizeLine by decide), fun pt npt => ⟨pt, _, rfl, SqT.of upd_same, rfl, _, _, rfl, _, _, rfl, _, _, rfl, rfl, ?_⟩⟩⟩
  replace HV1 := HV1.drawn b5
  replace HV2 := HV2.drawn b5
  have TB5 := tabs_drawn TB4 B4 b5
  have st := same_upd (o := HO.tup [V.ref x1, V.ref x2, V.int (z - 10)]) npt
  replace HV1 := HV1.same st
  replace HV2 := HV2.same st
  have TB6 := TB5.ext st
  generalize upd H5 pt (HO.tup [V.ref x1, V.ref x2, V.int (z - 10)]) = H6 at HV1 HV2 TB6 ⊢
  clear TB4 TB5 B4 B5 b5 st npt
  have hm : -10 ≤ z - 10 ∧ z - 10 ≤ 10 := by omega
  clear z0 z21
  -- left and right
  refine ⟨_, rfl, p1, _, 1, _, rfl, rfl, SqL.of HV1.hp, rfl, (show 1 ≤ sizeLine by decide), fun q1 nq1 => ?_⟩
  have s1 := same_upd (o := HO.lst [V.int e1]) nq1
  have lpn : ∀ (e : Int) (v : Nat → Int), [V.int e].length + ((F.map v).map V.int).length ≤ sizeLine := fun e v => Nat.le_trans (show 1 + ((F.map v).map V.int).length ≤ 901 by rw [List.length_map, List.length_map]; omega) (by decide)
  refine ⟨_, rfl, p1, _, 2, _, rfl, rfl, SqL.of (s1 _ _ HV1.hp), rfl, q1, pn1, _, _, rfl, rfl, upd_same, s1 _ _ HV1.hpn, lpn e1 v1, fun l1 nl1 => ?_⟩
  have s2 := s1.trans (same_upd (o := HO.lst ([V.int e1] ++ (F.map v1).map V.int)) nl1)
  have hl1 : (upd (upd H6 q1 (HO.lst [V.int e1])) l1 (HO.lst ([V.int e1] ++ (F.map v1).map V.int))) l1 = some (.lst ((e1 :: F.map v1).map V.int)) := upd_same
  replace HV1 := HV1.same s2
  replace HV2 := HV2.same s2
  replace TB6 := TB6.ext s2
  generalize upd (upd H6 q1 (HO.lst [V.int e1])) l1 (HO.lst ([V.int e1] ++ (F.map v1).map V.int)) = H7 at HV1 HV2 TB6 hl1 ⊢
  clear s1 s2 nq1 nl1
  refine ⟨_, rfl, p2, _, 1, _, rfl, rfl, SqL.of HV2.hp, rfl, (show 1 ≤ sizeLine by decide), fun q1 nq1 => ?_⟩
  have s1 := same_upd (o := HO.lst [V.int e2]) nq1
  refine ⟨_, rfl, p2, _, 2, _, rfl, rfl, SqL.of (s1 _ _ HV2.hp), rfl, q1, pn2, _, _, rfl, rfl, upd_same, s1 _ _ HV2.hpn, lpn e2 v2, fun l2 nl2 => ⟨_, _, rfl, ?_⟩⟩
  have s2 := s1.trans (same_upd (o := HO.lst ([V.int e2] ++ (F.map v2).map V.int)) nl2)
  have hl2 : (upd (upd H7 q1 (HO.lst [V.int e2])) l2 (HO.lst ([V.int e2] ++ (F.map v2).map V.int))) l2 = some (.lst ((e2 :: F.map v2).map V.int)) := upd_same
  replace HV1 := HV1.same s2
  replace HV2 := HV2.same s2
  replace TB6 := TB6.ext s2
  replace hl1 := s2 _ _ hl1
  generalize upd (upd H7 q1 (HO.lst [V.int e2])) l2 (HO.lst ([V.int e2] ++ (F.map v2).map V.int)) = H8 at HV1 HV2 TB6 hl1 hl2 ⊢
  clear s1 s2 nq1 nl2 lpn
  have W0 : Two CW H8 x1 nd1 x2 nd2 F e1 v1 e2 v2 l1 l2 := ⟨HV1.hW, HV2.hW, hl1, hl2⟩
  clear HV1 HV2 hl1 hl2
  -- five new weights
  obtain ⟨dx1, hx1⟩ := W0.w1.at_
  obtain ⟨dx2, hx2⟩ := W0.w2.at_
  have hm' : -(2 ^ 64) < z - 10 ∧ z - 10 < 2 ^ 64 := by omega
  refine ⟨_, rfl, _, rfl, x1, dx1, _, rfl, hx1, .ins hx2, x1, nd1, x2, nd2, F, F, e1, e2, v1, v2, rfl, W0.w1, W0.w2, .inl ⟨rfl, hb1, lF, fun H9 z1 n1 s9 _ fn1 hZ1 => ?_⟩⟩
  replace hx1 := s9 _ _ hx1
  replace hx2 := s9 _ _ hx2
  refine ⟨_, rfl, _, rfl, x1, dx1, _, rfl, hx1, .ins hx2, x1, nd1, x2, nd2, F, F, e1, e2, v1, v2, rfl, W0.w1.same s9, W0.w2.same s9, .inl ⟨rfl, hb1, lF, fun H10 z2 n2 s10 _ fn2 hZ2 => ?_⟩⟩
  replace hx1 := s10 _ _ hx1
  have u10 := s9.trans s10
  refine ⟨_, rfl, _, rfl, x1, dx1, _, _, rfl, rfl, hx1, x1, nd1, F, e1, v1, _, rfl, W0.w1.same u10, hb1, lF, hm', fun H11 z3 n3 s11 _ fn3 hZ3 => ?_⟩
  replace hx1 := s11 _ _ hx1
  have u11 := u10.trans s11
  refine ⟨_, rfl, _, rfl, x1, dx1, _, _, rfl, rfl, hx1, x1, nd1, F, e1, v1, _, rfl, W0.w1.same u11, hb1, lF, hm', fun H12 z4 n4 s12 _ fn4 hZ4 => ?_⟩
  replace hx1 := s12 _ _ hx1
  have u12 := u11.trans s12
  refine ⟨_, rfl, x1, dx1, _, rfl, hx1, x1, nd1, F, e1, v1, rfl, W0.w1.same u12, hb1, lF, fun H13 z5 n5 s13 _ fn5 hZ5 => ⟨(show 5 ≤ sizeLine by decide), fun lf nlf => ?_⟩⟩
  have s14 := same_upd (o := HO.lst [V.ref z1, V.ref z2, V.ref z3, V.ref z4, V.ref z5]) nlf
  have u13 := u12.trans s13
  have u14 := u13.trans s14
  replace fn2 := none_same s9 fn2
  replace fn3 := none_same u10 fn3
  replace fn4 := none_same u11 fn4
  replace fn5 := none_same u12 fn5
  have hQ : AllQ CW (upd H13 lf (HO.lst [V.ref z1, V.ref z2, V.ref z3, V.ref z4, V.ref z5])) F [(z1, n1, e1 + 1 * e2, fun c => v1 c + 1 * v2 c), (z2, n2, e1 + -1 * e2, fun c => v1 c + -1 * v2 c), (z3, n3, (z - 10) * e1, fun c => (z - 10) * v1 c), (z4, n4, (z - 10) * e1, fun c => (z - 10) * v1 c), (z5, n5, -1 * e1, fun c => -1 * v1 c)] := fun q hq => by
    simp only [List.mem_cons, List.not_mem_nil, or_false] at hq
    rcases hq with rfl | rfl | rfl | rfl | rfl
    · exact ((((hZ1.same s10).same s11).same s12).same s13).same s14
    · exact (((hZ2.same s11).same s12).same s13).same s14
    · exact ((hZ3.same s12).same s13).same s14
    · exact (hZ4.same s13).same s14
    · exact hZ5.same s14
  have hlf : (upd H13 lf (HO.lst [V.ref z1, V.ref z2, V.ref z3, V.ref z4, V.ref z5])) lf = some (.lst [V.ref z1, V.ref z2, V.ref z3, V.ref z4, V.ref z5]) := upd_same
  have W1 := W0.same u14
  replace TB6 := TB6.ext u14
  generalize upd H13 lf (HO.lst [V.ref z1, V.ref z2, V.ref z3, V.ref z4, V.ref z5]) = H14 at hQ hlf W1 TB6 ⊢
  clear s9 s10 s11 s12 s13 s14 u10 u11 u12 u13 u14 nlf hZ1 hZ2 hZ3 hZ4 hZ5 hx1 hx2
  -- what is due
  rw [show L2.start (["_law_script", "_law_bag", "_law_faces", "_law_first", "_law_second", "_law_one", "_law_other", "_law_many", "_law_left", "_law_right", "_law_found", "_law_due", "_law_weights", "_law_twin", "_law_pair", "_law_gone", "_law_more", "_law_asks", "_law_a", "_law_b", "_law_letter"] : List Str) [V.ref a] = [some (V.ref a), none, none, none, none, none, none, none, none, none, none, none, none, none, none, none, none, none, none, none, none] from rfl]
  simp only [List.set_cons_succ, List.set_cons_zero]
  obtain ⟨A, hA⟩ : ∃ A, A = e1 :: F.map v1 := ⟨_, rfl⟩
  obtain ⟨B, hB⟩ : ∃ B, B = e2 :: F.map v2 := ⟨_, rfl⟩
  have lA : A.length = F.length + 1 := by rw [hA, List.length_cons, List.length_map]
  have lB : B.length = F.length + 1 := by rw [hB, List.length_cons, List.length_map]
  have W1h1 := W1.h1
  have W1h2 := W1.h2
  rw [← hA] at W1h1
  rw [← hB] at W1h2
  refine ⟨_, rfl, _, rfl, _, _, _, _, rfl, .l (SqL.of W1h1), .l (SqL.of W1h2), fun k1 k2 e1' e2' g1 g2 D1 nD1 => ?_⟩
  have hk1 : ∀ H', H' l1 = some (.lst (A.map V.int)) → k1.src K H' (A.map V.int) := fun H' h => by
    cases k1 with
    | l a => cases e1'; exact SqL.of h
    | t a =>
      cases e1'
      rcases (show SqT K H14 l1 (A.map V.int) from g1) with (h' | ⟨o, h'⟩) | h'
      · rw [W1h1] at h'; cases h'
      · rw [W1h1] at h'; cases h'
      · exact .inr h'
    | s x t => cases e1'
  have hk2 : ∀ H', H' l2 = some (.lst (B.map V.int)) → k2.src K H' (B.map V.int) := fun H' h => by
    cases k2 with
    | l a => cases e2'; exact SqL.of h
    | t a =>
      cases e2'
      rcases (show SqT K H14 l2 (B.map V.int) from g2) with (h' | ⟨o, h'⟩) | h'
      · rw [W1h2] at h'; cases h'
      · rw [W1h2] at h'; cases h'
      · exact .inr h'
    | s x t => cases e2'
  refine lc_it (walk_zipG (xs := A.map V.int) (ys := B.map V.int) (n := F.length + 1) (by rw [List.length_map, List.length_map, lA, lB, Nat.min_self])) (fun j H' => Same H14 H' ∧ H' D1 = some (.lst (((List.zipWith (fun a b => a + b) A B).take j).map V.int))) ⟨same_upd nD1, upd_same⟩ (fun j H' _ pv => ⟨hk1 H' (pv.1 _ _ W1h1), hk2 H' (pv.1 _ _ W1h2)⟩) ?_ ?_
  · rintro j _ H' _ hj ⟨sj, hDj⟩ ⟨T', x', y', rfl, nT, rfl, hx1, hy1⟩
    have hja : j < A.length := by omega
    have hjb : j < B.length := by omega
    have ex : x' = V.int A[j] := by
      have : (A.map V.int)[j]? = some x' := hx1
      rw [List.getElem?_map, List.getElem?_eq_getElem hja] at this
      exact (Option.some.inj this).symm
    have ey : y' = V.int B[j] := by
      have : (B.map V.int)[j]? = some y' := hy1
      rw [List.getElem?_map, List.getElem?_eq_getElem hjb] at this
      exact (Option.some.inj this).symm
    subst ex ey
    refine ⟨T', _, rfl, SqT.of upd_same, rfl, _, _, rfl, _, [], rfl, rfl, rfl, ?_⟩
    have hDT : (upd H' T' (HO.tup [V.int A[j], V.int B[j]])) D1 = some (.lst (((List.zipWith (fun a b => a + b) A B).take j).map V.int)) := (same_upd nT) _ _ hDj
    refine ⟨_, rfl, _, rfl, _, _, rfl, rfl, _, hDT, ?_, fun a' o' e' => ?_, ?_⟩
    · rw [List.length_map, List.length_take]
      exact sz1 (by omega)
    · rw [upd_ne (fun z => by rw [z, nD1] at e'; cases e')]
      exact (same_upd nT) _ _ (sj _ _ e')
    · rw [upd_same, List.take_add_one, show (List.zipWith (fun a b => a + b) A B)[j]? = some (A[j] + B[j]) from by rw [List.getElem?_zipWith, List.getElem?_eq_getElem hja, List.getElem?_eq_getElem hjb], List.map_append]
      rfl
  rintro H15 ⟨tD1, hD1⟩
  rw [show (List.zipWith (fun a b => a + b) A B).take (F.length + 1) = List.zipWith (fun a b => a + b) A B from List.take_of_length_le (by rw [List.length_zipWith, lA, lB]; omega)] at hD1
  replace W1 := W1.same tD1
  replace W1h1 := tD1 _ _ W1h1
  replace W1h2 := tD1 _ _ W1h2
  replace hQ := hQ.same tD1
  replace TB6 := TB6.ext tD1
  replace hlf := tD1 _ _ hlf
  clear hk1 hk2 g1 g2 e1' e2' k1 k2
  refine ⟨_, rfl, _, rfl, _, _, _, _, rfl, .l (SqL.of W1h1), .l (SqL.of W1h2), fun k1 k2 e1' e2' g1 g2 D2 nD2 => ?_⟩
  have hk1 : ∀ H', H' l1 = some (.lst (A.map V.int)) → k1.src K H' (A.map V.int) := fun H' h => by
    cases k1 with
    | l a => cases e1'; exact SqL.of h
    | t a =>
      cases e1'
      rcases (show SqT K H15 l1 (A.map V.int) from g1) with (h' | ⟨o, h'⟩) | h'
      · rw [W1h1] at h'; cases h'
      · rw [W1h1] at h'; cases h'
      · exact .inr h'
    | s x t => cases e1'
  have hk2 : ∀ H', H' l2 = some (.lst (B.map V.int)) → k2.src K H' (B.map V.int) := fun H' h => by
    cases k2 with
    | l a => cases e2'; exact SqL.of h
    | t a =>
      cases e2'
      rcases (show SqT K H15 l2 (B.map V.int) from g2) with (h' | ⟨o, h'⟩) | h'
      · rw [W1h2] at h'; cases h'
      · rw [W1h2] at h'; cases h'
      · exact .inr h'
    | s x t => cases e2'
  refine lc_it (walk_zipG (xs := A.map V.int) (ys := B.map V.int) (n := F.length + 1) (by rw [List.length_map, List.length_map, lA, lB, Nat.min_self])) (fun j H' => Same H15 H' ∧ H' D2 = some (.lst (((List.zipWith (fun a b => a - b) A B).take j).map V.int))) ⟨same_upd nD2, upd_same⟩ (fun j H' _ pv => ⟨hk1 H' (pv.1 _ _ W1h1), hk2 H' (pv.1 _ _ W1h2)⟩) ?_ ?_
  · rintro j _ H' _ hj ⟨sj, hDj⟩ ⟨T', x', y', rfl, nT, rfl, hx1, hy1⟩
    have hja : j < A.length := by omega
    have hjb : j < B.length := by omega
    have ex : x' = V.int A[j] := by
      have : (A.map V.int)[j]? = some x' := hx1
      rw [List.getElem?_map, List.getElem?_eq_getElem hja] at this
      exact (Option.some.inj this).symm
    have ey : y' = V.int B[j] := by
      have : (B.map V.int)[j]? = some y' := hy1
      rw [List.getElem?_map, List.getElem?_eq_getElem hjb] at this
      exact (Option.some.inj this).symm
    subst ex ey
    refine ⟨T', _, rfl, SqT.of upd_same, rfl, _, _, rfl, _, [], rfl, rfl, rfl, ?_⟩
    have hDT : (upd H' T' (HO.tup [V.int A[j], V.int B[j]])) D2 = some (.lst (((List.zipWith (fun a b => a - b) A B).take j).map V.int)) := (same_upd nT) _ _ hDj
    refine ⟨_, rfl, _, rfl, _, _, rfl, rfl, _, hDT, ?_, fun a' o' e' => ?_, ?_⟩
    · rw [List.length_map, List.length_take]
      exact sz1 (by omega)
    · rw [upd_ne (fun z => by rw [z, nD2] at e'; cases e')]
      exact (same_upd nT) _ _ (sj _ _ e')
    · rw [upd_same, List.take_add_one, show (List.zipWith (fun a b => a - b) A B)[j]? = some (A[j] - B[j]) from by rw [List.getElem?_zipWith, List.getElem?_eq_getElem hja, List.getElem?_eq_getElem hjb], List.map_append]
      rfl
  rintro H16 ⟨tD2, hD2⟩
  rw [show (List.zipWith (fun a b => a - b) A B).take (F.length + 1) = List.zipWith (fun a b => a - b) A B from List.take_of_length_le (by rw [List.length_zipWith, lA, lB]; omega)] at hD2
  replace W1 := W1.same tD2
  replace W1h1 := tD2 _ _ W1h1
  replace W1h2 := tD2 _ _ W1h2
  replace hQ := hQ.same tD2
  replace TB6 := TB6.ext tD2
  replace hlf := tD2 _ _ hlf
  replace hD1 := tD2 _ _ hD1
  clear hk1 hk2 g1 g2 e1' e2' k1 k2
  refine ⟨_, rfl, l1, rfl, ⟨_, SqL.of W1h1⟩, fun D3 nD3 => ?_⟩
  refine lc_listP (fun _ => true) (onI (fun n => n * (z - 10))) (SqL.of W1h1) nD3 (Nat.lt_of_le_of_lt (show (A.map V.int).length ≤ 901 by rw [List.length_map, lA]; omega) (by decide)) (fun _ => rfl) (fun z hz H' s' R h => h) (fun z hz _ H' s' R h => ?_) ?_
  · obtain ⟨n, _, rfl⟩ := List.mem_map.mp hz
    exact ⟨_, rfl, _, rfl, _, _, rfl, rfl, .inr hm', h⟩
  have tD3 := same_upd (o := HO.lst (((A.map V.int).filter fun _ => true).map (onI (fun n => n * (z - 10))))) nD3
  have hD3 : (upd H16 D3 (HO.lst (((A.map V.int).filter fun _ => true).map (onI (fun n => n * (z - 10)))))) D3 = some (.lst ((A.map (fun n => n * (z - 10))).map V.int)) := by rw [upd_same, onI_map]
  replace W1 := W1.same tD3
  replace W1h1 := tD3 _ _ W1h1
  replace hQ := hQ.same tD3
  replace TB6 := TB6.ext tD3
  replace hlf := tD3 _ _ hlf
  replace hD1 := tD3 _ _ hD1
  replace hD2 := tD3 _ _ hD2
  generalize upd H16 D3 (HO.lst (((A.map V.int).filter fun _ => true).map (onI (fun n => n * (z - 10))))) = H17 at W1 W1h1 hQ TB6 hlf hD1 hD2 hD3 ⊢
  clear tD3 nD3
  refine ⟨_, rfl, l1, rfl, ⟨_, SqL.of W1h1⟩, fun D4 nD4 => ?_⟩
  refine lc_listP (fun _ => true) (onI (fun n => (z - 10) * n)) (SqL.of W1h1) nD4 (Nat.lt_of_le_of_lt (show (A.map V.int).length ≤ 901 by rw [List.length_map, lA]; omega) (by decide)) (fun _ => rfl) (fun z hz H' s' R h => h) (fun z hz _ H' s' R h => ?_) ?_
  · obtain ⟨n, _, rfl⟩ := List.mem_map.mp hz
    exact ⟨_, rfl, _, rfl, _, _, rfl, rfl, .inl hm', h⟩
  have tD4 := same_upd (o := HO.lst (((A.map V.int).filter fun _ => true).map (onI (fun n => (z - 10) * n)))) nD4
  have hD4 : (upd H17 D4 (HO.lst (((A.map V.int).filter fun _ => true).map (onI (fun n => (z - 10) * n))))) D4 = some (.lst ((A.map (fun n => (z - 10) * n)).map V.int)) := by rw [upd_same, onI_map]
  replace W1 := W1.same tD4
  replace W1h1 := tD4 _ _ W1h1
  replace hQ := hQ.same tD4
  replace TB6 := TB6.ext tD4
  replace hlf := tD4 _ _ hlf
  replace hD1 := tD4 _ _ hD1
  replace hD2 := tD4 _ _ hD2
  replace hD3 := tD4 _ _ hD3
  generalize upd H17 D4 (HO.lst (((A.map V.int).filter fun _ => true).map (onI (fun n => (z - 10) * n)))) = H18 at W1 W1h1 hQ TB6 hlf hD1 hD2 hD3 hD4 ⊢
  clear tD4 nD4
  refine ⟨_, rfl, l1, rfl, ⟨_, SqL.of W1h1⟩, fun D5 nD5 => ?_⟩
  refine lc_listP (fun _ => true) (onI (fun n => 0 - n)) (SqL.of W1h1) nD5 (Nat.lt_of_le_of_lt (show (A.map V.int).length ≤ 901 by rw [List.length_map, lA]; omega) (by decide)) (fun _ => rfl) (fun z hz H' s' R h => h) (fun z hz _ H' s' R h => ?_) ?_
  · obtain ⟨n, _, rfl⟩ := List.mem_map.mp hz
    exact ⟨_, rfl, _, _, rfl, rfl, h⟩
  have tD5 := same_upd (o := HO.lst (((A.map V.int).filter fun _ => true).map (onI (fun n => 0 - n)))) nD5
  have hD5 : (upd H18 D5 (HO.lst (((A.map V.int).filter fun _ => true).map (onI (fun n => 0 - n))))) D5 = some (.lst ((A.map (fun n => 0 - n)).map V.int)) := by rw [upd_same, onI_map]
  replace W1 := W1.same tD5
  replace W1h1 := tD5 _ _ W1h1
  replace hQ := hQ.same tD5
  replace TB6 := TB6.ext tD5
  replace hlf := tD5 _ _ hlf
  replace hD1 := tD5 _ _ hD1
  replace hD2 := tD5 _ _ hD2
  replace hD3 := tD5 _ _ hD3
  replace hD4 := tD5 _ _ hD4
  generalize upd H18 D5 (HO.lst (((A.map V.int).filter fun _ => true).map (onI (fun n => 0 - n)))) = H19 at W1 W1h1 hQ TB6 hlf hD1 hD2 hD3 hD4 hD5 ⊢
  clear tD5 nD5
  refine ⟨(show 5 ≤ sizeLine by decide), fun ld nld => ?_⟩
  have td := same_upd (o := HO.lst [V.ref D1, V.ref D2, V.ref D3, V.ref D4, V.ref D5]) nld
  have hld : (upd H19 ld (HO.lst [V.ref D1, V.ref D2, V.ref D3, V.ref D4, V.ref D5])) ld = some (.lst [V.ref D1, V.ref D2, V.ref D3, V.ref D4, V.ref D5]) := upd_same
  replace W1 := W1.same td
  replace hQ := hQ.same td
  replace TB6 := TB6.ext td
  replace hlf := td _ _ hlf
  replace hD1 := td _ _ hD1
  replace hD2 := td _ _ hD2
  replace hD3 := td _ _ hD3
  replace hD4 := td _ _ hD4
  replace hD5 := td _ _ hD5
  generalize upd H19 ld (HO.lst [V.ref D1, V.ref D2, V.ref D3, V.ref D4, V.ref D5]) = H20 at W1 hQ TB6 hlf hD1 hD2 hD3 hD4 hD5 hld ⊢
  clear td nld W1h1 W1h2
  have r1 : List.zipWith (fun a b => a + b) A B = (e1 + 1 * e2) :: F.map fun c => v1 c + 1 * v2 c := by
    rw [hA, hB, List.zipWith_cons_cons, zw_map, Int.one_mul]
    exact congrArg _ (List.map_congr_left fun c _ => by rw [Int.one_mul])
  have r2 : List.zipWith (fun a b => a - b) A B = (e1 + -1 * e2) :: F.map fun c => v1 c + -1 * v2 c := by
    rw [hA, hB, List.zipWith_cons_cons, zw_map]
    rw [show e1 - e2 = e1 + -1 * e2 from by omega]
    exact congrArg _ (List.map_congr_left fun c _ => by omega)
  have r3 : A.map (fun n => n * (z - 10)) = ((z - 10) * e1) :: F.map fun c => (z - 10) * v1 c := by
    rw [hA, List.map_cons, List.map_map, Int.mul_comm]
    exact congrArg _ (List.map_congr_left fun c _ => Int.mul_comm _ _)
  have r4 : A.map (fun n => (z - 10) * n) = ((z - 10) * e1) :: F.map fun c => (z - 10) * v1 c := by
    rw [hA, List.map_cons, List.map_map]
    rfl
  have r5 : A.map (fun n => 0 - n) = (-1 * e1) :: F.map fun c => -1 * v1 c := by
    rw [hA, List.map_cons, List.map_map, show 0 - e1 = -1 * e1 from by omega]
    exact congrArg _ (List.map_congr_left fun c _ => show 0 - v1 c = -1 * v1 c from by omega)
  rw [r1] at hD1
  rw [r2] at hD2
  rw [r3] at hD3
  rw [r4] at hD4
  rw [r5] at hD5
  clear r1 r2 r3 r4 r5 lA lB
  obtain ⟨L, hL⟩ : ∃ L : List Wq, L = [(z1, n1, e1 + 1 * e2, fun c => v1 c + 1 * v2 c), (z2, n2, e1 + -1 * e2, fun c => v1 c + -1 * v2 c), (z3, n3, (z - 10) * e1, fun c => (z - 10) * v1 c), (z4, n4, (z - 10) * e1, fun c => (z - 10) * v1 c), (z5, n5, -1 * e1, fun c => -1 * v1 c)] := ⟨_, rfl⟩
  rw [← hL] at hQ
  replace hlf : H20 lf = some (.lst (L.map fun q => V.ref q.1)) := by rw [hL]; exact hlf
  have hDd : DpAll K H20 [V.ref D1, V.ref D2, V.ref D3, V.ref D4, V.ref D5] ((L.map (rowQ F)).map fun r => PyData.list (r.map PyData.int)) := by
    rw [hL]
    exact .cons (.lst (SqL.of hD1) (dpI _)) (.cons (.lst (SqL.of hD2) (dpI _)) (.cons (.lst (SqL.of hD3) (dpI _)) (.cons (.lst (SqL.of hD4) (dpI _)) (.cons (.lst (SqL.of hD5) (dpI _)) .nil))))
  have lL : L.length = 5 := by rw [hL]; rfl
  have fL : ∀ q ∈ L, H8 q.2.1 = none := fun q hq => by
    rw [hL] at hq
    simp only [List.mem_cons, List.not_mem_nil, or_false] at hq
    rcases hq with rfl | rfl | rfl | rfl | rfl <;> assumption
  clear hL hD2 hD3 hD4 hD5 hA hB fn1 fn2 fn3 fn4 fn5
  refine ⟨_, rfl, lf, rfl, ⟨_, SqL.of hlf⟩, fun D nD => ?_⟩
  refine lc_it (walk_list (xs := L.map fun q => V.ref q.1)) (fun j H' => Same H20 H' ∧ ∃ ps : List Addr, H' D = some (.lst (ps.map V.ref)) ∧ RowsAt H' D ps ((L.take j).map (rowQ F))) ⟨same_upd nD, [], upd_same, trivial⟩ (fun j H' _ pv => SqL.of (pv.1 _ _ hlf)) ?_ ?_
  · rintro j x' H' _ hj ⟨sj, ps, hDj, hR⟩ ⟨rfl, hx⟩
    obtain ⟨q0, hq0, rfl⟩ : ∃ q0, L[j]? = some q0 ∧ x' = V.ref q0.1 := by
      rw [List.getElem?_map] at hx
      obtain ⟨q0, h1, h2⟩ := Option.map_eq_some_iff.mp hx
      exact ⟨q0, h1, h2.symm⟩
    have hW := (hQ.same sj) q0 (List.mem_of_getElem? hq0)
    refine ⟨rfl, _, rfl, _, rfl, q0.1, q0.2.1, F, q0.2.2.1, q0.2.2.2, rfl, hW, lF, fun H'' p s'' np hp => ?_⟩
    have hpD : p ≠ D := fun e => by rw [e, hDj] at np; cases np
    have hl := hR.len
    rw [List.length_map, List.length_take] at hl
    refine ⟨_, s'' _ _ hDj, by rw [List.length_map]; exact sz1 (by omega), fun a' o e' => ?_, ps ++ [p], ?_, ?_⟩
    · rw [upd_ne (fun z => by rw [z, nD] at e'; cases e')]
      exact s'' _ _ (sj _ _ e')
    · rw [upd_same, List.map_append]
      rfl
    · rw [List.take_add_one, hq0, List.map_append]
      exact RowsAt.snoc hpD (by rw [upd_ne hpD]; exact hp) (hR.but (fun b' o' n' e' => by rw [upd_ne n']; exact s'' _ _ e'))
  rintro H21 ⟨s21, ps, hD21, hR⟩
  rw [show L.take (L.map fun q => V.ref q.1).length = L from List.take_of_length_le (by rw [List.length_map]; exact Nat.le_refl _)] at hR
  refine ⟨_, rfl, .ref D, .ref ld, .list ((L.map (rowQ F)).map fun r => PyData.list (r.map PyData.int)), rfl, .lst (SqL.of hD21) hR.dp,  Dp.same s21 (.lst (SqL.of hld) hDd), ?_, fun H22 s22 => ⟨_, rfl, iteF ?_⟩⟩
  · refine deep_list (by rw [List.length_map, List.length_map, lL]; decide) fun d hd => ?_
    obtain ⟨r, hr, rfl⟩ := List.mem_map.mp hd
    obtain ⟨q0, _, rfl⟩ := List.mem_map.mp hr
    exact deepI (by unfold rowQ; rw [List.length_cons, List.length_map]; omega)
  have u22 := s21.trans s22
  replace W1 := W1.same u22
  replace hQ := hQ.same u22
  replace TB6 := TB6.ext u22
  replace hlf := u22 _ _ hlf
  replace hD1 := u22 _ _ hD1
  replace hld := u22 _ _ hld
  clear s21 s22 u22 nD hD21 hR hDd
  -- a number put into each
  refine ⟨_, rfl, lf, rfl, ⟨_, SqL.of hlf⟩, ?_⟩
  obtain ⟨c0, hc0, hc0F⟩ : ∃ c0, F[0]? = some c0 ∧ c0 ∈ F := ⟨F[0], List.getElem?_eq_getElem hF0, List.getElem_mem hF0⟩
  have lFs : F.length ≤ sizeLine := Nat.le_trans lF (by decide)
  refine for_it (walk_list (xs := L.map fun q => V.ref q.1)) (fun j σ H' => ∃ y12 : Option V, σ = [some (.ref a), some (.ref b), some (.str (S F)), some (.ref p1), some (.ref p2), some (.ref x1), some (.ref x2), some (.int (z - 10)), some (.ref l1), some (.ref l2), some (.ref lf), some (.ref ld), y12, none, none, none, none, none, none, none, none] ∧
    Two CW H' x1 nd1 x2 nd2 F e1 v1 e2 v2 l1 l2 ∧ H' lf = some (.lst (L.map fun q => V.ref q.1)) ∧ H' ld = some (.lst [V.ref D1, V.ref D2, V.ref D3, V.ref D4, V.ref D5]) ∧ H' D1 = some (.lst (((e1 + 1 * e2) :: F.map fun c => v1 c + 1 * v2 c).map V.int)) ∧ LamX.Tabs (tabL Pt f c) H' ∧ ∀ q ∈ L, ∃ v : Nat → Int, WtA CW H' q.1 q.2.1 F q.2.2.1 v) ⟨none, rfl, W1, hlf, hld, hD1, TB6, fun q hq => ⟨_, hQ q hq⟩⟩ (fun j σ H' _ ⟨_, _, _, h, _⟩ => SqL.of h) ?_ ?_
  · rintro j x' σ H' H'' hj ⟨y12, rfl, W3, hlf3, hld3, hD3, TB3, hS3⟩ ⟨rfl, hx⟩
    obtain ⟨q0, hq0, rfl⟩ : ∃ q0, L[j]? = some q0 ∧ x' = V.ref q0.1 := by
      rw [List.getElem?_map] at hx
      obtain ⟨q0, h1, h2⟩ := Option.map_eq_some_iff.mp hx
      exact ⟨q0, h1, h2.symm⟩
    have hm0 := List.mem_of_getElem? hq0
    obtain ⟨v3, hW⟩ := hS3 q0 hm0
    obtain ⟨dw, hxw⟩ := hW.at_
    have nl : ∀ {a' : Addr} {xs : List V}, H'' a' = some (.lst xs) → a' ≠ q0.2.1 := fun h e => by rw [e, hW.num] at h; cases h
    refine ⟨_, rfl, q0.1, dw, _, rfl, hxw, rfl, _, rfl, S F, 0, c0, rfl, rfl, lFs, atI_nat (j := 0) hc0, q0.1, q0.2.1, F, _, v3, _, _, rfl, hW, .inl ⟨c0, 77, rfl, hc0F, rfl, fun H5 o5 hW5 => ?_⟩⟩
    exact ⟨_, rfl, W0.off (fL q0 hm0) W3 o5, o5 _ _ (nl hlf3) hlf3, o5 _ _ (nl hld3) hld3, o5 _ _ (nl hD3) hD3, tabs_dK TB3 hW.num o5, some_put hS3 ⟨_, hW.num⟩ o5 hW5⟩
  rintro σ H23 ⟨y12, rfl, W3, hlf3, hld3, hD3, TB7, _⟩
  clear hQ W1 TB6 hlf hld hD1 hlf3 fL lL W0
  have lR : ∀ (e : Int) (v : Nat → Int), (e :: F.map v).length ≤ 1000 := fun e v => by rw [List.length_cons, List.length_map]; omega
  refine ⟨_, rfl, _, rfl, x1, nd1, F, e1, v1, rfl, W3.w1, lF, fun H24 r1 s24 _ hr1 => ?_⟩
  refine ⟨_, rfl, _, rfl, x2, nd2, F, e2, v2, rfl, W3.w2.same s24, lF, fun H25 r2 s25 _ hr2 => ⟨(show 2 ≤ sizeLine by decide), fun t1 nt1 => ?_⟩⟩
  have k1 := same_upd (o := HO.lst [V.ref r1, V.ref r2]) nt1
  refine ⟨_, rfl, _, rfl, (show 2 ≤ sizeLine by decide), fun t2 nt2 => ?_⟩
  have k2 := same_upd (o := HO.lst [V.ref l1, V.ref l2]) nt2
  have k12 := k1.trans k2
  have u25 := s24.trans (s25.trans k12)
  refine ⟨.ref t1, .ref t2, .list [.list ((e1 :: F.map v1).map PyData.int), .list ((e2 :: F.map v2).map PyData.int)], rfl, .lst (SqL.of (k2 _ _ upd_same)) (.cons (.lst (SqL.of ((s25.trans k12) _ _ hr1)) (dpI _)) (.cons (.lst (SqL.of (k12 _ _ hr2)) (dpI _)) .nil)), .lst (SqL.of upd_same) (.cons (.lst (SqL.of (u25 _ _ W3.h1)) (dpI _)) (.cons (.lst (SqL.of (u25 _ _ W3.h2)) (dpI _)) .nil)), ?_, fun H26 s26 => ⟨_, rfl, iteF ?_⟩⟩
  · refine deep_list (show 2 ≤ 1000 by decide) fun d hd => ?_
    simp only [List.mem_cons, List.not_mem_nil, or_false] at hd
    rcases hd with rfl | rfl
    · exact deepI (lR _ _)
    · exact deepI (lR _ _)
  have u26 := u25.trans s26
  replace W3 := W3.same u26
  replace hld3 := u26 _ _ hld3
  replace hD3 := u26 _ _ hD3
  replace TB7 := TB7.ext u26
  clear s24 s25 s26 k1 k2 k12 u25 u26 nt1 nt2 hr1 hr2
  -- a twin that the other is added to
  obtain ⟨dx1, hx1⟩ := W3.w1.at_
  refine ⟨_, rfl, x1, dx1, _, rfl, hx1, rfl, x1, nd1, F, e1, v1, rfl, W3.w1, hb1, lF, fun H27 xt nt s27 fxt fnt hT => ?_⟩
  have W4 := W3.same s27
  replace hld3 := s27 _ _ hld3
  replace hD3 := s27 _ _ hD3
  replace TB7 := TB7.ext s27
  obtain ⟨dt, hxt⟩ := hT.at_
  have nl : ∀ {a' : Addr} {xs : List V}, H27 a' = some (.lst xs) → a' ≠ xt := fun h e => by rw [e, hxt] at h; cases h
  refine ⟨_, rfl, _, rfl, xt, nt, x2, nd2, F, F, e1, e2, v1, v2, rfl, hT, W4.w2, .inl ⟨rfl, hb1, lF, fun H28 nt2 pp o28 fnt2 _ hpp hT2 => ?_⟩⟩
  have W5 := W3.off fxt W4 o28
  have TB8 := tabs_ins TB7 hxt o28
  have fn2 : H26 nt2 = none := none_same s27 fnt2
  replace hld3 := o28 _ _ (nl hld3) hld3
  replace hD3 := o28 _ _ (nl hD3) hD3
  clear nl W4 TB7 hT hxt o28 fnt2 hx1 fxt fnt
  -- both names of it
  refine ⟨_, rfl, pp, _, 0, _, rfl, rfl, SqL.of hpp, rfl, _, rfl, xt, nt2, F, _, _, rfl, hT2, lF, fun H29 r1 s29 _ hr1 => ?_⟩
  refine ⟨_, rfl, pp, _, 1, _, rfl, rfl, SqL.of (s29 _ _ hpp), rfl, _, rfl, xt, nt2, F, _, _, rfl, hT2.same s29, lF, fun H30 r2 s30 _ hr2 => ?_⟩
  have u30 := s29.trans s30
  refine ⟨_, rfl, _, rfl, x1, nd1, F, e1, v1, rfl, W5.w1.same u30, lF, fun H31 r3 s31 _ hr3 => ⟨(show 3 ≤ sizeLine by decide), fun t1 nt1 => ?_⟩⟩
  have k1 := same_upd (o := HO.lst [V.ref r1, V.ref r2, V.ref r3]) nt1
  have u31 := u30.trans (s31.trans k1)
  refine ⟨_, rfl, ld, _, 0, _, rfl, rfl, SqL.of (u31 _ _ hld3), rfl, _, rfl, ld, _, 0, _, rfl, rfl, SqL.of (u31 _ _ hld3), rfl, _, rfl, (show 3 ≤ sizeLine by decide), fun t2 nt2' => ?_⟩
  have k2 := same_upd (o := HO.lst [V.ref D1, V.ref D1, V.ref l1]) nt2'
  have k12 := k1.trans k2
  have u32 := u31.trans k2
  refine ⟨.ref t1, .ref t2, .list [.list (((e1 + 1 * e2) :: F.map fun c => v1 c + 1 * v2 c).map PyData.int), .list (((e1 + 1 * e2) :: F.map fun c => v1 c + 1 * v2 c).map PyData.int), .list ((e1 :: F.map v1).map PyData.int)], rfl,
    .lst (SqL.of (k2 _ _ upd_same)) (.cons (.lst (SqL.of ((s30.trans (s31.trans k12)) _ _ hr1)) (dpI _)) (.cons (.lst (SqL.of ((s31.trans k12) _ _ hr2)) (dpI _)) (.cons (.lst (SqL.of (k12 _ _ hr3)) (dpI _)) .nil))),
    .lst (SqL.of upd_same) (.cons (.lst (SqL.of (u32 _ _ hD3)) (dpI _)) (.cons (.lst (SqL.of (u32 _ _ hD3)) (dpI _)) (.cons (.lst (SqL.of (u32 _ _ W5.h1)) (dpI _)) .nil))), ?_, fun H32 s32 => ⟨_, rfl, iteF ?_⟩⟩
  · refine deep_list (show 3 ≤ 1000 by decide) fun d hd => ?_
    simp only [List.mem_cons, List.not_mem_nil, or_false] at hd
    rcases hd with rfl | rfl | rfl
    · exact deepI (lR _ _)
    · exact deepI (lR _ _)
    · exact deepI (lR _ _)
  have u33 := u32.trans s32
  have W6 := W5.same u33
  replace hT2 := hT2.same u33
  replace TB8 := TB8.ext u33
  clear s29 s30 s31 s32 k1 k2 k12 u30 u31 u32 u33 nt1 nt2' hr1 hr2 hr3 hpp hld3 hD3 W5
  -- a number put in by index
  obtain ⟨Fi, cz, hFz⟩ : ∃ Fi cz, F = Fi ++ [cz] := ⟨F.dropLast, F.getLast (List.ne_nil_of_length_pos hF0), (List.dropLast_concat_getLast _).symm⟩
  have hcz : cz ∈ F := by rw [hFz]; exact List.mem_append_right _ List.mem_cons_self
  have atF : atI (S F).cps.toList (-1) = some cz := by rw [hFz]; exact atI_lst
  refine ⟨_, rfl, _, rfl, _, rfl, S F, _, cz, rfl, rfl, lFs, atF, _, rfl, xt, nt2, F, _, _, cz, _, rfl, hT2, hcz, fun H33 o33 hT3 => ?_⟩
  have W7 := W3.off fn2 W6 o33
  have TB9 := tabs_dK TB8 hT2.num o33
  clear W6 TB8 hT2 o33
  obtain ⟨dt3, hxt3⟩ := hT3.at_
  refine ⟨_, rfl, _, rfl, _, rfl, S F, _, cz, rfl, rfl, lFs, atF, xt, dt3, _, rfl, hxt3, xt, nt2, F, _, _, _, rfl, hT3, .inl ⟨cz, rfl, hcz, fun H34 s34 => ?_⟩⟩
  refine ⟨_, rfl, _, rfl, x1, nd1, F, e1, v1, rfl, W7.w1.same s34, lF, fun H35 r3 s35 _ hr3 => ⟨(show 3 ≤ sizeLine by decide), fun t1 nt1 => ?_⟩⟩
  have ep : putV (fun c => v1 c + 1 * v2 c) cz (z - 10) cz = z - 10 := if_pos rfl
  rw [ep]
  have k1 := same_upd (o := HO.lst [V.int (z - 10), V.int (z - 10), V.ref r3]) nt1
  refine ⟨_, rfl, _, rfl, _, rfl, (show 3 ≤ sizeLine by decide), fun t2 nt2' => ?_⟩
  have k2 := same_upd (o := HO.lst [V.int (z - 10), V.int (z - 10), V.ref l1]) nt2'
  have k12 := k1.trans k2
  have u35 := s34.trans (s35.trans k12)
  refine ⟨.ref t1, .ref t2, .list [.int (z - 10), .int (z - 10), .list ((e1 :: F.map v1).map PyData.int)], rfl, .lst (SqL.of (k2 _ _ upd_same)) (.cons (.int _) (.cons (.int _) (.cons (.lst (SqL.of (k12 _ _ hr3)) (dpI _)) .nil))), .lst (SqL.of upd_same) (.cons (.int _) (.cons (.int _) (.cons (.lst (SqL.of (u35 _ _ W7.h1)) (dpI _)) .nil))), ?_, fun H36 s36 => ⟨_, rfl, iteF ?_⟩⟩
  · refine deep_list (show 3 ≤ 1000 by decide) fun d hd => ?_
    simp only [List.mem_cons, List.not_mem_nil, or_false] at hd
    rcases hd with rfl | rfl | rfl
    · exact deep_int
    · exact deep_int
    · exact deepI (lR _ _)
  have u36 := u35.trans s36
  replace W7 := W7.same u36
  replace TB9 := TB9.ext u36
  clear s34 s35 s36 k1 k2 k12 u35 u36 nt1 nt2' hr3 ep hT3 hxt3 atF fn2 W3
  -- weights with one face more
  refine ⟨_, rfl, fun g1 ng1 => ?_⟩
  refine lc_strP (fun c => !decide (c ∈ F)) sgn ng1 (by decide) (fun _ => rfl) (fun c hc H' s' R h => ⟨_, rfl, _, rfl, c, S F, rfl, rfl, _, rfl, h⟩) (fun c hc _ H' s' R h => ⟨_, rfl, h⟩) ?_
  rw [show ("abcdefghijklmnopqrstuvwxyz" : Str).cps.toList = lower from rfl]
  have hg1 : 20 ≤ (lower.filter fun c => !decide (c ∈ F)).length := by
    have := gone_pos lower F lower_nd
    rw [lower_len] at this
    omega
  have hg3 : ∀ c ∈ (lower.filter fun c => !decide (c ∈ F)), c ∉ F ∧ c ∈ lower := fun c hc => by
    have h := (List.mem_filter.mp hc).2
    refine ⟨fun z => ?_, (List.mem_filter.mp hc).1⟩
    rw [decide_eq_true z] at h
    cases h
  generalize (lower.filter fun c => !decide (c ∈ F)) = gl at hg1 hg3 ⊢
  obtain ⟨gz, gr, rfl⟩ : ∃ gz gr, gl = gz :: gr := by
    cases gl with
    | nil => exact absurd hg1 (by decide)
    | cons x r => exact ⟨x, r, rfl⟩
  obtain ⟨hgz, hgl⟩ := hg3 gz List.mem_cons_self
  have sg := same_upd (o := HO.lst ((gz :: gr).map sgn)) ng1
  refine ⟨g1, _, 0, _, rfl, rfl, SqL.of upd_same, atI_nat (j := 0) rfl, ?_⟩
  replace W7 := W7.same sg
  replace TB9 := TB9.ext sg
  generalize upd H36 g1 (.lst ((gz :: gr).map sgn)) = H37 at W7 TB9 ⊢
  clear sg ng1 hg1 hg3
  have hFg : (F ++ [gz]).Nodup := List.nodup_append.mpr ⟨lower_nd.sublist hsub, List.nodup_cons.mpr ⟨List.not_mem_nil, List.nodup_nil⟩, fun x hx y hy e => hgz (by rw [← List.mem_singleton.mp hy, ← e]; exact hx)⟩
  have hFin : ∀ c ∈ F ++ [gz], c ∈ lower := fun c hc => by
    rcases List.mem_append.mp hc with h | h
    · exact hsub.subset h
    · rw [List.mem_singleton.mp h]
      exact hgl
  have lFg : (F ++ [gz]).length = F.length + 1 := by
    rw [List.length_append]
    rfl
  refine ⟨⟨_, rfl⟩, _, rfl, _, rfl, S F, S [gz], rfl, rfl, Nat.le_of_lt (sz1 (show F.length + 1 ≤ 100000 by omega)), ?_⟩
  refine ⟨S (F ++ [gz]), congrArg (fun z => [V.str z]) (S_cat F [gz]), Nat.le_of_lt (sz1 (show (F ++ [gz]).length ≤ 100000 by omega)), fun p1' np1 => ?_⟩
  have y1 := same_upd (o := HO.lst ((S (F ++ [gz])).cps.toList.map sgn)) np1
  refine ⟨p1', (F ++ [gz]).map one1S, rfl, SqL.of (by rw [upd_same, List.map_map]; rfl), fun ys p2' pm hs np2 => ?_⟩
  obtain ⟨cs, rfl, hcl, hca, hcm, hczz⟩ := all_faces hFg hFin pm hs
  have y2 := same_upd (o := HO.lst ((cs.map one1S).map V.str)) np2
  refine ⟨("" : Str), p2', cs.map one1S, rfl, rfl, .inl (SqL.of upd_same), ?_, ?_⟩
  · rw [sum_ones, List.length_map]
    show cs.length + cs.length * 0 ≤ _
    omega
  rw [join_signs]
  have hb7 : bFaces (.str (S cs)) = true := choice_asc hca hcm (by omega) (by omega)
  have y12 := y1.trans y2
  replace W7 := W7.same y12
  replace TB9 := TB9.ext y12
  generalize upd (upd H37 p1' (.lst ((S (F ++ [gz])).cps.toList.map sgn))) p2' (.lst ((cs.map one1S).map V.str)) = H38 at W7 TB9 ⊢
  clear y1 y2 y12 np1 np2 pm hs
  have nC : cs.Nodup := hca.imp fun h => Nat.ne_of_lt h
  refine fun xm dxm nxm ndxm hdxm => init_good (ks := []) (zs := []) kwW_n (fun _ h => nomatch h) hb7 (by omega) nC (fun _ h => nomatch h) (fun _ h => nomatch h) (v := fun _ => 0) (fun _ _ => rfl) nxm ndxm hdxm fun H39 ndm s39 _ _ hM => ⟨rfl, ?_⟩
  replace W7 := W7.same s39
  replace TB9 := TB9.ext s39
  clear s39 nxm ndxm hdxm nC hca hcm hczz hFg hFin
  have hne : F ≠ cs := fun e => by
    have := congrArg List.length e
    omega
  -- four lambdas
  refine ⟨TB9, fun f1 c1 w1 G1 x1' T1 m1' la1 => ?_⟩
  refine ⟨T1, fun f2 c2 w2 G2 x2' T2 m2' la2 => ?_⟩
  refine ⟨T2, fun f3 c3 w3 G3 x3' T3 m3' la3 => ?_⟩
  refine ⟨T3, fun f4 c4 w4 G4 x4' T4 m4' la4 => ?_⟩
  replace la1 := ((la1.ext x2').ext x3').ext x4'
  replace la2 := (la2.ext x3').ext x4'
  replace la3 := la3.ext x4'
  have ex := x1'.trans (x2'.trans (x3'.trans x4'))
  replace W7 := W7.ext ex
  replace hM := hM.ext ex
  clear ex x1' x2' x3' x4' T1 T2 T3 T4 m1' m2' m3' m4' TB9
  refine ⟨(show 4 ≤ sizeLine by decide), fun l7 nl7 => ?_⟩
  have sl' := same_upd (o := HO.lst [V.ref f1, .ref f2, .ref f3, .ref f4]) nl7
  have hl7 : (upd G4 l7 (.lst [V.ref f1, .ref f2, .ref f3, .ref f4])) l7 = some (.lst ([f1, f2, f3, f4].map V.ref)) := upd_same
  replace la1 := la1.same sl'
  replace la2 := la2.same sl'
  replace la3 := la3.same sl'
  replace la4 := la4.same sl'
  replace W7 := W7.same sl'
  replace hM := hM.same sl'
  generalize upd G4 l7 (.lst [V.ref f1, .ref f2, .ref f3, .ref f4]) = G7 at la1 la2 la3 la4 W7 hM hl7 ⊢
  clear sl' nl7
  refine ⟨_, rfl, l7, [f1, f2, f3, f4], rfl, rfl, hl7, tries_run [.tuple [.str "OtherFaces", .none], .tuple [.str "OtherFaces", .none], .tuple [.str "OtherFaces", .none], .tuple [.str "OtherFaces", .none]] hl7 (fun D' nD' => ?_) (fun H7 D' s7 nD' hD' => ?_)⟩
  · refine ⟨?_, ?_, ?_, ?_, trivial⟩
    · exact oneAsk_errN TO nD' la1 fun H s E Q h => by
        have wa := W7.w1.same s
        have wb := hM.same s
        obtain ⟨da, ha⟩ := wa.at_
        obtain ⟨db, hb⟩ := wb.at_
        exact ⟨_, rfl, _, rfl, x1, da, _, rfl, ha, .ins hb, x1, nd1, xm, ndm, F, cs, e1, 0, v1, _, rfl, wa, wb, .inr ⟨hne.symm, h⟩⟩
    · exact oneAsk_errN TO nD' la2 fun H s E Q h => ⟨_, rfl, _, rfl, x1, nd1, xm, ndm, F, cs, e1, 0, v1, _, rfl, W7.w1.same s, hM.same s, hne.symm, h⟩
    · exact oneAsk_errN TO nD' la3 fun H s E Q h => ⟨_, rfl, _, rfl, x1, nd1, xm, ndm, F, cs, e1, 0, v1, _, rfl, W7.w1.same s, hM.same s, .inr ⟨hne.symm, h⟩⟩
    · exact oneAsk_errN TO nD' la4 fun H s E Q h => by
        have wa := W7.w1.same s
        have wb := hM.same s
        obtain ⟨da, ha⟩ := wa.at_
        obtain ⟨db, hb⟩ := wb.at_
        exact ⟨_, rfl, _, rfl, xm, db, _, rfl, hb, .ins ha, xm, ndm, x1, nd1, cs, F, 0, e1, _, v1, rfl, wb, wa, .inr ⟨hne, h⟩⟩
  refine ⟨(show 2 ≤ sizeLine by decide), fun t1 nt1 => ?_⟩
  have k1 := same_upd (o := HO.tup [V.str "OtherFaces", V.non]) nt1
  refine ⟨(show 1 ≤ sizeLine by decide), fun t2 nt2 => ?_⟩
  have k2 := same_upd (o := HO.lst [V.ref t1]) nt2
  refine ⟨t2, ((4 : Nat) : Int), [V.ref t1], rfl, rfl, upd_same, by decide, by decide, (show 4 ≤ sizeLine by decide), fun t3 nt3 => ?_⟩
  rw [rep_flat]
  have k3 := same_upd (o := HO.lst (List.replicate 4 (V.ref t1))) nt3
  have ht := (k2.trans k3) _ _ (upd_same (H := H7) (a := t1) (o := HO.tup [V.str "OtherFaces", V.non]))
  have k13 := k1.trans (k2.trans k3)
  refine ⟨_, _, _, rfl, Dp.same k13 hD', .lst (SqL.of upd_same) (.cons (.tup (SqT.of ht) (.cons (.str _) (.cons .non .nil))) (.cons (.tup (SqT.of ht) (.cons (.str _) (.cons .non .nil))) (.cons (.tup (SqT.of ht) (.cons (.str _) (.cons .non .nil))) (.cons (.tup (SqT.of ht) (.cons (.str _) (.cons .non .nil))) .nil)))), deep_list (show 4 ≤ 1000 by decide) (fun d hd => ?_), fun H8' s8 => ?_⟩
  · simp only [List.mem_cons, List.not_mem_nil, or_false] at hd
    rcases hd with rfl | rfl | rfl | rfl <;> exact dTI _ _ (by unfold Deep; trivial)
  replace W7 := W7.same (s7.trans (k13.trans s8))
  exact ⟨true, rfl, iteT ⟨_, rfl, _, rfl, x1, nd1, F, e1, v1, rfl, W7.w1, lF, fun H9' p' s9 _ hp' => ⟨_, rfl, .ref p', .ref l1, .list ((e1 :: F.map v1).map PyData.int), rfl, .lst (SqL.of hp') (dpI _), .lst (SqL.of (s9 _ _ W7.h1)) (dpI _), deepI (lR _ _), fun H10' _ => q _⟩⟩⟩
end
end FW
namespace FW
open PySem PySem.Spec PyProof.Rows L2
/-- the end of a law row whose law's own text holds a lambda: the law's table at P, its code object at c -/
theorem walk_tab {l : PySem.W.OpenLaw} {n k : Nat} {q : Program} {loose : List Str} {XP : (Str → Option Value) → Heap → Prop} {YP : World → Heap → Prop} {d : DefRec} {K : Params → PySem.W.Frag} {x : Str} {sp : PySem.W.Frag → Addr → Sp} {c P : Addr}
    (hn : l.most = some n) (hn2 : n ≤ sizeLine) (hdf : d.params.defaults = []) (hr : Room k callerA) (hY : ∀ (w : World) (h : Heap), YP w h → (K w.params).In h)
    (hT : ∀ (w : World) (h : Heap), YP w h → h.get? P = some (PySem.W.tabObj #[])) (hnP : ∀ pr : Params, (K pr).lookup P = none)
    (F : ∀ (w : World) (mg : Str → Option Value) (fa : Addr) (h : Heap), (K w.params).In h → h.Ns mainGlobals mg → mg d.name = some (.ref fa) →
      ∃ fd : FuncData, (∀ (s : Shared) (u : Value), BindsTo s fd ⟨[u], []⟩ [(x, u)]) ∧ ∀ base : Heap, (K w.params).In base → base.Ns mainGlobals mg → LamX.TabB base mg c P → FnOk l.prog w (K w.params) mg base L2.CX0 k fa fd [x] (sp (K w.params) P))
    (hc : ∀ pr : Params, PySem.W.codeHdIn (K pr) c P = true) (hsp : ∀ (pr : Params) (H : Hp) (a : Addr) (ns : List Int), ns.length ≤ n → H P = some (.tbl #[]) → SqL (K pr) H a (ns.map V.int) → sp (K pr) P [.ref a] H (fun v _ => v = .bl true) fun _ _ _ => False) :
    PySem.W.WalkO q loose XP YP l.row.toRowW d [] (fun f vs => PySem.call f vs) := by
  refine Att.attach_callB hn hdf fun w s₀ s₁ mg mb fa o pm cd doc a vs ns G Y ho hd hcd hmg hobj hints hlen hbits hg => ?_
  have X := hY w _ Y
  obtain ⟨fd, hb, hF⟩ := F w mg fa _ X G.T.g hmg
  have hP := hT w _ Y
  refine LamX.law_callTs (cs := [(c, P)]) X G.T.g G.T.b G.T.builtins G.T.nolimit hg (fun p hp => ?_) (fun p hp => ?_) (fun p hp => ?_) G.T.bmain hobj hints (Nat.le_trans hlen hn2) hr
    (fun base h1 h2 h3 => hF base h1 h2 (h3 _ List.mem_cons_self)) hb (fun H hH hS => hsp w.params H a ns hlen (hH _ List.mem_cons_self) hS) (fun _ _ _ z => z)
  · rw [List.mem_singleton.mp hp]
    exact hP
  · rw [List.mem_singleton.mp hp]
    exact hnP w.params
  · rw [List.mem_singleton.mp hp]
    exact PySem.W.codeHd_of_K X (hc w.params)
end FW
namespace FW
open PySem PySem.Spec PyProof.Rows L2
theorem all_mk {l : PySem.W.OpenLaw} {w : World} {K : PySem.W.Frag} {h : Heap} {mg : Str → Option Value} {fa : Addr} {C_OtherFaces fI_OtherFaces NC_OtherFaces C1 C2 C3 CW f_Wi D_Wi C_InvalidFaces fI_InvalidFaces NC_InvalidFaces C_InvalidNumber fI_InvalidNumber NC_InvalidNumber f_is_string f_is_ascending f_is_choice f_is_faces f_is_integer C_InvalidFace fI_InvalidFace NC_InvalidFace f_is_letter f_check_numbers f_W_getitem f_W_put f_W_setitem f_W_copy f_made f_W_add f_check_weights p_each f_W_each f_added f_W_sub f_W_mul f_multiplied f_W_rmul f_W_neg f_W_iadd f__law_added f__law_taken f__law_put_at f__law_tries f__law_try f__law_field f__law_same f__law_numbers f__law_draw f__law_some_weights f__law_letters f__law_some_faces f__law_open f_law c Pt : Addr} {tk_OtherFaces tk_Wi tk_InvalidFaces tk_InvalidNumber tk__LOWER tk__MOST_FACES tk_InvalidFace : Tok} {nm_OtherFaces qn_OtherFaces nm_InvalidFaces qn_InvalidFaces nm_InvalidNumber qn_InvalidNumber nm_InvalidFace qn_InvalidFace : Str} {bs_OtherFaces bm_OtherFaces sub_OtherFaces bs_InvalidFaces bm_InvalidFaces sub_InvalidFaces bs_InvalidNumber bm_InvalidNumber sub_InvalidNumber bs_InvalidFace bm_InvalidFace sub_InvalidFace r_each : List Value} {sn_OtherFaces sn_InvalidFaces sn_InvalidNumber sn_InvalidFace : List Str} {ab_OtherFaces ab_InvalidFaces ab_InvalidNumber ab_InvalidFace : Bool} {col_OtherFaces col_InvalidFaces col_InvalidNumber col_InvalidFace : Option Bool} {k0_OtherFaces k1_OtherFaces k3_OtherFaces k5_OtherFaces k0_InvalidFaces k1_InvalidFaces k3_InvalidFaces k5_InvalidFaces k0_InvalidNumber k1_InvalidNumber k3_InvalidNumber k5_InvalidNumber k0_InvalidFace k1_InvalidFace k3_InvalidFace k5_InvalidFace : Option Value} {dd_OtherFaces odI_OtherFaces anI_OtherFaces od_Wi an_Wi dd_InvalidFaces odI_InvalidFaces anI_InvalidFaces dd_InvalidNumber odI_InvalidNumber anI_InvalidNumber od_is_string an_is_string od_is_ascending an_is_ascending od_is_choice an_is_choice od_is_faces an_is_faces od_is_integer an_is_integer dd_InvalidFace odI_InvalidFace anI_InvalidFace od_is_letter an_is_letter od_check_numbers an_check_numbers od_W_getitem an_W_getitem od_W_put an_W_put od_W_setitem an_W_setitem od_W_copy an_W_copy od_made an_made od_W_add an_W_add od_check_weights an_check_weights od_W_each an_W_each od_added an_added od_W_sub an_W_sub od_W_mul an_W_mul od_multiplied an_multiplied od_W_rmul an_W_rmul od_W_neg an_W_neg od_W_iadd an_W_iadd od__law_added an__law_added od__law_taken an__law_taken od__law_put_at an__law_put_at od__law_tries an__law_tries od__law_try an__law_try od__law_field an__law_field od__law_same an__law_same od__law_numbers an__law_numbers od__law_draw an__law_draw od__law_some_weights an__law_some_weights od__law_letters an__law_letters od__law_some_faces an__law_some_faces od__law_open an__law_open od_law an_law : Option Addr} {slI_OtherFaces sl_Wi slI_InvalidFaces slI_InvalidNumber sl_is_string sl_is_ascending sl_is_choice sl_is_faces sl_is_integer slI_InvalidFace sl_is_letter sl_check_numbers sl_W_getitem sl_W_put sl_W_setitem sl_W_copy sl_made sl_W_add sl_check_weights sl_W_each sl_added sl_W_sub sl_W_mul sl_multiplied sl_W_rmul sl_W_neg sl_W_iadd sl__law_added sl__law_taken sl__law_put_at sl__law_tries sl__law_try sl__law_field sl__law_same sl__law_numbers sl__law_draw sl__law_some_weights sl__law_letters sl__law_some_faces sl__law_open sl_law : Array (Option Value)} {ocI_OtherFaces kVI_OtherFaces dcI_OtherFaces pmI_OtherFaces cdI_OtherFaces ctI_OtherFaces oc_Wi dc_Wi pm_Wi cd_Wi ct_Wi ocI_InvalidFaces kVI_InvalidFaces dcI_InvalidFaces pmI_InvalidFaces cdI_InvalidFaces ctI_InvalidFaces ocI_InvalidNumber kVI_InvalidNumber dcI_InvalidNumber pmI_InvalidNumber cdI_InvalidNumber ctI_InvalidNumber oc_is_string kV_is_string dc_is_string pm_is_string cd_is_string ct_is_string oc_is_ascending kV_is_ascending dc_is_ascending pm_is_ascending cd_is_ascending ct_is_ascending oc_is_choice kV_is_choice dc_is_choice pm_is_choice cd_is_choice ct_is_choice oc_is_faces kV_is_faces dc_is_faces pm_is_faces cd_is_faces ct_is_faces oc_is_integer kV_is_integer dc_is_integer pm_is_integer cd_is_integer ct_is_integer ocI_InvalidFace kVI_InvalidFace dcI_InvalidFace pmI_InvalidFace cdI_InvalidFace ctI_InvalidFace oc_is_letter kV_is_letter dc_is_letter pm_is_letter cd_is_letter ct_is_letter oc_check_numbers kV_check_numbers dc_check_numbers pm_check_numbers cd_check_numbers ct_check_numbers oc_W_getitem kV_W_getitem dc_W_getitem pm_W_getitem cd_W_getitem ct_W_getitem oc_W_put kV_W_put dc_W_put pm_W_put cd_W_put ct_W_put oc_W_setitem kV_W_setitem dc_W_setitem pm_W_setitem cd_W_setitem ct_W_setitem oc_W_copy kV_W_copy dc_W_copy pm_W_copy cd_W_copy ct_W_copy oc_made kV_made dc_made pm_made cd_made ct_made oc_W_add kV_W_add dc_W_add pm_W_add cd_W_add ct_W_add oc_check_weights kV_check_weights dc_check_weights pm_check_weights cd_check_weights ct_check_weights oc_W_each kV_W_each dc_W_each pm_W_each cd_W_each ct_W_each oc_added kV_added dc_added pm_added cd_added ct_added oc_W_sub kV_W_sub dc_W_sub pm_W_sub cd_W_sub ct_W_sub oc_W_mul kV_W_mul dc_W_mul pm_W_mul cd_W_mul ct_W_mul oc_multiplied kV_multiplied dc_multiplied pm_multiplied cd_multiplied ct_multiplied oc_W_rmul kV_W_rmul dc_W_rmul pm_W_rmul cd_W_rmul ct_W_rmul oc_W_neg kV_W_neg dc_W_neg pm_W_neg cd_W_neg ct_W_neg oc_W_iadd kV_W_iadd dc_W_iadd pm_W_iadd cd_W_iadd ct_W_iadd oc__law_added kV__law_added dc__law_added pm__law_added cd__law_added ct__law_added oc__law_taken kV__law_taken dc__law_taken pm__law_taken cd__law_taken ct__law_taken oc__law_put_at kV__law_put_at dc__law_put_at pm__law_put_at cd__law_put_at ct__law_put_at oc__law_tries kV__law_tries dc__law_tries pm__law_tries cd__law_tries ct__law_tries oc__law_try kV__law_try dc__law_try pm__law_try cd__law_try ct__law_try oc__law_field kV__law_field dc__law_field pm__law_field cd__law_field ct__law_field oc__law_same kV__law_same dc__law_same pm__law_same cd__law_same ct__law_same oc__law_numbers kV__law_numbers dc__law_numbers pm__law_numbers cd__law_numbers ct__law_numbers oc__law_draw kV__law_draw dc__law_draw pm__law_draw cd__law_draw ct__law_draw oc__law_some_weights kV__law_some_weights dc__law_some_weights pm__law_some_weights cd__law_some_weights ct__law_some_weights oc__law_letters kV__law_letters dc__law_letters pm__law_letters cd__law_letters ct__law_letters oc__law_some_faces kV__law_some_faces dc__law_some_faces pm__law_some_faces cd__law_some_faces ct__law_some_faces oc__law_open kV__law_open dc__law_open pm__law_open cd__law_open ct__law_open oc_law kV_law dc_law pm_law ct_law : Value} (X : K.In h) (G : h.Ns mainGlobals mg) (hfa : mg "law" = some (.ref fa))
    (gs1 : PySem.W.specialIn K (.builtin "object.__class__") "__get__" = some (some (.builtin "getset_descriptor.__get__")))
    (gs2 : PySem.W.takesIn K (.builtin "object.__class__") = some true)
    (eg_OtherFaces : PySem.W.nsIn K mainGlobals "OtherFaces" = some (some (.ref C_OtherFaces)))
    (el_OtherFaces : K.lookup C_OtherFaces = some (excClassObj nm_OtherFaces qn_OtherFaces C_OtherFaces NC_OtherFaces bs_OtherFaces bm_OtherFaces true sn_OtherFaces sub_OtherFaces ab_OtherFaces col_OtherFaces dd_OtherFaces k0_OtherFaces k1_OtherFaces (some (.str "OtherFaces" tk_OtherFaces)) k3_OtherFaces k5_OtherFaces "ValueError.__new__"))
    (eb_OtherFaces : FW.ownB [.type "ValueError", .type "Exception", .type "BaseException", .type "object"] bm_OtherFaces = true)
    (esa_OtherFaces : PySem.W.findIn K (.ref C_OtherFaces) "__setattr__" = some (some (.builtin "object.__setattr__")))
    (ex_OtherFaces : PySem.W.subIn K (.ref C_OtherFaces) (.type "BaseException") = some true)
    (ety_OtherFaces : PySem.W.typeIn K (.ref C_OtherFaces) = some (.type "type"))
    (ek_OtherFaces : PySem.W.keepIn K (.ref C_OtherFaces) = true)
    (ecl_OtherFaces : (PySem.W.clsIn K C_OtherFaces).isSome = true)
    (ega_OtherFaces : PySem.W.findIn K (.ref C_OtherFaces) "__getattribute__" = some (some (.builtin "BaseException.__getattribute__")))
    (egg_OtherFaces : PySem.W.findIn K (.ref C_OtherFaces) "__getattr__" = some none)
    (efc_OtherFaces : PySem.W.findIn K (.ref C_OtherFaces) "__class__" = some (some (.builtin "object.__class__")))
    (eob_OtherFaces : PySem.W.mroIn K C_OtherFaces (.type "object") = some true)
    (ehd_OtherFaces : PySem.W.hasDictIn K C_OtherFaces = true)
    (enc_OtherFaces : PySem.W.findIn K (.ref C_OtherFaces) "code" = some none)
    (enf_OtherFaces : PySem.W.findIn K (.ref C_OtherFaces) "given" = some none)
    (eini_OtherFaces : PySem.W.findIn K (.ref C_OtherFaces) "__init__" = some (some (.ref fI_OtherFaces)))
    (etI_OtherFaces : PySem.W.typeIn K (.ref fI_OtherFaces) = some (.type "function"))
    (elI_OtherFaces : K.lookup fI_OtherFaces = some ⟨ocI_OtherFaces, odI_OtherFaces, .func (PySem.W.fnOf "__init__" "OtherFaces.__init__" (defArgs s_OtherFaces_init) (defBody s_OtherFaces_init) (defScope s_OtherFaces_init) .none kVI_OtherFaces dcI_OtherFaces pmI_OtherFaces anI_OtherFaces cdI_OtherFaces ctI_OtherFaces), slI_OtherFaces⟩)
    (ecI_OtherFaces : PySem.W.codeIn K cdI_OtherFaces "OtherFaces.__init__" = true)
    (ekI_OtherFaces : PySem.W.keepIn K (.ref fI_OtherFaces) = true)
    (erd_OtherFaces : PySem.W.readsIn K C_OtherFaces (.type "type") = true)
    (efdn_OtherFaces : PySem.W.findCls K (.ref C_OtherFaces) (.type "type") "__name__" = some (.get (.builtin "getset_descriptor.__get__") (.builtin "type.__name__") (.ref C_OtherFaces) (.type "type")))
    (e_C1 : PySem.W.nsIn K mainGlobals "HouseError" = some (some (.ref C1)))
    (e_C2 : PySem.W.nsIn K mainGlobals "Missing" = some (some (.ref C2)))
    (e_C3 : PySem.W.nsIn K mainGlobals "NothingLeft" = some (some (.ref C3)))
    (hx_OtherFaces : PySem.W.exmAny K (.ref C_OtherFaces) [.ref C1, .ref C2, .ref C3] = some true)
    (W_g : PySem.W.nsIn K mainGlobals "Weights" = some (some (.ref CW)))
    (W_pg : PySem.W.plainGet K CW Str.empty = true)
    (W_hd : PySem.W.hasDictIn K CW = true)
    (W_po : PySem.W.plainOver K CW = true)
    (W_sa : PySem.W.findIn K (.ref CW) "__setattr__" = some (some (.builtin "object.__setattr__")))
    (W_nf : PySem.W.findIn K (.ref CW) "faces" = some none)
    (W_ne : PySem.W.findIn K (.ref CW) "_each" = some none)
    (W_nn : PySem.W.findIn K (.ref CW) "_numbers" = some none)
    (W_mk : PySem.W.makesIn K CW = true)
    (W_kp : PySem.W.keepIn K (.ref CW) = true)
    (W_init : PySem.W.findIn K (.ref CW) "__init__" = some (some (.ref f_Wi)))
    (W_ifn : PySem.W.isFn K (.ref f_Wi) = true)
    (l_Wi : K.lookup f_Wi = some ⟨oc_Wi, od_Wi, .func (PySem.W.fnOf "__init__" "Weights.__init__" (defArgs s_Weights_init) (defBody s_Weights_init) (defScope s_Weights_init) .none (.ref D_Wi) dc_Wi pm_Wi an_Wi cd_Wi ct_Wi), sl_Wi⟩)
    (c_Wi : PySem.W.codeIn K cd_Wi "Weights.__init__" = true)
    (k_Wi : PySem.W.keepIn K (.ref f_Wi) = true)
    (d_Wi : PySem.W.nsIn K D_Wi "each" = some (some (.int 0 tk_Wi)))
    (eg_InvalidFaces : PySem.W.nsIn K mainGlobals "InvalidFaces" = some (some (.ref C_InvalidFaces)))
    (el_InvalidFaces : K.lookup C_InvalidFaces = some (excClassObj nm_InvalidFaces qn_InvalidFaces C_InvalidFaces NC_InvalidFaces bs_InvalidFaces bm_InvalidFaces true sn_InvalidFaces sub_InvalidFaces ab_InvalidFaces col_InvalidFaces dd_InvalidFaces k0_InvalidFaces k1_InvalidFaces (some (.str "InvalidFaces" tk_InvalidFaces)) k3_InvalidFaces k5_InvalidFaces "ValueError.__new__"))
    (eb_InvalidFaces : PySem.HandSPX.refsVE bm_InvalidFaces = true)
    (esa_InvalidFaces : PySem.W.findIn K (.ref C_InvalidFaces) "__setattr__" = some (some (.builtin "object.__setattr__")))
    (ex_InvalidFaces : PySem.W.subIn K (.ref C_InvalidFaces) (.type "BaseException") = some true)
    (ety_InvalidFaces : PySem.W.typeIn K (.ref C_InvalidFaces) = some (.type "type"))
    (ek_InvalidFaces : PySem.W.keepIn K (.ref C_InvalidFaces) = true)
    (ecl_InvalidFaces : (PySem.W.clsIn K C_InvalidFaces).isSome = true)
    (ega_InvalidFaces : PySem.W.findIn K (.ref C_InvalidFaces) "__getattribute__" = some (some (.builtin "BaseException.__getattribute__")))
    (egg_InvalidFaces : PySem.W.findIn K (.ref C_InvalidFaces) "__getattr__" = some none)
    (efc_InvalidFaces : PySem.W.findIn K (.ref C_InvalidFaces) "__class__" = some (some (.builtin "object.__class__")))
    (eob_InvalidFaces : PySem.W.mroIn K C_InvalidFaces (.type "object") = some true)
    (ehd_InvalidFaces : PySem.W.hasDictIn K C_InvalidFaces = true)
    (enc_InvalidFaces : PySem.W.findIn K (.ref C_InvalidFaces) "code" = some none)
    (enf_InvalidFaces : PySem.W.findIn K (.ref C_InvalidFaces) "given" = some none)
    (eini_InvalidFaces : PySem.W.findIn K (.ref C_InvalidFaces) "__init__" = some (some (.ref fI_InvalidFaces)))
    (etI_InvalidFaces : PySem.W.typeIn K (.ref fI_InvalidFaces) = some (.type "function"))
    (elI_InvalidFaces : K.lookup fI_InvalidFaces = some ⟨ocI_InvalidFaces, odI_InvalidFaces, .func (PySem.W.fnOf "__init__" "InvalidFaces.__init__" (defArgs s_InvalidFaces_init) (defBody s_InvalidFaces_init) (defScope s_InvalidFaces_init) .none kVI_InvalidFaces dcI_InvalidFaces pmI_InvalidFaces anI_InvalidFaces cdI_InvalidFaces ctI_InvalidFaces), slI_InvalidFaces⟩)
    (ecI_InvalidFaces : PySem.W.codeIn K cdI_InvalidFaces "InvalidFaces.__init__" = true)
    (ekI_InvalidFaces : PySem.W.keepIn K (.ref fI_InvalidFaces) = true)
    (erd_InvalidFaces : PySem.W.readsIn K C_InvalidFaces (.type "type") = true)
    (efdn_InvalidFaces : PySem.W.findCls K (.ref C_InvalidFaces) (.type "type") "__name__" = some (.get (.builtin "getset_descriptor.__get__") (.builtin "type.__name__") (.ref C_InvalidFaces) (.type "type")))
    (eg_InvalidNumber : PySem.W.nsIn K mainGlobals "InvalidNumber" = some (some (.ref C_InvalidNumber)))
    (el_InvalidNumber : K.lookup C_InvalidNumber = some (excClassObj nm_InvalidNumber qn_InvalidNumber C_InvalidNumber NC_InvalidNumber bs_InvalidNumber bm_InvalidNumber true sn_InvalidNumber sub_InvalidNumber ab_InvalidNumber col_InvalidNumber dd_InvalidNumber k0_InvalidNumber k1_InvalidNumber (some (.str "InvalidNumber" tk_InvalidNumber)) k3_InvalidNumber k5_InvalidNumber "ValueError.__new__"))
    (eb_InvalidNumber : PySem.HandSPX.refsVE bm_InvalidNumber = true)
    (esa_InvalidNumber : PySem.W.findIn K (.ref C_InvalidNumber) "__setattr__" = some (some (.builtin "object.__setattr__")))
    (ex_InvalidNumber : PySem.W.subIn K (.ref C_InvalidNumber) (.type "BaseException") = some true)
    (ety_InvalidNumber : PySem.W.typeIn K (.ref C_InvalidNumber) = some (.type "type"))
    (ek_InvalidNumber : PySem.W.keepIn K (.ref C_InvalidNumber) = true)
    (ecl_InvalidNumber : (PySem.W.clsIn K C_InvalidNumber).isSome = true)
    (ega_InvalidNumber : PySem.W.findIn K (.ref C_InvalidNumber) "__getattribute__" = some (some (.builtin "BaseException.__getattribute__")))
    (egg_InvalidNumber : PySem.W.findIn K (.ref C_InvalidNumber) "__getattr__" = some none)
    (efc_InvalidNumber : PySem.W.findIn K (.ref C_InvalidNumber) "__class__" = some (some (.builtin "object.__class__")))
    (eob_InvalidNumber : PySem.W.mroIn K C_InvalidNumber (.type "object") = some true)
    (ehd_InvalidNumber : PySem.W.hasDictIn K C_InvalidNumber = true)
    (enc_InvalidNumber : PySem.W.findIn K (.ref C_InvalidNumber) "code" = some none)
    (enf_InvalidNumber : PySem.W.findIn K (.ref C_InvalidNumber) "given" = some none)
    (eini_InvalidNumber : PySem.W.findIn K (.ref C_InvalidNumber) "__init__" = some (some (.ref fI_InvalidNumber)))
    (etI_InvalidNumber : PySem.W.typeIn K (.ref fI_InvalidNumber) = some (.type "function"))
    (elI_InvalidNumber : K.lookup fI_InvalidNumber = some ⟨ocI_InvalidNumber, odI_InvalidNumber, .func (PySem.W.fnOf "__init__" "InvalidNumber.__init__" (defArgs s_InvalidNumber_init) (defBody s_InvalidNumber_init) (defScope s_InvalidNumber_init) .none kVI_InvalidNumber dcI_InvalidNumber pmI_InvalidNumber anI_InvalidNumber cdI_InvalidNumber ctI_InvalidNumber), slI_InvalidNumber⟩)
    (ecI_InvalidNumber : PySem.W.codeIn K cdI_InvalidNumber "InvalidNumber.__init__" = true)
    (ekI_InvalidNumber : PySem.W.keepIn K (.ref fI_InvalidNumber) = true)
    (erd_InvalidNumber : PySem.W.readsIn K C_InvalidNumber (.type "type") = true)
    (efdn_InvalidNumber : PySem.W.findCls K (.ref C_InvalidNumber) (.type "type") "__name__" = some (.get (.builtin "getset_descriptor.__get__") (.builtin "type.__name__") (.ref C_InvalidNumber) (.type "type")))
    (z__LOWER : PySem.W.nsIn K mainGlobals "_LOWER" = some (some (.str "abcdefghijklmnopqrstuvwxyz" tk__LOWER)))
    (z__MOST_FACES : PySem.W.nsIn K mainGlobals "_MOST_FACES" = some (some (.int 6 tk__MOST_FACES)))
    (a_is_string : PySem.W.nsIn K mainGlobals "is_string" = some (some (.ref f_is_string)))
    (l_is_string : K.lookup f_is_string = some ⟨oc_is_string, od_is_string, .func (PySem.W.fnOf "is_string" "is_string" (defArgs s_is_string) (defBody s_is_string) (defScope s_is_string) .none kV_is_string dc_is_string pm_is_string an_is_string cd_is_string ct_is_string), sl_is_string⟩)
    (c_is_string : PySem.W.codeIn K cd_is_string "is_string" = true)
    (k_is_string : PySem.W.keepIn K (.ref f_is_string) = true)
    (a_is_ascending : PySem.W.nsIn K mainGlobals "is_ascending" = some (some (.ref f_is_ascending)))
    (l_is_ascending : K.lookup f_is_ascending = some ⟨oc_is_ascending, od_is_ascending, .func (PySem.W.fnOf "is_ascending" "is_ascending" (defArgs s_is_ascending) (defBody s_is_ascending) (defScope s_is_ascending) .none kV_is_ascending dc_is_ascending pm_is_ascending an_is_ascending cd_is_ascending ct_is_ascending), sl_is_ascending⟩)
    (c_is_ascending : PySem.W.codeIn K cd_is_ascending "is_ascending" = true)
    (k_is_ascending : PySem.W.keepIn K (.ref f_is_ascending) = true)
    (a_is_choice : PySem.W.nsIn K mainGlobals "is_choice" = some (some (.ref f_is_choice)))
    (l_is_choice : K.lookup f_is_choice = some ⟨oc_is_choice, od_is_choice, .func (PySem.W.fnOf "is_choice" "is_choice" (defArgs s_is_choice) (defBody s_is_choice) (defScope s_is_choice) .none kV_is_choice dc_is_choice pm_is_choice an_is_choice cd_is_choice ct_is_choice), sl_is_choice⟩)
    (c_is_choice : PySem.W.codeIn K cd_is_choice "is_choice" = true)
    (k_is_choice : PySem.W.keepIn K (.ref f_is_choice) = true)
    (a_is_faces : PySem.W.nsIn K mainGlobals "is_faces" = some (some (.ref f_is_faces)))
    (l_is_faces : K.lookup f_is_faces = some ⟨oc_is_faces, od_is_faces, .func (PySem.W.fnOf "is_faces" "is_faces" (defArgs s_is_faces) (defBody s_is_faces) (defScope s_is_faces) .none kV_is_faces dc_is_faces pm_is_faces an_is_faces cd_is_faces ct_is_faces), sl_is_faces⟩)
    (c_is_faces : PySem.W.codeIn K cd_is_faces "is_faces" = true)
    (k_is_faces : PySem.W.keepIn K (.ref f_is_faces) = true)
    (a_is_integer : PySem.W.nsIn K mainGlobals "is_integer" = some (some (.ref f_is_integer)))
    (l_is_integer : K.lookup f_is_integer = some ⟨oc_is_integer, od_is_integer, .func (PySem.W.fnOf "is_integer" "is_integer" (defArgs s_is_integer) (defBody s_is_integer) (defScope s_is_integer) .none kV_is_integer dc_is_integer pm_is_integer an_is_integer cd_is_integer ct_is_integer), sl_is_integer⟩)
    (c_is_integer : PySem.W.codeIn K cd_is_integer "is_integer" = true)
    (k_is_integer : PySem.W.keepIn K (.ref f_is_integer) = true)
    (eg_InvalidFace : PySem.W.nsIn K mainGlobals "InvalidFace" = some (some (.ref C_InvalidFace)))
    (el_InvalidFace : K.lookup C_InvalidFace = some (excClassObj nm_InvalidFace qn_InvalidFace C_InvalidFace NC_InvalidFace bs_InvalidFace bm_InvalidFace true sn_InvalidFace sub_InvalidFace ab_InvalidFace col_InvalidFace dd_InvalidFace k0_InvalidFace k1_InvalidFace (some (.str "InvalidFace" tk_InvalidFace)) k3_InvalidFace k5_InvalidFace "ValueError.__new__"))
    (eb_InvalidFace : PySem.HandSPX.refsVE bm_InvalidFace = true)
    (esa_InvalidFace : PySem.W.findIn K (.ref C_InvalidFace) "__setattr__" = some (some (.builtin "object.__setattr__")))
    (ex_InvalidFace : PySem.W.subIn K (.ref C_InvalidFace) (.type "BaseException") = some true)
    (ety_InvalidFace : PySem.W.typeIn K (.ref C_InvalidFace) = some (.type "type"))
    (ek_InvalidFace : PySem.W.keepIn K (.ref C_InvalidFace) = true)
    (ecl_InvalidFace : (PySem.W.clsIn K C_InvalidFace).isSome = true)
    (ega_InvalidFace : PySem.W.findIn K (.ref C_InvalidFace) "__getattribute__" = some (some (.builtin "BaseException.__getattribute__")))
    (egg_InvalidFace : PySem.W.findIn K (.ref C_InvalidFace) "__getattr__" = some none)
    (efc_InvalidFace : PySem.W.findIn K (.ref C_InvalidFace) "__class__" = some (some (.builtin "object.__class__")))
    (eob_InvalidFace : PySem.W.mroIn K C_InvalidFace (.type "object") = some true)
    (ehd_InvalidFace : PySem.W.hasDictIn K C_InvalidFace = true)
    (enc_InvalidFace : PySem.W.findIn K (.ref C_InvalidFace) "code" = some none)
    (enf_InvalidFace : PySem.W.findIn K (.ref C_InvalidFace) "given" = some none)
    (eini_InvalidFace : PySem.W.findIn K (.ref C_InvalidFace) "__init__" = some (some (.ref fI_InvalidFace)))
    (etI_InvalidFace : PySem.W.typeIn K (.ref fI_InvalidFace) = some (.type "function"))
    (elI_InvalidFace : K.lookup fI_InvalidFace = some ⟨ocI_InvalidFace, odI_InvalidFace, .func (PySem.W.fnOf "__init__" "InvalidFace.__init__" (defArgs s_InvalidFace_init) (defBody s_InvalidFace_init) (defScope s_InvalidFace_init) .none kVI_InvalidFace dcI_InvalidFace pmI_InvalidFace anI_InvalidFace cdI_InvalidFace ctI_InvalidFace), slI_InvalidFace⟩)
    (ecI_InvalidFace : PySem.W.codeIn K cdI_InvalidFace "InvalidFace.__init__" = true)
    (ekI_InvalidFace : PySem.W.keepIn K (.ref fI_InvalidFace) = true)
    (erd_InvalidFace : PySem.W.readsIn K C_InvalidFace (.type "type") = true)
    (efdn_InvalidFace : PySem.W.findCls K (.ref C_InvalidFace) (.type "type") "__name__" = some (.get (.builtin "getset_descriptor.__get__") (.builtin "type.__name__") (.ref C_InvalidFace) (.type "type")))
    (a_is_letter : PySem.W.nsIn K mainGlobals "is_letter" = some (some (.ref f_is_letter)))
    (l_is_letter : K.lookup f_is_letter = some ⟨oc_is_letter, od_is_letter, .func (PySem.W.fnOf "is_letter" "is_letter" (defArgs s_is_letter) (defBody s_is_letter) (defScope s_is_letter) .none kV_is_letter dc_is_letter pm_is_letter an_is_letter cd_is_letter ct_is_letter), sl_is_letter⟩)
    (c_is_letter : PySem.W.codeIn K cd_is_letter "is_letter" = true)
    (k_is_letter : PySem.W.keepIn K (.ref f_is_letter) = true)
    (a_check_numbers : PySem.W.nsIn K mainGlobals "check_numbers" = some (some (.ref f_check_numbers)))
    (l_check_numbers : K.lookup f_check_numbers = some ⟨oc_check_numbers, od_check_numbers, .func (PySem.W.fnOf "check_numbers" "check_numbers" (defArgs s_check_numbers) (defBody s_check_numbers) (defScope s_check_numbers) .none kV_check_numbers dc_check_numbers pm_check_numbers an_check_numbers cd_check_numbers ct_check_numbers), sl_check_numbers⟩)
    (c_check_numbers : PySem.W.codeIn K cd_check_numbers "check_numbers" = true)
    (k_check_numbers : PySem.W.keepIn K (.ref f_check_numbers) = true)
    (at_W_getitem : PySem.W.findIn K (.ref CW) "__getitem__" = some (some (.ref f_W_getitem)))
    (fn_W_getitem : PySem.W.isFn K (.ref f_W_getitem) = true)
    (l_W_getitem : K.lookup f_W_getitem = some ⟨oc_W_getitem, od_W_getitem, .func (PySem.W.fnOf "__getitem__" "Weights.__getitem__" (defArgs s_Weights_getitem) (defBody s_Weights_getitem) (defScope s_Weights_getitem) .none kV_W_getitem dc_W_getitem pm_W_getitem an_W_getitem cd_W_getitem ct_W_getitem), sl_W_getitem⟩)
    (c_W_getitem : PySem.W.codeIn K cd_W_getitem "Weights.__getitem__" = true)
    (k_W_getitem : PySem.W.keepIn K (.ref f_W_getitem) = true)
    (fi_W_getitem : PySem.W.fnIn K f_W_getitem = true)
    (at_W_put : PySem.W.findIn K (.ref CW) "put" = some (some (.ref f_W_put)))
    (fn_W_put : PySem.W.isFn K (.ref f_W_put) = true)
    (l_W_put : K.lookup f_W_put = some ⟨oc_W_put, od_W_put, .func (PySem.W.fnOf "put" "Weights.put" (defArgs s_Weights_put) (defBody s_Weights_put) (defScope s_Weights_put) .none kV_W_put dc_W_put pm_W_put an_W_put cd_W_put ct_W_put), sl_W_put⟩)
    (c_W_put : PySem.W.codeIn K cd_W_put "Weights.put" = true)
    (k_W_put : PySem.W.keepIn K (.ref f_W_put) = true)
    (W_ns : PySem.W.noSeq K CW = true)
    (at_W_setitem : PySem.W.findIn K (.ref CW) "__setitem__" = some (some (.ref f_W_setitem)))
    (fn_W_setitem : PySem.W.isFn K (.ref f_W_setitem) = true)
    (l_W_setitem : K.lookup f_W_setitem = some ⟨oc_W_setitem, od_W_setitem, .func (PySem.W.fnOf "__setitem__" "Weights.__setitem__" (defArgs s_Weights_setitem) (defBody s_Weights_setitem) (defScope s_Weights_setitem) .none kV_W_setitem dc_W_setitem pm_W_setitem an_W_setitem cd_W_setitem ct_W_setitem), sl_W_setitem⟩)
    (c_W_setitem : PySem.W.codeIn K cd_W_setitem "Weights.__setitem__" = true)
    (k_W_setitem : PySem.W.keepIn K (.ref f_W_setitem) = true)
    (at_W_copy : PySem.W.findIn K (.ref CW) "copy" = some (some (.ref f_W_copy)))
    (fn_W_copy : PySem.W.isFn K (.ref f_W_copy) = true)
    (l_W_copy : K.lookup f_W_copy = some ⟨oc_W_copy, od_W_copy, .func (PySem.W.fnOf "copy" "Weights.copy" (defArgs s_Weights_copy) (defBody s_Weights_copy) (defScope s_Weights_copy) .none kV_W_copy dc_W_copy pm_W_copy an_W_copy cd_W_copy ct_W_copy), sl_W_copy⟩)
    (c_W_copy : PySem.W.codeIn K cd_W_copy "Weights.copy" = true)
    (k_W_copy : PySem.W.keepIn K (.ref f_W_copy) = true)
    (a_made : PySem.W.nsIn K mainGlobals "made" = some (some (.ref f_made)))
    (l_made : K.lookup f_made = some ⟨oc_made, od_made, .func (PySem.W.fnOf "made" "made" (defArgs s_made) (defBody s_made) (defScope s_made) .none kV_made dc_made pm_made an_made cd_made ct_made), sl_made⟩)
    (c_made : PySem.W.codeIn K cd_made "made" = true)
    (k_made : PySem.W.keepIn K (.ref f_made) = true)
    (at_W_add : PySem.W.findIn K (.ref CW) "__add__" = some (some (.ref f_W_add)))
    (fn_W_add : PySem.W.isFn K (.ref f_W_add) = true)
    (l_W_add : K.lookup f_W_add = some ⟨oc_W_add, od_W_add, .func (PySem.W.fnOf "__add__" "Weights.__add__" (defArgs s_Weights_add) (defBody s_Weights_add) (defScope s_Weights_add) .none kV_W_add dc_W_add pm_W_add an_W_add cd_W_add ct_W_add), sl_W_add⟩)
    (c_W_add : PySem.W.codeIn K cd_W_add "Weights.__add__" = true)
    (k_W_add : PySem.W.keepIn K (.ref f_W_add) = true)
    (W_ca : PySem.W.findIn K (.ref CW) "__class__" = some (some (.builtin "object.__class__")))
    (W_cn : PySem.W.specialIn K (.builtin "object.__class__") "__get__" = some (some (.builtin "getset_descriptor.__get__")))
    (W_ct : PySem.W.takesIn K (.builtin "object.__class__") = some true)
    (W_cm : PySem.W.mroIn K CW (.type "object") = some true)
    (W_kit : PySem.W.kitOne K (.ref CW) (.ref CW) = some true)
    (a_check_weights : PySem.W.nsIn K mainGlobals "check_weights" = some (some (.ref f_check_weights)))
    (l_check_weights : K.lookup f_check_weights = some ⟨oc_check_weights, od_check_weights, .func (PySem.W.fnOf "check_weights" "check_weights" (defArgs s_check_weights) (defBody s_check_weights) (defScope s_check_weights) .none kV_check_weights dc_check_weights pm_check_weights an_check_weights cd_check_weights ct_check_weights), sl_check_weights⟩)
    (c_check_weights : PySem.W.codeIn K cd_check_weights "check_weights" = true)
    (k_check_weights : PySem.W.keepIn K (.ref f_check_weights) = true)
    (E_at : PySem.W.findIn K (.ref CW) "each" = some (some (.ref p_each)))
    (E_get : PySem.W.specialIn K (.ref p_each) "__get__" = some (some (.builtin "property.__get__")))
    (E_tak : PySem.W.takesIn K (.ref p_each) = some true)
    (E_rec : PySem.W.recIn K p_each "property" = some (.ref f_W_each :: r_each))
    (l_W_each : K.lookup f_W_each = some ⟨oc_W_each, od_W_each, .func (PySem.W.fnOf "each" "Weights.each" (defArgs s_Weights_each) (defBody s_Weights_each) (defScope s_Weights_each) .none kV_W_each dc_W_each pm_W_each an_W_each cd_W_each ct_W_each), sl_W_each⟩)
    (c_W_each : PySem.W.codeIn K cd_W_each "Weights.each" = true)
    (k_W_each : PySem.W.keepIn K (.ref f_W_each) = true)
    (a_added : PySem.W.nsIn K mainGlobals "added" = some (some (.ref f_added)))
    (l_added : K.lookup f_added = some ⟨oc_added, od_added, .func (PySem.W.fnOf "added" "added" (defArgs s_added) (defBody s_added) (defScope s_added) .none kV_added dc_added pm_added an_added cd_added ct_added), sl_added⟩)
    (c_added : PySem.W.codeIn K cd_added "added" = true)
    (k_added : PySem.W.keepIn K (.ref f_added) = true)
    (at_W_sub : PySem.W.findIn K (.ref CW) "__sub__" = some (some (.ref f_W_sub)))
    (fn_W_sub : PySem.W.isFn K (.ref f_W_sub) = true)
    (l_W_sub : K.lookup f_W_sub = some ⟨oc_W_sub, od_W_sub, .func (PySem.W.fnOf "__sub__" "Weights.__sub__" (defArgs s_Weights_sub) (defBody s_Weights_sub) (defScope s_Weights_sub) .none kV_W_sub dc_W_sub pm_W_sub an_W_sub cd_W_sub ct_W_sub), sl_W_sub⟩)
    (c_W_sub : PySem.W.codeIn K cd_W_sub "Weights.__sub__" = true)
    (k_W_sub : PySem.W.keepIn K (.ref f_W_sub) = true)
    (W_sf : PySem.W.selfFirst K CW = true)
    (at_W_mul : PySem.W.findIn K (.ref CW) "__mul__" = some (some (.ref f_W_mul)))
    (fn_W_mul : PySem.W.isFn K (.ref f_W_mul) = true)
    (l_W_mul : K.lookup f_W_mul = some ⟨oc_W_mul, od_W_mul, .func (PySem.W.fnOf "__mul__" "Weights.__mul__" (defArgs s_Weights_mul) (defBody s_Weights_mul) (defScope s_Weights_mul) .none kV_W_mul dc_W_mul pm_W_mul an_W_mul cd_W_mul ct_W_mul), sl_W_mul⟩)
    (c_W_mul : PySem.W.codeIn K cd_W_mul "Weights.__mul__" = true)
    (k_W_mul : PySem.W.keepIn K (.ref f_W_mul) = true)
    (a_multiplied : PySem.W.nsIn K mainGlobals "multiplied" = some (some (.ref f_multiplied)))
    (l_multiplied : K.lookup f_multiplied = some ⟨oc_multiplied, od_multiplied, .func (PySem.W.fnOf "multiplied" "multiplied" (defArgs s_multiplied) (defBody s_multiplied) (defScope s_multiplied) .none kV_multiplied dc_multiplied pm_multiplied an_multiplied cd_multiplied ct_multiplied), sl_multiplied⟩)
    (c_multiplied : PySem.W.codeIn K cd_multiplied "multiplied" = true)
    (k_multiplied : PySem.W.keepIn K (.ref f_multiplied) = true)
    (at_W_rmul : PySem.W.findIn K (.ref CW) "__rmul__" = some (some (.ref f_W_rmul)))
    (fn_W_rmul : PySem.W.isFn K (.ref f_W_rmul) = true)
    (l_W_rmul : K.lookup f_W_rmul = some ⟨oc_W_rmul, od_W_rmul, .func (PySem.W.fnOf "__rmul__" "Weights.__rmul__" (defArgs s_Weights_rmul) (defBody s_Weights_rmul) (defScope s_Weights_rmul) .none kV_W_rmul dc_W_rmul pm_W_rmul an_W_rmul cd_W_rmul ct_W_rmul), sl_W_rmul⟩)
    (c_W_rmul : PySem.W.codeIn K cd_W_rmul "Weights.__rmul__" = true)
    (k_W_rmul : PySem.W.keepIn K (.ref f_W_rmul) = true)
    (W_mi : PySem.W.mroIn K CW (.type "int") = some false)
    (at_W_neg : PySem.W.findIn K (.ref CW) "__neg__" = some (some (.ref f_W_neg)))
    (fn_W_neg : PySem.W.isFn K (.ref f_W_neg) = true)
    (l_W_neg : K.lookup f_W_neg = some ⟨oc_W_neg, od_W_neg, .func (PySem.W.fnOf "__neg__" "Weights.__neg__" (defArgs s_Weights_neg) (defBody s_Weights_neg) (defScope s_Weights_neg) .none kV_W_neg dc_W_neg pm_W_neg an_W_neg cd_W_neg ct_W_neg), sl_W_neg⟩)
    (c_W_neg : PySem.W.codeIn K cd_W_neg "Weights.__neg__" = true)
    (k_W_neg : PySem.W.keepIn K (.ref f_W_neg) = true)
    (at_W_iadd : PySem.W.findIn K (.ref CW) "__iadd__" = some (some (.ref f_W_iadd)))
    (fn_W_iadd : PySem.W.isFn K (.ref f_W_iadd) = true)
    (l_W_iadd : K.lookup f_W_iadd = some ⟨oc_W_iadd, od_W_iadd, .func (PySem.W.fnOf "__iadd__" "Weights.__iadd__" (defArgs s_Weights_iadd) (defBody s_Weights_iadd) (defScope s_Weights_iadd) .none kV_W_iadd dc_W_iadd pm_W_iadd an_W_iadd cd_W_iadd ct_W_iadd), sl_W_iadd⟩)
    (c_W_iadd : PySem.W.codeIn K cd_W_iadd "Weights.__iadd__" = true)
    (k_W_iadd : PySem.W.keepIn K (.ref f_W_iadd) = true)
    (a__law_added : PySem.W.nsIn K mainGlobals "_law_added" = some (some (.ref f__law_added)))
    (l__law_added : K.lookup f__law_added = some ⟨oc__law_added, od__law_added, .func (PySem.W.fnOf "_law_added" "_law_added" (defArgs s__law_added) (defBody s__law_added) (defScope s__law_added) .none kV__law_added dc__law_added pm__law_added an__law_added cd__law_added ct__law_added), sl__law_added⟩)
    (c__law_added : PySem.W.codeIn K cd__law_added "_law_added" = true)
    (k__law_added : PySem.W.keepIn K (.ref f__law_added) = true)
    (a__law_taken : PySem.W.nsIn K mainGlobals "_law_taken" = some (some (.ref f__law_taken)))
    (l__law_taken : K.lookup f__law_taken = some ⟨oc__law_taken, od__law_taken, .func (PySem.W.fnOf "_law_taken" "_law_taken" (defArgs s__law_taken) (defBody s__law_taken) (defScope s__law_taken) .none kV__law_taken dc__law_taken pm__law_taken an__law_taken cd__law_taken ct__law_taken), sl__law_taken⟩)
    (c__law_taken : PySem.W.codeIn K cd__law_taken "_law_taken" = true)
    (k__law_taken : PySem.W.keepIn K (.ref f__law_taken) = true)
    (a__law_put_at : PySem.W.nsIn K mainGlobals "_law_put_at" = some (some (.ref f__law_put_at)))
    (l__law_put_at : K.lookup f__law_put_at = some ⟨oc__law_put_at, od__law_put_at, .func (PySem.W.fnOf "_law_put_at" "_law_put_at" (defArgs s__law_put_at) (defBody s__law_put_at) (defScope s__law_put_at) .none kV__law_put_at dc__law_put_at pm__law_put_at an__law_put_at cd__law_put_at ct__law_put_at), sl__law_put_at⟩)
    (c__law_put_at : PySem.W.codeIn K cd__law_put_at "_law_put_at" = true)
    (k__law_put_at : PySem.W.keepIn K (.ref f__law_put_at) = true)
    (a__law_tries : PySem.W.nsIn K mainGlobals "_law_tries" = some (some (.ref f__law_tries)))
    (l__law_tries : K.lookup f__law_tries = some ⟨oc__law_tries, od__law_tries, .func (PySem.W.fnOf "_law_tries" "_law_tries" (defArgs s__law_tries) (defBody s__law_tries) (defScope s__law_tries) .none kV__law_tries dc__law_tries pm__law_tries an__law_tries cd__law_tries ct__law_tries), sl__law_tries⟩)
    (c__law_tries : PySem.W.codeIn K cd__law_tries "_law_tries" = true)
    (k__law_tries : PySem.W.keepIn K (.ref f__law_tries) = true)
    (a__law_try : PySem.W.nsIn K mainGlobals "_law_try" = some (some (.ref f__law_try)))
    (l__law_try : K.lookup f__law_try = some ⟨oc__law_try, od__law_try, .func (PySem.W.fnOf "_law_try" "_law_try" (defArgs s__law_try) (defBody s__law_try) (defScope s__law_try) .none kV__law_try dc__law_try pm__law_try an__law_try cd__law_try ct__law_try), sl__law_try⟩)
    (c__law_try : PySem.W.codeIn K cd__law_try "_law_try" = true)
    (k__law_try : PySem.W.keepIn K (.ref f__law_try) = true)
    (a__law_field : PySem.W.nsIn K mainGlobals "_law_field" = some (some (.ref f__law_field)))
    (l__law_field : K.lookup f__law_field = some ⟨oc__law_field, od__law_field, .func (PySem.W.fnOf "_law_field" "_law_field" (defArgs s__law_field) (defBody s__law_field) (defScope s__law_field) .none kV__law_field dc__law_field pm__law_field an__law_field cd__law_field ct__law_field), sl__law_field⟩)
    (c__law_field : PySem.W.codeIn K cd__law_field "_law_field" = true)
    (k__law_field : PySem.W.keepIn K (.ref f__law_field) = true)
    (a__law_same : PySem.W.nsIn K mainGlobals "_law_same" = some (some (.ref f__law_same)))
    (l__law_same : K.lookup f__law_same = some ⟨oc__law_same, od__law_same, .func (PySem.W.fnOf "_law_same" "_law_same" (defArgs s__law_same) (defBody s__law_same) (defScope s__law_same) .none kV__law_same dc__law_same pm__law_same an__law_same cd__law_same ct__law_same), sl__law_same⟩)
    (c__law_same : PySem.W.codeIn K cd__law_same "_law_same" = true)
    (k__law_same : PySem.W.keepIn K (.ref f__law_same) = true)
    (a__law_numbers : PySem.W.nsIn K mainGlobals "_law_numbers" = some (some (.ref f__law_numbers)))
    (l__law_numbers : K.lookup f__law_numbers = some ⟨oc__law_numbers, od__law_numbers, .func (PySem.W.fnOf "_law_numbers" "_law_numbers" (defArgs s__law_numbers) (defBody s__law_numbers) (defScope s__law_numbers) .none kV__law_numbers dc__law_numbers pm__law_numbers an__law_numbers cd__law_numbers ct__law_numbers), sl__law_numbers⟩)
    (c__law_numbers : PySem.W.codeIn K cd__law_numbers "_law_numbers" = true)
    (k__law_numbers : PySem.W.keepIn K (.ref f__law_numbers) = true)
    (a__law_draw : PySem.W.nsIn K mainGlobals "_law_draw" = some (some (.ref f__law_draw)))
    (l__law_draw : K.lookup f__law_draw = some ⟨oc__law_draw, od__law_draw, .func (PySem.W.fnOf "_law_draw" "_law_draw" (defArgs s__law_draw) (defBody s__law_draw) (defScope s__law_draw) .none kV__law_draw dc__law_draw pm__law_draw an__law_draw cd__law_draw ct__law_draw), sl__law_draw⟩)
    (c__law_draw : PySem.W.codeIn K cd__law_draw "_law_draw" = true)
    (k__law_draw : PySem.W.keepIn K (.ref f__law_draw) = true)
    (a__law_some_weights : PySem.W.nsIn K mainGlobals "_law_some_weights" = some (some (.ref f__law_some_weights)))
    (l__law_some_weights : K.lookup f__law_some_weights = some ⟨oc__law_some_weights, od__law_some_weights, .func (PySem.W.fnOf "_law_some_weights" "_law_some_weights" (defArgs s__law_some_weights) (defBody s__law_some_weights) (defScope s__law_some_weights) .none kV__law_some_weights dc__law_some_weights pm__law_some_weights an__law_some_weights cd__law_some_weights ct__law_some_weights), sl__law_some_weights⟩)
    (c__law_some_weights : PySem.W.codeIn K cd__law_some_weights "_law_some_weights" = true)
    (k__law_some_weights : PySem.W.keepIn K (.ref f__law_some_weights) = true)
    (a__law_letters : PySem.W.nsIn K mainGlobals "_law_letters" = some (some (.ref f__law_letters)))
    (l__law_letters : K.lookup f__law_letters = some ⟨oc__law_letters, od__law_letters, .func (PySem.W.fnOf "_law_letters" "_law_letters" (defArgs s__law_letters) (defBody s__law_letters) (defScope s__law_letters) .none kV__law_letters dc__law_letters pm__law_letters an__law_letters cd__law_letters ct__law_letters), sl__law_letters⟩)
    (c__law_letters : PySem.W.codeIn K cd__law_letters "_law_letters" = true)
    (k__law_letters : PySem.W.keepIn K (.ref f__law_letters) = true)
    (a__law_some_faces : PySem.W.nsIn K mainGlobals "_law_some_faces" = some (some (.ref f__law_some_faces)))
    (l__law_some_faces : K.lookup f__law_some_faces = some ⟨oc__law_some_faces, od__law_some_faces, .func (PySem.W.fnOf "_law_some_faces" "_law_some_faces" (defArgs s__law_some_faces) (defBody s__law_some_faces) (defScope s__law_some_faces) .none kV__law_some_faces dc__law_some_faces pm__law_some_faces an__law_some_faces cd__law_some_faces ct__law_some_faces), sl__law_some_faces⟩)
    (c__law_some_faces : PySem.W.codeIn K cd__law_some_faces "_law_some_faces" = true)
    (k__law_some_faces : PySem.W.keepIn K (.ref f__law_some_faces) = true)
    (a__law_open : PySem.W.nsIn K mainGlobals "_law_open" = some (some (.ref f__law_open)))
    (l__law_open : K.lookup f__law_open = some ⟨oc__law_open, od__law_open, .func (PySem.W.fnOf "_law_open" "_law_open" (defArgs s__law_open) (defBody s__law_open) (defScope s__law_open) .none kV__law_open dc__law_open pm__law_open an__law_open cd__law_open ct__law_open), sl__law_open⟩)
    (c__law_open : PySem.W.codeIn K cd__law_open "_law_open" = true)
    (k__law_open : PySem.W.keepIn K (.ref f__law_open) = true)
    (a_law : PySem.W.nsIn K mainGlobals "law" = some (some (.ref f_law)))
    (l_law : K.lookup f_law = some ⟨oc_law, od_law, .func (PySem.W.fnOf "law" "law" (defArgs s_law) (defBody s_law) (defScope s_law) .none kV_law dc_law pm_law an_law (.ref c) ct_law), sl_law⟩)
    (c_law : PySem.W.codeIn K (.ref c) "law" = true)
    (y_isinstance : PySem.W.nsIn K mainGlobals "isinstance" = some none)
    (y_str : PySem.W.nsIn K mainGlobals "str" = some none)
    (y_all : PySem.W.nsIn K mainGlobals "all" = some none)
    (y_any : PySem.W.nsIn K mainGlobals "any" = some none)
    (y_len : PySem.W.nsIn K mainGlobals "len" = some none)
    (y_int : PySem.W.nsIn K mainGlobals "int" = some none)
    (y_list : PySem.W.nsIn K mainGlobals "list" = some none)
    (y_abs : PySem.W.nsIn K mainGlobals "abs" = some none)
    (y_bool : PySem.W.nsIn K mainGlobals "bool" = some none)
    (y_tuple : PySem.W.nsIn K mainGlobals "tuple" = some none)
    (y_zip : PySem.W.nsIn K mainGlobals "zip" = some none)
    (y_range : PySem.W.nsIn K mainGlobals "range" = some none)
    (y_enumerate : PySem.W.nsIn K mainGlobals "enumerate" = some none)
    (y_sorted : PySem.W.nsIn K mainGlobals "sorted" = some none)
    (y_dict : PySem.W.nsIn K mainGlobals "dict" = some none)
    (y_set : PySem.W.nsIn K mainGlobals "set" = some none)
    (y_sum : PySem.W.nsIn K mainGlobals "sum" = some none)
    (y_min : PySem.W.nsIn K mainGlobals "min" = some none)
    (y_max : PySem.W.nsIn K mainGlobals "max" = some none)
    (y_reversed : PySem.W.nsIn K mainGlobals "reversed" = some none)
    (y_repr : PySem.W.nsIn K mainGlobals "repr" = some none)
    (y_ord : PySem.W.nsIn K mainGlobals "ord" = some none)
    : ∃ fd : FuncData, (∀ (s : Shared) (v : Value), BindsTo s fd ⟨[v], []⟩ [("_law_script", v)]) ∧ ∀ base : Heap, K.In base → base.Ns mainGlobals mg → LamX.TabB base mg c Pt → FnOk l.prog w K mg base L2.CX0 16 fa fd ["_law_script"] (sp_law K Pt) := by
  have e := hfa.symm.trans (PySem.W.mg_of X G a_law)
  cases e
  have T : Z mg := ⟨PySem.W.mg_none_of X G y_isinstance, PySem.W.mg_none_of X G y_str, PySem.W.mg_none_of X G y_all, PySem.W.mg_none_of X G y_any, PySem.W.mg_none_of X G y_len, PySem.W.mg_none_of X G y_int, PySem.W.mg_none_of X G y_list, PySem.W.mg_none_of X G y_abs, PySem.W.mg_none_of X G y_bool, PySem.W.mg_none_of X G y_tuple, PySem.W.mg_none_of X G y_zip, PySem.W.mg_none_of X G y_range, PySem.W.mg_none_of X G y_enumerate, PySem.W.mg_none_of X G y_sorted, PySem.W.mg_none_of X G y_dict, PySem.W.mg_none_of X G y_set, PySem.W.mg_none_of X G y_sum, PySem.W.mg_none_of X G y_min, PySem.W.mg_none_of X G y_max, PySem.W.mg_none_of X G y_reversed, PySem.W.mg_none_of X G y_repr, PySem.W.mg_none_of X G y_ord⟩
  have GS : GsK K := ⟨gs1, gs2⟩
  have Fi_OtherFaces := fun_mk (st := s_OtherFaces_init) elI_OtherFaces ecI_OtherFaces ekI_OtherFaces
  have bI_OtherFaces := Fi_OtherFaces.binds (ps := ["self"]) fun _ _ _ _ _ _ us hl => match us, hl with | [_], _ => rfl
  have Kls_OtherFaces : KlsA K mg C_OtherFaces fI_OtherFaces "OtherFaces" := ⟨PySem.W.mg_of X G eg_OtherFaces, ⟨⟨"ValueError", _, _, _, PySem.F.excBase_ValueError, PySem.F.store_ValueError, _, _, _, _, _, _, _, _, _, _, _, _, _, _, _, el_OtherFaces, eb_OtherFaces⟩, esa_OtherFaces, ex_OtherFaces, ety_OtherFaces, ek_OtherFaces⟩, ⟨ecl_OtherFaces, ega_OtherFaces, egg_OtherFaces, ex_OtherFaces, efc_OtherFaces, eob_OtherFaces⟩, ⟨⟨_, tk_OtherFaces, el_OtherFaces, rfl⟩, ety_OtherFaces, erd_OtherFaces, efdn_OtherFaces⟩, ⟨ega_OtherFaces, egg_OtherFaces, ex_OtherFaces, ehd_OtherFaces⟩, enc_OtherFaces, eini_OtherFaces, etI_OtherFaces⟩
  have nf_OtherFaces := enf_OtherFaces
  have g_C1 := PySem.W.mg_of X G e_C1
  have g_C2 := PySem.W.mg_of X G e_C2
  have g_C3 := PySem.W.mg_of X G e_C3
  have Err_OtherFaces : ErrN K mg C_OtherFaces "OtherFaces" [.ref C1, .ref C2, .ref C3] := ⟨⟨_, Kls_OtherFaces⟩, hx_OtherFaces, fi_none (by decide +kernel)⟩
  have gW := PySem.W.mg_of X G W_g
  have WC : WtC K CW := ⟨⟨W_pg, W_hd, W_po, W_sa⟩, W_nf, W_ne, W_nn⟩
  have F_Wi : FunD K "__init__" "Weights.__init__" (defArgs s_Weights_init) (defBody s_Weights_init) (defScope s_Weights_init) [] [(("each" : Str), V.int 0)] f_Wi _ := ⟨⟨_, _, _, _, _, _, _, _, _, _, rfl, l_Wi, c_Wi, .inl ⟨rfl, rfl⟩, .inr ⟨D_Wi, rfl, fun q hq => by rw [List.mem_singleton.mp hq]; exact ⟨_, d_Wi, ⟨_, rfl⟩⟩⟩⟩, k_Wi⟩
  have MW : Mk K CW f_Wi := ⟨W_mk, W_init, W_ifn, W_kp⟩
  have Fi_InvalidFaces := fun_mk (st := s_InvalidFaces_init) elI_InvalidFaces ecI_InvalidFaces ekI_InvalidFaces
  have bI_InvalidFaces := Fi_InvalidFaces.binds (ps := ["self", "given"]) fun _ _ _ _ _ _ us hl => match us, hl with | [_, _], _ => rfl
  have Kls_InvalidFaces : Kls K mg C_InvalidFaces fI_InvalidFaces "InvalidFaces" := ⟨PySem.W.mg_of X G eg_InvalidFaces, ⟨⟨_, _, _, _, _, _, _, _, _, _, _, _, _, _, _, el_InvalidFaces, eb_InvalidFaces⟩, esa_InvalidFaces, ex_InvalidFaces, ety_InvalidFaces, ek_InvalidFaces⟩, ⟨ecl_InvalidFaces, ega_InvalidFaces, egg_InvalidFaces, ex_InvalidFaces, efc_InvalidFaces, eob_InvalidFaces⟩, ⟨⟨_, tk_InvalidFaces, el_InvalidFaces, rfl⟩, ety_InvalidFaces, erd_InvalidFaces, efdn_InvalidFaces⟩, ⟨ega_InvalidFaces, egg_InvalidFaces, ex_InvalidFaces, ehd_InvalidFaces⟩, enc_InvalidFaces, eini_InvalidFaces, etI_InvalidFaces⟩
  have nf_InvalidFaces := enf_InvalidFaces
  have Fi_InvalidNumber := fun_mk (st := s_InvalidNumber_init) elI_InvalidNumber ecI_InvalidNumber ekI_InvalidNumber
  have bI_InvalidNumber := Fi_InvalidNumber.binds (ps := ["self", "given"]) fun _ _ _ _ _ _ us hl => match us, hl with | [_, _], _ => rfl
  have Kls_InvalidNumber : Kls K mg C_InvalidNumber fI_InvalidNumber "InvalidNumber" := ⟨PySem.W.mg_of X G eg_InvalidNumber, ⟨⟨_, _, _, _, _, _, _, _, _, _, _, _, _, _, _, el_InvalidNumber, eb_InvalidNumber⟩, esa_InvalidNumber, ex_InvalidNumber, ety_InvalidNumber, ek_InvalidNumber⟩, ⟨ecl_InvalidNumber, ega_InvalidNumber, egg_InvalidNumber, ex_InvalidNumber, efc_InvalidNumber, eob_InvalidNumber⟩, ⟨⟨_, tk_InvalidNumber, el_InvalidNumber, rfl⟩, ety_InvalidNumber, erd_InvalidNumber, efdn_InvalidNumber⟩, ⟨ega_InvalidNumber, egg_InvalidNumber, ex_InvalidNumber, ehd_InvalidNumber⟩, enc_InvalidNumber, eini_InvalidNumber, etI_InvalidNumber⟩
  have nf_InvalidNumber := enf_InvalidNumber
  have g__LOWER := PySem.W.mg_of X G z__LOWER
  have g__MOST_FACES := PySem.W.mg_of X G z__MOST_FACES
  have F_is_string := fun_mk (st := s_is_string) l_is_string c_is_string k_is_string
  have b_is_string := F_is_string.binds (ps := ["value", "faces"]) fun _ _ _ _ _ _ us hl => match us, hl with | [_, _], _ => rfl
  have m_is_string := PySem.W.mg_of X G a_is_string
  have F_is_ascending := fun_mk (st := s_is_ascending) l_is_ascending c_is_ascending k_is_ascending
  have b_is_ascending := F_is_ascending.binds (ps := ["text"]) fun _ _ _ _ _ _ us hl => match us, hl with | [_], _ => rfl
  have m_is_ascending := PySem.W.mg_of X G a_is_ascending
  have F_is_choice := fun_mk (st := s_is_choice) l_is_choice c_is_choice k_is_choice
  have b_is_choice := F_is_choice.binds (ps := ["value", "letters", "most"]) fun _ _ _ _ _ _ us hl => match us, hl with | [_, _, _], _ => rfl
  have m_is_choice := PySem.W.mg_of X G a_is_choice
  have F_is_faces := fun_mk (st := s_is_faces) l_is_faces c_is_faces k_is_faces
  have b_is_faces := F_is_faces.binds (ps := ["value"]) fun _ _ _ _ _ _ us hl => match us, hl with | [_], _ => rfl
  have m_is_faces := PySem.W.mg_of X G a_is_faces
  have F_is_integer := fun_mk (st := s_is_integer) l_is_integer c_is_integer k_is_integer
  have b_is_integer := F_is_integer.binds (ps := ["value"]) fun _ _ _ _ _ _ us hl => match us, hl with | [_], _ => rfl
  have m_is_integer := PySem.W.mg_of X G a_is_integer
  have Fi_InvalidFace := fun_mk (st := s_InvalidFace_init) elI_InvalidFace ecI_InvalidFace ekI_InvalidFace
  have bI_InvalidFace := Fi_InvalidFace.binds (ps := ["self", "given"]) fun _ _ _ _ _ _ us hl => match us, hl with | [_, _], _ => rfl
  have Kls_InvalidFace : Kls K mg C_InvalidFace fI_InvalidFace "InvalidFace" := ⟨PySem.W.mg_of X G eg_InvalidFace, ⟨⟨_, _, _, _, _, _, _, _, _, _, _, _, _, _, _, el_InvalidFace, eb_InvalidFace⟩, esa_InvalidFace, ex_InvalidFace, ety_InvalidFace, ek_InvalidFace⟩, ⟨ecl_InvalidFace, ega_InvalidFace, egg_InvalidFace, ex_InvalidFace, efc_InvalidFace, eob_InvalidFace⟩, ⟨⟨_, tk_InvalidFace, el_InvalidFace, rfl⟩, ety_InvalidFace, erd_InvalidFace, efdn_InvalidFace⟩, ⟨ega_InvalidFace, egg_InvalidFace, ex_InvalidFace, ehd_InvalidFace⟩, enc_InvalidFace, eini_InvalidFace, etI_InvalidFace⟩
  have nf_InvalidFace := enf_InvalidFace
  have F_is_letter := fun_mk (st := s_is_letter) l_is_letter c_is_letter k_is_letter
  have b_is_letter := F_is_letter.binds (ps := ["value", "letters"]) fun _ _ _ _ _ _ us hl => match us, hl with | [_, _], _ => rfl
  have m_is_letter := PySem.W.mg_of X G a_is_letter
  have F_check_numbers := fun_mk (st := s_check_numbers) l_check_numbers c_check_numbers k_check_numbers
  have b_check_numbers := F_check_numbers.binds (ps := ["faces", "numbers"]) fun _ _ _ _ _ _ us hl => match us, hl with | [_, _], _ => rfl
  have m_check_numbers := PySem.W.mg_of X G a_check_numbers
  have F_W_getitem := fun_mk (st := s_Weights_getitem) l_W_getitem c_W_getitem k_W_getitem
  have b_W_getitem := F_W_getitem.binds (ps := ["self", "at"]) fun _ _ _ _ _ _ us hl => match us, hl with | [_, _], _ => rfl
  have mt_W_getitem : Meth K CW "__getitem__" f_W_getitem := ⟨at_W_getitem, fn_W_getitem, k_W_getitem⟩
  have F_W_put := fun_mk (st := s_Weights_put) l_W_put c_W_put k_W_put
  have b_W_put := F_W_put.binds (ps := ["self", "face", "number"]) fun _ _ _ _ _ _ us hl => match us, hl with | [_, _, _], _ => rfl
  have mt_W_put : Meth K CW "put" f_W_put := ⟨at_W_put, fn_W_put, k_W_put⟩
  have F_W_setitem := fun_mk (st := s_Weights_setitem) l_W_setitem c_W_setitem k_W_setitem
  have b_W_setitem := F_W_setitem.binds (ps := ["self", "at", "worth"]) fun _ _ _ _ _ _ us hl => match us, hl with | [_, _, _], _ => rfl
  have mt_W_setitem : Meth K CW "__setitem__" f_W_setitem := ⟨at_W_setitem, fn_W_setitem, k_W_setitem⟩
  have F_W_copy := fun_mk (st := s_Weights_copy) l_W_copy c_W_copy k_W_copy
  have b_W_copy := F_W_copy.binds (ps := ["self"]) fun _ _ _ _ _ _ us hl => match us, hl with | [_], _ => rfl
  have mt_W_copy : Meth K CW "copy" f_W_copy := ⟨at_W_copy, fn_W_copy, k_W_copy⟩
  have F_made := fun_mk (st := s_made) l_made c_made k_made
  have b_made := F_made.binds (ps := ["faces", "each", "numbers"]) fun _ _ _ _ _ _ us hl => match us, hl with | [_, _, _], _ => rfl
  have m_made := PySem.W.mg_of X G a_made
  have F_W_add := fun_mk (st := s_Weights_add) l_W_add c_W_add k_W_add
  have b_W_add := F_W_add.binds (ps := ["self", "other"]) fun _ _ _ _ _ _ us hl => match us, hl with | [_, _], _ => rfl
  have mt_W_add : Meth K CW "__add__" f_W_add := ⟨at_W_add, fn_W_add, k_W_add⟩
  have WE : BookE K CW := ⟨W_ca, W_cn, W_ct, W_cm, W_kit⟩
  have F_check_weights := fun_mk (st := s_check_weights) l_check_weights c_check_weights k_check_weights
  have b_check_weights := F_check_weights.binds (ps := ["weights", "faces"]) fun _ _ _ _ _ _ us hl => match us, hl with | [_, _], _ => rfl
  have m_check_weights := PySem.W.mg_of X G a_check_weights
  have F_W_each := fun_mk (st := s_Weights_each) l_W_each c_W_each k_W_each
  have b_W_each := F_W_each.binds (ps := ["self"]) fun _ _ _ _ _ _ us hl => match us, hl with | [_], _ => rfl
  have hpE : PropOf K CW "each" p_each f_W_each := ⟨E_at, E_get, E_tak, ⟨_, E_rec⟩⟩
  have bE := b_W_each
  have F_added := fun_mk (st := s_added) l_added c_added k_added
  have b_added := F_added.binds (ps := ["one", "other", "times"]) fun _ _ _ _ _ _ us hl => match us, hl with | [_, _, _], _ => rfl
  have m_added := PySem.W.mg_of X G a_added
  have F_W_sub := fun_mk (st := s_Weights_sub) l_W_sub c_W_sub k_W_sub
  have b_W_sub := F_W_sub.binds (ps := ["self", "other"]) fun _ _ _ _ _ _ us hl => match us, hl with | [_, _], _ => rfl
  have mt_W_sub : Meth K CW "__sub__" f_W_sub := ⟨at_W_sub, fn_W_sub, k_W_sub⟩
  have F_W_mul := fun_mk (st := s_Weights_mul) l_W_mul c_W_mul k_W_mul
  have b_W_mul := F_W_mul.binds (ps := ["self", "other"]) fun _ _ _ _ _ _ us hl => match us, hl with | [_, _], _ => rfl
  have mt_W_mul : Meth K CW "__mul__" f_W_mul := ⟨at_W_mul, fn_W_mul, k_W_mul⟩
  have F_multiplied := fun_mk (st := s_multiplied) l_multiplied c_multiplied k_multiplied
  have b_multiplied := F_multiplied.binds (ps := ["weights", "number"]) fun _ _ _ _ _ _ us hl => match us, hl with | [_, _], _ => rfl
  have m_multiplied := PySem.W.mg_of X G a_multiplied
  have F_W_rmul := fun_mk (st := s_Weights_rmul) l_W_rmul c_W_rmul k_W_rmul
  have b_W_rmul := F_W_rmul.binds (ps := ["self", "other"]) fun _ _ _ _ _ _ us hl => match us, hl with | [_, _], _ => rfl
  have mt_W_rmul : Meth K CW "__rmul__" f_W_rmul := ⟨at_W_rmul, fn_W_rmul, k_W_rmul⟩
  have F_W_neg := fun_mk (st := s_Weights_neg) l_W_neg c_W_neg k_W_neg
  have b_W_neg := F_W_neg.binds (ps := ["self"]) fun _ _ _ _ _ _ us hl => match us, hl with | [_], _ => rfl
  have mt_W_neg : Meth K CW "__neg__" f_W_neg := ⟨at_W_neg, fn_W_neg, k_W_neg⟩
  have F_W_iadd := fun_mk (st := s_Weights_iadd) l_W_iadd c_W_iadd k_W_iadd
  have b_W_iadd := F_W_iadd.binds (ps := ["self", "other"]) fun _ _ _ _ _ _ us hl => match us, hl with | [_, _], _ => rfl
  have mt_W_iadd : Meth K CW "__iadd__" f_W_iadd := ⟨at_W_iadd, fn_W_iadd, k_W_iadd⟩
  have F__law_added := fun_mk (st := s__law_added) l__law_added c__law_added k__law_added
  have b__law_added := F__law_added.binds (ps := ["_law_one", "_law_other"]) fun _ _ _ _ _ _ us hl => match us, hl with | [_, _], _ => rfl
  have m__law_added := PySem.W.mg_of X G a__law_added
  have F__law_taken := fun_mk (st := s__law_taken) l__law_taken c__law_taken k__law_taken
  have b__law_taken := F__law_taken.binds (ps := ["_law_one", "_law_other"]) fun _ _ _ _ _ _ us hl => match us, hl with | [_, _], _ => rfl
  have m__law_taken := PySem.W.mg_of X G a__law_taken
  have F__law_put_at := fun_mk (st := s__law_put_at) l__law_put_at c__law_put_at k__law_put_at
  have b__law_put_at := F__law_put_at.binds (ps := ["_law_weights", "_law_face", "_law_number"]) fun _ _ _ _ _ _ us hl => match us, hl with | [_, _, _], _ => rfl
  have m__law_put_at := PySem.W.mg_of X G a__law_put_at
  have F__law_tries := fun_mk (st := s__law_tries) l__law_tries c__law_tries k__law_tries
  have b__law_tries := F__law_tries.binds (ps := ["_law_asks"]) fun _ _ _ _ _ _ us hl => match us, hl with | [_], _ => rfl
  have m__law_tries := PySem.W.mg_of X G a__law_tries
  have F__law_try := fun_mk (st := s__law_try) l__law_try c__law_try k__law_try
  have b__law_try := F__law_try.binds (ps := ["_law_ask"]) fun _ _ _ _ _ _ us hl => match us, hl with | [_], _ => rfl
  have m__law_try := PySem.W.mg_of X G a__law_try
  have F__law_field := fun_mk (st := s__law_field) l__law_field c__law_field k__law_field
  have b__law_field := F__law_field.binds (ps := ["_law_e"]) fun _ _ _ _ _ _ us hl => match us, hl with | [_], _ => rfl
  have m__law_field := PySem.W.mg_of X G a__law_field
  have F__law_same := fun_mk (st := s__law_same) l__law_same c__law_same k__law_same
  have b__law_same := F__law_same.binds (ps := ["_law_found", "_law_due"]) fun _ _ _ _ _ _ us hl => match us, hl with | [_, _], _ => rfl
  have m__law_same := PySem.W.mg_of X G a__law_same
  have F__law_numbers := fun_mk (st := s__law_numbers) l__law_numbers c__law_numbers k__law_numbers
  have b__law_numbers := F__law_numbers.binds (ps := ["_law_weights", "_law_faces"]) fun _ _ _ _ _ _ us hl => match us, hl with | [_, _], _ => rfl
  have m__law_numbers := PySem.W.mg_of X G a__law_numbers
  have F__law_draw := fun_mk (st := s__law_draw) l__law_draw c__law_draw k__law_draw
  have b__law_draw := F__law_draw.binds (ps := ["_law_bag", "_law_many"]) fun _ _ _ _ _ _ us hl => match us, hl with | [_, _], _ => rfl
  have m__law_draw := PySem.W.mg_of X G a__law_draw
  have F__law_some_weights := fun_mk (st := s__law_some_weights) l__law_some_weights c__law_some_weights k__law_some_weights
  have b__law_some_weights := F__law_some_weights.binds (ps := ["_law_bag", "_law_faces", "_law_most"]) fun _ _ _ _ _ _ us hl => match us, hl with | [_, _, _], _ => rfl
  have m__law_some_weights := PySem.W.mg_of X G a__law_some_weights
  have F__law_letters := fun_mk (st := s__law_letters) l__law_letters c__law_letters k__law_letters
  have b__law_letters := F__law_letters.binds (ps := ["_law_bag", "_law_letters_here", "_law_many"]) fun _ _ _ _ _ _ us hl => match us, hl with | [_, _, _], _ => rfl
  have m__law_letters := PySem.W.mg_of X G a__law_letters
  have F__law_some_faces := fun_mk (st := s__law_some_faces) l__law_some_faces c__law_some_faces k__law_some_faces
  have b__law_some_faces := F__law_some_faces.binds (ps := ["_law_bag", "_law_most"]) fun _ _ _ _ _ _ us hl => match us, hl with | [_, _], _ => rfl
  have m__law_some_faces := PySem.W.mg_of X G a__law_some_faces
  have F__law_open := fun_mk (st := s__law_open) l__law_open c__law_open k__law_open
  have b__law_open := F__law_open.binds (ps := ["_law_script"]) fun _ _ _ _ _ _ us hl => match us, hl with | [_], _ => rfl
  have m__law_open := PySem.W.mg_of X G a__law_open
  refine ⟨PySem.W.fnOf "law" "law" (defArgs s_law) (defBody s_law) (defScope s_law) .none kV_law dc_law pm_law an_law (.ref c) ct_law, fun s v => .of_eq rfl, fun base _ _ TB => ?_⟩
  have FI_OtherFaces := ok_OtherFaces_init (P := l.prog) (w := w) (mg := mg) (base := base) Fi_OtherFaces GS
  have FI_InvalidFaces := ok_InvalidFaces_init (P := l.prog) (w := w) (mg := mg) (base := base) Fi_InvalidFaces GS
  have FI_InvalidNumber := ok_InvalidNumber_init (P := l.prog) (w := w) (mg := mg) (base := base) Fi_InvalidNumber GS
  have c_is_string : Cal l.prog w K mg base CX0 1 "is_string" s_is_string _ _ := ⟨_, _, ok_is_string F_is_string T, m_is_string, F_is_string, b_is_string⟩
  have c_is_ascending : Cal l.prog w K mg base CX0 1 "is_ascending" s_is_ascending _ _ := ⟨_, _, ok_is_ascending F_is_ascending T, m_is_ascending, F_is_ascending, b_is_ascending⟩
  have c_is_choice : Cal l.prog w K mg base CX0 2 "is_choice" s_is_choice _ _ := ⟨_, _, ok_is_choice F_is_choice T c_is_string c_is_ascending, m_is_choice, F_is_choice, b_is_choice⟩
  have c_is_faces : Cal l.prog w K mg base CX0 3 "is_faces" s_is_faces _ _ := ⟨_, _, ok_is_faces F_is_faces g__LOWER g__MOST_FACES c_is_choice, m_is_faces, F_is_faces, b_is_faces⟩
  have c_is_integer : Cal l.prog w K mg base CX0 1 "is_integer" s_is_integer _ _ := ⟨_, _, ok_is_integer F_is_integer T, m_is_integer, F_is_integer, b_is_integer⟩
  have FI_InvalidFace := ok_InvalidFace_init (P := l.prog) (w := w) (mg := mg) (base := base) Fi_InvalidFace GS
  have c_is_letter : Cal l.prog w K mg base CX0 1 "is_letter" s_is_letter _ _ := ⟨_, _, ok_is_letter F_is_letter T, m_is_letter, F_is_letter, b_is_letter⟩
  have cx_check_numbers : Cal l.prog w K mg base (L2.CX l.prog w) 3 "check_numbers" s_check_numbers _ _ := ⟨_, _, okx_check_numbers F_check_numbers T Kls_InvalidFace nf_InvalidFace FI_InvalidFace bI_InvalidFace Kls_InvalidNumber nf_InvalidNumber FI_InvalidNumber bI_InvalidNumber c_is_letter c_is_integer, m_check_numbers, F_check_numbers, b_check_numbers⟩
  have FIW : ∀ ks, FnKw l.prog w K mg base (L2.CX l.prog w) 4 f_Wi ks (sp_init_of K C_InvalidFaces C_InvalidFace C_InvalidNumber CW ks) := fun ks => okx_Weights_init (P := l.prog) (w := w) (mg := mg) (base := base) F_Wi T WC Kls_InvalidFaces nf_InvalidFaces FI_InvalidFaces bI_InvalidFaces Kls_InvalidNumber nf_InvalidNumber FI_InvalidNumber bI_InvalidNumber c_is_faces c_is_integer cx_check_numbers ks
  have okx_W_getitem := okx_Weights_getitem (P := l.prog) (w := w) (mg := mg) (base := base) F_W_getitem T WC Kls_InvalidFace nf_InvalidFace FI_InvalidFace bI_InvalidFace c_is_letter
  have cx_W_getitem : MCal l.prog w K mg base (L2.CX l.prog w) CW 3 "__getitem__" _ _ := ⟨_, _, mt_W_getitem, okx_W_getitem, b_W_getitem⟩
  have RX_getitem : FnR l.prog w K mg base (L2.CX l.prog w) 3 f_W_getitem (sp_Weights_getitem K C_InvalidFace CW) := (okx_W_getitem.raw b_W_getitem .nil).imp fun vs H Q E h => by rw [List.append_nil]; exact h
  have okx_W_setitem := okx_Weights_setitem (P := l.prog) (w := w) (mg := mg) (base := base) F_W_setitem T WC Kls_InvalidFace nf_InvalidFace FI_InvalidFace bI_InvalidFace Kls_InvalidNumber nf_InvalidNumber FI_InvalidNumber bI_InvalidNumber c_is_letter c_is_integer
  have cx_W_setitem : MCal l.prog w K mg base (L2.CX l.prog w) CW 3 "__setitem__" _ _ := ⟨_, _, mt_W_setitem, okx_W_setitem, b_W_setitem⟩
  have okx_W_put := okx_Weights_put (P := l.prog) (w := w) (mg := mg) (base := base) F_W_put W_ns at_W_setitem fn_W_setitem okx_W_setitem b_W_setitem
  have cx_W_put : MCal l.prog w K mg base (L2.CX l.prog w) CW 4 "put" _ _ := ⟨_, _, mt_W_put, okx_W_put, b_W_put⟩
  have c_made : Cal l.prog w K mg base CX0 6 "made" s_made _ _ := ⟨_, _, ok_made F_made T MW gW FIW, m_made, F_made, b_made⟩
  have ok_W_copy := ok_Weights_copy (P := l.prog) (w := w) (mg := mg) (base := base) F_W_copy WC c_made
  have cm_W_copy : MCal l.prog w K mg base CX0 CW 7 "copy" _ _ := ⟨_, _, mt_W_copy, ok_W_copy, b_W_copy⟩
  have c_copy := cm_W_copy
  have cx_check_weights : Cal l.prog w K mg base (L2.CX l.prog w) 3 "check_weights" s_check_weights _ _ := ⟨_, _, okx_check_weights F_check_weights T gW WC WE Kls_OtherFaces FI_OtherFaces bI_OtherFaces, m_check_weights, F_check_weights, b_check_weights⟩
  have FE := ok_Weights_each (P := l.prog) (w := w) (mg := mg) (base := base) F_W_each WC
  have c_added : Cal l.prog w K mg base CX0 7 "added" s_added _ _ := ⟨_, _, ok_added F_added WC at_W_getitem fi_W_getitem fn_W_getitem RX_getitem hpE FE bE c_made, m_added, F_added, b_added⟩
  have ow_add : OwnM l.prog w K mg base (L2.CX l.prog w) CW (PySem.dunder Operator.Add.info.2) 8 (sp_Weights_sum K C_OtherFaces CW 1) := ⟨⟨f_W_add, at_W_add, fn_W_add, ((okx_Weights_add (P := l.prog) (w := w) (mg := mg) (base := base) F_W_add WC cx_check_weights c_added).raw b_W_add .nil).imp fun vs H Q E h => by rw [List.append_nil]; exact h⟩⟩
  have ow_sub : OwnM l.prog w K mg base (L2.CX l.prog w) CW (PySem.dunder Operator.Sub.info.2) 8 (sp_Weights_sum K C_OtherFaces CW (-1)) := ⟨⟨f_W_sub, at_W_sub, fn_W_sub, ((okx_Weights_sub (P := l.prog) (w := w) (mg := mg) (base := base) F_W_sub WC cx_check_weights c_added).raw b_W_sub .nil).imp fun vs H Q E h => by rw [List.append_nil]; exact h⟩⟩
  have c_multiplied : Cal l.prog w K mg base CX0 7 "multiplied" s_multiplied _ _ := ⟨_, _, ok_multiplied F_multiplied WC at_W_getitem fi_W_getitem fn_W_getitem RX_getitem hpE FE bE c_made, m_multiplied, F_multiplied, b_multiplied⟩
  have ow_mul : OwnM l.prog w K mg base CX0 CW "__mul__" 8 (sp_Weights_mul K CW) := ⟨⟨f_W_mul, at_W_mul, fn_W_mul, ((ok_Weights_mul (P := l.prog) (w := w) (mg := mg) (base := base) F_W_mul c_is_integer c_multiplied).raw b_W_mul .nil).imp fun vs H Q E h => by rw [List.append_nil]; exact h⟩⟩
  have ow_rmul : OwnM l.prog w K mg base CX0 CW "__rmul__" 8 (sp_Weights_mul K CW) := ⟨⟨f_W_rmul, at_W_rmul, fn_W_rmul, ((ok_Weights_rmul (P := l.prog) (w := w) (mg := mg) (base := base) F_W_rmul c_is_integer c_multiplied).raw b_W_rmul .nil).imp fun vs H Q E h => by rw [List.append_nil]; exact h⟩⟩
  have ow_neg : OwnM l.prog w K mg base CX0 CW "__neg__" 8 (sp_Weights_neg K CW) := ⟨⟨f_W_neg, at_W_neg, fn_W_neg, ((ok_Weights_neg (P := l.prog) (w := w) (mg := mg) (base := base) F_W_neg c_multiplied).raw b_W_neg .nil).imp fun vs H Q E h => by rw [List.append_nil]; exact h⟩⟩
  have ow_iadd : OwnM l.prog w K mg base (L2.CX l.prog w) CW "__iadd__" 8 (sp_Weights_iadd K C_OtherFaces CW) := ⟨⟨f_W_iadd, at_W_iadd, fn_W_iadd, ((okx_Weights_iadd (P := l.prog) (w := w) (mg := mg) (base := base) F_W_iadd WC at_W_getitem fi_W_getitem fn_W_getitem RX_getitem hpE FE bE cx_check_weights c_added).raw b_W_iadd .nil).imp fun vs H Q E h => by rw [List.append_nil]; exact h⟩⟩
  have cx__law_added : Cal l.prog w K mg base (L2.CX l.prog w) 9 "_law_added" s__law_added _ _ := ⟨_, _, okx__law_added F__law_added ow_iadd W_sf, m__law_added, F__law_added, b__law_added⟩
  have cx__law_taken : Cal l.prog w K mg base (L2.CX l.prog w) 9 "_law_taken" s__law_taken _ _ := ⟨_, _, okx__law_taken F__law_taken ow_sub W_sf, m__law_taken, F__law_taken, b__law_taken⟩
  have cx__law_put_at : Cal l.prog w K mg base (L2.CX l.prog w) 5 "_law_put_at" s__law_put_at _ _ := ⟨_, _, okx__law_put_at F__law_put_at W_ns at_W_setitem fn_W_setitem okx_W_setitem b_W_setitem at_W_getitem fi_W_getitem fn_W_getitem RX_getitem, m__law_put_at, F__law_put_at, b__law_put_at⟩
  have g0 : Cal l.prog w K mg base CX0 1 "_law_same" s__law_same ["_law_found", "_law_due"] (fun _ _ _ _ => False) := ⟨_, _, nk_false, m__law_same, F__law_same, b__law_same⟩
  have g1 : Cal l.prog w K mg base CX0 2 "_law_same" s__law_same ["_law_found", "_law_due"] (sp__law_same K 0) := ⟨_, _, ok__law_same_step (n := 0) F__law_same T g0 (fun m _ _ _ _ e => absurd e (Nat.succ_ne_zero m).symm), m__law_same, F__law_same, b__law_same⟩
  have g2 : Cal l.prog w K mg base CX0 3 "_law_same" s__law_same ["_law_found", "_law_due"] (sp__law_same K 1) := ⟨_, _, ok__law_same_step (n := 1) F__law_same T g1 (fun m _ _ _ _ e h => by cases e; exact h), m__law_same, F__law_same, b__law_same⟩
  have g3 : Cal l.prog w K mg base CX0 4 "_law_same" s__law_same ["_law_found", "_law_due"] (sp__law_same K 2) := ⟨_, _, ok__law_same_step (n := 2) F__law_same T g2 (fun m _ _ _ _ e h => by cases e; exact h), m__law_same, F__law_same, b__law_same⟩
  have c__law_same : Cal l.prog w K mg base CX0 5 "_law_same" s__law_same ["_law_found", "_law_due"] (sp__law_same K 3) := ⟨_, _, ok__law_same_step (n := 3) F__law_same T g3 (fun m _ _ _ _ e h => by cases e; exact h), m__law_same, F__law_same, b__law_same⟩
  have c__law_numbers : Cal l.prog w K mg base CX0 5 "_law_numbers" s__law_numbers _ _ := ⟨_, _, ok__law_numbers F__law_numbers WC at_W_getitem fi_W_getitem fn_W_getitem RX_getitem hpE FE bE, m__law_numbers, F__law_numbers, b__law_numbers⟩
  have c__law_draw : Cal l.prog w K mg base CX0 1 "_law_draw" s__law_draw _ _ := ⟨_, _, ok__law_draw F__law_draw T, m__law_draw, F__law_draw, b__law_draw⟩
  have cW__law_draw : Cal l.prog w K mg base CX0 1 "_law_draw" s__law_draw _ _ := ⟨_, _, okW__law_draw F__law_draw T, m__law_draw, F__law_draw, b__law_draw⟩
  have c__law_some_weights : Cal l.prog w K mg base CX0 6 "_law_some_weights" s__law_some_weights _ _ := ⟨_, _, ok__law_some_weights F__law_some_weights T WC MW gW (FIW ["each"]) cx_W_put cW__law_draw, m__law_some_weights, F__law_some_weights, b__law_some_weights⟩
  have c__law_letters : Cal l.prog w K mg base CX0 2 "_law_letters" s__law_letters _ _ := ⟨_, _, ok__law_letters F__law_letters T c__law_draw, m__law_letters, F__law_letters, b__law_letters⟩
  have c__law_some_faces : Cal l.prog w K mg base CX0 3 "_law_some_faces" s__law_some_faces _ _ := ⟨_, _, ok__law_some_faces F__law_some_faces T c__law_draw c__law_letters, m__law_some_faces, F__law_some_faces, b__law_some_faces⟩
  have c__law_open : Cal l.prog w K mg base CX0 1 "_law_open" s__law_open _ _ := ⟨_, _, ok__law_open F__law_open T, m__law_open, F__law_open, b__law_open⟩
  exact ok_law T l_law c_law TB Err_OtherFaces WC gW MW FIW at_W_getitem fi_W_getitem fn_W_getitem RX_getitem cx_W_put cm_W_copy ow_add ow_sub W_sf ow_mul ow_rmul at_W_rmul at_W_mul W_mi ow_neg cx__law_added cx__law_taken cx__law_put_at hpE FE bE m__law_tries k__law_tries b__law_tries (fun b2 m sub sz => ok__law_tries (P := l.prog) (w := w) (base := b2) (k := 10) F__law_tries m sub sz F__law_try m__law_try b__law_try (ok__law_field (P := l.prog) (w := w) (mg := mg) (base := b2) F__law_field) m__law_field k__law_field b__law_field g_C1 g_C2 g_C3) c__law_same c__law_numbers c__law_draw c__law_some_weights c__law_some_faces c__law_open
end FW
open PySem PySem.W PyProof.Rows
set_option maxHeartbeats 0 in
theorem PySem.Challenge.cw_fourwalls_k41_whole_weights_reckoned_holds : PySem.Challenge.rw_fourwalls_k41_whole_weights_reckoned.Holds := by
  w_on; o_law
  refine FW.head_kmJ0 (r := FW.hR) (q := FW.hq) (K := FW.hk0.heap_1) (as := FW.has) (ts := FW.hts) (e := FW.hasE) (M := 20000) (loose := FW.hnames) (d := HandSHeadRun.topDef FW.hR.prog 41) (kwd := []) _ rfl (by kernel_rfl) (fun s => by kernel_rfl) FW.hRA FW.hRB FW.hRC (by kernel_rfl) (by kernel_rfl) (by kernel_rfl) (by rfl) (by first | assumption | decide +kernel) (by decide +kernel) ⟨rfl, rfl, rfl, rfl, rfl, by decide +kernel⟩ ?hw ?hc
  case hw => w_witness2
  k_fill
  refine' FW.walk_tab (l := PySem.Challenge.rw_fourwalls_k41_whole_weights_reckoned) (n := 63) (k := 16) (x := "_law_script") (sp := FW.sp_law) rfl (by decide) (by kernel_rfl) ⟨rfl, by decide, by decide⟩ (fun w h Y => PySem.W.km_in_of Y) (fun w h Y => PySem.W.km_tabs_of Y _ List.mem_cons_self) ?hnP ?F ?hcode ?hsp
  case hsp => exact fun pr H a ns hl hP hS => ⟨a, ns, rfl, hS, hl, hP, fun _ => rfl⟩
  case hnP => exact fun pr => by kernel_rfl
  case F =>
    intro w mg fa h KX G hmg0
    have hmg : mg ("law" : PySem.Str) = some (.ref fa) := by
      have e : (HandSHeadRun.topDef FW.hR.prog 41).name = ("law" : PySem.Str) := by kernel_rfl
      rw [← e]
      exact hmg0
    refine' FW.all_mk KX G hmg ?gs1 ?gs2 ?eg_OtherFaces ?el_OtherFaces ?eb_OtherFaces ?esa_OtherFaces ?ex_OtherFaces ?ety_OtherFaces ?ek_OtherFaces ?ecl_OtherFaces ?ega_OtherFaces ?egg_OtherFaces ?efc_OtherFaces ?eob_OtherFaces ?ehd_OtherFaces ?enc_OtherFaces ?enf_OtherFaces ?eini_OtherFaces ?etI_OtherFaces ?elI_OtherFaces ?ecI_OtherFaces ?ekI_OtherFaces ?erd_OtherFaces ?efdn_OtherFaces ?e_C1 ?e_C2 ?e_C3 ?hx_OtherFaces ?W_g ?W_pg ?W_hd ?W_po ?W_sa ?W_nf ?W_ne ?W_nn ?W_mk ?W_kp ?W_init ?W_ifn ?l_Wi ?c_Wi ?k_Wi ?d_Wi ?eg_InvalidFaces ?el_InvalidFaces ?eb_InvalidFaces ?esa_InvalidFaces ?ex_InvalidFaces ?ety_InvalidFaces ?ek_InvalidFaces ?ecl_InvalidFaces ?ega_InvalidFaces ?egg_InvalidFaces ?efc_InvalidFaces ?eob_InvalidFaces ?ehd_InvalidFaces ?enc_InvalidFaces ?enf_InvalidFaces ?eini_InvalidFaces ?etI_InvalidFaces ?elI_InvalidFaces ?ecI_InvalidFaces ?ekI_InvalidFaces ?erd_InvalidFaces ?efdn_InvalidFaces ?eg_InvalidNumber ?el_InvalidNumber ?eb_InvalidNumber ?esa_InvalidNumber ?ex_InvalidNumber ?ety_InvalidNumber ?ek_InvalidNumber ?ecl_InvalidNumber ?ega_InvalidNumber ?egg_InvalidNumber ?efc_InvalidNumber ?eob_InvalidNumber ?ehd_InvalidNumber ?enc_InvalidNumber ?enf_InvalidNumber ?eini_InvalidNumber ?etI_InvalidNumber ?elI_InvalidNumber ?ecI_InvalidNumber ?ekI_InvalidNumber ?erd_InvalidNumber ?efdn_InvalidNumber ?z__LOWER ?z__MOST_FACES ?a_is_string ?l_is_string ?c_is_string ?k_is_string ?a_is_ascending ?l_is_ascending ?c_is_ascending ?k_is_ascending ?a_is_choice ?l_is_choice ?c_is_choice ?k_is_choice ?a_is_faces ?l_is_faces ?c_is_faces ?k_is_faces ?a_is_integer ?l_is_integer ?c_is_integer ?k_is_integer ?eg_InvalidFace ?el_InvalidFace ?eb_InvalidFace ?esa_InvalidFace ?ex_InvalidFace ?ety_InvalidFace ?ek_InvalidFace ?ecl_InvalidFace ?ega_InvalidFace ?egg_InvalidFace ?efc_InvalidFace ?eob_InvalidFace ?ehd_InvalidFace ?enc_InvalidFace ?enf_InvalidFace ?eini_InvalidFace ?etI_InvalidFace ?elI_InvalidFace ?ecI_InvalidFace ?ekI_InvalidFace ?erd_InvalidFace ?efdn_InvalidFace ?a_is_letter ?l_is_letter ?c_is_letter ?k_is_letter ?a_check_numbers ?l_check_numbers ?c_check_numbers ?k_check_numbers ?at_W_getitem ?fn_W_getitem ?l_W_getitem ?c_W_getitem ?k_W_getitem ?fi_W_getitem ?at_W_put ?fn_W_put ?l_W_put ?c_W_put ?k_W_put ?W_ns ?at_W_setitem ?fn_W_setitem ?l_W_setitem ?c_W_setitem ?k_W_setitem ?at_W_copy ?fn_W_copy ?l_W_copy ?c_W_copy ?k_W_copy ?a_made ?l_made ?c_made ?k_made ?at_W_add ?fn_W_add ?l_W_add ?c_W_add ?k_W_add ?W_ca ?W_cn ?W_ct ?W_cm ?W_kit ?a_check_weights ?l_check_weights ?c_check_weights ?k_check_weights ?E_at ?E_get ?E_tak ?E_rec ?l_W_each ?c_W_each ?k_W_each ?a_added ?l_added ?c_added ?k_added ?at_W_sub ?fn_W_sub ?l_W_sub ?c_W_sub ?k_W_sub ?W_sf ?at_W_mul ?fn_W_mul ?l_W_mul ?c_W_mul ?k_W_mul ?a_multiplied ?l_multiplied ?c_multiplied ?k_multiplied ?at_W_rmul ?fn_W_rmul ?l_W_rmul ?c_W_rmul ?k_W_rmul ?W_mi ?at_W_neg ?fn_W_neg ?l_W_neg ?c_W_neg ?k_W_neg ?at_W_iadd ?fn_W_iadd ?l_W_iadd ?c_W_iadd ?k_W_iadd ?a__law_added ?l__law_added ?c__law_added ?k__law_added ?a__law_taken ?l__law_taken ?c__law_taken ?k__law_taken ?a__law_put_at ?l__law_put_at ?c__law_put_at ?k__law_put_at ?a__law_tries ?l__law_tries ?c__law_tries ?k__law_tries ?a__law_try ?l__law_try ?c__law_try ?k__law_try ?a__law_field ?l__law_field ?c__law_field ?k__law_field ?a__law_same ?l__law_same ?c__law_same ?k__law_same ?a__law_numbers ?l__law_numbers ?c__law_numbers ?k__law_numbers ?a__law_draw ?l__law_draw ?c__law_draw ?k__law_draw ?a__law_some_weights ?l__law_some_weights ?c__law_some_weights ?k__law_some_weights ?a__law_letters ?l__law_letters ?c__law_letters ?k__law_letters ?a__law_some_faces ?l__law_some_faces ?c__law_some_faces ?k__law_some_faces ?a__law_open ?l__law_open ?c__law_open ?k__law_open ?a_law ?l_law ?c_law ?y_isinstance ?y_str ?y_all ?y_any ?y_len ?y_int ?y_list ?y_abs ?y_bool ?y_tuple ?y_zip ?y_range ?y_enumerate ?y_sorted ?y_dict ?y_set ?y_sum ?y_min ?y_max ?y_reversed ?y_repr ?y_ord
    case gs1 => first | k_is | kernel_rfl
    case gs2 => first | k_is | kernel_rfl
    case eg_OtherFaces => first | k_is | kernel_rfl
    case el_OtherFaces => first | k_is | kernel_rfl
    case eb_OtherFaces => first | k_is | kernel_rfl
    case esa_OtherFaces => first | k_is | kernel_rfl
    case ex_OtherFaces => first | k_is | kernel_rfl
    case ety_OtherFaces => first | k_is | kernel_rfl
    case ek_OtherFaces => first | k_is | kernel_rfl
    case ecl_OtherFaces => first | k_is | kernel_rfl
    case ega_OtherFaces => first | k_is | kernel_rfl
    case egg_OtherFaces => first | k_is | kernel_rfl
    case efc_OtherFaces => first | k_is | kernel_rfl
    case eob_OtherFaces => first | k_is | kernel_rfl
    case ehd_OtherFaces => first | k_is | kernel_rfl
    case enc_OtherFaces => first | k_is | kernel_rfl
    case enf_OtherFaces => first | k_is | kernel_rfl
    case eini_OtherFaces => first | k_is | kernel_rfl
    case etI_OtherFaces => first | k_is | kernel_rfl
    case elI_OtherFaces => first | k_is | kernel_rfl
    case ecI_OtherFaces => first | k_is | kernel_rfl
    case ekI_OtherFaces => first | k_is | kernel_rfl
    case erd_OtherFaces => first | k_is | kernel_rfl
    case efdn_OtherFaces => first | k_is | kernel_rfl
    case e_C1 => first | k_is | kernel_rfl
    case e_C2 => first | k_is | kernel_rfl
    case e_C3 => first | k_is | kernel_rfl
    case hx_OtherFaces => first | k_is | kernel_rfl
    case W_g => first | k_is | kernel_rfl
    case W_pg => first | k_is | kernel_rfl
    case W_hd => first | k_is | kernel_rfl
    case W_po => first | k_is | kernel_rfl
    case W_sa => first | k_is | kernel_rfl
    case W_nf => first | k_is | kernel_rfl
    case W_ne => first | k_is | kernel_rfl
    case W_nn => first | k_is | kernel_rfl
    case W_mk => first | k_is | kernel_rfl
    case W_kp => first | k_is | kernel_rfl
    case W_init => first | k_is | kernel_rfl
    case W_ifn => first | k_is | kernel_rfl
    case l_Wi => first | k_is | kernel_rfl
    case c_Wi => first | k_is | kernel_rfl
    case k_Wi => first | k_is | kernel_rfl
    case d_Wi => first | k_is | kernel_rfl
    case eg_InvalidFaces => first | k_is | kernel_rfl
    case el_InvalidFaces => first | k_is | kernel_rfl
    case eb_InvalidFaces => first | k_is | kernel_rfl
    case esa_InvalidFaces => first | k_is | kernel_rfl
    case ex_InvalidFaces => first | k_is | kernel_rfl
    case ety_InvalidFaces => first | k_is | kernel_rfl
    case ek_InvalidFaces => first | k_is | kernel_rfl
    case ecl_InvalidFaces => first | k_is | kernel_rfl
    case ega_InvalidFaces => first | k_is | kernel_rfl
    case egg_InvalidFaces => first | k_is | kernel_rfl
    case efc_InvalidFaces => first | k_is | kernel_rfl
    case eob_InvalidFaces => first | k_is | kernel_rfl
    case ehd_InvalidFaces => first | k_is | kernel_rfl
    case enc_InvalidFaces => first | k_is | kernel_rfl
    case enf_InvalidFaces => first | k_is | kernel_rfl
    case eini_InvalidFaces => first | k_is | kernel_rfl
    case etI_InvalidFaces => first | k_is | kernel_rfl
    case elI_InvalidFaces => first | k_is | kernel_rfl
    case ecI_InvalidFaces => first | k_is | kernel_rfl
    case ekI_InvalidFaces => first | k_is | kernel_rfl
    case erd_InvalidFaces => first | k_is | kernel_rfl
    case efdn_InvalidFaces => first | k_is | kernel_rfl
    case eg_InvalidNumber => first | k_is | kernel_rfl
    case el_InvalidNumber => first | k_is | kernel_rfl
    case eb_InvalidNumber => first | k_is | kernel_rfl
    case esa_InvalidNumber => first | k_is | kernel_rfl
    case ex_InvalidNumber => first | k_is | kernel_rfl
    case ety_InvalidNumber => first | k_is | kernel_rfl
    case ek_InvalidNumber => first | k_is | kernel_rfl
    case ecl_InvalidNumber => first | k_is | kernel_rfl
    case ega_InvalidNumber => first | k_is | kernel_rfl
    case egg_InvalidNumber => first | k_is | kernel_rfl
    case efc_InvalidNumber => first | k_is | kernel_rfl
    case eob_InvalidNumber => first | k_is | kernel_rfl
    case ehd_InvalidNumber => first | k_is | kernel_rfl
    case enc_InvalidNumber => first | k_is | kernel_rfl
    case enf_InvalidNumber => first | k_is | kernel_rfl
    case eini_InvalidNumber => first | k_is | kernel_rfl
    case etI_InvalidNumber => first | k_is | kernel_rfl
    case elI_InvalidNumber => first | k_is | kernel_rfl
    case ecI_InvalidNumber => first | k_is | kernel_rfl
    case ekI_InvalidNumber => first | k_is | kernel_rfl
    case erd_InvalidNumber => first | k_is | kernel_rfl
    case efdn_InvalidNumber => first | k_is | kernel_rfl
    case z__LOWER => first | k_is | kernel_rfl
    case z__MOST_FACES => first | k_is | kernel_rfl
    case a_is_string => first | k_is | kernel_rfl
    case l_is_string => first | k_is | kernel_rfl
    case c_is_string => first | k_is | kernel_rfl
    case k_is_string => first | k_is | kernel_rfl
    case a_is_ascending => first | k_is | kernel_rfl
    case l_is_ascending => first | k_is | kernel_rfl
    case c_is_ascending => first | k_is | kernel_rfl
    case k_is_ascending => first | k_is | kernel_rfl
    case a_is_choice => first | k_is | kernel_rfl
    case l_is_choice => first | k_is | kernel_rfl
    case c_is_choice => first | k_is | kernel_rfl
    case k_is_choice => first | k_is | kernel_rfl
    case a_is_faces => first | k_is | kernel_rfl
    case l_is_faces => first | k_is | kernel_rfl
    case c_is_faces => first | k_is | kernel_rfl
    case k_is_faces => first | k_is | kernel_rfl
    case a_is_integer => first | k_is | kernel_rfl
    case l_is_integer => first | k_is | kernel_rfl
    case c_is_integer => first | k_is | kernel_rfl
    case k_is_integer => first | k_is | kernel_rfl
    case eg_InvalidFace => first | k_is | kernel_rfl
    case el_InvalidFace => first | k_is | kernel_rfl
    case eb_InvalidFace => first | k_is | kernel_rfl
    case esa_InvalidFace => first | k_is | kernel_rfl
    case ex_InvalidFace => first | k_is | kernel_rfl
    case ety_InvalidFace => first | k_is | kernel_rfl
    case ek_InvalidFace => first | k_is | kernel_rfl
    case ecl_InvalidFace => first | k_is | kernel_rfl
    case ega_InvalidFace => first | k_is | kernel_rfl
    case egg_InvalidFace => first | k_is | kernel_rfl
    case efc_InvalidFace => first | k_is | kernel_rfl
    case eob_InvalidFace => first | k_is | kernel_rfl
    case ehd_InvalidFace => first | k_is | kernel_rfl
    case enc_InvalidFace => first | k_is | kernel_rfl
    case enf_InvalidFace => first | k_is | kernel_rfl
    case eini_InvalidFace => first | k_is | kernel_rfl
    case etI_InvalidFace => first | k_is | kernel_rfl
    case elI_InvalidFace => first | k_is | kernel_rfl
    case ecI_InvalidFace => first | k_is | kernel_rfl
    case ekI_InvalidFace => first | k_is | kernel_rfl
    case erd_InvalidFace => first | k_is | kernel_rfl
    case efdn_InvalidFace => first | k_is | kernel_rfl
    case a_is_letter => first | k_is | kernel_rfl
    case l_is_letter => first | k_is | kernel_rfl
    case c_is_letter => first | k_is | kernel_rfl
    case k_is_letter => first | k_is | kernel_rfl
    case a_check_numbers => first | k_is | kernel_rfl
    case l_check_numbers => first | k_is | kernel_rfl
    case c_check_numbers => first | k_is | kernel_rfl
    case k_check_numbers => first | k_is | kernel_rfl
    case at_W_getitem => first | k_is | kernel_rfl
    case fn_W_getitem => first | k_is | kernel_rfl
    case l_W_getitem => first | k_is | kernel_rfl
    case c_W_getitem => first | k_is | kernel_rfl
    case k_W_getitem => first | k_is | kernel_rfl
    case fi_W_getitem => first | k_is | kernel_rfl
    case at_W_put => first | k_is | kernel_rfl
    case fn_W_put => first | k_is | kernel_rfl
    case l_W_put => first | k_is | kernel_rfl
    case c_W_put => first | k_is | kernel_rfl
    case k_W_put => first | k_is | kernel_rfl
    case W_ns => first | k_is | kernel_rfl
    case at_W_setitem => first | k_is | kernel_rfl
    case fn_W_setitem => first | k_is | kernel_rfl
    case l_W_setitem => first | k_is | kernel_rfl
    case c_W_setitem => first | k_is | kernel_rfl
    case k_W_setitem => first | k_is | kernel_rfl
    case at_W_copy => first | k_is | kernel_rfl
    case fn_W_copy => first | k_is | kernel_rfl
    case l_W_copy => first | k_is | kernel_rfl
    case c_W_copy => first | k_is | kernel_rfl
    case k_W_copy => first | k_is | kernel_rfl
    case a_made => first | k_is | kernel_rfl
    case l_made => first | k_is | kernel_rfl
    case c_made => first | k_is | kernel_rfl
    case k_made => first | k_is | kernel_rfl
    case at_W_add => first | k_is | kernel_rfl
    case fn_W_add => first | k_is | kernel_rfl
    case l_W_add => first | k_is | kernel_rfl
    case c_W_add => first | k_is | kernel_rfl
    case k_W_add => first | k_is | kernel_rfl
    case W_ca => first | k_is | kernel_rfl
    case W_cn => first | k_is | kernel_rfl
    case W_ct => first | k_is | kernel_rfl
    case W_cm => first | k_is | kernel_rfl
    case W_kit => first | k_is | kernel_rfl
    case a_check_weights => first | k_is | kernel_rfl
    case l_check_weights => first | k_is | kernel_rfl
    case c_check_weights => first | k_is | kernel_rfl
    case k_check_weights => first | k_is | kernel_rfl
    case E_at => first | k_is | kernel_rfl
    case E_get => first | k_is | kernel_rfl
    case E_tak => first | k_is | kernel_rfl
    case E_rec => first | k_is | kernel_rfl
    case l_W_each => first | k_is | kernel_rfl
    case c_W_each => first | k_is | kernel_rfl
    case k_W_each => first | k_is | kernel_rfl
    case a_added => first | k_is | kernel_rfl
    case l_added => first | k_is | kernel_rfl
    case c_added => first | k_is | kernel_rfl
    case k_added => first | k_is | kernel_rfl
    case at_W_sub => first | k_is | kernel_rfl
    case fn_W_sub => first | k_is | kernel_rfl
    case l_W_sub => first | k_is | kernel_rfl
    case c_W_sub => first | k_is | kernel_rfl
    case k_W_sub => first | k_is | kernel_rfl
    case W_sf => first | k_is | kernel_rfl
    case at_W_mul => first | k_is | kernel_rfl
    case fn_W_mul => first | k_is | kernel_rfl
    case l_W_mul => first | k_is | kernel_rfl
    case c_W_mul => first | k_is | kernel_rfl
    case k_W_mul => first | k_is | kernel_rfl
    case a_multiplied => first | k_is | kernel_rfl
    case l_multiplied => first | k_is | kernel_rfl
    case c_multiplied => first | k_is | kernel_rfl
    case k_multiplied => first | k_is | kernel_rfl
    case at_W_rmul => first | k_is | kernel_rfl
    case fn_W_rmul => first | k_is | kernel_rfl
    case l_W_rmul => first | k_is | kernel_rfl
    case c_W_rmul => first | k_is | kernel_rfl
    case k_W_rmul => first | k_is | kernel_rfl
    case W_mi => first | k_is | kernel_rfl
    case at_W_neg => first | k_is | kernel_rfl
    case fn_W_neg => first | k_is | kernel_rfl
    case l_W_neg => first | k_is | kernel_rfl
    case c_W_neg => first | k_is | kernel_rfl
    case k_W_neg => first | k_is | kernel_rfl
    case at_W_iadd => first | k_is | kernel_rfl
    case fn_W_iadd => first | k_is | kernel_rfl
    case l_W_iadd => first | k_is | kernel_rfl
    case c_W_iadd => first | k_is | kernel_rfl
    case k_W_iadd => first | k_is | kernel_rfl
    case a__law_added => first | k_is | kernel_rfl
    case l__law_added => first | k_is | kernel_rfl
    case c__law_added => first | k_is | kernel_rfl
    case k__law_added => first | k_is | kernel_rfl
    case a__law_taken => first | k_is | kernel_rfl
    case l__law_taken => first | k_is | kernel_rfl
    case c__law_taken => first | k_is | kernel_rfl
    case k__law_taken => first | k_is | kernel_rfl
    case a__law_put_at => first | k_is | kernel_rfl
    case l__law_put_at => first | k_is | kernel_rfl
    case c__law_put_at => first | k_is | kernel_rfl
    case k__law_put_at => first | k_is | kernel_rfl
    case a__law_tries => first | k_is | kernel_rfl
    case l__law_tries => first | k_is | kernel_rfl
    case c__law_tries => first | k_is | kernel_rfl
    case k__law_tries => first | k_is | kernel_rfl
    case a__law_try => first | k_is | kernel_rfl
    case l__law_try => first | k_is | kernel_rfl
    case c__law_try => first | k_is | kernel_rfl
    case k__law_try => first | k_is | kernel_rfl
    case a__law_field => first | k_is | kernel_rfl
    case l__law_field => first | k_is | kernel_rfl
    case c__law_field => first | k_is | kernel_rfl
    case k__law_field => first | k_is | kernel_rfl
    case a__law_same => first | k_is | kernel_rfl
    case l__law_same => first | k_is | kernel_rfl
    case c__law_same => first | k_is | kernel_rfl
    case k__law_same => first | k_is | kernel_rfl
    case a__law_numbers => first | k_is | kernel_rfl
    case l__law_numbers => first | k_is | kernel_rfl
    case c__law_numbers => first | k_is | kernel_rfl
    case k__law_numbers => first | k_is | kernel_rfl
    case a__law_draw => first | k_is | kernel_rfl
    case l__law_draw => first | k_is | kernel_rfl
    case c__law_draw => first | k_is | kernel_rfl
    case k__law_draw => first | k_is | kernel_rfl
    case a__law_some_weights => first | k_is | kernel_rfl
    case l__law_some_weights => first | k_is | kernel_rfl
    case c__law_some_weights => first | k_is | kernel_rfl
    case k__law_some_weights => first | k_is | kernel_rfl
    case a__law_letters => first | k_is | kernel_rfl
    case l__law_letters => first | k_is | kernel_rfl
    case c__law_letters => first | k_is | kernel_rfl
    case k__law_letters => first | k_is | kernel_rfl
    case a__law_some_faces => first | k_is | kernel_rfl
    case l__law_some_faces => first | k_is | kernel_rfl
    case c__law_some_faces => first | k_is | kernel_rfl
    case k__law_some_faces => first | k_is | kernel_rfl
    case a__law_open => first | k_is | kernel_rfl
    case l__law_open => first | k_is | kernel_rfl
    case c__law_open => first | k_is | kernel_rfl
    case k__law_open => first | k_is | kernel_rfl
    case a_law => first | k_is | kernel_rfl
    case l_law => first | k_is | kernel_rfl
    case c_law => first | k_is | kernel_rfl
    case y_isinstance => first | k_is | kernel_rfl
    case y_str => first | k_is | kernel_rfl
    case y_all => first | k_is | kernel_rfl
    case y_any => first | k_is | kernel_rfl
    case y_len => first | k_is | kernel_rfl
    case y_int => first | k_is | kernel_rfl
    case y_list => first | k_is | kernel_rfl
    case y_abs => first | k_is | kernel_rfl
    case y_bool => first | k_is | kernel_rfl
    case y_tuple => first | k_is | kernel_rfl
    case y_zip => first | k_is | kernel_rfl
    case y_range => first | k_is | kernel_rfl
    case y_enumerate => first | k_is | kernel_rfl
    case y_sorted => first | k_is | kernel_rfl
    case y_dict => first | k_is | kernel_rfl
    case y_set => first | k_is | kernel_rfl
    case y_sum => first | k_is | kernel_rfl
    case y_min => first | k_is | kernel_rfl
    case y_max => first | k_is | kernel_rfl
    case y_reversed => first | k_is | kernel_rfl
    case y_repr => first | k_is | kernel_rfl
    case y_ord => first | k_is | kernel_rfl
  case hcode => exact fun pr => by kernel_rfl
