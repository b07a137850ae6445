import PyProof.Rows.All
import Wide.All
import OpenK.AllK
import Wide.FinOn
import HandS.Base
import HandS.Call
import HandS.Words
import HandS.Head3
import HandS.HeadHook1
import KE.KNestM
import HandS.ForMost
import HandS.ForExc
import HandS.Lambda
import HandS.TupAny
import HandS.TupMul
import HandS.IsInst
import HandS.Wide
import HandS.Deep
import KE.KTupSum
import KE.DataMinMax
import PyProof.SeqIndex
import HandS.Walk
import HandS.Zip
import HandS.Conv
import KE.SortData
import HandS.Star
import HandS.ClsMeth
import HandS.Property
import HandS.CallSlots
import HandS.SlotsOwn
import KE.KOpsOwn
import KE.GoesMore
import KE.GoesZip
import KE.GoesEnum
import KE.KIndexOf
import KE.KEqDeep
import HandS.Ends
import KE.SortKeyHeap
import PyProof.Rows.Tup
import PyProof.ReprRoads
import PyProof.CallFns
import HandS.FStr
import HandS.RaiseMore
import HandS.Text
import HandS.ExcOwn
import HandS.Dict
import OpenK.KOps
import PyProof.ReprLen
import HandS.Style
import HandS.Remove
import PyProof.StrLawsRepr
import PyProof.StrBlockL
import PyProof.Raises
import PyProof.EqKinds
import HandS.Gcd
import KE.KMathGC
import KE.DataFind
import HandS.Iter
import HandS.TryOnly
import HandS.OwnEq
import KE.BitLaws
import PySem.Challenge.RW_piecetables_k46_whole_steps_or_a_knot
set_option Elab.async false
set_option linter.all false
set_option maxRecDepth 100000
set_option maxHeartbeats 4000000
/-! What the top has left, read off one run of the kernel by tests over a written part. -/
namespace DL
open PySem PySem.Spec L2 PyProof.Rows
/-- an object with its parts in sight -/
def frO {α : Type} (o : Obj) (k : Obj → α) : α := match o with
  | ⟨c, d, t, sl⟩ => k ⟨c, d, t, sl⟩
theorem frO_eq {α : Type} (o : Obj) (k : Obj → α) : frO o k = k o := rfl
/-- a written part with its spine in sight -/
def frK {α : Type} : PySem.W.Frag → (PySem.W.Frag → α) → α
  | [], k => k []
  | (a, o) :: r, k => frO o fun o => frK r fun r => k ((a, o) :: r)
theorem frK_eq {α : Type} : ∀ (K : PySem.W.Frag) (k : PySem.W.Frag → α), frK K k = k K
  | [], _ => rfl
  | (a, o) :: r, k => (frO_eq o fun o => frK r fun r => k ((a, o) :: r)).trans (frK_eq r fun r => k ((a, o) :: r))
/-- a def by its place: its object's parts are looked at as they lie -/
structure FnZ where
  ad : PySem.W.Frag → Addr
  nm : Str
  qual : Str
  st : Stmt
def FnZ.see (K : PySem.W.Frag) (d : FnZ) : He.FnV := match K.lookup (d.ad K) with
  | some ⟨_, _, .func u, _⟩ => some (u.name, u.qualname, u.params, u.body, u.scope, u.globals, u.closure, u.defaults, u.builtins)
  | _ => none
def FnZ.said (d : FnZ) : He.FnV := some (d.nm, d.qual, defArgs d.st, .stmts (defBody d.st), defScope d.st, mainGlobals, [], .none, builtinsNs)
def codeOf (K : PySem.W.Frag) (f : Addr) : Value := match K.lookup f with
  | some ⟨_, _, .func u, _⟩ => u.code
  | _ => .none
def FnZ.ok (K : PySem.W.Frag) (d : FnZ) : Bool := PySem.W.keepIn K (.ref (d.ad K)) && PySem.W.codeIn K (codeOf K (d.ad K)) d.qual
abbrev AlZ : Type := Bool × List He.FnV
def lookZ (fa : PySem.W.Frag → List Bool) (fn : List FnZ) (K : PySem.W.Frag) : AlZ := ((fa K).all id && fn.all fun d => d.ok K, fn.map fun d => d.see K)
def obsZ (fa : PySem.W.Frag → List Bool) (fn : List FnZ) (K : PySem.W.Frag) : AlZ := frK K fun K => lookZ fa fn K
def valZ (fn : List FnZ) : AlZ := (true, fn.map FnZ.said)
theorem obsZ_eq (fa : PySem.W.Frag → List Bool) (fn : List FnZ) (K : PySem.W.Frag) : obsZ fa fn K = lookZ fa fn K := frK_eq K _
def SaysZ (fa : PySem.W.Frag → List Bool) (fn : List FnZ) (K : PySem.W.Frag) : Prop := lookZ fa fn K = valZ fn
/-- the hook of these tests, over the objects at these places -/
def hookZ (as : List Addr) (fa : PySem.W.Frag → List Bool) (fn : List FnZ) : PySem.W.Hook where
  α := AlZ
  obs := fun s => obsZ fa fn (He.frG s.heap.get? as)
  val := fun _ => valZ fn
  says := fun _ h => ∃ K : PySem.W.Frag, K.In h ∧ SaysZ fa fn K
  of := fun _ _ e => ⟨_, He.frG_in, (obsZ_eq fa fn _).symm.trans e⟩
  keeps := fun _ _ _ h k => h.elim fun K q => ⟨K, PySem.W.Frag.In.keeps q.1 k, q.2⟩
def seeZ (as : List Addr) (fa : PySem.W.Frag → List Bool) (fn : List FnZ) (s : PySem.W.SharedT) : AlZ := obsZ fa fn (He.frG (HandSHeadRun.getT s) as)
theorem seeZ_eq (as : List Addr) (fa : PySem.W.Frag → List Bool) (fn : List FnZ) (s : PySem.W.SharedT) : seeZ as fa fn s = (hookZ as fa fn).obs s.abs :=
  congrArg (fun g => obsZ fa fn (He.frG g as)) (funext (HandSHeadRun.getT_eq s))
/-- one run, looked at in turn -/
theorem map3 {α β γ δ : Type} {o : Option α} {f : α → β} {g : α → γ} {h : α → δ} {b : β} {c : γ} {d : δ} (x : o.map f = some b) (y : o.map g = some c) (z : o.map h = some d) : o.map (fun s => (f s, g s, h s)) = some (b, c, d) := by
  cases o with
  | none => cases x
  | some s => exact congrArg some (Prod.ext (Option.some.inj x) (Prod.ext (Option.some.inj y) (Option.some.inj z)))
theorem map2 {α β γ : Type} {o : Option α} {g : α → β × γ} {c : β × γ} (y : o.map (fun s => (g s).1) = some c.1) (z : o.map (fun s => (g s).2) = some c.2) : o.map g = some c := by
  cases o with
  | none => cases y
  | some s => exact congrArg some (Prod.ext (Option.some.inj y) (Option.some.inj z))
/-- tests by name -/
def isInt (v : Option (Option Value)) (i : Int) : Bool := match v with
  | some (some (.int j _)) => decide (j = i)
  | _ => false
theorem isInt_ok {v : Option (Option Value)} {i : Int} (h : isInt v i = true) : ∃ t, v = some (some (.int i t)) := by
  unfold isInt at h
  split at h
  · exact ⟨_, by rw [of_decide_eq_true h]⟩
  · cases h
def isValI (v : Option PySem.W.CFound) (i : Int) : Bool := match v with
  | some (.val (.int j _)) => decide (j = i)
  | _ => false
theorem isValI_ok {v : Option PySem.W.CFound} {i : Int} (h : isValI v i = true) : ∃ t, v = some (.val (.int i t)) := by
  unfold isValI at h
  split at h
  · exact ⟨_, by rw [of_decide_eq_true h]⟩
  · cases h
/-- a property's function, and what stands behind it -/
def recL (K : PySem.W.Frag) (p : Addr) : List Value := (PySem.W.recIn K p "property").getD []
def recF (K : PySem.W.Frag) (p : Addr) : Addr := match recL K p with
  | .ref f :: _ => f
  | _ => 0
def tabC (K : PySem.W.Frag) (x : Str) : Addr := (PySem.W.tabIn K x).elim 0 Prod.fst
def tabP (K : PySem.W.Frag) (x : Str) : Addr := (PySem.W.tabIn K x).elim 0 Prod.snd
end DL

namespace P46
open PySem PySem.Spec L2 DL PyProof.Rows
def htop (i : Nat) : Stmt := PySem.Challenge.pw_piecetables_k46_whole_steps_or_a_knot.main.body.getD i (.Pass ⟨0, 0, 0, 0⟩)
def z_f_law_cell_at (K : PySem.W.Frag) : Addr := He.ga K "_law_cell_at"
def z_f_law_pen (K : PySem.W.Frag) : Addr := He.ga K "_law_pen"
def z_f_law_draw (K : PySem.W.Frag) : Addr := He.ga K "_law_draw"
def z_f_law_group (K : PySem.W.Frag) : Addr := He.ga K "_law_group"
def z_f_law_groups (K : PySem.W.Frag) : Addr := He.ga K "_law_groups"
def z_f_law_scheme (K : PySem.W.Frag) : Addr := He.ga K "_law_scheme"
def z_f_is_integer (K : PySem.W.Frag) : Addr := He.ga K "is_integer"
def z_f_is_between (K : PySem.W.Frag) : Addr := He.ga K "is_between"
def z_f_is_ascending (K : PySem.W.Frag) : Addr := He.ga K "is_ascending"
def z_f_is_group (K : PySem.W.Frag) : Addr := He.ga K "is_group"
def z_f_is_scheme (K : PySem.W.Frag) : Addr := He.ga K "is_scheme"
def z_f_check_scheme (K : PySem.W.Frag) : Addr := He.ga K "check_scheme"
def z_f_are_together (K : PySem.W.Frag) : Addr := He.ga K "are_together"
def z_f_is_shell (K : PySem.W.Frag) : Addr := He.ga K "is_shell"
def z_f_is_ring (K : PySem.W.Frag) : Addr := He.ga K "is_ring"
def z_f_ring_of (K : PySem.W.Frag) : Addr := He.ga K "ring_of"
def z_f_sets_below (K : PySem.W.Frag) : Addr := He.ga K "sets_below"
def z_f_knot (K : PySem.W.Frag) : Addr := He.ga K "knot"
def z_f_are_integers (K : PySem.W.Frag) : Addr := He.ga K "are_integers"
def z_f_shows_knot (K : PySem.W.Frag) : Addr := He.ga K "shows_knot"
def z_f_is_step (K : PySem.W.Frag) : Addr := He.ga K "is_step"
def z_f_shows_steps (K : PySem.W.Frag) : Addr := He.ga K "shows_steps"
def z_f_first_step (K : PySem.W.Frag) : Addr := He.ga K "first_step"
def z_f_steps (K : PySem.W.Frag) : Addr := He.ga K "steps"
def z_f_law_right (K : PySem.W.Frag) : Addr := He.ga K "_law_right"
def z_f_law (K : PySem.W.Frag) : Addr := He.ga K "law"
def z_c_sets_below (K : PySem.W.Frag) : Addr := tabC K "sets_below"
def z_P_sets_below (K : PySem.W.Frag) : Addr := tabP K "sets_below"
def z_C_Report (K : PySem.W.Frag) : Addr := He.ga K "Report"
def fa_0 (K : PySem.W.Frag) : List Bool := [
  decide (PySem.W.nsIn K mainGlobals "_law_cell_at" = some (some (.ref (z_f_law_cell_at K)))),
  decide (PySem.W.nsIn K mainGlobals "_law_pen" = some (some (.ref (z_f_law_pen K)))),
  decide (PySem.W.nsIn K mainGlobals "_law_draw" = some (some (.ref (z_f_law_draw K)))),
  decide (PySem.W.nsIn K mainGlobals "_law_group" = some (some (.ref (z_f_law_group K)))),
  decide (PySem.W.nsIn K mainGlobals "_law_groups" = some (some (.ref (z_f_law_groups K)))),
  decide (PySem.W.nsIn K mainGlobals "_law_scheme" = some (some (.ref (z_f_law_scheme K)))),
  decide (PySem.W.nsIn K mainGlobals "is_integer" = some (some (.ref (z_f_is_integer K)))),
  decide (PySem.W.nsIn K mainGlobals "is_between" = some (some (.ref (z_f_is_between K)))),
  decide (PySem.W.nsIn K mainGlobals "is_ascending" = some (some (.ref (z_f_is_ascending K)))),
  decide (PySem.W.nsIn K mainGlobals "is_group" = some (some (.ref (z_f_is_group K)))),
  decide (PySem.W.nsIn K mainGlobals "is_scheme" = some (some (.ref (z_f_is_scheme K)))),
  decide (PySem.W.nsIn K mainGlobals "check_scheme" = some (some (.ref (z_f_check_scheme K)))),
  decide (PySem.W.nsIn K mainGlobals "are_together" = some (some (.ref (z_f_are_together K)))),
  decide (PySem.W.nsIn K mainGlobals "is_shell" = some (some (.ref (z_f_is_shell K)))),
  decide (PySem.W.nsIn K mainGlobals "is_ring" = some (some (.ref (z_f_is_ring K)))),
  decide (PySem.W.nsIn K mainGlobals "ring_of" = some (some (.ref (z_f_ring_of K)))),
  decide (PySem.W.nsIn K mainGlobals "sets_below" = some (some (.ref (z_f_sets_below K)))),
  decide (codeOf K (z_f_sets_below K) = .ref (z_c_sets_below K)),
  PySem.W.codeHdIn K (z_c_sets_below K) (z_P_sets_below K),
  (K.lookup (z_P_sets_below K)).isNone,
  decide (PySem.W.tabIn K "sets_below" = some ((z_c_sets_below K), (z_P_sets_below K))),
  decide (PySem.W.nsIn K mainGlobals "knot" = some (some (.ref (z_f_knot K)))),
  decide (PySem.W.nsIn K mainGlobals "are_integers" = some (some (.ref (z_f_are_integers K)))),
  decide (PySem.W.nsIn K mainGlobals "shows_knot" = some (some (.ref (z_f_shows_knot K)))),
  decide (PySem.W.nsIn K mainGlobals "is_step" = some (some (.ref (z_f_is_step K)))),
  decide (PySem.W.nsIn K mainGlobals "shows_steps" = some (some (.ref (z_f_shows_steps K)))),
  decide (PySem.W.nsIn K mainGlobals "first_step" = some (some (.ref (z_f_first_step K)))),
  decide (PySem.W.nsIn K mainGlobals "steps" = some (some (.ref (z_f_steps K)))),
  decide (PySem.W.nsIn K mainGlobals "_law_right" = some (some (.ref (z_f_law_right K)))),
  decide (PySem.W.nsIn K mainGlobals "law" = some (some (.ref (z_f_law K))))]
def fa_1 (K : PySem.W.Frag) : List Bool := [
  decide (PySem.W.nsIn K mainGlobals "Report" = some (some (.ref (z_C_Report K)))),
  PySem.W.readsIn K (z_C_Report K) (.type "type"),
  decide (PySem.W.specialIn K (.ref (z_C_Report K)) "__getattribute__" = some (some (.builtin "type.__getattribute__"))),
  isValI (PySem.W.findCls K (.ref (z_C_Report K)) (.type "type") "LIMIT") 5,
  decide (PySem.W.subIn K (.type "int") (.type "bool") = some false),
  decide (PySem.W.nsIn K mainGlobals "all" = some none),
  decide (PySem.W.nsIn K mainGlobals "any" = some none),
  decide (PySem.W.nsIn K mainGlobals "bool" = some none),
  decide (PySem.W.nsIn K mainGlobals "int" = some none),
  decide (PySem.W.nsIn K mainGlobals "isinstance" = some none),
  decide (PySem.W.nsIn K mainGlobals "len" = some none),
  decide (PySem.W.nsIn K mainGlobals "list" = some none),
  decide (PySem.W.nsIn K mainGlobals "max" = some none),
  decide (PySem.W.nsIn K mainGlobals "min" = some none),
  decide (PySem.W.nsIn K mainGlobals "range" = some none),
  decide (PySem.W.nsIn K mainGlobals "sorted" = some none),
  decide (PySem.W.nsIn K mainGlobals "tuple" = some none)]
def fa (K : PySem.W.Frag) : List Bool := fa_0 K ++ (fa_1 K)
def fn_0 : List FnZ := [
  ⟨z_f_law_cell_at, "_law_cell_at", "_law_cell_at", (htop 63)⟩,
  ⟨z_f_law_pen, "_law_pen", "_law_pen", (htop 64)⟩,
  ⟨z_f_law_draw, "_law_draw", "_law_draw", (htop 65)⟩,
  ⟨z_f_law_group, "_law_group", "_law_group", (htop 66)⟩,
  ⟨z_f_law_groups, "_law_groups", "_law_groups", (htop 67)⟩,
  ⟨z_f_law_scheme, "_law_scheme", "_law_scheme", (htop 68)⟩,
  ⟨z_f_is_integer, "is_integer", "is_integer", (htop 1)⟩,
  ⟨z_f_is_between, "is_between", "is_between", (htop 2)⟩,
  ⟨z_f_is_ascending, "is_ascending", "is_ascending", (htop 4)⟩,
  ⟨z_f_is_group, "is_group", "is_group", (htop 5)⟩,
  ⟨z_f_is_scheme, "is_scheme", "is_scheme", (htop 47)⟩,
  ⟨z_f_check_scheme, "check_scheme", "check_scheme", (htop 50)⟩,
  ⟨z_f_are_together, "are_together", "are_together", (htop 58)⟩,
  ⟨z_f_is_shell, "is_shell", "is_shell", (htop 59)⟩,
  ⟨z_f_is_ring, "is_ring", "is_ring", (htop 60)⟩,
  ⟨z_f_ring_of, "ring_of", "ring_of", (htop 61)⟩,
  ⟨z_f_sets_below, "sets_below", "sets_below", (htop 54)⟩,
  ⟨z_f_knot, "knot", "knot", (htop 56)⟩,
  ⟨z_f_are_integers, "are_integers", "are_integers", (htop 3)⟩,
  ⟨z_f_shows_knot, "shows_knot", "shows_knot", (htop 57)⟩,
  ⟨z_f_is_step, "is_step", "is_step", (htop 52)⟩,
  ⟨z_f_shows_steps, "shows_steps", "shows_steps", (htop 49)⟩,
  ⟨z_f_first_step, "first_step", "first_step", (htop 51)⟩,
  ⟨z_f_steps, "steps", "steps", (htop 48)⟩,
  ⟨z_f_law_right, "_law_right", "_law_right", (htop 69)⟩,
  ⟨z_f_law, "law", "law", (htop 70)⟩]
def fn : List FnZ := fn_0
def adrs : List Addr := [2, 3, 15, 17, 18, 20, 21, 22, 24, 25, 27, 28, 29, 32, 33, 34, 37, 38, 39, 42, 43, 44, 47, 48, 49, 51, 52, 54, 55, 56, 63, 64, 65, 66, 69, 76, 77, 78, 81, 88] ++ ([89, 90, 93, 100, 101, 102, 105, 112, 113, 114, 117, 124, 125, 126, 129, 136, 137, 138, 141, 148, 149, 150, 153, 160, 161, 162, 165, 172, 173, 174, 177, 184, 185, 186, 189, 196, 197, 198, 201, 208] ++ ([210, 211, 213, 214, 215, 216, 217, 220, 222, 223, 225, 226, 227, 230, 231, 232, 234, 235, 237, 238, 239, 242, 243, 244, 246, 247, 249, 250, 251, 254, 255, 256, 258, 259, 261, 262, 263, 266, 267, 275] ++ ([277, 278, 280, 281, 282, 284, 285, 287, 288, 289, 290, 292, 293, 295, 296, 297, 298, 300, 301, 303, 304, 305, 306, 309, 310, 311, 313, 314, 316, 317, 318, 320, 321, 323, 324, 325, 328, 329, 330, 333] ++ ([334, 335, 337, 338, 340, 341, 342, 344, 345, 347, 348, 349, 351, 352, 354, 355, 356, 358, 359, 361, 362, 363, 364, 365, 366, 367, 370, 373, 374, 375, 377, 378, 380, 381, 382, 384, 385, 387, 388, 396] ++ ([399, 400, 401, 403, 404, 406, 407, 408, 409, 411, 412, 414, 415, 416, 417, 419, 420, 422, 423, 424, 425, 427, 428, 430, 431, 432, 433, 435, 436, 438, 439, 440, 442, 443, 445, 446, 447, 449, 450, 452] ++ ([453, 454, 457, 458, 459, 461, 462, 464, 465, 466, 468, 469, 471, 472, 473, 475, 476, 478, 479, 480, 483, 484, 485, 487, 488, 490, 491, 492, 493, 494, 495, 496, 497, 498, 499, 502, 505, 506, 507, 510] ++ ([511, 512, 515, 516, 517, 519, 520, 522, 523, 524, 527, 528, 529, 531, 532, 534, 535, 536, 538, 539, 541, 542, 543, 545, 546, 548, 549, 550, 552, 553, 555, 556, 557, 560, 561, 562, 565, 566, 567, 569] ++ ([570, 572, 573, 574, 576, 577, 579, 580, 581, 584, 585, 586, 589, 590, 591, 593, 594, 596, 597, 598, 601, 602, 603, 605, 606, 608, 609, 610, 612, 613, 615, 616, 617, 619, 620, 622, 623, 624, 626, 627] ++ ([629, 630, 631, 634, 635, 636, 638, 639, 641, 642, 643, 645, 646, 648, 649, 650, 652, 653, 655, 656])))))))))
abbrev R : PySem.W.OpenRow := PySem.W.OpenLaw.row PySem.Challenge.rw_piecetables_k46_whole_steps_or_a_knot
abbrev qv : Program := PySem.W.view R.prog [54, 70]
def names : List Str := (["is_integer", "is_between", "are_integers", "is_ascending", "is_group", "is_row", "are_counts", "PieceError", "NoVariables", "NoCounts"] : List Str) ++ ((["NoRow", "NoFactor", "NoMany", "NoPiece", "NoTotal", "NoReport", "NoNumber", "NoScheme", "NoText", "TooMany"] : List Str) ++ ((["check_limit", "all_rows", "place_of", "part_places", "part_sums", "MOST_DIGITS", "spaced", "number_in", "numbers_in", "MOST_VARIABLES"] : List Str) ++ ((["Piece", "has_all", "is_piece", "piece_line", "Report", "check_pieces", "moved", "report_in", "piece_in", "is_scheme"] : List Str) ++ ((["steps", "shows_steps", "check_scheme", "first_step", "is_step", "knot", "shows_knot", "are_together", "is_shell", "is_ring"] : List Str) ++ ((["ring_of", "_law_cell_at", "_law_pen", "_law_draw", "_law_group", "_law_groups", "_law_scheme", "_law_right"] : List Str))))))
abbrev hk : PySem.W.Hook := hookZ adrs fa fn
theorem run (w : World) : HandSHeadRun.RunEq R qv hk (seeZ adrs fa fn) 11982 names w := by
  intro os
  kernel_rfl
end P46

/-! The data layer, 1: data, what they lie as, the stores, the judgements. -/
namespace DL
open PySem PySem.Spec L2

/-- data: what stands behind a value; mut i: the i-th changing object -/
inductive D where
  | non | bl (b : Bool) | int (i : Int) | str (x : Str)
  | tup (xs : List D) | tupw (xs : List D) | tupp (xs : List D) | lst (xs : List D) | scr (xs : List D)
  | mu (i : Nat)
  | ins (c : Nat) (fs : List D)
  | ty (n : String) | cl (c : Nat)

/-- the classes: where they stand, their attributes in the order of __init__ -/
structure Cl where
  cls : Nat → Addr
  nm : Nat → List Str
  xcls : Nat → Addr
  xnm : Nat → List Str
  /-- the tables of code objects of the defs that hold a lambda -/
  tabs : List (Addr × Str)

/-- the changing objects' places; ghosts: lists that only a rule changes -/
structure Ax where
  al : List Addr
  gh : List Addr
def Ax.gst (A : Ax) (p : Addr) : Ax := ⟨A.al, p :: A.gh⟩
def Ax.Mt (A : Ax) (a : Addr) : Prop := a ∈ A.al ∨ a ∈ A.gh

/-- a list of the written part -/
def KL (K : PySem.W.Frag) (a : Addr) (xs : List V) : Prop :=
  ∃ (o : Obj) (its : Array Value) (n : Nat), K.lookup a = some o ∧ o.cls = .type "list" ∧ o.dict = none ∧ o.data = .seq its n ∧ its.size ≤ sizeLine ∧ Vals xs its.toList

/-- the script: a list that stays -/
def ScrAt (K : PySem.W.Frag) (A : Ax) (H : Hp) (a : Addr) (vs : List V) : Prop := (∃ o, H a = some (.frz o (.lst vs))) ∨ KL K a vs ∨ (H a = some (.lst vs) ∧ ¬ A.Mt a)
theorem ScrAt.sq {K : PySem.W.Frag} {A : Ax} {H : Hp} {a : Addr} {vs : List V} (h : ScrAt K A H a vs) : SqL K H a vs := by
  rcases h with ⟨o, h⟩ | h | ⟨h, _⟩
  · exact .inl (.inr ⟨o, h⟩)
  · exact .inr h
  · exact .of h
mutual
inductive Rep (T : Cl) (K : PySem.W.Frag) (A : Ax) (H : Hp) : V → D → Prop
  | non : Rep T K A H .non .non
  | bl (b : Bool) : Rep T K A H (.bl b) (.bl b)
  | int (i : Int) : Rep T K A H (.int i) (.int i)
  | str (x : Str) : Rep T K A H (.str x) (.str x)
  | tup {a : Addr} {o : Obj} {vs : List V} {ds : List D} : H a = some (.frz o (.tup vs)) → o.dict = none → Reps T K A H vs ds → Rep T K A H (.ref a) (.tup ds)
  | tupw {a : Addr} {vs : List V} {ds : List D} : SqT K H a vs → Reps T K A H vs ds → Rep T K A H (.ref a) (.tupw ds)
  | tupp {a : Addr} {vs : List V} {ds : List D} : H a = some (.tup vs) → Reps T K A H vs ds → Rep T K A H (.ref a) (.tupp ds)
  | lst {a : Addr} {vs : List V} {ds : List D} : H a = some (.lst vs) → ¬ A.Mt a → Reps T K A H vs ds → Rep T K A H (.ref a) (.lst ds)
  | scr {a : Addr} {vs : List V} {ds : List D} : ScrAt K A H a vs → Reps T K A H vs ds → Rep T K A H (.ref a) (.scr ds)
  | mu {a : Addr} {i : Nat} : A.al[i]? = some a → Rep T K A H (.ref a) (.mu i)
  | ins {a dx : Addr} {c : Nat} {vs : List V} {ds : List D} : H a = some (.ins (T.cls c) dx ((T.nm c).zip vs)) → (T.nm c).length = vs.length → ¬ A.Mt a → Reps T K A H vs ds → Rep T K A H (.ref a) (.ins c ds)
  | ty (n : String) : Rep T K A H (.ty n) (.ty n)
  | cl (c : Nat) : Rep T K A H (.ref (T.cls c)) (.cl c)
inductive Reps (T : Cl) (K : PySem.W.Frag) (A : Ax) (H : Hp) : List V → List D → Prop
  | nil : Reps T K A H [] []
  | cons {v : V} {vs : List V} {d : D} {ds : List D} : Rep T K A H v d → Reps T K A H vs ds → Reps T K A H (v :: vs) (d :: ds)
end

/-- a changing object: a list, or an object while it is made -/
inductive MC where
  | lst (ds : List D)
  | dic (kvs : List (List Int × D))
  | obj (c : Nat) (fs : List (Str × D))
abbrev Mu := List MC
/-- a key of a dict: numbers in a tuple -/
def keyI (p : List Int × D) : List Key := p.1.map Sum.inl
def MRep (T : Cl) (K : PySem.W.Frag) (A : Ax) (H : Hp) (a : Addr) : MC → Prop
  | .lst ds => ∃ vs, H a = some (.lst vs) ∧ Reps T K A H vs ds
  | .dic kvs => ∃ vs, H a = some (.dT ((kvs.map keyI).zip vs)) ∧ Reps T K A H vs (kvs.map (·.2))
  | .obj c fs => ∃ dx vs, H a = some (.ins (T.cls c) dx ((fs.map (·.1)).zip vs)) ∧ Reps T K A H vs (fs.map (·.2))

/-- no object is known there, but a table may -/
def Nt (H : Hp) (a : Addr) : Prop := ∀ o, H a = some o → ∃ ps, o = .tbl ps
theorem Nt.of {H : Hp} {a : Addr} (h : H a = none) : Nt H a := fun o e => by rw [h] at e; cases e
theorem nt_same {H : Hp} {a : Addr} {u : HO} (k : ∀ ps, u ≠ .tbl ps) : ¬ Nt (upd H a u) a := fun z => by
  obtain ⟨ps, y⟩ := z _ upd_same
  exact k ps y
theorem nt_ne {H : Hp} {a b : Addr} {u : HO} (e : b ≠ a) (h : ¬ Nt H b) : ¬ Nt (upd H a u) b := fun z => h fun o q => z o (by rw [upd_ne e]; exact q)
theorem nt_frz {o : Obj} {u : HO} : ∀ ps, HO.frz o u ≠ .tbl ps := fun _ z => nomatch z
theorem nt_tup {vs : List V} : ∀ ps, HO.tup vs ≠ .tbl ps := fun _ z => nomatch z
theorem nt_lst {vs : List V} : ∀ ps, HO.lst vs ≠ .tbl ps := fun _ z => nomatch z
theorem nt_dT {vs : List (List Key × V)} : ∀ ps, HO.dT vs ≠ .tbl ps := fun _ z => nomatch z
theorem nt_ins {k dx : Addr} {vs : List (Str × V)} : ∀ ps, HO.ins k dx vs ≠ .tbl ps := fun _ z => nomatch z
/-- the store -/
structure Rl (T : Cl) (K : PySem.W.Frag) (A : Ax) (H : Hp) (μ : Mu) : Prop where
  len : A.al.length = μ.length
  nd : A.al.Nodup
  at_ : ∀ (i : Nat) (c : MC), μ[i]? = some c → ∃ a, A.al[i]? = some a ∧ MRep T K A H a c
  gh : ∀ a ∈ A.gh, a ∉ A.al ∧ ¬ Nt H a
  tb : LamX.Tabs T.tabs H

abbrev Env := List (Option D)
def RE (T : Cl) (K : PySem.W.Frag) (A : Ax) (H : Hp) (σ : St) (ρ : Env) : Prop := σ.length = ρ.length ∧ ∀ (i : Nat) (d : D), ρ[i]? = some (some d) → ∃ v, σ[i]? = some (some v) ∧ Rep T K A H v d

/-- what a step may do to all that it doesn't know -/
structure Ext (A : Ax) (H : Hp) (A' : Ax) (H' : Hp) : Prop where
  pre : ∃ e, A'.al = A.al ++ e
  gh : ∀ a, a ∈ A'.gh → a ∈ A.gh ∨ Nt H a
  ghk : ∀ a, a ∈ A.gh → a ∈ A'.gh
  keep : ∀ a o, a ∉ A.al → (∀ ps, o ≠ .tbl ps) → H a = some o → H' a = some o
  new : ∀ a, a ∈ A'.al → a ∈ A.al ∨ Nt H a

theorem Ext.of {A A' : Ax} {H H' : Hp} (p : ∃ e, A'.al = A.al ++ e) (g : ∀ a, a ∈ A'.gh → a ∈ A.gh ∨ H a = none) (k : ∀ a, a ∈ A.gh → a ∈ A'.gh) (kp : ∀ a o, a ∉ A.al → H a = some o → H' a = some o) (n : ∀ a, a ∈ A'.al → a ∈ A.al ∨ H a = none) : Ext A H A' H' :=
  ⟨p, fun a h => (g a h).imp id .of, k, fun a o n _ e => kp a o n e, fun a h => (n a h).imp id .of⟩
theorem Ext.refl (A : Ax) (H : Hp) : Ext A H A H := ⟨⟨[], by simp⟩, fun _ h => .inl h, fun _ h => h, fun _ _ _ _ h => h, fun _ h => .inl h⟩
theorem Ext.none {A A' : Ax} {H H' : Hp} (x : Ext A H A' H') {a : Addr} (h : Nt H' a) : a ∈ A.al ∨ Nt H a := by
  by_cases n : a ∈ A.al
  · exact .inl n
  · refine .inr fun o e => ?_
    false_or_by_contra
    rename_i k
    exact k (h o (x.keep a o n (fun ps z => k ⟨ps, z⟩) e))
theorem Ext.same {A : Ax} {H H' : Hp} (h : Same H H') : Ext A H A H' := ⟨⟨[], by simp⟩, fun _ h => .inl h, fun _ h => h, fun a o _ _ e => h a o e, fun _ h => .inl h⟩
theorem Ext.at_ {A A' : Ax} {H H' : Hp} (x : Ext A H A' H') {i : Nat} {a : Addr} (h : A.al[i]? = some a) : A'.al[i]? = some a := by
  obtain ⟨e, q⟩ := x.pre
  rw [q, List.getElem?_append_left (List.getElem?_eq_some_iff.mp h).1]
  exact h
theorem Ext.nmt {A A' : Ax} {H H' : Hp} (x : Ext A H A' H') {a : Addr} {o : HO} (h : H a = some o) (n : ¬ A.Mt a) (k : ∀ ps, o ≠ .tbl ps) : ¬ A'.Mt a := by
  intro q
  rcases q with q | q
  · rcases x.new a q with q | q
    · exact n (.inl q)
    · obtain ⟨ps, z⟩ := q _ h; exact k ps z
  · rcases x.gh a q with q | q
    · exact n (.inr q)
    · obtain ⟨ps, z⟩ := q _ h; exact k ps z
theorem Ext.rd {A A' : Ax} {H H' : Hp} (x : Ext A H A' H') {a : Addr} {o : HO} (h : Rd H a o) (n : a ∉ A.al) (k : ∀ ps, o ≠ .tbl ps := by nofun) : Rd H' a o := by
  rcases h with h | ⟨u, h⟩
  · exact .inl (x.keep a _ n k h)
  · exact .inr ⟨u, x.keep a _ n nofun h⟩

section
variable {T : Cl} {K : PySem.W.Frag} {A A' : Ax} {H H' : Hp} {μ μ' : Mu}
/-- a tuple is not among the changing objects -/
theorem Rl.ntup (r : Rl T K A H μ) {a : Addr} {xs : List V} (h : H a = some (.tup xs)) : a ∉ A.al := by
  intro q
  obtain ⟨i, hi⟩ := List.mem_iff_getElem?.mp q
  have hl : i < μ.length := by rw [← r.len]; exact (List.getElem?_eq_some_iff.mp hi).1
  obtain ⟨b, hb, m⟩ := r.at_ i μ[i] (List.getElem?_eq_getElem hl)
  rw [hi] at hb; cases hb
  cases e : μ[i] with
  | lst ds => rw [e] at m; obtain ⟨vs, h', _⟩ := m; rw [h] at h'; cases h'
  | dic ds => rw [e] at m; obtain ⟨vs, h', _⟩ := m; rw [h] at h'; cases h'
  | obj c fs => rw [e] at m; obtain ⟨dx, vs, h', _⟩ := m; rw [h] at h'; cases h'
theorem Rl.nfrz (r : Rl T K A H μ) {a : Addr} {o : Obj} {u : HO} (h : H a = some (.frz o u)) : a ∉ A.al := by
  intro q
  obtain ⟨i, hi⟩ := List.mem_iff_getElem?.mp q
  have hl : i < μ.length := by rw [← r.len]; exact (List.getElem?_eq_some_iff.mp hi).1
  obtain ⟨b, hb, m⟩ := r.at_ i μ[i] (List.getElem?_eq_getElem hl)
  rw [hi] at hb; cases hb
  cases e : μ[i] with
  | lst ds => rw [e] at m; obtain ⟨vs, h', _⟩ := m; rw [h] at h'; cases h'
  | dic ds => rw [e] at m; obtain ⟨vs, h', _⟩ := m; rw [h] at h'; cases h'
  | obj c fs => rw [e] at m; obtain ⟨dx, vs, h', _⟩ := m; rw [h] at h'; cases h'
theorem Rl.ex (r : Rl T K A H μ) {a : Addr} (h : a ∈ A.al) : ∃ o, H a = some o := by
  obtain ⟨i, hi⟩ := List.mem_iff_getElem?.mp h
  have hl : i < μ.length := by rw [← r.len]; exact (List.getElem?_eq_some_iff.mp hi).1
  obtain ⟨b, hb, m⟩ := r.at_ i μ[i] (List.getElem?_eq_getElem hl)
  rw [hi] at hb; cases hb
  cases e : μ[i] with
  | lst ds => rw [e] at m; obtain ⟨vs, h', _⟩ := m; exact ⟨_, h'⟩
  | dic ds => rw [e] at m; obtain ⟨vs, h', _⟩ := m; exact ⟨_, h'⟩
  | obj c fs => rw [e] at m; obtain ⟨dx, vs, h', _⟩ := m; exact ⟨_, h'⟩
theorem Rl.nalN (r : Rl T K A H μ) {a : Addr} (h : Nt H a) : a ∉ A.al := fun q => by
  obtain ⟨i, hi⟩ := List.mem_iff_getElem?.mp q
  have hl : i < μ.length := by rw [← r.len]; exact (List.getElem?_eq_some_iff.mp hi).1
  obtain ⟨b, hb, m⟩ := r.at_ i μ[i] (List.getElem?_eq_getElem hl)
  rw [hi] at hb; cases hb
  cases e : μ[i] with
  | lst ds => rw [e] at m; obtain ⟨vs, h', _⟩ := m; obtain ⟨ps, z⟩ := h _ h'; cases z
  | dic ds => rw [e] at m; obtain ⟨vs, h', _⟩ := m; obtain ⟨ps, z⟩ := h _ h'; cases z
  | obj c fs => rw [e] at m; obtain ⟨dx, vs, h', _⟩ := m; obtain ⟨ps, z⟩ := h _ h'; cases z
theorem Rl.nal (r : Rl T K A H μ) {a : Addr} (h : H a = none) : a ∉ A.al := r.nalN (.of h)
theorem Rl.nmt (r : Rl T K A H μ) {a : Addr} (h : H a = none) : ¬ A.Mt a := fun q => by
  rcases q with q | q
  · exact r.nal h q
  · exact (r.gh a q).2 (.of h)

end
theorem Ext.tr {T : Cl} {K : PySem.W.Frag} {A A1 A2 : Ax} {H H1 H2 : Hp} {μ : Mu} (x : Ext A H A1 H1) (r : Rl T K A1 H1 μ) (y : Ext A1 H1 A2 H2) : Ext A H A2 H2 := by
  obtain ⟨e1, h1⟩ := x.pre
  obtain ⟨e2, h2⟩ := y.pre
  refine ⟨⟨e1 ++ e2, by rw [h2, h1, List.append_assoc]⟩, fun a h => ?_, fun a h => y.ghk a (x.ghk a h), fun a o n k h => y.keep a o (fun q => ?_) k (x.keep a o n k h), fun a h => ?_⟩
  · rcases y.gh a h with q | q
    · exact x.gh a q
    · rcases x.none q with n | n
      · exact absurd (show a ∈ A1.al by rw [h1]; exact List.mem_append_left _ n) (r.nalN q)
      · exact .inr n
  · rcases x.new a q with q | q
    · exact n q
    · obtain ⟨ps, z⟩ := q _ h; exact k ps z
  · rcases y.new a h with q | q
    · exact x.new a q
    · exact x.none q
section
variable {T : Cl} {K : PySem.W.Frag} {A A' : Ax} {H H' : Hp} {μ μ' : Mu}
mutual
theorem Rep.mono (r : Rl T K A H μ) (x : Ext A H A' H') : ∀ {v : V} {d : D}, Rep T K A H v d → Rep T K A' H' v d
  | _, _, .non => .non
  | _, _, .bl b => .bl b
  | _, _, .int i => .int i
  | _, _, .str y => .str y
  | _, _, .tup h e q => .tup (x.keep _ _ (r.nfrz h) nt_frz h) e (Reps.mono r x q)
  | _, _, .tupp h q => .tupp (x.keep _ _ (r.ntup h) nt_tup h) (Reps.mono r x q)
  | _, _, .tupw h q => .tupw (by
      rcases h with (h | ⟨o, h⟩) | h
      · exact .inl (.inl (x.keep _ _ (r.ntup h) nt_tup h))
      · exact .inl (.inr ⟨o, x.keep _ _ (r.nfrz h) nt_frz h⟩)
      · exact .inr h) (Reps.mono r x q)
  | _, _, .lst h n q => .lst (x.keep _ _ (fun z => n (.inl z)) nt_lst h) (x.nmt h n nt_lst) (Reps.mono r x q)
  | _, _, .scr h q => .scr (by
      rcases h with ⟨o, h⟩ | h | ⟨h, n⟩
      · exact .inl ⟨o, x.keep _ _ (r.nfrz h) nt_frz h⟩
      · exact .inr (.inl h)
      · exact .inr (.inr ⟨x.keep _ _ (fun z => n (.inl z)) nt_lst h, x.nmt h n nt_lst⟩)) (Reps.mono r x q)
  | _, _, .mu h => .mu (x.at_ h)
  | _, _, .ty n => .ty n
  | _, _, .cl c => .cl c
  | _, _, .ins h l n q => .ins (x.keep _ _ (fun z => n (.inl z)) nt_ins h) l (x.nmt h n nt_ins) (Reps.mono r x q)
theorem Reps.mono (r : Rl T K A H μ) (x : Ext A H A' H') : ∀ {vs : List V} {ds : List D}, Reps T K A H vs ds → Reps T K A' H' vs ds
  | _, _, .nil => .nil
  | _, _, .cons p q => .cons (Rep.mono r x p) (Reps.mono r x q)
end

theorem Reps.length : ∀ {vs : List V} {ds : List D}, Reps T K A H vs ds → vs.length = ds.length
  | _, _, .nil => rfl
  | _, _, .cons _ t => congrArg (· + 1) (Reps.length t)
theorem Reps.get : ∀ {vs : List V} {ds : List D} {i : Nat} {d : D}, Reps T K A H vs ds → ds[i]? = some d → ∃ v, vs[i]? = some v ∧ Rep T K A H v d
  | _, _, _, _, .nil, e => by simp at e
  | _, _, 0, _, .cons r _, e => by simp at e; subst e; exact ⟨_, rfl, r⟩
  | _, _, i + 1, d, .cons _ t, e => by
    obtain ⟨u, h1, h2⟩ := Reps.get (i := i) (d := d) t (by simpa using e)
    exact ⟨u, by simpa using h1, h2⟩
theorem Reps.get' : ∀ {vs : List V} {ds : List D} {i : Nat} {v : V}, Reps T K A H vs ds → vs[i]? = some v → ∃ d, ds[i]? = some d ∧ Rep T K A H v d
  | _, _, _, _, .nil, e => by simp at e
  | _, _, 0, _, .cons r _, e => by simp at e; subst e; exact ⟨_, rfl, r⟩
  | _, _, i + 1, v, .cons _ t, e => by
    obtain ⟨u, h1, h2⟩ := Reps.get' (i := i) (v := v) t (by simpa using e)
    exact ⟨u, by simpa using h1, h2⟩
theorem Reps.append : ∀ {vs ws : List V} {ds es : List D}, Reps T K A H vs ds → Reps T K A H ws es → Reps T K A H (vs ++ ws) (ds ++ es)
  | _, _, _, _, .nil, s => s
  | _, _, _, _, .cons r t, s => .cons r (Reps.append t s)
theorem Reps.set {v : V} {d : D} (r : Rep T K A H v d) : ∀ {vs : List V} {ds : List D} (i : Nat), Reps T K A H vs ds → Reps T K A H (vs.set i v) (ds.set i d)
  | _, _, _, .nil => .nil
  | _, _, 0, .cons _ t => .cons r t
  | _, _, i + 1, .cons q t => .cons q (Reps.set r i t)
theorem Reps.take : ∀ {vs : List V} {ds : List D} (n : Nat), Reps T K A H vs ds → Reps T K A H (vs.take n) (ds.take n)
  | _, _, 0, _ => .nil
  | _, _, _ + 1, .nil => .nil
  | _, _, n + 1, .cons r t => .cons r (Reps.take n t)
theorem Reps.drop : ∀ {vs : List V} {ds : List D} (n : Nat), Reps T K A H vs ds → Reps T K A H (vs.drop n) (ds.drop n)
  | _, _, 0, r => r
  | _, _, _ + 1, .nil => .nil
  | _, _, n + 1, .cons _ t => Reps.drop n t
theorem Reps.isEmpty : ∀ {vs : List V} {ds : List D}, Reps T K A H vs ds → vs.isEmpty = ds.isEmpty
  | _, _, .nil => rfl
  | _, _, .cons _ _ => rfl
theorem Reps.nil_iff {vs : List V} {ds : List D} (r : Reps T K A H vs ds) : vs = [] ↔ ds = [] := by
  cases r <;> simp
theorem Reps.ints : ∀ {vs : List V} {ns : List Int}, Reps T K A H vs (ns.map D.int) → vs = ns.map V.int
  | _, [], h => by cases h; rfl
  | _, n :: ns, h => by
    cases h with
    | cons r t => cases r; rw [Reps.ints t]; rfl
theorem Reps.of_ints : ∀ (ns : List Int), Reps T K A H (ns.map V.int) (ns.map D.int)
  | [] => .nil
  | n :: ns => .cons (.int n) (Reps.of_ints ns)
theorem Reps.bls : ∀ {vs : List V} {ns : List Bool}, Reps T K A H vs (ns.map D.bl) → vs = ns.map V.bl
  | _, [], h => by cases h; rfl
  | _, n :: ns, h => by
    cases h with
    | cons r t => cases r; rw [Reps.bls t]; rfl
theorem Reps.strs : ∀ {vs : List V} {ns : List Str}, Reps T K A H vs (ns.map D.str) → vs = ns.map V.str
  | _, [], h => by cases h; rfl
  | _, n :: ns, h => by
    cases h with
    | cons r t => cases r; rw [Reps.strs t]; rfl

theorem MRep.mono (r : Rl T K A H μ) (x : Ext A H A' H') {a : Addr} {c : MC} (he : H' a = H a) (m : MRep T K A H a c) : MRep T K A' H' a c := by
  cases c with
  | lst ds => obtain ⟨vs, h, q⟩ := m; exact ⟨vs, he.trans h, q.mono r x⟩
  | dic ds => obtain ⟨vs, h, q⟩ := m; exact ⟨vs, he.trans h, q.mono r x⟩
  | obj c fs => obtain ⟨dx, vs, h, q⟩ := m; exact ⟨dx, vs, he.trans h, q.mono r x⟩
theorem RE.mono {σ : St} {ρ : Env} (r : Rl T K A H μ) (x : Ext A H A' H') (e : RE T K A H σ ρ) : RE T K A' H' σ ρ := ⟨e.1, fun i d h => by
  obtain ⟨v, h1, h2⟩ := e.2 i d h
  exact ⟨v, h1, h2.mono r x⟩⟩
theorem RE.set {σ : St} {ρ : Env} {v : V} {d : D} (e : RE T K A H σ ρ) (i : Nat) (r : Rep T K A H v d) : RE T K A H (σ.set i (some v)) (ρ.set i (some d)) := by
  refine ⟨by simp [e.1], fun j z h => ?_⟩
  by_cases hj : i = j
  · subst hj
    by_cases hl : i < ρ.length
    · rw [List.getElem?_set_self hl] at h
      cases h
      exact ⟨v, by rw [List.getElem?_set_self (by rw [e.1]; exact hl)], r⟩
    · rw [List.getElem?_eq_none (by simpa using hl)] at h; cases h
  · rw [List.getElem?_set_ne hj] at h
    obtain ⟨w, h1, h2⟩ := e.2 j z h
    exact ⟨w, by rw [List.getElem?_set_ne hj]; exact h1, h2⟩
@[simp] def wipeD (ρ : Env) : List Nat → Env
  | [] => ρ
  | v :: vs => (wipeD ρ vs).set v none
theorem RE.wipe {σ : St} {ρ : Env} (e : RE T K A H σ ρ) : ∀ (vs : List Nat), RE T K A H (L2.wipe σ vs) (wipeD ρ vs)
  | [] => e
  | v :: vs => by
    have ih := RE.wipe e vs
    refine ⟨by show ((L2.wipe σ vs).set v none).length = ((wipeD ρ vs).set v none).length; simp [ih.1], fun j z h => ?_⟩
    have h : ((wipeD ρ vs).set v none)[j]? = some (some z) := h
    show ∃ w, ((L2.wipe σ vs).set v none)[j]? = some (some w) ∧ _
    by_cases hj : v = j
    · subst hj
      by_cases hl : v < (wipeD ρ vs).length
      · rw [List.getElem?_set_self hl] at h; cases h
      · rw [List.getElem?_eq_none (by simpa using hl)] at h; cases h
    · rw [List.getElem?_set_ne hj] at h
      obtain ⟨w, h1, h2⟩ := ih.2 j z h
      exact ⟨w, by rw [List.getElem?_set_ne hj]; exact h1, h2⟩

/-- nothing of the store changed -/
theorem Rl.same (r : Rl T K A H μ) (h : Same H H') : Rl T K A H' μ := by
  refine ⟨r.len, r.nd, fun i c e => ?_, fun a q => ⟨(r.gh a q).1, fun z => ?_⟩, r.tb.ext h⟩
  · obtain ⟨a, h1, m⟩ := r.at_ i c e
    refine ⟨a, h1, m.mono r (.same h) ?_⟩
    cases c with
    | lst ds => obtain ⟨vs, h', _⟩ := m; rw [h', h _ _ h']
    | dic ds => obtain ⟨vs, h', _⟩ := m; rw [h', h _ _ h']
    | obj c fs => obtain ⟨dx, vs, h', _⟩ := m; rw [h', h _ _ h']
  · exact (r.gh a q).2 fun o e => z o (h a o e)
/-- an object that is no table and no code object is written -/
theorem tabs_upd {L : List (Addr × Str)} {H : Hp} {a : Addr} {u o : HO} (t : LamX.Tabs L H) (e : H a = some u) (n1 : ∀ ps, u ≠ .tbl ps) (n2 : ∀ c q, u ≠ LamX.CodeO c q) : LamX.Tabs L (upd H a o) := fun p hp => by
  obtain ⟨ps, h1, h2, h3⟩ := t p hp
  refine ⟨ps, ?_, h2, fun pos cv hc => ?_⟩
  · rw [upd_ne (by rintro rfl; rw [e] at h1; exact n1 ps (Option.some.inj h1))]
    exact h1
  · obtain ⟨c, e1, e2⟩ := h3 pos cv hc
    refine ⟨c, e1, ?_⟩
    rw [upd_ne (by rintro rfl; rw [e] at e2; exact n2 _ _ (Option.some.inj e2))]
    exact e2
theorem codeO_lst {c : Addr} {q : Str} (vs : List V) : (HO.lst vs) ≠ LamX.CodeO c q := fun z => by unfold LamX.CodeO at z; cases z
theorem codeO_ins {c : Addr} {q : Str} {k dx : Addr} (vs : List (Str × V)) : (HO.ins k dx vs) ≠ LamX.CodeO c q := fun z => by unfold LamX.CodeO at z; cases z
theorem codeO_dT {c : Addr} {q : Str} (vs : List (List Key × V)) : (HO.dT vs) ≠ LamX.CodeO c q := fun z => by unfold LamX.CodeO at z; cases z
theorem Rl.tbw (r : Rl T K A H μ) {m : Nat} {a : Addr} {o : MC} {u : HO} (ha : A.al[m]? = some a) (hm : μ[m]? = some o) : LamX.Tabs T.tabs (upd H a u) := by
  obtain ⟨b, hb, mm⟩ := r.at_ m o hm
  rw [ha] at hb; cases hb
  cases o with
  | lst ds => obtain ⟨vs, h, _⟩ := mm; exact tabs_upd r.tb h nt_lst fun _ _ => codeO_lst _
  | dic ds => obtain ⟨vs, h, _⟩ := mm; exact tabs_upd r.tb h nt_dT fun _ _ => codeO_dT _
  | obj c fs => obtain ⟨dx, vs, h, _⟩ := mm; exact tabs_upd r.tb h nt_ins fun _ _ => codeO_ins _
/-- a new object -/
theorem same_upd {H : Hp} {p : Addr} {o : HO} (h : H p = none) : Same H (upd H p o) := fun b u e => by rw [upd_ne (ne_of_none e h)]; exact e
end

/-! ### exceptions -/
structure XD where
  c : Nat
  fs : Option (List D)
def XRep (T : Cl) (K : PySem.W.Frag) (A : Ax) (H : Hp) (x : XD) (c : Value) (q : Option Addr) : Prop :=
  c = .ref (T.xcls x.c) ∧ match x.fs with
  | none => q = none
  | some ds => ∃ a vs, q = some a ∧ H a = some (.xd ((T.xnm x.c).zip vs)) ∧ (T.xnm x.c).length = vs.length ∧ ¬ A.Mt a ∧ Reps T K A H vs ds

/-! ### judgements over data -/
abbrev PX := XD → Mu → Prop
abbrev TD := Env → Mu → (D → Mu → Prop) → PX → Prop
abbrev TDT := Env → Mu → (Bool → Mu → Prop) → PX → Prop
abbrev TDA := Env → Mu → (List D → Mu → Prop) → PX → Prop
/-- a fresh list -/
abbrev TDF := Env → Mu → (List D → Mu → Prop) → PX → Prop

section
variable (T : Cl) (X : Cx) (W : WX)
/-- what an exception must meet -/
def XOk (A : Ax) (H : Hp) (σ : St) (P : PX) : Prop :=
  ∀ x μ' A' c q H', Ext A H A' H' → Rl T X.K A' H' μ' → XRep T X.K A' H' x c q → P x μ' → W c q σ H'
def lift (t : TD) : TE := fun σ H Q => ∃ A μ ρ P PX, Rl T X.K A H μ ∧ RE T X.K A H σ ρ ∧ t ρ μ P PX ∧
  (∀ d μ' A' v H', Ext A H A' H' → Rl T X.K A' H' μ' → Rep T X.K A' H' v d → P d μ' → Q v H') ∧ XOk T X W A H σ PX
def liftT (t : TDT) : TT := fun σ H Q => ∃ A μ ρ P PX, Rl T X.K A H μ ∧ RE T X.K A H σ ρ ∧ t ρ μ P PX ∧
  (∀ b μ' A' H', Ext A H A' H' → Rl T X.K A' H' μ' → P b μ' → Q b H') ∧ XOk T X W A H σ PX
def liftA (t : TDA) : TA := fun σ H Q => ∃ A μ ρ P PX, Rl T X.K A H μ ∧ RE T X.K A H σ ρ ∧ t ρ μ P PX ∧
  (∀ ds μ' A' vs H', Ext A H A' H' → Rl T X.K A' H' μ' → Reps T X.K A' H' vs ds → P ds μ' → Q vs H') ∧ XOk T X W A H σ PX
/-- a new list p: a ghost -/
def liftF (t : TDF) : TE := fun σ H Q => ∃ A μ ρ P PX, Rl T X.K A H μ ∧ RE T X.K A H σ ρ ∧ t ρ μ P PX ∧
  (∀ ds μ' A' vs H' p, Ext A H A' H' → Rl T X.K (A'.gst p) H' μ' → Nt H p → p ∉ A'.gh → H' p = some (.lst vs) → Reps T X.K (A'.gst p) H' vs ds → P ds μ' → Q (.ref p) H') ∧ XOk T X W A H σ PX
structure PD (e : Expr) (t : TD) : Prop where
  run : PE X e (lift T X W t)
structure PDT (e : Expr) (t : TDT) : Prop where
  run : PT X e (liftT T X W t)
structure PDA (es : List Expr) (t : TDA) : Prop where
  run : PA X es (liftA T X W t)
structure PDF (e : Expr) (t : TDF) : Prop where
  run : PE X e (liftF T X W t)
end

section
variable {T : Cl} {X : Cx} {W : WX}
theorem PE.mono {e : Expr} {t t' : TE} (h : PE X e t) (i : ∀ σ H Q, t' σ H Q → t σ H Q) : PE X e t' := ⟨fun pins s σ H Q I q => h.run pins s σ H Q I (i σ H Q q)⟩
theorem PT.mono {e : Expr} {t t' : TT} (h : PT X e t) (i : ∀ σ H Q, t' σ H Q → t σ H Q) : PT X e t' := ⟨fun pins s σ H Q I q => h.run pins s σ H Q I (i σ H Q q)⟩
theorem PA.mono {e : List Expr} {t t' : TA} (h : PA X e t) (i : ∀ σ H Q, t' σ H Q → t σ H Q) : PA X e t' := ⟨fun pos pins s σ H Q I q => h.run pos pins s σ H Q I (i σ H Q q)⟩
theorem XOk.ext {A A' : Ax} {H H' : Hp} {μ : Mu} {σ : St} {P : PX} (k : XOk T X W A H σ P) (x : Ext A H A' H') (r : Rl T X.K A' H' μ) : XOk T X W A' H' σ P :=
  fun y μ' A2 c q H2 x2 r2 rp h => k y μ' A2 c q H2 (x.tr r x2) r2 rp h
end
end DL

/-! The data layer, 2: names, constants, operators, tests, arguments. -/
namespace DL
open PySem PySem.Spec L2

section
variable {T : Cl} {X : Cx} {W : WX} {a b c e : Expr} {es : List Expr} {ta tb tc : TD} {pos : Pos}

/-! ### a step without effect -/
@[simp] def tdVar (i : Nat) : TD := fun ρ μ P _ => match ρ[i]? with | some (some d) => P d μ | _ => False
@[simp] def tdC (d : D) : TD := fun _ μ P _ => P d μ
theorem pd_var (i : Nat) {x : Str} (hN : X.N[i]? = some x := by rfl) (hv : Vis X.env.scope x := by first | exact Or.inl rfl | exact Or.inr (Or.inl rfl) | exact Or.inr (Or.inr rfl))
    (hd : (x == ("__debug__" : Str)) = false := by decide) (hcd : (x == ("__classdict__" : Str)) = false := by decide) : PD T X W (.Name x pos) (tdVar i) :=
  ⟨PE.mono (pe_var hN hv hd hcd) fun σ H Q ⟨A, μ, ρ, P, PX, rl, re, h, k, kx⟩ => by
    unfold tdVar at h
    split at h
    · rename_i d e
      obtain ⟨v, h1, h2⟩ := re.2 i d e
      exact ⟨v, h1, k d μ A v H (.refl _ _) rl h2 h⟩
    · exact h.elim⟩
theorem pd_c {d : D} {v : V} (h : PE X e (tC v)) (r : ∀ A H, Rep T X.K A H v d) : PD T X W e (tdC d) :=
  ⟨PE.mono h fun σ H Q ⟨A, μ, ρ, P, PX, rl, re, q, k, kx⟩ => k d μ A v H (.refl _ _) rl (r A H) q⟩
theorem pd_int {i j pos} : PD T X W (.Constant (.int i) j pos) (tdC (.int i)) := pd_c pe_int fun _ _ => .int i
theorem pd_bl {b j pos} : PD T X W (.Constant (.bool b) j pos) (tdC (.bl b)) := pd_c pe_bl fun _ _ => .bl b
theorem pd_non {j pos} : PD T X W (.Constant .none j pos) (tdC .non) := pd_c pe_non fun _ _ => .non
theorem pd_str {x j pos} : PD T X W (.Constant (.str x) j pos) (tdC (.str x)) := pd_c pe_str fun _ _ => .str x
/-- a module's constant, a class of the text, a built-in type -/
theorem pd_gint {x : Str} {i : Int} {t : Tok} (hg : Gl X x) (hm : X.mg x = some (.int i t)) (hd : (x == ("__debug__" : Str)) = false := by decide) : PD T X W (.Name x pos) (tdC (.int i)) :=
  pd_c (pe_glob (v := .int i) hg hm ⟨_, rfl⟩ hd) fun _ _ => .int i
theorem pd_gcl {x : Str} {c : Nat} (hg : Gl X x) (hm : X.mg x = some (.ref (T.cls c))) (hd : (x == ("__debug__" : Str)) = false := by decide) : PD T X W (.Name x pos) (tdC (.cl c)) :=
  pd_c (pe_glob (v := .ref (T.cls c)) hg hm rfl hd) fun _ _ => .cl c
theorem pd_gty {x : Str} {n : String} (hg : Gl X x) (hm : X.mg x = none) (hv : bootBuiltins x = some (.type n)) (hn : x ≠ "__name__" := by decide) (hd : (x == ("__debug__" : Str)) = false := by decide) : PD T X W (.Name x pos) (tdC (.ty n)) :=
  pd_c (pe_bltn (v := .ty n) hg hm hv rfl hn hd) fun _ _ => .ty n

/-! ### two operands -/
abbrev RD2 := D → D → Mu → (D → Mu → Prop) → Prop
def liftO (T : Cl) (K : PySem.W.Frag) (rd : RD2) : R2 := fun x y H Q => ∃ A μ d e P, Rl T K A H μ ∧ Rep T K A H x d ∧ Rep T K A H y e ∧ rd d e μ P ∧
  ∀ d' μ' A' v H', Ext A H A' H' → Rl T K A' H' μ' → Rep T K A' H' v d' → P d' μ' → Q v H'
def OpD (T : Cl) (X : Cx) (f : Value → Value → Sem Value) (rd : RD2) : Prop := OpR X f (liftO T X.K rd)
@[simp] def tdOp (rd : RD2) (ta tb : TD) : TD := fun ρ μ P PX => ta ρ μ (fun x μ1 => tb ρ μ1 (fun y μ2 => rd x y μ2 P) PX) PX
theorem op_lift {rd : RD2} {σ : L2.St} {H : Hp} {Q : VK} (q : lift T X W (tdOp rd ta tb) σ H Q) : tOp (liftO T X.K rd) (lift T X W ta) (lift T X W tb) σ H Q := by
  obtain ⟨A, μ, ρ, P, PX, rl, re, h, k, kx⟩ := q
  exact ⟨A, μ, ρ, _, PX, rl, re, h, fun x μ1 A1 v1 H1 x1 r1 p1 h1 => ⟨A1, μ1, ρ, _, PX, r1, re.mono rl x1, h1, fun y μ2 A2 v2 H2 x2 r2 p2 h2 =>
    ⟨A2, μ2, x, y, P, r2, p1.mono r1 x2, p2, h2, fun d' μ' A' v H' x3 r3 p3 h3 => k d' μ' A' v H' ((x1.tr r1 x2).tr r2 x3) r3 p3 h3⟩, kx.ext x1 r1⟩, kx⟩
theorem pd_op {op : Operator} {rd : RD2} (ho : OpD T X (binaryOp op) rd) (ha : PD T X W a ta) (hb : PD T X W b tb) : PD T X W (.BinOp a op b pos) (tdOp rd ta tb) :=
  ⟨PE.mono (pe_op ho ha.run hb.run) fun _ _ _ => op_lift⟩
theorem pd_cmp {op : CmpOp} {rd : RD2} (ho : OpD T X (compareOp op) rd) (ha : PD T X W a ta) (hb : PD T X W b tb) (hm : behindInMarks op b = false := by first | exact nomark _ | with_unfolding_all rfl) : PD T X W (.Compare a [op] [b] pos) (tdOp rd ta tb) :=
  ⟨PE.mono (pe_cmpR ho ha.run hb.run hm) fun _ _ _ => op_lift⟩

/-! ### tests -/
@[simp] def tdTest (t : TD) : TDT := fun ρ μ P PX => t ρ μ (fun d μ' => match d with | .bl k => P k μ' | _ => False) PX
theorem test_lift {t : TD} {σ : L2.St} {H : Hp} {Q : Bool → Hp → Prop} (q : liftT T X W (tdTest t) σ H Q) : lift T X W t σ H fun x H' => ∃ k, x = .bl k ∧ Q k H' := by
  obtain ⟨A, μ, ρ, P, PX, rl, re, h, k, kx⟩ := q
  refine ⟨A, μ, ρ, _, PX, rl, re, h, fun d μ' A' v H' x1 r1 p1 h1 => ?_, kx⟩
  cases d with
  | bl z => cases p1; exact ⟨z, rfl, k z μ' A' H' x1 r1 h1⟩
  | _ => exact h1.elim
theorem pdt_cmp {op : CmpOp} {rd : RD2} (ho : OpD T X (compareOp op) rd) (ha : PD T X W a ta) (hb : PD T X W b tb) (hm : behindInMarks op b = false := by first | exact nomark _ | with_unfolding_all rfl) : PDT T X W (.Compare a [op] [b] pos) (tdTest (tdOp rd ta tb)) := by
  refine ⟨PT.mono (pt_cmpR ho ha.run hb.run hm) fun σ H Q q => ?_⟩
  obtain ⟨A, μ, ρ, P, PX, rl, re, h, k, kx⟩ := test_lift q
  exact op_lift ⟨A, μ, ρ, P, PX, rl, re, h, k, kx⟩
/-- any expression whose value is a bool -/
theorem pdt_val {t : TD} (h : PD T X W e t) (he : ∀ whole, isTrue e X.env whole = (do let v ← whole; standAt e.pos; holding [v] (truthy v)) := by intro _; rfl) : PDT T X W e (tdTest t) :=
  ⟨PT.mono (pt_val h.run he) fun _ _ _ => test_lift⟩
structure PDW (T : Cl) (X : Cx) (W : WX) (e : Expr) (t : TDT) : Prop where
  run : PW X e (liftT T X W t)
theorem PDW.pt {t : TDT} (h : PDW T X W e t) : PDT T X W e t := ⟨h.run.pt⟩
@[simp] def tdAnd (t u : TDT) : TDT := fun ρ μ P PX => t ρ μ (fun k μ1 => if k = true then u ρ μ1 P PX else P false μ1) PX
@[simp] def tdOr (t u : TDT) : TDT := fun ρ μ P PX => t ρ μ (fun k μ1 => if k = true then P true μ1 else u ρ μ1 P PX) PX
@[simp] def tdNot (t : TDT) : TDT := fun ρ μ P PX => t ρ μ (fun k μ1 => P (!k) μ1) PX
theorem PW.mono {t t' : TT} (h : PW X e t) (i : ∀ σ H Q, t' σ H Q → t σ H Q) : PW X e t' := ⟨fun w pins s σ H Q I q => h.run w pins s σ H Q I (i σ H Q q)⟩
theorem pdw_and1 {t : TDT} (h : PDT T X W a t) : PDW T X W (.BoolOp .And [a] pos) t := ⟨pw_and1 h.run⟩
theorem pdw_or1 {t : TDT} (h : PDT T X W a t) : PDW T X W (.BoolOp .Or [a] pos) t := ⟨pw_or1 h.run⟩
theorem pdw_and {t u : TDT} (ha : PDT T X W a t) (hb : PDW T X W (.BoolOp .And (b :: es) pos) u) : PDW T X W (.BoolOp .And (a :: b :: es) pos) (tdAnd t u) :=
  ⟨PW.mono (pw_and ha.run hb.run) fun σ H Q ⟨A, μ, ρ, P, PX, rl, re, h, k, kx⟩ => ⟨A, μ, ρ, _, PX, rl, re, h, fun z μ1 A1 H1 x1 r1 h1 => by
    split at h1
    · rename_i hz
      rw [if_pos hz]
      exact ⟨A1, μ1, ρ, P, PX, r1, re.mono rl x1, h1, fun z μ' A' H' x2 r2 h2 => k z μ' A' H' (x1.tr r1 x2) r2 h2, kx.ext x1 r1⟩
    · rename_i hz
      rw [if_neg hz]
      exact k false μ1 A1 H1 x1 r1 h1, kx⟩⟩
theorem pdw_or {t u : TDT} (ha : PDT T X W a t) (hb : PDW T X W (.BoolOp .Or (b :: es) pos) u) : PDW T X W (.BoolOp .Or (a :: b :: es) pos) (tdOr t u) :=
  ⟨PW.mono (pw_or ha.run hb.run) fun σ H Q ⟨A, μ, ρ, P, PX, rl, re, h, k, kx⟩ => ⟨A, μ, ρ, _, PX, rl, re, h, fun z μ1 A1 H1 x1 r1 h1 => by
    split at h1
    · rename_i hz
      rw [if_pos hz]
      exact k true μ1 A1 H1 x1 r1 h1
    · rename_i hz
      rw [if_neg hz]
      exact ⟨A1, μ1, ρ, P, PX, r1, re.mono rl x1, h1, fun z μ' A' H' x2 r2 h2 => k z μ' A' H' (x1.tr r1 x2) r2 h2, kx.ext x1 r1⟩, kx⟩⟩
theorem pdt_not {t : TDT} (h : PDT T X W a t) : PDT T X W (.UnaryOp .Not a pos) (tdNot t) :=
  ⟨PT.mono (pt_not h.run) fun σ H Q ⟨A, μ, ρ, P, PX, rl, re, h, k, kx⟩ => ⟨A, μ, ρ, _, PX, rl, re, h, fun z μ1 A1 H1 x1 r1 h1 => k _ μ1 A1 H1 x1 r1 h1, kx⟩⟩
/-! the same as values (of bools) -/
@[simp] def tdAndV (ta tb : TD) : TD := fun ρ μ P PX => ta ρ μ (fun x μ1 => match x with | .bl k => if k = true then tb ρ μ1 P PX else P (.bl false) μ1 | _ => False) PX
@[simp] def tdOrV (ta tb : TD) : TD := fun ρ μ P PX => ta ρ μ (fun x μ1 => match x with | .bl k => if k = true then P (.bl true) μ1 else tb ρ μ1 P PX | _ => False) PX
@[simp] def tdNotV (ta : TD) : TD := fun ρ μ P PX => ta ρ μ (fun x μ1 => match x with | .bl k => P (.bl (!k)) μ1 | _ => False) PX
theorem pd_one {op} {t : TD} (h : PD T X W a t) : PD T X W (.BoolOp op [a] pos) t := ⟨pe_one h.run⟩
theorem pd_and (ha : PD T X W a ta) (hb : PD T X W (.BoolOp .And (b :: es) pos) tb) : PD T X W (.BoolOp .And (a :: b :: es) pos) (tdAndV ta tb) :=
  ⟨PE.mono (pe_and ha.run hb.run) fun σ H Q ⟨A, μ, ρ, P, PX, rl, re, h, k, kx⟩ => ⟨A, μ, ρ, _, PX, rl, re, h, fun z μ1 A1 v1 H1 x1 r1 p1 h1 => by
    cases z with
    | bl z =>
      cases p1
      refine ⟨z, rfl, ?_⟩
      replace h1 : if z = true then tb ρ μ1 P PX else P (.bl false) μ1 := h1
      split at h1
      · rename_i hz
        rw [if_pos hz]
        exact ⟨A1, μ1, ρ, P, PX, r1, re.mono rl x1, h1, fun z μ' A' v H' x2 r2 p2 h2 => k z μ' A' v H' (x1.tr r1 x2) r2 p2 h2, kx.ext x1 r1⟩
      · rename_i hz
        rw [if_neg hz]
        exact k _ μ1 A1 _ H1 x1 r1 (.bl _) h1
    | _ => exact h1.elim, kx⟩⟩
theorem pd_or (ha : PD T X W a ta) (hb : PD T X W (.BoolOp .Or (b :: es) pos) tb) : PD T X W (.BoolOp .Or (a :: b :: es) pos) (tdOrV ta tb) :=
  ⟨PE.mono (pe_or ha.run hb.run) fun σ H Q ⟨A, μ, ρ, P, PX, rl, re, h, k, kx⟩ => ⟨A, μ, ρ, _, PX, rl, re, h, fun z μ1 A1 v1 H1 x1 r1 p1 h1 => by
    cases z with
    | bl z =>
      cases p1
      refine ⟨z, rfl, ?_⟩
      replace h1 : if z = true then P (.bl true) μ1 else tb ρ μ1 P PX := h1
      split at h1
      · rename_i hz
        rw [if_pos hz]
        exact k _ μ1 A1 _ H1 x1 r1 (.bl _) h1
      · rename_i hz
        rw [if_neg hz]
        exact ⟨A1, μ1, ρ, P, PX, r1, re.mono rl x1, h1, fun z μ' A' v H' x2 r2 p2 h2 => k z μ' A' v H' (x1.tr r1 x2) r2 p2 h2, kx.ext x1 r1⟩
    | _ => exact h1.elim, kx⟩⟩
theorem pd_not (ha : PD T X W a ta) : PD T X W (.UnaryOp .Not a pos) (tdNotV ta) :=
  ⟨PE.mono (pe_not ha.run) fun σ H Q ⟨A, μ, ρ, P, PX, rl, re, h, k, kx⟩ => ⟨A, μ, ρ, _, PX, rl, re, h, fun z μ1 A1 v1 H1 x1 r1 p1 h1 => by
    cases z with
    | bl z =>
      cases p1
      exact ⟨z, rfl, k _ μ1 A1 _ H1 x1 r1 (.bl _) h1⟩
    | _ => exact h1.elim, kx⟩⟩
@[simp] def tdIf (t : TDT) (ta tb : TD) : TD := fun ρ μ P PX => t ρ μ (fun k μ1 => if k = true then ta ρ μ1 P PX else tb ρ μ1 P PX) PX
theorem pd_ifExp {t : TDT} (hc : PDT T X W c t) (ha : PD T X W a ta) (hb : PD T X W b tb) : PD T X W (.IfExp c a b pos) (tdIf t ta tb) :=
  ⟨PE.mono (pe_ifExp hc.run ha.run hb.run) fun σ H Q ⟨A, μ, ρ, P, PX, rl, re, h, k, kx⟩ => ⟨A, μ, ρ, _, PX, rl, re, h, fun z μ1 A1 H1 x1 r1 h1 => by
    split at h1
    · rename_i hz
      rw [if_pos hz]
      exact ⟨A1, μ1, ρ, P, PX, r1, re.mono rl x1, h1, fun z μ' A' v H' x2 r2 p2 h2 => k z μ' A' v H' (x1.tr r1 x2) r2 p2 h2, kx.ext x1 r1⟩
    · rename_i hz
      rw [if_neg hz]
      exact ⟨A1, μ1, ρ, P, PX, r1, re.mono rl x1, h1, fun z μ' A' v H' x2 r2 p2 h2 => k z μ' A' v H' (x1.tr r1 x2) r2 p2 h2, kx.ext x1 r1⟩, kx⟩⟩
/-! a < b < c -/
@[simp] def tdChain (r r' : RD2) (ta tb tc : TD) : TD := fun ρ μ P PX => ta ρ μ (fun x μ1 => tb ρ μ1 (fun y μ2 => r x y μ2 fun z μ3 => match z with
  | .bl k => if k = true then tc ρ μ3 (fun u μ4 => r' y u μ4 P) PX else P (.bl false) μ3
  | _ => False) PX) PX
theorem chain_lift {r r' : RD2} {σ : L2.St} {H : Hp} {Q : VK} (q : lift T X W (tdChain r r' ta tb tc) σ H Q) : tChain (liftO T X.K r) (liftO T X.K r') (lift T X W ta) (lift T X W tb) (lift T X W tc) σ H Q := by
  obtain ⟨A, μ, ρ, P, PX, rl, re, h, k, kx⟩ := q
  refine ⟨A, μ, ρ, _, PX, rl, re, h, fun x μ1 A1 v1 H1 x1 r1 p1 h1 => ⟨A1, μ1, ρ, _, PX, r1, re.mono rl x1, h1, fun y μ2 A2 v2 H2 x2 r2 p2 h2 => ⟨A2, μ2, x, y, _, r2, p1.mono r1 x2, p2, h2, fun z μ3 A3 v3 H3 x3 r3 p3 h3 => ?_⟩, kx.ext x1 r1⟩, kx⟩
  cases z with
  | bl z =>
    cases p3
    refine ⟨z, rfl, ?_⟩
    have e3 := (x1.tr r1 x2).tr r2 x3
    replace h3 : if z = true then tc ρ μ3 (fun u μ4 => r' y u μ4 P) PX else P (.bl false) μ3 := h3
    split at h3
    · rename_i hz
      rw [if_pos hz]
      exact ⟨A3, μ3, ρ, _, PX, r3, re.mono rl e3, h3, fun u μ4 A4 v4 H4 x4 r4 p4 h4 => ⟨A4, μ4, y, u, P, r4, p2.mono r2 (x3.tr r3 x4), p4, h4, fun d' μ' A' v H' x5 r5 p5 h5 => k d' μ' A' v H' ((e3.tr r3 x4).tr r4 x5) r5 p5 h5⟩, kx.ext e3 r3⟩
    · rename_i hz
      rw [if_neg hz]
      exact k _ μ3 A3 _ H3 e3 r3 (.bl _) h3
  | _ => exact h3.elim
theorem pd_chain {op op' : CmpOp} {r r' : RD2} (ho : OpD T X (compareOp op) r) (ho' : OpD T X (compareOp op') r') (ha : PD T X W a ta) (hb : PD T X W b tb) (hc : PD T X W c tc)
    (hm : lastMarks [op, op'] [b, c] = false := by with_unfolding_all rfl) : PD T X W (.Compare a [op, op'] [b, c] pos) (tdChain r r' ta tb tc) :=
  ⟨PE.mono (pe_chain ho ho' ha.run hb.run hc.run hm) fun _ _ _ => chain_lift⟩
theorem pdt_chain {op op' : CmpOp} {r r' : RD2} (ho : OpD T X (compareOp op) r) (ho' : OpD T X (compareOp op') r') (ha : PD T X W a ta) (hb : PD T X W b tb) (hc : PD T X W c tc)
    (hm : lastMarks [op, op'] [b, c] = false := by with_unfolding_all rfl) : PDT T X W (.Compare a [op, op'] [b, c] pos) (tdTest (tdChain r r' ta tb tc)) := by
  refine ⟨PT.mono (pt_chain ho ho' ha.run hb.run hc.run hm) fun σ H Q q => ?_⟩
  obtain ⟨A, μ, ρ, P, PX, rl, re, h, k, kx⟩ := test_lift q
  exact chain_lift ⟨A, μ, ρ, P, PX, rl, re, h, k, kx⟩

/-! ### argument lists -/
@[simp] def tdNil : TDA := fun _ μ P _ => P [] μ
@[simp] def tdCons (t : TD) (u : TDA) : TDA := fun ρ μ P PX => t ρ μ (fun x μ1 => u ρ μ1 (fun xs μ2 => P (x :: xs) μ2) PX) PX
theorem pda_nil : PDA T X W [] tdNil := ⟨PA.mono pa_nil fun σ H Q ⟨A, μ, ρ, P, PX, rl, re, h, k, kx⟩ => k [] μ A [] H (.refl _ _) rl .nil h⟩
theorem pda_cons {t : TD} {u : TDA} (ha : PD T X W e t) (hr : PDA T X W es u) (hs : starEach (e :: es) X.env = (false, eval e X.env) :: starEach es X.env := by rfl) : PDA T X W (e :: es) (tdCons t u) :=
  ⟨PA.mono (pa_cons ha.run hr.run hs) fun σ H Q ⟨A, μ, ρ, P, PX, rl, re, h, k, kx⟩ => ⟨A, μ, ρ, _, PX, rl, re, h, fun x μ1 A1 v1 H1 x1 r1 p1 h1 => ⟨A1, μ1, ρ, _, PX, r1, re.mono rl x1, h1, fun xs μ2 A2 vs H2 x2 r2 p2 h2 =>
    k _ μ2 A2 _ H2 (x1.tr r1 x2) r2 (.cons (p1.mono r1 x2) p2) h2, kx.ext x1 r1⟩, kx⟩⟩

/-! ### calls of built-ins by values -/
abbrev RDC := List D → Mu → (D → Mu → Prop) → Prop
def liftC (T : Cl) (K : PySem.W.Frag) (rd : RDC) : List V → Hp → VK → Prop := fun vs H Q => ∃ A μ ds P, Rl T K A H μ ∧ Reps T K A H vs ds ∧ rd ds μ P ∧
  ∀ d' μ' A' v H', Ext A H A' H' → Rl T K A' H' μ' → Rep T K A' H' v d' → P d' μ' → Q v H'
def CallD (T : Cl) (X : Cx) (f : Value) (rd : RDC) : Prop := CallR X f (liftC T X.K rd)
@[simp] def tdCB (rd : RDC) (t : TDA) : TD := fun ρ μ P PX => t ρ μ (fun ds μ1 => rd ds μ1 P) PX
theorem cb_lift {rd : RDC} {t : TDA} {σ : L2.St} {H : Hp} {Q : VK} (q : lift T X W (tdCB rd t) σ H Q) : tCB (liftC T X.K rd) (liftA T X W t) σ H Q := by
  obtain ⟨A, μ, ρ, P, PX, rl, re, h, k, kx⟩ := q
  exact ⟨A, μ, ρ, _, PX, rl, re, h, fun ds μ1 A1 vs H1 x1 r1 p1 h1 => ⟨A1, μ1, ds, P, r1, p1, h1, fun d' μ' A' v H' x2 r2 p2 h2 => k d' μ' A' v H' (x1.tr r1 x2) r2 p2 h2⟩, kx⟩
theorem pd_callB {x : Str} {p : Pos} {id : String} {rd : RDC} {t : TDA} (hc : CallD T X (.builtin id) rd) (hg : Gl X x) (hm : X.mg x = none) (hv : bootBuiltins x = some (.builtin id)) (ha : PDA T X W (e :: es) t) (hn : x ≠ "__name__" := by decide)
    (hdb : (x == ("__debug__" : Str)) = false := by decide) (he : starEach (e :: es) X.env = (false, eval e X.env) :: starEach es X.env := by rfl) (hpl : (backTo pos (starEach es X.env)).any (·.1) = false := by rfl) :
    PD T X W (.Call (.Name x p) (e :: es) [] pos) (tdCB rd t) := ⟨PE.mono (pe_callB hc hg hm hv ha.run hn hdb he hpl) fun _ _ _ => cb_lift⟩
theorem pd_callTy {x : Str} {p : Pos} {n : String} {rd : RDC} {t : TDA} (hc : CallD T X (.type n) rd) (hg : Gl X x) (hm : X.mg x = none) (hv : bootBuiltins x = some (.type n)) (ha : PDA T X W (e :: es) t) (hn : x ≠ "__name__" := by decide)
    (hdb : (x == ("__debug__" : Str)) = false := by decide) (he : starEach (e :: es) X.env = (false, eval e X.env) :: starEach es X.env := by rfl) (hpl : (backTo pos (starEach es X.env)).any (·.1) = false := by rfl) :
    PD T X W (.Call (.Name x p) (e :: es) [] pos) (tdCB rd t) := ⟨PE.mono (pe_callTy hc hg hm hv ha.run hn hdb he hpl) fun _ _ _ => cb_lift⟩

/-! ### fresh lists -/
/-- .. kept as they are -/
@[simp] def tdFr (t : TDF) : TD := fun ρ μ P PX => t ρ μ (fun ds μ' => P (.lst ds) μ') PX
/-- .. to be changed -/
@[simp] def tdMu (t : TDF) : TD := fun ρ μ P PX => t ρ μ (fun ds μ' => P (.mu μ'.length) (μ' ++ [.lst ds])) PX
theorem Rep.drop_ {K : PySem.W.Frag} {A B : Ax} {H : Hp} (e : ∃ z, B.al = A.al ++ z) (m : ∀ a, B.Mt a → A.Mt a) : ∀ {v : V} {d : D}, Rep T K A H v d → Rep T K B H v d
  | _, _, .non => .non
  | _, _, .bl b => .bl b
  | _, _, .int i => .int i
  | _, _, .str y => .str y
  | _, _, .ty n => .ty n
  | _, _, .cl c => .cl c
  | _, _, .tup h o q => .tup h o (drops_ e m q)
  | _, _, .tupp h q => .tupp h (drops_ e m q)
  | _, _, .tupw h q => .tupw h (drops_ e m q)
  | _, _, .lst h n q => .lst h (fun z => n (m _ z)) (drops_ e m q)
  | _, _, .scr h q => .scr (h.imp id (.imp id fun z => ⟨z.1, fun y => z.2 (m _ y)⟩)) (drops_ e m q)
  | _, _, .mu (i := i) h => .mu (by
      obtain ⟨z, e⟩ := e
      rw [e, List.getElem?_append_left (List.getElem?_eq_some_iff.mp h).1]
      exact h)
  | _, _, .ins h l n q => .ins h l (fun z => n (m _ z)) (drops_ e m q)
where drops_ {K : PySem.W.Frag} {A B : Ax} {H : Hp} (e : ∃ z, B.al = A.al ++ z) (m : ∀ a, B.Mt a → A.Mt a) : ∀ {vs : List V} {ds : List D}, Reps T K A H vs ds → Reps T K B H vs ds
  | _, _, .nil => .nil
  | _, _, .cons r t => .cons (Rep.drop_ e m r) (drops_ e m t)
theorem Reps.drop_ {K : PySem.W.Frag} {A B : Ax} {H : Hp} (e : ∃ z, B.al = A.al ++ z) (m : ∀ a, B.Mt a → A.Mt a) {vs : List V} {ds : List D} (r : Reps T K A H vs ds) : Reps T K B H vs ds := Rep.drop_.drops_ e m r
theorem MRep.drop_ {K : PySem.W.Frag} {A B : Ax} {H : Hp} {a : Addr} {c : MC} (e : ∃ z, B.al = A.al ++ z) (m : ∀ a, B.Mt a → A.Mt a) (h : MRep T K A H a c) : MRep T K B H a c := by
  cases c with
  | lst ds => obtain ⟨vs, h1, h2⟩ := h; exact ⟨vs, h1, h2.drop_ e m⟩
  | dic ds => obtain ⟨vs, h1, h2⟩ := h; exact ⟨vs, h1, h2.drop_ e m⟩
  | obj c fs => obtain ⟨dx, vs, h1, h2⟩ := h; exact ⟨dx, vs, h1, h2.drop_ e m⟩
theorem Ax.Mt_gst {A : Ax} {p a : Addr} : (A.gst p).Mt a ↔ A.Mt a ∨ a = p := by
  unfold Ax.gst Ax.Mt
  simp only [List.mem_cons]
  constructor
  · rintro (h | h | h)
    · exact .inl (.inl h)
    · exact .inr h
    · exact .inl (.inr h)
  · rintro ((h | h) | h)
    · exact .inl h
    · exact .inr (.inr h)
    · exact .inr (.inl h)
/-- the ghost is let go -/
theorem Rl.ungst {K : PySem.W.Frag} {A : Ax} {H : Hp} {μ : Mu} {p : Addr} (r : Rl T K (A.gst p) H μ) : Rl T K A H μ :=
  ⟨r.len, r.nd, fun i c e => by
    obtain ⟨a, h1, h2⟩ := r.at_ i c e
    exact ⟨a, h1, h2.drop_ ⟨[], by simp [Ax.gst]⟩ fun a h => Ax.Mt_gst.mpr (.inl h)⟩, fun a h => r.gh a (List.mem_cons_of_mem _ h), r.tb⟩
/-- a new ghost -/
theorem Rl.gst {K : PySem.W.Frag} {A : Ax} {H : Hp} {μ : Mu} {p : Addr} {o : HO} (r : Rl T K A H μ) (hp : H p = none) (ho : ∀ ps, o ≠ .tbl ps := by nofun) : Ext A H (A.gst p) (upd H p o) ∧ Rl T K (A.gst p) (upd H p o) μ := by
  have s := same_upd (o := o) hp
  have x : Ext A H (A.gst p) (upd H p o) := .of ⟨[], by simp [Ax.gst]⟩ (fun a h => by
    rcases List.mem_cons.mp h with h | h
    · subst h; exact .inr hp
    · exact .inl h) (fun a h => List.mem_cons_of_mem _ h) (fun a u _ e => s a u e) fun a h => .inl h
  refine ⟨x, r.len, r.nd, fun i c e => ?_, fun a h => ?_, r.tb.ext s⟩
  · obtain ⟨a, h1, m⟩ := r.at_ i c e
    refine ⟨a, h1, m.mono r x (upd_ne fun z => ?_)⟩
    subst z
    exact r.nal hp (List.mem_of_getElem? h1)
  · rcases List.mem_cons.mp (show a ∈ p :: A.gh from h) with h1 | h1
    · subst h1
      exact ⟨r.nal hp, nt_same ho⟩
    · refine ⟨(r.gh a h1).1, ?_⟩
      by_cases e : a = p
      · rw [e] at h1; exact absurd (.of hp) (r.gh p h1).2
      · exact nt_ne e (r.gh a h1).2
theorem fr_lift {t : TDF} (σ : L2.St) (H : Hp) (Q : VK) (q : lift T X W (tdFr t) σ H Q) : liftF T X W t σ H Q := by
  obtain ⟨A, μ, ρ, P, PX, rl, re, h, k, kx⟩ := q
  exact ⟨A, μ, ρ, _, PX, rl, re, h, fun ds μ' A' vs H' p x1 r1 hq hn hp p1 h1 =>
    k _ μ' A' _ _ x1 r1.ungst (.lst hp (fun z => z.elim (r1.gh p List.mem_cons_self).1 hn) (p1.drop_ ⟨[], by simp [Ax.gst]⟩ fun a h => Ax.Mt_gst.mpr (.inl h))) h1, kx⟩
theorem pd_fr {t : TDF} (h : PDF T X W e t) : PD T X W e (tdFr t) := ⟨PE.mono h.run fr_lift⟩
/-- the ghost becomes a changing object -/
theorem Rl.ghal {K : PySem.W.Frag} {A A' : Ax} {H H' : Hp} {μ : Mu} {p : Addr} {vs : List V} {ds : List D} (x : Ext A H A' H') (hq : Nt H p) (hn : p ∉ A'.gh) (r : Rl T K (A'.gst p) H' μ) (hp : H' p = some (.lst vs)) (q : Reps T K (A'.gst p) H' vs ds) :
    Ext A H ⟨A'.al ++ [p], A'.gh⟩ H' ∧ Rl T K ⟨A'.al ++ [p], A'.gh⟩ H' (μ ++ [.lst ds]) := by
  have e : ∃ z, (⟨A'.al ++ [p], A'.gh⟩ : Ax).al = (A'.gst p).al ++ z := ⟨[p], rfl⟩
  have m : ∀ a, (⟨A'.al ++ [p], A'.gh⟩ : Ax).Mt a → (A'.gst p).Mt a := fun a h => by
    rcases h with h | h
    · rcases List.mem_append.mp h with h | h
      · exact .inl h
      · rw [List.mem_singleton.mp h]; exact .inr List.mem_cons_self
    · exact .inr (List.mem_cons_of_mem _ h)
  have np := (r.gh p List.mem_cons_self).1
  have len : A'.al.length = μ.length := r.len
  refine ⟨⟨?_, x.gh, x.ghk, x.keep, fun a h => ?_⟩, ?_, ?_, fun i c f => ?_, fun a h => ⟨fun z => ?_, (r.gh a (List.mem_cons_of_mem _ h)).2⟩, r.tb⟩
  · obtain ⟨z, w⟩ := x.pre
    exact ⟨z ++ [p], by show A'.al ++ [p] = _; rw [w, List.append_assoc]⟩
  · rcases List.mem_append.mp h with h | h
    · exact x.new a h
    · rw [List.mem_singleton.mp h]; exact .inr hq
  · show (A'.al ++ [p]).length = (μ ++ [MC.lst ds]).length
    simp [len]
  · show (A'.al ++ [p]).Nodup
    rw [List.nodup_append]
    refine ⟨r.nd, by simp, fun a ha b hb => ?_⟩
    rw [List.mem_singleton.mp hb]
    rintro rfl
    exact np ha
  · by_cases hi : i < μ.length
    · rw [List.getElem?_append_left hi] at f
      obtain ⟨a, h1, h2⟩ := r.at_ i c f
      exact ⟨a, by show (A'.al ++ [p])[i]? = _; rw [List.getElem?_append_left (by omega)]; exact h1, h2.drop_ e m⟩
    · have hi2 : i = μ.length := by
        have := (List.getElem?_eq_some_iff.mp f).1
        simp at this; omega
      subst hi2
      rw [List.getElem?_append_right (Nat.le_refl _)] at f
      simp at f
      subst f
      exact ⟨p, by show (A'.al ++ [p])[μ.length]? = some p; rw [← len, List.getElem?_append_right (Nat.le_refl _)]; simp, vs, hp, q.drop_ e m⟩
  · rcases List.mem_append.mp z with z | z
    · exact (r.gh a (List.mem_cons_of_mem _ h)).1 z
    · rw [List.mem_singleton.mp z] at h; exact hn h
theorem mu_lift {t : TDF} (σ : L2.St) (H : Hp) (Q : VK) (q : lift T X W (tdMu t) σ H Q) : liftF T X W t σ H Q := by
  obtain ⟨A, μ, ρ, P, PX, rl, re, h, k, kx⟩ := q
  exact ⟨A, μ, ρ, _, PX, rl, re, h, fun ds μ' A' vs H' p x1 r1 hq hn hp p1 h1 => by
    obtain ⟨x2, r2⟩ := Rl.ghal x1 hq hn r1 hp p1
    exact k _ _ _ _ _ x2 r2 (.mu (by show (A'.al ++ [p])[μ'.length]? = some p; rw [← (show A'.al.length = μ'.length from r1.len), List.getElem?_append_right (Nat.le_refl _)]; simp)) h1, kx⟩
theorem pd_mu {t : TDF} (h : PDF T X W e t) : PD T X W e (tdMu t) := ⟨PE.mono h.run mu_lift⟩
end
end DL

/-! The data layer, 3: what the operators and built-ins do with data. -/
namespace DL
open PySem PySem.Spec L2

/-! ### views -/
@[simp] def seqOf (μ : Mu) : D → Option (List D)
  | .tup xs => some xs | .tupw xs => some xs | .tupp xs => some xs | .lst xs => some xs | .scr xs => some xs
  | .mu i => match μ[i]? with | some (.lst xs) => some xs | _ => none
  | _ => none
/-- a list (not the script) -/
@[simp] def lstOf (μ : Mu) : D → Option (List D)
  | .lst xs => some xs
  | .mu i => match μ[i]? with | some (.lst xs) => some xs | _ => none
  | _ => none
@[simp] def lsrOf (μ : Mu) : D → Option (List D)
  | .lst xs => some xs | .scr xs => some xs
  | .mu i => match μ[i]? with | some (.lst xs) => some xs | _ => none
  | _ => none
@[simp] def tupOf : D → Option (List D)
  | .tup xs => some xs | .tupw xs => some xs | .tupp xs => some xs | _ => none

section
variable {T : Cl} {K : PySem.W.Frag} {A A' : Ax} {H H' : Hp} {μ μ' : Mu} {v : V} {d : D} {ds : List D}
theorem Rl.mutLst (r : Rl T K A H μ) {i : Nat} {a : Addr} (h : A.al[i]? = some a) (e : μ[i]? = some (.lst ds)) : ∃ vs, H a = some (.lst vs) ∧ Reps T K A H vs ds := by
  obtain ⟨b, hb, m⟩ := r.at_ i _ e
  rw [h] at hb; cases hb
  exact m
theorem lstOf_view (r : Rl T K A H μ) (p : Rep T K A H v d) (h : lstOf μ d = some ds) : ∃ a vs, v = .ref a ∧ H a = some (.lst vs) ∧ Reps T K A H vs ds := by
  cases p with
  | lst e n q => cases h; exact ⟨_, _, rfl, e, q⟩
  | @mu a i e =>
    have h : (match μ[i]? with | some (.lst xs) => some xs | _ => none) = some ds := h
    split at h
    · rename_i xs e2
      cases h
      obtain ⟨vs, h1, h2⟩ := r.mutLst e e2
      exact ⟨a, vs, rfl, h1, h2⟩
    · cases h
  | _ => cases h
theorem lsrOf_view (r : Rl T K A H μ) (p : Rep T K A H v d) (h : lsrOf μ d = some ds) : ∃ a vs, v = .ref a ∧ SqL K H a vs ∧ Reps T K A H vs ds := by
  cases p with
  | lst e n q => cases h; exact ⟨_, _, rfl, .of e, q⟩
  | scr e q =>
    cases h
    exact ⟨_, _, rfl, e.sq, q⟩
  | @mu a i e =>
    have h : lstOf μ (.mu i) = some ds := h
    obtain ⟨b, vs, h1, h2, h3⟩ := lstOf_view r (.mu e) h
    exact ⟨b, vs, h1, .of h2, h3⟩
  | _ => cases h
theorem tupOf_view (p : Rep T K A H v d) (h : tupOf d = some ds) : ∃ a vs, v = .ref a ∧ SqT K H a vs ∧ Reps T K A H vs ds := by
  cases p with
  | tup e n q => cases h; exact ⟨_, _, rfl, .inl (.inr ⟨_, e⟩), q⟩
  | tupw e q => cases h; exact ⟨_, _, rfl, e, q⟩
  | tupp e q => cases h; exact ⟨_, _, rfl, .inl (.inl e), q⟩
  | _ => cases h
theorem seqOf_view (r : Rl T K A H μ) (p : Rep T K A H v d) (h : seqOf μ d = some ds) : ∃ a vs, v = .ref a ∧ (SqL K H a vs ∨ SqT K H a vs) ∧ Reps T K A H vs ds := by
  have tl : ∀ {e : D}, Rep T K A H v e → lsrOf μ e = some ds → ∃ a vs, v = .ref a ∧ (SqL K H a vs ∨ SqT K H a vs) ∧ Reps T K A H vs ds := fun p h => by
    obtain ⟨a, vs, h1, h2, h3⟩ := lsrOf_view r p h
    exact ⟨a, vs, h1, .inl h2, h3⟩
  have tt : ∀ {e : D}, Rep T K A H v e → tupOf e = some ds → ∃ a vs, v = .ref a ∧ (SqL K H a vs ∨ SqT K H a vs) ∧ Reps T K A H vs ds := fun p h => by
    obtain ⟨a, vs, h1, h2, h3⟩ := tupOf_view p h
    exact ⟨a, vs, h1, .inr h2, h3⟩
  cases d with
  | tup xs => exact tt p h
  | tupw xs => exact tt p h
  | tupp xs => exact tt p h
  | lst xs => exact tl p h
  | scr xs => exact tl p h
  | mu i => exact tl p h
  | _ => cases h
end

/-! ### ints -/
@[simp] def rdI (C : Int → Int → Prop) (g : Int → Int → D) : RD2 := fun x y μ P => match x, y with
  | .int i, .int j => C i j ∧ P (g i j) μ
  | _, _ => False
section
variable {T : Cl} {X : Cx} {W : WX}
theorem opd_I {f : Value → Value → Sem Value} {C : Int → Int → Prop} {g : Int → Int → V} {gd : Int → Int → D} (h : OpR X f (rI C g)) (hr : ∀ A H i j, Rep T X.K A H (g i j) (gd i j)) : OpD T X f (rdI C gd) := by
  intro pins s σ H x y v u Q I rx ry ⟨A, μ, d, e, P, rl, px, py, q, k⟩
  cases px with
  | int i =>
    cases py with
    | int j => exact h pins s σ H _ _ v u Q I rx ry ⟨i, j, rfl, rfl, q.1, k _ μ A _ H (.refl _ _) rl (hr A H i j) q.2⟩
    | _ => exact q.elim
  | _ => exact q.elim
theorem opd_I0 {f : Value → Value → Sem Value} {g : Int → Int → V} {gd : Int → Int → D} (h : OpR X f (rI0 g)) (hr : ∀ A H i j, Rep T X.K A H (g i j) (gd i j)) : OpD T X f (rdI (fun _ _ => True) gd) :=
  opd_I (C := fun _ _ => True) (fun pins s σ H x y v u Q I rx ry ⟨i, j, e1, e2, _, q⟩ => h pins s σ H x y v u Q I rx ry ⟨i, j, e1, e2, q⟩) hr
@[simp] abbrev rdAdd : RD2 := rdI (fun _ _ => True) fun i j => .int (i + j)
@[simp] abbrev rdSub : RD2 := rdI (fun _ _ => True) fun i j => .int (i - j)
@[simp] abbrev rdMul : RD2 := rdI CMul fun i j => .int (i * j)
@[simp] abbrev rdMod : RD2 := rdI (fun _ j => 0 < j) fun i j => .int (i % j)
@[simp] abbrev rdDiv : RD2 := rdI CDiv fun i j => .int (i / j)
@[simp] abbrev rdPow : RD2 := rdI CPow fun i j => .int (i ^ j.toNat)
@[simp] abbrev rdShl : RD2 := rdI CPow fun i j => .int (i * 2 ^ j.toNat)
@[simp] abbrev rdShr : RD2 := rdI (fun _ j => 0 ≤ j) fun i j => .int (i / 2 ^ j.toNat)
@[simp] abbrev rdAnd : RD2 := rdI (fun _ _ => True) fun i j => .int (Builtin.bitAnd i j)
@[simp] abbrev rdLt : RD2 := rdI (fun _ _ => True) fun i j => .bl (decide (i < j))
@[simp] abbrev rdLe : RD2 := rdI (fun _ _ => True) fun i j => .bl (decide (i ≤ j))
@[simp] abbrev rdGt : RD2 := rdI (fun _ _ => True) fun i j => .bl (decide (j < i))
@[simp] abbrev rdGe : RD2 := rdI (fun _ _ => True) fun i j => .bl (decide (j ≤ i))
theorem od_add : OpD T X (binaryOp .Add) rdAdd := opd_I0 op_add fun _ _ _ _ => .int _
theorem od_sub : OpD T X (binaryOp .Sub) rdSub := opd_I0 op_sub fun _ _ _ _ => .int _
theorem od_mul : OpD T X (binaryOp .Mult) rdMul := opd_I op_mul fun _ _ _ _ => .int _
theorem od_mod : OpD T X (binaryOp .Mod) rdMod := opd_I op_mod fun _ _ _ _ => .int _
theorem od_div : OpD T X (binaryOp .FloorDiv) rdDiv := opd_I op_fdiv fun _ _ _ _ => .int _
theorem od_pow : OpD T X (binaryOp .Pow) rdPow := opd_I op_pow fun _ _ _ _ => .int _
theorem od_shl : OpD T X (binaryOp .LShift) rdShl := opd_I op_shl fun _ _ _ _ => .int _
theorem od_shr : OpD T X (binaryOp .RShift) rdShr := opd_I op_shr fun _ _ _ _ => .int _
theorem od_and : OpD T X (binaryOp .BitAnd) rdAnd := opd_I0 op_and fun _ _ _ _ => .int _
theorem od_lt : OpD T X (compareOp .Lt) rdLt := opd_I0 op_lt fun _ _ _ _ => .bl _
theorem od_le : OpD T X (compareOp .LtE) rdLe := opd_I0 op_le fun _ _ _ _ => .bl _
theorem od_gt : OpD T X (compareOp .Gt) rdGt := opd_I0 op_gt fun _ _ _ _ => .bl _
theorem od_ge : OpD T X (compareOp .GtE) rdGe := opd_I0 op_ge fun _ _ _ _ => .bl _

/-! ### texts -/
@[simp] def rdAddS : RD2 := fun x y μ P => match x, y with
  | .str i, .str j => i.length + j.length ≤ sizeLine ∧ P (.str (i ++ j)) μ
  | _, _ => False
theorem od_addS : OpD T X (binaryOp .Add) rdAddS := by
  intro pins s σ H x y v u Q I rx ry ⟨A, μ, d, e, P, rl, px, py, q, k⟩
  cases px with
  | str i =>
    cases py with
    | str j => exact op_add_str pins s σ H _ _ v u Q I rx ry ⟨i, j, rfl, rfl, q.1, k _ μ A _ H (.refl _ _) rl (.str _) q.2⟩
    | _ => exact q.elim
  | _ => exact q.elim

/-! ### == -/
mutual
def toPy : D → Option PyData
  | .non => some .none
  | .bl b => some (.bool b)
  | .int i => some (.int i)
  | .str x => some (.str x)
  | .tup xs => (toPyAll xs).map .tuple
  | .tupw xs => (toPyAll xs).map .tuple
  | .tupp xs => (toPyAll xs).map .tuple
  | .lst xs => (toPyAll xs).map .list
  | .scr xs => (toPyAll xs).map .list
  | .mu _ => none
  | .ins _ _ => none
  | .ty _ => none
  | .cl _ => none
def toPyAll : List D → Option (List PyData)
  | [] => some []
  | x :: xs => match toPy x, toPyAll xs with
    | some p, some ps => some (p :: ps)
    | _, _ => none
end
def pyOf (μ : Mu) : D → Option PyData
  | .mu i => match μ[i]? with | some (.lst xs) => (toPyAll xs).map .list | _ => none
  | d => toPy d
theorem omap {α β : Type} {o : Option α} {f : α → β} {b : β} (h : o.map f = some b) : ∃ a, o = some a ∧ f a = b := by
  cases o with
  | none => cases h
  | some a => exact ⟨a, rfl, Option.some.inj h⟩
mutual
theorem toPy_dp {A : Ax} {H : Hp} {K : PySem.W.Frag} : ∀ {v : V} {d : D} {p : PyData}, Rep T K A H v d → toPy d = some p → Dp K H v p
  | _, _, _, .non, h => by cases h; exact .non
  | _, _, _, .bl b, h => by cases h; exact .bl b
  | _, _, _, .int i, h => by cases h; exact .int i
  | _, _, _, .str x, h => by cases h; exact .str x
  | _, _, _, .tup e n q, h => by
    obtain ⟨ps, h1, h2⟩ := omap h
    subst h2
    exact .tup (.inl (.inr ⟨_, e⟩)) (toPyAll_dp q h1)
  | _, _, _, .tupp e q, h => by
    obtain ⟨ps, h1, h2⟩ := omap h
    subst h2
    exact .tup (.inl (.inl e)) (toPyAll_dp q h1)
  | _, _, _, .tupw e q, h => by
    obtain ⟨ps, h1, h2⟩ := omap h
    subst h2
    exact .tup e (toPyAll_dp q h1)
  | _, _, _, .lst e n q, h => by
    obtain ⟨ps, h1, h2⟩ := omap h
    subst h2
    exact .lst (.of e) (toPyAll_dp q h1)
  | _, _, _, .scr e q, h => by
    obtain ⟨ps, h1, h2⟩ := omap h
    subst h2
    exact .lst e.sq (toPyAll_dp q h1)
  | _, _, _, .mu _, h => by cases h
  | _, _, _, .ins _ _ _ _, h => by cases h
  | _, _, _, .ty _, h => by cases h
  | _, _, _, .cl _, h => by cases h
theorem toPyAll_dp {A : Ax} {H : Hp} {K : PySem.W.Frag} : ∀ {vs : List V} {ds : List D} {ps : List PyData}, Reps T K A H vs ds → toPyAll ds = some ps → DpAll K H vs ps
  | _, _, _, .nil, h => by cases h; exact .nil
  | _, _, _, .cons r t, h => by
    unfold toPyAll at h
    split at h
    · rename_i p ps h1 h2
      cases h
      exact .cons (toPy_dp r h1) (toPyAll_dp t h2)
    · cases h
end
theorem pyOf_dp {A : Ax} {H : Hp} {K : PySem.W.Frag} {μ : Mu} {v : V} {d : D} {p : PyData} (r : Rl T K A H μ) (q : Rep T K A H v d) (h : pyOf μ d = some p) : Dp K H v p := by
  cases d with
  | mu i =>
    cases q with
    | mu e =>
      unfold pyOf at h
      simp only at h
      split at h
      · rename_i xs e2
        obtain ⟨ps, h1, h2⟩ := omap h
        subst h2
        obtain ⟨vs, h3, h4⟩ := r.mutLst e e2
        exact .lst (.of h3) (toPyAll_dp h4 h1)
      · cases h
  | _ => exact toPy_dp q h
@[simp] def rdEq (neg : Bool) : RD2 := fun x y μ P => match pyOf μ x, pyOf μ y with
  | some p, some q => SeqAt.shaped p = true ∧ SeqAt.shaped q = true ∧ P (.bl (if neg then !PyData.eqv p q else PyData.eqv p q)) μ
  | _, _ => False
theorem od_eq {k : Nat} (hr : Room k X.A) : OpD T X (compareOp .Eq) (rdEq false) := by
  intro pins s σ H x y v u Q I rx ry ⟨A, μ, d, e, P, rl, px, py, q, k⟩
  unfold rdEq at q
  split at q
  · rename_i p p' h1 h2
    exact op_eqD hr.units pins s σ H _ _ v u Q I rx ry ⟨p, p', pyOf_dp rl px h1, pyOf_dp rl py h2, q.1, q.2.1, k _ μ A _ H (.refl _ _) rl (.bl _) q.2.2⟩
  · exact q.elim
theorem od_ne {k : Nat} (hr : Room k X.A) : OpD T X (compareOp .NotEq) (rdEq true) := by
  intro pins s σ H x y v u Q I rx ry ⟨A, μ, d, e, P, rl, px, py, q, k⟩
  unfold rdEq at q
  split at q
  · rename_i p p' h1 h2
    exact op_neD hr.units pins s σ H _ _ v u Q I rx ry ⟨p, p', pyOf_dp rl px h1, pyOf_dp rl py h2, q.1, q.2.1, k _ μ A _ H (.refl _ _) rl (.bl _) q.2.2⟩
  · exact q.elim

/-! ### in -/
def flatD : D → Option V
  | .non => some .non | .bl b => some (.bl b) | .int i => some (.int i) | .str x => some (.str x) | _ => none
def flatsD : List D → Option (List V)
  | [] => some []
  | x :: xs => match flatD x, flatsD xs with
    | some v, some vs => some (v :: vs)
    | _, _ => none
theorem flatD_rep {A : Ax} {H : Hp} {K : PySem.W.Frag} {v w : V} {d : D} (r : Rep T K A H v d) (h : flatD d = some w) : v = w ∧ flatV v = true := by
  cases r <;> first | (cases h; exact ⟨rfl, rfl⟩) | cases h
theorem flatsD_rep {A : Ax} {H : Hp} {K : PySem.W.Frag} : ∀ {vs ws : List V} {ds : List D}, Reps T K A H vs ds → flatsD ds = some ws → vs = ws ∧ vs.all flatV = true
  | _, _, _, .nil, h => by cases h; exact ⟨rfl, rfl⟩
  | _, _, _, .cons r t, h => by
    unfold flatsD at h
    split at h
    · rename_i v vs h1 h2
      cases h
      obtain ⟨e1, f1⟩ := flatD_rep r h1
      obtain ⟨e2, f2⟩ := flatsD_rep t h2
      subst e1 e2
      exact ⟨rfl, by rw [List.all_cons, f1, f2]; rfl⟩
    · cases h
@[simp] def rdIn (neg : Bool) : RD2 := fun x y μ P => match flatD x, (seqOf μ y).bind flatsD with
  | some v, some vs => P (.bl (if neg then !inV v vs else inV v vs)) μ
  | _, _ => False
theorem od_in_core {f : Value → Value → Sem Value} {neg : Bool} (h : OpR X f (rIn X.K neg)) : OpD T X f (rdIn neg) := by
  intro pins s σ H x y v u Q I rx ry ⟨A, μ, d, e, P, rl, px, py, q, k⟩
  unfold rdIn at q
  split at q
  · rename_i w ws h1 h2
    obtain ⟨ds, h3, h4⟩ := Option.bind_eq_some_iff.mp h2
    obtain ⟨a, vs, rfl, h5, h6⟩ := seqOf_view rl py h3
    obtain ⟨e1, f1⟩ := flatD_rep px h1
    obtain ⟨e2, f2⟩ := flatsD_rep h6 h4
    subst e1 e2
    exact h pins s σ H _ _ v u Q I rx ry ⟨a, vs, rfl, h5, f1, f2, k _ μ A _ H (.refl _ _) rl (.bl _) q⟩
  · exact q.elim
theorem od_in : OpD T X (compareOp .In) (rdIn false) := od_in_core op_in_seq
theorem od_notin : OpD T X (compareOp .NotIn) (rdIn true) := od_in_core op_notIn_seq
/-- data of any depth in a list -/
@[simp] def rdInD (neg : Bool) : RD2 := fun x y μ P => match pyOf μ x, pyOf μ y with
  | some p, some (.list qs) => SeqAt.shaped p = true ∧ SeqAt.shaped (.list qs) = true ∧ P (.bl (if neg then !(qs.any fun z => PyData.eqv z p) else qs.any fun z => PyData.eqv z p)) μ
  | _, _ => False
theorem od_inD {k : Nat} (hr : Room k X.A) : OpD T X (compareOp .In) (rdInD false) := by
  intro pins s σ H x y v u Q I rx ry ⟨A, μ, d, e, P, rl, px, py, q, k⟩
  unfold rdInD at q
  split at q
  · rename_i p p' h1 h2
    exact op_inD (by have := hr.un; omega) pins s σ H _ _ v u Q I rx ry ⟨p, p', pyOf_dp rl px h1, pyOf_dp rl py h2, q.1, q.2.1, k _ μ A _ H (.refl _ _) rl (.bl _) q.2.2⟩
  · exact q.elim
theorem od_notinD {k : Nat} (hr : Room k X.A) : OpD T X (compareOp .NotIn) (rdInD true) := by
  intro pins s σ H x y v u Q I rx ry ⟨A, μ, d, e, P, rl, px, py, q, k⟩
  unfold rdInD at q
  split at q
  · rename_i p p' h1 h2
    exact op_notInD (by have := hr.un; omega) pins s σ H _ _ v u Q I rx ry ⟨p, p', pyOf_dp rl px h1, pyOf_dp rl py h2, q.1, q.2.1, k _ μ A _ H (.refl _ _) rl (.bl _) q.2.2⟩
  · exact q.elim
/-- is None -/
@[simp] def rdIsN (neg : Bool) : RD2 := fun x y μ P => match y with
  | .non => P (.bl (match x with | .non => !neg | _ => neg)) μ
  | _ => False
theorem od_isN : OpD T X (compareOp .Is) (rdIsN false) := by
  intro pins s σ H x y v u Q I rx ry ⟨A, μ, d, e, P, rl, px, py, q, k⟩
  cases py with
  | non =>
    refine op_isN pins s σ H _ _ v u Q I rx ry ⟨rfl, k _ μ A _ H (.refl _ _) rl ?_ q⟩
    cases px <;> exact .bl _
  | _ => exact q.elim
theorem od_notN : OpD T X (compareOp .IsNot) (rdIsN true) := by
  intro pins s σ H x y v u Q I rx ry ⟨A, μ, d, e, P, rl, px, py, q, k⟩
  cases py with
  | non =>
    refine op_notN pins s σ H _ _ v u Q I rx ry ⟨rfl, k _ μ A _ H (.refl _ _) rl ?_ q⟩
    cases px <;> exact .bl _
  | _ => exact q.elim

/-! ### new tuples -/
abbrev tupO (us : List Value) : Obj := { cls := .type "tuple", data := .seq us.toArray }
theorem laidT {pins : List (Addr × Obj)} {σ : L2.St} {H : Hp} {s : Shared} {vs : List V} {us : List Value} (I : Inv X pins σ H s) (r : Vals vs us) (z : vs.length ≤ sizeLine) :
    Inv X pins σ (upd H s.heap.objs.size (.frz (tupO us) (.tup vs))) { s with heap := s.heap.push (tupO us) } :=
  I.laid (t' := s.toks) (fun b u e => Heap.get?_push_of_some _ e) (Nat.le_refl _) ⟨Heap.get?_push_size _ rfl, z, us, r, ⟨_, Heap.get?_push_size _ rfl, rfl, _, rfl⟩⟩
theorem newT {A : Ax} {H : Hp} {K : PySem.W.Frag} {μ : Mu} {vs : List V} {us : List Value} {ds : List D} {p : Addr} (rl : Rl T K A H μ) (q : Reps T K A H vs ds) (hp : H p = none) :
    Ext A H A (upd H p (.frz (tupO us) (.tup vs))) ∧ Rl T K A (upd H p (.frz (tupO us) (.tup vs))) μ ∧ Rep T K A (upd H p (.frz (tupO us) (.tup vs))) (.ref p) (.tup ds) := by
  have s := same_upd (o := .frz (tupO us) (.tup vs)) hp
  exact ⟨.same s, rl.same s, .tup upd_same rfl (q.mono rl (.same s))⟩
@[simp] def tdTup (t : TDA) : TD := fun ρ μ P PX => t ρ μ (fun ds μ1 => ds.length ≤ sizeLine ∧ P (.tup ds) μ1) PX
theorem pd_tup {es : List Expr} {x1 : Nat} {pos : Pos} {t : TDA} (h : PDA T X W es t) : PD T X W (.Tuple es x1 pos) (tdTup t) := by
  refine ⟨⟨fun pins s σ H Q I hq => ?_⟩⟩
  obtain ⟨A, μ, ρ, P, PX, rl, re, q, k, kx⟩ := hq
  refine wpAny_Tuple_spliced (thn (h.run.run pos pins s σ H (fun vs H1 => vs.length ≤ sizeLine ∧ ∀ us p, H1 p = none → Q (.ref p) (upd H1 p (.frz (tupO us) (.tup vs)))) I ⟨A, μ, ρ, _, PX, rl, re, q, fun ds μ1 A1 vs H1 x1 r1 p1 h1 => ⟨by rw [p1.length]; exact h1.1, fun us p hp => ?_⟩, kx⟩)
    fun us s1 ⟨vs, H1, I1, r, z, q1⟩ => ⟨by rw [← r.length]; exact z, .ref s1.heap.objs.size, _, laidT I1 r z, rfl, q1 us _ (I1.hok.fresh (Nat.le_refl _))⟩)
  obtain ⟨x2, r2, p2⟩ := newT (us := us) r1 p1 hp
  exact k _ _ _ _ _ (x1.tr r1 x2) r2 p2 h1.2
end
end DL

/-! The data layer, 4: sequences: made, joined, read, cut. -/
namespace DL
open PySem PySem.Spec L2
section
variable {T : Cl} {X : Cx} {W : WX} {a b e : Expr} {es : List Expr} {pos : Pos}

/-- a fresh list by a rule that lays it -/
theorem fresh_k {K : PySem.W.Frag} {A A1 : Ax} {H H1 : Hp} {μ1 : Mu} {p : Addr} {vs : List V} {ds : List D} (x1 : Ext A H A1 H1) (r : Rl T K A1 H1 μ1) (rl : ∀ a ∈ A.al, a ∈ A1.al) (hp : H1 p = none) (q : Reps T K A1 H1 vs ds) :
    Ext A H A1 (upd H1 p (.lst vs)) ∧ Rl T K (A1.gst p) (upd H1 p (.lst vs)) μ1 ∧ Nt H p ∧ p ∉ A1.gh ∧ (upd H1 p (.lst vs)) p = some (.lst vs) ∧ Reps T K (A1.gst p) (upd H1 p (.lst vs)) vs ds := by
  obtain ⟨x2, r2⟩ := r.gst (o := .lst vs) hp
  refine ⟨x1.tr r (.same (same_upd hp)), r2, ?_, fun z => (r.gh p z).2 (.of hp), upd_same, q.mono r x2⟩
  rcases x1.none (.of hp) with z | z
  · exact absurd (rl p z) (r.nal hp)
  · exact z
theorem Ext.sub {A A' : Ax} {H H' : Hp} (x : Ext A H A' H') : ∀ a ∈ A.al, a ∈ A'.al := fun a h => by
  obtain ⟨z, e⟩ := x.pre
  rw [e]; exact List.mem_append_left _ h

/-! ### displays -/
@[simp] def tdLst (t : TDA) : TDF := fun ρ μ P PX => t ρ μ (fun ds μ1 => ds.length ≤ sizeLine ∧ P ds μ1) PX
theorem pf_lst {t : TDA} (h : PDA T X W es t) : PDF T X W (.List es pos) (tdLst t) :=
  ⟨PE.mono (pe_lst h.run) fun σ H Q ⟨A, μ, ρ, P, PX, rl, re, q, k, kx⟩ => ⟨A, μ, ρ, _, PX, rl, re, q, fun ds μ1 A1 vs H1 x1 r1 p1 h1 => ⟨by rw [p1.length]; exact h1.1, fun p hp => by
    obtain ⟨x2, r2, n1, n2, e2, p2⟩ := fresh_k x1 r1 x1.sub hp p1
    exact k _ _ _ _ _ p x2 r2 n1 n2 e2 p2 h1.2⟩, kx⟩⟩

/-! ### xs + ys, xs * n -/
/-- the reading of a two-place operation that makes a list -/
abbrev RF2 := D → D → Mu → (List D → Mu → Prop) → Prop
def liftOF (T : Cl) (K : PySem.W.Frag) (rd : RF2) : R2 := fun x y H Q => ∃ A μ d e P, Rl T K A H μ ∧ Rep T K A H x d ∧ Rep T K A H y e ∧ rd d e μ P ∧
  ∀ ds vs p, H p = none → Reps T K A H vs ds → P ds μ → Q (.ref p) (upd H p (.lst vs))
@[simp] def tdOpF (rd : RF2) (ta tb : TD) : TDF := fun ρ μ P PX => ta ρ μ (fun x μ1 => tb ρ μ1 (fun y μ2 => rd x y μ2 P) PX) PX
theorem pf_op {op : Operator} {rd : RF2} {ta tb : TD} (ho : OpR X (binaryOp op) (liftOF T X.K rd)) (ha : PD T X W a ta) (hb : PD T X W b tb) : PDF T X W (.BinOp a op b pos) (tdOpF rd ta tb) :=
  ⟨PE.mono (pe_op ho ha.run hb.run) fun σ H Q ⟨A, μ, ρ, P, PX, rl, re, h, k, kx⟩ => ⟨A, μ, ρ, _, PX, rl, re, h, fun x μ1 A1 v1 H1 x1 r1 p1 h1 => ⟨A1, μ1, ρ, _, PX, r1, re.mono rl x1, h1, fun y μ2 A2 v2 H2 x2 r2 p2 h2 =>
    ⟨A2, μ2, x, y, P, r2, p1.mono r1 x2, p2, h2, fun ds vs p hp q h3 => by
      have xx := x1.tr r1 x2
      obtain ⟨x3, r3, n1, n2, e2, p3⟩ := fresh_k xx r2 xx.sub hp q
      exact k _ _ _ _ _ p x3 r3 n1 n2 e2 p3 h3⟩, kx.ext x1 r1⟩, kx⟩⟩
@[simp] def rfCat : RF2 := fun x y μ P => match lstOf μ x, lstOf μ y with
  | some xs, some ys => xs.length + ys.length ≤ sizeLine ∧ P (xs ++ ys) μ
  | _, _ => False
theorem of_cat : OpR X (binaryOp .Add) (liftOF T X.K rfCat) := by
  intro pins s σ H x y v u Q I rx ry ⟨A, μ, d, e, P, rl, px, py, q, k⟩
  unfold rfCat at q
  split at q
  · rename_i xs ys h1 h2
    obtain ⟨l, vs, rfl, e1, q1⟩ := lstOf_view rl px h1
    obtain ⟨m, ws, rfl, e2, q2⟩ := lstOf_view rl py h2
    exact op_cat pins s σ H _ _ v u Q I rx ry ⟨l, m, vs, ws, rfl, rfl, e1, e2, by rw [q1.length, q2.length]; exact q.1, fun p hp => k _ _ p hp (q1.append q2) q.2⟩
  · exact q.elim
@[simp] def rfRep : RF2 := fun x y μ P => match lstOf μ x, y with
  | some xs, .int k => -(2 ^ 63) ≤ k ∧ k < 2 ^ 63 ∧ xs.length * k.toNat ≤ sizeLine ∧ P (List.replicate k.toNat xs).flatten μ
  | _, _ => False
theorem Reps.rep {K : PySem.W.Frag} {A : Ax} {H : Hp} {vs : List V} {ds : List D} (r : Reps T K A H vs ds) : ∀ (n : Nat), Reps T K A H (List.replicate n vs).flatten (List.replicate n ds).flatten
  | 0 => .nil
  | n + 1 => by
    rw [List.replicate_succ, List.replicate_succ, List.flatten_cons, List.flatten_cons]
    exact r.append (Reps.rep r n)
theorem of_rep : OpR X (binaryOp .Mult) (liftOF T X.K rfRep) := by
  intro pins s σ H x y v u Q I rx ry ⟨A, μ, d, e, P, rl, px, py, q, k⟩
  unfold rfRep at q
  split at q
  · rename_i xs n h1
    cases py
    obtain ⟨l, vs, rfl, e1, q1⟩ := lstOf_view rl px h1
    exact op_rep pins s σ H _ _ v u Q I rx ry ⟨l, n, vs, rfl, rfl, e1, q.1, q.2.1, by rw [q1.length]; exact q.2.2.1, fun p hp => k _ _ p hp (q1.rep _) q.2.2.2⟩
  · exact q.elim

/-! ### t + u -/
theorem cat_new {K : PySem.W.Frag} {A : Ax} {H : Hp} {a b : Addr} {xs ys : List V} {dx dy : List D} {P : D → Mu → Prop} {μ : Mu} {Q : VK} {pins : List (Addr × Obj)} {σ : L2.St} {s : Shared}
    (I : Inv X pins σ H s) (rl : Rl T X.K A H μ) (ha : SqT X.K H a xs) (hb : SqT X.K H b ys) (q1 : Reps T X.K A H xs dx) (q2 : Reps T X.K A H ys dy) (hx : dx ≠ []) (hy : dy ≠ []) (z : dx.length + dy.length ≤ sizeLine)
    (k : ∀ d' μ' A' v H', Ext A H A' H' → Rl T X.K A' H' μ' → Rep T X.K A' H' v d' → P d' μ' → Q v H') (h : P (.tup (dx ++ dy)) μ) :
    wpAny (model X.prog X.w) X.A (binaryOp .Add (.ref a) (.ref b)) (EP X pins σ Q) X.xe s := by
  obtain ⟨its, r1, p1, _⟩ := I.tuple ha
  obtain ⟨its2, r2, p2, _⟩ := I.tuple hb
  have n1 : its ≠ [] := fun e => hx (q1.nil_iff.mp (r1.nil_iff.mp e))
  have n2 : its2 ≠ [] := fun e => hy (q2.nil_iff.mp (r2.nil_iff.mp e))
  have zz : (xs ++ ys).length ≤ sizeLine := by rw [List.length_append, q1.length, q2.length]; exact z
  refine HT.cat_tup p1 p2 n1 (fun e => absurd e n2) (fun _ => ?_) (by rw [← r1.length, ← r2.length, ← List.length_append]; exact zz)
  obtain ⟨x3, r3, p3⟩ := newT (us := its ++ its2) rl (q1.append q2) (I.hok.fresh (Nat.le_refl _))
  exact ⟨.ref _, _, laidT I (r1.append r2) zz, rfl, k _ _ _ _ _ x3 r3 p3 h⟩
@[simp] def rdCatT : RD2 := fun x y μ P => match x, y with
  | .tup xs, .tup ys => xs.length + ys.length ≤ sizeLine ∧ P (.tup (xs ++ ys)) μ
  | .tupw xs, .tup ys => xs ≠ [] ∧ ys ≠ [] ∧ xs.length + ys.length ≤ sizeLine ∧ P (.tup (xs ++ ys)) μ
  | .tup xs, .tupw ys => xs ≠ [] ∧ ys ≠ [] ∧ xs.length + ys.length ≤ sizeLine ∧ P (.tup (xs ++ ys)) μ
  | .tupw xs, .tupw ys => xs ≠ [] ∧ ys ≠ [] ∧ xs.length + ys.length ≤ sizeLine ∧ P (.tup (xs ++ ys)) μ
  | _, _ => False
theorem sq_fz {K : PySem.W.Frag} {H : Hp} {a : Addr} {o : Obj} {xs : List V} (h : H a = some (.frz o (.tup xs))) : SqT K H a xs := .inl (.inr ⟨o, h⟩)
theorem od_catT : OpD T X (binaryOp .Add) rdCatT := by
  intro pins s σ H x y v u Q I rx ry ⟨A, μ, d, e, P, rl, px, py, q, k⟩
  cases px with
  | @tup a o xs dx hx eo qx =>
    cases py with
    | @tup b o' ys dy hy eo' qy =>
      cases rx; cases ry
      have q : dx.length + dy.length ≤ sizeLine ∧ P (.tup (dx ++ dy)) μ := q
      by_cases n1 : dx = []
      · subst n1
        cases qx
        obtain ⟨its, r1, p1, _⟩ := I.tuple (sq_fz hx)
        obtain ⟨its2, r2, p2, _⟩ := I.tuple (sq_fz hy)
        cases r1
        exact cat_tup0 p1 p2 ⟨.ref b, H, I, rfl, k _ μ A _ H (.refl _ _) rl (.tup hy eo' qy) q.2⟩
      · by_cases n2 : dy = []
        · subst n2
          cases qy
          obtain ⟨its, r1, p1, _⟩ := I.tuple (sq_fz hx)
          obtain ⟨its2, r2, p2, _⟩ := I.tuple (sq_fz hy)
          cases r2
          refine HT.cat_tup p1 p2 (fun z => n1 (qx.nil_iff.mp (r1.nil_iff.mp z))) (fun _ => ⟨.ref a, H, I, rfl, k _ μ A _ H (.refl _ _) rl (.tup hx eo qx) (by simpa using q.2)⟩) (fun z => absurd rfl z) (by rw [← r1.length, qx.length]; simpa using q.1)
        · exact cat_new (K := X.K) I rl (sq_fz hx) (sq_fz hy) qx qy n1 n2 q.1 k q.2
    | @tupw b ys dy hy qy => cases rx; cases ry; exact cat_new (K := X.K) I rl (sq_fz hx) hy qx qy q.1 q.2.1 q.2.2.1 k q.2.2.2
    | _ => exact q.elim
  | @tupw a xs dx hx qx =>
    cases py with
    | @tup b o' ys dy hy eo' qy => cases rx; cases ry; exact cat_new (K := X.K) I rl hx (sq_fz hy) qx qy q.1 q.2.1 q.2.2.1 k q.2.2.2
    | @tupw b ys dy hy qy => cases rx; cases ry; exact cat_new (K := X.K) I rl hx hy qx qy q.1 q.2.1 q.2.2.1 k q.2.2.2
    | _ => exact q.elim
  | _ => exact q.elim

/-! ### xs[i] -/
@[simp] def rdIx : RD2 := fun x y μ P => match seqOf μ x, y with
  | some ds, .int i => match atI ds i with | some d => P d μ | none => False
  | _, _ => False
theorem atI_rep {K : PySem.W.Frag} {A : Ax} {H : Hp} {vs : List V} {ds : List D} {i : Int} {d : D} (r : Reps T K A H vs ds) (h : atI ds i = some d) : ∃ v, atI vs i = some v ∧ Rep T K A H v d := by
  unfold atI at h ⊢
  rw [← r.length] at h
  cases e : ixN vs.length i with
  | none => rw [e] at h; cases h
  | some j =>
    rw [e] at h
    exact r.get (i := j) h
theorem ox_ix : IxR X (liftO T X.K rdIx) := by
  intro value slice pins s σ H x y v u Q I rx ry ⟨A, μ, d, e, P, rl, px, py, q, k⟩ hs
  unfold rdIx at q
  split at q
  · rename_i ds i h1
    cases py
    split at q
    · rename_i z hz
      obtain ⟨a, vs, rfl, h2, h3⟩ := seqOf_view rl px h1
      obtain ⟨w, h4, h5⟩ := atI_rep h3 hz
      have kk := k _ μ A _ H (.refl _ _) rl h5 q
      rcases h2 with h2 | h2
      · exact ix_seq value slice pins s σ H _ _ v u Q I rx ry (.inl ⟨a, vs, i, w, rfl, rfl, h2, h4, kk⟩) hs
      · exact ix_seq value slice pins s σ H _ _ v u Q I rx ry (.inr (.inl ⟨a, vs, i, w, rfl, rfl, h2, h4, kk⟩)) hs
    · exact q.elim
  · exact q.elim
theorem pd_ix {ta tb : TD} (ha : PD T X W a ta) (hb : PD T X W b tb) (hs : PlainIx b := by intro _ _; rfl) : PD T X W (.Subscript a b pos) (tdOp rdIx ta tb) :=
  ⟨PE.mono (pe_ix ox_ix ha.run hb.run hs) fun _ _ _ => op_lift⟩

/-! ### slices -/
abbrev TDO := Env → Mu → (Option Int → Mu → Prop) → PX → Prop
def liftP (T : Cl) (X : Cx) (W : WX) (t : TDO) : TO := fun σ H Q => ∃ A μ ρ P PX, Rl T X.K A H μ ∧ RE T X.K A H σ ρ ∧ t ρ μ P PX ∧
  (∀ o μ' A' H', Ext A H A' H' → Rl T X.K A' H' μ' → P o μ' → Q o H') ∧ XOk T X W A H σ PX
structure PDO (T : Cl) (X : Cx) (W : WX) (e : Option Expr) (t : TDO) : Prop where
  run : PO X e (liftP T X W t)
theorem PO.mono {e : Option Expr} {t t' : TO} (h : PO X e t) (i : ∀ σ H Q, t' σ H Q → t σ H Q) : PO X e t' := ⟨fun pins s σ H Q I q => h.run pins s σ H Q I (i σ H Q q)⟩
@[simp] def tdNoPart : TDO := fun _ μ P _ => P none μ
@[simp] def tdPart (t : TD) : TDO := fun ρ μ P PX => t ρ μ (fun d μ1 => match d with | .int i => P (some i) μ1 | _ => False) PX
theorem pdo_none : PDO T X W none tdNoPart := ⟨PO.mono po_none fun σ H Q ⟨A, μ, ρ, P, PX, rl, re, h, k, kx⟩ => k none μ A H (.refl _ _) rl h⟩
theorem pdo_some {t : TD} (h : PD T X W e t) : PDO T X W (some e) (tdPart t) :=
  ⟨PO.mono (po_some h.run) fun σ H Q ⟨A, μ, ρ, P, PX, rl, re, h, k, kx⟩ => ⟨A, μ, ρ, _, PX, rl, re, h, fun d μ1 A1 v1 H1 x1 r1 p1 h1 => by
    cases d with
    | int i => cases p1; exact ⟨i, rfl, k _ μ1 A1 H1 x1 r1 h1⟩
    | _ => exact h1.elim, kx⟩⟩
def cutD (xs : List D) (lo hi : Option Int) : List D := (xs.drop (HT.sIx xs.length 0 lo)).take (HT.sIx xs.length xs.length hi - HT.sIx xs.length 0 lo)
theorem Reps.cut {K : PySem.W.Frag} {A : Ax} {H : Hp} {vs : List V} {ds : List D} (r : Reps T K A H vs ds) (lo hi : Option Int) : Reps T K A H (cutV vs lo hi) (cutD ds lo hi) := by
  unfold cutV cutD
  rw [r.length]
  exact (r.drop _).take _
@[simp] def tdSlL (te : TD) (tl th : TDO) : TDF := fun ρ μ P PX => te ρ μ (fun x μ1 => tl ρ μ1 (fun lo μ2 => th ρ μ2 (fun hi μ3 => match lsrOf μ3 x with | some ds => P (cutD ds lo hi) μ3 | none => False) PX) PX) PX
/-- of a list -/
theorem pf_slice {lo hi : Option Expr} {te : TD} {tl th : TDO} {p2 : Pos} (he : PD T X W e te) (hl : PDO T X W lo tl) (hu : PDO T X W hi th) : PDF T X W (.Subscript e (.Slice lo hi none p2) pos) (tdSlL te tl th) :=
  ⟨PE.mono (pe_slice sl_list he.run hl.run hu.run) fun σ H Q ⟨A, μ, ρ, P, PX, rl, re, h, k, kx⟩ => ⟨A, μ, ρ, _, PX, rl, re, h, fun x μ1 A1 v1 H1 x1 r1 p1 h1 => ⟨A1, μ1, ρ, _, PX, r1, re.mono rl x1, h1, fun l μ2 A2 H2 x2 r2 h2 =>
    ⟨A2, μ2, ρ, _, PX, r2, re.mono rl (x1.tr r1 x2), h2, fun u μ3 A3 H3 x3 r3 h3 => by
      split at h3
      · rename_i ds hd
        obtain ⟨a, vs, rfl, h4, h5⟩ := lsrOf_view r3 (p1.mono r1 (x2.tr r2 x3)) hd
        have xx := (x1.tr r1 x2).tr r2 x3
        refine ⟨a, vs, rfl, h4, fun p hp => ?_⟩
        obtain ⟨x4, r4, n1, n2, e2, p4⟩ := fresh_k xx r3 xx.sub hp (h5.cut l u)
        exact k _ _ _ _ _ p x4 r4 n1 n2 e2 p4 h3
      · exact h3.elim, kx.ext (x1.tr r1 x2) r2⟩, kx.ext x1 r1⟩, kx⟩⟩
/-- of a tuple -/
def rSlX (T : Cl) (K : PySem.W.Frag) : V → Option Int → Option Int → Hp → VK → Prop := fun x lo hi H Q => ∃ (A : Ax) (μ : Mu) (ds : List D) (P : D → Mu → Prop), Rl T K A H μ ∧ Rep T K A H x (.tup ds) ∧ P (.tup (cutD ds lo hi)) μ ∧
  ∀ d' μ' A' v H', Ext A H A' H' → Rl T K A' H' μ' → Rep T K A' H' v d' → P d' μ' → Q v H'
theorem cutD_all {xs : List D} {lo hi : Option Int} (h : HT.sIx xs.length 0 lo = 0 ∧ HT.sIx xs.length xs.length hi = xs.length) : cutD xs lo hi = xs := by
  unfold cutD
  rw [h.1, h.2]
  simp
theorem sl_X : SlR X (rSlX T X.K) := by
  intro pins s σ H x v vl vu lo hi sl Q I rx hs pl pu ⟨A, μ, ds, P, rl, px, h, k⟩
  cases px with
  | @tup a o xs _ hx eo qx =>
    cases rx
    obtain ⟨its, r, ht, hz⟩ := I.tuple (sq_fz hx)
    have hlen : its.toArray.size = ds.length := by rw [List.size_toArray, ← r.length]; exact qx.length
    refine ⟨"tuple", _, PyProof.Rows.slot_tuple_getitem.lookup, ht.typeIs, ?_⟩
    by_cases hw : HT.sIx ds.length 0 lo = 0 ∧ HT.sIx ds.length ds.length hi = ds.length
    · exact getItem_tuple_whole ht hs pl pu (by rw [hlen]; exact hw) ⟨.ref a, H, I, rfl, k _ _ _ _ _ (.refl _ _) rl (.tup hx eo qx) (by rw [cutD_all hw] at h; exact h)⟩
    · refine HT.getItem_tuple_cut ht hs pl pu (by rw [hlen]; exact hw) ?_ (by rw [List.size_toArray, ← r.length]; exact hz)
      have r' : Vals (cutV xs lo hi) ((its.toArray.toList.drop (HT.sIx its.toArray.size 0 lo)).take (HT.sIx its.toArray.size its.toArray.size hi - HT.sIx its.toArray.size 0 lo)) := by
        unfold cutV
        rw [hlen, ← qx.length]
        exact (r.drop _).take _
      obtain ⟨x3, r3, p3⟩ := newT (us := (its.toArray.toList.drop (HT.sIx its.toArray.size 0 lo)).take (HT.sIx its.toArray.size its.toArray.size hi - HT.sIx its.toArray.size 0 lo)) rl (qx.cut lo hi) (I.hok.fresh (Nat.le_refl _))
      exact ⟨.ref _, _, laidT I r' (Nat.le_trans (cutV_length xs lo hi) hz), rfl, k _ _ _ _ _ x3 r3 p3 h⟩
@[simp] def tdSlT (te : TD) (tl th : TDO) : TD := fun ρ μ P PX => te ρ μ (fun x μ1 => tl ρ μ1 (fun lo μ2 => th ρ μ2 (fun hi μ3 => match x with | .tup ds => P (.tup (cutD ds lo hi)) μ3 | _ => False) PX) PX) PX
theorem pd_sliceT {lo hi : Option Expr} {te : TD} {tl th : TDO} {p2 : Pos} (he : PD T X W e te) (hl : PDO T X W lo tl) (hu : PDO T X W hi th) : PD T X W (.Subscript e (.Slice lo hi none p2) pos) (tdSlT te tl th) :=
  ⟨PE.mono (pe_slice (sl_X (T := T)) he.run hl.run hu.run) fun σ H Q ⟨A, μ, ρ, P, PX, rl, re, h, k, kx⟩ => ⟨A, μ, ρ, _, PX, rl, re, h, fun x μ1 A1 v1 H1 x1 r1 p1 h1 => ⟨A1, μ1, ρ, _, PX, r1, re.mono rl x1, h1, fun l μ2 A2 H2 x2 r2 h2 =>
    ⟨A2, μ2, ρ, _, PX, r2, re.mono rl (x1.tr r1 x2), h2, fun u μ3 A3 H3 x3 r3 h3 => by
      cases x with
      | tup ds => exact ⟨A3, μ3, ds, P, r3, p1.mono r1 (x2.tr r2 x3), h3, fun d' μ' A' v H' x4 r4 p4 h4 => k d' μ' A' v H' (((x1.tr r1 x2).tr r2 x3).tr r3 x4) r4 p4 h4⟩
      | _ => exact h3.elim, kx.ext (x1.tr r1 x2) r2⟩, kx.ext x1 r1⟩, kx⟩⟩
end
end DL

/-! The data layer, 5: what is walked; comprehensions. -/
namespace DL
open PySem PySem.Spec L2

/-- a walk over data: the items, and what must stay true of the store at each turn -/
structure WalkD (T : Cl) (K : PySem.W.Frag) (J : It) (A0 : Ax) (H0 : Hp) (xs : List D) (kp : Mu → Prop) : Prop where
  ex : ∃ (G : Hp → Prop) (Y : Nat → Hp → V → Hp → Prop), Walk J xs.length G Y ∧ (∀ A μ H, Ext A0 H0 A H → Rl T K A H μ → kp μ → G H) ∧
    ∀ A μ H i x H', Ext A0 H0 A H → Rl T K A H μ → kp μ → i < xs.length → Y i H x H' → ∃ d, xs[i]? = some d ∧ Same H H' ∧ Rep T K A H' x d
abbrev TDI := Env → Mu → (List D → (Mu → Prop) → Mu → Prop) → PX → Prop
def liftI (T : Cl) (X : Cx) (W : WX) (t : TDI) : TI := fun σ H R => ∃ A μ ρ P PX, Rl T X.K A H μ ∧ RE T X.K A H σ ρ ∧ t ρ μ P PX ∧
  (∀ xs kp μ' A' J H', Ext A H A' H' → Rl T X.K A' H' μ' → WalkD T X.K J A' H' xs kp → P xs kp μ' → R J H') ∧ XOk T X W A H σ PX
structure PDI (T : Cl) (X : Cx) (W : WX) (tg iter : Expr) (t : TDI) : Prop where
  run : PI X tg iter (liftI T X W t)
section
variable {T : Cl} {X : Cx} {W : WX} {a b e tg : Expr} {es : List Expr} {pos : Pos}
theorem PI.mono {tg iter : Expr} {t t' : TI} (h : PI X tg iter t) (i : ∀ σ H R, t' σ H R → t σ H R) : PI X tg iter t' := ⟨fun pins s σ H R I q => h.run pins s σ H R I (i σ H R q)⟩

/-! ### sources -/
@[simp] def tdiL (t : TD) : TDI := fun ρ μ P PX => t ρ μ (fun d μ1 => match d with
  | .lst xs => P xs (fun _ => True) μ1
  | .scr xs => P xs (fun _ => True) μ1
  | .mu i => match μ1[i]? with | some (.lst xs) => P xs (fun μ => μ[i]? = some (.lst xs)) μ1 | _ => False
  | _ => False) PX
theorem walkD_list {K : PySem.W.Frag} {A : Ax} {H : Hp} {μ : Mu} {a : Addr} {d : D} {ds : List D} {kp : Mu → Prop} {vs : List V} (rl : Rl T K A H μ) (h0 : SqL K H a vs) (hq : Reps T K A H vs ds)
    (h : ∀ A' μ' H', Ext A H A' H' → Rl T K A' H' μ' → kp μ' → SqL K H' a vs) : WalkD T K (Itl K a) A H ds kp := by
  refine ⟨fun H => SqL K H a vs, YAt vs, by rw [← hq.length]; exact walk_list, h, fun A' μ' H' i x H2 x1 r1 k1 hi y => ?_⟩
  obtain ⟨e, y⟩ := y
  subst e
  obtain ⟨d, h1, h2⟩ := hq.get' y
  exact ⟨d, h1, Same.refl _, h2.mono rl x1⟩
theorem pdi_list {t : TD} (h : PD T X W e t) : PDI T X W tg e (tdiL t) :=
  ⟨PI.mono (pi_list h.run) fun σ H R ⟨A, μ, ρ, P, PX, rl, re, q, k, kx⟩ => ⟨A, μ, ρ, _, PX, rl, re, q, fun d μ1 A1 v1 H1 x1 r1 p1 h1 => by
    cases p1 with
    | @lst a vs ds e n q1 => exact ⟨a, rfl, ⟨vs, .of e⟩, k _ _ _ _ _ _ x1 r1 (walkD_list (d := .lst ds) r1 (.of e) q1 fun A' μ' H' x2 r2 _ => .of (x2.keep _ _ (fun z => n (.inl z)) nofun e)) h1⟩
    | @scr a vs ds e q1 =>
      have hs : SqL X.K H1 a vs := e.sq
      refine ⟨a, rfl, ⟨vs, hs⟩, k _ _ _ _ _ _ x1 r1 (walkD_list (d := .scr ds) r1 hs q1 fun A' μ' H' x2 r2 _ => ?_) h1⟩
      rcases e with ⟨o, e⟩ | e | ⟨e, n⟩
      · exact .inl (.inr ⟨o, x2.keep _ _ (r1.nfrz e) nofun e⟩)
      · exact .inr e
      · exact .of (x2.keep _ _ (fun z => n (.inl z)) nofun e)
    | @mu a i e =>
      replace h1 : match μ1[i]? with | some (.lst xs) => P xs (fun μ => μ[i]? = some (.lst xs)) μ1 | _ => False := h1
      split at h1
      · rename_i xs e2
        obtain ⟨vs, h3, h4⟩ := r1.mutLst e e2
        refine ⟨a, rfl, ⟨vs, .of h3⟩, k _ _ _ _ _ _ x1 r1 ⟨fun H => ∃ ws, SqL X.K H a ws ∧ ws.length = xs.length, fun i H x H' => H' = H ∧ ∀ ws, SqL X.K H a ws → ws[i]? = some x, ⟨fun j H2 hj hw => ?_, fun H2 hw => ?_, fun j H2 x H3 hj hw y => y⟩, fun A' μ' H' x2 r2 k2 => ?_, fun A' μ' H' j x H2 x2 r2 k2 hj y => ?_⟩ h1⟩
        · obtain ⟨ws, w1, w2⟩ := hw
          exact ⟨ws, ws[j]'(by omega), w1, List.getElem?_eq_getElem (by omega)⟩
        · obtain ⟨ws, w1, w2⟩ := hw
          exact ⟨ws, w1, Nat.le_of_eq w2⟩
        · obtain ⟨ws, w1, w2⟩ := r2.mutLst (x2.at_ e) k2
          exact ⟨ws, .of w1, w2.length⟩
        · obtain ⟨ee, y⟩ := y
          subst ee
          obtain ⟨ws, w1, w2⟩ := r2.mutLst (x2.at_ e) k2
          obtain ⟨d, d1, d2⟩ := w2.get' (y ws (.of w1))
          exact ⟨d, d1, Same.refl _, d2⟩
      · exact h1.elim
    | _ => exact h1.elim, kx⟩⟩
@[simp] def tdiT (t : TD) : TDI := fun ρ μ P PX => t ρ μ (fun d μ1 => match tupOf d with | some xs => P xs (fun _ => True) μ1 | none => False) PX
theorem pdi_tup {t : TD} (h : PD T X W e t) : PDI T X W tg e (tdiT t) :=
  ⟨PI.mono (pi_tup h.run) fun σ H R ⟨A, μ, ρ, P, PX, rl, re, q, k, kx⟩ => ⟨A, μ, ρ, _, PX, rl, re, q, fun d μ1 A1 v1 H1 x1 r1 p1 h1 => by
    split at h1
    · rename_i ds hd
      obtain ⟨a, vs, rfl, h2, h3⟩ := tupOf_view p1 hd
      refine ⟨a, rfl, ⟨vs, h2⟩, k _ _ _ _ _ _ x1 r1 ⟨fun H => SqT X.K H a vs, YAt vs, by rw [← h3.length]; exact walk_tup, fun A' μ' H' x2 r2 _ => ?_, fun A' μ' H' i x H2 x2 r2 _ hi y => ?_⟩ h1⟩
      · rcases h2 with (h2 | ⟨o, h2⟩) | h2
        · exact .inl (.inl (x2.keep _ _ (r1.ntup h2) nofun h2))
        · exact .inl (.inr ⟨o, x2.keep _ _ (r1.nfrz h2) nofun h2⟩)
        · exact .inr h2
      · obtain ⟨ee, y⟩ := y
        subst ee
        obtain ⟨d, d1, d2⟩ := h3.get' y
        exact ⟨d, d1, Same.refl _, d2.mono r1 x2⟩
    · exact h1.elim, kx⟩⟩
def ranD (lo : Int) (n : Nat) : List D := (List.range n).map fun i => D.int (lo + (i : Nat))
theorem walkD_range {K : PySem.W.Frag} {A : Ax} {H : Hp} {lo : Int} {n : Nat} : WalkD T K (Itr lo n) A H (ranD lo n) (fun _ => True) := by
  have e : (ranD lo n).length = n := by simp [ranD]
  refine ⟨_, _, by rw [e]; exact walk_range, fun _ _ _ _ _ _ => trivial, fun A' μ' H' i x H2 _ _ _ hi y => ?_⟩
  obtain ⟨e1, e2⟩ := y
  subst e1 e2
  rw [e] at hi
  exact ⟨.int (lo + (i : Nat)), by simp [ranD, List.getElem?_range hi], Same.refl _, .int _⟩
@[simp] def tdiR1 (t : TDA) : TDI := fun ρ μ P PX => t ρ μ (fun ds μ1 => match ds with | [.int j] => -(2 ^ 62) ≤ j ∧ j < 2 ^ 62 ∧ P (ranD 0 j.toNat) (fun _ => True) μ1 | _ => False) PX
theorem pdi_range1 {t : TDA} {p : Pos} (hg : Gl X "range") (hm : X.mg "range" = none) (ha : PDA T X W [a] t) (hs : starEach [a] X.env = [(false, eval a X.env)] := by rfl) : PDI T X W tg (.Call (.Name "range" p) [a] [] pos) (tdiR1 t) :=
  ⟨PI.mono (pi_range1 hg hm ha.run hs) fun σ H R ⟨A, μ, ρ, P, PX, rl, re, q, k, kx⟩ => ⟨A, μ, ρ, _, PX, rl, re, q, fun ds μ1 A1 vs H1 x1 r1 p1 h1 => by
    split at h1
    · rename_i j
      cases p1 with
      | cons p2 p3 =>
        cases p3
        cases p2
        exact ⟨j, rfl, h1.1, h1.2.1, k _ _ _ _ _ _ x1 r1 walkD_range h1.2.2⟩
    · exact h1.elim, kx⟩⟩
@[simp] def tdiR2 (t : TDA) : TDI := fun ρ μ P PX => t ρ μ (fun ds μ1 => match ds with | [.int i, .int j] => (-(2 ^ 62) ≤ i ∧ i < 2 ^ 62 ∧ -(2 ^ 62) ≤ j ∧ j < 2 ^ 62) ∧ P (ranD i (j - i).toNat) (fun _ => True) μ1 | _ => False) PX
theorem pdi_range2 {t : TDA} {p : Pos} (hg : Gl X "range") (hm : X.mg "range" = none) (ha : PDA T X W [a, b] t) (hs : starEach [a, b] X.env = [(false, eval a X.env), (false, eval b X.env)] := by rfl) (hs2 : starEach [b] X.env = [(false, eval b X.env)] := by rfl) :
    PDI T X W tg (.Call (.Name "range" p) [a, b] [] pos) (tdiR2 t) :=
  ⟨PI.mono (pi_range2 hg hm ha.run hs hs2) fun σ H R ⟨A, μ, ρ, P, PX, rl, re, q, k, kx⟩ => ⟨A, μ, ρ, _, PX, rl, re, q, fun ds μ1 A1 vs H1 x1 r1 p1 h1 => by
    split at h1
    · rename_i i j
      cases p1 with
      | cons p2 p3 =>
        cases p3 with
        | cons p4 p5 =>
          cases p5
          cases p2
          cases p4
          exact ⟨i, j, rfl, h1.1, k _ _ _ _ _ _ x1 r1 walkD_range h1.2⟩
    · exact h1.elim, kx⟩⟩

/-! ### the list of a comprehension while it grows -/
theorem Rep.ghw {K : PySem.W.Frag} {A : Ax} {H : Hp} {p : Addr} {zs : List V} {o : HO} (hp : A.Mt p) (e : H p = some (.lst zs)) : ∀ {v : V} {d : D}, Rep T K A H v d → Rep T K A (upd H p o) v d
  | _, _, .non => .non
  | _, _, .bl b => .bl b
  | _, _, .int i => .int i
  | _, _, .str y => .str y
  | _, _, .ty n => .ty n
  | _, _, .cl c => .cl c
  | _, _, .tup (a := a) h eo q => .tup (by rw [upd_ne (by rintro rfl; rw [e] at h; cases h)]; exact h) eo (ghws hp e q)
  | _, _, .tupp (a := a) h q => .tupp (by rw [upd_ne (by rintro rfl; rw [e] at h; cases h)]; exact h) (ghws hp e q)
  | _, _, .tupw (a := a) h q => .tupw (by
      rcases h with (h | ⟨o, h⟩) | h
      · exact .inl (.inl (by rw [upd_ne (by rintro rfl; rw [e] at h; cases h)]; exact h))
      · exact .inl (.inr ⟨o, by rw [upd_ne (by rintro rfl; rw [e] at h; cases h)]; exact h⟩)
      · exact .inr h) (ghws hp e q)
  | _, _, .lst (a := a) h n q => .lst (by rw [upd_ne (by rintro rfl; exact n hp)]; exact h) n (ghws hp e q)
  | _, _, .scr (a := a) h q => .scr (by
      rcases h with ⟨o, h⟩ | h | ⟨h, n⟩
      · exact .inl ⟨o, by rw [upd_ne (by rintro rfl; rw [e] at h; cases h)]; exact h⟩
      · exact .inr (.inl h)
      · exact .inr (.inr ⟨by rw [upd_ne (by rintro rfl; exact n hp)]; exact h, n⟩)) (ghws hp e q)
  | _, _, .mu h => .mu h
  | _, _, .ins (a := a) h l n q => .ins (by rw [upd_ne (by rintro rfl; exact n hp)]; exact h) l n (ghws hp e q)
where ghws {K : PySem.W.Frag} {A : Ax} {H : Hp} {p : Addr} {zs : List V} {o : HO} (hp : A.Mt p) (e : H p = some (.lst zs)) : ∀ {vs : List V} {ds : List D}, Reps T K A H vs ds → Reps T K A (upd H p o) vs ds
  | _, _, .nil => .nil
  | _, _, .cons r t => .cons (Rep.ghw hp e r) (ghws hp e t)
theorem Reps.ghw {K : PySem.W.Frag} {A : Ax} {H : Hp} {p : Addr} {zs : List V} {o : HO} (hp : A.Mt p) (e : H p = some (.lst zs)) {vs : List V} {ds : List D} (r : Reps T K A H vs ds) : Reps T K A (upd H p o) vs ds := Rep.ghw.ghws hp e r
theorem Rl.ghw {K : PySem.W.Frag} {A : Ax} {H : Hp} {μ : Mu} {p : Addr} {zs : List V} {o : HO} (r : Rl T K A H μ) (hp : p ∈ A.gh) (e : H p = some (.lst zs)) (ho : ∀ ps, o ≠ .tbl ps := by nofun) : Rl T K A (upd H p o) μ := by
  refine ⟨r.len, r.nd, fun i c f => ?_, fun a h => ⟨(r.gh a h).1, ?_⟩, tabs_upd r.tb e nt_lst fun _ _ => codeO_lst _⟩
  · obtain ⟨a, h1, m⟩ := r.at_ i c f
    have ne : a ≠ p := by rintro rfl; exact (r.gh a hp).1 (List.mem_of_getElem? h1)
    refine ⟨a, h1, ?_⟩
    cases c with
    | lst ds => obtain ⟨vs, h2, h3⟩ := m; exact ⟨vs, by rw [upd_ne ne]; exact h2, h3.ghw (.inr hp) e⟩
    | dic ds => obtain ⟨vs, h2, h3⟩ := m; exact ⟨vs, by rw [upd_ne ne]; exact h2, h3.ghw (.inr hp) e⟩
    | obj c fs => obtain ⟨dx, vs, h2, h3⟩ := m; exact ⟨dx, vs, by rw [upd_ne ne]; exact h2, h3.ghw (.inr hp) e⟩
  · by_cases ea : a = p
    · subst ea; exact nt_same ho
    · exact nt_ne ea (r.gh a h).2
theorem RE.ghw {K : PySem.W.Frag} {A : Ax} {H : Hp} {p : Addr} {zs : List V} {o : HO} {σ : L2.St} {ρ : Env} (r : RE T K A H σ ρ) (hp : A.Mt p) (e : H p = some (.lst zs)) : RE T K A (upd H p o) σ ρ :=
  ⟨r.1, fun i d h => by
    obtain ⟨v, h1, h2⟩ := r.2 i d h
    exact ⟨v, h1, h2.ghw hp e⟩⟩
theorem RE.drop_ {K : PySem.W.Frag} {A B : Ax} {H : Hp} {σ : L2.St} {ρ : Env} (e : ∃ z, B.al = A.al ++ z) (m : ∀ a, B.Mt a → A.Mt a) (r : RE T K A H σ ρ) : RE T K B H σ ρ :=
  ⟨r.1, fun i d h => by
    obtain ⟨v, h1, h2⟩ := r.2 i d h
    exact ⟨v, h1, h2.drop_ e m⟩⟩
/-- the ghost p set apart -/
def Ax.off (A : Ax) (p : Addr) : Ax := ⟨A.al, A.gh.filter fun a => decide (a ≠ p)⟩
theorem Ax.off_mt {A : Ax} {p : Addr} (h : p ∈ A.gh) (a : Addr) : ((A.off p).gst p).Mt a ↔ A.Mt a := by
  rw [Ax.Mt_gst]
  unfold Ax.off Ax.Mt
  simp only [List.mem_filter, decide_eq_true_eq]
  constructor
  · rintro ((h | h) | rfl)
    · exact .inl h
    · exact .inr h.1
    · exact .inr h
  · rintro (q | q)
    · exact .inl (.inl q)
    · by_cases e : a = p
      · exact .inr e
      · exact .inl (.inr ⟨q, e⟩)
theorem Ax.off_not {A : Ax} {p : Addr} : p ∉ (A.off p).gh := by
  unfold Ax.off
  simp
theorem Rl.off {K : PySem.W.Frag} {A : Ax} {H : Hp} {μ : Mu} {p : Addr} (r : Rl T K A H μ) (h : p ∈ A.gh) : Rl T K ((A.off p).gst p) H μ :=
  ⟨r.len, r.nd, fun i c f => by
    obtain ⟨a, h1, h2⟩ := r.at_ i c f
    exact ⟨a, h1, h2.drop_ ⟨[], by simp [Ax.off, Ax.gst]⟩ fun a z => (Ax.off_mt h a).mp z⟩, fun a q => by
    rcases List.mem_cons.mp (show a ∈ p :: (A.off p).gh from q) with q | q
    · subst q; exact r.gh a h
    · exact r.gh a (List.mem_filter.mp q).1, r.tb⟩

/-! ### [e for x in xs if t] -/
@[simp] def lcGo (st : D → Option Env) (tt : TDT) (te : TD) (kp : Mu → Prop) : List D → List D → Mu → (List D → Mu → Prop) → Prop
  | [], acc, μ, P => kp μ ∧ P acc μ
  | x :: xs, acc, μ, P => kp μ ∧ ∃ ρ', st x = some ρ' ∧ tt ρ' μ (fun b μ1 => if b = true then te ρ' μ1 (fun y μ2 => acc.length < sizeLine ∧ lcGo st tt te kp xs (acc ++ [y]) μ2 P) (fun _ _ => False) else lcGo st tt te kp xs acc μ1 P) (fun _ _ => False)
theorem lcGo_kp {st : D → Option Env} {tt : TDT} {te : TD} {kp : Mu → Prop} {xs acc : List D} {μ : Mu} {P : List D → Mu → Prop} (h : lcGo st tt te kp xs acc μ P) : kp μ := by
  cases xs <;> exact h.1
/-- how a target takes an item: slots of the block's own -/
structure TgD (T : Cl) (K : PySem.W.Frag) (own : List Nat) (g : TG) (st : Env → D → Option Env) : Prop where
  ok : ∀ A μ H x d σ ρ ρ' (Q : L2.St → Hp → Prop), Rl T K A H μ → Rep T K A H x d → RE T K A H (L2.wipe σ own) (wipeD ρ own) → st (wipeD ρ own) d = some ρ' →
    (∀ σ', RE T K A H σ' ρ' → L2.wipe σ' own = L2.wipe σ own → Q σ' H) → g x (L2.wipe σ own) H Q
theorem wipe_get (σ : L2.St) : ∀ (vs : List Nat) (j : Nat), (L2.wipe σ vs)[j]? = if j ∈ vs then σ[j]?.map (fun _ => none) else σ[j]?
  | [], j => by simp [L2.wipe]
  | v :: vs, j => by
    show ((L2.wipe σ vs).set v none)[j]? = _
    rw [List.getElem?_set, wipe_get σ vs j]
    have hl : (L2.wipe σ vs).length = σ.length := wipe_length σ vs
    by_cases e : v = j
    · subst e
      simp only [if_true, List.mem_cons, true_or, hl]
      by_cases h : v < σ.length
      · simp [h]
      · simp [h]
    · rw [if_neg e]
      have : (j ∈ v :: vs) ↔ j ∈ vs := by simp [List.mem_cons, Ne.symm e]
      simp only [this]
theorem wipe_set {σ : L2.St} {own : List Nat} {i : Nat} (h : i ∈ own) (x : Option V) : L2.wipe (σ.set i x) own = L2.wipe σ own := by
  apply List.ext_getElem?
  intro j
  rw [wipe_get, wipe_get]
  split
  · rw [List.getElem?_set]
    split
    · rename_i e; subst e
      split
      · rename_i h2; simp [h2]
      · rename_i h2; simp [h2]
    · rfl
  · rename_i hj
    rw [List.getElem?_set_ne (by rintro rfl; exact hj h)]
theorem wipe_wipe {σ : L2.St} {own : List Nat} : L2.wipe (L2.wipe σ own) own = L2.wipe σ own := by
  apply List.ext_getElem?
  intro j
  rw [wipe_get, wipe_get]
  split
  · cases σ[j]? <;> rfl
  · rfl
theorem tg_name {K : PySem.W.Frag} {own : List Nat} {i : Nat} (h : i ∈ own := by decide) : TgD T K own (gName i) (fun ρ d => some (ρ.set i (some d))) :=
  ⟨fun A μ H x d σ ρ ρ' Q rl r re e k => by
    cases e
    exact k _ (re.set i r) (by rw [wipe_set h, wipe_wipe])⟩
@[simp] def stTwo (i j : Nat) : Env → D → Option Env := fun ρ d => match tupOf d with
  | some [x, y] => some ((ρ.set i (some x)).set j (some y))
  | _ => none
theorem tg_two {K : PySem.W.Frag} {own : List Nat} {i j : Nat} (h : i ∈ own := by decide) (h' : j ∈ own := by decide) : TgD T K own (gTup K 2 (gCons (gName i) (gCons (gName j) gNil))) (stTwo i j) :=
  ⟨fun A μ H x d σ ρ ρ' Q rl r re e k => by
    unfold stTwo at e
    split at e
    · rename_i dx dy hd
      cases e
      obtain ⟨a, vs, rfl, h1, h2⟩ := tupOf_view r hd
      cases h2 with
      | cons r1 h2 =>
        cases h2 with
        | cons r2 h2 =>
          cases h2
          exact ⟨a, _, rfl, h1, rfl, _, _, rfl, _, _, rfl, rfl, k _ ((re.set i r1).set j r2) (by rw [wipe_set h', wipe_set h, wipe_wipe])⟩
    · cases e⟩
@[simp] def tdLc (ti : TDI) (st : Env → D → Option Env) (tt : TDT) (te : TD) (own : List Nat) : TDF := fun ρ μ P PX => ti ρ μ (fun xs kp μ1 => lcGo (st (wipeD ρ own)) tt te kp xs [] μ1 P) PX
theorem lc_lift {own : List (Str × Nat)} {ti : TDI} {g : TG} {st : Env → D → Option Env} {tt : TDT} {te : TD} (hgd : TgD T X.K (own.map (·.2)) g st) (σ : L2.St) (H : Hp) (Q : VK) (q : liftF T X W (tdLc ti st tt te (own.map (·.2))) σ H Q) :
    tLc (liftI T X W ti) g (liftT T X (fun _ _ _ _ => False) tt) (lift T X (fun _ _ _ _ => False) te) (own.map (·.2)) σ H Q := by
  obtain ⟨A, μ, ρ, P, PX, rl, re, h, k, kx⟩ := q
  refine ⟨A, μ, ρ, _, PX, rl, re, h, fun xs kp μ1 A1 J H1 x1 r1 wd h1 D hD => ?_, kx⟩
  obtain ⟨G, Y, w, hG, hY⟩ := wd.ex
  obtain ⟨xg, rg⟩ := r1.gst (o := .lst []) hD
  have re1 : RE T X.K A1 H1 σ ρ := re.mono rl x1
  refine lc_it (g := g) (tt := liftT T X (fun _ _ _ _ => False) tt) (te := lift T X (fun _ _ _ _ => False) te) (vs := own.map (·.2)) (σ := σ) (H1 := H1) (D := D) (Qd := fun H => Q (.ref D) H) w (fun i H2 => ∃ A2 μ2 vs acc, Ext A1 H1 A2 H2 ∧ Rl T X.K (A2.gst D) H2 μ2 ∧ D ∉ A2.gh ∧ H2 D = some (.lst vs) ∧ Reps T X.K (A2.gst D) H2 vs acc ∧ RE T X.K (A2.gst D) H2 (L2.wipe σ (own.map (·.2))) (wipeD ρ (own.map (·.2))) ∧
      lcGo (st (wipeD ρ (own.map (·.2)))) tt te kp (xs.drop i) acc μ2 P) ?_ (fun i H2 hi ⟨A2, μ2, vs, acc, x2, r2, n2, e2, p2, q2, g2⟩ => ?_) (fun i x H2 H3 hi ⟨A2, μ2, vs, acc, x2, r2, n2, e2, p2, q2, g2⟩ y => ?_) (fun H2 ⟨A2, μ2, vs, acc, x2, r2, n2, e2, p2, q2, g2⟩ => ?_)
  · exact ⟨A1, μ1, [], [], .same (same_upd hD), rg, fun z => (r1.gh D z).2 (.of hD), upd_same, .nil, (re1.mono r1 xg).wipe _, by rw [List.drop_zero]; exact h1⟩
  · have x2' : Ext A1 H1 (A2.gst D) H2 := ⟨x2.pre, fun a z => by
      rcases List.mem_cons.mp (show a ∈ D :: A2.gh from z) with z | z
      · subst z; exact .inr (.of hD)
      · exact x2.gh a z, fun a z => List.mem_cons_of_mem _ (x2.ghk a z), x2.keep, x2.new⟩
    exact hG _ _ _ x2' r2 (lcGo_kp g2)
  · have x2' : Ext A1 H1 (A2.gst D) H2 := ⟨x2.pre, fun a z => by
      rcases List.mem_cons.mp (show a ∈ D :: A2.gh from z) with z | z
      · subst z; exact .inr (.of hD)
      · exact x2.gh a z, fun a z => List.mem_cons_of_mem _ (x2.ghk a z), x2.keep, x2.new⟩
    obtain ⟨d, d1, d2, d3⟩ := hY _ _ _ i x H3 x2' r2 (lcGo_kp g2) hi y
    have hdr : xs.drop i = d :: xs.drop (i + 1) := by
      have hx := (List.getElem?_eq_some_iff.mp d1)
      obtain ⟨hl, hx⟩ := hx
      rw [List.drop_eq_getElem_cons hl, hx]
    rw [hdr] at g2
    obtain ⟨_, ρ', s1, g3⟩ := g2
    have r3 := r2.same d2
    have xs3 : Ext (A2.gst D) H2 (A2.gst D) H3 := .same d2
    refine hgd.ok _ _ _ _ _ σ ρ ρ' _ r3 d3 (q2.mono r2 xs3) s1 fun σ' q3 wz => ⟨wz, ?_⟩
    refine ⟨A2.gst D, μ2, ρ', _, _, r3, q3, g3, fun b μ4 A4 H4 x4 r4 g4 => ?_, fun _ _ _ _ _ _ _ _ _ z => z.elim⟩
    have xx : Ext (A2.gst D) H2 A4 H4 := xs3.tr r3 x4
    have nal : D ∉ (A2.gst D).al := (r2.gh D List.mem_cons_self).1
    have mem4 : D ∈ A4.gh := xx.ghk D List.mem_cons_self
    have e4 : H4 D = some (.lst vs) := xx.keep D _ nal nofun e2
    -- what every end of the turn gives
    have fin : ∀ {A5 : Ax} {H5 : Hp} {μ5 : Mu} {vs5 : List V} {acc5 : List DL.D} {o5 : HO}, Ext (A2.gst D) H2 A5 H5 → Rl T X.K A5 H5 μ5 → H5 D = some (.lst vs) → Reps T X.K A5 H5 vs5 acc5 → lcGo (st (wipeD ρ (own.map (·.2)))) tt te kp (xs.drop (i + 1)) acc5 μ5 P →
        ∃ A6 μ6 vs6 acc6, Ext A1 H1 A6 (upd H5 D (.lst vs5)) ∧ Rl T X.K (A6.gst D) (upd H5 D (.lst vs5)) μ6 ∧ D ∉ A6.gh ∧ (upd H5 D (.lst vs5)) D = some (.lst vs6) ∧ Reps T X.K (A6.gst D) (upd H5 D (.lst vs5)) vs6 acc6 ∧ RE T X.K (A6.gst D) (upd H5 D (.lst vs5)) (L2.wipe σ (own.map (·.2))) (wipeD ρ (own.map (·.2))) ∧
          lcGo (st (wipeD ρ (own.map (·.2)))) tt te kp (xs.drop (i + 1)) acc6 μ6 P := fun {A5 H5 μ5 vs5 acc5 o5} x5 r5 e5 p5 g5 => by
      have m5 : D ∈ A5.gh := x5.ghk D List.mem_cons_self
      have r6 := r5.off m5
      have al0 : ∃ z, ((A5.off D).gst D).al = A5.al ++ z := ⟨[], by simp [Ax.off, Ax.gst]⟩
      have mt0 : ∀ a, ((A5.off D).gst D).Mt a → A5.Mt a := fun a z => (Ax.off_mt m5 a).mp z
      have md : ((A5.off D).gst D).Mt D := .inr List.mem_cons_self
      refine ⟨A5.off D, μ5, vs5, acc5, ?_, r6.ghw List.mem_cons_self e5, Ax.off_not, upd_same, (p5.drop_ al0 mt0).ghw md e5, ((q2.mono r2 x5).drop_ al0 mt0).ghw md e5, g5⟩
      have x6 := x2'.tr r2 x5
      refine ⟨x6.pre, fun a z => x6.gh a (List.mem_filter.mp z).1, fun a z => List.mem_filter.mpr ⟨x6.ghk a z, ?_⟩, fun a o n k z => ?_, x6.new⟩
      · simp only [decide_eq_true_eq]
        rintro rfl
        exact (r1.gh a z).2 (.of hD)
      · rw [upd_ne (by rintro rfl; rw [hD] at z; cases z)]
        exact x6.keep a o n k z
    by_cases hb : b = true
    · rw [if_pos hb] at g4
      show if b = true then _ else _
      rw [if_pos hb]
      refine ⟨A4, μ4, ρ', _, _, r4, q3.mono r3 x4, g4, fun y μ5 A5 v H5 x5 r5 p5 g5 => ?_, fun _ _ _ _ _ _ _ _ _ z => z.elim⟩
      have x6 := xx.tr r4 x5
      have e5 : H5 D = some (.lst vs) := x6.keep D _ nal nofun e2
      refine ⟨vs, e5, by rw [p2.length]; exact g5.1, fin (o5 := .lst []) x6 r5 e5 ((p2.mono r2 x6).append (.cons p5 .nil)) g5.2⟩
    · rw [if_neg hb] at g4
      show if b = true then _ else _
      rw [if_neg hb]
      have z := fin (o5 := .lst []) xx r4 e4 (p2.mono r2 xx) g4
      have ez : upd H4 D (.lst vs) = H4 := by
        funext q
        by_cases hq : q = D
        · subst hq; rw [upd_same, e4]
        · rw [upd_ne hq]
      rw [ez] at z
      exact z
  · rw [List.drop_length] at g2
    exact k _ _ _ _ _ D (x1.tr r1 x2) r2 (by
      rcases x1.none (.of hD) with z | z
      · exact absurd (x1.sub D z) (r1.nal hD)
      · exact z) n2 e2 p2 g2.2
theorem pf_lc {elt iter : Expr} {ifs : List Expr} {scope : Scope} {own : List (Str × Nat)} {ti : TDI} {g : TG} {st : Env → D → Option Env} {tt : TDT} {te : TD} (hc : X.calm = true) (hN : X.N.Nodup) (hi : PDI T X W tg iter ti) (ok : BlkOk X.N X.env.scope scope own)
    (hgd : TgD T X.K (own.map (·.2)) g st)
    (hg : ∀ (s : Shared) (H : Hp) (C : Addr) (cl : List (Str × Addr)) (fp : List Addr), PG (X.blk s H scope (compEnvC scope cl C X.env) fp) tg g)
    (ht : ∀ (s : Shared) (H : Hp) (C : Addr) (cl : List (Str × Addr)) (fp : List Addr), PTs (X.blk s H scope (compEnvC scope cl C X.env) fp) ifs (liftT T (X.blk s H scope (compEnvC scope cl C X.env) fp) (fun _ _ _ _ => False) tt))
    (he : ∀ (s : Shared) (H : Hp) (C : Addr) (cl : List (Str × Addr)) (fp : List Addr), PD T (X.blk s H scope (compEnvC scope cl C X.env) fp) (fun _ _ _ _ => False) elt te)
    (hs : ∀ x, foldedSetIterable iter X.env x = pure x := by intro _; rfl) : PDF T X W (.ListComp elt [{ target := tg, iter := iter, ifs := ifs, is_async := 0 }] scope pos) (tdLc ti st tt te (own.map (·.2))) :=
  ⟨PE.mono (pe_lc (tt := liftT T X (fun _ _ _ _ => False) tt) (te := lift T X (fun _ _ _ _ => False) te) hc hN hi.run ok hg (fun s H C cl fp => ht s H C cl fp) (fun s H C cl fp => (he s H C cl fp).run) hs) (lc_lift hgd)⟩
end
end DL

/-! The data layer, 6: built-ins and their methods. -/
namespace DL
open PySem PySem.Spec L2
section
variable {T : Cl} {X : Cx} {W : WX} {a b e : Expr} {es : List Expr} {pos : Pos}

/-! ### len -/
@[simp] def rdLen : RDC := fun ds μ P => match ds with
  | [.str z] => z.length ≤ sizeLine ∧ P (.int z.length) μ
  | [d] => match seqOf μ d with | some xs => P (.int xs.length) μ | none => False
  | _ => False
theorem cd_len : CallD T X (.builtin "len") rdLen := by
  intro pins s σ H vs us Q I r ⟨A, μ, ds, P, rl, pv, q, k⟩
  cases pv with
  | nil => exact q.elim
  | @cons v vs d ds r1 r2 =>
    cases r2 with
    | cons _ _ => cases d <;> exact q.elim
    | nil =>
      by_cases hs : ∃ z, d = .str z
      · obtain ⟨z, rfl⟩ := hs
        cases r1
        exact call_len_str pins s σ H _ us Q I r ⟨z, rfl, q.1, k _ μ A _ H (.refl _ _) rl (.int _) q.2⟩
      · have q' : match seqOf μ d with | some xs => P (.int xs.length) μ | none => False := by
          cases d with
          | str z => exact absurd ⟨z, rfl⟩ hs
          | _ => exact q
        split at q'
        · rename_i xs hx
          obtain ⟨p, vs, rfl, h1, h2⟩ := seqOf_view rl r1 hx
          exact call_len_seq pins s σ H _ us Q I r ⟨p, vs, rfl, h1, by rw [h2.length]; exact k _ μ A _ H (.refl _ _) rl (.int _) q'⟩
        · exact q'.elim

/-! ### isinstance -/
inductive Tg where
  | ty (n : String) | cl (c : Nat)
  deriving DecidableEq
@[simp] def tgOf (μ : Mu) : D → Option Tg
  | .non => some (.ty "NoneType") | .bl _ => some (.ty "bool") | .int _ => some (.ty "int") | .str _ => some (.ty "str")
  | .tup _ => some (.ty "tuple") | .tupp _ => some (.ty "tuple") | .lst _ => some (.ty "list")
  | .mu i => match μ[i]? with | some (.lst _) => some (.ty "list") | some (.obj c _) => some (.cl c) | _ => none
  | .ins c _ => some (.cl c)
  | _ => none
def tgV (T : Cl) : Tg → Value
  | .ty n => .type n
  | .cl c => .ref (T.cls c)
/-- what isinstance asks of an own class -/
structure ClsI (T : Cl) (K : PySem.W.Frag) (c : Nat) : Prop where
  cl : Cls K (T.cls c)
  ha : PySem.W.findIn K (.ref (T.cls c)) "__class__" = some (some (.builtin "object.__class__"))
  hn : PySem.W.specialIn K (.builtin "object.__class__") "__get__" = some (some (.builtin "getset_descriptor.__get__"))
  htk : PySem.W.takesIn K (.builtin "object.__class__") = some true
  hm : PySem.W.mroIn K (T.cls c) (.type "object") = some true
/-- the answers of isinstance -/
structure IsiT (T : Cl) (K : PySem.W.Frag) (J : Tg → Tg → Option Bool) : Prop where
  cls : ∀ c, (∃ t b, J (.cl c) t = some b) → ClsI T K c
  ans : ∀ a t b, J a t = some b → PySem.W.kitOne K (tgV T a) (tgV T t) = some b
@[simp] def clsTg : D → Option Tg
  | .ty n => some (.ty n) | .cl c => some (.cl c) | _ => none
@[simp] def rdIsi (J : Tg → Tg → Option Bool) : RDC := fun ds μ P => match ds with
  | [x, c] => match tgOf μ x, clsTg c with
    | some t, some u => match J t u with | some b => P (.bl b) μ | none => False
    | _, _ => False
  | _ => False
theorem cd_isi {J : Tg → Tg → Option Bool} (hJ : IsiT T X.K J) : CallD T X (.builtin "isinstance") (rdIsi J) := by
  intro pins s σ H vs us Q I r ⟨A, μ, ds, P, rl, pv, q, k⟩
  unfold rdIsi at q
  split at q
  · rename_i x c
    split at q
    · rename_i t u ht hu
      split at q
      · rename_i b hb
        cases pv with
        | @cons v _ _ _ r1 r2 =>
          cases r2 with
          | @cons w _ _ _ r2 r3 =>
            cases r3
            have hc : ClsV w (tgV T u) := by
              cases r2 with
              | ty n => cases hu; exact .ty n
              | cl n => cases hu; exact .own _
              | _ => cases hu
            have hx : TyX X.K H v (tgV T t) := by
              cases r1 with
              | non => cases ht; exact .base .non
              | bl _ => cases ht; exact .base (.bl _)
              | int _ => cases ht; exact .base (.int _)
              | str _ => cases ht; exact .base (.str _)
              | tup e1 e2 e3 => cases ht; exact .fTuple e1
              | tupp e1 e2 => cases ht; exact .base (.tup e1)
              | lst e1 e2 e3 => cases ht; exact .base (.lst e1)
              | ins e1 e2 e3 e4 =>
                cases ht
                have f := hJ.cls _ ⟨_, _, hb⟩
                exact .base (.ins e1 f.cl f.ha f.hn f.htk f.hm)
              | @mu a i e1 =>
                have ht : (match μ[i]? with | some (.lst _) => some (.ty "list") | some (.obj c _) => some (.cl c) | _ => none) = some t := ht
                split at ht
                · rename_i xs e2
                  cases ht
                  obtain ⟨vs, h1, _⟩ := rl.mutLst e1 e2
                  exact .base (.lst h1)
                · rename_i c fs e2
                  cases ht
                  obtain ⟨b', hb', m⟩ := rl.at_ i _ e2
                  rw [e1] at hb'; cases hb'
                  obtain ⟨dx, vs, h1, _⟩ := m
                  have f := hJ.cls _ ⟨_, _, hb⟩
                  exact .base (.ins h1 f.cl f.ha f.hn f.htk f.hm)
                · cases ht
              | _ => cases ht
            exact call_isi pins s σ H _ us Q I r ⟨v, w, _, _, b, rfl, hc, hx, hJ.ans _ _ _ hb, k _ μ A _ H (.refl _ _) rl (.bl _) q⟩
      · exact q.elim
    · exact q.elim
  · exact q.elim

/-! ### all, any, sum, min, max -/
def blsOf : List D → Option (List Bool)
  | [] => some []
  | .bl b :: r => (blsOf r).map (b :: ·)
  | _ :: _ => none
theorem blsOf_eq : ∀ {ds : List D} {bs : List Bool}, blsOf ds = some bs → ds = bs.map D.bl
  | [], bs, h => by cases h; rfl
  | d :: r, bs, h => by
    cases d with
    | bl b =>
      obtain ⟨bs', h1, h2⟩ := omap (show (blsOf r).map (b :: ·) = some bs from h)
      subst h2
      rw [blsOf_eq h1]; rfl
    | _ => cases h
def intsOf : List D → Option (List Int)
  | [] => some []
  | .int b :: r => (intsOf r).map (b :: ·)
  | _ :: _ => none
theorem intsOf_eq : ∀ {ds : List D} {bs : List Int}, intsOf ds = some bs → ds = bs.map D.int
  | [], bs, h => by cases h; rfl
  | d :: r, bs, h => by
    cases d with
    | int b =>
      obtain ⟨bs', h1, h2⟩ := omap (show (intsOf r).map (b :: ·) = some bs from h)
      subst h2
      rw [intsOf_eq h1]; rfl
    | _ => cases h
theorem intsOf_map : ∀ (ns : List Int), intsOf (ns.map D.int) = some ns
  | [] => rfl
  | n :: ns => by show (intsOf (ns.map D.int)).map (n :: ·) = _; rw [intsOf_map ns]; rfl
theorem blsOf_map : ∀ (ns : List Bool), blsOf (ns.map D.bl) = some ns
  | [] => rfl
  | n :: ns => by show (blsOf (ns.map D.bl)).map (n :: ·) = _; rw [blsOf_map ns]; rfl
theorem reps1 {K : PySem.W.Frag} {A : Ax} {H : Hp} {vs : List V} {d : D} (r : Reps T K A H vs [d]) : ∃ v, vs = [v] ∧ Rep T K A H v d := by
  cases r with
  | cons r1 r2 => cases r2; exact ⟨_, rfl, r1⟩
@[simp] def rdAll (any : Bool) : RDC := fun ds μ P => match ds with
  | [d] => match (lsrOf μ d).bind blsOf with | some bs => P (.bl (if any then bs.any id else bs.all id)) μ | none => False
  | _ => False
theorem cd_all (hc : X.calm = true) : CallD T X (.builtin "all") (rdAll false) := by
  intro pins s σ H vs us Q I r ⟨A, μ, ds, P, rl, pv, q, k⟩
  unfold rdAll at q
  split at q
  · obtain ⟨v, rfl, r1⟩ := reps1 pv
    split at q
    · rename_i bs hb
      obtain ⟨xs, h1, h2⟩ := Option.bind_eq_some_iff.mp hb
      obtain ⟨a, ws, rfl, h3, h4⟩ := lsrOf_view rl r1 h1
      have e := blsOf_eq h2
      subst e
      have e := h4.bls
      subst e
      exact cr_all hc pins s σ H _ us Q I r ⟨a, bs, rfl, h3, k _ μ A _ H (.refl _ _) rl (.bl _) q⟩
    · exact q.elim
  · exact q.elim
theorem cd_any (hc : X.calm = true) : CallD T X (.builtin "any") (rdAll true) := by
  intro pins s σ H vs us Q I r ⟨A, μ, ds, P, rl, pv, q, k⟩
  unfold rdAll at q
  split at q
  · obtain ⟨v, rfl, r1⟩ := reps1 pv
    split at q
    · rename_i bs hb
      obtain ⟨xs, h1, h2⟩ := Option.bind_eq_some_iff.mp hb
      obtain ⟨a, ws, rfl, h3, h4⟩ := lsrOf_view rl r1 h1
      have e := blsOf_eq h2
      subst e
      have e := h4.bls
      subst e
      exact cr_any hc pins s σ H _ us Q I r ⟨a, bs, rfl, h3, k _ μ A _ H (.refl _ _) rl (.bl _) q⟩
    · exact q.elim
  · exact q.elim
@[simp] def rdSum : RDC := fun ds μ P => match ds with
  | [d] => match (seqOf μ d).bind intsOf with | some ns => P (.int ns.sum) μ | none => False
  | _ => False
open PyProof.Rows PySem.Calls in
theorem cd_sum (hc : X.calm = true) : CallD T X (.builtin "sum") rdSum := by
  intro pins s σ H vs us Q I r ⟨A, μ, ds, P, rl, pv, q, k⟩
  unfold rdSum at q
  split at q
  · obtain ⟨v, rfl, r1⟩ := reps1 pv
    split at q
    · rename_i ns hb
      obtain ⟨xs, h1, h2⟩ := Option.bind_eq_some_iff.mp hb
      obtain ⟨a, ws, rfl, h3, h4⟩ := seqOf_view rl r1 h1
      have e := intsOf_eq h2
      subst e
      have e := h4.ints
      subst e
      have kk := k _ μ A _ H (.refl _ _) rl (.int _) q
      rcases h3 with h3 | h3
      · exact cr_sum hc pins s σ H _ us Q I r ⟨a, ns, rfl, h3, kk⟩
      · obtain ⟨its, rv, ht, _⟩ := I.tuple h3
        obtain ⟨u, rfl, ru⟩ := vals1 r
        cases ru
        have hi := rv.ints
        obtain ⟨ys, e⟩ := hi.allInts.items
        have hn : numsOf (intItems ys).toList = ns := by rw [← e]; exact hi.numsOf
        rw [nums_intItems] at hn
        rw [e] at ht
        refine PySem.W.ktm_sumG (I.ok.hd hc) ht fun h' tk t' hk => ?_
        rw [preSum_eq, List.take_of_length_le (by simp), hn]
        exact ⟨.int _, H, I.kept hk, ⟨_, rfl⟩, kk⟩
    · exact q.elim
  · exact q.elim

theorem dp_ints {K : PySem.W.Frag} {H : Hp} : ∀ (ns : List Int), DpAll K H (ns.map V.int) (ns.map PyData.int)
  | [] => .nil
  | n :: ns => .cons (.int n) (dp_ints ns)
theorem depthAll_ints : ∀ (ns : List Int), PyData.depthAll (ns.map PyData.int) = 0
  | [] => by simp [PyData.depthAll]
  | n :: ns => by
    show PyData.depthAll (.int n :: ns.map PyData.int) = 0
    rw [PyData.depthAll, depthAll_ints ns]
    simp [PyData.depth]
theorem alikeAll_ints (ns : List Int) : PySem.W.AlikeAll (ns.map PyData.int) := by
  refine ⟨fun x hx y hy => ?_, fun x hx => ?_⟩
  · obtain ⟨i, _, rfl⟩ := List.mem_map.mp hx
    obtain ⟨j, _, rfl⟩ := List.mem_map.mp hy
    simp [PySem.W.alike]
  · obtain ⟨i, _, rfl⟩ := List.mem_map.mp hx
    exact fun z => nomatch z
def minI : List Int → Int
  | [] => 0
  | n :: ns => ns.foldl min n
def maxI : List Int → Int
  | [] => 0
  | n :: ns => ns.foldl max n
@[simp] def rdMM (f : List Int → Int) (g : Int → Int → Int) : RDC := fun ds μ P => match ds with
  | [.int i, .int j] => P (.int (g i j)) μ
  | [d] => match (seqOf μ d).bind intsOf with | some ns => ns ≠ [] ∧ P (.int (f ns)) μ | none => False
  | _ => False
theorem cd_min {k : Nat} (hc : X.calm = true) (hr : Room k X.A) : CallD T X (.builtin "min") (rdMM minI fun i j => if j < i then j else i) := by
  intro pins s σ H vs us Q I r ⟨A, μ, ds, P, rl, pv, q, k⟩
  unfold rdMM at q
  split at q
  · rename_i i j
    cases pv with
    | cons r1 r2 =>
      cases r2 with
      | cons r2 r3 =>
        cases r3
        cases r1
        cases r2
        exact call_min2 hc pins s σ H _ us Q I r ⟨i, j, rfl, k _ μ A _ H (.refl _ _) rl (.int _) q⟩
  · obtain ⟨v, rfl, r1⟩ := reps1 pv
    split at q
    · rename_i ns hb
      obtain ⟨xs, h1, h2⟩ := Option.bind_eq_some_iff.mp hb
      obtain ⟨a, ws, rfl, h3, h4⟩ := seqOf_view rl r1 h1
      have e := intsOf_eq h2
      subst e
      have e := h4.ints
      subst e
      cases ns with
      | nil => exact absurd rfl q.1
      | cons n ns =>
        have kk := k _ μ A _ H (.refl _ _) rl (.int _) q.2
        have hu := hr.units
        have hd : X.A.units + 1 + PyData.depthAll (.int n :: ns.map PyData.int) < cLine := by
          rw [show PyData.depthAll (.int n :: ns.map PyData.int) = 0 from depthAll_ints (n :: ns)]
          omega
        obtain ⟨u, rfl, ru⟩ := vals1 r
        cases ru
        rcases h3 with h3 | h3
        · obtain ⟨its, rv, ht, _⟩ := I.list h3
          obtain ⟨as, hR⟩ := Dp.readsAll I _ _ its (dp_ints (K := X.K) (H := H) (n :: ns)) rv
          refine PySem.W.min_list_data hr.hd ht.isList hR (alikeAll_ints (n :: ns)) hd fun i v h' tk bs hv hR' hk => ?_
          rw [PySem.W.minD_ints] at hR'
          cases hR'
          exact ⟨.int _, H, I.kept hk, ⟨_, rfl⟩, kk⟩
        · obtain ⟨its, rv, ht, _⟩ := I.tuple h3
          obtain ⟨as, hR⟩ := Dp.readsAll I _ _ its (dp_ints (K := X.K) (H := H) (n :: ns)) rv
          refine PySem.W.min_tuple_data hr.hd ht hR (alikeAll_ints (n :: ns)) hd fun i v h' tk bs hv hR' hk => ?_
          rw [PySem.W.minD_ints] at hR'
          cases hR'
          exact ⟨.int _, H, I.kept hk, ⟨_, rfl⟩, kk⟩
    · exact q.elim
  · exact q.elim
theorem cd_max {k : Nat} (hc : X.calm = true) (hr : Room k X.A) : CallD T X (.builtin "max") (rdMM maxI fun i j => if j > i then j else i) := by
  intro pins s σ H vs us Q I r ⟨A, μ, ds, P, rl, pv, q, k⟩
  unfold rdMM at q
  split at q
  · rename_i i j
    cases pv with
    | cons r1 r2 =>
      cases r2 with
      | cons r2 r3 =>
        cases r3
        cases r1
        cases r2
        exact call_max2 hc pins s σ H _ us Q I r ⟨i, j, rfl, k _ μ A _ H (.refl _ _) rl (.int _) q⟩
  · obtain ⟨v, rfl, r1⟩ := reps1 pv
    split at q
    · rename_i ns hb
      obtain ⟨xs, h1, h2⟩ := Option.bind_eq_some_iff.mp hb
      obtain ⟨a, ws, rfl, h3, h4⟩ := seqOf_view rl r1 h1
      have e := intsOf_eq h2
      subst e
      have e := h4.ints
      subst e
      cases ns with
      | nil => exact absurd rfl q.1
      | cons n ns =>
        have kk := k _ μ A _ H (.refl _ _) rl (.int _) q.2
        have hu := hr.units
        have hd : X.A.units + 1 + PyData.depthAll (.int n :: ns.map PyData.int) < cLine := by
          rw [show PyData.depthAll (.int n :: ns.map PyData.int) = 0 from depthAll_ints (n :: ns)]
          omega
        obtain ⟨u, rfl, ru⟩ := vals1 r
        cases ru
        rcases h3 with h3 | h3
        · obtain ⟨its, rv, ht, _⟩ := I.list h3
          obtain ⟨as, hR⟩ := Dp.readsAll I _ _ its (dp_ints (K := X.K) (H := H) (n :: ns)) rv
          refine PySem.W.max_list_data hr.hd ht.isList hR (alikeAll_ints (n :: ns)) hd fun i v h' tk bs hv hR' hk => ?_
          rw [PySem.W.maxD_ints] at hR'
          cases hR'
          exact ⟨.int _, H, I.kept hk, ⟨_, rfl⟩, kk⟩
        · obtain ⟨its, rv, ht, _⟩ := I.tuple h3
          obtain ⟨as, hR⟩ := Dp.readsAll I _ _ its (dp_ints (K := X.K) (H := H) (n :: ns)) rv
          refine PySem.W.max_tuple_data hr.hd ht hR (alikeAll_ints (n :: ns)) hd fun i v h' tk bs hv hR' hk => ?_
          rw [PySem.W.maxD_ints] at hR'
          cases hR'
          exact ⟨.int _, H, I.kept hk, ⟨_, rfl⟩, kk⟩
    · exact q.elim
  · exact q.elim

/-! ### tuple(x), list(x) -/
@[simp] def rdTuple : RDC := fun ds μ P => match ds with
  | [.tup xs] => P (.tup xs) μ
  | [d] => match lsrOf μ d with | some xs => P (.tup xs) μ | none => False
  | _ => False
theorem cd_tuple : CallD T X (.type "tuple") rdTuple := by
  intro pins s σ H vs us Q I r ⟨A, μ, ds, P, rl, pv, q, k⟩
  unfold rdTuple at q
  split at q
  · obtain ⟨v, rfl, r1⟩ := reps1 pv
    cases r1 with
    | tup e1 e2 e3 =>
      exact call_tupleT pins s σ H _ us Q I r ⟨_, _, rfl, sq_fz e1, k _ μ A _ H (.refl _ _) rl (.tup e1 e2 e3) q⟩
  · obtain ⟨v, rfl, r1⟩ := reps1 pv
    split at q
    · rename_i xs hx
      obtain ⟨a, ws, rfl, h1, h2⟩ := lsrOf_view rl r1 hx
      obtain ⟨u, rfl, ru⟩ := vals1 r
      cases ru
      obtain ⟨its, rv, ht, hz⟩ := I.list h1
      have hlen := rv.length
      refine call_tuple_list ht.isList (fun h' kp => ?_) (by simp only [List.size_toArray] <;> omega)
      have I1 : Inv X pins σ H { s with heap := h' } := I.kept (t' := s.toks) kp
      obtain ⟨x3, r3, p3⟩ := newT (us := its) rl h2 (I1.hok.fresh (Nat.le_refl _))
      exact ⟨.ref h'.objs.size, _, laidT I1 rv hz, rfl, k _ _ _ _ _ x3 r3 p3 q⟩
    · exact q.elim
  · exact q.elim
/-- a call that makes a list -/
abbrev RFC := List D → Mu → (List D → Mu → Prop) → Prop
def liftCF (T : Cl) (K : PySem.W.Frag) (rd : RFC) : List V → Hp → VK → Prop := fun vs H Q => ∃ A μ ds P, Rl T K A H μ ∧ Reps T K A H vs ds ∧ rd ds μ P ∧
  ∀ out ws p, H p = none → Reps T K A H ws out → P out μ → Q (.ref p) (upd H p (.lst ws))
@[simp] def tdCBF (rd : RFC) (t : TDA) : TDF := fun ρ μ P PX => t ρ μ (fun ds μ1 => rd ds μ1 P) PX
theorem cbf_lift {rd : RFC} {t : TDA} {σ : L2.St} {H : Hp} {Q : VK} (q : liftF T X W (tdCBF rd t) σ H Q) : tCB (liftCF T X.K rd) (liftA T X W t) σ H Q := by
  obtain ⟨A, μ, ρ, P, PX, rl, re, h, k, kx⟩ := q
  exact ⟨A, μ, ρ, _, PX, rl, re, h, fun ds μ1 A1 vs H1 x1 r1 p1 h1 => ⟨A1, μ1, ds, P, r1, p1, h1, fun out ws p hp q h2 => by
    obtain ⟨x3, r3, n1, n2, e2, p3⟩ := fresh_k x1 r1 x1.sub hp q
    exact k _ _ _ _ _ p x3 r3 n1 n2 e2 p3 h2⟩, kx⟩
theorem pf_callB {x : Str} {p : Pos} {id : String} {rd : RFC} {t : TDA} (hc : CallR X (.builtin id) (liftCF T X.K rd)) (hg : Gl X x) (hm : X.mg x = none) (hv : bootBuiltins x = some (.builtin id)) (ha : PDA T X W (e :: es) t) (hn : x ≠ "__name__" := by decide)
    (hdb : (x == ("__debug__" : Str)) = false := by decide) (he : starEach (e :: es) X.env = (false, eval e X.env) :: starEach es X.env := by rfl) (hpl : (backTo pos (starEach es X.env)).any (·.1) = false := by rfl) :
    PDF T X W (.Call (.Name x p) (e :: es) [] pos) (tdCBF rd t) := ⟨PE.mono (pe_callB hc hg hm hv ha.run hn hdb he hpl) fun _ _ _ => cbf_lift⟩
theorem pf_callTy {x : Str} {p : Pos} {n : String} {rd : RFC} {t : TDA} (hc : CallR X (.type n) (liftCF T X.K rd)) (hg : Gl X x) (hm : X.mg x = none) (hv : bootBuiltins x = some (.type n)) (ha : PDA T X W (e :: es) t) (hn : x ≠ "__name__" := by decide)
    (hdb : (x == ("__debug__" : Str)) = false := by decide) (he : starEach (e :: es) X.env = (false, eval e X.env) :: starEach es X.env := by rfl) (hpl : (backTo pos (starEach es X.env)).any (·.1) = false := by rfl) :
    PDF T X W (.Call (.Name x p) (e :: es) [] pos) (tdCBF rd t) := ⟨PE.mono (pe_callTy hc hg hm hv ha.run hn hdb he hpl) fun _ _ _ => cbf_lift⟩
@[simp] def rfList : RFC := fun ds μ P => match ds with
  | [d] => match seqOf μ d with | some xs => P xs μ | none => False
  | _ => False
theorem cf_list : CallR X (.type "list") (liftCF T X.K rfList) := by
  intro pins s σ H vs us Q I r ⟨A, μ, ds, P, rl, pv, q, k⟩
  unfold rfList at q
  split at q
  · obtain ⟨v, rfl, r1⟩ := reps1 pv
    split at q
    · rename_i xs hx
      obtain ⟨a, ws, rfl, h1, h2⟩ := seqOf_view rl r1 hx
      exact call_list_of pins s σ H _ us Q I r ⟨a, ws, rfl, h1, fun l hl => k _ _ l hl h2 q⟩
    · exact q.elim
  · exact q.elim
/-- list(range(n)) -/
@[simp] def tdLR1 (t : TD) : TDF := fun ρ μ P PX => t ρ μ (fun d μ1 => match d with | .int n => -(2 ^ 62) ≤ n ∧ n ≤ 2 ^ 24 ∧ P (ranD 0 n.toNat) μ1 | _ => False) PX
theorem rgV_ran (n : Int) : rgV 0 n = (List.range n.toNat).map fun i => V.int (0 + (i : Nat)) := by
  unfold rgV
  rw [Int.sub_zero]
theorem reps_ran {K : PySem.W.Frag} {A : Ax} {H : Hp} (lo : Int) : ∀ (l : List Nat), Reps T K A H (l.map fun i => V.int (lo + (i : Nat))) (l.map fun i => D.int (lo + (i : Nat)))
  | [] => .nil
  | _ :: l => .cons (.int _) (reps_ran lo l)
theorem pf_listR1 {t : TD} {p p2 pos2 : Pos} (hc : X.calm = true) (hg : Gl X "list") (hm : X.mg "list" = none) (hg2 : Gl X "range") (hm2 : X.mg "range" = none) (ha : PD T X W a t) (na : starEach [a] X.env = (false, eval a X.env) :: starEach [] X.env := by rfl)
    (na2 : starEach [.Call (.Name "range" p2) [a] [] pos2] X.env = (false, eval (.Call (.Name "range" p2) [a] [] pos2) X.env) :: starEach [] X.env := by rfl) :
    PDF T X W (.Call (.Name "list" p) [.Call (.Name "range" p2) [a] [] pos2] [] pos) (tdLR1 t) :=
  ⟨PE.mono (pe_listRg hc hg hm (prg_1 hg2 hm2 ha.run na) na2) fun σ H Q ⟨A, μ, ρ, P, PX, rl, re, h, k, kx⟩ => ⟨A, μ, ρ, _, PX, rl, re, h, fun d μ1 A1 v1 H1 x1 r1 p1 h1 => by
    cases d with
    | int n =>
      cases p1
      refine ⟨n, rfl, ⟨by omega, by omega, h1.1, by have := h1.2.1; omega, by have := h1.2.1; omega⟩, fun q hq => ?_⟩
      obtain ⟨x3, r3, n1, n2, e2, p3⟩ := fresh_k (ds := ranD 0 n.toNat) x1 r1 x1.sub hq (reps_ran 0 (List.range n.toNat))
      rw [rgV_ran]
      exact k _ _ _ _ _ q x3 r3 n1 n2 e2 p3 h1.2.2
    | _ => exact h1.elim, kx⟩⟩

/-! ### sorted -/
def encD (d : D) : PyData := (toPy d).getD .none
@[simp] def rfSorted (lim : Nat) : RFC := fun ds μ P => match ds with
  | [d] => match lsrOf μ d with
    | some xs => (∀ x ∈ xs, (toPy x).isSome = true ∧ (encD x).depth ≤ lim) ∧ PySem.W.AllAlike (xs.map encD) ∧ PySem.W.Sortable (xs.map encD) ∧ P (xs.mergeSort (PySem.W.dataLe false encD)) μ
    | none => False
  | _ => False
theorem each_of {pins : List (Addr × Obj)} {σ : L2.St} {H : Hp} {s : Shared} {A : Ax} (I : Inv X pins σ H s) : ∀ {vs : List V} {us : List Value} {ds : List D}, Reps T X.K A H vs ds → Vals vs us → (∀ x ∈ ds, (toPy x).isSome = true) →
    PySem.W.EachIs (fun u d => ∃ v, RelV v u ∧ Rep T X.K A H v d) us ds ∧ PySem.W.EachIs (fun u d => ∃ as, Reads s.heap u (encD d) as) us ds
  | _, _, _, .nil, .nil, _ => ⟨.nil, .nil⟩
  | _, _, _, .cons r t, .cons u w, h => by
    obtain ⟨h1, h2⟩ := each_of I t w fun x hx => h x (List.mem_cons_of_mem _ hx)
    refine ⟨.cons ⟨_, u, r⟩ h1, .cons ?_ h2⟩
    have hs := h _ List.mem_cons_self
    obtain ⟨p, hp⟩ := Option.isSome_iff_exists.mp hs
    have := Dp.reads I p _ _ (toPy_dp r hp) u
    unfold encD
    rw [hp]
    exact this
theorem each_back {K : PySem.W.Frag} {A : Ax} {H : Hp} : ∀ {us : List Value} {ds : List D}, PySem.W.EachIs (fun u d => ∃ v, RelV v u ∧ Rep T K A H v d) us ds → ∃ vs, Vals vs us ∧ Reps T K A H vs ds
  | _, _, .nil => ⟨[], .nil, .nil⟩
  | _, _, .cons ⟨v, h1, h2⟩ t => by
    obtain ⟨vs, h3, h4⟩ := each_back t
    exact ⟨v :: vs, .cons h1 h3, .cons h2 h4⟩
theorem cf_sorted {k lim : Nat} (hr : Room k X.A) (hl : lim ≤ 60) : CallR X (.builtin "sorted") (liftCF T X.K (rfSorted lim)) := by
  intro pins s σ H vs us Q I r ⟨A, μ, ds, P, rl, pv, q, kk⟩
  unfold rfSorted at q
  split at q
  · obtain ⟨v, rfl, r1⟩ := reps1 pv
    split at q
    · rename_i xs hx
      obtain ⟨a, ws, rfl, h1, h2⟩ := lsrOf_view rl r1 hx
      obtain ⟨u, rfl, ru⟩ := vals1 r
      cases ru
      obtain ⟨its, rv, ht, hz⟩ := I.list h1
      obtain ⟨e1, e2⟩ := each_of I h2 rv fun x hx => (q.1 x hx).1
      have hu := hr.units
      refine PySem.W.sorted_data ht.isList e1 e2 q.2.1 q.2.2.1 (by rw [← h2.length]; exact hz) (fun b hb => by have := (q.1 b hb).2; omega) fun out ho eo => ?_
      obtain ⟨zs, z1, z2⟩ := each_back eo
      obtain ⟨ep, he'⟩ := PyProof.Rows.sortedAll_at s.heap its out.toArray
      have hlen : zs.length ≤ sizeLine := by
        rw [z2.length, List.length_mergeSort, ← h2.length]; exact hz
      exact ⟨.ref _, upd H (s.heap.objs.size + 1) (.lst zs), I.laid (t' := s.toks) (fun _ _ => PyProof.Rows.sortedAll_old) (Nat.le_succ _) ⟨hlen, out, ep, z1, he'⟩, rfl, kk _ _ _ (I.hok.fresh (Nat.le_succ _)) z2 q.2.2.2⟩
    · exact q.elim
  · exact q.elim
end
end DL

/-! The data layer, 7: statements. -/
namespace DL
open PySem PySem.Spec L2

/-- what is wanted behind a statement -/
structure DE where
  nx : Env → Mu → Prop
  rt : D → Mu → Prop
  bk : Env → Mu → Prop
  ct : Env → Mu → Prop
  ex : XD → Env → Mu → Prop
abbrev TDS := Env → Mu → DE → Prop
structure EOk (T : Cl) (X : Cx) (W : WX) (A : Ax) (H : Hp) (E : DE) (D : Ends) : Prop where
  nx : ∀ ρ' μ' A' σ' H', Ext A H A' H' → Rl T X.K A' H' μ' → RE T X.K A' H' σ' ρ' → E.nx ρ' μ' → D.nx σ' H'
  rt : ∀ d μ' A' v H', Ext A H A' H' → Rl T X.K A' H' μ' → Rep T X.K A' H' v d → E.rt d μ' → D.rt v H'
  bk : ∀ ρ' μ' A' σ' H', Ext A H A' H' → Rl T X.K A' H' μ' → RE T X.K A' H' σ' ρ' → E.bk ρ' μ' → D.bk σ' H'
  ct : ∀ ρ' μ' A' σ' H', Ext A H A' H' → Rl T X.K A' H' μ' → RE T X.K A' H' σ' ρ' → E.ct ρ' μ' → D.ct σ' H'
  ex : ∀ x ρ' μ' A' σ' c q H', Ext A H A' H' → Rl T X.K A' H' μ' → RE T X.K A' H' σ' ρ' → XRep T X.K A' H' x c q → E.ex x ρ' μ' → W c q σ' H'
def liftS (T : Cl) (X : Cx) (W : WX) (t : TDS) : TS := fun D σ H => ∃ A μ ρ E, Rl T X.K A H μ ∧ RE T X.K A H σ ρ ∧ t ρ μ E ∧ EOk T X W A H E D
structure PDS (T : Cl) (X : Cx) (W : WX) (s : Stmt) (t : TDS) : Prop where
  run : PS X s (liftS T X W t)
structure PDB (T : Cl) (X : Cx) (W : WX) (s : List Stmt) (t : TDS) : Prop where
  run : PSs X s (liftS T X W t)
section
variable {T : Cl} {X : Cx} {W : WX} {a b c e tg : Expr} {es : List Expr} {pos : Pos} {st : Stmt} {sts : List Stmt} {t u : TDS}
theorem PS.mono {t t' : TS} (h : PS X st t) (i : ∀ D σ H, t' D σ H → t D σ H) : PS X st t' := ⟨fun pins s σ H D I q => h.run pins s σ H D I (i D σ H q)⟩
theorem PSs.mono {t t' : TS} (h : PSs X sts t) (i : ∀ D σ H, t' D σ H → t D σ H) : PSs X sts t' := ⟨fun pins s σ H D I q => h.run pins s σ H D I (i D σ H q)⟩
theorem EOk.ext {A A1 : Ax} {H H1 : Hp} {μ1 : Mu} {E : DE} {D : Ends} (k : EOk T X W A H E D) (x : Ext A H A1 H1) (r : Rl T X.K A1 H1 μ1) : EOk T X W A1 H1 E D :=
  ⟨fun ρ' μ' A' σ' H' x2 => k.nx ρ' μ' A' σ' H' (x.tr r x2), fun d μ' A' v H' x2 => k.rt d μ' A' v H' (x.tr r x2), fun ρ' μ' A' σ' H' x2 => k.bk ρ' μ' A' σ' H' (x.tr r x2), fun ρ' μ' A' σ' H' x2 => k.ct ρ' μ' A' σ' H' (x.tr r x2),
    fun x' ρ' μ' A' σ' c q H' x2 => k.ex x' ρ' μ' A' σ' c q H' (x.tr r x2)⟩
theorem EOk.xo {A : Ax} {H : Hp} {μ : Mu} {σ : L2.St} {ρ : Env} {E : DE} {D : Ends} (k : EOk T X W A H E D) (r : Rl T X.K A H μ) (re : RE T X.K A H σ ρ) : XOk T X W A H σ (fun x μ' => E.ex x ρ μ') :=
  fun x μ' A' c q H' x1 r1 rp h => k.ex x ρ μ' A' σ c q H' x1 r1 (re.mono r x1) rp h

@[simp] def sNil : TDS := fun ρ μ E => E.nx ρ μ
@[simp] def sSeq (t u : TDS) : TDS := fun ρ μ E => t ρ μ { E with nx := fun ρ' μ' => u ρ' μ' E }
theorem pdb_nil : PDB T X W [] sNil := ⟨PSs.mono pss_nil fun D σ H ⟨A, μ, ρ, E, rl, re, h, k⟩ => k.nx ρ μ A σ H (.refl _ _) rl re h⟩
theorem pdb_cons (h1 : PDS T X W st t) (h2 : PDB T X W sts u) : PDB T X W (st :: sts) (sSeq t u) :=
  ⟨PSs.mono (pss_cons h1.run h2.run) fun D σ H ⟨A, μ, ρ, E, rl, re, h, k⟩ => ⟨A, μ, ρ, _, rl, re, h,
    ⟨fun ρ' μ' A' σ' H' x1 r1 re1 h1 => ⟨A', μ', ρ', E, r1, re1, h1, k.ext x1 r1⟩, k.rt, k.bk, k.ct, k.ex⟩⟩⟩
theorem pdb_one (h1 : PDS T X W st t) : PDB T X W [st] t := ⟨pss_one h1.run⟩
theorem pds_pass : PDS T X W (.Pass pos) sNil := ⟨PS.mono ps_pass fun D σ H ⟨A, μ, ρ, E, rl, re, h, k⟩ => k.nx ρ μ A σ H (.refl _ _) rl re h⟩
@[simp] def sBreak : TDS := fun ρ μ E => E.bk ρ μ
@[simp] def sCont : TDS := fun ρ μ E => E.ct ρ μ
theorem pds_break : PDS T X W (.Break pos) sBreak := ⟨PS.mono ps_break fun D σ H ⟨A, μ, ρ, E, rl, re, h, k⟩ => k.bk ρ μ A σ H (.refl _ _) rl re h⟩
theorem pds_cont : PDS T X W (.Continue pos) sCont := ⟨PS.mono ps_continue fun D σ H ⟨A, μ, ρ, E, rl, re, h, k⟩ => k.ct ρ μ A σ H (.refl _ _) rl re h⟩
@[simp] def sExpr (te : TD) : TDS := fun ρ μ E => te ρ μ (fun _ μ' => E.nx ρ μ') (fun x μ' => E.ex x ρ μ')
theorem pds_expr {te : TD} (he : PD T X W e te) (hs : swapsWith e none pos.line X.env = pure false := by rfl) : PDS T X W (.Expr e pos) (sExpr te) :=
  ⟨PS.mono (ps_expr he.run hs) fun D σ H ⟨A, μ, ρ, E, rl, re, h, k⟩ => ⟨A, μ, ρ, _, _, rl, re, h, fun d μ' A' v H' x1 r1 p1 h1 => k.nx ρ μ' A' σ H' x1 r1 (re.mono rl x1) h1, k.xo rl re⟩⟩
@[simp] def sRet (te : TD) : TDS := fun ρ μ E => te ρ μ E.rt (fun x μ' => E.ex x ρ μ')
theorem pds_ret {te : TD} (he : PD T X W e te) : PDS T X W (.Return (some e) pos) (sRet te) :=
  ⟨PS.mono (ps_ret he.run) fun D σ H ⟨A, μ, ρ, E, rl, re, h, k⟩ => ⟨A, μ, ρ, _, _, rl, re, h, fun d μ' A' v H' x1 r1 p1 h1 => k.rt d μ' A' v H' x1 r1 p1 h1, k.xo rl re⟩⟩
@[simp] def sRetN : TDS := fun _ μ E => E.rt .non μ
theorem pds_retN : PDS T X W (.Return none pos) sRetN := ⟨PS.mono ps_retN fun D σ H ⟨A, μ, ρ, E, rl, re, h, k⟩ => k.rt .non μ A .non H (.refl _ _) rl .non h⟩
@[simp] def sIf (c : TDT) (t u : TDS) : TDS := fun ρ μ E => c ρ μ (fun k μ' => if k = true then t ρ μ' E else u ρ μ' E) (fun x μ' => E.ex x ρ μ')
theorem pds_if {tc : TDT} {as bs : List Stmt} (hc : PDT T X W c tc) (ha : PDB T X W as t) (hb : PDB T X W bs u) : PDS T X W (.If c as bs pos) (sIf tc t u) :=
  ⟨PS.mono (ps_if hc.run ha.run hb.run) fun D σ H ⟨A, μ, ρ, E, rl, re, h, k⟩ => ⟨A, μ, ρ, _, _, rl, re, h, fun z μ1 A1 H1 x1 r1 h1 => by
    split at h1
    · rename_i hz
      rw [if_pos hz]
      exact ⟨A1, μ1, ρ, E, r1, re.mono rl x1, h1, k.ext x1 r1⟩
    · rename_i hz
      rw [if_neg hz]
      exact ⟨A1, μ1, ρ, E, r1, re.mono rl x1, h1, k.ext x1 r1⟩, k.xo rl re⟩⟩

/-! ### targets -/
abbrev TDG := D → Env → Mu → (Env → Mu → Prop) → PX → Prop
def liftG (T : Cl) (X : Cx) (W : WX) (t : TDG) : TG := fun v σ H Q => ∃ A μ ρ d P PX, Rl T X.K A H μ ∧ RE T X.K A H σ ρ ∧ Rep T X.K A H v d ∧ t d ρ μ P PX ∧
  (∀ ρ' μ' A' σ' H', Ext A H A' H' → Rl T X.K A' H' μ' → RE T X.K A' H' σ' ρ' → P ρ' μ' → Q σ' H') ∧ XOk T X W A H σ PX
structure PDG (T : Cl) (X : Cx) (W : WX) (tg : Expr) (t : TDG) : Prop where
  run : PG X tg (liftG T X W t)
theorem PG.mono {t t' : TG} (h : PG X tg t) (i : ∀ v σ H Q, t' v σ H Q → t v σ H Q) : PG X tg t' := by
  obtain ⟨run⟩ := h
  constructor
  intros
  exact run _ _ _ _ _ _ _ ‹_› ‹_› (i _ _ _ _ ‹_›)
@[simp] def gdName (i : Nat) : TDG := fun d ρ μ P _ => P (ρ.set i (some d)) μ
theorem pdg_name (i : Nat) {x : Str} (hN : X.N.Nodup) (hi : X.N[i]? = some x) (hx : Loc X.env.scope x) (hf : X.fn x = true ∨ X.env.scope.names.lookup x = some .local := by first | exact .inl rfl | exact .inr rfl | assumption) : PDG T X W (.Name x pos) (gdName i) :=
  ⟨PG.mono (pg_name hN hi hx hf) fun v σ H Q ⟨A, μ, ρ, d, P, PX, rl, re, rp, h, k, kx⟩ => k _ μ A _ H (.refl _ _) rl (re.set i rp) h⟩
@[simp] def sAsg (te : TD) (g : TDG) : TDS := fun ρ μ E => te ρ μ (fun d μ' => g d ρ μ' (fun ρ' μ2 => E.nx ρ' μ2) (fun x μ2 => E.ex x ρ μ2)) (fun x μ' => E.ex x ρ μ')
theorem asg_lift {te : TD} {g : TDG} (D : Ends) (σ : L2.St) (H : Hp) (q : liftS T X W (sAsg te g) D σ H) : tAsg (lift T X W te) (liftG T X W g) D σ H := by
  obtain ⟨A, μ, ρ, E, rl, re, h, k⟩ := q
  exact ⟨A, μ, ρ, _, _, rl, re, h, fun d μ' A' v H' x1 r1 p1 h1 => ⟨A', μ', ρ, d, _, _, r1, re.mono rl x1, p1, h1, fun ρ' μ2 A2 σ' H2 x2 r2 re2 h2 => k.nx ρ' μ2 A2 σ' H2 (x1.tr r1 x2) r2 re2 h2,
    (k.ext x1 r1).xo r1 (re.mono rl x1)⟩, k.xo rl re⟩
theorem pds_asg {te : TD} {g : TDG} (he : PD T X W e te) (hg : PDG T X W tg g) (hs : swapsWithSole [tg] e pos.line X.env = pure false := by rfl) (hw : swappedStores [tg] e X.env = pure none := by rfl)
    (h1 : (assignEach [tg] X.env).map (·.2) = [assign tg X.env] := by rfl) : PDS T X W (.Assign [tg] e pos) (sAsg te g) :=
  ⟨PS.mono (ps_asg (h1 := h1) he.run hg.run hs hw) asg_lift⟩
@[simp] def sSet (i : Nat) (te : TD) : TDS := fun ρ μ E => te ρ μ (fun d μ' => E.nx (ρ.set i (some d)) μ') (fun x μ' => E.ex x ρ μ')
theorem set_lift {i : Nat} {te : TD} (D : Ends) (σ : L2.St) (H : Hp) (q : liftS T X W (sSet i te) D σ H) : tAsg (lift T X W te) (gName i) D σ H := by
  obtain ⟨A, μ, ρ, E, rl, re, h, k⟩ := q
  exact ⟨A, μ, ρ, _, _, rl, re, h, fun d μ' A' v H' x1 r1 p1 h1 => k.nx _ μ' A' _ H' x1 r1 ((re.mono rl x1).set i p1) h1, k.xo rl re⟩
theorem pds_set (i : Nat) {x : Str} {te : TD} {pos' : Pos} (hN : X.N.Nodup) (hi : X.N[i]? = some x) (hx : Loc X.env.scope x) (he : PD T X W e te) (hs : swapsWith e (some (.Name x pos')) pos.line X.env = pure false := by rfl)
    (hf : X.fn x = true ∨ X.env.scope.names.lookup x = some .local := by first | exact .inl rfl | exact .inr rfl | assumption) : PDS T X W (.Assign [.Name x pos'] e pos) (sSet i te) :=
  ⟨PS.mono (ps_set hN hi hx he.run hs hf) set_lift⟩
/-- name = [..] on one line -/
theorem pds_setLc (i : Nat) {y : Str} {py : Pos} {elt iter : Expr} {ifs : List Expr} {scope : Scope} {own : List (Str × Nat)} {spos : Pos} {ti : TDI} {g : TG} {st : Env → D → Option Env} {tt : TDT} {te te' : TD} (hc : X.calm = true) (hN : X.N.Nodup) (hy : X.N[i]? = some y)
    (hyl : X.env.scope.names.lookup y = some .local) (hsw : swapsWith (.ListComp elt [⟨tg, iter, ifs, 0⟩] scope pos) (some (.Name y py)) spos.line X.env = pure true) (hi : PDI T X W tg iter ti) (ok : BlkOk X.N X.env.scope scope own)
    (hgd : TgD T X.K (own.map (·.2)) g st)
    (hg : ∀ (s : Shared) (H : Hp) (C : Addr) (cl : List (Str × Addr)) (fp : List Addr), PG (X.blk s H scope (compEnvC scope cl C X.env) fp) tg g)
    (ht : ∀ (s : Shared) (H : Hp) (C : Addr) (cl : List (Str × Addr)) (fp : List Addr), PTs (X.blk s H scope (compEnvC scope cl C X.env) fp) ifs (liftT T (X.blk s H scope (compEnvC scope cl C X.env) fp) (fun _ _ _ _ => False) tt))
    (he : ∀ (s : Shared) (H : Hp) (C : Addr) (cl : List (Str × Addr)) (fp : List Addr), PD T (X.blk s H scope (compEnvC scope cl C X.env) fp) (fun _ _ _ _ => False) elt te)
    (ad : ∀ σ H Q, lift T X W te' σ H Q → liftF T X W (tdLc ti st tt te (own.map (·.2))) σ H Q)
    (hs : ∀ x, foldedSetIterable iter X.env x = pure x := by intro _; rfl) : PDS T X W (.Assign [.Name y py] (.ListComp elt [⟨tg, iter, ifs, 0⟩] scope pos) spos) (sSet i te') :=
  ⟨PS.mono (ps_setLc (tt := liftT T X (fun _ _ _ _ => False) tt) (te := lift T X (fun _ _ _ _ => False) te) hc hN hy hyl hsw hi.run ok hg (fun s H C cl fp => ht s H C cl fp) (fun s H C cl fp => (he s H C cl fp).run) hs)
    fun D σ H q => lc_lift hgd σ H _ (ad σ H _ (set_lift D σ H q))⟩
/-- a, b = .. -/
@[simp] def gdTwo (g1 g2 : TDG) : TDG := fun d ρ μ P PX => match tupOf d with
  | some [x, y] => g1 x ρ μ (fun ρ1 μ1 => g2 y ρ1 μ1 P PX) PX
  | _ => False
@[simp] def gdTup : List Nat → TDG
  | is => fun d ρ μ P _ => match tupOf d with
    | some ds => ds.length = is.length ∧ P (List.foldl (fun r p => r.set p.1 (some p.2)) ρ (is.zip ds)) μ
    | none => False
theorem RE.sets {K : PySem.W.Frag} {A : Ax} {H : Hp} : ∀ (is : List Nat) {vs : List V} {ds : List D} {σ : L2.St} {ρ : Env}, RE T K A H σ ρ → Reps T K A H vs ds →
    RE T K A H (List.foldl (fun r p => r.set p.1 (some p.2)) σ (is.zip vs)) (List.foldl (fun r p => r.set p.1 (some p.2)) ρ (is.zip ds))
  | [], _, _, _, _, e, _ => e
  | _ :: _, _, _, _, _, e, .nil => e
  | i :: is, _, _, _, _, e, .cons r t => RE.sets is (e.set i r) t
def gNames : List Nat → TGs
  | [] => gNil
  | i :: is => gCons (gName i) (gNames is)
theorem gNames_of : ∀ (is : List Nat) (vs : List V) (σ : L2.St) (H : Hp) (Q : L2.St → Hp → Prop), vs.length = is.length → Q (List.foldl (fun r p => r.set p.1 (some p.2)) σ (is.zip vs)) H → gNames is vs σ H Q
  | [], [], _, _, _, _, h => ⟨rfl, h⟩
  | i :: is, v :: vs, σ, H, Q, e, h => ⟨v, vs, rfl, gNames_of is vs _ H Q (by simpa using e) h⟩
  | [], _ :: _, _, _, _, e, _ => by simp at e
  | _ :: _, [], _, _, _, e, _ => by simp at e
/-- (x, y, ..): names by their slots -/
theorem pdg_tup (is : List Nat) {k : Nat} {tes : List Expr} (h : PG X (.Tuple tes k pos) (gTup X.K is.length (gNames is))) : PDG T X W (.Tuple tes k pos) (gdTup is) :=
  ⟨PG.mono h fun v σ H Q ⟨A, μ, ρ, d, P, PX, rl, re, rp, h, k, kx⟩ => by
    unfold gdTup at h
    split at h
    · rename_i ds hd
      obtain ⟨a, vs, rfl, h1, h2⟩ := tupOf_view rp hd
      exact ⟨a, vs, rfl, h1, by rw [h2.length]; exact h.1, gNames_of is vs σ H Q (by rw [h2.length]; exact h.1) (k _ μ A _ H (.refl _ _) rl (RE.sets is re h2) h.2)⟩
    · exact h.elim⟩
/-- xs[i] = .. , xs a changing list -/
@[simp] def gdSub (to ti : TD) : TDG := fun d ρ μ P PX => to ρ μ (fun o μ1 => ti ρ μ1 (fun i μ2 => match o, i with
  | .mu m, .int k => match μ2[m]? with
    | some (.lst ds) => match ixN ds.length k with
      | some j => P ρ (μ2.set m (.lst (ds.set j d)))
      | none => False
    | _ => False
  | _, _ => False) PX) PX
theorem Rl.put {K : PySem.W.Frag} {A : Ax} {H : Hp} {μ : Mu} {m : Nat} {a : Addr} {vs : List V} {ds : List D} {o : MC} (r : Rl T K A H μ) (ha : A.al[m]? = some a) (hm : μ[m]? = some o) (q : Reps T K A H vs ds) :
    Ext A H A (upd H a (.lst vs)) ∧ Rl T K A (upd H a (.lst vs)) (μ.set m (.lst ds)) := by
  have mem : a ∈ A.al := List.mem_of_getElem? ha
  have x : Ext A H A (upd H a (.lst vs)) := .of ⟨[], by simp⟩ (fun _ h => .inl h) (fun _ h => h) (fun b o n e => by rw [upd_ne (by rintro rfl; exact n mem)]; exact e) fun _ h => .inl h
  refine ⟨x, by rw [List.length_set]; exact r.len, r.nd, fun i c f => ?_, fun b h => ⟨(r.gh b h).1, ?_⟩, r.tbw ha hm⟩
  · by_cases e : m = i
    · subst e
      have hl := (List.getElem?_eq_some_iff.mp hm).1
      rw [List.getElem?_set_self hl] at f
      cases f
      exact ⟨a, ha, vs, upd_same, q.mono r x⟩
    · rw [List.getElem?_set_ne e] at f
      obtain ⟨b, h1, h2⟩ := r.at_ i c f
      have ne : b ≠ a := by
        rintro rfl
        obtain ⟨l1, e1⟩ := List.getElem?_eq_some_iff.mp h1
        obtain ⟨l2, e2⟩ := List.getElem?_eq_some_iff.mp ha
        exact e ((List.getElem_inj r.nd).mp (e2.trans e1.symm))
      exact ⟨b, h1, h2.mono r x (upd_ne ne)⟩
  · by_cases e : b = a
    · subst e; exact nt_same nofun
    · exact nt_ne e (r.gh b h).2
theorem pdg_sub {o i : Expr} {to ti : TD} (ho : PD T X W o to) (hi : PD T X W i ti)
    (ha : ∀ v, assign (.Subscript o i pos) X.env v = (do
      let ov ← holding [v] (eval o X.env)
      let iv ← holding [v, ov] (eval i X.env)
      standAt pos
      holding [v, ov, iv] (setItem ov iv v)
      release [v, ov, iv] []) := by intro _; rfl) : PDG T X W (.Subscript o i pos) (gdSub to ti) :=
  ⟨PG.mono (pg_sub ho.run hi.run set_list ha) fun v σ H Q ⟨A, μ, ρ, d, P, PX, rl, re, rp, h, k, kx⟩ => ⟨A, μ, ρ, _, PX, rl, re, h, fun o μ1 A1 vo H1 x1 r1 p1 h1 => ⟨A1, μ1, ρ, _, PX, r1, re.mono rl x1, h1, fun i μ2 A2 vi H2 x2 r2 p2 h2 => by
    cases o with
    | mu m =>
      cases i with
      | int n =>
        cases p2
        cases p1 with
        | @mu a _ ea =>
          replace h2 : match μ2[m]? with
            | some (.lst ds) => match ixN ds.length n with
              | some j => P ρ (μ2.set m (.lst (ds.set j d)))
              | none => False
            | _ => False := h2
          split at h2
          · rename_i ds hd
            split at h2
            · rename_i j hj
              have ea2 := x2.at_ ea
              obtain ⟨vs, h3, h4⟩ := r2.mutLst ea2 hd
              have xx := x1.tr r1 x2
              obtain ⟨x3, r3⟩ := r2.put ea2 hd (h4.set (rp.mono rl xx) j)
              refine ⟨a, vs, n, j, rfl, rfl, h3, by rw [h4.length]; exact hj, ?_⟩
              exact k _ _ _ _ _ (xx.tr r2 x3) r3 ((re.mono rl xx).mono r2 x3) h2
            · exact h2.elim
          · exact h2.elim
      | _ => exact h2.elim
    | _ => exact h2.elim, kx.ext x1 r1⟩, kx⟩⟩

/-! ### for -/
@[simp] def forGo (g : TDG) (tb : TDS) (kp : Mu → Prop) : List D → Env → Mu → DE → Prop
  | [], ρ, μ, E => kp μ ∧ E.nx ρ μ
  | x :: xs, ρ, μ, E => kp μ ∧ g x ρ μ (fun ρ1 μ1 => tb ρ1 μ1 { E with nx := fun ρ2 μ2 => forGo g tb kp xs ρ2 μ2 E, ct := fun ρ2 μ2 => forGo g tb kp xs ρ2 μ2 E, bk := E.nx }) (fun y μ' => E.ex y ρ μ')
theorem forGo_kp {g : TDG} {tb : TDS} {kp : Mu → Prop} {xs : List D} {ρ : Env} {μ : Mu} {E : DE} (h : forGo g tb kp xs ρ μ E) : kp μ := by
  cases xs <;> exact h.1
@[simp] def sFor (ti : TDI) (g : TDG) (tb : TDS) : TDS := fun ρ μ E => ti ρ μ (fun xs kp μ1 => forGo g tb kp xs ρ μ1 E) (fun x μ' => E.ex x ρ μ')
theorem pds_for {iter : Expr} {body : List Stmt} {ti : TDI} {g : TDG} {tb : TDS} (hp : PassesOwn (model X.prog X.w) X.A X.env X.xe) (hc : X.calm = true) (hi : PDI T X W tg iter ti) (hg : PDG T X W tg g) (hb : PDB T X W body tb)
    (hs : ∀ x, foldedSetIterable iter X.env x = pure x := by intro _; rfl) : PDS T X W (.For tg iter body [] pos) (sFor ti g tb) := by
  refine ⟨PS.mono (ps_for hp hc hi.run hg.run hb.run hs) fun D σ H ⟨A, μ, ρ, E, rl, re, h, k⟩ => ?_⟩
  refine ⟨A, μ, ρ, _, _, rl, re, h, fun xs kp μ1 A1 J H1 x1 r1 wd h1 => ?_, k.xo rl re⟩
  obtain ⟨G, Y, w, hG, hY⟩ := wd.ex
  refine for_it (g := liftG T X W g) (tb := liftS T X W tb) (D := D) (σ := σ) (H := H1) w (fun i σ2 H2 => ∃ A2 μ2 ρ2, Ext A1 H1 A2 H2 ∧ Rl T X.K A2 H2 μ2 ∧ RE T X.K A2 H2 σ2 ρ2 ∧ forGo g tb kp (xs.drop i) ρ2 μ2 E) ?_
    (fun i σ2 H2 hi ⟨A2, μ2, ρ2, x2, r2, re2, g2⟩ => hG _ _ _ x2 r2 (forGo_kp g2)) (fun i x σ2 H2 H3 hi ⟨A2, μ2, ρ2, x2, r2, re2, g2⟩ y => ?_) (fun σ2 H2 ⟨A2, μ2, ρ2, x2, r2, re2, g2⟩ => ?_)
  · exact ⟨A1, μ1, ρ, .refl _ _, r1, re.mono rl x1, by rw [List.drop_zero]; exact h1⟩
  · obtain ⟨d, d1, d2, d3⟩ := hY _ _ _ i x H3 x2 r2 (forGo_kp g2) hi y
    have hdr : xs.drop i = d :: xs.drop (i + 1) := by
      obtain ⟨hl, hx⟩ := List.getElem?_eq_some_iff.mp d1
      rw [List.drop_eq_getElem_cons hl, hx]
    rw [hdr] at g2
    have x3 : Ext A2 H2 A2 H3 := .same d2
    have r3 := r2.same d2
    have x13 := x2.tr r2 x3
    have xa3 := x1.tr r1 x13
    have k3 := k.ext xa3 r3
    refine ⟨A2, μ2, ρ2, d, _, _, r3, re2.mono r2 x3, d3, g2.2, fun ρ4 μ4 A4 σ4 H4 x4 r4 re4 g4 => ?_, k3.xo r3 (re2.mono r2 x3)⟩
    have k4 := k3.ext x4 r4
    exact ⟨A4, μ4, ρ4, _, r4, re4, g4, ⟨fun ρ5 μ5 A5 σ5 H5 x5 r5 re5 g5 => ⟨A5, μ5, ρ5, (x13.tr r3 x4).tr r4 x5, r5, re5, g5⟩, k4.rt, k4.nx, fun ρ5 μ5 A5 σ5 H5 x5 r5 re5 g5 => ⟨A5, μ5, ρ5, (x13.tr r3 x4).tr r4 x5, r5, re5, g5⟩, k4.ex⟩⟩
  · rw [List.drop_length] at g2
    exact k.nx _ _ _ _ _ (x1.tr r1 x2) r2 re2 g2.2

/-! ### while -/
@[simp] def sWhile (c : TDT) (tb : TDS) : TDS := fun ρ μ E => ∃ I : Nat → Env → Mu → Prop, (∃ m, I m ρ μ) ∧ ∀ m ρ μ, I m ρ μ →
  c ρ μ (fun k μ1 => if k = true then tb ρ μ1 { E with nx := fun ρ2 μ2 => ∃ m', m' < m ∧ I m' ρ2 μ2, ct := fun ρ2 μ2 => ∃ m', m' < m ∧ I m' ρ2 μ2, bk := E.nx } else E.nx ρ μ1) (fun x μ' => E.ex x ρ μ')
theorem pds_while {tc : TDT} {body : List Stmt} {tb : TDS} (hp : PassesOwn (model X.prog X.w) X.A X.env X.xe) (hc : PDT T X W c tc) (hb : PDB T X W body tb) : PDS T X W (.While c body [] pos) (sWhile tc tb) := by
  refine ⟨PS.mono (ps_while hp hc.run hb.run) fun D σ H ⟨A, μ, ρ, E, rl, re, ⟨I, ⟨m0, i0⟩, hI⟩, k⟩ => ?_⟩
  refine ⟨fun m σ2 H2 => ∃ A2 μ2 ρ2, Ext A H A2 H2 ∧ Rl T X.K A2 H2 μ2 ∧ RE T X.K A2 H2 σ2 ρ2 ∧ I m ρ2 μ2, ⟨m0, A, μ, ρ, .refl _ _, rl, re, i0⟩, fun m σ2 H2 ⟨A2, μ2, ρ2, x2, r2, re2, i2⟩ => ?_⟩
  have k2 := k.ext x2 r2
  refine ⟨A2, μ2, ρ2, _, _, r2, re2, hI m ρ2 μ2 i2, fun z μ3 A3 H3 x3 r3 h3 => ?_, k2.xo r2 re2⟩
  have k3 := k2.ext x3 r3
  by_cases hz : z = true
  · rw [if_pos hz] at h3
    show if z = true then _ else _
    rw [if_pos hz]
    refine ⟨fun σ' H' => ∃ m', m' < m ∧ ∃ A2 μ2 ρ2, Ext A H A2 H' ∧ Rl T X.K A2 H' μ2 ∧ RE T X.K A2 H' σ' ρ2 ∧ I m' ρ2 μ2, fun _ _ h => h, ?_⟩
    exact ⟨A3, μ3, ρ2, _, r3, re2.mono r2 x3, h3, ⟨fun ρ5 μ5 A5 σ5 H5 x5 r5 re5 ⟨m', hm, i5⟩ => ⟨m', hm, A5, μ5, ρ5, (x2.tr r2 x3).tr r3 x5, r5, re5, i5⟩, k3.rt, k3.nx,
      fun ρ5 μ5 A5 σ5 H5 x5 r5 re5 ⟨m', hm, i5⟩ => ⟨m', hm, A5, μ5, ρ5, (x2.tr r2 x3).tr r3 x5, r5, re5, i5⟩, k3.ex⟩⟩
  · rw [if_neg hz] at h3
    show if z = true then _ else _
    rw [if_neg hz]
    exact k3.nx _ _ _ _ _ (.refl _ _) r3 (re2.mono r2 x3) h3
end
end DL

/-! The data layer, 8: defs, classes, their operators. -/
namespace DL
open PySem PySem.Spec L2

/-! ### a def's promise over data -/
abbrev DSp := List D → Mu → (D → Mu → Prop) → PX → Prop
def spD (T : Cl) (K : PySem.W.Frag) (s : DSp) : Sp := fun vs H Q E => ∃ A μ ds P PX, Rl T K A H μ ∧ Reps T K A H vs ds ∧ s ds μ P PX ∧
  (∀ d μ' A' v H', Ext A H A' H' → Rl T K A' H' μ' → Rep T K A' H' v d → P d μ' → Q v H') ∧
  (∀ x μ' A' c q H', Ext A H A' H' → Rl T K A' H' μ' → XRep T K A' H' x c q → PX x μ' → E c q H')
abbrev FD (T : Cl) (P : Program) (w : World) (K : PySem.W.Frag) (mg : Str → Option Value) (base : Heap) (k : Nat) (f : Addr) (s : DSp) : Prop := FnR P w K mg base (L2.CX P w) k f (spD T K s)
/-- what the context wishes of an exception, whatever the slots are -/
abbrev WE0 (E : XK) : WX := fun c q _ H => E c q H

/-! ### what a def leaves: its own changing objects are let go -/
mutual
@[simp] def closed (n : Nat) : D → Bool
  | .mu i => decide (i < n)
  | .tup xs => closedAll n xs
  | .tupw xs => closedAll n xs
  | .tupp xs => closedAll n xs
  | .lst xs => closedAll n xs
  | .scr xs => closedAll n xs
  | .ins _ xs => closedAll n xs
  | .non => true | .bl _ => true | .int _ => true | .str _ => true | .ty _ => true | .cl _ => true
@[simp] def closedAll (n : Nat) : List D → Bool
  | [] => true
  | x :: xs => closed n x && closedAll n xs
end
@[simp] def closedC (n : Nat) : MC → Bool
  | .lst ds => closedAll n ds
  | .dic kvs => closedAll n (kvs.map (·.2))
  | .obj _ fs => closedAll n (fs.map (·.2))
section
variable {T : Cl} {K : PySem.W.Frag} {A A' : Ax} {H H' : Hp} {μ μ' : Mu}
mutual
theorem Rep.closed_ : ∀ {v : V} {d : D}, Rep T K A H v d → closed A.al.length d = true
  | _, _, .non => rfl
  | _, _, .bl b => rfl
  | _, _, .int i => rfl
  | _, _, .str y => rfl
  | _, _, .ty n => rfl
  | _, _, .cl c => rfl
  | _, _, .tup h o q => Reps.closed_ q
  | _, _, .tupw h q => Reps.closed_ q
  | _, _, .tupp h q => Reps.closed_ q
  | _, _, .lst h n q => Reps.closed_ q
  | _, _, .scr h q => Reps.closed_ q
  | _, _, .mu h => decide_eq_true (List.getElem?_eq_some_iff.mp h).1
  | _, _, .ins h l n q => Reps.closed_ q
theorem Reps.closed_ : ∀ {vs : List V} {ds : List D}, Reps T K A H vs ds → closedAll A.al.length ds = true
  | _, _, .nil => rfl
  | _, _, .cons r t => by
    show (closed A.al.length _ && closedAll A.al.length _) = true
    rw [Rep.closed_ r, Reps.closed_ t]; rfl
end
mutual
theorem Rep.cut_ {B : Ax} {n : Nat} (e : B.al = A.al.take n) (m : ∀ a, B.Mt a → A.Mt a) : ∀ {v : V} {d : D}, Rep T K A H v d → closed n d = true → Rep T K B H v d
  | _, _, .non, _ => .non
  | _, _, .bl b, _ => .bl b
  | _, _, .int i, _ => .int i
  | _, _, .str y, _ => .str y
  | _, _, .ty n, _ => .ty n
  | _, _, .cl c, _ => .cl c
  | _, _, .tup h o q, c => .tup h o (Reps.cut_ e m q c)
  | _, _, .tupw h q, c => .tupw h (Reps.cut_ e m q c)
  | _, _, .tupp h q, c => .tupp h (Reps.cut_ e m q c)
  | _, _, .lst h n q, c => .lst h (fun z => n (m _ z)) (Reps.cut_ e m q c)
  | _, _, .scr h q, c => .scr (h.imp id (.imp id fun z => ⟨z.1, fun y => z.2 (m _ y)⟩)) (Reps.cut_ e m q c)
  | _, _, .mu h, c => .mu (by rw [e, List.getElem?_take_of_lt (of_decide_eq_true c)]; exact h)
  | _, _, .ins h l n q, c => .ins h l (fun z => n (m _ z)) (Reps.cut_ e m q c)
theorem Reps.cut_ {B : Ax} {n : Nat} (e : B.al = A.al.take n) (m : ∀ a, B.Mt a → A.Mt a) : ∀ {vs : List V} {ds : List D}, Reps T K A H vs ds → closedAll n ds = true → Reps T K B H vs ds
  | _, _, .nil, _ => .nil
  | _, _, .cons r t, c => by
    obtain ⟨c1, c2⟩ := Bool.and_eq_true_iff.mp (show (closed n _ && closedAll n _) = true from c)
    exact .cons (Rep.cut_ e m r c1) (Reps.cut_ e m t c2)
end
theorem MRep.closed_ {a : Addr} {c : MC} (h : MRep T K A H a c) : closedC A.al.length c = true := by
  cases c with
  | lst ds => obtain ⟨vs, _, q⟩ := h; exact q.closed_
  | dic ds => obtain ⟨vs, _, q⟩ := h; exact q.closed_
  | obj c fs => obtain ⟨dx, vs, _, q⟩ := h; exact q.closed_
theorem MRep.cut_ {B : Ax} {n : Nat} {a : Addr} {c : MC} (e : B.al = A.al.take n) (m : ∀ a, B.Mt a → A.Mt a) (h : MRep T K A H a c) (hc : closedC n c = true) : MRep T K B H a c := by
  cases c with
  | lst ds => obtain ⟨vs, h1, q⟩ := h; exact ⟨vs, h1, q.cut_ e m hc⟩
  | dic ds => obtain ⟨vs, h1, q⟩ := h; exact ⟨vs, h1, q.cut_ e m hc⟩
  | obj c fs => obtain ⟨dx, vs, h1, q⟩ := h; exact ⟨dx, vs, h1, q.cut_ e m hc⟩
/-- the first n cells speak of none behind them -/
def Shut (μ μ' : Mu) : Prop := ∀ (i : Nat) (c : MC), i < μ.length → μ'[i]? = some c → μ[i]? = some c ∨ closedC μ.length c = true
mutual
/-- own changing lists within, kept from now on as they are -/
inductive Froz (μ : Mu) (n : Nat) : D → D → Prop
  | same {d : D} : closed n d = true → Froz μ n d d
  | mu {m : Nat} {ds : List D} : n ≤ m → μ[m]? = some (.lst ds) → closedAll n ds = true → Froz μ n (.mu m) (.lst ds)
  | tup {ds es : List D} : Frozs μ n ds es → Froz μ n (.tup ds) (.tup es)
  | lst {ds es : List D} : Frozs μ n ds es → Froz μ n (.lst ds) (.lst es)
inductive Frozs (μ : Mu) (n : Nat) : List D → List D → Prop
  | nil : Frozs μ n [] []
  | cons {d e : D} {ds es : List D} : Froz μ n d e → Frozs μ n ds es → Frozs μ n (d :: ds) (e :: es)
end
theorem mu_frz {a : Addr} {m : Nat} (r0 : Rl T K A H μ) (x : Ext A H A' H') (r : Rl T K A' H' μ') (ha : A'.al[m]? = some a) (hm : μ.length ≤ m) : ¬ (⟨A.al, A'.gh⟩ : Ax).Mt a := by
  have na : a ∉ A.al := fun q => by
    obtain ⟨i, hi⟩ := List.mem_iff_getElem?.mp q
    have hi2 := x.at_ hi
    obtain ⟨l1, e1⟩ := List.getElem?_eq_some_iff.mp hi2
    obtain ⟨l2, e2⟩ := List.getElem?_eq_some_iff.mp ha
    have := (List.getElem_inj r.nd).mp (e1.trans e2.symm)
    have := (List.getElem?_eq_some_iff.mp hi).1
    rw [r0.len] at this
    omega
  have ma : a ∈ A'.al := List.mem_of_getElem? ha
  exact fun z => z.elim na fun z => (r.gh a z).1 ma
mutual
theorem Rep.frz_ (r0 : Rl T K A H μ) (x : Ext A H A' H') (r : Rl T K A' H' μ') (e : (⟨A.al, A'.gh⟩ : Ax).al = A'.al.take μ.length) (m : ∀ a, (⟨A.al, A'.gh⟩ : Ax).Mt a → A'.Mt a) : ∀ {v : V} {d d' : D}, Rep T K A' H' v d → Froz μ' μ.length d d' → Rep T K ⟨A.al, A'.gh⟩ H' v d'
  | _, _, _, p, .same c => p.cut_ e m c
  | _, _, _, .mu ha, .mu h1 h2 h3 => by
    obtain ⟨vs, q1, q2⟩ := r.mutLst ha h2
    exact .lst q1 (mu_frz r0 x r ha h1) (q2.cut_ e m h3)
  | _, _, _, .tup h o q, .tup f => .tup h o (Reps.frz_ r0 x r e m q f)
  | _, _, _, .lst h n q, .lst f => .lst h (fun z => n (m _ z)) (Reps.frz_ r0 x r e m q f)
theorem Reps.frz_ (r0 : Rl T K A H μ) (x : Ext A H A' H') (r : Rl T K A' H' μ') (e : (⟨A.al, A'.gh⟩ : Ax).al = A'.al.take μ.length) (m : ∀ a, (⟨A.al, A'.gh⟩ : Ax).Mt a → A'.Mt a) : ∀ {vs : List V} {ds es : List D}, Reps T K A' H' vs ds → Frozs μ' μ.length ds es → Reps T K ⟨A.al, A'.gh⟩ H' vs es
  | _, _, _, .nil, .nil => .nil
  | _, _, _, .cons p q, .cons f g => .cons (Rep.frz_ r0 x r e m p f) (Reps.frz_ r0 x r e m q g)
end
/-- what may be handed out, the def's own objects let go (or one of them kept) -/
def Seal (μ : Mu) (P : D → Mu → Prop) (d : D) (μ' : Mu) : Prop :=
  P d μ' ∨ (μ.length ≤ μ'.length ∧ Shut μ μ' ∧ ((closed μ.length d = true ∧ P d (μ'.take μ.length)) ∨
    (∃ m ds, d = .mu m ∧ μ.length ≤ m ∧ μ'[m]? = some (.lst ds) ∧ closedAll μ.length ds = true ∧ (P (.lst ds) (μ'.take μ.length) ∨ P (.mu μ.length) (μ'.take μ.length ++ [.lst ds]))) ∨ ∃ d', Froz μ' μ.length d d' ∧ P d' (μ'.take μ.length)))
theorem Rl.cut_ (r0 : Rl T K A H μ) (x : Ext A H A' H') (r : Rl T K A' H' μ') (hl : μ.length ≤ μ'.length) (hs : Shut μ μ') :
    Ext A H ⟨A.al, A'.gh⟩ H' ∧ Rl T K ⟨A.al, A'.gh⟩ H' (μ'.take μ.length) ∧ (⟨A.al, A'.gh⟩ : Ax).al = A'.al.take μ.length ∧ (∀ a, (⟨A.al, A'.gh⟩ : Ax).Mt a → A'.Mt a) := by
  obtain ⟨z, hz⟩ := x.pre
  have e : A.al = A'.al.take μ.length := by rw [hz, ← r0.len, List.take_left']; rfl
  have m : ∀ a, (⟨A.al, A'.gh⟩ : Ax).Mt a → A'.Mt a := fun a h => h.elim (fun h => .inl (x.sub a h)) .inr
  refine ⟨⟨⟨[], by simp⟩, x.gh, x.ghk, x.keep, fun a h => .inl h⟩, ⟨?_, r0.nd, fun i c f => ?_, fun a h => ⟨fun q => (r.gh a h).1 (x.sub a q), (r.gh a h).2⟩, r.tb⟩, e, m⟩
  · show A.al.length = (μ'.take μ.length).length
    rw [List.length_take, r0.len]; omega
  · have hi : i < μ.length := by
      have := (List.getElem?_eq_some_iff.mp f).1
      rw [List.length_take] at this; omega
    rw [List.getElem?_take_of_lt hi] at f
    obtain ⟨a, h1, h2⟩ := r.at_ i c f
    have hc : closedC μ.length c = true := by
      rcases hs i c hi f with g | g
      · obtain ⟨b, _, g2⟩ := r0.at_ i c g
        have := g2.closed_
        rwa [r0.len] at this
      · exact g
    refine ⟨a, ?_, h2.cut_ e m hc⟩
    show A.al[i]? = some a
    rw [e, List.getElem?_take_of_lt hi]
    exact h1
theorem seal_ok {P : D → Mu → Prop} {Q : VK} {d : D} {v : V} (r0 : Rl T K A H μ) (k : ∀ d μ' A' v H', Ext A H A' H' → Rl T K A' H' μ' → Rep T K A' H' v d → P d μ' → Q v H')
    (x : Ext A H A' H') (r : Rl T K A' H' μ') (p : Rep T K A' H' v d) (h : Seal μ P d μ') : Q v H' := by
  rcases h with h | ⟨hl, hs, h⟩
  · exact k _ _ _ _ _ x r p h
  · obtain ⟨x2, r2, e, m⟩ := r0.cut_ x r hl hs
    rcases h with ⟨hc, h⟩ | ⟨j, ds, rfl, hj, hm, hc, h⟩ | ⟨d', hf, h⟩
    rotate_right
    · exact k _ _ _ _ _ x2 r2 (p.frz_ r0 x r e m hf) h
    · exact k _ _ _ _ _ x2 r2 (p.cut_ e m hc) h
    · cases p with
      | @mu a _ ha =>
        obtain ⟨vs, h3, h4⟩ := r.mutLst ha hm
        have na : a ∉ A.al := fun q => by
          obtain ⟨i, hi⟩ := List.mem_iff_getElem?.mp q
          have hi2 := x.at_ hi
          obtain ⟨l1, e1⟩ := List.getElem?_eq_some_iff.mp hi2
          obtain ⟨l2, e2⟩ := List.getElem?_eq_some_iff.mp ha
          have := (List.getElem_inj r.nd).mp (e1.trans e2.symm)
          have := (List.getElem?_eq_some_iff.mp hi).1
          rw [r0.len] at this
          omega
        have ma : a ∈ A'.al := List.mem_of_getElem? ha
        have ng : a ∉ A'.gh := fun z => (r.gh a z).1 ma
        rcases h with h | h
        · exact k _ _ _ _ _ x2 r2 (.lst h3 (fun z => z.elim na ng) (h4.cut_ e m hc)) h
        · have al0 : ∃ z, (⟨A.al ++ [a], A'.gh⟩ : Ax).al = (⟨A.al, A'.gh⟩ : Ax).al ++ z := ⟨[a], rfl⟩
          have new : Nt H a := by
            rcases x.new a ma with z | z
            · exact absurd z na
            · exact z
          -- the ghost list a
          have rg : Rl T K ((⟨A.al, A'.gh⟩ : Ax).gst a) H' (μ'.take μ.length) := by
            refine ⟨r2.len, r2.nd, fun i c f => ?_, fun b z => ?_, r2.tb⟩
            · obtain ⟨b, h5, h6⟩ := r2.at_ i c f
              refine ⟨b, h5, ?_⟩
              have hi : i < μ.length := by
                have := (List.getElem?_eq_some_iff.mp f).1
                rw [List.length_take] at this; omega
              rw [List.getElem?_take_of_lt hi] at f
              obtain ⟨b', h7, h8⟩ := r.at_ i c f
              have eb : b = b' := by
                have : A.al[i]? = some b := h5
                rw [x.at_ this] at h7; exact Option.some.inj h7
              subst eb
              have hc2 : closedC μ.length c = true := by
                rcases hs i c hi f with g | g
                · obtain ⟨b2, _, g2⟩ := r0.at_ i c g
                  have := g2.closed_
                  rwa [r0.len] at this
                · exact g
              exact h8.cut_ e (fun b z => by
                rcases Ax.Mt_gst.mp z with z | z
                · exact m b z
                · subst z; exact .inl ma) hc2
            · rcases List.mem_cons.mp (show b ∈ a :: A'.gh from z) with z | z
              · subst z; exact ⟨na, fun z => by obtain ⟨ps, y⟩ := z _ h3; cases y⟩
              · exact r2.gh b z
          have q4 : Reps T K ((⟨A.al, A'.gh⟩ : Ax).gst a) H' vs ds := h4.cut_ (B := (⟨A.al, A'.gh⟩ : Ax).gst a) e (fun b z => by
            rcases Ax.Mt_gst.mp z with z | z
            · exact m b z
            · subst z; exact .inl ma) hc
          obtain ⟨x5, r5⟩ := Rl.ghal x2 new ng rg h3 q4
          refine k _ _ _ _ _ x5 r5 (.mu ?_) h
          show (A.al ++ [a])[μ.length]? = some a
          rw [← r0.len, List.getElem?_append_right (Nat.le_refl _)]
          simp
end

/-! ### THE RULE for a def -/
@[simp] def startD (n : Nat) (ds : List D) : Env := ds.map some ++ List.replicate (n - ds.length) none
section
variable {T : Cl} {P : Program} {w : World} {K : PySem.W.Frag} {mg : Str → Option Value} {base : Heap}
theorem RE.begin_ {A : Ax} {H : Hp} {N : List Str} {vs : List V} {ds : List D} (r : Reps T K A H vs ds) (hl : vs.length ≤ N.length) : RE T K A H (L2.start N vs) (startD N.length ds) := by
  unfold L2.start startD
  refine ⟨by simp [r.length], fun i d h => ?_⟩
  by_cases hi : i < ds.length
  · rw [List.getElem?_append_left (by simpa using hi), List.getElem?_map] at h
    obtain ⟨d', h1, h2⟩ := Option.map_eq_some_iff.mp h
    cases h2
    obtain ⟨v, h3, h4⟩ := r.get h1
    refine ⟨v, ?_, h4⟩
    rw [List.getElem?_append_left (by simpa [r.length] using hi), List.getElem?_map, h3]
    rfl
  · rw [List.getElem?_append_right (by simpa using hi), List.getElem?_replicate] at h
    split at h <;> cases h
/-- what a def's end is -/
@[simp] def endD (μ : Mu) (P : D → Mu → Prop) (Q : PX) : DE := ⟨fun _ μ' => Seal μ P .non μ', Seal μ P, fun _ _ => False, fun _ _ => False, fun x _ μ' => Q x μ'⟩
theorem fd_ok {x qual : Str} {st : Stmt} {f : Addr} {fd : FuncData} {N ps : List Str} {k : Nat} {s : DSp} (F : Fun K x qual st f fd) (S : FnScope N ps (defScope st)) (hl : ∀ ds μ P PX, s ds μ P PX → ds.length = ps.length) (hN : ps.length ≤ N.length)
    (hbody : ∃ t : TDS, (∀ (cdv : Value) (A : Around) (outer : List PySem.Env) (sh : Shared) (H : Hp) (E : XK), Room k (A.deeper (PyProof.Rows.envOfC qual (defScope st) sh.heap.objs.size f cdv)) →
        PDB T (cxOf (L2.CX P w) P w K mg base N qual (defScope st) f cdv A outer sh H E) (WE0 E) (defBody st) t) ∧
      ∀ ds μ Q PX, s ds μ Q PX → t (startD N.length ds) μ (endD μ Q PX)) : FnOk P w K mg base (L2.CX P w) (k + 1) f fd ps (spD T K s) := by
  obtain ⟨t, ht, hs⟩ := hbody
  refine F.okX S (fun vs H Q E ⟨A, μ, ds, P, PX, rl, rp, h, _⟩ => by rw [rp.length]; exact hl _ _ _ _ h) fun cdv A outer sh H vs Q E hr ⟨A1, μ, ds, P1, PX, rl, rp, h, kv, kx⟩ => ?_
  refine ⟨_, (ht cdv A outer sh H E hr).run, A1, μ, startD N.length ds, _, rl, RE.begin_ rp (by rw [rp.length, hl _ _ _ _ h]; exact hN), hs _ _ _ _ h, ?_⟩
  exact ⟨fun ρ' μ' A' σ' H' x1 r1 re1 h1 => seal_ok (d := .non) (v := .non) rl kv x1 r1 .non h1, fun d μ' A' v H' x1 r1 p1 h1 => seal_ok rl kv x1 r1 p1 h1, fun _ _ _ _ _ _ _ _ h1 => h1.elim, fun _ _ _ _ _ _ _ _ h1 => h1.elim,
    fun y ρ' μ' A' σ' c q H' x1 r1 re1 xr h1 => kx y μ' A' c q H' x1 r1 xr h1⟩
theorem fnR_of {k : Nat} {f : Addr} {fd : FuncData} {ps : List Str} {sp : Sp} (F : FnOk P w K mg base (L2.CX P w) k f fd ps sp) (b : Binds K fd ps []) : FnR P w K mg base (L2.CX P w) k f sp := fun A outer s H us vs Q E hr e0 r h => by
  have hl : us.length = ps.length := by rw [← r.length]; exact F.len _ _ _ _ h
  have KX : K.In s.heap := e0.mod.kin.keeps fun b o e => (e0.bs b o e).1
  have hb := b s us KX (by rw [List.append_nil]; exact hl)
  rw [List.append_nil] at hb
  exact F.run A outer s H ⟨us, []⟩ us vs Q E hr e0 hb r h
end

/-! ### calls -/
section
variable {T : Cl} {X : Cx} {W : WX} {E : XK} {a b e fe : Expr} {es : List Expr} {pos : Pos} {k : Nat} {f : Addr} {s : DSp}
@[simp] def tdCall (s : DSp) (t : TDA) : TD := fun ρ μ P PX => t ρ μ (fun ds μ1 => s ds μ1 P PX) PX
theorem spD_of {A A1 : Ax} {H H1 : Hp} {μ1 : Mu} {σ : L2.St} {vs : List V} {ds : List D} {P : D → Mu → Prop} {PX : PX} {Q : VK} (k : ∀ d μ' A' v H', Ext A H A' H' → Rl T X.K A' H' μ' → Rep T X.K A' H' v d → P d μ' → Q v H') (kx : XOk T X (WE0 E) A H σ PX)
    (x1 : Ext A H A1 H1) (r1 : Rl T X.K A1 H1 μ1) (p1 : Reps T X.K A1 H1 vs ds) (h : s ds μ1 P PX) : spD T X.K s vs H1 Q E :=
  ⟨A1, μ1, ds, P, PX, r1, p1, h, fun d μ' A' v H' x2 r2 p2 h2 => k d μ' A' v H' (x1.tr r1 x2) r2 p2 h2, fun x μ' A' c q H' x2 r2 p2 h2 => kx x μ' A' c q H' (x1.tr r1 x2) r2 p2 h2⟩
theorem pd_call {x : Str} {p : Pos} {t : TDA} (F : FD T X.prog X.w X.K X.mg X.base k f s) (hr : Room k X.A) (hk : PySem.W.keepIn X.K (.ref f) = true) (hg : Gl X x) (hm : X.mg x = some (.ref f)) (hx : Passes (L2.CX X.prog X.w) X E) (ha : PDA T X (WE0 E) (e :: es) t)
    (hd : (x == ("__debug__" : Str)) = false := by decide) (he : starEach (e :: es) X.env = (false, eval e X.env) :: starEach es X.env := by rfl) (hpl : (backTo pos (starEach es X.env)).any (·.1) = false := by rfl) :
    PD T X (WE0 E) (.Call (.Name x p) (e :: es) [] pos) (tdCall s t) := by
  refine ⟨⟨fun pins sh σ H Q I ⟨A, μ, ρ, P, PX, rl, re, h, kk, kx⟩ => ?_⟩⟩
  refine wpAny_Call_Name_kw (ld_glob I hg hm ?_ hd)
  refine PySem.W.callWith_K (h₀ := X.base) I.ok.mod.kin hk (thn (ha.run.run pos pins sh σ H (fun vs H1 => spD T X.K s vs H1 Q E) I ⟨A, μ, ρ, _, PX, rl, re, h, fun ds μ1 A1 vs H1 x1 r1 p1 h1 => spD_of (σ := σ) kk kx x1 r1 p1 h1, kx⟩) fun us s1 ⟨vs, H1, I1, r, q⟩ => ⟨I1.kIn, ?_⟩) he hpl
  exact wpAny_call (run_fnR F hr hx I1 r q)
/-- an instance called -/
@[simp] def tdCallO (c : Nat) (s : DSp) (tf : TD) (t : TDA) : TD := fun ρ μ P PX => tf ρ μ (fun o μ1 => match o with
  | .ins c' fs => c' = c ∧ t ρ μ1 (fun ds μ2 => s (.ins c fs :: ds) μ2 P PX) PX
  | _ => False) PX
theorem pd_callO {c : Nat} {tf : TD} {t : TDA} (hf : PD T X (WE0 E) fe tf) (co : StX.CallO X.K (T.cls c) f) (F : FD T X.prog X.w X.K X.mg X.base k f s) (hr : Room k X.A) (hx : Passes (L2.CX X.prog X.w) X E) (ha : PDA T X (WE0 E) (e :: es) t)
    (ht : eval (.Call fe (e :: es) [] pos) X.env = (do callWith pos (← eval fe X.env) [] (backTo pos (starEach (e :: es) X.env)) (backToKw pos (keywordEach [] X.env))) := by rfl)
    (he : starEach (e :: es) X.env = (false, eval e X.env) :: starEach es X.env := by rfl) (hpl : (backTo pos (starEach es X.env)).any (·.1) = false := by rfl) : PD T X (WE0 E) (.Call fe (e :: es) [] pos) (tdCallO c s tf t) :=
  ⟨PE.mono (StX.pe_callO hf.run co F hr hx ha.run ht he hpl) fun σ H Q ⟨A, μ, ρ, P, PX, rl, re, h, kk, kx⟩ => ⟨A, μ, ρ, _, PX, rl, re, h, fun o μ1 A1 v H1 x1 r1 p1 h1 => by
    cases o with
    | ins c' fs =>
      obtain ⟨rfl, h1⟩ : c' = c ∧ t ρ μ1 (fun ds μ2 => s (.ins c fs :: ds) μ2 P PX) PX := h1
      cases p1 with
      | @ins a dx _ vs _ ea l n q =>
        exact ⟨a, rfl, A1, μ1, ρ, _, PX, r1, re.mono rl x1, h1, fun ds μ2 A2 ws H2 x2 r2 p2 h2 => ⟨.inr ⟨_, _, x2.keep _ _ (fun z => n (.inl z)) nofun ea⟩,
          spD_of (σ := σ) kk kx (x1.tr r1 x2) r2 (.cons ((Rep.ins ea l n q).mono r1 x2) p2) h2⟩, kx.ext x1 r1⟩
    | _ => exact h1.elim, kx⟩⟩

/-! ### attributes -/
/-- a class's attributes by their places -/
structure Nm (T : Cl) (c : Nat) (f : Str) (i : Nat) : Prop where
  at_ : ∀ {α : Type} (vs : List α), (T.nm c).length = vs.length → ((T.nm c).zip vs).lookup f = vs[i]?
/-- e.f, an own attribute of an object that is done -/
@[simp] def tdFld (c i : Nat) (t : TD) : TD := fun ρ μ P PX => t ρ μ (fun d μ1 => match d with
  | .ins c' ds => c' = c ∧ match ds[i]? with | some x => P x μ1 | none => False
  | _ => False) PX
theorem pd_fld {c i : Nat} {fl : Str} {t : TD} (he : PD T X W e t) (nm : Nm T c fl i) (cl : Cls X.K (T.cls c)) (na : NoAttr X.K (T.cls c) fl) (hb : attributeBase e fl X.env (eval e X.env) = eval e X.env := by rfl) : PD T X W (.Attribute e fl pos) (tdFld c i t) :=
  ⟨PE.mono (pe_fld he.run hb) fun σ H Q ⟨A, μ, ρ, P, PX, rl, re, h, kk, kx⟩ => ⟨A, μ, ρ, _, PX, rl, re, h, fun o μ1 A1 v H1 x1 r1 p1 h1 => by
    cases o with
    | ins c' ds =>
      obtain ⟨rfl, h1⟩ : c' = c ∧ match ds[i]? with | some x => P x μ1 | none => False := h1
      cases p1 with
      | @ins a dx _ vs _ ea l n q =>
        split at h1
        · rename_i x hx
          obtain ⟨v, h2, h3⟩ := q.get hx
          exact ⟨a, _, dx, _, v, rfl, ea, cl, na, by rw [nm.at_ vs l]; exact h2, kk _ μ1 A1 _ H1 x1 r1 h3 h1⟩
        · exact h1.elim
    | _ => exact h1.elim, kx⟩⟩
/-- a property of an object that is done -/
@[simp] def tdProp (c : Nat) (s : DSp) (t : TD) : TD := fun ρ μ P PX => t ρ μ (fun d μ1 => match d with
  | .ins c' ds => c' = c ∧ s [.ins c ds] μ1 P (fun _ _ => False)
  | _ => False) PX
theorem pd_prop {c : Nat} {fl : Str} {t : TD} {pp : Addr} {fd : FuncData} {ps : List Str} (he : PD T X W e t) (cl : Cls X.K (T.cls c)) (hp : PropOf X.K (T.cls c) fl pp f) (F : FnOk X.prog X.w X.K X.mg X.base (L2.CX X.prog X.w) k f fd ps (spD T X.K s)) (hr : Room (k + 1) X.A) (hb : Binds X.K fd ps [])
    (hab : attributeBase e fl X.env (eval e X.env) = eval e X.env := by rfl) : PD T X W (.Attribute e fl pos) (tdProp c s t) :=
  ⟨PE.mono (pe_prop (E := E0) he.run cl hp F hr hb .nil passL hab) fun σ H Q ⟨A, μ, ρ, P, PX, rl, re, h, kk, kx⟩ => ⟨A, μ, ρ, _, PX, rl, re, h, fun o μ1 A1 v H1 x1 r1 p1 h1 => by
    cases o with
    | ins c' ds =>
      obtain ⟨rfl, h1⟩ : c' = c ∧ s [.ins c ds] μ1 P (fun _ _ => False) := h1
      cases p1 with
      | @ins a dx _ vs _ ea l n q =>
        exact ⟨a, dx, _, rfl, ea, A1, μ1, _, P, _, r1, .cons (.ins ea l n q) .nil, h1, fun d μ' A' v H' x2 r2 p2 h2 => kk d μ' A' v H' (x1.tr r1 x2) r2 p2 h2, fun _ _ _ _ _ _ _ _ _ z => z.elim⟩
    | _ => exact h1.elim, kx⟩⟩
/-- C.f, a constant of the class -/
theorem pd_cval {c : Nat} {fl : Str} {mc : Value} {v : V} {u : Value} {d : D} {x : Str} {p : Pos} (hg : Gl X x) (hm : X.mg x = some (.ref (T.cls c))) (cr : ClX.CRead X.K (T.cls c) mc) (cv : ClX.CVal X.K (T.cls c) mc fl v u) (r : ∀ A H, Rep T X.K A H v d)
    (hd : (x == ("__debug__" : Str)) = false := by decide) (hab : attributeBase (.Name x p) fl X.env (eval (.Name x p) X.env) = eval (.Name x p) X.env := by rfl) : PD T X W (.Attribute (.Name x p) fl pos) (tdC d) :=
  ⟨PE.mono (ClX.pe_cval (pe_glob (v := .ref (T.cls c)) hg hm rfl hd) hab) fun σ H Q ⟨A, μ, ρ, P, PX, rl, re, h, kk, kx⟩ => ⟨T.cls c, mc, v, u, rfl, cr, cv, kk d μ A v H (.refl _ _) rl (r A H) h⟩⟩

/-! ### a store to an attribute, while the object is made -/
@[simp] def putD (f : Str) (v : D) : List (Str × D) → List (Str × D)
  | [] => [(f, v)]
  | (g, x) :: r => if g = f then (g, v) :: r else (g, x) :: putD f v r
theorem putD_rep {K : PySem.W.Frag} {A : Ax} {H : Hp} {f : Str} {v : V} {d : D} (r : Rep T K A H v d) : ∀ (fs : List (Str × D)) (vs : List V), Reps T K A H vs (fs.map (·.2)) →
    ∃ vs', putF f v ((fs.map (·.1)).zip vs) = ((putD f d fs).map (·.1)).zip vs' ∧ Reps T K A H vs' ((putD f d fs).map (·.2))
  | [], _, .nil => ⟨[v], rfl, .cons r .nil⟩
  | (g, x) :: fs, w :: vs, .cons q t => by
    by_cases e : g = f
    · refine ⟨v :: vs, ?_, ?_⟩
      · show (if g = f then _ else _) = _
        rw [if_pos e]
        unfold putD
        rw [if_pos e]
        rfl
      · unfold putD
        rw [if_pos e]
        exact .cons r t
    · obtain ⟨vs', h1, h2⟩ := putD_rep r fs vs t
      refine ⟨w :: vs', ?_, ?_⟩
      · show (if g = f then _ else _) = _
        rw [if_neg e]
        show (g, w) :: putF f v ((fs.map (·.1)).zip vs) = _
        rw [h1, show putD f d ((g, x) :: fs) = (g, x) :: putD f d fs from if_neg e]
        rfl
      · unfold putD
        rw [if_neg e]
        exact .cons q h2
theorem Rl.putO {K : PySem.W.Frag} {A : Ax} {H : Hp} {μ : Mu} {m : Nat} {a dx : Addr} {c : Nat} {vs : List V} {fs : List (Str × D)} {o : MC} (r : Rl T K A H μ) (ha : A.al[m]? = some a) (hm : μ[m]? = some o) (q : Reps T K A H vs (fs.map (·.2))) :
    Ext A H A (upd H a (.ins (T.cls c) dx ((fs.map (·.1)).zip vs))) ∧ Rl T K A (upd H a (.ins (T.cls c) dx ((fs.map (·.1)).zip vs))) (μ.set m (.obj c fs)) := by
  have mem : a ∈ A.al := List.mem_of_getElem? ha
  have x : Ext A H A (upd H a (.ins (T.cls c) dx ((fs.map (·.1)).zip vs))) := .of ⟨[], by simp⟩ (fun _ h => .inl h) (fun _ h => h) (fun b o n e => by rw [upd_ne (by rintro rfl; exact n mem)]; exact e) fun _ h => .inl h
  refine ⟨x, by rw [List.length_set]; exact r.len, r.nd, fun i c' f => ?_, fun b h => ⟨(r.gh b h).1, ?_⟩, r.tbw ha hm⟩
  · by_cases e : m = i
    · subst e
      have hl := (List.getElem?_eq_some_iff.mp hm).1
      rw [List.getElem?_set_self hl] at f
      cases f
      exact ⟨a, ha, dx, vs, upd_same, q.mono r x⟩
    · rw [List.getElem?_set_ne e] at f
      obtain ⟨b, h1, h2⟩ := r.at_ i c' f
      have ne : b ≠ a := by
        rintro rfl
        obtain ⟨l1, e1⟩ := List.getElem?_eq_some_iff.mp h1
        obtain ⟨l2, e2⟩ := List.getElem?_eq_some_iff.mp ha
        exact e ((List.getElem_inj r.nd).mp (e2.trans e1.symm))
      exact ⟨b, h1, h2.mono r x (upd_ne ne)⟩
  · by_cases e : b = a
    · subst e; exact nt_same nofun
    · exact nt_ne e (r.gh b h).2
@[simp] def sFldD (c : Nat) (fl : Str) (to tv : TD) : TDS := fun ρ μ E => tv ρ μ (fun d μ1 => to ρ μ1 (fun o μ2 => match o with
  | .mu m => match μ2[m]? with
    | some (.obj c' fs) => c' = c ∧ fs.length < 1000 ∧ E.nx ρ (μ2.set m (.obj c (putD fl d fs)))
    | _ => False
  | _ => False) (fun x μ' => E.ex x ρ μ')) (fun x μ' => E.ex x ρ μ')
theorem pds_fld {c : Nat} {fl : Str} {o value : Expr} {to tv : TD} {pos' : Pos} (ho : PD T X W o to) (hv : PD T X W value tv) (cl : Cls X.K (T.cls c)) (na : NoAttr X.K (T.cls c) fl) (hs : swapsWith value (some (.Attribute o fl pos')) pos.line X.env = pure false := by rfl) :
    PDS T X W (.Assign [.Attribute o fl pos'] value pos) (sFldD c fl to tv) :=
  ⟨PS.mono (ps_fld ho.run hv.run hs) fun D σ H ⟨A, μ, ρ, E, rl, re, h, k⟩ => ⟨A, μ, ρ, _, _, rl, re, h, fun d μ1 A1 v H1 x1 r1 p1 h1 => ⟨A1, μ1, ρ, _, _, r1, re.mono rl x1, h1, fun o μ2 A2 w H2 x2 r2 p2 h2 => by
    cases o with
    | mu m =>
      cases p2 with
      | @mu a _ ea =>
        replace h2 : match μ2[m]? with
          | some (.obj c' fs) => c' = c ∧ fs.length < 1000 ∧ E.nx ρ (μ2.set m (.obj c (putD fl d fs)))
          | _ => False := h2
        split at h2
        · rename_i c' fs hm
          obtain ⟨rfl, hf, h2⟩ := h2
          obtain ⟨b, hb, dx, vs, h3, h4⟩ := r2.at_ m _ hm
          rw [ea] at hb; cases hb
          have xx := x1.tr r1 x2
          obtain ⟨vs', e1, e2⟩ := putD_rep (f := fl) (p1.mono r1 x2) fs vs h4
          obtain ⟨x3, r3⟩ := r2.putO (c := c') (dx := dx) ea hm e2
          refine ⟨a, _, dx, _, rfl, h3, cl, na, ?_, ?_⟩
          · rw [List.length_zip, List.length_map]; omega
          · rw [e1]
            exact k.nx _ _ _ _ _ (xx.tr r2 x3) r3 ((re.mono rl xx).mono r2 x3) h2
        · exact h2.elim
    | _ => exact h2.elim, (k.ext x1 r1).xo r1 (re.mono rl x1)⟩, k.xo rl re⟩⟩

/-! ### an object made -/
/-- what __init__ promises, told of the making: the object is done -/
def MkD (T : Cl) (c : Nat) (sI : DSp) (s : DSp) : Prop := ∀ ds μ P PX, s ds μ P PX →
  sI (.mu μ.length :: ds) (μ ++ [.obj c []]) (fun d μ' => d = .non ∧ ∃ fs, μ' = μ ++ [.obj c fs] ∧ fs.map (·.1) = T.nm c ∧ closedAll μ.length (fs.map (·.2)) = true ∧ P (.ins c (fs.map (·.2))) μ)
    (fun x μ' => ∃ o, μ' = μ ++ [o] ∧ (∀ fs, x.fs = some fs → closedAll μ.length fs = true) ∧ PX x μ)
theorem Rl.pushO {K : PySem.W.Frag} {A : Ax} {H : Hp} {μ : Mu} {c : Nat} {x dx : Addr} (r : Rl T K A H μ) (hx : H x = none) (hd : H dx = none) (ne : dx ≠ x) :
    Ext A H ⟨A.al ++ [x], A.gh⟩ (upd (upd H dx (.own x)) x (.ins (T.cls c) dx [])) ∧ Rl T K ⟨A.al ++ [x], A.gh⟩ (upd (upd H dx (.own x)) x (.ins (T.cls c) dx [])) (μ ++ [.obj c []]) := by
  have s1 := same_upd (o := .own x) hd
  have hx1 : (upd H dx (.own x)) x = none := by rw [upd_ne (Ne.symm ne)]; exact hx
  have s2 := s1.trans (same_upd (o := .ins (T.cls c) dx []) hx1)
  have r2 := r.same s2
  have x2 : Ext A H ⟨A.al ++ [x], A.gh⟩ (upd (upd H dx (.own x)) x (.ins (T.cls c) dx [])) := .of ⟨[x], rfl⟩ (fun a h => .inl h) (fun a h => h) (fun a o _ e => s2 a o e) fun a h => by
    rcases List.mem_append.mp h with h | h
    · exact .inl h
    · rw [List.mem_singleton.mp h]; exact .inr hx
  refine ⟨x2, ?_, ?_, fun i c' f => ?_, fun a h => ⟨fun z => ?_, (r2.gh a h).2⟩, r2.tb⟩
  · show (A.al ++ [x]).length = (μ ++ [MC.obj c []]).length
    simp [r.len]
  · show (A.al ++ [x]).Nodup
    rw [List.nodup_append]
    refine ⟨r.nd, by simp, fun a ha b hb => ?_⟩
    rw [List.mem_singleton.mp hb]
    rintro rfl
    exact r.nal hx ha
  · by_cases hi : i < μ.length
    · rw [List.getElem?_append_left hi] at f
      obtain ⟨a, h1, m⟩ := r.at_ i c' f
      obtain ⟨a', h1', m'⟩ := r2.at_ i c' f
      rw [h1] at h1'; cases h1'
      refine ⟨a, x2.at_ h1, m.mono r x2 ?_⟩
      obtain ⟨o, ho⟩ := r.ex (List.mem_of_getElem? h1)
      rw [ho, s2 a o ho]
    · have hi2 : i = μ.length := by
        have := (List.getElem?_eq_some_iff.mp f).1
        simp at this; omega
      subst hi2
      rw [List.getElem?_append_right (Nat.le_refl _)] at f
      simp at f
      subst f
      refine ⟨x, by show (A.al ++ [x])[μ.length]? = some x; rw [← r.len, List.getElem?_append_right (Nat.le_refl _)]; simp, dx, [], upd_same, .nil⟩
  · rcases List.mem_append.mp z with z | z
    · exact (r.gh a h).1 z
    · rw [List.mem_singleton.mp z] at h; exact (r.gh x h).2 (.of hx)
/-- the last changing object let go -/
theorem Rl.pop {K : PySem.W.Frag} {A A' : Ax} {H H' : Hp} {μ : Mu} {o : MC} {a0 : Addr} (r0 : Rl T K A H μ) (n0 : H a0 = none) (x : Ext A H A' H') (r : Rl T K A' H' (μ ++ [o])) :
    Ext A H ⟨A.al, A'.gh⟩ H' ∧ Rl T K ⟨A.al, A'.gh⟩ H' μ ∧ (⟨A.al, A'.gh⟩ : Ax).al = A'.al.take μ.length ∧ (∀ a, (⟨A.al, A'.gh⟩ : Ax).Mt a → A'.Mt a) := by
  have h := r0.cut_ x r (by simp) (fun i c hi f => .inl (by rw [List.getElem?_append_left hi] at f; exact f))
  rw [List.take_left'] at h
  · exact h
  · rfl
@[simp] def tdMake (s : DSp) (t : TDA) : TD := tdCall s t
theorem make_sp {c : Nat} {sI : DSp} (mk : MkD T c sI s) {A A1 : Ax} {H H1 : Hp} {μ1 : Mu} {σ : L2.St} {vs : List V} {ds : List D} {P : D → Mu → Prop} {PX : PX} {Q : VK} (kk : ∀ d μ' A' v H', Ext A H A' H' → Rl T X.K A' H' μ' → Rep T X.K A' H' v d → P d μ' → Q v H') (kx : XOk T X (WE0 E) A H σ PX)
    (x1 : Ext A H A1 H1) (r1 : Rl T X.K A1 H1 μ1) (p1 : Reps T X.K A1 H1 vs ds) (h : s ds μ1 P PX) (x dx : Addr) (hx : H1 x = none) (hd : H1 dx = none) (ne : dx ≠ x) :
    spD T X.K sI (.ref x :: vs) (upd (upd H1 dx (.own x)) x (.ins (T.cls c) dx [])) (fun v H2 => v = .non ∧ Q (.ref x) H2) E := by
  obtain ⟨x2, r2⟩ := r1.pushO (c := c) hx hd ne
  have hxl : (A1.al ++ [x])[μ1.length]? = some x := by rw [← r1.len, List.getElem?_append_right (Nat.le_refl _)]; simp
  refine ⟨_, _, _, _, _, r2, .cons (.mu hxl) (p1.mono r1 x2), mk ds μ1 P PX h, fun d μ' A' v H' x3 r3 p3 h3 => ?_, fun y μ' A' c' q H' x3 r3 p3 h3 => ?_⟩
  · obtain ⟨rfl, fs, rfl, hn, hc, h3⟩ := h3
    cases p3
    refine ⟨rfl, ?_⟩
    have x13 := x2.tr r2 x3
    obtain ⟨x4, r4, e, m⟩ := r1.pop hx x13 r3
    have hx3 := x3.at_ hxl
    obtain ⟨b, hb, dx', ws, h5, h6⟩ := r3.at_ μ1.length (.obj c fs) (by rw [List.getElem?_append_right (Nat.le_refl _)]; simp)
    rw [hx3] at hb; cases hb
    refine kk _ _ _ _ _ (x1.tr r1 x4) r4 (.ins (vs := ws) (by rw [← hn]; exact h5) ?_ (fun z => ?_) (h6.cut_ e m hc)) h3
    · rw [← hn, List.length_map, h6.length, List.length_map]
    · rcases z with z | z
      · exact r1.nal hx z
      · exact (r3.gh x z).1 (List.mem_of_getElem? hx3)
  · obtain ⟨o, rfl, hc, h3⟩ := h3
    have x13 := x2.tr r2 x3
    obtain ⟨x4, r4, e, m⟩ := r1.pop hx x13 r3
    refine kx y μ1 _ c' q H' (x1.tr r1 x4) r4 ⟨p3.1, ?_⟩ h3
    have p32 := p3.2
    cases ef : y.fs with
    | none => rw [ef] at p32; exact p32
    | some ds2 =>
      rw [ef] at p32
      obtain ⟨a, ws, z1, z2, z3, z4, z5⟩ := p32
      exact ⟨a, ws, z1, z2, z3, fun z => z4 (m a z), z5.cut_ e m (hc _ ef)⟩
theorem pd_make {c : Nat} {x : Str} {p : Pos} {sI : DSp} {t : TDA} (M : Mk X.K (T.cls c) f) (F : FD T X.prog X.w X.K X.mg X.base k f sI) (mk : MkD T c sI s) (hr : Room (k + 1) X.A) (hg : Gl X x) (hm : X.mg x = some (.ref (T.cls c))) (hx : Passes (L2.CX X.prog X.w) X E) (ha : PDA T X (WE0 E) (e :: es) t)
    (hd : (x == ("__debug__" : Str)) = false := by decide) (he : starEach (e :: es) X.env = (false, eval e X.env) :: starEach es X.env := by rfl) (hpl : (backTo pos (starEach es X.env)).any (·.1) = false := by rfl) :
    PD T X (WE0 E) (.Call (.Name x p) (e :: es) [] pos) (tdMake s t) := by
  refine ⟨⟨fun pins sh σ H Q I ⟨A, μ, ρ, P, PX, rl, re, h, kk, kx⟩ => ?_⟩⟩
  refine wpAny_Call_Name_kw (ld_glob I hg hm ?_ hd)
  refine PySem.W.callWith_K (h₀ := X.base) I.ok.mod.kin M.kp (thn (ha.run.run pos pins sh σ H (fun vs H1 => ∀ x dx, H1 x = none → H1 dx = none → dx ≠ x → spD T X.K sI (.ref x :: vs) (upd (upd H1 dx (.own x)) x (.ins (T.cls c) dx [])) (fun v H2 => v = .non ∧ Q (.ref x) H2) E) I
    ⟨A, μ, ρ, _, PX, rl, re, h, fun ds μ1 A1 vs H1 x1 r1 p1 h1 => make_sp (σ := σ) mk kk kx x1 r1 p1 h1, kx⟩) fun us s1 ⟨vs, H1, I1, r, q⟩ => ⟨I1.kIn, ?_⟩) he hpl
  exact StX.run_makeR M F hr hx I1 r q
end
end DL

/-! The data layer, 9: operators of own classes; methods of lists and tuples. -/
namespace DL
open PySem PySem.Spec L2

abbrev RX2 := D → D → Mu → (D → Mu → Prop) → PX → Prop
def liftOX (T : Cl) (K : PySem.W.Frag) (E : XK) (rd : RX2) : R2 := fun x y H Q => ∃ A μ d e P PX, Rl T K A H μ ∧ Rep T K A H x d ∧ Rep T K A H y e ∧ rd d e μ P PX ∧
  (∀ d' μ' A' v H', Ext A H A' H' → Rl T K A' H' μ' → Rep T K A' H' v d' → P d' μ' → Q v H') ∧ (∀ z μ' A' c q H', Ext A H A' H' → Rl T K A' H' μ' → XRep T K A' H' z c q → PX z μ' → E c q H')
def OpX (T : Cl) (X : Cx) (E : XK) (f : Value → Value → Sem Value) (rd : RX2) : Prop := OpR X f (liftOX T X.K E rd)
@[simp] def tdOpX (rd : RX2) (ta tb : TD) : TD := fun ρ μ P PX => ta ρ μ (fun x μ1 => tb ρ μ1 (fun y μ2 => rd x y μ2 P PX) PX) PX
section
variable {T : Cl} {X : Cx} {E : XK} {a b e : Expr} {es : List Expr} {ta tb : TD} {pos : Pos} {k c : Nat} {f : Addr} {s : DSp}
theorem opx_lift {rd : RX2} {σ : L2.St} {H : Hp} {Q : VK} (q : lift T X (WE0 E) (tdOpX rd ta tb) σ H Q) : tOp (liftOX T X.K E rd) (lift T X (WE0 E) ta) (lift T X (WE0 E) tb) σ H Q := by
  obtain ⟨A, μ, ρ, P, PX, rl, re, h, kk, kx⟩ := q
  exact ⟨A, μ, ρ, _, PX, rl, re, h, fun x μ1 A1 v1 H1 x1 r1 p1 h1 => ⟨A1, μ1, ρ, _, PX, r1, re.mono rl x1, h1, fun y μ2 A2 v2 H2 x2 r2 p2 h2 =>
    ⟨A2, μ2, x, y, P, PX, r2, p1.mono r1 x2, p2, h2, fun d' μ' A' v H' x3 r3 p3 h3 => kk d' μ' A' v H' ((x1.tr r1 x2).tr r2 x3) r3 p3 h3, fun z μ' A' c q H' x3 r3 p3 h3 => kx z μ' A' c q H' ((x1.tr r1 x2).tr r2 x3) r3 p3 h3⟩, kx.ext x1 r1⟩, kx⟩
theorem pd_opX {op : Operator} {rd : RX2} (ho : OpX T X E (binaryOp op) rd) (ha : PD T X (WE0 E) a ta) (hb : PD T X (WE0 E) b tb) : PD T X (WE0 E) (.BinOp a op b pos) (tdOpX rd ta tb) :=
  ⟨PE.mono (pe_op ho ha.run hb.run) fun _ _ _ => opx_lift⟩
theorem pd_cmpX {op : CmpOp} {rd : RX2} (ho : OpX T X E (compareOp op) rd) (ha : PD T X (WE0 E) a ta) (hb : PD T X (WE0 E) b tb) (hm : behindInMarks op b = false := by first | exact nomark _ | with_unfolding_all rfl) : PD T X (WE0 E) (.Compare a [op] [b] pos) (tdOpX rd ta tb) :=
  ⟨PE.mono (pe_cmpR ho ha.run hb.run hm) fun _ _ _ => opx_lift⟩
theorem pdt_cmpX {op : CmpOp} {rd : RX2} (ho : OpX T X E (compareOp op) rd) (ha : PD T X (WE0 E) a ta) (hb : PD T X (WE0 E) b tb) (hm : behindInMarks op b = false := by first | exact nomark _ | with_unfolding_all rfl) : PDT T X (WE0 E) (.Compare a [op] [b] pos) (tdTest (tdOpX rd ta tb)) := by
  refine ⟨PT.mono (pt_cmpR ho ha.run hb.run hm) fun σ H Q q => ?_⟩
  obtain ⟨A, μ, ρ, P, PX, rl, re, h, kk, kx⟩ := test_lift q
  exact opx_lift ⟨A, μ, ρ, P, PX, rl, re, h, kk, kx⟩

/-! ### the type of a value -/
theorem looks_ty {M : Model} {pins : List (Addr × Obj)} {σ : L2.St} {H : Hp} {sh : Shared} {A : Ax} {μ : Mu} {v : V} {u : Value} {d : D} {t : Tg} (I : Inv X pins σ H sh) (rl : Rl T X.K A H μ) (p : Rep T X.K A H v d) (r : RelV v u) (ht : tgOf μ d = some t) :
    PySem.W.Looks M sh.heap (typeOf u) (tgV T t) := by
  have li : ∀ {a : Addr} {vs : List V}, SqL X.K H a vs → PySem.W.Looks M sh.heap (typeOf (.ref a)) (.type "list") := fun h => by
    obtain ⟨its, _, pl, _⟩ := I.list h
    obtain ⟨o, ho, hc, _⟩ := pl.isList
    exact fun A Q E s k q => wpAny_typeOf ⟨o, k _ _ ho, hc⟩ q
  have ti : ∀ {a : Addr} {vs : List V}, SqT X.K H a vs → PySem.W.Looks M sh.heap (typeOf (.ref a)) (.type "tuple") := fun h => by
    obtain ⟨its, _, pl, _⟩ := I.tuple h
    obtain ⟨o, ho, hc, _⟩ := pl
    exact fun A Q E s k q => wpAny_typeOf ⟨o, k _ _ ho, hc⟩ q
  have ii : ∀ {a C dx : Addr} {fs : List (Str × V)}, H a = some (.ins C dx fs) → PySem.W.Looks M sh.heap (typeOf (.ref a)) (.ref C) := fun h => by
    obtain ⟨mA, O, _⟩ := ins_get I.hok h
    obtain ⟨od, J, _⟩ := O.look
    exact J.type
  cases p with
  | non => cases ht; cases r; exact .of_pure rfl
  | bl b => cases ht; cases r; exact .of_pure rfl
  | int i => cases ht; obtain ⟨t, rfl⟩ := r; exact .of_pure rfl
  | str i => cases ht; obtain ⟨t, rfl⟩ := r; exact .of_pure rfl
  | tup h e q => cases ht; cases r; exact ti (sq_fz h)
  | tupp h q => cases ht; cases r; exact ti (.inl (.inl h))
  | lst h n q => cases ht; cases r; exact li (.of h)
  | ins h l n q => cases ht; cases r; exact ii h
  | @mu a i h =>
    cases r
    have ht : (match μ[i]? with | some (.lst _) => some (.ty "list") | some (.obj c _) => some (.cl c) | _ => none) = some t := ht
    split at ht
    · rename_i xs e2
      cases ht
      obtain ⟨vs, h1, _⟩ := rl.mutLst h e2
      exact li (.of h1)
    · rename_i c fs e2
      cases ht
      obtain ⟨b', hb', m⟩ := rl.at_ i _ e2
      rw [h] at hb'; cases hb'
      obtain ⟨dx, vs, h1, _⟩ := m
      exact ii h1
    · cases ht
  | _ => cases ht
theorem ins_view {pins : List (Addr × Obj)} {σ : L2.St} {H : Hp} {sh : Shared} {A : Ax} {v : V} {ds : List D} (I : Inv X pins σ H sh) (p : Rep T X.K A H v (.ins c ds)) : ∃ a ox od, v = .ref a ∧ PySem.W.InstAt sh.heap a ox (T.cls c) od ∧ ox.data = .plain := by
  cases p with
  | ins h l n q =>
    obtain ⟨mA, O, _⟩ := ins_get I.hok h
    obtain ⟨od, J, _⟩ := O.look
    exact ⟨_, _, _, rfl, J, rfl⟩

/-! ### x == y by an own __eq__; x + y by an own __add__ -/
/-- the promise asked where the left one is an object of the class c, the right one of a type that is let -/
@[simp] def rxOwn (c : Nat) (ok : Tg → Bool) (s : DSp) : RX2 := fun x y μ P PX => match x with
  | .ins c' ds => c' = c ∧ (match tgOf μ y with | some t => ok t = true | none => False) ∧ s [.ins c ds, y] μ P PX
  | _ => False
theorem run_own {pins : List (Addr × Obj)} {σ : L2.St} {H : Hp} {sh : Shared} {A : Ax} {μ : Mu} {vs : List V} {us : List Value} {ds : List D} {P : D → Mu → Prop} {PX : PX} {Q : VK} (F : FD T X.prog X.w X.K X.mg X.base k f s) (hr : Room k X.A) (hx : Passes (L2.CX X.prog X.w) X E) (I : Inv X pins σ H sh) (rl : Rl T X.K A H μ)
    (p : Reps T X.K A H vs ds) (r : Vals vs us) (h : s ds μ P PX) (kv : ∀ d' μ' A' v H', Ext A H A' H' → Rl T X.K A' H' μ' → Rep T X.K A' H' v d' → P d' μ' → Q v H')
    (kx : ∀ z μ' A' c q H', Ext A H A' H' → Rl T X.K A' H' μ' → XRep T X.K A' H' z c q → PX z μ' → E c q H') : wpAny (model X.prog X.w) X.A (call (.ref f) us) (EP X pins σ Q) X.xe sh :=
  wpAny_call (run_fnR F hr hx I r ⟨A, μ, ds, P, PX, rl, p, h, kv, kx⟩)
theorem ox_ownCmp {op : CmpOp} {ok : Tg → Bool} (hop : ∀ a b, compareOp op a b = richCompare op a b) (hs : PySem.W.findIn X.K (.ref (T.cls c)) (cmpInfo op).2.1 = some (some (.ref f))) (hf : PySem.W.isFn X.K (.ref f) = true) (hok : ∀ t, ok t = true → PySem.W.notFirst X.K (T.cls c) (tgV T t) = true)
    (F : FD T X.prog X.w X.K X.mg X.base k f s) (hr : Room k X.A) (hx : Passes (L2.CX X.prog X.w) X E) : OpX T X E (compareOp op) (rxOwn c ok s) := by
  intro pins sh σ H x y v u Q I rx ry ⟨A, μ, d, e, P, PX, rl, px, py, q, kv, kx⟩
  cases d with
  | ins c' ds =>
    obtain ⟨rfl, ho, q⟩ := q
    cases et : tgOf μ e with
    | none => rw [et] at ho; exact ho.elim
    | some t =>
      rw [et] at ho
      obtain ⟨a, ox, od, rfl, J, _⟩ := ins_view I px
      cases rx
      obtain ⟨m, hF⟩ := I.fr
      rw [hop]
      refine PySem.W.cmp_K (op := op) hr.units0 hF I.ok.mod.kin J (looks_ty I rl py ry et) (hok t ho) hs hf ?_
      refine wpAny_mono (run_own (Q := Q) F hr hx I rl (.cons px (.cons py .nil)) (.cons rfl (.cons ry .nil)) q kv kx) (fun w s' z => ?_) fun _ _ x => x
      obtain ⟨z', H', I', rz, qz⟩ := z
      exact SlX.cmpback rz ⟨z', H', I', rz, qz⟩
  | _ => exact q.elim
/-- the other operand of the same class -/
@[simp] def rxBin (c : Nat) (s : DSp) : RX2 := fun x y μ P PX => match x, y with
  | .ins c' ds, .ins c2 es => c' = c ∧ c2 = c ∧ s [.ins c ds, .ins c es] μ P PX
  | _, _ => False
theorem ox_bin {op : Operator} (hc : PySem.W.selfFirst X.K (T.cls c) = true) (hs : PySem.W.findIn X.K (.ref (T.cls c)) (PySem.dunder op.info.2) = some (some (.ref f))) (hf : PySem.W.isFn X.K (.ref f) = true)
    (F : FD T X.prog X.w X.K X.mg X.base k f s) (hr : Room k X.A) (hx : Passes (L2.CX X.prog X.w) X E) : OpX T X E (binaryOp op) (rxBin c s) := by
  intro pins sh σ H x y v u Q I rx ry ⟨A, μ, d, e, P, PX, rl, px, py, q, kv, kx⟩
  cases d with
  | ins c' ds =>
    cases e with
    | ins c2 es =>
      obtain ⟨rfl, rfl, q⟩ := q
      obtain ⟨a, ox, od, rfl, J, _⟩ := ins_view I px
      obtain ⟨b, ox2, od2, rfl, J2, _⟩ := ins_view I py
      cases rx
      cases ry
      obtain ⟨m, hF⟩ := I.fr
      refine PySem.W.binop_K (op := op) hF I.ok.mod.kin J J2.type hc hs hf ?_
      refine wpAny_mono (run_own (Q := Q) F hr hx I rl (.cons px (.cons py .nil)) (.cons rfl (.cons rfl .nil)) q kv kx) (fun w s' z => ?_) fun _ _ x => x
      obtain ⟨z', H', I', rz, qz⟩ := z
      exact SlX.cmpback rz ⟨z', H', I', rz, qz⟩
    | _ => exact q.elim
  | _ => exact q.elim
/-- the other operand an int -/
@[simp] def rxBinI (c : Nat) (s : DSp) : RX2 := fun x y μ P PX => match x, y with
  | .ins c' ds, .int i => c' = c ∧ s [.ins c ds, .int i] μ P PX
  | _, _ => False
theorem ox_binI {op : Operator} {fo ro rc : Option Value} (hc : PySem.W.selfFirst X.K (T.cls c) = true) (hs : PySem.W.findIn X.K (.ref (T.cls c)) (PySem.dunder op.info.2) = some (some (.ref f))) (hf : PySem.W.isFn X.K (.ref f) = true)
    (h0 : PySem.W.findIn X.K (.ref (T.cls c)) (dunderR op.info.2) = some rc) (hp : rc = none ∨ ∃ g : Addr, rc = some (.ref g)) (h1 : PySem.W.findIn X.K (.type "int") (PySem.dunder op.info.2) = some fo) (h2 : PySem.W.findIn X.K (.type "int") (dunderR op.info.2) = some ro)
    (hsub : PySem.W.subIn X.K (.type "int") (.ref (T.cls c)) = some false)
    (F : FD T X.prog X.w X.K X.mg X.base k f s) (hr : Room k X.A) (hx : Passes (L2.CX X.prog X.w) X E) : OpX T X E (binaryOp op) (rxBinI c s) := by
  intro pins sh σ H x y v u Q I rx ry ⟨A, μ, d, e, P, PX, rl, px, py, q, kv, kx⟩
  cases d with
  | ins c' ds =>
    cases py with
    | int i =>
      obtain ⟨rfl, q⟩ := q
      obtain ⟨a, ox, od, rfl, J, _⟩ := ins_view I px
      cases rx
      obtain ⟨m, hF⟩ := I.fr
      obtain ⟨tk, rfl⟩ := ry
      refine PySem.W.ksp_binT (T := "int") (op := op) hF I.ok.mod.kin J rfl hc hs hf h0 hp h1 h2 hsub ?_
      refine wpAny_mono (run_own (Q := Q) F hr hx I rl (.cons px (.cons (.int i) .nil)) (.cons rfl (.cons ⟨tk, rfl⟩ .nil)) q kv kx) (fun w s' z => ?_) fun _ _ x => x
      obtain ⟨z', H', I', rz, qz⟩ := z
      exact SlX.cmpback rz ⟨z', H', I', rz, qz⟩
    | _ => exact q.elim
  | _ => exact q.elim
/-- x in o by an own __contains__ that gives a bool -/
@[simp] def rxIn (c : Nat) (s : DSp) : RX2 := fun x y μ P PX => match y with
  | .ins c' ds => c' = c ∧ s [.ins c ds, x] μ (fun d μ' => match d with | .bl b => P (.bl b) μ' | _ => False) PX
  | _ => False
theorem ox_in (hs : PySem.W.findIn X.K (.ref (T.cls c)) "__contains__" = some (some (.ref f))) (hf : PySem.W.isFn X.K (.ref f) = true)
    (F : FD T X.prog X.w X.K X.mg X.base k f s) (hr : Room k X.A) (hx : Passes (L2.CX X.prog X.w) X E) : OpX T X E (compareOp .In) (rxIn c s) := by
  intro pins sh σ H x y v u Q I rx ry ⟨A, μ, d, e, P, PX, rl, px, py, q, kv, kx⟩
  cases e with
  | ins c' ds =>
    obtain ⟨rfl, q⟩ := q
    obtain ⟨a, ox, od, rfl, J, _⟩ := ins_view I py
    cases ry
    obtain ⟨m, hF⟩ := I.fr
    refine PySem.W.in_K hF I.ok.mod.kin J hs hf ?_
    refine wpAny_mono (run_own (Q := fun z H' => ∃ b, z = .bl b ∧ Q (.bl b) H') F hr hx I rl (.cons py (.cons px .nil)) (.cons rfl (.cons rx .nil)) q (fun d' μ' A' v' H' x1 r1 p1 h1 => ?_) kx) (fun w s' z => ?_) fun _ _ x => x
    · cases p1 with
      | bl b => exact ⟨b, rfl, kv _ _ _ _ _ x1 r1 (.bl b) h1⟩
      | _ => exact h1.elim
    · obtain ⟨z', H', I', rz, b, rfl, qz⟩ := z
      cases rz
      exact wpAny_truthy_bool ⟨.bl b, _, I', rfl, qz⟩
  | _ => exact q.elim
/-- len(o) by an own __len__ -/
@[simp] def rdLenO (c : Nat) (s : DSp) : RDC := fun ds μ P => match ds with
  | [.ins c' xs] => c' = c ∧ s [.ins c xs] μ (fun d μ' => match d with | .int n => 0 ≤ n ∧ n < 2 ^ 63 ∧ P (.int n) μ' | _ => False) (fun _ _ => False)
  | _ => False
theorem cd_lenO (hs : PySem.W.findIn X.K (.ref (T.cls c)) "__len__" = some (some (.ref f))) (hf : PySem.W.isFn X.K (.ref f) = true) (F : FD T X.prog X.w X.K X.mg X.base k f s) (hr : Room (k + 1) X.A) : CallD T X (.builtin "len") (rdLenO c s) := by
  intro pins sh σ H vs us Q I r ⟨A, μ, ds, P, rl, pv, q, kv⟩
  unfold rdLenO at q
  split at q
  · rename_i c' xs
    obtain ⟨rfl, q⟩ := q
    obtain ⟨v, rfl, r1⟩ := reps1 pv
    obtain ⟨a, ox, od, rfl, J, _⟩ := ins_view I r1
    obtain ⟨u, rfl, ru⟩ := vals1 r
    cases ru
    obtain ⟨m, hF⟩ := I.fr
    refine PySem.W.len_K hF I.ok.mod.kin J hs hf (wpAny_mono (wpAny_call (SlX.run_at (us := [.ref a]) (ws := [.ref a]) (Q := fun z H' => ∃ n : Int, z = .int n ∧ (0 ≤ n ∧ n < 2 ^ 63) ∧ Q (.int n) H') F hr.in1 I.env0.in1 passL I (.cons rfl .nil) ⟨A, μ, _, _, _, rl, .cons r1 .nil, q, fun d' μ' A' v' H' x1 r1 p1 h1 => ?_, fun _ _ _ _ _ _ _ _ _ z => z.elim⟩)) (fun w s' z => ?_) fun _ _ x => x)
    · cases p1 with
      | int n => exact ⟨n, rfl, ⟨h1.1, h1.2.1⟩, kv _ _ _ _ _ x1 r1 (.int n) h1.2.2⟩
      | _ => exact h1.elim
    · obtain ⟨z', H', I', rz, n, rfl, hn, qz⟩ := z
      obtain ⟨tk, rfl⟩ := rz
      exact ⟨hn, ⟨.int n, H', I'.tok _, ⟨_, rfl⟩, qz⟩⟩
  · exact q.elim
end

/-! ### methods of built-in types -/
section
variable {T : Cl} {X : Cx} {W : WX} {o e : Expr} {es : List Expr} {to : TD} {t : TDA} {apos cpos : Pos}
/-- xs.pop(i), xs.append(e) of a changing list -/
@[simp] def tdPopAt (to : TD) (t : TDA) : TD := fun ρ μ P PX => to ρ μ (fun x μ1 => match x with
  | .mu m => (∃ xs, μ1[m]? = some (.lst xs)) ∧ t ρ μ1 (fun ds μ2 => match ds with
    | [.int i] => match μ2[m]? with
      | some (.lst xs) => -(2 ^ 63) ≤ i ∧ i < 2 ^ 63 ∧ match seqIndex? i xs.length with
        | some k => match xs[k]? with
          | some y => P y (μ2.set m (.lst (xs.eraseIdx k)))
          | none => False
        | none => False
      | _ => False
    | _ => False) PX
  | _ => False) PX
theorem pd_popAt (ho : PD T X W o to) (ha : PDA T X W (e :: es) t) (hbase : attributeBase o "pop" X.env (eval o X.env) = eval o X.env := by rfl)
    (hfew : ((backTo cpos (starEach (e :: es) X.env)).all (fun x => !x.1) && (backToKw cpos (keywordEach [] X.env)).all (fun x => x.1.isSome)
      && decide ((e :: es).length + ([] : List Keyword).length + (if ([] : List Keyword).isEmpty then 0 else 1) < 30)) = true := by rfl)
    (hline : (apos.endLine == cpos.line) = true := by rfl) (hs : starEach (e :: es) X.env = (false, eval e X.env) :: starEach es X.env := by rfl) (hplain : (backTo cpos (starEach es X.env)).any (·.1) = false := by rfl) :
    PD T X W (.Call (.Attribute o "pop" apos) (e :: es) [] cpos) (tdPopAt to t) :=
  ⟨PE.mono (pe_bm PySem.F.plainAttrs_list PySem.F.slot_list_pop PySem.F.type_list_pop mt_popAt ho.run ha.run hbase hfew hline hs hplain) fun σ H Q ⟨A, μ, ρ, P, PX, rl, re, h, kk, kx⟩ => ⟨A, μ, ρ, _, PX, rl, re, h, fun x μ1 A1 v H1 x1 r1 p1 h1 => by
    cases x with
    | mu m =>
      obtain ⟨⟨xs0, hm0⟩, h1⟩ := h1
      cases p1 with
      | @mu a _ ea =>
        obtain ⟨vs0, h2, h3⟩ := r1.mutLst ea hm0
        refine ⟨.inl ⟨rfl, _, SqL.of h2⟩, A1, μ1, ρ, _, PX, r1, re.mono rl x1, h1, fun ds μ2 A2 ws H2 x2 r2 p2 h4 => ?_, kx.ext x1 r1⟩
        split at h4
        · rename_i i
          obtain ⟨w, rfl, pi⟩ := reps1 p2
          cases pi
          split at h4
          · rename_i xs hm
            obtain ⟨b1, b2, h4⟩ := h4
            split at h4
            · rename_i k hk
              split at h4
              · rename_i y hy
                have ea2 := x2.at_ ea
                obtain ⟨vs, h5, h6⟩ := r2.mutLst ea2 hm
                obtain ⟨vy, h7, h8⟩ := h6.get hy
                have q : Reps T X.K A2 H2 (vs.eraseIdx k) (xs.eraseIdx k) := by
                  rw [List.eraseIdx_eq_take_drop_succ, List.eraseIdx_eq_take_drop_succ]
                  exact (h6.take k).append (h6.drop (k + 1))
                obtain ⟨x3, r3⟩ := r2.put ea2 hm q
                exact ⟨a, vs, i, k, vy, rfl, rfl, h5, b1, b2, by rw [h6.length]; exact hk, h7, kk _ _ _ _ _ ((x1.tr r1 x2).tr r2 x3) r3 (h8.mono r2 x3) h4⟩
              · exact h4.elim
            · exact h4.elim
          · exact h4.elim
        · exact h4.elim
    | _ => exact h1.elim, kx⟩⟩
@[simp] def tdAppend (to : TD) (t : TDA) : TD := fun ρ μ P PX => to ρ μ (fun x μ1 => match x with
  | .mu m => (∃ xs, μ1[m]? = some (.lst xs)) ∧ t ρ μ1 (fun ds μ2 => match ds with
    | [d] => match μ2[m]? with
      | some (.lst xs) => xs.length < sizeLine ∧ P .non (μ2.set m (.lst (xs ++ [d])))
      | _ => False
    | _ => False) PX
  | _ => False) PX
theorem pd_append (ho : PD T X W o to) (ha : PDA T X W (e :: es) t) (hbase : attributeBase o "append" X.env (eval o X.env) = eval o X.env := by rfl)
    (hfew : ((backTo cpos (starEach (e :: es) X.env)).all (fun x => !x.1) && (backToKw cpos (keywordEach [] X.env)).all (fun x => x.1.isSome)
      && decide ((e :: es).length + ([] : List Keyword).length + (if ([] : List Keyword).isEmpty then 0 else 1) < 30)) = true := by rfl)
    (hline : (apos.endLine == cpos.line) = true := by rfl) (hs : starEach (e :: es) X.env = (false, eval e X.env) :: starEach es X.env := by rfl) (hplain : (backTo cpos (starEach es X.env)).any (·.1) = false := by rfl) :
    PD T X W (.Call (.Attribute o "append" apos) (e :: es) [] cpos) (tdAppend to t) :=
  ⟨PE.mono (pe_bm PySem.F.plainAttrs_list PySem.F.slot_list_append PySem.F.type_list_append mt_append ho.run ha.run hbase hfew hline hs hplain) fun σ H Q ⟨A, μ, ρ, P, PX, rl, re, h, kk, kx⟩ => ⟨A, μ, ρ, _, PX, rl, re, h, fun x μ1 A1 v H1 x1 r1 p1 h1 => by
    cases x with
    | mu m =>
      obtain ⟨⟨xs0, hm0⟩, h1⟩ := h1
      cases p1 with
      | @mu a _ ea =>
        obtain ⟨vs0, h2, h3⟩ := r1.mutLst ea hm0
        refine ⟨.inl ⟨rfl, _, SqL.of h2⟩, A1, μ1, ρ, _, PX, r1, re.mono rl x1, h1, fun ds μ2 A2 ws H2 x2 r2 p2 h4 => ?_, kx.ext x1 r1⟩
        split at h4
        · obtain ⟨w, rfl, pi⟩ := reps1 p2
          split at h4
          · rename_i xs hm
            have ea2 := x2.at_ ea
            obtain ⟨vs, h5, h6⟩ := r2.mutLst ea2 hm
            obtain ⟨x3, r3⟩ := r2.put ea2 hm (h6.append (.cons pi .nil))
            exact ⟨a, vs, w, rfl, rfl, h5, by rw [h6.length]; exact h4.1, kk _ _ _ _ _ ((x1.tr r1 x2).tr r2 x3) r3 .non h4.2⟩
          · exact h4.elim
        · exact h4.elim
    | _ => exact h1.elim, kx⟩⟩
end
end DL

/-! The data layer: zip of two sequences, lists or tuples. -/
namespace DL
open PySem PySem.Spec L2 PyProof.Rows

/-- true: a list; false: a tuple -/
def SqB (K : PySem.W.Frag) (b : Bool) (H : Hp) (a : Addr) (xs : List V) : Prop := match b with
  | true => SqL K H a xs
  | false => SqT K H a xs
def IsB (b : Bool) (h : Heap) (a : Addr) (its : Array Value) : Prop := match b with
  | true => h.IsList a its
  | false => h.IsTuple a its
def ItB (b : Bool) (h : Heap) (it a : Addr) (i : Nat) : Prop := match b with
  | true => h.IsListIter it a i
  | false => h.IsTupleIter it a i
def itO (b : Bool) (a : Addr) : Obj := match b with
  | true => { cls := .type "list_iterator", data := .fields #[.ref a, .int 0 0] }
  | false => { cls := .type "tuple_iterator", data := .fields #[.ref a, .int 0 0] }
section
variable {X : Cx} {pins : List (Addr × Obj)} {σ : L2.St} {H : Hp} {s : Shared}
theorem SqB.see {b : Bool} {a : Addr} {xs : List V} (I : Inv X pins σ H s) (h : SqB X.K b H a xs) : ∃ its, Vals xs its ∧ IsB b s.heap a its.toArray := by
  cases b with
  | true => obtain ⟨its, r, p, _⟩ := I.list h; exact ⟨its, r, p.isList⟩
  | false => obtain ⟨its, r, p, _⟩ := I.tuple h; exact ⟨its, r, p⟩
theorem SqB.inj {b : Bool} {a : Addr} {xs ys : List V} (I : Inv X pins σ H s) (h : SqB X.K b H a xs) (h' : SqB X.K b H a ys) : xs = ys := by
  cases b with
  | true => exact I.list_inj h h'
  | false => exact I.tuple_inj h h'
end
theorem IsB.lt {b : Bool} {h : Heap} {a : Addr} {its : Array Value} (q : IsB b h a its) : a < h.objs.size := by
  cases b with
  | true => obtain ⟨o, e, _⟩ := q; exact Heap.lt_size e
  | false => obtain ⟨o, e, _⟩ := q; exact Heap.lt_size e
theorem ItB.lt {b : Bool} {h : Heap} {it a : Addr} {i : Nat} (q : ItB b h it a i) : it < h.objs.size := by
  cases b with
  | true => obtain ⟨o, e, _⟩ := q; exact Heap.lt_size e
  | false => obtain ⟨o, e, _⟩ := q; exact Heap.lt_size e
theorem ItB.at_ {b : Bool} {h h' : Heap} {it a : Addr} {i : Nat} (q : ItB b h it a i) (k : ∀ o, h.get? it = some o → h'.get? it = some o) : ItB b h' it a i := by
  cases b with
  | true => exact PySem.Heap.IsListIter.at q k
  | false => exact PySem.Heap.IsTupleIter.at q k
theorem ItB.get {b : Bool} {h : Heap} {it a : Addr} {i : Nat} (q : ItB b h it a i) : ∃ o, h.get? it = some o ∧ ∀ v, o.data ≠ .cell v := by
  cases b with
  | true => obtain ⟨o, e, _, d⟩ := q; exact ⟨o, e, fun v z => by rw [d] at z; cases z⟩
  | false => obtain ⟨o, e, _, d⟩ := q; exact ⟨o, e, fun v z => by rw [d] at z; cases z⟩
theorem drawsB {prog : Program} {w : World} {A : Around} (hh : A.handled = none) (b : Bool) (it l : Addr) (hne : l ≠ it) (its : Array Value) :
    Draws prog w A it [it, l] its.size (fun i v => its[i]? = some v) (fun i h => ItB b h it l i ∧ IsB b h l its) := by
  cases b with
  | true => exact Draws.list hh it l hne its
  | false => exact Draws.tuple hh it l hne its
theorem beginsB (b : Bool) (l : Addr) (its : Array Value) : Begins (.ref l) (itO b l) fun h => IsB b h l its := by
  cases b with
  | true => exact begins_list l its
  | false => exact begins_tuple l its
theorem itB0 {b : Bool} {h : Heap} {it a : Addr} (e : h.get? it = some (itO b a)) : ItB b h it a 0 := by
  cases b with
  | true => exact ⟨_, e, rfl, rfl⟩
  | false => exact ⟨_, e, rfl, rfl⟩

/-- both as they stand at each turn, the items in new pairs -/
def ItzB (K : PySem.W.Frag) (k l : Bool) (a b : Addr) : It :=
  ⟨fun i H => ∃ (xs ys : List V), SqB K k H a xs ∧ SqB K l H b ys ∧ i < xs.length ∧ i < ys.length,
    fun i H v H' => ∃ T x y, v = .ref T ∧ H T = none ∧ H' = upd H T (.tup [x, y]) ∧ (∀ xs, SqB K k H a xs → xs[i]? = some x) ∧ ∀ ys, SqB K l H b ys → ys[i]? = some y,
    fun i H => ∃ xs ys : List V, SqB K k H a xs ∧ SqB K l H b ys ∧ i ≤ xs.length ∧ i ≤ ys.length ∧ (i = xs.length ∨ i = ys.length)⟩
theorem turn_zipB {P : Program} {w : World} {K : PySem.W.Frag} {elts : List Expr} {kk : Nat} {tpos : Pos} {k l : Bool} {a b z TI TO i1 i2 : Addr} (S : ZipSep2 z TI TO i1 i2 [i1, a] [i2, b]) (na : a ≠ i1) (nb : b ≠ i2) :
    Turn P w K (.Tuple elts kk tpos) (ItzB K k l a b) [z, TI, TO, i1, i2] z (fun i h => IsZip h z TI TO .none ∧ IsTupOf2 h TI (.ref i1) (.ref i2) ∧ (∃ x y, IsTupOf2 h TO x y) ∧ ItB k h i1 a i ∧ ItB l h i2 b i) where
  mem := by simp
  obj := fun i h st c hc => by
    obtain ⟨hz, hTI, ⟨x, y, hTO⟩, h1, h2⟩ := st
    have e' : c = z ∨ c = TI ∨ c = TO ∨ c = i1 ∨ c = i2 := by simpa using hc
    rcases e' with q | q | q | q | q
    · rw [q]; exact ⟨_, hz, fun v q => nomatch q⟩
    · rw [q]; exact ⟨_, hTI, fun v q => nomatch q⟩
    · rw [q]; exact ⟨_, hTO, fun v q => nomatch q⟩
    · rw [q]; exact h1.get
    · rw [q]; exact h2.get
  keep := fun i h h' st k => by
    obtain ⟨hz, hTI, ⟨x, y, hTO⟩, h1, h2⟩ := st
    exact ⟨k z (by simp) _ hz, k TI (by simp) _ hTI, ⟨x, y, k TO (by simp) _ hTO⟩, h1.at_ fun o q => k i1 (by simp) o q, h2.at_ fun o q => k i2 (by simp) o q⟩
  item := by
    intro X hP hw hK hc i pins s σ H E I hf st hg
    subst hP hw hK
    obtain ⟨hz, hTI, ⟨x0, y0, hTO⟩, h1, h2⟩ := st
    obtain ⟨xs, ys, hqx, hqy, hx, hy⟩ := hg
    obtain ⟨its, rv, p⟩ := hqx.see I
    obtain ⟨its2, rv2, p2⟩ := hqy.see I
    have hzl : z < s.heap.objs.size := Heap.lt_size hz
    have D1 := drawsB (prog := X.prog) (w := X.w) (A := X.A.in1) (I.ok.hd hc) k i1 a na its.toArray
    have D2 := drawsB (prog := X.prog) (w := X.w) (A := X.A.in1) (I.ok.hd hc) l i2 b nb its2.toArray
    refine wpAny_pyNext_zipD2_item S D1 D2 hz hTI hTO ⟨h1, p⟩ ⟨h2, p2⟩ (by simpa [← rv.length] using hx) (by simpa [← rv2.length] using hy) fun u u2 h' tk e1 e2 z' TO' st1 st2 hT hsz hk => ?_
    refine ⟨_, rfl, wpAny_letOwnedTupleGo_zip (s := { s with heap := h', toks := tk }) z' fun h'' z'' sb => ?_⟩
    have hT2 : h''.get? s.heap.objs.size = some { cls := .type "tuple", data := .seq #[u, u2] } := (sb.2 _ (Nat.ne_of_gt hzl)).trans hT
    have e1 : its[i]? = some u := by simpa using e1
    have e2 : its2[i]? = some u2 := by simpa using e2
    have hx1 : xs[i]? = some xs[i] := List.getElem?_eq_getElem hx
    have hy1 : ys[i]? = some ys[i] := List.getElem?_eq_getElem hy
    obtain ⟨u', e1', ru⟩ := rv.get hx1
    obtain ⟨u2', e2', ru2⟩ := rv2.get hy1
    rw [e1] at e1'; cases e1'
    rw [e2] at e2'; cases e2'
    generalize xs[i] = x at hx1 ru
    generalize ys[i] = y at hy1 ru2
    have new : ObjOk X.prog X.w (upd H s.heap.objs.size (.tup [x, y])) h'' s.heap.objs.size (.tup [x, y]) :=
      ⟨by show 2 ≤ sizeLine; decide, [u, u2], .cons ru (.cons ru2 .nil), ⟨_, hT2, rfl, _, rfl⟩⟩
    have I1 : Inv X pins σ (upd H s.heap.objs.size (.tup [x, y])) { s with heap := h'', toks := tk } :=
      I.turnedNew (t' := tk) (ch := [z, TI, TO, i1, i2]) (fun c o hb q => (sb.2 c (fun q' => hb (by simp [q']))).trans (hk c o (fun q' => hb (by simp [q'])) (fun q' => hb (by simp [q'])) (fun q' => hb (by simp [q'])) (fun q' => hb (by simp [q'])) q)) hf (Nat.le_refl _) new
    refine ⟨.ref s.heap.objs.size, _, I1, rfl, ⟨_, x, y, rfl, I.hok.fresh (Nat.le_refl _), rfl, fun l hl => by rw [hl.inj I hqx]; exact hx1, fun l hl => by rw [hl.inj I hqy]; exact hy1⟩, ⟨z'', ?_, ⟨u, u2, ?_⟩, ?_, ?_⟩, fun c hcm => ?_⟩
    · exact (sb.2 _ S.TIz).trans (hk _ _ S.TIz S.TITO S.TIi1 S.TIi2 hTI)
    · exact (sb.2 _ S.TOz).trans TO'
    · exact st1.1.at_ fun o q => (sb.2 _ S.zi1.symm).trans q
    · exact st2.1.at_ fun o q => (sb.2 _ S.zi2.symm).trans q
    · have hlt : c < s.heap.objs.size := by
        have e' : c = z ∨ c = TI ∨ c = TO ∨ c = i1 ∨ c = i2 := by simpa using hcm
        rcases e' with q | q | q | q | q
        · rw [q]; exact hzl
        · rw [q]; exact Heap.lt_size hTI
        · rw [q]; exact Heap.lt_size hTO
        · rw [q]; exact h1.lt
        · rw [q]; exact h2.lt
      rw [upd_ne (Nat.ne_of_lt hlt)]
      exact (hf c hcm).1
  done := by
    intro X hP hw hK hc i pins s σ H E I hf st hg
    subst hP hw hK
    obtain ⟨hz, hTI, ⟨x0, y0, hTO⟩, h1, h2⟩ := st
    obtain ⟨xs, ys, hqx, hqy, hx, hy, he⟩ := hg
    obtain ⟨its, rv, p⟩ := hqx.see I
    obtain ⟨its2, rv2, p2⟩ := hqy.see I
    have D1 := drawsB (prog := X.prog) (w := X.w) (A := X.A.in1) (I.ok.hd hc) k i1 a na its.toArray
    have D2 := drawsB (prog := X.prog) (w := X.w) (A := X.A.in1) (I.ok.hd hc) l i2 b nb its2.toArray
    refine wpAny_pyNext_zipD2_end S D1 D2 hz hTI hTO ⟨h1, p⟩ ⟨h2, p2⟩ (by simpa [← rv.length] using hx) (by simpa [← rv2.length] using hy) (by simpa [← rv.length, ← rv2.length] using he) fun h' tk hk => ⟨rfl, I.turnedL (t' := tk) (ch := [z, TI, TO, i1, i2]) (fun c o hb q =>
      hk c o (fun q' => hb (by simp [q'])) (fun q' => hb (by simp [q'])) (fun q' => hb (by simp [q'])) (fun q' => hb (by simp [q'])) q) hf⟩
  self := fun A i s Q E st h => wpAny_pyIter_zip st.1 h

theorem walk_zipB {K : PySem.W.Frag} {k l : Bool} {a b : Addr} {xs ys : List V} : Walk (ItzB K k l a b) (min xs.length ys.length) (fun H => SqB K k H a xs ∧ SqB K l H b ys) (YPair (fun i => xs[i]?) (fun i => ys[i]?)) := by
  refine ⟨fun i _ hi q => ⟨xs, ys, q.1, q.2, by omega, by omega⟩, fun _ q => ⟨xs, ys, q.1, q.2, by omega, by omega, by omega⟩, fun i H v H' _ q y => ?_⟩
  obtain ⟨T, x, z, h1, h2, h3, h4, h5⟩ := y
  exact ⟨T, x, z, h1, h2, h3, h4 xs q.1, h5 ys q.2⟩
@[simp] def seqB : D → Option (Bool × List D)
  | .lst xs => some (true, xs)
  | .scr xs => some (true, xs)
  | .tup xs => some (false, xs)
  | .tupw xs => some (false, xs)
  | .tupp xs => some (false, xs)
  | _ => none
section
variable {T : Cl} {X : Cx} {W : WX} {a b e tg : Expr} {es : List Expr} {pos : Pos}
theorem seqB_view {K : PySem.W.Frag} {A : Ax} {H : Hp} {v : V} {d : D} {b : Bool} {xs : List D} (r : Rep T K A H v d) (h : seqB d = some (b, xs)) :
    ∃ a vs, v = .ref a ∧ SqB K b H a vs ∧ Reps T K A H vs xs ∧ ∀ μ A' H', Rl T K A H μ → Ext A H A' H' → SqB K b H' a vs := by
  cases r with
  | @lst a vs ds e n q1 =>
    cases h
    exact ⟨a, vs, rfl, .of e, q1, fun μ A' H' r x2 => .of (x2.keep _ _ (fun z => n (.inl z)) nofun e)⟩
  | @scr a vs ds e q1 =>
    cases h
    have hs : SqL K H a vs := e.sq
    refine ⟨a, vs, rfl, hs, q1, fun μ A' H' r x2 => ?_⟩
    rcases e with ⟨o, e⟩ | e | ⟨e, n⟩
    · exact .inl (.inr ⟨o, x2.keep _ _ (r.nfrz e) nofun e⟩)
    · exact .inr e
    · exact .of (x2.keep _ _ (fun z => n (.inl z)) nofun e)
  | @tup a o vs ds e n q1 =>
    cases h
    exact ⟨a, vs, rfl, .inl (.inr ⟨o, e⟩), q1, fun μ A' H' r x2 => .inl (.inr ⟨o, x2.keep _ _ (r.nfrz e) nofun e⟩)⟩
  | @tupp a vs ds e q1 =>
    cases h
    exact ⟨a, vs, rfl, .inl (.inl e), q1, fun μ A' H' r x2 => .inl (.inl (x2.keep _ _ (r.ntup e) nofun e))⟩
  | @tupw a vs ds h2 q1 =>
    cases h
    refine ⟨a, vs, rfl, h2, q1, fun μ A' H' r x2 => ?_⟩
    rcases h2 with (h2 | ⟨o, h2⟩) | h2
    · exact .inl (.inl (x2.keep _ _ (r.ntup h2) nofun h2))
    · exact .inl (.inr ⟨o, x2.keep _ _ (r.nfrz h2) nofun h2⟩)
    · exact .inr h2
  | _ => cases h
/-- pairs -/
def zipD : List D → List D → List D
  | x :: xs, y :: ys => .tupw [x, y] :: zipD xs ys
  | _, _ => []
theorem zipD_length : ∀ (xs ys : List D), (zipD xs ys).length = min xs.length ys.length
  | [], _ => by simp [zipD]
  | _ :: _, [] => by simp [zipD]
  | x :: xs, y :: ys => by simp [zipD, zipD_length xs ys]
theorem zipD_get : ∀ {xs ys : List D} {i : Nat} {x y : D}, xs[i]? = some x → ys[i]? = some y → (zipD xs ys)[i]? = some (.tupw [x, y])
  | x :: xs, y :: ys, 0, _, _, h, h' => by simp at h h'; subst h h'; rfl
  | x :: xs, y :: ys, i + 1, _, _, h, h' => by simpa [zipD] using zipD_get (xs := xs) (ys := ys) (i := i) (by simpa using h) (by simpa using h')
  | [], _, _, _, _, h, _ => by simp at h
  | _ :: _, [], _, _, _, _, h => by simp at h
theorem zipD_ints : ∀ (as bs : List Int), zipD (as.map D.int) (bs.map D.int) = (as.zip bs).map fun p => D.tupw [.int p.1, .int p.2]
  | [], _ => rfl
  | _ :: _, [] => rfl
  | a :: as, b :: bs => by
    show D.tupw [.int a, .int b] :: zipD (as.map D.int) (bs.map D.int) = _
    rw [zipD_ints as bs]; rfl
@[simp] def zipK (P : List D → (Mu → Prop) → Mu → Prop) : List D → Mu → Prop := fun ds μ1 => match ds with
  | [d, f] => match seqB d, seqB f with
    | some (_, xs), some (_, ys) => P (zipD xs ys) (fun _ => True) μ1
    | _, _ => False
  | _ => False
@[simp] def tdiZ (t : TDA) : TDI := fun ρ μ P PX => t ρ μ (zipK P) PX
theorem walkD_zip {K : PySem.W.Frag} {A : Ax} {H : Hp} {μ : Mu} {b1 b2 : Bool} {a1 a2 : Addr} {vx vy : List V} {xs ys : List D} (l1 : Rl T K A H μ) (qx : Reps T K A H vx xs) (qy : Reps T K A H vy ys)
    (kx1 : ∀ A' H', Ext A H A' H' → SqB K b1 H' a1 vx) (kx2 : ∀ A' H', Ext A H A' H' → SqB K b2 H' a2 vy) : WalkD T K (ItzB K b1 b2 a1 a2) A H (zipD xs ys) (fun _ => True) := by
  have wz := walk_zipB (K := K) (k := b1) (l := b2) (a := a1) (b := a2) (xs := vx) (ys := vy)
  refine ⟨fun H => SqB K b1 H a1 vx ∧ SqB K b2 H a2 vy, YPair (fun i => vx[i]?) (fun i => vy[i]?), by rw [zipD_length, ← qx.length, ← qy.length]; exact wz, fun A' μ' H' x2 r2 _ => ⟨kx1 _ _ x2, kx2 _ _ x2⟩, fun A' μ' H' i x H2 x2 r2 _ hi y => ?_⟩
  obtain ⟨TT, u, v, rfl, hT, rfl, g3, g4⟩ := y
  obtain ⟨d1, d1e, d1r⟩ := (qx.mono l1 x2).get' g3
  obtain ⟨d2, d2e, d2r⟩ := (qy.mono l1 x2).get' g4
  have sm : Same H' (upd H' TT (.tup [u, v])) := same_upd hT
  exact ⟨_, zipD_get d1e d2e, sm, .tupw (.inl (.inl upd_same)) (.cons (d1r.mono r2 (.same sm)) (.cons (d2r.mono r2 (.same sm)) .nil))⟩
theorem pdi_zip {f : Expr} {t : TDA} {p tpos : Pos} {elts : List Expr} {kk : Nat} (hg : Gl X "zip") (hm : X.mg "zip" = none) (ha : PDA T X W [e, f] t)
    (hs : starEach [e, f] X.env = (false, eval e X.env) :: starEach [f] X.env := by rfl) (hpl : (backTo pos (starEach [f] X.env)).any (·.1) = false := by rfl) :
    PDI T X W (.Tuple elts kk tpos) (.Call (.Name "zip" p) [e, f] [] pos) (tdiZ t) := by
  refine ⟨⟨fun pins s σ H R I h => ?_⟩⟩
  obtain ⟨A, μ, ρ, P, PX, rl, re, q, k, kx⟩ := h
  refine Call_ (ld_blt I hg hm PyProof.Rows.boot_zip (PyProof.Rows.callWith_type1 (thn (ha.run.run pos pins s σ H (fun vs H1 => ∃ ds μ1 A1, Ext A H A1 H1 ∧ Rl T X.K A1 H1 μ1 ∧ Reps T X.K A1 H1 vs ds ∧ zipK P ds μ1) I ⟨A, μ, ρ, _, PX, rl, re, q, fun ds μ1 A1 vs H1 x1 r1 p1 h1 => ⟨ds, μ1, A1, x1, r1, p1, h1⟩, kx⟩) fun us s1 ⟨vs, H1, I1, r1, q1⟩ => ?_) hs hpl))
  obtain ⟨ds, μ1, A1, x1, l1, p1, h1⟩ := q1
  unfold zipK at h1
  split at h1
  · rename_i d g
    split at h1
    · rename_i b1 xs b2 ys hx hy
      cases p1 with
      | cons p1 pp =>
        cases pp with
        | cons p2 pp =>
          cases pp
          obtain ⟨a1, vx, rfl, sx, qx, kx1⟩ := seqB_view p1 hx
          obtain ⟨a2, vy, rfl, sy, qy, kx2⟩ := seqB_view p2 hy
          cases r1 with
          | cons r rr =>
            cases rr with
            | cons r' rr =>
              cases rr
              cases r
              cases r'
              have fresh5 : ∀ c, c ∈ [s1.heap.objs.size + 4, s1.heap.objs.size + 2, s1.heap.objs.size + 3, s1.heap.objs.size, s1.heap.objs.size + 1] → FpOk X pins H1 c := fun c hcm => by
                have e' : c = s1.heap.objs.size + 4 ∨ c = s1.heap.objs.size + 2 ∨ c = s1.heap.objs.size + 3 ∨ c = s1.heap.objs.size ∨ c = s1.heap.objs.size + 1 := by simpa using hcm
                have hle : s1.heap.objs.size ≤ c := by
                  rcases e' with z | z | z | z | z
                  · rw [z]; exact Nat.le_add_right _ _
                  · rw [z]; exact Nat.le_add_right _ _
                  · rw [z]; exact Nat.le_add_right _ _
                  · rw [z]; exact Nat.le_refl _
                  · rw [z]; exact Nat.le_add_right _ _
                exact I1.fpOk hle (I1.hok.fresh hle)
              obtain ⟨its, rv, b1'⟩ := sx.see I1
              obtain ⟨its2, rv2, b2'⟩ := sy.see I1
              refine zip_begins2 (beginsB b1 a1 its.toArray) (beginsB b2 a2 its2.toArray) b1' b2' fun h' hz hTI hTO g1 g2 hsz hk => wpAny_pyIter_zip hz ?_
              have I2 : Inv X pins σ H1 { s1 with heap := h' } := I1.kept (t' := s1.toks) hk
              have S := zip_sep2 (N := s1.heap.objs.size) (fp1 := [a1]) (fp2 := [a2]) (by simpa using b1'.lt) (by simpa using b2'.lt)
              exact ⟨s1.heap.objs.size + 4, [s1.heap.objs.size + 4, s1.heap.objs.size + 2, s1.heap.objs.size + 3, s1.heap.objs.size, s1.heap.objs.size + 1], _, _, H1, rfl, I2, turn_zipB S (Nat.ne_of_lt b1'.lt) (Nat.ne_of_lt (Nat.lt_succ_of_lt b2'.lt)), ⟨hz, hTI, ⟨_, _, hTO⟩, itB0 g1, itB0 g2⟩, fresh5,
                k _ _ _ _ _ _ x1 l1 (walkD_zip l1 qx qy (fun A' H' x2 => kx1 _ _ _ l1 x2) fun A' H' x2 => kx2 _ _ _ l1 x2) h1⟩
    · exact h1.elim
  · exact h1.elim
end
end DL

/-! The data layer: the place of a number in a tuple. -/
namespace DL
open PySem PySem.Spec L2 PyProof.Rows
section
variable {T : Cl} {X : Cx} {W : WX} {o e : Expr} {es : List Expr} {to : TD} {t : TDA} {apos cpos : Pos}
theorem Reps.dints {K : PySem.W.Frag} {A : Ax} {H : Hp} {vs : List V} {ns : List Int} (r : Reps T K A H vs (ns.map D.int)) : vs = ns.map V.int := r.ints
@[simp] def idxK (xs : List D) (P : D → Mu → Prop) : List D → Mu → Prop := fun ds μ => match ds with
  | [.int i] => ∃ ns : List Int, xs = ns.map D.int ∧ i ∈ ns ∧ P (.int (ns.idxOf i : Nat)) μ
  | _ => False
@[simp] def tdIndex (to : TD) (t : TDA) : TD := fun ρ μ P PX => to ρ μ (fun x μ1 => match x with
  | .tup xs => t ρ μ1 (idxK xs P) PX
  | _ => False) PX
theorem pd_index (ho : PD T X W o to) (ha : PDA T X W (e :: es) t) (hbase : attributeBase o "index" X.env (eval o X.env) = eval o X.env := by rfl)
    (few : ((backTo cpos (starEach (e :: es) X.env)).all (fun x => !x.1) && (backToKw cpos (keywordEach [] X.env)).all (fun x => x.1.isSome)
      && decide ((e :: es).length + ([] : List Keyword).length + (if ([] : List Keyword).isEmpty then 0 else 1) < 30)) = true := by rfl)
    (line : (apos.endLine == cpos.line) = true := by rfl) (hs : starEach (e :: es) X.env = (false, eval e X.env) :: starEach es X.env := by rfl) (plain : (backTo cpos (starEach es X.env)).any (·.1) = false := by rfl) :
    PD T X W (.Call (.Attribute o "index" apos) (e :: es) [] cpos) (tdIndex to t) := by
  refine ⟨⟨fun pins s σ H Q I h => ?_⟩⟩
  obtain ⟨A, μ, ρ, P, PX, rl, re, h, kk, kx⟩ := h
  refine wpAny_Call_method_late hbase few line rfl (thn (ho.run.run pins s σ H (fun x H1 => ∃ A1 μ1 d, Ext A H A1 H1 ∧ Rl T X.K A1 H1 μ1 ∧ Rep T X.K A1 H1 x d ∧ (match d with
    | .tup xs => t ρ μ1 (idxK xs P) PX
    | _ => False)) I ⟨A, μ, ρ, _, PX, rl, re, h, fun x μ1 A1 v H1 x1 r1 p1 h1 => ⟨A1, μ1, x, x1, r1, p1, h1⟩, kx⟩) fun v s1 ⟨x, H1, I1, r1, A1, μ1, d, x1, l1, p1, q1⟩ => ?_)
  cases d with
  | tup xs =>
    replace q1 : t ρ μ1 (idxK xs P) PX := q1
    cases p1 with
    | @tup a ob vs _ h0 hd qs =>
      cases r1
      have hob : s1.heap.get? a = some ob := (I1.hok _ _ h0).1
      obtain ⟨its, rv, p, _⟩ := I1.tuple (.inl (.inr ⟨ob, h0⟩))
      have hT : s1.TypeIs (.ref a) "tuple" := by obtain ⟨o2, h2, c2, _⟩ := id p; exact ⟨o2, h2, c2⟩
      refine ⟨"tuple", "tuple.index", PySem.F.plainAttrs_tuple, PySem.F.slot_tuple_index, PySem.F.type_tuple_index, hT, fun b eb => by cases eb; exact ⟨ob, hob, hd⟩, ?_⟩
      have hA := ha.run.run cpos pins s1 σ H1 (fun ws H2 => ∃ ds A2 μ2, Ext A1 H1 A2 H2 ∧ Rl T X.K A2 H2 μ2 ∧ Reps T X.K A2 H2 ws ds ∧ idxK xs P ds μ2) I1 ⟨A1, μ1, ρ, _, PX, l1, re.mono rl x1, q1, fun ds μ2 A2 ws H2 x2 r2 p2 h2 => ⟨ds, A2, μ2, x2, r2, p2, h2⟩, kx.ext x1 l1⟩
      rw [hs] at hA ⊢
      refine Calls.callWith_builtin (by show (false || (backTo cpos (starEach es X.env)).any (·.1)) = false; rw [plain] <;> rfl) (Calls.evalArgs_plain ?_)
      refine thn hA fun us s2 ⟨ws, H2, I2, r2, ds, A2, μ2, x2, l2, p2, q2⟩ => ?_
      unfold idxK at q2
      split at q2
      · rename_i i
        obtain ⟨ns, e1, hi, q2⟩ := q2
        obtain ⟨w, rfl, pi⟩ := reps1 p2
        cases pi
        obtain ⟨u, rfl, ru⟩ := vals1 r2
        obtain ⟨tk, rfl⟩ := ru
        subst e1
        have ev : vs = ns.map V.int := qs.ints
        subst ev
        obtain ⟨its2, rv2, p2', _⟩ := I2.tuple (.inl (.inr ⟨ob, x2.keep _ _ (l1.nfrz h0) nofun h0⟩))
        refine PySem.SeqAt.tuple_index_ints (show s2.heap.IsTuple a its2.toArray from p2') (by simpa using RZ.intsAre_vals rv2) hi ?_
        exact ⟨.int (ns.idxOf i : Nat), H2, I2.tok _, ⟨_, rfl⟩, kk _ _ _ _ _ (x1.tr l1 x2) l2 (.int _) q2⟩
      · exact q2.elim
  | _ => exact q1.elim
end
theorem fd_ok2 {T : Cl} {P : Program} {w : World} {K : PySem.W.Frag} {mg : Str → Option Value} {base : Heap} {x qual : Str} {st : Stmt} {f : Addr} {fd : FuncData} {N ps : List Str} {k : Nat} {s : DSp} {t : TDS} (F : Fun K x qual st f fd) (S : FnScope N ps (defScope st))
    (hN : ps.length ≤ N.length)
    (ht : ∀ (cdv : Value) (A : Around) (outer : List PySem.Env) (sh : Shared) (H : Hp) (E : XK), Room k (A.deeper (PyProof.Rows.envOfC qual (defScope st) sh.heap.objs.size f cdv)) →
        PDB T (cxOf (L2.CX P w) P w K mg base N qual (defScope st) f cdv A outer sh H E) (WE0 E) (defBody st) t)
    (hl : ∀ ds μ P PX, s ds μ P PX → ds.length = ps.length) (hs : ∀ ds μ Q PX, s ds μ Q PX → t (startD N.length ds) μ (endD μ Q PX)) : FnOk P w K mg base (L2.CX P w) (k + 1) f fd ps (spD T K s) :=
  fd_ok F S hl hN ⟨t, ht, hs⟩
end DL

/-! The data layer: defs that let nothing out; small rules. -/
namespace DL
open PySem PySem.Spec L2
section
variable {T : Cl} {P : Program} {w : World} {K : PySem.W.Frag} {mg : Str → Option Value} {base : Heap}
theorem fd_okN {x qual : Str} {st : Stmt} {f : Addr} {fd : FuncData} {N ps : List Str} {k : Nat} {s : DSp} {t : TDS} (F : Fun K x qual st f fd) (S : FnScope N ps (defScope st)) (hN : ps.length ≤ N.length)
    (ht : ∀ (cdv : Value) (A : Around) (outer : List PySem.Env) (sh : Shared) (H : Hp) (E : XK), Room k (A.deeper (PyProof.Rows.envOfC qual (defScope st) sh.heap.objs.size f cdv)) →
        PDB T (cxOf (L2.CX P w) P w K mg base N qual (defScope st) f cdv A outer sh H E) (WE0 E0) (defBody st) t)
    (hl : ∀ ds μ P PX, s ds μ P PX → ds.length = ps.length) (hs : ∀ ds μ Q PX, s ds μ Q PX → t (startD N.length ds) μ (endD μ Q (fun _ _ => False))) : FnOk P w K mg base (L2.CX P w) (k + 1) f fd ps (spD T K s) := by
  refine F.okX S (fun vs H Q E ⟨A, μ, ds, P, PX, rl, rp, h, _⟩ => by rw [rp.length]; exact hl _ _ _ _ h) fun cdv A outer sh H vs Q E hr ⟨A1, μ, ds, P1, PX, rl, rp, h, kv, kx⟩ => ?_
  refine ⟨_, (ht cdv A outer sh H E hr).run, A1, μ, startD N.length ds, _, rl, RE.begin_ rp (by rw [rp.length, hl _ _ _ _ h]; exact hN), hs _ _ _ _ h, ?_⟩
  exact ⟨fun ρ' μ' A' σ' H' x1 r1 re1 h1 => seal_ok (d := .non) (v := .non) rl kv x1 r1 .non h1, fun d μ' A' v H' x1 r1 p1 h1 => seal_ok rl kv x1 r1 p1 h1, fun _ _ _ _ _ _ _ _ h1 => h1.elim, fun _ _ _ _ _ _ _ _ h1 => h1.elim,
    fun y ρ' μ' A' σ' c q H' x1 r1 re1 xr h1 => h1.elim⟩
end
section
variable {T : Cl} {X : Cx} {W : WX} {c : Expr} {st : Stmt}
@[simp] def tdYes : TDT := fun _ μ P _ => P true μ
theorem ptd_nil : PTs X [] (liftT T X W tdYes) := ⟨fun pins s σ H Q I ⟨A, μ, ρ, P, PX, rl, re, h, k, kx⟩ => pts_nil.run pins s σ H Q I (k true μ A H (.refl _ _) rl h)⟩
theorem ptd_one {t : TDT} (h : PDT T X W c t) : PTs X [c] (liftT T X W t) := pts_one h.run
@[simp] def sNever : TDS := fun _ _ _ => False
theorem pds_never : PDS T X W st sNever := ⟨PS.mono ps_never fun D σ H ⟨A, μ, ρ, E, rl, re, h, k⟩ => h⟩
end
end DL

/-! The data layer: how terms are read: comprehensions, loops, numbers. -/
namespace DL
open PySem PySem.Spec L2

/-! ### comprehensions -/
theorem lcGo_flt {α : Type} {st : D → Option Env} {tt : TDT} {te : TD} {kp : Mu → Prop} {μ : Mu} {P : List D → Mu → Prop} (g fe : α → D) (b : α → Bool) : ∀ (xs : List α) (acc : List D),
    (∀ x ∈ xs, ∃ ρ', st (g x) = some ρ' ∧ (∀ Q : Bool → Mu → Prop, Q (b x) μ → tt ρ' μ Q (fun _ _ => False)) ∧ (b x = true → ∀ Q : D → Mu → Prop, Q (fe x) μ → te ρ' μ Q (fun _ _ => False))) → kp μ →
    acc.length + xs.length ≤ sizeLine → P (acc ++ (xs.filter b).map fe) μ → lcGo st tt te kp (xs.map g) acc μ P
  | [], acc, _, hk, _, h => ⟨hk, by simpa using h⟩
  | x :: xs, acc, hx, hk, hl, h => by
    obtain ⟨ρ', h1, h2, h3⟩ := hx x List.mem_cons_self
    refine ⟨hk, ρ', h1, h2 _ ?_⟩
    rw [List.length_cons] at hl
    cases hb : b x with
    | true =>
      rw [if_pos rfl]
      refine h3 hb _ ⟨by omega, lcGo_flt g fe b xs (acc ++ [fe x]) (fun y hy => hx y (List.mem_cons_of_mem _ hy)) hk (by simp; omega) ?_⟩
      rw [List.filter_cons, if_pos hb] at h
      simpa using h
    | false =>
      rw [if_neg (by decide)]
      refine lcGo_flt g fe b xs acc (fun y hy => hx y (List.mem_cons_of_mem _ hy)) hk (by omega) ?_
      rw [List.filter_cons, if_neg (by simp [hb])] at h
      exact h
theorem lcGo_map {α : Type} {st : D → Option Env} {te : TD} {kp : Mu → Prop} {μ : Mu} {P : List D → Mu → Prop} (g fe : α → D) (xs : List α)
    (hx : ∀ x ∈ xs, ∃ ρ', st (g x) = some ρ' ∧ ∀ Q : D → Mu → Prop, Q (fe x) μ → te ρ' μ Q (fun _ _ => False)) (hk : kp μ) (hl : xs.length ≤ sizeLine) (h : P (xs.map fe) μ) : lcGo st tdYes te kp (xs.map g) [] μ P := by
  refine lcGo_flt g fe (fun _ => true) xs [] (fun x hm => ?_) hk (by simpa using hl) (by rw [List.filter_eq_self.mpr (fun _ _ => rfl)]; simpa using h)
  obtain ⟨ρ', h1, h2⟩ := hx x hm
  exact ⟨ρ', h1, fun Q q => q, fun _ => h2⟩
/-- the items themselves -/
theorem lcGo_id {st : D → Option Env} {te : TD} {kp : Mu → Prop} {μ : Mu} {P : List D → Mu → Prop} (fe : D → D) (xs : List D)
    (hx : ∀ x ∈ xs, ∃ ρ', st x = some ρ' ∧ ∀ Q : D → Mu → Prop, Q (fe x) μ → te ρ' μ Q (fun _ _ => False)) (hk : kp μ) (hl : xs.length ≤ sizeLine) (h : P (xs.map fe) μ) : lcGo st tdYes te kp xs [] μ P := by
  have := lcGo_map (P := P) id fe xs hx hk hl h
  rwa [List.map_id] at this

/-! ### for -/
theorem forGo_inv {α : Type} {g : TDG} {tb : TDS} {kp : Mu → Prop} {E : DE} (gx : α → D) (xs : List α) (I : Nat → Env → Mu → Prop) (hk : ∀ i ρ μ, I i ρ μ → kp μ)
    (hs : ∀ (i : Nat) (x : α) (ρ : Env) (μ : Mu) (N : Env → Mu → Prop), xs[i]? = some x → I i ρ μ → (∀ ρ' μ', I (i + 1) ρ' μ' → N ρ' μ') → g (gx x) ρ μ (fun ρ1 μ1 => tb ρ1 μ1 { E with nx := N, ct := N, bk := E.nx }) (fun y μ' => E.ex y ρ μ'))
    (hd : ∀ ρ μ, I xs.length ρ μ → E.nx ρ μ) {ρ : Env} {μ : Mu} (h0 : I 0 ρ μ) : forGo g tb kp (xs.map gx) ρ μ E := by
  have key : ∀ (ys : List α) (i : Nat) (ρ : Env) (μ : Mu), xs.drop i = ys → i ≤ xs.length → I i ρ μ → forGo g tb kp (ys.map gx) ρ μ E := by
    intro ys
    induction ys with
    | nil =>
      intro i ρ μ hd' hi hI
      have : i = xs.length := by
        have := congrArg List.length hd'
        rw [List.length_drop] at this
        simp at this; omega
      subst this
      exact ⟨hk _ _ _ hI, hd _ _ hI⟩
    | cons y ys ih =>
      intro i ρ μ hd' hi hI
      have hlt : i < xs.length := by
        have := congrArg List.length hd'
        rw [List.length_drop] at this
        simp at this; omega
      have hy : xs[i]? = some y := by
        rw [List.drop_eq_getElem_cons hlt] at hd'
        rw [List.getElem?_eq_getElem hlt]
        exact congrArg some (List.cons.inj hd').1
      have hd2 : xs.drop (i + 1) = ys := by
        rw [List.drop_eq_getElem_cons hlt] at hd'
        exact (List.cons.inj hd').2
      exact ⟨hk _ _ _ hI, hs i y ρ μ _ hy hI fun ρ' μ' h' => ih (i + 1) ρ' μ' hd2 hlt h'⟩
  exact key xs 0 ρ μ rfl (Nat.zero_le _) h0

/-! ### numbers -/
theorem toPyAll_ints : ∀ (ns : List Int), toPyAll (ns.map D.int) = some (ns.map PyData.int)
  | [] => rfl
  | n :: ns => by
    show (match toPy (.int n), toPyAll (ns.map D.int) with
      | some p, some ps => some (p :: ps)
      | _, _ => none) = _
    rw [toPyAll_ints ns]; rfl
@[simp] theorem pyOf_int (μ : Mu) (i : Int) : pyOf μ (.int i) = some (.int i) := rfl
@[simp] theorem pyOf_tupI (μ : Mu) (ns : List Int) : pyOf μ (.tup (ns.map D.int)) = some (.tuple (ns.map PyData.int)) := by
  show (toPyAll (ns.map D.int)).map PyData.tuple = _
  rw [toPyAll_ints]; rfl
@[simp] theorem pyOf_lstI (μ : Mu) (ns : List Int) : pyOf μ (.lst (ns.map D.int)) = some (.list (ns.map PyData.int)) := by
  show (toPyAll (ns.map D.int)).map PyData.list = _
  rw [toPyAll_ints]; rfl
@[simp] theorem pyOf_tup0 (μ : Mu) : pyOf μ (.tup []) = some (.tuple []) := rfl
@[simp] theorem eqv_int (i j : Int) : PyData.eqv (.int i) (.int j) = decide (i = j) := by
  rw [PyData.eqv]
  by_cases h : i = j
  · subst h; simp
  · simp [h]
@[simp] theorem eqv_tupI (ns ms : List Int) : PyData.eqv (.tuple (ns.map PyData.int)) (.tuple (ms.map PyData.int)) = decide (ns = ms) := by
  rw [PyData.eqv]
  exact PySem.W.ked_eqvAll ns ms
@[simp] theorem eqv_tupI0 (ns : List Int) : PyData.eqv (.tuple (ns.map PyData.int)) (.tuple []) = decide (ns = []) := eqv_tupI ns []
@[simp] theorem shaped_int (i : Int) : SeqAt.shaped (.int i) = true := by
  unfold SeqAt.shaped
  rfl
theorem canLayAll_ints : ∀ ns : List Int, PyData.canLayAll0 (ns.map PyData.int) = true
  | [] => rfl
  | n :: ns => by
    show (PyData.canLay0 (.int n) && PyData.canLayAll0 (ns.map PyData.int)) = true
    rw [canLayAll_ints ns]; rfl
theorem depthAll_int : ∀ ns : List Int, PyData.depthAll (ns.map PyData.int) = 0
  | [] => rfl
  | n :: ns => by
    show max (PyData.depth (.int n)) (PyData.depthAll (ns.map PyData.int)) = 0
    rw [depthAll_int ns]; rfl
@[simp] theorem shaped_tupI (ns : List Int) : SeqAt.shaped (.tuple (ns.map PyData.int)) = true := by
  unfold SeqAt.shaped
  rw [show PyData.canLay0 (.tuple (ns.map PyData.int)) = PyData.canLayAll0 (ns.map PyData.int) from rfl, canLayAll_ints ns]
  rw [show PyData.depth (.tuple (ns.map PyData.int)) = PyData.depthAll (ns.map PyData.int) + 1 by rw [PyData.depth], depthAll_int]
  rfl
@[simp] theorem shaped_tup0 : SeqAt.shaped (.tuple []) = true := shaped_tupI []
theorem inV_int (i : Int) : ∀ ns : List Int, inV (.int i) (ns.map V.int) = decide (i ∈ ns) := fun ns => by
  induction ns with
  | nil => rfl
  | cons n ns ih =>
    show (eqV (.int n) (.int i) || inV (.int i) (ns.map V.int)) = _
    rw [ih, show eqV (.int n) (.int i) = (n == i) from rfl]
    by_cases h : n = i
    · subst h; simp
    · have h2 : ¬ i = n := fun e => h e.symm
      simp [h, h2]
@[simp] theorem intsOf_ints (ns : List Int) : intsOf (ns.map D.int) = some ns := intsOf_map ns
@[simp] theorem blsOf_bls (ns : List Bool) : blsOf (ns.map D.bl) = some ns := blsOf_map ns
theorem flatsD_ints : ∀ ns : List Int, flatsD (ns.map D.int) = some (ns.map V.int)
  | [] => rfl
  | n :: ns => by
    show (match flatD (.int n), flatsD (ns.map D.int) with
      | some v, some vs => some (v :: vs)
      | _, _ => none) = _
    rw [flatsD_ints ns]; rfl
@[simp] theorem size_big {n : Nat} (h : n ≤ 1000) : n ≤ sizeLine := by unfold sizeLine; omega
@[simp] theorem closedAll_ints (n : Nat) : ∀ ns : List Int, closedAll n (ns.map D.int) = true
  | [] => rfl
  | x :: ns => by
    show (closed n (.int x) && closedAll n (ns.map D.int)) = true
    rw [closedAll_ints n ns]; rfl
theorem atI_get {α : Type} {xs : List α} {i : Int} {j : Nat} {x : α} (hi : i = (j : Nat)) (h : xs[j]? = some x) : atI xs i = some x := by
  subst hi
  have hl := (List.getElem?_eq_some_iff.mp h).1
  unfold atI ixN
  rw [if_pos (by omega), if_pos (by omega)]
  exact h
theorem atI_int {ns : List Int} {i : Int} {j : Nat} (hi : i = (j : Nat)) (h : j < ns.length) : atI (ns.map D.int) i = some (.int (ns.getD j 0)) := by
  refine atI_get hi ?_
  rw [List.getElem?_map, List.getElem?_eq_getElem h, List.getD_eq_getElem?_getD, List.getElem?_eq_getElem h]
  rfl
theorem asc_pair {ns : List Int} (h : ∀ i, i + 1 < ns.length → ns.getD i 0 < ns.getD (i + 1) 0) : ns.Pairwise (· < ·) := by
  rw [List.pairwise_iff_getElem]
  intro i j hi hj hij
  induction j with
  | zero => omega
  | succ j ih =>
    have h1 := h j hj
    rw [List.getD_eq_getElem?_getD, List.getElem?_eq_getElem (by omega : j < ns.length), List.getD_eq_getElem?_getD, List.getElem?_eq_getElem hj] at h1
    simp at h1
    by_cases e : i = j
    · subst e; exact h1
    · exact Int.lt_trans (ih (by omega) (by omega)) h1
theorem pair_asc {ns : List Int} (h : ns.Pairwise (· < ·)) (i : Nat) (hi : i + 1 < ns.length) : ns.getD i 0 < ns.getD (i + 1) 0 := by
  have := List.pairwise_iff_getElem.mp h i (i + 1) (by omega) hi (by omega)
  rw [List.getD_eq_getElem?_getD, List.getElem?_eq_getElem (by omega : i < ns.length), List.getD_eq_getElem?_getD, List.getElem?_eq_getElem hi]
  simpa using this
theorem asc_all (ns : List Int) : ((List.range (ns.length - 1)).all fun i => decide (ns.getD i 0 < ns.getD (i + 1) 0)) = decide (ns.Pairwise (· < ·)) := by
  by_cases h : ns.Pairwise (· < ·)
  · rw [decide_eq_true h, List.all_eq_true]
    intro i hi
    rw [List.mem_range] at hi
    exact decide_eq_true (pair_asc h i (by omega))
  · rw [decide_eq_false h]
    cases e : ((List.range (ns.length - 1)).all fun i => decide (ns.getD i 0 < ns.getD (i + 1) 0)) with
    | false => rfl
    | true =>
      rw [List.all_eq_true] at e
      exact absurd (asc_pair fun i hi => of_decide_eq_true (e i (List.mem_range.mpr (by omega)))) h
theorem cpow1 {n : Int} (h : 0 ≤ n) (h2 : n ≤ 1000) : CPow 1 n := ⟨h, by omega, by decide⟩
theorem pow2_le {k n : Nat} (h : k ≤ n) : (2 : Nat) ^ k ≤ 2 ^ n := Nat.pow_le_pow_right (by decide) h
theorem pow2_cast (k : Nat) : (2 : Int) ^ k = ((2 ^ k : Nat) : Int) := by simp
theorem map_bl {α : Type} (p : α → Bool) (xs : List α) : xs.map (fun x => D.bl (p x)) = (xs.map p).map D.bl := by simp
theorem minI_nonneg : ∀ {ns : List Int}, ns ≠ [] → (0 ≤ minI ns ↔ ∀ x ∈ ns, 0 ≤ x) := by
  have key : ∀ (ns : List Int) (m : Int), 0 ≤ ns.foldl min m ↔ 0 ≤ m ∧ ∀ x ∈ ns, 0 ≤ x := by
    intro ns
    induction ns with
    | nil => intro m; simp
    | cons n ns ih =>
      intro m
      rw [List.foldl_cons, ih]
      simp only [List.mem_cons, forall_eq_or_imp]
      constructor
      · rintro ⟨h1, h2⟩
        exact ⟨by omega, by omega, h2⟩
      · rintro ⟨h1, h2, h3⟩
        exact ⟨by omega, h3⟩
  intro ns hn
  cases ns with
  | nil => exact absurd rfl hn
  | cons n ns =>
    show 0 ≤ ns.foldl min n ↔ _
    rw [key]
    simp
end DL

/-! The data layer: defs that are run where nothing is being shown (so that repr tells all). -/
namespace DL
open PySem PySem.Spec L2 PyProof.Rows
/-- a def's promise, where no repr is under way -/
def FQ (T : Cl) (P : Program) (w : World) (K : PySem.W.Frag) (mg : Str → Option Value) (base : Heap) (k : Nat) (f : Addr) (s : DSp) : Prop :=
  ∀ (A : Around) (outer : List PySem.Env) (sh : Shared) (H : Hp) (us : List Value) (vs : List V) (Q : VK) (E : XK), Room k A → A.guards = some [] → Env0 P w K mg base A outer sh H → Vals vs us → spD T K s vs H Q E →
    codeAny (model P w) A (.call (.ref f) ⟨us, []⟩) (CR (L2.CX P w) outer P w H sh Q E) sh
section
variable {T : Cl} {P : Program} {w : World} {K : PySem.W.Frag} {mg : Str → Option Value} {base : Heap}
theorem FQ.of {k : Nat} {f : Addr} {s : DSp} (F : FD T P w K mg base k f s) : FQ T P w K mg base k f s := fun A outer sh H us vs Q E hr _ e0 r h => F A outer sh H us vs Q E hr e0 r h
theorem FQ.mono {j k : Nat} {f : Addr} {s : DSp} (F : FQ T P w K mg base j f s) (h : j ≤ k) : FQ T P w K mg base k f s := fun A outer sh H us vs Q E hr => F A outer sh H us vs Q E (hr.mono h)
/-- THE RULE for a def; W: what it lets out -/
theorem fq_core {x qual : Str} {st : Stmt} {f : Addr} {fd : FuncData} {N ps : List Str} {k : Nat} {s : DSp} {t : TDS} (W : XK → WX) (Z : PX → XD → Env → Mu → Prop) (ok : Value → Prop) (hok : ok fd.code) (F : Fun K x qual st f fd) (S : FnScope N ps (defScope st)) (b : Binds K fd ps []) (hN : ps.length ≤ N.length)
    (ht : ∀ (cdv : Value) (_ : ok cdv) (A : Around) (outer : List PySem.Env) (sh : Shared) (H : Hp) (E : XK), Room k (A.deeper (PyProof.Rows.envOfC qual (defScope st) sh.heap.objs.size f cdv)) → A.guards = some [] →
        PDB T (cxOf (L2.CX P w) P w K mg base N qual (defScope st) f cdv A outer sh H E) (W E) (defBody st) t)
    (hl : ∀ ds μ P PX, s ds μ P PX → ds.length = ps.length) (hs : ∀ ds μ Q PX, s ds μ Q PX → t (startD N.length ds) μ { endD μ Q PX with ex := Z PX })
    (hZ : ∀ (E : XK) (A : Ax) (H : Hp) (PX : PX), (∀ x μ' A' c q H', Ext A H A' H' → Rl T K A' H' μ' → XRep T K A' H' x c q → PX x μ' → E c q H') → ∀ x ρ' μ' A' σ' c q H', Ext A H A' H' → Rl T K A' H' μ' → RE T K A' H' σ' ρ' → XRep T K A' H' x c q → Z PX x ρ' μ' → W E c q σ' H') : FQ T P w K mg base (k + 1) f s := by
  obtain ⟨oc, od, kV, doc, pm, an, cdv, ct, osl, rfl, lk, hcd⟩ := F.ex
  intro A outer sh H us vs Q E hr hg e0 r hsp
  obtain ⟨A1, μ, ds, P1, PX, rl, rp, h, kv, kx⟩ := hsp
  have hlen : vs.length = ps.length := by rw [rp.length]; exact hl _ _ _ _ h
  have KX : K.In sh.heap := e0.mod.kin.keeps fun b o e => (e0.bs b o e).1
  have lim : sh.heap.NoLimit := e0.mod.nolimit.keeps fun b o e => (e0.bs b o e).1
  have hb := b sh us KX (by rw [List.append_nil, ← r.length]; exact hlen)
  rw [List.append_nil] at hb
  have kinds : ∀ y ∈ ps.zip us, (defScope st).names.lookup y.1 = some .local ∨ ((defScope st).names.lookup y.1 = some .cell ∧ ((cellsFrom (sh.heap.objs.size + 1) (defScope st).names []).lookup y.1).isSome = true) := fun ⟨n, v⟩ hy => by
    rcases S.par n (List.of_mem_zip hy).1 with q | q
    · exact Or.inl q
    · exact Or.inr ⟨q, PySem.W.cellsFrom_some _ _ _ (Or.inl q)⟩
  refine codeAny_call_function hr.depth (KX _ _ lk) rfl S.co S.gen rfl (PySem.W.codeRec_of KX hcd) (hb _ _ _ _ ?_)
  refine wpAny_newFunctionEnv_cells S.kind kinds fun env he s1 nw => ?_
  subst he
  refine ⟨lim.keeps nw.toInCall.keep, codeAny_func ?_⟩
  have I : Inv (cxOf (L2.CX P w) P w K mg base N qual (defScope st) f cdv A outer sh H E) [] (L2.start N vs) H s1 := inv_start S hr.hd e0 hlen r nw
  have run := (ht cdv hok A outer sh H E (hr.deeper _) hg).run.run [] s1 (L2.start N vs) H { nx := fun _ H' => Q .non H', rt := Q } I ⟨A1, μ, startD N.length ds, _, rl, RE.begin_ rp (by rw [rp.length, hl _ _ _ _ h]; exact hN), hs _ _ _ _ h,
    ⟨fun ρ' μ' A' σ' H' x1 r1 re1 h1 => seal_ok (d := .non) (v := .non) rl kv x1 r1 .non h1, fun d μ' A' v H' x1 r1 p1 h1 => seal_ok rl kv x1 r1 p1 h1, fun _ _ _ _ _ _ _ _ h1 => h1.elim, fun _ _ _ _ _ _ _ _ h1 => h1.elim,
      fun y ρ' μ' A' σ' c q H' x1 r1 re1 xr h1 => hZ E A1 H PX kx y ρ' μ' A' σ' c q H' x1 r1 re1 xr h1⟩⟩
  refine wpAny_mono run (fun fl s' hs' => ?_) fun e s' hs' => hs'
  have fin : ∀ {σ' : L2.St} {H' : Hp} {v : V} {u : Value}, Inv (cxOf (L2.CX P w) P w K mg base N qual (defScope st) f cdv A outer sh H E) [] σ' H' s' → RelV v u → Q v H' → CE outer P w H sh Q u s' :=
    fun {σ' H' v u} J rv q => ⟨v, H', J.os, J.bare, J.base, J.hok, rv, q⟩
  cases fl with
  | ret u => obtain ⟨v, σ', H', J, rv, q⟩ := hs'; exact fin J rv q
  | next => obtain ⟨σ', H', J, q⟩ := hs'; exact fin (v := V.non) (u := Value.none) J rfl q
  | brk => obtain ⟨_, _, _, q⟩ := hs'; exact q.elim
  | cont => obtain ⟨_, _, _, q⟩ := hs'; exact q.elim
/-- nothing is let out -/
theorem fq_okN {x qual : Str} {st : Stmt} {f : Addr} {fd : FuncData} {N ps : List Str} {k : Nat} {s : DSp} {t : TDS} (F : Fun K x qual st f fd) (S : FnScope N ps (defScope st)) (b : Binds K fd ps []) (hN : ps.length ≤ N.length)
    (ht : ∀ (cdv : Value) (A : Around) (outer : List PySem.Env) (sh : Shared) (H : Hp) (E : XK), Room k (A.deeper (PyProof.Rows.envOfC qual (defScope st) sh.heap.objs.size f cdv)) → A.guards = some [] →
        PDB T (cxOf (L2.CX P w) P w K mg base N qual (defScope st) f cdv A outer sh H E) (WE0 E0) (defBody st) t)
    (hl : ∀ ds μ P PX, s ds μ P PX → ds.length = ps.length) (hs : ∀ ds μ Q PX, s ds μ Q PX → t (startD N.length ds) μ (endD μ Q (fun _ _ => False))) : FQ T P w K mg base (k + 1) f s :=
  fq_core (fun _ => WE0 E0) (fun _ _ _ _ => False) (fun _ => True) trivial F S b hN (fun c _ => ht c) hl hs fun _ _ _ _ _ _ _ _ _ _ _ _ _ _ _ _ _ z => z.elim
/-- it may raise -/
theorem fq_ok {x qual : Str} {st : Stmt} {f : Addr} {fd : FuncData} {N ps : List Str} {k : Nat} {s : DSp} {t : TDS} (F : Fun K x qual st f fd) (S : FnScope N ps (defScope st)) (b : Binds K fd ps []) (hN : ps.length ≤ N.length)
    (ht : ∀ (cdv : Value) (A : Around) (outer : List PySem.Env) (sh : Shared) (H : Hp) (E : XK), Room k (A.deeper (PyProof.Rows.envOfC qual (defScope st) sh.heap.objs.size f cdv)) → A.guards = some [] →
        PDB T (cxOf (L2.CX P w) P w K mg base N qual (defScope st) f cdv A outer sh H E) (WE0 E) (defBody st) t)
    (hl : ∀ ds μ P PX, s ds μ P PX → ds.length = ps.length) (hs : ∀ ds μ Q PX, s ds μ Q PX → t (startD N.length ds) μ (endD μ Q PX)) : FQ T P w K mg base (k + 1) f s :=
  fq_core WE0 (fun PX x _ μ' => PX x μ') (fun _ => True) trivial F S b hN (fun c _ => ht c) hl hs fun E A H PX kx x ρ' μ' A' σ' c q H' x1 r1 re1 xr h1 => kx x μ' A' c q H' x1 r1 xr h1
end
end DL

/-! The data layer: the end of a law whose def is run where nothing is shown. -/
namespace DL
open PySem PySem.Spec L2 PyProof.Rows
/-- the promise of a law's def, over the hand layer -/
def spTop (K : PySem.W.Frag) (tb : List (Addr × Str)) : Sp := fun vs H Q _ => ∃ (a : Addr) (ns : List Int), vs = [.ref a] ∧ SqL K H a (ns.map V.int) ∧ LamX.Tabs tb H ∧ ns.length ≤ 63 ∧ ∀ H', Q (.bl true) H'
/-- .. over data -/
def sTop : DSp := fun ds μ Q _ => ∃ ns : List Int, ds = [.scr (ns.map D.int)] ∧ ns.length ≤ 63 ∧ Q (.bl true) μ
theorem spTop_of {T : Cl} {K : PySem.W.Frag} (vs : List V) (H : Hp) (Q : VK) (E : XK) (h : spTop K T.tabs vs H Q E) : spD T K sTop vs H Q E := by
  obtain ⟨a, ns, rfl, hS, hO, hl, k⟩ := h
  refine ⟨⟨[], []⟩, [], [.scr (ns.map D.int)], fun d _ => d = .bl true, fun _ _ => False, ⟨rfl, List.nodup_nil, fun i c e => by simp at e, fun a e => (nomatch e), hO⟩, .cons (.scr ?_ (Reps.of_ints ns)) .nil, ⟨ns, rfl, hl, rfl⟩, fun d μ' A' v H' x r p e => ?_, fun _ _ _ _ _ _ _ _ _ z => z.elim⟩
  · rcases hS with (h1 | ⟨o, h1⟩) | h1
    · exact .inr (.inr ⟨h1, fun z => z.elim (fun z => nomatch z) fun z => nomatch z⟩)
    · exact .inl ⟨o, h1⟩
    · exact .inr (.inl h1)
  · subst e
    cases p
    exact k H'
section
variable {P : Program} {w : World} {K : PySem.W.Frag} {mg mb : Str → Option Value} {fa a : Addr} {sh : Shared} {us : List Value} {ns : List Int} {H : Hp} {k : Nat}
/-- the base that is left when the script is taken away -/
theorem base_in (kin : K.In sh.heap) (at_ : sh.heap.get? a = some { cls := .type "list", data := .seq us.toArray }) (few : ∀ b, H b ≠ none → b = a ∧ K.lookup a = none) : K.In (hidT sh.heap H) := fun b o e => by
  refine hidT_get (kin b o e) ?_
  cases q : H b with
  | none => rfl
  | some u =>
    obtain ⟨rfl, z⟩ := few b (by rw [q]; exact nofun)
    rw [z] at e
    cases e
theorem base_ns (at_ : sh.heap.get? a = some { cls := .type "list", data := .seq us.toArray }) (few : ∀ b, H b ≠ none → b = a ∧ K.lookup a = none) {p : Addr} {m : Str → Option Value} (h : sh.heap.Ns p m) : (hidT sh.heap H).Ns p m := by
  obtain ⟨o, es, ep, e, d, r⟩ := h
  refine ⟨o, es, ep, hidT_get e ?_, d, r⟩
  cases q : H p with
  | none => rfl
  | some u =>
    obtain ⟨rfl, _⟩ := few p (by rw [q]; exact nofun)
    rw [at_] at e
    cases e
    exact absurd (show Data.seq us.toArray _ = Data.dict es ep from d) nofun
theorem env_top (kin : K.In sh.heap) (g : sh.heap.Ns mainGlobals mg) (b : sh.heap.Ns builtinsNs mb) (bb : ∀ x : Str, x ≠ "__name__" → mb x = bootBuiltins x) (nl : sh.heap.NoLimit) (hg : sh.gens = #[]) (at_ : sh.heap.get? a = some { cls := .type "list", data := .seq us.toArray })
    (few : ∀ b, H b ≠ none → b = a ∧ K.lookup a = none) (hok : HOk P w H sh.heap) : Env0 P w K mg (hidT sh.heap H) callerA [] sh H := by
  obtain ⟨mc, n1, n2⟩ := nl
  have ns {p m} (h : sh.heap.Ns p m) : (hidT sh.heap H).Ns p m := base_ns (K := K) at_ few h
  have md : Mod K mg (hidT sh.heap H) := ⟨base_in kin at_ few, ns g, ⟨mb, ns b, bb⟩, ⟨mc, ns n1, n2⟩⟩
  exact ⟨rfl, md, fun _ _ e => of_hidT e, by rw [hidT_size]; exact Nat.le_refl _, trivial, nofun, hok, .of_eq hg⟩
/-- the law's call, over a heap that tracks the script at most -/
theorem call_at {T : Cl} {s : DSp} (kin : K.In sh.heap) (g : sh.heap.Ns mainGlobals mg) (b : sh.heap.Ns builtinsNs mb) (bb : ∀ x : Str, x ≠ "__name__" → mb x = bootBuiltins x) (nl : sh.heap.NoLimit) (hg : sh.gens = #[]) (at_ : sh.heap.get? a = some { cls := .type "list", data := .seq us.toArray })
    (few : ∀ b, H b ≠ none → b = a ∧ K.lookup a = none) (hok : HOk P w H sh.heap) (only : Only H) (hS : SqL K H a (ns.map V.int)) (hl : ns.length ≤ 63) (hr : Room k callerA)
    (F : ∀ base : Heap, K.In base → base.Ns mainGlobals mg → FQ T P w K mg base k fa s) (ht : T.tabs = []) (hs : ∀ vs H Q E, spTop K T.tabs vs H Q E → spD T K s vs H Q E) :
    codeAny (model P w) callerA (.call (.ref fa) ⟨[.ref a], []⟩) (fun r s' => r = .ok (.ret (.bool true)) ∧ OldK sh.heap s'.heap ∧ s'.os = sh.os ∧ AllBare s'.gens) sh := by
  have run := F _ (base_in kin at_ few) (base_ns (K := K) at_ few g) callerA [] sh H [.ref a] [.ref a] (fun v _ => v = .bl true) (fun _ _ _ => False) hr rfl (env_top kin g b bb nl hg at_ few hok) (.cons rfl .nil) (hs _ _ _ _ ⟨a, ns, rfl, hS, by rw [ht]; exact nofun, hl, fun _ => rfl⟩)
  refine codeAny_mono run fun r s' z => ?_
  match r, z with
  | .error e, z =>
    obtain ⟨_, _, _, _, _, _, _, _, _, _, _, _, z⟩ := z
    exact z.elim
  | .ok .next, z => exact False.elim z
  | .ok .brk, z => exact False.elim z
  | .ok .cont, z => exact False.elim z
  | .ok (.ret u), z =>
    obtain ⟨v, H', os, bare, un, hok', r', q⟩ := z
    have q' : v = .bl true := q
    subst q'
    have r2 : u = Value.bool true := r'
    subst r2
    refine ⟨rfl, .of_keep fun b o e => ?_, os, bare⟩
    rcases only b with z | ⟨ob, xs, z⟩
    · exact un.keep b o e z (fun m => nomatch (show b ∈ ([] : List Addr) from m)) (by simp)
    · obtain ⟨e1, _⟩ := hok b _ z
      obtain ⟨e2, _⟩ := hok' b _ (un.frzs b ob _ z)
      rw [e1] at e
      cases e
      exact e2
end
theorem walkQ {l : PySem.W.OpenLaw} {k : Nat} {q : Program} {loose : List Str} {XP : (Str → Option Value) → Heap → Prop} {YP : World → Heap → Prop} {d : DefRec} (hn : l.most = some 63) (hdf : d.params.defaults = []) (hr : Room k callerA)
    (F : ∀ (w : World) (mg : Str → Option Value) (fa : Addr) (h : Heap), YP w h → h.Ns mainGlobals mg → mg d.name = some (.ref fa) →
      ∃ (K : PySem.W.Frag) (T : Cl) (s : DSp), K.In h ∧ (∀ base : Heap, K.In base → base.Ns mainGlobals mg → FQ T l.prog w K mg base k fa s) ∧ T.tabs = [] ∧ ∀ vs H Q E, spTop K T.tabs vs H Q E → spD T K s vs H Q E) :
    PySem.W.WalkO q loose XP YP l.row.toRowW d [] (fun f vs => PySem.call f vs) := by
  refine Att.attach_call hn hdf fun w s₀ sh mg mb fa o pm cd doc a us ns G Y ho hd hcd hmg hobj hints hlen hg => ?_
  obtain ⟨K, T, s, kin, hF, ht, hs⟩ := F w mg fa _ Y G.T.g hmg
  have rv := vals_ints hints
  have go := fun {H : Hp} few hok only hS => call_at (H := H) kin G.T.g G.T.b G.T.builtins G.T.nolimit hg hobj few hok only hS hlen hr hF ht hs
  have sz : ns.length ≤ sizeLine := by unfold sizeLine; omega
  have lenV := hints.length
  cases hk : K.lookup a with
  | some o2 =>
    have e := kin a o2 hk
    rw [hobj] at e
    cases e
    exact go (H := fun _ => none) (fun b z => absurd rfl z) (fun b u z => nomatch (show (none : Option HO) = some u from z)) (fun _ => .inl rfl) (.inr ⟨_, us.toArray, _, hk, rfl, rfl, rfl, by rw [List.size_toArray, lenV]; exact sz, by simpa using rv⟩)
  | none =>
    let O : HO := .frz { cls := .type "list", data := .seq us.toArray } (.lst (ns.map V.int))
    have yes : (fun b => if b = a then some O else none : Hp) a = some O := if_pos rfl
    have no : ∀ b, b ≠ a → (fun b => if b = a then some O else none : Hp) b = none := fun b hb => if_neg hb
    refine go (H := fun b => if b = a then some O else none) (fun b z => ⟨?_, hk⟩) (fun b u z => ?_) (fun b => ?_) (.inl (.inr ⟨_, yes⟩))
    · false_or_by_contra
      rename_i hb
      exact z (no b hb)
    · by_cases hb : b = a
      · subst hb
        cases yes.symm.trans z
        exact ⟨hobj, by rw [List.length_map]; exact sz, us, _, rv, hobj⟩
      · cases (no b hb).symm.trans z
    · by_cases hb : b = a
      · subst hb
        exact .inr ⟨_, _, yes⟩
      · exact .inl (no b hb)
end DL

/-! The data layer: sorted(xs, key=lambda x: (len(x), x)). -/
namespace DL
open PySem PySem.Spec L2 PyProof.Rows
/-- what a def that holds a lambda is known by: its code object at c, its table in T.tabs -/
structure LamAt (T : Cl) (base : Heap) (mg : Str → Option Value) (cdv : Value) (q : Str) : Prop where
  ex : ∃ c P, cdv = .ref c ∧ LamX.TabB base mg c P ∧ (P, q) ∈ T.tabs ∧ ∀ p ∈ T.tabs, p.1 = P → p.2 = q
def lenD (d : D) : Int := match tupOf d with | some xs => (xs.length : Nat) | none => 0
/-- the key: how many, then the items -/
def keyLen (d : D) : PyData := .tuple [.int (lenD d), encD d]
abbrev bodyLen (x : Str) (p1 p2 p3 p4 p5 : Pos) (u : Nat) : Expr := .Tuple [.Call (.Name "len" p1) [.Name x p2] [] p3, .Name x p4] u p5
section
variable {T : Cl} {X : Cx} {W : WX} {pos : Pos}
theorem Ext.lam {A : Ax} {H H' : Hp} (e : LamX.ExtN H H') : Ext A H A H' := ⟨⟨[], by simp⟩, fun _ h => .inl h, fun _ h => h, fun a o _ k h => e a o h k, fun _ h => .inl h⟩
theorem Rl.lam {K : PySem.W.Frag} {A : Ax} {H H' : Hp} {μ : Mu} (r : Rl T K A H μ) (e : LamX.ExtN H H') (t : LamX.Tabs T.tabs H') : Rl T K A H' μ := by
  refine ⟨r.len, r.nd, fun i c f => ?_, fun a q => ⟨(r.gh a q).1, fun z => ?_⟩, t⟩
  · obtain ⟨a, h1, m⟩ := r.at_ i c f
    refine ⟨a, h1, m.mono r (.lam e) ?_⟩
    cases c with
    | lst ds => obtain ⟨vs, h', _⟩ := m; rw [h', e _ _ h' nt_lst]
    | dic ds => obtain ⟨vs, h', _⟩ := m; rw [h', e _ _ h' nt_dT]
    | obj c fs => obtain ⟨dx, vs, h', _⟩ := m; rw [h', e _ _ h' nt_ins]
  · refine (r.gh a q).2 fun o f => ?_
    false_or_by_contra
    rename_i k
    exact k (z o (e a o f fun ps y => k ⟨ps, y⟩))
/-- the lambda's turn: its key is told, all that stood is kept -/
theorem lam_turn {prog : Program} {w : World} {A : Around} {s : Shared} {f c' : Addr} {q x : Str} {params : Arguments} {scope : Scope} {pm ctv : Value} {p1 p2 p3 p4 p5 : Pos} {u : Nat} {t : Addr} {vs : List Value} {ps : List PyData} {mg mb : Str → Option Value}
    (hd : A.depth < recursionLimit) (hf : s.heap.get? f = some (PySem.W.kla_obj "<lambda>" q params (bodyLen x p1 p2 p3 p4 p5 u) scope [] pm c' ctv)) (hc : s.heap.CodeRec (.ref c') q) (nl : s.heap.NoLimit)
    (hg : s.heap.Ns mainGlobals mg) (hb : s.heap.Ns builtinsNs mb) (hlen : mg "len" = none) (hlb : mb "len" = some (.builtin "len"))
    (hbind : ∀ v : Value, bindArgs (PySem.W.kla_fn "<lambda>" q params (bodyLen x p1 p2 p3 p4 p5 u) scope [] pm (.ref c') ctv) ⟨[v], []⟩ = pure [(x, v)])
    (hk : scope.kind = .function) (hco : scope.isCoroutine = false) (hge : scope.isGenerator = false) (hx : scope.names.lookup x = some .local) (hcell : ∀ y ∈ scope.names, y.2 ≠ .cell) (hl : scope.names.lookup ("len" : Str) = some NameKind.globalImplicit)
    (hdb : (x == ("__debug__" : Str)) = false) (hcd : (x == ("__classdict__" : Str)) = false)
    (ht : IsTup s.heap t vs.toArray) (hfit : (vs.length : Int) < 2 ^ 63) (rd : ∀ h, ReadsAll h vs ps []) :
    wpAny (model prog w) A (call (.ref f) [.ref t]) (PySem.W.KeyPure (.tuple [.int (vs.length : Nat), .tuple ps]) s) (fun _ _ => False) s := by
  refine wpAny_call ?_
  refine PySem.W.kla_callFunE hd hf rfl hco hge rfl hc ?_
  rw [hbind]
  refine wpAny_pure (wpAny_newFunctionEnv hcell (fun y hy => ?_) (fun h₁ hns hsb => ⟨nl.fresh _ hsb, PySem.W.kla_codeExpr ?_⟩) hk)
  · rw [List.mem_singleton.mp hy]; exact hx
  · have hne : ∀ b o, s.heap.get? b = some o → h₁.get? b = some o := fun b o e => hsb.extBut b o (Nat.ne_of_lt (Heap.lt_size e)) (Heap.get?_push_of_some _ e)
    have var : ∀ {h2 : Heap} {tk : Nat} {Q : Value → Shared → Prop} {E : Value → Shared → Prop} {A' : Around} {pos : Pos}, (∀ b o, h₁.get? b = some o → h2.get? b = some o) → Q (.ref t) { s with heap := h2, toks := tk } →
        wpAny (model prog w) A' (eval (.Name x pos) (newEnv scope s.heap.objs.size mainGlobals [] (q ++ ".<locals>.") (some f) (.ref c') none builtinsNs)) Q E { s with heap := h2, toks := tk } := fun {h2 tk Q E A' pos} k2 hq =>
      wpAny_Name (wpAny_loadName_local hk hx (hns.keeps k2) (by show ([(x, Value.ref t)] : List (Str × Value)).reverse.lookup x = _; simp) hq) hdb
    refine wpAny_Tuple_spliced ?_
    refine Calls.spliced_cons (wpAny_Call_Name_kw ?_)
    refine Calls.Name_function_global hk hl (Calls.loadGlobal_builtin (hg.keeps hne) hlen (hb.keeps hne) hlb ?_)
    refine PyProof.Rows.callWith_builtin1 ?_
    refine Calls.spliced_cons (var (fun _ _ e => e) (Calls.spliced_nil ?_))
    refine len_tuple (ht.keeps hne) (by simpa using hfit) ?_
    refine Calls.spliced_cons (var (fun _ _ e => e) (Calls.spliced_nil ⟨by show 2 ≤ sizeLine; decide, ?_⟩))
    refine ⟨_, _, rfl, fun b o e => Heap.get?_push_of_some _ (hne b o e), ?_⟩
    refine .tuple (Heap.get?_push_size _ rfl) rfl rfl (as := []) ?_
    obtain ⟨o, e1, e2, n, e3⟩ := ht
    exact .cons (as := []) (bs := []) (.int _ _) (.cons (as := []) (bs := []) (.tuple (Heap.get?_push_of_some _ (hne _ _ e1)) e2 e3 (by simpa using rd _)) .nil)
theorem reads_ints {h : Heap} : ∀ {ns : List Int} {us : List Value}, Vals (ns.map V.int) us → ReadsAll h us (ns.map .int) []
  | [], _, .nil => .nil
  | n :: ns, _, .cons r t => by
    obtain ⟨k, rfl⟩ := r
    exact .cons (as := []) (bs := []) (.int _ _) (reads_ints t)
theorem each_tups {K : PySem.W.Frag} {A : Ax} {H : Hp} : ∀ {ls : List (List Int)} {vs : List V} {us : List Value}, Reps T K A H vs (ls.map fun l => D.tup (l.map D.int)) → Vals vs us → PySem.W.EachIs (fun (w : Value) (l : List Int) => ∃ v, RelV v w ∧ Rep T K A H v (.tup (l.map D.int))) us ls
  | [], _, _, .nil, .nil => .nil
  | _ :: _, _, _, .cons r t, .cons u w => .cons ⟨_, u, r⟩ (each_tups t w)
theorem each_tback {K : PySem.W.Frag} {A : Ax} {H : Hp} : ∀ {us : List Value} {ls : List (List Int)}, PySem.W.EachIs (fun (w : Value) (l : List Int) => ∃ v, RelV v w ∧ Rep T K A H v (.tup (l.map D.int))) us ls → ∃ vs, Vals vs us ∧ Reps T K A H vs (ls.map fun l => D.tup (l.map D.int))
  | _, _, .nil => ⟨[], .nil, .nil⟩
  | _, _, .cons ⟨v, h1, h2⟩ t => by
    obtain ⟨vs, h3, h4⟩ := each_tback t
    exact ⟨v :: vs, .cons h1 h3, .cons h2 h4⟩
/-- sorted by that key -/
@[simp] def tdSortLen (t : TDA) : TDF := fun ρ μ P PX => t ρ μ (fun ds μ1 => match ds with
  | [d] => match lsrOf μ1 d with
    | some xs => ∃ ls : List (List Int), xs = ls.map (fun l => D.tup (l.map D.int)) ∧ P (ls.mergeSort (PySem.W.dataLe false fun l : List Int => .tuple [.int (l.length : Nat), .tuple (l.map .int)]) |>.map fun l => D.tup (l.map D.int)) μ1
    | none => False
  | _ => False) PX
theorem pf_sortLen {e : Expr} {k : Nat} {p lpos kpos p1 p2 p3 p4 p5 : Pos} {u : Nat} {x : Str} {params : Arguments} {scope : Scope} {t : TDA} (LA : LamAt T X.base X.mg X.env.code (X.env.qual ++ "<lambda>")) (hr : Room (k + 2) X.A)
    (ha : PDA T X W [e] t) (hg : Gl X "sorted") (hm : X.mg "sorted" = none) (hml : X.mg "len" = none)
    (hdef : defaultsOf params X.env = ([], []) := by rfl) (hcl : cloFrom X.env.cells scope.names [] = [] := by rfl)
    (hbind : ∀ (q : Str) (pm cv ctv v : Value), bindArgs (PySem.W.kla_fn "<lambda>" q params (bodyLen x p1 p2 p3 p4 p5 u) scope [] pm cv ctv) ⟨[v], []⟩ = pure [(x, v)] := by intros; rfl)
    (hk : scope.kind = .function := by rfl) (hco : scope.isCoroutine = false := by rfl) (hge : scope.isGenerator = false := by rfl) (hx : scope.names.lookup x = some .local := by rfl) (hcell : ∀ y ∈ scope.names, y.2 ≠ .cell ∧ y.2 ≠ .free := by decide) (hl : scope.names.lookup ("len" : Str) = some NameKind.globalImplicit := by rfl)
    (hdb : (x == ("__debug__" : Str)) = false := by decide) (hcd : (x == ("__classdict__" : Str)) = false := by decide)
    (he : backTo pos (starEach [e] X.env) = (false, eval e X.env) :: backTo pos (starEach [] X.env) := by rfl) (hpl : (backTo pos (starEach [e] X.env)).any (·.1) = false := by rfl) :
    PDF T X W (.Call (.Name "sorted" p) [e] [⟨some "key", .Lambda params (bodyLen x p1 p2 p3 p4 p5 u) scope lpos, kpos⟩] pos) (tdSortLen t) := by
  obtain ⟨c, P, hcode, TB, hmem, huniq⟩ := LA.ex
  refine ⟨⟨fun pins s σ H Q I ⟨A, μ, ρ, PP, PX, rl, re, h, kk, kx⟩ => ?_⟩⟩
  refine wpAny_Call_Name_kw (ld_blt I hg hm rfl ?_ (by decide) (by decide))
  refine PyProof.Rows.callWith_kw ?_ he hpl (by rfl) (by rfl)
  refine thn (ha.run.run pos pins s σ H (fun vs H1 => ∃ A1 μ1 ds, Ext A H A1 H1 ∧ Rl T X.K A1 H1 μ1 ∧ Reps T X.K A1 H1 vs ds ∧ match ds with
    | [d] => match lsrOf μ1 d with
      | some xs => ∃ ls : List (List Int), xs = ls.map (fun l => D.tup (l.map D.int)) ∧ PP (ls.mergeSort (PySem.W.dataLe false fun l : List Int => .tuple [.int (l.length : Nat), .tuple (l.map .int)]) |>.map fun l => D.tup (l.map D.int)) μ1
      | none => False
    | _ => False) I ⟨A, μ, ρ, _, PX, rl, re, h, fun ds μ1 A1 vs H1 x1 r1 p1 h1 => ⟨A1, μ1, ds, x1, r1, p1, h1⟩, kx⟩) fun us s1 ⟨vs, H1, I1, rv, A1, μ1, ds, x1, r1, pv, q⟩ => ?_
  split at q
  · obtain ⟨v, rfl, pw⟩ := reps1 pv
    split at q
    · rename_i xs hxs
      obtain ⟨ls, rfl, q⟩ := q
      obtain ⟨a, ws, rfl, h1, h2⟩ := lsrOf_view r1 pw hxs
      obtain ⟨u1, rfl, ru⟩ := vals1 rv
      cases ru
      show wpAny _ _ (evalAll [do let v ← eval (.Lambda params (bodyLen x p1 p2 p3 p4 p5 u) scope lpos) X.env; standAt pos; pure v]) _ _ s1
      refine wpAny_evalAll_cons (wpAny_bind ?_)
      refine LamX.lam_make2 I1 TB hcode hmem huniq r1.tb hdef (fun y hy e => absurd e (hcell y hy).2) fun f c' pm ctv H2 s2 I2 eN T2 hf hfn hfr hco2 => ?_
      refine wpAny_bind (wpAny_standAt (wpAny_pure (wpAny_evalAll_nil ?_)))
      have x12 : Ext A H A1 H2 := x1.tr r1 (.lam eN)
      have r12 : Rl T X.K A1 H2 μ1 := r1.lam eN T2
      have sq : SqL X.K H2 a ws := by
        rcases h1 with (h1 | ⟨o, h1⟩) | h1
        · exact .of (eN _ _ h1 nt_lst)
        · exact .inl (.inr ⟨o, eN _ _ h1 nt_frz⟩)
        · exact .inr h1
      have h2 := h2.mono r1 (.lam eN)
      obtain ⟨its, rvs, hli, hz⟩ := I2.list sq
      have hu := hr.units
      have hcode2 := I2.hok c' _ hco2
      rw [hcl] at hf
      refine PySem.W.sorted_key_data (b := false) (kw := [(Str.ofString "key", .ref f)]) (f := .ref f) (R := fun (w : Value) (l : List Int) => ∃ v, RelV v w ∧ Rep T X.K A1 H2 v (.tup (l.map D.int))) (bs := ls) (fun l : List Int => .tuple [.int (l.length : Nat), .tuple (l.map .int)]) hli.isList (each_tups h2 rvs)
        (PySem.W.AllAlike.of fun b b' => by simp [PySem.W.alike, PySem.W.alikeAll, PySem.W.alike_ints]) (PySem.W.Sortable.tuples fun b => ⟨_, _, rfl⟩) (by rw [h2.length, List.length_map] at hz; exact hz) (fun l _ => ?_) (PyProof.Rows.ksk_s1 _ _) (fun _ => PyProof.Rows.ksk_l1 _ _) (fun z => PyProof.Rows.ksk_t1 f z) (fun w l hR hl' hp tk kp => ?_) fun out c0 hp tk kp hD0 hD hlen eo => ?_
      · simp [PyData.depth, PyData.depthAll, depthAll_ints]
        omega
      · obtain ⟨v2, rw2, rp⟩ := hR
        cases rp with
        | @tup b o vs2 _ e1 e2 q2 =>
          cases rw2
          have hv2 := q2.ints
          subst hv2
          have I3 : L2.Inv X pins σ H2 { s2 with heap := hp, toks := tk } := I2.kept kp
          obtain ⟨it2, rv2, ht2, hz2⟩ := I3.tuple (.inl (.inr ⟨o, e1⟩))
          obtain ⟨⟨oc, vs3, t3, g1, g2, g3⟩, _, _⟩ := I3.hok c' _ hco2
          obtain ⟨mb, b1, b2⟩ := I3.mod.blt
          have hl2 : it2.length = l.length := by rw [← rv2.length, List.length_map]
          have fin := lam_turn (prog := X.prog) (w := X.w) (A := X.A.in1.in1) (s := { s2 with heap := hp, toks := tk }) (t := b) (vs := it2) (ps := l.map .int) (by have := hr.depth; exact this) (kp _ _ hf) ⟨c', oc, vs3, t3, rfl, g1, g2, g3⟩ I3.nolimit (I3.mod.glob.keeps I3.bk) (b1.keeps I3.bk) hml ((b2 _ (by decide)).trans rfl) (fun v => hbind _ _ _ _ _) hk hco hge hx (fun y hy => (hcell y hy).1) hl hdb hcd ht2 (by rw [List.length_map] at hz2; rw [hl2]; unfold sizeLine at hz2; omega) (fun h => reads_ints rv2)
          rw [hl2] at fin
          exact fin
      · obtain ⟨zs, z1, z2⟩ := each_tback eo
        have hp0 : H2 (s2.heap.objs.size + 1) = none := I2.hok.fresh (Nat.le_succ _)
        have hzl : zs.length ≤ sizeLine := by
          rw [z2.length, List.length_map, List.length_mergeSort]
          rw [h2.length, List.length_map] at hz
          exact hz
        obtain ⟨k1, k2, k3, k4, k5, k6⟩ := fresh_k x12 r12 x12.sub hp0 z2
        exact ⟨.ref _, upd H2 (s2.heap.objs.size + 1) (.lst zs), I2.laid (t' := tk) kp (Nat.le_succ _) ⟨hzl, out, c0, z1, hD⟩, rfl, kk _ _ _ _ _ _ k1 k2 k3 k4 k5 k6 q⟩
    · exact q.elim
  · exact q.elim
end
end DL

/-! The data layer: a def that holds a lambda; the end of a law that has such defs. -/
namespace DL
open PySem PySem.Spec L2 PyProof.Rows
section
variable {T : Cl} {P : Program} {w : World} {K : PySem.W.Frag} {mg : Str → Option Value} {base : Heap}
theorem fq_okL {x qual q : Str} {st : Stmt} {f : Addr} {fd : FuncData} {N ps : List Str} {k : Nat} {s : DSp} {t : TDS} (LA : LamAt T base mg fd.code q) (F : Fun K x qual st f fd) (S : FnScope N ps (defScope st)) (b : Binds K fd ps []) (hN : ps.length ≤ N.length)
    (ht : ∀ (cdv : Value) (_ : LamAt T base mg cdv q) (A : Around) (outer : List PySem.Env) (sh : Shared) (H : Hp) (E : XK), Room k (A.deeper (PyProof.Rows.envOfC qual (defScope st) sh.heap.objs.size f cdv)) → A.guards = some [] →
        PDB T (cxOf (L2.CX P w) P w K mg base N qual (defScope st) f cdv A outer sh H E) (WE0 E) (defBody st) t)
    (hl : ∀ ds μ P PX, s ds μ P PX → ds.length = ps.length) (hs : ∀ ds μ Q PX, s ds μ Q PX → t (startD N.length ds) μ (endD μ Q PX)) : FQ T P w K mg base (k + 1) f s :=
  fq_core WE0 (fun PX x _ μ' => PX x μ') (fun c => LamAt T base mg c q) LA F S b hN ht hl hs fun E A H PX kx x ρ' μ' A' σ' c q H' x1 r1 re1 xr h1 => kx x μ' A' c q H' x1 r1 xr h1
theorem fq_okLN {x qual q : Str} {st : Stmt} {f : Addr} {fd : FuncData} {N ps : List Str} {k : Nat} {s : DSp} {t : TDS} (LA : LamAt T base mg fd.code q) (F : Fun K x qual st f fd) (S : FnScope N ps (defScope st)) (b : Binds K fd ps []) (hN : ps.length ≤ N.length)
    (ht : ∀ (cdv : Value) (_ : LamAt T base mg cdv q) (A : Around) (outer : List PySem.Env) (sh : Shared) (H : Hp) (E : XK), Room k (A.deeper (PyProof.Rows.envOfC qual (defScope st) sh.heap.objs.size f cdv)) → A.guards = some [] →
        PDB T (cxOf (L2.CX P w) P w K mg base N qual (defScope st) f cdv A outer sh H E) (WE0 E0) (defBody st) t)
    (hl : ∀ ds μ P PX, s ds μ P PX → ds.length = ps.length) (hs : ∀ ds μ Q PX, s ds μ Q PX → t (startD N.length ds) μ (endD μ Q (fun _ _ => False))) : FQ T P w K mg base (k + 1) f s :=
  fq_core (fun _ => WE0 E0) (fun _ _ _ _ => False) (fun c => LamAt T base mg c q) LA F S b hN ht hl hs fun _ _ _ _ _ _ _ _ _ _ _ _ _ _ _ _ _ z => z.elim
end
/-- a def with its code object and its empty table, as the written part tells -/
def TabDef (K : PySem.W.Frag) (c P : Addr) : Prop := PySem.W.codeHdIn K c P = true ∧ K.lookup P = none
theorem tabIn_of {K : PySem.W.Frag} {x : Str} {f c P : Addr} {oc oc2 : Value} {od od2 : Option Addr} {sl sl2 : Array (Option Value)} {fd : FuncData} {vs : Array Value} (h1 : PySem.W.nsIn K mainGlobals x = some (some (.ref f))) (h2 : K.lookup f = some ⟨oc, od, .func fd, sl⟩) (h3 : fd.code = .ref c)
    (h4 : K.lookup c = some ⟨oc2, od2, .fields vs, sl2⟩) (h5 : vs[11]? = some (.ref P)) : PySem.W.tabIn K x = some (c, P) := by
  unfold PySem.W.tabIn
  simp only [h1, h2, h3, h4, h5]
section
variable {P : Program} {w : World} {K : PySem.W.Frag} {mg mb : Str → Option Value} {fa a : Addr} {sh : Shared} {us : List Value} {ns : List Int} {H : Hp} {k : Nat} {cs : List (Addr × Addr)}
/-- what is tracked when the law begins: the script, the tables -/
structure Beg (K : PySem.W.Frag) (a : Addr) (cs : List (Addr × Addr)) (H : Hp) : Prop where
  all : ∀ b u, H b = some u → (b = a ∧ K.lookup a = none ∧ ∃ o xs, u = .frz o (.lst xs)) ∨ ((∃ p ∈ cs, p.2 = b) ∧ u = .tbl #[])
  tab : ∀ p ∈ cs, H p.2 = some (.tbl #[])
theorem call_tabs {T : Cl} {s : DSp} (kin : K.In sh.heap) (g : sh.heap.Ns mainGlobals mg) (bn : sh.heap.Ns builtinsNs mb) (bb : ∀ x : Str, x ≠ "__name__" → mb x = bootBuiltins x) (nl : sh.heap.NoLimit) (hg : sh.gens = #[]) (script : sh.heap.get? a = some { cls := .type "list", data := .seq us.toArray })
    (emp : ∀ p ∈ cs, sh.heap.get? p.2 = some { cls := .none, data := .fields #[] }) (tds : ∀ p ∈ cs, TabDef K p.1 p.2)
    (mod : ∃ (m : Addr) (o : Obj), mg "__builtins__" = some (.ref m) ∧ m ≠ builtinsNs ∧ sh.heap.get? m = some o ∧ o.cls = .type "module" ∧ o.dict = some builtinsNs ∧ o.data = .plain)
    (B : Beg K a cs H) (hok : HOk P w H sh.heap) (hS : SqL K H a (ns.map V.int)) (hl : ns.length ≤ 63) (hr : Room k callerA) (tbs : T.tabs.map (·.1) = cs.map (·.2))
    (F : ∀ base : Heap, K.In base → base.Ns mainGlobals mg → (∀ p ∈ cs, LamX.TabB base mg p.1 p.2) → FQ T P w K mg base k fa s) (hs : ∀ vs H Q E, spTop K T.tabs vs H Q E → spD T K s vs H Q E) :
    codeAny (model P w) callerA (.call (.ref fa) ⟨[.ref a], []⟩) (fun r s' => r = .ok (.ret (.bool true)) ∧ OldK sh.heap s'.heap ∧ s'.os = sh.os ∧ AllBare s'.gens) sh := by
  -- an object that is neither the script nor a table is in the base
  have inB : ∀ {b : Addr} {o : Obj}, sh.heap.get? b = some o → o.data ≠ .seq us.toArray → o.data ≠ .fields #[] → (hidT sh.heap H).get? b = some o := fun {b o} e n1 n2 => hidT_get e (by
    cases q : H b with
    | none => rfl
    | some u =>
      rcases B.all b u q with ⟨rfl, _⟩ | ⟨⟨p, hp, rfl⟩, _⟩
      · rw [script] at e; cases e; exact absurd rfl n1
      · rw [emp p hp] at e; cases e; exact absurd rfl n2)
  have nsB : ∀ {p : Addr} {m : Str → Option Value}, sh.heap.Ns p m → (hidT sh.heap H).Ns p m := fun {p m} h => by
    obtain ⟨o, es, ep, e, d, r⟩ := h
    exact ⟨o, es, ep, inB e (by rw [d]; exact nofun) (by rw [d]; exact nofun), d, r⟩
  have kB : K.In (hidT sh.heap H) := fun b o e => hidT_get (kin b o e) (by
    cases q : H b with
    | none => rfl
    | some u =>
      rcases B.all b u q with ⟨rfl, z, _⟩ | ⟨⟨p, hp, rfl⟩, _⟩
      · rw [z] at e; cases e
      · rw [(tds p hp).2] at e; cases e)
  have dataAt : ∀ {b : Addr} {o : Obj} {q : Addr × Addr}, q ∈ cs → sh.heap.get? b = some o → o.data ≠ .fields #[] → b ≠ q.2 := fun {b o q} hq e n z => by
    rw [z, emp q hq] at e; cases e; exact n rfl
  have tabB : ∀ p ∈ cs, LamX.TabB (hidT sh.heap H) mg p.1 p.2 := fun p hp => by
    obtain ⟨og, eg, ng, g1, g2, _⟩ := id g
    refine ⟨PySem.W.codeHd_of_K kB (tds p hp).1, ?_, dataAt hp g1 (by rw [g2]; exact nofun)⟩
    obtain ⟨m, o, m1, m2, m3, m4, m5, m6⟩ := mod
    refine ⟨m, o, m1, m2, fun z => ?_, dataAt hp m3 (by rw [m6]; exact nofun), inB m3 (by rw [m6]; exact nofun) (by rw [m6]; exact nofun), m4, m5, m6⟩
    rw [z, g1] at m3
    cases m3
    rw [g2] at m6
    cases m6
  obtain ⟨mc, l1, l2⟩ := nl
  have md : Mod K mg (hidT sh.heap H) := ⟨kB, nsB g, ⟨mb, nsB bn, bb⟩, ⟨mc, nsB l1, l2⟩⟩
  have e0 : Env0 P w K mg (hidT sh.heap H) callerA [] sh H := ⟨rfl, md, fun _ _ e => of_hidT e, by rw [hidT_size]; exact Nat.le_refl _, trivial, nofun, hok, .of_eq hg⟩
  have tabs0 : LamX.Tabs T.tabs H := fun p hp => LamX.TabS.nil (by
    have : p.1 ∈ cs.map (·.2) := by rw [← tbs]; exact List.mem_map.mpr ⟨p, hp, rfl⟩
    obtain ⟨c, hc, e⟩ := List.mem_map.mp this
    rw [← e]
    exact B.tab c hc)
  have run := F _ kB (nsB g) tabB callerA [] sh H [.ref a] [.ref a] (fun v _ => v = .bl true) (fun _ _ _ => False) hr rfl e0 (.cons rfl .nil) (hs _ _ _ _ ⟨a, ns, rfl, hS, tabs0, hl, fun _ => rfl⟩)
  refine codeAny_mono run fun r s' z => ?_
  match r, z with
  | .error e, z =>
    obtain ⟨_, _, _, _, _, _, _, _, _, _, _, _, z⟩ := z
    exact z.elim
  | .ok .next, z => exact False.elim z
  | .ok .brk, z => exact False.elim z
  | .ok .cont, z => exact False.elim z
  | .ok (.ret u), z =>
    obtain ⟨v, H', os, bare, un, hok', r', q⟩ := z
    have q' : v = .bl true := q
    subst q'
    have r2 : u = Value.bool true := r'
    subst r2
    have grow : ∀ p ∈ cs, ∃ more : Array Value, s'.heap.get? p.2 = some { cls := .none, data := .fields more } := fun p hp => by
      obtain ⟨more, y⟩ := un.tbls _ _ (B.tab p hp)
      exact ⟨_, hok' _ _ y⟩
    have here : ∀ b o, sh.heap.get? b = some o → (∃ p ∈ cs, p.2 = b) ∨ s'.heap.get? b = some o := fun b o e => by
      cases y : H b with
      | none => exact .inr (un.keep b o e y (fun m => nomatch (show b ∈ ([] : List Addr) from m)) (by simp))
      | some v =>
        rcases B.all b v y with ⟨rfl, _, ob, xs, rfl⟩ | ⟨y2, _⟩
        · obtain ⟨e1, _⟩ := hok _ _ y
          obtain ⟨e2, _⟩ := hok' _ _ (un.frzs _ ob _ y)
          rw [e1] at e
          cases e
          exact .inr e2
        · exact .inl y2
    refine ⟨rfl, ⟨fun b o e => ?_, fun b o e => ?_⟩, os, bare⟩
    · rcases here b o e with ⟨p, hp, rfl⟩ | y
      · obtain ⟨more, y⟩ := grow p hp
        have e2 := emp p hp
        rw [e2] at e
        cases e
        exact .inr (.inl ⟨((PySem.W.codeHd_of_K kin (tds p hp).1).tab e2).isCodeTable, rfl, #[], more, rfl, by simpa using y⟩)
      · exact .inl y
    · rcases here b o e with ⟨p, hp, rfl⟩ | y
      · obtain ⟨more, y⟩ := grow p hp
        exact ⟨_, y⟩
      · exact ⟨_, y⟩
end
theorem walkTQ {l : PySem.W.OpenLaw} {k : Nat} {q : Program} {loose : List Str} {XP : (Str → Option Value) → Heap → Prop} {YP : World → Heap → Prop} {d : DefRec} (xs : List Str) (hxs : (xs.all fun x => ((recsOf q).find? fun e => e.name == x).isSome) = true) (hn : l.most = some 63) (hdf : d.params.defaults = []) (hr : Room k callerA)
    (F : ∀ (w : World) (mg : Str → Option Value) (fa : Addr) (h : Heap), YP w h → h.Ns mainGlobals mg → mg d.name = some (.ref fa) →
      ∃ (K : PySem.W.Frag) (T : Cl) (s : DSp) (cs : List (Addr × Addr)), K.In h ∧ (∀ p ∈ cs, (∃ x ∈ xs, PySem.W.tabIn K x = some p) ∧ TabDef K p.1 p.2) ∧ T.tabs.map (·.1) = cs.map (·.2) ∧
        (∀ base : Heap, K.In base → base.Ns mainGlobals mg → (∀ p ∈ cs, LamX.TabB base mg p.1 p.2) → FQ T l.prog w K mg base k fa s) ∧ ∀ vs H Q E, spTop K T.tabs vs H Q E → spD T K s vs H Q E) :
    PySem.W.WalkO q loose XP YP l.row.toRowW d [] (fun f vs => PySem.call f vs) := by
  refine Att.attach_call hn hdf fun w s₀ sh mg mb fa o pm cd doc a us ns G Y ho hd hcd hmg hobj hints hlen hg => ?_
  obtain ⟨K, T, s, cs, kin, hc, tbs, hF, hs⟩ := F w mg fa _ Y G.T.g hmg
  have emp : ∀ p ∈ cs, sh.heap.get? p.2 = some { cls := .none, data := .fields #[] } := fun p hp => by
    obtain ⟨⟨x, hx, e⟩, _⟩ := hc p hp
    obtain ⟨d', hd'⟩ := Option.isSome_iff_exists.mp (List.all_eq_true.mp hxs x hx)
    exact (PySem.W.tab_of G.T kin hd' e).2
  have rv := vals_ints hints
  have sz : ns.length ≤ sizeLine := by unfold sizeLine; omega
  have lenV := hints.length
  have go := fun {H : Hp} B hok hS => call_tabs (H := H) (cs := cs) kin G.T.g G.T.b G.T.builtins G.T.nolimit hg hobj emp (fun p hp => (hc p hp).2) G.T.bmain B hok hS hlen hr tbs hF hs
  let tb : Addr → Bool := fun b => cs.any fun p => decide (p.2 = b)
  have tbi : ∀ {b : Addr}, tb b = true → ∃ p ∈ cs, p.2 = b := fun {b} h => by
    obtain ⟨p, hp, e⟩ := List.any_eq_true.mp h
    exact ⟨p, hp, of_decide_eq_true e⟩
  have tbo : ∀ {p : Addr × Addr}, p ∈ cs → tb p.2 = true := fun {p} hp => List.any_eq_true.mpr ⟨p, hp, decide_eq_true rfl⟩
  have ta : tb a = false := by
    cases e : tb a with
    | false => rfl
    | true =>
      obtain ⟨p, hp, rfl⟩ := tbi e
      rw [emp p hp] at hobj
      cases hobj
  cases hk : K.lookup a with
  | some o2 =>
    have e := kin a o2 hk
    rw [hobj] at e
    cases e
    refine go (H := fun b => cond (tb b) (some (.tbl #[])) none) ⟨fun b u e => ?_, fun p hp => by show cond (tb p.2) _ _ = _; rw [tbo hp]; rfl⟩ (fun b u e => ?_) (.inr ⟨_, us.toArray, _, hk, rfl, rfl, rfl, by rw [List.size_toArray, lenV]; exact sz, by simpa using rv⟩)
    all_goals
      replace e : cond (tb b) (some (HO.tbl #[])) none = some u := e
      cases t : tb b with
      | false => rw [t] at e; cases e
      | true =>
        rw [t] at e
        cases e
        first
          | exact .inr ⟨tbi t, rfl⟩
          | (obtain ⟨p, hp, rfl⟩ := tbi t; exact emp p hp)
  | none =>
    let O : HO := .frz { cls := .type "list", data := .seq us.toArray } (.lst (ns.map V.int))
    have yes : (fun b => if b = a then some O else cond (tb b) (some (.tbl #[])) none : Hp) a = some O := if_pos rfl
    have no : ∀ b, b ≠ a → (fun b => if b = a then some O else cond (tb b) (some (.tbl #[])) none : Hp) b = cond (tb b) (some (.tbl #[])) none := fun b hb => if_neg hb
    refine go (H := fun b => if b = a then some O else cond (tb b) (some (.tbl #[])) none) ⟨fun b u e => ?_, fun p hp => ?_⟩ (fun b u e => ?_) (.inl (.inr ⟨_, yes⟩))
    · by_cases hb : b = a
      · subst hb
        cases yes.symm.trans e
        exact .inl ⟨rfl, hk, _, _, rfl⟩
      · have e := (no b hb).symm.trans e
        cases t : tb b with
        | false => rw [t] at e; cases e
        | true => rw [t] at e; cases e; exact .inr ⟨tbi t, rfl⟩
    · have hb : p.2 ≠ a := by
        rintro e
        rw [← e, tbo hp] at ta
        cases ta
      refine (if_neg hb).trans ?_
      rw [tbo hp]
      rfl
    · by_cases hb : b = a
      · subst hb
        cases yes.symm.trans e
        exact ⟨hobj, by rw [List.length_map]; exact sz, us, _, rv, hobj⟩
      · have e := (no b hb).symm.trans e
        cases t : tb b with
        | false => rw [t] at e; cases e
        | true =>
          rw [t] at e
          cases e
          obtain ⟨p, hp, rfl⟩ := tbi t
          exact emp p hp
end DL

/-! The data layer: defs as the top has left them. -/
namespace DL
open PySem PySem.Spec L2 PyProof.Rows
def DefAt (K : PySem.W.Frag) (x qual : Str) (st : Stmt) (f : Addr) : Prop := PySem.W.keepIn K (.ref f) = true ∧ ∃ fd, Fun K x qual st f fd
def DefAtL (K : PySem.W.Frag) (x qual : Str) (st : Stmt) (f c : Addr) : Prop := PySem.W.keepIn K (.ref f) = true ∧ ∃ fd, Fun K x qual st f fd ∧ fd.code = .ref c
theorem FnZ.fun_ {K : PySem.W.Frag} {d : FnZ} (e : d.see K = d.said) (k : PySem.W.keepIn K (.ref (d.ad K)) = true) (c : PySem.W.codeIn K (codeOf K (d.ad K)) d.qual = true) : ∃ fd, Fun K d.nm d.qual d.st (d.ad K) fd ∧ fd.code = codeOf K (d.ad K) := by
  unfold FnZ.see FnZ.said at e
  unfold codeOf at c ⊢
  generalize hq : K.lookup (d.ad K) = q at e c ⊢
  match q, e with
  | some ⟨oc, od, .func u, osl⟩, e =>
    obtain ⟨u1, u2, u3, u4, u5, u6, u7, u8, u9, u10, u11, u12, u13, u14, u15⟩ := u
    simp only [Option.some.injEq, Prod.mk.injEq] at e
    obtain ⟨rfl, rfl, rfl, rfl, rfl, rfl, rfl, rfl, rfl⟩ := e
    exact ⟨_, fun_mk hq c k, rfl⟩
theorem FnZ.def_ {K : PySem.W.Frag} {d : FnZ} (e : d.see K = d.said) (c : d.ok K = true) : DefAt K d.nm d.qual d.st (d.ad K) := by
  obtain ⟨k, c⟩ := Bool.and_eq_true_iff.mp c
  obtain ⟨fd, F, _⟩ := FnZ.fun_ e k c
  exact ⟨k, fd, F⟩
theorem FnZ.defL {K : PySem.W.Frag} {d : FnZ} {c' : Addr} (e : d.see K = d.said) (c : d.ok K = true) (h : codeOf K (d.ad K) = .ref c') : DefAtL K d.nm d.qual d.st (d.ad K) c' := by
  obtain ⟨k, c⟩ := Bool.and_eq_true_iff.mp c
  obtain ⟨fd, F, q⟩ := FnZ.fun_ e k c
  exact ⟨k, fd, F, q.trans h⟩
section
variable {fa : PySem.W.Frag → List Bool} {fn : List FnZ} {K : PySem.W.Frag}
theorem SaysZ.fact (c : SaysZ fa fn K) (i : Nat) {b : Bool} (h : (fa K)[i]? = some b) : b = true :=
  List.all_eq_true.mp (Bool.and_eq_true_iff.mp (congrArg Prod.fst c)).1 b (List.mem_of_getElem? h)
theorem SaysZ.ok_ (c : SaysZ fa fn K) (i : Nat) {d : FnZ} (h : fn[i]? = some d) : d.ok K = true :=
  List.all_eq_true.mp (Bool.and_eq_true_iff.mp (congrArg Prod.fst c)).2 d (List.mem_of_getElem? h)
theorem SaysZ.see_ (c : SaysZ fa fn K) (i : Nat) {d : FnZ} (h : fn[i]? = some d) : d.see K = d.said := by
  have e : (fn.map fun d => d.see K)[i]? = (fn.map FnZ.said)[i]? := congrArg (fun z : AlZ => z.2[i]?) c
  rw [List.getElem?_map, List.getElem?_map, h] at e
  exact Option.some.inj e
theorem SaysZ.def_ (c : SaysZ fa fn K) (i : Nat) {d : FnZ} (h : fn[i]? = some d) : DefAt K d.nm d.qual d.st (d.ad K) := FnZ.def_ (c.see_ i h) (c.ok_ i h)
theorem SaysZ.defL (c : SaysZ fa fn K) (i : Nat) {d : FnZ} {c' : Addr} (h : fn[i]? = some d) (q : codeOf K (d.ad K) = .ref c') : DefAtL K d.nm d.qual d.st (d.ad K) c' := FnZ.defL (c.see_ i h) (c.ok_ i h) q
end
end DL

/-! The data layer: calls, by what a run at hand is worth. -/
namespace DL
open PySem PySem.Spec L2 PyProof.Rows
/-- what a call of f is worth in this context -/
def RunAt (T : Cl) (X : Cx) (E : XK) (f : Addr) (s : DSp) : Prop := ∀ (pins : List (Addr × Obj)) (σ : L2.St) (H : Hp) (sh : Shared) (us : List Value) (vs : List V) (Q : VK), L2.Inv X pins σ H sh → Vals vs us → spD T X.K s vs H Q E →
  codeAny (model X.prog X.w) X.A (.call (.ref f) ⟨us, []⟩) (fun r s' => match r with | .ok (.ret v) => EP X pins σ Q v s' | .ok _ => False | .error e => X.xe e s') sh
/-- what the making of an object is worth -/
def MkAt (T : Cl) (X : Cx) (E : XK) (c : Nat) (sI : DSp) : Prop := PySem.W.keepIn X.K (.ref (T.cls c)) = true ∧ ∀ (pins : List (Addr × Obj)) (σ : L2.St) (H : Hp) (sh : Shared) (us : List Value) (vs : List V) (Q : VK), L2.Inv X pins σ H sh → Vals vs us →
  (∀ x dx, H x = none → H dx = none → dx ≠ x → spD T X.K sI (V.ref x :: vs) (upd (upd H dx (.own x)) x (.ins (T.cls c) dx [])) (fun v H2 => v = .non ∧ Q (.ref x) H2) E) → wpAny (model X.prog X.w) X.A (call (.ref (T.cls c)) us) (EP X pins σ Q) X.xe sh
section
variable {T : Cl} {X : Cx} {E : XK} {k c : Nat} {f : Addr} {s : DSp}
theorem FD.at_ (F : FD T X.prog X.w X.K X.mg X.base k f s) (hr : Room k X.A) (hx : Passes (L2.CX X.prog X.w) X E) : RunAt T X E f s := fun _ _ _ _ _ _ _ I r h => run_fnR F hr hx I r h
theorem FQ.at_ (F : FQ T X.prog X.w X.K X.mg X.base k f s) (hr : Room k X.A) (hg : X.A.guards = some []) (hx : Passes (L2.CX X.prog X.w) X E) : RunAt T X E f s := fun pins σ H sh us vs Q I r h => by
  refine codeAny_mono (F X.A X.stack sh H us vs Q E hr hg I.env0 r h) fun z s' hq => ?_
  cases z with
  | error e => exact hx pins σ H sh e s' I hq
  | ok fl =>
    cases fl with
    | ret u => exact I.after hq
    | _ => exact hq.elim
theorem FQ.mk_ (F : FQ T X.prog X.w X.K X.mg X.base k f s) (M : Mk X.K (T.cls c) f) (hr : Room (k + 1) X.A) (hg : X.A.guards = some []) (hx : Passes (L2.CX X.prog X.w) X E) : MkAt T X E c s := ⟨M.kp, fun pins σ H sh us vs Q I r h => by
  have hq := h (sh.heap.objs.size + 1) sh.heap.objs.size (I.hok.fresh (Nat.le_succ _)) (I.hok.fresh (Nat.le_refl _)) (Nat.ne_of_lt (Nat.lt_succ_self _))
  have J := Inv.made (C := T.cls c) I
  have hg' : (X.A.under (.builtin "type.__call__" ⟨Value.ref (T.cls c) :: us, []⟩)).guards = some [] := by
    unfold PySem.Around.under
    simp only [hg]
    rfl
  have r2 : Vals (V.ref (sh.heap.objs.size + 1) :: vs) (Value.ref (sh.heap.objs.size + 1) :: us) := .cons rfl r
  refine wpAny_call (make_map (f := f) I.kIn M.makes M.init (beq_iff_eq.mp M.fn) (codeAny_mono (F _ X.stack _ _ (Value.ref (sh.heap.objs.size + 1) :: us) _ _ E (hr.make (T.cls c) us []) hg' (J.env0.make (T.cls c) us []) r2 hq) fun z s' hz => ?_))
  cases z with
  | error e => exact hx pins σ _ _ e s' J hz
  | ok fl =>
    cases fl with
    | ret u =>
      obtain ⟨v, H', I3, rv, ev, q3⟩ := J.after hz
      subst ev
      exact ⟨rv, ⟨V.ref (sh.heap.objs.size + 1), H', I3, rfl, q3⟩⟩
    | _ => exact hz.elim⟩
end
section
variable {T : Cl} {X : Cx} {E : XK} {a b e fe : Expr} {es : List Expr} {pos : Pos} {k c : Nat} {f : Addr} {s : DSp} {ta tb : TD}
theorem pd_callR {x : Str} {p : Pos} {t : TDA} (F : RunAt T X E f s) (hk : PySem.W.keepIn X.K (.ref f) = true) (hg : Gl X x) (hm : X.mg x = some (.ref f)) (ha : PDA T X (WE0 E) (e :: es) t)
    (hd : (x == ("__debug__" : Str)) = false := by decide) (he : starEach (e :: es) X.env = (false, eval e X.env) :: starEach es X.env := by rfl) (hpl : (backTo pos (starEach es X.env)).any (·.1) = false := by rfl) :
    PD T X (WE0 E) (.Call (.Name x p) (e :: es) [] pos) (tdCall s t) := by
  refine ⟨⟨fun pins sh σ H Q I ⟨A, μ, ρ, P, PX, rl, re, h, kk, kx⟩ => ?_⟩⟩
  refine wpAny_Call_Name_kw (ld_glob I hg hm ?_ hd)
  refine PySem.W.callWith_K (h₀ := X.base) I.ok.mod.kin hk (thn (ha.run.run pos pins sh σ H (fun vs H1 => spD T X.K s vs H1 Q E) I ⟨A, μ, ρ, _, PX, rl, re, h, fun ds μ1 A1 vs H1 x1 r1 p1 h1 => spD_of (σ := σ) kk kx x1 r1 p1 h1, kx⟩) fun us s1 ⟨vs, H1, I1, r, q⟩ => ⟨I1.kIn, ?_⟩) he hpl
  exact wpAny_call (F _ _ _ _ _ _ _ I1 r q)
theorem pd_callOR {tf : TD} {t : TDA} (hf : PD T X (WE0 E) fe tf) (co : StX.CallO X.K (T.cls c) f) (F : RunAt T X E f s) (ha : PDA T X (WE0 E) (e :: es) t)
    (ht : eval (.Call fe (e :: es) [] pos) X.env = (do callWith pos (← eval fe X.env) [] (backTo pos (starEach (e :: es) X.env)) (backToKw pos (keywordEach [] X.env))) := by rfl)
    (he : starEach (e :: es) X.env = (false, eval e X.env) :: starEach es X.env := by rfl) (hpl : (backTo pos (starEach es X.env)).any (·.1) = false := by rfl) : PD T X (WE0 E) (.Call fe (e :: es) [] pos) (tdCallO c s tf t) := by
  refine ⟨⟨fun pins sh σ H Q I ⟨A, μ, ρ, P, PX, rl, re, h, kk, kx⟩ => ?_⟩⟩
  refine Call_ (thn (hf.run.run pins sh σ H (fun x H1 => ∃ a, x = .ref a ∧ ∃ fs A1 μ1, Ext A H A1 H1 ∧ Rl T X.K A1 H1 μ1 ∧ Rep T X.K A1 H1 x (.ins c fs) ∧ t ρ μ1 (fun ds μ2 => s (.ins c fs :: ds) μ2 P PX) PX) I ⟨A, μ, ρ, _, PX, rl, re, h, fun o μ1 A1 v H1 x1 r1 p1 h1 => ?_, kx⟩) fun u s1 ⟨y, H1, I1, ry, a, ey, fs, A1, μ1, x1, r1, p1, q⟩ => ?_) ht
  · cases o with
    | ins c' fs =>
      obtain ⟨rfl, h1⟩ : c' = c ∧ t ρ μ1 (fun ds μ2 => s (.ins c fs :: ds) μ2 P PX) PX := h1
      cases p1 with
      | @ins a dx _ vs _ ea l n q => exact ⟨a, rfl, fs, A1, μ1, x1, r1, .ins ea l n q, h1⟩
    | _ => exact h1.elim
  · subst ey
    obtain rfl : u = Value.ref a := ry
    refine StX.callO_with (thn (ha.run.run pos pins s1 σ H1 (fun ws H2 => ∃ ds μ2 A2, Ext A1 H1 A2 H2 ∧ Rl T X.K A2 H2 μ2 ∧ Reps T X.K A2 H2 ws ds ∧ s (.ins c fs :: ds) μ2 P PX) I1 ⟨A1, μ1, ρ, _, PX, r1, re.mono rl x1, q, fun ds μ2 A2 ws H2 x2 r2 p2 h2 => ⟨ds, μ2, A2, x2, r2, p2, h2⟩, kx.ext x1 r1⟩) fun us s2 ⟨vs, H2, I2, r, ds, μ2, A2, x2, r2, p2, q2⟩ => ?_) he hpl
    have po := p1.mono r1 x2
    obtain ⟨a', ox, od, ea, J, hd⟩ := ins_view I2 po
    cases ea
    exact ⟨⟨_, ox, od, J, hd⟩, wpAny_call (PySem.W.kco_code I2.kIn J hd co.at_ co.fn co.fi (F pins σ H2 s2 (Value.ref a :: us) (V.ref a :: vs) Q I2 (.cons rfl r) (spD_of (σ := σ) kk kx (x1.tr r1 x2) r2 (.cons po p2) q2)))⟩
theorem pd_makeR {x : Str} {p : Pos} {sI : DSp} {t : TDA} (F : MkAt T X E c sI) (mk : MkD T c sI s) (hg : Gl X x) (hm : X.mg x = some (.ref (T.cls c))) (ha : PDA T X (WE0 E) (e :: es) t)
    (hd : (x == ("__debug__" : Str)) = false := by decide) (he : starEach (e :: es) X.env = (false, eval e X.env) :: starEach es X.env := by rfl) (hpl : (backTo pos (starEach es X.env)).any (·.1) = false := by rfl) :
    PD T X (WE0 E) (.Call (.Name x p) (e :: es) [] pos) (tdMake s t) := by
  refine ⟨⟨fun pins sh σ H Q I ⟨A, μ, ρ, P, PX, rl, re, h, kk, kx⟩ => ?_⟩⟩
  refine wpAny_Call_Name_kw (ld_glob I hg hm ?_ hd)
  refine PySem.W.callWith_K (h₀ := X.base) I.ok.mod.kin F.1 (thn (ha.run.run pos pins sh σ H (fun vs H1 => ∀ x dx, H1 x = none → H1 dx = none → dx ≠ x → spD T X.K sI (.ref x :: vs) (upd (upd H1 dx (.own x)) x (.ins (T.cls c) dx [])) (fun v H2 => v = .non ∧ Q (.ref x) H2) E) I
    ⟨A, μ, ρ, _, PX, rl, re, h, fun ds μ1 A1 vs H1 x1 r1 p1 h1 => make_sp (σ := σ) mk kk kx x1 r1 p1 h1, kx⟩) fun us s1 ⟨vs, H1, I1, r, q⟩ => ⟨I1.kIn, ?_⟩) he hpl
  exact F.2 _ _ _ _ _ _ _ I1 r q
/-! operators by own methods -/
theorem run_ownR {pins : List (Addr × Obj)} {σ : L2.St} {H : Hp} {sh : Shared} {A : Ax} {μ : Mu} {vs : List V} {us : List Value} {ds : List D} {P : D → Mu → Prop} {PX : PX} {Q : VK} (F : RunAt T X E f s) (I : L2.Inv X pins σ H sh) (rl : Rl T X.K A H μ)
    (p : Reps T X.K A H vs ds) (r : Vals vs us) (h : s ds μ P PX) (kv : ∀ d' μ' A' v H', Ext A H A' H' → Rl T X.K A' H' μ' → Rep T X.K A' H' v d' → P d' μ' → Q v H')
    (kx : ∀ z μ' A' c q H', Ext A H A' H' → Rl T X.K A' H' μ' → XRep T X.K A' H' z c q → PX z μ' → E c q H') : wpAny (model X.prog X.w) X.A (call (.ref f) us) (EP X pins σ Q) X.xe sh :=
  wpAny_call (F _ _ _ _ _ _ _ I r ⟨A, μ, ds, P, PX, rl, p, h, kv, kx⟩)
theorem ox_ownCmpR {op : CmpOp} {ok : Tg → Bool} (hop : ∀ a b, compareOp op a b = richCompare op a b) (hs : PySem.W.findIn X.K (.ref (T.cls c)) (cmpInfo op).2.1 = some (some (.ref f))) (hf : PySem.W.isFn X.K (.ref f) = true) (hok : ∀ t, ok t = true → PySem.W.notFirst X.K (T.cls c) (tgV T t) = true)
    (F : RunAt T X E f s) (hr : Room k X.A) : OpX T X E (compareOp op) (rxOwn c ok s) := by
  intro pins sh σ H x y v u Q I rx ry ⟨A, μ, d, e, P, PX, rl, px, py, q, kv, kx⟩
  cases d with
  | ins c' ds =>
    obtain ⟨rfl, ho, q⟩ := q
    cases et : tgOf μ e with
    | none => rw [et] at ho; exact ho.elim
    | some t =>
      rw [et] at ho
      obtain ⟨a, ox, od, rfl, J, _⟩ := ins_view I px
      cases rx
      obtain ⟨m, hF⟩ := I.fr
      rw [hop]
      refine PySem.W.cmp_K (op := op) hr.units0 hF I.ok.mod.kin J (looks_ty I rl py ry et) (hok t ho) hs hf ?_
      refine wpAny_mono (run_ownR (Q := Q) F I rl (.cons px (.cons py .nil)) (.cons rfl (.cons ry .nil)) q kv kx) (fun w s' z => ?_) fun _ _ x => x
      obtain ⟨z', H', I', rz, qz⟩ := z
      exact SlX.cmpback rz ⟨z', H', I', rz, qz⟩
  | _ => exact q.elim
theorem ox_binR {op : Operator} (hc : PySem.W.selfFirst X.K (T.cls c) = true) (hs : PySem.W.findIn X.K (.ref (T.cls c)) (PySem.dunder op.info.2) = some (some (.ref f))) (hf : PySem.W.isFn X.K (.ref f) = true)
    (F : RunAt T X E f s) (hr : Room k X.A) : OpX T X E (binaryOp op) (rxBin c s) := by
  intro pins sh σ H x y v u Q I rx ry ⟨A, μ, d, e, P, PX, rl, px, py, q, kv, kx⟩
  cases d with
  | ins c' ds =>
    cases e with
    | ins c2 es =>
      obtain ⟨rfl, rfl, q⟩ := q
      obtain ⟨a, ox, od, rfl, J, _⟩ := ins_view I px
      obtain ⟨b, ox2, od2, rfl, J2, _⟩ := ins_view I py
      cases rx
      cases ry
      obtain ⟨m, hF⟩ := I.fr
      refine PySem.W.binop_K (op := op) hF I.ok.mod.kin J J2.type hc hs hf ?_
      refine wpAny_mono (run_ownR (Q := Q) F I rl (.cons px (.cons py .nil)) (.cons rfl (.cons rfl .nil)) q kv kx) (fun w s' z => ?_) fun _ _ x => x
      obtain ⟨z', H', I', rz, qz⟩ := z
      exact SlX.cmpback rz ⟨z', H', I', rz, qz⟩
    | _ => exact q.elim
  | _ => exact q.elim
theorem ox_binIR {op : Operator} {fo ro rc : Option Value} (hc : PySem.W.selfFirst X.K (T.cls c) = true) (hs : PySem.W.findIn X.K (.ref (T.cls c)) (PySem.dunder op.info.2) = some (some (.ref f))) (hf : PySem.W.isFn X.K (.ref f) = true)
    (h0 : PySem.W.findIn X.K (.ref (T.cls c)) (dunderR op.info.2) = some rc) (hp : rc = none ∨ ∃ g : Addr, rc = some (.ref g)) (h1 : PySem.W.findIn X.K (.type "int") (PySem.dunder op.info.2) = some fo) (h2 : PySem.W.findIn X.K (.type "int") (dunderR op.info.2) = some ro)
    (hsub : PySem.W.subIn X.K (.type "int") (.ref (T.cls c)) = some false)
    (F : RunAt T X E f s) (hr : Room k X.A) : OpX T X E (binaryOp op) (rxBinI c s) := by
  intro pins sh σ H x y v u Q I rx ry ⟨A, μ, d, e, P, PX, rl, px, py, q, kv, kx⟩
  cases d with
  | ins c' ds =>
    cases py with
    | int i =>
      obtain ⟨rfl, q⟩ := q
      obtain ⟨a, ox, od, rfl, J, _⟩ := ins_view I px
      cases rx
      obtain ⟨m, hF⟩ := I.fr
      obtain ⟨tk, rfl⟩ := ry
      refine PySem.W.ksp_binT (T := "int") (op := op) hF I.ok.mod.kin J rfl hc hs hf h0 hp h1 h2 hsub ?_
      refine wpAny_mono (run_ownR (Q := Q) F I rl (.cons px (.cons (.int i) .nil)) (.cons rfl (.cons ⟨tk, rfl⟩ .nil)) q kv kx) (fun w s' z => ?_) fun _ _ x => x
      obtain ⟨z', H', I', rz, qz⟩ := z
      exact SlX.cmpback rz ⟨z', H', I', rz, qz⟩
    | _ => exact q.elim
  | _ => exact q.elim
theorem ox_inR (hs : PySem.W.findIn X.K (.ref (T.cls c)) "__contains__" = some (some (.ref f))) (hf : PySem.W.isFn X.K (.ref f) = true)
    (F : RunAt T X E f s) (hr : Room k X.A) : OpX T X E (compareOp .In) (rxIn c s) := by
  intro pins sh σ H x y v u Q I rx ry ⟨A, μ, d, e, P, PX, rl, px, py, q, kv, kx⟩
  cases e with
  | ins c' ds =>
    obtain ⟨rfl, q⟩ := q
    obtain ⟨a, ox, od, rfl, J, _⟩ := ins_view I py
    cases ry
    obtain ⟨m, hF⟩ := I.fr
    refine PySem.W.in_K hF I.ok.mod.kin J hs hf ?_
    refine wpAny_mono (run_ownR (Q := fun z H' => ∃ b, z = .bl b ∧ Q (.bl b) H') F I rl (.cons py (.cons px .nil)) (.cons rfl (.cons rx .nil)) q (fun d' μ' A' v' H' x1 r1 p1 h1 => ?_) kx) (fun w s' z => ?_) fun _ _ x => x
    · cases p1 with
      | bl b => exact ⟨b, rfl, kv _ _ _ _ _ x1 r1 (.bl b) h1⟩
      | _ => exact h1.elim
    · obtain ⟨z', H', I', rz, b, rfl, qz⟩ := z
      cases rz
      exact wpAny_truthy_bool ⟨.bl b, _, I', rfl, qz⟩
  | _ => exact q.elim
end
end DL

/-! The data layer: texts: repr. -/
namespace DL
open PySem PySem.Spec L2 PyProof.Rows
section
variable {T : Cl} {X : Cx} {E : XK} {a b e : Expr} {es : List Expr} {pos : Pos} {k c : Nat} {f : Addr} {s : DSp}
/-- repr of data, no object of an own class within -/
@[simp] def rdRepr : RDC := fun ds μ P => match ds with
  | [d] => match pyOf μ d with
    | some p => p.showable = true ∧ p.hasDict = false ∧ p.depth ≤ 60 ∧ p.shown.length ≤ sizeLine ∧ P (.str p.shown) μ
    | none => False
  | _ => False
theorem cd_repr (hr : Room k X.A) (hg : X.A.guards = some []) : CallD T X (.builtin "repr") rdRepr := by
  intro pins s σ H vs us Q I r ⟨A, μ, ds, P, rl, pv, q, kk⟩
  unfold rdRepr at q
  split at q
  · rename_i d
    split at q
    · rename_i p hp
      obtain ⟨h1, h2, h3, h4, q⟩ := q
      obtain ⟨v, rfl, rd⟩ := reps1 pv
      obtain ⟨u, rfl, ru⟩ := vals1 r
      obtain ⟨as, hR⟩ := Dp.reads I p v u (pyOf_dp rl rd hp) ru
      have hu := hr.units
      have fin : ∀ h' tk (t : Tok), (∀ b o, s.heap.get? b = some o → h'.get? b = some o) → EP X pins σ Q (.str p.shown t) { s with heap := h', toks := tk } := fun h' tk t hk =>
        ⟨.str p.shown, H, I.kept (t' := tk) hk, ⟨t, rfl⟩, kk _ μ A _ H (.refl _ _) rl (.str _) q⟩
      have here : ∀ {a : Addr}, u = .ref a → wpAny (model X.prog X.w) X.A (call (.builtin "repr") [u]) (EP X pins σ Q) X.xe s := fun {a} e => by
        subst e
        exact repr_of_reads' hR h1 (PyData.noDict_hsm h2) hg (by omega) (fun _ _ z => z) (fun h' t tk hk => fin h' tk t hk) h4
      cases rd with
      | non =>
        cases ru
        cases (show some PyData.none = some p from hp)
        exact PySem.P.repr_of_none (fin s.heap _ _ fun _ _ z => z)
      | bl b =>
        cases ru
        cases (show some (PyData.bool b) = some p from hp)
        exact PySem.P.repr_of_bool (fin s.heap _ _ fun _ _ z => z)
      | int i =>
        obtain ⟨t, rfl⟩ := ru
        cases (show some (PyData.int i) = some p from hp)
        exact PySem.P.repr_of_int (of_decide_eq_true (show decide (i.natAbs.log2 < 1920) = true by simpa [PyData.showable] using h1)) (fin s.heap _ _ fun _ _ z => z)
      | str x =>
        obtain ⟨t, rfl⟩ := ru
        cases (show some (PyData.str x) = some p from hp)
        exact PySem.P.repr_of_str (fin s.heap _ _ fun _ _ z => z) (by simpa [PyData.shown] using h4)
      | tup e1 e2 e3 => cases ru; exact here rfl
      | tupw e1 e2 => cases ru; exact here rfl
      | tupp e1 e2 => cases ru; exact here rfl
      | lst e1 e2 e3 => cases ru; exact here rfl
      | scr e1 e2 => cases ru; exact here rfl
      | mu e1 => cases ru; exact here rfl
      | ins e1 e2 e3 e4 => cases hp
      | ty n => cases hp
      | cl c => cases hp
    · exact q.elim
  · exact q.elim
/-! ### str(x), f'..', sep.join(xs) -/
@[simp] def rdStr : RDC := fun ds μ P => match ds with
  | [.int i] => i.natAbs.log2 < 1920 ∧ P (.str (toString i)) μ
  | [.str x] => P (.str x) μ
  | _ => False
theorem cd_str : CallD T X (.type "str") rdStr := by
  intro pins s σ H vs us Q I r ⟨A, μ, ds, P, rl, pv, q, kk⟩
  unfold rdStr at q
  split at q
  · rename_i i
    obtain ⟨v, rfl, rd⟩ := reps1 pv
    cases rd
    exact call_str_int pins s σ H _ us Q I r ⟨i, rfl, q.1, kk _ μ A _ H (.refl _ _) rl (.str _) q.2⟩
  · rename_i x
    obtain ⟨v, rfl, rd⟩ := reps1 pv
    cases rd
    exact SkE.call_str_str pins s σ H _ us Q I r ⟨x, rfl, kk _ μ A _ H (.refl _ _) rl (.str _) q⟩
  · exact q.elim
variable {W : WX}
/-- the parts of f'..': what each says -/
def tdsJoin : List TD → Str → Env → Mu → (Str → Mu → Prop) → PX → Prop
  | [], acc, _, μ, P, _ => P acc μ
  | t :: ts, acc, ρ, μ, P, PX => t ρ μ (fun d μ1 => match d with
    | .str y => (acc ++ y).length ≤ sizeLine ∧ tdsJoin ts (acc ++ y) ρ μ1 P PX
    | _ => False) PX
inductive PDJ (T : Cl) (X : Cx) (W : WX) : List Expr → List TD → Prop
  | nil : PDJ T X W [] []
  | cons {e : Expr} {t : TD} {es : List Expr} {ts : List TD} : PD T X W e t → PDJ T X W es ts → PDJ T X W (e :: es) (t :: ts)
theorem PDJ.pj {es : List Expr} {ts : List TD} (h : PDJ T X W es ts) : PJ X es (ts.map fun t => lift T X W t) := by
  induction h with
  | nil => exact .nil
  | cons h _ ih => exact .cons h.run ih
theorem tds_lift {σ : L2.St} {ρ : Env} : ∀ (ts : List TD) (acc : Str) (A : Ax) (μ : Mu) (H : Hp) (P : Str → Mu → Prop) (PX : PX) (Q : Str → Hp → Prop), Rl T X.K A H μ → RE T X.K A H σ ρ → tdsJoin ts acc ρ μ P PX →
    (∀ y μ' A' H', Ext A H A' H' → Rl T X.K A' H' μ' → P y μ' → Q y H') → XOk T X W A H σ PX → tJs (ts.map fun t => lift T X W t) acc σ H Q
  | [], acc, A, μ, H, P, PX, Q, rl, re, h, kk, kx => kk acc μ A H (.refl _ _) rl h
  | t :: ts, acc, A, μ, H, P, PX, Q, rl, re, h, kk, kx => ⟨A, μ, ρ, _, PX, rl, re, h, fun d μ1 A1 v H1 x1 r1 p1 h1 => by
      cases p1 with
      | str y => exact ⟨y, rfl, h1.1, tds_lift ts (acc ++ y) A1 μ1 H1 P PX Q r1 (re.mono rl x1) h1.2 (fun y μ' A' H' x2 => kk y μ' A' H' (x1.tr r1 x2)) (kx.ext x1 r1)⟩
      | _ => exact h1.elim, kx⟩
@[simp] def tdJoined (ts : List TD) : TD := fun ρ μ P PX => tdsJoin ts Str.empty ρ μ (fun y μ' => P (.str y) μ') PX
theorem pd_joined {v1 v2 : Expr} {rest : List Expr} {ts : List TD} (h : PDJ T X W (v1 :: v2 :: rest) ts) : PD T X W (.JoinedStr (v1 :: v2 :: rest) pos) (tdJoined ts) :=
  ⟨PE.mono (pe_joined h.pj) fun σ H Q ⟨A, μ, ρ, P, PX, rl, re, q, kk, kx⟩ => tds_lift ts Str.empty A μ H _ PX _ rl re q (fun y μ' A' H' x r p => kk _ μ' A' _ H' x r (.str y) p) kx⟩
theorem pd_joined1 {t : TD} (h : PD T X W e t) : PD T X W (.JoinedStr [e] pos) t := ⟨pe_joined1 h.run⟩
/-- {x} of a text or a number -/
@[simp] def tdFmt (t : TD) : TD := fun ρ μ P PX => t ρ μ (fun d μ1 => match d with
  | .str y => y.length ≤ sizeLine ∧ P (.str y) μ1
  | .int i => i.natAbs.log2 < 1920 ∧ P (.str (toString i)) μ1
  | _ => False) PX
theorem pd_fmt {t : TD} (h : PD T X W e t) : PD T X W (.FormattedValue e (-1) none pos) (tdFmt t) :=
  ⟨PE.mono (pe_fmt h.run) fun σ H Q ⟨A, μ, ρ, P, PX, rl, re, q, kk, kx⟩ => ⟨A, μ, ρ, _, PX, rl, re, q, fun d μ1 A1 v H1 x1 r1 p1 h1 => by
    cases p1 with
    | str y => exact .inl ⟨y, rfl, h1.1, kk _ μ1 A1 _ H1 x1 r1 (.str y) h1.2⟩
    | int i => exact .inr ⟨i, rfl, h1.1, kk _ μ1 A1 _ H1 x1 r1 (.str _) h1.2⟩
    | _ => exact h1.elim, kx⟩⟩
variable {o : Expr} {to : TD} {t : TDA} {apos cpos : Pos}
def joinK (x : Str) (P : D → Mu → Prop) : List D → Mu → Prop := fun ds μ => match ds with
  | [d] => ∃ ys : List Str, seqOf μ d = some (ys.map D.str) ∧ (ys.map (·.length)).sum + ys.length * x.length ≤ 16777216 ∧ P (.str (Txt.join x ys)) μ
  | _ => False
@[simp] def tdStrJoin (to : TD) (t : TDA) : TD := fun ρ μ P PX => to ρ μ (fun d μ1 => match d with
  | .str x => t ρ μ1 (joinK x P) PX
  | _ => False) PX
theorem pd_join (ho : PD T X W o to) (ha : PDA T X W (e :: es) t) (base : attributeBase o "join" X.env (eval o X.env) = eval o X.env := by rfl)
    (few : ((backTo cpos (starEach (e :: es) X.env)).all (fun x => !x.1) && (backToKw cpos (keywordEach [] X.env)).all (fun x => x.1.isSome)
      && decide ((e :: es).length + ([] : List Keyword).length + (if ([] : List Keyword).isEmpty then 0 else 1) < 30)) = true := by rfl)
    (line : (apos.endLine == cpos.line) = true := by rfl) (hs : starEach (e :: es) X.env = (false, eval e X.env) :: starEach es X.env := by rfl) (plain : (backTo cpos (starEach es X.env)).any (·.1) = false := by rfl) :
    PD T X W (.Call (.Attribute o "join" apos) (e :: es) [] cpos) (tdStrJoin to t) :=
  ⟨PE.mono (pe_bm PySem.F.plainAttrs_str PySem.F.slot_str_join PySem.F.type_str_join mt_join ho.run ha.run base few line hs plain) fun σ H Q ⟨A, μ, ρ, P, PX, rl, re, h, kk, kx⟩ => ⟨A, μ, ρ, _, PX, rl, re, h, fun d μ1 A1 v H1 x1 r1 p1 h1 => by
    cases p1 with
    | str x =>
      refine ⟨rfl, A1, μ1, ρ, _, PX, r1, re.mono rl x1, h1, fun ds μ2 A2 ws H2 x2 r2 p2 h2 => ?_, kx.ext x1 r1⟩
      unfold joinK at h2
      split at h2
      · rename_i d
        obtain ⟨ys, hd, hz, h2⟩ := h2
        obtain ⟨w, rfl, rd⟩ := reps1 p2
        obtain ⟨p, vs, rfl, hq, hr⟩ := seqOf_view r2 rd hd
        have := hr.strs
        subst this
        exact ⟨x, p, ys, rfl, rfl, hq, hz, kk _ μ2 A2 _ H2 (x1.tr r1 x2) r2 (.str _) h2⟩
      · exact h2.elim
    | _ => exact h1.elim, kx⟩⟩
end
end DL

/-! The data layer: own exceptions. -/
namespace DL
open PySem PySem.Spec L2 PyProof.Rows
section
variable {T : Cl} {X : Cx} {E : XK} {pos : Pos} {c : Nat} {ρ : Env} {μ : Mu}
/-- an own class of exceptions, as the top has made it -/
structure XCl (T : Cl) (K : PySem.W.Frag) (c : Nat) (bmB : List Value) (newId : String) : Prop where
  ex : PySem.W.excIn K (T.xcls c) bmB newId = true
  kp : PySem.W.keepIn K (.ref (T.xcls c)) = true
  sub : PySem.W.subIn K (.ref (T.xcls c)) (.type "BaseException") = some true
  ty : PySem.W.typeIn K (.ref (T.xcls c)) = some (.type "type")
@[simp] def sRaise (c : Nat) : TDS := fun ρ μ D => D.ex ⟨c, none⟩ ρ μ
/-- raise C('..') -/
theorem pds_raise {x m : Str} {j : Nat} {p p2 pos' : Pos} {B newId initId : String} {bmB : List Value} (hc : X.calm = true) (tk : Takes X (WE0 E)) (F : ExcBaseFacts B newId initId bmB) (q : XCl T X.K c bmB newId) (gC : X.mg x = some (.ref (T.xcls c))) (hg : Gl X x)
    (hdb : (x == ("__debug__" : Str)) = false := by decide) : PDS T X (WE0 E) (.Raise (some (.Call (.Name x p) [.Constant (.str m) j p2] [] pos)) none pos') (sRaise c) :=
  ⟨PS.mono (ps_raise hc tk (pmk_own F q.ex gC q.kp (raises_own q.sub q.ty) hg hdb)) fun D σ H ⟨A, μ, ρ, E', rl, re, h, k⟩ => k.ex ⟨c, none⟩ ρ μ A σ _ _ H (.refl _ _) rl re ⟨rfl, rfl⟩ h⟩
end
end DL

/-! The data layer: tuples that may be keys of a dict; dicts. -/
namespace DL
open PySem PySem.Spec L2 PyProof.Rows
section
variable {T : Cl} {X : Cx} {W : WX} {a b e o i value : Expr} {es : List Expr} {pos pos' : Pos} {ta tb td ty tv : TD}
theorem laidP {pins : List (Addr × Obj)} {σ : L2.St} {H : Hp} {s : Shared} {vs : List V} {us : List Value} (I : L2.Inv X pins σ H s) (r : Vals vs us) (z : vs.length ≤ sizeLine) :
    L2.Inv X pins σ (upd H s.heap.objs.size (.tup vs)) { s with heap := s.heap.push (tupO us) } :=
  I.laid (t' := s.toks) (fun b u e => Heap.get?_push_of_some _ e) (Nat.le_refl _) ⟨z, us, r, ⟨_, Heap.get?_push_size _ rfl, rfl, _, rfl⟩⟩
theorem newP {A : Ax} {H : Hp} {K : PySem.W.Frag} {μ : Mu} {vs : List V} {ds : List D} {p : Addr} (rl : Rl T K A H μ) (q : Reps T K A H vs ds) (hp : H p = none) :
    Ext A H A (upd H p (.tup vs)) ∧ Rl T K A (upd H p (.tup vs)) μ ∧ Rep T K A (upd H p (.tup vs)) (.ref p) (.tupp ds) := by
  have s := same_upd (o := .tup vs) hp
  exact ⟨.same s, rl.same s, .tupp upd_same (q.mono rl (.same s))⟩
@[simp] def tdTupP (t : TDA) : TD := fun ρ μ P PX => t ρ μ (fun ds μ1 => ds.length ≤ sizeLine ∧ P (.tupp ds) μ1) PX
theorem pd_tupP {x1 : Nat} {t : TDA} (h : PDA T X W es t) : PD T X W (.Tuple es x1 pos) (tdTupP t) := by
  refine ⟨⟨fun pins s σ H Q I hq => ?_⟩⟩
  obtain ⟨A, μ, ρ, P, PX, rl, re, q, k, kx⟩ := hq
  refine wpAny_Tuple_spliced (thn (h.run.run pos pins s σ H (fun vs H1 => vs.length ≤ sizeLine ∧ ∀ p, H1 p = none → Q (.ref p) (upd H1 p (.tup vs))) I ⟨A, μ, ρ, _, PX, rl, re, q, fun ds μ1 A1 vs H1 x1 r1 p1 h1 => ⟨by rw [p1.length]; exact h1.1, fun p hp => ?_⟩, kx⟩)
    fun us s1 ⟨vs, H1, I1, r, z, q1⟩ => ⟨by rw [← r.length]; exact z, .ref s1.heap.objs.size, _, laidP I1 r z, rfl, q1 _ (I1.hok.fresh (Nat.le_refl _))⟩)
  obtain ⟨x2, r2, p2⟩ := newP r1 p1 hp
  exact k _ _ _ _ _ (x1.tr r1 x2) r2 p2 h1.2
@[simp] def rdTupleP : RDC := fun ds μ P => match ds with
  | [d] => match lsrOf μ d with | some xs => P (.tupp xs) μ | none => False
  | _ => False
theorem cd_tupleP : CallD T X (.type "tuple") rdTupleP := by
  intro pins s σ H vs us Q I r ⟨A, μ, ds, P, rl, pv, q, k⟩
  unfold rdTupleP at q
  split at q
  · obtain ⟨v, rfl, r1⟩ := reps1 pv
    split at q
    · rename_i xs hx
      obtain ⟨a, ws, rfl, h1, h2⟩ := lsrOf_view rl r1 hx
      obtain ⟨u, rfl, ru⟩ := vals1 r
      cases ru
      obtain ⟨its, rv, ht, hz⟩ := I.list h1
      have hlen := rv.length
      refine call_tuple_list ht.isList (fun h' kp => ?_) (by simp only [List.size_toArray] <;> omega)
      have I1 : L2.Inv X pins σ H { s with heap := h' } := I.kept (t' := s.toks) kp
      obtain ⟨x3, r3, p3⟩ := newP rl h2 (I1.hok.fresh (Nat.le_refl _))
      exact ⟨.ref h'.objs.size, _, laidP I1 rv hz, rfl, k _ _ _ _ _ x3 r3 p3 q⟩
    · exact q.elim
  · exact q.elim
/-- t + u, both of this form -/
@[simp] def rdCatP : RD2 := fun x y μ P => match x, y with
  | .tupp xs, .tupp ys => xs.length + ys.length ≤ sizeLine ∧ P (.tupp (xs ++ ys)) μ
  | _, _ => False
theorem od_catP : OpD T X (binaryOp .Add) rdCatP := by
  intro pins s σ H x y v u Q I rx ry ⟨A, μ, d, e, P, rl, px, py, q, k⟩
  cases px with
  | @tupp a xs dx hx qx =>
    cases py with
    | @tupp b ys dy hy qy =>
      cases rx; cases ry
      have q : dx.length + dy.length ≤ sizeLine ∧ P (.tupp (dx ++ dy)) μ := q
      obtain ⟨its, r1, p1, _⟩ := I.tuple (.inl (.inl hx))
      obtain ⟨its2, r2, p2, _⟩ := I.tuple (.inl (.inl hy))
      by_cases n1 : dx = []
      · subst n1
        cases qx
        cases r1
        exact cat_tup0 p1 p2 ⟨.ref b, H, I, rfl, k _ μ A _ H (.refl _ _) rl (.tupp hy qy) q.2⟩
      · have m1 : its ≠ [] := fun z => n1 (qx.nil_iff.mp (r1.nil_iff.mp z))
        have zz : (xs ++ ys).length ≤ sizeLine := by rw [List.length_append, qx.length, qy.length]; exact q.1
        refine HT.cat_tup p1 p2 m1 (fun z => ?_) (fun _ => ?_) (by rw [← r1.length, ← r2.length, ← List.length_append]; exact zz)
        · have n2 : dy = [] := qy.nil_iff.mp (r2.nil_iff.mp z)
          subst n2
          exact ⟨.ref a, H, I, rfl, k _ μ A _ H (.refl _ _) rl (.tupp hx qx) (by simpa using q.2)⟩
        · obtain ⟨x3, r3, p3⟩ := newP rl (qx.append qy) (I.hok.fresh (Nat.le_refl _))
          exact ⟨.ref _, _, laidP I (r1.append r2) zz, rfl, k _ _ _ _ _ x3 r3 p3 q.2⟩
    | _ => exact q.elim
  | _ => exact q.elim
end
/-! ### dicts: keys are tuples of numbers -/
def getI (kvs : List (List Int × D)) (ns : List Int) : Option D := (kvs.find? fun p => decide (p.1 = ns)).map (·.2)
def putI (kvs : List (List Int × D)) (ns : List Int) (d : D) : List (List Int × D) :=
  if (kvs.any fun p => decide (p.1 = ns)) = true then kvs.map (fun p => if p.1 = ns then (p.1, d) else p) else kvs ++ [(ns, d)]
theorem keyI_eq {p : List Int × D} {ns : List Int} : keyI p = ns.map Sum.inl ↔ p.1 = ns := by
  unfold keyI
  exact ⟨fun h => (List.map_inj_right fun x y z => Sum.inl.inj z).mp h, fun h => by rw [h]⟩
section
variable {T : Cl} {K : PySem.W.Frag} {A : Ax} {H : Hp}
theorem getI_rep {ns : List Int} {d : D} : ∀ {kvs : List (List Int × D)} {vs : List V}, Reps T K A H vs (kvs.map (·.2)) → getI kvs ns = some d → ∃ v, valV ((kvs.map keyI).zip vs) (ns.map Sum.inl) = some v ∧ Rep T K A H v d
  | [], _, _, h => by cases h
  | p :: kvs, _, .cons (v := v) (vs := vs) r t, h => by
    show ∃ w, valV ((keyI p, v) :: ((kvs.map keyI).zip vs)) (ns.map Sum.inl) = some w ∧ _
    by_cases e : p.1 = ns
    · have : getI (p :: kvs) ns = some p.2 := by simp [getI, e]
      rw [this] at h
      cases h
      exact ⟨v, valV_pos (keyI_eq.mpr e), r⟩
    · have : getI (p :: kvs) ns = getI kvs ns := by simp [getI, e]
      rw [this] at h
      rw [valV_neg fun z => e (keyI_eq.mp z)]
      exact getI_rep t h
theorem anyI : ∀ {kvs : List (List Int × D)} {vs : List V} (ns : List Int), vs.length = kvs.length → (((kvs.map keyI).zip vs).any fun kv => decide (kv.1 = ns.map Sum.inl)) = kvs.any fun p => decide (p.1 = ns)
  | [], _, _, _ => rfl
  | p :: kvs, [], _, h => by simp at h
  | p :: kvs, v :: vs, ns, h => by
    show (decide (keyI p = ns.map Sum.inl) || (((kvs.map keyI).zip vs).any fun kv => decide (kv.1 = ns.map Sum.inl))) = (decide (p.1 = ns) || kvs.any fun p => decide (p.1 = ns))
    rw [anyI ns (by simpa using h)]
    congr 1
    by_cases e : p.1 = ns
    · rw [decide_eq_true e, decide_eq_true (keyI_eq.mpr e)]
    · rw [decide_eq_false e, decide_eq_false fun z => e (keyI_eq.mp z)]
theorem mapI {ns : List Int} {d : D} {v : V} (r : Rep T K A H v d) : ∀ {kvs : List (List Int × D)} {vs : List V}, Reps T K A H vs (kvs.map (·.2)) →
    ∃ vs', ((kvs.map keyI).zip vs).map (fun kv => if kv.1 = ns.map Sum.inl then (kv.1, v) else kv) = ((kvs.map fun p => if p.1 = ns then (p.1, d) else p).map keyI).zip vs' ∧ Reps T K A H vs' ((kvs.map fun p => if p.1 = ns then (p.1, d) else p).map (·.2))
  | [], _, .nil => ⟨[], rfl, .nil⟩
  | p :: kvs, _, .cons (v := w) (vs := vs) q t => by
    obtain ⟨vs', h1, h2⟩ := mapI (ns := ns) r t
    by_cases e : p.1 = ns
    · refine ⟨v :: vs', ?_, ?_⟩
      · show (if keyI p = ns.map Sum.inl then (keyI p, v) else (keyI p, w)) :: ((kvs.map keyI).zip vs).map (fun kv => if kv.1 = ns.map Sum.inl then (kv.1, v) else kv) = _
        rw [if_pos (keyI_eq.mpr e), h1]
        show _ = ((keyI (if p.1 = ns then (p.1, d) else p)) :: _).zip (v :: vs')
        rw [if_pos e]
        rfl
      · show Reps T K A H (v :: vs') ((if p.1 = ns then (p.1, d) else p).2 :: _)
        rw [if_pos e]
        exact .cons r h2
    · refine ⟨w :: vs', ?_, ?_⟩
      · show (if keyI p = ns.map Sum.inl then (keyI p, v) else (keyI p, w)) :: ((kvs.map keyI).zip vs).map (fun kv => if kv.1 = ns.map Sum.inl then (kv.1, v) else kv) = _
        rw [if_neg (fun z => e (keyI_eq.mp z)), h1]
        show _ = ((keyI (if p.1 = ns then (p.1, d) else p)) :: _).zip (w :: vs')
        rw [if_neg e]
        rfl
      · show Reps T K A H (w :: vs') ((if p.1 = ns then (p.1, d) else p).2 :: _)
        rw [if_neg e]
        exact .cons q h2
theorem putI_rep {ns : List Int} {d : D} {v : V} {kvs : List (List Int × D)} {vs : List V} (r : Rep T K A H v d) (q : Reps T K A H vs (kvs.map (·.2))) :
    ∃ vs', putK ((kvs.map keyI).zip vs) (ns.map Sum.inl) v = ((putI kvs ns d).map keyI).zip vs' ∧ Reps T K A H vs' ((putI kvs ns d).map (·.2)) := by
  have hl : vs.length = kvs.length := by rw [q.length, List.length_map]
  unfold putK putI
  rw [anyI ns hl]
  by_cases e : (kvs.any fun p => decide (p.1 = ns)) = true
  · rw [if_pos e, if_pos e]
    exact mapI r q
  · rw [if_neg e, if_neg e]
    refine ⟨vs ++ [v], ?_, ?_⟩
    · rw [List.map_append, List.zip_append (by rw [List.length_map, hl])]
      rfl
    · rw [List.map_append]
      exact q.append (.cons r .nil)
end
section
variable {T : Cl} {X : Cx} {W : WX} {o i value : Expr} {pos pos' : Pos} {td ty tv : TD}
def intsP : D → Option (List Int)
  | .tupp xs => intsOf xs
  | _ => none
theorem intsP_view {K : PySem.W.Frag} {A : Ax} {H : Hp} {v : V} {d : D} {ns : List Int} (r : Rep T K A H v d) (h : intsP d = some ns) : ∃ b, v = .ref b ∧ H b = some (.tup ((ns.map Sum.inl : List Key).map kV)) := by
  cases r with
  | @tupp a vs ds e q =>
    have hd := intsOf_eq (show intsOf ds = some ns from h)
    subst hd
    have := q.ints
    subst this
    refine ⟨a, rfl, ?_⟩
    rw [e, List.map_map]
    rfl
  | _ => cases h
/-- {} -/
@[simp] def tdDNew : TD := fun _ μ P _ => P (.mu μ.length) (μ ++ [.dic []])
/-- o[i] -/
def dgetK (m : Nat) (P : D → Mu → Prop) (y : D) (μ : Mu) : Prop := match μ[m]?, intsP y with
  | some (.dic kvs), some ns => match getI kvs ns with | some d => P d μ | none => False
  | _, _ => False
@[simp] def tdDGet (td ty : TD) : TD := fun ρ μ P PX => td ρ μ (fun x μ1 => match x with
  | .mu m => ty ρ μ1 (dgetK m P) PX
  | _ => False) PX
theorem pd_dget {k : Nat} (hr : Room k X.A) (ho : PD T X W o td) (hi : PD T X W i ty) (hs : NoSl i := by intro _ _; rfl) : PD T X W (.Subscript o i pos) (tdDGet td ty) :=
  ⟨PE.mono (pe_dget (hu_of hr) ho.run hi.run hs) fun σ H Q ⟨A, μ, ρ, P, PX, rl, re, h, kk, kx⟩ => ⟨A, μ, ρ, _, PX, rl, re, h, fun x μ1 A1 v H1 x1 r1 p1 h1 => by
    cases x with
    | mu m =>
      cases p1 with
      | @mu a _ ea =>
        replace h1 : ty ρ μ1 (dgetK m P) PX := h1
        refine ⟨A1, μ1, ρ, _, PX, r1, re.mono rl x1, h1, fun y μ2 A2 w H2 x2 r2 p2 h2 => ?_, kx.ext x1 r1⟩
        unfold dgetK at h2
        split at h2
        · rename_i kvs ns hm hn
          split at h2
          · rename_i d hd
            obtain ⟨b, hb, m2⟩ := r2.at_ m _ hm
            rw [x2.at_ ea] at hb
            cases hb
            obtain ⟨vs, e1, e2⟩ := m2
            obtain ⟨v, g1, g2⟩ := getI_rep e2 hd
            obtain ⟨b, rfl, eb⟩ := intsP_view p2 hn
            exact ⟨a, v, rfl, by rw [← g1]; exact DGet.t e1 eb, kk _ μ2 A2 _ H2 (x1.tr r1 x2) r2 g2 h2⟩
          · exact h2.elim
        · exact h2.elim
    | _ => exact h1.elim, kx⟩⟩
theorem Rl.pushD {K : PySem.W.Frag} {A : Ax} {H : Hp} {μ : Mu} {p : Addr} (r : Rl T K A H μ) (hp : H p = none) :
    Ext A H ⟨A.al ++ [p], A.gh⟩ (upd H p (.dT [])) ∧ Rl T K ⟨A.al ++ [p], A.gh⟩ (upd H p (.dT [])) (μ ++ [.dic []]) := by
  have sm := same_upd (o := .dT []) hp
  have r2 := r.same sm
  have x2 : Ext A H ⟨A.al ++ [p], A.gh⟩ (upd H p (.dT [])) := .of ⟨[p], rfl⟩ (fun a h => .inl h) (fun a h => h) (fun a o _ e => sm a o e) fun a h => by
    rcases List.mem_append.mp h with h | h
    · exact .inl h
    · rw [List.mem_singleton.mp h]; exact .inr hp
  refine ⟨x2, ?_, ?_, fun i c f => ?_, fun a h => ⟨fun z => ?_, (r2.gh a h).2⟩, r2.tb⟩
  · show (A.al ++ [p]).length = (μ ++ [MC.dic []]).length
    simp [r.len]
  · show (A.al ++ [p]).Nodup
    rw [List.nodup_append]
    refine ⟨r.nd, by simp, fun a ha b hb => ?_⟩
    rw [List.mem_singleton.mp hb]
    rintro rfl
    exact r.nal hp ha
  · by_cases hi : i < μ.length
    · rw [List.getElem?_append_left hi] at f
      obtain ⟨a, h1, m⟩ := r.at_ i c f
      refine ⟨a, x2.at_ h1, m.mono r x2 ?_⟩
      obtain ⟨o, ho⟩ := r.ex (List.mem_of_getElem? h1)
      rw [ho, sm a o ho]
    · have hi2 : i = μ.length := by
        have := (List.getElem?_eq_some_iff.mp f).1
        simp at this; omega
      subst hi2
      rw [List.getElem?_append_right (Nat.le_refl _)] at f
      simp at f
      subst f
      exact ⟨p, by show (A.al ++ [p])[μ.length]? = some p; rw [← r.len, List.getElem?_append_right (Nat.le_refl _)]; simp, [], upd_same, .nil⟩
  · rcases List.mem_append.mp z with z | z
    · exact (r.gh a h).1 z
    · rw [List.mem_singleton.mp z] at h; exact (r.gh p h).2 (.of hp)
theorem Rl.putD {K : PySem.W.Frag} {A : Ax} {H : Hp} {μ : Mu} {m : Nat} {a : Addr} {vs : List V} {kvs : List (List Int × D)} {o : MC} (r : Rl T K A H μ) (ha : A.al[m]? = some a) (hm : μ[m]? = some o) (q : Reps T K A H vs (kvs.map (·.2))) :
    Ext A H A (upd H a (.dT ((kvs.map keyI).zip vs))) ∧ Rl T K A (upd H a (.dT ((kvs.map keyI).zip vs))) (μ.set m (.dic kvs)) := by
  have mem : a ∈ A.al := List.mem_of_getElem? ha
  have x : Ext A H A (upd H a (.dT ((kvs.map keyI).zip vs))) := .of ⟨[], by simp⟩ (fun _ h => .inl h) (fun _ h => h) (fun b o n e => by rw [upd_ne (by rintro rfl; exact n mem)]; exact e) fun _ h => .inl h
  refine ⟨x, by rw [List.length_set]; exact r.len, r.nd, fun i c f => ?_, fun b h => ⟨(r.gh b h).1, ?_⟩, r.tbw ha hm⟩
  · by_cases e : m = i
    · subst e
      have hl := (List.getElem?_eq_some_iff.mp hm).1
      rw [List.getElem?_set_self hl] at f
      cases f
      exact ⟨a, ha, vs, upd_same, q.mono r x⟩
    · rw [List.getElem?_set_ne e] at f
      obtain ⟨b, h1, h2⟩ := r.at_ i c f
      have ne : b ≠ a := by
        rintro rfl
        obtain ⟨l1, e1⟩ := List.getElem?_eq_some_iff.mp h1
        obtain ⟨l2, e2⟩ := List.getElem?_eq_some_iff.mp ha
        exact e ((List.getElem_inj r.nd).mp (e2.trans e1.symm))
      exact ⟨b, h1, h2.mono r x (upd_ne ne)⟩
  · by_cases e : b = a
    · subst e; exact nt_same nofun
    · exact nt_ne e (r.gh b h).2
theorem pd_dnew : PD T X W (.Dict [] [] pos) tdDNew :=
  ⟨PE.mono pe_dnewT fun σ H Q ⟨A, μ, ρ, P, PX, rl, re, h, kk, kx⟩ => fun p hp => by
    obtain ⟨x2, r2⟩ := rl.pushD hp
    refine kk _ _ _ _ _ x2 r2 (.mu ?_) h
    show (A.al ++ [p])[μ.length]? = some p
    rw [← rl.len, List.getElem?_append_right (Nat.le_refl _)]
    simp⟩
/-- o[i] = value -/
def dputK (m : Nat) (d : D) (N : Mu → Prop) (y : D) (μ : Mu) : Prop := match μ[m]?, intsP y with
  | some (.dic kvs), some ns => kvs.length < sizeLine ∧ N (μ.set m (.dic (putI kvs ns d)))
  | _, _ => False
@[simp] def sDPutD (td ty tv : TD) : TDS := fun ρ μ E => tv ρ μ (fun d μ1 => td ρ μ1 (fun x μ2 => match x with
  | .mu m => ty ρ μ2 (dputK m d (fun μ3 => E.nx ρ μ3)) (fun x μ' => E.ex x ρ μ')
  | _ => False) (fun x μ' => E.ex x ρ μ')) (fun x μ' => E.ex x ρ μ')
theorem pds_dput {k : Nat} (hr : Room k X.A) (ho : PD T X W o td) (hi : PD T X W i ty) (hv : PD T X W value tv) (hs : swapsWith value (some (.Subscript o i pos')) pos.line X.env = pure false := by rfl) :
    PDS T X W (.Assign [.Subscript o i pos'] value pos) (sDPutD td ty tv) :=
  ⟨PS.mono (ps_dput (hu_of hr) ho.run hi.run hv.run hs) fun D σ H ⟨A, μ, ρ, E, rl, re, h, k⟩ => ⟨A, μ, ρ, _, _, rl, re, h, fun d μ1 A1 v H1 x1 r1 p1 h1 => ⟨A1, μ1, ρ, _, _, r1, re.mono rl x1, h1, fun x μ2 A2 u H2 x2 r2 p2 h2 => by
    cases x with
    | mu m =>
      cases p2 with
      | @mu a _ ea =>
        have x12 := x1.tr r1 x2
        replace h2 : ty ρ μ2 (dputK m d (fun μ3 => E.nx ρ μ3)) (fun x μ' => E.ex x ρ μ') := h2
        refine ⟨A2, μ2, ρ, _, _, r2, re.mono rl x12, h2, fun y μ3 A3 w H3 x3 r3 p3 h3 => ?_, (k.ext x12 r2).xo r2 (re.mono rl x12)⟩
        unfold dputK at h3
        split at h3
        · rename_i kvs ns hm hn
          obtain ⟨hz, h3⟩ := h3
          have ea3 := x3.at_ ea
          obtain ⟨b, hb, m2⟩ := r3.at_ m _ hm
          rw [ea3] at hb
          cases hb
          obtain ⟨vs, e1, e2⟩ := m2
          have pv := (p1.mono r1 x2).mono r2 x3
          obtain ⟨vs', e3, e4⟩ := putI_rep (ns := ns) pv e2
          obtain ⟨b, rfl, eb⟩ := intsP_view p3 hn
          obtain ⟨x4, r4⟩ := r3.putD ea3 hm e4
          have hlen : ((kvs.map keyI).zip vs).length < sizeLine := by
            rw [List.length_zip, List.length_map]
            omega
          have x13 := x12.tr r2 x3
          exact ⟨a, _, rfl, by rw [← e3]; exact DPut.t e1 eb hlen, k.nx _ _ _ _ _ (x13.tr r3 x4) r4 (re.mono rl (x13.tr r3 x4)) h3⟩
        · exact h3.elim
    | _ => exact h2.elim, (k.ext x1 r1).xo r1 (re.mono rl x1)⟩, k.xo rl re⟩⟩
end
end DL

/-! The data layer: defs and calls with a star. -/
namespace DL
open PySem PySem.Spec L2 PyProof.Rows
theorem Reps.split {T : Cl} {K : PySem.W.Frag} {A : Ax} {H : Hp} : ∀ {d1 d2 : List D} {vs : List V}, Reps T K A H vs (d1 ++ d2) → ∃ v1 v2, vs = v1 ++ v2 ∧ Reps T K A H v1 d1 ∧ Reps T K A H v2 d2
  | [], d2, vs, h => ⟨[], vs, rfl, .nil, h⟩
  | d :: d1, d2, _, .cons r t => by
    obtain ⟨v1, v2, rfl, h1, h2⟩ := Reps.split (d1 := d1) t
    exact ⟨_ :: v1, v2, rfl, .cons r h1, h2⟩
section
variable {T : Cl} {P : Program} {w : World} {K : PySem.W.Frag} {mg : Str → Option Value} {base : Heap}
/-- def f(a, .., *v): what is left over comes as a tuple -/
theorem fd_star {x qual pv : Str} {st : Stmt} {f : Addr} {fd : FuncData} {N ps : List Str} {k : Nat} {s : DSp} {t : TDS} (F : Fun K x qual st f fd) (S : FnScope N (ps ++ [pv]) (defScope st)) (hN : ps.length + 1 ≤ N.length)
    (hb : ∀ (kV dc pm : Value) (an : Option Addr) (cd ct : Value) (us rest : List Value), us.length = ps.length → bindArgs (PySem.W.fnOf x qual (defArgs st) (defBody st) (defScope st) .none kV dc pm an cd ct) ⟨us ++ rest, []⟩ = (newTuple rest >>= fun t => pure (ps.zip us ++ [(pv, t)])))
    (ht : ∀ (cdv : Value) (A : Around) (outer : List PySem.Env) (sh : Shared) (H : Hp) (E : XK), Room k (A.deeper (PyProof.Rows.envOfC qual (defScope st) sh.heap.objs.size f cdv)) →
        PDB T (cxOf (L2.CX P w) P w K mg base N qual (defScope st) f cdv A outer sh H E) (WE0 E) (defBody st) t)
    (hs : ∀ ds μ Q PX, s ds μ Q PX → ∃ d1 d2, ds = d1 ++ d2 ∧ d1.length = ps.length ∧ d2.length ≤ sizeLine ∧ t (startD N.length (d1 ++ [.tupp d2])) μ (endD μ Q PX)) : FD T P w K mg base (k + 1) f s := by
  obtain ⟨oc, od, kV, doc, pm, an, cdv, ct, osl, rfl, lk, hcd⟩ := F.ex
  refine (StX.fn_star (sp := spD T K fun ds μ Q PX => ds.length = ps.length + 1 ∧ t (startD N.length ds) μ (endD μ Q PX)) lk hcd S StX.cxUp (hb kV doc pm an cdv ct) fun A outer sh H vs Q E hr ⟨A1, μ, ds, P1, PX, rl, rp, ⟨hl, h⟩, kv, kx⟩ => ?_).imp fun vs H Q E ⟨A, μ, ds, P1, PX, rl, rp, h, kv, kx⟩ => ?_
  · refine ⟨_, (ht cdv A outer sh H E hr).run, A1, μ, startD N.length ds, _, rl, RE.begin_ rp (by rw [rp.length, hl]; exact hN), h, ?_⟩
    exact ⟨fun ρ' μ' A' σ' H' x1 r1 re1 h1 => seal_ok (d := .non) (v := .non) rl kv x1 r1 .non h1, fun d μ' A' v H' x1 r1 p1 h1 => seal_ok rl kv x1 r1 p1 h1, fun _ _ _ _ _ _ _ _ h1 => h1.elim, fun _ _ _ _ _ _ _ _ h1 => h1.elim,
      fun y ρ' μ' A' σ' c q H' x1 r1 re1 xr h1 => kx y μ' A' c q H' x1 r1 xr h1⟩
  · obtain ⟨d1, d2, rfl, hl1, hl2, h⟩ := hs _ _ _ _ h
    obtain ⟨v1, v2, rfl, r1, r2⟩ := rp.split
    refine ⟨v1, v2, rfl, by rw [r1.length]; exact hl1, by rw [r2.length]; exact hl2, fun p hp => ?_⟩
    obtain ⟨x2, l2, p2⟩ := newP rl r2 hp
    exact ⟨A, μ, d1 ++ [.tupp d2], P1, PX, l2, (r1.mono rl x2).append (.cons p2 .nil), ⟨by rw [List.length_append, hl1]; rfl, h⟩, fun d μ' A' v H' x3 => kv d μ' A' v H' (x2.tr l2 x3), fun y μ' A' c q H' x3 => kx y μ' A' c q H' (x2.tr l2 x3)⟩
end
section
variable {T : Cl} {X : Cx} {W : WX} {E : XK} {e : Expr} {es : List Expr} {pos p : Pos} {c : Nat} {f : Addr} {s : DSp}
/-- *e -/
@[simp] def tdStar (te : TD) (t : TDA) : TDA := fun ρ μ P PX => te ρ μ (fun d μ1 => match seqOf μ1 d with
  | some xs => t ρ μ1 (fun ys μ2 => P (xs ++ ys) μ2) PX
  | none => False) PX
theorem pda_star {te : TD} {t : TDA} (he : PD T X W e te) (hr : PDA T X W es t) (hs : starEach (.Starred e p :: es) X.env = (true, eval e X.env) :: starEach es X.env := by rfl) : PDA T X W (.Starred e p :: es) (tdStar te t) :=
  ⟨PA.mono (StX.pa_star he.run hr.run hs) fun σ H Q ⟨A, μ, ρ, P, PX, rl, re, h, kk, kx⟩ => ⟨A, μ, ρ, _, PX, rl, re, h, fun d μ1 A1 v H1 x1 r1 p1 h1 => by
    replace h1 : match seqOf μ1 d with
      | some xs => t ρ μ1 (fun ys μ2 => P (xs ++ ys) μ2) PX
      | none => False := h1
    split at h1
    · rename_i xs hx
      obtain ⟨a, vs, rfl, h2, h3⟩ := seqOf_view r1 p1 hx
      exact ⟨a, vs, rfl, h2.symm, A1, μ1, ρ, _, PX, r1, re.mono rl x1, h1, fun ys μ2 A2 ws H2 x2 r2 p2 h4 => kk _ μ2 A2 _ H2 (x1.tr r1 x2) r2 ((h3.mono r1 x2).append p2) h4, kx.ext x1 r1⟩
    · exact h1.elim, kx⟩⟩
/-- f(e, .., *y) -/
theorem pd_callRS {x : Str} {t : TDA} (F : RunAt T X E f s) (hk : PySem.W.keepIn X.K (.ref f) = true) (hg : Gl X x) (hm : X.mg x = some (.ref f)) (ha : PDA T X (WE0 E) (e :: es) t)
    (hd : (x == ("__debug__" : Str)) = false := by decide) (he : starEach (e :: es) X.env = (false, eval e X.env) :: starEach es X.env := by rfl) (hst : (backTo pos (starEach es X.env)).any (·.1) = true := by rfl) :
    PD T X (WE0 E) (.Call (.Name x p) (e :: es) [] pos) (tdCall s t) := by
  refine ⟨⟨fun pins sh σ H Q I ⟨A, μ, ρ, P, PX, rl, re, h, kk, kx⟩ => ?_⟩⟩
  refine wpAny_Call_Name_kw (ld_glob I hg hm ?_ hd)
  refine PySem.W.callWith_S2 (h₀ := X.base) I.ok.mod.kin hk (thn (ha.run.run pos pins sh σ H (fun vs H1 => spD T X.K s vs H1 Q E) I ⟨A, μ, ρ, _, PX, rl, re, h, fun ds μ1 A1 vs H1 x1 r1 p1 h1 => spD_of (σ := σ) kk kx x1 r1 p1 h1, kx⟩) fun us s1 ⟨vs, H1, I1, r, q⟩ => ⟨I1.kIn, ?_⟩) he hst
  exact wpAny_call (F _ _ _ _ _ _ _ I1 r q)
/-- C(e, .., *y) -/
theorem pd_makeRS {x : Str} {sI : DSp} {t : TDA} (F : MkAt T X E c sI) (mk : MkD T c sI s) (hg : Gl X x) (hm : X.mg x = some (.ref (T.cls c))) (ha : PDA T X (WE0 E) (e :: es) t)
    (hd : (x == ("__debug__" : Str)) = false := by decide) (he : starEach (e :: es) X.env = (false, eval e X.env) :: starEach es X.env := by rfl) (hst : (backTo pos (starEach es X.env)).any (·.1) = true := by rfl) :
    PD T X (WE0 E) (.Call (.Name x p) (e :: es) [] pos) (tdMake s t) := by
  refine ⟨⟨fun pins sh σ H Q I ⟨A, μ, ρ, P, PX, rl, re, h, kk, kx⟩ => ?_⟩⟩
  refine wpAny_Call_Name_kw (ld_glob I hg hm ?_ hd)
  refine PySem.W.callWith_S2 (h₀ := X.base) I.ok.mod.kin F.1 (thn (ha.run.run pos pins sh σ H (fun vs H1 => ∀ x dx, H1 x = none → H1 dx = none → dx ≠ x → spD T X.K sI (.ref x :: vs) (upd (upd H1 dx (.own x)) x (.ins (T.cls c) dx [])) (fun v H2 => v = .non ∧ Q (.ref x) H2) E) I
    ⟨A, μ, ρ, _, PX, rl, re, h, fun ds μ1 A1 vs H1 x1 r1 p1 h1 => make_sp (σ := σ) mk kk kx x1 r1 p1 h1, kx⟩) fun us s1 ⟨vs, H1, I1, r, q⟩ => ⟨I1.kIn, ?_⟩) he hst
  exact F.2 _ _ _ _ _ _ _ I1 r q
theorem FD.mk_ {k : Nat} (F : FD T X.prog X.w X.K X.mg X.base k f s) (M : Mk X.K (T.cls c) f) (hr : Room (k + 1) X.A) (hx : Passes (L2.CX X.prog X.w) X E) : MkAt T X E c s := ⟨M.kp, fun pins σ H sh us vs Q I r h => StX.run_makeR M F hr hx I r h⟩
end
end DL

/-! The data layer: own methods called; repr of own objects; abs. -/
namespace DL
open PySem PySem.Spec L2 PyProof.Rows
section
variable {T : Cl} {X : Cx} {W : WX} {E : XK} {e o : Expr} {es : List Expr} {pos apos : Pos} {c k : Nat} {f : Addr} {s : DSp} {ta : TD} {m : Str}
@[simp] def rdAbs : RDC := fun ds μ P => match ds with
  | [.int i] => P (.int (if i < 0 then -i else i)) μ
  | _ => False
theorem cd_abs : CallD T X (.builtin "abs") rdAbs := by
  intro pins s σ H vs us Q I r ⟨A, μ, ds, P, rl, pv, q, kk⟩
  unfold rdAbs at q
  split at q
  · rename_i i
    obtain ⟨v, rfl, rd⟩ := reps1 pv
    cases rd
    exact call_abs pins s σ H _ us Q I r ⟨i, rfl, kk _ μ A _ H (.refl _ _) rl (.int _) q⟩
  · exact q.elim
theorem no_fld : ∀ {ns : List Str} {vs : List V}, m ∉ ns → (ns.zip vs).lookup m = none
  | [], _, _ => rfl
  | n :: ns, [], _ => rfl
  | n :: ns, v :: vs, h => by
    rw [List.zip_cons_cons, List.lookup_cons]
    have : (m == n) = false := beq_false_of_ne fun z => h (by rw [z]; exact List.mem_cons_self)
    rw [this]
    exact no_fld fun z => h (List.mem_cons_of_mem _ z)
/-- o.m(e, ..) -/
theorem pd_methR {t : TDA} {pl : Sem Bool} (he : PD T X (WE0 E) o ta) (cl : Cls X.K (T.cls c)) (hm : Meth X.K (T.cls c) m f) (hn : m ∉ T.nm c) (F : RunAt T X E f s) (ha : PDA T X (WE0 E) (e :: es) t)
    (hst : starEach (e :: es) X.env = (false, eval e X.env) :: starEach es X.env := by rfl) (hpl : (backTo pos (starEach es X.env)).any (·.1) = false := by rfl)
    (ht : eval (.Call (.Attribute o m apos) (e :: es) [] pos) X.env = (do
      let ov ← eval o X.env
      standAt apos.atName
      let (g, first) ← holding [ov] (getMethod ov m pl)
      callWith pos g first (backTo pos (starEach (e :: es) X.env)) (backToKw pos (keywordEach [] X.env))) := by rfl) : PD T X (WE0 E) (.Call (.Attribute o m apos) (e :: es) [] pos) (tdCallO c s ta t) := by
  refine ⟨⟨fun pins sh σ H Q I ⟨A, μ, ρ, P, PX, rl, re, h, kk, kx⟩ => ?_⟩⟩
  refine PySem.W.methodCall_KW (pl := pl) (thn (he.run.run pins sh σ H (fun x H1 => ∃ a, x = .ref a ∧ ∃ fs A1 μ1, Ext A H A1 H1 ∧ Rl T X.K A1 H1 μ1 ∧ Rep T X.K A1 H1 x (.ins c fs) ∧ t ρ μ1 (fun ds μ2 => s (.ins c fs :: ds) μ2 P PX) PX) I ⟨A, μ, ρ, _, PX, rl, re, h, fun o μ1 A1 v H1 x1 r1 p1 h1 => ?_, kx⟩) fun u s1 ⟨y, H1, I1, ry, a, ey, fs, A1, μ1, x1, r1, p1, q⟩ => ?_) ht
  · cases o with
    | ins c' fs =>
      obtain ⟨rfl, h1⟩ : c' = c ∧ t ρ μ1 (fun ds μ2 => s (.ins c fs :: ds) μ2 P PX) PX := h1
      cases p1 with
      | @ins a dx _ vs _ ea l n q => exact ⟨a, rfl, fs, A1, μ1, x1, r1, .ins ea l n q, h1⟩
    | _ => exact h1.elim
  · subst ey
    obtain rfl : u = Value.ref a := ry
    obtain ⟨dx, vs, ea⟩ : ∃ dx vs, H1 a = some (.ins (T.cls c) dx ((T.nm c).zip vs)) := by
      cases p1 with
      | @ins _ dx _ vs _ ea l n q => exact ⟨dx, vs, ea⟩
    refine getmeth_ok I1 ea cl hm (no_fld hn) ?_
    refine PySem.W.callWith_K (first := [.ref a]) (h₀ := X.base) I.ok.mod.kin hm.kp (thn (ha.run.run pos pins s1 σ H1 (fun ws H2 => ∃ ds μ2 A2, Ext A1 H1 A2 H2 ∧ Rl T X.K A2 H2 μ2 ∧ Reps T X.K A2 H2 ws ds ∧ s (.ins c fs :: ds) μ2 P PX) I1 ⟨A1, μ1, ρ, _, PX, r1, re.mono rl x1, q, fun ds μ2 A2 ws H2 x2 r2 p2 h2 => ⟨ds, μ2, A2, x2, r2, p2, h2⟩, kx.ext x1 r1⟩) fun us s2 ⟨vs, H2, I2, r, ds, μ2, A2, x2, r2, p2, q2⟩ => ⟨I2.kIn, ?_⟩) hst hpl
    exact wpAny_call (F pins σ H2 s2 (Value.ref a :: us) (V.ref a :: vs) Q I2 (.cons rfl r) (spD_of (σ := σ) kk kx (x1.tr r1 x2) r2 (.cons (p1.mono r1 x2) p2) q2))
/-- o.m() -/
@[simp] def tdMeth0 (c : Nat) (s : DSp) (tf : TD) : TD := fun ρ μ P PX => tf ρ μ (fun o μ1 => match o with
  | .ins c' fs => c' = c ∧ s [.ins c fs] μ1 P PX
  | _ => False) PX
theorem pd_meth0R {pl : Sem Bool} (he : PD T X (WE0 E) o ta) (cl : Cls X.K (T.cls c)) (hm : Meth X.K (T.cls c) m f) (hn : m ∉ T.nm c) (F : RunAt T X E f s)
    (ht : eval (.Call (.Attribute o m apos) [] [] pos) X.env = (do
      let ov ← eval o X.env
      standAt apos.atName
      let (g, first) ← holding [ov] (getMethod ov m pl)
      callWith pos g first (backTo pos (starEach [] X.env)) (backToKw pos (keywordEach [] X.env))) := by rfl) : PD T X (WE0 E) (.Call (.Attribute o m apos) [] [] pos) (tdMeth0 c s ta) := by
  refine ⟨⟨fun pins sh σ H Q I ⟨A, μ, ρ, P, PX, rl, re, h, kk, kx⟩ => ?_⟩⟩
  refine PySem.W.methodCall_KW (pl := pl) (thn (he.run.run pins sh σ H (fun x H1 => ∃ a, x = .ref a ∧ ∃ fs A1 μ1, Ext A H A1 H1 ∧ Rl T X.K A1 H1 μ1 ∧ Rep T X.K A1 H1 x (.ins c fs) ∧ s [.ins c fs] μ1 P PX) I ⟨A, μ, ρ, _, PX, rl, re, h, fun o μ1 A1 v H1 x1 r1 p1 h1 => ?_, kx⟩) fun u s1 ⟨y, H1, I1, ry, a, ey, fs, A1, μ1, x1, r1, p1, q⟩ => ?_) ht
  · cases o with
    | ins c' fs =>
      obtain ⟨rfl, h1⟩ : c' = c ∧ s [.ins c fs] μ1 P PX := h1
      cases p1 with
      | @ins a dx _ vs _ ea l n q => exact ⟨a, rfl, fs, A1, μ1, x1, r1, .ins ea l n q, h1⟩
    | _ => exact h1.elim
  · subst ey
    obtain rfl : u = Value.ref a := ry
    obtain ⟨dx, vs, ea⟩ : ∃ dx vs, H1 a = some (.ins (T.cls c) dx ((T.nm c).zip vs)) := by
      cases p1 with
      | @ins _ dx _ vs _ ea l n q => exact ⟨dx, vs, ea⟩
    refine getmeth_ok I1 ea cl hm (no_fld hn) ?_
    exact PySem.W.callWith_K0 (first := [.ref a]) I1.kIn hm.kp (wpAny_call (F pins σ H1 s1 [Value.ref a] [V.ref a] Q I1 (.cons rfl .nil) (spD_of (σ := σ) kk kx x1 r1 (.cons p1 .nil) q)))
/-- a run one unit deeper -/
theorem FQ.in1_ {pins : List (Addr × Obj)} {σ : L2.St} {H : Hp} {sh : Shared} {us : List Value} {vs : List V} {Q : VK} (F : FQ T X.prog X.w X.K X.mg X.base k f s) (hr : Room (k + 1) X.A) (hg : X.A.guards = some []) (I : L2.Inv X pins σ H sh) (r : Vals vs us) (h : spD T X.K s vs H Q E0) :
    wpAny (model X.prog X.w) X.A.in1 (call (.ref f) us) (EP X pins σ Q) X.xe sh := by
  refine wpAny_call (codeAny_mono (F X.A.in1 X.stack sh H us vs Q E0 hr.in1 hg I.env0.in1 r h) fun z s' hq => ?_)
  cases z with
  | error e => exact passL pins σ H sh e s' I hq
  | ok fl =>
    cases fl with
    | ret u => exact I.after hq
    | _ => exact hq.elim
/-- repr(o) by an own __repr__ -/
@[simp] def rdReprO (c : Nat) (s : DSp) : RDC := fun ds μ P => match ds with
  | [.ins c' xs] => c' = c ∧ s [.ins c xs] μ (fun d μ' => match d with | .str y => P (.str y) μ' | _ => False) (fun _ _ => False)
  | _ => False
theorem cd_reprO (hs : PySem.W.findIn X.K (.ref (T.cls c)) "__repr__" = some (some (.ref f))) (hf : PySem.W.isFn X.K (.ref f) = true) (F : FQ T X.prog X.w X.K X.mg X.base k f s) (hr : Room (k + 1) X.A) (hg : X.A.guards = some []) : CallD T X (.builtin "repr") (rdReprO c s) := by
  intro pins sh σ H vs us Q I r ⟨A, μ, ds, P, rl, pv, q, kv⟩
  unfold rdReprO at q
  split at q
  · rename_i c' xs
    obtain ⟨rfl, q⟩ := q
    obtain ⟨v, rfl, r1⟩ := reps1 pv
    obtain ⟨a, ox, od, rfl, J, _⟩ := ins_view I r1
    obtain ⟨u, rfl, ru⟩ := vals1 r
    cases ru
    obtain ⟨m, hF⟩ := I.fr
    refine PySem.W.repr_K hr.in1.units0 hF I.ok.mod.kin J hs hf (wpAny_mono (F.in1_ (us := [.ref a]) (vs := [.ref a]) (Q := fun z H' => ∃ y, z = .str y ∧ Q (.str y) H') hr hg I (.cons rfl .nil) ⟨A, μ, _, _, _, rl, .cons r1 .nil, q, fun d' μ' A' v' H' x1 r1 p1 h1 => ?_, fun _ _ _ _ _ _ _ _ _ z => z.elim⟩) (fun w s' z => ?_) fun _ _ x => x)
    · cases p1 with
      | str y => exact ⟨y, rfl, kv _ _ _ _ _ x1 r1 (.str y) h1⟩
      | _ => exact h1.elim
    · obtain ⟨z', H', I', rz, y, rfl, qz⟩ := z
      obtain ⟨tk, rfl⟩ := rz
      exact ⟨.str y, H', I', ⟨tk, rfl⟩, qz⟩
  · exact q.elim
@[simp] def tdNeg (t : TD) : TD := fun ρ μ P PX => t ρ μ (fun d μ1 => match d with | .int i => P (.int (-i)) μ1 | _ => False) PX
theorem pd_neg {t : TD} (h : PD T X W e t) : PD T X W (.UnaryOp .USub e pos) (tdNeg t) :=
  ⟨PE.mono (pe_un un_neg h.run) fun σ H Q ⟨A, μ, ρ, P, PX, rl, re, q, kk, kx⟩ => ⟨A, μ, ρ, _, PX, rl, re, q, fun d μ1 A1 v H1 x1 r1 p1 h1 => by
    cases p1 with
    | int i => exact ⟨i, rfl, kk _ μ1 A1 _ H1 x1 r1 (.int _) h1⟩
    | _ => exact h1.elim, kx⟩⟩
/-- x, y = a, b where the tuple is never made -/
@[simp] def sPar (i j : Nat) (t : TDA) : TDS := fun ρ μ E => t ρ μ (fun ds μ' => match ds with
  | [d, e] => E.nx ((ρ.set i (some d)).set j (some e)) μ'
  | _ => False) (fun x μ' => E.ex x ρ μ')
theorem pds_par (i j : Nat) {x y : Str} {a b : Expr} {t : TDA} {px py pt : Pos} {kt k2 pt2} (hc : X.calm = true) (hN : X.N.Nodup) (hi : X.N[i]? = some x) (hj : X.N[j]? = some y) (hij : i ≠ j)
    (hx : X.env.scope.names.lookup x = some .local) (hy : X.env.scope.names.lookup y = some .local) (ha : PDA T X W [a, b] t)
    (hw : swappedStores [.Tuple [.Name x px, .Name y py] kt pt] (.Tuple [a, b] k2 pt2) X.env = pure (some [x, y]) := by rfl)
    (hs : swapsWithSole [.Tuple [.Name x px, .Name y py] kt pt] (.Tuple [a, b] k2 pt2) pos.line X.env = pure false := by rfl) :
    PDS T X W (.Assign [.Tuple [.Name x px, .Name y py] kt pt] (.Tuple [a, b] k2 pt2) pos) (sPar i j t) :=
  ⟨PS.mono (ps_par hc hN hi hj hij hx hy ha.run hw hs) fun D σ H ⟨A, μ, ρ, E', rl, re, h, k⟩ => ⟨A, μ, ρ, _, _, rl, re, h, fun ds μ1 A1 vs H1 x1 r1 p1 h1 => by
    split at h1
    · rename_i d e
      cases p1 with
      | cons p1 p2 =>
        cases p2 with
        | cons p2 p3 =>
          cases p3
          exact ⟨_, _, rfl, k.nx _ μ1 A1 _ H1 x1 r1 (((re.mono rl x1).set i p1).set j p2) h1⟩
    · exact h1.elim, k.xo rl re⟩⟩
end
end DL

/-! The data layer: how long a text of data is. -/
namespace DL
open PySem PySem.Spec L2 PyProof.Rows
mutual
/-- at least the signs of its repr -/
def cost : PyData → Nat
  | .list xs => costAll xs + 3
  | .tuple xs => costAll xs + 3
  | .dict _ => 0
  | p => p.shown.length
def costAll : List PyData → Nat
  | [] => 0
  | x :: xs => cost x + 2 + costAll xs
end
mutual
theorem shown_cost : ∀ p : PyData, p.hasDict = false → p.shown.length ≤ cost p
  | .none, _ => by rw [cost]; all_goals (try exact Nat.le_refl _); all_goals (intro _ h; cases h)
  | .bool b, _ => by rw [cost]; all_goals (try exact Nat.le_refl _); all_goals (intro _ h; cases h)
  | .int i, _ => by rw [cost]; all_goals (try exact Nat.le_refl _); all_goals (intro _ h; cases h)
  | .str x, _ => by rw [cost]; all_goals (try exact Nat.le_refl _); all_goals (intro _ h; cases h)
  | .list xs, h => by
    have h1 := shownAll_cost xs (by simpa [PyData.hasDict] using h)
    have h2 := listText_len_le (PyData.shownAll xs)
    rw [PyData.shown, cost]
    omega
  | .tuple xs, h => by
    have h1 := shownAll_cost xs (by simpa [PyData.hasDict] using h)
    have h2 := tupleText_len_le (PyData.shownAll xs)
    rw [PyData.shown, cost]
    omega
  | .dict _, h => by simp [PyData.hasDict] at h
theorem shownAll_cost : ∀ xs : List PyData, PyData.hasDictAll xs = false → ((PyData.shownAll xs).map (·.length)).sum + 2 * (PyData.shownAll xs).length ≤ costAll xs
  | [], _ => by simp [PyData.shownAll]
  | x :: xs, h => by
    have hh : PyData.hasDict x = false ∧ PyData.hasDictAll xs = false := by simpa [PyData.hasDictAll] using h
    have h1 := shown_cost x hh.1
    have h2 := shownAll_cost xs hh.2
    rw [PyData.shownAll, costAll]
    simp only [List.map_cons, List.sum_cons, List.length_cons]
    omega
end
end DL

/-! The data layer: a tuple backwards. -/
namespace DL
open PySem PySem.Spec L2 PyProof.Rows
theorem back_pick (xs : Array Value) : ((List.range xs.size).filterMap fun (k : Nat) => xs[(((xs.size : Int) - 1) + (k : Int) * (-1)).toNat]?).toArray = xs.toList.reverse.toArray := by
  congr 1
  have key : ∀ (n : Nat), n ≤ xs.size → ((List.range n).filterMap fun (k : Nat) => xs[(((xs.size : Int) - 1) + (k : Int) * (-1)).toNat]?) = xs.toList.reverse.take n := by
    intro n
    induction n with
    | zero => intro _; simp
    | succ n ih =>
      intro hn
      rw [List.range_succ, List.filterMap_append, ih (by omega), List.take_add_one]
      congr 1
      have e : (((xs.size : Int) - 1) + (n : Int) * (-1)).toNat = xs.size - 1 - n := by omega
      have h1 : xs.toList.reverse[n]? = xs[xs.size - 1 - n]? := by
        rw [List.getElem?_reverse (by simp; omega)]
        simp
      rw [h1]
      simp only [List.filterMap_cons, List.filterMap_nil, e]
      rw [Array.getElem?_eq_getElem (by omega)]
      rfl
  rw [key xs.size (Nat.le_refl _), List.take_of_length_le (by simp)]
section
variable {prog : Program} {w : World} {A : Around} {E : Value → Shared → Prop} {s : Shared}
theorem sliceBack {sl : Addr} {vs : Value} {n : Nat} {Q : Int × Int × Nat → Shared → Prop} (hs : s.heap.IsSliceOf sl .none .none vs) (ps : IsPart vs (some (-1))) (h : Q ((n : Int) - 1, -1, n) s) :
    wpAny (model prog w) A (Builtin.Slice.sliceApplied (.ref sl) (pure (n : Int))) Q E s := by
  obtain ⟨os, hos, hcs, hds⟩ := id hs
  unfold Builtin.Slice.sliceApplied Builtin.Slice.sliceFields
  refine wpAny_bind (wpAny_bind (wpAny_field hos hds (x := .none) rfl (wpAny_bind (wpAny_field hos hds (x := .none) rfl (wpAny_bind (wpAny_field hos hds (x := vs) rfl (wpAny_pure ?_)))))))
  refine wpAny_bind (HT.slicePart_ ps ?_)
  show wpAny _ _ (if ((-1 : Int) == 0) = true then _ else _) _ _ s
  rw [if_neg (by decide)]
  refine wpAny_bind (slicePart_none (wpAny_bind (slicePart_none (wpAny_bind (wpAny_pure ?_)))))
  have e1 : Builtin.Slice.sliceAdjust none none (-1) (n : Int) = ((n : Int) - 1, -1) := by
    unfold Builtin.Slice.sliceAdjust
    simp
  have e2 : Builtin.Slice.slicePlaces ((n : Int) - 1) (-1) (-1) = n := by
    unfold Builtin.Slice.slicePlaces
    have h0 : ¬ ((-1 : Int) > 0) := by decide
    simp only [h0, if_false, Int.neg_neg, Int.ediv_one]
    split <;> omega
  show wpAny _ _ (match Builtin.Slice.sliceAdjust none none (-1) (n : Int) with | (lo, hi) => pure (lo, (-1 : Int), Builtin.Slice.slicePlaces lo hi (-1))) _ _ s
  rw [e1]
  show wpAny _ _ (pure ((n : Int) - 1, (-1 : Int), Builtin.Slice.slicePlaces ((n : Int) - 1) (-1) (-1))) _ _ s
  rw [e2]
  exact wpAny_pure h
theorem getItem_back {t sl : Addr} {items : Array Value} {vs : Value} {Q : Value → Shared → Prop} (ht : IsTup s.heap t items) (hs : s.heap.IsSliceOf sl .none .none vs) (ps : IsPart vs (some (-1)))
    (h : Q (.ref s.heap.objs.size) { s with heap := s.heap.push { cls := .type "tuple", data := .seq items.toList.reverse.toArray } })
    (hsz : items.size ≤ sizeLine) : wpAny (model prog w) A (getItem (.ref t) (.ref sl)) Q E s := by
  have fits : sizeOk (.seq items.toList.reverse.toArray) := by
    show items.toList.reverse.toArray.size ≤ sizeLine
    simpa using hsz
  obtain ⟨os, hos, hcs, hds⟩ := id hs
  have hTs : s.TypeIs (.ref sl) "slice" := ⟨os, hos, hcs⟩
  unfold getItem
  try with_reducible refine wpAny_holding ?_
  first | refine wpAny_bind (wpAny_pure ?_) | skip
  refine wpAny_bind (wpAny_sequenceKey ht.typeIs (by decide) ?_)
  refine wpAny_bind (wpAny_callSpecial?_slot (name := Str.ofString "__getitem__") ht.typeIs PyProof.Rows.slot_tuple_getitem
    (wpAny_call_entry PyProof.Rows.slot_tuple_getitem ht.typeIs entry_tuple_getitem ?_ (args_tuple_getitem (.ref t) (.ref sl))))
  show wpAny _ _ (Builtin.Tuple.tupleItemsOf (.ref t) >>= _) _ _ s
  refine wpAny_bind (tupleItemsOf_ ht ?_)
  refine wpAny_bind (wpAny_typeOf hTs ?_)
  rw [if_pos (by decide)]
  refine wpAny_bind (sliceBack hs ps ?_)
  have hno : ¬ ((((items.size : Int) - 1) == 0 && (-1 : Int) == 1 && items.size == items.size) = true) := by
    rw [show ((-1 : Int) == 1) = false from rfl]
    simp
  show wpAny _ _ (if (((items.size : Int) - 1) == 0 && (-1 : Int) == 1 && items.size == items.size) = true then _ else _) _ _ s
  rw [if_neg hno, back_pick]
  first
    | exact wpAny_bind (m := Builtin.Tuple.tupleExact _) (wpAny_newObj_type (wpAny_pure ⟨_, rfl, wpAny_pure h⟩) fits)
    | exact wpAny_bind (m := Builtin.Tuple.tupleExact _) (wpAny_newObj_type (wpAny_bind (wpAny_pure (wpAny_pure ⟨_, rfl, wpAny_pure h⟩))) fits)
    | exact wpAny_bind (wpAny_bind (m := Builtin.Tuple.tupleExact _) (wpAny_newObj_type (wpAny_pure (wpAny_pure ⟨_, rfl, wpAny_pure h⟩)) fits))
    | exact wpAny_bind (wpAny_bind (m := Builtin.Tuple.tupleExact _) (wpAny_newObj_type (wpAny_pure ⟨_, rfl, wpAny_pure h⟩) fits))
end
section
variable {T : Cl} {X : Cx} {W : WX} {e : Expr} {te : TD}
/-- t[::-1] -/
@[simp] def tdRevT (te : TD) : TD := fun ρ μ P PX => te ρ μ (fun d μ1 => match tupOf d with | some xs => P (.tup xs.reverse) μ1 | none => False) PX
theorem Reps.rev {K : PySem.W.Frag} {A : Ax} {H : Hp} : ∀ {vs : List V} {ds : List D}, Reps T K A H vs ds → Reps T K A H vs.reverse ds.reverse
  | _, _, .nil => .nil
  | _, _, .cons r t => by
    rw [List.reverse_cons, List.reverse_cons]
    exact (Reps.rev t).append (.cons r .nil)
theorem pd_revT {k : Nat} {u1 u2 u3 pos : Pos} (he : PD T X W e te) : PD T X W (.Subscript e (.Slice none none (some (.UnaryOp .USub (.Constant (.int 1) k u1) u2)) u3) pos) (tdRevT te) := by
  refine ⟨⟨fun pins s σ H Q I ⟨A, μ, ρ, P, PX, rl, re, q, kk, kx⟩ => ?_⟩⟩
  refine Subscript_ (thn (he.run.run pins s σ H (fun x H1 => ∃ A1 μ1 d, Ext A H A1 H1 ∧ Rl T X.K A1 H1 μ1 ∧ Rep T X.K A1 H1 x d ∧ (match tupOf d with | some xs => P (.tup xs.reverse) μ1 | none => False)) I ⟨A, μ, ρ, _, PX, rl, re, q, fun d μ1 A1 v H1 x1 r1 p1 h1 => ⟨A1, μ1, d, x1, r1, p1, h1⟩, kx⟩) fun v s1 ⟨x, H1, I1, rx, A1, μ1, d, x1, r1, p1, h1⟩ => ?_)
  split at h1
  · rename_i ds hd
    obtain ⟨a, xs, rfl, hx, hq⟩ := tupOf_view p1 hd
    cases rx
    have step : PO X (some (.UnaryOp .USub (.Constant (.int 1) k u1) u2)) (tPart (tUn (rU fun i => .int (-i)) (tC (.int 1)))) := po_some (pe_un un_neg pe_int)
    refine wpAny_Slice (thn (po_none.run pins s1 σ H1 (fun o H2 => o = none ∧ H2 = H1) I1 ⟨rfl, rfl⟩) fun vl s2 ⟨l, H2, I2, pl, el, e2⟩ => ?_)
    subst el e2
    refine thn (po_none.run pins s2 σ H2 (fun o H3 => o = none ∧ H3 = H2) I2 ⟨rfl, rfl⟩) fun vu s3 ⟨u, H3, I3, pu, eu, e3⟩ => ?_
    subst eu e3
    refine thn (step.run pins s3 σ H3 (fun o H4 => o = some (-1) ∧ H4 = H3) I3 ⟨1, rfl, -1, rfl, rfl, rfl⟩) fun vs s4 ⟨o, H4, I4, ps, eo, e4⟩ => ?_
    subst eo e4
    cases pl
    cases pu
    have I5 : L2.Inv X pins σ H4 { s4 with heap := s4.heap.push { cls := .type "slice", data := .fields #[.none, .none, vs] } } := I4.kept (t' := s4.toks) fun b ob q => Heap.get?_push_of_some _ q
    obtain ⟨its, r, ht, hz⟩ := I5.tuple hx
    refine tail_any (ops := [.ref a, .ref s4.heap.objs.size]) ht.typeIs PyProof.Rows.slot_tuple_getitem.lookup ?_ (by with_unfolding_all rfl)
    refine getItem_back ht (Heap.IsSliceOf.new _ .none .none vs) ps ?_ (by rw [List.size_toArray, ← r.length]; exact hz)
    have r' : Vals xs.reverse its.reverse := r.reverse
    obtain ⟨x3, r3, p3⟩ := newT (us := its.reverse) r1 hq.rev (I5.hok.fresh (Nat.le_refl _))
    exact ⟨.ref _, _, laidT I5 r' (by rw [List.length_reverse]; exact hz), rfl, kk _ _ _ _ _ (x1.tr r1 x3) r3 p3 h1⟩
  · exact h1.elim
end
end DL

/-! The data layer: zip of a sequence and a changing list. -/
namespace DL
open PySem PySem.Spec L2 PyProof.Rows
section
variable {T : Cl} {X : Cx} {W : WX} {e : Expr} {pos : Pos}
theorem walkD_zipM {K : PySem.W.Frag} {A : Ax} {H : Hp} {μ : Mu} {b1 : Bool} {a1 a2 : Addr} {vx : List V} {xs ys : List D} {m : Nat} (l1 : Rl T K A H μ) (qx : Reps T K A H vx xs) (e2 : A.al[m]? = some a2)
    (kx1 : ∀ A' H', Ext A H A' H' → SqB K b1 H' a1 vx) : WalkD T K (ItzB K b1 true a1 a2) A H (zipD xs ys) (fun μ => μ[m]? = some (.lst ys)) := by
  refine ⟨fun H => SqB K b1 H a1 vx ∧ ∃ ws, SqL K H a2 ws ∧ ws.length = ys.length, fun i H v H' => ∃ TT x y, v = .ref TT ∧ H TT = none ∧ H' = upd H TT (.tup [x, y]) ∧ vx[i]? = some x ∧ ∀ ws, SqL K H a2 ws → ws[i]? = some y, ⟨fun i H hi g => ?_, fun H g => ?_, fun i H v H' hi g y => ?_⟩, fun A' μ' H' x2 r2 hk => ?_, fun A' μ' H' i x H2 x2 r2 hk hi y => ?_⟩
  · obtain ⟨g1, ws, g2, g3⟩ := g
    rw [zipD_length] at hi
    exact ⟨vx, ws, g1, g2, by rw [qx.length]; omega, by omega⟩
  · obtain ⟨g1, ws, g2, g3⟩ := g
    rw [zipD_length]
    have := qx.length
    exact ⟨vx, ws, g1, g2, by omega, by omega, by omega⟩
  · obtain ⟨TT, u, v, h1, h2, h3, h4, h5⟩ := y
    exact ⟨TT, u, v, h1, h2, h3, h4 _ g.1, h5⟩
  · obtain ⟨ws, w1, w2⟩ := r2.mutLst (x2.at_ e2) hk
    exact ⟨kx1 _ _ x2, ws, .of w1, w2.length⟩
  · obtain ⟨TT, u, v, rfl, hT, rfl, g3, g4⟩ := y
    obtain ⟨d1, d1e, d1r⟩ := (qx.mono l1 x2).get' g3
    obtain ⟨ws, w1, w2⟩ := r2.mutLst (x2.at_ e2) hk
    obtain ⟨d2, d2e, d2r⟩ := w2.get' (g4 ws (.of w1))
    have sm : Same H' (upd H' TT (.tup [u, v])) := same_upd hT
    exact ⟨_, zipD_get d1e d2e, sm, .tupw (.inl (.inl upd_same)) (.cons (d1r.mono r2 (.same sm)) (.cons (d2r.mono r2 (.same sm)) .nil))⟩
def zipKM (P : List D → (Mu → Prop) → Mu → Prop) : List D → Mu → Prop := fun ds μ1 => match ds with
  | [d, .mu m] => match seqB d, μ1[m]? with
    | some (_, xs), some (.lst ys) => P (zipD xs ys) (fun μ => μ[m]? = some (.lst ys)) μ1
    | _, _ => False
  | [d, f] => zipK P [d, f] μ1
  | _ => False
@[simp] def tdiZM (t : TDA) : TDI := fun ρ μ P PX => t ρ μ (zipKM P) PX
theorem pdi_zipM {f : Expr} {t : TDA} {p tpos : Pos} {elts : List Expr} {kk : Nat} (hg : Gl X "zip") (hm : X.mg "zip" = none) (ha : PDA T X W [e, f] t)
    (hs : starEach [e, f] X.env = (false, eval e X.env) :: starEach [f] X.env := by rfl) (hpl : (backTo pos (starEach [f] X.env)).any (·.1) = false := by rfl) :
    PDI T X W (.Tuple elts kk tpos) (.Call (.Name "zip" p) [e, f] [] pos) (tdiZM t) := by
  refine ⟨⟨fun pins s σ H R I h => ?_⟩⟩
  obtain ⟨A, μ, ρ, P, PX, rl, re, q, k, kx⟩ := h
  refine Call_ (ld_blt I hg hm PyProof.Rows.boot_zip (PyProof.Rows.callWith_type1 (thn (ha.run.run pos pins s σ H (fun vs H1 => ∃ ds μ1 A1, Ext A H A1 H1 ∧ Rl T X.K A1 H1 μ1 ∧ Reps T X.K A1 H1 vs ds ∧ zipKM P ds μ1) I ⟨A, μ, ρ, _, PX, rl, re, q, fun ds μ1 A1 vs H1 x1 r1 p1 h1 => ⟨ds, μ1, A1, x1, r1, p1, h1⟩, kx⟩) fun us s1 ⟨vs, H1, I1, r1, q1⟩ => ?_) hs hpl))
  obtain ⟨ds, μ1, A1, x1, l1, p1, h1⟩ := q1
  -- two sequences b1, b2 at a1, a2 with what the walk gives
  have fin : ∀ (b1 b2 : Bool) (a1 a2 : Addr) (vx vy : List V) (zs : List D) (kp : Mu → Prop), vs = [.ref a1, .ref a2] → SqB X.K b1 H1 a1 vx → SqB X.K b2 H1 a2 vy → WalkD T X.K (ItzB X.K b1 b2 a1 a2) A1 H1 zs kp → P zs kp μ1 →
      wpAny (model X.prog X.w) X.A (call (.type "zip") us) (fun v s1 => wpAny (model X.prog X.w) X.A (pyIter v) (PIE X pins σ (.Tuple elts kk tpos) R) X.xe s1) X.xe s1 := fun b1 b2 a1 a2 vx vy zs kp ev sx sy wd hP => by
    subst ev
    cases r1 with
    | cons r rr =>
      cases rr with
      | cons r' rr =>
        cases rr
        cases r
        cases r'
        have fresh5 : ∀ c, c ∈ [s1.heap.objs.size + 4, s1.heap.objs.size + 2, s1.heap.objs.size + 3, s1.heap.objs.size, s1.heap.objs.size + 1] → FpOk X pins H1 c := fun c hcm => by
          have hle : s1.heap.objs.size ≤ c := by
            simp only [List.mem_cons, List.not_mem_nil, or_false] at hcm
            rcases hcm with z | z | z | z | z
            · rw [z]; exact Nat.le_add_right _ _
            · rw [z]; exact Nat.le_add_right _ _
            · rw [z]; exact Nat.le_add_right _ _
            · rw [z]; exact Nat.le_refl _
            · rw [z]; exact Nat.le_add_right _ _
          exact I1.fpOk hle (I1.hok.fresh hle)
        obtain ⟨its, rv, b1'⟩ := sx.see I1
        obtain ⟨its2, rv2, b2'⟩ := sy.see I1
        refine zip_begins2 (beginsB b1 a1 its.toArray) (beginsB b2 a2 its2.toArray) b1' b2' fun h' hz hTI hTO g1 g2 hsz hk => wpAny_pyIter_zip hz ?_
        have I2 : L2.Inv X pins σ H1 { s1 with heap := h' } := I1.kept (t' := s1.toks) hk
        have S := zip_sep2 (N := s1.heap.objs.size) (fp1 := [a1]) (fp2 := [a2]) (by simpa using b1'.lt) (by simpa using b2'.lt)
        exact ⟨s1.heap.objs.size + 4, [s1.heap.objs.size + 4, s1.heap.objs.size + 2, s1.heap.objs.size + 3, s1.heap.objs.size, s1.heap.objs.size + 1], _, _, H1, rfl, I2, turn_zipB S (Nat.ne_of_lt b1'.lt) (Nat.ne_of_lt (Nat.lt_succ_of_lt b2'.lt)), ⟨hz, hTI, ⟨_, _, hTO⟩, itB0 g1, itB0 g2⟩, fresh5,
          k _ _ _ _ _ _ x1 l1 wd hP⟩
  unfold zipKM at h1
  split at h1
  · rename_i d m
    split at h1
    · rename_i b1 xs ys hx hy
      cases p1 with
      | cons p1 pp =>
        cases pp with
        | cons p2 pp =>
          cases pp
          cases p2 with
          | @mu a2 _ e2 =>
            obtain ⟨a1, vx, rfl, sx, qx, kx1⟩ := seqB_view p1 hx
            obtain ⟨vy, w1, w2⟩ := l1.mutLst e2 hy
            exact fin b1 true a1 a2 vx vy _ _ rfl sx (.of w1) (walkD_zipM l1 qx e2 fun A' H' x2 => kx1 _ _ _ l1 x2) h1
    · exact h1.elim
  · rename_i d g _
    unfold zipK at h1
    simp only at h1
    split at h1
    · rename_i b1 xs b2 ys hx hy
      cases p1 with
      | cons p1 pp =>
        cases pp with
        | cons p2 pp =>
          cases pp
          obtain ⟨a1, vx, rfl, sx, qx, kx1⟩ := seqB_view p1 hx
          obtain ⟨a2, vy, rfl, sy, qy, kx2⟩ := seqB_view p2 hy
          exact fin b1 b2 a1 a2 vx vy _ _ rfl sx sy (walkD_zip l1 qx qy (fun A' H' x2 => kx1 _ _ _ l1 x2) fun A' H' x2 => kx2 _ _ _ l1 x2) h1
    · exact h1.elim
  · exact h1.elim
end
end DL

/-! The data layer: two clauses in a comprehension, xs.remove, xs.extend. -/
namespace DL
open PySem PySem.Spec L2 PyProof.Rows
theorem it_any {J : It} {n : Nat} {G : Hp → Prop} {Y : Nat → Hp → V → Hp → Prop} (w : Walk J n G Y) {H0 : Hp} {B : V → Hp → (Hp → Prop) → Prop} {Qd : Hp → Prop} (Pv : Nat → Hp → Prop) (h0 : Pv 0 H0) (hG : ∀ i H, i ≤ n → Pv i H → G H)
    (hs : ∀ i x H H', i < n → Pv i H → Y i H x H' → B x H' (Pv (i + 1))) (hd : ∀ H, Pv n H → Qd H) :
    ∃ W : Nat → Nat → Hp → Prop, (∃ m, W 0 m H0) ∧ ∀ i m H, W i m H → (J.stop i H ∧ Qd H) ∨ (J.go i H ∧ ∃ Nx : Hp → Prop, (∀ H', Nx H' → ∃ m', m' < m ∧ W (i + 1) m' H') ∧ ∀ x H', J.yld i H x H' → B x H' Nx) := by
  refine ⟨fun i m H => n = m + i ∧ Pv i H, ⟨n, rfl, h0⟩, fun i m H ⟨e, p⟩ => ?_⟩
  have q := hG i H (by omega) p
  cases m with
  | zero =>
    have e2 : i = n := by omega
    subst e2
    exact .inl ⟨w.stops H q, hd H p⟩
  | succ m => exact .inr ⟨w.goes i H (by omega) q, Pv (i + 1), fun H' p' => ⟨m, Nat.lt_succ_self m, by omega, p'⟩, fun x H' y => hs i x H H' (by omega) p (w.yields i H x H' (by omega) q y)⟩
section
variable {T : Cl} {K : PySem.W.Frag}
theorem sqT_ext {A A' : Ax} {H H' : Hp} {μ : Mu} {a : Addr} {vs : List V} (r : Rl T K A H μ) (x : Ext A H A' H') (h : SqT K H a vs) : SqT K H' a vs := by
  rcases h with (h | ⟨o, h⟩) | h
  · exact .inl (.inl (x.keep _ _ (r.ntup h) nofun h))
  · exact .inl (.inr ⟨o, x.keep _ _ (r.nfrz h) nofun h⟩)
  · exact .inr h
theorem sqT_upd {H : Hp} {D a : Addr} {vs zs : List V} {o : HO} (e : H D = some (.lst zs)) (h : SqT K H a vs) : SqT K (upd H D o) a vs := by
  rcases h with (h | ⟨o, h⟩) | h
  · exact .inl (.inl (by rw [upd_ne (by rintro rfl; rw [e] at h; cases h)]; exact h))
  · exact .inl (.inr ⟨o, by rw [upd_ne (by rintro rfl; rw [e] at h; cases h)]; exact h⟩)
  · exact .inr h
/-- the new list at D while it grows -/
structure LcAt (T : Cl) (K : PySem.W.Frag) (A1 : Ax) (H1 : Hp) (D0 : Addr) (A : Ax) (H : Hp) (μ : Mu) (acc : List D) : Prop where
  x : Ext A1 H1 A H
  r : Rl T K (A.gst D0) H μ
  n : D0 ∉ A.gh
  e : ∃ vs, H D0 = some (.lst vs) ∧ Reps T K (A.gst D0) H vs acc
variable {A1 A : Ax} {H1 H : Hp} {D0 : Addr} {μ : Mu} {acc : List D}
theorem LcAt.up (l : LcAt T K A1 H1 D0 A H μ acc) (hD : H1 D0 = none) : Ext A1 H1 (A.gst D0) H := ⟨l.x.pre, fun a z => by
  rcases List.mem_cons.mp (show a ∈ D0 :: A.gh from z) with z | z
  · subst z; exact .inr (.of hD)
  · exact l.x.gh a z, fun a z => List.mem_cons_of_mem _ (l.x.ghk a z), l.x.keep, l.x.new⟩
/-- the list stored anew -/
theorem LcAt.put (l : LcAt T K A1 H1 D0 A H μ acc) (hD : H1 D0 = none) (n1 : D0 ∉ A1.gh) {A5 : Ax} {H5 : Hp} {μ5 : Mu} {vs5 : List V} {acc5 : List D} (x5 : Ext (A.gst D0) H A5 H5) (r5 : Rl T K A5 H5 μ5) (p5 : Reps T K A5 H5 vs5 acc5) :
    LcAt T K A1 H1 D0 (A5.off D0) (upd H5 D0 (.lst vs5)) μ5 acc5 ∧ (∀ σ ρ, RE T K A5 H5 σ ρ → RE T K ((A5.off D0).gst D0) (upd H5 D0 (.lst vs5)) σ ρ) ∧ (∀ vs ds, Reps T K A5 H5 vs ds → Reps T K ((A5.off D0).gst D0) (upd H5 D0 (.lst vs5)) vs ds) := by
  obtain ⟨vs, e2, p2⟩ := l.e
  have nal : D0 ∉ (A.gst D0).al := (l.r.gh D0 List.mem_cons_self).1
  have e5 : H5 D0 = some (.lst vs) := x5.keep D0 _ nal nofun e2
  have m5 : D0 ∈ A5.gh := x5.ghk D0 List.mem_cons_self
  have r6 := r5.off m5
  have al0 : ∃ z, ((A5.off D0).gst D0).al = A5.al ++ z := ⟨[], by simp [Ax.off, Ax.gst]⟩
  have mt0 : ∀ a, ((A5.off D0).gst D0).Mt a → A5.Mt a := fun a z => (Ax.off_mt m5 a).mp z
  have md : ((A5.off D0).gst D0).Mt D0 := .inr List.mem_cons_self
  refine ⟨⟨?_, r6.ghw List.mem_cons_self e5, Ax.off_not, vs5, upd_same, (p5.drop_ al0 mt0).ghw md e5⟩, fun σ ρ q => (q.drop_ al0 mt0).ghw md e5, fun vs ds q => (q.drop_ al0 mt0).ghw md e5⟩
  have x6 := (l.up hD).tr l.r x5
  refine ⟨x6.pre, fun a z => x6.gh a (List.mem_filter.mp z).1, fun a z => List.mem_filter.mpr ⟨x6.ghk a z, ?_⟩, fun a o n k z => ?_, x6.new⟩
  · simp only [decide_eq_true_eq]
    rintro rfl
    exact n1 z
  · rw [upd_ne (by rintro rfl; rw [hD] at z; cases z)]
    exact x6.keep a o n k z
/-- .. left as it is -/
theorem LcAt.pass (l : LcAt T K A1 H1 D0 A H μ acc) (hD : H1 D0 = none) (n1 : D0 ∉ A1.gh) {A5 : Ax} {H5 : Hp} {μ5 : Mu} (x5 : Ext (A.gst D0) H A5 H5) (r5 : Rl T K A5 H5 μ5) :
    LcAt T K A1 H1 D0 (A5.off D0) H5 μ5 acc ∧ (∀ σ ρ, RE T K A5 H5 σ ρ → RE T K ((A5.off D0).gst D0) H5 σ ρ) ∧ (∀ vs ds, Reps T K A5 H5 vs ds → Reps T K ((A5.off D0).gst D0) H5 vs ds) := by
  obtain ⟨vs, e2, p2⟩ := l.e
  have nal : D0 ∉ (A.gst D0).al := (l.r.gh D0 List.mem_cons_self).1
  have e5 : H5 D0 = some (.lst vs) := x5.keep D0 _ nal nofun e2
  have z := l.put hD n1 x5 r5 (p2.mono l.r x5)
  have ez : upd H5 D0 (.lst vs) = H5 := by
    funext q
    by_cases hq : q = D0
    · subst hq; rw [upd_same, e5]
    · rw [upd_ne hq]
  rw [ez] at z
  exact z
variable {X : Cx} {W : WX}
/-- the inner loop: over a tuple -/
theorem lc_inner {own1 : List Nat} {g1 : TG} {st1 : Env → D → Option Env} {tt1 : TDT} {te : TD} (hgd : TgD T X.K own1 g1 st1) (hD : H1 D0 = none) (n1 : D0 ∉ A1.gh) {σ0 σ2 : L2.St} {ρ0 ρ2 : Env} {a : Addr} {vs : List V} {ys : List D} {k : List D → Mu → Prop} {Nx : Hp → Prop}
    (l : LcAt T X.K A1 H1 D0 A H μ acc) (re0 : RE T X.K (A.gst D0) H σ0 ρ0) (re2 : RE T X.K (A.gst D0) H σ2 ρ2) (hs : SqT X.K H a vs) (hv : Reps T X.K (A.gst D0) H vs ys) (hg : lcGo (st1 (wipeD ρ2 own1)) tt1 te (fun _ => True) ys acc μ k)
    (hn : ∀ A' H' μ' acc', LcAt T X.K A1 H1 D0 A' H' μ' acc' → RE T X.K (A'.gst D0) H' σ0 ρ0 → k acc' μ' → Nx H') :
    ∃ W1 : Nat → Nat → Hp → Prop, (∃ m, W1 0 m H) ∧ ∀ j k H, W1 j k H → ((Itt X.K a).stop j H ∧ Nx H) ∨ ((Itt X.K a).go j H ∧ ∃ Nx1 : Hp → Prop, (∀ H', Nx1 H' → ∃ k', k' < k ∧ W1 (j + 1) k' H') ∧ ∀ x H', (Itt X.K a).yld j H x H' → g1 x (wipe σ2 own1) H' fun σ3 H5 => wipe σ3 own1 = wipe σ2 own1 ∧ liftT T X (fun _ _ _ _ => False) tt1 σ3 H5 fun b H6 =>
      if b = true then lift T X (fun _ _ _ _ => False) te σ3 H6 fun y H7 => ∃ acc, H7 D0 = some (.lst acc) ∧ acc.length < sizeLine ∧ Nx1 (upd H7 D0 (.lst (acc ++ [y]))) else Nx1 H6) := by
  refine it_any (B := fun x H' Nx1 => g1 x (wipe σ2 own1) H' fun σ3 H5 => wipe σ3 own1 = wipe σ2 own1 ∧ liftT T X (fun _ _ _ _ => False) tt1 σ3 H5 fun b H6 =>
      if b = true then lift T X (fun _ _ _ _ => False) te σ3 H6 fun y H7 => ∃ acc, H7 D0 = some (.lst acc) ∧ acc.length < sizeLine ∧ Nx1 (upd H7 D0 (.lst (acc ++ [y]))) else Nx1 H6) (walk_tup (K := X.K) (a := a) (xs := vs))
    (fun j H => ∃ A μ acc, LcAt T X.K A1 H1 D0 A H μ acc ∧ RE T X.K (A.gst D0) H σ0 ρ0 ∧ RE T X.K (A.gst D0) H (wipe σ2 own1) (wipeD ρ2 own1) ∧ SqT X.K H a vs ∧ Reps T X.K (A.gst D0) H vs ys ∧ lcGo (st1 (wipeD ρ2 own1)) tt1 te (fun _ => True) (ys.drop j) acc μ k)
    ⟨A, μ, acc, l, re0, re2.wipe _, hs, hv, by rw [List.drop_zero]; exact hg⟩ (fun i H hi ⟨A, μ, acc, l, q0, q2, s, v, g⟩ => s) (fun j x H2 H3 hj ⟨A2, μ2, acc2, l2, q0, q2, s2, v2, g2⟩ y => ?_) (fun H ⟨A, μ, acc, l, q0, q2, s, v, g⟩ => ?_)
  · obtain ⟨ee, y⟩ := y
    subst ee
    obtain ⟨d, d1, d2⟩ := v2.get' y
    have hdr : ys.drop j = d :: ys.drop (j + 1) := by
      obtain ⟨hl, hx⟩ := List.getElem?_eq_some_iff.mp d1
      rw [List.drop_eq_getElem_cons hl, hx]
    rw [hdr] at g2
    obtain ⟨_, ρ', s1, g3⟩ := g2
    refine hgd.ok _ _ _ _ _ σ2 ρ2 ρ' _ l2.r d2 q2 s1 fun σ' q3 wz => ⟨wz, ?_⟩
    refine ⟨A2.gst D0, μ2, ρ', _, _, l2.r, q3, g3, fun b μ4 A4 H4 x4 r4 g4 => ?_, fun _ _ _ _ _ _ _ _ _ z => z.elim⟩
    by_cases hb : b = true
    · rw [if_pos hb] at g4
      show if b = true then _ else _
      rw [if_pos hb]
      refine ⟨A4, μ4, ρ', _, _, r4, q3.mono l2.r x4, g4, fun y μ5 A5 v H5 x5 r5 p5 g5 => ?_, fun _ _ _ _ _ _ _ _ _ z => z.elim⟩
      have x6 := x4.tr r4 x5
      obtain ⟨ws, e2, p2⟩ := l2.e
      have nal : D0 ∉ (A2.gst D0).al := (l2.r.gh D0 List.mem_cons_self).1
      have e5 : H5 D0 = some (.lst ws) := x6.keep D0 _ nal nofun e2
      obtain ⟨l6, k1, k2⟩ := l2.put hD n1 x6 r5 ((p2.mono l2.r x6).append (.cons p5 .nil))
      exact ⟨ws, e5, by rw [p2.length]; exact g5.1, _, _, _, l6, k1 _ _ (q0.mono l2.r x6), k1 _ _ (q2.mono l2.r x6), sqT_upd e5 (sqT_ext l2.r x6 s2), k2 _ _ (v2.mono l2.r x6), g5.2⟩
    · rw [if_neg hb] at g4
      show if b = true then _ else _
      rw [if_neg hb]
      obtain ⟨l6, k1, k2⟩ := l2.pass hD n1 x4 r4
      exact ⟨_, _, _, l6, k1 _ _ (q0.mono l2.r x4), k1 _ _ (q2.mono l2.r x4), sqT_ext l2.r x4 s2, k2 _ _ (v2.mono l2.r x4), g4⟩
  · rw [v.length, List.drop_length] at g
    exact hn _ _ _ _ l q0 g.2
@[simp] def lcGo2 (st : D → Option Env) (tt : TDT) (t1 : TD) (st1 : Env → D → Option Env) (tt1 : TDT) (te : TD) (own1 : List Nat) (kp : Mu → Prop) : List D → List D → Mu → (List D → Mu → Prop) → Prop
  | [], acc, μ, P => kp μ ∧ P acc μ
  | x :: xs, acc, μ, P => kp μ ∧ ∃ ρ', st x = some ρ' ∧ tt ρ' μ (fun b μ1 => if b = true then t1 ρ' μ1 (fun d μ2 => match tupOf d with
      | some ys => lcGo (st1 (wipeD ρ' own1)) tt1 te (fun _ => True) ys acc μ2 (fun acc' μ3 => lcGo2 st tt t1 st1 tt1 te own1 kp xs acc' μ3 P)
      | none => False) (fun _ _ => False) else lcGo2 st tt t1 st1 tt1 te own1 kp xs acc μ1 P) (fun _ _ => False)
theorem lcGo2_kp {st : D → Option Env} {tt : TDT} {t1 : TD} {st1 : Env → D → Option Env} {tt1 : TDT} {te : TD} {own1 : List Nat} {kp : Mu → Prop} {xs acc : List D} {μ : Mu} {P : List D → Mu → Prop} (h : lcGo2 st tt t1 st1 tt1 te own1 kp xs acc μ P) : kp μ := by
  cases xs <;> exact h.1
@[simp] def tdLc2 (ti : TDI) (st : Env → D → Option Env) (tt : TDT) (t1 : TD) (st1 : Env → D → Option Env) (tt1 : TDT) (te : TD) (own own1 : List Nat) : TDF := fun ρ μ P PX => ti ρ μ (fun xs kp μ1 => lcGo2 (st (wipeD ρ own)) tt t1 st1 tt1 te own1 kp xs [] μ1 P) PX
theorem lc2_lift {own : List (Str × Nat)} {own1 : List Nat} {ti : TDI} {g g1 : TG} {st st1 : Env → D → Option Env} {tt tt1 : TDT} {t1 te : TD} (hgd : TgD T X.K (own.map (·.2)) g st) (hgd1 : TgD T X.K own1 g1 st1) (σ : L2.St) (H : Hp) (Q : VK) (q : liftF T X W (tdLc2 ti st tt t1 st1 tt1 te (own.map (·.2)) own1) σ H Q) :
    tLc2 (liftI T X W ti) g (liftT T X (fun _ _ _ _ => False) tt) (iTup X.K (lift T X (fun _ _ _ _ => False) t1)) g1 (liftT T X (fun _ _ _ _ => False) tt1) (lift T X (fun _ _ _ _ => False) te) (own.map (·.2)) own1 σ H Q := by
  obtain ⟨A, μ, ρ, P, PX, rl, re, h, k, kx⟩ := q
  refine ⟨A, μ, ρ, _, PX, rl, re, h, fun xs kp μ1 A1 J H1 x1 r1 wd h1 D0 hD => ?_, kx⟩
  obtain ⟨G, Y, w, hG, hY⟩ := wd.ex
  obtain ⟨xg, rg⟩ := r1.gst (o := .lst []) hD
  have re1 : RE T X.K A1 H1 σ ρ := re.mono rl x1
  have n1 : D0 ∉ A1.gh := fun z => (r1.gh D0 z).2 (.of hD)
  refine it_any (B := fun x H' Nx => g x (wipe σ (own.map (·.2))) H' fun σ2 H2 => wipe σ2 (own.map (·.2)) = wipe σ (own.map (·.2)) ∧ liftT T X (fun _ _ _ _ => False) tt σ2 H2 fun b H3 =>
    if b = true then iTup X.K (lift T X (fun _ _ _ _ => False) t1) σ2 H3 fun J1 H4 => ∃ W1 : Nat → Nat → Hp → Prop, (∃ m, W1 0 m H4) ∧ ∀ j k H, W1 j k H →
      (J1.stop j H ∧ Nx H) ∨ (J1.go j H ∧ ∃ Nx1 : Hp → Prop, (∀ H', Nx1 H' → ∃ k', k' < k ∧ W1 (j + 1) k' H') ∧ ∀ x H', J1.yld j H x H' → g1 x (wipe σ2 own1) H' fun σ3 H5 => wipe σ3 own1 = wipe σ2 own1 ∧ liftT T X (fun _ _ _ _ => False) tt1 σ3 H5 fun b H6 =>
        if b = true then lift T X (fun _ _ _ _ => False) te σ3 H6 fun y H7 => ∃ acc, H7 D0 = some (.lst acc) ∧ acc.length < sizeLine ∧ Nx1 (upd H7 D0 (.lst (acc ++ [y]))) else Nx1 H6)
    else Nx H3) w
    (fun i H2 => ∃ A2 μ2 acc, LcAt T X.K A1 H1 D0 A2 H2 μ2 acc ∧ RE T X.K (A2.gst D0) H2 (wipe σ (own.map (·.2))) (wipeD ρ (own.map (·.2))) ∧ lcGo2 (st (wipeD ρ (own.map (·.2)))) tt t1 st1 tt1 te own1 kp (xs.drop i) acc μ2 P)
    ⟨A1, μ1, [], ⟨.same (same_upd hD), rg, n1, [], upd_same, .nil⟩, (re1.mono r1 xg).wipe _, by rw [List.drop_zero]; exact h1⟩ (fun i H2 hi ⟨A2, μ2, acc, l2, q2, g2⟩ => hG _ _ _ (l2.up hD) l2.r (lcGo2_kp g2)) (fun i x H2 H3 hi ⟨A2, μ2, acc, l2, q2, g2⟩ y => ?_) (fun H2 ⟨A2, μ2, acc, l2, q2, g2⟩ => ?_)
  · obtain ⟨d, d1, d2, d3⟩ := hY _ _ _ i x H3 (l2.up hD) l2.r (lcGo2_kp g2) hi y
    have hdr : xs.drop i = d :: xs.drop (i + 1) := by
      obtain ⟨hl, hx⟩ := List.getElem?_eq_some_iff.mp d1
      rw [List.drop_eq_getElem_cons hl, hx]
    rw [hdr] at g2
    obtain ⟨_, ρ', s1, g3⟩ := g2
    have r3 := l2.r.same d2
    have xs3 : Ext (A2.gst D0) H2 (A2.gst D0) H3 := .same d2
    refine hgd.ok _ _ _ _ _ σ ρ ρ' _ r3 d3 (q2.mono l2.r xs3) s1 fun σ' q3 wz => ⟨wz, ?_⟩
    refine ⟨A2.gst D0, μ2, ρ', _, _, r3, q3, g3, fun b μ4 A4 H4 x4 r4 g4 => ?_, fun _ _ _ _ _ _ _ _ _ z => z.elim⟩
    have xx : Ext (A2.gst D0) H2 A4 H4 := xs3.tr r3 x4
    by_cases hb : b = true
    · rw [if_pos hb] at g4
      show if b = true then _ else _
      rw [if_pos hb]
      refine ⟨A4, μ4, ρ', _, _, r4, q3.mono r3 x4, g4, fun sv μ5 A5 v H5 x5 r5 p5 g5 => ?_, fun _ _ _ _ _ _ _ _ _ z => z.elim⟩
      have x6 := xx.tr r4 x5
      split at g5
      · rename_i ys hys
        obtain ⟨a, vs, rfl, h2, h3⟩ := tupOf_view p5 hys
        obtain ⟨l6, k1, k2⟩ := l2.pass hD n1 x6 r5
        exact ⟨a, rfl, ⟨vs, h2⟩, lc_inner hgd1 hD n1 l6 (k1 _ _ (q2.mono l2.r x6)) (k1 _ _ ((q3.mono r3 x4).mono r4 x5)) h2 (k2 _ _ h3) g5 fun A' H' μ' acc' l' q' g' => ⟨A', μ', acc', l', q', g'⟩⟩
      · exact g5.elim
    · rw [if_neg hb] at g4
      show if b = true then _ else _
      rw [if_neg hb]
      obtain ⟨l6, k1, k2⟩ := l2.pass hD n1 xx r4
      exact ⟨_, _, _, l6, k1 _ _ (q2.mono l2.r xx), g4⟩
  · rw [List.drop_length] at g2
    obtain ⟨vs, e2, p2⟩ := l2.e
    exact k _ _ _ _ _ D0 (x1.tr r1 l2.x) l2.r (by
      rcases x1.none (.of hD) with z | z
      · exact absurd (x1.sub D0 z) (r1.nal hD)
      · exact z) l2.n e2 p2 g2.2
theorem pf_lc2 {elt iter tg tg1 iter1 : Expr} {ifs ifs1 : List Expr} {scope : Scope} {pos : Pos} {own : List (Str × Nat)} {own1 : List Nat} {ti : TDI} {g g1 : TG} {st st1 : Env → D → Option Env} {tt tt1 : TDT} {t1 te : TD} (hc : X.calm = true) (hN : X.N.Nodup) (hi : PDI T X W tg iter ti) (ok : BlkOk X.N X.env.scope scope own) (hv : ∀ i ∈ own1, i ∈ own.map (·.2))
    (hgd : TgD T X.K (own.map (·.2)) g st) (hgd1 : TgD T X.K own1 g1 st1)
    (hg : ∀ (s : Shared) (H : Hp) (C : Addr) (cl : List (Str × Addr)) (fp : List Addr), PG (X.blk s H scope (compEnvC scope cl C X.env) fp) tg g)
    (ht : ∀ (s : Shared) (H : Hp) (C : Addr) (cl : List (Str × Addr)) (fp : List Addr), PTs (X.blk s H scope (compEnvC scope cl C X.env) fp) ifs (liftT T (X.blk s H scope (compEnvC scope cl C X.env) fp) (fun _ _ _ _ => False) tt))
    (hi1 : ∀ (s : Shared) (H : Hp) (C : Addr) (cl : List (Str × Addr)) (fp : List Addr), PD T (X.blk s H scope (compEnvC scope cl C X.env) fp) (fun _ _ _ _ => False) iter1 t1)
    (hg1 : ∀ (s : Shared) (H : Hp) (C : Addr) (cl : List (Str × Addr)) (fp : List Addr), PG (X.blk s H scope (compEnvC scope cl C X.env) fp) tg1 g1)
    (ht1 : ∀ (s : Shared) (H : Hp) (C : Addr) (cl : List (Str × Addr)) (fp : List Addr), PTs (X.blk s H scope (compEnvC scope cl C X.env) fp) ifs1 (liftT T (X.blk s H scope (compEnvC scope cl C X.env) fp) (fun _ _ _ _ => False) tt1))
    (he : ∀ (s : Shared) (H : Hp) (C : Addr) (cl : List (Str × Addr)) (fp : List Addr), PD T (X.blk s H scope (compEnvC scope cl C X.env) fp) (fun _ _ _ _ => False) elt te)
    (hs : ∀ x, foldedSetIterable iter X.env x = pure x := by intro _; rfl) (hs1 : ∀ env x, foldedSetIterable iter1 env x = pure x := by intro _ _; rfl) :
    PDF T X W (.ListComp elt [⟨tg, iter, ifs, 0⟩, ⟨tg1, iter1, ifs1, 0⟩] scope pos) (tdLc2 ti st tt t1 st1 tt1 te (own.map (·.2)) own1) :=
  ⟨PE.mono (pe_lc2 (tt := liftT T X (fun _ _ _ _ => False) tt) (te := lift T X (fun _ _ _ _ => False) te) (wi1 := iTup X.K (lift T X (fun _ _ _ _ => False) t1)) (tt1 := liftT T X (fun _ _ _ _ => False) tt1) hc hN hi.run ok hv hg (fun s H C cl fp => ht s H C cl fp) (fun s H C cl fp => pi_tup (hi1 s H C cl fp).run) hg1 (fun s H C cl fp => ht1 s H C cl fp) (fun s H C cl fp => (he s H C cl fp).run) hs hs1) (lc2_lift hgd hgd1)⟩
theorem pds_setLc2 (i : Nat) {y : Str} {py : Pos} {elt iter tg tg1 iter1 : Expr} {ifs ifs1 : List Expr} {scope : Scope} {pos spos : Pos} {own : List (Str × Nat)} {own1 : List Nat} {ti : TDI} {g g1 : TG} {st st1 : Env → D → Option Env} {tt tt1 : TDT} {t1 te te' : TD} (hc : X.calm = true) (hN : X.N.Nodup) (hy : X.N[i]? = some y) (hyl : X.env.scope.names.lookup y = some .local)
    (hsw : swapsWith (.ListComp elt [⟨tg, iter, ifs, 0⟩, ⟨tg1, iter1, ifs1, 0⟩] scope pos) (some (.Name y py)) spos.line X.env = pure true) (hi : PDI T X W tg iter ti) (ok : BlkOk X.N X.env.scope scope own) (hv : ∀ i ∈ own1, i ∈ own.map (·.2))
    (hgd : TgD T X.K (own.map (·.2)) g st) (hgd1 : TgD T X.K own1 g1 st1)
    (hg : ∀ (s : Shared) (H : Hp) (C : Addr) (cl : List (Str × Addr)) (fp : List Addr), PG (X.blk s H scope (compEnvC scope cl C X.env) fp) tg g)
    (ht : ∀ (s : Shared) (H : Hp) (C : Addr) (cl : List (Str × Addr)) (fp : List Addr), PTs (X.blk s H scope (compEnvC scope cl C X.env) fp) ifs (liftT T (X.blk s H scope (compEnvC scope cl C X.env) fp) (fun _ _ _ _ => False) tt))
    (hi1 : ∀ (s : Shared) (H : Hp) (C : Addr) (cl : List (Str × Addr)) (fp : List Addr), PD T (X.blk s H scope (compEnvC scope cl C X.env) fp) (fun _ _ _ _ => False) iter1 t1)
    (hg1 : ∀ (s : Shared) (H : Hp) (C : Addr) (cl : List (Str × Addr)) (fp : List Addr), PG (X.blk s H scope (compEnvC scope cl C X.env) fp) tg1 g1)
    (ht1 : ∀ (s : Shared) (H : Hp) (C : Addr) (cl : List (Str × Addr)) (fp : List Addr), PTs (X.blk s H scope (compEnvC scope cl C X.env) fp) ifs1 (liftT T (X.blk s H scope (compEnvC scope cl C X.env) fp) (fun _ _ _ _ => False) tt1))
    (he : ∀ (s : Shared) (H : Hp) (C : Addr) (cl : List (Str × Addr)) (fp : List Addr), PD T (X.blk s H scope (compEnvC scope cl C X.env) fp) (fun _ _ _ _ => False) elt te)
    (hl : ∀ σ H Q, lift T X W te' σ H Q → liftF T X W (tdLc2 ti st tt t1 st1 tt1 te (own.map (·.2)) own1) σ H Q)
    (hs : ∀ x, foldedSetIterable iter X.env x = pure x := by intro _; rfl) (hs1 : ∀ env x, foldedSetIterable iter1 env x = pure x := by intro _ _; rfl) :
    PDS T X W (.Assign [.Name y py] (.ListComp elt [⟨tg, iter, ifs, 0⟩, ⟨tg1, iter1, ifs1, 0⟩] scope pos) spos) (sSet i te') :=
  ⟨PS.mono (ps_setLc2 (tt := liftT T X (fun _ _ _ _ => False) tt) (te := lift T X (fun _ _ _ _ => False) te) (wi1 := iTup X.K (lift T X (fun _ _ _ _ => False) t1)) (tt1 := liftT T X (fun _ _ _ _ => False) tt1) hc hN hy hyl hsw hi.run ok hv hg (fun s H C cl fp => ht s H C cl fp) (fun s H C cl fp => pi_tup (hi1 s H C cl fp).run) hg1 (fun s H C cl fp => ht1 s H C cl fp) (fun s H C cl fp => (he s H C cl fp).run) hs hs1) fun D σ H q => lc2_lift hgd hgd1 σ H _ (hl _ _ _ (set_lift D σ H q))⟩
end
/-! xs.remove(k), xs.extend(ys) of a changing list -/
section
variable {T : Cl} {X : Cx} {W : WX} {o e : Expr} {to te : TD} {apos cpos : Pos}
theorem takes_no {X : Cx} : Takes X (fun _ _ _ _ => False) := fun _ _ ⟨_, _, _, _, _, _, _, _, _, _, _, _, _, _, _, _, w⟩ => w.elim
@[simp] def tdRemove (to te : TD) : TD := fun ρ μ P PX => to ρ μ (fun x μ1 => match x with
  | .mu m => (∃ xs, μ1[m]? = some (.lst xs)) ∧ te ρ μ1 (fun y μ2 => match y with
    | .int k => ∃ ns : List Int, μ2[m]? = some (.lst (ns.map D.int)) ∧ k ∈ ns ∧ P .non (μ2.set m (.lst ((ns.erase k).map D.int)))
    | _ => False) PX
  | _ => False) PX
theorem pd_remove (hc : X.calm = true) (ho : PD T X W o to) (ha : PD T X W e te) (hbase : attributeBase o "remove" X.env (eval o X.env) = eval o X.env := by rfl)
    (hfew : ((backTo cpos (starEach [e] X.env)).all (fun x => !x.1) && (backToKw cpos (keywordEach [] X.env)).all (fun x => x.1.isSome)
      && decide (([e] : List Expr).length + ([] : List Keyword).length + (if ([] : List Keyword).isEmpty then 0 else 1) < 30)) = true := by rfl)
    (hline : (apos.endLine == cpos.line) = true := by rfl) (hs : starEach [e] X.env = (false, eval e X.env) :: starEach [] X.env := by rfl) (hplain : (backTo cpos (starEach [] X.env)).any (·.1) = false := by rfl) :
    PD T X W (.Call (.Attribute o "remove" apos) [e] [] cpos) (tdRemove to te) :=
  ⟨PE.mono (pe_remX hc takes_no ho.run ha.run hbase hfew hline hs hplain) fun σ H Q ⟨A, μ, ρ, P, PX, rl, re, h, kk, kx⟩ => ⟨A, μ, ρ, _, PX, rl, re, h, fun x μ1 A1 v H1 x1 r1 p1 h1 => by
    cases x with
    | mu m =>
      obtain ⟨⟨xs0, hm0⟩, h1⟩ := h1
      cases p1 with
      | @mu a _ ea =>
        obtain ⟨vs0, h2, h3⟩ := r1.mutLst ea hm0
        refine ⟨.inl ⟨rfl, _, SqL.of h2⟩, A1, μ1, ρ, _, PX, r1, re.mono rl x1, h1, fun y μ2 A2 w H2 x2 r2 p2 h4 => ?_, kx.ext x1 r1⟩
        cases y with
        | int k =>
          cases p2
          obtain ⟨ns, hm, hk, h4⟩ := h4
          have ea2 := x2.at_ ea
          obtain ⟨vs, h5, h6⟩ := r2.mutLst ea2 hm
          have e6 := h6.ints
          subst e6
          obtain ⟨x3, r3⟩ := r2.put ea2 hm (Reps.of_ints (ns.erase k))
          exact ⟨a, ns, k, rfl, rfl, h5, fun _ => kk _ _ _ _ _ ((x1.tr r1 x2).tr r2 x3) r3 .non h4, fun z => absurd hk z⟩
        | _ => exact h4.elim
    | _ => exact h1.elim, kx⟩⟩
@[simp] def tdExtend (to : TD) (t : TDA) : TD := fun ρ μ P PX => to ρ μ (fun x μ1 => match x with
  | .mu m => (∃ xs, μ1[m]? = some (.lst xs)) ∧ t ρ μ1 (fun ds μ2 => match ds with
    | [d] => match d, μ2[m]? with
      | .lst ys, some (.lst xs) => xs.length + ys.length ≤ sizeLine ∧ P .non (μ2.set m (.lst (xs ++ ys)))
      | _, _ => False
    | _ => False) PX
  | _ => False) PX
theorem pd_extend (ho : PD T X W o to) {t : TDA} (ha : PDA T X W [e] t) (hbase : attributeBase o "extend" X.env (eval o X.env) = eval o X.env := by rfl)
    (hfew : ((backTo cpos (starEach [e] X.env)).all (fun x => !x.1) && (backToKw cpos (keywordEach [] X.env)).all (fun x => x.1.isSome)
      && decide (([e] : List Expr).length + ([] : List Keyword).length + (if ([] : List Keyword).isEmpty then 0 else 1) < 30)) = true := by rfl)
    (hline : (apos.endLine == cpos.line) = true := by rfl) (hs : starEach [e] X.env = (false, eval e X.env) :: starEach [] X.env := by rfl) (hplain : (backTo cpos (starEach [] X.env)).any (·.1) = false := by rfl) :
    PD T X W (.Call (.Attribute o "extend" apos) [e] [] cpos) (tdExtend to t) :=
  ⟨PE.mono (pe_bm PySem.F.plainAttrs_list PySem.F.slot_list_extend PySem.F.type_list_extend mt_extend ho.run ha.run hbase hfew hline hs hplain) fun σ H Q ⟨A, μ, ρ, P, PX, rl, re, h, kk, kx⟩ => ⟨A, μ, ρ, _, PX, rl, re, h, fun x μ1 A1 v H1 x1 r1 p1 h1 => by
    cases x with
    | mu m =>
      obtain ⟨⟨xs0, hm0⟩, h1⟩ := h1
      cases p1 with
      | @mu a _ ea =>
        obtain ⟨vs0, h2, h3⟩ := r1.mutLst ea hm0
        refine ⟨.inl ⟨rfl, _, SqL.of h2⟩, A1, μ1, ρ, _, PX, r1, re.mono rl x1, h1, fun ds μ2 A2 ws H2 x2 r2 p2 h4 => ?_, kx.ext x1 r1⟩
        split at h4
        · rename_i d
          obtain ⟨w, rfl, pi⟩ := reps1 p2
          split at h4
          · rename_i ys xs hm
            have ea2 := x2.at_ ea
            obtain ⟨vs, h5, h6⟩ := r2.mutLst ea2 hm
            cases pi with
            | lst q1 q2 q3 =>
              obtain ⟨x3, r3⟩ := r2.put ea2 hm (h6.append q3)
              exact ⟨a, _, vs, _, rfl, rfl, h5, q1, by rw [h6.length, q3.length]; exact h4.1, kk _ _ _ _ _ ((x1.tr r1 x2).tr r2 x3) r3 .non h4.2⟩
          · exact h4.elim
        · exact h4.elim
    | _ => exact h1.elim, kx⟩⟩
end
end DL

/-! The data layer: == of texts. -/
namespace DL
open PySem PySem.Spec L2 PyProof.Rows
section
variable {T : Cl} {X : Cx}
@[simp] def rdEqS (neg : Bool) : RD2 := fun x y μ P => match x, y with
  | .str a, .str b => P (.bl (if neg then !decide (a = b) else decide (a = b))) μ
  | _, _ => False
theorem dec_strV (a b : Str) : decide (V.str a = V.str b) = decide (a = b) := by
  rw [Bool.eq_iff_iff]
  simp
theorem od_eqS : OpD T X (compareOp .Eq) (rdEqS false) := by
  intro pins s σ H x y v u Q I rx ry ⟨A, μ, d, e, P, rl, px, py, q, k⟩
  unfold rdEqS at q
  split at q
  · rename_i a b
    cases px; cases py
    refine op_eq pins s σ H _ _ v u Q I rx ry ⟨rfl, ?_⟩
    rw [dec_strV]
    exact k _ μ A _ H (.refl _ _) rl (.bl _) q
  · exact q.elim
theorem od_neS : OpD T X (compareOp .NotEq) (rdEqS true) := by
  intro pins s σ H x y v u Q I rx ry ⟨A, μ, d, e, P, rl, px, py, q, k⟩
  unfold rdEqS at q
  split at q
  · rename_i a b
    cases px; cases py
    refine op_ne pins s σ H _ _ v u Q I rx ry ⟨rfl, ?_⟩
    rw [dec_strV]
    exact k _ μ A _ H (.refl _ _) rl (.bl _) q
  · exact q.elim
variable {W : WX} {e : Expr} {t : TD}
/-- a sequence in the place of a truth value -/
@[simp] def tdTru (t : TD) : TDT := fun ρ μ P PX => t ρ μ (fun d μ1 => match seqOf μ1 d with | some xs => P (!xs.isEmpty) μ1 | none => False) PX
theorem pdt_tru (h : PD T X W e t) (he : ∀ whole, isTrue e X.env whole = (do let v ← whole; standAt e.pos; holding [v] (truthy v)) := by intro _; rfl) : PDT T X W e (tdTru t) :=
  ⟨PT.mono (pt_truth h.run he) fun σ H Q ⟨A, μ, ρ, P, PX, rl, re, q, k, kx⟩ => ⟨A, μ, ρ, _, PX, rl, re, q, fun d μ1 A1 v1 H1 x1 r1 p1 h1 => by
    split at h1
    · rename_i xs hd
      obtain ⟨a, vs, rfl, h2, h3⟩ := seqOf_view r1 p1 hd
      refine ⟨!xs.isEmpty, ?_, k _ μ1 A1 H1 x1 r1 h1⟩
      rcases h2 with h2 | h2
      · exact .inl ⟨vs, h2, by rw [h3.isEmpty]⟩
      · exact .inr (.inl ⟨vs, h2, by rw [h3.isEmpty]⟩)
    · exact h1.elim, kx⟩⟩
/-- a number in the place of a truth value -/
@[simp] def tdTruI (t : TD) : TDT := fun ρ μ P PX => t ρ μ (fun d μ1 => match d with | .int i => P (i != 0) μ1 | _ => False) PX
theorem pdt_truI (h : PD T X W e t) (he : ∀ whole, isTrue e X.env whole = (do let v ← whole; standAt e.pos; holding [v] (truthy v)) := by intro _; rfl) : PDT T X W e (tdTruI t) :=
  ⟨PT.mono (pt_truth h.run he) fun σ H Q ⟨A, μ, ρ, P, PX, rl, re, q, k, kx⟩ => ⟨A, μ, ρ, _, PX, rl, re, q, fun d μ1 A1 v1 H1 x1 r1 p1 h1 => by
    cases d with
    | int i =>
      cases p1
      exact ⟨_, rfl, k _ μ1 A1 H1 x1 r1 h1⟩
    | _ => exact h1.elim, kx⟩⟩
end
section
variable {T : Cl} {P : Program} {w : World} {K : PySem.W.Frag} {mg : Str → Option Value} {base : Heap}
/-- def f(a, .., *v): what is left over comes as a tuple; nothing is let out -/
theorem fd_starN {x qual pv : Str} {st : Stmt} {f : Addr} {fd : FuncData} {N ps : List Str} {k : Nat} {s : DSp} {t : TDS} (F : Fun K x qual st f fd) (S : FnScope N (ps ++ [pv]) (defScope st)) (hN : ps.length + 1 ≤ N.length)
    (hb : ∀ (kV dc pm : Value) (an : Option Addr) (cd ct : Value) (us rest : List Value), us.length = ps.length → bindArgs (PySem.W.fnOf x qual (defArgs st) (defBody st) (defScope st) .none kV dc pm an cd ct) ⟨us ++ rest, []⟩ = (newTuple rest >>= fun t => pure (ps.zip us ++ [(pv, t)])))
    (ht : ∀ (cdv : Value) (A : Around) (outer : List PySem.Env) (sh : Shared) (H : Hp) (E : XK), Room k (A.deeper (PyProof.Rows.envOfC qual (defScope st) sh.heap.objs.size f cdv)) →
        PDB T (cxOf (L2.CX P w) P w K mg base N qual (defScope st) f cdv A outer sh H E) (WE0 E0) (defBody st) t)
    (hs : ∀ ds μ Q PX, s ds μ Q PX → ∃ d1 d2, ds = d1 ++ d2 ∧ d1.length = ps.length ∧ d2.length ≤ sizeLine ∧ t (startD N.length (d1 ++ [.tupp d2])) μ (endD μ Q (fun _ _ => False))) : FD T P w K mg base (k + 1) f s := by
  obtain ⟨oc, od, kV, doc, pm, an, cdv, ct, osl, rfl, lk, hcd⟩ := F.ex
  refine (StX.fn_star (sp := spD T K fun ds μ Q PX => ds.length = ps.length + 1 ∧ t (startD N.length ds) μ (endD μ Q (fun _ _ => False))) lk hcd S StX.cxUp (hb kV doc pm an cdv ct) fun A outer sh H vs Q E hr ⟨A1, μ, ds, P1, PX, rl, rp, ⟨hl, h⟩, kv, kx⟩ => ?_).imp fun vs H Q E ⟨A, μ, ds, P1, PX, rl, rp, h, kv, kx⟩ => ?_
  · refine ⟨_, (ht cdv A outer sh H E hr).run, A1, μ, startD N.length ds, _, rl, RE.begin_ rp (by rw [rp.length, hl]; exact hN), h, ?_⟩
    exact ⟨fun ρ' μ' A' σ' H' x1 r1 re1 h1 => seal_ok (d := .non) (v := .non) rl kv x1 r1 .non h1, fun d μ' A' v H' x1 r1 p1 h1 => seal_ok rl kv x1 r1 p1 h1, fun _ _ _ _ _ _ _ _ h1 => h1.elim, fun _ _ _ _ _ _ _ _ h1 => h1.elim,
      fun y ρ' μ' A' σ' c q H' x1 r1 re1 xr h1 => h1.elim⟩
  · obtain ⟨d1, d2, rfl, hl1, hl2, h⟩ := hs _ _ _ _ h
    obtain ⟨v1, v2, rfl, r1, r2⟩ := rp.split
    refine ⟨v1, v2, rfl, by rw [r1.length]; exact hl1, by rw [r2.length]; exact hl2, fun p hp => ?_⟩
    obtain ⟨x2, l2, p2⟩ := newP rl r2 hp
    exact ⟨A, μ, d1 ++ [.tupp d2], P1, PX, l2, (r1.mono rl x2).append (.cons p2 .nil), ⟨by rw [List.length_append, hl1]; rfl, h⟩, fun d μ' A' v H' x3 => kv d μ' A' v H' (x2.tr l2 x3), fun y μ' A' c q H' x3 => kx y μ' A' c q H' (x2.tr l2 x3)⟩
end
end DL

namespace DB
open PySem PySem.Spec L2 DL PyProof.Rows
abbrev tI (ns : List Int) : D := .tup (ns.map D.int)
abbrev lI (ns : List Int) : D := .lst (ns.map D.int)
def isG (ns : List Int) (m : Int) : Prop := 1 ≤ ns.length ∧ ns.length ≤ 3 ∧ (∀ x ∈ ns, 0 ≤ x ∧ x ≤ m - 1) ∧ ns.Pairwise (· < ·)
instance (ns : List Int) (m : Int) : Decidable (isG ns m) := by unfold isG; exact inferInstance
def isC (ns : List Int) (k lim : Int) : Prop := (ns.length : Int) = k ∧ (∀ x ∈ ns, 0 ≤ x) ∧ 1 ≤ ns.sum ∧ ns.sum ≤ lim
instance (ns : List Int) (k lim : Int) : Decidable (isC ns k lim) := by unfold isC; exact inferInstance
def plcOf (ns : List Int) : Int := ns.foldl (fun p v => 2 * p + v) 0
def bitI (p m v : Int) : Int := (p / 2 ^ (m - 1 - v).toNat) % 2
def partPlace (p m : Int) (vs : List Int) : Int := plcOf (vs.map (bitI p m))
def addAt (s : List Int) (pc : Int × Int) : List Int := s.set pc.1.toNat (s.getD pc.1.toNat 0 + pc.2)
def partSums (cs : List Int) (m : Int) (vs : List Int) : List Int :=
  (((List.range (2 ^ m.toNat)).map fun p => partPlace (p : Nat) m vs).zip cs).foldl addAt (List.replicate (2 ^ vs.length) 0)
abbrev pieceD (vs cs : List Int) : D := .ins 0 [tI vs, tI cs, .int cs.sum]
def isP (vs cs : List Int) : Prop := isG vs 5 ∧ isC cs (2 ^ vs.length : Nat) 1000
def s_is_integer : DSp := fun ds μ Q _ => ∃ i, ds = [.int i] ∧ Q (.bl true) μ
def s_is_between : DSp := fun ds μ Q _ => ∃ i lo hi, ds = [.int i, .int lo, .int hi] ∧ Q (.bl (decide (lo ≤ i ∧ i ≤ hi))) μ
def s_are_integers : DSp := fun ds μ Q _ => ∃ ns k, ds = [tI ns, .int k] ∧ ns.length ≤ 64 ∧ Q (.bl (decide ((ns.length : Int) = k))) μ
def s_is_ascending : DSp := fun ds μ Q _ => ∃ ns : List Int, ds = [tI ns] ∧ ns.length ≤ 64 ∧ Q (.bl (decide (ns.Pairwise (· < ·)))) μ
def s_is_group : DSp := fun ds μ Q _ => ∃ ns m, ds = [tI ns, .int m] ∧ ns.length ≤ 64 ∧ Q (.bl (decide (isG ns m))) μ
def s_are_counts : DSp := fun ds μ Q _ => ∃ ns k lim, ds = [tI ns, .int k, .int lim] ∧ ns.length ≤ 64 ∧ 1 ≤ k ∧ Q (.bl (decide (isC ns k lim))) μ
def s_place_of : DSp := fun ds μ Q _ => ∃ ns, ds = [lI ns] ∧ ns.length ≤ 10 ∧ (∀ x ∈ ns, x = 0 ∨ x = 1) ∧ Q (.int (plcOf ns)) μ
def s_part_places : DSp := fun ds μ Q _ => ∃ m vs, ds = [.int m, lI vs] ∧ 0 ≤ m ∧ m ≤ 5 ∧ vs.length ≤ 5 ∧ (∀ v ∈ vs, 0 ≤ v ∧ v ≤ m - 1) ∧ Q (lI ((List.range (2 ^ m.toNat)).map fun p => partPlace (p : Nat) m vs)) μ
def s_part_sums : DSp := fun ds μ Q _ => ∃ cs m vs, ds = [tI cs, .int m, lI vs] ∧ 0 ≤ m ∧ m ≤ 5 ∧ vs.length ≤ 5 ∧ (∀ v ∈ vs, 0 ≤ v ∧ v ≤ m - 1) ∧ cs.length ≤ 64 ∧ Q (tI (partSums cs m vs)) μ
def s_Piece_variables : DSp := fun ds μ Q _ => ∃ x y z, ds = [.ins 0 [x, y, z]] ∧ Q x μ
def s_Piece_counts : DSp := fun ds μ Q _ => ∃ x y z, ds = [.ins 0 [x, y, z]] ∧ Q y μ
def s_Piece_total : DSp := fun ds μ Q _ => ∃ x y z, ds = [.ins 0 [x, y, z]] ∧ Q z μ
def s_Piece_init : DSp := fun ds μ Q _ => ∃ m vs cs, ds = [.mu m, tI vs, tI cs] ∧ isP vs cs ∧ μ[m]? = some (.obj 0 []) ∧ Q .non (μ.set m (.obj 0 [("_variables", tI vs), ("_counts", tI cs), ("_total", .int cs.sum)]))
def s_Piece_contains : DSp := fun ds μ Q _ => ∃ vs y z i, ds = [.ins 0 [tI vs, y, z], .int i] ∧ Q (.bl (decide (i ∈ vs))) μ
def s_has_all : DSp := fun ds μ Q _ => ∃ vs y z us, ds = [.ins 0 [tI vs, y, z], tI us] ∧ us.length ≤ 64 ∧ Q (.bl (decide (∀ u ∈ us, u ∈ vs))) μ
def fewer (vs cs us : List Int) : List Int := partSums cs vs.length (us.map fun u => (vs.idxOf u : Int))
def s_Piece_call : DSp := fun ds μ Q _ => ∃ vs cs us, ds = [pieceD vs cs, tI us] ∧ isP vs cs ∧ isG us 5 ∧ (∀ u ∈ us, u ∈ vs) ∧ Q (pieceD us (fewer vs cs us)) μ
def addC (cs ds : List Int) : List Int := List.zipWith (· + ·) cs ds
def s_Piece_add : DSp := fun ds μ Q _ => ∃ vs cs es, ds = [pieceD vs cs, pieceD vs es] ∧ isP vs cs ∧ isP vs es ∧ cs.sum + es.sum ≤ 1000 ∧ Q (pieceD vs (addC cs es)) μ
def mulC (cs : List Int) (k : Int) : List Int := cs.map (· * k)
def s_Piece_mul : DSp := fun ds μ Q _ => ∃ vs cs k, ds = [pieceD vs cs, .int k] ∧ isP vs cs ∧ 1 ≤ k ∧ k ≤ 1000 ∧ cs.sum * k ≤ 1000 ∧ Q (pieceD vs (mulC cs k)) μ
def s_Piece_len : DSp := fun ds μ Q _ => ∃ x cs z, ds = [.ins 0 [x, tI cs, z]] ∧ Q (.int (cs.length : Nat)) μ
def s_Piece_eq : DSp := fun ds μ Q _ => ∃ vs cs us es, ds = [pieceD vs cs, pieceD us es] ∧ Q (.bl (decide (vs = us ∧ cs = es))) μ
def s_law_sets : DSp := fun ds μ Q _ => ∃ n, ds = [.int n] ∧ 0 ≤ n ∧ n ≤ 3 ∧ ∀ L : List (List Int), L.length ≤ 8 → (∀ l ∈ L, l.length ≤ 3 ∧ l.Pairwise (· < ·) ∧ ∀ x ∈ l, 0 ≤ x ∧ x < n) → Q (.lst (L.map tI)) μ
abbrev tP (ns : List Int) : D := .tupp (ns.map D.int)
def rowsL : Nat → List (List Int)
  | 0 => [[]]
  | n + 1 => (rowsL n).flatMap fun r => [r ++ [0], r ++ [1]]
def s_law_rows : DSp := fun ds μ Q _ => ∃ n, ds = [.int n] ∧ 0 ≤ n ∧ n ≤ 5 ∧ Q (.lst ((rowsL n.toNat).map tP)) μ
def s_law_cell_at : DSp := fun ds μ Q _ => ∃ (ns : List Int) (k : Int), ds = [.scr (ns.map D.int), .int k] ∧ 0 ≤ k ∧ ns.length ≤ 63 ∧ ∀ i, Q (.int i) μ
/-- a pen: what is left to draw from, the seed, how often -/
def penD (x b c : Int) : MC := .lst [.int x, .int b, .int c]
def isPen (x b c : Int) : Prop := 0 ≤ x ∧ 0 ≤ b ∧ b < 1000000007 ∧ 0 ≤ c ∧ c ≤ 100000
def s_law_pen : DSp := fun ds μ Q _ => ∃ i, ds = [.int i] ∧ ∀ x b, isPen x b 0 → Q (.mu μ.length) (μ ++ [penD x b 0])
def s_law_draw : DSp := fun ds μ Q _ => ∃ m n x b c, ds = [.mu m, .int n] ∧ 1 ≤ n ∧ n ≤ 1000 ∧ μ[m]? = some (penD x b c) ∧ isPen x b c ∧ c < 100000 ∧ ∀ r x' c', 0 ≤ r → r < n → isPen x' b c' → c' ≤ c + 1 → Q (.int r) (μ.set m (penD x' b c'))
/-- a new list handed out: kept as it is, or to be changed -/
def outL (Q : D → Mu → Prop) (ds : List D) (ν : Mu) : Prop := Q (.lst ds) ν ∨ Q (.mu ν.length) (ν ++ [.lst ds])
def s_law_counts : DSp := fun ds μ Q _ => ∃ m k n x b c, ds = [.mu m, .int k, .int n] ∧ 1 ≤ k ∧ k ≤ 32 ∧ 1 ≤ n ∧ n ≤ 1000 ∧ μ[m]? = some (penD x b c) ∧ isPen x b c ∧ c < 80000 ∧
  ∀ (cs : List Int) x' c', isC cs k n → cs.sum = n → isPen x' b c' → c' ≤ c + 2 * n → outL Q (cs.map D.int) (μ.set m (penD x' b c'))
def s_law_groups_in : DSp := fun ds μ Q _ => ∃ g, ds = [tI g] ∧ isG g 5 ∧ ∀ L : List (List Int), (∀ l ∈ L, isG l 5 ∧ ∀ x ∈ l, x ∈ g) → Q (.lst (L.map tI)) μ
def s_make_Piece : DSp := fun ds μ Q _ => ∃ vs cs, ds = [tI vs, tI cs] ∧ isP vs cs ∧ Q (pieceD vs cs) μ
def s_all_rows : DSp := fun ds μ Q _ => ∃ m, ds = [.int m] ∧ 0 ≤ m ∧ m ≤ 5 ∧ Q (.lst ((List.range (2 ^ m.toNat)).map fun p => tI ((List.range m.toNat).map fun v => bitI (p : Nat) m (v : Nat)))) μ
def s_law_group : DSp := fun ds μ Q _ => ∃ m n x b c, ds = [.mu m, .int n] ∧ 1 ≤ n ∧ n ≤ 5 ∧ μ[m]? = some (penD x b c) ∧ isPen x b c ∧ c < 90000 ∧ ∀ g x' c', isG g n → isPen x' b c' → c' ≤ c + 10 → Q (tI g) (μ.set m (penD x' b c'))
def s_law : DSp := fun ds μ Q _ => ∃ ns : List Int, ds = [.scr (ns.map D.int)] ∧ ns.length ≤ 63 ∧ Q (.bl true) μ
/-! schemes -/
abbrev gsD (gs : List (List Int)) : D := .tup (gs.map tI)
def isS (gs : List (List Int)) (n : Int) : Prop := 1 ≤ n ∧ n ≤ 5 ∧ 1 ≤ gs.length ∧ gs.length ≤ 5 ∧ ∀ g ∈ gs, isG g n
abbrev schemeD (n : Int) (gs : List (List Int)) : D := .tup [.int n, gsD gs]
def s_is_scheme : DSp := fun ds μ Q _ => ∃ n gs, ds = [schemeD n gs] ∧ isS gs n ∧ Q (.bl true) μ
def s_check_scheme : DSp := fun ds μ Q _ => ∃ n gs, ds = [schemeD n gs] ∧ isS gs n ∧ Q .non μ
def s_law_groups : DSp := fun ds μ Q _ => ∃ m n x b c, ds = [.mu m, .int n] ∧ 1 ≤ n ∧ n ≤ 5 ∧ μ[m]? = some (penD x b c) ∧ isPen x b c ∧ c < 80000 ∧ ∀ gs x' c', isS gs n → isPen x' b c' → c' ≤ c + 60 → Q (.lst (gs.map tI)) (μ.set m (penD x' b c'))
def s_law_scheme : DSp := fun ds μ Q _ => ∃ m x b c, ds = [.mu m] ∧ μ[m]? = some (penD x b c) ∧ isPen x b c ∧ c < 70000 ∧ ∀ n gs x' c', isS gs n → isPen x' b c' → c' ≤ c + 70 → Q (schemeD n gs) (μ.set m (penD x' b c'))
/-- numbers in a list, changing or not -/
def lsAt (μ : Mu) (d : D) (ls : List Int) : Prop := d = .lst (ls.map D.int) ∨ ∃ m, d = .mu m ∧ μ[m]? = some (.lst (ls.map D.int))
def gA (gs : List (List Int)) (i : Int) : List Int := gs.getD i.toNat []
def ears (gs : List (List Int)) (ls : List Int) (one other : Int) : Prop := ∀ v ∈ gA gs one, (∃ k ∈ ls, k ≠ one ∧ v ∈ gA gs k) → v ∈ gA gs other
instance (gs ls one other) : Decidable (ears gs ls one other) := by unfold ears; exact inferInstance
def isStep (gs : List (List Int)) (ls : List Int) (one other : Int) : Prop := one ≠ other ∧ one ∈ ls ∧ other ∈ ls ∧ ears gs ls one other
instance (gs ls one other) : Decidable (isStep gs ls one other) := by unfold isStep; exact inferInstance
def okL (gs : List (List Int)) (ls : List Int) : Prop := gs.length ≤ 5 ∧ (∀ g ∈ gs, g.length ≤ 3) ∧ ls.length ≤ 5 ∧ ∀ i ∈ ls, 0 ≤ i ∧ i < (gs.length : Nat)
def s_is_step : DSp := fun ds μ Q _ => ∃ gs l ls one other, ds = [gsD gs, l, .tup [.int one, .int other]] ∧ lsAt μ l ls ∧ okL gs ls ∧ Q (.bl (decide (isStep gs ls one other))) μ
def pairI (p : Int × Int) : D := .tup [.int p.1, .int p.2]
def prsOf (gs : List (List Int)) (ls : List Int) : List (Int × Int) := ls.flatMap fun a => (ls.filter fun b => decide (isStep gs ls a b)).map fun b => (a, b)
def stepD : Option (Int × Int) → D
  | none => .non
  | some p => pairI p
def s_first_step : DSp := fun ds μ Q _ => ∃ gs l ls, ds = [gsD gs, l] ∧ lsAt μ l ls ∧ okL gs ls ∧ Q (stepD (prsOf gs ls).head?) μ
def takeSteps (gs : List (List Int)) : Nat → List Int → Option (List (Int × Int))
  | 0, _ => some []
  | k + 1, ls => match (prsOf gs ls).head? with
    | none => none
    | some p => (takeSteps gs k (ls.erase p.1)).map (p :: ·)
def numsI (n : Nat) : List Int := (List.range n).map fun (i : Nat) => (i : Int)
def stepsOf (gs : List (List Int)) : Option (List (Int × Int)) := takeSteps gs (gs.length - 1) (numsI gs.length)
def stepsD : Option (List (Int × Int)) → D
  | none => .non
  | some l => .tup (l.map pairI)
def s_steps : DSp := fun ds μ Q _ => ∃ n gs, ds = [schemeD n gs] ∧ isS gs n ∧ Q (stepsD (stepsOf gs)) μ
def s_law_is_step : DSp := fun ds μ Q _ => ∃ gs l ls one other, ds = [gsD gs, l, .int one, .int other] ∧ lsAt μ l ls ∧ okL gs ls ∧ one ∈ ls ∧ other ∈ ls ∧ Q (.bl (decide (isStep gs ls one other))) μ
def s_law_pairs : DSp := fun ds μ Q _ => ∃ gs l ls, ds = [gsD gs, l] ∧ lsAt μ l ls ∧ okL gs ls ∧ Q (.lst ((prsOf gs ls).map pairI)) μ
def s_law_taken : DSp := fun ds μ Q _ => ∃ n gs, ds = [gsD gs] ∧ isS gs n ∧ Q (stepsD (stepsOf gs)) μ
/-- what repr tells -/
def shows (d : D) : Prop := ∃ p, toPy d = some p ∧ p.showable = true ∧ p.hasDict = false ∧ p.depth ≤ 60 ∧ p.shown.length ≤ sizeLine
def s_law_same : DSp := fun ds μ Q _ => ∃ d e p, ds = [d, e] ∧ toPy d = some p ∧ toPy e = some p ∧ p.showable = true ∧ p.hasDict = false ∧ p.depth ≤ 60 ∧ p.shown.length ≤ sizeLine ∧ Q (.bl true) μ
/-! reports -/
abbrev grps (ps : List (List Int × List Int)) : List (List Int) := ps.map (·.1)
abbrev rowD (p : List Int × List Int) : D := .tup [tI p.1, tI p.2]
abbrev pD (p : List Int × List Int) : D := pieceD p.1 p.2
def isR (n : Int) (ps : List (List Int × List Int)) (t : Int) : Prop := 1 ≤ n ∧ n ≤ 5 ∧ 1 ≤ ps.length ∧ ps.length ≤ 5 ∧ ∀ p ∈ ps, isG p.1 n ∧ isC p.2 (2 ^ p.1.length : Nat) 1000 ∧ p.2.sum = t
abbrev reportD (n : Int) (ps : List (List Int × List Int)) (t : Int) : D := .ins 1 [.int n, .tupp (ps.map pD), .int t, schemeD n (grps ps)]
/-- a list or tuple, changing or not -/
def sqAt (μ : Mu) (d : D) (ds : List D) : Prop := d = .lst ds ∨ d = .tup ds ∨ d = .tupp ds ∨ ∃ m, d = .mu m ∧ μ[m]? = some (.lst ds)
def s_law_sums : DSp := fun ds μ Q _ => ∃ n cs c g, ds = [.int n, c, tI g] ∧ 1 ≤ n ∧ n ≤ 5 ∧ sqAt μ c (cs.map D.int) ∧ cs.length = 2 ^ n.toNat ∧ isG g n ∧ Q (tI (partSums cs n g)) μ
def rowsOf (n : Int) (cs : List Int) (gs : List (List Int)) : List (List Int × List Int) := gs.map fun g => (g, partSums cs n g)
def s_law_pieces_of : DSp := fun ds μ Q _ => ∃ n cs c gs, ds = [.int n, c, .lst (gs.map tI)] ∧ isS gs n ∧ sqAt μ c (cs.map D.int) ∧ cs.length = 2 ^ n.toNat ∧ outL Q ((rowsOf n cs gs).map rowD) μ
def s_law_signed : DSp := fun ds μ Q _ => ∃ m n gs x b c, ds = [.mu m, .int n, .lst (gs.map tI)] ∧ isS gs n ∧ μ[m]? = some (penD x b c) ∧ isPen x b c ∧ c < 60000 ∧ ∀ ps t x' c', isR n ps t → t ≤ 60 → grps ps = gs → isPen x' b c' → c' ≤ c + 100 → outL Q (ps.map rowD) (μ.set m (penD x' b c'))
def s_law_drawn : DSp := fun ds μ Q _ => ∃ m n gs x b c, ds = [.mu m, .int n, .lst (gs.map tI)] ∧ isS gs n ∧ μ[m]? = some (penD x b c) ∧ isPen x b c ∧ c < 50000 ∧ ∀ ps t x' c', isR n ps t → t ≤ 60 → grps ps = gs → isPen x' b c' → c' ≤ c + 200 → outL Q (ps.map rowD) (μ.set m (penD x' b c'))
def s_law_case : DSp := fun ds μ Q _ => ∃ m x b c, ds = [.mu m] ∧ μ[m]? = some (penD x b c) ∧ isPen x b c ∧ c < 40000 ∧ ∀ n ps t x' c', isR n ps t → t ≤ 60 → isPen x' b c' → c' ≤ c + 400 → Q (.tup [.int n, .lst (ps.map rowD)]) (μ.set m (penD x' b c'))
def s_law_report : DSp := fun ds μ Q _ => ∃ n ps t, ds = [.int n, .lst (ps.map rowD)] ∧ isR n ps t ∧ Q (reportD n ps t) μ
def s_is_piece : DSp := fun ds μ Q _ => ∃ p n, ds = [pD p, .int n] ∧ isP p.1 p.2 ∧ n ≤ 5 ∧ Q (.bl (decide (isG p.1 n))) μ
def s_check_limit : DSp := fun ds μ Q _ => ∃ k lim : Int, ds = [.int k, .int lim] ∧ k ≤ lim ∧ Q .non μ
def s_check_pieces : DSp := fun ds μ Q _ => ∃ n ps t, ds = [.int n, .tupp (ps.map pD)] ∧ isR n ps t ∧ Q .non μ
def s_Report_init : DSp := fun ds μ Q _ => ∃ m n ps t, ds = .mu m :: .int n :: ps.map pD ∧ isR n ps t ∧ μ[m]? = some (.obj 1 []) ∧ Q .non (μ.set m (.obj 1 [("_many", .int n), ("_pieces", .tupp (ps.map pD)), ("_total", .int t), ("_scheme", schemeD n (grps ps))]))
def s_make_Report : DSp := fun ds μ Q _ => ∃ n ps t, ds = .int n :: ps.map pD ∧ isR n ps t ∧ Q (reportD n ps t) μ
def s_Report_many : DSp := fun ds μ Q _ => ∃ x y z w, ds = [.ins 1 [x, y, z, w]] ∧ Q x μ
def s_Report_pieces : DSp := fun ds μ Q _ => ∃ x y z w, ds = [.ins 1 [x, y, z, w]] ∧ Q y μ
def s_Report_total : DSp := fun ds μ Q _ => ∃ x y z w, ds = [.ins 1 [x, y, z, w]] ∧ Q z μ
def s_Report_scheme : DSp := fun ds μ Q _ => ∃ x y z w, ds = [.ins 1 [x, y, z, w]] ∧ Q w μ
def s_Report_len : DSp := fun ds μ Q _ => ∃ x ys z w, ds = [.ins 1 [x, .tupp ys, z, w]] ∧ Q (.int (ys.length : Nat)) μ
def s_check_report : DSp := fun ds μ Q _ => ∃ fs, ds = [.ins 1 fs] ∧ Q .non μ
def commonOf (g h : List Int) : List Int := g.filter fun v => decide (v ∈ h)
def quarrelOf (p q : List Int × List Int) : Option (List Int) :=
  if commonOf p.1 q.1 = [] ∨ fewer p.1 p.2 (commonOf p.1 q.1) = fewer q.1 q.2 (commonOf p.1 q.1) then none else some (commonOf p.1 q.1)
def grpD : Option (List Int) → D
  | none => .non
  | some g => tI g
def s_quarrel : DSp := fun ds μ Q _ => ∃ p q, ds = [pD p, pD q] ∧ isP p.1 p.2 ∧ isP q.1 q.2 ∧ Q (grpD (quarrelOf p q)) μ
/-- the first two that do not agree, the second one as small as possible -/
def clashOf (ps : List (List Int × List Int)) : Option (Nat × Nat × List Int) :=
  ((List.range ps.length).flatMap fun j => (List.range j).filterMap fun i => (quarrelOf (ps.getD i ([], [])) (ps.getD j ([], []))).map fun g => (i, j, g)).head?
def clashD : Option (Nat × Nat × List Int) → D
  | none => .non
  | some (i, j, g) => .tup [.int i, .int j, tI g]
def s_clash : DSp := fun ds μ Q _ => ∃ n ps t, ds = [reportD n ps t] ∧ isR n ps t ∧ Q (clashD (clashOf ps)) μ
end DB

namespace DB
open PySem PySem.Spec L2 DL PyProof.Rows
theorem lcGo2_flat {α β : Type} {st : D → Option DL.Env} {tt : TDT} {t1 : TD} {st1 : DL.Env → D → Option DL.Env} {tt1 : TDT} {te : TD} {own1 : List Nat} {kp : Mu → Prop} {μ : Mu} {P : List D → Mu → Prop} (g : α → D) (b : α → Bool) (ys : α → List β) (gy fe : β → D) : ∀ (xs : List α) (acc : List D),
    (∀ x ∈ xs, ∃ ρ', st (g x) = some ρ' ∧ (∀ Q : Bool → Mu → Prop, Q (b x) μ → tt ρ' μ Q (fun _ _ => False)) ∧ (b x = true → (∃ d, tupOf d = some ((ys x).map gy) ∧ ∀ Q : D → Mu → Prop, Q d μ → t1 ρ' μ Q (fun _ _ => False)) ∧
      ∀ y ∈ ys x, ∃ ρ'', st1 (wipeD ρ' own1) (gy y) = some ρ'' ∧ (∀ Q : Bool → Mu → Prop, Q true μ → tt1 ρ'' μ Q (fun _ _ => False)) ∧ ∀ Q : D → Mu → Prop, Q (fe y) μ → te ρ'' μ Q (fun _ _ => False))) →
    kp μ → acc.length + ((xs.filter b).flatMap ys).length ≤ sizeLine → P (acc ++ ((xs.filter b).flatMap ys).map fe) μ → lcGo2 st tt t1 st1 tt1 te own1 kp (xs.map g) acc μ P
  | [], acc, _, hk, _, h => ⟨hk, by simpa using h⟩
  | x :: xs, acc, hx, hk, hl, h => by
    obtain ⟨ρ', h1, h2, h3⟩ := hx x List.mem_cons_self
    refine ⟨hk, ρ', h1, h2 _ ?_⟩
    cases hb : b x with
    | true =>
      obtain ⟨⟨d, hd, h4⟩, h5⟩ := h3 hb
      rw [List.filter_cons, if_pos hb, List.flatMap_cons] at h hl
      rw [List.length_append] at hl
      rw [if_pos rfl]
      refine h4 _ ?_
      simp only [hd]
      refine lcGo_flt gy fe (fun _ => true) (ys x) acc (fun y hy => ?_) trivial (by omega) ?_
      · obtain ⟨ρ'', k1, k2, k3⟩ := h5 y hy
        exact ⟨ρ'', k1, k2, fun _ => k3⟩
      · rw [List.filter_eq_self.mpr (fun _ _ => rfl)]
        refine lcGo2_flat g b ys gy fe xs _ (fun y hy => hx y (List.mem_cons_of_mem _ hy)) hk (by rw [List.length_append, List.length_map]; omega) ?_
        simpa using h
    | false =>
      rw [if_neg (by decide)]
      rw [List.filter_cons, if_neg (by simp [hb])] at h hl
      exact lcGo2_flat g b ys gy fe xs acc (fun y hy => hx y (List.mem_cons_of_mem _ hy)) hk hl h
theorem lsAt.seq {μ : Mu} {d : D} {ls : List Int} (h : lsAt μ d ls) : seqOf μ d = some (ls.map D.int) := by
  rcases h with rfl | ⟨m, rfl, e⟩
  · rfl
  · simp [e]
theorem gA_mem {gs : List (List Int)} {i : Int} (h0 : 0 ≤ i) (h : i < (gs.length : Nat)) : gA gs i ∈ gs := by
  unfold gA
  rw [List.getD_eq_getElem?_getD, List.getElem?_eq_getElem (by omega)]
  exact List.getElem_mem _
theorem atI_gA {gs : List (List Int)} {i : Int} (h0 : 0 ≤ i) (h : i < (gs.length : Nat)) : atI (gs.map tI) i = some (tI (gA gs i)) := by
  refine atI_get (j := i.toNat) (by omega) ?_
  unfold gA
  rw [List.getElem?_map, List.getD_eq_getElem?_getD, List.getElem?_eq_getElem (by omega)]
  rfl
theorem sum_le {α : Type} {f : α → List Int} {k : Nat} : ∀ {xs : List α}, (∀ x ∈ xs, (f x).length ≤ k) → (xs.flatMap f).length ≤ k * xs.length
  | [], _ => by simp
  | x :: xs, h => by
    rw [List.flatMap_cons, List.length_append, List.length_cons, Nat.mul_succ]
    have := h x List.mem_cons_self
    have := sum_le (xs := xs) fun y hy => h y (List.mem_cons_of_mem _ hy)
    omega

theorem lcGo_inv {α : Type} {st : D → Option DL.Env} {te : TD} {kp : Mu → Prop} {P : List D → Mu → Prop} (g : α → D) (xs : List α) (I : Nat → List D → Mu → Prop) (hk : ∀ i acc μ, I i acc μ → kp μ)
    (hs : ∀ (i : Nat) (x : α) (acc : List D) (μ : Mu) (N : D → Mu → Prop), xs[i]? = some x → I i acc μ → (∀ y μ2, acc.length < sizeLine → I (i + 1) (acc ++ [y]) μ2 → N y μ2) → ∃ ρ', st (g x) = some ρ' ∧ te ρ' μ N (fun _ _ => False))
    (hd : ∀ acc μ, I xs.length acc μ → P acc μ) {acc : List D} {μ : Mu} (h0 : I 0 acc μ) : lcGo st tdYes te kp (xs.map g) acc μ P := by
  have key : ∀ (ys : List α) (i : Nat) (acc : List D) (μ : Mu), xs.drop i = ys → i ≤ xs.length → I i acc μ → lcGo st tdYes te kp (ys.map g) acc μ P := by
    intro ys
    induction ys with
    | nil =>
      intro i acc μ hd' hi hI
      have : i = xs.length := by
        have := congrArg List.length hd'
        rw [List.length_drop] at this
        simp at this; omega
      subst this
      exact ⟨hk _ _ _ hI, hd _ _ hI⟩
    | cons y ys ih =>
      intro i acc μ hd' hi hI
      have hlt : i < xs.length := by
        have := congrArg List.length hd'
        rw [List.length_drop] at this
        simp at this; omega
      have hy : xs[i]? = some y := by
        rw [List.drop_eq_getElem_cons hlt] at hd'
        rw [List.getElem?_eq_getElem hlt]
        exact congrArg some (List.cons.inj hd').1
      have hd2 : xs.drop (i + 1) = ys := by
        rw [List.drop_eq_getElem_cons hlt] at hd'
        exact (List.cons.inj hd').2
      obtain ⟨ρ', e1, e2⟩ := hs i y acc μ (fun z μ2 => acc.length < sizeLine ∧ lcGo st tdYes te kp (ys.map g) (acc ++ [z]) μ2 P) hy hI fun z μ2 hl hI' => ⟨hl, ih (i + 1) _ _ hd2 hlt hI'⟩
      exact ⟨hk _ _ _ hI, ρ', e1, e2⟩
  exact key xs 0 acc μ rfl (Nat.zero_le _) h0
theorem cutD_drop {xs : List D} (k : Nat) : DL.cutD xs (some (k : Int)) none = xs.drop k := by
  unfold DL.cutD
  rw [HT.sIx_nat, HT.sIx_none]
  by_cases h : k ≤ xs.length
  · rw [Nat.min_eq_left h, List.take_of_length_le]
    rw [List.length_drop]; omega
  · rw [List.drop_eq_nil_of_le (by omega : xs.length ≤ k), List.drop_eq_nil_of_le (by omega), List.take_nil]
theorem cutD_take {xs : List D} (k : Nat) : DL.cutD xs none (some (k : Int)) = xs.take k := by
  unfold DL.cutD
  rw [HT.sIx_nat, HT.sIx_none, List.drop_zero, Nat.sub_zero]
  by_cases h : k ≤ xs.length
  · rw [Nat.min_eq_left h]
  · rw [Nat.min_eq_right (by omega), List.take_of_length_le (Nat.le_refl _), List.take_of_length_le (by omega)]
theorem cutD_1 {xs : List D} : DL.cutD xs (some 1) none = xs.drop 1 := cutD_drop 1
theorem cutD_t1 {xs : List D} : DL.cutD xs none (some 1) = xs.take 1 := cutD_take 1
theorem cutD_t2 {xs : List D} : DL.cutD xs none (some 2) = xs.take 2 := cutD_take 2
/-! ### what a def hands out -/
theorem seal_gen {μ ν : Mu} {P : D → Mu → Prop} {d : D} (ex : List MC) (hν : ν.length = μ.length) (sh : ∀ (i : Nat) (c : MC), ν[i]? = some c → μ[i]? = some c ∨ closedC μ.length c = true) (hc : closed μ.length d = true) (h : P d ν) : Seal μ P d (ν ++ ex) := by
  refine .inr ⟨by rw [List.length_append, hν]; omega, fun i c hi e => ?_, .inl ⟨hc, by rw [← hν, List.take_left']; exact h; rfl⟩⟩
  rw [List.getElem?_append_left (by omega)] at e
  exact sh i c e
theorem seal_genL {μ ν : Mu} {P : D → Mu → Prop} {m : Nat} {ds : List D} (ex : List MC) (hν : ν.length = μ.length) (sh : ∀ (i : Nat) (c : MC), ν[i]? = some c → μ[i]? = some c ∨ closedC μ.length c = true) (hm : μ.length ≤ m) (he : (ν ++ ex)[m]? = some (.lst ds)) (hc : closedAll μ.length ds = true) (h : P (.lst ds) ν) : Seal μ P (.mu m) (ν ++ ex) := by
  refine .inr ⟨by rw [List.length_append, hν]; omega, fun i c hi e => ?_, .inr (.inl ⟨m, ds, rfl, hm, he, hc, .inl (by rw [← hν, List.take_left']; exact h; rfl)⟩)⟩
  rw [List.getElem?_append_left (by omega)] at e
  exact sh i c e
theorem seal_at {μ : Mu} {P : D → Mu → Prop} {d : D} (ex : List MC) (hc : closed μ.length d = true) (h : P d μ) : Seal μ P d (μ ++ ex) := seal_gen ex rfl (fun _ _ e => .inl e) hc h
theorem seal_atL {μ : Mu} {P : D → Mu → Prop} {m : Nat} {ds : List D} (ex : List MC) (hm : μ.length ≤ m) (he : (μ ++ ex)[m]? = some (.lst ds)) (hc : closedAll μ.length ds = true) (h : P (.lst ds) μ) : Seal μ P (.mu m) (μ ++ ex) := seal_genL ex rfl (fun _ _ e => .inl e) hm he hc h
theorem pen_sh {μ : Mu} {m : Nat} {x b c : Int} (hm : m < μ.length) : ∀ (i : Nat) (z : MC), (μ.set m (penD x b c))[i]? = some z → μ[i]? = some z ∨ closedC μ.length z = true := fun i z e => by
  by_cases q : m = i
  · subst q
    rw [List.getElem?_set_self hm] at e
    cases e
    exact .inr (by simp [penD])
  · rw [List.getElem?_set_ne q] at e
    exact .inl e
theorem pen_self {μ : Mu} {m : Nat} {x b c : Int} (hm : μ[m]? = some (penD x b c)) : μ.set m (penD x b c) = μ := by
  obtain ⟨hl, e⟩ := List.getElem?_eq_some_iff.mp hm
  rw [← e]
  exact List.set_getElem_self hl
/-! ### steps -/
theorem isStep_iff {gs : List (List Int)} {ls : List Int} {a b : Int} (ha : a ∈ ls) (hb : b ∈ ls) : isStep gs ls a b ↔ ears gs ls a b ∧ a ≠ b := ⟨fun h => ⟨h.2.2.2, h.1⟩, fun h => ⟨h.2, ha, hb, h.1⟩⟩
theorem filter_take_nil {α : Type} {p : α → Bool} : ∀ {xs : List α} {j : Nat} {b : α}, xs[j]? = some b → (∀ y ∈ xs.take j, p y = false) → p b = true → (xs.filter p).head? = some b
  | [], _, _, h, _, _ => by simp at h
  | x :: xs, 0, b, h, _, hb => by
    simp at h
    subst h
    rw [List.filter_cons, if_pos hb]
    rfl
  | x :: xs, j + 1, b, h, h0, hb => by
    rw [List.filter_cons, if_neg (by rw [h0 x (by simp)]; decide)]
    exact filter_take_nil (j := j) (by simpa using h) (fun y hy => h0 y (by simp [hy])) hb
theorem flatMap_head {α β : Type} {f : α → List β} : ∀ {xs : List α} {i : Nat} {a : α} {b : β}, xs[i]? = some a → (∀ x ∈ xs.take i, f x = []) → (f a).head? = some b → (xs.flatMap f).head? = some b
  | [], _, _, _, h, _, _ => by simp at h
  | x :: xs, 0, a, b, h, _, hb => by
    simp at h
    subst h
    rw [List.flatMap_cons, List.head?_append, hb]
    rfl
  | x :: xs, i + 1, a, b, h, h0, hb => by
    rw [List.flatMap_cons, h0 x (by simp), List.nil_append]
    exact flatMap_head (i := i) (by simpa using h) (fun y hy => h0 y (by simp [hy])) hb
theorem head_pair {gs : List (List Int)} {ls : List Int} {i j : Nat} {a b : Int} (hi : ls[i]? = some a) (hj : ls[j]? = some b) (h0 : ∀ x ∈ ls.take i, ∀ y ∈ ls, ¬ isStep gs ls x y) (h1 : ∀ y ∈ ls.take j, ¬ isStep gs ls a y) (h : isStep gs ls a b) : (prsOf gs ls).head? = some (a, b) := by
  refine flatMap_head hi (fun x hx => ?_) ?_
  · rw [List.filter_eq_nil_iff.mpr (fun y hy => by simpa using h0 x hx y hy)]
    rfl
  · rw [List.head?_map, filter_take_nil hj (fun y hy => by simpa using h1 y hy) (by simpa using h)]
    rfl
theorem no_pair {gs : List (List Int)} {ls : List Int} (h0 : ∀ x ∈ ls, ∀ y ∈ ls, ¬ isStep gs ls x y) : (prsOf gs ls).head? = none := by
  have : prsOf gs ls = [] := by
    unfold prsOf
    rw [List.flatMap_eq_nil_iff]
    intro x hx
    rw [List.filter_eq_nil_iff.mpr (fun y hy => by simpa using h0 x hx y hy)]
    rfl
  rw [this]
  rfl
theorem pairs_mem {gs : List (List Int)} {ls : List Int} {p : Int × Int} (h : p ∈ prsOf gs ls) : p.1 ∈ ls ∧ p.2 ∈ ls ∧ isStep gs ls p.1 p.2 := by
  unfold prsOf at h
  obtain ⟨a, ha, h⟩ := List.mem_flatMap.mp h
  obtain ⟨b, hb, rfl⟩ := List.mem_map.mp h
  obtain ⟨h1, h2⟩ := List.mem_filter.mp hb
  exact ⟨ha, h1, of_decide_eq_true h2⟩
theorem pairs_len {gs : List (List Int)} {ls xs : List Int} (h : ls.length ≤ 5) : (xs.flatMap fun a => (ls.filter fun b => decide (isStep gs ls a b)).map fun b => (a, b)).length ≤ 5 * xs.length := by
  induction xs with
  | nil => simp
  | cons x xs ih =>
    rw [List.flatMap_cons, List.length_append, List.length_map, List.length_cons]
    have := List.length_filter_le (fun b => decide (isStep gs ls x b)) ls
    omega
theorem okL_erase {gs : List (List Int)} {ls : List Int} {a : Int} (h : okL gs ls) : okL gs (ls.erase a) := ⟨h.1, h.2.1, Nat.le_trans List.length_erase_le h.2.2.1, fun i hi => h.2.2.2 i (List.mem_of_mem_erase hi)⟩
theorem okL_nums {gs : List (List Int)} (h1 : gs.length ≤ 5) (h2 : ∀ g ∈ gs, g.length ≤ 3) : okL gs (numsI gs.length) := ⟨h1, h2, by simpa [numsI] using h1, fun i hi => by
  obtain ⟨k, hk, rfl⟩ := List.mem_map.mp hi
  rw [List.mem_range] at hk
  omega⟩
theorem nums_asc (n : Nat) : (numsI n).Pairwise (· < ·) := by
  unfold numsI
  rw [List.pairwise_map]
  exact List.pairwise_lt_range.imp fun h => by omega
theorem ranD_nums (n : Nat) : ranD 0 n = (numsI n).map D.int := by
  unfold ranD numsI
  rw [List.map_map]
  exact List.map_congr_left fun i _ => by simp
theorem lsAt.app {μ : Mu} {d : D} {ls : List Int} (h : lsAt μ d ls) (ex : List MC) : lsAt (μ ++ ex) d ls := by
  rcases h with h | ⟨m, h1, h2⟩
  · exact .inl h
  · exact .inr ⟨m, h1, by rw [List.getElem?_append_left (List.getElem?_eq_some_iff.mp h2).1]; exact h2⟩
theorem mu_app {μ : Mu} {m : Nat} {c : MC} (h : μ[m]? = some c) (ex : List MC) : (μ ++ ex)[m]? = some c := by
  rw [List.getElem?_append_left (List.getElem?_eq_some_iff.mp h).1]; exact h
theorem mu_lt {μ : Mu} {m : Nat} {c : MC} (h : μ[m]? = some c) : m < μ.length := (List.getElem?_eq_some_iff.mp h).1
theorem mu_last (μ : Mu) (c : MC) : (μ ++ [c])[μ.length]? = some c := by simp
theorem mu_set_last (μ : Mu) (c c' : MC) : (μ ++ [c]).set μ.length c' = μ ++ [c'] := by simp
theorem closedAll_pairs (n : Nat) (ps : List (Int × Int)) : closedAll n (ps.map pairI) = true := by
  induction ps with
  | nil => rfl
  | cons p ps ih => simp [pairI, ih]
/-! ### data told -/
@[simp] theorem eqv_lstI (ns ms : List Int) : PyData.eqv (.list (ns.map PyData.int)) (.list (ms.map PyData.int)) = decide (ns = ms) := eqv_tupI ns ms
@[simp] theorem eqv_lstI0 (ns : List Int) : PyData.eqv (.list (ns.map PyData.int)) (.list []) = decide (ns = []) := eqv_tupI ns []
@[simp] theorem shaped_lstI (ns : List Int) : SeqAt.shaped (.list (ns.map PyData.int)) = true := shaped_tupI ns
@[simp] theorem shaped_lst0 : SeqAt.shaped (.list []) = true := shaped_lstI []
@[simp] theorem pyOf_lst0 (μ : Mu) : pyOf μ (.lst []) = some (.list []) := rfl
theorem toPyAll_tI : ∀ gs : List (List Int), toPyAll (gs.map tI) = some (gs.map fun g => PyData.tuple (g.map .int))
  | [] => rfl
  | g :: gs => by
    show (match toPy (tI g), toPyAll (gs.map tI) with | some p, some ps => some (p :: ps) | _, _ => none) = _
    rw [toPyAll_tI gs]
    show (match (toPyAll (g.map D.int)).map PyData.tuple, _ with | some p, some ps => some (p :: ps) | _, _ => none) = _
    rw [toPyAll_ints]
    rfl
theorem eqv_lst_nil (xs : List PyData) : PyData.eqv (.list xs) (.list []) = xs.isEmpty := by
  cases xs <;> simp [PyData.eqv, PyData.eqvAll]
theorem shaped_tI (gs : List (List Int)) : SeqAt.shaped (.list (gs.map fun g => PyData.tuple (g.map .int))) = true := by
  have h1 : ∀ gs : List (List Int), PyData.canLayAll0 (gs.map fun g => PyData.tuple (g.map .int)) = true := fun gs => by
    induction gs with
    | nil => rfl
    | cons g gs ih => simp [PyData.canLayAll0, PyData.canLay0, DL.canLayAll_ints, ih]
  have h2 : ∀ gs : List (List Int), PyData.depthAll (gs.map fun g => PyData.tuple (g.map .int)) ≤ 1 := fun gs => by
    induction gs with
    | nil => simp [PyData.depthAll]
    | cons g gs ih => simp [PyData.depthAll, PyData.depth, depthAll_int]; omega
  have := h2 gs
  simp [SeqAt.shaped, PyData.canLay0, PyData.depth, h1]
  omega
theorem pairs_tI (ps : List (Int × Int)) : ps.map pairI = (ps.map fun p => [p.1, p.2]).map tI := by
  rw [List.map_map]
  rfl
theorem pyOf_tI (μ : Mu) (gs : List (List Int)) : pyOf μ (.lst (gs.map tI)) = some (.list (gs.map fun g => PyData.tuple (g.map .int))) := by
  show (toPyAll (gs.map tI)).map PyData.list = _
  rw [toPyAll_tI]
  rfl
theorem pyOf_pairs (μ : Mu) (ps : List (Int × Int)) : pyOf μ (.lst (ps.map pairI)) = some (.list ((ps.map fun p => [p.1, p.2]).map fun g => PyData.tuple (g.map .int))) := by
  rw [pairs_tI, pyOf_tI]
theorem dec_map_nil {α β : Type} (f : α → β) (xs : List α) : (xs.map f).isEmpty = xs.isEmpty := by cases xs <;> rfl
/-- [] or not -/
theorem eq_nil_pairs (ps : List (Int × Int)) : PyData.eqv (.list ((ps.map fun p => [p.1, p.2]).map fun g => PyData.tuple (g.map .int))) (.list []) = ps.isEmpty := by
  rw [eqv_lst_nil, dec_map_nil, dec_map_nil]
theorem le_int (x y : Int) : PySem.W.dataLe false DL.encD (.int x) (.int y) = decide (x ≤ y) := by
  show (!(PyProof.Rows.lexLt PyProof.Rows.itemOrd [.inl y] [.inl x])) = _
  have : PyProof.Rows.lexLt PyProof.Rows.itemOrd [.inl y] [.inl x] = decide (y < x) := by
    simp [PyProof.Rows.lexLt, PyProof.Rows.itemLt]
  rw [this, Bool.eq_iff_iff]
  simp
theorem sort_ints (ns : List Int) : (ns.map D.int).mergeSort (PySem.W.dataLe false DL.encD) = (ns.mergeSort fun a b => decide (a ≤ b)).map D.int := (List.map_mergeSort fun a _ b _ => (le_int a b).symm).symm
theorem sort_two (x y : Int) : [D.int x, D.int y].mergeSort (PySem.W.dataLe false DL.encD) = if x ≤ y then [D.int x, D.int y] else [D.int y, D.int x] := by
  have := sort_ints [x, y]
  simp only [List.map] at this
  rw [this]
  have h : [x, y].mergeSort (fun a b => decide (a ≤ b)) = if x ≤ y then [x, y] else [y, x] := by
    simp [List.mergeSort, List.MergeSort.Internal.splitInTwo, List.merge]
  rw [h]
  split <;> rfl
theorem alike_ints (ns : List Int) : PySem.W.AllAlike ((ns.map D.int).map DL.encD) := by
  intro d hd e he
  rw [List.map_map] at hd he
  obtain ⟨i, _, rfl⟩ := List.mem_map.mp hd
  obtain ⟨j, _, rfl⟩ := List.mem_map.mp he
  rfl
theorem sortable_ints (ns : List Int) : PySem.W.Sortable ((ns.map D.int).map DL.encD) := by
  right
  intro d hd
  rw [List.map_map] at hd
  obtain ⟨i, _, rfl⟩ := List.mem_map.mp hd
  exact ⟨nofun, nofun⟩
theorem toPy_ints {ns : List Int} {k : Nat} : ∀ x ∈ ns.map D.int, (toPy x).isSome = true ∧ (DL.encD x).depth ≤ k := by
  intro x hx
  obtain ⟨i, _, rfl⟩ := List.mem_map.mp hx
  exact ⟨rfl, Nat.zero_le _⟩
theorem rowsL_flat (R : List (List Int)) : (R.flatMap fun r => [r ++ [0], r ++ [1]]).length = 2 * R.length := by
  induction R with
  | nil => rfl
  | cons r R ih => rw [List.flatMap_cons, List.length_append, ih, List.length_cons]; simp; omega
theorem rowsL_length : ∀ k, (rowsL k).length = 2 ^ k
  | 0 => rfl
  | k + 1 => by
    show ((rowsL k).flatMap fun r => [r ++ [0], r ++ [1]]).length = _
    rw [rowsL_flat, rowsL_length k, Nat.pow_succ]
    omega
theorem rowsL_len : ∀ k, ∀ r ∈ rowsL k, r.length = k
  | 0, r, hr => by rw [List.mem_singleton.mp hr]; rfl
  | k + 1, r, hr => by
    obtain ⟨r0, h0, h1⟩ := List.mem_flatMap.mp hr
    have := rowsL_len k r0 h0
    simp at h1
    rcases h1 with rfl | rfl <;> simp [this]
theorem seal_out {μ ν : Mu} {P : D → Mu → Prop} {m : Nat} {ds : List D} (ex : List MC) (hν : ν.length = μ.length) (sh : ∀ (i : Nat) (c : MC), ν[i]? = some c → μ[i]? = some c ∨ closedC μ.length c = true) (hm : μ.length ≤ m) (he : (ν ++ ex)[m]? = some (.lst ds)) (hc : closedAll μ.length ds = true) (h : outL P ds ν) : Seal μ P (.mu m) (ν ++ ex) := by
  have tk : (ν ++ ex).take μ.length = ν := by rw [← hν, List.take_left']; rfl
  refine .inr ⟨by rw [List.length_append, hν]; omega, fun i c hi e => ?_, .inr (.inl ⟨m, ds, rfl, hm, he, hc, ?_⟩)⟩
  · rw [List.getElem?_append_left (by omega)] at e
    exact sh i c e
  · rw [tk, ← hν]
    exact h
theorem sqAt.app {μ : Mu} {d : D} {ds : List D} (h : sqAt μ d ds) (ex : List MC) : sqAt (μ ++ ex) d ds := by
  rcases h with h | h | h | ⟨m, h1, h2⟩
  · exact .inl h
  · exact .inr (.inl h)
  · exact .inr (.inr (.inl h))
  · exact .inr (.inr (.inr ⟨m, h1, mu_app h2 ex⟩))
theorem zipKM_at {P : List D → (Mu → Prop) → Mu → Prop} {μ : Mu} {x y : D} {b : Bool} {xs ys : List D} (hx : seqB x = some (b, xs)) (hy : sqAt μ y ys) (h : ∀ kp : Mu → Prop, (∀ μ', sqAt μ' y ys → kp μ') → P (zipD xs ys) kp μ) : zipKM P [x, y] μ := by
  rcases hy with rfl | rfl | rfl | ⟨m, rfl, hm⟩
  · have e : seqB (.lst ys) = some (true, ys) := rfl
    unfold zipKM
    simp only [zipK, hx, e]
    exact h _ fun _ _ => trivial
  · have e : seqB (.tup ys) = some (false, ys) := rfl
    unfold zipKM
    simp only [zipK, hx, e]
    exact h _ fun _ _ => trivial
  · have e : seqB (.tupp ys) = some (false, ys) := rfl
    unfold zipKM
    simp only [zipK, hx, e]
    exact h _ fun _ _ => trivial
  · have := h (fun μ => μ[m]? = some (.lst ys)) fun μ' z => by
      rcases z with z | z | z | ⟨m', z, e⟩
      · cases z
      · cases z
      · cases z
      · cases z; exact e
    unfold zipKM
    simp only [hx, hm]
    exact this
@[simp] theorem closedAll_map {α : Type} (n : Nat) (f : α → D) (h : ∀ x, closed n (f x) = true) : ∀ xs : List α, closedAll n (xs.map f) = true
  | [] => rfl
  | x :: xs => by
    show (closed n (f x) && closedAll n (xs.map f)) = true
    rw [h x, closedAll_map n f h xs]
    rfl
@[simp] theorem closedAll_pD (n : Nat) (ps : List (List Int × List Int)) : closedAll n (ps.map pD) = true := closedAll_map n pD (fun p => by simp) ps
@[simp] theorem closedAll_rowD (n : Nat) (ps : List (List Int × List Int)) : closedAll n (ps.map rowD) = true := closedAll_map n rowD (fun p => by simp) ps
@[simp] theorem closedAll_tI (n : Nat) (gs : List (List Int)) : closedAll n (gs.map tI) = true := closedAll_map n tI (fun p => by simp) gs
@[simp] theorem closedAll_tP (n : Nat) (gs : List (List Int)) : closedAll n (gs.map tP) = true := closedAll_map n tP (fun p => by simp) gs
theorem seal_frz {μ ν : Mu} {P : D → Mu → Prop} {d d' : D} (ex : List MC) (hν : ν.length = μ.length) (sh : ∀ (i : Nat) (c : MC), ν[i]? = some c → μ[i]? = some c ∨ closedC μ.length c = true) (hf : Froz (ν ++ ex) μ.length d d') (h : P d' ν) : Seal μ P d (ν ++ ex) := by
  refine .inr ⟨by rw [List.length_append, hν]; omega, fun i c hi e => ?_, .inr (.inr ⟨d', hf, by rw [← hν, List.take_left']; exact h; rfl⟩)⟩
  rw [List.getElem?_append_left (by omega)] at e
  exact sh i c e
end DB

namespace DB
open PySem PySem.Spec L2 DL PyProof.Rows
/-- data that repr tells: k its depth, n its length at most -/
def NiceP (k n : Nat) (p : PyData) : Prop := p.showable = true ∧ p.hasDict = false ∧ p.depth ≤ k ∧ cost p ≤ n
def Nice (k n : Nat) (d : D) : Prop := ∃ p, toPy d = some p ∧ NiceP k n p
theorem Nice.mono {k n k' n' : Nat} {d : D} (h : Nice k n d) (hk : k ≤ k') (hn : n ≤ n') : Nice k' n' d := by
  obtain ⟨p, h1, h2, h3, h4, h5⟩ := h
  exact ⟨p, h1, h2, h3, by omega, by omega⟩
theorem Nice.shows {k n : Nat} {d : D} (h : Nice k n d) (hk : k ≤ 60) (hn : n ≤ 16777216) : shows d := by
  obtain ⟨p, h1, h2, h3, h4, h5⟩ := h
  exact ⟨p, h1, h2, h3, by omega, by have := shown_cost p h3; unfold sizeLine; omega⟩
theorem nice_int {i : Int} (h : i.natAbs < 10 ^ 12) : Nice 0 13 (.int i) := by
  refine ⟨_, rfl, ?_, rfl, Nat.le_refl _, ?_⟩
  · simp only [PyData.showable, decide_eq_true_eq]
    by_cases z : i.natAbs = 0
    · rw [z]; decide
    · have := Nat.log2_lt (n := i.natAbs) (k := 1920) z
      rw [this]
      exact Nat.lt_trans h (by decide +kernel)
  · rw [cost]
    · exact PySem.PyData.shown_int_le h
    all_goals (intro _ h; cases h)
theorem nice_non : Nice 0 4 .non := ⟨_, rfl, rfl, rfl, Nat.le_refl _, by
  rw [cost]
  · decide +kernel
  all_goals (intro _ h; cases h)⟩
theorem nice_bl (b : Bool) : Nice 0 5 (.bl b) := ⟨_, rfl, rfl, rfl, Nat.le_refl _, by
  rw [cost]
  · cases b <;> decide +kernel
  all_goals (intro _ h; cases h)⟩
theorem nice_all {k n : Nat} : ∀ {xs : List D}, (∀ x ∈ xs, Nice k n x) → ∃ ps, toPyAll xs = some ps ∧ PyData.showableAll ps = true ∧ PyData.hasDictAll ps = false ∧ PyData.depthAll ps ≤ k ∧ costAll ps ≤ (n + 2) * xs.length
  | [], _ => ⟨[], rfl, rfl, rfl, Nat.zero_le _, Nat.zero_le _⟩
  | x :: xs, h => by
    obtain ⟨p, h1, h2, h3, h4, h5⟩ := h x List.mem_cons_self
    obtain ⟨ps, q1, q2, q3, q4, q5⟩ := nice_all (xs := xs) fun y hy => h y (List.mem_cons_of_mem _ hy)
    refine ⟨p :: ps, ?_, ?_, ?_, ?_, ?_⟩
    · rw [toPyAll, h1, q1]
    · simp [PyData.showableAll, h2, q2]
    · simp [PyData.hasDictAll, h3, q3]
    · simp [PyData.depthAll]; omega
    · rw [costAll, List.length_cons, Nat.mul_succ]; omega
theorem nice_tup {k n m : Nat} {xs : List D} (h : ∀ x ∈ xs, Nice k n x) (hm : xs.length ≤ m) : Nice (k + 1) ((n + 2) * m + 3) (.tup xs) := by
  obtain ⟨ps, q1, q2, q3, q4, q5⟩ := nice_all h
  refine ⟨.tuple ps, by rw [toPy, q1]; rfl, by simpa [PyData.showable] using q2, by simpa [PyData.hasDict] using q3, by simp [PyData.depth]; omega, ?_⟩
  rw [cost]
  have := Nat.mul_le_mul_left (n + 2) hm
  omega
theorem nice_lst {k n m : Nat} {xs : List D} (h : ∀ x ∈ xs, Nice k n x) (hm : xs.length ≤ m) : Nice (k + 1) ((n + 2) * m + 3) (.lst xs) := by
  obtain ⟨ps, q1, q2, q3, q4, q5⟩ := nice_all h
  refine ⟨.list ps, by rw [toPy, q1]; rfl, by simpa [PyData.showable] using q2, by simpa [PyData.hasDict] using q3, by simp [PyData.depth]; omega, ?_⟩
  rw [cost]
  have := Nat.mul_le_mul_left (n + 2) hm
  omega
/-! ### what steps are -/
theorem takeSteps_ok {gs : List (List Int)} : ∀ (k : Nat) (ls : List Int) {ts : List (Int × Int)}, okL gs ls → takeSteps gs k ls = some ts → ts.length = k ∧ ∀ p ∈ ts, (0 ≤ p.1 ∧ p.1 < (gs.length : Nat)) ∧ 0 ≤ p.2 ∧ p.2 < (gs.length : Nat)
  | 0, ls, ts, _, h => by cases h; simp
  | k + 1, ls, ts, hO, h => by
    unfold takeSteps at h
    split at h
    · cases h
    · rename_i p hp
      obtain ⟨rs, h1, rfl⟩ := omap h
      have hpm := pairs_mem (List.mem_of_mem_head? hp)
      obtain ⟨q1, q2⟩ := takeSteps_ok k _ (okL_erase hO) h1
      refine ⟨by simp [q1], fun x hx => ?_⟩
      rcases List.mem_cons.mp hx with rfl | hx
      · exact ⟨hO.2.2.2 _ hpm.1, hO.2.2.2 _ hpm.2.1⟩
      · exact q2 x hx
theorem steps_ok {gs : List (List Int)} {n : Int} {ts : List (Int × Int)} (hS : isS gs n) (h : stepsOf gs = some ts) : ts.length = gs.length - 1 ∧ ∀ p ∈ ts, (0 ≤ p.1 ∧ p.1 < (gs.length : Nat)) ∧ 0 ≤ p.2 ∧ p.2 < (gs.length : Nat) :=
  takeSteps_ok _ _ (okL_nums hS.2.2.2.1 fun g hg => (hS.2.2.2.2 g hg).2.1) h
theorem nice_pair {p : Int × Int} (h1 : p.1.natAbs < 10 ^ 12) (h2 : p.2.natAbs < 10 ^ 12) : Nice 1 33 (pairI p) :=
  nice_tup (k := 0) (n := 13) (m := 2) (fun x hx => by
    simp at hx
    rcases hx with rfl | rfl
    · exact nice_int h1
    · exact nice_int h2) (by simp)
theorem nice_steps {gs : List (List Int)} {n : Int} (hS : isS gs n) : Nice 2 200 (stepsD (stepsOf gs)) := by
  cases e : stepsOf gs with
  | none => exact nice_non.mono (by omega) (by omega)
  | some ts =>
    obtain ⟨h1, h2⟩ := steps_ok hS e
    have := hS.2.2.2.1
    refine (nice_tup (k := 1) (n := 33) (m := 5) (fun x hx => ?_) (by rw [List.length_map]; omega)).mono (by omega) (by omega)
    obtain ⟨p, hp, rfl⟩ := List.mem_map.mp hx
    have := h2 p hp
    exact nice_pair (by omega) (by omega)
end DB

/-! Pieces: the mathematics. -/
namespace DB
open PySem PySem.Spec L2 DL
theorem place_from : ∀ (ns : List Int) (p : Int), 0 ≤ p → (∀ x ∈ ns, x = 0 ∨ x = 1) → p * (2 ^ ns.length : Nat) ≤ ns.foldl (fun p v => 2 * p + v) p ∧ ns.foldl (fun p v => 2 * p + v) p < (p + 1) * (2 ^ ns.length : Nat)
  | [], p, h, _ => by simp; omega
  | x :: ns, p, h, hb => by
    have hx := hb x List.mem_cons_self
    have ih := place_from ns (2 * p + x) (by omega) fun y hy => hb y (List.mem_cons_of_mem _ hy)
    rw [List.foldl_cons, List.length_cons, Nat.pow_succ]
    have h2 : (0 : Int) ≤ (2 ^ ns.length : Nat) := Int.natCast_nonneg _
    generalize List.foldl (fun p v => 2 * p + v) (2 * p + x) ns = F at ih ⊢
    rw [Int.natCast_mul]
    generalize ((2 ^ ns.length : Nat) : Int) = N at ih h2 ⊢
    have e1 : p * (N * (2 : Nat)) = (2 * p) * N := by rw [Int.mul_comm N, ← Int.mul_assoc, Int.mul_comm p]; rfl
    have e2 : (p + 1) * (N * (2 : Nat)) = (2 * p + 2) * N := by rw [Int.mul_comm N, ← Int.mul_assoc, Int.add_mul, Int.mul_comm p]; rfl
    rw [e1, e2]
    have e3 : (2 * p + x) * N = (2 * p) * N + x * N := Int.add_mul _ _ _
    have e4 : (2 * p + x + 1) * N = (2 * p) * N + x * N + N := by rw [Int.add_mul, Int.add_mul, Int.one_mul]
    have e5 : (2 * p + 2) * N = (2 * p) * N + 2 * N := Int.add_mul _ _ _
    rw [e3, e4] at ih
    rw [e5]
    rcases hx with rfl | rfl
    · rw [Int.zero_mul] at ih; omega
    · rw [Int.one_mul] at ih; omega
theorem bitI_01 (p m v : Int) : bitI p m v = 0 ∨ bitI p m v = 1 := by unfold bitI; omega
theorem partPlace_lt (p m : Int) (vs : List Int) : 0 ≤ partPlace p m vs ∧ partPlace p m vs < (2 ^ vs.length : Nat) := by
  have := place_from (vs.map (bitI p m)) 0 (by decide) fun x hx => by
    obtain ⟨v, _, rfl⟩ := List.mem_map.mp hx
    exact bitI_01 p m v
  rw [List.length_map] at this
  unfold partPlace plcOf
  omega
theorem addAt_length (s : List Int) (pc : Int × Int) : (addAt s pc).length = s.length := by unfold addAt; simp
theorem foldl_addAt_length : ∀ (l : List (Int × Int)) (s : List Int), (l.foldl addAt s).length = s.length
  | [], s => rfl
  | x :: l, s => by rw [List.foldl_cons, foldl_addAt_length l, addAt_length]
theorem partSums_length (cs : List Int) (m : Int) (vs : List Int) : (partSums cs m vs).length = 2 ^ vs.length := by
  unfold partSums
  rw [foldl_addAt_length, List.length_replicate]
end DB

/-! Sums of pieces: the mathematics. -/
namespace DB
open PySem PySem.Spec L2 DL
def su : Nat → (Nat → Int) → Int
  | 0, _ => 0
  | n + 1, f => su n f + f n
theorem su_congr {n : Nat} {f g : Nat → Int} (h : ∀ p, p < n → f p = g p) : su n f = su n g := by
  induction n with
  | zero => rfl
  | succ n ih => rw [su, su, ih fun p hp => h p (by omega), h n (by omega)]
theorem su_add (n : Nat) (f g : Nat → Int) : su n (fun p => f p + g p) = su n f + su n g := by
  induction n with
  | zero => rfl
  | succ n ih => rw [su, su, su, ih]; omega
theorem su_mul (n : Nat) (f : Nat → Int) (k : Int) : su n (fun p => f p * k) = su n f * k := by
  induction n with
  | zero => simp [su]
  | succ n ih => rw [su, su, ih, Int.add_mul]
theorem su_zero (n : Nat) : su n (fun _ => 0) = 0 := by
  induction n with
  | zero => rfl
  | succ n ih => rw [su, ih]; rfl
theorem su_nonneg {n : Nat} {f : Nat → Int} (h : ∀ p, p < n → 0 ≤ f p) : 0 ≤ su n f := by
  induction n with
  | zero => exact Int.le_refl _
  | succ n ih =>
    rw [su]
    have := ih fun p hp => h p (by omega)
    have := h n (by omega)
    omega
theorem su_swap (n k : Nat) (f : Nat → Nat → Int) : su n (fun p => su k fun q => f p q) = su k fun q => su n fun p => f p q := by
  induction n with
  | zero => exact (su_zero k).symm
  | succ n ih =>
    show su n (fun p => su k fun q => f p q) + su k (fun q => f n q) = su k fun q => su n (fun p => f p q) + f n q
    rw [ih, su_add]
theorem su_one {k a : Nat} (x : Int) (h : a < k) : su k (fun q => if a = q then x else 0) = x := by
  induction k with
  | zero => omega
  | succ k ih =>
    rw [su]
    by_cases e : a = k
    · subst e
      rw [if_pos rfl, su_congr (g := fun _ => 0) fun p hp => if_neg (by omega), su_zero]
      omega
    · rw [if_neg e, ih (by omega)]
      omega
theorem sum_su : ∀ (cs : List Int), cs.sum = su cs.length fun p => cs.getD p 0 := by
  intro cs
  have key : ∀ (n : Nat), n ≤ cs.length → (cs.take n).sum = su n fun p => cs.getD p 0 := by
    intro n
    induction n with
    | zero => intro _; rfl
    | succ n ih =>
      intro hn
      rw [List.take_add_one, List.getElem?_eq_getElem (by omega), su, ← ih (by omega), List.sum_append, List.getD_eq_getElem?_getD, List.getElem?_eq_getElem (by omega)]
      simp
  rw [← key cs.length (Nat.le_refl _), List.take_length]
theorem ext_getD {as bs : List Int} (hl : as.length = bs.length) (h : ∀ q, q < as.length → as.getD q 0 = bs.getD q 0) : as = bs := by
  apply List.ext_getElem hl
  intro i h1 h2
  have := h i h1
  rw [List.getD_eq_getElem?_getD, List.getElem?_eq_getElem h1, List.getD_eq_getElem?_getD, List.getElem?_eq_getElem h2] at this
  exact this
theorem mem_nonneg {cs : List Int} : (∀ x ∈ cs, 0 ≤ x) ↔ ∀ q, q < cs.length → 0 ≤ cs.getD q 0 := by
  constructor
  · intro h q hq
    rw [List.getD_eq_getElem?_getD, List.getElem?_eq_getElem hq]
    exact h _ (List.getElem_mem hq)
  · intro h x hx
    obtain ⟨q, hq, rfl⟩ := List.getElem_of_mem hx
    have := h q hq
    rw [List.getD_eq_getElem?_getD, List.getElem?_eq_getElem hq] at this
    exact this
/-- the counts c of n places, added at their new places among k -/
def gat (n : Nat) (g : Nat → Nat) (c : Nat → Int) (k : Nat) : List Int := ((List.range n).map fun p => ((g p : Int), c p)).foldl addAt (List.replicate k 0)
theorem gat_length (n : Nat) (g : Nat → Nat) (c : Nat → Int) (k : Nat) : (gat n g c k).length = k := by
  unfold gat
  rw [foldl_addAt_length, List.length_replicate]
theorem gat_get {n : Nat} {g : Nat → Nat} {c : Nat → Int} {k : Nat} (hg : ∀ p, p < n → g p < k) : ∀ q, q < k → (gat n g c k).getD q 0 = su n fun p => if g p = q then c p else 0 := by
  induction n with
  | zero =>
    intro q hq
    show (List.replicate k (0 : Int)).getD q 0 = 0
    rw [List.getD_eq_getElem?_getD, List.getElem?_replicate, if_pos hq]
    rfl
  | succ n ih =>
    intro q hq
    have e : gat (n + 1) g c k = addAt (gat n g c k) ((g n : Int), c n) := by
      unfold gat
      rw [List.range_succ, List.map_append, List.foldl_append]
      rfl
    have hl : (gat n g c k).length = k := gat_length _ _ _ _
    rw [e, su, ← ih (fun p hp => hg p (by omega)) q hq]
    unfold addAt
    have hgn := hg n (by omega)
    rw [List.getD_eq_getElem?_getD, List.getElem?_set]
    simp only [Int.toNat_natCast]
    by_cases eq : g n = q
    · subst eq
      rw [if_pos rfl, if_pos (by omega), if_pos rfl]
      rfl
    · rw [if_neg eq, if_neg eq, ← List.getD_eq_getElem?_getD]
      omega
theorem gat_gat {n : Nat} {g h : Nat → Nat} {c : Nat → Int} {k l : Nat} (hg : ∀ p, p < n → g p < k) (hh : ∀ p, p < k → h p < l) :
    gat k h (fun q => (gat n g c k).getD q 0) l = gat n (fun p => h (g p)) c l := by
  refine ext_getD (by rw [gat_length, gat_length]) fun r hr => ?_
  rw [gat_length] at hr
  rw [gat_get hh r hr, gat_get (fun p hp => hh _ (hg p hp)) r hr]
  rw [su_congr (g := fun q => su n fun p => if g p = q then (if h q = r then c p else 0) else 0) fun q hq => ?_]
  · rw [← su_swap]
    exact su_congr fun p hp => by
      rw [su_congr (g := fun q => if g p = q then (if h (g p) = r then c p else 0) else 0) fun q hq => ?_]
      · exact su_one _ (hg p hp)
      · by_cases e : g p = q
        · subst e; rfl
        · rw [if_neg e, if_neg e]
  · rw [gat_get hg q hq]
    by_cases e : h q = r
    · rw [if_pos e]
      exact su_congr fun p hp => by
        by_cases e2 : g p = q
        · rw [if_pos e2, if_pos e2, if_pos e]
        · rw [if_neg e2, if_neg e2]
    · rw [if_neg e]
      rw [su_congr (g := fun _ => 0) fun p hp => ?_]
      · exact (su_zero n).symm
      · by_cases e2 : g p = q
        · rw [if_pos e2, if_neg e]
        · rw [if_neg e2]
theorem gat_id {n : Nat} {g : Nat → Nat} {cs : List Int} (hl : cs.length = n) (hg : ∀ p, p < n → g p = p) : gat n g (fun p => cs.getD p 0) n = cs := by
  refine ext_getD (by rw [gat_length, hl]) fun q hq => ?_
  rw [gat_length] at hq
  rw [gat_get (fun p hp => by rw [hg p hp]; exact hp) q hq]
  rw [su_congr (g := fun p => if q = p then cs.getD q 0 else 0) fun p hp => ?_]
  · exact su_one _ hq
  · rw [hg p hp]
    by_cases e : p = q
    · subst e; rfl
    · rw [if_neg e, if_neg (Ne.symm e)]
theorem gat_sum {n : Nat} {g : Nat → Nat} {c : Nat → Int} {k : Nat} (hg : ∀ p, p < n → g p < k) : (gat n g c k).sum = su n c := by
  rw [sum_su, gat_length, su_congr fun q hq => gat_get hg q hq, ← su_swap]
  exact su_congr fun p hp => su_one _ (hg p hp)
theorem gat_nonneg {n : Nat} {g : Nat → Nat} {c : Nat → Int} {k : Nat} (hg : ∀ p, p < n → g p < k) (hc : ∀ p, p < n → 0 ≤ c p) : ∀ x ∈ gat n g c k, 0 ≤ x := by
  rw [mem_nonneg]
  intro q hq
  rw [gat_length] at hq
  rw [gat_get hg q hq]
  exact su_nonneg fun p hp => by
    split
    · exact hc p hp
    · exact Int.le_refl _
end DB

/-! The places of rows: the mathematics. -/
namespace DB
open PySem PySem.Spec L2 DL
def pN (bs : List Nat) : Nat := bs.foldl (fun p v => 2 * p + v) 0
def bN (p m j : Nat) : Nat := p / 2 ^ (m - 1 - j) % 2
theorem bN_lt (p m j : Nat) : bN p m j < 2 := Nat.mod_lt _ (by decide)
theorem pN_snoc (bs : List Nat) (b : Nat) : pN (bs ++ [b]) = 2 * pN bs + b := by
  unfold pN
  rw [List.foldl_append]
  rfl
theorem placeOf_pN (bs : List Nat) : plcOf (bs.map fun b : Nat => (b : Int)) = (pN bs : Int) := by
  have key : ∀ (bs : List Nat) (p : Nat), (bs.map fun b : Nat => (b : Int)).foldl (fun p v => 2 * p + v) (p : Int) = ((bs.foldl (fun p v => 2 * p + v) p : Nat) : Int) := by
    intro bs
    induction bs with
    | nil => intro p; rfl
    | cons b bs ih =>
      intro p
      rw [List.map_cons, List.foldl_cons, List.foldl_cons, ← ih]
      congr 1
  exact key bs 0
theorem bitI_bN {p m j : Nat} (h : j < m) : bitI p m j = (bN p m j : Int) := by
  unfold bitI bN
  have e : ((m : Int) - 1 - (j : Int)).toNat = m - 1 - j := by omega
  rw [e]
  generalize m - 1 - j = k
  rw [Int.natCast_emod, Int.natCast_ediv, Int.natCast_pow]
  rfl
theorem bN_pN : ∀ (n : Nat) (bs : List Nat), bs.length = n → (∀ b ∈ bs, b < 2) → ∀ j (h : j < bs.length), bN (pN bs) bs.length j = bs[j]
  | 0, bs, hl, _, j, h => by omega
  | n + 1, bs, hl, hb, j, h => by
    have hne : bs ≠ [] := by rintro rfl; simp at hl
    obtain ⟨xs, b, rfl⟩ : ∃ xs b, bs = xs ++ [b] := ⟨bs.dropLast, bs.getLast hne, (List.dropLast_concat_getLast hne).symm⟩
    have hb2 := hb b (by simp)
    rw [List.length_append, List.length_singleton] at hl h
    rw [pN_snoc]
    unfold bN
    rw [List.length_append, List.length_singleton]
    by_cases hj : j = xs.length
    · subst hj
      rw [show xs.length + 1 - 1 - xs.length = 0 by omega, Nat.pow_zero, Nat.div_one, List.getElem_append_right (Nat.le_refl _)]
      simp
      omega
    · have hj2 : j < xs.length := by omega
      have ih := bN_pN n xs (by omega) (fun b hb' => hb b (List.mem_append_left _ hb')) j hj2
      rw [List.getElem_append_left hj2, ← ih]
      unfold bN
      rw [show xs.length + 1 - 1 - j = 1 + (xs.length - 1 - j) by omega, Nat.pow_add, ← Nat.div_div_eq_div_mul, show (2 * pN xs + b) / 2 ^ 1 = pN xs by omega]
/-- the place at which a row's values of some variables stand: is tells where these are among the m -/
def plN (p m : Nat) (is : List Nat) : Nat := pN (is.map (bN p m))
theorem plN_lt (p m : Nat) (is : List Nat) : plN p m is < 2 ^ is.length := by
  unfold plN
  have key : ∀ (n : Nat) (bs : List Nat), bs.length = n → (∀ b ∈ bs, b < 2) → pN bs < 2 ^ n := by
    intro n
    induction n with
    | zero =>
      intro bs hl _
      rw [List.length_eq_zero_iff.mp hl]
      decide
    | succ n ih =>
      intro bs hl hb
      have hne : bs ≠ [] := by rintro rfl; simp at hl
      obtain ⟨xs, b, rfl⟩ : ∃ xs b, bs = xs ++ [b] := ⟨bs.dropLast, bs.getLast hne, (List.dropLast_concat_getLast hne).symm⟩
      have hb2 := hb b (by simp)
      rw [List.length_append, List.length_singleton] at hl
      have := ih xs (by omega) fun b hb' => hb b (List.mem_append_left _ hb')
      rw [pN_snoc, Nat.pow_succ]
      omega
  exact key _ _ (by simp) fun b hb => by
    obtain ⟨i, _, rfl⟩ := List.mem_map.mp hb
    exact bN_lt _ _ _
theorem plN_plN {p m : Nat} {is js : List Nat} (hj : ∀ j ∈ js, j < is.length) : plN (plN p m is) is.length js = plN p m (js.map fun j => is.getD j 0) := by
  unfold plN
  rw [List.map_map]
  congr 1
  refine List.map_congr_left fun j h => ?_
  have hl := hj j h
  have := bN_pN _ (is.map (bN p m)) rfl (fun b hb => by
    obtain ⟨i, _, rfl⟩ := List.mem_map.mp hb
    exact bN_lt _ _ _) j (by rw [List.length_map]; exact hl)
  show bN (pN (is.map (bN p m))) is.length j = bN p m (is.getD j 0)
  rw [show is.length = (is.map (bN p m)).length by simp, this]
  simp [List.getElem?_eq_getElem hl]
theorem plN_all {p m : Nat} (hp : p < 2 ^ m) : plN p m (List.range m) = p := by
  have key : ∀ k, k ≤ m → plN p m (List.range k) = p / 2 ^ (m - k) % 2 ^ k := by
    intro k
    induction k with
    | zero => intro _; rw [Nat.pow_zero, Nat.mod_one]; rfl
    | succ k ih =>
      intro hk
      have ih := ih (by omega)
      unfold plN at ih ⊢
      rw [List.range_succ, List.map_append, List.map_singleton, pN_snoc, ih]
      unfold bN
      rw [show m - 1 - k = m - (k + 1) by omega, show m - k = m - (k + 1) + 1 by omega, Nat.pow_succ 2 (m - (k + 1)), ← Nat.div_div_eq_div_mul]
      generalize p / 2 ^ (m - (k + 1)) = a
      rw [Nat.pow_succ, Nat.mul_comm (2 ^ k), Nat.mod_mul]
      omega
  rw [key m (Nat.le_refl _), Nat.sub_self, Nat.pow_zero, Nat.div_one, Nat.mod_eq_of_lt hp]
/-- where some variables are among others -/
def whN (vs us : List Int) : List Nat := us.map fun u => vs.idxOf u
theorem whN_lt {vs us : List Int} (h : ∀ u ∈ us, u ∈ vs) : ∀ i ∈ whN vs us, i < vs.length := fun i hi => by
  obtain ⟨u, hu, rfl⟩ := List.mem_map.mp hi
  exact List.idxOf_lt_length_iff.mpr (h u hu)
theorem whN_whN {vs us ws : List Int} (h : ∀ u ∈ us, u ∈ vs) (h' : ∀ w ∈ ws, w ∈ us) : ((whN us ws).map fun j => (whN vs us).getD j 0) = whN vs ws := by
  unfold whN
  rw [List.map_map]
  refine List.map_congr_left fun w hw => ?_
  have hl := List.idxOf_lt_length_iff.mpr (h' w hw)
  simp [List.getElem?_eq_getElem hl, List.getElem_idxOf]
theorem whN_self {vs : List Int} (h : vs.Pairwise (· < ·)) : whN vs vs = List.range vs.length := by
  unfold whN
  apply List.ext_getElem (by simp)
  intro i h1 h2
  rw [List.length_map] at h1
  rw [List.getElem_map, List.getElem_range]
  have hm : vs[i] ∈ vs := List.getElem_mem h1
  have hl := List.idxOf_lt_length_iff.mpr hm
  have he := List.getElem_idxOf hl
  rcases Nat.lt_trichotomy (vs.idxOf vs[i]) i with c | c | c
  · have := List.pairwise_iff_getElem.mp h _ _ hl h1 c
    omega
  · exact c
  · have := List.pairwise_iff_getElem.mp h _ _ h1 hl c
    omega
theorem fewer_gat {vs cs us : List Int} (hc : cs.length = 2 ^ vs.length) (h : ∀ u ∈ us, u ∈ vs) :
    fewer vs cs us = gat (2 ^ vs.length) (fun p => plN p vs.length (whN vs us)) (fun p => cs.getD p 0) (2 ^ us.length) := by
  unfold fewer partSums gat
  rw [List.length_map]
  congr 1
  rw [Int.toNat_natCast]
  apply List.ext_getElem (by simp [hc])
  intro i h1 h2
  rw [List.length_map, List.length_range] at h2
  rw [List.getElem_zip, List.getElem_map, List.getElem_map, List.getElem_range]
  refine Prod.ext ?_ ?_
  · show partPlace (i : Nat) (vs.length : Nat) (us.map fun u => ((vs.idxOf u : Nat) : Int)) = _
    unfold partPlace plN
    rw [← placeOf_pN, List.map_map]
    unfold whN
    rw [List.map_map, List.map_map]
    congr 1
    refine List.map_congr_left fun u hu => ?_
    exact bitI_bN (List.idxOf_lt_length_iff.mpr (h u hu))
  · simp [List.getElem?_eq_getElem (show i < cs.length by omega)]
end DB

/-! What the laws of pieces rest on. -/
namespace DB
open PySem PySem.Spec L2 DL
theorem isP.len {vs cs : List Int} (h : isP vs cs) : cs.length = 2 ^ vs.length := by
  have := h.2.1
  exact Int.ofNat.inj this
theorem pl_lt {vs us : List Int} (p : Nat) : plN p vs.length (whN vs us) < 2 ^ us.length := by
  have := plN_lt p vs.length (whN vs us)
  rwa [show (whN vs us).length = us.length by simp [whN]] at this
theorem fewer_sum {vs cs us : List Int} (hP : isP vs cs) (h : ∀ u ∈ us, u ∈ vs) : (fewer vs cs us).sum = cs.sum := by
  rw [fewer_gat hP.len h, gat_sum (fun p _ => pl_lt p), sum_su cs, hP.len]
theorem fewer_length {vs cs us : List Int} (hP : isP vs cs) (h : ∀ u ∈ us, u ∈ vs) : (fewer vs cs us).length = 2 ^ us.length := by
  rw [fewer_gat hP.len h, gat_length]
theorem fewer_ok {vs cs us : List Int} (hP : isP vs cs) (hU : isG us 5) (hS : ∀ u ∈ us, u ∈ vs) : isP us (fewer vs cs us) := by
  refine ⟨hU, ?_, ?_, ?_, ?_⟩
  · rw [fewer_length hP hS]
  · rw [fewer_gat hP.len hS]
    refine gat_nonneg (fun p _ => pl_lt p) fun p hp => ?_
    exact mem_nonneg.mp hP.2.2.1 p (by rw [hP.len]; exact hp)
  · rw [fewer_sum hP hS]; exact hP.2.2.2.1
  · rw [fewer_sum hP hS]; exact hP.2.2.2.2
theorem fewer_fewer {vs cs us ws : List Int} (hP : isP vs cs) (hU : isG us 5) (h : ∀ u ∈ us, u ∈ vs) (h' : ∀ w ∈ ws, w ∈ us) : fewer us (fewer vs cs us) ws = fewer vs cs ws := by
  have hQ := fewer_ok hP hU h
  rw [fewer_gat hQ.len h', fewer_gat hP.len h, gat_gat (fun p _ => pl_lt p) (fun p _ => pl_lt p), fewer_gat hP.len fun w hw => h w (h' w hw)]
  congr 1
  funext p
  have := plN_plN (p := p) (m := vs.length) (is := whN vs us) (js := whN us ws) (fun j hj => by
    have := whN_lt h' j hj
    simpa [whN] using this)
  rw [whN_whN h h'] at this
  rw [← this]
  simp [whN]
theorem fewer_all {vs cs : List Int} (hP : isP vs cs) : fewer vs cs vs = cs := by
  rw [fewer_gat hP.len fun _ h => h]
  refine gat_id hP.len fun p hp => ?_
  rw [whN_self hP.1.2.2.2]
  exact plN_all hp
theorem addC_length {cs es : List Int} (h : cs.length = es.length) : (addC cs es).length = cs.length := by
  unfold addC
  rw [List.length_zipWith, h, Nat.min_self]
theorem addC_get {cs es : List Int} (h : cs.length = es.length) (q : Nat) : (addC cs es).getD q 0 = cs.getD q 0 + es.getD q 0 := by
  unfold addC
  rw [List.getD_eq_getElem?_getD, List.getD_eq_getElem?_getD, List.getD_eq_getElem?_getD, List.getElem?_zipWith]
  by_cases hq : q < cs.length
  · rw [List.getElem?_eq_getElem hq, List.getElem?_eq_getElem (h ▸ hq)]
    rfl
  · rw [List.getElem?_eq_none (by omega), List.getElem?_eq_none (by omega)]
    rfl
theorem addC_sum {cs es : List Int} (h : cs.length = es.length) : (addC cs es).sum = cs.sum + es.sum := by
  rw [sum_su, addC_length h, su_congr fun q _ => addC_get h q, su_add, ← sum_su, h, ← sum_su]
theorem addC_ok {vs cs es : List Int} (hP : isP vs cs) (hE : isP vs es) (hs : cs.sum + es.sum ≤ 1000) : isP vs (addC cs es) := by
  have hl : cs.length = es.length := by rw [hP.len, hE.len]
  refine ⟨hP.1, ?_, ?_, ?_, ?_⟩
  · rw [addC_length hl]; exact hP.2.1
  · rw [mem_nonneg]
    intro q hq
    rw [addC_length hl] at hq
    rw [addC_get hl]
    have := mem_nonneg.mp hP.2.2.1 q hq
    have := mem_nonneg.mp hE.2.2.1 q (by omega)
    omega
  · rw [addC_sum hl]
    have := hP.2.2.2.1
    have := hE.2.2.2.1
    omega
  · rw [addC_sum hl]; exact hs
theorem mulC_length (cs : List Int) (k : Int) : (mulC cs k).length = cs.length := by unfold mulC; simp
theorem mulC_get (cs : List Int) (k : Int) (q : Nat) : (mulC cs k).getD q 0 = cs.getD q 0 * k := by
  unfold mulC
  rw [List.getD_eq_getElem?_getD, List.getD_eq_getElem?_getD, List.getElem?_map]
  cases cs[q]? with
  | none => simp
  | some x => rfl
theorem mulC_sum (cs : List Int) (k : Int) : (mulC cs k).sum = cs.sum * k := by
  rw [sum_su, mulC_length, su_congr fun q _ => mulC_get cs k q, su_mul, ← sum_su]
theorem mulC_ok {vs cs : List Int} {k : Int} (hP : isP vs cs) (h1 : 1 ≤ k) (hs : cs.sum * k ≤ 1000) : isP vs (mulC cs k) := by
  refine ⟨hP.1, ?_, ?_, ?_, ?_⟩
  · rw [mulC_length]; exact hP.2.1
  · intro x hx
    obtain ⟨c, hc, rfl⟩ := List.mem_map.mp hx
    exact Int.mul_nonneg (hP.2.2.1 c hc) (by omega)
  · rw [mulC_sum]
    have h2 := hP.2.2.2.1
    have := Int.mul_le_mul h2 h1 (by decide) (by omega)
    omega
  · rw [mulC_sum]; exact hs
theorem fewer_add {vs cs es us : List Int} (hP : isP vs cs) (hE : isP vs es) (hs : cs.sum + es.sum ≤ 1000) (h : ∀ u ∈ us, u ∈ vs) : fewer vs (addC cs es) us = addC (fewer vs cs us) (fewer vs es us) := by
  have hA := addC_ok hP hE hs
  have hl : cs.length = es.length := by rw [hP.len, hE.len]
  have hfl : (fewer vs cs us).length = (fewer vs es us).length := by rw [fewer_length hP h, fewer_length hE h]
  refine ext_getD (by rw [fewer_length hA h, addC_length hfl, fewer_length hP h]) fun q hq => ?_
  rw [fewer_length hA h] at hq
  rw [addC_get hfl, fewer_gat hA.len h, fewer_gat hP.len h, fewer_gat hE.len h, gat_get (fun p _ => pl_lt p) q hq, gat_get (fun p _ => pl_lt p) q hq, gat_get (fun p _ => pl_lt p) q hq, ← su_add]
  refine su_congr fun p hp => ?_
  rw [addC_get hl]
  split
  · rfl
  · rfl
theorem fewer_mul {vs cs us : List Int} {k : Int} (hP : isP vs cs) (h1 : 1 ≤ k) (hs : cs.sum * k ≤ 1000) (h : ∀ u ∈ us, u ∈ vs) : fewer vs (mulC cs k) us = mulC (fewer vs cs us) k := by
  have hA := mulC_ok hP h1 hs
  refine ext_getD (by rw [fewer_length hA h, mulC_length, fewer_length hP h]) fun q hq => ?_
  rw [fewer_length hA h] at hq
  rw [mulC_get, fewer_gat hA.len h, fewer_gat hP.len h, gat_get (fun p _ => pl_lt p) q hq, gat_get (fun p _ => pl_lt p) q hq, ← su_mul]
  refine su_congr fun p hp => ?_
  rw [mulC_get]
  split
  · rfl
  · rw [Int.zero_mul]
theorem addC_comm {cs es : List Int} (h : cs.length = es.length) : addC cs es = addC es cs := by
  refine ext_getD (by rw [addC_length h, addC_length h.symm, h]) fun q _ => ?_
  rw [addC_get h, addC_get h.symm, Int.add_comm]
theorem mulC_one (cs : List Int) : mulC cs 1 = cs := by unfold mulC; simp
theorem mulC_two (cs : List Int) : mulC cs 2 = addC cs cs := by
  refine ext_getD (by rw [mulC_length, addC_length rfl]) fun q _ => ?_
  rw [addC_get rfl, mulC_get]
  omega
end DB
namespace DB
open PySem PySem.Spec L2 DL
theorem rdNe_same {l : List Int} {μ : Mu} {P : D → Mu → Prop} (h : P (.bl false) μ) : rdEq true (tI l) (tI l) μ P := by
  unfold rdEq tI
  rw [pyOf_tupI]
  refine ⟨shaped_tupI _, shaped_tupI _, ?_⟩
  rw [eqv_tupI]
  simpa using h
end DB

namespace DB
open PySem PySem.Spec L2 DL PyProof.Rows
/-! rows by their places -/
def rowN (n p : Nat) : List Int := (List.range n).map fun j => (bN p n j : Int)
theorem rowsL_eq : ∀ n, n ≤ 5 → rowsL n = (List.range (2 ^ n)).map (rowN n) := by decide +kernel
theorem rowN_length (n p : Nat) : (rowN n p).length = n := by simp [rowN]
theorem rowN_get {n p j : Nat} (h : j < n) : (rowN n p).getD j 0 = bN p n j := by
  unfold rowN
  rw [List.getD_eq_getElem?_getD, List.getElem?_map, List.getElem?_range h]
  rfl
/-- a row's values of some variables stand at this place -/
theorem rowN_part {m p : Nat} {vs : List Int} (hv : ∀ v ∈ vs, 0 ≤ v ∧ v ≤ (m : Int) - 1) : vs.map (fun v => (rowN m p).getD v.toNat 0) = rowN vs.length (plN p m (vs.map Int.toNat)) := by
  have hl : (vs.map Int.toNat).length = vs.length := List.length_map _
  apply List.ext_getElem
  · simp [rowN]
  · intro j h1 h2
    rw [List.length_map] at h1
    rw [List.getElem_map]
    have hj := hv vs[j] (List.getElem_mem h1)
    rw [rowN_get (by omega)]
    have e : (rowN vs.length (plN p m (vs.map Int.toNat)))[j] = (bN (plN p m (vs.map Int.toNat)) vs.length j : Int) := by
      simp [rowN]
    rw [e]
    unfold plN
    have := bN_pN ((vs.map Int.toNat).map (bN p m)).length ((vs.map Int.toNat).map (bN p m)) rfl (fun b hb => by
      obtain ⟨x, _, rfl⟩ := List.mem_map.mp hb
      exact bN_lt _ _ _) j (by simpa using h1)
    have hl2 : ((vs.map Int.toNat).map (bN p m)).length = vs.length := by simp
    have this2 : bN (pN ((vs.map Int.toNat).map (bN p m))) vs.length j = bN p m (vs[j].toNat) := by
      rw [← hl2, this]
      simp
    rw [this2]
theorem rowN_inj {n p q : Nat} (hp : p < 2 ^ n) (hq : q < 2 ^ n) (h : rowN n p = rowN n q) : p = q := by
  have e : ∀ j, j < n → bN p n j = bN q n j := fun j hj => by
    have := congrArg (fun l : List Int => l.getD j 0) h
    simp only [rowN_get hj] at this
    exact Int.ofNat.inj this
  have z : (List.range n).map (bN p n) = (List.range n).map (bN q n) := List.map_congr_left fun j hj => e j (List.mem_range.mp hj)
  have a := plN_all (p := p) (m := n) hp
  have b := plN_all (p := q) (m := n) hq
  unfold plN at a b
  rw [← a, ← b, z]
theorem partPlace_plN {p m : Nat} {vs : List Int} (hv : ∀ v ∈ vs, 0 ≤ v ∧ v ≤ (m : Int) - 1) : partPlace (p : Nat) (m : Nat) vs = (plN p m (vs.map Int.toNat) : Int) := by
  unfold partPlace plN
  rw [← placeOf_pN]
  congr 1
  rw [List.map_map, List.map_map]
  refine List.map_congr_left fun v hx => ?_
  have := hv v hx
  have := bitI_bN (p := p) (m := m) (j := v.toNat) (by omega)
  rw [show ((v.toNat : Nat) : Int) = v by omega] at this
  exact this
/-- part sums, by rows -/
theorem partSums_gat {m : Nat} {cs vs : List Int} (hc : cs.length = 2 ^ m) (hv : ∀ v ∈ vs, 0 ≤ v ∧ v ≤ (m : Int) - 1) : partSums cs (m : Nat) vs = gat (2 ^ m) (fun p => plN p m (vs.map Int.toNat)) (fun p => cs.getD p 0) (2 ^ vs.length) := by
  unfold partSums gat
  rw [Int.toNat_natCast]
  congr 1
  apply List.ext_getElem
  · simp [hc]
  · intro p h1 h2
    simp only [List.length_zip, List.length_map, List.length_range] at h1
    rw [List.getElem_zip, List.getElem_map, List.getElem_range, List.getElem_map, List.getElem_range, partPlace_plN hv]
    show _ = ((plN p m (vs.map Int.toNat) : Int), cs.getD p 0)
    rw [List.getD_eq_getElem?_getD, List.getElem?_eq_getElem (by omega)]
    rfl
theorem plv_lt {m p : Nat} {vs : List Int} : plN p m (vs.map Int.toNat) < 2 ^ vs.length := by
  have := plN_lt p m (vs.map Int.toNat)
  rwa [List.length_map] at this
theorem partSums_len {m : Nat} {cs vs : List Int} : (partSums cs (m : Nat) vs).length = 2 ^ vs.length := partSums_length _ _ _
theorem partSums_sum {m : Nat} {cs vs : List Int} (hc : cs.length = 2 ^ m) (hv : ∀ v ∈ vs, 0 ≤ v ∧ v ≤ (m : Int) - 1) : (partSums cs (m : Nat) vs).sum = cs.sum := by
  rw [partSums_gat hc hv, gat_sum fun p _ => plv_lt, sum_su cs, hc]
theorem partSums_nonneg {m : Nat} {cs vs : List Int} (hc : cs.length = 2 ^ m) (hv : ∀ v ∈ vs, 0 ≤ v ∧ v ≤ (m : Int) - 1) (h0 : ∀ x ∈ cs, 0 ≤ x) : ∀ x ∈ partSums cs (m : Nat) vs, 0 ≤ x := by
  rw [partSums_gat hc hv]
  exact gat_nonneg (fun p _ => plv_lt) fun p hp => (mem_nonneg.mp h0) p (by omega)
end DB

namespace DB
open PySem PySem.Spec L2 DL PyProof.Rows
def kvOf (R : List (List Int)) (vs : List Int) : List (List Int × D) := (R.zip vs).map fun p => (p.1, D.int p.2)
theorem getI_kv : ∀ {R : List (List Int)} {vs : List Int} {q : Nat} {r : List Int}, R.Nodup → R.length = vs.length → R[q]? = some r → getI (kvOf R vs) r = some (.int (vs.getD q 0))
  | [], _, _, _, _, _, h => by simp at h
  | a :: R, [], _, _, _, hl, _ => by simp at hl
  | a :: R, v :: vs, 0, r, hn, hl, h => by
    simp at h; subst h
    simp [getI, kvOf]
  | a :: R, v :: vs, q + 1, r, hn, hl, h => by
    have hr : R[q]? = some r := by simpa using h
    have hne : ¬ a = r := fun e => (List.nodup_cons.mp hn).1 (e ▸ List.mem_of_getElem? hr)
    have ih := getI_kv (vs := vs) (List.nodup_cons.mp hn).2 (by simpa using hl) hr
    simp only [getI, kvOf, List.zip_cons_cons, List.map_cons, List.find?_cons, hne, decide_false] at ih ⊢
    simpa using ih
theorem any_kv {R : List (List Int)} {vs : List Int} {q : Nat} {r : List Int} (hl : R.length = vs.length) (h : R[q]? = some r) : ((kvOf R vs).any fun p => decide (p.1 = r)) = true := by
  rw [List.any_eq_true]
  obtain ⟨hq, e⟩ := List.getElem?_eq_some_iff.mp h
  refine ⟨(R[q], .int (vs[q]'(by omega))), ?_, by simp [e]⟩
  unfold kvOf
  refine List.mem_map.mpr ⟨(R[q], vs[q]'(by omega)), ?_, rfl⟩
  exact List.mem_of_getElem? (i := q) (by rw [List.getElem?_zip_eq_some]; exact ⟨List.getElem?_eq_getElem hq, List.getElem?_eq_getElem (by omega)⟩)
theorem map_kv : ∀ {R : List (List Int)} {vs : List Int} {q : Nat} {r : List Int} {x : Int}, R.Nodup → R.length = vs.length → R[q]? = some r → ((kvOf R vs).map fun p => if p.1 = r then (p.1, D.int x) else p) = kvOf R (vs.set q x)
  | [], _, _, _, _, _, _, h => by simp at h
  | a :: R, [], _, _, _, _, hl, _ => by simp at hl
  | a :: R, v :: vs, 0, r, x, hn, hl, h => by
    simp at h; subst h
    have hnr := (List.nodup_cons.mp hn).1
    simp only [kvOf, List.zip_cons_cons, List.map_cons, List.set_cons_zero, if_true]
    congr 1
    rw [List.map_map]
    refine List.map_congr_left fun p hp => ?_
    have : p.1 ∈ R := (List.of_mem_zip hp).1
    simp only [Function.comp]
    rw [if_neg (fun e : p.1 = a => hnr (by rw [← e]; exact this))]
  | a :: R, v :: vs, q + 1, r, x, hn, hl, h => by
    have hr : R[q]? = some r := by simpa using h
    have hne : ¬ a = r := fun e => (List.nodup_cons.mp hn).1 (e ▸ List.mem_of_getElem? hr)
    have ih := map_kv (vs := vs) (x := x) (List.nodup_cons.mp hn).2 (by simpa using hl) hr
    simp only [kvOf, List.zip_cons_cons, List.map_cons, List.set_cons_succ, hne, if_false] at ih ⊢
    rw [← ih]
theorem putI_kv {R : List (List Int)} {vs : List Int} {q : Nat} {r : List Int} {x : Int} (hn : R.Nodup) (hl : R.length = vs.length) (h : R[q]? = some r) : putI (kvOf R vs) r (.int x) = kvOf R (vs.set q x) := by
  unfold putI
  rw [if_pos (any_kv hl h)]
  exact map_kv hn hl h
theorem putI_new {R : List (List Int)} {i : Nat} {r : List Int} (hn : R.Nodup) (h : R[i]? = some r) : putI ((R.take i).map fun r => (r, D.int 0)) r (.int 0) = (R.take (i + 1)).map fun r => (r, D.int 0) := by
  have hr : r ∉ R.take i := fun hm => by
    obtain ⟨j, hj⟩ := List.mem_iff_getElem?.mp hm
    obtain ⟨hi, e⟩ := List.getElem?_eq_some_iff.mp h
    obtain ⟨hj1, e1⟩ := List.getElem?_eq_some_iff.mp hj
    rw [List.length_take] at hj1
    rw [List.getElem_take] at e1
    exact List.pairwise_iff_getElem.mp hn j i (by omega) hi (by omega) (by rw [e1, e])
  unfold putI
  rw [if_neg, List.take_add_one, h]
  · simp
  · simp only [List.any_eq_true, List.mem_map, decide_eq_true_eq]
    rintro ⟨p, ⟨z, hz, rfl⟩, e⟩
    exact hr (e ▸ hz)
theorem kv_zero (R : List (List Int)) : (R.map fun r => (r, D.int 0)) = kvOf R (List.replicate R.length 0) := by
  induction R with
  | nil => rfl
  | cons r R ih =>
    show (r, D.int 0) :: _ = (r, D.int 0) :: _
    rw [ih]
    rfl
theorem intsP_tP (r : List Int) : intsP (tP r) = some r := by
  show intsOf (r.map D.int) = some r
  exact intsOf_map r
theorem rowsL_nodup : ∀ n, n ≤ 5 → (rowsL n).Nodup := by decide +kernel
theorem rowsL_get {n q : Nat} (hn : n ≤ 5) (hq : q < 2 ^ n) : (rowsL n)[q]? = some (rowN n q) := by
  rw [rowsL_eq n hn, List.getElem?_map, List.getElem?_range hq]
  rfl
end DB

namespace DB
open PySem PySem.Spec L2 DL PyProof.Rows
theorem last_get {vs : List Int} (h : 1 ≤ vs.length) : atI (vs.map D.int) (-1) = some (.int (vs.getD (vs.length - 1) 0)) := by
  have e : ixN (vs.map D.int).length (-1) = some (vs.length - 1) := by
    unfold ixN
    rw [List.length_map, if_neg (by omega), if_pos (by omega)]
    congr 1
    omega
  unfold atI
  rw [e]
  simp only [Option.bind_some]
  rw [List.getElem?_map, List.getD_eq_getElem?_getD, List.getElem?_eq_getElem (by omega)]
  rfl
theorem isG_last {vs : List Int} {n : Int} (hG : isG vs 5) : (0 ≤ vs.getD (vs.length - 1) 0 ∧ vs.getD (vs.length - 1) 0 ≤ n - 1) ↔ isG vs n := by
  obtain ⟨h1, h2, h3, h4⟩ := hG
  have e : vs.getD (vs.length - 1) 0 = vs[vs.length - 1]'(by omega) := by
    rw [List.getD_eq_getElem?_getD, List.getElem?_eq_getElem (by omega)]; rfl
  rw [e]
  constructor
  · rintro ⟨q1, q2⟩
    refine ⟨h1, h2, fun x hx => ⟨(h3 x hx).1, ?_⟩, h4⟩
    obtain ⟨i, hi, rfl⟩ := List.getElem_of_mem hx
    by_cases z : i = vs.length - 1
    · subst z; exact q2
    · have := List.pairwise_iff_getElem.mp h4 i (vs.length - 1) hi (by omega) (by omega)
      omega
  · intro hg
    exact hg.2.2.1 _ (List.getElem_mem _)
theorem common_sub {g h : List Int} : (∀ u ∈ commonOf g h, u ∈ g) ∧ ∀ u ∈ commonOf g h, u ∈ h := ⟨fun u hu => (List.mem_filter.mp hu).1, fun u hu => of_decide_eq_true (List.mem_filter.mp hu).2⟩
theorem common_G {g h : List Int} (hG : isG g 5) (hn : commonOf g h ≠ []) : isG (commonOf g h) 5 := by
  obtain ⟨h1, h2, h3, h4⟩ := hG
  have hl := List.length_filter_le (fun v => decide (v ∈ h)) g
  exact ⟨List.length_pos_iff.mpr hn, by unfold commonOf; omega, fun x hx => h3 x (List.mem_filter.mp hx).1, h4.filter _⟩
theorem isG_mono {g : List Int} {n : Int} (h : isG g n) (hn : n ≤ 5) : isG g 5 := ⟨h.1, h.2.1, fun x hx => ⟨(h.2.2.1 x hx).1, by have := (h.2.2.1 x hx).2; omega⟩, h.2.2.2⟩
theorem isR.isP {n : Int} {ps : List (List Int × List Int)} {t : Int} (h : isR n ps t) : ∀ p ∈ ps, isP p.1 p.2 := fun p hp => ⟨isG_mono (h.2.2.2.2 p hp).1 h.2.1, (h.2.2.2.2 p hp).2.1⟩
theorem all_true {bs : List Bool} (h : ∀ b ∈ bs, b = true) : bs.all id = true := by
  rw [List.all_eq_true]
  exact fun b hb => h b hb
theorem isR.scheme {n : Int} {ps : List (List Int × List Int)} {t : Int} (h : isR n ps t) : isS (grps ps) n := ⟨h.1, h.2.1, by simpa using h.2.2.1, by simpa using h.2.2.2.1, fun g hg => by
  obtain ⟨p, hp, rfl⟩ := List.mem_map.mp hg
  exact (h.2.2.2.2 p hp).1⟩
theorem filterMap_head {β : Type} {f : Nat → Option β} : ∀ {xs : List Nat} {i : Nat} {a : Nat} {y : β}, xs[i]? = some a → (∀ x ∈ xs.take i, f x = none) → f a = some y → (xs.filterMap f).head? = some y
  | [], _, _, _, h, _, _ => by simp at h
  | x :: xs, 0, a, y, h, _, hy => by
    simp at h
    subst h
    rw [List.filterMap_cons, hy]
    rfl
  | x :: xs, i + 1, a, y, h, h0, hy => by
    rw [List.filterMap_cons, h0 x (by simp)]
    exact filterMap_head (i := i) (by simpa using h) (fun z hz => h0 z (by simp [hz])) hy
def qAt (ps : List (List Int × List Int)) (i j : Nat) : Option (List Int) := quarrelOf (ps.getD i ([], [])) (ps.getD j ([], []))
theorem clash_some {ps : List (List Int × List Int)} {i j : Nat} {g : List Int} (hj : j < ps.length) (hi : i < j) (h0 : ∀ j', j' < j → ∀ i', i' < j' → qAt ps i' j' = none) (h1 : ∀ i', i' < i → qAt ps i' j = none) (h : qAt ps i j = some g) : clashOf ps = some (i, j, g) := by
  unfold clashOf
  refine flatMap_head (i := j) (List.getElem?_range hj) (fun j' hj' => ?_) ?_
  · rw [List.take_range] at hj'
    have := List.mem_range.mp hj'
    rw [List.filterMap_eq_nil_iff]
    intro i' hi'
    rw [List.mem_range] at hi'
    have z := h0 j' (by omega) i' hi'
    unfold qAt at z
    rw [z]
    rfl
  · refine filterMap_head (i := i) (List.getElem?_range hi) (fun i' hi' => ?_) ?_
    · rw [List.take_range] at hi'
      have := List.mem_range.mp hi'
      have z := h1 i' (by omega)
      unfold qAt at z
      rw [z]
      rfl
    · unfold qAt at h
      rw [h]
      rfl
theorem clash_none {ps : List (List Int × List Int)} (h0 : ∀ j', j' < ps.length → ∀ i', i' < j' → qAt ps i' j' = none) : clashOf ps = none := by
  unfold clashOf
  have : ((List.range ps.length).flatMap fun j => (List.range j).filterMap fun i => (quarrelOf (ps.getD i ([], [])) (ps.getD j ([], []))).map fun g => (i, j, g)) = [] := by
    rw [List.flatMap_eq_nil_iff]
    intro j hj
    rw [List.filterMap_eq_nil_iff]
    intro i hi
    rw [List.mem_range] at hi hj
    have z := h0 j hj i hi
    unfold qAt at z
    rw [z]
    rfl
  rw [this]
  rfl
end DB

namespace DB
open PySem PySem.Spec L2 DL PyProof.Rows
theorem rows_isR {n : Int} {cs : List Int} {gs : List (List Int)} (hS : isS gs n) (hc : cs.length = 2 ^ n.toNat) (h0 : ∀ g ∈ gs, ∀ x ∈ partSums cs n g, 0 ≤ x) (h1 : 1 ≤ cs.sum) (h2 : cs.sum ≤ 1000) : isR n (rowsOf n cs gs) cs.sum := by
  obtain ⟨q1, q2, q3, q4, q5⟩ := hS
  obtain ⟨m, rfl⟩ : ∃ m : Nat, n = (m : Int) := ⟨n.toNat, by omega⟩
  rw [Int.toNat_natCast] at hc
  refine ⟨q1, q2, by simpa [rowsOf] using q3, by simpa [rowsOf] using q4, fun p hp => ?_⟩
  obtain ⟨g, hg, rfl⟩ := List.mem_map.mp hp
  have hG := q5 g hg
  have hs := partSums_sum hc hG.2.2.1
  exact ⟨hG, ⟨by rw [partSums_len], h0 g hg, by rw [hs]; exact h1, by rw [hs]; exact h2⟩, hs⟩
theorem rows_grps {n : Int} {cs : List Int} {gs : List (List Int)} : grps (rowsOf n cs gs) = gs := by
  unfold grps rowsOf
  rw [List.map_map]
  exact List.map_id _
theorem parts_nonneg {n : Int} {cs : List Int} {gs : List (List Int)} (hS : isS gs n) (hc : cs.length = 2 ^ n.toNat) (h0 : ∀ x ∈ cs, 0 ≤ x) : ∀ g ∈ gs, ∀ x ∈ partSums cs n g, 0 ≤ x := by
  obtain ⟨m, rfl⟩ : ∃ m : Nat, n = (m : Int) := ⟨n.toNat, by have := hS.1; omega⟩
  rw [Int.toNat_natCast] at hc
  exact fun g hg => partSums_nonneg hc (hS.2.2.2.2 g hg).2.2.1 h0
/-- the sum of the sizes -/
def absI (i : Int) : Int := (i.natAbs : Int)
theorem abs_sum_ge : ∀ cs : List Int, cs.sum ≤ (cs.map absI).sum
  | [] => by simp
  | c :: cs => by
    have := abs_sum_ge cs
    simp [absI] at this ⊢
    omega
theorem abs_sum_nonneg : ∀ cs : List Int, (∀ x ∈ cs, 0 ≤ x) → (cs.map absI) = cs
  | [], _ => rfl
  | c :: cs, h => by
    have h1 := h c (by simp)
    rw [List.map_cons, abs_sum_nonneg cs fun x hx => h x (by simp [hx])]
    congr 1
    unfold absI
    omega
theorem sumSet {cs : List Int} {i : Nat} {x : Int} : i < cs.length → (cs.set i x).sum = cs.sum - cs.getD i 0 + x := by
  induction cs generalizing i with
  | nil => intro h; simp at h
  | cons c cs ih =>
    intro h
    cases i with
    | zero => simp; omega
    | succ i =>
      have := ih (i := i) (by simpa using h)
      simp [List.getD_eq_getElem?_getD] at this ⊢
      omega
theorem sum_nonneg : ∀ {cs : List Int}, (∀ x ∈ cs, 0 ≤ x) → 0 ≤ cs.sum
  | [], _ => by simp
  | c :: cs, h => by
    have := h c (by simp)
    have := sum_nonneg (cs := cs) fun x hx => h x (by simp [hx])
    simp
    omega
theorem map_set' {α β : Type} (f : α → β) (xs : List α) (i : Nat) (x : α) : (xs.set i x).map f = (xs.map f).set i (f x) := List.map_set ..
/-- statements, with a word between them -/
theorem seq_by {t u : TDS} {ρ : DL.Env} {μ : Mu} {E : DE} (I : DL.Env → Mu → Prop) (h1 : ∀ NX : DL.Env → Mu → Prop, (∀ ρ' μ', I ρ' μ' → NX ρ' μ') → t ρ μ { E with nx := NX }) (h2 : ∀ ρ' μ', I ρ' μ' → u ρ' μ' E) : sSeq t u ρ μ E := h1 _ h2
/-- a test, with a word about what comes behind it -/
theorem if_by {P Q : Prop} {p : Prop} [Decidable p] (h1 : p → P) (h2 : ¬ p → Q) : if p then P else Q := by
  by_cases h : p
  · rw [if_pos h]; exact h1 h
  · rw [if_neg h]; exact h2 h
theorem sum_reverse (cs : List Int) : cs.reverse.sum = cs.sum := by
  induction cs with
  | nil => rfl
  | cons c cs ih => rw [List.reverse_cons, List.sum_append, ih, List.sum_cons]; simp; omega
theorem isR_set {n : Int} {ps : List (List Int × List Int)} {t : Int} {k : Nat} {g own : List Int} (h : isR n ps t) (hk : ps[k]? = some (g, own)) : isR n (ps.set k (g, own.reverse)) t ∧ grps (ps.set k (g, own.reverse)) = grps ps := by
  obtain ⟨q1, q2, q3, q4, q5⟩ := h
  obtain ⟨hl, e⟩ := List.getElem?_eq_some_iff.mp hk
  have hq := q5 _ (List.mem_of_getElem? hk)
  refine ⟨⟨q1, q2, by rw [List.length_set]; exact q3, by rw [List.length_set]; exact q4, fun p hp => ?_⟩, ?_⟩
  · rcases List.mem_or_eq_of_mem_set hp with hp | rfl
    · exact q5 p hp
    · obtain ⟨a, ⟨b1, b2, b3, b4⟩, c⟩ := hq
      refine ⟨a, ⟨by simpa using b1, fun x hx => b2 x (List.mem_reverse.mp hx), ?_, ?_⟩, ?_⟩
      · show 1 ≤ own.reverse.sum; rw [sum_reverse]; exact b3
      · show own.reverse.sum ≤ 1000; rw [sum_reverse]; exact b4
      · show own.reverse.sum = t; rw [sum_reverse]; exact c
  · unfold grps
    rw [List.map_set]
    apply List.ext_getElem
    · simp
    · intro i h1 h2
      rw [List.getElem_set]
      split
      · rename_i e2; subst e2
        rw [List.getElem_map, e]
      · rfl
end DB

namespace DB
open PySem PySem.Spec L2 DL PyProof.Rows
/-! texts -/
def numS (i : Int) : Str := toString i
/-- a text of at most n signs -/
def okS (n : Nat) (x : Str) : Prop := x.length ≤ n ∧ ∀ c ∈ x.cps.toList, c < 16 ^ 8
theorem okS.mono {n k : Nat} {x : Str} (h : okS n x) (hk : n ≤ k) : okS k x := ⟨Nat.le_trans h.1 hk, h.2⟩
theorem okS_app {n k : Nat} {x y : Str} (h : okS n x) (g : okS k y) : okS (n + k) (x ++ y) := by
  refine ⟨by rw [Str.length_append]; have := h.1; have := g.1; omega, fun c hc => ?_⟩
  rw [Str.cps_append, Array.toList_append, List.mem_append] at hc
  rcases hc with hc | hc
  · exact h.2 c hc
  · exact g.2 c hc
theorem ofString_cps (s : String) : ∀ c ∈ (Str.ofString s).cps.toList, c < 16 ^ 8 := fun c hc => by
  rw [Str.ofString_eq_toList] at hc
  simp at hc
  obtain ⟨a, _, rfl⟩ := hc
  have := a.valid
  have h2 : a.toNat < 1114112 := by
    rcases this with h | ⟨_, h⟩
    · have : a.toNat < 55296 := h
      omega
    · exact h
  omega
theorem okS_num {i : Int} (h : i.natAbs < 10 ^ 12) : okS 13 (numS i) := ⟨PySem.PyData.shown_int_le h, ofString_cps _⟩
theorem okS_lit (s : String) {n : Nat} (h : (Str.ofString s).length ≤ n) : okS n (Str.ofString s) := ⟨h, ofString_cps s⟩
theorem join_cons2 (sep x y : Str) (r : List Str) : Txt.join sep (x :: y :: r) = x ++ sep ++ Txt.join sep (y :: r) := by
  unfold Txt.join
  rw [StrLaws.glued_eq_join, StrLaws.glued_eq_join]
  rfl
theorem join_one (sep x : Str) : Txt.join sep [x] = x := by
  unfold Txt.join
  rw [StrLaws.glued_eq_join]
  rfl
theorem join_nil (sep : Str) : Txt.join sep [] = Str.empty := by
  unfold Txt.join
  rw [StrLaws.glued_eq_join]
  rfl
theorem okS_join {k j : Nat} {sep : Str} (hs : okS j sep) : ∀ {xs : List Str}, (∀ x ∈ xs, okS k x) → okS ((k + j) * xs.length) (Txt.join sep xs)
  | [], _ => by rw [join_nil]; exact ⟨Nat.zero_le _, fun c hc => by simp [Str.empty] at hc⟩
  | [x], h => by rw [join_one]; exact (h x (by simp)).mono (by simp)
  | x :: y :: r, h => by
    rw [join_cons2]
    refine (okS_app (okS_app (h x (by simp)) hs) (okS_join hs (xs := y :: r) fun z hz => h z (List.mem_cons_of_mem _ hz))).mono ?_
    simp only [List.length_cons, Nat.mul_succ]
    omega
theorem nice_str {n : Nat} {x : Str} (h : okS n x) : Nice 0 (10 * n + 2) (.str x) := ⟨_, rfl, rfl, rfl, Nat.le_refl _, by
  rw [cost]
  · have := StrLaws.reprText_len x h.2
    have := h.1
    show (reprText x).length ≤ _
    omega
  all_goals (intro _ h; cases h)⟩
/-- each line with its end -/
theorem join_lines (nl : Str) : ∀ {xs : List Str}, xs ≠ [] → Txt.join Str.empty (xs.map fun x => (Str.empty ++ x) ++ nl) = Txt.join nl xs ++ nl
  | [], h => absurd rfl h
  | [x], _ => by
    rw [List.map_cons, List.map_nil, join_one, join_one, Str.empty_append]
  | x :: y :: r, _ => by
    have ih := join_lines nl (xs := y :: r) (by simp)
    rw [List.map_cons] at ih
    rw [List.map_cons, List.map_cons, join_cons2, join_cons2, ih, Str.empty_append, Str.append_empty]
    simp only [Str.append_assoc]
def spacedS (ns : List Int) : Str := Txt.join " " (ns.map numS)
def lineS (p : List Int × List Int) : Str := spacedS p.1 ++ ": " ++ spacedS p.2
def textS (n : Int) (ps : List (List Int × List Int)) : Str := Txt.join "\n" ((("variables " : Str) ++ numS n) :: ps.map lineS) ++ "\n"
def titleS (n : Int) (k : Nat) : Str := (("Report(" : Str) ++ numS n) ++ " variables, " ++ numS (k : Int) ++ " pieces)"
theorem okS_spaced {ns : List Int} (h : ∀ x ∈ ns, x.natAbs < 10 ^ 12) : okS (14 * ns.length) (spacedS ns) := by
  have := okS_join (k := 13) (j := 1) (sep := " ") (okS_lit " " (by decide +kernel)) (xs := ns.map numS) fun x hx => by
    obtain ⟨i, hi, rfl⟩ := List.mem_map.mp hx
    exact okS_num (h i hi)
  rwa [List.length_map] at this
theorem okS_line {p : List Int × List Int} (h1 : ∀ x ∈ p.1, x.natAbs < 10 ^ 12) (h2 : ∀ x ∈ p.2, x.natAbs < 10 ^ 12) (l1 : p.1.length ≤ 3) (l2 : p.2.length ≤ 8) : okS 160 (lineS p) :=
  (okS_app (okS_app (okS_spaced h1) (okS_lit ": " (n := 2) (by decide +kernel))) (okS_spaced h2)).mono (by omega)
theorem isP.abs1 {p : List Int × List Int} (h : isP p.1 p.2) : ∀ x ∈ p.1, x.natAbs < 10 ^ 12 := fun x hx => by have := h.1.2.2.1 x hx; omega
theorem isC_le {cs : List Int} {k l : Int} (h : isC cs k l) : ∀ x ∈ cs, x ≤ cs.sum := by
  have : ∀ (cs : List Int), (∀ x ∈ cs, 0 ≤ x) → ∀ x ∈ cs, x ≤ cs.sum := fun cs => by
    induction cs with
    | nil => intro _ x hx; simp at hx
    | cons c cs ih =>
      intro h0 x hx
      have hc := h0 c (by simp)
      have hs := sum_nonneg (cs := cs) fun y hy => h0 y (by simp [hy])
      rcases List.mem_cons.mp hx with rfl | hx
      · simp; omega
      · have := ih (fun y hy => h0 y (by simp [hy])) x hx
        simp; omega
  exact this cs h.2.1
theorem isP.abs2 {p : List Int × List Int} (h : isP p.1 p.2) : ∀ x ∈ p.2, x.natAbs < 10 ^ 12 := fun x hx => by
  have h1 := h.2.2.1 x hx
  have h2 := isC_le h.2 x hx
  have := h.2.2.2.2
  omega
theorem isP.len8 {p : List Int × List Int} (h : isP p.1 p.2) : p.2.length ≤ 8 := by
  have h1 := h.2.1
  have := pow2_le h.1.2.1
  omega
theorem okS_lineP {p : List Int × List Int} (h : isP p.1 p.2) : okS 160 (lineS p) := okS_line h.abs1 h.abs2 h.1.2.1 h.len8
theorem okS_text {n : Int} {ps : List (List Int × List Int)} {t : Int} (h : isR n ps t) : okS 1000 (textS n ps) := by
  have hn : okS 160 (("variables " : Str) ++ numS n) := (okS_app (okS_lit "variables " (n := 10) (by decide +kernel)) (okS_num (by have := h.1; have := h.2.1; omega))).mono (by omega)
  refine (okS_app (okS_join (k := 160) (j := 1) (okS_lit "\n" (by decide +kernel)) (xs := (("variables " : Str) ++ numS n) :: ps.map lineS) fun x hx => ?_) (okS_lit "\n" (n := 1) (by decide +kernel))).mono ?_
  · rcases List.mem_cons.mp hx with rfl | hx
    · exact hn
    · obtain ⟨p, hp, rfl⟩ := List.mem_map.mp hx
      exact okS_lineP (h.isP p hp)
  · have := h.2.2.2.1
    rw [List.length_cons, List.length_map]
    omega
theorem okS_title {n : Int} {k : Nat} (hn : n.natAbs < 10 ^ 12) (hk : k ≤ 5) : okS 60 (titleS n k) :=
  (okS_app (okS_app (okS_app (okS_app (okS_lit "Report(" (n := 7) (by decide +kernel)) (okS_num hn)) (okS_lit " variables, " (n := 12) (by decide +kernel))) (okS_num (by omega))) (okS_lit " pieces)" (n := 8) (by decide +kernel))).mono (by omega)
theorem num_log {i : Int} (h : i.natAbs < 10 ^ 12) : i.natAbs.log2 < 1920 := by
  by_cases z : i.natAbs = 0
  · rw [z]; decide
  · rw [Nat.log2_lt z]
    exact Nat.lt_trans h (by decide +kernel)
theorem join_size {k j : Nat} {sep : Str} {xs : List Str} (h : ∀ x ∈ xs, x.length ≤ k) (hs : sep.length ≤ j) (hn : (k + j) * xs.length ≤ 16777216) : (xs.map (·.length)).sum + xs.length * sep.length ≤ 16777216 := by
  have : ∀ xs : List Str, (∀ x ∈ xs, x.length ≤ k) → (xs.map (·.length)).sum ≤ k * xs.length := fun xs => by
    induction xs with
    | nil => simp
    | cons x xs ih =>
      intro h
      have := h x (by simp)
      have := ih fun y hy => h y (by simp [hy])
      simp only [List.map_cons, List.sum_cons, List.length_cons, Nat.mul_succ]
      omega
  have h1 := this xs h
  have h2 : xs.length * sep.length ≤ xs.length * j := Nat.mul_le_mul_left _ hs
  have h3 : (k + j) * xs.length = k * xs.length + xs.length * j := by rw [Nat.add_mul, Nat.mul_comm j]
  omega
/-! what the laws say of reports -/
def s_spaced : DSp := fun ds μ Q _ => ∃ ns, ds = [tI ns] ∧ ns.length ≤ 8 ∧ (∀ x ∈ ns, x.natAbs < 10 ^ 12) ∧ Q (.str (spacedS ns)) μ
def s_piece_line : DSp := fun ds μ Q _ => ∃ p, ds = [pD p] ∧ isP p.1 p.2 ∧ Q (.str (lineS p)) μ
def s_Report_text : DSp := fun ds μ Q _ => ∃ n ps t, ds = [reportD n ps t] ∧ isR n ps t ∧ Q (.str (textS n ps)) μ
def s_Report_repr : DSp := fun ds μ Q _ => ∃ n ps t, ds = [reportD n ps t] ∧ isR n ps t ∧ Q (.str (titleS n ps.length)) μ
def s_law_row_of : DSp := fun ds μ Q _ => ∃ p, ds = [pD p] ∧ Q (rowD p) μ
def seenD (n : Int) (ps : List (List Int × List Int)) (t : Int) (sch : D) : D := .tup [.int n, .lst (ps.map rowD), .int t, sch, .int (ps.length : Nat), .str (titleS n ps.length), .str (textS n ps)]
def s_law_seen : DSp := fun ds μ Q _ => ∃ n ps t, ds = [reportD n ps t] ∧ isR n ps t ∧ Q (seenD n ps t (schemeD n (grps ps))) μ
def s_law_line : DSp := fun ds μ Q _ => ∃ p, ds = [tI p.1, tI p.2] ∧ isP p.1 p.2 ∧ Q (.str (lineS p)) μ
def s_law_text : DSp := fun ds μ Q _ => ∃ n ps t, ds = [.int n, .lst (ps.map rowD)] ∧ isR n ps t ∧ Q (.str (textS n ps)) μ
def s_law_due : DSp := fun ds μ Q _ => ∃ n ps t, ds = [.int n, .lst (ps.map rowD)] ∧ isR n ps t ∧ Q (seenD n ps t (schemeD n (grps ps))) μ
def s_law_common_sums : DSp := fun ds μ Q _ => ∃ p q, ds = [rowD p, rowD q] ∧ isP p.1 p.2 ∧ isP q.1 q.2 ∧ Q (.tup [tI (commonOf p.1 q.1), lI (fewer p.1 p.2 (commonOf p.1 q.1))]) μ
def s_law_due_of : DSp := fun ds μ Q _ => ∃ n ps t, ds = [.lst (ps.map rowD)] ∧ isR n ps t ∧ Q (clashD (clashOf ps)) μ
def s_law_pick : DSp := fun ds μ Q _ => ∃ m l xs x b c, ds = [.mu m, l] ∧ sqAt μ l xs ∧ (∀ k, l = .mu k → k ≠ m) ∧ 1 ≤ xs.length ∧ xs.length ≤ 1000 ∧ μ[m]? = some (penD x b c) ∧ isPen x b c ∧ c < 90000 ∧ ∀ d x' c', d ∈ xs → isPen x' b c' → c' ≤ c + 1 → Q d (μ.set m (penD x' b c'))
def s_law_hard : DSp := fun ds μ Q _ => ∃ m x b c, ds = [.mu m] ∧ μ[m]? = some (penD x b c) ∧ isPen x b c ∧ c < 40000 ∧ ∀ n ps t x' c', isR n ps t → t ≤ 60 → isPen x' b c' → c' ≤ c + 400 → Q (.tup [.int n, .lst (ps.map rowD)]) (μ.set m (penD x' b c'))
end DB

namespace DB
open PySem PySem.Spec L2 DL PyProof.Rows
theorem asc_ext {g h : List Int} (hg : g.Pairwise (· < ·)) (hh : h.Pairwise (· < ·)) (e : ∀ x, x ∈ g ↔ x ∈ h) : g = h := by
  induction g generalizing h with
  | nil =>
    cases h with
    | nil => rfl
    | cons b h => exact absurd ((e b).mpr (by simp)) (by simp)
  | cons a g ih =>
    cases h with
    | nil => exact absurd ((e a).mp (by simp)) (by simp)
    | cons b h =>
      obtain ⟨g1, g2⟩ := List.pairwise_cons.mp hg
      obtain ⟨h1, h2⟩ := List.pairwise_cons.mp hh
      have hab : a = b := by
        have q1 := (e a).mp (by simp)
        have q2 := (e b).mpr (by simp)
        rcases List.mem_cons.mp q1 with q1 | q1
        · exact q1
        · rcases List.mem_cons.mp q2 with q2 | q2
          · exact q2.symm
          · have := h1 a q1; have := g1 b q2; omega
      subst hab
      congr 1
      refine ih g2 h2 fun x => ⟨fun hx => ?_, fun hx => ?_⟩
      · rcases List.mem_cons.mp ((e x).mp (by simp [hx])) with rfl | z
        · exact absurd (g1 x hx) (by omega)
        · exact z
      · rcases List.mem_cons.mp ((e x).mpr (by simp [hx])) with rfl | z
        · exact absurd (h1 x hx) (by omega)
        · exact z
theorem common_comm {g h : List Int} (hg : isG g 5) (hh : isG h 5) : commonOf g h = commonOf h g :=
  asc_ext (hg.2.2.2.filter _) (hh.2.2.2.filter _) fun x => by
    unfold commonOf
    simp [List.mem_filter, and_comm]
theorem fewer_nil {vs cs : List Int} (hP : isP vs cs) : fewer vs cs [] = [cs.sum] := by
  have h1 := fewer_length hP (us := []) (by simp)
  have h2 := fewer_sum hP (us := []) (by simp)
  match fewer vs cs [], h1, h2 with
  | [x], _, h2 => simp at h2; rw [h2]
/-- one side's sums, compared -/
abbrev sumD (g cs : List Int) : D := .tup [tI g, lI cs]
theorem pyOf_sum (μ : Mu) (g cs : List Int) : pyOf μ (sumD g cs) = some (.tuple [.tuple (g.map .int), .list (cs.map .int)]) := by
  show (toPyAll [tI g, lI cs]).map PyData.tuple = _
  simp [toPyAll, toPy, toPyAll_ints]
theorem shaped_sum (g cs : List Int) : SeqAt.shaped (.tuple [.tuple (g.map .int), .list (cs.map .int)]) = true := by
  simp [SeqAt.shaped, PyData.canLay0, PyData.canLayAll0, PyData.depth, PyData.depthAll, DL.canLayAll_ints, depthAll_int]
theorem eqv_sum (g h cs es : List Int) : PyData.eqv (.tuple [.tuple (g.map .int), .list (cs.map .int)]) (.tuple [.tuple (h.map .int), .list (es.map .int)]) = decide (g = h ∧ cs = es) := by
  rw [PyData.eqv]
  simp [PyData.eqvAll, eqv_tupI, eqv_lstI]
theorem quarrel_iff {p q : List Int × List Int} {t : Int} (hP : isP p.1 p.2) (hQ : isP q.1 q.2) (h1 : p.2.sum = t) (h2 : q.2.sum = t) :
    quarrelOf p q = if commonOf p.1 q.1 = commonOf q.1 p.1 ∧ fewer p.1 p.2 (commonOf p.1 q.1) = fewer q.1 q.2 (commonOf q.1 p.1) then none else some (commonOf p.1 q.1) := by
  rw [← common_comm hP.1 hQ.1]
  unfold quarrelOf
  by_cases e : commonOf p.1 q.1 = []
  · rw [if_pos (.inl e), if_pos ⟨rfl, by rw [e, fewer_nil hP, fewer_nil hQ, h1, h2]⟩]
  · by_cases e2 : fewer p.1 p.2 (commonOf p.1 q.1) = fewer q.1 q.2 (commonOf p.1 q.1)
    · rw [if_pos (.inr e2), if_pos ⟨rfl, e2⟩]
    · rw [if_neg (by rintro (z | z); exact e z; exact e2 z), if_neg (fun z => e2 z.2)]
end DB

namespace DB
open PySem PySem.Spec L2 DL PyProof.Rows
theorem nice_ints {ns : List Int} {m : Nat} (h : ∀ x ∈ ns, x.natAbs < 10 ^ 12) (hm : ns.length ≤ m) : Nice 1 (15 * m + 3) (tI ns) :=
  nice_tup (k := 0) (n := 13) (fun x hx => by
    obtain ⟨i, hi, rfl⟩ := List.mem_map.mp hx
    exact nice_int (h i hi)) (by rw [List.length_map]; exact hm)
theorem nice_row {p : List Int × List Int} (h : isP p.1 p.2) : Nice 2 300 (rowD p) :=
  (nice_tup (k := 1) (n := 123) (m := 2) (fun x hx => by
    simp at hx
    rcases hx with rfl | rfl
    · exact (nice_ints h.abs1 h.1.2.1).mono (by omega) (by omega)
    · exact (nice_ints h.abs2 h.len8).mono (by omega) (by omega)) (by simp)).mono (by omega) (by omega)
theorem isR.tot {n : Int} {ps : List (List Int × List Int)} {t : Int} (h : isR n ps t) : 1 ≤ t ∧ t ≤ 1000 := by
  obtain ⟨p, hp⟩ : ∃ p, p ∈ ps := ⟨ps[0]'(by have := h.2.2.1; omega), List.getElem_mem _⟩
  obtain ⟨_, q, rfl⟩ := h.2.2.2.2 p hp
  exact ⟨q.2.2.1, q.2.2.2⟩
theorem nice_seen {n : Int} {ps : List (List Int × List Int)} {t : Int} (h : isR n ps t) : Nice 4 80000 (seenD n ps t (schemeD n (grps ps))) := by
  have h1 := h.1
  have h2 := h.2.1
  have h4 := h.2.2.2.1
  have ht := h.tot
  have hr : Nice 3 1600 (.lst (ps.map rowD)) := (nice_lst (k := 2) (n := 300) (m := 5) (fun x hx => by
    obtain ⟨p, hp, rfl⟩ := List.mem_map.mp hx
    exact nice_row (h.isP p hp)) (by rw [List.length_map]; exact h4)).mono (by omega) (by omega)
  have hg : Nice 2 300 (gsD (grps ps)) := (nice_tup (k := 1) (n := 48) (m := 5) (fun x hx => by
    obtain ⟨g, hg, rfl⟩ := List.mem_map.mp hx
    obtain ⟨p, hp, rfl⟩ := List.mem_map.mp hg
    exact nice_ints (h.isP p hp).abs1 (h.isP p hp).1.2.1) (by rw [List.length_map, List.length_map]; exact h4)).mono (by omega) (by omega)
  have hs : Nice 3 700 (schemeD n (grps ps)) := (nice_tup (k := 2) (n := 300) (m := 2) (fun x hx => by
    simp at hx
    rcases hx with rfl | rfl
    · exact (nice_int (by omega)).mono (by omega) (by omega)
    · exact hg) (by simp)).mono (by omega) (by omega)
  refine (nice_tup (k := 3) (n := 10100) (m := 7) (fun x hx => ?_) (by simp)).mono (by omega) (by omega)
  simp only [List.mem_cons, List.not_mem_nil, or_false] at hx
  rcases hx with rfl | rfl | rfl | rfl | rfl | rfl | rfl
  · exact (nice_int (by omega)).mono (by omega) (by omega)
  · exact hr.mono (by omega) (by omega)
  · exact (nice_int (by omega)).mono (by omega) (by omega)
  · exact hs.mono (by omega) (by omega)
  · exact (nice_int (by omega)).mono (by omega) (by omega)
  · exact (nice_str (okS_title (by omega) h4)).mono (by omega) (by omega)
  · exact (nice_str (okS_text h)).mono (by omega) (by omega)
theorem nice_clash {n : Int} {ps : List (List Int × List Int)} {t : Int} (h : isR n ps t) : Nice 2 200 (clashD (clashOf ps)) := by
  have h4 := h.2.2.2.1
  cases e : clashOf ps with
  | none => exact nice_non.mono (by omega) (by omega)
  | some x =>
    obtain ⟨i, j, g⟩ := x
    unfold clashOf at e
    have e := List.mem_of_mem_head? (Option.mem_def.mpr e)
    obtain ⟨j', hj, e⟩ := List.mem_flatMap.mp e
    obtain ⟨i', hi, e⟩ := List.mem_filterMap.mp e
    rw [List.mem_range] at hj hi
    cases q : quarrelOf (ps.getD i' ([], [])) (ps.getD j' ([], [])) with
    | none => rw [q] at e; cases e
    | some g' =>
      rw [q] at e
      cases e
      unfold quarrelOf at q
      split at q
      · cases q
      · cases q
        have hP : isP (ps.getD i ([], [])).1 (ps.getD i ([], [])).2 := by
          rw [List.getD_eq_getElem?_getD, List.getElem?_eq_getElem (by omega)]
          exact h.isP _ (List.getElem_mem _)
        obtain ⟨s1, _⟩ := common_sub (g := (ps.getD i ([], [])).1) (h := (ps.getD j ([], [])).1)
        have hl : (commonOf (ps.getD i ([], [])).1 (ps.getD j ([], [])).1).length ≤ 3 := by
          have := List.length_filter_le (fun v => decide (v ∈ (ps.getD j ([], [])).1)) (ps.getD i ([], [])).1
          have := hP.1.2.1
          unfold commonOf
          omega
        refine (nice_tup (k := 1) (n := 48) (m := 3) (fun x hx => ?_) (by simp)).mono (by omega) (by omega)
        simp only [List.mem_cons, List.not_mem_nil, or_false] at hx
        rcases hx with rfl | rfl | rfl
        · exact (nice_int (by omega)).mono (by omega) (by omega)
        · exact (nice_int (by omega)).mono (by omega) (by omega)
        · exact nice_ints (fun x hx => hP.abs1 x (s1 x hx)) hl
end DB

namespace DB
open PySem PySem.Spec L2 DL PyProof.Rows
/-! sets of numbers, in order -/
/-- sets of numbers below n, as they are made -/
def foundL : Nat → List (List Int)
  | 0 => [[]]
  | n + 1 => foundL n ++ (foundL n).map (· ++ [(n : Int)])
abbrev keyL : List Int → PyData := fun l => .tuple [.int (l.length : Nat), .tuple (l.map .int)]
def setsK (n : Nat) : List (List Int) := (foundL n).mergeSort (PySem.W.dataLe false keyL)
def s_sets_below : DSp := fun ds μ Q _ => ∃ n : Int, ds = [.int n] ∧ 0 ≤ n ∧ n ≤ 5 ∧ Q (.lst ((setsK n.toNat).map tI)) μ
theorem find_at {α : Type} {p : α → Bool} : ∀ {xs : List α} {i : Nat} {x : α}, xs[i]? = some x → (∀ y ∈ xs.take i, p y = false) → p x = true → xs.find? p = some x
  | [], i, x, h, _, _ => by simp at h
  | y :: ys, 0, x, h, _, hp => by
    simp at h
    subst h
    rw [List.find?_cons_of_pos hp]
  | y :: ys, i + 1, x, h, hn, hp => by
    rw [List.find?_cons_of_neg (by rw [hn y (by simp)]; simp)]
    exact find_at (by simpa using h) (fun z hz => hn z (by simp [hz])) hp
theorem setsK_mem {n : Nat} {l : List Int} (h : l ∈ setsK n) : l.length ≤ n ∧ ∀ x ∈ l, 0 ≤ x ∧ x < (n : Int) := by
  have h : l ∈ foundL n := List.mem_mergeSort.mp h
  have key : ∀ n, ∀ r ∈ foundL n, r.length ≤ n ∧ ∀ x ∈ r, 0 ≤ x ∧ x < (n : Int) := by
    intro n
    induction n with
    | zero => intro r h; rw [List.mem_singleton.mp h]; simp
    | succ n ih =>
      intro r h
      rcases List.mem_append.mp h with h | h
      · obtain ⟨h1, h2⟩ := ih r h
        exact ⟨by omega, fun x hx => by have := h2 x hx; omega⟩
      · obtain ⟨q, hq, rfl⟩ := List.mem_map.mp h
        obtain ⟨h1, h2⟩ := ih q hq
        refine ⟨by simp; omega, fun x hx => ?_⟩
        rcases List.mem_append.mp hx with hx | hx
        · have := h2 x hx; omega
        · rw [List.mem_singleton.mp hx]; omega
  exact key n l h
def maskSet (n m : Nat) : List Int := ((List.range n).filter fun i => decide (m / 2 ^ i % 2 = 1)).map fun (i : Nat) => (i : Int)
theorem found_mask {n : Nat} (h : n ≤ 5) : (List.range (2 ^ n)).map (maskSet n) = foundL n := by
  have : n = 0 ∨ n = 1 ∨ n = 2 ∨ n = 3 ∨ n = 4 ∨ n = 5 := by omega
  rcases this with rfl | rfl | rfl | rfl | rfl | rfl <;> decide +kernel
end DB

namespace DB
open PySem PySem.Spec L2 DL PyProof.Rows
/-! shells and rings -/
def togB (gs : List (List Int)) (vs : List Int) : Bool := gs.any fun g => vs.all fun v => decide (v ∈ g)
def shellB (gs : List (List Int)) (vs : List Int) : Bool := decide (3 ≤ vs.length ∧ vs.length ≤ 4) && !togB gs vs && (List.range vs.length).all fun i => togB gs (vs.take i ++ vs.drop (i + 1))
def nearB (k j i : Nat) : Bool := decide (j = i + 1) || decide (j + 1 = i + k)
section
variable {α β : Type} [DecidableEq α] [DecidableEq β]
def ringT (T : α → α → Bool) (r : List α) : Bool := (List.range r.length).all fun j => (List.range j).all fun i => match r[i]?, r[j]? with | some a, some b => T a b == nearB r.length j i | _, _ => true
/-- from the last one on to the first one beside it that was not yet gone to -/
def greedy (T : α → α → Bool) (vs : List α) : Nat → List α → Option (List α)
  | 0, r => some r
  | f + 1, r => match r.getLast? with
    | none => none
    | some x => match vs.filter fun o => !decide (o ∈ r) && T x o with
      | [] => none
      | a :: _ => greedy T vs f (r ++ [a])
def turnsF (vs : List α) : Nat → List (List α) → List (List α)
  | 0, found => found
  | f + 1, found => turnsF vs f (found.flatMap fun row => (vs.filter fun o => !decide (o ∈ row)).map fun o => row ++ [o])
def turnsL (vs : List α) : List (List α) := turnsF vs (vs.length - 1) [vs.take 1]
def ringG? (T : α → α → Bool) (vs : List α) : Option (List α) := (greedy T vs (vs.length - 1) (vs.take 1)).filter (ringT T)
end
/-- neighbours by bits -/
def tm (m i j : Nat) : Bool := if i < j then m.testBit (j * (j - 1) / 2 + i) else if j < i then m.testBit (i * (i - 1) / 2 + j) else false
def sameK (vs : List Nat) (rows : List (List Nat)) (m : Nat) : Bool := decide (ringG? (tm m) vs = rows.find? (ringT (tm m)))
theorem same4 : ((List.range 64).all (sameK [0, 1, 2, 3] (turnsL [0, 1, 2, 3]))) = true := by decide +kernel
theorem same5 : ((List.range 1024).all (sameK [0, 1, 2, 3, 4] (turnsL [0, 1, 2, 3, 4]))) = true := by decide +kernel
end DB

namespace DB
open PySem PySem.Spec L2 DL PyProof.Rows
section
variable {α β : Type} [DecidableEq α] [DecidableEq β] {f : α → β} {T : β → β → Bool} {T' : α → α → Bool} {xs : List α}
structure Same2 (f : α → β) (xs : List α) (T : β → β → Bool) (T' : α → α → Bool) : Prop where
  inj : ∀ x ∈ xs, ∀ y ∈ xs, f x = f y → x = y
  eq : ∀ x ∈ xs, ∀ y ∈ xs, x ≠ y → T (f x) (f y) = T' x y
theorem Same2.mem (h : Same2 f xs T T') {r : List α} (hr : ∀ x ∈ r, x ∈ xs) {o : α} (ho : o ∈ xs) : f o ∈ r.map f ↔ o ∈ r := by
  constructor
  · intro z
    obtain ⟨x, hx, e⟩ := List.mem_map.mp z
    rw [← h.inj x (hr x hx) o ho e]
    exact hx
  · exact fun z => List.mem_map.mpr ⟨o, z, rfl⟩
theorem next_map (h : Same2 f xs T T') {r : List α} (hr : ∀ x ∈ r, x ∈ xs) {x : α} (hx : x ∈ r) : ((xs.map f).filter fun o => !decide (o ∈ r.map f) && T (f x) o) = (xs.filter fun o => !decide (o ∈ r) && T' x o).map f := by
  rw [List.filter_map]
  congr 1
  refine List.filter_congr fun o ho => ?_
  show (!decide (f o ∈ r.map f) && T (f x) (f o)) = _
  by_cases e : o ∈ r
  · rw [decide_eq_true ((h.mem hr ho).mpr e), decide_eq_true e]
    rfl
  · rw [decide_eq_false (fun z => e ((h.mem hr ho).mp z)), decide_eq_false e, h.eq x (hr x hx) o ho (by rintro rfl; exact e hx)]
theorem greedy_map (h : Same2 f xs T T') : ∀ (n : Nat) (r : List α), (∀ x ∈ r, x ∈ xs) → greedy T (xs.map f) n (r.map f) = (greedy T' xs n r).map (List.map f)
  | 0, r, _ => rfl
  | n + 1, r, hr => by
    unfold greedy
    rw [List.getLast?_map]
    cases e : r.getLast? with
    | none => rfl
    | some x =>
      have hx := List.mem_of_getLast? e
      simp only [Option.map_some]
      rw [next_map h hr hx]
      cases e2 : xs.filter fun o => !decide (o ∈ r) && T' x o with
      | nil => rfl
      | cons a as =>
        have ha : a ∈ xs := (List.mem_filter.mp (show a ∈ xs.filter _ by rw [e2]; simp)).1
        have := greedy_map h n (r ++ [a]) (fun z hz => by
          rcases List.mem_append.mp hz with hz | hz
          · exact hr z hz
          · rw [List.mem_singleton.mp hz]; exact ha)
        rw [List.map_append] at this
        exact this
theorem greedy_ok : ∀ (n : Nat) (r : List α), (∀ x ∈ r, x ∈ xs) → r.Nodup → ∀ z, greedy T' xs n r = some z → (∀ x ∈ z, x ∈ xs) ∧ z.Nodup ∧ z.length = r.length + n
  | 0, r, hr, hn, z, e => by cases e; exact ⟨hr, hn, rfl⟩
  | n + 1, r, hr, hn, z, e => by
    unfold greedy at e
    cases e1 : r.getLast? with
    | none => rw [e1] at e; cases e
    | some x =>
      rw [e1] at e
      simp only at e
      cases e2 : xs.filter fun o => !decide (o ∈ r) && T' x o with
      | nil => rw [e2] at e; cases e
      | cons a as =>
        rw [e2] at e
        have ha := List.mem_filter.mp (show a ∈ xs.filter (fun o => !decide (o ∈ r) && T' x o) by rw [e2]; simp)
        have han : a ∉ r := by
          have := ha.2
          simp at this
          exact this.1
        obtain ⟨h1, h2, h3⟩ := greedy_ok n (r ++ [a]) (fun z hz => by
          rcases List.mem_append.mp hz with hz | hz
          · exact hr z hz
          · rw [List.mem_singleton.mp hz]; exact ha.1) (by
          rw [List.nodup_append]
          exact ⟨hn, by simp, fun y hy w hw => by rw [List.mem_singleton.mp hw]; rintro rfl; exact han hy⟩) z e
        exact ⟨h1, h2, by rw [h3, List.length_append]; simp; omega⟩
theorem ringT_map (h : Same2 f xs T T') {r : List α} (hr : ∀ x ∈ r, x ∈ xs) (hn : r.Nodup) : ringT T (r.map f) = ringT T' r := by
  unfold ringT
  rw [List.length_map]
  have hb : ∀ {l : List Nat} {p q : Nat → Bool}, (∀ i ∈ l, p i = q i) → l.all p = l.all q := fun {l p q} hh => by
    induction l with
    | nil => rfl
    | cons a l ih => rw [List.all_cons, List.all_cons, hh a (by simp), ih fun i hi => hh i (by simp [hi])]
  refine hb fun j hj => hb fun i hi => ?_
  rw [List.mem_range] at hi hj
  rw [List.getElem?_map, List.getElem?_map, List.getElem?_eq_getElem hj, List.getElem?_eq_getElem (show i < r.length by omega)]
  simp only [Option.map_some]
  rw [h.eq _ (hr _ (List.getElem_mem _)) _ (hr _ (List.getElem_mem _)) fun e => by
    have := (List.getElem_inj hn).mp e
    omega]
theorem rows_map (h : Same2 f xs T T') {found : List (List α)} (hr : ∀ r ∈ found, ∀ x ∈ r, x ∈ xs) : ((found.map (List.map f)).flatMap fun row => ((xs.map f).filter fun o => !decide (o ∈ row)).map fun o => row ++ [o]) = (found.flatMap fun row => (xs.filter fun o => !decide (o ∈ row)).map fun o => row ++ [o]).map (List.map f) := by
  rw [List.flatMap_map, List.map_flatMap]
  have hc : ∀ (l : List (List α)) {p q : List α → List (List β)}, (∀ r ∈ l, p r = q r) → l.flatMap p = l.flatMap q := by
    intro l p q hh
    induction l with
    | nil => rfl
    | cons a l ih => rw [List.flatMap_cons, List.flatMap_cons, hh a (by simp), ih fun r hr => hh r (by simp [hr])]
  refine hc _ fun r hrm => ?_
  rw [List.filter_map, List.map_map, List.map_map]
  have : (xs.filter ((fun o => !decide (o ∈ r.map f)) ∘ f)) = xs.filter fun o => !decide (o ∈ r) := List.filter_congr fun o ho => by
    show (!decide (f o ∈ r.map f)) = _
    by_cases e : o ∈ r
    · rw [decide_eq_true ((h.mem (hr r hrm) ho).mpr e), decide_eq_true e]
    · rw [decide_eq_false (fun z => e ((h.mem (hr r hrm) ho).mp z)), decide_eq_false e]
  rw [this]
  refine List.map_congr_left fun o _ => ?_
  simp
theorem turnsF_ok : ∀ (n : Nat) (found : List (List α)), (∀ r ∈ found, (∀ x ∈ r, x ∈ xs) ∧ r.Nodup) → ∀ r ∈ turnsF xs n found, (∀ x ∈ r, x ∈ xs) ∧ r.Nodup
  | 0, found, h => h
  | n + 1, found, h => by
    refine turnsF_ok n _ fun r hr => ?_
    obtain ⟨q, hq, hr⟩ := List.mem_flatMap.mp hr
    obtain ⟨o, ho, rfl⟩ := List.mem_map.mp hr
    obtain ⟨h1, h2⟩ := h q hq
    have ho := List.mem_filter.mp ho
    have hn : o ∉ q := by simpa using ho.2
    refine ⟨fun x hx => ?_, ?_⟩
    · rcases List.mem_append.mp hx with hx | hx
      · exact h1 x hx
      · rw [List.mem_singleton.mp hx]; exact ho.1
    · rw [List.nodup_append]
      exact ⟨h2, by simp, fun y hy w hw => by rw [List.mem_singleton.mp hw]; rintro rfl; exact hn hy⟩
theorem turnsF_map (h : Same2 f xs T T') : ∀ (n : Nat) (found : List (List α)), (∀ r ∈ found, (∀ x ∈ r, x ∈ xs) ∧ r.Nodup) → turnsF (xs.map f) n (found.map (List.map f)) = (turnsF xs n found).map (List.map f)
  | 0, _, _ => rfl
  | n + 1, found, hf => by
    show turnsF _ n _ = (turnsF xs n _).map _
    rw [rows_map h fun r hr => (hf r hr).1]
    refine turnsF_map h n _ fun r hr => ?_
    exact turnsF_ok 1 found hf r hr
theorem find_map' {p : List β → Bool} {q : List α → Bool} {g : List α → List β} : ∀ (l : List (List α)), (∀ r ∈ l, p (g r) = q r) → (l.map g).find? p = (l.find? q).map g
  | [], _ => rfl
  | r :: l, h => by
    rw [List.map_cons, List.find?_cons, List.find?_cons, h r (by simp)]
    cases q r with
    | true => rfl
    | false => exact find_map' l fun r hr => h r (by simp [hr])
theorem ring_move (h : Same2 f xs T T') (hn : xs.Nodup) (e : ringG? T' xs = (turnsL xs).find? (ringT T')) : ringG? T (xs.map f) = (turnsL (xs.map f)).find? (ringT T) := by
  have h0 : (∀ x ∈ xs.take 1, x ∈ xs) ∧ (xs.take 1).Nodup := ⟨fun x hx => List.mem_of_mem_take hx, hn.sublist (List.take_sublist _ _)⟩
  have e1 : ringG? T (xs.map f) = (ringG? T' xs).map (List.map f) := by
    unfold ringG?
    rw [List.length_map, ← List.map_take, greedy_map h _ _ h0.1]
    cases g : greedy T' xs (xs.length - 1) (xs.take 1) with
    | none => rfl
    | some z =>
      obtain ⟨z1, z2, _⟩ := greedy_ok _ _ h0.1 h0.2 z g
      simp only [Option.map_some, Option.filter]
      rw [ringT_map h z1 z2]
      cases ringT T' z <;> rfl
  have e2 : turnsL (xs.map f) = (turnsL xs).map (List.map f) := by
    unfold turnsL
    rw [List.length_map, ← List.map_take]
    exact turnsF_map h _ [xs.take 1] fun r hr => by rw [List.mem_singleton.mp hr]; exact h0
  rw [e1, e, e2, find_map' (q := ringT T')]
  intro r hr
  obtain ⟨r1, r2⟩ := turnsF_ok _ _ (fun r hr => by rw [List.mem_singleton.mp hr]; exact h0) r hr
  exact ringT_map h r1 r2
end
theorem bits4 : ∀ b0 b1 b2 b3 b4 b5 : Bool, let m := b0.toNat + 2 * b1.toNat + 4 * b2.toNat + 8 * b3.toNat + 16 * b4.toNat + 32 * b5.toNat
    m < 64 ∧ m.testBit 0 = b0 ∧ m.testBit 1 = b1 ∧ m.testBit 2 = b2 ∧ m.testBit 3 = b3 ∧ m.testBit 4 = b4 ∧ m.testBit 5 = b5 := by decide +kernel
theorem bits5 : ∀ b0 b1 b2 b3 b4 b5 b6 b7 b8 b9 : Bool, let m := b0.toNat + 2 * b1.toNat + 4 * b2.toNat + 8 * b3.toNat + 16 * b4.toNat + 32 * b5.toNat + 64 * b6.toNat + 128 * b7.toNat + 256 * b8.toNat + 512 * b9.toNat
    m < 1024 ∧ m.testBit 0 = b0 ∧ m.testBit 1 = b1 ∧ m.testBit 2 = b2 ∧ m.testBit 3 = b3 ∧ m.testBit 4 = b4 ∧ m.testBit 5 = b5 ∧ m.testBit 6 = b6 ∧ m.testBit 7 = b7 ∧ m.testBit 8 = b8 ∧ m.testBit 9 = b9 := by decide +kernel
/-- the smallest ring is the first one among all turns -/
theorem ring_first {T : Int → Int → Bool} {vs : List Int} (hn : vs.Nodup) (hs : ∀ a b, T a b = T b a) (hl : vs.length = 4 ∨ vs.length = 5) : ringG? T vs = (turnsL vs).find? (ringT T) := by
  rcases hl with hl | hl
  · match vs, hl with
    | [a, b, c, d], _ =>
      obtain ⟨h0, h1, h2, h3, h4, h5, h6⟩ := bits4 (T a b) (T a c) (T b c) (T a d) (T b d) (T c d)
      generalize (T a b).toNat + 2 * (T a c).toNat + 4 * (T b c).toNat + 8 * (T a d).toNat + 16 * (T b d).toNat + 32 * (T c d).toNat = m at *
      simp at hn
      have S : Same2 (fun i : Nat => ([a, b, c, d] : List Int).getD i 0) [0, 1, 2, 3] T (tm m) := by
        refine ⟨fun x hx y hy e => ?_, fun x hx y hy e => ?_⟩
        · simp at hx hy
          rcases hx with rfl | rfl | rfl | rfl <;> rcases hy with rfl | rfl | rfl | rfl <;> first | rfl | (exfalso; simp at e; omega)
        · simp at hx hy
          rcases hx with rfl | rfl | rfl | rfl <;> rcases hy with rfl | rfl | rfl | rfl <;> first | exact absurd rfl e | (simp [tm, h1, h2, h3, h4, h5, h6]; done) | (simp [tm, h1, h2, h3, h4, h5, h6]; exact hs _ _)
      exact ring_move S (by decide) (of_decide_eq_true (List.all_eq_true.mp same4 m (List.mem_range.mpr h0)))
  · match vs, hl with
    | [a, b, c, d, g], _ =>
      obtain ⟨h0, h1, h2, h3, h4, h5, h6, h7, h8, h9, h10⟩ := bits5 (T a b) (T a c) (T b c) (T a d) (T b d) (T c d) (T a g) (T b g) (T c g) (T d g)
      generalize (T a b).toNat + 2 * (T a c).toNat + 4 * (T b c).toNat + 8 * (T a d).toNat + 16 * (T b d).toNat + 32 * (T c d).toNat + 64 * (T a g).toNat + 128 * (T b g).toNat + 256 * (T c g).toNat + 512 * (T d g).toNat = m at *
      simp at hn
      have S : Same2 (fun i : Nat => ([a, b, c, d, g] : List Int).getD i 0) [0, 1, 2, 3, 4] T (tm m) := by
        refine ⟨fun x hx y hy e => ?_, fun x hx y hy e => ?_⟩
        · simp at hx hy
          rcases hx with rfl | rfl | rfl | rfl | rfl <;> rcases hy with rfl | rfl | rfl | rfl | rfl <;> first | rfl | (exfalso; simp at e; omega)
        · simp at hx hy
          rcases hx with rfl | rfl | rfl | rfl | rfl <;> rcases hy with rfl | rfl | rfl | rfl | rfl <;> first | exact absurd rfl e | (simp [tm, h1, h2, h3, h4, h5, h6, h7, h8, h9, h10]; done) | (simp [tm, h1, h2, h3, h4, h5, h6, h7, h8, h9, h10]; exact hs _ _)
      exact ring_move S (by decide) (of_decide_eq_true (List.all_eq_true.mp same5 m (List.mem_range.mpr h0)))
end DB

namespace DB
open PySem PySem.Spec L2 DL PyProof.Rows
/-! what the trap counts -/
def shellN (own : List Int) : Int := if own.sum = 0 then -1 else if (own.take 3).sum = 3 then 0 else own.sum % 2
/-- a row of all variables -/
def bitsOf (n p : Nat) : List Int := (List.range n).map fun (v : Nat) => bitI (p : Nat) n (v : Nat)
/-- the counts of all rows -/
def shellTab (n : Nat) (vs : List Int) : List Int := (List.range (2 ^ n)).map fun p =>
  if (vs.map fun v => (bitsOf n p).getD v.toNat 0).sum = (bitsOf n p).sum then shellN (vs.map fun v => (bitsOf n p).getD v.toNat 0) else 0
/-- the same, row by row of the shell's own variables -/
def shellV (r : List Int) : Int := (if r.sum % 2 = 1 ∧ ¬ (r.take 3 = [1, 1, 1] ∧ r.sum = 3) then 1 else 0) - if r.sum = 0 then 1 else 0
def shellC (g vs : List Int) : List Int := ((rowsL vs.length).map fun r => (plcOf (g.map fun v => if v ∈ vs then r.getD (vs.idxOf v) 0 else 0), shellV r)).foldl addAt (List.replicate (2 ^ g.length) 0)
def ringRowAt (g vs : List Int) (x : Int) : List Int := g.map fun v => if vs.head? = some v ∧ (∃ w ∈ vs.getLast?, w ∈ g) then 1 - x else if v ∈ vs then x else 0
def ringC (g vs : List Int) : List Int := addAt (addAt (List.replicate (2 ^ g.length) 0) (plcOf (ringRowAt g vs 0), 1)) (plcOf (ringRowAt g vs 1), 1)
def shellT (vs : List Int) : Int := if vs.length = 3 then 2 else 6
def grpsN (n : Nat) : List (List Int) := (foundL n).filter fun g => decide (1 ≤ g.length ∧ g.length ≤ 3)
def okShell (n : Nat) : Bool := (foundL n).all fun vs => !decide (vs.length = 3 ∨ vs.length = 4) || (grpsN n).all fun g => (vs.all fun v => decide (v ∈ g)) ||
  (decide (partSums (shellTab n vs) n g = shellC g vs) && decide (isC (shellC g vs) (2 ^ g.length : Nat) 1000) && decide ((shellC g vs).sum = shellT vs))
theorem shell_ok : ((List.range 6).all okShell) = true := by decide +kernel
/-- the sets of ascending numbers are all there -/
theorem found_all : ∀ (n : Nat) (g : List Int), g.Pairwise (· < ·) → (∀ x ∈ g, 0 ≤ x ∧ x < (n : Int)) → g ∈ foundL n
  | 0, g, _, h => by
    cases g with
    | nil => simp [foundL]
    | cons x g => have := h x (by simp); omega
  | n + 1, g, hp, h => by
    show g ∈ foundL n ++ (foundL n).map (· ++ [(n : Int)])
    rw [List.mem_append]
    by_cases e : (n : Int) ∈ g
    · right
      have hne : g ≠ [] := by rintro rfl; simp at e
      have hd : g = g.dropLast ++ [g.getLast hne] := (List.dropLast_concat_getLast hne).symm
      have hl : g.getLast hne = (n : Int) := by
        rw [hd] at hp e
        rw [List.pairwise_append] at hp
        rcases List.mem_append.mp e with e | e
        · have h1 := hp.2.2 _ e (g.getLast hne) (by simp)
          have h2 := h _ (List.getLast_mem hne)
          omega
        · exact (List.mem_singleton.mp e).symm
      rw [hl] at hd
      refine List.mem_map.mpr ⟨g.dropLast, found_all n _ ?_ ?_, hd.symm⟩
      · rw [hd] at hp
        exact (List.pairwise_append.mp hp).1
      · intro x hx
        have h1 : x < (n : Int) := by
          rw [hd] at hp
          exact (List.pairwise_append.mp hp).2.2 x hx _ (by simp)
        have hx' : x ∈ g := by rw [hd]; exact List.mem_append_left _ hx
        exact ⟨(h x hx').1, h1⟩
    · left
      refine found_all n g hp fun x hx => ?_
      have h1 := h x hx
      have h2 : x ≠ (n : Int) := by rintro rfl; exact e hx
      omega
end DB

/-! Shells, rings, knots: promises. -/
namespace DB
open PySem PySem.Spec L2 DL PyProof.Rows
def s_are_together : DSp := fun ds μ Q _ => ∃ gs vs, ds = [gsD gs, tI vs] ∧ gs.length ≤ 5 ∧ (∀ g ∈ gs, g.length ≤ 3) ∧ vs.length ≤ 5 ∧ Q (.bl (togB gs vs)) μ
def s_is_shell : DSp := fun ds μ Q _ => ∃ gs vs, ds = [gsD gs, tI vs] ∧ gs.length ≤ 5 ∧ (∀ g ∈ gs, g.length ≤ 3) ∧ vs.length ≤ 5 ∧ Q (.bl (shellB gs vs)) μ
abbrev tg (gs : List (List Int)) : Int → Int → Bool := fun a b => togB gs [a, b]
def s_is_ring : DSp := fun ds μ Q _ => ∃ gs vs, ds = [gsD gs, tI vs] ∧ gs.length ≤ 5 ∧ (∀ g ∈ gs, g.length ≤ 3) ∧ vs.length ≤ 5 ∧ Q (.bl (decide (4 ≤ vs.length) && ringT (tg gs) vs)) μ
def ringO (gs : List (List Int)) (vs : List Int) : Option (List Int) := (greedy (tg gs) vs (vs.length - 1) (vs.take 1)).filter fun r => decide (4 ≤ r.length) && ringT (tg gs) r
def s_ring_of : DSp := fun ds μ Q _ => ∃ gs vs, ds = [gsD gs, tI vs] ∧ gs.length ≤ 5 ∧ (∀ g ∈ gs, g.length ≤ 3) ∧ vs.length ≤ 5 ∧ Q (grpD (ringO gs vs)) μ
def knotAt (gs : List (List Int)) (vs : List Int) : Option (Bool × List Int) := if shellB gs vs then some (true, vs) else (ringO gs vs).map fun r => (false, r)
def knotOf (n : Nat) (gs : List (List Int)) : Option (Bool × List Int) := (setsK n).findSome? (knotAt gs)
def knD (k : Bool × List Int) : D := .tup [.str (if k.1 then "shell" else "ring"), tI k.2]
def knotD : Option (Bool × List Int) → D
  | none => .non
  | some k => knD k
def s_knot : DSp := fun ds μ Q _ => ∃ n gs, ds = [schemeD n gs] ∧ isS gs n ∧ Q (knotD (knotOf n.toNat gs)) μ
def s_law_is_within : DSp := fun ds μ Q _ => ∃ a b : List Int, ds = [tI a, tI b] ∧ a.length ≤ 5 ∧ Q (.bl (a.all fun v => decide (v ∈ b))) μ
def s_law_are_together : DSp := fun ds μ Q _ => ∃ gs vs, ds = [gsD gs, tI vs] ∧ gs.length ≤ 5 ∧ vs.length ≤ 5 ∧ Q (.bl (togB gs vs)) μ
def s_law_is_shell : DSp := fun ds μ Q _ => ∃ gs vs, ds = [gsD gs, tI vs] ∧ gs.length ≤ 5 ∧ 3 ≤ vs.length ∧ vs.length ≤ 4 ∧ vs.Nodup ∧ Q (.bl (shellB gs vs)) μ
def s_law_is_ring : DSp := fun ds μ Q _ => ∃ gs vs, ds = [gsD gs, tI vs] ∧ gs.length ≤ 5 ∧ vs.length ≤ 5 ∧ Q (.bl (ringT (tg gs) vs)) μ
def s_law_turns : DSp := fun ds μ Q _ => ∃ vs, ds = [tI vs] ∧ 1 ≤ vs.length ∧ vs.length ≤ 5 ∧ Q (.lst ((turnsL vs).map tI)) μ
/-- what stands for one set -/
def knotsAt (gs : List (List Int)) (vs : List Int) : List (Bool × List Int) :=
  (if 3 ≤ vs.length ∧ vs.length ≤ 4 ∧ shellB gs vs = true then [(true, vs)] else []) ++ (if 3 < vs.length then (((turnsL vs).filter (ringT (tg gs))).take 1).map fun r => (false, r) else [])
def s_law_knots : DSp := fun ds μ Q _ => ∃ n gs, ds = [.int n, gsD gs] ∧ isS gs n ∧ Q (.lst (((setsK n.toNat).flatMap (knotsAt gs)).map knD)) μ
def s_law_other_names : DSp := fun ds μ Q _ => ∃ m n gs x b c, ds = [.mu m, schemeD n gs] ∧ isS gs n ∧ μ[m]? = some (penD x b c) ∧ isPen x b c ∧ c < 70000 ∧ ∀ gs' x' c', isS gs' n → isPen x' b c' → c' ≤ c + 10 → Q (schemeD n gs') (μ.set m (penD x' b c'))
def ringRow (T : Int → Int → Bool) (r : List Int) (j : Nat) : Bool := (List.range j).all fun i => match r[i]?, r[j]? with | some a, some b => T a b == nearB r.length j i | _, _ => true
theorem ringT_all {T : Int → Int → Bool} {r : List Int} (h : ∀ j < r.length, ringRow T r j = true) : ringT T r = true := by
  unfold ringT
  rw [List.all_eq_true]
  intro j hj
  have q := h j (List.mem_range.mp hj)
  unfold ringRow at q
  rw [List.all_eq_true] at q ⊢
  intro i hi
  have q := q i hi
  revert q
  cases r[i]? <;> cases r[j]? <;> exact id
theorem ringT_not {T : Int → Int → Bool} {r : List Int} {i j : Nat} {a b : Int} (hi : r[i]? = some a) (hj : r[j]? = some b) (hij : i < j) (h : T a b ≠ nearB r.length j i) : ringT T r = false := by
  rw [← Bool.not_eq_true]
  intro q
  unfold ringT at q
  rw [List.all_eq_true] at q
  have q := q j (List.mem_range.mpr (List.getElem?_eq_some_iff.mp hj).1)
  rw [List.all_eq_true] at q
  have q := q i (List.mem_range.mpr hij)
  rw [hi, hj] at q
  exact h (by simpa using q)
theorem ringRow_step {T : Int → Int → Bool} {r : List Int} {j : Nat} (h : ∀ i < j, ∀ a b, r[i]? = some a → r[j]? = some b → T a b = nearB r.length j i) : ringRow T r j = true := by
  unfold ringRow
  rw [List.all_eq_true]
  intro i hi
  split
  · rename_i a b ha hb
    rw [h i (List.mem_range.mp hi) a b ha hb]
    simp
  · rfl
theorem ones_int {α : Type} (xs : List α) : (xs.map fun _ => D.int 1) = (xs.map fun _ => (1 : Int)).map D.int := by rw [List.map_map]; rfl
theorem pyOf_ones (μ : Mu) {α : Type} (xs : List α) : pyOf μ (.lst (xs.map fun _ => D.int 1)) = some (.list ((xs.map fun _ => (1 : Int)).map PyData.int)) := by
  rw [ones_int]
  exact pyOf_lstI _ _
theorem eq_nil_ones {α : Type} (xs : List α) : PyData.eqv (.list ((xs.map fun _ => (1 : Int)).map PyData.int)) (.list []) = xs.isEmpty := by
  rw [eqv_lst_nil, dec_map_nil, dec_map_nil]
theorem filt_empty {α : Type} {p : α → Bool} : ∀ xs : List α, (xs.filter p).isEmpty = xs.all fun x => !p x
  | [] => rfl
  | x :: xs => by
    rw [List.filter_cons, List.all_cons]
    cases p x with
    | true => rfl
    | false => simpa using filt_empty xs
theorem filt_any {α : Type} {p : α → Bool} : ∀ xs : List α, (!(xs.filter p).isEmpty) = xs.any p
  | [] => rfl
  | x :: xs => by
    rw [List.filter_cons, List.any_cons]
    cases p x with
    | true => rfl
    | false => simpa using filt_any xs
theorem eqv_bool (x y : Bool) : PyData.eqv (.bool x) (.bool y) = (x == y) := by cases x <;> cases y <;> rfl
theorem shaped_bool (x : Bool) : SeqAt.shaped (.bool x) = true := by cases x <;> rfl
theorem pyOf_bool (μ : Mu) (x : Bool) : pyOf μ (.bl x) = some (.bool x) := rfl
theorem nearB_int {k j i : Nat} (h : i < j) : nearB k j i = (decide ((j : Int) - i = 1) || decide ((j : Int) - i = (k : Int) - 1)) := by
  unfold nearB
  rw [Bool.eq_iff_iff]
  simp only [Bool.or_eq_true, decide_eq_true_eq]
  omega
theorem findSome_at {α β : Type} {f : α → Option β} : ∀ {xs : List α} {i : Nat} {x : α} {b : β}, xs[i]? = some x → (∀ y ∈ xs.take i, f y = none) → f x = some b → xs.findSome? f = some b
  | [], i, x, b, h, _, _ => by simp at h
  | y :: ys, 0, x, b, h, _, hp => by
    simp at h
    subst h
    rw [List.findSome?_cons, hp]
  | y :: ys, i + 1, x, b, h, hn, hp => by
    rw [List.findSome?_cons, hn y (by simp)]
    exact findSome_at (by simpa using h) (fun z hz => hn z (by simp [hz])) hp
theorem fewer_nodup : ∀ {vs : List Int}, vs.Nodup → ∀ (i : Nat) (h : i < vs.length), (vs.filter fun x => !decide (x = vs[i])) = vs.take i ++ vs.drop (i + 1)
  | a :: vs, hn, 0, h => by
    rw [List.nodup_cons] at hn
    simp
    intro b hb
    rintro rfl
    exact hn.1 hb
  | a :: vs, hn, i + 1, h => by
    rw [List.nodup_cons] at hn
    have hi : i < vs.length := by simpa using h
    have e : a ≠ vs[i] := by
      rintro rfl
      exact hn.1 (List.getElem_mem _)
    have := fewer_nodup hn.2 i hi
    simp only [List.getElem_cons_succ, List.filter_cons, decide_eq_false e, Bool.not_false, if_true, this, List.take_succ_cons, List.drop_succ_cons, List.cons_append]
theorem allRange (vs : List Int) (p : Int → Bool) (q : Nat → Bool) (h : ∀ (i : Nat) (hi : i < vs.length), p vs[i] = q i) : vs.all p = (List.range vs.length).all q := by
  rw [Bool.eq_iff_iff, List.all_eq_true, List.all_eq_true]
  constructor
  · intro z i hi
    rw [List.mem_range] at hi
    rw [← h i hi]
    exact z _ (List.getElem_mem hi)
  · intro z x hx
    obtain ⟨i, hi, rfl⟩ := List.getElem_of_mem hx
    rw [h i hi]
    exact z i (List.mem_range.mpr hi)
theorem atILast {r : List Int} {x : Int} (h : r.getLast? = some x) : atI (r.map D.int) (-1) = some (.int x) := by
  have hne : r ≠ [] := by rintro rfl; cases h
  have hl : 0 < r.length := List.length_pos_iff.mpr hne
  rw [List.getLast?_eq_getElem?] at h
  unfold atI ixN
  rw [if_neg (by omega), List.length_map, if_pos (by omega)]
  simp only [Option.bind_some]
  rw [List.getElem?_map, show (-1 + ((r.length : Nat) : Int)).toNat = r.length - 1 by omega, h]
  rfl
def turnStep (vs : List Int) (found : List (List Int)) : List (List Int) := found.flatMap fun row => (vs.filter fun o => !decide (o ∈ row)).map fun o => row ++ [o]
theorem turnsF_succ (vs : List Int) : ∀ (n : Nat) (found : List (List Int)), turnsF vs (n + 1) found = turnStep vs (turnsF vs n found)
  | 0, _ => rfl
  | n + 1, found => turnsF_succ vs n (turnStep vs found)
theorem turnStep_len {vs : List Int} {found : List (List Int)} : (turnStep vs found).length ≤ vs.length * found.length := by
  unfold turnStep
  induction found with
  | nil => simp
  | cons r found ih =>
    rw [List.flatMap_cons, List.length_append, List.length_map, List.length_cons, Nat.mul_add, Nat.mul_one]
    have := List.length_filter_le (fun o => !decide (o ∈ r)) vs
    omega
theorem turnsF_len {vs : List Int} : ∀ n, n ≤ 4 → vs.length ≤ 5 → (turnsF vs n [vs.take 1]).length ≤ 5 ^ n ∧ ∀ r ∈ turnsF vs n [vs.take 1], r.length ≤ n + 1
  | 0, _, _ => by
    refine ⟨by simp [turnsF], fun r hr => ?_⟩
    rw [List.mem_singleton.mp hr, List.length_take]
    omega
  | n + 1, h, h5 => by
    obtain ⟨h1, h2⟩ := turnsF_len n (by omega) h5
    rw [turnsF_succ]
    refine ⟨Nat.le_trans turnStep_len ?_, fun r hr => ?_⟩
    · rw [Nat.pow_succ, Nat.mul_comm]
      exact Nat.mul_le_mul h1 h5
    · obtain ⟨q, hq, hr⟩ := List.mem_flatMap.mp hr
      obtain ⟨o, _, rfl⟩ := List.mem_map.mp hr
      have := h2 q hq
      simp
      omega
theorem setsK_length (n : Nat) : (setsK n).length = 2 ^ n := by
  unfold setsK
  rw [List.length_mergeSort]
  induction n with
  | zero => rfl
  | succ n ih =>
    show (foundL n ++ (foundL n).map (· ++ [(n : Int)])).length = _
    rw [List.length_append, List.length_map, ih, Nat.pow_succ]
    omega
theorem setsK_nodup {n : Nat} {l : List Int} (h : l ∈ setsK n) : l.Nodup := by
  have h : l ∈ foundL n := List.mem_mergeSort.mp h
  have key : ∀ n, ∀ r ∈ foundL n, r.Nodup := by
    intro n
    induction n with
    | zero => intro r h; rw [List.mem_singleton.mp h]; simp
    | succ n ih =>
      intro r h
      rcases List.mem_append.mp h with h | h
      · exact ih r h
      · obtain ⟨q, hq, rfl⟩ := List.mem_map.mp h
        rw [List.nodup_append]
        refine ⟨ih q hq, by simp, fun y hy w hw => ?_⟩
        rw [List.mem_singleton.mp hw]
        have := (setsK_mem (n := n) (List.mem_mergeSort.mpr hq)).2 y hy
        omega
  exact key n l h
theorem knotsAt_len {gs : List (List Int)} {vs : List Int} : (knotsAt gs vs).length ≤ 2 := by
  unfold knotsAt
  rw [List.length_append]
  split <;> split <;> simp <;> omega
theorem sumLe {α β : Type} {f : α → List β} {k : Nat} : ∀ {xs : List α}, (∀ x ∈ xs, (f x).length ≤ k) → (xs.flatMap f).length ≤ k * xs.length
  | [], _ => by simp
  | x :: xs, h => by
    rw [List.flatMap_cons, List.length_append, List.length_cons, Nat.mul_succ]
    have := sumLe (xs := xs) fun y hy => h y (by simp [hy])
    have := h x (by simp)
    omega
theorem sSeq_gen {A B : TDS} {ρ : DL.Env} {μ : Mu} {E : DE} (h : ∀ M : DL.Env → Mu → Prop, (∀ ρ' μ', B ρ' μ' E → M ρ' μ') → A ρ μ { E with nx := M }) : sSeq A B ρ μ E := h (fun ρ' μ' => B ρ' μ' E) fun _ _ h => h
def renamed (nm g : List Int) : List Int := (g.map fun v => nm.getD v.toNat 0).mergeSort fun a b => decide (a ≤ b)
theorem erase_perm {l nm : List Int} {r : Nat} (h : r < l.length) : (l.eraseIdx r ++ (nm ++ [l[r]])).Perm (l ++ nm) := by
  have e : l = l.take r ++ l[r] :: l.drop (r + 1) := by rw [← List.drop_eq_getElem_cons h, List.take_append_drop]
  rw [List.eraseIdx_eq_take_drop_succ]
  conv => rhs; rw [e]
  rw [List.append_assoc, List.append_assoc]
  refine List.Perm.append_left _ ?_
  rw [← List.append_assoc, List.cons_append]
  exact List.perm_append_comm.trans (by simp)
theorem eraseIdx_mapD {α β : Type} (f : α → β) : ∀ (l : List α) (i : Nat), (l.map f).eraseIdx i = (l.eraseIdx i).map f
  | [], _ => rfl
  | x :: xs, 0 => rfl
  | x :: xs, i + 1 => congrArg (f x :: ·) (eraseIdx_mapD f xs i)
theorem renamed_ok {nm g : List Int} {n : Int} (hn : nm.Nodup) (hl : (nm.length : Int) = n) (hr : ∀ z ∈ nm, 0 ≤ z ∧ z ≤ n - 1) (hg : isG g n) : isG (renamed nm g) n := by
  obtain ⟨g1, g2, g3, g4⟩ := hg
  unfold renamed
  have hlen : ((g.map fun v => nm.getD v.toNat 0).mergeSort fun a b => decide (a ≤ b)).length = g.length := by rw [List.length_mergeSort, List.length_map]
  have hget : ∀ v ∈ g, ∃ h : v.toNat < nm.length, nm.getD v.toNat 0 = nm[v.toNat] := fun v hv => by
    have := g3 v hv
    refine ⟨by omega, ?_⟩
    rw [List.getD_eq_getElem?_getD, List.getElem?_eq_getElem (by omega)]
    rfl
  refine ⟨by omega, by omega, fun z hz => ?_, ?_⟩
  · obtain ⟨v, hv, rfl⟩ := List.mem_map.mp (List.mem_mergeSort.mp hz)
    obtain ⟨h, e⟩ := hget v hv
    rw [e]
    exact hr _ (List.getElem_mem h)
  · have hs : ((g.map fun v => nm.getD v.toNat 0).mergeSort fun a b => decide (a ≤ b)).Pairwise fun a b => decide (a ≤ b) = true := List.pairwise_mergeSort (fun a b c h1 h2 => by simp at *; omega) (fun a b => by simp; omega) _
    have hnd : (g.map fun v => nm.getD v.toNat 0).Nodup := by
      rw [List.Nodup, List.pairwise_map]
      refine (List.pairwise_iff_forall_sublist.mpr ?_)
      intro a b hab e
      have hlt := List.pairwise_iff_forall_sublist.mp g4 hab
      have ha : a ∈ g := hab.mem (by simp)
      have hb : b ∈ g := hab.mem (by simp)
      obtain ⟨h1, e1⟩ := hget a ha
      obtain ⟨h2, e2⟩ := hget b hb
      rw [e1, e2] at e
      have := (List.getElem_inj hn).mp e
      have := g3 a ha
      have := g3 b hb
      omega
    have hnd2 : ((g.map fun v => nm.getD v.toNat 0).mergeSort fun a b => decide (a ≤ b)).Nodup := (List.mergeSort_perm _ _).nodup_iff.mpr hnd
    refine (hs.and hnd2).imp fun h => ?_
    have h1 := h.1
    simp at h1
    have := h.2
    omega
end DB

namespace DB
/-! no steps: a knot -/
def simpB (T : Nat → Nat → Bool) (W : List Nat) (v : Nat) : Bool := let N := W.filter fun u => u == v || T v u; N.all fun a => N.all fun b => a == b || T a b
def peoB (T : Nat → Nat → Bool) : Nat → List Nat → Bool
  | 0, W => W.isEmpty
  | k + 1, W => match W.find? (simpB T W) with
    | none => W.isEmpty
    | some v => peoB T k (W.erase v)
def rqB (T : Nat → Nat → Bool) : List Nat → Bool
  | [a, b, c, d] => T a b && T b c && T c d && T a d && !T a c && !T b d
  | [a, b, c, d, e] => T a b && T b c && T c d && T d e && T a e && !T a c && !T b d && !T c e && !T a d && !T b e
  | _ => false
def rings5 : List (List Nat) := [[0,1,2,3],[0,1,3,2],[0,2,1,3],[0,1,2,4],[0,1,4,2],[0,2,1,4],[0,1,3,4],[0,1,4,3],[0,3,1,4],[0,2,3,4],[0,2,4,3],[0,3,2,4],[1,2,3,4],[1,2,4,3],[1,3,2,4],
  [0,1,2,3,4],[0,1,2,4,3],[0,1,3,2,4],[0,1,3,4,2],[0,1,4,2,3],[0,1,4,3,2],[0,2,1,3,4],[0,2,1,4,3],[0,2,3,1,4],[0,2,4,1,3],[0,3,1,2,4],[0,3,2,1,4]]
def chordB (m : Nat) : Bool := rings5.any (rqB (tm m)) || peoB (tm m) 5 [0, 1, 2, 3, 4]
theorem chord_all : ((List.range 1024).all chordB) = true := by decide +kernel
end DB

namespace DB
/-- something of this kind is all in one of the groups that are left -/
def TogP (gs : List (List Int)) (ls : List Int) (P : Int → Prop) : Prop := ∃ i ∈ ls, ∀ v, P v → v ∈ gA gs i
def Two2 (gs : List (List Int)) (ls : List Int) (x y : Int) : Prop := ∃ i ∈ ls, x ∈ gA gs i ∧ y ∈ gA gs i
def ShellP (gs : List (List Int)) (ls S : List Int) : Prop := (S.length = 3 ∨ S.length = 4) ∧ S.Pairwise (· < ·) ∧ ¬ TogP gs ls (· ∈ S) ∧ ∀ v ∈ S, TogP gs ls fun u => u ∈ S ∧ u ≠ v
def RingP (gs : List (List Int)) (ls : List Int) : List Int → Prop
  | [a, b, c, d] => (Two2 gs ls a b ∧ Two2 gs ls b c ∧ Two2 gs ls c d ∧ Two2 gs ls a d) ∧ ¬ Two2 gs ls a c ∧ ¬ Two2 gs ls b d
  | [a, b, c, d, e] => (Two2 gs ls a b ∧ Two2 gs ls b c ∧ Two2 gs ls c d ∧ Two2 gs ls d e ∧ Two2 gs ls a e) ∧ ¬ Two2 gs ls a c ∧ ¬ Two2 gs ls b d ∧ ¬ Two2 gs ls c e ∧ ¬ Two2 gs ls a d ∧ ¬ Two2 gs ls b e
  | _ => False
def KnotP (gs : List (List Int)) (ls : List Int) : Prop := (∃ S, ShellP gs ls S) ∨ ∃ S r, S.Pairwise (· < ·) ∧ r ∈ turnsL S ∧ (∀ x ∈ S, x ∈ r) ∧ RingP gs ls r
section
variable {gs : List (List Int)} {ls : List Int} {one other : Int}
def Els (gs : List (List Int)) (ls : List Int) (one v : Int) : Prop := ∃ k ∈ ls, k ≠ one ∧ v ∈ gA gs k
theorem Two2.symm {x y : Int} : Two2 gs ls x y → Two2 gs ls y x := fun ⟨i, h, a, b⟩ => ⟨i, h, b, a⟩
theorem three_other {S : List Int} (hn : S.Pairwise (· < ·)) (hl : S.length = 3 ∨ S.length = 4) (u v : Int) : ∃ w ∈ S, w ≠ u ∧ w ≠ v := by
  match S, hn, hl with
  | a :: b :: c :: t, hn, _ =>
    have h1 := List.rel_of_pairwise_cons hn (List.mem_cons_self (a := b))
    have h2 := List.rel_of_pairwise_cons hn (List.mem_cons_of_mem b (List.mem_cons_self (a := c)))
    have h3 := List.rel_of_pairwise_cons hn.of_cons (List.mem_cons_self (a := c))
    by_cases x : a ≠ u ∧ a ≠ v
    · exact ⟨a, by simp, x⟩
    · by_cases y : b ≠ u ∧ b ≠ v
      · exact ⟨b, by simp, y⟩
      · exact ⟨c, by simp, by omega⟩
  | [], _, h => simp at h
  | [_], _, h => simp at h
  | [_, _], _, h => simp at h
theorem togP_less {P : Int → Prop} : TogP gs (ls.erase one) P → TogP gs ls P := fun ⟨i, h, k⟩ => ⟨i, List.mem_of_mem_erase h, k⟩
theorem two_less {x y : Int} : Two2 gs (ls.erase one) x y → Two2 gs ls x y := fun ⟨i, h, k⟩ => ⟨i, List.mem_of_mem_erase h, k⟩
theorem er_of (hn : ls.Nodup) {k : Int} (h : k ∈ ls) (ne : k ≠ one) : k ∈ ls.erase one := (hn.mem_erase_iff).mpr ⟨ne, h⟩
theorem ne_er (hn : ls.Nodup) {k : Int} (h : k ∈ ls.erase one) : k ≠ one := ((hn.mem_erase_iff).mp h).1
theorem togP_more (hn : ls.Nodup) (s : isStep gs ls one other) {P : Int → Prop} (h : TogP gs ls P) (e : ∀ v, P v → Els gs ls one v) : TogP gs (ls.erase one) P := by
  obtain ⟨i, hi, k⟩ := h
  by_cases ne : i = one
  · subst ne
    exact ⟨other, er_of hn s.2.2.1 (Ne.symm s.1), fun v hv => s.2.2.2 v (k v hv) (e v hv)⟩
  · exact ⟨i, er_of hn hi ne, k⟩
theorem two_more (hn : ls.Nodup) (s : isStep gs ls one other) {x y : Int} (h : Two2 gs ls x y) (ex : Els gs ls one x) (ey : Els gs ls one y) : Two2 gs (ls.erase one) x y := by
  obtain ⟨i, hi, k1, k2⟩ := h
  by_cases ne : i = one
  · subst ne
    exact ⟨other, er_of hn s.2.2.1 (Ne.symm s.1), s.2.2.2 x k1 ex, s.2.2.2 y k2 ey⟩
  · exact ⟨i, er_of hn hi ne, k1, k2⟩
theorem els_two (hn : ls.Nodup) {p x : Int} (h : Two2 gs (ls.erase one) p x) : Els gs ls one p := by
  obtain ⟨i, hi, k, _⟩ := h
  exact ⟨i, List.mem_of_mem_erase hi, ne_er hn hi, k⟩
theorem els_vert {p x y : Int} (h1 : Two2 gs ls p x) (h2 : Two2 gs ls p y) (h : ¬ Two2 gs ls x y) (ho : one ∈ ls) : Els gs ls one p := by
  obtain ⟨i, hi, a1, a2⟩ := h1
  obtain ⟨j, hj, b1, b2⟩ := h2
  by_cases e1 : i = one
  · by_cases e2 : j = one
    · rw [e1] at a2
      rw [e2] at b2
      exact absurd ⟨one, ho, a2, b2⟩ h
    · exact ⟨j, hj, e2, b1⟩
  · exact ⟨i, hi, e1, a1⟩
theorem shell_els {S : List Int} (hn : ls.Nodup) (ho : one ∈ ls) (h : ShellP gs ls S) : ∀ v ∈ S, Els gs ls one v := fun v hv => by
  obtain ⟨hl, hp, h1, h2⟩ := h
  false_or_by_contra
  rename_i no
  refine h1 ⟨one, ho, fun u hu => ?_⟩
  obtain ⟨w, hw, n1, n2⟩ := three_other hp hl u v
  obtain ⟨i, hi, k⟩ := h2 w hw
  have : i = one := by
    false_or_by_contra
    rename_i ne
    exact no ⟨i, hi, ne, k v ⟨hv, Ne.symm n2⟩⟩
  rw [this] at k
  exact k u ⟨hu, Ne.symm n1⟩
theorem shell_els' {S : List Int} (hn : ls.Nodup) (h : ShellP gs (ls.erase one) S) : ∀ v ∈ S, Els gs ls one v := fun v hv => by
  obtain ⟨hl, hp, h1, h2⟩ := h
  obtain ⟨w, hw, n1, n2⟩ := three_other hp hl v v
  obtain ⟨i, hi, k⟩ := h2 w hw
  exact ⟨i, List.mem_of_mem_erase hi, ne_er hn hi, k v ⟨hv, Ne.symm n1⟩⟩
theorem shell_iff (hn : ls.Nodup) (s : isStep gs ls one other) (S : List Int) : ShellP gs ls S ↔ ShellP gs (ls.erase one) S := by
  constructor
  · intro h
    have e := shell_els hn s.2.1 h
    exact ⟨h.1, h.2.1, fun z => h.2.2.1 (togP_less z), fun v hv => togP_more hn s (h.2.2.2 v hv) fun u hu => e u hu.1⟩
  · intro h
    have e := shell_els' hn h
    exact ⟨h.1, h.2.1, fun z => h.2.2.1 (togP_more hn s z e), fun v hv => togP_less (h.2.2.2 v hv)⟩
theorem ring_iff (hn : ls.Nodup) (s : isStep gs ls one other) (r : List Int) : RingP gs ls r ↔ RingP gs (ls.erase one) r := by
  match r with
  | [] => exact Iff.rfl
  | [_] => exact Iff.rfl
  | [_, _] => exact Iff.rfl
  | [_, _, _] => exact Iff.rfl
  | _ :: _ :: _ :: _ :: _ :: _ :: _ => exact Iff.rfl
  | [a, b, c, d] =>
    have ho := s.2.1
    constructor
    · rintro ⟨⟨ab, bc, cd, ad⟩, ac, bd⟩
      have ea := els_vert ab ad bd ho
      have eb := els_vert ab.symm bc ac ho
      have ec := els_vert bc.symm cd bd ho
      have ed := els_vert ad.symm cd.symm ac ho
      exact ⟨⟨two_more hn s ab ea eb, two_more hn s bc eb ec, two_more hn s cd ec ed, two_more hn s ad ea ed⟩, fun z => ac (two_less z), fun z => bd (two_less z)⟩
    · rintro ⟨⟨ab, bc, cd, ad⟩, ac, bd⟩
      have ea := els_two hn ab
      have eb := els_two hn bc
      have ec := els_two hn cd
      have ed := els_two hn cd.symm
      exact ⟨⟨two_less ab, two_less bc, two_less cd, two_less ad⟩, fun z => ac (two_more hn s z ea ec), fun z => bd (two_more hn s z eb ed)⟩
  | [a, b, c, d, e] =>
    have ho := s.2.1
    constructor
    · rintro ⟨⟨ab, bc, cd, de, ae⟩, ac, bd, ce, ad, be⟩
      have ea := els_vert ab ae be ho
      have eb := els_vert ab.symm bc ac ho
      have ec := els_vert bc.symm cd bd ho
      have ed := els_vert cd.symm de ce ho
      have ee := els_vert ae.symm de.symm ad ho
      exact ⟨⟨two_more hn s ab ea eb, two_more hn s bc eb ec, two_more hn s cd ec ed, two_more hn s de ed ee, two_more hn s ae ea ee⟩, fun z => ac (two_less z), fun z => bd (two_less z), fun z => ce (two_less z), fun z => ad (two_less z), fun z => be (two_less z)⟩
    · rintro ⟨⟨ab, bc, cd, de, ae⟩, ac, bd, ce, ad, be⟩
      have ea := els_two hn ab
      have eb := els_two hn bc
      have ec := els_two hn cd
      have ed := els_two hn de
      have ee := els_two hn de.symm
      exact ⟨⟨two_less ab, two_less bc, two_less cd, two_less de, two_less ae⟩, fun z => ac (two_more hn s z ea ec), fun z => bd (two_more hn s z eb ed), fun z => ce (two_more hn s z ec ee), fun z => ad (two_more hn s z ea ed), fun z => be (two_more hn s z eb ee)⟩
/-- a knot stays, and none comes, where a group is taken away by a step -/
theorem knot_iff (hn : ls.Nodup) (s : isStep gs ls one other) : KnotP gs ls ↔ KnotP gs (ls.erase one) := by
  unfold KnotP
  simp only [shell_iff hn s, ring_iff hn s]
theorem knot_single {i : Int} : ¬ KnotP gs [i] := by
  rintro (⟨S, hl, hp, h1, h2⟩ | ⟨S, r, hp, hr, hx, h⟩)
  · refine h1 ⟨i, by simp, fun u hu => ?_⟩
    obtain ⟨w, hw, n1, n2⟩ := three_other hp hl u u
    obtain ⟨j, hj, k⟩ := h2 w hw
    rw [List.mem_singleton.mp hj] at k
    exact k u ⟨hu, Ne.symm n1⟩
  · have key : ∀ x y z, Two2 gs [i] x y → Two2 gs [i] y z → Two2 gs [i] x z := fun x y z ⟨j, hj, a1, a2⟩ ⟨k, hk, b1, b2⟩ => ⟨i, by simp, by rw [List.mem_singleton.mp hj] at a1; exact a1, by rw [List.mem_singleton.mp hk] at b2; exact b2⟩
    unfold RingP at h
    split at h
    · exact h.2.1 (key _ _ _ h.1.1 h.1.2.1)
    · exact h.2.1 (key _ _ _ h.1.1 h.1.2.1)
    · exact h
end
end DB

namespace DB
section
variable {gs : List (List Int)} {ls : List Int}
theorem rings_mem : ∀ r ∈ rings5, ∃ S, S.Pairwise (· < ·) ∧ r.map Int.ofNat ∈ turnsL S ∧ ∀ x ∈ S, x ∈ r.map Int.ofNat := by
  have : (rings5.all fun r => ([[0, 1, 2, 3], [0, 1, 2, 4], [0, 1, 3, 4], [0, 2, 3, 4], [1, 2, 3, 4], [0, 1, 2, 3, 4]] : List (List Int)).any fun S => decide (S.Pairwise (· < ·) ∧ r.map Int.ofNat ∈ turnsL S ∧ ∀ x ∈ S, x ∈ r.map Int.ofNat)) = true := by decide +kernel
  intro r hr
  obtain ⟨S, _, h⟩ := List.any_eq_true.mp (List.all_eq_true.mp this r hr)
  exact ⟨S, of_decide_eq_true h⟩
theorem rings_ok : ∀ r ∈ rings5, r.Nodup ∧ ∀ x ∈ r, x < 5 := by
  have : (rings5.all fun r => decide (r.Nodup ∧ ∀ x ∈ r, x < 5)) = true := by decide +kernel
  intro r hr
  exact of_decide_eq_true (List.all_eq_true.mp this r hr)
/-- small groups hold no four -/
theorem no_four {g : List Int} (hl : g.length ≤ 3) {a b c d : Int} (h1 : a < b) (h2 : b < c) (h3 : c < d) (ha : a ∈ g) (hb : b ∈ g) (hc : c ∈ g) (hd : d ∈ g) : False := by
  match g, hl with
  | [], _ => simp at ha
  | [x], _ => simp at ha hb; omega
  | [x, y], _ => simp at ha hb hc; omega
  | [x, y, z], _ => simp at ha hb hc hd; omega
  | _ :: _ :: _ :: _ :: _, hl => simp at hl
def T5 (gs : List (List Int)) (ls : List Int) (m : Nat) : Prop := ∀ i j : Nat, i < 5 → j < 5 → i ≠ j → (tm m i j = true ↔ Two2 gs ls (i : Int) (j : Int))
theorem mask_ex (gs : List (List Int)) (ls : List Int) : ∃ m, m < 1024 ∧ T5 gs ls m := by
  classical
  let T : Nat → Nat → Bool := fun i j => decide (Two2 gs ls (i : Int) (j : Int))
  have hT : ∀ i j, T i j = true ↔ Two2 gs ls (i : Int) (j : Int) := fun i j => decide_eq_true_iff
  have hs : ∀ i j, T i j = T j i := fun i j => by
    rw [Bool.eq_iff_iff, hT, hT]
    exact ⟨Two2.symm, Two2.symm⟩
  obtain ⟨h0, h1, h2, h3, h4, h5, h6, h7, h8, h9, h10⟩ := bits5 (T 0 1) (T 0 2) (T 1 2) (T 0 3) (T 1 3) (T 2 3) (T 0 4) (T 1 4) (T 2 4) (T 3 4)
  refine ⟨_, h0, fun i j hi hj ne => ?_⟩
  generalize (T 0 1).toNat + 2 * (T 0 2).toNat + 4 * (T 1 2).toNat + 8 * (T 0 3).toNat + 16 * (T 1 3).toNat + 32 * (T 2 3).toNat + 64 * (T 0 4).toNat + 128 * (T 1 4).toNat + 256 * (T 2 4).toNat + 512 * (T 3 4).toNat = m at *
  rw [← hT]
  have key : tm m i j = T i j := by
    have e1 : i = 0 ∨ i = 1 ∨ i = 2 ∨ i = 3 ∨ i = 4 := by omega
    have e2 : j = 0 ∨ j = 1 ∨ j = 2 ∨ j = 3 ∨ j = 4 := by omega
    rcases e1 with rfl | rfl | rfl | rfl | rfl <;> rcases e2 with rfl | rfl | rfl | rfl | rfl <;> first | exact absurd rfl ne | (simp [tm, h1, h2, h3, h4, h5, h6, h7, h8, h9, h10]; done) | (simp [tm, h1, h2, h3, h4, h5, h6, h7, h8, h9, h10]; exact hs _ _)
  rw [key]
theorem rq_ring {m : Nat} (hm : T5 gs ls m) {r : List Nat} (hn : r.Nodup) (h5 : ∀ x ∈ r, x < 5) (h : rqB (tm m) r = true) : RingP gs ls (r.map Int.ofNat) := by
  unfold rqB at h
  split at h
  · rename_i a b c d
    simp only [List.mem_cons, List.not_mem_nil, or_false, forall_eq_or_imp, forall_eq] at h5
    obtain ⟨a5, b5, c5, d5⟩ := h5
    simp only [List.nodup_cons, List.mem_cons, List.not_mem_nil, or_false, not_or] at hn
    obtain ⟨⟨n1, n2, n3⟩, ⟨n4, n5⟩, n6, _⟩ := hn
    simp only [Bool.and_eq_true, Bool.not_eq_true', ← Bool.not_eq_true, hm a b a5 b5 n1, hm b c b5 c5 n4, hm c d c5 d5 n6, hm a d a5 d5 n3, hm a c a5 c5 n2, hm b d b5 d5 n5] at h
    obtain ⟨⟨⟨⟨⟨x1, x2⟩, x3⟩, x4⟩, x5⟩, x6⟩ := h
    exact ⟨⟨x1, x2, x3, x4⟩, x5, x6⟩
  · rename_i a b c d e
    simp only [List.mem_cons, List.not_mem_nil, or_false, forall_eq_or_imp, forall_eq] at h5
    obtain ⟨a5, b5, c5, d5, e5⟩ := h5
    simp only [List.nodup_cons, List.mem_cons, List.not_mem_nil, or_false, not_or] at hn
    obtain ⟨⟨n1, n2, n3, n4⟩, ⟨n5, n6, n7⟩, ⟨n8, n9⟩, n10, _⟩ := hn
    simp only [Bool.and_eq_true, Bool.not_eq_true', ← Bool.not_eq_true, hm a b a5 b5 n1, hm b c b5 c5 n5, hm c d c5 d5 n8, hm d e d5 e5 n10, hm a e a5 e5 n4, hm a c a5 c5 n2, hm b d b5 d5 n6, hm c e c5 e5 n9, hm a d a5 d5 n3, hm b e b5 e5 n7] at h
    obtain ⟨⟨⟨⟨⟨⟨⟨⟨⟨x1, x2⟩, x3⟩, x4⟩, x5⟩, x6⟩, x7⟩, x8⟩, x9⟩, x10⟩ := h
    exact ⟨⟨x1, x2, x3, x4, x5⟩, x6, x7, x8, x9, x10⟩
  · cases h
/-- those that are all together in pairs are in one group, where there is no shell -/
theorem clique (h3 : ∀ i ∈ ls, (gA gs i).length ≤ 3) (hS : ∀ S, ¬ ShellP gs ls S) : ∀ (N : List Int), N.Pairwise (· < ·) → N ≠ [] → N.length ≤ 5 → (∀ a ∈ N, ∃ i ∈ ls, a ∈ gA gs i) → (∀ a ∈ N, ∀ b ∈ N, a ≠ b → Two2 gs ls a b) → TogP gs ls (· ∈ N) := by
  have three : ∀ a b c : Int, a < b → b < c → Two2 gs ls a b → Two2 gs ls b c → Two2 gs ls a c → TogP gs ls (· ∈ [a, b, c]) := fun a b c h1 h2 ⟨i, hi, i1, i2⟩ ⟨j, hj, j1, j2⟩ ⟨k, hk, k1, k2⟩ => by
    false_or_by_contra
    rename_i no
    refine hS [a, b, c] ⟨.inl rfl, by simp; omega, no, fun v hv => ?_⟩
    simp only [List.mem_cons, List.not_mem_nil, or_false] at hv
    rcases hv with rfl | rfl | rfl
    · exact ⟨j, hj, fun u hu => by
        simp only [List.mem_cons, List.not_mem_nil, or_false] at hu
        rcases hu with ⟨rfl | rfl | rfl, n⟩
        · exact absurd rfl n
        · exact j1
        · exact j2⟩
    · exact ⟨k, hk, fun u hu => by
        simp only [List.mem_cons, List.not_mem_nil, or_false] at hu
        rcases hu with ⟨rfl | rfl | rfl, n⟩
        · exact k1
        · exact absurd rfl n
        · exact k2⟩
    · exact ⟨i, hi, fun u hu => by
        simp only [List.mem_cons, List.not_mem_nil, or_false] at hu
        rcases hu with ⟨rfl | rfl | rfl, n⟩
        · exact i1
        · exact i2
        · exact absurd rfl n⟩
  have four : ∀ a b c d : Int, a < b → b < c → c < d → Two2 gs ls a b → Two2 gs ls b c → Two2 gs ls a c → Two2 gs ls a d → Two2 gs ls b d → Two2 gs ls c d → False := fun a b c d h1 h2 h4 ab bc ac ad bd cd => by
    have no : ¬ TogP gs ls (· ∈ [a, b, c, d]) := fun ⟨i, hi, k⟩ => no_four (h3 i hi) h1 h2 h4 (k a (by simp)) (k b (by simp)) (k c (by simp)) (k d (by simp))
    refine hS [a, b, c, d] ⟨.inr rfl, by simp; omega, no, fun v hv => ?_⟩
    simp only [List.mem_cons, List.not_mem_nil, or_false] at hv
    rcases hv with rfl | rfl | rfl | rfl
    · obtain ⟨i, hi, k⟩ := three b c d h2 h4 bc cd bd
      exact ⟨i, hi, fun u hu => k u (by simp only [List.mem_cons, List.not_mem_nil, or_false] at hu ⊢; omega)⟩
    · obtain ⟨i, hi, k⟩ := three a c d (by omega) h4 ac cd ad
      exact ⟨i, hi, fun u hu => k u (by simp only [List.mem_cons, List.not_mem_nil, or_false] at hu ⊢; omega)⟩
    · obtain ⟨i, hi, k⟩ := three a b d h1 (by omega) ab bd ad
      exact ⟨i, hi, fun u hu => k u (by simp only [List.mem_cons, List.not_mem_nil, or_false] at hu ⊢; omega)⟩
    · obtain ⟨i, hi, k⟩ := three a b c h1 h2 ab bc ac
      exact ⟨i, hi, fun u hu => k u (by simp only [List.mem_cons, List.not_mem_nil, or_false] at hu ⊢; omega)⟩
  intro N hp hne hl ho h2
  match N, hp, hne, hl, ho, h2 with
  | [], _, hne, _, _, _ => exact absurd rfl hne
  | [a], _, _, _, ho, _ =>
    obtain ⟨i, hi, k⟩ := ho a (by simp)
    exact ⟨i, hi, fun u hu => by rw [List.mem_singleton.mp hu]; exact k⟩
  | [a, b], hp, _, _, _, h2 =>
    simp only [List.pairwise_cons, List.mem_cons, List.not_mem_nil, or_false, forall_eq] at hp
    obtain ⟨i, hi, k1, k2⟩ := h2 a (by simp) b (by simp) (by omega)
    exact ⟨i, hi, fun u hu => by
      simp only [List.mem_cons, List.not_mem_nil, or_false] at hu
      rcases hu with rfl | rfl
      · exact k1
      · exact k2⟩
  | [a, b, c], hp, _, _, _, h2 =>
    simp only [List.pairwise_cons, List.mem_cons, List.not_mem_nil, or_false, forall_eq_or_imp, forall_eq] at hp
    exact three a b c (by omega) (by omega) (h2 a (by simp) b (by simp) (by omega)) (h2 b (by simp) c (by simp) (by omega)) (h2 a (by simp) c (by simp) (by omega))
  | a :: b :: c :: d :: t, hp, _, _, _, h2 =>
    simp only [List.pairwise_cons, List.mem_cons, forall_eq_or_imp] at hp
    exact absurd (four a b c d (by omega) (by omega) (by omega) (h2 a (by simp) b (by simp) (by omega)) (h2 b (by simp) c (by simp) (by omega)) (h2 a (by simp) c (by simp) (by omega)) (h2 a (by simp) d (by simp) (by omega)) (h2 b (by simp) d (by simp) (by omega)) (h2 c (by simp) d (by simp) (by omega))) id
theorem ear_peo {m : Nat} (hn : ls.Nodup) (h2 : 2 ≤ ls.length) (hm : T5 gs ls m) (h3 : ∀ i ∈ ls, (gA gs i).length ≤ 3) (h0 : ∀ i ∈ ls, ∀ v ∈ gA gs i, 0 ≤ v) (hS : ∀ S, ¬ ShellP gs ls S) : ∀ (k : Nat) (W : List Nat), W.Pairwise (· < ·) → (∀ v ∈ W, v < 5) → W.length ≤ 5 → peoB (tm m) k W = true →
    ∃ one ∈ ls, ∃ other ∈ ls, one ≠ other ∧ ∀ v ∈ gA gs one, v.toNat ∈ W → Els gs ls one v → v ∈ gA gs other := by
  have base : ∃ one ∈ ls, ∃ other ∈ ls, one ≠ other := by
    match ls, hn, h2 with
    | a :: b :: t, hn, _ => exact ⟨a, by simp, b, by simp, fun e => by rw [List.nodup_cons] at hn; exact hn.1 (by simp [e])⟩
    | [], _, h => simp at h
    | [_], _, h => simp at h
  have nil : ∀ W : List Nat, W.isEmpty = true → ∃ one ∈ ls, ∃ other ∈ ls, one ≠ other ∧ ∀ v ∈ gA gs one, v.toNat ∈ W → Els gs ls one v → v ∈ gA gs other := fun W hW => by
    obtain ⟨a, ha, b, hb, ne⟩ := base
    rw [List.isEmpty_iff.mp hW]
    exact ⟨a, ha, b, hb, ne, fun v _ z => by simp at z⟩
  intro k
  induction k with
  | zero => exact fun W _ _ _ h => nil W h
  | succ k ih =>
    intro W hp h5 hl h
    unfold peoB at h
    cases hf : W.find? (simpB (tm m) W) with
    | none => rw [hf] at h; exact nil W h
    | some v =>
      rw [hf] at h
      simp only at h
      have hv : v ∈ W := List.mem_of_find?_eq_some hf
      have hs : simpB (tm m) W v = true := List.find?_some hf
      have v5 := h5 v hv
      obtain ⟨one, ho, other, ht, ne, H⟩ := ih (W.erase v) (hp.sublist List.erase_sublist) (fun u hu => h5 u (List.mem_of_mem_erase hu)) (Nat.le_trans (List.length_erase_le) hl) h
      have hnd : W.Nodup := hp.imp (fun h => Nat.ne_of_lt h)
      by_cases hocc : ∃ i ∈ ls, (v : Int) ∈ gA gs i
      · unfold simpB at hs
        simp only [List.all_eq_true, Bool.or_eq_true, beq_iff_eq, List.mem_filter] at hs
        have hsub : ∀ u ∈ W.filter (fun u => u == v || tm m v u), u ∈ W ∧ (u = v ∨ tm m v u = true) := fun u hu => by
          simpa using List.mem_filter.mp hu
        obtain ⟨f, hf1, hf2⟩ := clique h3 hS ((W.filter fun u => u == v || tm m v u).map Int.ofNat) (by
          rw [List.pairwise_map]
          exact (hp.filter _).imp fun h => Int.ofNat_lt.mpr h) (fun e => by
            have : v ∈ W.filter fun u => u == v || tm m v u := List.mem_filter.mpr ⟨hv, by simp⟩
            rw [List.map_eq_nil_iff.mp e] at this
            simp at this) (by rw [List.length_map]; exact Nat.le_trans (List.length_filter_le _ _) hl) (fun a ha => by
            obtain ⟨u, hu, rfl⟩ := List.mem_map.mp ha
            obtain ⟨hw, h⟩ := hsub u hu
            by_cases e : u = v
            · subst e; exact hocc
            · rcases h with h | h
              · exact absurd h e
              · obtain ⟨i, hi, _, k2⟩ := (hm v u v5 (h5 u hw) (Ne.symm e)).mp h
                exact ⟨i, hi, k2⟩) (fun a ha b hb ne => by
            obtain ⟨u, hu, rfl⟩ := List.mem_map.mp ha
            obtain ⟨w, hw, rfl⟩ := List.mem_map.mp hb
            have nuw : u ≠ w := fun e => ne (by rw [e])
            have q1 := hsub u hu
            have q2 := hsub w hw
            rcases hs u (by simpa using q1) w (by simpa using q2) with e | e
            · exact absurd e nuw
            · exact (hm u w (h5 u q1.1) (h5 w q2.1) nuw).mp e)
        have vf : (v : Int) ∈ gA gs f := hf2 v (List.mem_map.mpr ⟨v, List.mem_filter.mpr ⟨hv, by simp⟩, rfl⟩)
        by_cases hex : ∃ e ∈ ls, e ≠ f ∧ (v : Int) ∈ gA gs e
        · obtain ⟨e, he, nef, ve⟩ := hex
          refine ⟨e, he, f, hf1, nef, fun x hx hxW _ => ?_⟩
          have x0 := h0 e he x hx
          have hxx : ((x.toNat : Nat) : Int) = x := Int.toNat_of_nonneg x0
          by_cases exv : x.toNat = v
          · rw [← hxx, exv]; exact vf
          · have : tm m v x.toNat = true := (hm v x.toNat v5 (h5 _ hxW) (Ne.symm exv)).mpr ⟨e, he, ve, by rw [hxx]; exact hx⟩
            have := hf2 x.toNat (List.mem_map.mpr ⟨x.toNat, List.mem_filter.mpr ⟨hxW, by simp [this]⟩, rfl⟩)
            rwa [hxx] at this
        · refine ⟨one, ho, other, ht, ne, fun x hx hxW hels => ?_⟩
          have hxx : ((x.toNat : Nat) : Int) = x := Int.toNat_of_nonneg (h0 one ho x hx)
          by_cases exv : x.toNat = v
          · obtain ⟨j, hj, nj, xj⟩ := hels
            rw [← hxx, exv] at hx xj
            have e1 : one = f := Classical.byContradiction fun z => hex ⟨one, ho, z, hx⟩
            have e2 : j = f := Classical.byContradiction fun z => hex ⟨j, hj, z, xj⟩
            exact absurd (e2.trans e1.symm) nj
          · exact H x hx ((hnd.mem_erase_iff).mpr ⟨exv, hxW⟩) hels
      · refine ⟨one, ho, other, ht, ne, fun x hx hxW hels => ?_⟩
        have hxx : ((x.toNat : Nat) : Int) = x := Int.toNat_of_nonneg (h0 one ho x hx)
        by_cases exv : x.toNat = v
        · exact absurd ⟨one, ho, by rw [← exv, hxx]; exact hx⟩ hocc
        · exact H x hx ((hnd.mem_erase_iff).mpr ⟨exv, hxW⟩) hels
/-- groups that have no knot have a step -/
theorem ear_exists (hn : ls.Nodup) (h2 : 2 ≤ ls.length) (h3 : ∀ i ∈ ls, (gA gs i).length ≤ 3) (h5 : ∀ i ∈ ls, ∀ v ∈ gA gs i, 0 ≤ v ∧ v < 5) (hk : ¬ KnotP gs ls) : ∃ one other, isStep gs ls one other := by
  obtain ⟨m, hm, T⟩ := mask_ex gs ls
  have hc := List.all_eq_true.mp chord_all m (List.mem_range.mpr hm)
  unfold chordB at hc
  rcases Bool.or_eq_true_iff.mp hc with hc | hc
  · obtain ⟨r, hr, h⟩ := List.any_eq_true.mp hc
    obtain ⟨S, s1, s2, s3⟩ := rings_mem r hr
    obtain ⟨o1, o2⟩ := rings_ok r hr
    exact absurd (.inr ⟨S, _, s1, s2, s3, rq_ring T o1 o2 h⟩) hk
  · obtain ⟨one, ho, other, ht, ne, H⟩ := ear_peo hn h2 T h3 (fun i hi v hv => (h5 i hi v hv).1) (fun S hS => hk (.inl ⟨S, hS⟩)) 5 [0, 1, 2, 3, 4] (by decide) (by decide) (by decide) hc
    refine ⟨one, other, ne, ho, ht, fun v hv e => H v hv ?_ e⟩
    have := h5 one ho v hv
    have : v.toNat = 0 ∨ v.toNat = 1 ∨ v.toNat = 2 ∨ v.toNat = 3 ∨ v.toNat = 4 := by omega
    simp only [List.mem_cons, List.not_mem_nil, or_false]
    exact this
end
end DB

namespace DB
section
variable {gs : List (List Int)}
theorem numsI_nodup (n : Nat) : (numsI n).Nodup := by
  unfold numsI
  rw [List.nodup_iff_pairwise_ne, List.pairwise_map]
  refine List.Pairwise.imp ?_ (List.nodup_iff_pairwise_ne.mp List.nodup_range)
  intro a b h
  omega
theorem prs_step {ls : List Int} {p : Int × Int} (h : (prsOf gs ls).head? = some p) : isStep gs ls p.1 p.2 := by
  have := List.mem_of_mem_head? (Option.mem_def.mpr h)
  unfold prsOf at this
  simp only [List.mem_flatMap, List.mem_map, List.mem_filter, decide_eq_true_eq] at this
  obtain ⟨a, _, b, ⟨_, hs⟩, rfl⟩ := this
  exact hs
theorem prs_none {ls : List Int} (h : (prsOf gs ls).head? = none) : ∀ a b, ¬ isStep gs ls a b := fun a b s => by
  rw [List.head?_eq_none_iff] at h
  have : (a, b) ∈ prsOf gs ls := by
    unfold prsOf
    simp only [List.mem_flatMap, List.mem_map, List.mem_filter, decide_eq_true_eq]
    exact ⟨a, s.2.1, b, ⟨s.2.2.1, s⟩, rfl⟩
  rw [h] at this
  simp at this
def okV (gs : List (List Int)) (ls : List Int) : Prop := (∀ i ∈ ls, (gA gs i).length ≤ 3) ∧ ∀ i ∈ ls, ∀ v ∈ gA gs i, 0 ≤ v ∧ v < 5
theorem okV.less {ls : List Int} (h : okV gs ls) (a : Int) : okV gs (ls.erase a) := ⟨fun i hi => h.1 i (List.mem_of_mem_erase hi), fun i hi => h.2 i (List.mem_of_mem_erase hi)⟩
theorem isS.okV {n : Int} (h : isS gs n) : okV gs (numsI gs.length) := by
  obtain ⟨_, h5, _, _, hg⟩ := h
  have key : ∀ i ∈ numsI gs.length, gA gs i ∈ gs := fun i hi => by
    unfold numsI at hi
    obtain ⟨j, hj, rfl⟩ := List.mem_map.mp hi
    rw [List.mem_range] at hj
    unfold gA
    rw [Int.toNat_natCast, List.getD_eq_getElem?_getD, List.getElem?_eq_getElem hj]
    exact List.getElem_mem hj
  refine ⟨fun i hi => (hg _ (key i hi)).2.1, fun i hi v hv => ?_⟩
  have := (hg _ (key i hi)).2.2.1 v hv
  omega
/-- steps taken one after another, each any one that is possible, end with a single group exactly if there is no knot -/
theorem take_knot : ∀ (k : Nat) (ls : List Int), ls.Nodup → ls.length = k + 1 → okV gs ls → ((takeSteps gs k ls).isSome = true ↔ ¬ KnotP gs ls)
  | 0, ls, hn, hl, _ => by
    obtain ⟨i, rfl⟩ : ∃ i, ls = [i] := List.length_eq_one_iff.mp hl
    exact ⟨fun _ => knot_single, fun _ => rfl⟩
  | k + 1, ls, hn, hl, ok => by
    unfold takeSteps
    cases h : (prsOf gs ls).head? with
    | none =>
      refine ⟨fun z => (by cases z), fun z => ?_⟩
      obtain ⟨a, b, s⟩ := ear_exists hn (by omega) ok.1 ok.2 z
      exact absurd s (prs_none h a b)
    | some p =>
      have s := prs_step h
      have e : (ls.erase p.1).length = k + 1 := by rw [List.length_erase_of_mem s.2.1]; omega
      have ih := take_knot k (ls.erase p.1) (hn.erase _) e (ok.less _)
      rw [knot_iff hn s, ← ih]
      simp
theorem steps_knot {n : Int} (h : isS gs n) : (stepsOf gs).isSome = true ↔ ¬ KnotP gs (numsI gs.length) := by
  refine take_knot _ _ (numsI_nodup _) ?_ h.okV
  have := h.2.2.1
  unfold numsI
  rw [List.length_map, List.length_range]
  omega
theorem nums_iff (P : List Int → Prop) : (∃ i ∈ numsI gs.length, P (gA gs i)) ↔ ∃ g ∈ gs, P g := by
  constructor
  · rintro ⟨i, hi, h⟩
    unfold numsI at hi
    obtain ⟨j, hj, rfl⟩ := List.mem_map.mp hi
    rw [List.mem_range] at hj
    unfold gA at h
    rw [Int.toNat_natCast, List.getD_eq_getElem?_getD, List.getElem?_eq_getElem hj] at h
    exact ⟨_, List.getElem_mem hj, h⟩
  · rintro ⟨g, hg, h⟩
    obtain ⟨j, hj, rfl⟩ := List.mem_iff_getElem.mp hg
    refine ⟨(j : Int), List.mem_map.mpr ⟨j, List.mem_range.mpr hj, rfl⟩, ?_⟩
    unfold gA
    rw [Int.toNat_natCast, List.getD_eq_getElem?_getD, List.getElem?_eq_getElem hj]
    exact h
theorem tog_iff (S : List Int) : togB gs S = true ↔ TogP gs (numsI gs.length) (· ∈ S) := by
  unfold togB TogP
  rw [nums_iff fun g => ∀ v, v ∈ S → v ∈ g, List.any_eq_true]
  simp only [List.all_eq_true, decide_eq_true_eq]
theorem tg_iff (a b : Int) : tg gs a b = true ↔ Two2 gs (numsI gs.length) a b := by
  rw [tog_iff]
  unfold TogP Two2
  constructor
  · rintro ⟨i, hi, k⟩
    exact ⟨i, hi, k a (by simp), k b (by simp)⟩
  · rintro ⟨i, hi, k1, k2⟩
    refine ⟨i, hi, fun v hv => ?_⟩
    simp only [List.mem_cons, List.not_mem_nil, or_false] at hv
    rcases hv with rfl | rfl
    · exact k1
    · exact k2
theorem cut_mem {S : List Int} (hp : S.Pairwise (· < ·)) {j : Nat} (hj : j < S.length) (u : Int) : u ∈ S.take j ++ S.drop (j + 1) ↔ u ∈ S ∧ u ≠ S[j] := by
  have hd : S = S.take j ++ S[j] :: S.drop (j + 1) := by rw [← List.drop_eq_getElem_cons hj, List.take_append_drop]
  have hp' := hp
  rw [hd, List.pairwise_append] at hp'
  obtain ⟨_, p2, p3⟩ := hp'
  rw [List.pairwise_cons] at p2
  constructor
  · intro h
    rcases List.mem_append.mp h with h | h
    · have := p3 u h S[j] List.mem_cons_self
      exact ⟨List.mem_of_mem_take h, by omega⟩
    · have := p2.1 u h
      exact ⟨List.mem_of_mem_drop h, by omega⟩
  · rintro ⟨h, ne⟩
    rw [hd] at h
    rcases List.mem_append.mp h with h | h
    · exact List.mem_append_left _ h
    · rcases List.mem_cons.mp h with h | h
      · exact absurd h ne
      · exact List.mem_append_right _ h
theorem togP_congr {ls : List Int} {P Q : Int → Prop} (h : ∀ v, P v ↔ Q v) : TogP gs ls P ↔ TogP gs ls Q := by
  have : P = Q := funext fun v => propext (h v)
  rw [this]
theorem shell_b {S : List Int} (hp : S.Pairwise (· < ·)) : shellB gs S = true ↔ ShellP gs (numsI gs.length) S := by
  unfold shellB ShellP
  rw [Bool.and_eq_true, Bool.and_eq_true, decide_eq_true_eq, Bool.not_eq_true', ← Bool.not_eq_true, tog_iff, List.all_eq_true]
  constructor
  · rintro ⟨⟨h1, h2⟩, h3⟩
    refine ⟨by omega, hp, h2, fun v hv => ?_⟩
    obtain ⟨j, hj, rfl⟩ := List.mem_iff_getElem.mp hv
    have := (tog_iff _).mp (h3 j (List.mem_range.mpr hj))
    exact (togP_congr fun u => cut_mem hp hj u).mp this
  · rintro ⟨h1, _, h2, h3⟩
    refine ⟨⟨by omega, h2⟩, fun j hj => ?_⟩
    have hj := List.mem_range.mp hj
    exact (tog_iff _).mpr ((togP_congr fun u => cut_mem hp hj u).mpr (h3 _ (List.getElem_mem hj)))
theorem tg_symm (a b : Int) : tg gs a b = tg gs b a := by
  rw [Bool.eq_iff_iff, tg_iff, tg_iff]
  exact ⟨Two2.symm, Two2.symm⟩
theorem ring_b {r : List Int} (h : r.length = 4 ∨ r.length = 5) : ringT (tg gs) r = true ↔ RingP gs (numsI gs.length) r := by
  rcases h with h | h
  · match r, h with
    | [a, b, c, d], _ =>
      unfold RingP
      simp only [← tg_iff, tg_symm a c, tg_symm b d]
      simp [ringT, nearB, List.range_succ, tg_symm a c, tg_symm b d]
      constructor
      · rintro ⟨x1, ⟨x2, x3⟩, x4, x5, x6⟩
        simp only [x1, x2, x3, x4, x5, x6, and_self, not_false_eq_true, Bool.false_eq_true]
      · rintro ⟨⟨x1, x2, x3, x4⟩, x5, x6⟩
        simp only [x1, x2, x3, x4, x5, x6, and_self]
  · match r, h with
    | [a, b, c, d, e], _ =>
      unfold RingP
      simp only [← tg_iff]
      simp [ringT, nearB, List.range_succ]
      constructor
      · rintro ⟨x1, ⟨x2, x3⟩, ⟨x4, x5, x6⟩, x7, x8, x9, x10⟩
        simp only [x1, x2, x3, x4, x5, x6, x7, x8, x9, x10, and_self, not_false_eq_true, Bool.false_eq_true]
      · rintro ⟨⟨x1, x2, x3, x4, x5⟩, x6, x7, x8, x9, x10⟩
        simp only [x1, x2, x3, x4, x5, x6, x7, x8, x9, x10, and_self]
end
end DB

namespace DB
section
variable {gs : List (List Int)}
theorem found_sorted : ∀ (n : Nat), ∀ S ∈ foundL n, S.Pairwise (· < ·) ∧ ∀ x ∈ S, 0 ≤ x ∧ x < (n : Int)
  | 0, S, h => by rw [List.mem_singleton.mp h]; simp
  | n + 1, S, h => by
    rcases List.mem_append.mp h with h | h
    · obtain ⟨h1, h2⟩ := found_sorted n S h
      exact ⟨h1, fun x hx => by have := h2 x hx; omega⟩
    · obtain ⟨q, hq, rfl⟩ := List.mem_map.mp h
      obtain ⟨h1, h2⟩ := found_sorted n q hq
      refine ⟨List.pairwise_append.mpr ⟨h1, by simp, fun a ha b hb => ?_⟩, fun x hx => ?_⟩
      · rw [List.mem_singleton.mp hb]; exact (h2 a ha).2
      · rcases List.mem_append.mp hx with hx | hx
        · have := h2 x hx; omega
        · rw [List.mem_singleton.mp hx]; omega
theorem turns_all : ((foundL 5).all fun S => decide (S.length < 4) || (turnsL S).all fun r => decide (r.length = S.length ∧ ∀ x ∈ S, x ∈ r)) = true := by decide +kernel
theorem found_up {n k : Nat} (h : n ≤ k) {S : List Int} (hS : S ∈ foundL n) : S ∈ foundL k := by
  obtain ⟨h1, h2⟩ := found_sorted n S hS
  exact found_all k S h1 fun x hx => by have := h2 x hx; omega
theorem ringO_find {S : List Int} (hp : S.Pairwise (· < ·)) (hl : S.length = 4 ∨ S.length = 5) (ht : ∀ r ∈ turnsL S, r.length = S.length) : ringO gs S = (turnsL S).find? (ringT (tg gs)) := by
  rw [← ring_first (hp.imp fun h => Int.ne_of_lt h) (fun a b => tg_symm a b) hl]
  have e := ring_first (T := tg gs) (hp.imp fun h => Int.ne_of_lt h) (fun a b => tg_symm a b) hl
  unfold ringO
  cases h : ringG? (tg gs) S with
  | none =>
    unfold ringG? at h
    rw [Option.filter_eq_none_iff] at h ⊢
    intro a ha hb
    rw [Bool.and_eq_true] at hb
    exact h a ha hb.2
  | some r =>
    rw [h] at e
    have hm := List.mem_of_find?_eq_some e.symm
    unfold ringG? at h
    rw [Option.filter_eq_some_iff] at h ⊢
    refine ⟨h.1, ?_⟩
    rw [Bool.and_eq_true, decide_eq_true_eq]
    exact ⟨by rw [ht r hm]; omega, h.2⟩
theorem short_ring {S : List Int} (h : S.length < 4) (hg : ∀ z, greedy (tg gs) S (S.length - 1) (S.take 1) = some z → z.length ≤ 3) : ringO gs S = none := by
  unfold ringO
  rw [Option.filter_eq_none_iff]
  intro a ha hb
  rw [Bool.and_eq_true, decide_eq_true_eq] at hb
  have := hg a ha
  omega
theorem greedy_len {T : Int → Int → Bool} {S : List Int} : ∀ (k : Nat) (r z : List Int), greedy T S k r = some z → z.length = r.length + k
  | 0, r, z, h => by unfold greedy at h; cases h; rfl
  | k + 1, r, z, h => by
    unfold greedy at h
    split at h
    · cases h
    · split at h
      · cases h
      · have := greedy_len k _ z h
        rw [List.length_append, List.length_singleton] at this
        omega
theorem setsK_iff {n : Nat} {S : List Int} : S ∈ setsK n ↔ S ∈ foundL n := List.mem_mergeSort
theorem turnsF_len' (vs : List Int) : ∀ (n : Nat) (found : List (List Int)) (k : Nat), (∀ r ∈ found, r.length ≤ k) → ∀ r ∈ turnsF vs n found, r.length ≤ k + n
  | 0, found, k, h, r, hr => h r hr
  | n + 1, found, k, h, r, hr => by
    unfold turnsF at hr
    have := turnsF_len' vs n _ (k + 1) (fun q hq => by
      obtain ⟨row, hrow, hq⟩ := List.mem_flatMap.mp hq
      obtain ⟨o, _, rfl⟩ := List.mem_map.mp hq
      have := h row hrow
      rw [List.length_append, List.length_singleton]
      omega) r hr
    omega
theorem turnsL_len (vs r : List Int) (h : r ∈ turnsL vs) : r.length ≤ max 1 vs.length := by
  have := turnsF_len' vs (vs.length - 1) [vs.take 1] 1 (fun q hq => by rw [List.mem_singleton.mp hq, List.length_take]; omega) r h
  omega
theorem knot_none {n : Nat} (h : isS gs n) : knotOf n gs = none ↔ ¬ KnotP gs (numsI gs.length) := by
  have h5 : n ≤ 5 := by have := h.2.1; omega
  have hv := h.okV
  have hin : ∀ i ∈ numsI gs.length, ∀ v ∈ gA gs i, 0 ≤ v ∧ v < (n : Int) := fun i hi v hv => by
    unfold numsI at hi
    obtain ⟨j, hj, rfl⟩ := List.mem_map.mp hi
    rw [List.mem_range] at hj
    unfold gA at hv
    rw [Int.toNat_natCast, List.getD_eq_getElem?_getD, List.getElem?_eq_getElem hj] at hv
    have := (h.2.2.2.2 _ (List.getElem_mem hj)).2.2.1 v hv
    omega
  unfold knotOf
  rw [List.findSome?_eq_none_iff]
  have mem : ∀ S, S ∈ setsK n ↔ S ∈ foundL n := fun S => setsK_iff
  have ht : ∀ S, S ∈ foundL n → 4 ≤ S.length → ∀ r ∈ turnsL S, r.length = S.length ∧ ∀ x ∈ S, x ∈ r := fun S hS h4 r hr => by
    have := List.all_eq_true.mp turns_all S (found_up h5 hS)
    rcases Bool.or_eq_true_iff.mp this with z | z
    · have := of_decide_eq_true z; omega
    · exact of_decide_eq_true (List.all_eq_true.mp z r hr)
  have l5 : ∀ S, S ∈ foundL n → S.length ≤ 5 := fun S hS => by
    have := (setsK_mem ((mem S).mpr hS)).1
    omega
  constructor
  · rintro hA (⟨S, hS⟩ | ⟨S, r, hp, hr, hx, hR⟩)
    · have hin' : ∀ x ∈ S, 0 ≤ x ∧ x < (n : Int) := fun x hx => by
        obtain ⟨w, hw, n1, _⟩ := three_other hS.2.1 hS.1 x x
        obtain ⟨i, hi, k⟩ := hS.2.2.2 w hw
        exact hin i hi x (k x ⟨hx, Ne.symm n1⟩)
      have := hA S ((mem S).mpr (found_all n S hS.2.1 hin'))
      unfold knotAt at this
      rw [if_pos ((shell_b hS.2.1).mpr hS)] at this
      cases this
    · have hocc : ∀ x ∈ r, 0 ≤ x ∧ x < (n : Int) := by
        have key : ∀ x y, Two2 gs (numsI gs.length) x y → (0 ≤ x ∧ x < (n : Int)) ∧ (0 ≤ y ∧ y < (n : Int)) := fun x y ⟨i, hi, a, b⟩ => ⟨hin i hi x a, hin i hi y b⟩
        unfold RingP at hR
        split at hR
        · rename_i a b c d
          obtain ⟨⟨ab, bc, cd, ad⟩, _⟩ := hR
          have := key _ _ ab; have := key _ _ cd
          simp only [List.mem_cons, List.not_mem_nil, or_false, forall_eq_or_imp, forall_eq]
          omega
        · rename_i a b c d e
          obtain ⟨⟨ab, bc, cd, de, ae⟩, _⟩ := hR
          have := key _ _ ab; have := key _ _ cd; have := key _ _ ae
          simp only [List.mem_cons, List.not_mem_nil, or_false, forall_eq_or_imp, forall_eq]
          omega
        · cases hR
      have hl : r.length = 4 ∨ r.length = 5 := by
        unfold RingP at hR
        split at hR
        · exact .inl rfl
        · exact .inr rfl
        · cases hR
      have hSf := found_all n S hp fun x hxx => hocc x (hx x hxx)
      have h4 : 4 ≤ S.length := by
        false_or_by_contra
        rename_i z
        have := turnsL_len S r hr
        omega
      have hS45 : S.length = 4 ∨ S.length = 5 := by have := l5 S hSf; omega
      have := hA S ((mem S).mpr hSf)
      unfold knotAt at this
      split at this
      · cases this
      · rw [ringO_find hp hS45 fun q hq => (ht S hSf h4 q hq).1, Option.map_eq_none_iff, List.find?_eq_none] at this
        exact this r hr ((ring_b hl).mpr hR)
  · intro hK S hS
    have hSf := (mem S).mp hS
    obtain ⟨hp, hx⟩ := found_sorted n S hSf
    unfold knotAt
    split
    · rename_i hb
      exact absurd (.inl ⟨S, (shell_b hp).mp hb⟩) hK
    · rw [Option.map_eq_none_iff]
      by_cases h4 : S.length < 4
      · refine short_ring h4 fun z hz => ?_
        have := greedy_len _ _ _ hz
        rw [List.length_take] at this
        omega
      · have hS45 : S.length = 4 ∨ S.length = 5 := by have := l5 S hSf; omega
        rw [ringO_find hp hS45 fun q hq => (ht S hSf (by omega) q hq).1, List.find?_eq_none]
        intro r hr hb
        obtain ⟨q1, q2⟩ := ht S hSf (by omega) r hr
        exact hK (.inr ⟨S, r, hp, hr, q2, (ring_b (by omega)).mp hb⟩)
/-- a scheme has steps exactly if it has no knot -/
theorem steps_or_knot {n : Nat} (h : isS gs n) : (stepsOf gs).isSome = true ↔ knotOf n gs = none := by
  rw [steps_knot h, knot_none h]
end
end DB

/-! Steps run one after another; rings turned. -/
namespace DB
open PySem PySem.Spec L2 DL PyProof.Rows
def runS (gs : List (List Int)) : List (Int × Int) → List Int → Bool
  | [], _ => true
  | p :: ts, ls => decide (isStep gs ls p.1 p.2) && runS gs ts (ls.erase p.1)
def s_shows_steps : DSp := fun ds μ Q _ => ∃ n gs ts, ds = [schemeD n gs, .tup (ts.map pairI)] ∧ isS gs n ∧ ts.length ≤ 60 ∧ Q (.bl (decide (ts.length + 1 = gs.length) && runS gs ts (numsI gs.length))) μ
def knotRight (gs : List (List Int)) (k : Bool × List Int) : Bool := if k.1 then decide (k.2.Pairwise (· < ·)) && shellB gs k.2 else decide (4 ≤ k.2.length) && ringT (tg gs) k.2
def s_shows_knot : DSp := fun ds μ Q _ => ∃ n gs k, ds = [schemeD n gs, knD k] ∧ isS gs n ∧ k.2.length ≤ 5 ∧ Q (.bl (knotRight gs k)) μ
section
variable {gs : List (List Int)}
theorem take_runs : ∀ (k : Nat) (ls : List Int) (ts : List (Int × Int)), takeSteps gs k ls = some ts → ts.length = k ∧ runS gs ts ls = true
  | 0, ls, ts, h => by unfold takeSteps at h; cases h; exact ⟨rfl, rfl⟩
  | k + 1, ls, ts, h => by
    unfold takeSteps at h
    split at h
    · cases h
    · rename_i p hp
      obtain ⟨us, hu, rfl⟩ := Option.map_eq_some_iff.mp h
      obtain ⟨h1, h2⟩ := take_runs k _ us hu
      refine ⟨by rw [List.length_cons, h1], ?_⟩
      unfold runS
      rw [decide_eq_true (prs_step hp), h2]
      rfl
theorem knot_right {n : Nat} {k : Bool × List Int} (h : isS gs n) (e : knotOf n gs = some k) : knotRight gs k = true ∧ 3 ≤ k.2.length ∧ k.2.length ≤ 5 := by
  unfold knotOf at e
  obtain ⟨S, hS, hk⟩ := List.exists_of_findSome?_eq_some e
  have hSf := setsK_iff.mp hS
  obtain ⟨hp, _⟩ := found_sorted n S hSf
  have h5 : S.length ≤ 5 := by
    have := (setsK_mem hS).1
    have := h.2.1
    omega
  unfold knotAt at hk
  split at hk
  · rename_i hb
    cases hk
    unfold knotRight
    rw [if_pos rfl, decide_eq_true hp, hb]
    unfold shellB at hb
    simp only [Bool.and_eq_true, decide_eq_true_eq] at hb
    exact ⟨rfl, hb.1.1.1, h5⟩
  · obtain ⟨r, hr, rfl⟩ := Option.map_eq_some_iff.mp hk
    unfold ringO at hr
    rw [Option.filter_eq_some_iff] at hr
    obtain ⟨hg, hr⟩ := hr
    have hl := greedy_len _ _ _ hg
    rw [List.length_take] at hl
    refine ⟨?_, ?_, ?_⟩
    · unfold knotRight
      rw [if_neg (by simp)]
      exact hr
    · rw [Bool.and_eq_true, decide_eq_true_eq] at hr
      show 3 ≤ r.length
      omega
    · show r.length ≤ 5
      omega
theorem ring_turn {ls r : List Int} (h : RingP gs ls r) (k : Nat) (hk : k < r.length) : RingP gs ls (r.drop k ++ r.take k) := by
  unfold RingP at h
  split at h
  · rename_i a b c d
    obtain ⟨⟨ab, bc, cd, ad⟩, ac, bd⟩ := h
    have ca : ¬ Two2 gs ls c a := fun z => ac z.symm
    have db : ¬ Two2 gs ls d b := fun z => bd z.symm
    simp only [List.length_cons, List.length_nil] at hk
    have : k = 0 ∨ k = 1 ∨ k = 2 ∨ k = 3 := by omega
    rcases this with rfl | rfl | rfl | rfl
    · exact ⟨⟨ab, bc, cd, ad⟩, ac, bd⟩
    · exact ⟨⟨bc, cd, ad.symm, ab.symm⟩, bd, ca⟩
    · exact ⟨⟨cd, ad.symm, ab, bc.symm⟩, ca, db⟩
    · exact ⟨⟨ad.symm, ab, bc, cd.symm⟩, db, ac⟩
  · rename_i a b c d e
    obtain ⟨⟨ab, bc, cd, de, ae⟩, ac, bd, ce, ad, be⟩ := h
    have ca : ¬ Two2 gs ls c a := fun z => ac z.symm
    have db : ¬ Two2 gs ls d b := fun z => bd z.symm
    have ec : ¬ Two2 gs ls e c := fun z => ce z.symm
    have da : ¬ Two2 gs ls d a := fun z => ad z.symm
    have eb : ¬ Two2 gs ls e b := fun z => be z.symm
    simp only [List.length_cons, List.length_nil] at hk
    have : k = 0 ∨ k = 1 ∨ k = 2 ∨ k = 3 ∨ k = 4 := by omega
    rcases this with rfl | rfl | rfl | rfl | rfl
    · exact ⟨⟨ab, bc, cd, de, ae⟩, ac, bd, ce, ad, be⟩
    · exact ⟨⟨bc, cd, de, ae.symm, ab.symm⟩, bd, ce, da, be, ca⟩
    · exact ⟨⟨cd, de, ae.symm, ab, bc.symm⟩, ce, da, eb, ca, db⟩
    · exact ⟨⟨de, ae.symm, ab, bc, cd.symm⟩, da, eb, ac, db, ec⟩
    · exact ⟨⟨ae.symm, ab, bc, cd, de.symm⟩, eb, ac, bd, ec, ad⟩
  · cases h
theorem ring_back {ls r : List Int} (h : RingP gs ls r) : RingP gs ls r.reverse := by
  unfold RingP at h
  split at h
  · rename_i a b c d
    obtain ⟨⟨ab, bc, cd, ad⟩, ac, bd⟩ := h
    exact ⟨⟨cd.symm, bc.symm, ab.symm, ad.symm⟩, fun z => bd z.symm, fun z => ac z.symm⟩
  · rename_i a b c d e
    obtain ⟨⟨ab, bc, cd, de, ae⟩, ac, bd, ce, ad, be⟩ := h
    exact ⟨⟨de.symm, cd.symm, bc.symm, ab.symm, ae.symm⟩, fun z => ce z.symm, fun z => bd z.symm, fun z => ac z.symm, fun z => be z.symm, fun z => ad z.symm⟩
  · cases h
theorem ring_both {r : List Int} (h : knotRight gs (false, r) = true) (h5 : r.length ≤ 5) : (∀ k, k < r.length → knotRight gs (false, r.drop k ++ r.take k) = true) ∧ knotRight gs (false, r.reverse) = true := by
  unfold knotRight at h ⊢
  simp only [Bool.false_eq_true, if_false, Bool.and_eq_true, decide_eq_true_eq] at h ⊢
  have hl : r.length = 4 ∨ r.length = 5 := by omega
  have hR := (ring_b hl).mp h.2
  refine ⟨fun k hk => ?_, by rw [List.length_reverse]; exact h.1, (ring_b (by rw [List.length_reverse]; exact hl)).mpr (ring_back hR)⟩
  have e : (r.drop k ++ r.take k).length = r.length := by
    rw [List.length_append, List.length_drop, List.length_take]
    omega
  exact ⟨by omega, (ring_b (by omega)).mpr (ring_turn hR k hk)⟩
end
end DB

/-! `is` of truth values -/
namespace DL
open PySem PySem.Spec L2 PyProof.Rows
section
variable {T : Cl} {X : Cx} {W : WX}
theorem same_bools {M : Model} {A : Around} {E : Value → Shared → Prop} {Q : Value → Shared → Prop} {s : Shared} {a b : Bool} (h : Q (.bool (a == b)) s) : wpAny M A (compareOp .Is (.bool a) (.bool b)) Q E s := by
  cases a <;> cases b <;> exact wpAny_pure h
theorem notsame_bools {M : Model} {A : Around} {E : Value → Shared → Prop} {Q : Value → Shared → Prop} {s : Shared} {a b : Bool} (h : Q (.bool (!(a == b))) s) : wpAny M A (compareOp .IsNot (.bool a) (.bool b)) Q E s := by
  cases a <;> cases b <;> exact wpAny_pure h
@[simp] def rdIsBl (neg : Bool) : RD2 := fun x y μ P => match x, y with
  | .bl a, .bl b => P (.bl (if neg then !(a == b) else (a == b))) μ
  | _, _ => False
theorem od_isBl : OpD T X (compareOp .Is) (rdIsBl false) := by
  intro pins s σ H x y v u Q I rx ry ⟨A, μ, d, e, P, rl, px, py, q, k⟩
  cases px with
  | bl a =>
    cases py with
    | bl b =>
      cases rx; cases ry
      exact same_bools (fin_bl I (k _ μ A _ H (.refl _ _) rl (.bl _) q) rfl)
    | _ => exact q.elim
  | _ => exact q.elim
theorem od_notBl : OpD T X (compareOp .IsNot) (rdIsBl true) := by
  intro pins s σ H x y v u Q I rx ry ⟨A, μ, d, e, P, rl, px, py, q, k⟩
  cases px with
  | bl a =>
    cases py with
    | bl b =>
      cases rx; cases ry
      exact notsame_bools (fin_bl I (k _ μ A _ H (.refl _ _) rl (.bl _) q) rfl)
    | _ => exact q.elim
  | _ => exact q.elim
end
end DL

/-! The data layer: an operator of one own class, the other operand of another. -/
namespace PySem.W
open PySem PySem.Calls PyProof.Rows
/-- both classes have the method of the operator, the second class stands not under the first -/
theorem two_own {prog : Program} {w : World} {A : Around} {E : Value → Shared → Prop} {s : Shared} {K : Frag} {x y C D L f f2 : Addr} {h₀ : Heap} {m : Str → Option Value} {ox : Obj} {od : Option Obj} {op : Operator} {rc : Option Value} {Q : Value → Shared → Prop}
    (F : Fr h₀ L s.heap m) (kin : K.In h₀) (I : InstAt s.heap x ox C od) (ty : Looks (model prog w) s.heap (typeOf (.ref y)) (.ref D)) (first : selfFirst K C = true) (first2 : selfFirst K D = true)
    (own : findIn K (.ref C) (PySem.dunder op.info.2) = some (some (.ref f))) (fn : isFn K (.ref f) = true)
    (back : findIn K (.ref C) (dunderR op.info.2) = some rc) (hp : rc = none ∨ ∃ g : Addr, rc = some (.ref g))
    (own2 : findIn K (.ref D) (PySem.dunder op.info.2) = some (some (.ref f2))) (back2 : findIn K (.ref D) (dunderR op.info.2) = some none)
    (under : subIn K (.ref D) (.ref C) = some false) (ne : C ≠ D)
    (go : wpAny (model prog w) A (call (.ref f) [.ref x, .ref y]) (CmpBack Q) E s) : wpAny (model prog w) A (binaryOp op (.ref x) (.ref y)) Q E s := by
  have here := kin.keeps F.keep
  obtain ⟨c1, r1, l1, m1⟩ := ksp_first first
  obtain ⟨c2, r2, l2, m2⟩ := ksp_first first2
  rcases hi : op.info with ⟨sy, nam⟩
  rw [hi] at own back own2 back2
  dsimp only at own back own2 back2
  have try1 := ksp_try here I own fn go
  obtain ⟨hh, g, d, tt, os⟩ := s
  have k1 : Looks (model prog w) hh (typeOf (.ref x)) (.ref C) := I.type
  have k2 : Looks (model prog w) hh (typeOf (.ref y)) (.ref D) := ty
  have k3 : Looks (model prog w) hh (fillsNumberSlot (.ref C) nam) true := fills_K here l1 m1 own
  have k4 : Looks (model prog w) hh (fillsNumberSlot (.ref D) nam) true := fills_K here l2 m2 own2
  have k5 : Looks (model prog w) hh (isSubtype (.ref D) (.ref C)) false := looks_subIn here under
  have k6 : Looks (model prog w) hh (numberSlotInPython (.ref C) nam) true := ksp_inPy here own back hp
  have k7 : Looks (model prog w) hh (numberSlotInPython (.ref D) nam) true := ksp_inPy here own2 back2 (.inl rfl)
  have diff : (Value.ref C == Value.ref D) = false := Bool.eq_false_iff.mpr fun q => ne (by cases beq_iff_eq.mp q; rfl)
  simp only [binaryOp, hi]
  refine wpAny_holding (wpAny_bind ?_)
  unfold binaryOp1
  refine wpAny_bind (k1.at (wpAny_bind (k2.at (wpAny_bind (k3.at ?_)))))
  simp only [diff, Bool.false_eq_true, if_false]
  ksp_lk
  refine wpAny_mono try1 (fun r s' z => ?_) fun _ _ e => e
  obtain ⟨v, rfl, q⟩ := z
  ksp_lk
  exact q
end PySem.W
namespace DL
open PySem PySem.Spec L2
variable {T : Cl} {X : Cx} {E : XK} {k c c2 : Nat} {f f2 : Addr} {s : DSp}
@[simp] def rxBin2 (c c2 : Nat) (s : DSp) : RX2 := fun x y μ P PX => match x, y with
  | .ins d ds, .ins e es => d = c ∧ e = c2 ∧ s [.ins c ds, .ins c2 es] μ P PX
  | _, _ => False
theorem ox_bin2R {op : Operator} {rc : Option Value} (hc : PySem.W.selfFirst X.K (T.cls c) = true) (hc2 : PySem.W.selfFirst X.K (T.cls c2) = true) (hs : PySem.W.findIn X.K (.ref (T.cls c)) (PySem.dunder op.info.2) = some (some (.ref f))) (hf : PySem.W.isFn X.K (.ref f) = true)
    (h0 : PySem.W.findIn X.K (.ref (T.cls c)) (dunderR op.info.2) = some rc) (hp : rc = none ∨ ∃ g : Addr, rc = some (.ref g))
    (hs2 : PySem.W.findIn X.K (.ref (T.cls c2)) (PySem.dunder op.info.2) = some (some (.ref f2))) (h2 : PySem.W.findIn X.K (.ref (T.cls c2)) (dunderR op.info.2) = some none)
    (hsub : PySem.W.subIn X.K (.ref (T.cls c2)) (.ref (T.cls c)) = some false) (ne : T.cls c ≠ T.cls c2)
    (F : RunAt T X E f s) (hr : Room k X.A) : OpX T X E (binaryOp op) (rxBin2 c c2 s) := by
  intro pins sh σ H x y v u Q I rx ry ⟨A, μ, d, e, P, PX, rl, px, py, q, kv, kx⟩
  cases d with
  | ins c' ds =>
    cases e with
    | ins c'' es =>
      obtain ⟨rfl, rfl, q⟩ := q
      obtain ⟨a, ox, od, rfl, J, _⟩ := ins_view I px
      obtain ⟨b, ox2, od2, rfl, J2, _⟩ := ins_view I py
      cases rx
      cases ry
      obtain ⟨m, hF⟩ := I.fr
      refine PySem.W.two_own (op := op) hF I.ok.mod.kin J J2.type hc hc2 hs hf h0 hp hs2 h2 hsub ne ?_
      refine wpAny_mono (run_ownR (Q := Q) F I rl (.cons px (.cons py .nil)) (.cons rfl (.cons rfl .nil)) q kv kx) (fun w s' z => ?_) fun _ _ x => x
      obtain ⟨z', H', I', rz, qz⟩ := z
      exact SlX.cmpback rz ⟨z', H', I', rz, qz⟩
    | _ => exact q.elim
  | _ => exact q.elim
end DL
namespace DL
open PySem PySem.Spec L2
theorem ne_of {K : PySem.W.Frag} {C D : Addr} (h : PySem.W.selfFirst K C = true) (u : PySem.W.mroIn K D (.ref C) = some false) : C ≠ D := by
  intro e
  subst e
  obtain ⟨c, r, l, m⟩ := PySem.W.ksp_first h
  unfold PySem.W.mroIn at u
  rw [l] at u
  simp [m] at u
/-- what an operator of one class asks of the class of its other operand -/
def Two (T : Cl) (K : PySem.W.Frag) (op : Operator) (c c2 : Nat) (f : Addr) : Prop := ∃ f2 : Addr, PySem.W.selfFirst K (T.cls c) = true ∧ PySem.W.selfFirst K (T.cls c2) = true ∧ PySem.W.findIn K (.ref (T.cls c)) (PySem.dunder op.info.2) = some (some (.ref f)) ∧ PySem.W.isFn K (.ref f) = true ∧
  PySem.W.findIn K (.ref (T.cls c)) (dunderR op.info.2) = some none ∧ PySem.W.findIn K (.ref (T.cls c2)) (PySem.dunder op.info.2) = some (some (.ref f2)) ∧ PySem.W.findIn K (.ref (T.cls c2)) (dunderR op.info.2) = some none ∧ PySem.W.mroIn K (T.cls c2) (.ref (T.cls c)) = some false
theorem ox_two {T : Cl} {X : Cx} {E : XK} {k c c2 : Nat} {f : Addr} {s : DSp} {op : Operator} (h : Two T X.K op c c2 f) (F : RunAt T X E f s) (hr : Room k X.A) : OpX T X E (binaryOp op) (rxBin2 c c2 s) := by
  obtain ⟨f2, h1, h2, h3, h4, h5, h6, h7, h8⟩ := h
  exact ox_bin2R h1 h2 h3 h4 h5 (.inl rfl) h6 h7 h8 (ne_of h1 h8) F hr
end DL
namespace DL
open PySem PySem.Spec L2
section
variable {T : Cl} {X : Cx} {W : WX} {pos : Pos} {e : Expr}
def rSlP (T : Cl) (K : PySem.W.Frag) : V → Option Int → Option Int → Hp → VK → Prop := fun x lo hi H Q => ∃ (A : Ax) (μ : Mu) (ds : List D) (P : D → Mu → Prop), Rl T K A H μ ∧ Rep T K A H x (.tupp ds) ∧ P (.tupp (cutD ds lo hi)) μ ∧
  ∀ d' μ' A' v H', Ext A H A' H' → Rl T K A' H' μ' → Rep T K A' H' v d' → P d' μ' → Q v H'
theorem sl_P : SlR X (rSlP T X.K) := by
  intro pins s σ H x v vl vu lo hi sl Q I rx hs pl pu ⟨A, μ, ds, P, rl, px, h, k⟩
  cases px with
  | @tupp a xs _ hx qx =>
    cases rx
    obtain ⟨its, r, ht, hz⟩ := I.tuple (.inl (.inl hx))
    have hlen : its.toArray.size = ds.length := by rw [List.size_toArray, ← r.length]; exact qx.length
    refine ⟨"tuple", _, PyProof.Rows.slot_tuple_getitem.lookup, ht.typeIs, ?_⟩
    by_cases hw : HT.sIx ds.length 0 lo = 0 ∧ HT.sIx ds.length ds.length hi = ds.length
    · exact getItem_tuple_whole ht hs pl pu (by rw [hlen]; exact hw) ⟨.ref a, H, I, rfl, k _ _ _ _ _ (.refl _ _) rl (.tupp hx qx) (by rw [cutD_all hw] at h; exact h)⟩
    · refine HT.getItem_tuple_cut ht hs pl pu (by rw [hlen]; exact hw) ?_ (by rw [List.size_toArray, ← r.length]; exact hz)
      have r' : Vals (cutV xs lo hi) ((its.toArray.toList.drop (HT.sIx its.toArray.size 0 lo)).take (HT.sIx its.toArray.size its.toArray.size hi - HT.sIx its.toArray.size 0 lo)) := by
        unfold cutV
        rw [hlen, ← qx.length]
        exact (r.drop _).take _
      obtain ⟨x3, r3, p3⟩ := newP rl (qx.cut lo hi) (I.hok.fresh (Nat.le_refl _))
      exact ⟨.ref _, _, laidP I r' (Nat.le_trans (cutV_length xs lo hi) hz), rfl, k _ _ _ _ _ x3 r3 p3 h⟩
@[simp] def tdSlP (te : TD) (tl th : TDO) : TD := fun ρ μ P PX => te ρ μ (fun x μ1 => tl ρ μ1 (fun lo μ2 => th ρ μ2 (fun hi μ3 => match x with | .tupp ds => P (.tupp (cutD ds lo hi)) μ3 | _ => False) PX) PX) PX
theorem pd_sliceP {lo hi : Option Expr} {te : TD} {tl th : TDO} {p2 : Pos} (he : PD T X W e te) (hl : PDO T X W lo tl) (hu : PDO T X W hi th) : PD T X W (.Subscript e (.Slice lo hi none p2) pos) (tdSlP te tl th) :=
  ⟨PE.mono (pe_slice (sl_P (T := T)) he.run hl.run hu.run) fun σ H Q ⟨A, μ, ρ, P, PX, rl, re, h, k, kx⟩ => ⟨A, μ, ρ, _, PX, rl, re, h, fun x μ1 A1 v1 H1 x1 r1 p1 h1 => ⟨A1, μ1, ρ, _, PX, r1, re.mono rl x1, h1, fun l μ2 A2 H2 x2 r2 h2 =>
    ⟨A2, μ2, ρ, _, PX, r2, re.mono rl (x1.tr r1 x2), h2, fun u μ3 A3 H3 x3 r3 h3 => by
      cases x with
      | tupp ds => exact ⟨A3, μ3, ds, P, r3, p1.mono r1 (x2.tr r2 x3), h3, fun d' μ' A' v H' x4 r4 p4 h4 => k d' μ' A' v H' (((x1.tr r1 x2).tr r2 x3).tr r3 x4) r4 p4 h4⟩
      | _ => exact h3.elim, kx.ext (x1.tr r1 x2) r2⟩, kx.ext x1 r1⟩, kx⟩⟩
end
end DL

/-! The data layer: a value of a builtin type == an object of an own class (the own __eq__ is asked last). -/
namespace PySem.W
open PySem PySem.Calls PyProof.Rows
theorem back_eq {prog : Program} {w : World} {A : Around} {E : Value → Shared → Prop} {s : Shared} {K : Frag} {x C L f : Addr} {h₀ : Heap} {m : Str → Option Value} {ox : Obj} {od : Option Obj} {u : Value} {T id : String} {Q : Value → Shared → Prop}
    (hu : A.units < cLine) (F : Fr h₀ L s.heap m) (kin : K.In h₀) (I : InstAt s.heap x ox C od) (ty : s.TypeIs u T) (under : subIn K (.ref C) (.type T) = some false) (sl : Slot T (cmpInfo .Eq).2.1 id)
    (no : ∀ (E : Value → Shared → Prop) (Q : Value → Shared → Prop), Q .notImplemented s → wpAny (model prog w) A (call (.builtin id) [u, .ref x]) Q E s)
    (own : findIn K (.ref C) (cmpInfo .Eq).2.2 = some (some (.ref f))) (fn : isFn K (.ref f) = true)
    (go : wpAny (model prog w) A (call (.ref f) [.ref x, u]) (CmpBack Q) E s) : wpAny (model prog w) A (richCompare .Eq u (.ref x)) Q E s := by
  have here := kin.keeps F.keep
  have last : wpAny (model prog w) A (tryCompare (.ref x) (cmpInfo .Eq).2.2 u) (fun r s' => ∃ v, r = some v ∧ Q v s') E s := by
    unfold tryCompare
    refine wpAny_bind (ifBound_K here I own fn (wpAny_mono go (fun v s' hv => ?_) fun _ _ e => e))
    cases v <;> first | exact hv.elim | exact wpAny_pure ⟨_, rfl, hv⟩
  unfold richCompare
  simp only [ty.oneThing_none]
  refine wpAny_holding (wpAny_bind (wpAny_cRoomFor hu ?_))
  refine wpAny_bind (wpAny_typeOf ty (wpAny_bind (I.type.here ?_)))
  have diff : (Value.type T != Value.ref C) = true := by
    have : (Value.type T == Value.ref C) = false := Bool.eq_false_iff.mpr fun q => by cases beq_iff_eq.mp q
    simp [bne, this]
  rw [if_pos diff]
  refine wpAny_bind ((looks_subIn here under).here ?_)
  simp only [Bool.false_eq_true, if_false, Bool.not_false, if_true]
  refine wpAny_bind (m := tryCompare u _ _) (wpAny_tryCompare_declines ty sl (no _ _ ⟨rfl, ?_⟩))
  refine wpAny_bind (m := tryCompare (.ref x) _ _) (wpAny_mono last (fun r s' z => ?_) fun _ _ e => e)
  obtain ⟨v, rfl, hq⟩ := z
  exact wpAny_pure hq
end PySem.W

set_option exponentiation.threshold 5000
/-! The data layer: gcd and lcm of math; what is walked, a list or a tuple alike. -/
namespace DL
open PySem PySem.Spec L2
section
variable {T : Cl} {X : Cx} {W : WX} {e tg : Expr} {es : List Expr} {pos : Pos}
theorem reps_two {K : PySem.W.Frag} {A : Ax} {H : Hp} {vs : List V} {d d2 : D} (r : Reps T K A H vs [d, d2]) : ∃ v w, vs = [v, w] ∧ Rep T K A H v d ∧ Rep T K A H w d2 := by
  cases r with
  | cons p q => cases q with
    | cons p2 q2 => cases q2; exact ⟨_, _, rfl, p, p2⟩
/-- f(e, ..), f a name that stands for a built-in function of a module -/
theorem pd_callM {x : Str} {p : Pos} {id : String} {rd : RDC} {t : TDA} (hc : CallD T X (.builtin id) rd) (hg : Gl X x) (hm : X.mg x = some (.builtin id)) (ha : PDA T X W (e :: es) t)
    (hdb : (x == ("__debug__" : Str)) = false := by decide) (he : starEach (e :: es) X.env = (false, eval e X.env) :: starEach es X.env := by rfl) (hpl : (backTo pos (starEach es X.env)).any (·.1) = false := by rfl) :
    PD T X W (.Call (.Name x p) (e :: es) [] pos) (tdCB rd t) := ⟨PE.mono (pe_callBfun hc hg hm ha.run hdb he hpl) fun _ _ _ => cb_lift⟩
@[simp] def rdGcd : RDC := fun ds μ P => match ds with
  | [.int a, .int b] => P (.int ((Nat.gcd a.natAbs b.natAbs : Nat) : Int)) μ
  | _ => False
theorem cd_gcd : CallD T X (.builtin "math.gcd") rdGcd := by
  intro pins s σ H vs us Q I r ⟨A, μ, ds, P, rl, pv, q, k⟩
  unfold rdGcd at q
  split at q
  · rename_i a b
    obtain ⟨v, w, rfl, r1, r2⟩ := reps_two pv
    cases r1
    cases r2
    exact cr_gcd pins s σ H _ us Q I r ⟨a, b, rfl, k _ μ A _ H (.refl _ _) rl (.int _) q⟩
  · exact q.elim
/-- numbers of up to 2,000 binary digits -/
@[simp] def rdLcm : RDC := fun ds μ P => match ds with
  | [.int a, .int b] => a.natAbs < 2 ^ 2000 ∧ b.natAbs < 2 ^ 2000 ∧ P (.int ((Nat.lcm a.natAbs b.natAbs : Nat) : Int)) μ
  | _ => False
theorem lcm_call {prog : Program} {w : World} {A : Around} {E : Value → Shared → Prop} {s : Shared} {Q : Value → Shared → Prop} {a b : Int} {t u : Tok} (ha : a.natAbs < 2 ^ 2000) (hb : b.natAbs < 2 ^ 2000) (h : Q (.int ((a.natAbs.lcm b.natAbs : Nat) : Int) s.toks) { s with toks := s.toks + 1 }) :
    wpAny (model prog w) A (call (.builtin "math.lcm") [.int a t, .int b u]) Q E s := by
  have h1 : (max 1 a.natAbs).log2 ≤ 1999 := PySem.W.mg_log (by
    have : 1 < 2 ^ 2000 := Nat.one_lt_two_pow (by decide)
    exact Nat.max_lt.mpr ⟨this, ha⟩)
  have h2 : (max a.natAbs b.natAbs).log2 ≤ 1999 := PySem.W.mg_log (Nat.max_lt.mpr ⟨ha, hb⟩)
  have hl : (a.natAbs.lcm b.natAbs).log2 ≤ 3999 := PySem.W.mg_log (by
    refine Nat.lt_of_le_of_lt (PySem.W.mc_lcm_le _ _) ?_
    rw [show 3999 + 1 = 2000 + 2000 from rfl, Nat.pow_add]
    exact Nat.mul_lt_mul'' ha hb)
  have one : (Nat.lcm 1 a.natAbs).lcm b.natAbs = a.natAbs.lcm b.natAbs := by rw [PySem.W.mc_lcm_one]
  have big : 4000 ≤ bitsLine := by decide +kernel
  refine call_function_meets PySem.W.MGF.kind_lcm PySem.W.MGF.plain_lcm PySem.W.MGF.entry_lcm (PySem.W.MGF.args_lcm _ _) (PySem.W.mg_run_lcm a t b u (by omega) (by omega) ?_).meets ?_
  · rw [one, Int.natAbs_natCast]
    omega
  · rw [one]
    exact h
theorem cd_lcm : CallD T X (.builtin "math.lcm") rdLcm := by
  intro pins s σ H vs us Q I r ⟨A, μ, ds, P, rl, pv, q, k⟩
  unfold rdLcm at q
  split at q
  · rename_i a b
    obtain ⟨v, w, rfl, r1, r2⟩ := reps_two pv
    cases r1
    cases r2
    obtain ⟨t, u, rfl⟩ := Vals.int2 r
    exact lcm_call q.1 q.2.1 ⟨.int _, H, I.tok _, ⟨_, rfl⟩, k _ μ A _ H (.refl _ _) rl (.int _) q.2.2⟩
  · exact q.elim
end
end DL
namespace DL
open PySem PySem.Spec L2
def iSeq (K : PySem.W.Frag) (tl : TE) : TI := fun σ H R => tl σ H fun x H1 => ∃ a, x = .ref a ∧ (((∃ xs, SqL K H1 a xs) ∧ R (Itl K a) H1) ∨ ((∃ xs, SqT K H1 a xs) ∧ R (Itt K a) H1))
open PyProof.Rows in
/-- a list or a tuple, walked -/
theorem pi_seq {X : Cx} {l tg : Expr} {tl : TE} (src : PE X l tl) : PI X tg l (iSeq X.K tl) := ⟨fun pins sh σ H R I q => by
  refine thn (src.run pins sh σ H _ I q) fun _ s1 ⟨_, H1, J, rel, a, ex, q⟩ => ?_
  subst ex
  cases rel
  have next : FpOk X pins H1 s1.heap.objs.size := J.fpOk (Nat.le_refl _) (J.hok.fresh (Nat.le_refl _))
  have all : ∀ b, b ∈ [s1.heap.objs.size] → FpOk X pins H1 b := fun b m => by
    rw [List.mem_singleton.mp m]
    exact next
  rcases q with ⟨⟨_, lq⟩, q⟩ | ⟨⟨_, lq⟩, q⟩
  · obtain ⟨us, _, il, _⟩ := J.list lq
    exact wpAny_pyIter_list il.isList ⟨_, [_], _, _, H1, rfl, J.kept (t' := s1.toks) (fun _ _ z => Heap.get?_push_of_some _ z), turn_list a _, ⟨_, Heap.get?_push_size _ rfl, rfl, rfl⟩, all, q⟩
  · obtain ⟨us, _, it, _⟩ := J.tuple lq
    exact wpAny_pyIter_tuple (show s1.heap.IsTuple a us.toArray from it) ⟨_, [_], _, _, H1, rfl, J.kept (t' := s1.toks) (fun _ _ z => Heap.get?_push_of_some _ z), turn_tuple a _, ⟨_, Heap.get?_push_size _ rfl, rfl, rfl⟩, all, q⟩⟩
@[simp] def tdiS (t : TD) : TDI := fun ρ μ P PX => t ρ μ (fun d μ1 => match d with
  | .lst xs => P xs (fun _ => True) μ1
  | .tup xs => P xs (fun _ => True) μ1
  | .tupp xs => P xs (fun _ => True) μ1
  | .mu i => match μ1[i]? with | some (.lst xs) => P xs (fun μ => μ[i]? = some (.lst xs)) μ1 | _ => False
  | _ => False) PX
section
variable {T : Cl} {X : Cx} {W : WX} {e tg : Expr}
theorem walkD_tup {A : Ax} {H1 : Hp} {μ1 : Mu} {a : Addr} {ds : List D} {vs : List V} (r1 : Rl T X.K A H1 μ1) (h2 : SqT X.K H1 a vs) (h3 : Reps T X.K A H1 vs ds) : WalkD T X.K (Itt X.K a) A H1 ds (fun _ => True) := by
  refine ⟨fun H => SqT X.K H a vs, YAt vs, by rw [← h3.length]; exact walk_tup, fun A' μ' H' x2 r2 _ => ?_, fun A' μ' H' i x H2 x2 r2 _ hi y => ?_⟩
  · rcases h2 with (h2 | ⟨o, h2⟩) | h2
    · exact .inl (.inl (x2.keep _ _ (r1.ntup h2) nofun h2))
    · exact .inl (.inr ⟨o, x2.keep _ _ (r1.nfrz h2) nofun h2⟩)
    · exact .inr h2
  · obtain ⟨ee, y⟩ := y
    subst ee
    obtain ⟨d, d1, d2⟩ := h3.get' y
    exact ⟨d, d1, Same.refl _, d2.mono r1 x2⟩
theorem pdi_seq {t : TD} (h : PD T X W e t) : PDI T X W tg e (tdiS t) :=
  ⟨PI.mono (pi_seq h.run) fun σ H R ⟨A, μ, ρ, P, PX, rl, re, q, k, kx⟩ => ⟨A, μ, ρ, _, PX, rl, re, q, fun d μ1 A1 v1 H1 x1 r1 p1 h1 => by
    cases p1 with
    | @lst a vs ds e n q1 => exact ⟨a, rfl, .inl ⟨⟨vs, .of e⟩, k _ _ _ _ _ _ x1 r1 (walkD_list (d := .lst ds) r1 (.of e) q1 fun A' μ' H' x2 r2 _ => .of (x2.keep _ _ (fun z => n (.inl z)) nofun e)) h1⟩⟩
    | @tup a o vs ds e n q1 => exact ⟨a, rfl, .inr ⟨⟨vs, .inl (.inr ⟨_, e⟩)⟩, k _ _ _ _ _ _ x1 r1 (walkD_tup r1 (.inl (.inr ⟨_, e⟩)) q1) h1⟩⟩
    | @tupp a vs ds e q1 => exact ⟨a, rfl, .inr ⟨⟨vs, .inl (.inl e)⟩, k _ _ _ _ _ _ x1 r1 (walkD_tup r1 (.inl (.inl e)) q1) h1⟩⟩
    | @mu a i e =>
      replace h1 : match μ1[i]? with | some (.lst xs) => P xs (fun μ => μ[i]? = some (.lst xs)) μ1 | _ => False := h1
      split at h1
      · rename_i xs e2
        obtain ⟨vs, h3, h4⟩ := r1.mutLst e e2
        refine ⟨a, rfl, .inl ⟨⟨vs, .of h3⟩, k _ _ _ _ _ _ x1 r1 ⟨fun H => ∃ ws, SqL X.K H a ws ∧ ws.length = xs.length, fun i H x H' => H' = H ∧ ∀ ws, SqL X.K H a ws → ws[i]? = some x, ⟨fun j H2 hj hw => ?_, fun H2 hw => ?_, fun j H2 x H3 hj hw y => y⟩, fun A' μ' H' x2 r2 k2 => ?_, fun A' μ' H' j x H2 x2 r2 k2 hj y => ?_⟩ h1⟩⟩
        · obtain ⟨ws, w1, w2⟩ := hw
          exact ⟨ws, ws[j]'(by omega), w1, List.getElem?_eq_getElem (by omega)⟩
        · obtain ⟨ws, w1, w2⟩ := hw
          exact ⟨ws, w1, Nat.le_of_eq w2⟩
        · obtain ⟨ws, w1, w2⟩ := r2.mutLst (x2.at_ e) k2
          exact ⟨ws, .of w1, w2.length⟩
        · obtain ⟨ee, y⟩ := y
          subst ee
          obtain ⟨ws, w1, w2⟩ := r2.mutLst (x2.at_ e) k2
          obtain ⟨d, d1, d2⟩ := w2.get' (y ws (.of w1))
          exact ⟨d, d1, Same.refl _, d2⟩
      · exact h1.elim
    | _ => exact h1.elim, kx⟩⟩
end
end DL
namespace DL
open PySem PySem.Spec L2
section
variable {T : Cl} {X : Cx} {W : WX} {e : Expr} {pos : Pos}
/-- t[a:b], t a tuple or a list (a new list then) -/
@[simp] def tdSlS (te : TD) (tl th : TDO) : TD := fun ρ μ P PX => te ρ μ (fun x μ1 => tl ρ μ1 (fun lo μ2 => th ρ μ2 (fun hi μ3 => match x with
  | .tup ds => P (.tup (cutD ds lo hi)) μ3
  | .lst ds => P (.lst (cutD ds lo hi)) μ3
  | _ => False) PX) PX) PX
theorem pd_sliceS {lo hi : Option Expr} {te : TD} {tl th : TDO} {p2 : Pos} (he : PD T X W e te) (hl : PDO T X W lo tl) (hu : PDO T X W hi th) : PD T X W (.Subscript e (.Slice lo hi none p2) pos) (tdSlS te tl th) :=
  ⟨PE.mono (pe_slice (SlR.or (sl_X (T := T)) sl_list) he.run hl.run hu.run) fun σ H Q ⟨A, μ, ρ, P, PX, rl, re, h, k, kx⟩ => ⟨A, μ, ρ, _, PX, rl, re, h, fun x μ1 A1 v1 H1 x1 r1 p1 h1 => ⟨A1, μ1, ρ, _, PX, r1, re.mono rl x1, h1, fun l μ2 A2 H2 x2 r2 h2 =>
    ⟨A2, μ2, ρ, _, PX, r2, re.mono rl (x1.tr r1 x2), h2, fun u μ3 A3 H3 x3 r3 h3 => by
      cases x with
      | tup ds => exact .inl ⟨A3, μ3, ds, P, r3, p1.mono r1 (x2.tr r2 x3), h3, fun d' μ' A' v H' x4 r4 p4 h4 => k d' μ' A' v H' (((x1.tr r1 x2).tr r2 x3).tr r3 x4) r4 p4 h4⟩
      | lst ds =>
        refine .inr ?_
        obtain ⟨a, vs, rfl, h4, h5⟩ := lsrOf_view (ds := ds) r3 (p1.mono r1 (x2.tr r2 x3)) rfl
        have xx := (x1.tr r1 x2).tr r2 x3
        refine ⟨a, vs, rfl, h4, fun p hp => ?_⟩
        obtain ⟨x4, r4, n1, n2, e2, p4⟩ := fresh_k xx r3 xx.sub hp (h5.cut l u)
        have n3 : ¬ A3.Mt p := fun z => z.elim (r4.gh p List.mem_cons_self).1 n2
        exact k _ μ3 A3 _ _ x4 r4.ungst (.lst e2 n3 (p4.drop_ ⟨[], by simp [Ax.gst]⟩ fun a h => Ax.Mt_gst.mpr (.inl h))) h3
      | _ => exact h3.elim, kx.ext (x1.tr r1 x2) r2⟩, kx.ext x1 r1⟩, kx⟩⟩
end
end DL
namespace DL
open PySem PySem.Spec L2
section
variable {T : Cl} {X : Cx}
@[simp] abbrev rdDivW : RD2 := rdI CDivW fun i j => .int (i / j)
@[simp] abbrev rdMulW : RD2 := rdI CMulW fun i j => .int (i * j)
theorem od_divW : OpD T X (binaryOp .FloorDiv) rdDivW := opd_I op_fdivW fun _ _ _ _ => .int _
theorem od_mulW : OpD T X (binaryOp .Mult) rdMulW := opd_I op_mulW fun _ _ _ _ => .int _
end
end DL

/-! The data layer: o[i] by an own __getitem__, xs.count(y), enumerate(xs). -/
namespace DL
open PySem PySem.Spec L2 PyProof.Rows
section
variable {T : Cl} {X : Cx} {W : WX} {E : XK} {a b o e tg : Expr} {es : List Expr} {to ta tb : TD} {t : TDA} {apos cpos pos : Pos} {k c : Nat} {f : Addr} {s : DSp}
/-! ### o[i] -/
@[simp] def rxIx (c : Nat) (s : DSp) : RX2 := fun x y μ P PX => match x with
  | .ins c' ds => c' = c ∧ s [.ins c ds, y] μ P PX
  | _ => False
theorem pd_ixO (hs : PySem.W.findIn X.K (.ref (T.cls c)) "__getitem__" = some (some (.ref f))) (hf : PySem.W.fnIn X.K f = true) (hi : PySem.W.isFn X.K (.ref f) = true) (F : FQ T X.prog X.w X.K X.mg X.base k f s) (hr : Room (k + 1) X.A) (hg : X.A.guards = some []) (hx : Passes (L2.CX X.prog X.w) X E)
    (ha : PD T X (WE0 E) a ta) (hb : PD T X (WE0 E) b tb) (hsl : ∀ x i, subscripted b true (.ref x) i = runValue (.builtin "lifetime.subscript" ⟨[.ref x, i], []⟩) := by intro _ _; with_unfolding_all rfl) : PD T X (WE0 E) (.Subscript a b pos) (tdOpX (rxIx c s) ta tb) := by
  refine ⟨PE.mono (t := tOp (liftOX T X.K E (rxIx c s)) (lift T X (WE0 E) ta) (lift T X (WE0 E) tb)) ⟨fun pins s0 σ H Q I h => Subscript_ (binT ha.run hb.run I h fun v u s2 x y H2 I2 rx ry q => ?_)⟩ fun _ _ _ => opx_lift⟩
  obtain ⟨A, μ, d, e, P, PX, rl, px, py, q, kv, kx⟩ := q
  cases d with
  | ins c' ds =>
    obtain ⟨rfl, q⟩ := q
    obtain ⟨a', ox, od, rfl, J, _⟩ := ins_view I2 px
    cases rx
    obtain ⟨m, hF⟩ := I2.fr
    refine PySem.W.sub_K hF I2.ok.mod.kin J hs hf hi (wpAny_call ?_) (hsl _ _)
    refine codeAny_mono (F X.A.in1 X.stack s2 H2 _ [.ref a', y] Q E hr.in1 hg I2.env0.in1 (.cons rfl (.cons ry .nil)) ⟨A, μ, _, P, PX, rl, .cons px (.cons py .nil), q, kv, kx⟩) fun z s' hq => ?_
    cases z with
    | error e => exact hx pins σ H2 s2 e s' I2 hq
    | ok fl =>
      cases fl with
      | ret u => exact I2.after hq
      | _ => exact hq.elim
  | _ => exact q.elim
/-! ### xs.count(y) -/
@[simp] def cntK (xs : List D) (P : D → Mu → Prop) : List D → Mu → Prop := fun ds μ => match ds with
  | [y] => ∃ (ps : List PyData) (p : PyData), toPyAll xs = some ps ∧ toPy y = some p ∧ PyData.plainAll ps = true ∧ p.plain = true ∧ PyData.depthAll ps ≤ 60 ∧ P (.int ((ps.countP fun q => PyData.eqv q p : Nat) : Int)) μ
  | _ => False
@[simp] def tdCount (to : TD) (t : TDA) : TD := fun ρ μ P PX => to ρ μ (fun x μ1 => match x with
  | .tup xs => t ρ μ1 (cntK xs P) PX
  | .lst xs => t ρ μ1 (cntK xs P) PX
  | _ => False) PX
theorem cnt_args {A : Ax} {H : Hp} {μ : Mu} {pins : List (Addr × Obj)} {σ : L2.St} {sh : Shared} {vs ws : List V} {its us : List Value} {xs ds : List D} {P : D → Mu → Prop} (I : L2.Inv X pins σ H sh) (qs : Reps T X.K A H vs xs) (rv : Vals vs its) (p2 : Reps T X.K A H ws ds) (r2 : Vals ws us) (q : cntK xs P ds μ) :
    ∃ ps p as bs u, us = [u] ∧ ReadsAll sh.heap its ps as ∧ Reads sh.heap u p bs ∧ PyData.plainAll ps = true ∧ p.plain = true ∧ PyData.depthAll ps ≤ 60 ∧ P (.int ((ps.countP fun q => PyData.eqv q p : Nat) : Int)) μ := by
  unfold cntK at q
  split at q
  · rename_i y
    obtain ⟨ps, p, h1, h2, h3, h4, h5, h6⟩ := q
    obtain ⟨w, rfl, pw⟩ := reps1 p2
    obtain ⟨u, rfl, ru⟩ := vals1 r2
    obtain ⟨as, ra⟩ := Dp.readsAll I _ _ _ (toPyAll_dp qs h1) rv
    obtain ⟨bs, rb⟩ := Dp.reads I _ _ _ (toPy_dp pw h2) ru
    exact ⟨ps, p, as, bs, u, rfl, ra, rb, h3, h4, h5, h6⟩
  · exact q.elim
theorem pd_count (hr : Room k X.A) (ho : PD T X W o to) (ha : PDA T X W (e :: es) t) (hbase : attributeBase o "count" X.env (eval o X.env) = eval o X.env := by rfl)
    (few : ((backTo cpos (starEach (e :: es) X.env)).all (fun x => !x.1) && (backToKw cpos (keywordEach [] X.env)).all (fun x => x.1.isSome)
      && decide ((e :: es).length + ([] : List Keyword).length + (if ([] : List Keyword).isEmpty then 0 else 1) < 30)) = true := by rfl)
    (line : (apos.endLine == cpos.line) = true := by rfl) (hs : starEach (e :: es) X.env = (false, eval e X.env) :: starEach es X.env := by rfl) (plain : (backTo cpos (starEach es X.env)).any (·.1) = false := by rfl) :
    PD T X W (.Call (.Attribute o "count" apos) (e :: es) [] cpos) (tdCount to t) := by
  refine ⟨⟨fun pins s σ H Q I h => ?_⟩⟩
  obtain ⟨A, μ, ρ, P, PX, rl, re, h, kk, kx⟩ := h
  have hu := hr.units
  refine wpAny_Call_method_late hbase few line rfl (thn (ho.run.run pins s σ H (fun x H1 => ∃ A1 μ1 d, Ext A H A1 H1 ∧ Rl T X.K A1 H1 μ1 ∧ Rep T X.K A1 H1 x d ∧ (match d with
    | .tup xs => t ρ μ1 (cntK xs P) PX
    | .lst xs => t ρ μ1 (cntK xs P) PX
    | _ => False)) I ⟨A, μ, ρ, _, PX, rl, re, h, fun x μ1 A1 v H1 x1 r1 p1 h1 => ⟨A1, μ1, x, x1, r1, p1, h1⟩, kx⟩) fun v s1 ⟨x, H1, I1, r1, A1, μ1, d, x1, l1, p1, q1⟩ => ?_)
  have args : ∀ {xs : List D}, t ρ μ1 (cntK xs P) PX → wpAny (model X.prog X.w) X.A (spliced (backTo cpos (starEach (e :: es) X.env))) (fun us s2 => ∃ (ws : List V) (H2 : Hp), L2.Inv X pins σ H2 s2 ∧ Vals ws us ∧ ∃ ds A2 μ2, Ext A1 H1 A2 H2 ∧ Rl T X.K A2 H2 μ2 ∧ Reps T X.K A2 H2 ws ds ∧ cntK xs P ds μ2) X.xe s1 := fun {xs} q1 =>
    ha.run.run cpos pins s1 σ H1 (fun ws H2 => ∃ ds A2 μ2, Ext A1 H1 A2 H2 ∧ Rl T X.K A2 H2 μ2 ∧ Reps T X.K A2 H2 ws ds ∧ cntK xs P ds μ2) I1 ⟨A1, μ1, ρ, _, PX, l1, re.mono rl x1, q1, fun ds μ2 A2 ws H2 x2 r2 p2 h2 => ⟨ds, A2, μ2, x2, r2, p2, h2⟩, kx.ext x1 l1⟩
  cases d with
  | tup xs =>
    replace q1 : t ρ μ1 (cntK xs P) PX := q1
    cases p1 with
    | @tup a ob vs _ h0 hd qs =>
      cases r1
      have hob : s1.heap.get? a = some ob := (I1.hok _ _ h0).1
      obtain ⟨_, _, tp, _⟩ := I1.tuple (.inl (.inr ⟨ob, h0⟩))
      have hT : s1.TypeIs (.ref a) "tuple" := by obtain ⟨o2, h2, c2, _⟩ := id tp; exact ⟨o2, h2, c2⟩
      refine ⟨"tuple", "tuple.count", PySem.F.plainAttrs_tuple, PySem.F.slot_tuple_count, PySem.F.type_tuple_count, hT, fun b eb => by cases eb; exact ⟨ob, hob, hd⟩, ?_⟩
      have hA := args q1
      rw [hs] at hA ⊢
      refine Calls.callWith_builtin (by show (false || (backTo cpos (starEach es X.env)).any (·.1)) = false; rw [plain] <;> rfl) (Calls.evalArgs_plain ?_)
      refine thn hA fun us s2 ⟨ws, H2, I2, r2, ds, A2, μ2, x2, l2, p2, q2⟩ => ?_
      obtain ⟨its2, rv2, tp2, _⟩ := I2.tuple (.inl (.inr ⟨ob, x2.keep _ _ (l1.nfrz h0) nofun h0⟩))
      obtain ⟨ps, p, as, bs, u, rfl, ra, rb, k3, k4, k5, k6⟩ := cnt_args I2 (qs.mono l1 x2) rv2 p2 r2 q2
      refine PySem.SeqAt.count_tuple_data (show s2.heap.IsTuple a its2.toArray from tp2) (by simpa using ra) rb k3 k4 (by omega) ?_
      exact ⟨.int _, H2, I2.tok _, ⟨_, rfl⟩, kk _ _ _ _ _ (x1.tr l1 x2) l2 (.int _) k6⟩
  | lst xs =>
    replace q1 : t ρ μ1 (cntK xs P) PX := q1
    cases p1 with
    | @lst a vs _ h0 hn qs =>
      cases r1
      obtain ⟨_, _, ⟨ob, n, hob, hc, hd, he⟩, _⟩ := I1.list (.of h0)
      refine ⟨"list", "list.count", PySem.F.plainAttrs_list, PySem.F.slot_list_count, PySem.F.type_list_count, ⟨ob, hob, hc⟩, fun b eb => by cases eb; exact ⟨ob, hob, hd⟩, ?_⟩
      have hA := args q1
      rw [hs] at hA ⊢
      refine Calls.callWith_builtin (by show (false || (backTo cpos (starEach es X.env)).any (·.1)) = false; rw [plain] <;> rfl) (Calls.evalArgs_plain ?_)
      refine thn hA fun us s2 ⟨ws, H2, I2, r2, ds, A2, μ2, x2, l2, p2, q2⟩ => ?_
      obtain ⟨its2, rv2, tp2, _⟩ := I2.list (.of (x2.keep _ _ (fun z => hn (.inl z)) nofun h0))
      obtain ⟨ps, p, as, bs, u, rfl, ra, rb, k3, k4, k5, k6⟩ := cnt_args I2 (qs.mono l1 x2) rv2 p2 r2 q2
      refine PySem.SeqAt.count_list_data tp2.isList (by simpa using ra) rb k3 k4 (by omega) ?_
      exact ⟨.int _, H2, I2.tok _, ⟨_, rfl⟩, kk _ _ _ _ _ (x1.tr l1 x2) l2 (.int _) k6⟩
  | _ => exact q1.elim
/-! ### a, b, c = x, y, z -/
@[simp] def sPar3 (i j l : Nat) (t : TDA) : TDS := fun ρ μ E => t ρ μ (fun ds μ' => match ds with
  | [d, e, f] => E.nx (((ρ.set i (some d)).set j (some e)).set l (some f)) μ'
  | _ => False) (fun x μ' => E.ex x ρ μ')
theorem pds_par3 (i j l : Nat) {x y z : Str} {a b c : Expr} {t : TDA} {px py pz pt : Pos} {kt k2 pt2} (hc : X.calm = true) (hN : X.N.Nodup) (hi : X.N[i]? = some x) (hj : X.N[j]? = some y) (hl : X.N[l]? = some z) (hij : i ≠ j) (hil : i ≠ l) (hjl : j ≠ l)
    (hx : X.env.scope.names.lookup x = some .local) (hy : X.env.scope.names.lookup y = some .local) (hz : X.env.scope.names.lookup z = some .local) (ha : PDA T X W [a, b, c] t)
    (hw : swappedStores [.Tuple [.Name x px, .Name y py, .Name z pz] kt pt] (.Tuple [a, b, c] k2 pt2) X.env = pure (some [x, y, z]) := by rfl)
    (hs : swapsWithSole [.Tuple [.Name x px, .Name y py, .Name z pz] kt pt] (.Tuple [a, b, c] k2 pt2) pos.line X.env = pure false := by rfl) :
    PDS T X W (.Assign [.Tuple [.Name x px, .Name y py, .Name z pz] kt pt] (.Tuple [a, b, c] k2 pt2) pos) (sPar3 i j l t) :=
  ⟨PS.mono (ps_par3 hc hN hi hj hl hij hil hjl hx hy hz ha.run hw hs) fun D σ H ⟨A, μ, ρ, E', rl, re, h, k⟩ => ⟨A, μ, ρ, _, _, rl, re, h, fun ds μ1 A1 vs H1 x1 r1 p1 h1 => by
    split at h1
    · cases p1 with
      | cons p1 p2 =>
        cases p2 with
        | cons p2 p3 =>
          cases p3 with
          | cons p3 p4 =>
            cases p4
            exact ⟨_, _, _, rfl, k.nx _ μ1 A1 _ H1 x1 r1 ((((re.mono rl x1).set i p1).set j p2).set l p3) h1⟩
    · exact h1.elim, k.xo rl re⟩⟩
/-! ### x, y = a list -/
@[simp] def gdLst (is : List Nat) : TDG := fun d ρ μ P _ => match lstOf μ d with
  | some ds => ds.length = is.length ∧ P (List.foldl (fun r p => r.set p.1 (some p.2)) ρ (is.zip ds)) μ
  | none => False
theorem pdg_lst (is : List Nat) {kk : Nat} {tes : List Expr} (h : PG X (.Tuple tes kk pos) (gLst X.K is.length (gNames is))) : PDG T X W (.Tuple tes kk pos) (gdLst is) :=
  ⟨PG.mono h fun v σ H Q ⟨A, μ, ρ, d, P, PX, rl, re, rp, h, k, kx⟩ => by
    unfold gdLst at h
    split at h
    · rename_i ds hd
      obtain ⟨a, vs, rfl, h1, h2⟩ := lstOf_view rl rp hd
      exact ⟨a, vs, rfl, .of h1, by rw [h2.length]; exact h.1, gNames_of is vs σ H Q (by rw [h2.length]; exact h.1) (k _ μ A _ H (.refl _ _) rl (RE.sets is re h2) h.2)⟩
    · exact h.elim⟩
/-! ### enumerate(xs), xs a list -/
def enumD (xs : List D) : List D := xs.zipIdx.map fun p => .tupw [.int (p.2 : Nat), p.1]
theorem enumD_get {xs : List D} {i : Nat} {d : D} (h : xs[i]? = some d) : (enumD xs)[i]? = some (.tupw [.int (i : Nat), d]) := by
  unfold enumD
  rw [List.getElem?_map, List.getElem?_zipIdx, h]
  simp
theorem enumD_length {xs : List D} : (enumD xs).length = xs.length := by simp [enumD]
theorem walk_enum {K : PySem.W.Frag} {a : Addr} {xs : List V} : Walk (Ite K a) xs.length (fun H => SqL K H a xs) (YPair (fun i => some (.int (i : Nat))) (fun i => xs[i]?)) := by
  refine ⟨fun i _ hi q => ⟨xs, xs[i], q, by simp [hi]⟩, fun _ q => ⟨xs, q, Nat.le_refl _⟩, fun i H v H' _ q y => ?_⟩
  obtain ⟨T, x, h1, h2, h3, h4⟩ := y
  exact ⟨T, _, x, h1, h2, h3, rfl, h4 xs q⟩
@[simp] def enK (P : List D → (Mu → Prop) → Mu → Prop) : List D → Mu → Prop := fun ds μ => match ds with
  | [.lst xs] => P (enumD xs) (fun _ => True) μ
  | [.mu m] => match μ[m]? with | some (.lst xs) => P (enumD xs) (fun μ' => μ'[m]? = some (.lst xs)) μ | _ => False
  | _ => False
@[simp] def tdiEn (t : TDA) : TDI := fun ρ μ P PX => t ρ μ (enK P) PX
theorem pdi_enum {p tpos : Pos} {elts : List Expr} {kk : Nat} (hg : Gl X "enumerate") (hm : X.mg "enumerate" = none) (ha : PDA T X W [e] t) (hs : starEach [e] X.env = [(false, eval e X.env)] := by rfl) :
    PDI T X W (.Tuple elts kk tpos) (.Call (.Name "enumerate" p) [e] [] pos) (tdiEn t) :=
  ⟨PI.mono (pi_enum hg hm ha.run hs) fun σ H R ⟨A, μ, ρ, P, PX, rl, re, q, k, kx⟩ => ⟨A, μ, ρ, _, PX, rl, re, q, fun ds μ1 A1 vs H1 x1 r1 p1 h1 => by
    unfold enK at h1
    split at h1
    · rename_i xs
      obtain ⟨v, rfl, pv⟩ := reps1 p1
      cases pv with
      | @lst a ws _ h0 hn qs =>
        refine ⟨a, ws, rfl, .of h0, k _ _ _ _ _ _ x1 r1 ⟨fun H => SqL X.K H a ws, _, by rw [enumD_length, ← qs.length]; exact walk_enum, fun A' μ' H' x2 r2 _ => .of (x2.keep _ _ (fun z => hn (.inl z)) nofun h0), fun A' μ' H' i x H2 x2 r2 _ hi y => ?_⟩ h1⟩
        obtain ⟨TT, u, v, rfl, hT, rfl, g3, g4⟩ := y
        cases g3
        obtain ⟨d2, d2e, d2r⟩ := (qs.mono r1 x2).get' g4
        have sm : Same H' (upd H' TT (.tup [.int (i : Nat), v])) := same_upd hT
        exact ⟨_, enumD_get d2e, sm, .tupw (.inl (.inl upd_same)) (.cons (.int _) (.cons (d2r.mono r2 (.same sm)) .nil))⟩
    · rename_i m
      split at h1
      · rename_i xs e2
        obtain ⟨v, rfl, pv⟩ := reps1 p1
        cases pv with
        | @mu a _ e0 =>
          obtain ⟨vs0, h3, h4⟩ := r1.mutLst e0 e2
          refine ⟨a, vs0, rfl, .of h3, k _ _ _ _ _ _ x1 r1 ⟨fun H => ∃ ws, SqL X.K H a ws ∧ ws.length = xs.length, fun i H v H' => ∃ T y, v = .ref T ∧ H T = none ∧ H' = upd H T (.tup [.int (i : Nat), y]) ∧ ∀ ws, SqL X.K H a ws → ws[i]? = some y,
            ⟨fun j H2 hj hw => ?_, fun H2 hw => ?_, fun j H2 x H3 hj hw y => y⟩, fun A' μ' H' x2 r2 k2 => ?_, fun A' μ' H' j x H2 x2 r2 k2 hj y => ?_⟩ h1⟩
          · obtain ⟨ws, w1, w2⟩ := hw
            rw [enumD_length] at hj
            exact ⟨ws, ws[j]'(by omega), w1, List.getElem?_eq_getElem (by omega)⟩
          · obtain ⟨ws, w1, w2⟩ := hw
            exact ⟨ws, w1, by rw [enumD_length]; exact Nat.le_of_eq w2⟩
          · obtain ⟨ws, w1, w2⟩ := r2.mutLst (x2.at_ e0) k2
            exact ⟨ws, .of w1, w2.length⟩
          · obtain ⟨TT, z, rfl, hT, rfl, g4⟩ := y
            obtain ⟨ws, w1, w2⟩ := r2.mutLst (x2.at_ e0) k2
            obtain ⟨d, d1, d2⟩ := w2.get' (g4 ws (.of w1))
            have sm : Same H' (upd H' TT (.tup [.int (j : Nat), z])) := same_upd hT
            exact ⟨_, enumD_get d1, sm, .tupw (.inl (.inl upd_same)) (.cons (.int _) (.cons (d2.mono r2 (.same sm)) .nil))⟩
      · exact h1.elim
    · exact h1.elim, kx⟩⟩
end
end DL

/-! The data layer: == of two tuples of own objects that are equal one by one. -/
namespace DL
open PySem PySem.Spec L2 PyProof.Rows
section
variable {T : Cl} {X : Cx} {E : XK} {k c : Nat} {f : Addr} {s : DSp}
/-- each two objects are told to be equal, and nothing else happens -/
@[simp] def rxEqs (c : Nat) (s : DSp) : RX2 := fun x y μ P _ => match x, y with
  | .tupp xs, .tupp ys => xs.length = ys.length ∧ (∀ (i : Nat) (a b : D), xs[i]? = some a → ys[i]? = some b → ∃ fs gs, a = .ins c fs ∧ b = .ins c gs ∧ s [a, b] μ (fun d μ' => d = .bl true ∧ μ' = μ) (fun _ _ => False)) ∧ P (.bl true) μ
  | _, _ => False
theorem ox_eqs (hs : PySem.W.findIn X.K (.ref (T.cls c)) "__eq__" = some (some (.ref f))) (hf : PySem.W.isFn X.K (.ref f) = true) (F : FD T X.prog X.w X.K X.mg X.base k f s) (hr : Room (k + 1) X.A) (hx : Passes (L2.CX X.prog X.w) X E) : OpX T X E (compareOp .Eq) (rxEqs c s) := by
  intro pins sh σ H x y v u Q I rx ry ⟨A, μ, d, e, P, PX, rl, px, py, q, kv, kx⟩
  cases d with
  | tupp xs =>
    cases e with
    | tupp ys =>
      obtain ⟨hl, hq, hP⟩ := q
      cases px with
      | @tupp a vx _ ha qx =>
        cases py with
        | @tupp b vy _ hb qy =>
          cases rx
          cases ry
          obtain ⟨its, rv, tp, z⟩ := I.tuple (.inl (.inl ha))
          obtain ⟨its2, rv2, tp2, z2⟩ := I.tuple (.inl (.inl hb))
          have hsz : its.toArray.size = its2.toArray.size := by rw [List.size_toArray, List.size_toArray, ← rv.length, ← rv2.length, qx.length, qy.length]; exact hl
          show wpAny _ _ (richCompare .Eq (.ref a) (.ref b)) _ _ _
          refine GQ.rc_tupG hsz hr.units0 (fun _ s' => ∃ A1 H1, Ext A H A1 H1 ∧ Rl T X.K A1 H1 μ ∧ L2.Inv X pins σ H1 s') tp tp2 (fun i h1 h2 s' z => ?_) (fun s' z => ?_) ⟨A, H, .refl _ _, rl, I⟩
          · obtain ⟨A1, H1, x1, r1, I1⟩ := z
            have k1 : i < vx.length := by rw [rv.length]; simpa using h1
            have k2 : i < vy.length := by rw [rv2.length]; simpa using h2
            obtain ⟨w1, g1, ru1⟩ := rv.get (List.getElem?_eq_getElem k1)
            obtain ⟨w2, g2, ru2⟩ := rv2.get (List.getElem?_eq_getElem k2)
            have e1 : its.toArray[i] = w1 := by
              have h1' : i < its.length := by simpa using h1
              rw [List.getElem?_eq_getElem h1'] at g1
              simpa using g1
            have e2 : its2.toArray[i] = w2 := by
              have h2' : i < its2.length := by simpa using h2
              rw [List.getElem?_eq_getElem h2'] at g2
              simpa using g2
            rw [e1, e2]
            obtain ⟨d1, f1, p1⟩ := (qx.mono rl x1).get' (List.getElem?_eq_getElem k1)
            obtain ⟨d2, f2, p2⟩ := (qy.mono rl x1).get' (List.getElem?_eq_getElem k2)
            obtain ⟨fs, gs, rfl, rfl, hsp⟩ := hq i _ _ f1 f2
            obtain ⟨a1, ox, od, ea, J, _⟩ := ins_view I1 p1
            obtain ⟨a2, ox2, od2, eb, J2, _⟩ := ins_view I1 p2
            rw [ea] at ru1 p1
            rw [eb] at ru2 p2
            cases ru1
            cases ru2
            by_cases hab : a1 = a2
            · subst hab
              exact SeqAt.EqAt.same (A := X.A.in1) (s := s') (.ref a1) X.prog X.w X.xe _ ⟨rfl, A1, H1, x1, r1, I1⟩
            · refine GQ.eqBool_refG hab ?_
              obtain ⟨m, hF⟩ := I1.fr
              refine PySem.W.cmp_K (op := .Eq) (tb := .ref (T.cls c)) (by have := hr.un; show X.A.units + 1 < cLine; omega) hF I1.ok.mod.kin J J2.type (by simp [PySem.W.notFirst]) hs hf (wpAny_call ?_)
              refine codeAny_mono (F X.A.in1 X.stack s' H1 _ [.ref a1, .ref a2] (fun v H2 => v = .bl true ∧ ∃ A2, Ext A1 H1 A2 H2 ∧ Rl T X.K A2 H2 μ) E hr.in1 I1.env0.in1 (.cons rfl (.cons rfl .nil)) ⟨A1, μ, _, _, _, r1, .cons p1 (.cons p2 .nil), hsp, fun d' μ' A' v H' x2 r2 p3 h3 => ?_, fun _ _ _ _ _ _ _ _ _ z => z.elim⟩) fun z s2 hz => ?_
              · obtain ⟨rfl, rfl⟩ := h3
                cases p3
                exact ⟨rfl, A', x2, r2⟩
              · cases z with
                | error e => exact hx pins σ H1 s' e s2 I1 hz
                | ok fl =>
                  cases fl with
                  | ret w =>
                    obtain ⟨v', H2, I2, rz, ez, A2, x2, r2⟩ := I1.after hz
                    subst ez
                    cases rz
                    exact ⟨true, rfl, rfl, A2, H2, x1.tr r1 x2, r2, I2⟩
                  | next => exact False.elim hz
                  | brk => exact False.elim hz
                  | cont => exact False.elim hz
          · obtain ⟨A1, H1, x1, r1, I1⟩ := z
            exact ⟨.bl true, H1, I1, rfl, kv _ _ _ _ _ x1 r1 (.bl true) hP⟩
    | _ => exact q.elim
  | _ => cases e <;> exact q.elim
end
end DL

namespace DL
open PySem PySem.Spec L2 PyProof.Rows
open Sem (wp)
/-! enumerate(a tuple) -/
/-- the tuple at a, each item in a new pair -/
def IteT (K : PySem.W.Frag) (a : Addr) : It :=
  ⟨fun i H => ∃ (xs : List V) (x : V), SqT K H a xs ∧ xs[i]? = some x, fun i H v H' => ∃ T x, v = .ref T ∧ H T = none ∧ H' = upd H T (.tup [.int (i : Nat), x]) ∧ ∀ xs, SqT K H a xs → xs[i]? = some x, fun i H => ∃ xs : List V, SqT K H a xs ∧ xs.length ≤ i⟩
theorem turn_enumT {P : Program} {w : World} {K : PySem.W.Frag} {elts : List Expr} {kk : Nat} {tpos : Pos} (a e it : Addr) :
    Turn P w K (.Tuple elts kk tpos) (IteT K a) [e, it] e (fun i h => (∃ old, IsEnum h e it ((i : Nat) : Int) old) ∧ h.IsTupleIter it a i ∧ e ≠ it ∧ e ≠ a ∧ a ≠ it) where
  mem := by simp
  obj := fun i h st b hb => by
    obtain ⟨⟨old, he⟩, ⟨o, ho, hc, hd⟩, _⟩ := st
    have e' : b = e ∨ b = it := by simpa using hb
    rcases e' with z | z
    · rw [z]; exact ⟨_, he, fun v q => nomatch q⟩
    · rw [z]; exact ⟨o, ho, fun v q => by rw [hd] at q; cases q⟩
  keep := fun i h h' st k => let ⟨⟨old, he⟩, hi, hne⟩ := st; ⟨⟨old, k e (by simp) _ he⟩, hi.at fun o q => k it (by simp) o q, hne⟩
  item := by
    intro X hP hw hK hc i pins s σ H E I hf st hg
    subst hP hw hK
    obtain ⟨⟨old, he⟩, hit, hne, hea, hai⟩ := st
    obtain ⟨xs, x, hq, hx⟩ := hg
    obtain ⟨its, rv, p, hz⟩ := I.tuple hq
    obtain ⟨u, hu, ru⟩ := rv.get hx
    have hel : e < s.heap.objs.size := Heap.lt_size he
    have hil : it < s.heap.objs.size := by obtain ⟨_, q, _⟩ := hit; exact Heap.lt_size q
    have D := Draws.tuple (prog := X.prog) (w := X.w) (A := X.A.in1) (I.ok.hd hc) it a hai its.toArray
    have hlt : i < its.toArray.size := by
      have := (List.getElem?_eq_some_iff.mp hu).1
      simpa using this
    refine wpAny_pyNext_enum_itemC D he ⟨hit, p⟩ hlt hne (fun q => by
      have e' : e = it ∨ e = a := by simpa using q
      exact e'.elim hne hea) fun u' h' tk hP ho hs' hT hsz hk => ?_
    have : u' = u := by
      have hP' : its.toArray[i]? = some u' := hP
      have hu' : its.toArray[i]? = some u := by simpa using hu
      rw [hu'] at hP'
      exact (Option.some.inj hP').symm
    subst this
    refine ⟨_, rfl, wpAny_letOwnedTupleGo_enum (s := { s with heap := h', toks := tk + 1 }) ho fun h'' he' sb => ?_⟩
    have hT2 : h''.get? s.heap.objs.size = some { cls := .type "tuple", data := .seq #[.int i tk, u'] } := (sb.2 _ (Nat.ne_of_gt hel)).trans hT
    have new : ObjOk X.prog X.w (upd H s.heap.objs.size (.tup [.int (i : Nat), x])) h'' s.heap.objs.size (.tup [.int (i : Nat), x]) :=
      ⟨by show 2 ≤ sizeLine; decide, [.int i tk, u'], .cons ⟨_, rfl⟩ (.cons ru .nil), ⟨_, hT2, rfl, _, rfl⟩⟩
    have I1 : Inv X pins σ (upd H s.heap.objs.size (.tup [.int (i : Nat), x])) { s with heap := h'', toks := tk + 1 } :=
      I.turnedNew (ch := [e, it]) (fun b ob hb q => (sb.2 b (fun z => hb (by simp [z]))).trans (hk b ob (fun z => hb (by simp [z])) (fun z => hb (by simp [z])) q)) hf (Nat.le_refl _) new
    refine ⟨.ref s.heap.objs.size, _, I1, rfl, ⟨_, x, rfl, I.hok.fresh (Nat.le_refl _), rfl, fun ys hy => by rw [I.tuple_inj hy hq]; exact hx⟩, ⟨⟨u', ?_⟩, hs'.1.at fun o q => (sb.2 it (Ne.symm hne)).trans q, hne, hea, hai⟩, fun b hb => ?_⟩
    · have e1 : ((i + 1 : Nat) : Int) = (i : Int) + 1 := by omega
      rw [e1]; exact he'
    · have hb' : b < s.heap.objs.size := by
        have e' : b = e ∨ b = it := by simpa using hb
        rcases e' with z | z
        · rw [z]; exact hel
        · rw [z]; exact hil
      rw [upd_ne (Nat.ne_of_lt hb')]
      exact (hf b hb).1
  done := by
    intro X hP hw hK hc i pins s σ H E I hf st hg
    subst hP hw hK
    obtain ⟨⟨old, he⟩, hit, hne, hea, hai⟩ := st
    obtain ⟨xs, hq, hx⟩ := hg
    obtain ⟨its, rv, p, hz⟩ := I.tuple hq
    obtain ⟨f0, f1, f2, f3, f4, f5⟩ := hf it (by simp)
    have hl := rv.length
    unfold pyNext
    refine wpAny_bind (wpAny_attempt (wpAny_callSpecial?_slot (name := Str.ofString "__next__") ⟨_, he, rfl⟩ F.slot_enumerate_next
      (wpAny_call_entry F.slot_enumerate_next ⟨_, he, rfl⟩ F.entry_enumerate_next ?_ (F.args_enumerate_next_1 _))))
    show wpAny _ _ (field (.ref e) 2 >>= _) _ _ _
    refine wpAny_bind (wpAny_field he rfl (x := .ref it) rfl ?_)
    refine wpAny_bind (wpAny_nextOf_tuple_end (I.ok.hd hc) hit p (by simp; omega) fun h' x eb hx' => ?_)
    obtain ⟨o, ho, hc⟩ := hx'
    refine wpAny_bind (wpAny_isInstance (T := "StopIteration") (b := true) ⟨o, ho, hc⟩ isSubtype_stop ?_)
    exact wpAny_pure ⟨rfl, I.turned (t' := s.toks) (fun b o hb q => eb b o hb q) f0 f1 f3 f4 f5⟩
  self := fun A i s Q E st h => let ⟨⟨_, he⟩, _⟩ := st; wpAny_pyIter_enum he h
theorem meets_enumerate_newT {v : Value} {o : Obj} {H : Heap → Prop} (B : Begins v o H) :
    Meets (Builtin.«enumerate.__new__» ⟨[.type "enumerate", v], []⟩) (fun _ R s => H s.heap ∧
      R (.ok (.ret (.ref (s.heap.push o).objs.size))) { s with heap := (s.heap.push o).push { cls := .type "enumerate", data := .fields #[.none, .bool false, .ref s.heap.objs.size, rawInt 0, .none, .none] } }) :=
  .of_wp fun prog w A R s h => by
    obtain ⟨hp, g, d, tk, os⟩ := s; obtain ⟨h1, h⟩ := h
    have hsub := sub_enumerate
    have q1 : ∀ {A' : Around} {E : Value → Shared → Prop} {Q : Value → Shared → Prop}, Q (.ref hp.objs.size) ⟨hp.push o, g, d, tk, os⟩ → wpAny (model prog w) A' (pyIter v) Q E ⟨hp, g, d, tk, os⟩ :=
      fun q => B.iter prog w _ _ ⟨hp, g, d, tk, os⟩ _ h1 q
    wp_walk using q1
    refine wpAny_stack_any fun st => wpAny_pure ?_
    split
    · rename_i c _ _ _ _ _
      cases (c == Value.type "enumerate")
      · wp_walk using q1
        exact ⟨_, rfl, h⟩
      · wp_walk using q1
        exact ⟨_, rfl, h⟩
    · wp_walk using q1
      exact ⟨_, rfl, h⟩
theorem call_enumerate_tup {prog : Program} {w : World} {A : Around} {E : Value → Shared → Prop} {s : Shared} {t : Addr} {items : Array Value} {Q : Value → Shared → Prop} (hL : s.heap.IsTuple t items)
    (h : ∀ h', IsEnum h' (s.heap.objs.size + 1) s.heap.objs.size 0 .none → h'.IsTupleIter s.heap.objs.size t 0 → h'.objs.size = s.heap.objs.size + 2 →
      (∀ b o, s.heap.get? b = some o → h'.get? b = some o) → Q (.ref (s.heap.objs.size + 1)) { s with heap := h' }) :
    wpAny (model prog w) A (call (.type "enumerate") [.ref t]) Q E s := by
  refine callType_new F.called_enumerate (by decide) (F.typeCall_enumerate_1 _) (F.newCall_enumerate_1 _) (fun obj => F.args_object_init_2 obj _) F.entry_enumerate_new
    (meets_enumerate_newT (begins_tuple t items)) ⟨hL, ?_⟩
  have hz : (s.heap.push { cls := .type "tuple_iterator", data := .fields #[.ref t, .int 0 0] }).objs.size = s.heap.objs.size + 1 := Heap.size_push ..
  show _ ∧ _
  rw [hz]
  have he : IsEnum ((s.heap.push { cls := .type "tuple_iterator", data := .fields #[.ref t, .int 0 0] }).push
      { cls := .type "enumerate", data := .fields #[.none, .bool false, .ref s.heap.objs.size, rawInt 0, .none, .none] }) (s.heap.objs.size + 1) s.heap.objs.size 0 .none := by
    have := Heap.get?_push_size (s.heap.push { cls := .type "tuple_iterator", data := .fields #[.ref t, .int 0 0] })
      (o := { cls := .type "enumerate", data := .fields #[.none, .bool false, .ref s.heap.objs.size, rawInt 0, .none, .none] }) rfl
    rw [hz] at this; exact this
  refine ⟨⟨_, he, rfl⟩, h _ he ⟨_, Heap.get?_push_of_some _ (Heap.get?_push_size _ rfl), rfl, rfl⟩ (by rw [Heap.size_push, hz]) fun b o x => Heap.get?_push_of_some _ (Heap.get?_push_of_some _ x)⟩
def iEnumT (K : PySem.W.Frag) (ta : TA) : TI := fun σ H R => ta σ H fun vs H1 => ∃ a xs, vs = [.ref a] ∧ SqT K H1 a xs ∧ R (IteT K a) H1
theorem pi_enumT {X : Cx} {e : Expr} {ta : TA} {p pos tpos : Pos} {elts : List Expr} {kk : Nat} (hg : Gl X "enumerate") (hm : X.mg "enumerate" = none) (ha : PA X [e] ta) (hs : starEach [e] X.env = [(false, eval e X.env)] := by rfl) :
    PI X (.Tuple elts kk tpos) (.Call (.Name "enumerate" p) [e] [] pos) (iEnumT X.K ta) := by
  refine ⟨fun pins s σ H R I h => ?_⟩
  refine Call_ (ld_blt I hg hm boot_enumerate (PyProof.Rows.callWith_type1 (thn (ha.run pos pins s σ H _ I h) fun us s1 ⟨vs, H1, I1, r1, q1⟩ => ?_) hs rfl))
  obtain ⟨a, xs, ex, hq, q⟩ := q1
  subst ex
  cases r1 with
  | cons r rr =>
    cases rr
    cases r
    obtain ⟨its, rv, p', hz⟩ := I1.tuple hq
    have hal : a < s1.heap.objs.size := by obtain ⟨_, q, _⟩ := p'; exact Heap.lt_size q
    refine call_enumerate_tup p' fun h' he hit hsz hk => wpAny_pyIter_enum he ?_
    have I2 : Inv X pins σ H1 { s1 with heap := h' } := I1.kept (t' := s1.toks) hk
    refine ⟨s1.heap.objs.size + 1, [s1.heap.objs.size + 1, s1.heap.objs.size], _, _, H1, rfl, I2, turn_enumT a (s1.heap.objs.size + 1) s1.heap.objs.size, ⟨⟨.none, he⟩, hit, Nat.succ_ne_self _, Nat.ne_of_gt (Nat.lt_succ_of_lt hal), Nat.ne_of_lt hal⟩, fun b hb => ?_, q⟩
    have e' : b = s1.heap.objs.size + 1 ∨ b = s1.heap.objs.size := by simpa using hb
    have hle : s1.heap.objs.size ≤ b := by
      rcases e' with z | z
      · rw [z]; exact Nat.le_add_right _ _
      · rw [z]; exact Nat.le_refl _
    exact I1.fpOk hle (I1.hok.fresh hle)
section
variable {T : Cl} {X : Cx} {W : WX} {e tg : Expr} {t : TDA} {pos : Pos}
theorem walk_enumT {K : PySem.W.Frag} {a : Addr} {xs : List V} : Walk (IteT K a) xs.length (fun H => SqT K H a xs) (YPair (fun i => some (.int (i : Nat))) (fun i => xs[i]?)) := by
  refine ⟨fun i _ hi q => ⟨xs, xs[i], q, by simp [hi]⟩, fun _ q => ⟨xs, q, Nat.le_refl _⟩, fun i H v H' _ q y => ?_⟩
  obtain ⟨T, x, h1, h2, h3, h4⟩ := y
  exact ⟨T, _, x, h1, h2, h3, rfl, h4 xs q⟩
@[simp] def enKT (P : List D → (Mu → Prop) → Mu → Prop) : List D → Mu → Prop := fun ds μ => match ds with
  | [d] => match tupOf d with | some xs => P (enumD xs) (fun _ => True) μ | none => False
  | _ => False
@[simp] def tdiEnT (t : TDA) : TDI := fun ρ μ P PX => t ρ μ (enKT P) PX
theorem pdi_enumT {p tpos : Pos} {elts : List Expr} {kk : Nat} (hg : Gl X "enumerate") (hm : X.mg "enumerate" = none) (ha : PDA T X W [e] t) (hs : starEach [e] X.env = [(false, eval e X.env)] := by rfl) :
    PDI T X W (.Tuple elts kk tpos) (.Call (.Name "enumerate" p) [e] [] pos) (tdiEnT t) :=
  ⟨PI.mono (pi_enumT hg hm ha.run hs) fun σ H R ⟨A, μ, ρ, P, PX, rl, re, q, k, kx⟩ => ⟨A, μ, ρ, _, PX, rl, re, q, fun ds μ1 A1 vs H1 x1 r1 p1 h1 => by
    unfold enKT at h1
    split at h1
    · rename_i d
      split at h1
      · rename_i xs hd
        obtain ⟨v, rfl, pv⟩ := reps1 p1
        obtain ⟨a, ws, rfl, h2, qs⟩ := tupOf_view pv hd
        refine ⟨a, ws, rfl, h2, k _ _ _ _ _ _ x1 r1 ⟨fun H => SqT X.K H a ws, _, by rw [enumD_length, ← qs.length]; exact walk_enumT, fun A' μ' H' x2 r2 _ => ?_, fun A' μ' H' i x H2 x2 r2 _ hi y => ?_⟩ h1⟩
        · rcases h2 with (h2 | ⟨o, h2⟩) | h2
          · exact .inl (.inl (x2.keep _ _ (r1.ntup h2) nofun h2))
          · exact .inl (.inr ⟨o, x2.keep _ _ (r1.nfrz h2) nofun h2⟩)
          · exact .inr h2
        obtain ⟨TT, u, v, rfl, hT, rfl, g3, g4⟩ := y
        cases g3
        obtain ⟨d2, d2e, d2r⟩ := (qs.mono r1 x2).get' g4
        have sm : Same H' (upd H' TT (.tup [.int (i : Nat), v])) := same_upd hT
        exact ⟨_, enumD_get d2e, sm, .tupw (.inl (.inl upd_same)) (.cons (.int _) (.cons (d2r.mono r2 (.same sm)) .nil))⟩
      · exact h1.elim
    · exact h1.elim, kx⟩⟩
end
end DL

namespace P46
open PySem PySem.Spec L2 DL PyProof.Rows DB
def top (i : Nat) : Stmt := PySem.Challenge.pw_piecetables_k46_whole_steps_or_a_knot.main.body.getD i (.Pass ⟨0, 0, 0, 0⟩)
def J : Tg → Tg → Option Bool
  | .ty a, .ty b => if a = "int" ∧ b = "int" then some true else if a = "tuple" ∧ b = "tuple" then some true else if a = "int" ∧ b = "bool" then some false else none
  | _, _ => none
/-- where things stand -/
structure Ad where
  (law_cell_at law_pen law_draw law_group law_groups law_scheme is_integer is_between is_ascending is_group is_scheme check_scheme are_together is_shell is_ring ring_of sets_below knot are_integers shows_knot is_step shows_steps first_step steps law_right law : Addr)
  (mc_Report : Value)
structure G (T : Cl) (K : PySem.W.Frag) (mg : Str → Option Value) (a : Ad) : Prop where
  isi : IsiT T K J
  b_all : mg "all" = none
  b_any : mg "any" = none
  b_bool : mg "bool" = none
  b_int : mg "int" = none
  b_isinstance : mg "isinstance" = none
  b_len : mg "len" = none
  b_list : mg "list" = none
  b_max : mg "max" = none
  b_min : mg "min" = none
  b_range : mg "range" = none
  b_sorted : mg "sorted" = none
  b_tuple : mg "tuple" = none
  m_law_cell_at : mg "_law_cell_at" = some (.ref a.law_cell_at)
  k_law_cell_at : PySem.W.keepIn K (.ref a.law_cell_at) = true
  m_law_pen : mg "_law_pen" = some (.ref a.law_pen)
  k_law_pen : PySem.W.keepIn K (.ref a.law_pen) = true
  m_law_draw : mg "_law_draw" = some (.ref a.law_draw)
  k_law_draw : PySem.W.keepIn K (.ref a.law_draw) = true
  m_law_group : mg "_law_group" = some (.ref a.law_group)
  k_law_group : PySem.W.keepIn K (.ref a.law_group) = true
  m_law_groups : mg "_law_groups" = some (.ref a.law_groups)
  k_law_groups : PySem.W.keepIn K (.ref a.law_groups) = true
  m_law_scheme : mg "_law_scheme" = some (.ref a.law_scheme)
  k_law_scheme : PySem.W.keepIn K (.ref a.law_scheme) = true
  m_is_integer : mg "is_integer" = some (.ref a.is_integer)
  k_is_integer : PySem.W.keepIn K (.ref a.is_integer) = true
  m_is_between : mg "is_between" = some (.ref a.is_between)
  k_is_between : PySem.W.keepIn K (.ref a.is_between) = true
  m_is_ascending : mg "is_ascending" = some (.ref a.is_ascending)
  k_is_ascending : PySem.W.keepIn K (.ref a.is_ascending) = true
  m_is_group : mg "is_group" = some (.ref a.is_group)
  k_is_group : PySem.W.keepIn K (.ref a.is_group) = true
  m_is_scheme : mg "is_scheme" = some (.ref a.is_scheme)
  k_is_scheme : PySem.W.keepIn K (.ref a.is_scheme) = true
  m_check_scheme : mg "check_scheme" = some (.ref a.check_scheme)
  k_check_scheme : PySem.W.keepIn K (.ref a.check_scheme) = true
  m_are_together : mg "are_together" = some (.ref a.are_together)
  k_are_together : PySem.W.keepIn K (.ref a.are_together) = true
  m_is_shell : mg "is_shell" = some (.ref a.is_shell)
  k_is_shell : PySem.W.keepIn K (.ref a.is_shell) = true
  m_is_ring : mg "is_ring" = some (.ref a.is_ring)
  k_is_ring : PySem.W.keepIn K (.ref a.is_ring) = true
  m_ring_of : mg "ring_of" = some (.ref a.ring_of)
  k_ring_of : PySem.W.keepIn K (.ref a.ring_of) = true
  m_sets_below : mg "sets_below" = some (.ref a.sets_below)
  k_sets_below : PySem.W.keepIn K (.ref a.sets_below) = true
  m_knot : mg "knot" = some (.ref a.knot)
  k_knot : PySem.W.keepIn K (.ref a.knot) = true
  m_are_integers : mg "are_integers" = some (.ref a.are_integers)
  k_are_integers : PySem.W.keepIn K (.ref a.are_integers) = true
  m_shows_knot : mg "shows_knot" = some (.ref a.shows_knot)
  k_shows_knot : PySem.W.keepIn K (.ref a.shows_knot) = true
  m_is_step : mg "is_step" = some (.ref a.is_step)
  k_is_step : PySem.W.keepIn K (.ref a.is_step) = true
  m_shows_steps : mg "shows_steps" = some (.ref a.shows_steps)
  k_shows_steps : PySem.W.keepIn K (.ref a.shows_steps) = true
  m_first_step : mg "first_step" = some (.ref a.first_step)
  k_first_step : PySem.W.keepIn K (.ref a.first_step) = true
  m_steps : mg "steps" = some (.ref a.steps)
  k_steps : PySem.W.keepIn K (.ref a.steps) = true
  m_law_right : mg "_law_right" = some (.ref a.law_right)
  k_law_right : PySem.W.keepIn K (.ref a.law_right) = true
  m_law : mg "law" = some (.ref a.law)
  k_law : PySem.W.keepIn K (.ref a.law) = true
  m_Report : mg "Report" = some (.ref (T.cls 1))
  nm_Report : T.nm 1 = [("_many" : Str), ("_pieces" : Str), ("_total" : Str), ("_scheme" : Str)]
  cr_Report : ClX.CRead K (T.cls 1) a.mc_Report
  cv_Report_LIMIT : ∃ t, ClX.CVal K (T.cls 1) a.mc_Report "LIMIT" (.int 5) (.int 5 t)
def s_law_right : DSp := fun ds μ Q _ => ∃ m x b c, ds = [.mu m] ∧ μ[m]? = some (penD x b c) ∧ isPen x b c ∧ c < 60000 ∧ ∀ x' c', isPen x' b c' → c' ≤ c + 100 → Q (.bl true) (μ.set m (penD x' b c'))
section
variable {T : Cl} {P : Program} {w : World} {K : PySem.W.Frag} {mg : Str → Option Value} {base : Heap} {a : Ad}
end
end P46

namespace P46
open PySem PySem.Spec L2 DL PyProof.Rows DB
section
variable {T : Cl} {P : Program} {w : World} {K : PySem.W.Frag} {mg : Str → Option Value} {base : Heap} {a : Ad} {f : Addr} {fd : FuncData}
theorem sc_law_cell_at : FnScope ["_law_script", "_law_k"] ["_law_script", "_law_k"] (defScope (top 63)) := ⟨rfl, rfl, rfl, by decide +kernel, rfl, by decide +kernel, by decide +kernel⟩
theorem ok_law_cell_at (F : Fun K "_law_cell_at" "_law_cell_at" (top 63) f fd) (g : G T K mg a) : FnOk P w K mg base (L2.CX P w) 1 f fd ["_law_script", "_law_k"] (spD T K s_law_cell_at) := by
  have S := sc_law_cell_at
  refine fd_okN F S (by decide) (fun cdv A outer sh H E hr => (pdb_cons (pds_if (pdt_cmp od_lt (pd_var 1) (pd_callB cd_len rfl g.b_len boot_len (pda_cons (pd_var 0) pda_nil))) (pdb_one (pds_ret (pd_ix (pd_var 0) (pd_var 1)))) pdb_nil)
      (pdb_one (pds_ret pd_int)))) (fun ds μ Q PX h => ?_) (fun ds μ Q PX h => ?_)
  · obtain ⟨ns, k, rfl, _⟩ := h; rfl
  · obtain ⟨ns, k, rfl, h0, h1, h⟩ := h
    simp
    by_cases h2 : k < (ns.length : Int)
    · rw [if_pos h2]
      rw [atI_int (j := k.toNat) (by omega) (by omega)]
      exact .inl (h _)
    · rw [if_neg h2]
      exact .inl (h _)
end
end P46

namespace P46
open PySem PySem.Spec L2 DL PyProof.Rows DB
section
variable {T : Cl} {P : Program} {w : World} {K : PySem.W.Frag} {mg : Str → Option Value} {base : Heap} {a : Ad} {f : Addr} {fd : FuncData}
theorem sc_law_pen : FnScope ["_law_cell"] ["_law_cell"] (defScope (top 64)) := ⟨rfl, rfl, rfl, by decide +kernel, rfl, by decide +kernel, by decide +kernel⟩
theorem ok_law_pen (F : Fun K "_law_pen" "_law_pen" (top 64) f fd) (g : G T K mg a) : FnOk P w K mg base (L2.CX P w) 1 f fd ["_law_cell"] (spD T K s_law_pen) := by
  have S := sc_law_pen
  refine fd_okN F S (by decide) (fun cdv A outer sh H E hr => (pdb_one (pds_ret (pd_mu (pf_lst (pda_cons (pd_callB (cd_max rfl hr) rfl g.b_max boot_max (pda_cons pd_int (pda_cons (pd_op od_sub (pd_var 0) (pd_op od_pow pd_int pd_int)) pda_nil))) (pda_cons (pd_op od_mod (pd_var 0) pd_int) (pda_cons pd_int pda_nil)))))))) (fun ds μ Q PX h => ?_) (fun ds μ Q PX h => ?_)
  · obtain ⟨i, rfl, _⟩ := h; rfl
  · obtain ⟨i, rfl, h⟩ := h
    simp
    refine ⟨⟨by decide, by decide, by decide⟩, .inl (h _ _ ⟨?_, by omega, by omega, by decide, by decide⟩)⟩
    split <;> omega
end
end P46

namespace P46
open PySem PySem.Spec L2 DL PyProof.Rows DB
section
variable {T : Cl} {P : Program} {w : World} {K : PySem.W.Frag} {mg : Str → Option Value} {base : Heap} {a : Ad} {f : Addr} {fd : FuncData}
theorem sc_law_draw : FnScope ["_law_pen_here", "_law_count", "_law_digit", "_law_stir"] ["_law_pen_here", "_law_count"] (defScope (top 65)) := ⟨rfl, rfl, rfl, by decide +kernel, rfl, by decide +kernel, by decide +kernel⟩
theorem ok_law_draw (F : Fun K "_law_draw" "_law_draw" (top 65) f fd) (g : G T K mg a) : FnOk P w K mg base (L2.CX P w) 1 f fd ["_law_pen_here", "_law_count"] (spD T K s_law_draw) := by
  have S := sc_law_draw
  refine fd_okN F S (by decide) (fun cdv A outer sh H E hr => (pdb_cons (pds_if (pdt_cmp od_gt (pd_ix (pd_var 0) pd_int) pd_int) (pdb_cons (pds_set 2 S.nd rfl (by first | exact .inl rfl | exact .inr rfl) (pd_op od_mod (pd_ix (pd_var 0) pd_int) (pd_var 1)))
      (pdb_cons (pds_asg (pd_op od_div (pd_ix (pd_var 0) pd_int) (pd_var 1)) (pdg_sub (pd_var 0) pd_int))
      (pdb_one (pds_ret (pd_var 2))))) pdb_nil)
      (pdb_cons (pds_asg (pd_op od_add (pd_ix (pd_var 0) pd_int) pd_int) (pdg_sub (pd_var 0) pd_int))
      (pdb_cons (pds_set 3 S.nd rfl (by first | exact .inl rfl | exact .inr rfl) (pd_op od_mod (pd_op od_mul (pd_op od_add (pd_ix (pd_var 0) pd_int) (pd_op od_mul pd_int (pd_ix (pd_var 0) pd_int))) (pd_op od_add pd_int (pd_op od_mul pd_int (pd_ix (pd_var 0) pd_int)))) pd_int))
      (pdb_cons (pds_set 3 S.nd rfl (by first | exact .inl rfl | exact .inr rfl) (pd_op od_mod (pd_op od_add (pd_op od_add (pd_op od_mul (pd_var 3) (pd_var 3)) (pd_op od_mul pd_int (pd_ix (pd_var 0) pd_int))) pd_int) pd_int))
      (pdb_one (pds_ret (pd_op od_mod (pd_op od_div (pd_op od_mod (pd_op od_mul (pd_var 3) pd_int) pd_int) pd_int) (pd_var 1))))))))) (fun ds μ Q PX h => ?_) (fun ds μ Q PX h => ?_)
  · obtain ⟨m, n, x, b, c, rfl, _⟩ := h; rfl
  · obtain ⟨m, n, x, b, c, rfl, h1, h2, hm, hp, hc, h⟩ := h
    have hl := (List.getElem?_eq_some_iff.mp hm).1
    have e0 : ∀ x y z : D, atI [x, y, z] 0 = some x := fun _ _ _ => rfl
    have e1 : ∀ x y z : D, atI [x, y, z] 1 = some y := fun _ _ _ => rfl
    have e2 : ∀ x y z : D, atI [x, y, z] 2 = some z := fun _ _ _ => rfl
    have f0 : ixN 3 0 = some 0 := rfl
    have f2 : ixN 3 2 = some 2 := rfl
    obtain ⟨p1, p2, p3, p4, p5⟩ := hp
    simp [hm, penD, e0, e1, e2, f0, f2, List.getElem?_set_self hl]
    by_cases hx : 0 < x
    · rw [if_pos hx]
      refine ⟨by omega, ⟨by omega, by omega⟩, .inl (h _ _ _ (Int.emod_nonneg _ (by omega)) (Int.emod_lt_of_pos _ (by omega)) ⟨Int.ediv_nonneg p1 (by omega), p2, p3, p4, p5⟩ (by omega))⟩
    · rw [if_neg hx]
      refine ⟨.inl ⟨by omega, by omega⟩, .inl ⟨by omega, by omega⟩, .inr ⟨by omega, by omega⟩, .inl ⟨by omega, by omega⟩, .inl ⟨by omega, by omega⟩, .inr ⟨by omega, by omega⟩, ⟨by omega, by omega⟩, by omega, .inl ?_⟩
      exact h _ _ _ (Int.emod_nonneg _ (by omega)) (Int.emod_lt_of_pos _ (by omega)) ⟨p1, p2, p3, by omega, by omega⟩ (by omega)
end
end P46

namespace P46
open PySem PySem.Spec L2 DL PyProof.Rows DB
theorem eraseIdx_map {α β : Type} (f : α → β) (l : List α) (i : Nat) : (l.map f).eraseIdx i = (l.eraseIdx i).map f := by
  simp [List.eraseIdx_eq_take_drop_succ]
section
variable {T : Cl} {P : Program} {w : World} {K : PySem.W.Frag} {mg : Str → Option Value} {base : Heap} {a : Ad} {f : Addr} {fd : FuncData}
theorem sc_law_group : FnScope ["_law_pen_here", "_law_many", "_law_rest", "_law_turn"] ["_law_pen_here", "_law_many"] (defScope (top 66)) := ⟨rfl, rfl, rfl, by decide +kernel, rfl, by decide +kernel, by decide +kernel⟩
theorem ok_law_group (F : Fun K "_law_group" "_law_group" (top 66) f fd) (g : G T K mg a) (F_law_draw : FD T P w K mg base 1 a.law_draw s_law_draw) : FnOk P w K mg base (L2.CX P w) 3 f fd ["_law_pen_here", "_law_many"] (spD T K s_law_group) := by
  have S := sc_law_group
  refine fd_okN F S (by decide) (fun cdv A outer sh H E hr => (pdb_cons (pds_set 2 S.nd rfl (by first | exact .inl rfl | exact .inr rfl) (pd_mu (pf_listR1 rfl rfl g.b_list rfl g.b_range (pd_var 1))))
      (pdb_cons (pds_for (passes_of rfl) rfl (pdi_range1 rfl g.b_range (pda_cons (pd_op od_sub (pd_op od_sub (pd_var 1) pd_int) (pd_callR (FD.at_ F_law_draw (hr.mono (by decide)) passL) g.k_law_draw rfl g.m_law_draw (pda_cons (pd_var 0) (pda_cons (pd_callB (cd_min rfl hr) rfl g.b_min boot_min (pda_cons pd_int (pda_cons (pd_var 1) pda_nil))) pda_nil)))) pda_nil)) (pdg_name 3 S.nd rfl (by first | exact .inl rfl | exact .inr rfl)) (pdb_one (pds_expr (pd_popAt (pd_var 2) (pda_cons (pd_callR (FD.at_ F_law_draw (hr.mono (by decide)) passL) g.k_law_draw rfl g.m_law_draw (pda_cons (pd_var 0) (pda_cons (pd_callB cd_len rfl g.b_len boot_len (pda_cons (pd_var 2) pda_nil)) pda_nil))) pda_nil)))))
      (pdb_one (pds_ret (pd_callTy cd_tuple rfl g.b_tuple boot_tuple (pda_cons (pd_var 2) pda_nil))))))) (fun ds μ Q PX h => ?_) (fun ds μ Q PX h => ?_)
  · obtain ⟨m, n, x, b, c, rfl, _⟩ := h; rfl
  · obtain ⟨m, n, x, b, c, rfl, h1, h5, hm, hp, hc, h⟩ := h
    have hl := mu_lt hm
    simp [ranD_nums]
    refine ⟨by omega, by omega, ?_⟩
    refine ⟨m, _, x, b, c, rfl, ?_, ?_, mu_app hm _, hp, by omega, fun r x1 c1 hr0 hr3 hp1 hc1 => ?_⟩
    · split <;> omega
    · split <;> omega
    have hr3' : r < 3 ∧ r < n := by split at hr3 <;> omega
    rw [List.set_append_left _ _ hl]
    refine ⟨by omega, by omega, ?_⟩
    refine forGo_inv D.int _ (fun i ρ μ' => ∃ x' c' v, ∃ l : List Int, ρ = [some (.mu m), some (.int n), some (.mu μ.length), v] ∧ μ' = μ.set m (penD x' b c') ++ [.lst (l.map D.int)] ∧ isPen x' b c' ∧ c' ≤ c + 1 + (i : Nat) ∧ l.length + i = n.toNat ∧ l.Pairwise (· < ·) ∧ ∀ x ∈ l, 0 ≤ x ∧ x ≤ n - 1)
      (fun _ _ _ _ => trivial) (fun i y ρ μ' N hi hI hN => ?_) (fun ρ μ' hI => ?_) ⟨x1, c1, none, numsI n.toNat, rfl, rfl, hp1, by omega, by simp [numsI], nums_asc _, fun x hx => ?_⟩
    · obtain ⟨x2, c2, v, l, rfl, rfl, hp2, hc2, hl2, hl3, hl4⟩ := hI
      have hi' := (List.getElem?_eq_some_iff.mp hi).1
      rw [show (numsI (n - 1 - r).toNat).length = (n - 1 - r).toNat by simp [numsI]] at hi'
      have hset : m < (μ.set m (penD x2 b c2)).length := by rw [List.length_set]; exact hl
      have e1 : (μ.set m (penD x2 b c2) ++ [MC.lst (l.map D.int)])[μ.length]? = some (.lst (l.map D.int)) := by
        rw [List.getElem?_append_right (by rw [List.length_set]; exact Nat.le_refl _)]
        simp
      simp
      refine ⟨m, l.length, x2, b, c2, rfl, by omega, by omega, by rw [List.getElem?_append_left hset, List.getElem?_set_self hl], hp2, by omega, fun r x3 c3 hr0 hrl hp3 hc3 => ?_⟩
      rw [List.set_append_left _ _ hset, List.set_set]
      have e2 : ∀ z, (μ.set m (penD x3 b c3) ++ [MC.lst z])[μ.length]? = some (.lst z) := fun z => by
        rw [List.getElem?_append_right (by rw [List.length_set]; exact Nat.le_refl _)]
        simp
      have e3 : seqIndex? r (l.map D.int).length = some r.toNat := by
        refine (ixN_seq (j := r.toNat) ?_).1
        unfold ixN
        rw [List.length_map, if_pos hr0, if_pos (by omega)]
      have e4 : (l.map D.int)[r.toNat]? = some (.int (l[r.toNat]'(by omega))) := by
        rw [List.getElem?_map, List.getElem?_eq_getElem (by omega)]
        rfl
      simp only [e2, e3, e4]
      refine ⟨by omega, by omega, ?_⟩
      refine hN _ _ ⟨x3, c3, some _, l.eraseIdx r.toNat, rfl, ?_, hp3, by omega, ?_, hl3.sublist (List.eraseIdx_sublist _ _), fun z hz => hl4 z ((List.eraseIdx_sublist _ _).mem hz)⟩
      · rw [List.set_append_right _ _ (by rw [List.length_set]; exact Nat.le_refl _)]
        simp [eraseIdx_map]
      · rw [List.length_eraseIdx, if_pos (by omega)]
        omega
    · obtain ⟨x2, c2, v, l, rfl, rfl, hp2, hc2, hl2, hl3, hl4⟩ := hI
      rw [show (numsI (n - 1 - r).toNat).length = (n - 1 - r).toNat by simp [numsI]] at hc2 hl2
      simp
      exact seal_gen [_] (List.length_set ..) (pen_sh hl) (closedAll_ints _ _) (h l x2 c2 ⟨by omega, by omega, hl4, hl3⟩ hp2 (by omega))
    · obtain ⟨k, hk, rfl⟩ := List.mem_map.mp hx
      rw [List.mem_range] at hk
      omega
end
end P46

namespace P46
open PySem PySem.Spec L2 DL PyProof.Rows DB
section
variable {T : Cl} {P : Program} {w : World} {K : PySem.W.Frag} {mg : Str → Option Value} {base : Heap} {a : Ad} {f : Addr} {fd : FuncData}
theorem sc_law_groups : FnScope ["_law_pen_here", "_law_many", "_law_way", "_law_count", "_law_found", "_law_turn", "_law_one"] ["_law_pen_here", "_law_many"] (defScope (top 67)) := ⟨rfl, rfl, rfl, by decide +kernel, rfl, by decide +kernel, by decide +kernel⟩
theorem ok_law_groups (F : Fun K "_law_groups" "_law_groups" (top 67) f fd) (g : G T K mg a) (F_law_draw : FD T P w K mg base 1 a.law_draw s_law_draw) (F_law_group : FD T P w K mg base 3 a.law_group s_law_group) : FnOk P w K mg base (L2.CX P w) 5 f fd ["_law_pen_here", "_law_many"] (spD T K s_law_groups) := by
  have S := sc_law_groups
  refine fd_okN F S (by decide) (fun cdv A outer sh H E hr => (pdb_cons (pds_par 2 3 rfl S.nd rfl rfl (by decide) rfl rfl (pda_cons (pd_callR (FD.at_ F_law_draw (hr.mono (by decide)) passL) g.k_law_draw rfl g.m_law_draw (pda_cons (pd_var 0) (pda_cons pd_int pda_nil))) (pda_cons (pd_op od_add pd_int (pd_callR (FD.at_ F_law_draw (hr.mono (by decide)) passL) g.k_law_draw rfl g.m_law_draw (pda_cons (pd_var 0) (pda_cons pd_int pda_nil)))) pda_nil)))
      (pdb_cons (pds_setLc 4 rfl S.nd rfl rfl (sw_true rfl rfl rfl (by decide +kernel)) (own := [("_law_turn", 5)]) (pdi_range1 rfl g.b_range (pda_cons (pd_var 3) pda_nil)) (blkOk_by (by rfl)) tg_name (fun _ _ _ _ _ => pg_name (i := 5) S.nd rfl (by first | exact .inl rfl | exact .inr rfl)) (fun _ _ _ _ _ => ptd_nil) (fun _ _ _ _ _ => (pd_callR (FD.at_ F_law_group (hr.mono (by decide)) passL) g.k_law_group rfl g.m_law_group (pda_cons (pd_var 0) (pda_cons (pd_var 1) pda_nil)))) fr_lift)
      (pdb_cons (pds_if (PDW.pt (pdw_and (pdt_cmp (od_eq hr) (pd_var 2) pd_int) (pdw_and1 (pdt_cmp od_gt (pd_var 1) pd_int)))) (pdb_one (pds_setLc 4 rfl S.nd rfl rfl (sw_true rfl rfl rfl (by decide +kernel)) (own := [("_law_one", 6)]) (pdi_range1 rfl g.b_range (pda_cons (pd_var 1) pda_nil)) (blkOk_by (by rfl)) tg_name (fun _ _ _ _ _ => pg_name (i := 6) S.nd rfl (by first | exact .inl rfl | exact .inr rfl)) (fun _ _ _ _ _ => ptd_nil) (fun _ _ _ _ _ => (pd_callTy cd_tuple rfl g.b_tuple boot_tuple (pda_cons (pd_fr (pf_callB (cf_sorted (lim := 4) hr (by decide)) rfl g.b_sorted boot_sorted (pda_cons (pd_fr (pf_lst (pda_cons (pd_var 6) (pda_cons (pd_op od_mod (pd_op od_add (pd_var 6) pd_int) (pd_var 1)) pda_nil)))) pda_nil))) pda_nil))) fr_lift)) pdb_nil)
      (pdb_cons (pds_if (PDW.pt (pdw_and (pdt_cmp (od_eq hr) (pd_var 2) pd_int) (pdw_and1 (pdt_cmp od_gt (pd_var 1) pd_int)))) (pdb_one (pds_setLc 4 rfl S.nd rfl rfl (sw_true rfl rfl rfl (by decide +kernel)) (own := [("_law_one", 6)]) (pdi_range1 rfl g.b_range (pda_cons (pd_op od_sub (pd_var 1) pd_int) pda_nil)) (blkOk_by (by rfl)) tg_name (fun _ _ _ _ _ => pg_name (i := 6) S.nd rfl (by first | exact .inl rfl | exact .inr rfl)) (fun _ _ _ _ _ => ptd_nil) (fun _ _ _ _ _ => (pd_tup (pda_cons (pd_var 6) (pda_cons (pd_op od_add (pd_var 6) pd_int) pda_nil)))) fr_lift)) pdb_nil)
      (pdb_cons (pds_if (PDW.pt (pdw_and (pdt_cmp (od_eq hr) (pd_var 2) pd_int) (pdw_and1 (pdt_cmp od_gt (pd_var 1) pd_int)))) (pdb_one (pds_set 4 S.nd rfl (by first | exact .inl rfl | exact .inr rfl) (pd_fr (pf_op of_cat (pd_fr (pf_lst (pda_cons (pd_tup (pda_cons pd_int (pda_cons pd_int pda_nil))) (pda_cons (pd_tup (pda_cons pd_int (pda_cons pd_int pda_nil))) (pda_cons (pd_tup (pda_cons pd_int (pda_cons pd_int pda_nil))) pda_nil))))) (pd_fr (pf_slice (pd_var 4) pdo_none (pdo_some pd_int))))))) pdb_nil)
      (pdb_cons (pds_if (PDW.pt (pdw_and (pdt_cmp (od_eq hr) (pd_var 2) pd_int) (pdw_and1 (pdt_cmp od_gt (pd_var 1) pd_int)))) (pdb_one (pds_set 4 S.nd rfl (by first | exact .inl rfl | exact .inr rfl) (pd_fr (pf_op of_cat (pd_fr (pf_lst (pda_cons (pd_tup (pda_cons pd_int (pda_cons pd_int (pda_cons pd_int pda_nil)))) (pda_cons (pd_tup (pda_cons pd_int (pda_cons pd_int (pda_cons pd_int pda_nil)))) (pda_cons (pd_tup (pda_cons pd_int (pda_cons pd_int (pda_cons pd_int pda_nil)))) (pda_cons (pd_tup (pda_cons pd_int (pda_cons pd_int (pda_cons pd_int pda_nil)))) pda_nil)))))) (pd_fr (pf_slice (pd_var 4) pdo_none (pdo_some pd_int))))))) pdb_nil)
      (pdb_one (pds_ret (pd_var 4)))))))))) (fun ds μ Q PX h => ?_) (fun ds μ Q PX h => ?_)
  · obtain ⟨m, n, x, b, c, rfl, _⟩ := h; rfl
  · obtain ⟨m, n, x, b, c, rfl, h1, h2, hm, hp, hc, h⟩ := h
    refine ⟨m, 5, x, b, c, rfl, by decide, by decide, hm, hp, by omega, fun r1 x1 c1 r10 r11 hp1 hc1 => ?_⟩
    have hml := mu_lt hm
    have gm : ∀ x' c', (μ.set m (penD x' b c'))[m]? = some (penD x' b c') := fun _ _ => List.getElem?_set_self hml
    refine ⟨m, 5, x1, b, c1, rfl, by decide, by decide, gm _ _, hp1, by omega, fun r2 x2 c2 r20 r21 hp2 hc2 => ?_⟩
    rw [List.set_set]
    simp
    refine ⟨by omega, by omega, ?_⟩
    unfold ranD
    refine lcGo_inv (fun i : Nat => D.int (0 + (i : Nat))) _ (fun i acc μ' => ∃ gs x' c', acc = gs.map tI ∧ gs.length = i ∧ (∀ g ∈ gs, isG g n) ∧ isPen x' b c' ∧ c' ≤ c2 + 10 * (i : Nat) ∧ μ' = μ.set m (penD x' b c')) (fun _ _ _ _ => trivial) (fun i y acc μ' N hi hI hN => ⟨_, rfl, ?_⟩) (fun acc μ' hI => ?_) ⟨[], x2, c2, rfl, rfl, by simp, hp2, by omega, rfl⟩
    · obtain ⟨gs, x3, c3, rfl, hl, hgs, hp3, hc3, rfl⟩ := hI
      have hi' := (List.getElem?_eq_some_iff.mp hi).1
      rw [List.length_range] at hi'
      refine ⟨m, n, x3, b, c3, rfl, h1, h2, gm _ _, hp3, by omega, fun g x4 c4 hg hp4 hc4 => ?_⟩
      rw [List.set_set]
      refine hN _ _ (by rw [List.length_map]; unfold sizeLine; omega) ⟨gs ++ [g], x4, c4, by simp, by simp [hl], fun z hz => ?_, hp4, by omega, rfl⟩
      rcases List.mem_append.mp hz with hz | hz
      · exact hgs z hz
      · rw [List.mem_singleton.mp hz]; exact hg
    · obtain ⟨gs, x3, c3, rfl, hl, hgs, hp3, hc3, rfl⟩ := hI
      rw [List.length_range] at hl hc3
      have fin : ∀ gs' : List (List Int), 1 ≤ gs'.length → gs'.length ≤ 5 → (∀ g ∈ gs', isG g n) → Seal μ Q (.lst (gs'.map tI)) (μ.set m (penD x3 b c3)) := fun gs' g1 g2 g3 => .inl (h gs' x3 c3 ⟨h1, h2, g1, g2, g3⟩ hp3 (by omega))
      have f0 := fin gs (by omega) (by omega) hgs
      have hgs2 : ∀ k, ∀ g ∈ gs.take k, isG g n := fun k g hg => hgs g (List.mem_of_mem_take hg)
      have hr : r1 = 0 ∨ r1 = 1 ∨ r1 = 2 ∨ r1 = 3 ∨ r1 = 4 := by omega
      rcases hr with rfl | rfl | rfl | rfl | rfl
      · simpa using f0
      · simp
        by_cases hn : 2 < n
        · rw [if_pos hn]
          refine ⟨by omega, by omega, ?_⟩
          refine lcGo_map (fun i : Nat => D.int (i : Nat)) (fun i : Nat => tI (if (i : Int) + 1 = n then [0, (i : Int)] else [(i : Int), (i : Int) + 1])) (List.range n.toNat) (fun i hi => ⟨_, rfl, fun Q q => ?_⟩) trivial (by rw [List.length_range]; unfold sizeLine; omega) ?_
          · rw [List.mem_range] at hi
            have hm0 : ((i : Int) + 1) % n = if (i : Int) + 1 = n then 0 else (i : Int) + 1 := by
              split
              · rename_i e; rw [e]; exact Int.emod_self
              · exact Int.emod_eq_of_lt (by omega) (by omega)
            simp
            refine ⟨by omega, ⟨⟨rfl, Nat.zero_le _⟩, rfl, Nat.zero_le _⟩, alike_ints [(i : Int), ((i : Int) + 1) % n], sortable_ints [(i : Int), ((i : Int) + 1) % n], ?_⟩
            rw [sort_two, hm0]
            by_cases e : (i : Int) + 1 = n
            · rw [if_pos e] at q ⊢
              by_cases e2 : (i : Int) ≤ 0
              · exact absurd e (by omega)
              · rw [if_neg e2]
                exact q
            · rw [if_neg e] at q ⊢
              rw [if_pos (by omega)]
              exact q
          · have := fin ((List.range n.toNat).map fun i : Nat => if (i : Int) + 1 = n then [0, (i : Int)] else [(i : Int), (i : Int) + 1]) (by simp; omega) (by simp; omega) (fun g hg => by
              obtain ⟨i, hi, rfl⟩ := List.mem_map.mp hg
              rw [List.mem_range] at hi
              split
              · exact ⟨by simp, by simp, fun x hx => by simp at hx; omega, by simp; omega⟩
              · exact ⟨by simp, by simp, fun x hx => by simp at hx; omega, by simp; omega⟩)
            rw [List.map_map] at this
            exact this
        · rw [if_neg hn]
          exact f0
      · simp
        by_cases hn : 1 < n
        · rw [if_pos hn]
          refine ⟨by omega, by omega, ?_⟩
          refine lcGo_map (fun i : Nat => D.int (i : Nat)) (fun i : Nat => tI [(i : Int), (i : Int) + 1]) (List.range (n.toNat - 1)) (fun i hi => ⟨_, rfl, fun Q q => ?_⟩) trivial (by rw [List.length_range]; unfold sizeLine; omega) ?_
          · simp
            exact q
          · have := fin ((List.range (n.toNat - 1)).map fun i : Nat => [(i : Int), (i : Int) + 1]) (by simp; omega) (by simp; omega) (fun g hg => by
              obtain ⟨i, hi, rfl⟩ := List.mem_map.mp hg
              rw [List.mem_range] at hi
              exact ⟨by simp, by simp, fun x hx => by simp at hx; omega, by simp; omega⟩)
            rw [List.map_map] at this
            exact this
        · rw [if_neg hn]
          exact f0
      · simp
        by_cases hn : 2 < n
        · rw [if_pos hn, cutD_t2, ← List.map_take]
          refine ⟨by simp; unfold sizeLine; omega, ?_⟩
          exact fin ([0, 1] :: [1, 2] :: [0, 2] :: gs.take 2) (by simp) (by simp; omega) fun g hg => by
            simp only [List.mem_cons] at hg
            rcases hg with rfl | rfl | rfl | hg
            · exact ⟨by simp, by simp, fun x hx => by simp at hx; omega, by simp⟩
            · exact ⟨by simp, by simp, fun x hx => by simp at hx; omega, by simp⟩
            · exact ⟨by simp, by simp, fun x hx => by simp at hx; omega, by simp⟩
            · exact hgs2 2 g hg
        · rw [if_neg hn]
          exact f0
      · simp
        by_cases hn : 3 < n
        · rw [if_pos hn, cutD_t1, ← List.map_take]
          refine ⟨by simp; unfold sizeLine; omega, ?_⟩
          exact fin ([0, 1, 2] :: [0, 1, 3] :: [0, 2, 3] :: [1, 2, 3] :: gs.take 1) (by simp) (by simp; omega) fun g hg => by
            simp only [List.mem_cons] at hg
            rcases hg with rfl | rfl | rfl | rfl | hg
            · exact ⟨by simp, by simp, fun x hx => by simp at hx; omega, by simp⟩
            · exact ⟨by simp, by simp, fun x hx => by simp at hx; omega, by simp⟩
            · exact ⟨by simp, by simp, fun x hx => by simp at hx; omega, by simp⟩
            · exact ⟨by simp, by simp, fun x hx => by simp at hx; omega, by simp⟩
            · exact hgs2 1 g hg
        · rw [if_neg hn]
          exact f0
end
end P46

namespace P46
open PySem PySem.Spec L2 DL PyProof.Rows DB
section
variable {T : Cl} {P : Program} {w : World} {K : PySem.W.Frag} {mg : Str → Option Value} {base : Heap} {a : Ad} {f : Addr} {fd : FuncData}
theorem sc_law_scheme : FnScope ["_law_pen_here", "_law_many"] ["_law_pen_here"] (defScope (top 68)) := ⟨rfl, rfl, rfl, by decide +kernel, rfl, by decide +kernel, by decide +kernel⟩
theorem ok_law_scheme (F : Fun K "_law_scheme" "_law_scheme" (top 68) f fd) (g : G T K mg a) (F_law_draw : FD T P w K mg base 1 a.law_draw s_law_draw) (F_law_groups : FD T P w K mg base 5 a.law_groups s_law_groups) : FnOk P w K mg base (L2.CX P w) 7 f fd ["_law_pen_here"] (spD T K s_law_scheme) := by
  have S := sc_law_scheme
  refine fd_okN F S (by decide) (fun cdv A outer sh H E hr => (pdb_cons (pds_set 1 S.nd rfl (by first | exact .inl rfl | exact .inr rfl) (pd_ix (pd_fr (pf_lst (pda_cons pd_int (pda_cons pd_int (pda_cons pd_int (pda_cons pd_int (pda_cons pd_int (pda_cons pd_int (pda_cons pd_int (pda_cons pd_int pda_nil)))))))))) (pd_callR (FD.at_ F_law_draw (hr.mono (by decide)) passL) g.k_law_draw rfl g.m_law_draw (pda_cons (pd_var 0) (pda_cons pd_int pda_nil)))))
      (pdb_one (pds_ret (pd_tup (pda_cons (pd_var 1) (pda_cons (pd_callTy cd_tuple rfl g.b_tuple boot_tuple (pda_cons (pd_callR (FD.at_ F_law_groups (hr.mono (by decide)) passL) g.k_law_groups rfl g.m_law_groups (pda_cons (pd_var 0) (pda_cons (pd_var 1) pda_nil))) pda_nil)) pda_nil))))))) (fun ds μ Q PX h => ?_) (fun ds μ Q PX h => ?_)
  · obtain ⟨m, x, b, c, rfl, _⟩ := h; rfl
  · obtain ⟨m, x, b, c, rfl, hm, hp, hc, h⟩ := h
    have hml := mu_lt hm
    simp
    refine ⟨m, 8, x, b, c, rfl, by decide, by decide, hm, hp, by omega, fun r x1 c1 r0 r8 hp1 hc1 => ?_⟩
    have hat : ∃ n, atI [D.int 1, .int 2, .int 3, .int 3, .int 4, .int 4, .int 5, .int 5] r = some (.int n) ∧ 1 ≤ n ∧ n ≤ 5 := by
      have : r = 0 ∨ r = 1 ∨ r = 2 ∨ r = 3 ∨ r = 4 ∨ r = 5 ∨ r = 6 ∨ r = 7 := by omega
      rcases this with rfl | rfl | rfl | rfl | rfl | rfl | rfl | rfl <;> exact ⟨_, rfl, by decide, by decide⟩
    obtain ⟨n, hat, n1, n5⟩ := hat
    simp only [hat]
    refine ⟨m, n, x1, b, c1, rfl, n1, n5, List.getElem?_set_self hml, hp1, by omega, fun gs x2 c2 hS hp2 hc2 => ?_⟩
    rw [List.set_set]
    exact .inl (h n gs x2 c2 hS hp2 (by omega))
end
end P46

namespace P46
open PySem PySem.Spec L2 DL PyProof.Rows DB
section
variable {T : Cl} {P : Program} {w : World} {K : PySem.W.Frag} {mg : Str → Option Value} {base : Heap} {a : Ad} {f : Addr} {fd : FuncData}
theorem sc_is_integer : FnScope ["thing"] ["thing"] (defScope (top 1)) := ⟨rfl, rfl, rfl, by decide +kernel, rfl, by decide +kernel, by decide +kernel⟩
theorem ok_is_integer (F : Fun K "is_integer" "is_integer" (top 1) f fd) (g : G T K mg a) : FnOk P w K mg base (L2.CX P w) 1 f fd ["thing"] (spD T K s_is_integer) := by
  have S := sc_is_integer
  refine fd_okN F S (by decide) (fun cdv A outer sh H E hr => (pdb_one (pds_ret (pd_and (pd_callB (cd_isi g.isi) rfl g.b_isinstance boot_isinstance (pda_cons (pd_var 0) (pda_cons (pd_gty rfl g.b_int boot_int) pda_nil))) (pd_one (pd_not (pd_callB (cd_isi g.isi) rfl g.b_isinstance boot_isinstance (pda_cons (pd_var 0) (pda_cons (pd_gty rfl g.b_bool boot_bool) pda_nil))))))))) (fun ds μ Q PX h => ?_) (fun ds μ Q PX h => ?_)
  · obtain ⟨i, rfl, _⟩ := h; rfl
  · obtain ⟨i, rfl, h⟩ := h
    exact .inl h
end
end P46

namespace P46
open PySem PySem.Spec L2 DL PyProof.Rows DB
section
variable {T : Cl} {P : Program} {w : World} {K : PySem.W.Frag} {mg : Str → Option Value} {base : Heap} {a : Ad} {f : Addr} {fd : FuncData}
theorem sc_is_between : FnScope ["thing", "low", "high"] ["thing", "low", "high"] (defScope (top 2)) := ⟨rfl, rfl, rfl, by decide +kernel, rfl, by decide +kernel, by decide +kernel⟩
theorem ok_is_between (F : Fun K "is_between" "is_between" (top 2) f fd) (g : G T K mg a) (F_is_integer : FD T P w K mg base 1 a.is_integer s_is_integer) : FnOk P w K mg base (L2.CX P w) 3 f fd ["thing", "low", "high"] (spD T K s_is_between) := by
  have S := sc_is_between
  refine fd_okN F S (by decide) (fun cdv A outer sh H E hr => (pdb_one (pds_ret (pd_and (pd_callR (FD.at_ F_is_integer (hr.mono (by decide)) passL) g.k_is_integer rfl g.m_is_integer (pda_cons (pd_var 0) pda_nil)) (pd_one (pd_chain od_le od_le (pd_var 1) (pd_var 0) (pd_var 2))))))) (fun ds μ Q PX h => ?_) (fun ds μ Q PX h => ?_)
  · obtain ⟨i, lo, hi, rfl, _⟩ := h; rfl
  · obtain ⟨i, lo, hi, rfl, h⟩ := h
    simp
    refine ⟨i, rfl, ?_⟩
    simp
    by_cases h1 : lo ≤ i
    · rw [if_pos h1]; left; simpa [h1] using h
    · rw [if_neg h1]; left; simpa [h1] using h
end
end P46

namespace P46
open PySem PySem.Spec L2 DL PyProof.Rows DB
section
variable {T : Cl} {P : Program} {w : World} {K : PySem.W.Frag} {mg : Str → Option Value} {base : Heap} {a : Ad} {f : Addr} {fd : FuncData}
theorem sc_is_ascending : FnScope ["numbers", "place"] ["numbers"] (defScope (top 4)) := ⟨rfl, rfl, rfl, by decide +kernel, rfl, by decide +kernel, by decide +kernel⟩
theorem ok_is_ascending (F : Fun K "is_ascending" "is_ascending" (top 4) f fd) (g : G T K mg a) : FnOk P w K mg base (L2.CX P w) 1 f fd ["numbers"] (spD T K s_is_ascending) := by
  have S := sc_is_ascending
  refine fd_okN F S (by decide) (fun cdv A outer sh H E hr => (pdb_one (pds_ret (pd_callB (cd_all rfl) rfl g.b_all boot_all (pda_cons (pd_fr (pf_lc rfl S.nd (own := [("place", 1)]) (pdi_range2 rfl g.b_range (pda_cons pd_int (pda_cons (pd_callB cd_len rfl g.b_len boot_len (pda_cons (pd_var 0) pda_nil)) pda_nil))) (blkOk_by (by rfl)) tg_name (fun _ _ _ _ _ => pg_name (i := 1) S.nd rfl (by first | exact .inl rfl | exact .inr rfl)) (fun _ _ _ _ _ => ptd_nil) (fun _ _ _ _ _ => (pd_cmp od_lt (pd_ix (pd_var 0) (pd_op od_sub (pd_var 1) pd_int)) (pd_ix (pd_var 0) (pd_var 1)))))) pda_nil))))) (fun ds μ Q PX h => ?_) (fun ds μ Q PX h => ?_)
  · obtain ⟨ns, rfl, _⟩ := h; rfl
  · obtain ⟨ns, rfl, h1, h⟩ := h
    simp [J]
    refine ⟨by omega, ?_⟩
    unfold ranD
    refine lcGo_map (fun i : Nat => D.int (1 + (i : Nat))) (fun i => .bl (decide (ns.getD i 0 < ns.getD (i + 1) 0))) _ (fun i hi => ⟨_, rfl, fun Q q => ?_⟩) trivial (by rw [List.length_range]; unfold sizeLine; omega) ?_
    · rw [List.mem_range] at hi
      simp
      rw [atI_int (j := i) (by omega) (by omega), atI_int (j := i + 1) (by omega) (by omega)]
      simpa using q
    · rw [map_bl, blsOf_bls]
      left
      rw [List.all_map, show (id ∘ fun i => decide (ns.getD i 0 < ns.getD (i + 1) 0)) = (fun i => decide (ns.getD i 0 < ns.getD (i + 1) 0)) from rfl, asc_all]
      exact h
end
end P46

namespace P46
open PySem PySem.Spec L2 DL PyProof.Rows DB
section
variable {T : Cl} {P : Program} {w : World} {K : PySem.W.Frag} {mg : Str → Option Value} {base : Heap} {a : Ad} {f : Addr} {fd : FuncData}
theorem sc_is_group : FnScope ["thing", "many", "part"] ["thing", "many"] (defScope (top 5)) := ⟨rfl, rfl, rfl, by decide +kernel, rfl, by decide +kernel, by decide +kernel⟩
theorem ok_is_group (F : Fun K "is_group" "is_group" (top 5) f fd) (g : G T K mg a) (F_is_ascending : FD T P w K mg base 1 a.is_ascending s_is_ascending) (F_is_between : FD T P w K mg base 3 a.is_between s_is_between) : FnOk P w K mg base (L2.CX P w) 5 f fd ["thing", "many"] (spD T K s_is_group) := by
  have S := sc_is_group
  refine fd_okN F S (by decide) (fun cdv A outer sh H E hr => (pdb_cons (pds_if (PDW.pt (pdw_or (pdt_not (pdt_val (pd_callB (cd_isi g.isi) rfl g.b_isinstance boot_isinstance (pda_cons (pd_var 0) (pda_cons (pd_gty rfl g.b_tuple boot_tuple) pda_nil))))) (pdw_or1 (pdt_not (pdt_chain od_le od_le pd_int (pd_callB cd_len rfl g.b_len boot_len (pda_cons (pd_var 0) pda_nil)) pd_int))))) (pdb_one (pds_ret pd_bl)) pdb_nil)
      (pdb_one (pds_ret (pd_and (pd_callB (cd_all rfl) rfl g.b_all boot_all (pda_cons (pd_fr (pf_lc rfl S.nd (own := [("part", 2)]) (pdi_tup (pd_var 0)) (blkOk_by (by rfl)) tg_name (fun _ _ _ _ _ => pg_name (i := 2) S.nd rfl (by first | exact .inl rfl | exact .inr rfl)) (fun _ _ _ _ _ => ptd_nil) (fun _ _ _ _ _ => (pd_callR (FD.at_ F_is_between (hr.mono (by decide)) passL) g.k_is_between rfl g.m_is_between (pda_cons (pd_var 2) (pda_cons pd_int (pda_cons (pd_op od_sub (pd_var 1) pd_int) pda_nil))))))) pda_nil)) (pd_one (pd_callR (FD.at_ F_is_ascending (hr.mono (by decide)) passL) g.k_is_ascending rfl g.m_is_ascending (pda_cons (pd_var 0) pda_nil)))))))) (fun ds μ Q PX h => ?_) (fun ds μ Q PX h => ?_)
  · obtain ⟨ns, m, rfl, _⟩ := h; rfl
  · obtain ⟨ns, m, rfl, h1, h⟩ := h
    simp [J]
    by_cases h2 : 1 ≤ (ns.length : Int)
    · rw [if_pos h2]
      by_cases h3 : 3 < (ns.length : Int)
      · rw [if_pos h3]
        left
        rwa [decide_eq_false (fun z => by have := z.2.1; omega)] at h
      · rw [if_neg h3]
        refine lcGo_map D.int (fun i => .bl (decide (0 ≤ i ∧ i ≤ m - 1))) ns (fun x hx => ⟨_, rfl, fun Q q => ?_⟩) trivial (by unfold sizeLine; omega) ?_
        · simp
          exact ⟨x, 0, m - 1, rfl, q⟩
        · rw [map_bl, blsOf_bls]
          by_cases h4 : ∀ x ∈ ns, 0 ≤ x ∧ x ≤ m - 1
          · show if _ then _ else _
            rw [if_neg (by simp only [List.mem_map, decide_eq_false_iff_not]; rintro ⟨x, hx, hn⟩; exact hn (h4 x hx))]
            refine ⟨ns, rfl, h1, ?_⟩
            left
            have e : decide (isG ns m) = decide (ns.Pairwise (· < ·)) := by
              by_cases hp : ns.Pairwise (· < ·)
              · rw [decide_eq_true hp, decide_eq_true ⟨by omega, by omega, h4, hp⟩]
              · rw [decide_eq_false hp, decide_eq_false fun z => hp z.2.2.2]
            rwa [e] at h
          · show if _ then _ else _
            rw [if_pos]
            · left
              rwa [decide_eq_false (fun z => h4 z.2.2.1)] at h
            · simp only [List.mem_map, decide_eq_false_iff_not]
              false_or_by_contra
              rename_i hc
              exact h4 fun x hx => by
                false_or_by_contra
                rename_i hc2
                exact hc ⟨x, hx, hc2⟩
    · rw [if_neg h2]
      left
      rwa [decide_eq_false (fun z => by have := z.1; omega)] at h
end
end P46

namespace P46
open PySem PySem.Spec L2 DL PyProof.Rows DB
section
variable {T : Cl} {P : Program} {w : World} {K : PySem.W.Frag} {mg : Str → Option Value} {base : Heap} {a : Ad} {f : Addr} {fd : FuncData}
theorem sc_is_scheme : FnScope ["thing", "many", "groups", "group"] ["thing"] (defScope (top 47)) := ⟨rfl, rfl, rfl, by decide +kernel, rfl, by decide +kernel, by decide +kernel⟩
theorem ok_is_scheme (F : Fun K "is_scheme" "is_scheme" (top 47) f fd) (g : G T K mg a) (F_is_between : FD T P w K mg base 3 a.is_between s_is_between) (F_is_group : FD T P w K mg base 5 a.is_group s_is_group) : FnOk P w K mg base (L2.CX P w) 7 f fd ["thing"] (spD T K s_is_scheme) := by
  have S := sc_is_scheme
  refine fd_okN F S (by decide) (fun cdv A outer sh H E hr => (pdb_cons (pds_if (PDW.pt (pdw_or (pdt_not (pdt_val (pd_callB (cd_isi g.isi) rfl g.b_isinstance boot_isinstance (pda_cons (pd_var 0) (pda_cons (pd_gty rfl g.b_tuple boot_tuple) pda_nil))))) (pdw_or1 (pdt_cmp (od_ne hr) (pd_callB cd_len rfl g.b_len boot_len (pda_cons (pd_var 0) pda_nil)) pd_int)))) (pdb_one (pds_ret pd_bl)) pdb_nil)
      (pdb_cons (pds_asg (pd_var 0) (pdg_tup [1, 2] (pg_tup rfl (pgs_cons (pg_name (i := 1) S.nd rfl (by first | exact .inl rfl | exact .inr rfl)) (pgs_cons (pg_name (i := 2) S.nd rfl (by first | exact .inl rfl | exact .inr rfl)) (pgs_nil))))))
      (pdb_cons (pds_if (PDW.pt (pdw_or (pdt_not (pdt_val (pd_callR (FD.at_ F_is_between (hr.mono (by decide)) passL) g.k_is_between rfl g.m_is_between (pda_cons (pd_var 1) (pda_cons pd_int (pda_cons (pd_cval rfl g.m_Report g.cr_Report g.cv_Report_LIMIT.choose_spec (fun _ _ => .int _)) pda_nil)))))) (pdw_or1 (pdt_not (pdt_val (pd_callB (cd_isi g.isi) rfl g.b_isinstance boot_isinstance (pda_cons (pd_var 2) (pda_cons (pd_gty rfl g.b_tuple boot_tuple) pda_nil)))))))) (pdb_one (pds_ret pd_bl)) pdb_nil)
      (pdb_one (pds_ret (pd_and (pd_chain od_le od_le pd_int (pd_callB cd_len rfl g.b_len boot_len (pda_cons (pd_var 2) pda_nil)) (pd_cval rfl g.m_Report g.cr_Report g.cv_Report_LIMIT.choose_spec (fun _ _ => .int _))) (pd_one (pd_callB (cd_all rfl) rfl g.b_all boot_all (pda_cons (pd_fr (pf_lc rfl S.nd (own := [("group", 3)]) (pdi_tup (pd_var 2)) (blkOk_by (by rfl)) tg_name (fun _ _ _ _ _ => pg_name (i := 3) S.nd rfl (by first | exact .inl rfl | exact .inr rfl)) (fun _ _ _ _ _ => ptd_nil) (fun _ _ _ _ _ => (pd_callR (FD.at_ F_is_group (hr.mono (by decide)) passL) g.k_is_group rfl g.m_is_group (pda_cons (pd_var 3) (pda_cons (pd_var 1) pda_nil)))))) pda_nil)))))))))) (fun ds μ Q PX h => ?_) (fun ds μ Q PX h => ?_)
  · obtain ⟨n, gs, rfl, _⟩ := h; rfl
  · obtain ⟨n, gs, rfl, hS, h⟩ := h
    obtain ⟨h1, h2, h3, h4, h5⟩ := hS
    simp [J]
    refine ⟨n, 1, 5, rfl, ?_⟩
    simp only [decide_eq_true (show 1 ≤ n ∧ n ≤ 5 from ⟨h1, h2⟩), if_true]
    rw [if_pos (by omega), if_pos (by omega)]
    refine lcGo_map tI (fun _ => .bl true) gs (fun x hx => ⟨_, rfl, fun Q q => ?_⟩) trivial (by unfold sizeLine; omega) ?_
    · refine ⟨x, n, rfl, by have := (h5 x hx).2.1; omega, ?_⟩
      rwa [decide_eq_true (h5 x hx)]
    · rw [map_bl, blsOf_bls]
      have e : (gs.map fun _ => true).all id = true := by simp
      simp only [e]
      exact .inl h
end
end P46

namespace P46
open PySem PySem.Spec L2 DL PyProof.Rows DB
section
variable {T : Cl} {P : Program} {w : World} {K : PySem.W.Frag} {mg : Str → Option Value} {base : Heap} {a : Ad} {f : Addr} {fd : FuncData}
theorem sc_check_scheme : FnScope ["thing"] ["thing"] (defScope (top 50)) := ⟨rfl, rfl, rfl, by decide +kernel, rfl, by decide +kernel, by decide +kernel⟩
theorem ok_check_scheme (F : Fun K "check_scheme" "check_scheme" (top 50) f fd) (g : G T K mg a) (F_is_scheme : FD T P w K mg base 7 a.is_scheme s_is_scheme) : FnOk P w K mg base (L2.CX P w) 9 f fd ["thing"] (spD T K s_check_scheme) := by
  have S := sc_check_scheme
  refine fd_okN F S (by decide) (fun cdv A outer sh H E hr => (pdb_one (pds_if (pdt_not (pdt_val (pd_callR (FD.at_ F_is_scheme (hr.mono (by decide)) passL) g.k_is_scheme rfl g.m_is_scheme (pda_cons (pd_var 0) pda_nil)))) (pdb_one pds_never) pdb_nil))) (fun ds μ Q PX h => ?_) (fun ds μ Q PX h => ?_)
  · obtain ⟨n, gs, rfl, _⟩ := h; rfl
  · obtain ⟨n, gs, rfl, hS, h⟩ := h
    refine ⟨n, gs, rfl, hS, ?_⟩
    simp
    exact .inl h
end
end P46

namespace P46
open PySem PySem.Spec L2 DL PyProof.Rows DB
section
variable {T : Cl} {P : Program} {w : World} {K : PySem.W.Frag} {mg : Str → Option Value} {base : Heap} {a : Ad} {f : Addr} {fd : FuncData}
theorem sc_are_together : FnScope ["groups", "variables", "variable", "group"] ["groups", "variables"] (defScope (top 58)) := ⟨rfl, rfl, rfl, by decide +kernel, rfl, by decide +kernel, by decide +kernel⟩
theorem ok_are_together (F : Fun K "are_together" "are_together" (top 58) f fd) (g : G T K mg a) : FnOk P w K mg base (L2.CX P w) 1 f fd ["groups", "variables"] (spD T K s_are_together) := by
  have S := sc_are_together
  refine fd_okN F S (by decide) (fun cdv A outer sh H E hr => (pdb_one (pds_ret (pd_callB (cd_any rfl) rfl g.b_any boot_any (pda_cons (pd_fr (pf_lc rfl S.nd (own := [("group", 3)]) (pdi_tup (pd_var 0)) (blkOk_by (by rfl)) tg_name (fun _ _ _ _ _ => pg_name (i := 3) S.nd rfl (by first | exact .inl rfl | exact .inr rfl)) (fun _ _ _ _ _ => ptd_nil) (fun _ _ _ _ _ => (pd_callB (cd_all rfl) rfl g.b_all boot_all (pda_cons (pd_fr (pf_lc rfl S.nd (own := [("variable", 2)]) (pdi_tup (pd_var 1)) (blkOk_by (by rfl)) tg_name (fun _ _ _ _ _ => pg_name (i := 2) S.nd rfl (by first | exact .inl rfl | exact .inr rfl)) (fun _ _ _ _ _ => ptd_nil) (fun _ _ _ _ _ => (pd_cmp od_in (pd_var 2) (pd_var 3))))) pda_nil))))) pda_nil))))) (fun ds μ Q PX h => ?_) (fun ds μ Q PX h => ?_)
  · obtain ⟨gs, vs, rfl, _⟩ := h; rfl
  · obtain ⟨gs, vs, rfl, h1, h2, h3, h⟩ := h
    simp
    refine lcGo_map tI (fun g => .bl (vs.all fun v => decide (v ∈ g))) gs (fun g hg => ⟨_, rfl, fun Q q => ?_⟩) trivial (by unfold sizeLine; omega) ?_
    · simp
      refine lcGo_map D.int (fun v => .bl (decide (v ∈ g))) vs (fun v hv => ⟨_, rfl, fun Q q => ?_⟩) trivial (by unfold sizeLine; omega) ?_
      · simp [flatsD_ints, inV_int, flatD]
        exact q
      · rw [map_bl, blsOf_bls]
        simpa [Function.comp_def] using q
    · rw [map_bl, blsOf_bls]
      left
      simpa [togB, Function.comp_def] using h
end
end P46

namespace P46
open PySem PySem.Spec L2 DL PyProof.Rows DB
section
variable {T : Cl} {P : Program} {w : World} {K : PySem.W.Frag} {mg : Str → Option Value} {base : Heap} {a : Ad} {f : Addr} {fd : FuncData}
theorem sc_is_shell : FnScope ["groups", "variables", "at"] ["groups", "variables"] (defScope (top 59)) := ⟨rfl, rfl, rfl, by decide +kernel, rfl, by decide +kernel, by decide +kernel⟩
theorem ok_is_shell (F : Fun K "is_shell" "is_shell" (top 59) f fd) (g : G T K mg a) (F_are_together : FD T P w K mg base 1 a.are_together s_are_together) : FnOk P w K mg base (L2.CX P w) 3 f fd ["groups", "variables"] (spD T K s_is_shell) := by
  have S := sc_is_shell
  refine fd_okN F S (by decide) (fun cdv A outer sh H E hr => (pdb_cons (pds_if (PDW.pt (pdw_or (pdt_not (pdt_chain od_le od_le pd_int (pd_callB cd_len rfl g.b_len boot_len (pda_cons (pd_var 1) pda_nil)) pd_int)) (pdw_or1 (pdt_val (pd_callR (FD.at_ F_are_together (hr.mono (by decide)) passL) g.k_are_together rfl g.m_are_together (pda_cons (pd_var 0) (pda_cons (pd_var 1) pda_nil))))))) (pdb_one (pds_ret pd_bl)) pdb_nil)
      (pdb_one (pds_ret (pd_callB (cd_all rfl) rfl g.b_all boot_all (pda_cons (pd_fr (pf_lc rfl S.nd (own := [("at", 2)]) (pdi_range1 rfl g.b_range (pda_cons (pd_callB cd_len rfl g.b_len boot_len (pda_cons (pd_var 1) pda_nil)) pda_nil)) (blkOk_by (by rfl)) tg_name (fun _ _ _ _ _ => pg_name (i := 2) S.nd rfl (by first | exact .inl rfl | exact .inr rfl)) (fun _ _ _ _ _ => ptd_nil) (fun _ _ _ _ _ => (pd_callR (FD.at_ F_are_together (hr.mono (by decide)) passL) g.k_are_together rfl g.m_are_together (pda_cons (pd_var 0) (pda_cons (pd_op od_catT (pd_sliceT (pd_var 1) pdo_none (pdo_some (pd_var 2))) (pd_sliceT (pd_var 1) (pdo_some (pd_op od_add (pd_var 2) pd_int)) pdo_none)) pda_nil)))))) pda_nil)))))) (fun ds μ Q PX h => ?_) (fun ds μ Q PX h => ?_)
  · obtain ⟨gs, vs, rfl, _⟩ := h; rfl
  · obtain ⟨gs, vs, rfl, h1, h2, h3, h⟩ := h
    simp
    unfold shellB at h
    by_cases e1 : 3 ≤ (vs.length : Int)
    rotate_left
    · rw [if_neg e1]
      rw [decide_eq_false (by omega)] at h
      exact .inl h
    rw [if_pos e1]
    by_cases e2 : 4 < (vs.length : Int)
    · rw [if_pos e2]
      rw [decide_eq_false (by omega)] at h
      exact .inl h
    rw [if_neg e2]
    rw [decide_eq_true (by omega)] at h
    refine ⟨gs, vs, rfl, h1, h2, h3, ?_⟩
    cases e3 : togB gs vs with
    | true =>
      rw [e3] at h
      simp at h ⊢
      exact .inl h
    | false =>
      rw [e3] at h
      simp at h ⊢
      refine ⟨by omega, ?_⟩
      unfold ranD
      refine lcGo_map (fun i : Nat => D.int (0 + (i : Nat))) (fun i : Nat => .bl (togB gs (vs.take i ++ vs.drop (i + 1)))) (List.range vs.length) (fun i hi => ⟨_, rfl, fun Q q => ?_⟩) trivial (by simp; unfold sizeLine; omega) ?_
      · rw [List.mem_range] at hi
        simp
        rw [cutD_take, show ((i : Int) + 1) = ((i + 1 : Nat) : Int) by omega, cutD_drop, ← List.map_take, ← List.map_drop]
        refine ⟨by simp; unfold sizeLine; omega, gs, vs.take i ++ vs.drop (i + 1), by simp, h1, h2, by simp; omega, q⟩
      · rw [map_bl, blsOf_bls]
        left
        simpa [Function.comp_def] using h
end
end P46

namespace P46
open PySem PySem.Spec L2 DL PyProof.Rows DB
section
variable {T : Cl} {P : Program} {w : World} {K : PySem.W.Frag} {mg : Str → Option Value} {base : Heap} {a : Ad} {f : Addr} {fd : FuncData}
theorem sc_is_ring : FnScope ["groups", "ring", "size", "second", "first", "near"] ["groups", "ring"] (defScope (top 60)) := ⟨rfl, rfl, rfl, by decide +kernel, rfl, by decide +kernel, by decide +kernel⟩
theorem ok_is_ring (F : Fun K "is_ring" "is_ring" (top 60) f fd) (g : G T K mg a) (F_are_together : FD T P w K mg base 1 a.are_together s_are_together) : FnOk P w K mg base (L2.CX P w) 3 f fd ["groups", "ring"] (spD T K s_is_ring) := by
  have S := sc_is_ring
  refine fd_okN F S (by decide) (fun cdv A outer sh H E hr => (pdb_cons (pds_set 2 S.nd rfl (by first | exact .inl rfl | exact .inr rfl) (pd_callB cd_len rfl g.b_len boot_len (pda_cons (pd_var 1) pda_nil)))
      (pdb_cons (pds_if (pdt_not (pdt_chain od_le od_le pd_int (pd_var 2) pd_int)) (pdb_one (pds_ret pd_bl)) pdb_nil)
      (pdb_cons (pds_for (passes_of rfl) rfl (pdi_range1 rfl g.b_range (pda_cons (pd_var 2) pda_nil)) (pdg_name 3 S.nd rfl (by first | exact .inl rfl | exact .inr rfl)) (pdb_one (pds_for (passes_of rfl) rfl (pdi_range1 rfl g.b_range (pda_cons (pd_var 3) pda_nil)) (pdg_name 4 S.nd rfl (by first | exact .inl rfl | exact .inr rfl)) (pdb_cons (pds_set 5 S.nd rfl (by first | exact .inl rfl | exact .inr rfl) (pd_or (pd_cmp (od_eq hr) (pd_op od_sub (pd_var 3) (pd_var 4)) pd_int) (pd_one (pd_cmp (od_eq hr) (pd_op od_sub (pd_var 3) (pd_var 4)) (pd_op od_sub (pd_var 2) pd_int)))))
      (pdb_one (pds_if (pdt_cmp (od_ne hr) (pd_callR (FD.at_ F_are_together (hr.mono (by decide)) passL) g.k_are_together rfl g.m_are_together (pda_cons (pd_var 0) (pda_cons (pd_tup (pda_cons (pd_ix (pd_var 1) (pd_var 4)) (pda_cons (pd_ix (pd_var 1) (pd_var 3)) pda_nil))) pda_nil))) (pd_var 5)) (pdb_one (pds_ret pd_bl)) pdb_nil))))))
      (pdb_one (pds_ret pd_bl)))))) (fun ds μ Q PX h => ?_) (fun ds μ Q PX h => ?_)
  · obtain ⟨gs, vs, rfl, _⟩ := h; rfl
  · obtain ⟨gs, vs, rfl, h1, h2, h3, h⟩ := h
    simp
    by_cases e1 : 4 ≤ (vs.length : Int)
    rotate_left
    · rw [if_neg e1]
      rw [decide_eq_false (by omega)] at h
      exact .inl h
    rw [if_pos e1, if_neg (by omega)]
    rw [decide_eq_true (by omega), Bool.true_and] at h
    refine ⟨by omega, ?_⟩
    unfold ranD
    refine forGo_inv (fun i : Nat => D.int (0 + (i : Nat))) (List.range vs.length) (fun j ρ μ' => μ' = μ ∧ (∀ y < j, ringRow (tg gs) vs y = true) ∧ ∃ u v w, ρ = [some (gsD gs), some (tI vs), some (.int (vs.length : Nat)), u, v, w]) (fun _ _ _ _ => trivial) (fun j y ρ μ' N hi hI hN => ?_) (fun ρ μ' hI => ?_) ⟨rfl, by simp, _, _, _, rfl⟩
    · obtain ⟨rfl, hR, u, v, w, rfl⟩ := hI
      have hj := (List.getElem?_eq_some_iff.mp hi).1
      rw [List.length_range] at hj
      have hy : y = j := by rw [List.getElem?_range hj] at hi; exact (Option.some.inj hi).symm
      subst hy
      simp
      refine ⟨by omega, ?_⟩
      unfold ranD
      refine forGo_inv (fun i : Nat => D.int (0 + (i : Nat))) (List.range y) (fun i ρ μ'' => μ'' = μ' ∧ (∀ z < i, ∀ p q, vs[z]? = some p → vs[y]? = some q → tg gs p q = nearB vs.length y z) ∧ ∃ v w, ρ = [some (gsD gs), some (tI vs), some (.int (vs.length : Nat)), some (.int (y : Nat)), v, w]) (fun _ _ _ _ => trivial) (fun i z ρ μ'' N' hi' hJ hN' => ?_) (fun ρ μ'' hJ => ?_) ⟨rfl, by simp, _, _, rfl⟩
      · obtain ⟨rfl, hT, v, w, rfl⟩ := hJ
        have hij := (List.getElem?_eq_some_iff.mp hi').1
        rw [List.length_range] at hij
        have hz : z = i := by rw [List.getElem?_range hij] at hi'; exact (Option.some.inj hi').symm
        subst hz
        simp
        have ez : atI (vs.map D.int) (z : Int) = some (.int vs[z]) := atI_get (j := z) rfl (by rw [List.getElem?_map, List.getElem?_eq_getElem (by omega)]; rfl)
        have ey : atI (vs.map D.int) (y : Int) = some (.int vs[y]) := atI_get (j := y) rfl (by rw [List.getElem?_map, List.getElem?_eq_getElem (by omega)]; rfl)
        have en := nearB_int (k := vs.length) hij
        simp only [ez, ey]
        have go : ∀ n : Bool, n = nearB vs.length y z → s_are_together [gsD gs, D.tup [.int vs[z], .int vs[y]]] μ''
          (fun x μ1 => match pyOf μ1 x, pyOf μ1 (D.bl n) with
            | some p, some q => SeqAt.shaped p = true ∧ SeqAt.shaped q = true ∧ if p.eqv q = true then N' [some (gsD gs), some (tI vs), some (D.int ↑vs.length), some (D.int ↑y), some (D.int ↑z), some (D.bl n)] μ1 else Seal μ'' Q (D.bl false) μ1
            | x, x_1 => False) fun x μ' => False := by
          rintro n rfl
          refine ⟨gs, [vs[z], vs[y]], rfl, h1, h2, by simp, ?_⟩
          simp only [pyOf_bool, shaped_bool, eqv_bool, true_and]
          by_cases e : togB gs [vs[z], vs[y]] = nearB vs.length y z
          · rw [e, if_pos (by simp)]
            refine hN' _ _ ⟨rfl, fun t ht p q hp hq => ?_, _, _, rfl⟩
            by_cases et : t = z
            · subst et
              rw [List.getElem?_eq_getElem (by omega)] at hp hq
              cases hp
              cases hq
              exact e
            · exact hT t (by omega) p q hp hq
          · rw [if_neg (by simpa using e)]
            left
            rwa [ringT_not (T := tg gs) (List.getElem?_eq_getElem (by omega)) (List.getElem?_eq_getElem (by omega)) hij e] at h
        by_cases e1 : (y : Int) - z = 1
        · rw [if_pos e1]
          exact go true (by rw [en, decide_eq_true e1]; rfl)
        · rw [if_neg e1]
          exact go _ (by rw [en, decide_eq_false e1]; rfl)
      · obtain ⟨rfl, hT, v, w, rfl⟩ := hJ
        rw [List.length_range] at hT
        refine hN _ _ ⟨rfl, fun t ht => ?_, _, _, _, rfl⟩
        by_cases e : t = y
        · subst e
          exact ringRow_step fun z hz p q => hT z hz p q
        · exact hR t (by omega)
    · obtain ⟨rfl, hR, u, v, w, rfl⟩ := hI
      rw [List.length_range] at hR
      left
      rwa [show ringT (tg gs) vs = true from ringT_all hR] at h
end
end P46

namespace P46
open PySem PySem.Spec L2 DL PyProof.Rows DB
section
variable {T : Cl} {P : Program} {w : World} {K : PySem.W.Frag} {mg : Str → Option Value} {base : Heap} {a : Ad} {f : Addr} {fd : FuncData}
theorem sc_ring_of : FnScope ["groups", "variables", "ring", "ahead", "other"] ["groups", "variables"] (defScope (top 61)) := ⟨rfl, rfl, rfl, by decide +kernel, rfl, by decide +kernel, by decide +kernel⟩
theorem ok_ring_of (F : Fun K "ring_of" "ring_of" (top 61) f fd) (g : G T K mg a) (F_are_together : FD T P w K mg base 1 a.are_together s_are_together) (F_is_ring : FD T P w K mg base 3 a.is_ring s_is_ring) : FnOk P w K mg base (L2.CX P w) 5 f fd ["groups", "variables"] (spD T K s_ring_of) := by
  have S := sc_ring_of
  refine fd_okN F S (by decide) (fun cdv A outer sh H E hr => (pdb_cons (pds_set 2 S.nd rfl (by first | exact .inl rfl | exact .inr rfl) (pd_sliceT (pd_var 1) pdo_none (pdo_some pd_int)))
      (pdb_cons (pds_while (passes_of rfl) (pdt_cmp od_lt (pd_callB cd_len rfl g.b_len boot_len (pda_cons (pd_var 2) pda_nil)) (pd_callB cd_len rfl g.b_len boot_len (pda_cons (pd_var 1) pda_nil))) (pdb_cons (pds_setLc 3 rfl S.nd rfl rfl (sw_true rfl rfl rfl (by decide +kernel)) (own := [("other", 4)]) (pdi_tup (pd_var 1)) (blkOk_by (by rfl)) tg_name (fun _ _ _ _ _ => pg_name (i := 4) S.nd rfl (by first | exact .inl rfl | exact .inr rfl)) (fun _ _ _ _ _ => ptd_one (PDW.pt (pdw_and (pdt_cmp od_notin (pd_var 4) (pd_var 2)) (pdw_and1 (pdt_val (pd_callR (FD.at_ F_are_together (hr.mono (by decide)) passL) g.k_are_together rfl g.m_are_together (pda_cons (pd_var 0) (pda_cons (pd_tup (pda_cons (pd_ix (pd_var 2) (pd_neg pd_int)) (pda_cons (pd_var 4) pda_nil))) pda_nil)))))))) (fun _ _ _ _ _ => (pd_var 4)) fr_lift)
      (pdb_cons (pds_if (pdt_not (pdt_tru (pd_var 3))) (pdb_one (pds_ret pd_non)) pdb_nil)
      (pdb_one (pds_set 2 S.nd rfl (by first | exact .inl rfl | exact .inr rfl) (pd_op od_catT (pd_var 2) (pd_tup (pda_cons (pd_ix (pd_var 3) pd_int) pda_nil))))))))
      (pdb_one (pds_ret (pd_ifExp (pdt_val (pd_callR (FD.at_ F_is_ring (hr.mono (by decide)) passL) g.k_is_ring rfl g.m_is_ring (pda_cons (pd_var 0) (pda_cons (pd_var 2) pda_nil)))) (pd_var 2) pd_non)))))) (fun ds μ Q PX h => ?_) (fun ds μ Q PX h => ?_)
  · obtain ⟨gs, vs, rfl, _⟩ := h; rfl
  · obtain ⟨gs, vs, rfl, h1, h2, h3, h⟩ := h
    simp
    unfold ringO at h
    generalize hG : greedy (tg gs) vs (vs.length - 1) (vs.take 1) = G at h
    refine ⟨fun m ρ μ' => μ' = μ ∧ ∃ (r : List Int) (u w : Option D), r.length + m = vs.length ∧ (vs ≠ [] → r ≠ []) ∧ G = greedy (tg gs) vs m r ∧ ρ = [some (gsD gs), some (tI vs), some (tI r), u, w], ⟨vs.length - 1, rfl, vs.take 1, none, none, ?_, ?_, hG.symm, ?_⟩, fun m ρ μ' hI => ?_⟩
    · rw [List.length_take]; omega
    · intro z
      cases vs <;> simp_all
    · rw [cutD_t1, ← List.map_take]
    · obtain ⟨rfl, r, u, w, hl, hne, hg, rfl⟩ := hI
      simp
      by_cases e : r.length < vs.length
      · rw [if_pos e]
        obtain ⟨m, rfl⟩ : ∃ k, m = k + 1 := ⟨m - 1, by omega⟩
        have hr : r ≠ [] := hne (by rintro rfl; simp at e)
        obtain ⟨x, hx⟩ : ∃ x, r.getLast? = some x := by
          cases q : r.getLast? with
          | none => exact absurd (List.getLast?_eq_none_iff.mp q) hr
          | some x => exact ⟨x, rfl⟩
        unfold greedy at hg
        rw [hx] at hg
        simp only at hg
        refine lcGo_flt D.int D.int (fun o => !decide (o ∈ r) && tg gs x o) vs [] (fun o ho => ⟨_, rfl, fun Q q => ?_, fun hb Q q => ?_⟩) trivial (by simp; unfold sizeLine; omega) ?_
        · simp [flatsD_ints, inV_int, flatD]
          by_cases eo : o ∈ r
          · rw [if_pos eo]
            rw [decide_eq_true eo] at q
            exact q
          · rw [if_neg eo]
            rw [decide_eq_false eo] at q
            have ea : atI (r.map D.int) (-1) = some (.int x) := atILast hx
            simp only [ea]
            refine ⟨gs, [x, o], rfl, h1, h2, by simp, ?_⟩
            exact q
        · simp
          exact q
        · rw [List.nil_append]
          have hmem : ∀ a, a ∈ vs.filter (fun o => !decide (o ∈ r) && tg gs x o) → r.length + 1 ≤ vs.length := fun a ha => by omega
          generalize vs.filter (fun o => !decide (o ∈ r) && tg gs x o) = F at hg hmem
          cases F with
          | nil =>
            simp only at hg
            simp
            left
            rw [hg] at h
            exact h
          | cons y F =>
            simp only at hg
            simp
            rw [show atI (D.int y :: F.map D.int) 0 = some (.int y) from atI_get (j := 0) rfl rfl]
            refine ⟨by unfold sizeLine; omega, m, by omega, r ++ [y], by simp; omega, by simp, hg, by simp⟩
      · rw [if_neg e]
        obtain rfl : m = 0 := by omega
        refine ⟨gs, r, rfl, h1, h2, by omega, ?_⟩
        rw [hg] at h
        simp only [greedy, Option.filter] at h
        by_cases hz : (decide (4 ≤ r.length) && ringT (tg gs) r) = true
        · rw [if_pos hz] at h
          rw [hz]
          exact .inl h
        · rw [if_neg hz] at h
          rw [Bool.not_eq_true] at hz
          rw [hz]
          exact .inl h
end
end P46

namespace P46
open PySem PySem.Spec L2 DL PyProof.Rows DB
section
variable {T : Cl} {P : Program} {w : World} {K : PySem.W.Frag} {mg : Str → Option Value} {base : Heap} {a : Ad} {f : Addr} {fd : FuncData}
theorem sc_sets_below : FnScope ["many", "found", "mask", "number"] ["many"] (defScope (top 54)) := ⟨rfl, rfl, rfl, by decide +kernel, rfl, by decide +kernel, by decide +kernel⟩
theorem ok_sets_below (LA : LamAt T base mg fd.code "sets_below.<locals>.<lambda>") (F : Fun K "sets_below" "sets_below" (top 54) f fd) (bb : Binds K fd ["many"] []) (g : G T K mg a) : FQ T P w K mg base 4 f s_sets_below := by
  have S := sc_sets_below
  refine fq_okLN LA F S bb (by decide) (fun cdv LA A outer sh H E hr hq => (pdb_cons (pds_set 1 S.nd rfl (by first | exact .inl rfl | exact .inr rfl) (pd_mu (pf_lst pda_nil)))
      (pdb_cons (pds_for (passes_of rfl) rfl (pdi_range1 rfl g.b_range (pda_cons (pd_op od_shl pd_int (pd_var 0)) pda_nil)) (pdg_name 2 S.nd rfl (by first | exact .inl rfl | exact .inr rfl)) (pdb_one (pds_expr (pd_append (pd_var 1) (pda_cons (pd_callTy cd_tuple rfl g.b_tuple boot_tuple (pda_cons (pd_fr (pf_lc rfl S.nd (own := [("number", 3)]) (pdi_range1 rfl g.b_range (pda_cons (pd_var 0) pda_nil)) (blkOk_by (by rfl)) tg_name (fun _ _ _ _ _ => pg_name (i := 3) S.nd rfl (by first | exact .inl rfl | exact .inr rfl)) (fun _ _ _ _ _ => ptd_one (pdt_truI (pd_op od_and (pd_op od_shr (pd_var 2) (pd_var 3)) pd_int))) (fun _ _ _ _ _ => (pd_var 3)))) pda_nil)) pda_nil)))))
      (pdb_one (pds_ret (pd_fr (pf_sortLen (k := 0) LA (hr.mono (by decide)) (pda_cons (pd_var 1) pda_nil) rfl g.b_sorted g.b_len))))))) (fun ds μ Q PX h => ?_) (fun ds μ Q PX h => ?_)
  · obtain ⟨n, rfl, _⟩ := h; rfl
  · obtain ⟨n, rfl, h1, h2, h⟩ := h
    have hp : (2 : Nat) ^ n.toNat ≤ 32 := pow2_le (k := n.toNat) (n := 5) (by omega)
    simp
    rw [pow2_cast]
    refine ⟨cpow1 h1 (by omega), ?_, ?_, ?_⟩
    · generalize (2 : Nat) ^ n.toNat = N at hp; omega
    · generalize (2 : Nat) ^ n.toNat = N at hp; omega
    rw [Int.toNat_natCast]
    unfold ranD
    refine forGo_inv (fun i : Nat => D.int (0 + (i : Nat))) (List.range (2 ^ n.toNat)) (fun i ρ μ' => ∃ u v, ρ = [some (.int n), some (.mu μ.length), u, v] ∧ μ' = μ ++ [.lst (((List.range i).map (maskSet n.toNat)).map tI)]) (fun _ _ _ _ => trivial) (fun i y ρ μ' N hi hI hN => ?_) (fun ρ μ' hI => ?_) ⟨none, none, rfl, rfl⟩
    · obtain ⟨u, v, rfl, rfl⟩ := hI
      have hi' := (List.getElem?_eq_some_iff.mp hi).1
      rw [List.length_range] at hi'
      have hy : y = i := by rw [List.getElem?_range hi'] at hi; exact (Option.some.inj hi).symm
      subst hy
      simp
      refine ⟨by omega, by omega, ?_⟩
      unfold ranD
      refine lcGo_flt (fun i : Nat => D.int (0 + (i : Nat))) (fun i : Nat => D.int (i : Nat)) (fun i => decide (y / 2 ^ i % 2 = 1)) (List.range n.toNat) [] (fun i hi => ⟨_, rfl, fun Q q => ?_, fun hb Q q => ?_⟩) trivial (by simp; unfold sizeLine; omega) ?_
      · rw [List.mem_range] at hi
        simp
        rw [bitAnd_m1]
        rw [show ((((y : Int) / 2 ^ i) % 2) != 0) = decide (y / 2 ^ i % 2 = 1) from by
          rw [show ((y : Int) / 2 ^ i) % 2 = ((y / 2 ^ i % 2 : Nat) : Int) by simp]
          have : y / 2 ^ i % 2 = 0 ∨ y / 2 ^ i % 2 = 1 := by omega
          rcases this with e | e <;> rw [e] <;> rfl]
        exact q
      · simp
        exact q
      · simp
        refine ⟨by unfold sizeLine; omega, ?_⟩
        refine hN _ _ ⟨_, _, rfl, ?_⟩
        rw [List.range_succ]
        simp [maskSet, Function.comp_def]
    · obtain ⟨u, v, rfl, rfl⟩ := hI
      simp
      refine ⟨foundL n.toNat, ?_, ?_⟩
      · rw [← found_mask (by omega), List.map_map]
      · exact seal_at [_] (by simp [Function.comp_def]) h
end
end P46

namespace P46
open PySem PySem.Spec L2 DL PyProof.Rows DB
section
variable {T : Cl} {P : Program} {w : World} {K : PySem.W.Frag} {mg : Str → Option Value} {base : Heap} {a : Ad} {f : Addr} {fd : FuncData}
theorem sc_knot : FnScope ["scheme", "many", "groups", "variables", "ring"] ["scheme"] (defScope (top 56)) := ⟨rfl, rfl, rfl, by decide +kernel, rfl, by decide +kernel, by decide +kernel⟩
theorem ok_knot (F : Fun K "knot" "knot" (top 56) f fd) (bb : Binds K fd ["scheme"] []) (g : G T K mg a) (F_check_scheme : FD T P w K mg base 9 a.check_scheme s_check_scheme) (F_is_shell : FD T P w K mg base 3 a.is_shell s_is_shell) (F_ring_of : FD T P w K mg base 5 a.ring_of s_ring_of) (F_sets_below : FQ T P w K mg base 4 a.sets_below s_sets_below) : FQ T P w K mg base 11 f s_knot := by
  have S := sc_knot
  refine fq_okN F S bb (by decide) (fun cdv A outer sh H E hr hq => (pdb_cons (pds_expr (pd_callR (FD.at_ F_check_scheme (hr.mono (by decide)) passL) g.k_check_scheme rfl g.m_check_scheme (pda_cons (pd_var 0) pda_nil)))
      (pdb_cons (pds_asg (pd_var 0) (pdg_tup [1, 2] (pg_tup rfl (pgs_cons (pg_name (i := 1) S.nd rfl (by first | exact .inl rfl | exact .inr rfl)) (pgs_cons (pg_name (i := 2) S.nd rfl (by first | exact .inl rfl | exact .inr rfl)) (pgs_nil))))))
      (pdb_cons (pds_for (passes_of rfl) rfl (pdi_list (pd_callR (FQ.at_ F_sets_below (hr.mono (by decide)) hq passL) g.k_sets_below rfl g.m_sets_below (pda_cons (pd_var 1) pda_nil))) (pdg_name 3 S.nd rfl (by first | exact .inl rfl | exact .inr rfl)) (pdb_cons (pds_if (pdt_val (pd_callR (FD.at_ F_is_shell (hr.mono (by decide)) passL) g.k_is_shell rfl g.m_is_shell (pda_cons (pd_var 2) (pda_cons (pd_var 3) pda_nil)))) (pdb_one (pds_ret (pd_tup (pda_cons pd_str (pda_cons (pd_var 3) pda_nil))))) pdb_nil)
      (pdb_cons (pds_set 4 S.nd rfl (by first | exact .inl rfl | exact .inr rfl) (pd_callR (FD.at_ F_ring_of (hr.mono (by decide)) passL) g.k_ring_of rfl g.m_ring_of (pda_cons (pd_var 2) (pda_cons (pd_var 3) pda_nil))))
      (pdb_one (pds_if (pdt_cmp od_notN (pd_var 4) pd_non) (pdb_one (pds_ret (pd_tup (pda_cons pd_str (pda_cons (pd_var 4) pda_nil))))) pdb_nil)))))
      (pdb_one (pds_ret pd_non)))))) (fun ds μ Q PX h => ?_) (fun ds μ Q PX h => ?_)
  · obtain ⟨n, gs, rfl, _⟩ := h; rfl
  · obtain ⟨n, gs, rfl, hS, h⟩ := h
    refine ⟨n, gs, rfl, hS, ?_⟩
    obtain ⟨h1, h2, h3, h4, h5⟩ := hS
    have hg3 : ∀ g ∈ gs, g.length ≤ 3 := fun g hg => (h5 g hg).2.1
    simp
    refine ⟨n, rfl, by omega, h2, ?_⟩
    simp
    refine forGo_inv tI (setsK n.toNat) (fun i ρ μ' => μ' = μ ∧ (∀ y ∈ (setsK n.toNat).take i, knotAt gs y = none) ∧ ∃ u v, ρ = [some (schemeD n gs), some (.int n), some (gsD gs), u, v]) (fun _ _ _ _ => trivial) (fun i vs ρ μ' N hi hI hN => ?_) (fun ρ μ' hI => ?_) ⟨rfl, by simp, none, none, rfl⟩
    · obtain ⟨rfl, hT, u, v, rfl⟩ := hI
      have hm := setsK_mem (List.mem_of_getElem? hi)
      simp
      refine ⟨gs, vs, rfl, h4, hg3, by omega, ?_⟩
      have hka : knotAt gs vs = if shellB gs vs then some (true, vs) else (ringO gs vs).map fun r => (false, r) := rfl
      have hno : knotAt gs vs = none → ∀ y ∈ (setsK n.toNat).take (i + 1), knotAt gs y = none := fun e y hy => by
        rw [List.take_add_one, hi] at hy
        rcases List.mem_append.mp hy with hy | hy
        · exact hT y hy
        · rw [show y = vs by simpa using hy]
          exact e
      have hyes : ∀ k, knotAt gs vs = some k → Q (knD k) μ' := fun k e => by
        have : knotOf n.toNat gs = some k := findSome_at hi hT e
        rwa [this] at h
      dsimp only
      cases e : shellB gs vs with
      | true =>
        rw [e] at hka
        simp only [if_true]
        left
        exact hyes _ hka
      | false =>
        rw [e] at hka
        simp only [Bool.false_eq_true, if_false] at hka ⊢
        refine ⟨gs, vs, rfl, h4, hg3, by omega, ?_⟩
        cases e2 : ringO gs vs with
        | none =>
          rw [e2] at hka
          refine hN _ _ ⟨rfl, hno hka, _, _, rfl⟩
        | some r =>
          rw [e2] at hka
          left
          exact hyes _ hka
    · obtain ⟨rfl, hT, u, v, rfl⟩ := hI
      rw [List.take_length] at hT
      left
      have : knotOf n.toNat gs = none := by
        unfold knotOf
        rw [List.findSome?_eq_none_iff]
        exact hT
      rwa [this] at h
end
end P46

namespace P46
open PySem PySem.Spec L2 DL PyProof.Rows DB
section
variable {T : Cl} {P : Program} {w : World} {K : PySem.W.Frag} {mg : Str → Option Value} {base : Heap} {a : Ad} {f : Addr} {fd : FuncData}
theorem sc_are_integers : FnScope ["thing", "size", "part"] ["thing", "size"] (defScope (top 3)) := ⟨rfl, rfl, rfl, by decide +kernel, rfl, by decide +kernel, by decide +kernel⟩
theorem ok_are_integers (F : Fun K "are_integers" "are_integers" (top 3) f fd) (g : G T K mg a) (F_is_integer : FD T P w K mg base 1 a.is_integer s_is_integer) : FnOk P w K mg base (L2.CX P w) 3 f fd ["thing", "size"] (spD T K s_are_integers) := by
  have S := sc_are_integers
  refine fd_okN F S (by decide) (fun cdv A outer sh H E hr => (pdb_one (pds_ret (pd_and (pd_callB (cd_isi g.isi) rfl g.b_isinstance boot_isinstance (pda_cons (pd_var 0) (pda_cons (pd_gty rfl g.b_tuple boot_tuple) pda_nil))) (pd_and (pd_cmp (od_eq hr) (pd_callB cd_len rfl g.b_len boot_len (pda_cons (pd_var 0) pda_nil)) (pd_var 1)) (pd_one (pd_callB (cd_all rfl) rfl g.b_all boot_all (pda_cons (pd_fr (pf_lc rfl S.nd (own := [("part", 2)]) (pdi_tup (pd_var 0)) (blkOk_by (by rfl)) tg_name (fun _ _ _ _ _ => pg_name (i := 2) S.nd rfl (by first | exact .inl rfl | exact .inr rfl)) (fun _ _ _ _ _ => ptd_nil) (fun _ _ _ _ _ => (pd_callR (FD.at_ F_is_integer (hr.mono (by decide)) passL) g.k_is_integer rfl g.m_is_integer (pda_cons (pd_var 2) pda_nil))))) pda_nil)))))))) (fun ds μ Q PX h => ?_) (fun ds μ Q PX h => ?_)
  · obtain ⟨ns, k, rfl, _⟩ := h; rfl
  · obtain ⟨ns, k, rfl, h1, h⟩ := h
    simp [J]
    by_cases hk : (ns.length : Int) = k
    · rw [if_pos hk]
      refine lcGo_map D.int (fun _ => .bl true) ns (fun x hx => ⟨_, rfl, fun Q q => ?_⟩) trivial (by unfold sizeLine; omega) ?_
      · simp
        exact ⟨x, rfl, q⟩
      · rw [map_bl (fun _ => true), blsOf_bls]
        rw [decide_eq_true hk] at h
        left
        have e : (ns.map fun _ => true).all id = true := by simp
        rw [e]
        exact h
    · rw [if_neg hk]
      left
      simpa [hk] using h
end
end P46

namespace P46
open PySem PySem.Spec L2 DL PyProof.Rows DB
section
variable {T : Cl} {P : Program} {w : World} {K : PySem.W.Frag} {mg : Str → Option Value} {base : Heap} {a : Ad} {f : Addr} {fd : FuncData}
theorem sc_shows_knot : FnScope ["scheme", "thing", "word", "variables"] ["scheme", "thing"] (defScope (top 57)) := ⟨rfl, rfl, rfl, by decide +kernel, rfl, by decide +kernel, by decide +kernel⟩
theorem ok_shows_knot (F : Fun K "shows_knot" "shows_knot" (top 57) f fd) (g : G T K mg a) (F_are_integers : FD T P w K mg base 3 a.are_integers s_are_integers) (F_check_scheme : FD T P w K mg base 9 a.check_scheme s_check_scheme) (F_is_ascending : FD T P w K mg base 1 a.is_ascending s_is_ascending) (F_is_ring : FD T P w K mg base 3 a.is_ring s_is_ring) (F_is_shell : FD T P w K mg base 3 a.is_shell s_is_shell) : FnOk P w K mg base (L2.CX P w) 11 f fd ["scheme", "thing"] (spD T K s_shows_knot) := by
  have S := sc_shows_knot
  refine fd_okN F S (by decide) (fun cdv A outer sh H E hr => (pdb_cons (pds_expr (pd_callR (FD.at_ F_check_scheme (hr.mono (by decide)) passL) g.k_check_scheme rfl g.m_check_scheme (pda_cons (pd_var 0) pda_nil)))
      (pdb_cons (pds_if (PDW.pt (pdw_or (pdt_not (pdt_val (pd_callB (cd_isi g.isi) rfl g.b_isinstance boot_isinstance (pda_cons (pd_var 1) (pda_cons (pd_gty rfl g.b_tuple boot_tuple) pda_nil))))) (pdw_or1 (pdt_cmp (od_ne hr) (pd_callB cd_len rfl g.b_len boot_len (pda_cons (pd_var 1) pda_nil)) pd_int)))) (pdb_one (pds_ret pd_bl)) pdb_nil)
      (pdb_cons (pds_asg (pd_var 1) (pdg_tup [2, 3] (pg_tup rfl (pgs_cons (pg_name (i := 2) S.nd rfl (by first | exact .inl rfl | exact .inr rfl)) (pgs_cons (pg_name (i := 3) S.nd rfl (by first | exact .inl rfl | exact .inr rfl)) (pgs_nil))))))
      (pdb_cons (pds_if (PDW.pt (pdw_or (pdt_not (pdt_val (pd_callB (cd_isi g.isi) rfl g.b_isinstance boot_isinstance (pda_cons (pd_var 3) (pda_cons (pd_gty rfl g.b_tuple boot_tuple) pda_nil))))) (pdw_or1 (pdt_not (pdt_val (pd_callR (FD.at_ F_are_integers (hr.mono (by decide)) passL) g.k_are_integers rfl g.m_are_integers (pda_cons (pd_var 3) (pda_cons (pd_callB cd_len rfl g.b_len boot_len (pda_cons (pd_var 3) pda_nil)) pda_nil)))))))) (pdb_one (pds_ret pd_bl)) pdb_nil)
      (pdb_cons (pds_if (pdt_cmp od_eqS (pd_var 2) pd_str) (pdb_one (pds_ret (pd_and (pd_callR (FD.at_ F_is_ascending (hr.mono (by decide)) passL) g.k_is_ascending rfl g.m_is_ascending (pda_cons (pd_var 3) pda_nil)) (pd_one (pd_callR (FD.at_ F_is_shell (hr.mono (by decide)) passL) g.k_is_shell rfl g.m_is_shell (pda_cons (pd_ix (pd_var 0) pd_int) (pda_cons (pd_var 3) pda_nil))))))) pdb_nil)
      (pdb_one (pds_ret (pd_and (pd_cmp od_eqS (pd_var 2) pd_str) (pd_one (pd_callR (FD.at_ F_is_ring (hr.mono (by decide)) passL) g.k_is_ring rfl g.m_is_ring (pda_cons (pd_ix (pd_var 0) pd_int) (pda_cons (pd_var 3) pda_nil))))))))))))) (fun ds μ Q PX h => ?_) (fun ds μ Q PX h => ?_)
  · obtain ⟨n, gs, k, rfl, _⟩ := h; rfl
  · obtain ⟨n, gs, k, rfl, hS, hl, h⟩ := h
    refine ⟨n, gs, rfl, hS, ?_⟩
    obtain ⟨h1, h2, h3, h4, h5⟩ := hS
    have hg3 : ∀ g ∈ gs, g.length ≤ 3 := fun g hg => (h5 g hg).2.1
    have e1 : atI [.int n, gsD gs] 1 = some (gsD gs) := rfl
    have ne1 : ¬ (Str.ofString "ring" = Str.ofString "shell") := by decide +kernel
    have ne2 : ¬ (Str.ofString "shell" = Str.ofString "ring") := by decide +kernel
    simp [e1, J, knD]
    refine ⟨k.2, _, rfl, by omega, ?_⟩
    obtain ⟨k1, vs⟩ := k
    unfold knotRight at h
    cases k1 with
    | true =>
      simp only [decide_true, if_true] at h ⊢
      simp
      refine ⟨vs, rfl, by have hl : vs.length ≤ 5 := hl; omega, ?_⟩
      by_cases hp : vs.Pairwise (· < ·)
      · rw [decide_eq_true hp, Bool.true_and] at h
        simp only [decide_eq_true hp]
        simp
        exact ⟨gs, vs, rfl, h4, hg3, hl, .inl h⟩
      · rw [decide_eq_false hp, Bool.false_and] at h
        simp only [decide_eq_false hp]
        simp
        exact .inl h
    | false =>
      simp only [decide_true, if_true, Bool.false_eq_true, if_false] at h ⊢
      simp [ne1]
      exact ⟨gs, vs, rfl, h4, hg3, hl, .inl h⟩
end
end P46

namespace P46
open PySem PySem.Spec L2 DL PyProof.Rows DB
section
variable {T : Cl} {P : Program} {w : World} {K : PySem.W.Frag} {mg : Str → Option Value} {base : Heap} {a : Ad} {f : Addr} {fd : FuncData}
theorem sc_is_step : FnScope ["groups", "left", "pair", "one", "other", "elsewhere", "number", "variable"] ["groups", "left", "pair"] (defScope (top 52)) := ⟨rfl, rfl, rfl, by decide +kernel, rfl, by decide +kernel, by decide +kernel⟩
theorem ok_is_step (F : Fun K "is_step" "is_step" (top 52) f fd) (g : G T K mg a) : FnOk P w K mg base (L2.CX P w) 1 f fd ["groups", "left", "pair"] (spD T K s_is_step) := by
  have S := sc_is_step
  refine fd_okN F S (by decide) (fun cdv A outer sh H E hr => (pdb_cons (pds_asg (pd_var 2) (pdg_tup [3, 4] (pg_tup rfl (pgs_cons (pg_name (i := 3) S.nd rfl (by first | exact .inl rfl | exact .inr rfl)) (pgs_cons (pg_name (i := 4) S.nd rfl (by first | exact .inl rfl | exact .inr rfl)) (pgs_nil))))))
      (pdb_cons (pds_if (PDW.pt (pdw_or (pdt_cmp (od_eq hr) (pd_var 3) (pd_var 4)) (pdw_or (pdt_cmp od_notin (pd_var 3) (pd_var 1)) (pdw_or1 (pdt_cmp od_notin (pd_var 4) (pd_var 1)))))) (pdb_one (pds_ret pd_bl)) pdb_nil)
      (pdb_cons (pds_set 5 S.nd rfl (by first | exact .inl rfl | exact .inr rfl) (pd_fr (pf_lc2 rfl S.nd (own := [("number", 6), ("variable", 7)]) (own1 := [7]) (pdi_list (pd_var 1)) (blkOk_by (by rfl)) (by decide) tg_name tg_name (fun _ _ _ _ _ => pg_name (i := 6) S.nd rfl (by first | exact .inl rfl | exact .inr rfl)) (fun _ _ _ _ _ => ptd_one (pdt_cmp (od_ne hr) (pd_var 6) (pd_var 3))) (fun _ _ _ _ _ => (pd_ix (pd_var 0) (pd_var 6))) (fun _ _ _ _ _ => pg_name (i := 7) S.nd rfl (by first | exact .inl rfl | exact .inr rfl)) (fun _ _ _ _ _ => ptd_nil) (fun _ _ _ _ _ => (pd_var 7)))))
      (pdb_one (pds_ret (pd_callB (cd_all rfl) rfl g.b_all boot_all (pda_cons (pd_fr (pf_lc rfl S.nd (own := [("variable", 7)]) (pdi_tup (pd_ix (pd_var 0) (pd_var 3))) (blkOk_by (by rfl)) tg_name (fun _ _ _ _ _ => pg_name (i := 7) S.nd rfl (by first | exact .inl rfl | exact .inr rfl)) (fun _ _ _ _ _ => ptd_one (pdt_cmp od_in (pd_var 7) (pd_var 5))) (fun _ _ _ _ _ => (pd_cmp od_in (pd_var 7) (pd_ix (pd_var 0) (pd_var 4)))))) pda_nil)))))))) (fun ds μ Q PX h => ?_) (fun ds μ Q PX h => ?_)
  · obtain ⟨gs, l, ls, one, other, rfl, _⟩ := h; rfl
  · obtain ⟨gs, l, ls, one, other, rfl, hl, hO, h⟩ := h
    obtain ⟨q1, q2, q3, q4⟩ := hO
    have no : ¬ isStep gs ls one other → Seal μ Q (.bl false) μ := fun z => .inl (by rwa [decide_eq_false z] at h)
    rcases hl with rfl | ⟨m, rfl, hm⟩
    case' inl => simp [flatsD_ints, inV_int, flatD]
    case' inr => simp [hm, flatsD_ints, inV_int, flatD]
    all_goals
      by_cases e1 : one = other
      · rw [if_pos e1]; exact no fun z => z.1 e1
      rw [if_neg e1]
      by_cases e2 : one ∈ ls
      rotate_left
      · rw [if_neg e2]; exact no fun z => e2 z.2.1
      rw [if_pos e2]
      by_cases e3 : other ∈ ls
      rotate_left
      · rw [if_neg e3]; exact no fun z => e3 z.2.2.1
      rw [if_pos e3]
      obtain ⟨z1, z2⟩ := q4 one e2
      obtain ⟨y1, y2⟩ := q4 other e3
      have hfl : ((ls.filter fun k => decide (k ≠ one)).flatMap (gA gs)).length ≤ 15 := by
        have := sum_le (f := gA gs) (k := 3) (xs := ls.filter fun k => decide (k ≠ one)) fun k hk => q2 _ (gA_mem (q4 k (List.mem_filter.mp hk).1).1 (q4 k (List.mem_filter.mp hk).1).2)
        have := List.length_filter_le (fun k => decide (k ≠ one)) ls
        omega
      refine lcGo2_flat D.int (fun k => decide (k ≠ one)) (gA gs) D.int D.int ls [] (fun k hk => ⟨_, rfl, fun Q q => ?_, fun hb => ⟨⟨tI (gA gs k), rfl, fun Q q => ?_⟩, fun y hy => ⟨_, rfl, fun Q q => q, fun Q q => ?_⟩⟩⟩) (by first | trivial | exact hm) (by rw [List.length_nil]; unfold sizeLine; omega) ?_
      · simp
        simpa using q
      · obtain ⟨k1, k2⟩ := q4 k hk
        simp
        rw [atI_gA k1 k2]
        exact q
      · simp
        exact q
      · rw [List.nil_append, atI_gA z1 z2]
        simp only [tupOf]
        have hE : ∀ v, v ∈ (ls.filter fun k => decide (k ≠ one)).flatMap (gA gs) ↔ ∃ k ∈ ls, k ≠ one ∧ v ∈ gA gs k := fun v => by
          simp only [List.mem_flatMap, List.mem_filter, decide_eq_true_eq, and_assoc]
        generalize (ls.filter fun k => decide (k ≠ one)).flatMap (gA gs) = E at hE hfl ⊢
        refine lcGo_flt D.int (fun v => .bl (decide (v ∈ gA gs other))) (fun v => decide (v ∈ E)) (gA gs one) [] (fun v hv => ⟨_, rfl, fun Q q => ?_, fun hb Q q => ?_⟩) trivial (by have := q2 _ (gA_mem z1 z2); rw [List.length_nil]; unfold sizeLine; omega) ?_
        · simp [flatsD_ints, inV_int, flatD]
          simpa using q
        · simp
          rw [atI_gA y1 y2]
          simp [flatsD_ints, inV_int, flatD]
          exact q
        · rw [List.nil_append, map_bl, blsOf_bls]
          left
          rw [show decide (isStep gs ls one other) = ((List.map (fun v => decide (v ∈ gA gs other)) (List.filter (fun v => decide (v ∈ E)) (gA gs one))).all id) from ?_] at h
          · exact h
          · rw [Bool.eq_iff_iff, decide_eq_true_iff]
            simp only [List.all_map, List.all_eq_true, List.mem_filter, Function.comp_def, id, decide_eq_true_eq, hE]
            constructor
            · intro k v hv
              exact k.2.2.2 v hv.1 hv.2
            · intro k
              exact ⟨e1, e2, e3, fun v hv hk => k v ⟨hv, hk⟩⟩
end
end P46

namespace P46
open PySem PySem.Spec L2 DL PyProof.Rows DB
section
variable {T : Cl} {P : Program} {w : World} {K : PySem.W.Frag} {mg : Str → Option Value} {base : Heap} {a : Ad} {f : Addr} {fd : FuncData}
theorem sc_shows_steps : FnScope ["scheme", "thing", "groups", "left", "step"] ["scheme", "thing"] (defScope (top 49)) := ⟨rfl, rfl, rfl, by decide +kernel, rfl, by decide +kernel, by decide +kernel⟩
theorem ok_shows_steps (F : Fun K "shows_steps" "shows_steps" (top 49) f fd) (g : G T K mg a) (F_are_integers : FD T P w K mg base 3 a.are_integers s_are_integers) (F_check_scheme : FD T P w K mg base 9 a.check_scheme s_check_scheme) (F_is_step : FD T P w K mg base 1 a.is_step s_is_step) : FnOk P w K mg base (L2.CX P w) 11 f fd ["scheme", "thing"] (spD T K s_shows_steps) := by
  have S := sc_shows_steps
  refine fd_okN F S (by decide) (fun cdv A outer sh H E hr => (pdb_cons (pds_expr (pd_callR (FD.at_ F_check_scheme (hr.mono (by decide)) passL) g.k_check_scheme rfl g.m_check_scheme (pda_cons (pd_var 0) pda_nil)))
      (pdb_cons (pds_set 2 S.nd rfl (by first | exact .inl rfl | exact .inr rfl) (pd_ix (pd_var 0) pd_int))
      (pdb_cons (pds_if (PDW.pt (pdw_or (pdt_not (pdt_val (pd_callB (cd_isi g.isi) rfl g.b_isinstance boot_isinstance (pda_cons (pd_var 1) (pda_cons (pd_gty rfl g.b_tuple boot_tuple) pda_nil))))) (pdw_or1 (pdt_cmp (od_ne hr) (pd_callB cd_len rfl g.b_len boot_len (pda_cons (pd_var 1) pda_nil)) (pd_op od_sub (pd_callB cd_len rfl g.b_len boot_len (pda_cons (pd_var 2) pda_nil)) pd_int))))) (pdb_one (pds_ret pd_bl)) pdb_nil)
      (pdb_cons (pds_set 3 S.nd rfl (by first | exact .inl rfl | exact .inr rfl) (pd_mu (pf_listR1 rfl rfl g.b_list rfl g.b_range (pd_callB cd_len rfl g.b_len boot_len (pda_cons (pd_var 2) pda_nil)))))
      (pdb_cons (pds_for (passes_of rfl) rfl (pdi_tup (pd_var 1)) (pdg_name 4 S.nd rfl (by first | exact .inl rfl | exact .inr rfl)) (pdb_cons (pds_if (PDW.pt (pdw_or (pdt_not (pdt_val (pd_callR (FD.at_ F_are_integers (hr.mono (by decide)) passL) g.k_are_integers rfl g.m_are_integers (pda_cons (pd_var 4) (pda_cons pd_int pda_nil))))) (pdw_or1 (pdt_not (pdt_val (pd_callR (FD.at_ F_is_step (hr.mono (by decide)) passL) g.k_is_step rfl g.m_is_step (pda_cons (pd_var 2) (pda_cons (pd_var 3) (pda_cons (pd_var 4) pda_nil))))))))) (pdb_one (pds_ret pd_bl)) pdb_nil)
      (pdb_one (pds_expr (pd_remove rfl (pd_var 3) (pd_ix (pd_var 4) pd_int))))))
      (pdb_one (pds_ret pd_bl)))))))) (fun ds μ Q PX h => ?_) (fun ds μ Q PX h => ?_)
  · obtain ⟨n, gs, ts, rfl, _⟩ := h; rfl
  · obtain ⟨n, gs, ts, rfl, hS, hl, h⟩ := h
    refine ⟨n, gs, rfl, hS, ?_⟩
    obtain ⟨h1, h2, h3, h4, h5⟩ := hS
    have e1 : atI [.int n, gsD gs] 1 = some (gsD gs) := rfl
    have hO : okL gs (numsI gs.length) := okL_nums h4 fun g hg => (h5 g hg).2.1
    simp [e1, ranD_nums, J]
    by_cases hlen : (ts.length : Int) = (gs.length : Int) - 1
    rotate_left
    · rw [if_neg hlen]
      rw [decide_eq_false (by omega)] at h
      exact .inl h
    rw [if_pos hlen]
    rw [decide_eq_true (by omega), Bool.true_and] at h
    refine ⟨by omega, ?_⟩
    refine forGo_inv pairI ts (fun i ρ μ' => ∃ (ls : List Int) (u : Option D), okL gs ls ∧ runS gs ts (numsI gs.length) = runS gs (ts.drop i) ls ∧ ρ = [some (schemeD n gs), some (.tup (ts.map pairI)), some (gsD gs), some (.mu μ.length), u] ∧ μ' = μ ++ [.lst (ls.map D.int)]) (fun _ _ _ _ => trivial) (fun i p ρ μ' N hi hI hN => ?_) (fun ρ μ' hI => ?_) ⟨_, none, hO, rfl, rfl, rfl⟩
    · obtain ⟨ls, u, hOl, hr, rfl, rfl⟩ := hI
      have g0 : (μ ++ [MC.lst (ls.map D.int)])[μ.length]? = some (.lst (ls.map D.int)) := by simp
      have hlt := (List.getElem?_eq_some_iff.mp hi).1
      have hd : ts.drop i = p :: ts.drop (i + 1) := by
        rw [List.drop_eq_getElem_cons hlt, (List.getElem?_eq_some_iff.mp hi).2]
      obtain ⟨a, b⟩ := p
      have hr2 : runS gs ((a, b) :: ts.drop (i + 1)) ls = (decide (isStep gs ls a b) && runS gs (ts.drop (i + 1)) (ls.erase a)) := rfl
      rw [hd, hr2] at hr
      have e0 : atI [D.int a, D.int b] 0 = some (.int a) := rfl
      simp [pairI]
      refine ⟨[a, b], 2, rfl, by simp, ?_⟩
      simp
      refine ⟨gs, _, ls, a, b, rfl, .inr ⟨_, rfl, g0⟩, hOl, ?_⟩
      by_cases hs : isStep gs ls a b
      · simp only [decide_eq_true hs] at hr ⊢
        simp [g0, e0]
        refine ⟨ls, rfl, hs.2.1, hN _ _ ⟨ls.erase a, _, okL_erase hOl, ?_, rfl, by simp⟩⟩
        simpa using hr
      · simp only [decide_eq_false hs] at hr ⊢
        simp
        rw [hr] at h
        exact seal_at [_] rfl h
    · obtain ⟨ls, u, hOl, hr, rfl, rfl⟩ := hI
      rw [List.drop_length] at hr
      rw [hr] at h
      exact seal_at [_] rfl h
end
end P46

namespace P46
open PySem PySem.Spec L2 DL PyProof.Rows DB
section
variable {T : Cl} {P : Program} {w : World} {K : PySem.W.Frag} {mg : Str → Option Value} {base : Heap} {a : Ad} {f : Addr} {fd : FuncData}
theorem sc_first_step : FnScope ["groups", "left", "one", "other"] ["groups", "left"] (defScope (top 51)) := ⟨rfl, rfl, rfl, by decide +kernel, rfl, by decide +kernel, by decide +kernel⟩
theorem ok_first_step (F : Fun K "first_step" "first_step" (top 51) f fd) (g : G T K mg a) (F_is_step : FD T P w K mg base 1 a.is_step s_is_step) : FnOk P w K mg base (L2.CX P w) 3 f fd ["groups", "left"] (spD T K s_first_step) := by
  have S := sc_first_step
  refine fd_okN F S (by decide) (fun cdv A outer sh H E hr => (pdb_cons (pds_for (passes_of rfl) rfl (pdi_list (pd_var 1)) (pdg_name 2 S.nd rfl (by first | exact .inl rfl | exact .inr rfl)) (pdb_one (pds_for (passes_of rfl) rfl (pdi_list (pd_var 1)) (pdg_name 3 S.nd rfl (by first | exact .inl rfl | exact .inr rfl)) (pdb_one (pds_if (pdt_val (pd_callR (FD.at_ F_is_step (hr.mono (by decide)) passL) g.k_is_step rfl g.m_is_step (pda_cons (pd_var 0) (pda_cons (pd_var 1) (pda_cons (pd_tup (pda_cons (pd_var 2) (pda_cons (pd_var 3) pda_nil))) pda_nil))))) (pdb_one (pds_ret (pd_tup (pda_cons (pd_var 2) (pda_cons (pd_var 3) pda_nil))))) pdb_nil)))))
      (pdb_one (pds_ret pd_non)))) (fun ds μ Q PX h => ?_) (fun ds μ Q PX h => ?_)
  · obtain ⟨gs, l, ls, rfl, _⟩ := h; rfl
  · obtain ⟨gs, l, ls, rfl, hl, hO, h⟩ := h
    have hll := hl
    rcases hl with rfl | ⟨m, rfl, hm⟩
    case' inl => simp
    case' inr => simp [hm]
    all_goals
      refine forGo_inv D.int ls (fun i ρ μ' => μ' = μ ∧ ∃ u w, ρ = [some (gsD gs), some _, u, w] ∧ ∀ x ∈ ls.take i, ∀ y ∈ ls, ¬ isStep gs ls x y) (fun _ _ _ hI => by first | trivial | (rw [hI.1]; exact hm)) (fun i a ρ μ' N hi hI hN => ?_) (fun ρ μ' hI => ?_) ⟨rfl, none, none, rfl, by simp⟩
      · obtain ⟨rfl, u, w, rfl, hI⟩ := hI
        first | simp [hm] | simp
        refine forGo_inv D.int ls (fun j ρ μ'' => μ'' = μ' ∧ ∃ w, ρ = [some (gsD gs), some _, some (.int a), w] ∧ ∀ y ∈ ls.take j, ¬ isStep gs ls a y) (fun _ _ _ hJ => by first | trivial | (rw [hJ.1]; exact hm)) (fun j b ρ μ'' N' hj hJ hN' => ?_) (fun ρ μ'' hJ => ?_) ⟨rfl, w, rfl, by simp⟩
        · obtain ⟨rfl, w, rfl, hJ⟩ := hJ
          simp
          refine ⟨gs, _, ls, a, b, rfl, hll, hO, ?_⟩
          by_cases e : isStep gs ls a b
          · simp only [decide_eq_true e, if_true]
            refine .inl ?_
            rwa [head_pair hi hj hI hJ e] at h
          · simp only [decide_eq_false e]
            refine hN' _ _ ⟨rfl, _, rfl, fun y hy => ?_⟩
            rw [List.take_add_one, hj] at hy
            rcases List.mem_append.mp hy with hy | hy
            · exact hJ y hy
            · rwa [show y = b by simpa using hy]
        · obtain ⟨rfl, w, rfl, hJ⟩ := hJ
          rw [List.take_length] at hJ
          refine hN _ _ ⟨rfl, _, _, rfl, fun x hx => ?_⟩
          rw [List.take_add_one, hi] at hx
          rcases List.mem_append.mp hx with hx | hx
          · exact hI x hx
          · rw [show x = a by simpa using hx]
            exact hJ
      · obtain ⟨rfl, u, w, rfl, hI⟩ := hI
        rw [List.take_length] at hI
        simp
        left
        rwa [no_pair hI] at h
end
end P46

namespace P46
open PySem PySem.Spec L2 DL PyProof.Rows DB
section
variable {T : Cl} {P : Program} {w : World} {K : PySem.W.Frag} {mg : Str → Option Value} {base : Heap} {a : Ad} {f : Addr} {fd : FuncData}
theorem sc_steps : FnScope ["scheme", "groups", "left", "taken", "step"] ["scheme"] (defScope (top 48)) := ⟨rfl, rfl, rfl, by decide +kernel, rfl, by decide +kernel, by decide +kernel⟩
theorem ok_steps (F : Fun K "steps" "steps" (top 48) f fd) (g : G T K mg a) (F_check_scheme : FD T P w K mg base 9 a.check_scheme s_check_scheme) (F_first_step : FD T P w K mg base 3 a.first_step s_first_step) : FnOk P w K mg base (L2.CX P w) 11 f fd ["scheme"] (spD T K s_steps) := by
  have S := sc_steps
  refine fd_okN F S (by decide) (fun cdv A outer sh H E hr => (pdb_cons (pds_expr (pd_callR (FD.at_ F_check_scheme (hr.mono (by decide)) passL) g.k_check_scheme rfl g.m_check_scheme (pda_cons (pd_var 0) pda_nil)))
      (pdb_cons (pds_set 1 S.nd rfl (by first | exact .inl rfl | exact .inr rfl) (pd_ix (pd_var 0) pd_int))
      (pdb_cons (pds_set 2 S.nd rfl (by first | exact .inl rfl | exact .inr rfl) (pd_mu (pf_listR1 rfl rfl g.b_list rfl g.b_range (pd_callB cd_len rfl g.b_len boot_len (pda_cons (pd_var 1) pda_nil)))))
      (pdb_cons (pds_set 3 S.nd rfl (by first | exact .inl rfl | exact .inr rfl) (pd_mu (pf_lst pda_nil)))
      (pdb_cons (pds_while (passes_of rfl) (pdt_cmp od_gt (pd_callB cd_len rfl g.b_len boot_len (pda_cons (pd_var 2) pda_nil)) pd_int) (pdb_cons (pds_set 4 S.nd rfl (by first | exact .inl rfl | exact .inr rfl) (pd_callR (FD.at_ F_first_step (hr.mono (by decide)) passL) g.k_first_step rfl g.m_first_step (pda_cons (pd_var 1) (pda_cons (pd_var 2) pda_nil))))
      (pdb_cons (pds_if (pdt_cmp od_isN (pd_var 4) pd_non) (pdb_one (pds_ret pd_non)) pdb_nil)
      (pdb_cons (pds_expr (pd_append (pd_var 3) (pda_cons (pd_var 4) pda_nil)))
      (pdb_one (pds_expr (pd_remove rfl (pd_var 2) (pd_ix (pd_var 4) pd_int))))))))
      (pdb_one (pds_ret (pd_callTy cd_tuple rfl g.b_tuple boot_tuple (pda_cons (pd_var 3) pda_nil)))))))))) (fun ds μ Q PX h => ?_) (fun ds μ Q PX h => ?_)
  · obtain ⟨n, gs, rfl, _⟩ := h; rfl
  · obtain ⟨n, gs, rfl, hS, h⟩ := h
    refine ⟨n, gs, rfl, hS, ?_⟩
    obtain ⟨h1, h2, h3, h4, h5⟩ := hS
    have e1 : atI [.int n, gsD gs] 1 = some (gsD gs) := rfl
    have hO : okL gs (numsI gs.length) := okL_nums h4 fun g hg => (h5 g hg).2.1
    simp [e1, ranD_nums]
    refine ⟨by omega, ?_⟩
    refine ⟨fun m ρ μ' => ∃ (ls : List Int) (ts : List (Int × Int)) (u : Option D), m = ls.length ∧ 1 ≤ ls.length ∧ okL gs ls ∧ ρ = [some (schemeD n gs), some (gsD gs), some (.mu μ.length), some (.mu (μ.length + 1)), u] ∧ μ' = μ ++ [.lst (ls.map D.int), .lst (ts.map pairI)] ∧ ts.length + ls.length ≤ 6 ∧ stepsOf gs = (takeSteps gs (ls.length - 1) ls).map (ts ++ ·), ⟨_, numsI gs.length, [], none, rfl, by simpa [numsI] using h3, hO, rfl, rfl, by simp [numsI]; omega, ?_⟩, fun m ρ μ' hI => ?_⟩
    · unfold stepsOf
      rw [show (numsI gs.length).length = gs.length by simp [numsI]]
      simp
    · obtain ⟨ls, ts, u, rfl, hl1, hOl, rfl, rfl, hlen, hst⟩ := hI
      have g0 : (μ ++ [MC.lst (ls.map D.int), .lst (ts.map pairI)])[μ.length]? = some (.lst (ls.map D.int)) := by simp
      have g1 : (μ ++ [MC.lst (ls.map D.int), .lst (ts.map pairI)])[μ.length + 1]? = some (.lst (ts.map pairI)) := by simp
      simp [g0, g1]
      by_cases hlt : 1 < (ls.length : Int)
      · rw [if_pos hlt]
        refine ⟨gs, _, ls, rfl, .inr ⟨_, rfl, g0⟩, hOl, ?_⟩
        have hk : ls.length - 1 = (ls.length - 2) + 1 := by omega
        rw [hk] at hst
        unfold takeSteps at hst
        cases hp : (prsOf gs ls).head? with
        | none =>
          rw [hp] at hst
          simp at hst
          rw [hst] at h
          simp [stepD]
          exact seal_at [_, _] rfl h
        | some p =>
          rw [hp] at hst
          have hpm := pairs_mem (List.mem_of_mem_head? (by rw [hp]; rfl))
          have hel : (ls.erase p.1).length = ls.length - 1 := List.length_erase_of_mem hpm.1
          obtain ⟨a, b⟩ := p
          have e0 : atI [D.int a, D.int b] 0 = some (.int a) := rfl
          simp [stepD, pairI, g0, g1, e0]
          refine ⟨by unfold sizeLine; omega, ls, rfl, hpm.1, ls.length - 1, by omega, ls.erase a, hel.symm, by rw [show (ls.erase a).length = ls.length - 1 from hel]; omega, okL_erase hOl, ts ++ [(a, b)], ⟨rfl, by simp [pairI]⟩, by rw [show (ls.erase a).length = ls.length - 1 from hel, List.length_append]; simp; omega, ?_⟩
          rw [hst, show (ls.erase a).length = ls.length - 1 from hel, show ls.length - 1 - 1 = ls.length - 2 by omega]
          simp [Function.comp_def]
      · rw [if_neg hlt]
        have : ls.length - 1 = 0 := by omega
        rw [this] at hst
        simp [takeSteps] at hst
        rw [hst] at h
        exact seal_at [_, _] (closedAll_pairs _ _) h
end
end P46

namespace P46
open PySem PySem.Spec L2 DL PyProof.Rows DB
section
variable {T : Cl} {P : Program} {w : World} {K : PySem.W.Frag} {mg : Str → Option Value} {base : Heap} {a : Ad} {f : Addr} {fd : FuncData}
theorem sc_law_right : FnScope ["_law_pen_here", "_law_scheme_here", "_law_told", "_law_tied", "_law_word", "_law_names", "_law_by", "_law_row"] ["_law_pen_here"] (defScope (top 69)) := ⟨rfl, rfl, rfl, by decide +kernel, rfl, by decide +kernel, by decide +kernel⟩
theorem ok_law_right (F : Fun K "_law_right" "_law_right" (top 69) f fd) (bb : Binds K fd ["_law_pen_here"] []) (g : G T K mg a) (F_law_draw : FD T P w K mg base 1 a.law_draw s_law_draw) (F_law_scheme : FD T P w K mg base 7 a.law_scheme s_law_scheme) (F_is_scheme : FD T P w K mg base 7 a.is_scheme s_is_scheme) (F_knot : FQ T P w K mg base 11 a.knot s_knot) (F_shows_knot : FD T P w K mg base 11 a.shows_knot s_shows_knot) (F_shows_steps : FD T P w K mg base 11 a.shows_steps s_shows_steps) (F_steps : FD T P w K mg base 11 a.steps s_steps) : FQ T P w K mg base 13 f s_law_right := by
  have S := sc_law_right
  refine fq_okN F S bb (by decide) (fun cdv A outer sh H E hr hq => (pdb_cons (pds_set 1 S.nd rfl (by first | exact .inl rfl | exact .inr rfl) (pd_callR (FD.at_ F_law_scheme (hr.mono (by decide)) passL) g.k_law_scheme rfl g.m_law_scheme (pda_cons (pd_var 0) pda_nil)))
      (pdb_cons (pds_par 2 3 rfl S.nd rfl rfl (by decide) rfl rfl (pda_cons (pd_callR (FD.at_ F_steps (hr.mono (by decide)) passL) g.k_steps rfl g.m_steps (pda_cons (pd_var 1) pda_nil)) (pda_cons (pd_callR (FQ.at_ F_knot (hr.mono (by decide)) hq passL) g.k_knot rfl g.m_knot (pda_cons (pd_var 1) pda_nil)) pda_nil)))
      (pdb_cons (pds_if (PDW.pt (pdw_or (pdt_cmp od_notBl (pd_callR (FD.at_ F_is_scheme (hr.mono (by decide)) passL) g.k_is_scheme rfl g.m_is_scheme (pda_cons (pd_var 1) pda_nil)) pd_bl) (pdw_or1 (pdt_cmp (od_ne hr) (pd_cmp od_isN (pd_var 2) pd_non) (pd_cmp od_notN (pd_var 3) pd_non))))) (pdb_one (pds_ret pd_bl)) pdb_nil)
      (pdb_cons (pds_if (pdt_cmp od_isN (pd_var 3) pd_non) (pdb_one (pds_ret (pd_cmp od_isBl (pd_callR (FD.at_ F_shows_steps (hr.mono (by decide)) passL) g.k_shows_steps rfl g.m_shows_steps (pda_cons (pd_var 1) (pda_cons (pd_var 2) pda_nil))) pd_bl))) pdb_nil)
      (pdb_cons (pds_asg (pd_var 3) (pdg_tup [4, 5] (pg_tup rfl (pgs_cons (pg_name (i := 4) S.nd rfl (by first | exact .inl rfl | exact .inr rfl)) (pgs_cons (pg_name (i := 5) S.nd rfl (by first | exact .inl rfl | exact .inr rfl)) (pgs_nil))))))
      (pdb_cons (pds_if (pdt_cmp od_eqS (pd_var 4) pd_str) (pdb_cons (pds_set 6 S.nd rfl (by first | exact .inl rfl | exact .inr rfl) (pd_callR (FD.at_ F_law_draw (hr.mono (by decide)) passL) g.k_law_draw rfl g.m_law_draw (pda_cons (pd_var 0) (pda_cons (pd_callB cd_len rfl g.b_len boot_len (pda_cons (pd_var 5) pda_nil)) pda_nil))))
      (pdb_one (pds_for (passes_of rfl) rfl (pdi_list (pd_fr (pf_lst (pda_cons (pd_op od_catT (pd_sliceT (pd_var 5) (pdo_some (pd_var 6)) pdo_none) (pd_sliceT (pd_var 5) pdo_none (pdo_some (pd_var 6)))) (pda_cons (pd_revT (pd_var 5)) pda_nil))))) (pdg_name 7 S.nd rfl (by first | exact .inl rfl | exact .inr rfl)) (pdb_one (pds_if (pdt_cmp od_notBl (pd_callR (FD.at_ F_shows_knot (hr.mono (by decide)) passL) g.k_shows_knot rfl g.m_shows_knot (pda_cons (pd_var 1) (pda_cons (pd_tup (pda_cons pd_str (pda_cons (pd_var 7) pda_nil))) pda_nil))) pd_bl) (pdb_one (pds_ret pd_bl)) pdb_nil))))) pdb_nil)
      (pdb_one (pds_ret (pd_cmp od_isBl (pd_callR (FD.at_ F_shows_knot (hr.mono (by decide)) passL) g.k_shows_knot rfl g.m_shows_knot (pda_cons (pd_var 1) (pda_cons (pd_var 3) pda_nil))) pd_bl)))))))))) (fun ds μ Q PX h => ?_) (fun ds μ Q PX h => ?_)
  · obtain ⟨m, x, b, c, rfl, _⟩ := h; rfl
  · obtain ⟨m, x, b, c, rfl, hm, hpen, hc, h⟩ := h
    have hml := (List.getElem?_eq_some_iff.mp hm).1
    have gm : ∀ x' c', (μ.set m (penD x' b c'))[m]? = some (penD x' b c') := fun _ _ => List.getElem?_set_self hml
    refine ⟨m, x, b, c, rfl, hm, hpen, by omega, fun n gs x' c' hS hp' hc' => ?_⟩
    obtain ⟨k, rfl⟩ : ∃ k : Nat, n = k := ⟨n.toNat, by have := hS.1; omega⟩
    have hsk := steps_or_knot hS
    refine ⟨k, gs, rfl, hS, k, gs, rfl, hS, ?_⟩
    simp only [Int.toNat_natCast]
    have fin : ∀ x2 c2, isPen x2 b c2 → c2 ≤ c' + 20 → Seal μ Q (D.bl true) (μ.set m (penD x2 b c2)) := fun x2 c2 hp2 hc2 => by
      have := seal_gen (P := Q) (d := D.bl true) [] (List.length_set ..) (pen_sh hml) rfl (h x2 c2 hp2 (by omega))
      simpa using this
    have nst : ∀ ts, ¬ (stepsD (some ts) = D.non) := fun ts => by simp [stepsD]
    cases hk : knotOf k gs with
    | none =>
      have hs : (stepsOf gs).isSome = true := hsk.mpr hk
      obtain ⟨ts, ht⟩ := Option.isSome_iff_exists.mp hs
      rw [ht]
      obtain ⟨u1, u2⟩ := take_runs _ _ _ (show takeSteps gs (gs.length - 1) (numsI gs.length) = some ts from ht)
      have hS' := hS
      obtain ⟨_, _, g1, g5, _⟩ := hS'
      simp [stepsD, knotD]
      refine ⟨k, gs, rfl, hS, ?_⟩
      simp [pyOf_bool, shaped_bool, eqv_bool]
      refine ⟨k, gs, ts, rfl, hS, by omega, ?_⟩
      rw [decide_eq_true (by omega), u2]
      exact fin x' c' hp' (by omega)
    | some kn =>
      have hs : stepsOf gs = none := by
        cases e : stepsOf gs with
        | none => rfl
        | some ts => rw [e, hk] at hsk; simp at hsk
      obtain ⟨r1, r2, r3⟩ := knot_right hS hk
      rw [hs]
      simp [stepsD, knotD]
      refine ⟨k, gs, rfl, hS, ?_⟩
      simp [pyOf_bool, shaped_bool, eqv_bool, knD]
      obtain ⟨k1, vs⟩ := kn
      cases k1 with
      | true =>
        have ne2 : ¬ (Str.ofString "shell" = Str.ofString "ring") := by decide +kernel
        simp [ne2]
        refine ⟨k, gs, (true, vs), rfl, hS, r3, ?_⟩
        rw [r1]
        exact fin x' c' hp' (by omega)
      | false =>
        simp
        have r2 : 3 ≤ vs.length := r2
        have r3 : vs.length ≤ 5 := r3
        obtain ⟨o1, o2⟩ := ring_both r1 r3
        refine ⟨m, vs.length, x', b, c', rfl, by omega, by omega, gm _ _, hp', by omega, fun j x2 c2 hj0 hj1 hp2 hc2 => ?_⟩
        rw [List.set_set]
        obtain ⟨i, rfl⟩ : ∃ i : Nat, j = i := ⟨j.toNat, by omega⟩
        simp only [cutD_drop, cutD_take, ← List.map_drop, ← List.map_take, ← List.map_append, ← List.map_reverse]
        refine ⟨by simp; unfold sizeLine; omega, k, gs, (false, vs.drop i ++ vs.take i), rfl, hS, by simp; omega, ?_⟩
        rw [o1 i (by omega)]
        refine ⟨k, gs, (false, vs.reverse), rfl, hS, by simp; omega, ?_⟩
        rw [o2]
        refine ⟨k, gs, (false, vs), rfl, hS, r3, ?_⟩
        rw [r1]
        exact fin x2 c2 hp2 (by omega)
end
end P46

namespace P46
open PySem PySem.Spec L2 DL PyProof.Rows DB
section
variable {T : Cl} {P : Program} {w : World} {K : PySem.W.Frag} {mg : Str → Option Value} {base : Heap} {a : Ad} {f : Addr} {fd : FuncData}
theorem sc_law : FnScope ["_law_script", "_law_k", "_law_pen_here", "_law_lap"] ["_law_script"] (defScope (top 70)) := ⟨rfl, rfl, rfl, by decide +kernel, rfl, by decide +kernel, by decide +kernel⟩
theorem ok_law (F : Fun K "law" "law" (top 70) f fd) (bb : Binds K fd ["_law_script"] []) (g : G T K mg a) (F_law_cell_at : FD T P w K mg base 1 a.law_cell_at s_law_cell_at) (F_law_pen : FD T P w K mg base 1 a.law_pen s_law_pen) (F_law_right : FQ T P w K mg base 13 a.law_right s_law_right) : FQ T P w K mg base 15 f s_law := by
  have S := sc_law
  refine fq_okN F S bb (by decide) (fun cdv A outer sh H E hr hq => (pdb_cons (pds_for (passes_of rfl) rfl (pdi_range1 rfl g.b_range (pda_cons (pd_callB (cd_max rfl hr) rfl g.b_max boot_max (pda_cons pd_int (pda_cons (pd_callB (cd_min rfl hr) rfl g.b_min boot_min (pda_cons (pd_callB cd_len rfl g.b_len boot_len (pda_cons (pd_var 0) pda_nil)) (pda_cons pd_int pda_nil))) pda_nil))) pda_nil)) (pdg_name 1 S.nd rfl (by first | exact .inl rfl | exact .inr rfl)) (pdb_cons (pds_set 2 S.nd rfl (by first | exact .inl rfl | exact .inr rfl) (pd_callR (FD.at_ F_law_pen (hr.mono (by decide)) passL) g.k_law_pen rfl g.m_law_pen (pda_cons (pd_callR (FD.at_ F_law_cell_at (hr.mono (by decide)) passL) g.k_law_cell_at rfl g.m_law_cell_at (pda_cons (pd_var 0) (pda_cons (pd_var 1) pda_nil))) pda_nil)))
      (pdb_one (pds_for (passes_of rfl) rfl (pdi_range1 rfl g.b_range (pda_cons pd_int pda_nil)) (pdg_name 3 S.nd rfl (by first | exact .inl rfl | exact .inr rfl)) (pdb_one (pds_if (pdt_not (pdt_val (pd_callR (FQ.at_ F_law_right (hr.mono (by decide)) hq passL) g.k_law_right rfl g.m_law_right (pda_cons (pd_var 2) pda_nil)))) (pdb_one (pds_ret pd_bl)) pdb_nil))))))
      (pdb_one (pds_ret pd_bl)))) (fun ds μ Q PX h => ?_) (fun ds μ Q PX h => ?_)
  · obtain ⟨ns, rfl, _⟩ := h; rfl
  · obtain ⟨ns, rfl, h1, h⟩ := h
    simp
    generalize hL : (if 1 < (if 3 < (ns.length : Int) then 3 else (ns.length : Int)) then (if 3 < (ns.length : Int) then 3 else (ns.length : Int)) else 1) = L
    have hL1 : 1 ≤ L ∧ L ≤ 3 := by
      subst hL
      constructor <;> (repeat' split) <;> omega
    refine ⟨by omega, by omega, ?_⟩
    unfold ranD
    refine forGo_inv (fun i : Nat => D.int (0 + (i : Nat))) _ (fun i ρ μ' => ∃ u1 u2 u3, ρ = [some (.scr (ns.map D.int)), u1, u2, u3] ∧ ∃ ex : List MC, μ' = μ ++ ex) (fun _ _ _ _ => trivial) (fun i y ρ μ' N hi hI hN => ?_) (fun ρ μ' hI => ?_) ⟨none, none, none, rfl, [], by simp⟩
    · obtain ⟨u1, u2, u3, rfl, ex, rfl⟩ := hI
      refine ⟨ns, _, rfl, by omega, h1, fun cell => ?_⟩
      refine ⟨cell, rfl, fun x0 b hp0 => ?_⟩
      refine ⟨by decide, by decide, ?_⟩
      generalize hA : μ ++ ex = A
      have setl : ∀ z z' : MC, (A ++ [z]).set A.length z' = A ++ [z'] := fun z z' => mu_set_last _ _ _
      have getl : ∀ z : MC, (A ++ [z])[A.length]? = some z := fun z => mu_last _ _
      refine forGo_inv (fun i : Nat => D.int (0 + (i : Nat))) (List.range 8) (fun i ρ μ' => ∃ u1 u3, ρ = [some (.scr (ns.map D.int)), u1, some (.mu A.length), u3] ∧ ∃ x c, μ' = A ++ [penD x b c] ∧ isPen x b c ∧ c ≤ 1000 * (i : Nat)) (fun _ _ _ _ => trivial) (fun j lap ρ μ' N' hj hJ hN' => ?_) (fun ρ μ' hJ => ?_) ⟨_, u3, rfl, x0, 0, rfl, hp0, by omega⟩
      · obtain ⟨v1, v3, rfl, x, c, rfl, hp, hc⟩ := hJ
        have hj' := (List.getElem?_eq_some_iff.mp hj).1
        rw [List.length_range] at hj'
        refine ⟨A.length, x, b, c, rfl, getl _, hp, by omega, fun x' c' hp' hc' => ?_⟩
        rw [setl]
        exact hN' _ _ ⟨_, _, rfl, x', c', rfl, hp', by omega⟩
      · obtain ⟨v1, v3, rfl, x, c, rfl, hp, hc⟩ := hJ
        refine hN _ _ ⟨_, _, _, rfl, ex ++ [penD x b c], by rw [← hA, List.append_assoc]⟩
    · obtain ⟨u1, u2, u3, rfl, ex, rfl⟩ := hI
      exact seal_at ex rfl h
end
end P46

namespace P46
open PySem PySem.Spec L2 DL DB

theorem kit_int_bool {K : PySem.W.Frag} (h : PySem.W.subIn K (.type "int") (.type "bool") = some false) : PySem.W.kitOne K (.type "int") (.type "bool") = some false := by
  unfold PySem.W.kitOne
  rw [if_neg (by decide)]
  unfold PySem.W.kitCls
  show (if PySem.W.kitMeta "bool" = true then PySem.W.subIn K (.type "int") (.type "bool") else none) = _
  rw [if_pos (by decide)]
  exact h
theorem isi_ty {K : PySem.W.Frag} (ib_int_bool : PySem.W.kitOne K (.type "int") (.type "bool") = some false) (s u : String) (b : Bool) (h : J (.ty s) (.ty u) = some b) : PySem.W.kitOne K (.type s) (.type u) = some b := by
  unfold J at h
  simp only at h
  by_cases e_int_int : s = "int" ∧ u = "int"
  · rw [if_pos e_int_int] at h
    cases h
    obtain ⟨rfl, rfl⟩ := e_int_int
    exact if_pos (beq_self_eq_true _)
  rw [if_neg e_int_int] at h
  by_cases e_tuple_tuple : s = "tuple" ∧ u = "tuple"
  · rw [if_pos e_tuple_tuple] at h
    cases h
    obtain ⟨rfl, rfl⟩ := e_tuple_tuple
    exact if_pos (beq_self_eq_true _)
  rw [if_neg e_tuple_tuple] at h
  by_cases e_int_bool : s = "int" ∧ u = "bool"
  · rw [if_pos e_int_bool] at h
    cases h
    obtain ⟨rfl, rfl⟩ := e_int_bool
    exact ib_int_bool
  rw [if_neg e_int_bool] at h
  cases h
theorem isiJ {K : PySem.W.Frag} {T : Cl} (ib_int_bool : PySem.W.kitOne K (.type "int") (.type "bool") = some false) : IsiT T K J := by
  refine ⟨fun c h => ?_, fun x t b h => ?_⟩
  · obtain ⟨t, b, h⟩ := h
    cases t <;> cases h
  · match x, t, h with
    | .ty s, .ty u, h => exact isi_ty ib_int_bool s u b h
    | .cl c, t, h => cases t <;> cases h
    | .ty s, .cl c, h => cases h
theorem all_ok {l : PySem.W.OpenLaw} {w : World} {K : PySem.W.Frag} {h : Heap} {mg : Str → Option Value} {fa : Addr} (X : K.In h) (Gn : h.Ns mainGlobals mg) (hfa : mg "law" = some (.ref fa))
    {f_law_cell_at f_law_pen f_law_draw f_law_group f_law_groups f_law_scheme f_is_integer f_is_between f_is_ascending f_is_group f_is_scheme f_check_scheme f_are_together f_is_shell f_is_ring f_ring_of f_sets_below c_sets_below P_sets_below f_knot f_are_integers f_shows_knot f_is_step f_shows_steps f_first_step f_steps f_law_right f_law C_Report : Addr}  {tL_Report_LIMIT : Tok} 
    (a_law_cell_at : PySem.W.nsIn K mainGlobals "_law_cell_at" = some (some (.ref f_law_cell_at)))
    (d_law_cell_at : DefAt K "_law_cell_at" "_law_cell_at" (top 63) f_law_cell_at)
    (a_law_pen : PySem.W.nsIn K mainGlobals "_law_pen" = some (some (.ref f_law_pen)))
    (d_law_pen : DefAt K "_law_pen" "_law_pen" (top 64) f_law_pen)
    (a_law_draw : PySem.W.nsIn K mainGlobals "_law_draw" = some (some (.ref f_law_draw)))
    (d_law_draw : DefAt K "_law_draw" "_law_draw" (top 65) f_law_draw)
    (a_law_group : PySem.W.nsIn K mainGlobals "_law_group" = some (some (.ref f_law_group)))
    (d_law_group : DefAt K "_law_group" "_law_group" (top 66) f_law_group)
    (a_law_groups : PySem.W.nsIn K mainGlobals "_law_groups" = some (some (.ref f_law_groups)))
    (d_law_groups : DefAt K "_law_groups" "_law_groups" (top 67) f_law_groups)
    (a_law_scheme : PySem.W.nsIn K mainGlobals "_law_scheme" = some (some (.ref f_law_scheme)))
    (d_law_scheme : DefAt K "_law_scheme" "_law_scheme" (top 68) f_law_scheme)
    (a_is_integer : PySem.W.nsIn K mainGlobals "is_integer" = some (some (.ref f_is_integer)))
    (d_is_integer : DefAt K "is_integer" "is_integer" (top 1) f_is_integer)
    (a_is_between : PySem.W.nsIn K mainGlobals "is_between" = some (some (.ref f_is_between)))
    (d_is_between : DefAt K "is_between" "is_between" (top 2) f_is_between)
    (a_is_ascending : PySem.W.nsIn K mainGlobals "is_ascending" = some (some (.ref f_is_ascending)))
    (d_is_ascending : DefAt K "is_ascending" "is_ascending" (top 4) f_is_ascending)
    (a_is_group : PySem.W.nsIn K mainGlobals "is_group" = some (some (.ref f_is_group)))
    (d_is_group : DefAt K "is_group" "is_group" (top 5) f_is_group)
    (a_is_scheme : PySem.W.nsIn K mainGlobals "is_scheme" = some (some (.ref f_is_scheme)))
    (d_is_scheme : DefAt K "is_scheme" "is_scheme" (top 47) f_is_scheme)
    (a_check_scheme : PySem.W.nsIn K mainGlobals "check_scheme" = some (some (.ref f_check_scheme)))
    (d_check_scheme : DefAt K "check_scheme" "check_scheme" (top 50) f_check_scheme)
    (a_are_together : PySem.W.nsIn K mainGlobals "are_together" = some (some (.ref f_are_together)))
    (d_are_together : DefAt K "are_together" "are_together" (top 58) f_are_together)
    (a_is_shell : PySem.W.nsIn K mainGlobals "is_shell" = some (some (.ref f_is_shell)))
    (d_is_shell : DefAt K "is_shell" "is_shell" (top 59) f_is_shell)
    (a_is_ring : PySem.W.nsIn K mainGlobals "is_ring" = some (some (.ref f_is_ring)))
    (d_is_ring : DefAt K "is_ring" "is_ring" (top 60) f_is_ring)
    (a_ring_of : PySem.W.nsIn K mainGlobals "ring_of" = some (some (.ref f_ring_of)))
    (d_ring_of : DefAt K "ring_of" "ring_of" (top 61) f_ring_of)
    (a_sets_below : PySem.W.nsIn K mainGlobals "sets_below" = some (some (.ref f_sets_below)))
    (d_sets_below : DefAtL K "sets_below" "sets_below" (top 54) f_sets_below c_sets_below)
    (e_sets_below : TabDef K c_sets_below P_sets_below)
    (i_sets_below : PySem.W.tabIn K "sets_below" = some (c_sets_below, P_sets_below))
    (a_knot : PySem.W.nsIn K mainGlobals "knot" = some (some (.ref f_knot)))
    (d_knot : DefAt K "knot" "knot" (top 56) f_knot)
    (a_are_integers : PySem.W.nsIn K mainGlobals "are_integers" = some (some (.ref f_are_integers)))
    (d_are_integers : DefAt K "are_integers" "are_integers" (top 3) f_are_integers)
    (a_shows_knot : PySem.W.nsIn K mainGlobals "shows_knot" = some (some (.ref f_shows_knot)))
    (d_shows_knot : DefAt K "shows_knot" "shows_knot" (top 57) f_shows_knot)
    (a_is_step : PySem.W.nsIn K mainGlobals "is_step" = some (some (.ref f_is_step)))
    (d_is_step : DefAt K "is_step" "is_step" (top 52) f_is_step)
    (a_shows_steps : PySem.W.nsIn K mainGlobals "shows_steps" = some (some (.ref f_shows_steps)))
    (d_shows_steps : DefAt K "shows_steps" "shows_steps" (top 49) f_shows_steps)
    (a_first_step : PySem.W.nsIn K mainGlobals "first_step" = some (some (.ref f_first_step)))
    (d_first_step : DefAt K "first_step" "first_step" (top 51) f_first_step)
    (a_steps : PySem.W.nsIn K mainGlobals "steps" = some (some (.ref f_steps)))
    (d_steps : DefAt K "steps" "steps" (top 48) f_steps)
    (a_law_right : PySem.W.nsIn K mainGlobals "_law_right" = some (some (.ref f_law_right)))
    (d_law_right : DefAt K "_law_right" "_law_right" (top 69) f_law_right)
    (a_law : PySem.W.nsIn K mainGlobals "law" = some (some (.ref f_law)))
    (d_law : DefAt K "law" "law" (top 70) f_law)
    (a_C_Report : PySem.W.nsIn K mainGlobals "Report" = some (some (.ref C_Report)))
    (rd_Report : PySem.W.readsIn K C_Report (.type "type") = true)
    (ga_Report : PySem.W.specialIn K (.ref C_Report) "__getattribute__" = some (some (.builtin "type.__getattribute__")))
    (lim_Report_LIMIT : PySem.W.findCls K (.ref C_Report) (.type "type") "LIMIT" = some (.val (.int 5 tL_Report_LIMIT)))
    (ib_int_bool : PySem.W.subIn K (.type "int") (.type "bool") = some false)
    (z_all : PySem.W.nsIn K mainGlobals "all" = some none)
    (z_any : PySem.W.nsIn K mainGlobals "any" = some none)
    (z_bool : PySem.W.nsIn K mainGlobals "bool" = some none)
    (z_int : PySem.W.nsIn K mainGlobals "int" = some none)
    (z_isinstance : PySem.W.nsIn K mainGlobals "isinstance" = some none)
    (z_len : PySem.W.nsIn K mainGlobals "len" = some none)
    (z_list : PySem.W.nsIn K mainGlobals "list" = some none)
    (z_max : PySem.W.nsIn K mainGlobals "max" = some none)
    (z_min : PySem.W.nsIn K mainGlobals "min" = some none)
    (z_range : PySem.W.nsIn K mainGlobals "range" = some none)
    (z_sorted : PySem.W.nsIn K mainGlobals "sorted" = some none)
    (z_tuple : PySem.W.nsIn K mainGlobals "tuple" = some none) :
    ∃ (T : Cl) (s : DSp) (cs : List (Addr × Addr)), (∀ p ∈ cs, (∃ x ∈ (["sets_below"] : List Str), PySem.W.tabIn K x = some p) ∧ TabDef K p.1 p.2) ∧ T.tabs.map (·.1) = cs.map (·.2) ∧ (∀ base : Heap, K.In base → base.Ns mainGlobals mg → (∀ p ∈ cs, LamX.TabB base mg p.1 p.2) → FQ T l.prog w K mg base 15 fa s) ∧ ∀ vs H Q E, spTop K T.tabs vs H Q E → spD T K s vs H Q E := by
  have e := hfa.symm.trans (PySem.W.mg_of X Gn a_law)
  cases e
  obtain ⟨k_law_cell_at, fd_law_cell_at, F0_law_cell_at⟩ := d_law_cell_at
  have B_law_cell_at : L2.Binds K fd_law_cell_at ["_law_script", "_law_k"] [] := F0_law_cell_at.binds (ps := ["_law_script", "_law_k"]) fun _ _ _ _ _ _ us hl => match us, hl with | [_, _], _ => rfl
  obtain ⟨k_law_pen, fd_law_pen, F0_law_pen⟩ := d_law_pen
  have B_law_pen : L2.Binds K fd_law_pen ["_law_cell"] [] := F0_law_pen.binds (ps := ["_law_cell"]) fun _ _ _ _ _ _ us hl => match us, hl with | [_], _ => rfl
  obtain ⟨k_law_draw, fd_law_draw, F0_law_draw⟩ := d_law_draw
  have B_law_draw : L2.Binds K fd_law_draw ["_law_pen_here", "_law_count"] [] := F0_law_draw.binds (ps := ["_law_pen_here", "_law_count"]) fun _ _ _ _ _ _ us hl => match us, hl with | [_, _], _ => rfl
  obtain ⟨k_law_group, fd_law_group, F0_law_group⟩ := d_law_group
  have B_law_group : L2.Binds K fd_law_group ["_law_pen_here", "_law_many"] [] := F0_law_group.binds (ps := ["_law_pen_here", "_law_many"]) fun _ _ _ _ _ _ us hl => match us, hl with | [_, _], _ => rfl
  obtain ⟨k_law_groups, fd_law_groups, F0_law_groups⟩ := d_law_groups
  have B_law_groups : L2.Binds K fd_law_groups ["_law_pen_here", "_law_many"] [] := F0_law_groups.binds (ps := ["_law_pen_here", "_law_many"]) fun _ _ _ _ _ _ us hl => match us, hl with | [_, _], _ => rfl
  obtain ⟨k_law_scheme, fd_law_scheme, F0_law_scheme⟩ := d_law_scheme
  have B_law_scheme : L2.Binds K fd_law_scheme ["_law_pen_here"] [] := F0_law_scheme.binds (ps := ["_law_pen_here"]) fun _ _ _ _ _ _ us hl => match us, hl with | [_], _ => rfl
  obtain ⟨k_is_integer, fd_is_integer, F0_is_integer⟩ := d_is_integer
  have B_is_integer : L2.Binds K fd_is_integer ["thing"] [] := F0_is_integer.binds (ps := ["thing"]) fun _ _ _ _ _ _ us hl => match us, hl with | [_], _ => rfl
  obtain ⟨k_is_between, fd_is_between, F0_is_between⟩ := d_is_between
  have B_is_between : L2.Binds K fd_is_between ["thing", "low", "high"] [] := F0_is_between.binds (ps := ["thing", "low", "high"]) fun _ _ _ _ _ _ us hl => match us, hl with | [_, _, _], _ => rfl
  obtain ⟨k_is_ascending, fd_is_ascending, F0_is_ascending⟩ := d_is_ascending
  have B_is_ascending : L2.Binds K fd_is_ascending ["numbers"] [] := F0_is_ascending.binds (ps := ["numbers"]) fun _ _ _ _ _ _ us hl => match us, hl with | [_], _ => rfl
  obtain ⟨k_is_group, fd_is_group, F0_is_group⟩ := d_is_group
  have B_is_group : L2.Binds K fd_is_group ["thing", "many"] [] := F0_is_group.binds (ps := ["thing", "many"]) fun _ _ _ _ _ _ us hl => match us, hl with | [_, _], _ => rfl
  obtain ⟨k_is_scheme, fd_is_scheme, F0_is_scheme⟩ := d_is_scheme
  have B_is_scheme : L2.Binds K fd_is_scheme ["thing"] [] := F0_is_scheme.binds (ps := ["thing"]) fun _ _ _ _ _ _ us hl => match us, hl with | [_], _ => rfl
  obtain ⟨k_check_scheme, fd_check_scheme, F0_check_scheme⟩ := d_check_scheme
  have B_check_scheme : L2.Binds K fd_check_scheme ["thing"] [] := F0_check_scheme.binds (ps := ["thing"]) fun _ _ _ _ _ _ us hl => match us, hl with | [_], _ => rfl
  obtain ⟨k_are_together, fd_are_together, F0_are_together⟩ := d_are_together
  have B_are_together : L2.Binds K fd_are_together ["groups", "variables"] [] := F0_are_together.binds (ps := ["groups", "variables"]) fun _ _ _ _ _ _ us hl => match us, hl with | [_, _], _ => rfl
  obtain ⟨k_is_shell, fd_is_shell, F0_is_shell⟩ := d_is_shell
  have B_is_shell : L2.Binds K fd_is_shell ["groups", "variables"] [] := F0_is_shell.binds (ps := ["groups", "variables"]) fun _ _ _ _ _ _ us hl => match us, hl with | [_, _], _ => rfl
  obtain ⟨k_is_ring, fd_is_ring, F0_is_ring⟩ := d_is_ring
  have B_is_ring : L2.Binds K fd_is_ring ["groups", "ring"] [] := F0_is_ring.binds (ps := ["groups", "ring"]) fun _ _ _ _ _ _ us hl => match us, hl with | [_, _], _ => rfl
  obtain ⟨k_ring_of, fd_ring_of, F0_ring_of⟩ := d_ring_of
  have B_ring_of : L2.Binds K fd_ring_of ["groups", "variables"] [] := F0_ring_of.binds (ps := ["groups", "variables"]) fun _ _ _ _ _ _ us hl => match us, hl with | [_, _], _ => rfl
  obtain ⟨k_sets_below, fd_sets_below, F0_sets_below, cd_sets_below⟩ := d_sets_below
  have B_sets_below : L2.Binds K fd_sets_below ["many"] [] := F0_sets_below.binds (ps := ["many"]) fun _ _ _ _ _ _ us hl => match us, hl with | [_], _ => rfl
  obtain ⟨k_knot, fd_knot, F0_knot⟩ := d_knot
  have B_knot : L2.Binds K fd_knot ["scheme"] [] := F0_knot.binds (ps := ["scheme"]) fun _ _ _ _ _ _ us hl => match us, hl with | [_], _ => rfl
  obtain ⟨k_are_integers, fd_are_integers, F0_are_integers⟩ := d_are_integers
  have B_are_integers : L2.Binds K fd_are_integers ["thing", "size"] [] := F0_are_integers.binds (ps := ["thing", "size"]) fun _ _ _ _ _ _ us hl => match us, hl with | [_, _], _ => rfl
  obtain ⟨k_shows_knot, fd_shows_knot, F0_shows_knot⟩ := d_shows_knot
  have B_shows_knot : L2.Binds K fd_shows_knot ["scheme", "thing"] [] := F0_shows_knot.binds (ps := ["scheme", "thing"]) fun _ _ _ _ _ _ us hl => match us, hl with | [_, _], _ => rfl
  obtain ⟨k_is_step, fd_is_step, F0_is_step⟩ := d_is_step
  have B_is_step : L2.Binds K fd_is_step ["groups", "left", "pair"] [] := F0_is_step.binds (ps := ["groups", "left", "pair"]) fun _ _ _ _ _ _ us hl => match us, hl with | [_, _, _], _ => rfl
  obtain ⟨k_shows_steps, fd_shows_steps, F0_shows_steps⟩ := d_shows_steps
  have B_shows_steps : L2.Binds K fd_shows_steps ["scheme", "thing"] [] := F0_shows_steps.binds (ps := ["scheme", "thing"]) fun _ _ _ _ _ _ us hl => match us, hl with | [_, _], _ => rfl
  obtain ⟨k_first_step, fd_first_step, F0_first_step⟩ := d_first_step
  have B_first_step : L2.Binds K fd_first_step ["groups", "left"] [] := F0_first_step.binds (ps := ["groups", "left"]) fun _ _ _ _ _ _ us hl => match us, hl with | [_, _], _ => rfl
  obtain ⟨k_steps, fd_steps, F0_steps⟩ := d_steps
  have B_steps : L2.Binds K fd_steps ["scheme"] [] := F0_steps.binds (ps := ["scheme"]) fun _ _ _ _ _ _ us hl => match us, hl with | [_], _ => rfl
  obtain ⟨k_law_right, fd_law_right, F0_law_right⟩ := d_law_right
  have B_law_right : L2.Binds K fd_law_right ["_law_pen_here"] [] := F0_law_right.binds (ps := ["_law_pen_here"]) fun _ _ _ _ _ _ us hl => match us, hl with | [_], _ => rfl
  obtain ⟨k_law, fd_law, F0_law⟩ := d_law
  have B_law : L2.Binds K fd_law ["_law_script"] [] := F0_law.binds (ps := ["_law_script"]) fun _ _ _ _ _ _ us hl => match us, hl with | [_], _ => rfl
  let T : Cl := ⟨fun k => match k with | _ => C_Report, fun k => match k with | _ => [("_many" : Str), ("_pieces" : Str), ("_total" : Str), ("_scheme" : Str)], fun _ => 0, fun _ => [], [(P_sets_below, "sets_below.<locals>.<lambda>")]⟩
  let a : Ad := { law_cell_at := f_law_cell_at, law_pen := f_law_pen, law_draw := f_law_draw, law_group := f_law_group, law_groups := f_law_groups, law_scheme := f_law_scheme, is_integer := f_is_integer, is_between := f_is_between, is_ascending := f_is_ascending, is_group := f_is_group, is_scheme := f_is_scheme, check_scheme := f_check_scheme, are_together := f_are_together, is_shell := f_is_shell, is_ring := f_is_ring, ring_of := f_ring_of, sets_below := f_sets_below, knot := f_knot, are_integers := f_are_integers, shows_knot := f_shows_knot, is_step := f_is_step, shows_steps := f_shows_steps, first_step := f_first_step, steps := f_steps, law_right := f_law_right, law := fa, mc_Report := .type "type" }
  have g : G T K mg a := {
    isi := isiJ (T := T) (ib_int_bool := kit_int_bool ib_int_bool) 
    b_all := PySem.W.mg_none_of X Gn z_all
    b_any := PySem.W.mg_none_of X Gn z_any
    b_bool := PySem.W.mg_none_of X Gn z_bool
    b_int := PySem.W.mg_none_of X Gn z_int
    b_isinstance := PySem.W.mg_none_of X Gn z_isinstance
    b_len := PySem.W.mg_none_of X Gn z_len
    b_list := PySem.W.mg_none_of X Gn z_list
    b_max := PySem.W.mg_none_of X Gn z_max
    b_min := PySem.W.mg_none_of X Gn z_min
    b_range := PySem.W.mg_none_of X Gn z_range
    b_sorted := PySem.W.mg_none_of X Gn z_sorted
    b_tuple := PySem.W.mg_none_of X Gn z_tuple
    m_law_cell_at := PySem.W.mg_of X Gn a_law_cell_at
    k_law_cell_at := k_law_cell_at
    m_law_pen := PySem.W.mg_of X Gn a_law_pen
    k_law_pen := k_law_pen
    m_law_draw := PySem.W.mg_of X Gn a_law_draw
    k_law_draw := k_law_draw
    m_law_group := PySem.W.mg_of X Gn a_law_group
    k_law_group := k_law_group
    m_law_groups := PySem.W.mg_of X Gn a_law_groups
    k_law_groups := k_law_groups
    m_law_scheme := PySem.W.mg_of X Gn a_law_scheme
    k_law_scheme := k_law_scheme
    m_is_integer := PySem.W.mg_of X Gn a_is_integer
    k_is_integer := k_is_integer
    m_is_between := PySem.W.mg_of X Gn a_is_between
    k_is_between := k_is_between
    m_is_ascending := PySem.W.mg_of X Gn a_is_ascending
    k_is_ascending := k_is_ascending
    m_is_group := PySem.W.mg_of X Gn a_is_group
    k_is_group := k_is_group
    m_is_scheme := PySem.W.mg_of X Gn a_is_scheme
    k_is_scheme := k_is_scheme
    m_check_scheme := PySem.W.mg_of X Gn a_check_scheme
    k_check_scheme := k_check_scheme
    m_are_together := PySem.W.mg_of X Gn a_are_together
    k_are_together := k_are_together
    m_is_shell := PySem.W.mg_of X Gn a_is_shell
    k_is_shell := k_is_shell
    m_is_ring := PySem.W.mg_of X Gn a_is_ring
    k_is_ring := k_is_ring
    m_ring_of := PySem.W.mg_of X Gn a_ring_of
    k_ring_of := k_ring_of
    m_sets_below := PySem.W.mg_of X Gn a_sets_below
    k_sets_below := k_sets_below
    m_knot := PySem.W.mg_of X Gn a_knot
    k_knot := k_knot
    m_are_integers := PySem.W.mg_of X Gn a_are_integers
    k_are_integers := k_are_integers
    m_shows_knot := PySem.W.mg_of X Gn a_shows_knot
    k_shows_knot := k_shows_knot
    m_is_step := PySem.W.mg_of X Gn a_is_step
    k_is_step := k_is_step
    m_shows_steps := PySem.W.mg_of X Gn a_shows_steps
    k_shows_steps := k_shows_steps
    m_first_step := PySem.W.mg_of X Gn a_first_step
    k_first_step := k_first_step
    m_steps := PySem.W.mg_of X Gn a_steps
    k_steps := k_steps
    m_law_right := PySem.W.mg_of X Gn a_law_right
    k_law_right := k_law_right
    m_law := PySem.W.mg_of X Gn a_law
    k_law := k_law
    m_Report := PySem.W.mg_of X Gn a_C_Report
    nm_Report := rfl
    cr_Report := ⟨rd_Report, ga_Report⟩
    cv_Report_LIMIT := ⟨tL_Report_LIMIT, lim_Report_LIMIT, _, rfl⟩ }
  refine ⟨T, s_law, [(c_sets_below, P_sets_below)], ?_, rfl, fun base _ _ TB => ?_, fun vs H Q E q => spTop_of vs H Q E q⟩
  · exact List.forall_mem_cons.mpr ⟨⟨⟨"sets_below", by simp, i_sets_below⟩, e_sets_below⟩, nofun⟩
  have LA_sets_below : LamAt T base mg fd_sets_below.code "sets_below.<locals>.<lambda>" := ⟨c_sets_below, P_sets_below, cd_sets_below, TB (c_sets_below, P_sets_below) (by simp), by simp [T], fun p hp he => by
    simp [T] at hp
    subst hp
    rfl⟩
  have O_law_cell_at : FnOk l.prog w K mg base (L2.CX l.prog w) 1 f_law_cell_at fd_law_cell_at ["_law_script", "_law_k"] (spD T K s_law_cell_at) := ok_law_cell_at (a := a) F0_law_cell_at g
  have F_law_cell_at : FD T l.prog w K mg base 1 f_law_cell_at s_law_cell_at := fnR_of O_law_cell_at B_law_cell_at
  have O_law_pen : FnOk l.prog w K mg base (L2.CX l.prog w) 1 f_law_pen fd_law_pen ["_law_cell"] (spD T K s_law_pen) := ok_law_pen (a := a) F0_law_pen g
  have F_law_pen : FD T l.prog w K mg base 1 f_law_pen s_law_pen := fnR_of O_law_pen B_law_pen
  have O_law_draw : FnOk l.prog w K mg base (L2.CX l.prog w) 1 f_law_draw fd_law_draw ["_law_pen_here", "_law_count"] (spD T K s_law_draw) := ok_law_draw (a := a) F0_law_draw g
  have F_law_draw : FD T l.prog w K mg base 1 f_law_draw s_law_draw := fnR_of O_law_draw B_law_draw
  have O_law_group : FnOk l.prog w K mg base (L2.CX l.prog w) 3 f_law_group fd_law_group ["_law_pen_here", "_law_many"] (spD T K s_law_group) := ok_law_group (a := a) F0_law_group g F_law_draw
  have F_law_group : FD T l.prog w K mg base 3 f_law_group s_law_group := fnR_of O_law_group B_law_group
  have O_law_groups : FnOk l.prog w K mg base (L2.CX l.prog w) 5 f_law_groups fd_law_groups ["_law_pen_here", "_law_many"] (spD T K s_law_groups) := ok_law_groups (a := a) F0_law_groups g F_law_draw F_law_group
  have F_law_groups : FD T l.prog w K mg base 5 f_law_groups s_law_groups := fnR_of O_law_groups B_law_groups
  have O_law_scheme : FnOk l.prog w K mg base (L2.CX l.prog w) 7 f_law_scheme fd_law_scheme ["_law_pen_here"] (spD T K s_law_scheme) := ok_law_scheme (a := a) F0_law_scheme g F_law_draw F_law_groups
  have F_law_scheme : FD T l.prog w K mg base 7 f_law_scheme s_law_scheme := fnR_of O_law_scheme B_law_scheme
  have O_is_integer : FnOk l.prog w K mg base (L2.CX l.prog w) 1 f_is_integer fd_is_integer ["thing"] (spD T K s_is_integer) := ok_is_integer (a := a) F0_is_integer g
  have F_is_integer : FD T l.prog w K mg base 1 f_is_integer s_is_integer := fnR_of O_is_integer B_is_integer
  have O_is_between : FnOk l.prog w K mg base (L2.CX l.prog w) 3 f_is_between fd_is_between ["thing", "low", "high"] (spD T K s_is_between) := ok_is_between (a := a) F0_is_between g F_is_integer
  have F_is_between : FD T l.prog w K mg base 3 f_is_between s_is_between := fnR_of O_is_between B_is_between
  have O_is_ascending : FnOk l.prog w K mg base (L2.CX l.prog w) 1 f_is_ascending fd_is_ascending ["numbers"] (spD T K s_is_ascending) := ok_is_ascending (a := a) F0_is_ascending g
  have F_is_ascending : FD T l.prog w K mg base 1 f_is_ascending s_is_ascending := fnR_of O_is_ascending B_is_ascending
  have O_is_group : FnOk l.prog w K mg base (L2.CX l.prog w) 5 f_is_group fd_is_group ["thing", "many"] (spD T K s_is_group) := ok_is_group (a := a) F0_is_group g F_is_ascending F_is_between
  have F_is_group : FD T l.prog w K mg base 5 f_is_group s_is_group := fnR_of O_is_group B_is_group
  have O_is_scheme : FnOk l.prog w K mg base (L2.CX l.prog w) 7 f_is_scheme fd_is_scheme ["thing"] (spD T K s_is_scheme) := ok_is_scheme (a := a) F0_is_scheme g F_is_between F_is_group
  have F_is_scheme : FD T l.prog w K mg base 7 f_is_scheme s_is_scheme := fnR_of O_is_scheme B_is_scheme
  have O_check_scheme : FnOk l.prog w K mg base (L2.CX l.prog w) 9 f_check_scheme fd_check_scheme ["thing"] (spD T K s_check_scheme) := ok_check_scheme (a := a) F0_check_scheme g F_is_scheme
  have F_check_scheme : FD T l.prog w K mg base 9 f_check_scheme s_check_scheme := fnR_of O_check_scheme B_check_scheme
  have O_are_together : FnOk l.prog w K mg base (L2.CX l.prog w) 1 f_are_together fd_are_together ["groups", "variables"] (spD T K s_are_together) := ok_are_together (a := a) F0_are_together g
  have F_are_together : FD T l.prog w K mg base 1 f_are_together s_are_together := fnR_of O_are_together B_are_together
  have O_is_shell : FnOk l.prog w K mg base (L2.CX l.prog w) 3 f_is_shell fd_is_shell ["groups", "variables"] (spD T K s_is_shell) := ok_is_shell (a := a) F0_is_shell g F_are_together
  have F_is_shell : FD T l.prog w K mg base 3 f_is_shell s_is_shell := fnR_of O_is_shell B_is_shell
  have O_is_ring : FnOk l.prog w K mg base (L2.CX l.prog w) 3 f_is_ring fd_is_ring ["groups", "ring"] (spD T K s_is_ring) := ok_is_ring (a := a) F0_is_ring g F_are_together
  have F_is_ring : FD T l.prog w K mg base 3 f_is_ring s_is_ring := fnR_of O_is_ring B_is_ring
  have O_ring_of : FnOk l.prog w K mg base (L2.CX l.prog w) 5 f_ring_of fd_ring_of ["groups", "variables"] (spD T K s_ring_of) := ok_ring_of (a := a) F0_ring_of g F_are_together F_is_ring
  have F_ring_of : FD T l.prog w K mg base 5 f_ring_of s_ring_of := fnR_of O_ring_of B_ring_of
  have F_sets_below : FQ T l.prog w K mg base 4 f_sets_below s_sets_below := ok_sets_below (a := a) LA_sets_below F0_sets_below B_sets_below g
  have F_knot : FQ T l.prog w K mg base 11 f_knot s_knot := ok_knot (a := a) F0_knot B_knot g F_check_scheme F_is_shell F_ring_of F_sets_below
  have O_are_integers : FnOk l.prog w K mg base (L2.CX l.prog w) 3 f_are_integers fd_are_integers ["thing", "size"] (spD T K s_are_integers) := ok_are_integers (a := a) F0_are_integers g F_is_integer
  have F_are_integers : FD T l.prog w K mg base 3 f_are_integers s_are_integers := fnR_of O_are_integers B_are_integers
  have O_shows_knot : FnOk l.prog w K mg base (L2.CX l.prog w) 11 f_shows_knot fd_shows_knot ["scheme", "thing"] (spD T K s_shows_knot) := ok_shows_knot (a := a) F0_shows_knot g F_are_integers F_check_scheme F_is_ascending F_is_ring F_is_shell
  have F_shows_knot : FD T l.prog w K mg base 11 f_shows_knot s_shows_knot := fnR_of O_shows_knot B_shows_knot
  have O_is_step : FnOk l.prog w K mg base (L2.CX l.prog w) 1 f_is_step fd_is_step ["groups", "left", "pair"] (spD T K s_is_step) := ok_is_step (a := a) F0_is_step g
  have F_is_step : FD T l.prog w K mg base 1 f_is_step s_is_step := fnR_of O_is_step B_is_step
  have O_shows_steps : FnOk l.prog w K mg base (L2.CX l.prog w) 11 f_shows_steps fd_shows_steps ["scheme", "thing"] (spD T K s_shows_steps) := ok_shows_steps (a := a) F0_shows_steps g F_are_integers F_check_scheme F_is_step
  have F_shows_steps : FD T l.prog w K mg base 11 f_shows_steps s_shows_steps := fnR_of O_shows_steps B_shows_steps
  have O_first_step : FnOk l.prog w K mg base (L2.CX l.prog w) 3 f_first_step fd_first_step ["groups", "left"] (spD T K s_first_step) := ok_first_step (a := a) F0_first_step g F_is_step
  have F_first_step : FD T l.prog w K mg base 3 f_first_step s_first_step := fnR_of O_first_step B_first_step
  have O_steps : FnOk l.prog w K mg base (L2.CX l.prog w) 11 f_steps fd_steps ["scheme"] (spD T K s_steps) := ok_steps (a := a) F0_steps g F_check_scheme F_first_step
  have F_steps : FD T l.prog w K mg base 11 f_steps s_steps := fnR_of O_steps B_steps
  have F_law_right : FQ T l.prog w K mg base 13 f_law_right s_law_right := ok_law_right (a := a) F0_law_right B_law_right g F_law_draw F_law_scheme F_is_scheme F_knot F_shows_knot F_shows_steps F_steps
  have F_law : FQ T l.prog w K mg base 15 fa s_law := ok_law (a := a) F0_law B_law g F_law_cell_at F_law_pen F_law_right
  exact F_law
end P46

namespace P46
open PySem PySem.Spec L2 DL DB PyProof.Rows
theorem head_ok {l : PySem.W.OpenLaw} {w : World} {K : PySem.W.Frag} {h : Heap} {mg : Str → Option Value} {fa' : Addr} (X : K.In h) (Gn : h.Ns mainGlobals mg) (hfa : mg "law" = some (.ref fa')) (c : SaysZ fa fn K) :
    ∃ (T : Cl) (s : DSp) (cs : List (Addr × Addr)), (∀ p ∈ cs, (∃ x ∈ (["sets_below"] : List Str), PySem.W.tabIn K x = some p) ∧ TabDef K p.1 p.2) ∧ T.tabs.map (·.1) = cs.map (·.2) ∧ (∀ base : Heap, K.In base → base.Ns mainGlobals mg → (∀ p ∈ cs, LamX.TabB base mg p.1 p.2) → FQ T l.prog w K mg base 15 fa' s) ∧ ∀ vs H Q E, spTop K T.tabs vs H Q E → spD T K s vs H Q E := by
  obtain ⟨tL_Report_LIMIT, lim_Report_LIMIT⟩ := isValI_ok (c.fact 33 rfl)
  exact all_ok X Gn hfa (f_law_cell_at := (z_f_law_cell_at K)) (f_law_pen := (z_f_law_pen K)) (f_law_draw := (z_f_law_draw K)) (f_law_group := (z_f_law_group K)) (f_law_groups := (z_f_law_groups K)) (f_law_scheme := (z_f_law_scheme K)) (f_is_integer := (z_f_is_integer K)) (f_is_between := (z_f_is_between K)) (f_is_ascending := (z_f_is_ascending K)) (f_is_group := (z_f_is_group K)) (f_is_scheme := (z_f_is_scheme K)) (f_check_scheme := (z_f_check_scheme K)) (f_are_together := (z_f_are_together K)) (f_is_shell := (z_f_is_shell K)) (f_is_ring := (z_f_is_ring K)) (f_ring_of := (z_f_ring_of K)) (f_sets_below := (z_f_sets_below K)) (f_knot := (z_f_knot K)) (f_are_integers := (z_f_are_integers K)) (f_shows_knot := (z_f_shows_knot K)) (f_is_step := (z_f_is_step K)) (f_shows_steps := (z_f_shows_steps K)) (f_first_step := (z_f_first_step K)) (f_steps := (z_f_steps K)) (f_law_right := (z_f_law_right K)) (f_law := (z_f_law K)) (c_sets_below := (z_c_sets_below K)) (P_sets_below := (z_P_sets_below K)) (C_Report := (z_C_Report K)) (tL_Report_LIMIT := tL_Report_LIMIT)
    (of_decide_eq_true (c.fact 0 rfl))
    (c.def_ 0 rfl)
    (of_decide_eq_true (c.fact 1 rfl))
    (c.def_ 1 rfl)
    (of_decide_eq_true (c.fact 2 rfl))
    (c.def_ 2 rfl)
    (of_decide_eq_true (c.fact 3 rfl))
    (c.def_ 3 rfl)
    (of_decide_eq_true (c.fact 4 rfl))
    (c.def_ 4 rfl)
    (of_decide_eq_true (c.fact 5 rfl))
    (c.def_ 5 rfl)
    (of_decide_eq_true (c.fact 6 rfl))
    (c.def_ 6 rfl)
    (of_decide_eq_true (c.fact 7 rfl))
    (c.def_ 7 rfl)
    (of_decide_eq_true (c.fact 8 rfl))
    (c.def_ 8 rfl)
    (of_decide_eq_true (c.fact 9 rfl))
    (c.def_ 9 rfl)
    (of_decide_eq_true (c.fact 10 rfl))
    (c.def_ 10 rfl)
    (of_decide_eq_true (c.fact 11 rfl))
    (c.def_ 11 rfl)
    (of_decide_eq_true (c.fact 12 rfl))
    (c.def_ 12 rfl)
    (of_decide_eq_true (c.fact 13 rfl))
    (c.def_ 13 rfl)
    (of_decide_eq_true (c.fact 14 rfl))
    (c.def_ 14 rfl)
    (of_decide_eq_true (c.fact 15 rfl))
    (c.def_ 15 rfl)
    (of_decide_eq_true (c.fact 16 rfl))
    (c.defL 16 rfl (of_decide_eq_true (c.fact 17 rfl)))
    ⟨c.fact 18 rfl, Option.isNone_iff_eq_none.mp (c.fact 19 rfl)⟩
    (of_decide_eq_true (c.fact 20 rfl))
    (of_decide_eq_true (c.fact 21 rfl))
    (c.def_ 17 rfl)
    (of_decide_eq_true (c.fact 22 rfl))
    (c.def_ 18 rfl)
    (of_decide_eq_true (c.fact 23 rfl))
    (c.def_ 19 rfl)
    (of_decide_eq_true (c.fact 24 rfl))
    (c.def_ 20 rfl)
    (of_decide_eq_true (c.fact 25 rfl))
    (c.def_ 21 rfl)
    (of_decide_eq_true (c.fact 26 rfl))
    (c.def_ 22 rfl)
    (of_decide_eq_true (c.fact 27 rfl))
    (c.def_ 23 rfl)
    (of_decide_eq_true (c.fact 28 rfl))
    (c.def_ 24 rfl)
    (of_decide_eq_true (c.fact 29 rfl))
    (c.def_ 25 rfl)
    (of_decide_eq_true (c.fact 30 rfl))
    (c.fact 31 rfl)
    (of_decide_eq_true (c.fact 32 rfl))
    lim_Report_LIMIT
    (of_decide_eq_true (c.fact 34 rfl))
    (of_decide_eq_true (c.fact 35 rfl))
    (of_decide_eq_true (c.fact 36 rfl))
    (of_decide_eq_true (c.fact 37 rfl))
    (of_decide_eq_true (c.fact 38 rfl))
    (of_decide_eq_true (c.fact 39 rfl))
    (of_decide_eq_true (c.fact 40 rfl))
    (of_decide_eq_true (c.fact 41 rfl))
    (of_decide_eq_true (c.fact 42 rfl))
    (of_decide_eq_true (c.fact 43 rfl))
    (of_decide_eq_true (c.fact 44 rfl))
    (of_decide_eq_true (c.fact 45 rfl))
    (of_decide_eq_true (c.fact 46 rfl))
end P46

open PySem PySem.W PyProof.Rows
set_option maxRecDepth 100000 in
set_option maxHeartbeats 0 in
theorem PySem.Challenge.cw_piecetables_k46_whole_steps_or_a_knot_holds : PySem.Challenge.rw_piecetables_k46_whole_steps_or_a_knot.Holds := by
  w_on; o_law
  refine HandSHeadRun.head_any (r := OpenLaw.row PySem.Challenge.rw_piecetables_k46_whole_steps_or_a_knot) (q := P46.qv) (H := P46.hk) (ob := DL.seeZ P46.adrs P46.fa P46.fn) (M := 11982) (loose := P46.names) (d := HandSHeadRun.topDef (OpenLaw.row PySem.Challenge.rw_piecetables_k46_whole_steps_or_a_knot).prog 70) (kwd := []) (DL.seeZ_eq _ _ _) (by kernel_rfl) (fun s => by kernel_rfl) P46.run (by kernel_rfl) (by kernel_rfl) (by kernel_rfl) (by rfl) (by first | assumption | decide +kernel) (by decide +kernel) ⟨rfl, rfl, rfl, rfl, rfl, by decide +kernel⟩ ?hw ?hc
  case hw => w_witness2
  case hc =>
    refine DL.walkTQ ["sets_below"] (by kernel_rfl) (l := PySem.Challenge.rw_piecetables_k46_whole_steps_or_a_knot) (k := 15) rfl (by kernel_rfl) ⟨rfl, by decide, by decide⟩ ?F
    intro w mg fa h Y G hmg0
    obtain ⟨K, KX, c⟩ := Y
    have hmg : mg ("law" : PySem.Str) = some (.ref fa) := by
      have e : (HandSHeadRun.topDef (OpenLaw.row PySem.Challenge.rw_piecetables_k46_whole_steps_or_a_knot).prog 70).name = ("law" : PySem.Str) := by kernel_rfl
      rw [← e]
      exact hmg0
    obtain ⟨T, s, cs, r⟩ := P46.head_ok (l := PySem.Challenge.rw_piecetables_k46_whole_steps_or_a_knot) (w := w) KX G hmg c
    exact ⟨K, T, s, cs, KX, r⟩
