import PyProof.Rows.All
import Wide.All
import OpenK.AllK
import Wide.FinOn
import PyProof.EqAt
import PyProof.EqKinds
import PyProof.TupleCall
import KE.BitLaws
import Open.SpecLaws
import KE.OsHead
import KE.OsGo
import KE.KTryMore
import PyYqofma
import KE.KSortTupG
import PyProof.Rows.SortG.SortRunsSt
import KE.KSortKeySt
import PySem.Challenge.RW_oneformroom_s01_answers
import KE.KLam
import KE.KNestM
set_option Elab.async false
set_option linter.all false
set_option maxRecDepth 100000
section
set_option maxHeartbeats 0
namespace Hd
open PySem PySem.W PyProof.Rows
section
local macro_rules | `(tactic| o_headS ($f:ident $K:term $as:term $e:term)) => `(tactic| assumption)
theorem kpre (h : PySem.Challenge.rw_oneformroom_s01_answers.Holds) : PySem.Challenge.rw_oneformroom_s01_answers.Holds := by
 k_headS
end
noncomputable def runG (stp : SharedT → Thread → Option (SharedT × Thread)) (ok thr : Thread → Bool) (n : Nat) : SharedT → Thread → Option SharedT :=
 @Nat.rec (fun _ => SharedT → Thread → Option SharedT) (fun _ _ => none) (fun _ ih s t => match thr t with
   | true => some s
   | false => match ok t with
     | false => none
     | true => match stp s t with
       | some (s', t') => ih s' t'
       | none => none) n
theorem runG_of {tb : String → Option Builtin} {p : Program} {w : World} {m : Nat} {ann : Option Value} : ∀ {n : Nat} {s s' : SharedT} {t : Thread}, runG (stepT (denote tb) p w) (stepOk m ann) through n s t = some s' → topRun tb p w m ann n s.abs t = some s'.abs
 | 0, _, _, _, h => by cases h
 | n + 1, s, s', t, h => by
   have h : (match through t with
     | true => some s
     | false => match stepOk m ann t with
       | false => none
       | true => match stepT (denote tb) p w s t with
         | some (s', t') => runG (stepT (denote tb) p w) (stepOk m ann) through n s' t'
         | none => none) = some s' := h
   unfold topRun
   cases a : through t with
   | true => rw [a] at h; cases h; rfl
   | false =>
     rw [a] at h
     cases b : stepOk m ann t with
     | false => rw [b] at h; cases h
     | true =>
       rw [b] at h
       cases c : stepT (denote tb) p w s t with
       | none => rw [c] at h; cases h
       | some r => obtain ⟨s2, t2⟩ := r; rw [c] at h; dsimp only; rw [stepT_spec c]; exact runG_of h
noncomputable def growT : List Obj → Nat → BT → BT
 | [], _, t => t
 | o :: r, i, t => growT r (i + 1) (t.ins i o)
noncomputable def s0 (w : World) (os : OsState) : SharedT := ⟨growT (boot_heap w.params).objs.toList 0 .nil, 11, (boot_heap w.params).life, #[], boot_drawn, boot_toks, os⟩
theorem s0_abs (w : World) (os : OsState) : (s0 w os).abs = ⟨boot_heap w.params, #[], boot_drawn, boot_toks, os⟩ := by kernel_rfl
noncomputable abbrev pP : Program := PySem.Challenge.pw_oneformroom_s01_answers
noncomputable def pQ : Program := view pP [1, 2, 3, 4, 5, 6, 7, 9, 10, 11, 12, 13, 14, 15, 16, 17, 18, 19, 20, 21, 22, 23, 24, 25, 27, 28, 29, 30, 31, 32, 33, 34, 36, 37, 38, 39, 40, 41, 42, 44, 45, 46, 47, 48, 49, 50, 51, 52, 53, 54, 55, 56, 57, 58, 60, 61, 62, 63, 64, 65, 66, 67, 68, 69, 71, 72, 73, 74, 75, 76, 77, 78, 79, 80, 81, 82, 83, 84, 85, 86, 87, 88, 89, 90]
noncomputable def lo : List Str := ["EXPONENT_BITS", "FRACTION_BITS", "STEP_POWER", "TAKES"]
noncomputable def Xt (s : Shared) : Bool := xlAt pQ [] s && recOk [] s
noncomputable def kAs : List Addr := [2, 3, 15, 22, 23, 24, 25, 28, 35, 36, 37, 38, 41, 48, 49, 50, 51, 54, 61, 62, 63, 64, 67, 74, 75, 76, 77, 80, 87, 88, 89, 90, 93, 100, 101, 102, 103, 113, 115, 116, 118, 119, 120, 121, 122, 123, 124, 127, 129, 130, 132, 133, 134, 136, 137, 139, 140, 141, 143, 144, 146, 147, 148, 150, 151, 153, 154, 155, 157, 158, 160, 161, 169, 171, 172, 174, 175, 176, 177, 178, 179, 180, 183, 185, 186, 188, 189, 190, 192, 193, 195, 196, 197, 199, 200, 202, 203, 204, 206, 207, 209, 210, 211, 213, 214, 216, 217, 218, 220, 221, 223, 224, 225, 226, 228, 229, 231, 232, 233, 235, 236, 238, 239, 240, 242, 243, 245, 246, 247, 248, 249, 250, 251, 253, 254, 256, 257, 258, 260, 261, 263, 264, 265, 267, 268, 270, 271, 272, 274, 275, 277, 278, 279, 281, 282, 284, 285, 286, 288, 289, 291, 292, 293, 295, 296, 298, 299, 300, 302, 303, 305, 306, 307, 309, 310, 312, 313, 314, 316, 317, 319, 320, 321, 323, 324, 326, 327, 328, 330, 331, 333, 334, 335, 337, 338, 340, 341, 342, 344, 345, 347, 348, 349, 351, 352, 354, 355, 363, 365, 366, 368, 369, 370, 372, 373, 375, 376, 377, 379, 380, 382, 383, 384, 386, 387, 389, 390, 391, 393, 394, 396, 397, 398, 400, 401, 403, 404, 405, 408, 409, 410, 412, 413, 415, 416, 417, 419, 420, 422, 423, 424, 426, 427, 429, 430, 431, 432, 433, 434, 435, 438, 439, 440, 441, 442, 443, 444, 445, 446, 447, 448, 449, 457, 459, 460, 462, 463, 464, 466, 467, 469, 470, 471, 473, 474, 476, 477, 478, 480, 481, 483, 484, 485, 486, 487, 488, 489, 499, 501, 502, 504, 505, 506, 508, 509, 511, 512, 513, 515, 516, 518, 519, 520, 522, 523, 525, 526, 527, 529, 530, 532, 533, 534, 536, 537, 539, 540, 541, 542, 543, 544, 545, 548, 550, 551, 553, 554, 555, 557, 558, 560, 561, 562, 564, 565, 567, 568, 569, 571, 572, 574, 575, 576, 578, 579, 581, 582, 583, 585, 586, 588, 589, 590, 592, 593, 595, 596]
theorem kAs_eq : ∀ P, kAs = (kpre.heap_1 P).map (·.1) := fun _ => by kernel_rfl
noncomputable def hk : Hook := kmHook kpre.heap_1 kAs kAs_eq [406]
noncomputable def runQ (w : World) (os : OsState) : Option SharedT := runG (Fast.tw10156331382660048174 (Fast.tw11892475500146522536 Fast.tw14364793385576792824) pP w) (Fast.tw6613529449190102663 11 (some (Value.ref 6))) through 4880 (s0 w os) (topStub pP)
theorem runQ_of {w : World} {os : OsState} {s : SharedT} (h : runQ w os = some s) : topRun treeTable pP w 11 (some (Value.ref 6)) 4880 ⟨boot_heap w.params, #[], boot_drawn, boot_toks, os⟩ (topStub pP) = some s.abs := by
 unfold runQ at h
 rw [← Fast.te10156331382660048174, ← Fast.te11892475500146522536, ← Fast.te14364793385576792824, ← Fast.te6613529449190102663] at h
 have := runG_of h
 rw [s0_abs] at this
 exact this
noncomputable def getT (s : SharedT) (a : Addr) : Option Obj := match Nat.blt a s.n with
 | true => match s.tree.get a with
   | some o => alive o
   | none => alive default
 | false => none
theorem getT_eq (s : SharedT) (a : Addr) : getT s a = s.abs.heap.get? a := by
 obtain ⟨T, n, life, gens, drawn, toks, os⟩ := s
 show (match Nat.blt a n with | true => _ | false => _) = (absHeap T n life).get? a
 cases e : Nat.blt a n with
 | false => exact (abs_get_none fun q => by rw [show Nat.blt a n = true from Nat.ble_eq_true_of_le q] at e; cases e).symm
 | true =>
   have lt : a < n := Nat.le_of_ble_eq_true e
   cases g : T.get a with
   | some o => exact (abs_get lt g).symm
   | none =>
     show alive default = _
     unfold Heap.get?
     rw [absHeap_at, if_pos lt, g]
     rfl
noncomputable def lkA (w : World) (s : SharedT) : Bool := staticsOk (importedModules pP.main.body) (boot_heap w.params) s.abs.heap && namesBound pP s.abs.heap && gensDone s.abs && laidKept (boot_heap w.params) s.abs.heap
noncomputable def osT (s : SharedT) := Fast.tw4187177175401517315 pQ lo (Fast.tw5923862056798008813 pP.main.body) Xt true s.abs
noncomputable def lk1 (w : World) (s : SharedT) := (lkA w s, (kAs.map (getT s), [406].map (getT s)), (osT s).1, (osT s).2.1, (osT s).2.2.2.1, (osT s).2.2.2.2.1, (osT s).2.2.2.2.2.2.1, (osT s).2.2.2.2.2.2.2.2)
noncomputable def gd1 (w : World) := (true, hk.val w, expectedOf pQ, bltViewBooted, true, pinGoodD (drecsOf pQ), plainGoodD pQ lo, clsGoodW pQ lo)
noncomputable def lk2 (s : SharedT) := ((osT s).2.2.1, (osT s).2.2.2.2.2.2.2.1)
noncomputable def gd2 := (true, wideGood pQ)
noncomputable def lk3 (s : SharedT) := (osT s).2.2.2.2.2.1
theorem well : PySem.Challenge.rw_oneformroom_s01_answers.wellSaid = true := by decide +kernel
theorem bare : PySem.Challenge.rw_oneformroom_s01_answers.prog.bare := ⟨rfl, rfl, rfl, rfl, rfl, by decide +kernel⟩
end Hd
end
section
set_option maxHeartbeats 0
namespace Hd
open PySem PySem.W PyProof.Rows
theorem t1f (w : World) (os : OsState) : (runQ (w.withFollow "special-get-raises" false) os).map (lk1 (w.withFollow "special-get-raises" false)) = some (gd1 (w.withFollow "special-get-raises" false)) := by kernel_rfl
end Hd
end
section
set_option maxHeartbeats 0
namespace Hd
open PySem PySem.W PyProof.Rows
theorem t1t (w : World) (os : OsState) : (runQ (w.withFollow "special-get-raises" true) os).map (lk1 (w.withFollow "special-get-raises" true)) = some (gd1 (w.withFollow "special-get-raises" true)) := by kernel_rfl
end Hd
end
section
set_option maxHeartbeats 0
namespace Hd
open PySem PySem.W PyProof.Rows
theorem t2f (w : World) (os : OsState) : (runQ (w.withFollow "special-get-raises" false) os).map lk2 = some gd2 := by kernel_rfl
end Hd
end
section
set_option maxHeartbeats 0
namespace Hd
open PySem PySem.W PyProof.Rows
theorem t2t (w : World) (os : OsState) : (runQ (w.withFollow "special-get-raises" true) os).map lk2 = some gd2 := by kernel_rfl
end Hd
end
section
set_option maxHeartbeats 0
namespace Hd
open PySem PySem.W PyProof.Rows
theorem t3f (w : World) (os : OsState) : (runQ (w.withFollow "special-get-raises" false) os).map lk3 = some (plainGoodE pQ (looseW pQ lo)) := by kernel_rfl
end Hd
end
section
set_option maxHeartbeats 0
namespace Hd
open PySem PySem.W PyProof.Rows
theorem t3t (w : World) (os : OsState) : (runQ (w.withFollow "special-get-raises" true) os).map lk3 = some (plainGoodE pQ (looseW pQ lo)) := by kernel_rfl
end Hd
end
section
set_option maxHeartbeats 0
namespace Hd
open PySem PySem.W PyProof.Rows
theorem map_some {α β : Type} {x : Option α} {f : α → β} {b : β} {a : α} (h : x.map f = some b) (e : x = some a) : f a = b := by subst e; exact Option.some.inj h
theorem run_all (w : World) (os : OsState) : ∃ s : SharedT, runQ w os = some s ∧ lk1 w s = gd1 w ∧ lk2 s = gd2 ∧ lk3 s = plainGoodE pQ (looseW pQ lo) := by
 have h1 := byRow2 "special-get-raises" (P := fun w => ∀ os, (runQ w os).map (lk1 w) = some (gd1 w)) t1f t1t w os
 have h2 := byRow2 "special-get-raises" (P := fun w => ∀ os, (runQ w os).map lk2 = some gd2) t2f t2t w os
 have h3 := byRow2 "special-get-raises" (P := fun w => ∀ os, (runQ w os).map lk3 = some (plainGoodE pQ (looseW pQ lo))) t3f t3t w os
 obtain ⟨s, e, h⟩ := Option.map_eq_some_iff.mp h1
 exact ⟨s, e, h, map_some h2 e, map_some h3 e⟩
theorem osT_eq (s : SharedT) : osT s = openSeen pQ lo (importedModules pP.main.body) Xt true s.abs := by
 unfold osT
 rw [← Fast.te4187177175401517315, ← Fast.te5923862056798008813]
theorem p8 {A B C D E F G I : Type} {a a' : A} {b b' : B} {c c' : C} {d d' : D} {e e' : E} {f f' : F} {g g' : G} {i i' : I} (h : (a, b, c, d, e, f, g, i) = (a', b', c', d', e', f', g', i')) : a = a' ∧ b = b' ∧ c = c' ∧ d = d' ∧ e = e' ∧ f = f' ∧ g = g' ∧ i = i' := by
 cases h
 exact ⟨rfl, rfl, rfl, rfl, rfl, rfl, rfl, rfl⟩
theorem e9 {A B C D E F G I J : Type} {x : A × B × C × D × E × F × G × I × J} {a : A} {b : B} {c : C} {d : D} {e : E} {f : F} {g : G} {i : I} {j : J} (h1 : x.1 = a) (h2 : x.2.1 = b) (h3 : x.2.2.1 = c) (h4 : x.2.2.2.1 = d) (h5 : x.2.2.2.2.1 = e) (h6 : x.2.2.2.2.2.1 = f) (h7 : x.2.2.2.2.2.2.1 = g) (h8 : x.2.2.2.2.2.2.2.1 = i) (h9 : x.2.2.2.2.2.2.2.2 = j) : x = (a, b, c, d, e, f, g, i, j) := by
 subst h1 h2 h3 h4 h5 h6 h7 h8 h9
 rfl
theorem looks (w : World) (os : OsState) : ∃ s : Shared, topRun treeTable pP w 11 (some (Value.ref 6)) 4880 ⟨boot_heap w.params, #[], boot_drawn, boot_toks, os⟩ (topStub pP) = some s ∧
   (staticsOk (importedModules pP.main.body) (boot_heap w.params) s.heap && namesBound pP s.heap && gensDone s && laidKept (boot_heap w.params) s.heap) = true ∧
   openSeen pQ lo (importedModules pP.main.body) Xt true s = openGood pQ lo ∧ hk.obs s = hk.val w := by
 obtain ⟨s, e, h1, h2, h3⟩ := run_all w os
 unfold lk1 gd1 at h1
 unfold lk2 gd2 at h2
 unfold lk3 at h3
 obtain ⟨h2, q8⟩ := Prod.mk.inj h2
 obtain ⟨a1, a2, q1, q2, q4, q5, q7, q9⟩ := p8 h1
 refine ⟨s.abs, runQ_of e, ?_, ?_, ?_⟩
 · unfold lkA at a1
   exact a1
 · rw [← osT_eq]
   unfold openGood
   exact e9 q1 q2 h2 q4 q5 h3 q7 q8 q9
 · rw [← a2, show getT s = s.abs.heap.get? from funext (getT_eq s)]
   rfl
theorem boot (w : World) : (fencedOpening treeTable pP w 9824).map (fun s => (s.heap, s.gens, s.drawn, s.toks)) = some (boot_heap w.params, Array.mk [], boot_drawn, boot_toks) :=
 boot_open (by kernel_rfl) (by decide) (fun s => by kernel_rfl) w
theorem booted (w : World) : ((boot_heap w.params).isNs mainGlobals, (boot_heap w.params).objs.size, (boot_heap w.params).nsMap mainGlobals "__annotations__") = (true, 11, some (Value.ref 6)) := by kernel_rfl
theorem runs (w : World) (os : OsState) {s : Shared} (r1 : topRun treeTable pP w 11 (some (Value.ref 6)) 4880 ⟨boot_heap w.params, #[], boot_drawn, boot_toks, os⟩ (topStub pP) = some s)
   (r2 : (staticsOk (importedModules pP.main.body) (boot_heap w.params) s.heap && namesBound pP s.heap && gensDone s && laidKept (boot_heap w.params) s.heap) = true) :
   topFrom treeTable pP w 9824 ⟨boot_heap w.params, #[], boot_drawn, boot_toks, os⟩ = some s := by
 have b := booted w
 simp only [Prod.mk.injEq] at b
 obtain ⟨b1, b2, b3⟩ := b
 have r := topRun_mono 4944 _ _ _ _ r1
 rw [show 4880 + 4944 = 9824 from rfl] at r
 unfold topFrom
 simp only [b1, b2, b3, r, r2, Option.bind_some]
 rfl
theorem left : LeftO pP pQ lo Xt hk.obs hk.val 9824 := fun w => by
 obtain ⟨⟨H, gs, dr, tk, os⟩, e1, e2⟩ := Option.map_eq_some_iff.mp (boot w)
 simp only [Prod.mk.injEq] at e2
 obtain ⟨rfl, rfl, rfl, rfl⟩ := e2
 obtain ⟨s, r1, r2, r3, r4⟩ := looks w os
 have t := runs w os r1 r2
 unfold openEnds
 rw [e1, Option.bind_some, t, Option.map_some, r3, r4]
theorem chains : (chainsOk pQ && opensWell pP) = true := by decide +kernel
theorem both {s : Shared} (e : Xt s = true) : xlAt pQ [] s = true ∧ recOk [] s = true := Bool.and_eq_true_iff.mp e
end Hd
end
section
namespace L2
open PySem PySem.Spec PyProof.Rows
noncomputable abbrev Key := Sum Int Str
noncomputable def keyIs : Key → Value → Bool
 | .inl k, v => Value.isInt k v
 | .inr x, v => Value.isStrOf x v
noncomputable def keyH (w : World) : Key → Int
 | .inl k => hashInt k
 | .inr x => hashStr w x
theorem keyIs_shape : ∀ {k : Key} {v : Value}, keyIs k v = true → (∃ i t, k = Sum.inl i ∧ v = Value.int i t) ∨ (∃ x t, k = Sum.inr x ∧ v = Value.str x t)
 | .inl i, v, h => by
   obtain ⟨t, e⟩ := Value.isInt_shape (k := i) (v := v) h
   exact .inl ⟨i, t, rfl, e⟩
 | .inr x, v, h => by
   obtain ⟨t, e⟩ := Value.isStrOf_shape (x := x) (v := v) h
   exact .inr ⟨x, t, rfl, e⟩
theorem key_ll (a b : Int) : decide ((Sum.inl a : Key) = Sum.inl b) = (a == b) := by
 by_cases e : a = b
 · subst e; simp
 · have h : ¬ (Sum.inl a : Key) = Sum.inl b := fun q => e (Sum.inl.inj q)
   rw [decide_eq_false h]
   exact (beq_eq_false_iff_ne.mpr e).symm
theorem key_rr (a b : Str) : decide ((Sum.inr a : Key) = Sum.inr b) = decide (a = b) := by
 by_cases e : a = b
 · subst e; simp
 · have h : ¬ (Sum.inr a : Key) = Sum.inr b := fun q => e (Sum.inr.inj q)
   rw [decide_eq_false h, decide_eq_false e]
theorem key_lr (a : Int) (b : Str) : decide ((Sum.inl a : Key) = Sum.inr b) = false := decide_eq_false (fun q => nomatch q)
theorem key_rl (a : Str) (b : Int) : decide ((Sum.inr a : Key) = Sum.inl b) = false := decide_eq_false (fun q => nomatch q)
noncomputable def mixKind (prog : Program) (w : World) : PySem.KeyKind prog w Key where
 is := keyIs
 hash := keyH w
 inj := fun v a b ha hb => by
   rcases keyIs_shape ha with ⟨i, t, rfl, rfl⟩ | ⟨x, t, rfl, rfl⟩
   · rcases keyIs_shape hb with ⟨j, u, rfl, e⟩ | ⟨y, u, rfl, e⟩
     · injection e with e1 _; rw [e1]
     · exact nomatch e
   · rcases keyIs_shape hb with ⟨j, u, rfl, e⟩ | ⟨y, u, rfl, e⟩
     · exact nomatch e
     · injection e with e1 _; rw [e1]
 byValue := fun k v h => by
   rcases keyIs_shape h with ⟨i, t, rfl, rfl⟩ | ⟨x, t, rfl, rfl⟩ <;> rfl
 pyHash := fun hv h => by
   rcases keyIs_shape hv with ⟨i, t, rfl, rfl⟩ | ⟨x, t, rfl, rfl⟩
   · exact wpAny_pyHash_int h
   · exact wpAny_pyHash_str h
 eqBool := fun hu hv h => by
   rcases keyIs_shape hu with ⟨i, t, rfl, rfl⟩ | ⟨x, t, rfl, rfl⟩
   · rcases keyIs_shape hv with ⟨j, u, rfl, rfl⟩ | ⟨y, u, rfl, rfl⟩
     · rw [key_ll] at h; exact wpAny_eqBool_int h
     · rw [key_lr] at h; exact SeqAt.EqAt.int_str i t y u _ _ _ _ h
   · rcases keyIs_shape hv with ⟨j, u, rfl, rfl⟩ | ⟨y, u, rfl, rfl⟩
     · rw [key_rl] at h; exact SeqAt.EqAt.str_int x t j u _ _ _ _ h
     · rw [key_rr] at h; exact wpAny_eqBool_str h
 «strs» := fun k x t v h => by
   rcases keyIs_shape h with ⟨i, u, rfl, e⟩ | ⟨y, u, rfl, e⟩
   · exact nomatch e
   · injection e with e1 _
     subst e1
     cases v <;> rfl
end L2
namespace L2
open PySem PySem.Spec PyProof.Rows
inductive V where
 | non | bl (b : Bool) | int (i : Int) | str (x : Str) | byt (b : Array UInt8) | flt (b : UInt64) | ref (a : Addr) | ty (n : String)
 deriving DecidableEq
noncomputable def RelV : V → Value → Prop
 | .non, u => u = Value.none
 | .bl b, u => u = Value.bool b
 | .int i, u => ∃ t, u = Value.int i t
 | .str x, u => ∃ t, u = Value.str x t
 | .byt b, u => ∃ t, u = Value.bytes b t
 | .flt b, u => ∃ t, u = Value.float b t
 | .ref a, u => u = Value.ref a
 | .ty n, u => u = Value.type n
noncomputable abbrev Vals : List V → List Value → Prop := Paired RelV
theorem Vals.length {xs : List V} {us : List Value} (r : Vals xs us) : xs.length = us.length := Paired.length r
theorem Vals.get : ∀ {xs : List V} {us : List Value} {i : Nat} {x : V}, Vals xs us → xs[i]? = some x → ∃ u, us[i]? = some u ∧ RelV x u
 | _, _, _, _, .nil, e => by simp at e
 | _, _, 0, _, .cons r _, e => by simp at e; subst e; exact ⟨_, rfl, r⟩
 | _, _, i + 1, x, .cons _ t, e => by
   obtain ⟨u, h1, h2⟩ := Vals.get (i := i) (x := x) t (by simpa using e)
   exact ⟨u, by simpa using h1, h2⟩
theorem Vals.append : ∀ {xs ys : List V} {us ws : List Value}, Vals xs us → Vals ys ws → Vals (xs ++ ys) (us ++ ws)
 | _, _, _, _, .nil, s => s
 | _, _, _, _, .cons r t, s => .cons r (Vals.append t s)
theorem Vals.take : ∀ {xs : List V} {us : List Value} (n : Nat), Vals xs us → Vals (xs.take n) (us.take n)
 | _, _, 0, _ => .nil
 | _, _, _ + 1, .nil => .nil
 | _, _, n + 1, .cons r t => .cons r (Vals.take n t)
theorem Vals.drop : ∀ {xs : List V} {us : List Value} (n : Nat), Vals xs us → Vals (xs.drop n) (us.drop n)
 | _, _, 0, r => r
 | _, _, _ + 1, .nil => .nil
 | _, _, n + 1, .cons _ t => Vals.drop n t
noncomputable def RelO : Option V → Option Value → Prop
 | some v, some u => RelV v u
 | none, none => True
 | _, _ => False
noncomputable def KV {κ : Type} : List (κ × V) → List (κ × Value) → Prop := Paired fun (p : κ × V) (q : κ × Value) => p.1 = q.1 ∧ RelV p.2 q.2
noncomputable def kV : Key → V
 | .inl i => .int i
 | .inr x => .str x
inductive HO where
 | lst (xs : List V)
 | tup (xs : List V)
 | dK (kvs : List (Key × V)) | dT (kvs : List (List Key × V))
 | set (S : Int → Bool) (n : Nat)
 | ins (C dx : Addr) (fs : List (Str × V))
 | own (x : Addr)
 | xd (fs : List (Str × V))
 | met (f x : Addr)
 | rng (lo hi : Int)
 | frz (o : Obj) (u : HO)
 | tbl (ps : Array Value)
 | ext (φ : Heap → Prop)
noncomputable abbrev Hp := Addr → Option HO
noncomputable def upd (H : Hp) (a : Addr) (o : HO) : Hp := fun b => if b = a then some o else H b
theorem upd_same {H : Hp} {a : Addr} {o : HO} : upd H a o a = some o := by unfold upd; rw [if_pos rfl]
theorem upd_ne {H : Hp} {a b : Addr} {o : HO} (h : b ≠ a) : upd H a o b = H b := by unfold upd; rw [if_neg h]
theorem upd_upd {H : Hp} {a : Addr} {o u : HO} : upd (upd H a o) a u = upd H a u := by
 funext b; unfold upd; split <;> rfl
theorem ne_of {H : Hp} {a b : Addr} {o u : HO} (h : H a = some o) (h' : H b = some u) (d : o ≠ u) : a ≠ b := by
 intro e; subst e; rw [h] at h'; exact d (Option.some.inj h')
theorem ne_of_none {H : Hp} {a b : Addr} {o : HO} (h : H a = some o) (h' : H b = none) : a ≠ b := by
 intro e; subst e; rw [h] at h'; cases h'
section
variable (P : Program) (w : World)
noncomputable def ObjOk (H : Hp) (h : Heap) (a : Addr) : HO → Prop
 | .lst xs => xs.length ≤ sizeLine ∧ ∃ (its : List Value) (n : Nat), Vals xs its ∧ h.get? a = some { cls := .type "list", data := .seq its.toArray n }
 | .tup xs => xs.length ≤ sizeLine ∧ ∃ its : List Value, Vals xs its ∧ IsTup h a its.toArray
 | .dK kvs => kvs.length ≤ sizeLine ∧ (a == sysModules) = false ∧ ∃ vs, KV kvs vs ∧ h.DictOf (mixKind P w) a vs
 | .dT kvs => kvs.length ≤ sizeLine ∧ (a == sysModules) = false ∧ ∃ xs : List (List Key × Addr × Value),
     Paired (fun (p : List Key × V) (q : List Key × Addr × Value) => p.1 = q.1 ∧ H q.2.1 = some (.tup (p.1.map kV)) ∧ RelV p.2 q.2.2) kvs xs ∧
     ∃ o es ep, h.get? a = some o ∧ o.ExactDict ∧ o.data = .dict es ep ∧ es.toList = xs.map (entryOfKey (tupleKind (mixKind P w))) ∧ (xs.map (·.1)).Nodup
 | .set S n => h.SetOf (intKind P w) a S n
 | .ins C dx fs => H dx = some (.own a) ∧ fs.length ≤ 1000 ∧ dx ≠ a ∧ h.get? a = some (PySem.W.instObj C dx) ∧
     ∃ mA, h.Ns1 dx mA ∧ (∀ f, RelO (fs.lookup f) (mA f)) ∧ PySem.Within mA (fs.map (·.1))
 | .own _ => ∃ o, h.get? a = some o
 | .xd fs => ∃ mA, h.Ns1 a mA ∧ ∀ f, RelO (fs.lookup f) (mA f)
 | .rng lo hi => ∃ t u v, h.get? a = some { cls := .type "range", data := .fields #[.int lo t, .int hi u, .int 1 v] }
 | .frz o u => h.get? a = some o ∧ ObjOk H h a u
 | .tbl ps => h.get? a = some { cls := .none, data := .fields ps }
 | .met f x => h.get? a = some (PySem.W.methodObj (.ref f) (.ref x))
 | .ext φ => φ h ∧ (∃ o, h.get? a = some o) ∧ ∀ h1 h2 : Heap, φ h1 → (∀ o, h1.get? a = some o → h2.get? a = some o) → φ h2
noncomputable def HOk (H : Hp) (h : Heap) : Prop := ∀ a o, H a = some o → ObjOk P w H h a o
end
section
variable {P : Program} {w : World} {H H' : Hp} {h h' : Heap} {a : Addr} {o : HO}
theorem ObjOk.lt (x : ObjOk P w H h a o) : a < h.objs.size := by
 cases o with
 | lst xs => obtain ⟨_, _, _, _, e⟩ := x; exact Heap.lt_size e
 | tup xs => obtain ⟨_, _, _, p⟩ := x; exact p.lt
 | dK kvs => obtain ⟨_, _, _, _, o, _, _, e, _⟩ := x; exact Heap.lt_size e
 | dT kvs => obtain ⟨_, _, _, _, o, _, _, e, _⟩ := x; exact Heap.lt_size e
 | set S n => obtain ⟨o, _, _, _, e, _⟩ := x; exact Heap.lt_size e
 | ins C dx fs => obtain ⟨_, _, _, e, _⟩ := x; exact Heap.lt_size e
 | own y => obtain ⟨_, e⟩ := x; exact Heap.lt_size e
 | xd fs => obtain ⟨_, ⟨_, _, _, e, _⟩, _⟩ := x; exact Heap.lt_size e
 | rng lo hi => obtain ⟨_, _, _, e⟩ := x; exact Heap.lt_size e
 | frz ob u => obtain ⟨e, _⟩ := x; exact Heap.lt_size e
 | tbl ps => exact Heap.lt_size (show h.get? a = some _ from x)
 | met f y => exact Heap.lt_size (show h.get? a = some _ from x)
 | ext φ => obtain ⟨_, ⟨_, e⟩, _⟩ := x; exact Heap.lt_size e
theorem Paired.mapP {α β : Type} {F G : α → β → Prop} : ∀ {l₁ : List α} {l₂ : List β}, Paired F l₁ l₂ → (∀ a b, F a b → G a b) → Paired G l₁ l₂
 | _, _, .nil, _ => .nil
 | _, _, .cons r t, f => .cons (f _ _ r) (Paired.mapP t f)
theorem ObjOk.stay (x : ObjOk P w H h a o) (k : ∀ b u, (b = a ∨ H b = some (.own a)) → h.get? b = some u → h'.get? b = some u)
   (ho : ∀ b, H b = some (.own a) → H' b = some (.own a)) (ht : ∀ b xs, H b = some (.tup xs) → H' b = some (.tup xs)) : ObjOk P w H' h' a o := by
 induction o with
 | lst xs => obtain ⟨z, its, n, r, e⟩ := x; exact ⟨z, its, n, r, k _ _ (.inl rfl) e⟩
 | tup xs => obtain ⟨z, its, r, ob, e, c⟩ := x; exact ⟨z, its, r, ob, k _ _ (.inl rfl) e, c⟩
 | dK kvs => obtain ⟨z, y, vs, r, ob, es, ep, e, c⟩ := x; exact ⟨z, y, vs, r, ob, es, ep, k _ _ (.inl rfl) e, c⟩
 | dT kvs =>
   obtain ⟨z, y, xs, r, ob, es, ep, e, c⟩ := x
   exact ⟨z, y, xs, Paired.mapP r fun p q z => ⟨z.1, ht _ _ z.2.1, z.2.2⟩, ob, es, ep, k _ _ (.inl rfl) e, c⟩
 | set S n => obtain ⟨ob, es, ep, t, e, c⟩ := x; exact ⟨ob, es, ep, t, k _ _ (.inl rfl) e, c⟩
 | ins C dx fs =>
   obtain ⟨d, z, ne, e, mA, ⟨od, es, ep, e2, c⟩, r⟩ := x
   exact ⟨ho _ d, z, ne, k _ _ (.inl rfl) e, mA, ⟨od, es, ep, k _ _ (.inr d) e2, c⟩, r⟩
 | own y => obtain ⟨ob, e⟩ := x; exact ⟨ob, k _ _ (.inl rfl) e⟩
 | xd fs => obtain ⟨mA, ⟨od, es, ep, e, c⟩, r⟩ := x; exact ⟨mA, ⟨od, es, ep, k _ _ (.inl rfl) e, c⟩, r⟩
 | rng lo hi => obtain ⟨t, u, v, e⟩ := x; exact ⟨t, u, v, k _ _ (.inl rfl) e⟩
 | frz ob u ih => obtain ⟨e, q⟩ := x; exact ⟨k _ _ (.inl rfl) e, ih q⟩
 | tbl ps =>
   have e : h.get? a = some { cls := .none, data := .fields ps } := x
   show h'.get? a = some { cls := .none, data := .fields ps }
   exact k a _ (.inl rfl) e
 | met f y =>
   have e : h.get? a = some (PySem.W.methodObj (.ref f) (.ref y)) := x
   show h'.get? a = some (PySem.W.methodObj (.ref f) (.ref y))
   exact k a _ (.inl rfl) e
 | ext φ => obtain ⟨p, ⟨o, e⟩, st⟩ := x; exact ⟨st _ _ p fun o q => k _ _ (.inl rfl) q, ⟨o, k _ _ (.inl rfl) e⟩, st⟩
theorem HOk.lt (x : HOk P w H h) (e : H a = some o) : a < h.objs.size := (x a o e).lt
theorem HOk.fresh (x : HOk P w H h) (e : h.objs.size ≤ a) : H a = none := by
 cases q : H a with
 | none => rfl
 | some u => exact absurd (Nat.lt_of_lt_of_le (x.lt q) e) (Nat.lt_irrefl _)
theorem HOk.kept (x : HOk P w H h) (k : ∀ b u, h.get? b = some u → h'.get? b = some u) : HOk P w H h' := fun a o e =>
 (x a o e).stay (fun b u _ q => k b u q) (fun _ q => q) fun _ _ q => q
theorem HOk.laid (x : HOk P w H h) (k : ∀ b u, h.get? b = some u → h'.get? b = some u) (hp : h.objs.size ≤ a) (new : ObjOk P w (upd H a o) h' a o) : HOk P w (upd H a o) h' := fun b u e => by
 have hn := x.fresh hp
 by_cases hb : b = a
 · subst hb; rw [upd_same] at e; cases e; exact new
 · rw [upd_ne hb] at e
   exact (x b u e).stay (fun c v _ q => k c v q) (fun c q => by rw [upd_ne (ne_of_none q hn)]; exact q) fun c xs q => by rw [upd_ne (ne_of_none q hn)]; exact q
end
noncomputable def Rd (H : Hp) (a : Addr) (u : HO) : Prop := H a = some u ∨ ∃ o, H a = some (.frz o u)
theorem Rd.ok {P : Program} {w : World} {H : Hp} {h : Heap} {a : Addr} {u : HO} (r : Rd H a u) (x : HOk P w H h) : ObjOk P w H h a u := by
 rcases r with r | ⟨o, r⟩
 · exact x a u r
 · obtain ⟨_, q⟩ := x a _ r
   exact q
noncomputable def Mut : Option HO → Prop
 | some (.lst _) => True
 | some (.dK _) => True
 | some (.dT _) => True
 | some (.set _ _) => True
 | some (.ins _ _ _) => True
 | some (.ext _) => True
 | _ => False
section
variable {P : Program} {w : World} {H : Hp} {h h' : Heap} {x e : Addr} {o' : HO}
theorem HOk.write (ok : HOk P w H h) (mu : Mut (H x)) (he : e = x ∨ H e = some (.own x)) (k : ∀ b u, b ≠ e → h.get? b = some u → h'.get? b = some u) (heo : ∃ u, h'.get? e = some u)
   (new : ObjOk P w (upd H x o') h' x o') : HOk P w (upd H x o') h' := fun b u q => by
 have nown : ∀ c y, H c = some (.own y) → c ≠ x := fun c y r z => by subst z; rw [r] at mu; exact mu
 have ntup : ∀ c xs, H c = some (.tup xs) → c ≠ x := fun c xs r z => by subst z; rw [r] at mu; exact mu
 by_cases hb : b = x
 · subst hb; rw [upd_same] at q; cases q; exact new
 · rw [upd_ne hb] at q
   by_cases hbe : b = e
   · have q' : H b = some (.own x) := by
       rcases he with z | z
       · exact absurd (hbe.trans z) hb
       · rw [hbe]; exact z
     rw [q] at q'; cases q'
     obtain ⟨v, hv⟩ := heo
     exact ⟨v, by rw [hbe]; exact hv⟩
   · refine (ok b u q).stay (fun c v hc r => k c v ?_ r) (fun c r => by rw [upd_ne (nown c b r)]; exact r) fun c xs r => by rw [upd_ne (ntup c xs r)]; exact r
     rcases hc with rfl | hc
     · exact hbe
     · rintro rfl
       rcases he with z | z
       · exact nown c b hc z
       · rw [hc] at z; cases z; exact hb rfl
end
structure Un (fs ex : List Addr) (H H' : Hp) (h h' : Heap) : Prop where
 keep : ∀ b o, h.get? b = some o → H b = none → b ∉ fs → b ∉ ex → h'.get? b = some o
 slot : ∀ b o, h.get? b = some o → H b = none → b ∈ fs → b ∉ ex → ∃ sl, h'.get? b = some { o with slots := sl }
 free : ∀ b o, h.get? b = some o → H b = none → b ∉ ex → H' b = none
 there : ∀ b o, h.get? b = some o → b ∉ ex → ∃ o', h'.get? b = some o'
 tups : ∀ b xs, H b = some (.tup xs) → H' b = some (.tup xs)
 frzs : ∀ b o u, H b = some (.frz o u) → H' b = some (.frz o u)
 tbls : ∀ b ps, H b = some (.tbl ps) → ∃ more, H' b = some (.tbl (ps ++ more))
section
variable {fs fs' ex ex' : List Addr} {H H1 H2 : Hp} {h h1 h2 h' : Heap} {a x e : Addr} {o : HO}
theorem Un.any (u : Un fs ex H H1 h h1) {b : Addr} {ob : Obj} (q : h.get? b = some ob) (n : H b = none) (hx : b ∉ ex) : ∃ sl, h1.get? b = some { ob with slots := sl } := by
 by_cases hb : b ∈ fs
 · exact u.slot b ob q n hb hx
 · exact ⟨ob.slots, u.keep b ob q n hb hx⟩
theorem Un.kept (k : ∀ b u, h.get? b = some u → h'.get? b = some u) : Un fs ex H H h h' :=
 ⟨fun b ob q _ _ _ => k b ob q, fun b ob q _ _ _ => ⟨ob.slots, k b ob q⟩, fun _ _ _ n _ => n, fun b ob q _ => ⟨ob, k b ob q⟩, fun _ _ q => q, fun _ _ _ q => q, fun _ ps q => ⟨#[], by rw [q]; simp⟩⟩
theorem Un.refl : Un fs ex H H h h := Un.kept fun _ _ q => q
theorem Un.laid (k : ∀ b u, h.get? b = some u → h'.get? b = some u) (hp : h.objs.size ≤ a) (hn : H a = none) : Un fs ex H (upd H a o) h h' where
 keep := fun b u q _ _ _ => k b u q
 slot := fun b u q _ _ _ => ⟨u.slots, k b u q⟩
 free := fun b u q n _ => by rw [upd_ne (Nat.ne_of_lt (Nat.lt_of_lt_of_le (Heap.lt_size q) hp))]; exact n
 there := fun b u q _ => ⟨u, k b u q⟩
 tups := fun b xs q => by rw [upd_ne (ne_of_none q hn)]; exact q
 frzs := fun b u xs q => by rw [upd_ne (ne_of_none q hn)]; exact q
 tbls := fun b ps q => ⟨#[], by rw [upd_ne (ne_of_none q hn), q]; simp⟩
theorem Un.write (mu : Mut (H x)) (he : e = x ∨ H e = some (.own x)) (k : ∀ b u, b ≠ e → h.get? b = some u → h'.get? b = some u) (heo : ∃ u, h'.get? e = some u) : Un fs ex H (upd H x o) h h' := by
 have hx : ∀ b, H b = none → b ≠ x := fun b n z => by subst z; rw [n] at mu; exact mu
 have hb : ∀ b, H b = none → b ≠ e := fun b n z => by
   subst z
   rcases he with r | r
   · exact hx b n r
   · rw [n] at r; cases r
 have hm : ∀ b u, H b = some u → ¬ Mut (some u) → b ≠ x := fun b u q nm z => by subst z; rw [q] at mu; exact nm mu
 refine ⟨fun b u q n _ _ => k b u (hb b n) q, fun b u q n _ _ => ⟨u.slots, k b u (hb b n) q⟩, fun b u q n _ => by rw [upd_ne (hx b n)]; exact n, fun b u q _ => ?_,
   fun b xs q => by rw [upd_ne (hm b _ q fun z => z)]; exact q, fun b u xs q => by rw [upd_ne (hm b _ q fun z => z)]; exact q, fun b ps q => ⟨#[], by rw [upd_ne (hm b _ q fun z => z), q]; simp⟩⟩
 by_cases hbe : b = e
 · subst hbe; exact heo
 · exact ⟨u, k b u hbe q⟩
end
noncomputable def trk (h : Heap) (H : Hp) : List Addr := (List.range h.objs.size).filter fun a => (H a).isSome
noncomputable def hidT (h : Heap) (H : Hp) : Heap := PySem.W.hideAll h (trk h H)
theorem hidT_size (h : Heap) (H : Hp) : (hidT h H).objs.size = h.objs.size := PySem.W.hideAll_size _ _
theorem hidT_get {h : Heap} {H : Hp} {b : Addr} {o : Obj} (e : h.get? b = some o) (n : H b = none) : (hidT h H).get? b = some o :=
 PySem.W.hideAll_get _ e fun hm => by
   have q : (H b).isSome = true := (List.mem_filter.mp hm).2
   rw [n] at q; simp at q
theorem of_hidT {h : Heap} {H : Hp} {b : Addr} {o : Obj} (e : (hidT h H).get? b = some o) : h.get? b = some o ∧ H b = none := by
 have e' : h.get? b = some o := PySem.W.of_hideAll (trk h H) e
 refine ⟨e', ?_⟩
 cases q : H b with
 | none => rfl
 | some x =>
   have hm : b ∈ trk h H := List.mem_filter.mpr ⟨List.mem_range.mpr (Heap.lt_size e'), by simp [q]⟩
   have z : (hidT h H).get? b = none := PySem.W.hideAll_none (trk h H) hm
   rw [z] at e; cases e
end L2
namespace L2
open PySem PySem.Spec PyProof.Rows
structure Mod (K : PySem.W.Frag) (mg : Str → Option Value) (base : Heap) : Prop where
 kin : K.In base
 glob : base.Ns mainGlobals mg
 blt : ∃ mb, base.Ns builtinsNs mb ∧ ∀ x : Str, x ≠ "__name__" → mb x = bootBuiltins x
 nolimit : base.NoLimit
structure Cx where
 prog : Program
 w : World
 K : PySem.W.Frag
 mg : Str → Option Value
 base : Heap
 A : Around
 N : List Str
 s_0 : Shared
 H_0 : Hp
 env : Env
 outer : List Env
 stack : List Env
 ex : List Addr
 fn : Str → Bool
 calm : Bool
 pn : List (Addr × Obj)
 xe : Value → Shared → Prop
noncomputable def frs (l : List Env) : List Addr := l.filterMap (·.frame)
noncomputable abbrev Cx.fs (X : Cx) : List Addr := frs X.outer
noncomputable def Vis (sc : Scope) (x : Str) : Prop := sc.names.lookup x = some .local ∨ sc.names.lookup x = some .cell ∨ sc.names.lookup x = some .free
noncomputable def Loc (sc : Scope) (x : Str) : Prop := sc.names.lookup x = some .local ∨ sc.names.lookup x = some .cell
noncomputable def Look (env : Env) (h : Heap) (m : Str → Option Value) (x : Str) (u : Value) : Prop :=
 (env.kindOf x = some .local ∧ m x = some u) ∨ ((env.kindOf x = some .cell ∨ env.kindOf x = some .free) ∧ ∃ c, env.cells.lookup x = some c ∧ h.IsCell c (some u))
structure Cx.Ok (X : Cx) : Prop where
 mod : Mod X.K X.mg X.base
 kind : X.env.scope.kind = .function
 glob : X.env.globals = mainGlobals
 blt : X.env.builtins = builtinsNs
 above : X.s_0.heap.objs.size ≤ X.env.locals
 inj : ∀ x y c, X.env.cells.lookup x = some c → X.env.cells.lookup y = some c → x = y
 has : ∀ x, (X.env.kindOf x = some .cell ∨ X.env.kindOf x = some .free) → ∃ c, X.env.cells.lookup x = some c
 cab : ∀ x c, X.fn x = true → X.env.cells.lookup x = some c → X.s_0.heap.objs.size ≤ c
 hd : X.calm = true → X.A.handled = none
 frames : X.A.frames = some X.stack
 stk : X.stack = X.outer ∨ (X.stack = X.env :: X.outer ∧ X.env.frame = some X.env.locals)
 exf : ∀ b ∈ X.ex, b ≠ X.env.locals ∧ ∀ x c, X.env.cells.lookup x = some c → c ≠ b
 bs : ∀ b o, X.base.get? b = some o → X.s_0.heap.get? b = some o ∧ X.H_0 b = none
 bsz : X.base.objs.size ≤ X.s_0.heap.objs.size
 noex : ∀ b o, X.base.get? b = some o → b ∉ X.ex
 exfs : ∀ b ∈ X.ex, b ∉ X.fs
 funs : X.s_0.heap.FunFrames X.base X.outer
 frf : ∀ b ∈ X.fs, X.H_0 b = none
structure Inv (X : Cx) (pins : List (Addr × Obj)) (σ : List (Option V)) (H : Hp) (s : Shared) : Prop where
 ok : X.Ok
 os : s.os = X.s_0.os
 bare : AllBare s.gens
 base : Un X.fs X.ex X.H_0 H X.s_0.heap s.heap
 loc : ∃ m, s.heap.Ns X.env.locals m ∧ ∀ (i : Nat) (x : Str) (v : V), X.N[i]? = some x → σ[i]? = some (some v) → Vis X.env.scope x → ∃ u, RelV v u ∧ Look X.env s.heap m x u
 cell : ∀ x c, X.env.cells.lookup x = some c → ∃ v, s.heap.IsCell c v
 free : H X.env.locals = none
 freeC : ∀ x c, X.env.cells.lookup x = some c → H c = none
 pin : ∀ p ∈ X.pn ++ pins, s.heap.get? p.1 = some p.2 ∧ H p.1 = none ∧ p.1 ≠ X.env.locals ∧ p.1 ∉ X.fs ∧ ∀ v, p.2.data ≠ .cell v
 hok : HOk X.prog X.w H s.heap
 len : σ.length = X.N.length
section
variable {X : Cx} {pins : List (Addr × Obj)} {σ : List (Option V)} {H H' : Hp} {s : Shared} {h' : Heap}
theorem Cx.Ok.nofr (ok : X.Ok) {b : Addr} {o : Obj} (e : X.base.get? b = some o) : b ∉ X.fs := fun hb => by
 have := (ok.funs.mem hb).1
 rw [e] at this; cases this
theorem Inv.bs (I : Inv X pins σ H s) : ∀ b o, X.base.get? b = some o → s.heap.get? b = some o ∧ H b = none := fun b o e =>
 ⟨I.base.keep b o (I.ok.bs b o e).1 (I.ok.bs b o e).2 (I.ok.nofr e) (I.ok.noex b o e), I.base.free b o (I.ok.bs b o e).1 (I.ok.bs b o e).2 (I.ok.noex b o e)⟩
theorem Inv.bk (I : Inv X pins σ H s) : ∀ b o, X.base.get? b = some o → s.heap.get? b = some o := fun b o e => (I.bs b o e).1
theorem Inv.mod (I : Inv X pins σ H s) : Mod X.K X.mg X.base := I.ok.mod
theorem Inv.kIn (I : Inv X pins σ H s) : X.K.In s.heap := I.ok.mod.kin.keeps I.bk
theorem Inv.nolimit (I : Inv X pins σ H s) : s.heap.NoLimit := I.ok.mod.nolimit.keeps I.bk
theorem Inv.lt (I : Inv X pins σ H s) : X.env.locals < s.heap.objs.size := let ⟨_, hn, _⟩ := I.loc; hn.lt
theorem Inv.sz (I : Inv X pins σ H s) : X.s_0.heap.objs.size ≤ s.heap.objs.size := Nat.le_trans I.ok.above (Nat.le_of_lt I.lt)
theorem Inv.nofs (I : Inv X pins σ H s) {a : Addr} (h : s.heap.objs.size ≤ a) : a ∉ X.fs := fun hb => by
 obtain ⟨_, o, ho, _⟩ := I.ok.funs.mem hb
 exact absurd (Nat.lt_of_lt_of_le (Heap.lt_size ho) (Nat.le_trans I.sz h)) (Nat.lt_irrefl _)
theorem Inv.cne (I : Inv X pins σ H s) : ∀ x c, X.env.cells.lookup x = some c → c ≠ X.env.locals := fun x c e z => by
 obtain ⟨v, o, ho, hd⟩ := I.cell x c e
 obtain ⟨m, ⟨o', es, ep, ho', hd', _⟩, _⟩ := I.loc
 rw [z, ho'] at ho; cases ho; rw [hd'] at hd; cases hd
theorem Inv.funs (I : Inv X pins σ H s) : s.heap.FunFrames X.base X.outer := by
 have all : ∀ (l : List Env), (∀ b ∈ frs l, b ∈ X.fs) → X.s_0.heap.FunFrames X.base l → s.heap.FunFrames X.base l := by
   intro l
   induction l with
   | nil => intro _ _; trivial
   | cons env r ih =>
     intro hs hl
     obtain ⟨hk, ⟨L, o, hf, hn, ho, hd⟩, hr⟩ := hl
     have hL : L ∈ X.fs := hs L (by unfold frs; rw [List.filterMap_cons, hf]; exact List.mem_cons_self)
     obtain ⟨sl, e⟩ := I.base.slot L o ho (I.ok.frf L hL) hL fun z => I.ok.exfs L z hL
     exact ⟨hk, ⟨L, _, hf, hn, e, hd⟩, ih (fun b hb => hs b (by unfold frs; rw [List.filterMap_cons, hf]; exact List.mem_cons_of_mem _ hb)) hr⟩
 exact all X.outer (fun _ hb => hb) I.ok.funs
theorem Inv.stack (I : Inv X pins σ H s) : s.heap.FunFrames X.base X.stack := by
 rcases I.ok.stk with e | ⟨e, hf⟩
 · rw [e]; exact I.funs
 · rw [e]
   obtain ⟨m, hn, _⟩ := I.loc
   refine .cons (by rw [I.ok.kind]; decide) hf hn ?_ I.funs
   exact Heap.get?_none_of_le (Nat.le_trans I.ok.bsz I.ok.above)
theorem Inv.stkSub (I : Inv X pins σ H s) : ∀ b ∈ frs X.stack, b ∈ X.env.locals :: X.fs := fun b hb => by
 rcases I.ok.stk with e | ⟨e, hf⟩
 · rw [e] at hb; exact List.mem_cons_of_mem _ hb
 · rw [e] at hb
   unfold frs at hb
   rw [List.filterMap_cons, hf] at hb
   exact hb
theorem Inv.stkFree (I : Inv X pins σ H s) : ∀ b ∈ frs X.stack, H b = none := fun b hb => by
 rcases List.mem_cons.mp (I.stkSub b hb) with e | hb
 · rw [e]; exact I.free
 · obtain ⟨_, o, ho, _⟩ := I.ok.funs.mem hb
   exact I.base.free b o ho (I.ok.frf b hb) fun z => I.ok.exfs b z hb
theorem Inv.step {g' : Array GenState} {t' : Nat} {d' : Drawn} {ch : List Addr} (I : Inv X pins σ H s)
   (hch : ∀ b ∈ ch, (b ∈ X.ex ∨ X.s_0.heap.objs.size ≤ b) ∧ b ≠ X.env.locals ∧ (∀ x c, X.env.cells.lookup x = some c → c ≠ b) ∧ ∀ p ∈ X.pn ++ pins, p.1 ≠ b)
   (keep : ∀ b o, b ≠ X.env.locals → b ∉ X.fs → b ∉ ch → s.heap.get? b = some o → H b = none → h'.get? b = some o)
   (slot : ∀ b o, b ≠ X.env.locals → b ∈ X.fs → b ∉ ch → s.heap.get? b = some o → H b = none → ∃ sl, h'.get? b = some { o with slots := sl }) (free : ∀ b o, b ∉ ch → s.heap.get? b = some o → H b = none → H' b = none)
   (there : ∀ b o, b ∉ ch → s.heap.get? b = some o → ∃ o', h'.get? b = some o')
   (tups : ∀ b xs, H b = some (.tup xs) → H' b = some (.tup xs)) (frzs : ∀ b o u, H b = some (.frz o u) → H' b = some (.frz o u)) (tbls : ∀ b ps, H b = some (.tbl ps) → ∃ more, H' b = some (.tbl (ps ++ more)))
   (ns : ∀ m, s.heap.Ns X.env.locals m → h'.Ns X.env.locals m) (hok : HOk X.prog X.w H' h') (hg : AllBare g') :
   Inv X pins σ H' { s with heap := h', gens := g', drawn := d', toks := t' } := by
 have neL : ∀ b o, X.s_0.heap.get? b = some o → b ≠ X.env.locals := fun b o e => Nat.ne_of_lt (Nat.lt_of_lt_of_le (Heap.lt_size e) I.ok.above)
 have neC : ∀ b o, X.s_0.heap.get? b = some o → b ∉ X.ex → b ∉ ch := fun b o e hx hb => by
   rcases (hch b hb).1 with z | z
   · exact hx z
   · exact absurd (Nat.lt_of_lt_of_le (Heap.lt_size e) z) (Nat.lt_irrefl _)
 have cellK : ∀ x c, X.env.cells.lookup x = some c → ∀ v, s.heap.IsCell c v → h'.IsCell c v := fun x c e v ⟨o, ho, hd⟩ => by
   have nch : c ∉ ch := fun z => (hch c z).2.2.1 x c e rfl
   by_cases hc : c ∈ X.fs
   · obtain ⟨sl, q⟩ := slot c o (I.cne x c e) hc nch ho (I.freeC x c e)
     exact ⟨_, q, hd⟩
   · exact ⟨o, keep c o (I.cne x c e) hc nch ho (I.freeC x c e), hd⟩
 refine ⟨I.ok, I.os, hg, ⟨fun b o e n hb hx => ?_, fun b o e n hb hx => ?_, fun b o e n hx => ?_, fun b o e hx => ?_, fun b xs e => tups b xs (I.base.tups b xs e), fun b o xs e => frzs b o xs (I.base.frzs b o xs e), fun b ps e => ?_⟩, ?_, fun x c e => ?_, ?_, fun x c e => ?_, fun p hp => ?_, hok, I.len⟩
 · exact keep b o (neL b o e) hb (neC b o e hx) (I.base.keep b o e n hb hx) (I.base.free b o e n hx)
 · obtain ⟨sl, e1⟩ := I.base.slot b o e n hb hx
   obtain ⟨sl', e2⟩ := slot b _ (neL b o e) hb (neC b o e hx) e1 (I.base.free b o e n hx)
   exact ⟨sl', e2⟩
 · obtain ⟨o', e1⟩ := I.base.there b o e hx
   exact free b o' (neC b o e hx) e1 (I.base.free b o e n hx)
 · obtain ⟨o', e1⟩ := I.base.there b o e hx
   exact there b o' (neC b o e hx) e1
 · obtain ⟨m1, e1⟩ := I.base.tbls b ps e
   obtain ⟨m2, e2⟩ := tbls b _ e1
   exact ⟨m1 ++ m2, by rw [e2, Array.append_assoc]⟩
 · obtain ⟨m, hn, hl⟩ := I.loc
   refine ⟨m, ns m hn, fun i x v e1 e2 e3 => ?_⟩
   obtain ⟨u, r, l⟩ := hl i x v e1 e2 e3
   refine ⟨u, r, ?_⟩
   rcases l with l | ⟨k, c, e, z⟩
   · exact .inl l
   · exact .inr ⟨k, c, e, cellK x c e _ z⟩
 · obtain ⟨v, z⟩ := I.cell x c e
   exact ⟨v, cellK x c e v z⟩
 · obtain ⟨m, ⟨o, _, _, ho, _⟩, _⟩ := I.loc
   exact free _ o (fun z => (hch _ z).2.1 rfl) ho I.free
 · obtain ⟨v, o, ho, hd⟩ := I.cell x c e
   exact free c o (fun z => (hch c z).2.2.1 x c e rfl) ho (I.freeC x c e)
 · obtain ⟨e, n, ne, nf, d⟩ := I.pin p hp
   have nch : p.1 ∉ ch := fun z => (hch p.1 z).2.2.2 p hp rfl
   exact ⟨keep p.1 p.2 ne nf nch e n, free p.1 p.2 nch e n, ne, nf, d⟩
theorem Inv.un {t' : Nat} (I : Inv X pins σ H s) (u : Un X.fs [] H H' s.heap h') (hok : HOk X.prog X.w H' h') : Inv X pins σ H' { s with heap := h', toks := t' } := by
 obtain ⟨m, ⟨o, es, ep, ho, r⟩, _⟩ := id I.loc
 obtain ⟨sl, hL⟩ := u.any ho I.free (by simp)
 exact I.step (g' := s.gens) (d' := s.drawn) (ch := []) (fun _ z => nomatch z) (fun b o _ hb _ e n => u.keep b o e n hb (by simp)) (fun b o _ hb _ e n => u.slot b o e n hb (by simp)) (fun b o _ e n => u.free b o e n (by simp)) (fun b o _ e => u.there b o e (by simp)) u.tups u.frzs u.tbls (fun m' hm => by
   obtain ⟨o', es', ep', ho', r'⟩ := hm
   rw [ho] at ho'; cases ho'
   exact ⟨_, es', ep', hL, r'⟩) hok I.bare
theorem Inv.call {g' : Array GenState} {t' : Nat} {d' : Drawn} {ch : List Addr} (I : Inv X pins σ H s) (u : Un (frs X.stack) ch H H' s.heap h') (hok : HOk X.prog X.w H' h') (hg : AllBare g')
   (hch : ∀ b ∈ ch, (b ∈ X.ex ∨ X.s_0.heap.objs.size ≤ b) ∧ b ≠ X.env.locals ∧ (∀ x c, X.env.cells.lookup x = some c → c ≠ b) ∧ ∀ p ∈ X.pn ++ pins, p.1 ≠ b) :
   Inv X pins σ H' { s with heap := h', gens := g', drawn := d', toks := t' } := by
 obtain ⟨m, ⟨o, es, ep, ho, r⟩, _⟩ := id I.loc
 obtain ⟨sl, hL⟩ := u.any ho I.free fun z => (hch _ z).2.1 rfl
 exact I.step (ch := ch) hch (fun b o hL hb hc e n => u.keep b o e n (fun z => (List.mem_cons.mp (I.stkSub b z)).elim hL hb) hc) (fun b o _ _ hc e n => u.any e n hc) (fun b o hc e n => u.free b o e n hc) (fun b o hc e => u.there b o e hc) u.tups u.frzs u.tbls (fun m' hm => by
   obtain ⟨o', es', ep', ho', r'⟩ := hm
   rw [ho] at ho'; cases ho'
   exact ⟨_, es', ep', hL, r'⟩) hok hg
theorem Inv.turned {t' : Nat} {it : Addr} (I : Inv X pins σ H s) (k : ∀ b o, b ≠ it → s.heap.get? b = some o → h'.get? b = some o) (hn : H it = none) (hL : it ≠ X.env.locals)
   (h1 : it ∈ X.ex ∨ X.s_0.heap.objs.size ≤ it) (h2 : ∀ x c, X.env.cells.lookup x = some c → c ≠ it) (h3 : ∀ p ∈ X.pn ++ pins, p.1 ≠ it) : Inv X pins σ H { s with heap := h', toks := t' } := by
 have nit : ∀ b u, H b = some u → b ≠ it := fun b u e z => by rw [z, hn] at e; cases e
 refine I.step (g' := s.gens) (d' := s.drawn) (ch := [it]) (fun b hb => ?_) (fun b o _ _ hc e _ => k b o (fun z => hc (by simp [z])) e) (fun b o _ _ hc e _ => ⟨o.slots, k b o (fun z => hc (by simp [z])) e⟩) (fun _ _ _ _ n => n)
   (fun b o hc e => ⟨o, k b o (fun z => hc (by simp [z])) e⟩) (fun _ _ e => e) (fun _ _ _ e => e) (fun b ps e => ⟨#[], by rw [e]; simp⟩) (fun m hm => ?_) (fun b u e => ?_) I.bare
 · have e : b = it := by simpa using hb
   subst e
   exact ⟨h1, hL, h2, h3⟩
 · obtain ⟨o, es, ep, ho, r⟩ := hm
   exact ⟨o, es, ep, k _ o (Ne.symm hL) ho, r⟩
 · refine (I.hok b u e).stay (fun c v hc q => k c v ?_ q) (fun _ q => q) fun _ _ q => q
   rcases hc with z | z
   · rw [z]; exact nit b u e
   · exact nit c _ z
theorem Inv.tok (I : Inv X pins σ H s) (t : Nat) : Inv X pins σ H { s with toks := t } := I.un (h' := s.heap) (t' := t) Un.refl I.hok
theorem Inv.kept {t' : Nat} (I : Inv X pins σ H s) (k : ∀ b u, s.heap.get? b = some u → h'.get? b = some u) : Inv X pins σ H { s with heap := h', toks := t' } := I.un (Un.kept k) (I.hok.kept k)
theorem Inv.laid {a : Addr} {o : HO} {t' : Nat} (I : Inv X pins σ H s) (k : ∀ b u, s.heap.get? b = some u → h'.get? b = some u) (hp : s.heap.objs.size ≤ a) (new : ObjOk X.prog X.w (upd H a o) h' a o) :
   Inv X pins σ (upd H a o) { s with heap := h', toks := t' } := I.un (Un.laid k hp (I.hok.fresh hp)) (I.hok.laid k hp new)
theorem Inv.write {x e : Addr} {o : HO} {t' : Nat} (I : Inv X pins σ H s) (mu : Mut (H x)) (he : e = x ∨ H e = some (.own x)) (k : ∀ b u, b ≠ e → s.heap.get? b = some u → h'.get? b = some u) (heo : ∃ u, h'.get? e = some u)
   (new : ObjOk X.prog X.w (upd H x o) h' x o) : Inv X pins σ (upd H x o) { s with heap := h', toks := t' } := I.un (Un.write mu he k heo) (I.hok.write mu he k heo new)
theorem Inv.weak {σ' : List (Option V)} (I : Inv X pins σ H s) (hl : σ'.length = σ.length) (w : ∀ (i : Nat) v, σ'[i]? = some (some v) → σ[i]? = some (some v)) : Inv X pins σ' H s :=
 ⟨I.ok, I.os, I.bare, I.base, let ⟨m, hn, hl'⟩ := I.loc; ⟨m, hn, fun i x v e1 e2 e3 => hl' i x v e1 (w i v e2) e3⟩, I.cell, I.free, I.freeC, I.pin, I.hok, hl.trans I.len⟩
theorem Inv.pins_of {pins' : List (Addr × Obj)} (I : Inv X pins σ H s) (h : ∀ p ∈ pins', s.heap.get? p.1 = some p.2 ∧ H p.1 = none ∧ p.1 ≠ X.env.locals ∧ p.1 ∉ X.fs ∧ ∀ v, p.2.data ≠ .cell v) : Inv X pins' σ H s :=
 ⟨I.ok, I.os, I.bare, I.base, I.loc, I.cell, I.free, I.freeC, fun p hp => (List.mem_append.mp hp).elim (fun z => I.pin p (List.mem_append_left _ z)) (h p), I.hok, I.len⟩
theorem nodup_ix {N : List Str} (hN : N.Nodup) {i j : Nat} {x : Str} (a : N[i]? = some x) (b : N[j]? = some x) : i = j := by
 obtain ⟨h1, e1⟩ := List.getElem?_eq_some_iff.mp a
 obtain ⟨h2, e2⟩ := List.getElem?_eq_some_iff.mp b
 exact (List.getElem_inj hN).mp (e1.trans e2.symm)
theorem store_ok2 {M : Model} {A : Around} {E : Value → Shared → Prop} {i : Nat} {x : Str} {v : V} {u : Value} {Q : Unit → Shared → Prop} (I : Inv X pins σ H s) (hN : X.N.Nodup) (hi : X.N[i]? = some x) (hx : Loc X.env.scope x) (r : RelV v u)
   (h : ∀ s', Inv X pins (σ.set i (some v)) H s' → (∃ a, Heap.SameBut a s.heap s'.heap ∧ (a = X.env.locals ∨ X.env.cells.lookup x = some a)) → Q () s') (hf : X.fn x = true ∨ X.env.scope.names.lookup x = some .local := by first | exact .inl rfl | exact .inr rfl | assumption) : wpAny M A (storeName X.env x u) Q E s := by
 obtain ⟨m, hn, hl⟩ := id I.loc
 have hcls : (X.env.scope.kind == .class || (X.env.scope.kind == .module && X.env.locals != X.env.globals)) = false := by rw [I.ok.kind]; rfl
 have hiσ : i < σ.length := by rw [I.len]; exact (List.getElem?_eq_some_iff.mp hi).1
 have cne := I.cne
 have tracked : ∀ {a : Addr} {h' : Heap}, (∃ o, s.heap.get? a = some o ∧ H a = none) → Heap.SameBut a s.heap h' → HOk X.prog X.w H h' := fun {a h'} ha hs b ob e => by
   obtain ⟨_, _, hfree⟩ := ha
   refine (I.hok b ob e).stay (fun c w' hc q => (hs.2 c ?_).trans q) (fun _ q => q) fun _ _ q => q
   rintro rfl
   rcases hc with rfl | hc
   · rw [hfree] at e; cases e
   · rw [hfree] at hc; cases hc
 rcases hx with hk | hk
 · refine wpAny_storeName_local hk hn (fun h' hn' hs => ?_) hcls
   obtain ⟨oL, _, _, hoL, _⟩ := id hn
   refine h _ ⟨I.ok, I.os, I.bare, ⟨fun b o e n hb hx => ?_, fun b o e n hb hx => ?_, I.base.free, fun b o e hx => ?_, I.base.tups, I.base.frzs, I.base.tbls⟩, ⟨_, hn', fun j y v' e1 e2 e3 => ?_⟩, fun y c e => ?_, I.free, I.freeC, fun p hp => ?_, tracked ⟨oL, hoL, I.free⟩ hs, by simpa using I.len⟩ ⟨_, hs, .inl rfl⟩
   · exact (hs.2 b (Nat.ne_of_lt (Nat.lt_of_lt_of_le (Heap.lt_size e) I.ok.above))).trans (I.base.keep b o e n hb hx)
   · obtain ⟨sl, e1⟩ := I.base.slot b o e n hb hx
     exact ⟨sl, (hs.2 b (Nat.ne_of_lt (Nat.lt_of_lt_of_le (Heap.lt_size e) I.ok.above))).trans e1⟩
   · obtain ⟨o', e1⟩ := I.base.there b o e hx
     exact ⟨o', (hs.2 b (Nat.ne_of_lt (Nat.lt_of_lt_of_le (Heap.lt_size e) I.ok.above))).trans e1⟩
   · by_cases hj : j = i
     · subst hj
       rw [hi] at e1; cases e1
       rw [List.getElem?_set_self hiσ] at e2
       cases e2
       exact ⟨u, r, .inl ⟨hk, by simp⟩⟩
     · rw [List.getElem?_set_ne (Ne.symm hj)] at e2
       obtain ⟨u', r', q⟩ := hl j y v' e1 e2 e3
       refine ⟨u', r', ?_⟩
       rcases q with ⟨k, e⟩ | ⟨k, c, e, z⟩
       · refine .inl ⟨k, ?_⟩
         have : y ≠ x := fun e => hj (nodup_ix hN e1 (e ▸ hi))
         simp [this, e]
       · exact .inr ⟨k, c, e, z.sameBut hs (cne y c e)⟩
   · obtain ⟨w', z⟩ := I.cell y c e
     exact ⟨w', z.sameBut hs (cne y c e)⟩
   · obtain ⟨e, n, ne, nf, d⟩ := I.pin p hp
     exact ⟨(hs.2 p.1 ne).trans e, n, ne, nf, d⟩
 · have hfn : X.fn x = true := by
     rcases hf with z | z
     · exact z
     · rw [z] at hk; cases hk
   obtain ⟨c, hc⟩ := I.ok.has x (.inl hk)
   obtain ⟨w', z⟩ := I.cell x c hc
   refine wpAny_storeName_cell I.ok.kind hk hc z (fun h' hc' hs => ?_)
   obtain ⟨oc, hoc, hocd⟩ := id z
   refine h { s with heap := h' } ⟨I.ok, I.os, I.bare, ⟨fun b o e n hb hx => ?_, fun b o e n hb hx => ?_, I.base.free, fun b o e hx => ?_, I.base.tups, I.base.frzs, I.base.tbls⟩, ⟨m, hn.sameBut hs (Ne.symm (cne x c hc)), fun j y v' e1 e2 e3 => ?_⟩, fun y c' e => ?_, I.free, I.freeC, fun p hp => ?_, tracked ⟨oc, hoc, I.freeC x c hc⟩ hs, by simpa using I.len⟩ ⟨c, hs, .inr hc⟩
   · exact (hs.2 b (Nat.ne_of_lt (Nat.lt_of_lt_of_le (Heap.lt_size e) (I.ok.cab x c hfn hc)))).trans (I.base.keep b o e n hb hx)
   · obtain ⟨sl, e1⟩ := I.base.slot b o e n hb hx
     exact ⟨sl, (hs.2 b (Nat.ne_of_lt (Nat.lt_of_lt_of_le (Heap.lt_size e) (I.ok.cab x c hfn hc)))).trans e1⟩
   · obtain ⟨o', e1⟩ := I.base.there b o e hx
     exact ⟨o', (hs.2 b (Nat.ne_of_lt (Nat.lt_of_lt_of_le (Heap.lt_size e) (I.ok.cab x c hfn hc)))).trans e1⟩
   · by_cases hj : j = i
     · subst hj
       rw [hi] at e1; cases e1
       rw [List.getElem?_set_self hiσ] at e2
       cases e2
       exact ⟨u, r, .inr ⟨.inl hk, c, hc, hc'⟩⟩
     · rw [List.getElem?_set_ne (Ne.symm hj)] at e2
       obtain ⟨u', r', q⟩ := hl j y v' e1 e2 e3
       refine ⟨u', r', ?_⟩
       rcases q with q | ⟨k, c', e, z'⟩
       · exact .inl q
       · refine .inr ⟨k, c', e, z'.sameBut hs ?_⟩
         rintro rfl
         exact hj (nodup_ix hN e1 (I.ok.inj _ _ _ e hc ▸ hi))
   · by_cases hcc : c' = c
     · subst hcc; exact ⟨_, hc'⟩
     · obtain ⟨w2, z2⟩ := I.cell y c' e
       exact ⟨w2, z2.sameBut hs hcc⟩
   · obtain ⟨e, n, ne, nf, d⟩ := I.pin p hp
     refine ⟨(hs.2 p.1 ?_).trans e, n, ne, nf, d⟩
     intro q
     rw [q, hoc] at e
     have q' : oc = p.2 := Option.some.inj e
     exact d w' (by rw [← q']; exact hocd)
theorem store_ok {M : Model} {A : Around} {E : Value → Shared → Prop} {i : Nat} {x : Str} {v : V} {u : Value} {Q : Unit → Shared → Prop} (I : Inv X pins σ H s) (hN : X.N.Nodup) (hi : X.N[i]? = some x) (hx : Loc X.env.scope x) (r : RelV v u)
   (h : ∀ s', Inv X pins (σ.set i (some v)) H s' → Q () s') (hf : X.fn x = true ∨ X.env.scope.names.lookup x = some .local := by first | exact .inl rfl | exact .inr rfl | assumption) : wpAny M A (storeName X.env x u) Q E s :=
 store_ok2 I hN hi hx r (fun s' I' _ => h s' I') hf
theorem Inv.call' {s' : Shared} {ch : List Addr} (I : Inv X pins σ H s) (ho : s'.os = s.os) (u : Un (frs X.stack) ch H H' s.heap s'.heap) (hok : HOk X.prog X.w H' s'.heap) (hg : AllBare s'.gens)
   (hch : ∀ b ∈ ch, (b ∈ X.ex ∨ X.s_0.heap.objs.size ≤ b) ∧ b ≠ X.env.locals ∧ (∀ x c, X.env.cells.lookup x = some c → c ≠ b) ∧ ∀ p ∈ X.pn ++ pins, p.1 ≠ b) : Inv X pins σ H' s' := by
 obtain ⟨h', g', d', t', o'⟩ := s'
 have e : o' = s.os := ho
 subst e
 exact I.call (g' := g') (t' := t') (d' := d') u hok hg hch
end
noncomputable abbrev XK := Value → Option Addr → Hp → Prop
noncomputable abbrev St := List (Option V)
noncomputable abbrev VK := V → Hp → Prop
noncomputable abbrev TE := St → Hp → VK → Prop
noncomputable abbrev TT := St → Hp → (Bool → Hp → Prop) → Prop
noncomputable abbrev TA := St → Hp → (List V → Hp → Prop) → Prop
structure Ends where
 nx : St → Hp → Prop
 rt : VK
 bk : St → Hp → Prop := fun _ _ => False
 ct : St → Hp → Prop := fun _ _ => False
noncomputable abbrev TS := Ends → St → Hp → Prop
noncomputable def EP (X : Cx) (pins : List (Addr × Obj)) (σ : St) (Q : VK) (u : Value) (s' : Shared) : Prop := ∃ v H', Inv X pins σ H' s' ∧ RelV v u ∧ Q v H'
noncomputable def TP (X : Cx) (pins : List (Addr × Obj)) (σ : St) (Q : Bool → Hp → Prop) (b : Bool) (s' : Shared) : Prop := ∃ H', Inv X pins σ H' s' ∧ Q b H'
noncomputable def AP (X : Cx) (pins : List (Addr × Obj)) (σ : St) (Q : List V → Hp → Prop) (us : List Value) (s' : Shared) : Prop := ∃ vs H', Inv X pins σ H' s' ∧ Vals vs us ∧ Q vs H'
noncomputable def SP (X : Cx) (pins : List (Addr × Obj)) (D : Ends) (f : Flow) (s' : Shared) : Prop :=
 match f with
 | .next => ∃ σ' H', Inv X pins σ' H' s' ∧ D.nx σ' H'
 | .brk => ∃ σ' H', Inv X pins σ' H' s' ∧ D.bk σ' H'
 | .cont => ∃ σ' H', Inv X pins σ' H' s' ∧ D.ct σ' H'
 | .ret u => ∃ v σ' H', Inv X pins σ' H' s' ∧ RelV v u ∧ D.rt v H'
noncomputable def PE (X : Cx) (e : Expr) (t : TE) : Prop :=
 ∀ (pins : List (Addr × Obj)) (s : Shared) (σ : St) (H : Hp) (Q : VK), Inv X pins σ H s → t σ H Q → wpAny (model X.prog X.w) X.A (eval e X.env) (EP X pins σ Q) X.xe s
noncomputable def PT (X : Cx) (e : Expr) (t : TT) : Prop :=
 ∀ (pins : List (Addr × Obj)) (s : Shared) (σ : St) (H : Hp) (Q : Bool → Hp → Prop), Inv X pins σ H s → t σ H Q → wpAny (model X.prog X.w) X.A (isTrue e X.env (eval e X.env)) (TP X pins σ Q) X.xe s
noncomputable def PW (X : Cx) (e : Expr) (t : TT) : Prop :=
 ∀ (whole : Sem Value) (pins : List (Addr × Obj)) (s : Shared) (σ : St) (H : Hp) (Q : Bool → Hp → Prop), Inv X pins σ H s → t σ H Q → wpAny (model X.prog X.w) X.A (isTrue e X.env whole) (TP X pins σ Q) X.xe s
theorem PW.pt {X : Cx} {e : Expr} {t : TT} (h : PW X e t) : PT X e t := h _
noncomputable def PA (X : Cx) (es : List Expr) (t : TA) : Prop :=
 ∀ (pos : Pos) (pins : List (Addr × Obj)) (s : Shared) (σ : St) (H : Hp) (Q : List V → Hp → Prop), Inv X pins σ H s → t σ H Q → wpAny (model X.prog X.w) X.A (spliced (backTo pos (starEach es X.env))) (AP X pins σ Q) X.xe s
noncomputable def PS (X : Cx) (st : Stmt) (t : TS) : Prop :=
 ∀ (pins : List (Addr × Obj)) (s : Shared) (σ : St) (H : Hp) (D : Ends), Inv X pins σ H s → t D σ H → wpAny (model X.prog X.w) X.A (exec st X.env) (SP X pins D) X.xe s
noncomputable def PSs (X : Cx) (st : List Stmt) (t : TS) : Prop :=
 ∀ (pins : List (Addr × Obj)) (s : Shared) (σ : St) (H : Hp) (D : Ends), Inv X pins σ H s → t D σ H → wpAny (model X.prog X.w) X.A (execs st X.env) (SP X pins D) X.xe s
theorem thn {α : Type} {t : Sem α} {Q Q' : α → Shared → Prop} {M : Model} {A : Around} {E : Value → Shared → Prop} {s : Shared} (h : wpAny M A t Q E s) (hQ : ∀ a s, Q a s → Q' a s) : wpAny M A t Q' E s := wpAny_mono h hQ fun _ _ x => x
end L2
namespace L2
open PySem PySem.Spec PyProof.Rows
section
variable {X : Cx}
noncomputable def tVar (i : Nat) : TE := fun σ H Q => ∃ v, σ[i]? = some (some v) ∧ Q v H
noncomputable def tC (v : V) : TE := fun _ H Q => Q v H
theorem pe_var {i : Nat} {x : Str} {pos : Pos} (hN : X.N[i]? = some x) (hv : Vis X.env.scope x) (hd : (x == ("__debug__" : Str)) = false := by decide) (hcd : (x == ("__classdict__" : Str)) = false := by decide) : PE X (.Name x pos) (tVar i) := by
 intro pins s σ H Q I h
 obtain ⟨v, e, h⟩ := h
 obtain ⟨m, hn, hl⟩ := I.loc
 obtain ⟨u, r, l⟩ := hl i x v hN e hv
 have fin : EP X pins σ Q u s := ⟨v, H, I, r, h⟩
 rcases l with ⟨hk, hm⟩ | ⟨hk, c, hc, hcell⟩
 · exact wpAny_Name (wpAny_loadName_local I.ok.kind hk hn hm fin) hd
 · rcases hk with hk | hk
   · exact wpAny_Name (wpAny_loadName_cell I.ok.kind hk hc hcell fin) hd
   · exact wpAny_Name (wpAny_loadName_free I.ok.kind hk hc hcell fin hcd) hd
theorem pe_int {i j pos} : PE X (.Constant (.int i) j pos) (tC (.int i)) := fun _ _ _ H _ I h => wpAny_Constant_int ⟨.int i, H, I.tok _, ⟨_, rfl⟩, h⟩
theorem pe_bl {b j pos} : PE X (.Constant (.bool b) j pos) (tC (.bl b)) := fun _ _ _ H _ I h => Constant_bool ⟨.bl b, H, I, rfl, h⟩
theorem pe_non {j pos} : PE X (.Constant .none j pos) (tC .non) := fun _ _ _ H _ I h => Constant_none ⟨.non, H, I, rfl, h⟩
theorem pe_str {x j pos} : PE X (.Constant (.str x) j pos) (tC (.str x)) := fun _ _ _ H _ I h => Calls.Constant_str ⟨.str x, H, I.tok _, ⟨_, rfl⟩, h⟩
noncomputable def Gl (X : Cx) (x : Str) : Prop := X.env.kindOf x = some .globalImplicit
theorem ld_glob {E : Value → Shared → Prop} {pins : List (Addr × Obj)} {s : Shared} {σ : St} {H : Hp} {x : Str} {u : Value} {pos : Pos} {Q : Value → Shared → Prop} (I : Inv X pins σ H s) (hg : Gl X x) (hm : X.mg x = some u) (h : Q u s)
   (hd : (x == ("__debug__" : Str)) = false := by decide) : wpAny (model X.prog X.w) X.A (eval (.Name x pos) X.env) Q E s :=
 Calls.Name_function_global I.ok.kind hg (Calls.loadGlobal_global (by rw [I.ok.glob]; exact I.mod.glob.keeps I.bk) hm h) hd
theorem ld_blt {E : Value → Shared → Prop} {pins : List (Addr × Obj)} {s : Shared} {σ : St} {H : Hp} {x : Str} {u : Value} {pos : Pos} {Q : Value → Shared → Prop} (I : Inv X pins σ H s) (hg : Gl X x) (hm : X.mg x = none) (hv : bootBuiltins x = some u) (h : Q u s)
   (hn : x ≠ "__name__" := by decide) (hd : (x == ("__debug__" : Str)) = false := by decide) : wpAny (model X.prog X.w) X.A (eval (.Name x pos) X.env) Q E s := by
 obtain ⟨mb, h1, h2⟩ := I.mod.blt
 exact Calls.Name_function_global I.ok.kind hg (Calls.loadGlobal_builtin (by rw [I.ok.glob]; exact I.mod.glob.keeps I.bk) hm (by rw [I.ok.blt]; exact h1.keeps I.bk) ((h2 x hn).trans hv) h) hd
theorem pe_glob {x : Str} {v : V} {u : Value} {pos : Pos} (hg : Gl X x) (hm : X.mg x = some u) (r : RelV v u) (hd : (x == ("__debug__" : Str)) = false := by decide) : PE X (.Name x pos) (tC v) :=
 fun _ _ _ H _ I h => ld_glob I hg hm ⟨v, H, I, r, h⟩ hd
variable {a b : Expr} {ta tb : TE} {pos : Pos}
noncomputable def PC (X : Cx) (op : CmpOp) (a b : Expr) (t : TE) : Prop :=
 ∀ (pins : List (Addr × Obj)) (s : Shared) (σ : St) (H : Hp) (Q : VK), Inv X pins σ H s → t σ H Q →
   wpAny (model X.prog X.w) X.A (eval a X.env) (fun v s₁ => wpAny (model X.prog X.w) X.A (eval b X.env) (fun u s₂ => wpAny (model X.prog X.w) X.A (compareOp op v u) (EP X pins σ Q) X.xe s₂) X.xe s₁) X.xe s
theorem nobehind (b : Expr) {op : CmpOp} (h : op ≠ .In) (h2 : op ≠ .NotIn) : behindInMarks op b = false := by
 have e1 : (op == CmpOp.In) = false := by cases op <;> first | rfl | exact absurd rfl h
 have e2 : (op == CmpOp.NotIn) = false := by cases op <;> first | rfl | exact absurd rfl h2
 cases b <;> simp [behindInMarks, e1, e2]
noncomputable def tIsN (ta : TE) : TE := fun σ H Q => ta σ H fun x H1 => Q (.bl (decide (x = .non))) H1
noncomputable def tNotN (ta : TE) : TE := fun σ H Q => ta σ H fun x H1 => Q (.bl (!decide (x = .non))) H1
theorem RelV.none_iff {x : V} {v : Value} (r : RelV x v) : (v == Value.none) = decide (x = .non) := by
 cases x with
 | non => cases r; rfl
 | bl _ => cases r; rfl
 | int _ => obtain ⟨t, rfl⟩ := r; rfl
 | str _ => obtain ⟨t, rfl⟩ := r; rfl
 | byt _ => obtain ⟨t, rfl⟩ := r; rfl
 | flt _ => obtain ⟨t, rfl⟩ := r; rfl
 | ref _ => cases r; rfl
 | ty _ => cases r; rfl
theorem pc_isN {j pos'} (ha : PE X a ta) : PC X .Is a (.Constant .none j pos') (tIsN ta) := by
 intro pins s σ H Q I h
 refine thn (ha pins s σ H _ I h) fun v s1 ⟨x, H1, I1, r1, q1⟩ => ?_
 exact Constant_none (is_none_gen ⟨.bl _, H1, I1, by rw [r1.none_iff]; rfl, q1⟩)
theorem pc_notN {j pos'} (ha : PE X a ta) : PC X .IsNot a (.Constant .none j pos') (tNotN ta) := by
 intro pins s σ H Q I h
 refine thn (ha pins s σ H _ I h) fun v s1 ⟨x, H1, I1, r1, q1⟩ => ?_
 exact Constant_none (isnot_none_gen ⟨.bl _, H1, I1, by rw [r1.none_iff]; rfl, q1⟩)
noncomputable def tB (t : TE) : TT := fun σ H Q => t σ H fun x H1 => ∃ c, x = .bl c ∧ Q c H1
theorem pt_cmp {op : CmpOp} {t : TE} (h : PC X op a b t) (h1 : behindInMarks op b = false := by first | exact nobehind _ (by decide) (by decide) | rfl) : PT X (.Compare a [op] [b] pos) (tB t) := by
 intro pins s σ H Q I hw
 refine wpAny_isTrue_Compare1 (thn (h pins s σ H _ I hw) fun v s1 h1 => thn h1 fun u s2 h2 => thn h2 fun c s3 ⟨x, H1, I1, r1, q1⟩ => ?_) h1
 obtain ⟨d, rfl, q⟩ := q1
 cases r1
 exact wpAny_truthy_bool ⟨H1, I1, q⟩
theorem pt_val {e : Expr} {t : TE} (h : PE X e t) (he : ∀ whole, isTrue e X.env whole = (do let v ← whole; standAt e.pos; holding [v] (truthy v)) := by intro _; rfl) : PT X e (tB t) := by
 intro pins s σ H Q I hw
 refine isTrue_plain (thn (h pins s σ H _ I hw) fun v s1 ⟨x, H1, I1, r1, q1⟩ => ?_) (he _)
 obtain ⟨d, rfl, q⟩ := q1
 cases r1
 exact wpAny_truthy_bool ⟨H1, I1, q⟩
variable {tA tB' : TT} {rest : List Expr}
noncomputable def tAnd (t u : TT) : TT := fun σ H Q => t σ H fun c H1 => if c = true then u σ H1 Q else Q false H1
noncomputable def tOr (t u : TT) : TT := fun σ H Q => t σ H fun c H1 => if c = true then Q true H1 else u σ H1 Q
noncomputable def tNot (t : TT) : TT := fun σ H Q => t σ H fun c H1 => Q (!c) H1
theorem pw_and1 (ha : PT X a tA) : PW X (.BoolOp .And [a] pos) tA := by
 intro wh pins s σ H Q I h
 refine isTrue_and (thn (ha pins s σ H Q I h) fun c s1 e => ?_)
 cases c with
 | true => exact isTrue_and_nil e
 | false => exact e
theorem pw_or1 (ha : PT X a tA) : PW X (.BoolOp .Or [a] pos) tA := by
 intro wh pins s σ H Q I h
 refine isTrue_or (thn (ha pins s σ H Q I h) fun c s1 e => ?_)
 cases c with
 | false => exact isTrue_or_nil e
 | true => exact e
theorem pw_and (ha : PT X a tA) (hb : PW X (.BoolOp .And (b :: rest) pos) tB') : PW X (.BoolOp .And (a :: b :: rest) pos) (tAnd tA tB') := by
 intro wh pins s σ H Q I h
 refine isTrue_and (thn (ha pins s σ H _ I h) fun c s1 ⟨H1, I1, q1⟩ => ?_)
 cases c with
 | true => exact hb wh pins s1 σ H1 Q I1 q1
 | false => exact ⟨H1, I1, q1⟩
theorem pw_or (ha : PT X a tA) (hb : PW X (.BoolOp .Or (b :: rest) pos) tB') : PW X (.BoolOp .Or (a :: b :: rest) pos) (tOr tA tB') := by
 intro wh pins s σ H Q I h
 refine isTrue_or (thn (ha pins s σ H _ I h) fun c s1 ⟨H1, I1, q1⟩ => ?_)
 cases c with
 | true => exact ⟨H1, I1, q1⟩
 | false => exact hb wh pins s1 σ H1 Q I1 q1
theorem pt_not (ha : PT X a tA) : PT X (.UnaryOp .Not a pos) (tNot tA) := by
 intro pins s σ H Q I h
 exact isTrue_not (ha pins s σ H (fun c H1 => Q (!c) H1) I h)
noncomputable def tAndV (ta tb : TE) : TE := fun σ H Q => ta σ H fun x H1 => ∃ c, x = .bl c ∧ if c = true then tb σ H1 Q else Q (.bl false) H1
theorem pe_one {op} {t : TE} (h : PE X a t) : PE X (.BoolOp op [a] pos) t := fun pins s σ H Q I hw => BoolOp_one (h pins s σ H Q I hw)
theorem pe_and (ha : PE X a ta) (hb : PE X (.BoolOp .And (b :: rest) pos) tb) : PE X (.BoolOp .And (a :: b :: rest) pos) (tAndV ta tb) := by
 intro pins s σ H Q I h
 refine BoolOp_and (thn (ha pins s σ H _ I h) fun v s1 ⟨x, H1, I1, r1, q1⟩ => ?_)
 obtain ⟨c, rfl, q1⟩ := q1
 cases r1
 refine wpAny_truthy_bool ?_
 cases c with
 | true => exact hb pins s1 σ H1 Q I1 q1
 | false => exact ⟨.bl false, H1, I1, rfl, q1⟩
noncomputable def tIf (t : TT) (ta tb : TE) : TE := fun σ H Q => t σ H fun c H1 => if c = true then ta σ H1 Q else tb σ H1 Q
theorem pe_ifExp {c : Expr} (hc : PT X c tA) (ha : PE X a ta) (hb : PE X b tb) : PE X (.IfExp c a b pos) (tIf tA ta tb) := by
 intro pins s σ H Q I h
 refine wpAny_IfExp (thn (hc pins s σ H _ I h) fun d s1 ⟨H1, I1, q1⟩ => ?_)
 cases d with
 | true => exact ha pins s1 σ H1 Q I1 q1
 | false => exact hb pins s1 σ H1 Q I1 q1
end
end L2
namespace L2
open PySem PySem.Spec PyProof.Rows
noncomputable def SqL (K : PySem.W.Frag) (H : Hp) (a : Addr) (xs : List V) : Prop :=
 Rd H a (.lst xs) ∨
   ∃ (o : Obj) (its : Array Value) (n : Nat), K.lookup a = some o ∧ o.cls = .type "list" ∧ o.dict = none ∧ o.data = .seq its n ∧ its.size ≤ sizeLine ∧ Vals xs its.toList
noncomputable def SqT (K : PySem.W.Frag) (H : Hp) (a : Addr) (xs : List V) : Prop :=
 Rd H a (.tup xs) ∨
   ∃ (o : Obj) (its : Array Value) (n : Nat), K.lookup a = some o ∧ o.cls = .type "tuple" ∧ o.data = .seq its n ∧ its.size ≤ sizeLine ∧ Vals xs its.toList
noncomputable def absV : Value → Option V
 | .none => some .non
 | .bool b => some (.bl b)
 | .int i _ => some (.int i)
 | .str x _ => some (.str x)
 | .bytes b _ => some (.byt b)
 | .float b _ => some (.flt b)
 | .ref a => some (.ref a)
 | .type n => some (.ty n)
 | _ => none
theorem RelV.abs {x : V} {u : Value} (r : RelV x u) : absV u = some x := by
 cases x with
 | non => cases r; rfl
 | bl _ => cases r; rfl
 | int _ => obtain ⟨t, rfl⟩ := r; rfl
 | str _ => obtain ⟨t, rfl⟩ := r; rfl
 | byt _ => obtain ⟨t, rfl⟩ := r; rfl
 | flt _ => obtain ⟨t, rfl⟩ := r; rfl
 | ref _ => cases r; rfl
 | ty _ => cases r; rfl
theorem RelV.inj {x y : V} {u : Value} (r : RelV x u) (q : RelV y u) : x = y := Option.some.inj (r.abs.symm.trans q.abs)
theorem Vals.inj : ∀ {xs ys : List V} {us : List Value}, Vals xs us → Vals ys us → xs = ys
 | _, _, _, .nil, .nil => rfl
 | _, _, _, .cons r t, .cons r' t' => by rw [r.inj r', Vals.inj t t']
section
variable {X : Cx} {pins : List (Addr × Obj)} {σ : St} {H : Hp} {s : Shared} {a : Addr} {xs ys : List V}
theorem SqL.of {K : PySem.W.Frag} (h : H a = some (.lst xs)) : SqL K H a xs := .inl (.inl h)
theorem SqT.of {K : PySem.W.Frag} (h : H a = some (.tup xs)) : SqT K H a xs := .inl (.inl h)
theorem Inv.list (I : Inv X pins σ H s) (h : SqL X.K H a xs) : ∃ its : List Value, Vals xs its ∧ PlainL s.heap a its.toArray ∧ xs.length ≤ sizeLine := by
 rcases h with h | ⟨o, its, n, hk, hc, hd, hs, hz, r⟩
 · obtain ⟨z, its, n, r, e⟩ := h.ok I.hok
   exact ⟨its, r, ⟨_, n, e, rfl, rfl, rfl⟩, z⟩
 · refine ⟨its.toList, r, ⟨o, n, I.kIn a o hk, hc, hd, by simpa using hs⟩, ?_⟩
   have e := r.length
   simp only [Array.length_toList] at e
   omega
theorem Inv.tuple (I : Inv X pins σ H s) (h : SqT X.K H a xs) : ∃ its : List Value, Vals xs its ∧ IsTup s.heap a its.toArray ∧ xs.length ≤ sizeLine := by
 rcases h with h | ⟨o, its, n, hk, hc, hs, hz, r⟩
 · obtain ⟨z, its, r, p⟩ := h.ok I.hok
   exact ⟨its, r, p, z⟩
 · refine ⟨its.toList, r, ⟨o, I.kIn a o hk, hc, n, by simpa using hs⟩, ?_⟩
   have e := r.length
   simp only [Array.length_toList] at e
   omega
theorem Inv.list_inj (I : Inv X pins σ H s) (h : SqL X.K H a xs) (h' : SqL X.K H a ys) : xs = ys := by
 obtain ⟨its, r, ⟨o, n, e, _, _, d⟩, _⟩ := I.list h
 obtain ⟨its', r', ⟨o', n', e', _, _, d'⟩, _⟩ := I.list h'
 rw [e] at e'; cases e'
 rw [d] at d'
 injection d' with d1 _
 have : its = its' := by simpa using congrArg Array.toList d1
 subst this
 exact r.inj r'
end
section
variable {X : Cx} {pins : List (Addr × Obj)} {σ : St} {H : Hp} {s : Shared} {E : Value → Shared → Prop}
end
section
variable {X : Cx} {st : Stmt} {rest : List Stmt} {t u : TS} {e : Expr} {te : TE} {pos : Pos}
noncomputable def tNext : TS := fun D σ H => D.nx σ H
noncomputable def tSeq (t u : TS) : TS := fun D σ H => t { D with nx := u D } σ H
theorem pss_nil : PSs X [] tNext := fun _ _ σ H _ I h => wpAny_execs_nil ⟨σ, H, I, h⟩
theorem pss_cons (h1 : PS X st t) (h2 : PSs X rest u) : PSs X (st :: rest) (tSeq t u) := by
 intro pins s σ H D I h
 refine wpAny_execs_cons (thn (h1 pins s σ H { D with nx := u D } I h) fun f s1 q => ?_)
 cases f with
 | next =>
   obtain ⟨σ', H', I', q⟩ := q
   exact h2 pins s1 σ' H' D I' q
 | ret v => exact q
 | brk => exact q
 | cont => exact q
theorem pss_one (h1 : PS X st t) : PSs X [st] t := by
 intro pins s σ H D I h
 refine wpAny_execs_cons (thn (h1 pins s σ H D I h) fun f s1 q => ?_)
 cases f with
 | next => exact wpAny_execs_nil q
 | ret v => exact q
 | brk => exact q
 | cont => exact q
noncomputable def tBreak : TS := fun D σ H => D.bk σ H
theorem ps_break : PS X (.Break pos) tBreak := fun _ _ σ H _ I h => wpAny_Break ⟨σ, H, I, h⟩
theorem Inv.quiet {pins : List (Addr × Obj)} {σ : St} {H : Hp} {s : Shared} (I : Inv X pins σ H s) : interactive X.env = false := by simp [interactive, I.ok.kind]
noncomputable def tDrop (te : TE) : TS := fun D σ H => te σ H fun _ H1 => D.nx σ H1
theorem ps_expr (he : PE X e te) (hs : swapsWith e none pos.line X.env = pure false := by rfl) : PS X (.Expr e pos) (tDrop te) := by
 intro pins s σ H D I h
 exact wpAny_Expr_any (thn (he pins s σ H _ I h) fun v s1 ⟨x, H1, I1, r1, q1⟩ => ⟨σ, H1, I1, q1⟩) I.quiet hs
noncomputable def tRet (te : TE) : TS := fun D σ H => te σ H D.rt
theorem ps_ret (he : PE X e te) : PS X (.Return (some e) pos) (tRet te) := by
 intro pins s σ H D I h
 exact wpAny_Return_some (thn (he pins s σ H _ I h) fun v s1 ⟨x, H1, I1, r1, q1⟩ => ⟨x, σ, H1, I1, r1, q1⟩)
noncomputable def tIfS (c : TT) (t u : TS) : TS := fun D σ H => c σ H fun b H1 => if b = true then t D σ H1 else u D σ H1
theorem ps_if {c : Expr} {a b : List Stmt} {tc : TT} (hc : PT X c tc) (ha : PSs X a t) (hb : PSs X b u) : PS X (.If c a b pos) (tIfS tc t u) := by
 intro pins s σ H D I h
 refine wpAny_If (thn (hc pins s σ H _ I h) fun d s1 ⟨H1, I1, q1⟩ => ?_)
 cases d with
 | true => exact ha pins s1 σ H1 D I1 q1
 | false => exact hb pins s1 σ H1 D I1 q1
noncomputable def tNever : TS := fun _ _ _ => False
theorem pss_never {sts : List Stmt} : PSs X sts tNever := fun _ _ _ _ _ _ h => h.elim
end
noncomputable abbrev TG := V → St → Hp → (St → Hp → Prop) → Prop
noncomputable def PG (X : Cx) (target : Expr) (t : TG) : Prop :=
 ∀ (pins : List (Addr × Obj)) (s : Shared) (σ : St) (H : Hp) (v : V) (u : Value) (Q : St → Hp → Prop), Inv X pins σ H s → RelV v u → t v σ H Q →
   wpAny (model X.prog X.w) X.A (assign target X.env u) (fun _ s' => ∃ σ' H', Inv X pins σ' H' s' ∧ Q σ' H') X.xe s
noncomputable abbrev TIp := V → V → Hp → VK → Prop
noncomputable def PIp (X : Cx) (op : Operator) (t : TIp) : Prop :=
 ∀ (pins : List (Addr × Obj)) (s : Shared) (σ : St) (H : Hp) (x y : V) (v u : Value) (Q : VK), Inv X pins σ H s → RelV x v → RelV y u → t x y H Q →
   wpAny (model X.prog X.w) X.A (inplaceOp op v u) (EP X pins σ Q) X.xe s
section
variable {X : Cx} {pos : Pos}
noncomputable def gName (i : Nat) : TG := fun v σ H Q => Q (σ.set i (some v)) H
theorem pg_name {i : Nat} {x : Str} (hN : X.N.Nodup) (hi : X.N[i]? = some x) (hx : Loc X.env.scope x) (hf : X.fn x = true ∨ X.env.scope.names.lookup x = some .local := by first | exact .inl rfl | exact .inr rfl | assumption) : PG X (.Name x pos) (gName i) := by
 intro pins s σ H v u Q I r h
 exact wpAny_assign_Name (store_ok I hN hi hx r (fun s' I' => ⟨_, H, I', h⟩) hf)
noncomputable def tAsg (te : TE) (g : TG) : TS := fun D σ H => te σ H fun x H1 => g x σ H1 D.nx
theorem ps_set {i : Nat} {x : Str} {e : Expr} {te : TE} {pos' : Pos} (hN : X.N.Nodup) (hi : X.N[i]? = some x) (hx : Loc X.env.scope x) (he : PE X e te) (hs : swapsWith e (some (.Name x pos')) pos.line X.env = pure false := by rfl) (hf : X.fn x = true ∨ X.env.scope.names.lookup x = some .local := by first | exact .inl rfl | exact .inr rfl | assumption) :
   PS X (.Assign [.Name x pos'] e pos) (tAsg te (gName i)) := by
 intro pins s σ H D I h
 refine wpAny_Assign_Name (thn (he pins s σ H _ I h) fun v s1 ⟨y, H1, I1, r1, q1⟩ => ?_) hs
 exact store_ok I1 hN hi hx r1 (fun s2 I2 => ⟨_, H1, I2, q1⟩) hf
noncomputable def tAug (i : Nat) (te : TE) (ti : TIp) : TS := fun D σ H => ∃ x, σ[i]? = some (some x) ∧ te σ H fun y H1 => ti x y H1 fun z H2 => D.nx (σ.set i (some z)) H2
theorem ps_aug {i : Nat} {x : Str} {e : Expr} {te : TE} {op : Operator} {ti : TIp} {pos' : Pos} (hN : X.N.Nodup) (hi : X.N[i]? = some x) (hx : Loc X.env.scope x) (he : PE X e te) (ho : PIp X op ti) (hf : X.fn x = true ∨ X.env.scope.names.lookup x = some .local := by first | exact .inl rfl | exact .inr rfl | assumption) :
   PS X (.AugAssign (.Name x pos') op e pos) (tAug i te ti) := by
 intro pins s σ H D I h
 obtain ⟨v, e1, h⟩ := h
 obtain ⟨m, hn, hl⟩ := I.loc
 have vis : Vis X.env.scope x := by rcases hx with k | k; exact .inl k; exact .inr (.inl k)
 obtain ⟨u, r, l⟩ := hl i x v hi e1 vis
 refine wpAny_AugAssign_Name ?_
 have go : wpAny (model X.prog X.w) X.A (eval e X.env) (fun w s₂ => wpAny (model X.prog X.w) X.A (inplaceOp op u w) (fun r s₃ => wpAny (model X.prog X.w) X.A (storeName X.env x r) (fun _ => SP X pins D .next) X.xe s₃) X.xe s₂) X.xe s := by
   refine thn (he pins s σ H _ I h) fun w s1 ⟨y, H1, I1, r1, q1⟩ => ?_
   refine thn (ho pins s1 σ H1 v y u w _ I1 r r1 q1) fun z s2 ⟨zv, H2, I2, r2, q2⟩ => ?_
   exact store_ok I2 hN hi hx r2 (fun s3 I3 => ⟨_, H2, I3, q2⟩) hf
 rcases l with ⟨hk, hm⟩ | ⟨hk, c, hc, hcell⟩
 · exact wpAny_loadName_local I.ok.kind hk hn hm go
 · rcases hk with hk | hk
   · exact wpAny_loadName_cell I.ok.kind hk hc hcell go
   · rcases hx with k | k
     · have : X.env.scope.names.lookup x = some .free := hk
       rw [k] at this; cases this
     · have : X.env.scope.names.lookup x = some .free := hk
       rw [k] at this; cases this
noncomputable def ipI (f : Int → Int → Int) : TIp := fun x y H Q => ∃ i j, x = .int i ∧ y = .int j ∧ Q (.int (f i j)) H
theorem ip_add : PIp X .Add (ipI fun i j => i + j) := by
 intro pins s σ H x y v u Q I r1 r2 h
 obtain ⟨i, j, e1, e2, q⟩ := h
 subst e1; subst e2
 obtain ⟨t, rfl⟩ := r1
 obtain ⟨t', rfl⟩ := r2
 exact iadd_int ⟨.int _, H, I.tok _, ⟨_, rfl⟩, q⟩
theorem ip_sub : PIp X .Sub (ipI fun i j => i - j) := by
 intro pins s σ H x y v u Q I r1 r2 h
 obtain ⟨i, j, e1, e2, q⟩ := h
 subst e1; subst e2
 obtain ⟨t, rfl⟩ := r1
 obtain ⟨t', rfl⟩ := r2
 exact isub_int ⟨.int _, H, I.tok _, ⟨_, rfl⟩, q⟩
end
section
variable {X : Cx} {pos : Pos}
noncomputable def tWhile (c : TT) (tb : TS) : TS := fun D σ H => ∃ W : Nat → St → Hp → Prop, (∃ m, W m σ H) ∧ ∀ m σ H, W m σ H →
 c σ H fun b H1 => if b = true then ∃ N : St → Hp → Prop, (∀ σ' H', N σ' H' → ∃ m', m' < m ∧ W m' σ' H') ∧ tb { D with nx := N, ct := N, bk := D.nx } σ H1 else D.nx σ H1
theorem ps_while {c : Expr} {body : List Stmt} {tc : TT} {tb : TS} (hp : PassesOwn (model X.prog X.w) X.A X.env X.xe) (hc : PT X c tc) (hb : PSs X body tb) : PS X (.While c body [] pos) (tWhile tc tb) := by
 intro pins s σ H D I h
 obtain ⟨W, ⟨m0, w0⟩, turn⟩ := h
 refine wpAny_While (codeAny_whileLoop (fun n s' => ∃ σ' H', Inv X pins σ' H' s' ∧ W n σ' H') ?_ m0 ⟨σ, H, I, w0⟩)
 rintro n s1 ⟨σ1, H1, I1, w1⟩
 refine wpAny_passesOwn hp (thn (hc pins s1 σ1 H1 _ I1 (turn n σ1 H1 w1)) fun b s2 ⟨H2, I2, q2⟩ => ?_)
 cases b with
 | true =>
   obtain ⟨N, hN, q2⟩ := q2
   rw [if_pos rfl]
   refine wpAny_passesOwn hp (thn (hb pins s2 σ1 H2 _ I2 q2) fun f s3 q3 => ?_)
   cases f with
   | next =>
     obtain ⟨σ3, H3, I3, n3⟩ := q3
     obtain ⟨m', hm, w3⟩ := hN σ3 H3 n3
     exact ⟨m', hm, σ3, H3, I3, w3⟩
   | cont =>
     obtain ⟨σ3, H3, I3, n3⟩ := q3
     obtain ⟨m', hm, w3⟩ := hN σ3 H3 n3
     exact ⟨m', hm, σ3, H3, I3, w3⟩
   | brk => exact q3
   | ret v => exact q3
 | false =>
   rw [if_neg Bool.false_ne_true]
   exact wpAny_execs_nil ⟨σ1, H2, I2, q2⟩
end
structure It where
 go : Nat → Hp → Prop
 yld : Nat → Hp → V → Hp → Prop
 stop : Nat → Hp → Prop
noncomputable def FpOk (X : Cx) (pins : List (Addr × Obj)) (H : Hp) (b : Addr) : Prop :=
 H b = none ∧ b ≠ X.env.locals ∧ b ∉ X.fs ∧ (b ∈ X.ex ∨ X.s_0.heap.objs.size ≤ b) ∧ (∀ x c, X.env.cells.lookup x = some c → c ≠ b) ∧ ∀ p ∈ X.pn ++ pins, p.1 ≠ b
theorem Inv.fpOk {X : Cx} {pins : List (Addr × Obj)} {σ : St} {H H' : Hp} {s : Shared} {b : Addr} (I : Inv X pins σ H s) (hb : s.heap.objs.size ≤ b) (hn : H' b = none) : FpOk X pins H' b := by
 refine ⟨hn, Nat.ne_of_gt (Nat.lt_of_lt_of_le I.lt hb), I.nofs hb, .inr (Nat.le_trans I.sz hb), fun x c e z => ?_, fun p hp z => ?_⟩
 · obtain ⟨v, q⟩ := I.cell x c e
   exact absurd (Nat.lt_of_lt_of_le q.lt (by rw [z]; exact hb)) (Nat.lt_irrefl _)
 · exact absurd (Nat.lt_of_lt_of_le (Heap.lt_size (I.pin p hp).1) (by rw [z]; exact hb)) (Nat.lt_irrefl _)
structure Turn (P : Program) (w : World) (K : PySem.W.Frag) (tg : Expr) (J : It) (fp : List Addr) (it : Addr) (tn : Nat → Heap → Prop) : Prop where
 mem : it ∈ fp
 obj : ∀ i h, tn i h → ∀ b ∈ fp, ∃ o, h.get? b = some o ∧ ∀ v, o.data ≠ .cell v
 keep : ∀ i h h', tn i h → (∀ b ∈ fp, ∀ o, h.get? b = some o → h'.get? b = some o) → tn i h'
 item : ∀ (X : Cx), X.prog = P → X.w = w → X.K = K → X.calm = true → ∀ (i : Nat) (pins : List (Addr × Obj)) (s : Shared) (σ : St) (H : Hp) (E : Value → Shared → Prop), Inv X pins σ H s → (∀ b ∈ fp, FpOk X pins H b) → tn i s.heap → J.go i H →
   wpAny (model P w) X.A (pyNext (.ref it)) (fun r s1 => ∃ u, r = some u ∧
     wpAny (model P w) X.A (letOwnedTupleGo tg (.ref it) u) (fun _ s2 => ∃ x H', Inv X pins σ H' s2 ∧ RelV x u ∧ J.yld i H x H' ∧ tn (i + 1) s2.heap ∧ ∀ b ∈ fp, H' b = none) E s1) E s
 done : ∀ (X : Cx), X.prog = P → X.w = w → X.K = K → X.calm = true → ∀ (i : Nat) (pins : List (Addr × Obj)) (s : Shared) (σ : St) (H : Hp) (E : Value → Shared → Prop), Inv X pins σ H s → (∀ b ∈ fp, FpOk X pins H b) → tn i s.heap → J.stop i H →
   wpAny (model P w) X.A (pyNext (.ref it)) (fun r s1 => r = none ∧ Inv X pins σ H s1) E s
 self : ∀ (A : Around) (i : Nat) (s : Shared) (Q : Value → Shared → Prop) (E : Value → Shared → Prop), tn i s.heap → Q (.ref it) s → wpAny (model P w) A (pyIter (.ref it)) Q E s
noncomputable abbrev TI := St → Hp → (It → Hp → Prop) → Prop
noncomputable def PIE (X : Cx) (pins : List (Addr × Obj)) (σ : St) (tg : Expr) (R : It → Hp → Prop) (itv : Value) (s2 : Shared) : Prop :=
 ∃ (it : Addr) (fp : List Addr) (tn : Nat → Heap → Prop) (J : It) (H' : Hp), itv = .ref it ∧ Inv X pins σ H' s2 ∧ Turn X.prog X.w X.K tg J fp it tn ∧ tn 0 s2.heap ∧ (∀ b ∈ fp, FpOk X pins H' b) ∧ R J H'
noncomputable def PI (X : Cx) (tg iter : Expr) (wi : TI) : Prop :=
 ∀ (pins : List (Addr × Obj)) (s : Shared) (σ : St) (H : Hp) (R : It → Hp → Prop), Inv X pins σ H s → wi σ H R →
   wpAny (model X.prog X.w) X.A (eval iter X.env) (fun v s1 => wpAny (model X.prog X.w) X.A (pyIter v) (PIE X pins σ tg R) X.xe s1) X.xe s
theorem go_of {M : Model} {A : Around} {E : Value → Shared → Prop} {s : Shared} {tg : Expr} {it : Addr} {u : Value} {o : Obj} {n : String} {vs : Array Value} {Q : Unit → Shared → Prop} (ho : s.heap.get? it = some o) (hc : o.cls = .type n) (hd : o.data = .fields vs)
   (hn : ["enumerate", "zip", "dict_itemiterator", "dict_reverseitemiterator", "odict_iterator", "itertools.zip_longest", "itertools.pairwise"].contains n = false) (hQ : Q () s) : wpAny M A (letOwnedTupleGo tg (.ref it) u) Q E s := by
 unfold letOwnedTupleGo
 cases tg <;> first
   | exact wpAny_pure hQ
   | (cases u <;> first
       | exact wpAny_pure hQ
       | (refine wpAny_bind (wpAny_load ho ?_)
          rw [hc, hd]
          show wpAny M A (if (["enumerate", "zip", "dict_itemiterator", "dict_reverseitemiterator", "odict_iterator", "itertools.zip_longest", "itertools.pairwise"].contains n && vs[0]? == some (rawInt _)) = true then _ else _) Q E s
          rw [if_neg (by intro h; rw [hn, Bool.false_and] at h; cases h)]
          exact wpAny_pure hQ))
noncomputable def Itl (K : PySem.W.Frag) (a : Addr) : It :=
 ⟨fun i H => ∃ xs x, SqL K H a xs ∧ xs[i]? = some x, fun i H x H' => H' = H ∧ ∀ xs, SqL K H a xs → xs[i]? = some x, fun i H => ∃ xs, SqL K H a xs ∧ xs.length ≤ i⟩
noncomputable def Itr (lo : Int) (n : Nat) : It := ⟨fun i _ => i < n, fun i H x H' => H' = H ∧ x = .int (lo + i), fun i _ => n ≤ i⟩
theorem turn_list {P : Program} {w : World} {K : PySem.W.Frag} {tg : Expr} (a it : Addr) : Turn P w K tg (Itl K a) [it] it (fun i h => h.IsListIter it a i) where
 mem := by simp
 obj := fun i h st b hb => by
   have e : b = it := by simpa using hb
   subst e
   obtain ⟨o, e, c, d⟩ := st
   exact ⟨o, e, fun v z => by rw [d] at z; cases z⟩
 keep := fun i h h' st k => st.at fun o e => k it (by simp) o e
 item := by
   intro X hP hw hK hc i pins s σ H E I hf st hg
   subst hP hw hK
   obtain ⟨xs, x, hq, hx⟩ := hg
   obtain ⟨its, rv, p, hz⟩ := I.list hq
   obtain ⟨u, hu, ru⟩ := rv.get hx
   obtain ⟨f0, f1, f2, f3, f4, f5⟩ := hf it (by simp)
   refine wpAny_pyNext_list_item st p.isList (x := u) (by simpa using hu) fun h' st' sb => ?_
   have I1 : Inv X pins σ H { s with heap := h' } := I.turned (t' := s.toks) (fun b o hb e => (sb.2 b hb).trans e) f0 f1 f3 f4 f5
   obtain ⟨o, e, c, d⟩ := id st'
   exact ⟨u, rfl, go_of (s := { s with heap := h' }) e c d (by decide) ⟨x, H, I1, ru, ⟨rfl, fun ys hy => by rw [I.list_inj hy hq]; exact hx⟩, st', fun b hb => (hf b hb).1⟩⟩
 done := by
   intro X hP hw hK hc i pins s σ H E I hf st hg
   subst hP hw hK
   obtain ⟨xs, hq, hx⟩ := hg
   obtain ⟨its, rv, p, hz⟩ := I.list hq
   obtain ⟨f0, f1, f2, f3, f4, f5⟩ := hf it (by simp)
   have hl := rv.length
   exact wpAny_pyNext_list_end (I.ok.hd hc) st p.isList (by simp; omega) fun h' eb => ⟨rfl, I.turned (t' := s.toks) (fun b o hb e => eb b o hb e) f0 f1 f3 f4 f5⟩
 self := fun _ _ _ _ _ st h => wpAny_pyIter_listiter st h
theorem turn_range {P : Program} {w : World} {K : PySem.W.Frag} {tg : Expr} (it : Addr) (lo : Int) (n : Nat) : Turn P w K tg (Itr lo n) [it] it (fun i h => IsRangeIter h it (lo + (i : Nat) * 1) ((n : Int) - (i : Nat)) 1) where
 mem := by simp
 obj := fun i h st b hb => by
   have e : b = it := by simpa using hb
   subst e
   exact ⟨_, st, fun v z => by
     have z' : Data.fields _ = Data.cell v := z
     cases z'⟩
 keep := fun i h h' st k => k it (by simp) _ st
 item := by
   intro X hP hw hK hc i pins s σ H E I hf st hg
   subst hP hw hK
   obtain ⟨f0, f1, f2, f3, f4, f5⟩ := hf it (by simp)
   have W := Walks.range (prog := X.prog) (w := X.w) (I.ok.hd hc) it lo 1 n
   refine W.item i s _ _ hg st fun v h' tk hv st' kk => ?_
   obtain ⟨t, rfl⟩ := hv
   have I1 : Inv X pins σ H { s with heap := h', toks := tk } := I.turned (fun b o hb e => kk b o (by simpa using hb) e) f0 f1 f3 f4 f5
   refine ⟨_, rfl, go_of (s := { s with heap := h', toks := tk }) (n := "range_iterator") st' rfl rfl (by decide) ⟨.int (lo + i), H, I1, ⟨t, ?_⟩, ⟨rfl, rfl⟩, st', fun b hb => (hf b hb).1⟩⟩
   rw [Int.mul_one]
 done := by
   intro X hP hw hK hc i pins s σ H E I hf st hg
   subst hP hw hK
   obtain ⟨f0, f1, f2, f3, f4, f5⟩ := hf it (by simp)
   exact wpAny_pyNext_range_end (I.ok.hd hc) st (by have : n ≤ i := hg; omega) fun h' eb => ⟨rfl, I.turned (t' := s.toks) (fun b o hb e => eb b o hb e) f0 f1 f3 f4 f5⟩
 self := fun _ _ _ _ _ st h => wpAny_pyIter_rangeiter st h
end L2
namespace L2
open PySem PySem.Spec PyProof.Rows
section
variable {X : Cx} {tg : Expr}
noncomputable def iList (K : PySem.W.Frag) (tl : TE) : TI := fun σ H R => tl σ H fun x H1 => ∃ a, x = .ref a ∧ (∃ xs, SqL K H1 a xs) ∧ R (Itl K a) H1
theorem pi_list {l : Expr} {tl : TE} (hl : PE X l tl) : PI X tg l (iList X.K tl) := by
 intro pins s σ H R I h
 refine thn (hl pins s σ H _ I h) fun v s1 ⟨x, H1, I1, r1, q1⟩ => ?_
 obtain ⟨a, e, ⟨xs, hq⟩, q⟩ := q1
 subst e
 cases r1
 obtain ⟨its, rv, p, hz⟩ := I1.list hq
 refine wpAny_pyIter_list p.isList ?_
 refine ⟨s1.heap.objs.size, [s1.heap.objs.size], _, _, H1, rfl, I1.kept (t' := s1.toks) fun b o e => Heap.get?_push_of_some _ e, turn_list a _, ⟨_, Heap.get?_push_size _ rfl, rfl, rfl⟩, fun b hb => ?_, q⟩
 have e : b = s1.heap.objs.size := by simpa using hb
 subst e
 exact I1.fpOk (Nat.le_refl _) (I1.hok.fresh (Nat.le_refl _))
theorem range_it {pins : List (Addr × Obj)} {σ : St} {H : Hp} {s : Shared} {R : It → Hp → Prop} {E : Value → Shared → Prop} {lo hi : Int} {t u v : Tok} {tk : Nat} (I : Inv X pins σ H s) (h1 : -(2 ^ 62) ≤ lo) (h2 : lo < 2 ^ 62) (h3 : -(2 ^ 62) ≤ hi) (h4 : hi < 2 ^ 62)
   (q : R (Itr lo (hi - lo).toNat) H) : wpAny (model X.prog X.w) X.A (pyIter (.ref s.heap.objs.size)) (PIE X pins σ tg R) E { s with heap := s.heap.push { cls := .type "range", data := .fields #[.int lo t, .int hi u, .int 1 v] }, toks := tk } := by
 refine wpAny_pyIter_range (IsRange.new ..) (small_one h1 h2 h3 h4) ?_
 have I1 : Inv X pins σ H { s with heap := s.heap.push { cls := .type "range", data := .fields #[.int lo t, .int hi u, .int 1 v] }, toks := tk } := I.kept fun b o e => Heap.get?_push_of_some _ e
 refine ⟨(s.heap.push { cls := .type "range", data := .fields #[.int lo t, .int hi u, .int 1 v] }).objs.size, [(s.heap.push { cls := .type "range", data := .fields #[.int lo t, .int hi u, .int 1 v] }).objs.size], _, _, H, rfl,
   I1.kept (t' := tk) fun b o e => Heap.get?_push_of_some _ e, turn_range _ lo (hi - lo).toNat, ?_, fun b hb => ?_, q⟩
 · have e1 : lo + ((0 : Nat) : Int) * 1 = lo := by simp
   have e2 : (((hi - lo).toNat : Nat) : Int) - ((0 : Nat) : Int) = Builtin.Range.rangeSize lo hi 1 := by rw [rangeSize_one]; split <;> omega
   show IsRangeIter _ _ (lo + ((0 : Nat) : Int) * 1) ((((hi - lo).toNat : Nat) : Int) - ((0 : Nat) : Int)) 1
   rw [e1, e2]
   exact Heap.get?_push_size _ rfl
 · have e : b = (s.heap.push { cls := .type "range", data := .fields #[.int lo t, .int hi u, .int 1 v] }).objs.size := by simpa using hb
   subst e
   exact I1.fpOk (Nat.le_refl _) (I1.hok.fresh (Nat.le_refl _))
noncomputable def iRng1 (ta : TA) : TI := fun σ H R => ta σ H fun vs H1 => ∃ j : Int, vs = [.int j] ∧ -(2 ^ 62) ≤ j ∧ j < 2 ^ 62 ∧ R (Itr 0 j.toNat) H1
noncomputable def iRng2 (ta : TA) : TI := fun σ H R => ta σ H fun vs H1 => ∃ i j : Int, vs = [.int i, .int j] ∧ (-(2 ^ 62) ≤ i ∧ i < 2 ^ 62 ∧ -(2 ^ 62) ≤ j ∧ j < 2 ^ 62) ∧ R (Itr i (j - i).toNat) H1
theorem pi_range1 {a : Expr} {ta : TA} {p pos : Pos} (hg : Gl X "range") (hm : X.mg "range" = none) (ha : PA X [a] ta) (hs : starEach [a] X.env = [(false, eval a X.env)] := by rfl) : PI X tg (.Call (.Name "range" p) [a] [] pos) (iRng1 ta) := by
 intro pins s σ H R I h
 refine Call_ (ld_blt I hg hm boot_range (PyProof.Rows.callWith_type1 (thn (ha pos pins s σ H _ I h) fun us s1 ⟨vs, H1, I1, r1, q1⟩ => ?_) hs rfl))
 obtain ⟨j, e, q1, q2, q⟩ := q1
 subst e
 cases r1 with
 | cons r rr =>
   cases rr
   obtain ⟨t, rfl⟩ := r
   exact call_range_1 (range_it I1 (by omega) (by omega) q1 q2 (by simpa using q))
theorem pi_range2 {a b : Expr} {ta : TA} {p pos : Pos} (hg : Gl X "range") (hm : X.mg "range" = none) (ha : PA X [a, b] ta) (hs : starEach [a, b] X.env = [(false, eval a X.env), (false, eval b X.env)] := by rfl) (hs2 : starEach [b] X.env = [(false, eval b X.env)] := by rfl) :
   PI X tg (.Call (.Name "range" p) [a, b] [] pos) (iRng2 ta) := by
 intro pins s σ H R I h
 refine Call_ (ld_blt I hg hm boot_range (PyProof.Rows.callWith_type1 (thn (ha pos pins s σ H _ I h) fun us s1 ⟨vs, H1, I1, r1, q1⟩ => ?_) (by rw [hs, hs2]) (by rw [hs2]; rfl)))
 obtain ⟨i, j, e, ⟨q1, q2, q3, q4⟩, q⟩ := q1
 subst e
 cases r1 with
 | cons r rr =>
   cases rr with
   | cons r' rr =>
     cases rr
     obtain ⟨t, rfl⟩ := r
     obtain ⟨t', rfl⟩ := r'
     exact call_range_2 (range_it I1 q1 q2 q3 q4 q)
noncomputable def tFor (wi : TI) (g : TG) (tb : TS) : TS := fun D σ H => wi σ H fun J H1 => ∃ W : Nat → Nat → St → Hp → Prop, (∃ m, W 0 m σ H1) ∧ ∀ i m σ H, W i m σ H →
 (J.stop i H ∧ D.nx σ H) ∨ (J.go i H ∧ ∃ N : St → Hp → Prop, (∀ σ' H', N σ' H' → ∃ m', m' < m ∧ W (i + 1) m' σ' H') ∧ ∀ x H', J.yld i H x H' → g x σ H' fun σ2 H2 => tb { D with nx := N, ct := N, bk := D.nx } σ2 H2)
noncomputable def pinsAt (fp : List Addr) (h : Heap) : List (Addr × Obj) := fp.filterMap fun b => (h.get? b).map fun o => (b, o)
theorem mem_pinsAt {fp : List Addr} {h : Heap} {b : Addr} {o : Obj} (hb : b ∈ fp) (e : h.get? b = some o) : (b, o) ∈ pinsAt fp h := List.mem_filterMap.mpr ⟨b, hb, by rw [e]; rfl⟩
theorem of_pinsAt {fp : List Addr} {h : Heap} {p : Addr × Obj} (hp : p ∈ pinsAt fp h) : p.1 ∈ fp ∧ h.get? p.1 = some p.2 := by
 obtain ⟨b, hb, e⟩ := List.mem_filterMap.mp hp
 cases q : h.get? b with
 | none => rw [q] at e; cases e
 | some o =>
   rw [q] at e
   have e' : (b, o) = p := Option.some.inj e
   subst e'
   exact ⟨hb, q⟩
theorem Inv.pinned {pins : List (Addr × Obj)} {σ : St} {H : Hp} {s : Shared} {fp : List Addr} (I : Inv X pins σ H s) (hf : ∀ b ∈ fp, FpOk X pins H b) (ho : ∀ b ∈ fp, ∃ o, s.heap.get? b = some o ∧ ∀ v, o.data ≠ .cell v) : Inv X (pins ++ pinsAt fp s.heap) σ H s :=
 I.pins_of fun p hp => (List.mem_append.mp hp).elim (fun z => I.pin p (List.mem_append_right _ z)) fun z => by
   obtain ⟨hb, e⟩ := of_pinsAt z
   obtain ⟨f0, f1, f2, _⟩ := hf p.1 hb
   obtain ⟨o, e', d⟩ := ho p.1 hb
   rw [e] at e'; cases e'
   exact ⟨e, f0, f1, f2, d⟩
theorem Inv.unpinned {pins pl : List (Addr × Obj)} {σ : St} {H : Hp} {s : Shared} (I : Inv X (pins ++ pl) σ H s) : Inv X pins σ H s := I.pins_of fun p hp => I.pin p (List.mem_append_right _ (List.mem_append_left _ hp))
theorem ps_for {iter : Expr} {body : List Stmt} {wi : TI} {g : TG} {tb : TS} {pos : Pos} (hp : PassesOwn (model X.prog X.w) X.A X.env X.xe) (hc : X.calm = true) (hi : PI X tg iter wi) (hg : PG X tg g) (hb : PSs X body tb)
   (hs : ∀ x, foldedSetIterable iter X.env x = pure x := by intro _; rfl) : PS X (.For tg iter body [] pos) (tFor wi g tb) := by
 intro pins s σ H D I h
 refine wpAny_For (thn (hi pins s σ H _ I h) fun v s1 h1 => thn h1 fun itv s2 h2 => ?_) hs
 obtain ⟨it, fp, tn, J, H2, e, I2, T, st2, f2, W, ⟨m0, w0⟩, turn⟩ := h2
 subst e
 have stat : ∀ {H' : Hp}, (∀ b ∈ fp, H' b = none) → ∀ b ∈ fp, FpOk X pins H' b := fun hn b hb => ⟨hn b hb, (f2 b hb).2⟩
 refine codeAny_forLoop_any (fun n s' => ∃ i σ' H', Inv X pins σ' H' s' ∧ tn i s'.heap ∧ (∀ b ∈ fp, H' b = none) ∧ W i n σ' H') ?_ m0 ⟨0, σ, H2, I2, st2, fun b hb => (f2 b hb).1, w0⟩
 rintro n s3 ⟨i, σ3, H3, I3, st3, fr3, w3⟩
 rcases turn i n σ3 H3 w3 with ⟨stop, qn⟩ | ⟨go, N, hN, step⟩
 · refine wpAny_passesOwn hp (thn (T.done X rfl rfl rfl hc i pins s3 σ3 H3 X.xe I3 (stat fr3) st3 stop) fun r s4 ⟨hr, I4⟩ => ?_)
   subst hr
   exact wpAny_execs_nil ⟨σ3, H3, I4, qn⟩
 · refine wpAny_passesOwn hp (thn (T.item X rfl rfl rfl hc i pins s3 σ3 H3 X.xe I3 (stat fr3) st3 go) fun r s4 ⟨u, hr, h4⟩ => ?_)
   subst hr
   refine wpAny_passesOwn hp (thn h4 fun _ s5 ⟨x, H5, I5, r5, y5, st5, fr5⟩ => ?_)
   have I5' := I5.pinned (stat fr5) (T.obj _ _ st5)
   refine wpAny_passesOwn hp (thn (hg _ s5 σ3 H5 x u _ I5' r5 (step x H5 y5)) fun _ s6 ⟨σ6, H6, I6, q6⟩ => ?_)
   refine wpAny_passesOwn hp (thn (hb _ s6 σ6 H6 _ I6 q6) fun f s7 q7 => ?_)
   have again : ∀ {σ7 : St} {H7 : Hp}, Inv X (pins ++ pinsAt fp s5.heap) σ7 H7 s7 → N σ7 H7 → ∃ m, m < n ∧ ∃ i σ' H', Inv X pins σ' H' s7 ∧ tn i s7.heap ∧ (∀ b ∈ fp, H' b = none) ∧ W i m σ' H' := fun {σ7 H7} I7 n7 => by
     obtain ⟨m', hm, w7⟩ := hN σ7 H7 n7
     refine ⟨m', hm, i + 1, σ7, H7, I7.unpinned, T.keep _ _ _ st5 fun b hb o e => (I7.pin (b, o) (List.mem_append_right _ (List.mem_append_right _ (mem_pinsAt hb e)))).1, fun b hb => ?_, w7⟩
     obtain ⟨o, e, d⟩ := T.obj _ _ st5 b hb
     exact (I7.pin (b, o) (List.mem_append_right _ (List.mem_append_right _ (mem_pinsAt hb e)))).2.1
   cases f with
   | next => obtain ⟨σ7, H7, I7, n7⟩ := q7; exact again I7 n7
   | cont => obtain ⟨σ7, H7, I7, n7⟩ := q7; exact again I7 n7
   | brk => obtain ⟨σ7, H7, I7, q7⟩ := q7; exact ⟨σ7, H7, I7.unpinned, q7⟩
   | ret v => obtain ⟨x7, σ7, H7, I7, r7, q7⟩ := q7; exact ⟨x7, σ7, H7, I7.unpinned, r7, q7⟩
end
theorem for_list {K : PySem.W.Frag} {a : Addr} {xs : List V} {g : TG} {tb : TS} {D : Ends} {σ : St} {H : Hp} (Pv : Nat → St → Hp → Prop) (h0 : Pv 0 σ H) (hl : ∀ i σ H, i ≤ xs.length → Pv i σ H → SqL K H a xs)
   (hs : ∀ i x σ H, xs[i]? = some x → Pv i σ H → g x σ H fun σ2 H2 => tb { D with nx := Pv (i + 1), ct := Pv (i + 1), bk := D.nx } σ2 H2) (hd : ∀ σ H, Pv xs.length σ H → D.nx σ H) :
   ∃ W : Nat → Nat → St → Hp → Prop, (∃ m, W 0 m σ H) ∧ ∀ i m σ H, W i m σ H →
     ((Itl K a).stop i H ∧ D.nx σ H) ∨ ((Itl K a).go i H ∧ ∃ N : St → Hp → Prop, (∀ σ' H', N σ' H' → ∃ m', m' < m ∧ W (i + 1) m' σ' H') ∧ ∀ x H', (Itl K a).yld i H x H' → g x σ H' fun σ2 H2 => tb { D with nx := N, ct := N, bk := D.nx } σ2 H2) := by
 refine ⟨fun i m σ H => m = xs.length - i ∧ i ≤ xs.length ∧ Pv i σ H, ⟨xs.length, by simp, Nat.zero_le _, h0⟩, ?_⟩
 rintro i m σ H ⟨rfl, hi, p⟩
 have q := hl i σ H hi p
 by_cases hlt : i < xs.length
 · refine .inr ⟨⟨xs, xs[i], q, by simp [hlt]⟩, Pv (i + 1), fun σ' H' p' => ⟨xs.length - (i + 1), by omega, rfl, hlt, p'⟩, fun x H' y => ?_⟩
   obtain ⟨e, y⟩ := y
   subst e
   exact hs i x σ _ (y xs q) p
 · have e : i = xs.length := by omega
   subst e
   exact .inl ⟨⟨xs, q, Nat.le_refl _⟩, hd σ H p⟩
theorem for_range {lo : Int} {n : Nat} {g : TG} {tb : TS} {D : Ends} {σ : St} {H : Hp} (Pv : Nat → St → Hp → Prop) (h0 : Pv 0 σ H)
   (hs : ∀ i σ H, i < n → Pv i σ H → g (.int (lo + i)) σ H fun σ2 H2 => tb { D with nx := Pv (i + 1), ct := Pv (i + 1), bk := D.nx } σ2 H2) (hd : ∀ σ H, Pv n σ H → D.nx σ H) :
   ∃ W : Nat → Nat → St → Hp → Prop, (∃ m, W 0 m σ H) ∧ ∀ i m σ H, W i m σ H →
     ((Itr lo n).stop i H ∧ D.nx σ H) ∨ ((Itr lo n).go i H ∧ ∃ N : St → Hp → Prop, (∀ σ' H', N σ' H' → ∃ m', m' < m ∧ W (i + 1) m' σ' H') ∧ ∀ x H', (Itr lo n).yld i H x H' → g x σ H' fun σ2 H2 => tb { D with nx := N, ct := N, bk := D.nx } σ2 H2) := by
 refine ⟨fun i m σ H => m = n - i ∧ i ≤ n ∧ Pv i σ H, ⟨n, by simp, Nat.zero_le _, h0⟩, ?_⟩
 rintro i m σ H ⟨rfl, hi, p⟩
 by_cases hlt : i < n
 · refine .inr ⟨hlt, Pv (i + 1), fun σ' H' p' => ⟨n - (i + 1), by omega, rfl, hlt, p'⟩, fun x H' y => ?_⟩
   obtain ⟨e, y⟩ := y
   subst e y
   exact hs i σ _ hlt p
 · have e : i = n := by omega
   subst e
   exact .inl ⟨Nat.le_refl _, hd σ H p⟩
theorem while_by {c : TT} {tb : TS} {D : Ends} {σ : St} {H : Hp} (Pv : St → Hp → Prop) (μ : St → Hp → Nat) (h0 : Pv σ H)
   (hs : ∀ σ H, Pv σ H → c σ H fun b H1 => if b = true then tb { D with nx := fun σ' H' => Pv σ' H' ∧ μ σ' H' < μ σ H, ct := fun σ' H' => Pv σ' H' ∧ μ σ' H' < μ σ H, bk := D.nx } σ H1 else D.nx σ H1)
   (mono : ∀ σ H Q Q', (∀ b H1, Q b H1 → Q' b H1) → c σ H Q → c σ H Q') : tWhile c tb D σ H := by
 refine ⟨fun m σ H => m = μ σ H ∧ Pv σ H, ⟨_, rfl, h0⟩, ?_⟩
 rintro m σ H ⟨rfl, p⟩
 refine mono σ H _ _ (fun b H1 q => ?_) (hs σ H p)
 cases b with
 | true => exact ⟨_, fun σ' H' ⟨p', l⟩ => ⟨_, l, rfl, p'⟩, q⟩
 | false => exact q
end L2
namespace L2
open PySem PySem.Spec PyProof.Rows
noncomputable abbrev R2 := V → V → Hp → VK → Prop
noncomputable def OpR (X : Cx) (f : Value → Value → Sem Value) (r : R2) : Prop :=
 ∀ (pins : List (Addr × Obj)) (s : Shared) (σ : St) (H : Hp) (x y : V) (v u : Value) (Q : VK), Inv X pins σ H s → RelV x v → RelV y u → r x y H Q →
   wpAny (model X.prog X.w) X.A (f v u) (EP X pins σ Q) X.xe s
noncomputable def UnR (X : Cx) (f : Value → Sem Value) (r : V → Hp → VK → Prop) : Prop :=
 ∀ (pins : List (Addr × Obj)) (s : Shared) (σ : St) (H : Hp) (x : V) (v : Value) (Q : VK), Inv X pins σ H s → RelV x v → r x H Q →
   wpAny (model X.prog X.w) X.A (f v) (EP X pins σ Q) X.xe s
noncomputable def CallR (X : Cx) (f : Value) (r : List V → Hp → VK → Prop) : Prop :=
 ∀ (pins : List (Addr × Obj)) (s : Shared) (σ : St) (H : Hp) (xs : List V) (us : List Value) (Q : VK), Inv X pins σ H s → Vals xs us → r xs H Q →
   wpAny (model X.prog X.w) X.A (call f us) (EP X pins σ Q) X.xe s
noncomputable def tOp (r : R2) (ta tb : TE) : TE := fun σ H Q => ta σ H fun x H1 => tb σ H1 fun y H2 => r x y H2 Q
noncomputable def tUn (r : V → Hp → VK → Prop) (ta : TE) : TE := fun σ H Q => ta σ H fun x H1 => r x H1 Q
noncomputable def rI (C : Int → Int → Prop) (g : Int → Int → V) : R2 := fun x y H Q => ∃ i j, x = .int i ∧ y = .int j ∧ C i j ∧ Q (g i j) H
noncomputable def rI0 (g : Int → Int → V) : R2 := fun x y H Q => ∃ i j, x = .int i ∧ y = .int j ∧ Q (g i j) H
noncomputable def rU (g : Int → V) : V → Hp → VK → Prop := fun x H Q => ∃ i, x = .int i ∧ Q (g i) H
section
variable {X : Cx} {a b c : Expr} {ta tb tc : TE} {pos : Pos}
theorem binT (ha : PE X a ta) (hb : PE X b tb) {pins : List (Addr × Obj)} {s : Shared} {σ : St} {H : Hp} {R : V → V → Hp → Prop} (I : Inv X pins σ H s)
   (h : ta σ H fun x H1 => tb σ H1 fun y H2 => R x y H2) {Q : Value → Shared → Prop} {f : Value → Value → Sem Value}
   (hf : ∀ v u s2 x y H2, Inv X pins σ H2 s2 → RelV x v → RelV y u → R x y H2 → wpAny (model X.prog X.w) X.A (f v u) Q X.xe s2) :
   wpAny (model X.prog X.w) X.A (eval a X.env) (fun v s₁ => wpAny (model X.prog X.w) X.A (eval b X.env) (fun u s₂ => wpAny (model X.prog X.w) X.A (f v u) Q X.xe s₂) X.xe s₁) X.xe s := by
 refine thn (ha pins s σ H _ I h) fun v s1 ⟨x, H1, I1, r1, q1⟩ => ?_
 refine thn (hb pins s1 σ H1 _ I1 q1) fun u s2 ⟨y, H2, I2, r2, q2⟩ => ?_
 exact hf v u s2 x y H2 I2 r1 r2 q2
theorem pe_op {op : Operator} {r : R2} (ho : OpR X (binaryOp op) r) (ha : PE X a ta) (hb : PE X b tb) : PE X (.BinOp a op b pos) (tOp r ta tb) := by
 intro pins s σ H Q I h
 exact wpAny_BinOp (binT ha hb I h fun v u s2 x y H2 I2 rx ry q => ho pins s2 σ H2 x y v u Q I2 rx ry q)
theorem pe_un {op : UnaryOp} {r : V → Hp → VK → Prop} (ho : UnR X (unaryOp op) r) (ha : PE X a ta) : PE X (.UnaryOp op a pos) (tUn r ta) := by
 intro pins s σ H Q I h
 exact UnaryOp_ (thn (ha pins s σ H _ I h) fun v s1 ⟨x, H1, I1, r1, q1⟩ => ho pins s1 σ H1 x v Q I1 r1 q1)
theorem opI {f : Value → Value → Sem Value} {C : Int → Int → Prop} {g : Int → Int → Int}
   (rule : ∀ (i j : Int) (t u : Tok) (s : Shared) (Q : Value → Shared → Prop) (E : Value → Shared → Prop), C i j → Q (.int (g i j) s.toks) { s with toks := s.toks + 1 } → wpAny (model X.prog X.w) X.A (f (.int i t) (.int j u)) Q E s) :
   OpR X f (rI C fun i j => .int (g i j)) := by
 intro pins s σ H x y v u Q I rx ry h
 obtain ⟨i, j, rfl, rfl, hc, q⟩ := h
 obtain ⟨t, rfl⟩ := rx
 obtain ⟨t', rfl⟩ := ry
 exact rule i j t t' s _ _ hc ⟨.int (g i j), H, I.tok _, ⟨_, rfl⟩, q⟩
theorem opI0 {f : Value → Value → Sem Value} {g : Int → Int → Int}
   (rule : ∀ (i j : Int) (t u : Tok) (s : Shared) (Q : Value → Shared → Prop) (E : Value → Shared → Prop), Q (.int (g i j) s.toks) { s with toks := s.toks + 1 } → wpAny (model X.prog X.w) X.A (f (.int i t) (.int j u)) Q E s) :
   OpR X f (rI0 fun i j => .int (g i j)) := by
 intro pins s σ H x y v u Q I rx ry h
 obtain ⟨i, j, rfl, rfl, q⟩ := h
 obtain ⟨t, rfl⟩ := rx
 obtain ⟨t', rfl⟩ := ry
 exact rule i j t t' s _ _ ⟨.int (g i j), H, I.tok _, ⟨_, rfl⟩, q⟩
theorem opB0 {f : Value → Value → Sem Value} {g : Int → Int → Bool}
   (rule : ∀ (i j : Int) (t u : Tok) (s : Shared) (Q : Value → Shared → Prop) (E : Value → Shared → Prop), Q (.bool (g i j)) s → wpAny (model X.prog X.w) X.A (f (.int i t) (.int j u)) Q E s) :
   OpR X f (rI0 fun i j => .bl (g i j)) := by
 intro pins s σ H x y v u Q I rx ry h
 obtain ⟨i, j, rfl, rfl, q⟩ := h
 obtain ⟨t, rfl⟩ := rx
 obtain ⟨t', rfl⟩ := ry
 exact rule i j t t' s _ _ ⟨.bl (g i j), H, I, rfl, q⟩
noncomputable def CDiv (i j : Int) : Prop := 0 < j ∧ j < 1073741824
noncomputable def CPow (i j : Int) : Prop := 0 ≤ j ∧ j ≤ 1000000 ∧ i.natAbs < 2 ^ 64
noncomputable def CMul (i j : Int) : Prop := (-(2 ^ 64) < i ∧ i < 2 ^ 64) ∨ (-(2 ^ 64) < j ∧ j < 2 ^ 64)
theorem CMul.ok {i j : Int} (h : CMul i j) : IntMulOk i j := by
 rcases h with ⟨h1, h2⟩ | ⟨h1, h2⟩
 · exact .of_left (intBits_le_64 h1 h2)
 · exact .of_right (intBits_le_64 h1 h2)
theorem two_pow_nn (k : Nat) : (0 : Int) ≤ 2 ^ k := by
 rw [two_pow_cast]
 exact Int.natCast_nonneg _
theorem op_add : OpR X (binaryOp .Add) (rI0 fun i j => .int (i + j)) := opI0 fun _ _ _ _ _ _ _ q => add_int q
theorem op_sub : OpR X (binaryOp .Sub) (rI0 fun i j => .int (i - j)) := opI0 fun _ _ _ _ _ _ _ q => sub_int q
theorem op_mul : OpR X (binaryOp .Mult) (rI CMul fun i j => .int (i * j)) := opI fun _ _ _ _ _ _ _ hc q => mul_int q hc.ok
theorem op_fdiv : OpR X (binaryOp .FloorDiv) (rI CDiv fun i j => .int (i / j)) := opI fun i j _ _ _ _ _ hc q => by
 have h1 : (0 : Int) < j := hc.1
 have h2 : j < 1073741824 := hc.2
 exact floordiv_int (by omega) (by rw [Int.fdiv_eq_ediv_of_nonneg i (by omega)]; exact q) (.inl (PyProof.noPylong_small (by omega)))
theorem op_mod : OpR X (binaryOp .Mod) (rI (fun _ j => 0 < j) fun i j => .int (i % j)) := opI fun i j _ _ _ _ _ hc q => by
 have h1 : (0 : Int) < j := hc
 exact mod_int' (by omega) (by rw [Int.fmod_eq_emod_of_nonneg i (by omega)]; exact q)
theorem op_shl : OpR X (binaryOp .LShift) (rI CPow fun i j => .int (i * 2 ^ j.toNat)) := opI fun _ _ _ _ _ _ _ hc q => lshift_int_small hc.1 hc.2.1 hc.2.2 q
theorem op_shr : OpR X (binaryOp .RShift) (rI (fun _ j => 0 ≤ j) fun i j => .int (i / 2 ^ j.toNat)) := opI fun i j _ _ _ _ _ hc q =>
 rshift_int hc (by rw [Int.fdiv_eq_ediv_of_nonneg i (two_pow_nn _)]; exact q)
theorem unI {f : Value → Sem Value} {g : Int → Int}
   (rule : ∀ (i : Int) (t : Tok) (s : Shared) (Q : Value → Shared → Prop) (E : Value → Shared → Prop), Q (.int (g i) s.toks) { s with toks := s.toks + 1 } → wpAny (model X.prog X.w) X.A (f (.int i t)) Q E s) :
   UnR X f (rU fun i => .int (g i)) := by
 intro pins s σ H x v Q I rx h
 obtain ⟨i, rfl, q⟩ := h
 obtain ⟨t, rfl⟩ := rx
 exact rule i t s _ _ ⟨.int (g i), H, I.tok _, ⟨_, rfl⟩, q⟩
theorem un_neg : UnR X (unaryOp .USub) (rU fun i => .int (-i)) := unI fun _ _ _ _ _ q => neg_int q
end
noncomputable def scal : V → V → Bool
 | .non, .non => true | .non, .int _ => true | .int _, .non => true | .non, .bl _ => true | .bl _, .non => true | .non, .str _ => true | .str _, .non => true
 | .int _, .int _ => true | .bl _, .bl _ => true | .str _, .str _ => true | .byt _, .byt _ => true
 | .int _, .str _ => true | .str _, .int _ => true | .bl _, .str _ => true | .str _, .bl _ => true
 | _, _ => false
noncomputable def rEq : R2 := fun x y H Q => scal x y = true ∧ Q (.bl (decide (x = y))) H
noncomputable def rNe : R2 := fun x y H Q => scal x y = true ∧ Q (.bl (!decide (x = y))) H
theorem dec_int {i j : Int} : decide (V.int i = V.int j) = (i == j) := by
 rw [Bool.eq_iff_iff]
 simp
theorem dec_bl {i j : Bool} : decide (V.bl i = V.bl j) = (i == j) := by
 rw [Bool.eq_iff_iff]
 simp
theorem dec_str {i j : Str} : decide (V.str i = V.str j) = (i == j) := by
 rw [Bool.eq_iff_iff]
 simp
theorem dec_byt {i j : Array UInt8} : decide (V.byt i = V.byt j) = (i.toList == j.toList) := by
 rw [Bool.eq_iff_iff]
 cases i
 cases j
 simp
section
variable {X : Cx} {a b c : Expr} {ta tb tc : TE} {pos : Pos}
theorem fin_bl {pins : List (Addr × Obj)} {σ : St} {H : Hp} {s : Shared} {Q : VK} {k k' : Bool} (I : Inv X pins σ H s) (q : Q (.bl k) H) (e : k = k') : EP X pins σ Q (.bool k') s := by
 subst e
 exact ⟨.bl k, H, I, rfl, q⟩
theorem op_eq : OpR X (compareOp .Eq) rEq := by
 intro pins s σ H x y v u Q I rx ry h
 obtain ⟨hs, q⟩ := h
 cases x with
 | non =>
   cases rx
   cases y with
   | non => cases ry; exact PySem.EqNone.eq_none_none (fin_bl I q (by simp))
   | bl j => cases ry; exact PySem.EqNone.eq_none_bool (fin_bl I q (by simp))
   | int j => obtain ⟨t', rfl⟩ := ry; exact PySem.EqNone.eq_none_int (fin_bl I q (by simp))
   | str j => obtain ⟨t', rfl⟩ := ry; exact PySem.EqNone.eq_none_str (fin_bl I q (by simp))
   | _ => exact absurd (show false = true from hs) Bool.false_ne_true
 | bl i =>
   cases rx
   cases y with
   | non => cases ry; exact PySem.EqNone.eq_bool_none (fin_bl I q (by simp))
   | bl j => cases ry; exact eq_bool (fin_bl I q dec_bl)
   | str j => obtain ⟨t', rfl⟩ := ry; exact PySem.EqMixed.eq_bool_str (fin_bl I q (by simp))
   | _ => exact absurd (show false = true from hs) Bool.false_ne_true
 | int i =>
   obtain ⟨t, rfl⟩ := rx
   cases y with
   | non => cases ry; exact PySem.EqNone.eq_int_none (fin_bl I q (by simp))
   | int j => obtain ⟨t', rfl⟩ := ry; exact eq_int (fin_bl I q dec_int)
   | str j => obtain ⟨t', rfl⟩ := ry; exact PySem.EqMixed.eq_int_str (fin_bl I q (by simp))
   | _ => exact absurd (show false = true from hs) Bool.false_ne_true
 | str i =>
   obtain ⟨t, rfl⟩ := rx
   cases y with
   | non => cases ry; exact PySem.EqNone.eq_str_none (fin_bl I q (by simp))
   | bl j => cases ry; exact PySem.EqMixed.eq_str_bool (fin_bl I q (by simp))
   | int j => obtain ⟨t', rfl⟩ := ry; exact PySem.EqMixed.eq_str_int (fin_bl I q (by simp))
   | str j => obtain ⟨t', rfl⟩ := ry; exact eq_str (fin_bl I q dec_str)
   | _ => exact absurd (show false = true from hs) Bool.false_ne_true
 | byt i =>
   obtain ⟨t, rfl⟩ := rx
   cases y with
   | byt j => obtain ⟨t', rfl⟩ := ry; exact PySem.W.eq_bytes (fin_bl I q dec_byt)
   | _ => exact absurd (show false = true from hs) Bool.false_ne_true
 | _ => cases y <;> exact absurd (show false = true from hs) Bool.false_ne_true
theorem op_ne : OpR X (compareOp .NotEq) rNe := by
 intro pins s σ H x y v u Q I rx ry h
 obtain ⟨hs, q⟩ := h
 cases x with
 | non =>
   cases rx
   cases y with
   | non => cases ry; exact PySem.EqNone.ne_none_none (fin_bl I q (by simp))
   | bl j => cases ry; exact PySem.EqNone.ne_none_bool (fin_bl I q (by simp))
   | int j => obtain ⟨t', rfl⟩ := ry; exact PySem.EqNone.ne_none_int (fin_bl I q (by simp))
   | str j => obtain ⟨t', rfl⟩ := ry; exact PySem.EqNone.ne_none_str (fin_bl I q (by simp))
   | _ => exact absurd (show false = true from hs) Bool.false_ne_true
 | bl i =>
   cases rx
   cases y with
   | non => cases ry; exact PySem.EqNone.ne_bool_none (fin_bl I q (by simp))
   | bl j => cases ry; exact ne_bool (fin_bl I q (congrArg not dec_bl))
   | str j => obtain ⟨t', rfl⟩ := ry; exact PySem.EqMixed.ne_bool_str (fin_bl I q (by simp))
   | _ => exact absurd (show false = true from hs) Bool.false_ne_true
 | int i =>
   obtain ⟨t, rfl⟩ := rx
   cases y with
   | non => cases ry; exact PySem.EqNone.ne_int_none (fin_bl I q (by simp))
   | int j => obtain ⟨t', rfl⟩ := ry; exact ne_int (fin_bl I q (congrArg not dec_int))
   | str j => obtain ⟨t', rfl⟩ := ry; exact PySem.EqMixed.ne_int_str (fin_bl I q (by simp))
   | _ => exact absurd (show false = true from hs) Bool.false_ne_true
 | str i =>
   obtain ⟨t, rfl⟩ := rx
   cases y with
   | non => cases ry; exact PySem.EqNone.ne_str_none (fin_bl I q (by simp))
   | bl j => cases ry; exact PySem.EqMixed.ne_str_bool (fin_bl I q (by simp))
   | int j => obtain ⟨t', rfl⟩ := ry; exact PySem.EqMixed.ne_str_int (fin_bl I q (by simp))
   | str j => obtain ⟨t', rfl⟩ := ry; exact ne_str (fin_bl I q (congrArg not dec_str))
   | _ => exact absurd (show false = true from hs) Bool.false_ne_true
 | byt i =>
   obtain ⟨t, rfl⟩ := rx
   cases y with
   | byt j => obtain ⟨t', rfl⟩ := ry; exact PySem.W.ne_bytes (fin_bl I q (congrArg not dec_byt))
   | _ => exact absurd (show false = true from hs) Bool.false_ne_true
 | _ => cases y <;> exact absurd (show false = true from hs) Bool.false_ne_true
theorem op_lt : OpR X (compareOp .Lt) (rI0 fun i j => .bl (decide (i < j))) := opB0 fun _ _ _ _ _ _ _ q => lt_int q
theorem op_le : OpR X (compareOp .LtE) (rI0 fun i j => .bl (decide (i ≤ j))) := opB0 fun _ _ _ _ _ _ _ q => le_int q
theorem op_gt : OpR X (compareOp .Gt) (rI0 fun i j => .bl (decide (j < i))) := opB0 fun _ _ _ _ _ _ _ q => gt_int q
theorem op_ge : OpR X (compareOp .GtE) (rI0 fun i j => .bl (decide (j ≤ i))) := opB0 fun _ _ _ _ _ _ _ q => ge_int q
theorem op_isN : OpR X (compareOp .Is) (fun x y H Q => y = .non ∧ Q (.bl (decide (x = .non))) H) := by
 intro pins s σ H x y v u Q I rx ry h
 obtain ⟨rfl, q⟩ := h
 cases ry
 refine is_none_gen (fin_bl I q ?_)
 cases x <;> first
   | (cases rx; rfl)
   | (obtain ⟨t, rfl⟩ := rx; rfl)
theorem nomark (b : Expr) {op : CmpOp} (h : op ≠ .In := by decide) (h2 : op ≠ .NotIn := by decide) : behindInMarks op b = false := by
 have e1 : (op == CmpOp.In) = false := by cases op <;> first | rfl | exact absurd rfl h
 have e2 : (op == CmpOp.NotIn) = false := by cases op <;> first | rfl | exact absurd rfl h2
 cases b <;> simp [behindInMarks, e1, e2]
theorem pe_cmpR {op : CmpOp} {r : R2} (ho : OpR X (compareOp op) r) (ha : PE X a ta) (hb : PE X b tb) (hm : behindInMarks op b = false) : PE X (.Compare a [op] [b] pos) (tOp r ta tb) := by
 intro pins s σ H Q I h
 exact wpAny_Compare1 (binT ha hb I h fun v u s2 x y H2 I2 rx ry q => ho pins s2 σ H2 x y v u Q I2 rx ry q) hm
noncomputable def tTest (t : TE) : TT := fun σ H Q => t σ H fun x H' => ∃ k, x = .bl k ∧ Q k H'
theorem pt_cmpR {op : CmpOp} {r : R2} (ho : OpR X (compareOp op) r) (ha : PE X a ta) (hb : PE X b tb) (hm : behindInMarks op b = false) : PT X (.Compare a [op] [b] pos) (tTest (tOp r ta tb)) := by
 intro pins s σ H Q I h
 refine wpAny_isTrue_Compare1 (thn (ha pins s σ H _ I h) fun v s1 ⟨x, H1, I1, r1, q1⟩ => thn (hb pins s1 σ H1 _ I1 q1) fun u s2 ⟨y, H2, I2, r2, q2⟩ =>
   thn (ho pins s2 σ H2 x y v u _ I2 r1 r2 q2) fun c s3 ⟨z, H3, I3, r3, k, e, q3⟩ => ?_) hm
 subst e
 cases r3
 exact wpAny_truthy_bool ⟨H3, I3, q3⟩
noncomputable def tChain (r r' : R2) (ta tb tc : TE) : TE := fun σ H Q => ta σ H fun x H1 => tb σ H1 fun y H2 => r x y H2 fun z H3 => ∃ k, z = .bl k ∧
 (if k = true then tc σ H3 fun w' H4 => r' y w' H4 Q else Q (.bl false) H3)
theorem pe_chain {op op' : CmpOp} {r r' : R2} (ho : OpR X (compareOp op) r) (ho' : OpR X (compareOp op') r') (ha : PE X a ta) (hb : PE X b tb) (hc : PE X c tc)
   (hm : lastMarks [op, op'] [b, c] = false := by with_unfolding_all rfl) : PE X (.Compare a [op, op'] [b, c] pos) (tChain r r' ta tb tc) := by
 intro pins s σ H Q I h
 refine Compare_chain (thn (ha pins s σ H _ I h) fun v s1 ⟨x, H1, I1, r1, q1⟩ => chain_link (thn (hb pins s1 σ H1 _ I1 q1) fun u s2 ⟨y, H2, I2, r2, q2⟩ =>
   thn (ho pins s2 σ H2 x y v u _ I2 r1 r2 q2) fun d s3 ⟨z, H3, I3, r3, k, e, q3⟩ => ?_)) hm
 subst e
 cases r3
 refine wpAny_truthy_bool ?_
 cases k with
 | false => exact ite_ff ⟨.bl false, H3, I3, rfl, q3⟩
 | true => exact ite_tt (chain_last (thn (hc pins s3 σ H3 _ I3 q3) fun w' s4 ⟨z', H4, I4, r4, q4⟩ => ho' pins s4 σ H4 y z' u w' Q I4 r2 r4 q4))
theorem pt_chain {op op' : CmpOp} {r r' : R2} (ho : OpR X (compareOp op) r) (ho' : OpR X (compareOp op') r') (ha : PE X a ta) (hb : PE X b tb) (hc : PE X c tc)
   (hm : lastMarks [op, op'] [b, c] = false := by with_unfolding_all rfl) : PT X (.Compare a [op, op'] [b, c] pos) (tTest (tChain r r' ta tb tc)) := by
 intro pins s σ H Q I h
 refine isTrue_chain (thn (ha pins s σ H _ I h) fun v s1 ⟨x, H1, I1, r1, q1⟩ => test_link (thn (hb pins s1 σ H1 _ I1 q1) fun u s2 ⟨y, H2, I2, r2, q2⟩ =>
   thn (ho pins s2 σ H2 x y v u _ I2 r1 r2 q2) fun d s3 ⟨z, H3, I3, r3, k, e, q3⟩ => ?_)) hm
 subst e
 cases r3
 refine wpAny_truthy_bool ?_
 cases k with
 | false =>
   obtain ⟨k', e', q'⟩ := q3
   cases e'
   exact ite_ff ⟨H3, I3, q'⟩
 | true =>
   refine ite_tt (test_last (thn (hc pins s3 σ H3 _ I3 q3) fun w' s4 ⟨z', H4, I4, r4, q4⟩ => thn (ho' pins s4 σ H4 y z' u w' _ I4 r2 r4 q4) fun d' s5 ⟨z2, H5, I5, r5, k2, e2, q5⟩ => ?_))
   subst e2
   cases r5
   exact wpAny_truthy_bool ⟨H5, I5, q5⟩
theorem line63 : (sizeLine : Nat) < 2 ^ 63 := by rw [sizeLine_eq]; decide
theorem vals1 {x : V} {us : List Value} (r : Vals [x] us) : ∃ u, us = [u] ∧ RelV x u := by
 cases r with
 | cons r1 r2 => cases r2; exact ⟨_, rfl, r1⟩
end
end L2
namespace L2
open PySem PySem.Spec PyProof.Rows
structure ObjM (h : Heap) (x dx C : Addr) (mA : Str → Option Value) : Prop where
 obj : h.get? x = some (PySem.W.instObj C dx)
 ns : h.Ns1 dx mA
 ne : dx ≠ x
theorem lookIn_ns {h : Heap} {dx : Addr} {mA : Str → Option Value} (n : h.Ns1 dx mA) : ∃ od, h.get? dx = some od ∧ ∀ name, PySem.W.lookIn name od = some (mA name) := by
 obtain ⟨o, es, ep, ho, hd, hk, _, hm⟩ := n
 refine ⟨o, ho, fun name => ?_⟩
 have e := hm name
 unfold nsFind findBy at e
 rw [← Array.find?_toList] at e
 unfold PySem.W.lookIn
 rw [hd]
 dsimp only
 split
 · rename_i y q
   rw [q] at e
   exact congrArg some e
 · rename_i q
   rw [q] at e
   have a : es.toList.any (·.refKey) = false := by
     rw [List.any_eq_false]
     intro y hy
     obtain ⟨z, t, hkey⟩ := hk y (Array.mem_toList_iff.mp hy)
     simp [DictEntry.refKey, hkey]
   have a' : ¬ es.toList.any (·.refKey) = true := by rw [a]; exact Bool.false_ne_true
   rw [if_neg a']
   exact congrArg some e
theorem ObjM.look {h : Heap} {x dx C : Addr} {mA : Str → Option Value} (I : ObjM h x dx C mA) : ∃ od, PySem.W.InstAt h x (PySem.W.instObj C dx) C (some od) ∧ ∀ name, PySem.W.lookIn name od = some (mA name) :=
 let ⟨od, ho, hl⟩ := lookIn_ns I.ns
 ⟨od, ⟨I.obj, rfl, rfl, ho⟩, hl⟩
section
variable {prog : Program} {w : World} {A : Around} {E : Value → Shared → Prop} {s : Shared} {K : PySem.W.Frag} {x dx C f : Addr} {mA : Str → Option Value} {name : Str} {v : Value}
theorem get_map {expr : Bool} {Q : Value → Shared → Prop} (X : K.In s.heap) (I : ObjM s.heap x dx C mA) (hg : PySem.W.plainGet K C name = true) (hh : PySem.W.hasDictIn K C = true)
   (ha : PySem.W.findIn K (.ref C) name = some none) (hv : mA name = some v) (hv' : PySem.W.handedIn v = true) (h : Q v { s with toks := s.toks + 1 }) :
   wpAny (model prog w) A (getAttr (.ref x) name expr) Q E s := by
 obtain ⟨od, J, hl⟩ := I.look
 exact PySem.W.get_value X J (PySem.W.plainGet_of hg).1 (PySem.W.findObj_own hh ha rfl (by rw [hl, hv])) hv' h
theorem get_meth {pl : Sem Bool} {Q : Value × List Value → Shared → Prop} (X : K.In s.heap) (I : ObjM s.heap x dx C mA) (hg : PySem.W.plainGet K C name = true)
   (hf : PySem.W.findIn K (.ref C) name = some (some (.ref f))) (ht : PySem.W.isFn K (.ref f) = true) (hv : mA name = none) (h : Q (.ref f, [.ref x]) s) :
   wpAny (model prog w) A (getMethod (.ref x) name pl) Q E s := by
 obtain ⟨od, J, hl⟩ := I.look
 exact PySem.W.method_fn X J (PySem.W.plainGet_of hg).1 (PySem.W.plainGet_of hg).2 hf (beq_iff_eq.mp ht) (by show (PySem.W.lookIn name od).map (·.isSome) = some false; rw [hl, hv]; rfl) h
theorem set_map {ns : List Str} {Q : Unit → Shared → Prop} (X : K.In s.heap) (I : ObjM s.heap x dx C mA)
   (hs : PySem.W.findIn K (.ref C) "__setattr__" = some (some (.builtin "object.__setattr__"))) (hp : PySem.W.plainOver K C = true) (ht : PySem.W.takerIn K C name = some none) (hh : PySem.W.hasDictIn K C = true)
   (hw : PySem.Within mA ns) (hsz : ns.length ≤ sizeLine)
   (h : ∀ h', ObjM h' x dx C (fun y => if y = name then some v else mA y) → Heap.SameBut dx s.heap h' → Q () { s with heap := h', toks := s.toks + 2 }) :
   wpAny (model prog w) A (setAttr (.ref x) name v) Q E s := by
 obtain ⟨od, J, hl⟩ := I.look
 refine PySem.W.set_plain X J hs (PySem.W.osa_open (s := { s with toks := s.toks + 1 }) (r := none) X J hp ht fun b => ?_)
 obtain ⟨cd, hc, hd'⟩ := PySem.W.any_some hh
 have hx : s.heap.get? x = some ⟨.ref C, some dx, .plain, #[]⟩ := I.obj
 refine wpAny_bind (wpAny_pure (wpAny_bind (wpAny_bind (wpAny_loadPart hx (wpAny_bind (PySem.W.Looks.here (s := { s with toks := s.toks + 1 }) (PySem.W.looks_clsIn X hc) ?_))))))
 rw [hd']
 refine wpAny_pure (a := some dx) (wpAny_bind (wpAny_pure (wpAny_bind ?_)))
 refine wpAny_nsSet1 (s := { s with toks := s.toks + 1 }) I.ns fun h' hn2 hs2 => ?_
 obtain ⟨oD, esD, epD, hoD, hdD, hcD⟩ := hn2.count (PySem.Within.cons name v hw)
 refine wpAny_bind (wpAny_lookBehind hoD (by rw [hdD]; exact pastItsLine_dict (Nat.le_trans hcD (by rw [List.length_cons]; omega))) ?_)
 exact wpAny_pure (h _ ⟨(hs2.2 _ (Ne.symm I.ne)).trans I.obj, hn2, I.ne⟩ hs2)
theorem make_map {R : Result → Shared → Prop} {vs : List Value} {kw : List (Str × Value)} (X : K.In s.heap) (hm : PySem.W.makesIn K C = true)
   (hi : PySem.W.findIn K (.ref C) "__init__" = some (some (.ref f))) (hf : PySem.W.typeIn K (.ref f) = some (.type "function"))
   (h : codeAny (model prog w) (A.under (.builtin "type.__call__" ⟨.ref C :: vs, kw⟩)) (.call (.ref f) ⟨.ref (s.heap.objs.size + 1) :: vs, kw⟩) (PySem.W.InitBack (s.heap.objs.size + 1) R)
     { s with heap := (s.heap.push PySem.W.emptyDict).push (PySem.W.instObj C s.heap.objs.size) }) :
   codeAny (model prog w) A (.call (.ref C) ⟨vs, kw⟩) R s := by
 obtain ⟨hh, g, d, t, os⟩ := s
 exact PySem.W.make_core (PySem.W.makes_of X hm) (PySem.W.looks_findIn X hi) (fun self => PySem.W.bind_fn X self hf) (.inl rfl) h
end
noncomputable def putF (f : Str) (v : V) : List (Str × V) → List (Str × V)
 | [] => [(f, v)]
 | (g, x) :: r => if g = f then (g, v) :: r else (g, x) :: putF f v r
theorem lookup_putF (f g : Str) (v : V) : ∀ fs : List (Str × V), (putF f v fs).lookup g = if g = f then some v else fs.lookup g
 | [] => by
   show List.lookup g [(f, v)] = _
   by_cases h : g = f
   · have hb : (g == f) = true := beq_iff_eq.mpr h
     simp only [List.lookup, hb, if_pos h]
   · have hb : (g == f) = false := beq_eq_false_iff_ne.mpr h
     simp only [List.lookup, hb, if_neg h]
 | (k, x) :: r => by
   have ih := lookup_putF f g v r
   rw [show putF f v ((k, x) :: r) = (if k = f then (k, v) :: r else (k, x) :: putF f v r) from rfl]
   by_cases hk : k = f
   · rw [if_pos hk]
     by_cases h : g = k
     · have hb : (g == k) = true := beq_iff_eq.mpr h
       simp only [List.lookup, hb, if_pos (h.trans hk)]
     · have hb : (g == k) = false := beq_eq_false_iff_ne.mpr h
       simp only [List.lookup, hb, if_neg (fun e : g = f => h (e.trans hk.symm))]
   · rw [if_neg hk]
     by_cases h : g = k
     · have hb : (g == k) = true := beq_iff_eq.mpr h
       simp only [List.lookup, hb, if_neg (fun e : g = f => hk (h.symm.trans e))]
     · have hb : (g == k) = false := beq_eq_false_iff_ne.mpr h
       simp only [List.lookup, hb]
       exact ih
theorem keys_putF (f : Str) (v : V) : ∀ fs : List (Str × V), f ∈ (putF f v fs).map (·.1) ∧ ∀ g, g ∈ fs.map (·.1) → g ∈ (putF f v fs).map (·.1)
 | [] => ⟨by simp [putF], fun g h => by simp at h⟩
 | (k, x) :: r => by
   obtain ⟨i1, i2⟩ := keys_putF f v r
   rw [show putF f v ((k, x) :: r) = (if k = f then (k, v) :: r else (k, x) :: putF f v r) from rfl]
   by_cases hk : k = f
   · rw [if_pos hk]
     subst hk
     exact ⟨by simp, fun g h => by simpa using h⟩
   · rw [if_neg hk]
     refine ⟨?_, fun g h => ?_⟩
     · rw [List.map_cons]
       exact List.mem_cons_of_mem _ i1
     · rw [List.map_cons] at h ⊢
       rcases List.mem_cons.mp h with e | e
       · exact List.mem_cons.mpr (.inl e)
       · exact List.mem_cons_of_mem _ (i2 g e)
theorem length_putF (f : Str) (v : V) : ∀ fs : List (Str × V), (putF f v fs).length ≤ fs.length + 1
 | [] => by simp [putF]
 | (k, x) :: r => by
   have ih := length_putF f v r
   rw [show putF f v ((k, x) :: r) = (if k = f then (k, v) :: r else (k, x) :: putF f v r) from rfl]
   by_cases hk : k = f
   · rw [if_pos hk, List.length_cons, List.length_cons]; omega
   · rw [if_neg hk, List.length_cons, List.length_cons]; omega
theorem RelO.some_of {v : V} {o : Option Value} (r : RelO (some v) o) : ∃ u, o = some u ∧ RelV v u := by
 cases o with
 | none => exact (show False from r).elim
 | some u => exact ⟨u, rfl, r⟩
theorem RelO.none_of {o : Option Value} (r : RelO none o) : o = none := by
 cases o with
 | none => rfl
 | some u => exact (show False from r).elim
theorem handed_of {v : V} {u : Value} (r : RelV v u) : PySem.W.handedIn u = true := by
 cases v with
 | non => cases (show u = Value.none from r); rfl
 | bl b => cases (show u = Value.bool b from r); rfl
 | int i => obtain ⟨t, e⟩ := (show ∃ t, u = Value.int i t from r); cases e; rfl
 | str x => obtain ⟨t, e⟩ := (show ∃ t, u = Value.str x t from r); cases e; rfl
 | byt b => obtain ⟨t, e⟩ := (show ∃ t, u = Value.bytes b t from r); cases e; rfl
 | flt b => obtain ⟨t, e⟩ := (show ∃ t, u = Value.float b t from r); cases e; rfl
 | ref a => cases (show u = Value.ref a from r); rfl
 | ty n => cases (show u = Value.type n from r); rfl
section
variable {P : Program} {w : World} {H H' : Hp} {h h' : Heap} {a C dx : Addr} {fs fs' : List (Str × V)}
theorem ins_get (hok : HOk P w H h) (e : H a = some (.ins C dx fs)) : ∃ mA, ObjM h a dx C mA ∧ (∀ f, RelO (fs.lookup f) (mA f)) ∧ PySem.Within mA (fs.map (·.1)) ∧ fs.length ≤ 1000 ∧ H dx = some (.own a) := by
 obtain ⟨d, z, ne, ob, mA, n, r, q⟩ := (show ObjOk P w H h a (.ins C dx fs) from hok a _ e)
 exact ⟨mA, ⟨ob, n, ne⟩, r, q, z, d⟩
end
structure Cls (K : PySem.W.Frag) (C : Addr) : Prop where
 pg : PySem.W.plainGet K C Str.empty = true
 hd : PySem.W.hasDictIn K C = true
 po : PySem.W.plainOver K C = true
 sa : PySem.W.findIn K (.ref C) "__setattr__" = some (some (.builtin "object.__setattr__"))
theorem Cls.get {K : PySem.W.Frag} {C : Addr} (c : Cls K C) (f : Str) : PySem.W.plainGet K C f = true := c.pg
noncomputable def NoAttr (K : PySem.W.Frag) (C : Addr) (f : Str) : Prop := PySem.W.findIn K (.ref C) f = some none
theorem NoAttr.taker {K : PySem.W.Frag} {C : Addr} {f : Str} (n : NoAttr K C f) : PySem.W.takerIn K C f = some none := by
 unfold PySem.W.takerIn
 rw [show PySem.W.findIn K (.ref C) f = some none from n]
 rfl
structure Meth (K : PySem.W.Frag) (C : Addr) (m : Str) (f : Addr) : Prop where
 at_ : PySem.W.findIn K (.ref C) m = some (some (.ref f))
 fn : PySem.W.isFn K (.ref f) = true
 kp : PySem.W.keepIn K (.ref f) = true
section
variable {X : Cx} {pins : List (Addr × Obj)} {σ : St} {H : Hp} {s : Shared} {a C dx : Addr} {fs : List (Str × V)} {f : Str} {v : V} {A : Around} {E : Value → Shared → Prop}
theorem getattr_ok {b : Bool} {Q : Value → Shared → Prop} (I : Inv X pins σ H s) (e : H a = some (.ins C dx fs)) (c : Cls X.K C) (n : NoAttr X.K C f) (l : fs.lookup f = some v)
   (h : ∀ u s', Inv X pins σ H s' → RelV v u → Q u s') : wpAny (model X.prog X.w) A (getAttr (.ref a) f b) Q E s := by
 obtain ⟨mA, O, r, _, _, _⟩ := ins_get I.hok e
 obtain ⟨u, hu, ru⟩ := RelO.some_of (v := v) (o := mA f) (by rw [← l]; exact r f)
 exact get_map I.kIn O (c.get f) c.hd n hu (handed_of ru) (h u _ (I.tok _) ru)
theorem getmeth_ok {m : Str} {g : Addr} {pl : Sem Bool} {Q : Value × List Value → Shared → Prop} (I : Inv X pins σ H s) (e : H a = some (.ins C dx fs)) (c : Cls X.K C) (k : Meth X.K C m g) (l : fs.lookup m = none)
   (h : Q (.ref g, [.ref a]) s) : wpAny (model X.prog X.w) A (getMethod (.ref a) m pl) Q E s := by
 obtain ⟨mA, O, r, _, _, _⟩ := ins_get I.hok e
 have hn : mA m = none := RelO.none_of (by rw [← l]; exact r m)
 exact get_meth I.kIn O (c.get m) k.at_ k.fn hn h
theorem setattr_ok {y : V} {u : Value} {Q : Unit → Shared → Prop} (I : Inv X pins σ H s) (e : H a = some (.ins C dx fs)) (c : Cls X.K C) (n : NoAttr X.K C f) (hl : fs.length < 1000) (ry : RelV y u)
   (h : ∀ s', Inv X pins σ (upd H a (.ins C dx (putF f y fs))) s' → Q () s') : wpAny (model X.prog X.w) A (setAttr (.ref a) f u) Q E s := by
 obtain ⟨mA, O, r, wi, _, ho⟩ := ins_get I.hok e
 have hz : (fs.map (·.1)).length ≤ sizeLine := by rw [List.length_map, sizeLine_eq]; omega
 refine set_map I.kIn O c.sa c.po n.taker c.hd wi hz fun h' O' sb => h _ ?_
 have hd : ∃ o, h'.get? dx = some o := let ⟨o, _, _, e', _⟩ := O'.ns; ⟨o, e'⟩
 refine I.write (x := a) (e := dx) (by rw [e]; exact True.intro) (.inr ho) (fun b q hb z => (sb.2 b hb).trans z) hd ?_
 refine ⟨by rw [upd_ne O.ne]; exact ho, ?_, O.ne, O'.obj, _, O'.ns, fun g => ?_, fun g hg => ?_⟩
 · have := length_putF f y fs; omega
 · show RelO ((putF f y fs).lookup g) (if g = f then some u else mA g)
   rw [lookup_putF]
   by_cases q : g = f
   · rw [if_pos q, if_pos q]; exact ry
   · rw [if_neg q, if_neg q]; exact r g
 · by_cases q : g = f
   · rw [q]; exact (keys_putF f y fs).1
   · refine (keys_putF f y fs).2 g (wi g fun z => hg ?_)
     show (if g = f then some u else mA g) = none
     rw [if_neg q]; exact z
theorem Inv.made (I : Inv X pins σ H s) : Inv X pins σ (upd (upd H s.heap.objs.size (.own (s.heap.objs.size + 1))) (s.heap.objs.size + 1) (.ins C s.heap.objs.size []))
   { s with heap := (s.heap.push PySem.W.emptyDict).push (PySem.W.instObj C s.heap.objs.size) } := by
 have e1 : (s.heap.push PySem.W.emptyDict).get? s.heap.objs.size = some PySem.W.emptyDict := Heap.get?_push_size s.heap rfl
 have e2 : ((s.heap.push PySem.W.emptyDict).push (PySem.W.instObj C s.heap.objs.size)).get? (s.heap.objs.size + 1) = some (PySem.W.instObj C s.heap.objs.size) := by
   have := Heap.get?_push_size (s.heap.push PySem.W.emptyDict) (o := PySem.W.instObj C s.heap.objs.size) rfl
   rwa [Heap.size_push] at this
 have e3 : (s.heap.push PySem.W.emptyDict).Ns s.heap.objs.size (fun _ => none) := ⟨PySem.W.emptyDict, #[], _, e1, rfl, (fun e he => absurd he (by simp)), fun _ => rfl⟩
 have I1 := I.laid (a := s.heap.objs.size) (o := .own (s.heap.objs.size + 1)) (h' := s.heap.push PySem.W.emptyDict) (t' := s.toks) (fun b u q => Heap.get?_push_of_some _ q) (Nat.le_refl _) ⟨_, e1⟩
 refine I1.laid (a := s.heap.objs.size + 1) (o := .ins C s.heap.objs.size []) (t' := s.toks) (fun b u q => Heap.get?_push_of_some _ q) (Nat.le_of_eq (Heap.size_push _ _)) ?_
 have ne : s.heap.objs.size ≠ s.heap.objs.size + 1 := Nat.ne_of_lt (Nat.lt_succ_self _)
 refine ⟨by rw [upd_ne ne, upd_same], Nat.zero_le _, ne, e2, fun _ => none, (Heap.Ns1.of_empty e3).at fun o q => Heap.get?_push_of_some _ q, fun _ => True.intro, fun y hy => absurd rfl hy⟩
theorem attr_of {prog : Program} {w : World} {env : Env} {e : Expr} {f : Str} {pos : Pos} {s : Shared} {Q : Value → Shared → Prop} (hb : attributeBase e f env (eval e env) = eval e env)
   (h : wpAny (model prog w) A (eval e env) (fun o s₁ => wpAny (model prog w) A (getAttr o f true) Q E s₁) E s) : wpAny (model prog w) A (eval (.Attribute e f pos) env) Q E s :=
 Attribute_any_ h (by rw [arm_eval_Attribute, hb])
end
noncomputable def tFld (K : PySem.W.Frag) (ta : TE) (f : Str) : TE := fun σ H Q => ta σ H fun x H1 => ∃ a C dx fs v, x = .ref a ∧ H1 a = some (.ins C dx fs) ∧ Cls K C ∧ NoAttr K C f ∧ fs.lookup f = some v ∧ Q v H1
noncomputable def sFld (K : PySem.W.Frag) (ta tv : TE) (f : Str) : TS := fun D σ H => tv σ H fun y H1 => ta σ H1 fun x H2 => ∃ a C dx fs, x = .ref a ∧ H2 a = some (.ins C dx fs) ∧ Cls K C ∧ NoAttr K C f ∧ fs.length < 1000 ∧
 D.nx σ (upd H2 a (.ins C dx (putF f y fs)))
noncomputable def InOp (X : Cx) (op : Operator) (rd : V → V → Hp → VK → Prop) : Prop :=
 ∀ (pins : List (Addr × Obj)) (s : Shared) (σ : St) (H : Hp) (x y : V) (u v : Value) (Q : VK), Inv X pins σ H s → RelV x u → RelV y v → rd x y H Q → wpAny (model X.prog X.w) X.A (inplaceOp op u v) (EP X pins σ Q) X.xe s
noncomputable def sFldAug (K : PySem.W.Frag) (ta tv : TE) (rd : V → V → Hp → VK → Prop) (f : Str) : TS := fun D σ H => ta σ H fun x H1 => ∃ a C dx fs v, x = .ref a ∧ H1 a = some (.ins C dx fs) ∧ Cls K C ∧ NoAttr K C f ∧ fs.lookup f = some v ∧
 tv σ H1 fun y H2 => rd v y H2 fun z H3 => ∃ dx' fs', H3 a = some (.ins C dx' fs') ∧ fs'.length < 1000 ∧ D.nx σ (upd H3 a (.ins C dx' (putF f z fs')))
section
variable {X : Cx} {o e value : Expr} {f : Str} {pos pos' tpos : Pos} {ta tv : TE}
theorem pe_fld (he : PE X e ta) (hb : attributeBase e f X.env (eval e X.env) = eval e X.env) : PE X (.Attribute e f pos) (tFld X.K ta f) := by
 intro pins s σ H Q I h
 refine attr_of hb (thn (he pins s σ H _ I h) fun u s1 ⟨x, H1, I1, rx, a, C, dx, fs, v, ex, ea, c, n, l, q⟩ => ?_)
 subst ex
 obtain rfl : u = Value.ref a := rx
 exact getattr_ok I1 ea c n l fun u' s2 I2 ru => ⟨v, H1, I2, ru, q⟩
theorem ps_fld (ha : PE X o ta) (hv : PE X value tv) (hs : swapsWith value (some (.Attribute o f pos')) pos.line X.env = pure false) : PS X (.Assign [.Attribute o f pos'] value pos) (sFld X.K ta tv f) := by
 intro pins s σ H D I h
 refine plainObj_wpAny_Assign_Attribute (thn (hv pins s σ H _ I h) fun u s1 ⟨y, H1, I1, ry, q⟩ => thn (ha pins s1 σ H1 _ I1 q) fun ov s2 ⟨x, H2, I2, rx, a, C, dx, fs, ex, ea, c, n, l, q2⟩ => ?_) hs
 subst ex
 obtain rfl : ov = Value.ref a := rx
 exact setattr_ok I2 ea c n l ry fun s3 I3 => ⟨σ, _, I3, q2⟩
theorem ps_fldaug {op : Operator} {rd : V → V → Hp → VK → Prop} (ha : PE X o ta) (hv : PE X value tv) (hop : InOp X op rd) : PS X (.AugAssign (.Attribute o f tpos) op value pos) (sFldAug X.K ta tv rd f) := by
 intro pins s σ H D I h
 refine wpAny_AugAssign_AttributeAny (thn (ha pins s σ H _ I h) fun ov s1 ⟨x, H1, I1, rx, a, C, dx, fs, v, ex, ea, c, n, l, q⟩ => ?_)
 subst ex
 obtain rfl : ov = Value.ref a := rx
 refine getattr_ok I1 ea c n l fun u s2 I2 ru => thn (hv pins s2 σ H1 _ I2 q) fun w3 s3 ⟨y, H2, I3, ry, q3⟩ => thn (hop pins s3 σ H2 v y u w3 _ I3 ru ry q3) fun w4 s4 ⟨z, H3, I4, rz, dx', fs', ea', l', q4⟩ => ?_
 exact setattr_ok I4 ea' c n l' rz fun s5 I5 => ⟨σ, _, I5, q4⟩
noncomputable def rAdd : V → V → Hp → VK → Prop := fun x y H Q => ∃ i j, x = .int i ∧ y = .int j ∧ Q (.int (i + j)) H
theorem in_add : InOp X .Add rAdd := by
 rintro pins s σ H x y u v Q I rx ry ⟨i, j, rfl, rfl, q⟩
 obtain ⟨t, rfl⟩ := (show ∃ t, u = Value.int i t from rx)
 obtain ⟨t', rfl⟩ := (show ∃ t', v = Value.int j t' from ry)
 exact PyProof.Rows.iadd_int ⟨.int (i + j), H, I.tok _, ⟨_, rfl⟩, q⟩
end
section
variable {X : Cx} {pins : List (Addr × Obj)} {σ : St} {H : Hp} {s : Shared} {A : Around} {E : Value → Shared → Prop} {Q : Value → Shared → Prop} {c : Value} {b : Bool}
end
end L2
namespace L2
open PySem PySem.Spec PyProof.Rows
structure Room (k : Nat) (A : Around) : Prop where
 hd : A.handled = none
 dp : A.depth + 3 * k + 5 < recursionLimit
 un : A.units + 16 * k + 200 < cLine
theorem Room.mono {j k : Nat} {A : Around} (r : Room k A) (h : j ≤ k) : Room j A := ⟨r.hd, by have := r.dp; omega, by have := r.un; omega⟩
theorem Room.deeper {k : Nat} {A : Around} (r : Room (k + 1) A) (env : Env) : Room k (A.deeper env) :=
 ⟨r.hd, by have := r.dp; show A.depth + 1 + 3 * k + 5 < _; omega, by have := r.un; show A.units + 3 + 16 * k + 200 < _; omega⟩
theorem make_depth {A : Around} {C : Addr} {us : List Value} {kw : List (Str × Value)} : (A.under (.builtin "type.__call__" ⟨.ref C :: us, kw⟩)).depth = A.depth + 1 := by
 first | rfl | simp [Around.under, Code.weight, Code.isCreation, Code.isGuard, Code.isCaller, Code.frames, Code.isFrame, guardIds]
theorem make_units {A : Around} {C : Addr} {us : List Value} {kw : List (Str × Value)} : (A.under (.builtin "type.__call__" ⟨.ref C :: us, kw⟩)).units = A.units + 1 := by
 first | rfl | simp [Around.under, Code.cUnits, Code.frames, Code.isFrame]
theorem Room.make {k : Nat} {A : Around} (r : Room (k + 1) A) (C : Addr) (us : List Value) (kw : List (Str × Value)) : Room k (A.under (.builtin "type.__call__" ⟨.ref C :: us, kw⟩)) :=
 ⟨r.hd, by have := r.dp; rw [make_depth]; omega, by have := r.un; rw [make_units]; omega⟩
theorem Room.depth {k : Nat} {A : Around} (r : Room k A) : A.depth < recursionLimit := by have := r.dp; omega
theorem Room.units {k : Nat} {A : Around} (r : Room k A) : A.units + 64 < cLine := by have := r.un; omega
noncomputable def tNil : TA := fun _ H Q => Q [] H
noncomputable def tCons (ta : TE) (tr : TA) : TA := fun σ H Q => ta σ H fun x H1 => tr σ H1 fun xs H2 => Q (x :: xs) H2
section
variable {X : Cx} {e : Expr} {es : List Expr} {te : TE} {t : TA} {pos : Pos}
theorem pa_nil : PA X [] tNil := fun _ _ _ _ H Q I h => Calls.spliced_nil ⟨[], H, I, .nil, h⟩
theorem pa_cons (ha : PE X e te) (hr : PA X es t) (hs : starEach (e :: es) X.env = (false, eval e X.env) :: starEach es X.env := by rfl) : PA X (e :: es) (tCons te t) := by
 intro pos pins s σ H Q I h
 rw [hs]
 show wpAny _ _ (spliced ((false, eval e X.env) :: backTo pos (starEach es X.env))) _ _ s
 refine Calls.spliced_cons (thn (ha pins s σ H _ I h) fun u s1 ⟨x, H1, I1, r1, q1⟩ => ?_)
 exact thn (hr pos pins s1 σ H1 _ I1 q1) fun us s2 ⟨xs, H2, I2, r2, q2⟩ => ⟨x :: xs, H2, I2, .cons r1 r2, q2⟩
noncomputable def tTup (t : TA) : TE := fun σ H Q => t σ H fun xs H1 => xs.length ≤ sizeLine ∧ ∀ p, H1 p = none → Q (.ref p) (upd H1 p (.tup xs))
noncomputable def tLst (t : TA) : TE := fun σ H Q => t σ H fun xs H1 => xs.length ≤ sizeLine ∧ ∀ p, H1 p = none → Q (.ref p) (upd H1 p (.lst xs))
theorem pe_tup {x1} (h : PA X es t) : PE X (.Tuple es x1 pos) (tTup t) := by
 intro pins s σ H Q I hq
 refine wpAny_Tuple_spliced (thn (h pos pins s σ H _ I hq) fun us s1 ⟨xs, H1, I1, r, z, q⟩ => ⟨by rw [← r.length]; exact z, ?_⟩)
 have hf : H1 s1.heap.objs.size = none := I1.hok.fresh (Nat.le_refl _)
 refine ⟨.ref s1.heap.objs.size, upd H1 s1.heap.objs.size (.tup xs), I1.laid (t' := s1.toks) (fun b u e => Heap.get?_push_of_some _ e) (Nat.le_refl _) ?_, rfl, q _ hf⟩
 exact ⟨z, us, r, ⟨_, Heap.get?_push_size _ rfl, rfl, _, rfl⟩⟩
theorem pe_lst (h : PA X es t) : PE X (.List es pos) (tLst t) := by
 intro pins s σ H Q I hq
 refine wpAny_List_spliced (thn (h pos pins s σ H _ I hq) fun us s1 ⟨xs, H1, I1, r, z, q⟩ => ⟨by rw [← r.length]; exact z, ?_⟩)
 have hf : H1 s1.heap.objs.size = none := I1.hok.fresh (Nat.le_refl _)
 refine ⟨.ref s1.heap.objs.size, upd H1 s1.heap.objs.size (.lst xs), I1.laid (t' := s1.toks) (fun b u e => Heap.get?_push_of_some _ e) (Nat.le_refl _) ?_, rfl, q _ hf⟩
 exact ⟨z, us, 0, r, Heap.get?_push_size _ rfl⟩
end
noncomputable abbrev Sp := List V → Hp → VK → XK → Prop
noncomputable abbrev CXT := List Env → Hp → Shared → XK → Value → Shared → Prop
structure Env0 (P : Program) (w : World) (K : PySem.W.Frag) (mg : Str → Option Value) (base : Heap) (A : Around) (outer : List Env) (s : Shared) (H : Hp) : Prop where
 frames : A.frames = some outer
 mod : Mod K mg base
 bs : ∀ b o, base.get? b = some o → s.heap.get? b = some o ∧ H b = none
 bsz : base.objs.size ≤ s.heap.objs.size
 funs : s.heap.FunFrames base outer
 frf : ∀ b ∈ frs outer, H b = none
 hok : HOk P w H s.heap
 bare : AllBare s.gens
noncomputable def CE (outer : List Env) (P : Program) (w : World) (H : Hp) (s : Shared) (Q : VK) (u : Value) (s' : Shared) : Prop :=
 ∃ v H', s'.os = s.os ∧ AllBare s'.gens ∧ Un (frs outer) [] H H' s.heap s'.heap ∧ HOk P w H' s'.heap ∧ RelV v u ∧ Q v H'
noncomputable def CR (CX : CXT) (outer : List Env) (P : Program) (w : World) (H : Hp) (s : Shared) (Q : VK) (E : XK) (r : Result) (s' : Shared) : Prop :=
 match r with
 | .ok (.ret u) => CE outer P w H s Q u s'
 | .ok _ => False
 | .error e => CX outer H s E e s'
structure FnOk (P : Program) (w : World) (K : PySem.W.Frag) (mg : Str → Option Value) (base : Heap) (CX : CXT) (k : Nat) (f : Addr) (fd : FuncData) (ps : List Str) (sp : Sp) : Prop where
 len : ∀ vs H Q E, sp vs H Q E → vs.length = ps.length
 run : ∀ (A : Around) (outer : List Env) (s : Shared) (H : Hp) (args : Args) (us : List Value) (vs : List V) (Q : VK) (E : XK), Room k A → Env0 P w K mg base A outer s H → BindsTo s fd args (ps.zip us) → Vals vs us → sp vs H Q E →
   codeAny (model P w) A (.call (.ref f) args) (CR CX outer P w H s Q E) s
theorem FnOk.mono {P : Program} {w : World} {K : PySem.W.Frag} {mg : Str → Option Value} {base : Heap} {CX : CXT} {j k : Nat} {f : Addr} {fd : FuncData} {ps : List Str} {sp : Sp} (F : FnOk P w K mg base CX j f fd ps sp) (h : j ≤ k) :
   FnOk P w K mg base CX k f fd ps sp := ⟨F.len, fun A outer s H args us vs Q E hr => F.run A outer s H args us vs Q E (hr.mono h)⟩
theorem Env0.make {P : Program} {w : World} {K : PySem.W.Frag} {mg : Str → Option Value} {base : Heap} {A : Around} {outer : List Env} {s : Shared} {H : Hp} (e : Env0 P w K mg base A outer s H) (C : Addr) (us : List Value) (kw : List (Str × Value)) :
   Env0 P w K mg base (A.under (.builtin "type.__call__" ⟨.ref C :: us, kw⟩)) outer s H := ⟨by first | exact e.frames | (simpa [Around.under, Code.envs, Code.isFrame, pushEnvs] using e.frames), e.mod, e.bs, e.bsz, e.funs, e.frf, e.hok, e.bare⟩
section
variable {X : Cx} {pins : List (Addr × Obj)} {σ : St} {H : Hp} {s s' : Shared}
theorem Inv.env0 (I : Inv X pins σ H s) : Env0 X.prog X.w X.K X.mg X.base X.A X.stack s H :=
 ⟨I.ok.frames, I.ok.mod, I.bs, Nat.le_trans I.ok.bsz I.sz, I.stack, I.stkFree, I.hok, I.bare⟩
theorem Inv.after {Q : VK} {u : Value} (I : Inv X pins σ H s) (h : CE X.stack X.prog X.w H s Q u s') : EP X pins σ Q u s' := by
 obtain ⟨v, H', os, bare, un, hok, r, q⟩ := h
 obtain ⟨hh, g, d, t, os'⟩ := s'
 obtain rfl : os' = s.os := os
 exact ⟨v, H', I.call (h' := hh) (g' := g) (d' := d) (t' := t) (ch := []) un hok bare (fun b z => absurd z (by simp)), r, q⟩
end
noncomputable def tCall (sp : Sp) (dvs : List V) (E : XK) (t : TA) : TE := fun σ H Q => t σ H fun vs H1 => sp (vs ++ dvs) H1 Q E
noncomputable def tMeth (C : Addr) (m : Str) (sp : Sp) (dvs : List V) (E : XK) (ta : TE) (t : TA) : TE := fun σ H Q => ta σ H fun x H1 => ∃ a dx fs, x = .ref a ∧ H1 a = some (.ins C dx fs) ∧ fs.lookup m = none ∧
 t σ H1 fun vs H2 => sp (x :: (vs ++ dvs)) H2 Q E
noncomputable def tMake (C : Addr) (sp : Sp) (dvs : List V) (E : XK) (t : TA) : TE := fun σ H Q => t σ H fun vs H1 => ∀ x dx, H1 x = none → H1 dx = none → dx ≠ x →
 sp (.ref x :: (vs ++ dvs)) (upd (upd H1 dx (.own x)) x (.ins C dx [])) (fun v H2 => v = .non ∧ Q (.ref x) H2) E
noncomputable def Binds (K : PySem.W.Frag) (fd : FuncData) (ps : List Str) (ds : List Value) : Prop :=
 ∀ (s : Shared) (us : List Value), K.In s.heap → (us ++ ds).length = ps.length → BindsTo s fd ⟨us, []⟩ (ps.zip (us ++ ds))
theorem Binds.all {K : PySem.W.Frag} {fd : FuncData} {ps : List Str} (h : ∀ us : List Value, us.length = ps.length → bindArgs fd ⟨us, []⟩ = pure (ps.zip us)) : Binds K fd ps [] := fun s us _ hl => by
 rw [List.append_nil] at hl ⊢
 exact .of_eq (h us hl)
noncomputable def Passes (CX : CXT) (X : Cx) (E : XK) : Prop := ∀ (pins : List (Addr × Obj)) (σ : St) (H : Hp) (s : Shared) (e : Value) (s' : Shared), Inv X pins σ H s → CX X.stack H s E e s' → X.xe e s'
section
variable {X : Cx} {CX : CXT} {k : Nat} {f C : Addr} {fd : FuncData} {ps : List Str} {sp : Sp} {dvs : List V} {ds : List Value} {E : XK} {x m : Str} {p pos apos : Pos} {e o : Expr} {es : List Expr} {ta : TE} {t : TA}
theorem run_fn {pins : List (Addr × Obj)} {σ : St} {H : Hp} {s : Shared} {Q : VK} {us : List Value} {vs : List V} (F : FnOk X.prog X.w X.K X.mg X.base CX k f fd ps sp) (hr : Room k X.A) (hb : Binds X.K fd ps ds) (hd : Vals dvs ds) (hx : Passes CX X E)
   (I : Inv X pins σ H s) (r : Vals vs us) (h : sp (vs ++ dvs) H Q E) : wpAny (model X.prog X.w) X.A (call (.ref f) us) (EP X pins σ Q) X.xe s := by
 have r2 : Vals (vs ++ dvs) (us ++ ds) := r.append hd
 have hl : (us ++ ds).length = ps.length := by rw [← r2.length]; exact F.len _ _ _ _ h
 refine wpAny_call (codeAny_mono (F.run X.A X.stack s H ⟨us, []⟩ (us ++ ds) (vs ++ dvs) Q E hr I.env0 (hb s us I.kIn hl) r2 h) fun r s' hq => ?_)
 cases r with
 | error e => exact hx pins σ H s e s' I hq
 | ok fl =>
   cases fl with
   | ret u => exact I.after hq
   | next => exact False.elim hq
   | brk => exact False.elim hq
   | cont => exact False.elim hq
theorem pe_call (F : FnOk X.prog X.w X.K X.mg X.base CX k f fd ps sp) (hr : Room k X.A) (hg : Gl X x) (hm : X.mg x = some (.ref f)) (hk : PySem.W.keepIn X.K (.ref f) = true) (hb : Binds X.K fd ps ds) (hd : Vals dvs ds) (hx : Passes CX X E)
   (ha : PA X (e :: es) t) (hdb : (x == ("__debug__" : Str)) = false := by decide) (he : starEach (e :: es) X.env = (false, eval e X.env) :: starEach es X.env := by rfl) (hpl : (backTo pos (starEach es X.env)).any (·.1) = false := by rfl) :
   PE X (.Call (.Name x p) (e :: es) [] pos) (tCall sp dvs E t) := by
 intro pins s σ H Q I h
 refine wpAny_Call_Name_kw (ld_glob I hg hm ?_ hdb)
 refine PySem.W.callWith_K (h₀ := X.base) I.ok.mod.kin hk (thn (ha pos pins s σ H _ I h) fun us s1 ⟨vs, H1, I1, r, q⟩ => ⟨I1.kIn, ?_⟩) he hpl
 exact run_fn F hr hb hd hx I1 r q
theorem pe_meth {pl : Sem Bool} (he : PE X o ta) (c : Cls X.K C) (hm : Meth X.K C m f) (F : FnOk X.prog X.w X.K X.mg X.base CX k f fd ps sp) (hr : Room k X.A) (hb : Binds X.K fd ps ds) (hd : Vals dvs ds) (hx : Passes CX X E) (ha : PA X (e :: es) t)
   (hst : starEach (e :: es) X.env = (false, eval e X.env) :: starEach es X.env := by rfl) (hpl : (backTo pos (starEach es X.env)).any (·.1) = false := by rfl)
   (ht : eval (.Call (.Attribute o m apos) (e :: es) [] pos) X.env = (do
     let ov ← eval o X.env
     standAt apos.atName
     let (f, first) ← holding [ov] (getMethod ov m pl)
     callWith pos f first (backTo pos (starEach (e :: es) X.env)) (backToKw pos (keywordEach [] X.env))) := by rfl) :
   PE X (.Call (.Attribute o m apos) (e :: es) [] pos) (tMeth C m sp dvs E ta t) := by
 intro pins s σ H Q I h
 refine PySem.W.methodCall_KW (pl := pl) (thn (he pins s σ H _ I h) fun u s1 ⟨x, H1, I1, rx, a, dx, fs, ex, ea, l, q⟩ => ?_) ht
 subst ex
 obtain rfl : u = Value.ref a := rx
 refine getmeth_ok I1 ea c hm l ?_
 refine PySem.W.callWith_K (first := [.ref a]) (h₀ := X.base) I.ok.mod.kin hm.kp (thn (ha pos pins s1 σ H1 _ I1 q) fun us s2 ⟨vs, H2, I2, r, q2⟩ => ⟨I2.kIn, ?_⟩) hst hpl
 exact run_fn (us := .ref a :: us) (vs := .ref a :: vs) F hr hb hd hx I2 (.cons rfl r) q2
theorem pe_meth0 {pl : Sem Bool} (he : PE X o ta) (c : Cls X.K C) (hm : Meth X.K C m f) (F : FnOk X.prog X.w X.K X.mg X.base CX k f fd ps sp) (hr : Room k X.A) (hb : Binds X.K fd ps ds) (hd : Vals dvs ds) (hx : Passes CX X E)
   (ht : eval (.Call (.Attribute o m apos) [] [] pos) X.env = (do
     let ov ← eval o X.env
     standAt apos.atName
     let (f, first) ← holding [ov] (getMethod ov m pl)
     callWith pos f first (backTo pos (starEach [] X.env)) (backToKw pos (keywordEach [] X.env))) := by rfl) :
   PE X (.Call (.Attribute o m apos) [] [] pos) (tMeth C m sp dvs E ta tNil) := by
 intro pins s σ H Q I h
 refine PySem.W.methodCall_KW (pl := pl) (thn (he pins s σ H _ I h) fun u s1 ⟨x, H1, I1, rx, a, dx, fs, ex, ea, l, q⟩ => ?_) ht
 subst ex
 obtain rfl : u = Value.ref a := rx
 refine getmeth_ok I1 ea c hm l ?_
 exact PySem.W.callWith_K0 (first := [.ref a]) I1.kIn hm.kp (run_fn (us := [.ref a]) (vs := [.ref a]) F hr hb hd hx I1 (.cons rfl .nil) q)
structure Mk (K : PySem.W.Frag) (C f : Addr) : Prop where
 makes : PySem.W.makesIn K C = true
 init : PySem.W.findIn K (.ref C) "__init__" = some (some (.ref f))
 fn : PySem.W.isFn K (.ref f) = true
 kp : PySem.W.keepIn K (.ref C) = true
theorem run_make {pins : List (Addr × Obj)} {σ : St} {H : Hp} {s : Shared} {Q : VK} {us : List Value} {vs : List V} (M : Mk X.K C f) (F : FnOk X.prog X.w X.K X.mg X.base CX k f fd ps sp) (hr : Room (k + 1) X.A) (hb : Binds X.K fd ps ds) (hd : Vals dvs ds)
   (hx : Passes CX X E) (I : Inv X pins σ H s) (r : Vals vs us)
   (h : ∀ x dx, H x = none → H dx = none → dx ≠ x → sp (.ref x :: (vs ++ dvs)) (upd (upd H dx (.own x)) x (.ins C dx [])) (fun v H2 => v = .non ∧ Q (.ref x) H2) E) :
   wpAny (model X.prog X.w) X.A (call (.ref C) us) (EP X pins σ Q) X.xe s := by
 have hq := h (s.heap.objs.size + 1) s.heap.objs.size (I.hok.fresh (Nat.le_succ _)) (I.hok.fresh (Nat.le_refl _)) (Nat.ne_of_lt (Nat.lt_succ_self _))
 have I2 := Inv.made (C := C) I
 have r2 : Vals (V.ref (s.heap.objs.size + 1) :: (vs ++ dvs)) (Value.ref (s.heap.objs.size + 1) :: (us ++ ds)) := .cons rfl (r.append hd)
 have hl : (Value.ref (s.heap.objs.size + 1) :: us ++ ds).length = ps.length := by
   have e := r2.length
   rw [F.len _ _ _ _ hq] at e
   exact e.symm
 refine wpAny_call (make_map (f := f) I.kIn M.makes M.init (beq_iff_eq.mp M.fn) (codeAny_mono (F.run _ X.stack _ _ ⟨Value.ref (s.heap.objs.size + 1) :: us, []⟩ (Value.ref (s.heap.objs.size + 1) :: (us ++ ds)) _ _ E (hr.make C us [])
   (I2.env0.make C us []) (hb _ (Value.ref (s.heap.objs.size + 1) :: us) I2.kIn hl) r2 hq) fun r s' hq' => ?_))
 cases r with
 | error e => exact hx pins σ _ _ e s' I2 hq'
 | ok fl =>
   cases fl with
   | ret u =>
     obtain ⟨v, H', I3, rv, ev, q3⟩ := I2.after hq'
     subst ev
     exact ⟨rv, ⟨V.ref (s.heap.objs.size + 1), H', I3, rfl, q3⟩⟩
   | next => exact False.elim hq'
   | brk => exact False.elim hq'
   | cont => exact False.elim hq'
theorem pe_make (M : Mk X.K C f) (F : FnOk X.prog X.w X.K X.mg X.base CX k f fd ps sp) (hr : Room (k + 1) X.A) (hg : Gl X x) (hm : X.mg x = some (.ref C)) (hb : Binds X.K fd ps ds) (hd : Vals dvs ds) (hx : Passes CX X E)
   (ha : PA X (e :: es) t) (hdb : (x == ("__debug__" : Str)) = false := by decide) (he : starEach (e :: es) X.env = (false, eval e X.env) :: starEach es X.env := by rfl) (hpl : (backTo pos (starEach es X.env)).any (·.1) = false := by rfl) :
   PE X (.Call (.Name x p) (e :: es) [] pos) (tMake C sp dvs E t) := by
 intro pins s σ H Q I h
 refine wpAny_Call_Name_kw (ld_glob I hg hm ?_ hdb)
 refine PySem.W.callWith_K (h₀ := X.base) I.ok.mod.kin M.kp (thn (ha pos pins s σ H _ I h) fun us s1 ⟨vs, H1, I1, r, q⟩ => ⟨I1.kIn, ?_⟩) he hpl
 exact run_make M F hr hb hd hx I1 r q
theorem pe_make0 (M : Mk X.K C f) (F : FnOk X.prog X.w X.K X.mg X.base CX k f fd ps sp) (hr : Room (k + 1) X.A) (hg : Gl X x) (hm : X.mg x = some (.ref C)) (hb : Binds X.K fd ps ds) (hd : Vals dvs ds) (hx : Passes CX X E)
   (hdb : (x == ("__debug__" : Str)) = false := by decide) : PE X (.Call (.Name x p) [] [] pos) (tMake C sp dvs E tNil) := by
 intro pins s σ H Q I h
 refine wpAny_Call_Name_kw (ld_glob I hg hm ?_ hdb)
 exact PySem.W.callWith_K0 I.kIn M.kp (run_make (us := []) M F hr hb hd hx I .nil h)
end
section
variable {X : Cx} {CX : CXT} {k : Nat} {f C : Addr} {fd : FuncData} {ps ks : List Str} {sp : Sp} {E : XK} {x m : Str} {p pos apos kpos : Pos} {e o : Expr} {es : List Expr} {kws : List Keyword} {te ta : TE} {t tk : TA} {nm : Option Str}
variable {g : List Value → List Value → List Value} {gV : List V → List V → List V}
end
structure FnScope (N P : List Str) (sc : Scope) : Prop where
 kind : sc.kind = .function
 co : sc.isCoroutine = false
 gen : sc.isGenerator = false
 nd : N.Nodup
 pre : N.take P.length = P
 par : ∀ x ∈ P, sc.names.lookup x = some .local ∨ sc.names.lookup x = some .cell
 nofree : ∀ y ∈ sc.names, y.2 ≠ .free
theorem bindL_out {kindOf : Str → Option NameKind} {x : Str} : ∀ {binds : List (Str × Value)} {m : Str → Option Value}, (∀ v, (x, v) ∉ binds) → bindL kindOf binds m x = m x
 | [], _, _ => rfl
 | (n, v) :: r, m, h => by
   unfold bindL
   rw [bindL_out fun w hw => h w (List.mem_cons_of_mem _ hw)]
   split
   · have : x ≠ n := by rintro rfl; exact h v List.mem_cons_self
     simp [this]
   · rfl
theorem bindC_out {kindOf : Str → Option NameKind} {x : Str} : ∀ {binds : List (Str × Value)} {m : Str → Option Value}, (∀ v, (x, v) ∉ binds) → bindC kindOf binds m x = m x
 | [], _, _ => rfl
 | (n, v) :: r, m, h => by
   unfold bindC
   rw [bindC_out fun w hw => h w (List.mem_cons_of_mem _ hw)]
   split
   · rfl
   · have : x ≠ n := by rintro rfl; exact h v List.mem_cons_self
     simp [this]
theorem bindL_get {kindOf : Str → Option NameKind} {x : Str} {v : Value} : ∀ {P : List Str} {vs : List Value} {i : Nat} {m : Str → Option Value}, P.Nodup → P[i]? = some x → vs[i]? = some v → kindOf x = some .local →
   bindL kindOf (P.zip vs) m x = some v
 | [], _, _, _, _, h, _, _ => by simp at h
 | _ :: _, [], _, _, _, _, h, _ => by simp at h
 | p :: P, w :: vs, 0, m, nd, h1, h2, hk => by
   simp at h1 h2; subst h1; subst h2
   show bindL kindOf ((p, w) :: P.zip vs) m p = _
   unfold bindL
   rw [bindL_out fun v hv => (List.nodup_cons.mp nd).1 (List.of_mem_zip hv).1, if_pos hk]
   simp
 | p :: P, w :: vs, i + 1, m, nd, h1, h2, hk => by
   show bindL kindOf ((p, w) :: P.zip vs) m x = _
   unfold bindL
   exact bindL_get (i := i) (List.nodup_cons.mp nd).2 (by simpa using h1) (by simpa using h2) hk
theorem bindC_get {kindOf : Str → Option NameKind} {x : Str} {v : Value} : ∀ {P : List Str} {vs : List Value} {i : Nat} {m : Str → Option Value}, P.Nodup → P[i]? = some x → vs[i]? = some v → kindOf x ≠ some .local →
   bindC kindOf (P.zip vs) m x = some v
 | [], _, _, _, _, h, _, _ => by simp at h
 | _ :: _, [], _, _, _, _, h, _ => by simp at h
 | p :: P, w :: vs, 0, m, nd, h1, h2, hk => by
   simp at h1 h2; subst h1; subst h2
   show bindC kindOf ((p, w) :: P.zip vs) m p = _
   unfold bindC
   rw [bindC_out fun v hv => (List.nodup_cons.mp nd).1 (List.of_mem_zip hv).1, if_neg hk]
   simp
 | p :: P, w :: vs, i + 1, m, nd, h1, h2, hk => by
   show bindC kindOf ((p, w) :: P.zip vs) m x = _
   unfold bindC
   exact bindC_get (i := i) (List.nodup_cons.mp nd).2 (by simpa using h1) (by simpa using h2) hk
noncomputable def start (N : List Str) (vs : List V) : St := vs.map some ++ List.replicate (N.length - vs.length) none
noncomputable def cxOf (CX : CXT) (P : Program) (w : World) (K : PySem.W.Frag) (mg : Str → Option Value) (base : Heap) (N : List Str) (qual : Str) (scope : Scope) (f : Addr) (cd : Value) (A : Around) (outer : List Env) (s : Shared) (H : Hp) (E : XK) : Cx where
 prog := P
 w := w
 K := K
 mg := mg
 base := base
 A := A.deeper (envOfC qual scope s.heap.objs.size f cd)
 N := N
 s_0 := s
 H_0 := H
 env := envOfC qual scope s.heap.objs.size f cd
 outer := outer
 stack := envOfC qual scope s.heap.objs.size f cd :: outer
 ex := []
 calm := true
 fn := fun _ => true
 pn := []
 xe := fun e s' => wpAny (model P w) (A.deeper (envOfC qual scope s.heap.objs.size f cd)) (leaving (envOfC qual scope s.heap.objs.size f cd) e) (fun _ s'' => CX outer H s E e s'') (fun e' s'' => CX outer H s E e' s'') s'
theorem cell_has {sc : Scope} {n : Nat} {x : Str} (h : sc.names.lookup x = some .cell) : ∃ c, (cellsFrom n sc.names []).lookup x = some c := by
 have q := PySem.W.cellsFrom_some sc.names n [] (.inl h)
 exact Option.isSome_iff_exists.mp q
theorem inv_start {CX : CXT} {P : Program} {w : World} {K : PySem.W.Frag} {mg : Str → Option Value} {base : Heap} {N ps : List Str} {qual : Str} {scope : Scope} {f : Addr} {cd : Value} {A : Around} {outer : List Env} {s s1 : Shared} {H : Hp} {E : XK} {us : List Value} {vs : List V}
   (S : FnScope N ps scope) (hd : A.handled = none) (e0 : Env0 P w K mg base A outer s H) (hl : vs.length = ps.length) (r : Vals vs us)
   (x : InCallC s s.heap.objs.size (bindL (envOfC qual scope s.heap.objs.size f cd).kindOf (ps.zip us) fun _ => none) (cellsFrom (s.heap.objs.size + 1) scope.names []) (bindC (envOfC qual scope s.heap.objs.size f cd).kindOf (ps.zip us) fun _ => none) s1) :
   Inv (cxOf CX P w K mg base N qual scope f cd A outer s H E) [] (start N vs) H s1 := by
 have hpl : ps.length ≤ N.length := by have := congrArg List.length S.pre; rw [List.length_take] at this; omega
 obtain ⟨h1, tk, rfl, hk⟩ := x.done
 have noA : ∀ b : Addr, b ∉ (cxOf CX P w K mg base N qual scope f cd A outer s H E).ex := fun b z => absurd (show b ∈ ([] : List Addr) from z) (by simp)
 refine ⟨⟨e0.mod, S.kind, rfl, rfl, Nat.le_refl _, fun y z c h1 h2 => ?_, fun y hy => ?_, fun y c _ h => ?_, fun _ => hd, Around.frames_deeper e0.frames, .inr ⟨rfl, rfl⟩, fun b z => absurd z (noA b), e0.bs, e0.bsz, fun b _ _ => noA b, fun b z => absurd z (noA b), e0.funs, e0.frf⟩,
   rfl, e0.bare, Un.kept hk, ⟨_, x.toInCall.ns, fun i y v h1 h2 h3 => ?_⟩, fun y c h => ⟨_, x.cell y c h⟩, e0.hok.fresh (Nat.le_refl _), fun y c h => ?_, fun p hp => absurd (show p ∈ ([] : List (Addr × Obj)) from hp) (by simp), e0.hok.kept hk, ?_⟩
 · exact name_of_addr x.apart (PySem.mem_of_lookup h1) (PySem.mem_of_lookup h2)
 · have hy : scope.names.lookup y = some .cell ∨ scope.names.lookup y = some .free := hy
   rcases hy with hy | hy
   · exact cell_has hy
   · exact absurd rfl (S.nofree _ (PySem.mem_of_lookup hy))
 · exact Nat.le_of_lt (x.above y c (PySem.mem_of_lookup h))
 · have hi : i < vs.length := by
     unfold start at h2
     by_cases hi : i < vs.length
     · exact hi
     · rw [List.getElem?_append_right (by simpa using hi)] at h2
       rw [List.getElem?_replicate] at h2
       split at h2 <;> cases h2
   have ha : vs[i]? = some v := by
     unfold start at h2
     rw [List.getElem?_append_left (by simpa using hi), List.getElem?_map] at h2
     cases e : vs[i]? with
     | none => rw [e] at h2; cases h2
     | some a => rw [e] at h2; cases h2; rfl
   obtain ⟨u, hu, rv⟩ := r.get ha
   have hp : ps[i]? = some y := by
     rw [← S.pre, List.getElem?_take_of_lt (by omega)]; exact h1
   have ndP : ps.Nodup := by rw [← S.pre]; exact S.nd.sublist (List.take_sublist _ _)
   refine ⟨u, rv, ?_⟩
   rcases S.par y (List.mem_of_getElem? hp) with k | k
   · exact .inl ⟨k, bindL_get ndP hp hu k⟩
   · obtain ⟨c, e⟩ := cell_has (n := s.heap.objs.size + 1) k
     refine .inr ⟨.inl k, c, e, ?_⟩
     have q := x.cell y c e
     rw [bindC_get ndP hp hu (by show scope.names.lookup y ≠ _; rw [k]; decide)] at q
     exact q
 · exact e0.hok.fresh (Nat.le_of_lt (x.above y c (PySem.mem_of_lookup h)))
 · unfold start
   show _ = N.length
   rw [List.length_append, List.length_map, List.length_replicate]
   omega
theorem fn_of {CX : CXT} {P : Program} {w : World} {K : PySem.W.Frag} {mg : Str → Option Value} {base : Heap} {k : Nat} {f : Addr} {name qual : Str} {params : Arguments} {body : List Stmt} {scope : Scope} {dV kV doc pm cdv ct oc : Value} {an od : Option Addr}
   {osl : Array (Option Value)} {N ps : List Str} {sp : Sp} (lk : K.lookup f = some ⟨oc, od, .func (PySem.W.fnOf name qual params body scope dV kV doc pm an cdv ct), osl⟩) (hcd : PySem.W.codeIn K cdv qual = true) (S : FnScope N ps scope)
   (len : ∀ vs H Q E, sp vs H Q E → vs.length = ps.length)
   (hbody : ∀ (A : Around) (outer : List Env) (s : Shared) (H : Hp) (vs : List V) (Q : VK) (E : XK), Room k (A.deeper (envOfC qual scope s.heap.objs.size f cdv)) → sp vs H Q E →
     ∃ t, PSs (cxOf CX P w K mg base N qual scope f cdv A outer s H E) body t ∧ t { nx := fun _ H' => Q .non H', rt := Q } (start N vs) H) :
   FnOk P w K mg base CX (k + 1) f (PySem.W.fnOf name qual params body scope dV kV doc pm an cdv ct) ps sp := by
 refine ⟨len, fun A outer s H args us vs Q E hr e0 hb r hsp => ?_⟩
 have hl := len _ _ _ _ hsp
 have KX : K.In s.heap := e0.mod.kin.keeps fun b o e => (e0.bs b o e).1
 have lim : s.heap.NoLimit := e0.mod.nolimit.keeps fun b o e => (e0.bs b o e).1
 have hkind : ∀ y ∈ ps.zip us, scope.names.lookup y.1 = some .local ∨ (scope.names.lookup y.1 = some .cell ∧ ((cellsFrom (s.heap.objs.size + 1) scope.names []).lookup y.1).isSome = true) := fun ⟨n, v⟩ hy => by
   rcases S.par n (List.of_mem_zip hy).1 with q | q
   · exact .inl q
   · exact .inr ⟨q, PySem.W.cellsFrom_some _ _ _ (.inl q)⟩
 refine codeAny_call_function hr.depth (KX _ _ lk) rfl S.co S.gen rfl (PySem.W.codeRec_of KX hcd) (hb _ _ _ _ ?_)
 refine wpAny_newFunctionEnv_cells S.kind hkind fun env he s1 x => ?_
 subst he
 refine ⟨lim.keeps x.toInCall.keep, codeAny_func ?_⟩
 obtain ⟨t, ht, hq⟩ := hbody A outer s H vs Q E (hr.deeper _) hsp
 have I : Inv (cxOf CX P w K mg base N qual scope f cdv A outer s H E) [] (start N vs) H s1 := inv_start S hr.hd e0 hl r x
 refine wpAny_mono (ht [] s1 (start N vs) H _ I hq) (fun fl s' hs => ?_) fun e s' hs => hs
 have fin : ∀ {σ' : St} {H' : Hp} {v : V} {u : Value}, Inv (cxOf CX P w K mg base N qual scope f cdv A outer s H E) [] σ' H' s' → RelV v u → Q v H' → CE outer P w H s Q u s' :=
   fun {σ' H' v u} J rv q => ⟨v, H', J.os, J.bare, J.base, J.hok, rv, q⟩
 cases fl with
 | ret u =>
   obtain ⟨v, σ', H', J, rv, q⟩ := hs
   exact fin J rv q
 | next =>
   obtain ⟨σ', H', J, q⟩ := hs
   exact fin (v := V.non) (u := Value.none) J rfl q
 | brk =>
   obtain ⟨_, _, _, q⟩ := hs
   exact False.elim q
 | cont =>
   obtain ⟨_, _, _, q⟩ := hs
   exact False.elim q
end L2
namespace L2
open PySem PySem.Spec PyProof.Rows
section
variable {X : Cx} {x : Str} {p pos : Pos} {e : Expr} {es : List Expr} {t : TA} {id T : String} {r : List V → Hp → VK → Prop}
noncomputable def tCB (r : List V → Hp → VK → Prop) (t : TA) : TE := fun σ H Q => t σ H fun vs H1 => r vs H1 Q
theorem pe_callB (hc : CallR X (.builtin id) r) (hg : Gl X x) (hm : X.mg x = none) (hv : bootBuiltins x = some (.builtin id)) (ha : PA X (e :: es) t) (hn : x ≠ "__name__" := by decide) (hdb : (x == ("__debug__" : Str)) = false := by decide)
   (he : starEach (e :: es) X.env = (false, eval e X.env) :: starEach es X.env := by rfl) (hpl : (backTo pos (starEach es X.env)).any (·.1) = false := by rfl) : PE X (.Call (.Name x p) (e :: es) [] pos) (tCB r t) := by
 intro pins s σ H Q I h
 refine wpAny_Call_Name_kw (ld_blt I hg hm hv ?_ hn hdb)
 exact PyProof.Rows.callWith_builtin1 (thn (ha pos pins s σ H _ I h) fun us s1 ⟨vs, H1, I1, r1, q1⟩ => hc pins s1 σ H1 vs us Q I1 r1 q1) he hpl
theorem pe_callTy (hc : CallR X (.type T) r) (hg : Gl X x) (hm : X.mg x = none) (hv : bootBuiltins x = some (.type T)) (ha : PA X (e :: es) t) (hn : x ≠ "__name__" := by decide) (hdb : (x == ("__debug__" : Str)) = false := by decide)
   (he : starEach (e :: es) X.env = (false, eval e X.env) :: starEach es X.env := by rfl) (hpl : (backTo pos (starEach es X.env)).any (·.1) = false := by rfl) : PE X (.Call (.Name x p) (e :: es) [] pos) (tCB r t) := by
 intro pins s σ H Q I h
 refine wpAny_Call_Name_kw (ld_blt I hg hm hv ?_ hn hdb)
 exact PyProof.Rows.callWith_type1 (thn (ha pos pins s σ H _ I h) fun us s1 ⟨vs, H1, I1, r1, q1⟩ => hc pins s1 σ H1 vs us Q I1 r1 q1) he hpl
end
end L2
namespace HT
open PySem PyProof.Rows
section
open PySem.SeqAt
open PySem.AutoSeq1 (wpAny_loadPart')
open PySem.MeetsSeq PySem.MeetsSeq2 PySem.MeetsSeq3
end
section
variable {prog : Program} {w : World} {A : Around} {E : Value → Shared → Prop} {s : Shared}
noncomputable def sIx (n d : Nat) : Option Int → Nat
 | none => d
 | some v => if v < 0 then (v + (n : Int)).toNat else min v.toNat n
end
end HT
namespace L2
open PySem PySem.Spec PyProof.Rows
noncomputable abbrev TO := St → Hp → (Option Int → Hp → Prop) → Prop
noncomputable def PO (X : Cx) (e : Option Expr) (t : TO) : Prop :=
 ∀ (pins : List (Addr × Obj)) (s : Shared) (σ : St) (H : Hp) (Q : Option Int → Hp → Prop), Inv X pins σ H s → t σ H Q →
   wpAny (model X.prog X.w) X.A (evalPart e X.env) (fun u s' => ∃ o H', Inv X pins σ H' s' ∧ IsPart u o ∧ Q o H') X.xe s
noncomputable def tNoPart : TO := fun _ H Q => Q none H
noncomputable def tPart (t : TE) : TO := fun σ H Q => t σ H fun x H1 => ∃ i, x = .int i ∧ Q (some i) H1
theorem intsAre_of {ns : List Int} : ∀ {us : List Value}, Vals (ns.map V.int) us → IntsAre us ns := by
 induction ns with
 | nil => intro us r; rw [List.map_nil] at r; cases r; exact .nil
 | cons n ns ih =>
   intro us r
   rw [List.map_cons] at r
   cases r with
   | cons r1 r2 =>
     obtain ⟨t, e⟩ := r1
     subst e
     exact .cons n t (ih r2)
section
variable {X : Cx} {e : Expr} {te : TE} {lo hi : Option Expr} {tl th : TO} {pos p2 : Pos}
theorem po_none : PO X none tNoPart := by
 intro pins s σ H Q I h
 rw [evalPart_none]
 exact wpAny_pure ⟨none, H, I, .none, h⟩
theorem po_some (h : PE X e te) : PO X (some e) (tPart te) := by
 intro pins s σ H Q I hw
 rw [evalPart_some]
 refine thn (h pins s σ H _ I hw) fun u s1 ⟨x, H1, I1, r1, q1⟩ => ?_
 obtain ⟨i, rfl, q⟩ := q1
 obtain ⟨t, rfl⟩ := r1
 exact ⟨some i, H1, I1, .int i t, q⟩
noncomputable def SlR (X : Cx) (r : V → Option Int → Option Int → Hp → VK → Prop) : Prop :=
 ∀ (pins : List (Addr × Obj)) (s : Shared) (σ : St) (H : Hp) (x : V) (v vl vu : Value) (lo hi : Option Int) (sl : Addr) (Q : VK), Inv X pins σ H s → RelV x v → s.heap.IsSliceOf sl vl vu .none → IsPart vl lo → IsPart vu hi → r x lo hi H Q →
   ∃ T id, typeLookup (.type T) "__getitem__" = pure (some (.builtin id)) ∧ s.TypeIs v T ∧ wpAny (model X.prog X.w) X.A (getItem v (.ref sl)) (EP X pins σ Q) X.xe s
noncomputable def tSl (r : V → Option Int → Option Int → Hp → VK → Prop) (te : TE) (tl th : TO) : TE := fun σ H Q => te σ H fun x H1 => tl σ H1 fun l H2 => th σ H2 fun u H3 => r x l u H3 Q
theorem pe_slice {r : V → Option Int → Option Int → Hp → VK → Prop} (hr : SlR X r) (he : PE X e te) (hl : PO X lo tl) (hu : PO X hi th) : PE X (.Subscript e (.Slice lo hi none p2) pos) (tSl r te tl th) := by
 intro pins s σ H Q I h
 refine Subscript_ (thn (he pins s σ H _ I h) fun v s1 ⟨x, H1, I1, r1, q1⟩ => ?_)
 refine wpAny_Slice (thn (hl pins s1 σ H1 _ I1 q1) fun vl s2 ⟨l, H2, I2, pl, q2⟩ => thn (hu pins s2 σ H2 _ I2 q2) fun vu s3 ⟨u, H3, I3, pu, q3⟩ => ?_)
 rw [evalPart_none]
 refine wpAny_pure ?_
 have I4 : Inv X pins σ H3 { s3 with heap := s3.heap.push { cls := .type "slice", data := .fields #[vl, vu, .none] } } := I3.kept (t' := s3.toks) fun b ob q => Heap.get?_push_of_some _ q
 obtain ⟨T, id, hT, ht, hg⟩ := hr pins { s3 with heap := s3.heap.push { cls := .type "slice", data := .fields #[vl, vu, .none] } } σ H3 x v vl vu l u s3.heap.objs.size Q I4 r1 (Heap.IsSliceOf.new ..) pl pu q3
 show wpAny (model X.prog X.w) X.A (subscriptTail e (.Slice lo hi none p2) v (.ref s3.heap.objs.size)) (EP X pins σ Q) X.xe { s3 with heap := s3.heap.push { cls := .type "slice", data := .fields #[vl, vu, .none] } }
 exact tail_any (ops := [.ref s3.heap.objs.size, v]) ht hT hg (by with_unfolding_all rfl)
noncomputable def cutV (xs : List V) (lo hi : Option Int) : List V := (xs.drop (HT.sIx xs.length 0 lo)).take (HT.sIx xs.length xs.length hi - HT.sIx xs.length 0 lo)
theorem cutV_length (xs : List V) (lo hi : Option Int) : (cutV xs lo hi).length ≤ xs.length := by
 unfold cutV
 rw [List.length_take, List.length_drop]
 omega
end
end L2
namespace L2
open PySem PySem.Spec PyProof.Rows
noncomputable def ixN (n : Nat) (i : Int) : Option Nat := if 0 ≤ i then (if i < n then some i.toNat else none) else if -(n : Int) ≤ i then some (i + n).toNat else none
noncomputable def atI {α : Type} (xs : List α) (i : Int) : Option α := (ixN xs.length i).bind fun j => xs[j]?
theorem ixN_seq {n : Nat} {i : Int} {j : Nat} (h : ixN n i = some j) : seqIndex? i n = some j ∧ j < n ∧ -(n : Int) ≤ i ∧ i < n := by
 unfold ixN at h
 by_cases h0 : 0 ≤ i
 · rw [if_pos h0] at h
   by_cases h1 : i < n
   · rw [if_pos h1] at h
     have e : i.toNat = j := Option.some.inj h
     exact ⟨by rw [seqIndex_of h0 h1, e], by omega, by omega, h1⟩
   · rw [if_neg h1] at h; cases h
 · rw [if_neg h0] at h
   by_cases h1 : -(n : Int) ≤ i
   · rw [if_pos h1] at h
     have e : (i + n).toNat = j := Option.some.inj h
     exact ⟨by rw [seqIndex_neg (by omega) h1, e], by omega, h1, by omega⟩
   · rw [if_neg h1] at h; cases h
theorem atI_get {α : Type} {xs : List α} {i : Int} {v : α} (h : atI xs i = some v) : ∃ j, seqIndex? i xs.length = some j ∧ xs[j]? = some v ∧ j < xs.length ∧ -(xs.length : Int) ≤ i ∧ i < xs.length := by
 unfold atI at h
 cases e : ixN xs.length i with
 | none => rw [e] at h; cases h
 | some j =>
   rw [e] at h
   obtain ⟨h1, h2, h3, h4⟩ := ixN_seq e
   exact ⟨j, h1, h, h2, h3, h4⟩
theorem atI_nat {α : Type} {xs : List α} {j : Nat} {v : α} (h : xs[j]? = some v) : atI xs (j : Int) = some v := by
 have hj : j < xs.length := (List.getElem?_eq_some_iff.mp h).1
 have e : ixN xs.length (j : Int) = some j := by
   unfold ixN
   rw [if_pos (by omega), if_pos (by omega)]; simp
 unfold atI; rw [e]; exact h
noncomputable def PlainIx (b : Expr) : Prop := ∀ o i, subscripted b false o i = operate [o, i] (getItem o i)
noncomputable def IxR (X : Cx) (r : R2) : Prop :=
 ∀ (value slice : Expr) (pins : List (Addr × Obj)) (s : Shared) (σ : St) (H : Hp) (x y : V) (v u : Value) (Q : VK), Inv X pins σ H s → RelV x v → RelV y u → r x y H Q →
   subscripted slice false v u = operate [v, u] (getItem v u) → wpAny (model X.prog X.w) X.A (subscriptTail value slice v u) (EP X pins σ Q) X.xe s
noncomputable def MtR (X : Cx) (id : String) (r : V → List V → Hp → VK → Prop) : Prop :=
 ∀ (pins : List (Addr × Obj)) (s : Shared) (σ : St) (H : Hp) (x : V) (xs : List V) (v : Value) (us : List Value) (Q : VK), Inv X pins σ H s → RelV x v → Vals xs us → r x xs H Q →
   wpAny (model X.prog X.w) X.A (call (.builtin id) (v :: us)) (EP X pins σ Q) X.xe s
section
variable {X : Cx} {a b : Expr} {ta tb : TE} {pos : Pos}
theorem pe_ix {r : R2} (hr : IxR X r) (ha : PE X a ta) (hb : PE X b tb) (hs : PlainIx b) : PE X (.Subscript a b pos) (tOp r ta tb) := by
 intro pins s σ H Q I h
 exact Subscript_ (binT ha hb I h fun v u s2 x y H2 I2 rx ry q => hr a b pins s2 σ H2 x y v u Q I2 rx ry q (hs _ _))
noncomputable def rIxL (K : PySem.W.Frag) : R2 := fun x y H Q => ∃ p xs i v, x = .ref p ∧ y = .int i ∧ SqL K H p xs ∧ atI xs i = some v ∧ Q v H
noncomputable def rIxT (K : PySem.W.Frag) : R2 := fun x y H Q => ∃ p xs i v, x = .ref p ∧ y = .int i ∧ SqT K H p xs ∧ atI xs i = some v ∧ Q v H
theorem ix_list : IxR X (rIxL X.K) := by
 intro value slice pins s σ H x y v u Q I rx ry h hs
 obtain ⟨p, xs, i, z, rfl, rfl, hq, he, q⟩ := h
 cases rx
 obtain ⟨t, rfl⟩ := ry
 obtain ⟨its, r, pl, hz⟩ := I.list hq
 obtain ⟨j, h1, h2, h3, h4, h5⟩ := atI_get he
 obtain ⟨w, ew, rw'⟩ := r.get h2
 have hl := r.length
 have hn := line63
 have fin : EP X pins σ Q w s := ⟨z, H, I, rw', q⟩
 by_cases h0 : 0 ≤ i
 · have hj : i.toNat = j := by
     rw [seqIndex_of h0 h5] at h1
     exact Option.some.inj h1
   exact item_listR pl.isList h0 (by omega) (by rw [hj]; simpa using ew) fin hs
 · have hj : (i + (its.toArray.size : Int)).toNat = j := by
     rw [seqIndex_neg (by omega) h4] at h1
     rw [List.size_toArray, ← hl]
     exact Option.some.inj h1
   exact subscriptTail_builtinR (x := w) pl.isList.typeIs slot_list_getitem.lookup
     (wpAny_getItem_list_neg (Q := fun r s' => r = w ∧ EP X pins σ Q r s') pl.isList (by omega) (by rw [List.size_toArray] <;> omega) (by omega) (by rw [hj]; simpa using ew) ⟨rfl, fin⟩) hs
theorem ix_tup : IxR X (rIxT X.K) := by
 intro value slice pins s σ H x y v u Q I rx ry h hs
 obtain ⟨p, xs, i, z, rfl, rfl, hq, he, q⟩ := h
 cases rx
 obtain ⟨t, rfl⟩ := ry
 obtain ⟨its, r, pl, hz⟩ := I.tuple hq
 obtain ⟨j, h1, h2, h3, h4, h5⟩ := atI_get he
 obtain ⟨w, ew, rw'⟩ := r.get h2
 have hl := r.length
 have hn := line63
 have fin : EP X pins σ Q w s := ⟨z, H, I, rw', q⟩
 exact subscriptTail_builtinR (x := w) pl.typeIs slot_tuple_getitem.lookup
   (getItem_tuple (j := j) (Q := fun r s' => r = w ∧ EP X pins σ Q r s') pl (by omega) (by omega) (by rw [List.size_toArray, ← hl]; exact h1) (by simpa using ew) ⟨rfl, fin⟩) hs
theorem Inv.lst {pins : List (Addr × Obj)} {σ : St} {H : Hp} {s : Shared} {p : Addr} {xs : List V} (I : Inv X pins σ H s) (h : H p = some (.lst xs)) :
   ∃ (its : List Value) (n : Nat), Vals xs its ∧ s.heap.get? p = some { cls := .type "list", data := .seq its.toArray n } ∧ xs.length ≤ sizeLine := by
 obtain ⟨z, its, n, r, e⟩ := I.hok p _ h
 exact ⟨its, n, r, e, z⟩
theorem slice_bounds (lo hi : Option Int) (n : Nat) : (sliceBounds lo hi none n).1 = ((HT.sIx n 0 lo : Nat) : Int) ∧ (sliceBounds lo hi none n).2.1 = ((HT.sIx n n hi : Nat) : Int) ∧ (sliceBounds lo hi none n).2.2 = 1 := by
 refine ⟨?_, ?_, rfl⟩
 · cases lo with
   | none => simp [sliceBounds, HT.sIx]
   | some i =>
     simp only [sliceBounds, HT.sIx, Option.getD_none, show (1 : Int) > 0 by decide, if_true]
     by_cases h : i < 0
     · simp only [h, if_true] <;> omega
     · simp only [h, if_false] <;> omega
 · cases hi with
   | none => simp [sliceBounds, HT.sIx]
   | some i =>
     simp only [sliceBounds, HT.sIx, Option.getD_none, show (1 : Int) > 0 by decide, if_true]
     by_cases h : i < 0
     · simp only [h, if_true] <;> omega
     · simp only [h, if_false] <;> omega
theorem slicePick_cut (its : List Value) (lo hi : Option Int) : slicePick its.toArray lo hi none = ((its.drop (HT.sIx its.length 0 lo)).take (HT.sIx its.length its.length hi - HT.sIx its.length 0 lo)).toArray := by
 obtain ⟨h1, h2, h3⟩ := slice_bounds lo hi its.toArray.size
 unfold slicePick
 rw [h1, h2, h3]
 simp only [sliceRange_one, pick_run, List.size_toArray] <;> rfl
noncomputable def rSlL (K : PySem.W.Frag) : V → Option Int → Option Int → Hp → VK → Prop := fun x lo hi H Q => ∃ a xs, x = .ref a ∧ SqL K H a xs ∧ ∀ p, H p = none → Q (.ref p) (upd H p (.lst (cutV xs lo hi)))
theorem sl_list : SlR X (rSlL X.K) := by
 intro pins s σ H x v vl vu lo hi sl Q I rx hs pl pu h
 obtain ⟨a, xs, rfl, hx, q⟩ := h
 cases rx
 obtain ⟨its, r, ht, hz⟩ := I.list hx
 have hlen := r.length
 refine ⟨"list", _, slot_list_getitem.lookup, ht.isList.typeIs, ?_⟩
 refine wpAny_getItem_list_slice ht.isList hs pl pu .none (by simp) ?_ (by rw [List.size_toArray] <;> omega)
 rw [slicePick_cut, ← hlen]
 refine ⟨.ref s.heap.objs.size, _, I.laid (t' := s.toks) (o := .lst (cutV xs lo hi)) (fun b ob q => Heap.get?_push_of_some _ q) (Nat.le_refl _) ?_, rfl, q _ (I.hok.fresh (Nat.le_refl _))⟩
 exact ⟨Nat.le_trans (cutV_length xs lo hi) hz, _, 0, (r.drop (HT.sIx xs.length 0 lo)).take (HT.sIx xs.length xs.length hi - HT.sIx xs.length 0 lo), Heap.get?_push_size _ rfl⟩
noncomputable def flatV : V → Bool
 | .non => true
 | .bl _ => true
 | .int _ => true
 | .str _ => true
 | _ => false
noncomputable def eqV : V → V → Bool
 | .non, .non => true
 | .bl a, .bl b => a == b
 | .bl a, .int b => (if a then 1 else 0) == b
 | .int a, .bl b => a == (if b then 1 else 0)
 | .int a, .int b => a == b
 | .str a, .str b => a == b
 | _, _ => false
theorem eqAt_V {A : Around} {s : Shared} {y x : V} {u v : Value} (ry : RelV y u) (rx : RelV x v) (fy : flatV y = true) (fx : flatV x = true) : SeqAt.EqAt A s u v (eqV y x) := by
 cases y with
 | non =>
   cases ry
   cases x with
   | non => cases rx; exact SeqAt.EqAt.same _
   | bl b => cases rx; exact SeqAt.EqAt.none_bool b
   | int b => obtain ⟨t, rfl⟩ := rx; exact SeqAt.EqAt.none_int b t
   | str b => obtain ⟨t, rfl⟩ := rx; exact SeqAt.EqAt.none_str b t
   | _ => exact absurd (show false = true from fx) Bool.false_ne_true
 | bl a =>
   cases ry
   cases x with
   | non => cases rx; exact SeqAt.EqAt.bool_none a
   | bl b => cases rx; exact SeqAt.EqAt.bool_bool a b
   | int b => obtain ⟨t, rfl⟩ := rx; exact SeqAt.EqAt.bool_int a b t
   | str b => obtain ⟨t, rfl⟩ := rx; exact SeqAt.EqAt.bool_str a b t
   | _ => exact absurd (show false = true from fx) Bool.false_ne_true
 | int a =>
   obtain ⟨t', rfl⟩ := ry
   cases x with
   | non => cases rx; exact SeqAt.EqAt.int_none a t'
   | bl b => cases rx; exact SeqAt.EqAt.int_bool a t' b
   | int b => obtain ⟨t, rfl⟩ := rx; exact SeqAt.EqAt.int_int a t' b t
   | str b => obtain ⟨t, rfl⟩ := rx; exact SeqAt.EqAt.int_str a t' b t
   | _ => exact absurd (show false = true from fx) Bool.false_ne_true
 | str a =>
   obtain ⟨t', rfl⟩ := ry
   cases x with
   | non => cases rx; exact SeqAt.EqAt.str_none a t'
   | bl b => cases rx; exact SeqAt.EqAt.str_bool a t' b
   | int b => obtain ⟨t, rfl⟩ := rx; exact SeqAt.EqAt.str_int a t' b t
   | str b => obtain ⟨t, rfl⟩ := rx; exact SeqAt.EqAt.str_str a t' b t
   | _ => exact absurd (show false = true from fx) Bool.false_ne_true
 | _ => exact absurd (show false = true from fy) Bool.false_ne_true
noncomputable def eqU (x : V) (u : Value) : Bool := match u with
 | .none => eqV .non x
 | .bool b => eqV (.bl b) x
 | .int i _ => eqV (.int i) x
 | .str z _ => eqV (.str z) x
 | _ => false
theorem eqU_of {x y : V} {u : Value} (r : RelV y u) (f : flatV y = true) : eqU x u = eqV y x := by
 cases y with
 | non => cases r; rfl
 | bl b => cases r; rfl
 | int i => obtain ⟨t, rfl⟩ := r; rfl
 | str z => obtain ⟨t, rfl⟩ := r; rfl
 | _ => exact absurd (show false = true from f) Bool.false_ne_true
theorem any_eqU {x : V} : ∀ {xs : List V} {us : List Value}, Vals xs us → xs.all flatV = true → us.any (eqU x) = xs.any fun y => eqV y x
 | _, _, .nil, _ => rfl
 | y :: xs, u :: us, .cons r t, f => by
   rw [List.all_cons, Bool.and_eq_true] at f
   rw [List.any_cons, List.any_cons, eqU_of r f.1, any_eqU t f.2]
theorem mem_eqAt {A : Around} {s : Shared} {x : V} {v : Value} (rx : RelV x v) (fx : flatV x = true) : ∀ {xs : List V} {us : List Value}, Vals xs us → xs.all flatV = true → ∀ u ∈ us, SeqAt.EqAt A s u v (eqU x u)
 | _, _, .nil, _ => fun u hu => by cases hu
 | y :: xs, u :: us, .cons r t, f => fun u' hu => by
   rw [List.all_cons, Bool.and_eq_true] at f
   rcases List.mem_cons.mp hu with rfl | hu
   · rw [eqU_of r f.1]; exact eqAt_V r rx f.1 fx
   · exact mem_eqAt rx fx t f.2 u' hu
noncomputable def inV (x : V) (xs : List V) : Bool := xs.any fun y => eqV y x
noncomputable def rIn (K : PySem.W.Frag) (neg : Bool) : R2 := fun x y H Q => ∃ p xs, y = .ref p ∧ (SqL K H p xs ∨ SqT K H p xs) ∧ flatV x = true ∧ xs.all flatV = true ∧ Q (.bl (if neg then !inV x xs else inV x xs)) H
theorem op_in_seq : OpR X (compareOp .In) (rIn X.K false) := by
 intro pins s σ H x y v u Q I rx ry h
 obtain ⟨p, xs, rfl, hq, fx, fs, q⟩ := h
 cases ry
 rcases hq with hq | hq
 · obtain ⟨its, r, pl, hz⟩ := I.list hq
   refine SeqAt.in_listAt (eqU x) pl.isList (fun w hw => mem_eqAt rx fx r fs w (by simpa using hw)) ⟨.bl _, H, I, rfl, ?_⟩
   rw [show its.toArray.any (eqU x) = its.any (eqU x) by simp, any_eqU r fs]
   exact q
 · obtain ⟨its, r, pl, hz⟩ := I.tuple hq
   refine SeqAt.in_tupleAt (eqU x) pl (fun w hw => mem_eqAt rx fx r fs w (by simpa using hw)) ⟨.bl _, H, I, rfl, ?_⟩
   rw [show its.toArray.any (eqU x) = its.any (eqU x) by simp, any_eqU r fs]
   exact q
theorem call_len_seq : CallR X (.builtin "len") (fun xs H Q => ∃ p ys, xs = [.ref p] ∧ (SqL X.K H p ys ∨ SqT X.K H p ys) ∧ Q (.int ys.length) H) := by
 intro pins s σ H xs us Q I r h
 obtain ⟨p, ys, rfl, hq, q⟩ := h
 obtain ⟨u, rfl, rx⟩ := vals1 r
 cases rx
 have hn := line63
 rcases hq with hq | hq
 · obtain ⟨its, r', pl, hz⟩ := I.list hq
   have hlen := r'.length
   exact Calls.call_len_list pl.isList (by simp only [List.size_toArray] <;> omega) ⟨.int ys.length, H, I.tok _, ⟨s.toks + 1, by rw [List.size_toArray, hlen]⟩, q⟩
 · obtain ⟨its, r', pl, hz⟩ := I.tuple hq
   have hlen := r'.length
   exact len_tuple pl (by simp only [List.size_toArray] <;> omega) ⟨.int ys.length, H, I.tok _, ⟨s.toks + 1, by rw [List.size_toArray, hlen]⟩, q⟩
theorem call_list_of : CallR X (.type "list") (fun xs H Q => ∃ p ys, xs = [.ref p] ∧ (SqL X.K H p ys ∨ SqT X.K H p ys) ∧ ∀ l, H l = none → Q (.ref l) (upd H l (.lst ys))) := by
 intro pins s σ H xs us Q I r h
 obtain ⟨p, ys, rfl, hq, q⟩ := h
 obtain ⟨u, rfl, rx⟩ := vals1 r
 cases rx
 have fin : ∀ (its : List Value), Vals ys its → ys.length ≤ sizeLine → ∀ (h' : Heap) (c' : Nat), (∀ b o', s.heap.get? b = some o' → h'.get? b = some o') →
     h'.get? s.heap.objs.size = some { cls := .type "list", dict := none, data := .seq its.toArray c', slots := #[] } → EP X pins σ Q (.ref s.heap.objs.size) { s with heap := h' } := fun its r' hz h' c' kp e =>
   ⟨.ref s.heap.objs.size, _, I.laid (t' := s.toks) kp (Nat.le_refl _) (show ObjOk X.prog X.w _ h' _ (.lst ys) from ⟨hz, its, c', r', e⟩), rfl, q _ (I.hok.fresh (Nat.le_refl _))⟩
 rcases hq with hq | hq
 · obtain ⟨its, r', pl, hz⟩ := I.list hq
   have hlen := r'.length
   obtain ⟨o, ho, hc, n, hd⟩ := pl.isList
   exact call_list_seq p (.inl rfl) ho hc hd (fun h' c' kp e => fin its r' hz h' c' kp e) (by simp only [List.size_toArray] <;> omega)
 · obtain ⟨its, r', pl, hz⟩ := I.tuple hq
   have hlen := r'.length
   obtain ⟨o, ho, hc, n, hd⟩ := pl
   exact call_list_seq p (.inr rfl) ho hc hd (fun h' c' kp e => fin its r' hz h' c' kp e) (by simp only [List.size_toArray] <;> omega)
noncomputable def tyV (K : PySem.W.Frag) (T : String) (x : V) (H : Hp) : Prop := match x with
 | .str _ => T = "str"
 | .int _ => T = "int"
 | .ref p => (T = "list" ∧ ∃ xs, SqL K H p xs) ∨ (T = "tuple" ∧ ∃ o, K.lookup p = some o ∧ o.cls = .type "tuple" ∧ o.dict = none) ∨
     (T = "dict" ∧ ((∃ kvs, H p = some (.dK kvs)) ∨ ∃ kvs, H p = some (.dT kvs))) ∨ (T = "set" ∧ ∃ S n, H p = some (.set S n))
 | _ => False
theorem tyV_is {pins : List (Addr × Obj)} {σ : St} {H : Hp} {s : Shared} {T : String} {x : V} {v : Value} (I : Inv X pins σ H s) (r : RelV x v) (ty : tyV X.K T x H) :
   s.TypeIs v T ∧ ∀ a, v = .ref a → ∃ ob, s.heap.get? a = some ob ∧ ob.dict = none := by
 cases x with
 | str z =>
   obtain ⟨t, rfl⟩ := r
   cases (show T = "str" from ty)
   exact ⟨typeIs_str s z t, fun _ e => nomatch e⟩
 | int i =>
   obtain ⟨t, rfl⟩ := r
   cases (show T = "int" from ty)
   exact ⟨typeIs_int s i t, fun _ e => nomatch e⟩
 | ref p =>
   cases r
   rcases ty with ⟨rfl, xs, hq⟩ | ⟨rfl, o, hk, hc, hd⟩ | ⟨rfl, hk⟩ | ⟨rfl, S, n, hk⟩
   · obtain ⟨its, _, pl, _⟩ := I.list hq
     refine ⟨pl.isList.typeIs, fun a e => ?_⟩
     cases e
     obtain ⟨o, n, e, c, hd, _⟩ := pl
     exact ⟨o, e, hd⟩
   · refine ⟨⟨o, I.kIn p o hk, hc⟩, fun a e => ?_⟩
     cases e
     exact ⟨o, I.kIn _ o hk, hd⟩
   · have z : ∃ o, s.heap.get? p = some o ∧ o.ExactDict := by
       rcases hk with ⟨kvs, hk⟩ | ⟨kvs, hk⟩
       · obtain ⟨_, _, _, _, o, _, _, e, ex, _⟩ := I.hok p _ hk
         exact ⟨o, e, ex⟩
       · obtain ⟨_, _, _, _, o, _, _, e, ex, _⟩ := I.hok p _ hk
         exact ⟨o, e, ex⟩
     obtain ⟨o, e, ex⟩ := z
     refine ⟨⟨o, e, ex.1⟩, fun a e2 => ?_⟩
     cases e2
     exact ⟨o, e, ex.2.1⟩
   · obtain ⟨o, _, _, _, e, ex, _⟩ := I.hok p _ hk
     refine ⟨⟨o, e, ex.1⟩, fun a e2 => ?_⟩
     cases e2
     exact ⟨o, e, ex.2.1⟩
 | _ => exact False.elim ty
noncomputable def tBM0 (K : PySem.W.Frag) (T : String) (r : V → List V → Hp → VK → Prop) (to : TE) : TE := fun σ H Q => to σ H fun x H1 => tyV K T x H1 ∧ r x [] H1 Q
noncomputable def tBM (K : PySem.W.Frag) (T : String) (r : V → List V → Hp → VK → Prop) (to : TE) (t : TA) : TE := fun σ H Q => to σ H fun x H1 => tyV K T x H1 ∧ t σ H1 fun xs H2 => r x xs H2 Q
variable {o e : Expr} {es : List Expr} {to : TE} {t : TA} {name : Str} {apos cpos : Pos} {T id : String} {r : V → List V → Hp → VK → Prop}
theorem pe_bm0 (pa : PlainAttrs T) (slot : Slot T name id) (hty : typeOf (.builtin id) = pure (.type "method_descriptor")) (hm : MtR X id r) (ho : PE X o to)
   (hbase : attributeBase o name X.env (eval o X.env) = eval o X.env := by rfl) (hline : (apos.endLine == cpos.line) = true := by rfl) : PE X (.Call (.Attribute o name apos) [] [] cpos) (tBM0 X.K T r to) := by
 intro pins s σ H Q I h
 refine wpAny_Call_method0_late hbase hline (thn (ho pins s σ H _ I h) fun v s1 ⟨x, H1, I1, r1, ty, q1⟩ => ?_)
 obtain ⟨h1, h2⟩ := tyV_is I1 r1 ty
 exact ⟨T, id, pa, slot, hty, h1, h2, Calls.callWith_builtin rfl (PySem.evalArgs_none (hm pins s1 σ H1 x [] v [] Q I1 r1 .nil q1))⟩
theorem pe_bm (pa : PlainAttrs T) (slot : Slot T name id) (hty : typeOf (.builtin id) = pure (.type "method_descriptor")) (hm : MtR X id r) (ho : PE X o to) (ha : PA X (e :: es) t)
   (hbase : attributeBase o name X.env (eval o X.env) = eval o X.env := by rfl)
   (hfew : ((backTo cpos (starEach (e :: es) X.env)).all (fun x => !x.1) && (backToKw cpos (keywordEach [] X.env)).all (fun x => x.1.isSome)
     && decide ((e :: es).length + ([] : List Keyword).length + (if ([] : List Keyword).isEmpty then 0 else 1) < 30)) = true := by rfl)
   (hline : (apos.endLine == cpos.line) = true := by rfl) (hs : starEach (e :: es) X.env = (false, eval e X.env) :: starEach es X.env := by rfl) (hplain : (backTo cpos (starEach es X.env)).any (·.1) = false := by rfl) :
   PE X (.Call (.Attribute o name apos) (e :: es) [] cpos) (tBM X.K T r to t) := by
 intro pins s σ H Q I h
 refine wpAny_Call_method_late hbase hfew hline rfl (thn (ho pins s σ H _ I h) fun v s1 ⟨x, H1, I1, r1, ty, q1⟩ => ?_)
 obtain ⟨h1, h2⟩ := tyV_is I1 r1 ty
 refine ⟨T, id, pa, slot, hty, h1, h2, ?_⟩
 have hA := ha cpos pins s1 σ H1 _ I1 q1
 rw [hs] at hA ⊢
 refine Calls.callWith_builtin (by show (false || (backTo cpos (starEach es X.env)).any (·.1)) = false; rw [hplain] <;> rfl) (Calls.evalArgs_plain ?_)
 exact thn hA fun us s2 ⟨vs, H2, I2, r2, q2⟩ => hm pins s2 σ H2 x vs v us Q I2 r1 r2 q2
end
end L2
namespace L2
open PySem PySem.Spec PyProof.Rows
noncomputable def MtM (X : Cx) (id : String) (r : V → List V → Hp → VK → Prop) : Prop :=
 ∀ (pins : List (Addr × Obj)) (s : Shared) (σ : St) (H : Hp) (x : V) (xs : List V) (v : Value) (us : List Value) (Q : VK), Inv X pins σ H s → RelV x v → Vals xs us → r x xs H Q →
   wpAny (model X.prog X.w) X.A (call (.builtin id) (v :: us)) (EP X pins σ Q) X.xe s
theorem Vals.one : ∀ {x : V} {us : List Value}, Vals [x] us → ∃ u, us = [u] ∧ RelV x u
 | _, _, .cons r .nil => ⟨_, rfl, r⟩
section
variable {X : Cx} {pins : List (Addr × Obj)} {σ : St} {H : Hp} {s : Shared} {l b : Addr} {xs ys zs : List V}
theorem Inv.lset {its its' : List Value} {n : Nat} {f : Array Value → Array Value} {t' : Nat} (I : Inv X pins σ H s) (hH : H l = some (.lst xs))
   (e : s.heap.get? l = some { cls := .type "list", data := .seq its.toArray n }) (hf : f its.toArray = its'.toArray) (hv : Vals ys its') (hz : ys.length ≤ sizeLine) :
   Inv X pins σ (upd H l (.lst ys)) { s with heap := s.heap.update l (Obj.mapSeq f), toks := t' } := by
 have q := PySem.IsL.update e f
 rw [hf] at q
 refine I.write (x := l) (e := l) (by rw [hH]; exact trivial) (.inl rfl) (fun b' u hb hu => (Heap.get?_update_other s.heap (Obj.mapSeq f) (Ne.symm hb)).trans hu) ⟨_, q⟩ ?_
 exact ⟨hz, its', _, hv, q⟩
theorem Inv.lnew {its : List Value} {t' : Nat} (I : Inv X pins σ H s) (hv : Vals ys its) (hz : ys.length ≤ sizeLine) :
   Inv X pins σ (upd H s.heap.objs.size (.lst ys)) { s with heap := s.heap.push { cls := .type "list", data := .seq its.toArray }, toks := t' } :=
 I.laid (fun _ _ q => Heap.get?_push_of_some _ q) (Nat.le_refl _) ⟨hz, its, 0, hv, Heap.get?_push_size _ rfl⟩
theorem Inv.fresh (I : Inv X pins σ H s) : H s.heap.objs.size = none := I.hok.fresh (Nat.le_refl _)
theorem Inv.lstM (I : Inv X pins σ H s) (hH : H l = some (.lst xs)) : xs.length ≤ sizeLine ∧ ∃ (its : List Value) (n : Nat), Vals xs its ∧ xs.length = its.length ∧ s.heap.get? l = some { cls := .type "list", data := .seq its.toArray n } := by
 obtain ⟨z, its, n, r, e⟩ := I.hok l _ hH
 exact ⟨z, its, n, r, r.length, e⟩
theorem notLongL {n : Nat} (h : n ≤ sizeLine) : Builtin.List.listTooLong n = false := by
 unfold Builtin.List.listTooLong
 exact decide_eq_false (by omega)
end
section
variable {X : Cx}
noncomputable def rAppend : V → List V → Hp → VK → Prop := fun x vs H Q => ∃ l xs y, x = .ref l ∧ vs = [y] ∧ H l = some (.lst xs) ∧ xs.length < sizeLine ∧ Q .non (upd H l (.lst (xs ++ [y])))
theorem mt_append : MtM X "list.append" rAppend := by
 intro pins s σ H x vs v us Q I rx rv h
 obtain ⟨l, xs, y, rfl, rfl, hH, hz, q⟩ := h
 cases rx
 obtain ⟨u, rfl, ru⟩ := rv.one
 obtain ⟨z, its, n, r, hl, e⟩ := I.lstM hH
 refine call_meets F.slot_list_append ⟨_, e, rfl⟩ F.entry_list_append (F.args_list_append_2 _ _) (PySem.list_append l its.toArray n u (by rw [List.size_toArray]; omega)) ⟨e, ?_⟩
 refine ⟨.non, _, I.lset (its' := its ++ [u]) hH e (by simp) (r.append (.cons ru .nil)) ?_, rfl, q⟩
 rw [List.length_append, List.length_singleton]
 omega
noncomputable def rExtend : V → List V → Hp → VK → Prop := fun x vs H Q => ∃ l b xs zs, x = .ref l ∧ vs = [.ref b] ∧ H l = some (.lst xs) ∧ H b = some (.lst zs) ∧ xs.length + zs.length ≤ sizeLine ∧ Q .non (upd H l (.lst (xs ++ zs)))
theorem mt_extend : MtM X "list.extend" rExtend := by
 intro pins s σ H x vs v us Q I rx rv h
 obtain ⟨l, b, xs, zs, rfl, rfl, hH, hB, hz, q⟩ := h
 cases rx
 obtain ⟨u, rfl, ru⟩ := rv.one
 cases ru
 obtain ⟨z, its, n, r, hl, e⟩ := I.lstM hH
 obtain ⟨z2, its2, n2, r2, hl2, e2⟩ := I.lstM hB
 have hsz : its.toArray.size + its2.toArray.size ≤ sizeLine := by rw [List.size_toArray, List.size_toArray]; omega
 have hlong : ¬ (!its.toArray.isEmpty && Builtin.List.listTooLong (its.toArray.size + its2.toArray.size)) = true := by
   rw [notLongL hsz, Bool.and_false]
   exact Bool.false_ne_true
 refine call_meets F.slot_list_extend ⟨_, e, rfl⟩ F.entry_list_extend (F.args_list_extend_2 _ _)
   (AutoSeq1.list_extend_list_list_0 l its.toArray n b its2.toArray n2 hlong (by rw [List.size_toArray]; omega) (by omega)) ⟨e, e2, ?_⟩
 refine ⟨.non, _, I.lset (its' := its ++ its2) hH e (by simp) (r.append r2) ?_, rfl, q⟩
 rw [List.length_append]
 omega
noncomputable def rCat : R2 := fun x y H Q => ∃ l b xs zs, x = .ref l ∧ y = .ref b ∧ H l = some (.lst xs) ∧ H b = some (.lst zs) ∧ xs.length + zs.length ≤ sizeLine ∧ ∀ p, H p = none → Q (.ref p) (upd H p (.lst (xs ++ zs)))
theorem op_cat : OpR X (binaryOp .Add) rCat := by
 intro pins s σ H x y v u Q I rx ry h
 obtain ⟨l, b, xs, zs, rfl, rfl, hH, hB, hz, q⟩ := h
 cases rx
 cases ry
 obtain ⟨z, its, n, r, hl, e⟩ := I.lstM hH
 obtain ⟨z2, its2, n2, r2, hl2, e2⟩ := I.lstM hB
 refine PySem.P.add_list e e2 ?_ (by rw [List.size_toArray, List.size_toArray]; omega)
 have ea : its.toArray ++ its2.toArray = (its ++ its2).toArray := by simp
 rw [ea]
 exact ⟨.ref _, _, I.lnew (t' := s.toks) (r.append r2) (by rw [List.length_append]; omega), rfl, q _ I.fresh⟩
end
section
variable {prog : Program} {w : World} {A : Around} {E : Value → Shared → Prop} {s : Shared}
end
section
variable {X : Cx}
end
end L2
namespace L2
open PySem PySem.Spec PyProof.Rows
section
variable {prog : Program} {w : World} {A : Around} {E : Value → Shared → Prop} {s : Shared} {l : Addr} {its : List Value} {ns : List Int} {Q : Value → Shared → Prop}
end
section
variable {X : Cx}
end
section
variable {X : Cx}
end
section
variable {X : Cx}
end
section
variable {X : Cx}
end
mutual
inductive Dp (K : PySem.W.Frag) (H : Hp) : V → PyData → Prop
 | non : Dp K H .non .none
 | bl (b : Bool) : Dp K H (.bl b) (.bool b)
 | int (i : Int) : Dp K H (.int i) (.int i)
 | str (x : Str) : Dp K H (.str x) (.str x)
 | lst {a : Addr} {xs : List V} {ds : List PyData} : SqL K H a xs → DpAll K H xs ds → Dp K H (.ref a) (.list ds)
 | tup {a : Addr} {xs : List V} {ds : List PyData} : SqT K H a xs → DpAll K H xs ds → Dp K H (.ref a) (.tuple ds)
inductive DpAll (K : PySem.W.Frag) (H : Hp) : List V → List PyData → Prop
 | nil : DpAll K H [] []
 | cons {v : V} {vs : List V} {d : PyData} {ds : List PyData} : Dp K H v d → DpAll K H vs ds → DpAll K H (v :: vs) (d :: ds)
end
section
variable {X : Cx} {pins : List (Addr × Obj)} {σ : St} {H : Hp} {s : Shared}
mutual
theorem Dp.reads (I : Inv X pins σ H s) : ∀ (d : PyData) (v : V) (u : Value), Dp X.K H v d → RelV v u → ∃ as, Reads s.heap u d as
 | .none, _, _, h, r => by
   cases h
   cases r
   exact ⟨_, Reads.none⟩
 | .bool b, _, _, h, r => by
   cases h
   cases r
   exact ⟨_, Reads.bool b⟩
 | .int i, _, _, h, r => by
   cases h
   obtain ⟨t, rfl⟩ := r
   exact ⟨_, Reads.int i t⟩
 | .str x, _, _, h, r => by
   cases h
   obtain ⟨t, rfl⟩ := r
   exact ⟨_, Reads.str x t⟩
 | .list ds, _, _, h, r => by
   cases h with
   | lst hs ha =>
     cases r
     obtain ⟨its, rv, ⟨o, n, ho, hc, _, hd⟩, _⟩ := I.list hs
     obtain ⟨as, hr⟩ := Dp.readsAll I ds _ its ha rv
     exact ⟨_, Reads.list ho hc hd hr⟩
 | .tuple ds, _, _, h, r => by
   cases h with
   | tup hs ha =>
     cases r
     obtain ⟨its, rv, ⟨o, ho, hc, n, hd⟩, _⟩ := I.tuple hs
     obtain ⟨as, hr⟩ := Dp.readsAll I ds _ its ha rv
     exact ⟨_, Reads.tuple ho hc hd hr⟩
 | .dict _, _, _, h, _ => by cases h
theorem Dp.readsAll (I : Inv X pins σ H s) : ∀ (ds : List PyData) (vs : List V) (us : List Value), DpAll X.K H vs ds → Vals vs us → ∃ as, ReadsAll s.heap us ds as
 | [], _, _, h, r => by
   cases h
   cases r
   exact ⟨_, ReadsAll.nil⟩
 | d :: ds, _, _, h, r => by
   cases h with
   | cons h1 h2 =>
     cases r with
     | cons r1 r2 =>
       obtain ⟨as, q1⟩ := Dp.reads I d _ _ h1 r1
       obtain ⟨bs, q2⟩ := Dp.readsAll I ds _ _ h2 r2
       exact ⟨_, ReadsAll.cons q1 q2⟩
end
end
section
variable {X : Cx}
noncomputable def rEqD (K : PySem.W.Frag) : R2 := fun x y H Q => ∃ d e, Dp K H x d ∧ Dp K H y e ∧ SeqAt.shaped d = true ∧ SeqAt.shaped e = true ∧ Q (.bl (PyData.eqv d e)) H
theorem op_eqD (hu : X.A.units + 64 < cLine) : OpR X (compareOp .Eq) (rEqD X.K) := by
 intro pins s σ H x y v u Q I rx ry h
 obtain ⟨d, e, hd, he, sd, se, q⟩ := h
 obtain ⟨as, r1⟩ := Dp.reads I d x v hd rx
 obtain ⟨bs, r2⟩ := Dp.reads I e y u he ry
 exact SeqAt.compareEq_shaped r1 r2 sd se hu ⟨.bl _, H, I, rfl, q⟩
end
end L2
namespace L2
open PySem PySem.Spec PyProof.Rows
noncomputable abbrev CellAt (h : Heap) (c : Addr) (v : Option Value) : Prop := h.IsCell c v
noncomputable def relS (scope sc : Scope) : Scope :=
 { scope with names := scope.names.map fun (n, k) => if (k == .free && sc.kind == .function && sc.names.lookup n == some .cell) then (n, .cell) else (n, k) }
noncomputable def cloFrom (cells : List (Str × Addr)) : List (Str × NameKind) → List (Str × Addr) → List (Str × Addr)
 | [], acc => acc
 | (n, k) :: r, acc => if k == .free then cloFrom cells r ((n, (cells.lookup n).getD 0) :: acc) else cloFrom cells r acc
theorem closure_loop (env : Env) (f : Str × NameKind → List (Str × Addr) → Sem (ForInStep (List (Str × Addr))))
   (hf : ∀ n k c, f (n, k) c = if k == .free then (do let a ← cellOf env n; pure (.yield ((n, a) :: c))) else pure (.yield c)) :
   ∀ (names : List (Str × NameKind)) (acc : List (Str × Addr)), (∀ y ∈ names, y.2 = .free → ∃ c, env.cells.lookup y.1 = some c) → forIn names acc f = pure (cloFrom env.cells names acc)
 | [], acc, _ => by rw [List.forIn_nil]; rfl
 | (n, k) :: r, acc, h => by
   rw [List.forIn_cons, hf]
   have ih := fun acc => closure_loop env f hf r acc fun y hy => h y (List.mem_cons_of_mem _ hy)
   unfold cloFrom
   by_cases hk : (k == NameKind.free) = true
   · rw [if_pos hk, if_pos hk]
     obtain ⟨c, hc⟩ := h (n, k) List.mem_cons_self (by simpa using hk)
     have e : cellOf env n = pure c := by unfold cellOf; rw [hc]
     rw [e]
     have e2 : (env.cells.lookup n).getD 0 = c := by rw [hc]; rfl
     rw [e2]
     exact ih _
   · rw [if_neg hk, if_neg hk]
     exact ih _
theorem closure_ok {scope : Scope} {env : Env} (h : ∀ y ∈ scope.names, y.2 = .free → ∃ c, env.cells.lookup y.1 = some c) : closureFor scope env = pure (cloFrom env.cells scope.names []) := by
 simp only [closureFor]
 rw [closure_loop env _ (fun n k c => rfl) scope.names [] h]
 rfl
theorem mem_lookup {α : Type} : ∀ {l : List (Str × α)} {n : Str} {c : α}, (n, c) ∈ l → ∃ c', l.lookup n = some c'
 | (k, v) :: r, n, c, h => by
   rw [List.lookup_cons]
   cases hb : n == k with
   | true => exact ⟨_, rfl⟩
   | false =>
     rcases List.mem_cons.mp h with e | h
     · cases e; simp at hb
     · exact mem_lookup h
theorem cloFrom_mem {cells : List (Str × Addr)} : ∀ {names : List (Str × NameKind)} {acc : List (Str × Addr)} {n : Str} {c : Addr}, (n, c) ∈ cloFrom cells names acc → (n, c) ∈ acc ∨ ((n, .free) ∈ names ∧ c = (cells.lookup n).getD 0)
 | [], _, _, _, h => .inl h
 | (m, k) :: r, acc, n, c, h => by
   unfold cloFrom at h
   split at h
   · rename_i hk
     have hk : k = .free := by simpa using hk
     rcases cloFrom_mem h with h | ⟨h1, h2⟩
     · rcases List.mem_cons.mp h with e | h
       · cases e; exact .inr ⟨hk ▸ List.mem_cons_self, rfl⟩
       · exact .inl h
     · exact .inr ⟨List.mem_cons_of_mem _ h1, h2⟩
   · rcases cloFrom_mem h with h | ⟨h1, h2⟩
     · exact .inl h
     · exact .inr ⟨List.mem_cons_of_mem _ h1, h2⟩
theorem cloFrom_acc {cells : List (Str × Addr)} : ∀ {names : List (Str × NameKind)} {acc : List (Str × Addr)} {p : Str × Addr}, p ∈ acc → p ∈ cloFrom cells names acc
 | [], _, _, h => h
 | (m, k) :: r, acc, p, h => by
   unfold cloFrom
   split
   · exact cloFrom_acc (List.mem_cons_of_mem _ h)
   · exact cloFrom_acc h
theorem cloFrom_has {cells : List (Str × Addr)} : ∀ {names : List (Str × NameKind)} {acc : List (Str × Addr)} {n : Str}, (n, .free) ∈ names → (n, (cells.lookup n).getD 0) ∈ cloFrom cells names acc
 | (m, k) :: r, acc, n, h => by
   unfold cloFrom
   rcases List.mem_cons.mp h with e | h
   · cases e
     exact cloFrom_acc List.mem_cons_self
   · split
     · exact cloFrom_has h
     · exact cloFrom_has h
theorem cells_mem : ∀ {names : List (Str × NameKind)} {h : Heap} {acc : List (Str × Addr)} {x : Str} {c : Addr}, (x, c) ∈ cellsFrom h.objs.size names acc →
   (x, c) ∈ acc ∨ ((x, .cell) ∈ names ∧ h.objs.size ≤ c ∧ CellAt (pushCells h names) c none)
 | [], _, _, _, _, h => .inl h
 | (n, k) :: r, h, acc, x, c, hm => by
   unfold cellsFrom at hm
   unfold pushCells
   split at hm
   · rename_i hk
     rw [if_pos hk]
     have hk : k = .cell := by simpa using hk
     rw [← Heap.size_push h { cls := .type "cell", data := .cell none }] at hm
     rcases cells_mem hm with hm | ⟨h1, h2, h3⟩
     · rcases List.mem_cons.mp hm with e | hm
       · cases e
         exact .inr ⟨hk ▸ List.mem_cons_self, Nat.le_refl _, _, pushCells_keeps r _ _ _ (Heap.get?_push_size _ rfl), rfl⟩
       · exact .inl hm
     · rw [Heap.size_push] at h2
       exact .inr ⟨List.mem_cons_of_mem _ h1, Nat.le_of_succ_le h2, h3⟩
   · rename_i hk
     rw [if_neg hk]
     rcases cells_mem hm with hm | ⟨h1, h2, h3⟩
     · exact .inl hm
     · exact .inr ⟨List.mem_cons_of_mem _ h1, h2, h3⟩
theorem cells_acc : ∀ {names : List (Str × NameKind)} {n : Nat} {acc : List (Str × Addr)} {p : Str × Addr}, p ∈ acc → p ∈ cellsFrom n names acc
 | [], _, _, _, h => h
 | (m, k) :: r, n, acc, p, h => by
   unfold cellsFrom
   split
   · exact cells_acc (List.mem_cons_of_mem _ h)
   · exact cells_acc h
theorem cells_has : ∀ {names : List (Str × NameKind)} {n : Nat} {acc : List (Str × Addr)} {x : Str}, (x, .cell) ∈ names → ∃ c, (x, c) ∈ cellsFrom n names acc
 | (m, k) :: r, n, acc, x, h => by
   unfold cellsFrom
   rcases List.mem_cons.mp h with e | h
   · cases e
     exact ⟨n, cells_acc List.mem_cons_self⟩
   · split
     · exact cells_has h
     · exact cells_has h
theorem cells_inj : ∀ {names : List (Str × NameKind)} {h : Heap} {acc : List (Str × Addr)} {x y : Str} {c : Addr}, (∀ p ∈ acc, p.2 < h.objs.size) → (∀ x y c, (x, c) ∈ acc → (y, c) ∈ acc → x = y) →
   (x, c) ∈ cellsFrom h.objs.size names acc → (y, c) ∈ cellsFrom h.objs.size names acc → x = y
 | [], _, _, _, _, _, _, hi, h1, h2 => hi _ _ _ h1 h2
 | (n, k) :: r, h, acc, x, y, c, hl, hi, h1, h2 => by
   unfold cellsFrom at h1 h2
   split at h1
   · rename_i hk
     rw [if_pos hk] at h2
     rw [← Heap.size_push h { cls := .type "cell", data := .cell none }] at h1 h2
     refine cells_inj (h := h.push _) (fun p hp => ?_) (fun x y c a b => ?_) h1 h2
     · rw [Heap.size_push]
       rcases List.mem_cons.mp hp with rfl | hp
       · exact Nat.lt_succ_self _
       · exact Nat.lt_succ_of_lt (hl p hp)
     · rcases List.mem_cons.mp a with e | a <;> rcases List.mem_cons.mp b with e' | b
       · cases e; cases e'; rfl
       · cases e; exact absurd (hl _ b) (Nat.lt_irrefl _)
       · cases e'; exact absurd (hl _ a) (Nat.lt_irrefl _)
       · exact hi _ _ _ a b
   · rename_i hk
     rw [if_neg hk] at h2
     exact cells_inj hl hi h1 h2
theorem newEnv_comp {M : Model} {A : Around} {E : Value → Shared → Prop} {s : Shared} {scope : Scope} {globals : Addr} {closure : List (Str × Addr)} {qual : Str} {func : Option Addr} {code : Value} {around : Env} {builtins : Addr} {Q : Env → Shared → Prop}
   (h : Q (newEnv scope s.heap.objs.size globals (cellsFrom (s.heap.objs.size + 1) scope.names closure) qual func code (some around) builtins)
     { s with heap := pushCells (s.heap.push { cls := .type "dict", data := .dict #[] }) scope.names }) :
   wpAny M A (newFunctionEnv scope globals closure [] qual func code (some around) builtins) Q E s := by
 simp only [newFunctionEnv, Option.isSome_some, if_true]
 refine wpAny_bind (wpAny_alloc ?_)
 refine wpAny_bind (wpAny_layCells _ (fun n k c => rfl) scope.names closure _ _ ?_)
 rw [show ({ s with heap := s.heap.push { cls := .type "dict", data := .dict #[] } } : Shared).heap.objs.size = s.heap.objs.size + 1 from Heap.size_push ..]
 rw [List.forIn_nil]
 exact wpAny_bind (wpAny_pure (wpAny_pure h))
theorem lookup_relS {sc : Scope} : ∀ {names : List (Str × NameKind)} {x : Str} {k : NameKind},
   (names.map fun (n, k) => if (k == NameKind.free && sc.kind == .function && sc.names.lookup n == some .cell) then (n, NameKind.cell) else (n, k)).lookup x = some k →
   ∃ k', names.lookup x = some k' ∧ (k = k' ∨ (k' = .free ∧ k = .cell))
 | [], _, _, h => by simp at h
 | (n, k₀) :: r, x, k, h => by
   have ih := @lookup_relS sc r x k
   have h' : List.lookup x ((if (k₀ == NameKind.free && sc.kind == .function && sc.names.lookup n == some .cell) = true then (n, NameKind.cell) else (n, k₀)) :: (r.map _)) = some k := h
   cases hx : x == n with
   | true =>
     simp only [List.lookup_cons, hx]
     by_cases hc : (k₀ == NameKind.free && sc.kind == .function && sc.names.lookup n == some .cell) = true
     · rw [if_pos hc] at h'
       simp only [List.lookup_cons, hx] at h'
       cases h'
       simp only [Bool.and_eq_true, beq_iff_eq] at hc
       exact ⟨k₀, rfl, .inr ⟨hc.1.1, rfl⟩⟩
     · rw [if_neg hc] at h'
       simp only [List.lookup_cons, hx] at h'
       cases h'
       exact ⟨_, rfl, .inl rfl⟩
   | false =>
     simp only [List.lookup_cons, hx]
     by_cases hc : (k₀ == NameKind.free && sc.kind == .function && sc.names.lookup n == some .cell) = true
     · rw [if_pos hc] at h'
       simp only [List.lookup_cons, hx] at h'
       exact ih h'
     · rw [if_neg hc] at h'
       simp only [List.lookup_cons, hx] at h'
       exact ih h'
structure BlkOk (N : List Str) (sc scope : Scope) (own : List (Str × Nat)) : Prop where
 kind : scope.kind = .function
 uniq : ∀ y ∈ scope.names, scope.names.lookup y.1 = some y.2
 ix : ∀ p ∈ own, N[p.2]? = some p.1
 free : ∀ y ∈ scope.names, y.2 = .free → sc.names.lookup y.1 = some .cell ∨ sc.names.lookup y.1 = some .free
 own : ∀ y ∈ scope.names, y.2 = .local ∨ y.2 = .cell → y.1 ∈ own.map (·.1) ∨ y.1 ∉ N
noncomputable def wipe (σ : St) : List Nat → St
 | [] => σ
 | v :: vs => (wipe σ vs).set v none
theorem wipe_length (σ : St) : ∀ vs : List Nat, (wipe σ vs).length = σ.length
 | [] => rfl
 | v :: vs => by unfold wipe; rw [List.length_set, wipe_length σ vs]
theorem wipe_some {σ : St} {i : Nat} {x : V} : ∀ {vs : List Nat}, (wipe σ vs)[i]? = some (some x) → σ[i]? = some (some x) ∧ i ∉ vs
 | [], h => ⟨h, by simp⟩
 | v :: vs, h => by
   unfold wipe at h
   by_cases hi : v = i
   · subst hi
     by_cases hv : v < (wipe σ vs).length
     · rw [List.getElem?_set_self hv] at h; cases h
     · rw [List.getElem?_eq_none (by simpa using hv)] at h; cases h
   · rw [List.getElem?_set_ne hi] at h
     obtain ⟨h1, h2⟩ := wipe_some h
     exact ⟨h1, by simp only [List.mem_cons, not_or]; exact ⟨fun e => hi e.symm, h2⟩⟩
noncomputable abbrev Cx.blk (X : Cx) (s : Shared) (H : Hp) (scope : Scope) (cenv : Env) (fp : List Addr) : Cx := { X with s_0 := s, H_0 := H, env := cenv, outer := X.stack, ex := fp, fn := fun x => scope.names.lookup x == some .cell, pn := [], xe := fun _ _ => False }
section
variable {X : Cx} {pins : List (Addr × Obj)} {σ : St} {H : Hp} {s : Shared}
theorem block_start {scope : Scope} {own : List (Str × Nat)} {fp : List Addr} (I : Inv X pins σ H s) (ok : BlkOk X.N X.env.scope scope own) (hN : X.N.Nodup) (hfp : ∀ b ∈ fp, FpOk X pins H b ∧ b < s.heap.objs.size) :
   Inv (X.blk s H scope (compEnvC scope (cellsFrom (s.heap.objs.size + 1) scope.names (cloFrom X.env.cells scope.names [])) s.heap.objs.size X.env) fp) [] (wipe σ (own.map (·.2))) H { s with heap := pushCells (s.heap.push { cls := .type "dict", data := .dict #[] }) scope.names } := by
 have hfree : ∀ y ∈ scope.names, y.2 = .free → ∃ c, X.env.cells.lookup y.1 = some c := fun y hy e => by
   rcases ok.free y hy e with k | k
   · exact I.ok.has _ (.inl k)
   · exact I.ok.has _ (.inr k)
 generalize hcenv : compEnvC scope (cellsFrom (s.heap.objs.size + 1) scope.names (cloFrom X.env.cells scope.names [])) s.heap.objs.size X.env = cenv
 have kp : ∀ b o, s.heap.get? b = some o → (pushCells (s.heap.push { cls := .type "dict", data := .dict #[] }) scope.names).get? b = some o := fun b o e => pushCells_keeps _ _ _ _ (Heap.get?_push_of_some _ e)
 have hL : cenv.locals = s.heap.objs.size := by rw [← hcenv]; rfl
 have hcl : cenv.cells = cellsFrom (s.heap.objs.size + 1) scope.names (cloFrom X.env.cells scope.names []) := by rw [← hcenv]; rfl
 have hsc : cenv.scope = relS scope X.env.scope := by rw [← hcenv]; rfl
 rw [← Heap.size_push s.heap { cls := .type "dict", data := .dict #[] }] at hcl
 have cm : ∀ {y c}, (y, c) ∈ cloFrom X.env.cells scope.names [] → X.env.cells.lookup y = some c ∧ c < s.heap.objs.size := fun {y c} hm => by
   rcases cloFrom_mem hm with hm | ⟨h1, rfl⟩
   · cases hm
   · obtain ⟨c, hc⟩ := hfree _ h1 rfl
     rw [hc]
     obtain ⟨w, z⟩ := I.cell _ _ hc
     exact ⟨rfl, z.lt⟩
 have mem : ∀ {y c}, cenv.cells.lookup y = some c → (X.env.cells.lookup y = some c ∧ c < s.heap.objs.size) ∨ (s.heap.objs.size + 1 ≤ c ∧ CellAt (pushCells (s.heap.push { cls := .type "dict", data := .dict #[] }) scope.names) c none) := fun {y c} e => by
   rw [hcl] at e
   rcases cells_mem (PySem.mem_of_lookup e) with hm | ⟨_, h2, h3⟩
   · exact .inl (cm hm)
   · rw [Heap.size_push] at h2; exact .inr ⟨h2, h3⟩
 have look : ∀ {y}, scope.names.lookup y = some .free → ∃ c, cenv.cells.lookup y = some c ∧ X.env.cells.lookup y = some c := fun {y} hl => by
   have hy : (y, NameKind.free) ∈ scope.names := PySem.mem_of_lookup hl
   obtain ⟨c', e'⟩ := mem_lookup (cells_acc (names := scope.names) (n := (s.heap.push { cls := .type "dict", data := .dict #[] }).objs.size) (cloFrom_has (cells := X.env.cells) (acc := []) hy))
   rw [← hcl] at e'
   refine ⟨c', e', ?_⟩
   rw [hcl] at e'
   rcases cells_mem (PySem.mem_of_lookup e') with hm | ⟨h1, _, _⟩
   · exact (cm hm).1
   · have := ok.uniq _ h1
     rw [hl] at this; cases this
 have okB : (X.blk s H scope cenv fp).Ok := by
   refine ⟨I.ok.mod, by show cenv.scope.kind = _; rw [hsc]; exact ok.kind, by show cenv.globals = _; rw [← hcenv]; exact I.ok.glob, by show cenv.builtins = _; rw [← hcenv]; exact I.ok.blt, by show s.heap.objs.size ≤ cenv.locals; rw [hL]; exact Nat.le_refl _,
     fun y z c e1 e2 => ?_, fun y hy => ?_, fun y c z e => ?_, I.ok.hd, I.ok.frames, .inl rfl, fun b hb => ⟨?_, fun y c e z => ?_⟩, I.bs, Nat.le_trans I.ok.bsz I.sz, fun b o e hb => ?_, fun b hb z => ?_, I.stack, I.stkFree⟩
   · have e1 : cenv.cells.lookup y = some c := e1
     have e2 : cenv.cells.lookup z = some c := e2
     rw [hcl] at e1 e2
     refine cells_inj (fun p hp => ?_) (fun y z c a b => I.ok.inj y z c (cm a).1 (cm b).1) (PySem.mem_of_lookup e1) (PySem.mem_of_lookup e2)
     rw [Heap.size_push]
     exact Nat.lt_succ_of_lt (cm (y := p.1) (c := p.2) hp).2
   · show ∃ c, cenv.cells.lookup y = some c
     have key : ∀ k, cenv.kindOf y = some k → (k = .cell ∨ k = .free) → ∃ c, cenv.cells.lookup y = some c := fun k hk hk' => by
       unfold Env.kindOf at hk
       rw [hsc] at hk
       obtain ⟨k', e, r⟩ := lookup_relS hk
       have : k' = .cell ∨ k' = .free := by
         rcases r with rfl | ⟨rfl, _⟩
         · exact hk'
         · exact .inr rfl
       rcases this with rfl | rfl
       · obtain ⟨c, hm⟩ := cells_has (n := (s.heap.push { cls := .type "dict", data := .dict #[] }).objs.size) (acc := cloFrom X.env.cells scope.names []) (PySem.mem_of_lookup e)
         obtain ⟨c', e'⟩ := mem_lookup hm
         exact ⟨c', by rw [hcl]; exact e'⟩
       · obtain ⟨c, h1, _⟩ := look e
         exact ⟨c, h1⟩
     rcases hy with hy | hy
     · exact key _ hy (.inl rfl)
     · exact key _ hy (.inr rfl)
   · have z : (scope.names.lookup y == some NameKind.cell) = true := z
     have z : scope.names.lookup y = some .cell := by simpa using z
     have e : cenv.cells.lookup y = some c := e
     rw [hcl] at e
     rcases cells_mem (PySem.mem_of_lookup e) with hm | ⟨_, h2, _⟩
     · rcases cloFrom_mem hm with hm | ⟨h1, _⟩
       · cases hm
       · have q := ok.uniq _ h1
         rw [z] at q; cases q
     · rw [Heap.size_push] at h2
       exact Nat.le_of_succ_le h2
   · show b ≠ cenv.locals
     rw [hL]; exact Nat.ne_of_lt (hfp b hb).2
   · have e : cenv.cells.lookup y = some c := e
     rcases mem e with ⟨h1, _⟩ | ⟨h1, _⟩
     · exact (hfp b hb).1.2.2.2.2.1 y c h1 z
     · have h2 : s.heap.objs.size + 1 ≤ b := by rw [← z]; exact h1
       exact absurd (Nat.lt_of_lt_of_le (hfp b hb).2 (Nat.le_of_succ_le h2)) (Nat.lt_irrefl _)
   · rcases (hfp b hb).1.2.2.2.1 with z | z
     · exact I.ok.noex b o e z
     · exact absurd (Nat.lt_of_lt_of_le (Heap.lt_size e) (Nat.le_trans I.ok.bsz z)) (Nat.lt_irrefl _)
   · rcases List.mem_cons.mp (I.stkSub b z) with z | z
     · exact (hfp b hb).1.2.1 z
     · exact (hfp b hb).1.2.2.1 z
 refine ⟨okB, rfl, I.bare, Un.kept kp, ⟨fun _ => none, ?_, fun i y av e1 e2 e3 => ?_⟩, fun y c e => ?_, ?_, fun y c e => ?_, fun p hp => ?_, I.hok.kept kp, by rw [wipe_length]; exact I.len⟩
 · show Heap.Ns _ cenv.locals _
   rw [hL]
   exact Heap.Ns.keeps (Heap.Ns.new ..) fun b o e => pushCells_keeps _ _ _ _ e
 · obtain ⟨e2, hne⟩ := wipe_some e2
   have hfr : scope.names.lookup y = some .free ∧ (cenv.kindOf y = some .cell ∨ cenv.kindOf y = some .free) := by
     have key : ∀ k, cenv.scope.names.lookup y = some k → k = .local ∨ k = .cell ∨ k = .free → scope.names.lookup y = some .free ∧ (cenv.kindOf y = some .cell ∨ cenv.kindOf y = some .free) := fun k hk hk' => by
       have hk0 := hk
       rw [hsc] at hk
       obtain ⟨k', e, r⟩ := lookup_relS hk
       have no : ¬ (k' = .local ∨ k' = .cell) := fun hh => by
         rcases ok.own _ (PySem.mem_of_lookup e) hh with e' | e'
         · obtain ⟨p, hp, hpy⟩ := List.mem_map.mp e'
           have e3 := ok.ix p hp
           have : p.1 = y := hpy
           rw [this] at e3
           exact hne (List.mem_map.mpr ⟨p, hp, nodup_ix hN e3 e1⟩)
         · exact e' (List.mem_of_getElem? e1)
       rcases r with rfl | ⟨rfl, rfl⟩
       · rcases hk' with rfl | rfl | rfl
         · exact absurd (.inl rfl) no
         · exact absurd (.inr rfl) no
         · exact ⟨e, .inr hk0⟩
       · exact ⟨e, .inl hk0⟩
     have e3 : Vis cenv.scope y := e3
     rcases e3 with e3 | e3 | e3
     · exact key _ e3 (.inl rfl)
     · exact key _ e3 (.inr (.inl rfl))
     · exact key _ e3 (.inr (.inr rfl))
   obtain ⟨m, hn, hl⟩ := I.loc
   have hvis : Vis X.env.scope y := (ok.free _ (PySem.mem_of_lookup hfr.1) rfl).elim (fun k => .inr (.inl k)) (fun k => .inr (.inr k))
   obtain ⟨w, r, q⟩ := hl i y av e1 e2 hvis
   refine ⟨w, r, .inr ⟨hfr.2, ?_⟩⟩
   obtain ⟨c, h1, h2⟩ := look hfr.1
   rcases q with ⟨k, _⟩ | ⟨_, c', e', z⟩
   · have k : X.env.scope.names.lookup y = some .local := k
     rcases ok.free _ (PySem.mem_of_lookup hfr.1) rfl with k' | k' <;> rw [show X.env.scope.names.lookup y = _ from k'] at k <;> cases k
   · rw [h2] at e'; cases e'
     exact ⟨c, h1, z.keeps kp⟩
 · have e : cenv.cells.lookup y = some c := e
   rcases mem e with ⟨h1, _⟩ | ⟨_, z⟩
   · obtain ⟨w, z⟩ := I.cell y c h1
     exact ⟨w, z.keeps kp⟩
   · exact ⟨_, z⟩
 · show H cenv.locals = none
   rw [hL]; exact I.hok.fresh (Nat.le_refl _)
 · have e : cenv.cells.lookup y = some c := e
   rcases mem e with ⟨h1, _⟩ | ⟨h1, _⟩
   · exact I.freeC y c h1
   · exact I.hok.fresh (Nat.le_of_succ_le h1)
 · exact absurd (show p ∈ ([] : List (Addr × Obj)) ++ [] from hp) (by simp)
theorem app_ok {E : Value → Shared → Prop} {D : Addr} {xs : List V} {y : V} {v : Value} {Q : Value → Shared → Prop} (I : Inv X pins σ H s) (hD : H D = some (.lst xs)) (hz : xs.length < sizeLine) (r : RelV y v)
   (h : ∀ s', Inv X pins σ (upd H D (.lst (xs ++ [y]))) s' → Q .none s') : wpAny (model X.prog X.w) X.A (call (.builtin "list.append") [.ref D, v]) Q E s := by
 obtain ⟨hz', its, n, ri, e⟩ := I.hok D _ hD
 have hl := ri.length
 refine append_at (hsz := by rw [List.size_toArray]; omega) e fun h' sb ho' => ?_
 refine h { s with heap := h' } (I.write (t' := s.toks) (by rw [hD]; trivial) (.inl rfl) (fun b u hb q => (sb.2 b hb).trans q) ⟨_, ho'⟩ ⟨by rw [List.length_append]; exact hz, its ++ [v], n + 1, ri.append (.cons r .nil), ?_⟩)
 rw [ho']
 simp
noncomputable def PTs (X : Cx) (ifs : List Expr) (t : TT) : Prop :=
 ∀ (pins : List (Addr × Obj)) (s : Shared) (σ : St) (H : Hp) (Q : Bool → Hp → Prop), Inv X pins σ H s → t σ H Q →
   wpAny (model X.prog X.w) X.A (forIn ifs true fun c r => if r = true then do let ok ← isTrue c X.env (eval c X.env); pure (ForInStep.yield ok) else pure (ForInStep.yield r)) (TP X pins σ Q) X.xe s
noncomputable def tYes : TT := fun _ H Q => Q true H
theorem pts_nil : PTs X [] tYes := fun _ _ _ H _ I h => wpAny_tests_nil ⟨H, I, h⟩
end
theorem thnF {α : Type} {t : Sem α} {Q Q' : α → Shared → Prop} {M : Model} {A : Around} {E : Value → Shared → Prop} {s : Shared} (h : wpAny M A t Q (fun _ _ => False) s) (hQ : ∀ a s, Q a s → Q' a s) : wpAny M A t Q' E s := wpAny_mono h hQ fun _ _ z => False.elim z
theorem compLoop_any {prog : Program} {w : World} {A : Around} {R : Result → Shared → Prop} {s : Shared} {elt target iter : Expr} {ifs : List Expr} {scope : Scope} {pos : Pos} {it acc : Value} {env : Env} (I : Nat → Shared → Prop)
   (turn : ∀ n s, I n s → wpAny (model prog w) A (pyNext it) (fun r s₁ => match r with
     | none => R (.ok .next) s₁
     | some v => wpAny (model prog w) A (letOwnedTupleGo target it v) (fun _ s₁' => wpAny (model prog w) A (assign target env v) (fun _ s₂ =>
         wpAny (model prog w) A (forIn ifs true fun c r => if r = true then do let ok ← isTrue c env (eval c env); pure (ForInStep.yield ok) else pure (ForInStep.yield r)) (fun ok s₃ =>
           if ok = true then wpAny (model prog w) A (eval elt env) (fun x s₄ =>
             wpAny (model prog w) A (call (.builtin "list.append") [acc, x]) (fun _ s₅ => ∃ m, m < n ∧ I m s₅) (notedBy (model prog w) A env fun e s' => R (.error e) s') s₄) (notedBy (model prog w) A env fun e s' => R (.error e) s') s₃
           else ∃ m, m < n ∧ I m s₃) (notedBy (model prog w) A env fun e s' => R (.error e) s') s₂) (notedBy (model prog w) A env fun e s' => R (.error e) s') s₁') (notedBy (model prog w) A env fun e s' => R (.error e) s') s₁) (notedBy (model prog w) A env fun e s' => R (.error e) s') s)
   (n : Nat) (h : I n s) :
   codeAny (model prog w) A (.compLoop (.ListComp elt [⟨target, iter, ifs, 0⟩] scope pos) 0 it acc env) R s := by
 refine codeAny_loop rfl I (fun n s hI => ?_) n h
 show wpAny _ A ((compTurn (.ListComp elt [⟨target, iter, ifs, 0⟩] scope pos) 0 it acc env).onRaise (fun x => do noteFrame x env; theTreesLotGoes x)) _ _ s
 refine wpAny_noted ?_
 rw [compTurn_list]
 refine wpAny_bind (wpAny_standAt (wpAny_bind (wpAny_mono (turn n s hI) (fun r s₁ h₁ => ?_) fun _ _ h' => h')))
 cases r with
 | none => exact wpAny_pure h₁
 | some v =>
   refine wpAny_bind (wpAny_mono h₁ (fun _ s₁' h₁' => ?_) fun _ _ h' => h')
   refine wpAny_bind (wpAny_mono h₁' (fun _ s₂ h₂ => wpAny_bind (wpAny_mono h₂ (fun ok s₃ h₃ => ?_) fun _ _ h' => h')) fun _ _ h' => h')
   cases ok with
   | false => exact wpAny_pure ⟨rfl, h₃⟩
   | true =>
     exact wpAny_bind (wpAny_bind (wpAny_mono h₃ (fun x s₄ h₄ => wpAny_bind (wpAny_mono h₄ (fun _ s₅ h₅ => wpAny_pure (wpAny_pure ⟨rfl, h₅⟩)) fun _ _ h' => h')) fun _ _ h' => h'))
section
variable {X : Cx}
noncomputable def tLc (wi : TI) (g : TG) (tt : TT) (te : TE) (vs : List Nat) : TE := fun σ H Q => wi σ H fun J H1 => ∀ D, H1 D = none → ∃ W : Nat → Nat → Hp → Prop, (∃ m, W 0 m (upd H1 D (.lst []))) ∧ ∀ i m H, W i m H →
 (J.stop i H ∧ Q (.ref D) H) ∨ (J.go i H ∧ ∃ Nx : Hp → Prop, (∀ H', Nx H' → ∃ m', m' < m ∧ W (i + 1) m' H') ∧ ∀ x H', J.yld i H x H' → g x (wipe σ vs) H' fun σ2 H2 => wipe σ2 vs = wipe σ vs ∧ tt σ2 H2 fun b H3 =>
   if b = true then te σ2 H3 fun y H4 => ∃ acc, H4 D = some (.lst acc) ∧ acc.length < sizeLine ∧ Nx (upd H4 D (.lst (acc ++ [y]))) else Nx H3)
theorem lc_core {pins : List (Addr × Obj)} {s : Shared} {σ : St} {H : Hp} {Q : VK} {elt tg iter : Expr} {ifs : List Expr} {scope : Scope} {own : List (Str × Nat)} {pos pos' : Pos} {wi : TI} {g : TG} {tt : TT} {te : TE} {use : Option (Value → Sem Unit)} {Qf : Value → Shared → Prop}
   (hc : X.calm = true) (hN : X.N.Nodup) (I : Inv X pins σ H s) (hi : PI X tg iter wi) (ok : BlkOk X.N X.env.scope scope own)
   (hg : ∀ (s : Shared) (H : Hp) (C : Addr) (cl : List (Str × Addr)) (fp : List Addr), PG (X.blk s H scope (compEnvC scope cl C X.env) fp) tg g) (ht : ∀ (s : Shared) (H : Hp) (C : Addr) (cl : List (Str × Addr)) (fp : List Addr), PTs (X.blk s H scope (compEnvC scope cl C X.env) fp) ifs tt)
   (he : ∀ (s : Shared) (H : Hp) (C : Addr) (cl : List (Str × Addr)) (fp : List Addr), PE (X.blk s H scope (compEnvC scope cl C X.env) fp) elt te) (hs : ∀ x, foldedSetIterable iter X.env x = pure x)
   (h : tLc wi g tt te (own.map (·.2)) σ H Q)
   (hRR : ∀ D C s' m H', Inv X pins σ H' s' → Q (.ref D) H' → s'.heap.Ns C m → FpOk X pins H' C → compPost (model X.prog X.w) X.A X.xe use Qf (.ref D) C (.ok .next) s') :
   wpAny (model X.prog X.w) X.A (comprehension (.ListComp elt [⟨tg, iter, ifs, 0⟩] scope pos) scope X.env pos' (newList []) false (eval iter X.env) use) Qf X.xe s := by
 have hfree : ∀ y ∈ scope.names, y.2 = .free → ∃ c, X.env.cells.lookup y.1 = some c := fun y hy e => by
   rcases ok.free y hy e with k | k
   · exact I.ok.has _ (.inl k)
   · exact I.ok.has _ (.inr k)
 refine wpAny_comprehension_free (use := use) rfl hs (closure_ok hfree) ok.kind (fun y hy e => by rw [ok.uniq y hy, e])
   (thn (hi pins s σ H _ I h) fun xv s1 hx => thn hx fun itv s2 h2 => ?_)
 obtain ⟨it, fp, tn, J, H2, e, I2, T, st2, f2, q⟩ := h2
 subst e
 refine wpAny_newObj_type (newEnv_comp ?_) (by show 0 ≤ sizeLine; decide)
 generalize hD : s2.heap.objs.size = D
 have hDn : H2 D = none := I2.hok.fresh (Nat.le_of_eq hD)
 obtain ⟨W, ⟨m0, w0⟩, turn⟩ := q D hDn
 generalize hs3 : ({ s2 with heap := s2.heap.push { cls := .type "list", data := .seq ([] : List Value).toArray } } : Shared) = s3
 have I3 : Inv X pins σ (upd H2 D (.lst [])) s3 := by
   rw [← hs3]
   refine I2.laid (t' := s2.toks) (fun b o e => Heap.get?_push_of_some _ e) (Nat.le_of_eq hD) ⟨Nat.zero_le _, [], 0, .nil, ?_⟩
   rw [← hD]
   exact Heap.get?_push_size _ rfl
 have h3 : s3.heap = s2.heap.push { cls := .type "list", data := .seq ([] : List Value).toArray } := by rw [← hs3]
 have sz : ∀ b ∈ fp, b < s2.heap.objs.size := fun b hb => by
   obtain ⟨o, e, _⟩ := T.obj _ _ st2 b hb
   exact Heap.lt_size e
 have f3 : ∀ b ∈ fp, FpOk X pins (upd H2 D (.lst [])) b ∧ b < s3.heap.objs.size := fun b hb => by
   have hlt := sz b hb
   refine ⟨⟨?_, (f2 b hb).2⟩, by rw [h3, Heap.size_push]; exact Nat.lt_succ_of_lt hlt⟩
   rw [upd_ne (by rw [← hD]; exact Nat.ne_of_lt hlt)]
   exact (f2 b hb).1
 have st3 : tn 0 s3.heap := T.keep _ _ _ st2 fun b _ o e => by rw [h3]; exact Heap.get?_push_of_some _ e
 have I4 := block_start I3 ok hN f3
 have pg := hg s3 (upd H2 D (.lst [])) s3.heap.objs.size (cellsFrom (s3.heap.objs.size + 1) scope.names (cloFrom X.env.cells scope.names [])) fp
 have pt := ht s3 (upd H2 D (.lst [])) s3.heap.objs.size (cellsFrom (s3.heap.objs.size + 1) scope.names (cloFrom X.env.cells scope.names [])) fp
 have pe := he s3 (upd H2 D (.lst [])) s3.heap.objs.size (cellsFrom (s3.heap.objs.size + 1) scope.names (cloFrom X.env.cells scope.names [])) fp
 show codeAny _ _ (.compStart (.ListComp elt [⟨tg, iter, ifs, 0⟩] scope pos) 0 (.ref it) (.ref D) (compEnvC scope (cellsFrom (s3.heap.objs.size + 1) scope.names (cloFrom X.env.cells scope.names [])) s3.heap.objs.size X.env)) (compPost (model X.prog X.w) X.A X.xe use Qf (.ref D) s3.heap.objs.size) { s3 with heap := pushCells (s3.heap.push { cls := .type "dict", data := .dict #[] }) scope.names }
 have nfp : ∀ b ∈ fp, (upd H2 D (.lst [])) b = none := fun b hb => (f3 b hb).1.1
 generalize hce : compEnvC scope (cellsFrom (s3.heap.objs.size + 1) scope.names (cloFrom X.env.cells scope.names [])) s3.heap.objs.size X.env = ce at I4 pg pt pe ⊢
 have cL : ce.locals = s3.heap.objs.size := by subst hce; rfl
 generalize hH3 : upd H2 D (.lst []) = H3 at I3 I4 pg pt pe w0 nfp f3
 generalize hs4 : ({ s3 with heap := pushCells (s3.heap.push { cls := .type "dict", data := .dict #[] }) scope.names } : Shared) = s4 at I4 ⊢
 have st4 : tn 0 s4.heap := T.keep _ _ _ st3 fun b _ o e => by rw [← hs4]; exact pushCells_keeps _ _ _ _ (Heap.get?_push_of_some _ e)
 have stat : ∀ {σ' : St} {H' : Hp} {s' : Shared}, Inv (X.blk s3 H3 scope ce fp) [] σ' H' s' → (∀ b ∈ fp, H' b = none) → ∀ b ∈ fp, FpOk (X.blk s3 H3 scope ce fp) [] H' b := fun {σ' H' s'} I' hn b hb =>
   ⟨hn b hb, (I'.ok.exf b hb).1, I'.ok.exfs b hb, .inl hb, fun x c e => (I'.ok.exf b hb).2 x c e, fun p hp => absurd (show p ∈ ([] : List (Addr × Obj)) ++ [] from hp) (by simp)⟩
 have loop : codeAny (model X.prog X.w) X.A (.compLoop (.ListComp elt [⟨tg, iter, ifs, 0⟩] scope pos) 0 (.ref it) (.ref D) ce) (compPost (model X.prog X.w) X.A X.xe use Qf (.ref D) s3.heap.objs.size) s4 := by
   refine compLoop_any (fun n s' => ∃ i H', Inv (X.blk s3 H3 scope ce fp) [] (wipe σ (own.map (·.2))) H' s' ∧ tn i s'.heap ∧ (∀ b ∈ fp, H' b = none) ∧ W i n H') ?_ m0 ⟨0, H3, I4, st4, nfp, w0⟩
   rintro n s5 ⟨i, H5, I5, st5, n5, w5⟩
   rcases turn i n H5 w5 with ⟨stop, qq⟩ | ⟨go, Nx, hNx, step⟩
   · have td := T.done (X.blk s3 H3 scope ce fp) rfl rfl rfl hc i [] s5 _ H5 (fun _ _ => False) I5 (stat I5 n5) st5 stop
     refine thnF td fun r s6 ⟨hr, I6⟩ => ?_
     subst hr
     have I7 : Inv X pins σ H5 s6 := I3.call' (ch := fp) I6.os I6.base I6.hok I6.bare fun b hb => ⟨(f3 b hb).1.2.2.2.1, (f3 b hb).1.2.1, (f3 b hb).1.2.2.2.2.1, (f3 b hb).1.2.2.2.2.2⟩
     have nC : H5 s3.heap.objs.size = none := by
       have z : H5 ce.locals = none := I6.free
       rw [cL] at z
       exact z
     obtain ⟨m, hn, _⟩ := I6.loc
     have hn : s6.heap.Ns ce.locals m := hn
     rw [cL] at hn
     exact hRR D s3.heap.objs.size s6 m H5 I7 qq hn (I3.fpOk (Nat.le_refl _) nC)
   · have ti := T.item (X.blk s3 H3 scope ce fp) rfl rfl rfl hc i [] s5 _ H5 (fun _ _ => False) I5 (stat I5 n5) st5 go
     refine thnF ti fun r s6 ⟨u, hr, h6⟩ => ?_
     subst hr
     refine thnF h6 fun _ s7 ⟨x, H7, I7, r7, y7, st7, n7⟩ => ?_
     have I7' := I7.pinned (stat I7 n7) (T.obj _ _ st7)
     refine thnF (pg _ s7 _ H7 x u _ I7' r7 (step x H7 y7)) fun _ s8 ⟨σ8, H8, I8, hw8, q8⟩ => ?_
     refine thnF (pt _ s8 σ8 H8 _ I8 q8) fun b s9 ⟨H9, I9, q9⟩ => ?_
     have fin : ∀ {s' : Shared} {H' : Hp}, Inv (X.blk s3 H3 scope ce fp) ([] ++ pinsAt fp s7.heap) σ8 H' s' → Nx H' → ∃ m, m < n ∧ ∃ i H', Inv (X.blk s3 H3 scope ce fp) [] (wipe σ (own.map (·.2))) H' s' ∧ tn i s'.heap ∧ (∀ b ∈ fp, H' b = none) ∧ W i m H' := fun {s' H'} I' nx => by
       obtain ⟨m', hm, w'⟩ := hNx H' nx
       have pin' : ∀ b ∈ fp, ∀ o, s7.heap.get? b = some o → s'.heap.get? b = some o ∧ H' b = none := fun b hb o e =>
         let z := I'.pin (b, o) (List.mem_append_right _ (List.mem_append_right _ (mem_pinsAt hb e)))
         ⟨z.1, z.2.1⟩
       have hl : (wipe σ (own.map (·.2))).length = σ8.length := by rw [← hw8, wipe_length]
       refine ⟨m', hm, i + 1, H', (I'.unpinned (pins := [])).weak hl (fun j v e => ?_), T.keep _ _ _ st7 fun b hb o e => (pin' b hb o e).1, fun b hb => ?_, w'⟩
       · rw [← hw8] at e
         exact (wipe_some e).1
       · obtain ⟨o, e, _⟩ := T.obj _ _ st7 b hb
         exact (pin' b hb o e).2
     cases b with
     | false =>
       simp only [Bool.false_eq_true, if_false] at q9 ⊢
       exact fin I9 q9
     | true =>
       simp only [if_true] at q9 ⊢
       refine thnF (pe _ s9 σ8 H9 _ I9 q9) fun z s10 ⟨yv, H10, I10, r10, acc, hD10, hz10, nx⟩ => ?_
       exact app_ok (X := X.blk s3 H3 scope ce fp) I10 hD10 hz10 r10 fun s11 I11 => fin I11 nx
 exact codeAny_compStart_list loop (T.self X.A 0 _ _ _ st4 loop)
theorem pe_lc {elt tg iter : Expr} {ifs : List Expr} {scope : Scope} {own : List (Str × Nat)} {pos : Pos} {wi : TI} {g : TG} {tt : TT} {te : TE} (hc : X.calm = true) (hN : X.N.Nodup) (hi : PI X tg iter wi) (ok : BlkOk X.N X.env.scope scope own)
   (hg : ∀ (s : Shared) (H : Hp) (C : Addr) (cl : List (Str × Addr)) (fp : List Addr), PG (X.blk s H scope (compEnvC scope cl C X.env) fp) tg g) (ht : ∀ (s : Shared) (H : Hp) (C : Addr) (cl : List (Str × Addr)) (fp : List Addr), PTs (X.blk s H scope (compEnvC scope cl C X.env) fp) ifs tt)
   (he : ∀ (s : Shared) (H : Hp) (C : Addr) (cl : List (Str × Addr)) (fp : List Addr), PE (X.blk s H scope (compEnvC scope cl C X.env) fp) elt te) (hs : ∀ x, foldedSetIterable iter X.env x = pure x := by intro _; rfl) :
   PE X (.ListComp elt [⟨tg, iter, ifs, 0⟩] scope pos) (tLc wi g tt te (own.map (·.2))) := by
 intro pins s σ H Q I h
 rw [eval_ListComp]
 refine lc_core hc hN I hi ok hg ht he hs h fun D C s' m H' I' q hn f => ⟨m, hn, fun h'' sb => ?_⟩
 obtain ⟨f0, f1, f2, f3, f4, f5⟩ := f
 exact ⟨.ref D, H', I'.turned (t' := s'.toks) (fun b o hb e => (sb.2 b hb).trans e) f0 f1 f3 f4 f5, rfl, q⟩
end
theorem lc_list {K : PySem.W.Frag} {a : Addr} {xs : List V} {g : TG} {tt : TT} {te : TE} {vs : List Nat} {σ : St} {H1 : Hp} {D : Addr} {Qd : Hp → Prop} (Pv : Nat → Hp → Prop) (h0 : Pv 0 (upd H1 D (.lst []))) (hl : ∀ i H, i ≤ xs.length → Pv i H → SqL K H a xs)
   (hs : ∀ i x H, xs[i]? = some x → Pv i H → g x (wipe σ vs) H fun σ2 H2 => wipe σ2 vs = wipe σ vs ∧ tt σ2 H2 fun b H3 =>
     if b = true then te σ2 H3 fun y H4 => ∃ acc, H4 D = some (.lst acc) ∧ acc.length < sizeLine ∧ Pv (i + 1) (upd H4 D (.lst (acc ++ [y]))) else Pv (i + 1) H3) (hd : ∀ H, Pv xs.length H → Qd H) :
   ∃ W : Nat → Nat → Hp → Prop, (∃ m, W 0 m (upd H1 D (.lst []))) ∧ ∀ i m H, W i m H →
     ((Itl K a).stop i H ∧ Qd H) ∨ ((Itl K a).go i H ∧ ∃ Nx : Hp → Prop, (∀ H', Nx H' → ∃ m', m' < m ∧ W (i + 1) m' H') ∧ ∀ x H', (Itl K a).yld i H x H' → g x (wipe σ vs) H' fun σ2 H2 => wipe σ2 vs = wipe σ vs ∧ tt σ2 H2 fun b H3 =>
       if b = true then te σ2 H3 fun y H4 => ∃ acc, H4 D = some (.lst acc) ∧ acc.length < sizeLine ∧ Nx (upd H4 D (.lst (acc ++ [y]))) else Nx H3) := by
 refine ⟨fun i m H => m = xs.length - i ∧ i ≤ xs.length ∧ Pv i H, ⟨xs.length, by simp, Nat.zero_le _, h0⟩, ?_⟩
 rintro i m H ⟨rfl, hi, p⟩
 have q := hl i H hi p
 by_cases hlt : i < xs.length
 · refine .inr ⟨⟨xs, xs[i], q, by simp [hlt]⟩, Pv (i + 1), fun H' p' => ⟨xs.length - (i + 1), by omega, rfl, hlt, p'⟩, fun x H' y => ?_⟩
   obtain ⟨e, y⟩ := y
   subst e
   exact hs i x _ (y xs q) p
 · have e : i = xs.length := by omega
   subst e
   exact .inl ⟨⟨xs, q, Nat.le_refl _⟩, hd H p⟩
noncomputable def blkC (N : List Str) (sc scope : Scope) (own : List (Str × Nat)) : Bool :=
 (match scope.kind with | .function => true | _ => false) && (scope.names.all fun y => decide (scope.names.lookup y.1 = some y.2)) && (own.all fun p => decide (N[p.2]? = some p.1)) &&
   (scope.names.all fun y => match y.2 with
     | .free => (match sc.names.lookup y.1 with | some .cell => true | some .free => true | _ => false)
     | .local => decide (y.1 ∈ own.map (·.1)) || decide (y.1 ∉ N)
     | .cell => decide (y.1 ∈ own.map (·.1)) || decide (y.1 ∉ N)
     | _ => true)
theorem blkOk_by {N : List Str} {sc scope : Scope} {own : List (Str × Nat)} (h : blkC N sc scope own = true) : BlkOk N sc scope own := by
 unfold blkC at h
 simp only [Bool.and_eq_true, List.all_eq_true, decide_eq_true_eq] at h
 obtain ⟨⟨⟨h1, h2⟩, h3⟩, h4⟩ := h
 refine ⟨?_, h2, h3, fun y hy e => ?_, fun y hy e => ?_⟩
 · split at h1
   · assumption
   · cases h1
 · have q := h4 y hy
   simp only [e] at q
   split at q <;> first | exact .inl (by assumption) | exact .inr (by assumption) | cases q
 · have q := h4 y hy
   rcases e with e | e <;> (simp only [e, Bool.or_eq_true, decide_eq_true_eq] at q; exact q)
end L2
namespace L2
open PySem PySem.Spec PyProof.Rows
section
variable {κ : Type} [DecidableEq κ]
end
section
variable {P : Program} {w : World} {H : Hp} {h : Heap} {a : Addr}
end
section
variable {X : Cx} {pins : List (Addr × Obj)} {σ : St} {H : Hp} {s : Shared} {a : Addr} {y v : V} {u r : Value} {o : Option V} {A : Around} {E : Value → Shared → Prop}
end
section
variable {X : Cx} {pins : List (Addr × Obj)} {σ : St} {H : Hp} {s : Shared} {a : Addr} {kvs : List (Key × V)} {k : Key} {u : Value} {A : Around} {E : Value → Shared → Prop}
end
noncomputable def NoSl (i : Expr) : Prop := ∀ ov iv, subscripted i false ov iv = operate [ov, iv] (getItem ov iv)
theorem subD_of {prog : Program} {w : World} {A : Around} {E : Value → Shared → Prop} {s : Shared} {env : Env} {value slice : Expr} {pos : Pos} {T id : String} {Q : Value → Shared → Prop}
   (hl : typeLookup (.type T) "__getitem__" = pure (some (.builtin id))) (hs : NoSl slice)
   (h : wpAny (model prog w) A (eval value env) (fun o s₁ => wpAny (model prog w) A (eval slice env) (fun i s₂ => s₂.TypeIs o T ∧ wpAny (model prog w) A (getItem o i) Q E s₂) E s₁) E s) :
   wpAny (model prog w) A (eval (.Subscript value slice pos) env) Q E s := by
 refine Subscript_ (wpAny_mono h (fun o s₁ h₁ => wpAny_mono h₁ (fun i s₂ h₂ => ?_) fun _ _ x => x) fun _ _ x => x)
 obtain ⟨hT, h₂⟩ := h₂
 unfold subscriptTail
 refine wpAny_bind ?_
 rw [getitemInPython_of_ne hT.not_modules]
 refine wpAny_bind (wpAny_specialOf hT hl ?_)
 have fin : wpAny (model prog w) A (subscripted slice false o i) (fun r s₃ => wpAny (model prog w) A (letTemporaryGo value o r >>= fun _ => pure r) Q E s₃) E s₂ := by
   rw [hs o i]
   exact wpAny_operating (wpAny_mono h₂ (fun r s₃ h₃ => wpAny_bind (wpAny_letTemporaryGo (wpAny_pure h₃))) fun _ _ x => x)
 first
   | exact wpAny_pure (wpAny_bind fin)
   | exact wpAny_bind (wpAny_pure (wpAny_bind fin))
   | exact wpAny_bind fin
section
variable {X : Cx} {o i e value : Expr} {pos pos' tpos : Pos} {td ty tv : TE}
end
section
variable {X : Cx} {pos : Pos}
end
section
variable {X : Cx} {pins : List (Addr × Obj)} {σ : St} {H : Hp} {s : Shared} {a : Addr} {y d : V} {u r : Value} {o : Option V} {A : Around} {E : Value → Shared → Prop}
end
section
variable {X : Cx} {o e f : Expr} {apos cpos : Pos} {td ty tx : TE}
end
section
variable {X : Cx} {pins : List (Addr × Obj)} {σ : St} {H : Hp} {s : Shared} {a : Addr} {kvs : List (Key × V)} {A : Around} {E : Value → Shared → Prop}
end
section
variable {X : Cx} {pins : List (Addr × Obj)} {σ : St} {H : Hp} {s : Shared} {a : Addr} {y : V} {u : Value} {A : Around} {E : Value → Shared → Prop}
end
end L2
namespace L2
open PySem PySem.Spec PyProof.Rows
section
variable {X : Cx} {pins : List (Addr × Obj)} {σ : St} {H : Hp} {s : Shared} {h' : Heap}
end
section
variable {X : Cx}
theorem pi_one {tg : Expr} {pins : List (Addr × Obj)} {σ : St} {H : Hp} {s : Shared} {R : It → Hp → Prop} {J : It} {tn : Nat → Heap → Prop} {tk : Nat} (I : Inv X pins σ H s) (o : Obj)
   (T : Turn X.prog X.w X.K tg J [s.heap.objs.size] s.heap.objs.size tn) (st : tn 0 (s.heap.push o)) (q : R J H) : PIE X pins σ tg R (.ref s.heap.objs.size) { s with heap := s.heap.push o, toks := tk } := by
 refine ⟨s.heap.objs.size, [s.heap.objs.size], tn, J, H, rfl, I.kept fun b ob e => Heap.get?_push_of_some _ e, T, st, fun b hb => ?_, q⟩
 have e : b = s.heap.objs.size := by simpa using hb
 subst e
 exact I.fpOk (Nat.le_refl _) (I.hok.fresh (Nat.le_refl _))
end
noncomputable def Itc (lo c : Int) (n : Nat) : It := ⟨fun i _ => i < n, fun i H x H' => H' = H ∧ x = .int (lo + (i : Nat) * c), fun i _ => n ≤ i⟩
theorem turn_rangeC {P : Program} {w : World} {K : PySem.W.Frag} {tg : Expr} (it : Addr) (lo c : Int) (n : Nat) : Turn P w K tg (Itc lo c n) [it] it (fun i h => IsRangeIter h it (lo + (i : Nat) * c) ((n : Int) - (i : Nat)) c) where
 mem := by simp
 obj := fun i h st b hb => by
   have e : b = it := by simpa using hb
   subst e
   exact ⟨_, st, fun v z => nomatch z⟩
 keep := fun i h h' st k => k it (by simp) _ st
 item := by
   intro X hP hw hK hc i pins s σ H E I hf st hg
   subst hP hw hK
   obtain ⟨f0, f1, f2, f3, f4, f5⟩ := hf it (by simp)
   have W := Walks.range (prog := X.prog) (w := X.w) (I.ok.hd hc) it lo c n
   refine W.item i s _ _ hg st fun v h' tk hv st' kk => ?_
   obtain ⟨t, rfl⟩ := hv
   have I1 : Inv X pins σ H { s with heap := h', toks := tk } := I.turned (fun b o hb e => kk b o (by simpa using hb) e) f0 f1 f3 f4 f5
   exact ⟨_, rfl, go_of (s := { s with heap := h', toks := tk }) (n := "range_iterator") st' rfl rfl (by decide) ⟨.int (lo + (i : Nat) * c), H, I1, ⟨t, rfl⟩, ⟨rfl, rfl⟩, st', fun b hb => (hf b hb).1⟩⟩
 done := by
   intro X hP hw hK hc i pins s σ H E I hf st hg
   subst hP hw hK
   obtain ⟨f0, f1, f2, f3, f4, f5⟩ := hf it (by simp)
   exact wpAny_pyNext_range_end (I.ok.hd hc) st (by have : n ≤ i := hg; omega) fun h' eb => ⟨rfl, I.turned (t' := s.toks) (fun b o hb e => eb b o hb e) f0 f1 f3 f4 f5⟩
 self := fun A i s Q E st h => wpAny_pyIter_rangeiter st h
noncomputable def RgC (i j c : Int) (n : Nat) : Prop := c ≠ 0 ∧ c.natAbs < 1073741824 ∧ Builtin.Range.small i j c = true ∧ Builtin.Range.rangeSize i j c = n
theorem RgC.neg {i j : Int} (ha : -(2 ^ 62) ≤ i) (ha' : i < 2 ^ 62) (hb : -(2 ^ 62) ≤ j) (hb' : j < 2 ^ 62) : RgC i j (-1) (i - j).toNat :=
 ⟨by decide, by decide, PySem.W.small_down ha ha' hb hb', PySem.W.rangeSize_downNat i j⟩
noncomputable def iRng3 (ta : TA) : TI := fun σ H R => ta σ H fun vs H1 => ∃ (i j c : Int) (n : Nat), vs = [.int i, .int j, .int c] ∧ RgC i j c n ∧ R (Itc i c n) H1
section
variable {X : Cx} {tg : Expr}
theorem pi_range3 {a b c : Expr} {ta : TA} {p pos : Pos} (hg : Gl X "range") (hm : X.mg "range" = none) (ha : PA X [a, b, c] ta)
   (hs : starEach [a, b, c] X.env = (false, eval a X.env) :: starEach [b, c] X.env := by rfl) (hpl : (backTo pos (starEach [b, c] X.env)).any (·.1) = false := by rfl) :
   PI X tg (.Call (.Name "range" p) [a, b, c] [] pos) (iRng3 ta) := by
 intro pins s σ H R I h
 refine Call_ (ld_blt I hg hm boot_range (PyProof.Rows.callWith_type1 (thn (ha pos pins s σ H _ I h) fun us s1 ⟨vs, H1, I1, r1, q1⟩ => ?_) hs hpl))
 obtain ⟨i, j, k, n, e, ⟨c0, c1, c2, c3⟩, q⟩ := q1
 subst e
 cases r1 with
 | cons r rr =>
   cases rr with
   | cons r' rr =>
     cases rr with
     | cons r'' rr =>
       cases rr
       obtain ⟨t, rfl⟩ := r
       obtain ⟨t', rfl⟩ := r'
       obtain ⟨t'', rfl⟩ := r''
       refine call_range_3 c0 ?_ (.inl (PyProof.noPylong_small c1))
       refine wpAny_pyIter_range (IsRange.new ..) c2 ?_
       have I2 : Inv X pins σ H1 { s1 with heap := s1.heap.push { cls := .type "range", data := .fields #[.int i t, .int j t', .int k t''] } } := I1.kept (t' := s1.toks) fun b o e => Heap.get?_push_of_some _ e
       refine pi_one (tk := s1.toks) I2 _ (turn_rangeC _ i k n) ?_ q
       have e1 : i + ((0 : Nat) : Int) * k = i := by simp
       have e2 : (n : Int) - ((0 : Nat) : Int) = Builtin.Range.rangeSize i j k := by rw [c3]; simp
       show IsRangeIter _ _ (i + ((0 : Nat) : Int) * k) ((n : Int) - ((0 : Nat) : Int)) k
       rw [e1, e2]
       exact Heap.get?_push_size _ rfl
end
theorem for_rangeC {lo c : Int} {n : Nat} {g : TG} {tb : TS} {D : Ends} {σ : St} {H : Hp} (Pv : Nat → St → Hp → Prop) (h0 : Pv 0 σ H)
   (hs : ∀ i σ H, i < n → Pv i σ H → g (.int (lo + (i : Nat) * c)) σ H fun σ2 H2 => tb { D with nx := Pv (i + 1), ct := Pv (i + 1), bk := D.nx } σ2 H2) (hd : ∀ σ H, Pv n σ H → D.nx σ H) :
   ∃ W : Nat → Nat → St → Hp → Prop, (∃ m, W 0 m σ H) ∧ ∀ i m σ H, W i m σ H →
     ((Itc lo c n).stop i H ∧ D.nx σ H) ∨ ((Itc lo c n).go i H ∧ ∃ N : St → Hp → Prop, (∀ σ' H', N σ' H' → ∃ m', m' < m ∧ W (i + 1) m' σ' H') ∧ ∀ x H', (Itc lo c n).yld i H x H' → g x σ H' fun σ2 H2 => tb { D with nx := N, ct := N, bk := D.nx } σ2 H2) := by
 refine ⟨fun i m σ H => m = n - i ∧ i ≤ n ∧ Pv i σ H, ⟨n, by simp, Nat.zero_le _, h0⟩, ?_⟩
 rintro i m σ H ⟨rfl, hi, p⟩
 by_cases hlt : i < n
 · refine .inr ⟨hlt, Pv (i + 1), fun σ' H' p' => ⟨n - (i + 1), by omega, rfl, hlt, p'⟩, fun x H' y => ?_⟩
   obtain ⟨e, y⟩ := y
   subst e y
   exact hs i σ _ hlt p
 · have e : i = n := by omega
   subst e
   exact .inl ⟨Nat.le_refl _, hd σ H p⟩
end L2
namespace Att
open PySem PySem.W PySem.Calls PyProof.Rows
section
variable {prog : Program} {w : World} {A : Around} {E : Value → Shared → Prop} {s : Shared} {K : Frag}
end
end Att
namespace L2
open PySem PySem.Spec PyProof.Rows
end L2
namespace L2
open PySem PySem.Spec PyProof.Rows
end L2
namespace L2
open PySem PySem.Spec PyProof.Rows
noncomputable def inClass (s : Stmt) (j : Nat) : Stmt := match s with
 | .ClassDef _ _ _ body _ _ _ _ _ _ _ => body.getD j (.Pass ⟨0, 0, 0, 0⟩)
 | _ => .Pass ⟨0, 0, 0, 0⟩
noncomputable def defArgs (s : Stmt) : Arguments := match s with
 | .FunctionDef _ a _ _ _ _ _ _ _ _ => a
 | _ => { posonlyargs := [], args := [], vararg := none, kwonlyargs := [], kw_defaults := [], kwarg := none, defaults := [] }
noncomputable def defBody (s : Stmt) : List Stmt := match s with
 | .FunctionDef _ _ b _ _ _ _ _ _ _ => b
 | _ => []
noncomputable def defScope (s : Stmt) : Scope := match s with
 | .FunctionDef _ _ _ _ _ _ sc _ _ _ => sc
 | _ => { kind := .function, names := [], isGenerator := false, isCoroutine := false }
structure Fun (K : PySem.W.Frag) (x qual : Str) (st : Stmt) (f : Addr) (fd : FuncData) : Prop where
 ex : ∃ (oc : Value) (od : Option Addr) (kV doc pm : Value) (an : Option Addr) (cdv ct : Value) (osl : Array (Option Value)),
   fd = PySem.W.fnOf x qual (defArgs st) (defBody st) (defScope st) .none kV doc pm an cdv ct ∧ K.lookup f = some ⟨oc, od, .func fd, osl⟩ ∧ PySem.W.codeIn K cdv qual = true
 kp : PySem.W.keepIn K (.ref f) = true
section
variable {P : Program} {w : World} {K : PySem.W.Frag} {mg : Str → Option Value} {base : Heap}
theorem Fun.binds {x qual : Str} {st : Stmt} {f : Addr} {fd : FuncData} {ps : List Str} (F : Fun K x qual st f fd)
   (h : ∀ (kV doc pm : Value) (an : Option Addr) (cdv ct : Value) (us : List Value), us.length = ps.length → bindArgs (PySem.W.fnOf x qual (defArgs st) (defBody st) (defScope st) .none kV doc pm an cdv ct) ⟨us, []⟩ = pure (ps.zip us)) : Binds K fd ps [] := by
 obtain ⟨oc, od, kV, doc, pm, an, cdv, ct, osl, rfl, lk, hcd⟩ := F.ex
 exact .all (h kV doc pm an cdv ct)
theorem fun_mk {x qual : Str} {st : Stmt} {f : Addr} {oc : Value} {od an : Option Addr} {osl : Array (Option Value)} {kV doc pm cdv ct : Value} (l : K.lookup f = some ⟨oc, od, .func (PySem.W.fnOf x qual (defArgs st) (defBody st) (defScope st) .none kV doc pm an cdv ct), osl⟩)
   (c : PySem.W.codeIn K cdv qual = true) (k : PySem.W.keepIn K (.ref f) = true) : Fun K x qual st f (PySem.W.fnOf x qual (defArgs st) (defBody st) (defScope st) .none kV doc pm an cdv ct) := ⟨⟨oc, od, kV, doc, pm, an, cdv, ct, osl, rfl, l, c⟩, k⟩
end
section
variable {X : Cx}
theorem pv (i : Nat) {x : Str} {pos : Pos} (hN : X.N[i]? = some x := by rfl) (hv : Vis X.env.scope x := by first | exact Or.inl rfl | exact Or.inr (Or.inl rfl) | exact Or.inr (Or.inr rfl)) (hd : (x == ("__debug__" : Str)) = false := by decide)
   (hcd : (x == ("__classdict__" : Str)) = false := by decide) : PE X (.Name x pos) (tVar i) := pe_var hN hv hd hcd
end
theorem iteF {A B : Prop} (h : B) : if false = true then A else B := by
 rw [if_neg Bool.false_ne_true]
 exact h
theorem iteT {A B : Prop} (h : A) : if true = true then A else B := by
 rw [if_pos rfl]
 exact h
theorem ite2 {c A B : Prop} [Decidable c] (h1 : c → A) (h2 : ¬ c → B) : if c then A else B := by
 by_cases h : c
 · rw [if_pos h]
   exact h1 h
 · rw [if_neg h]
   exact h2 h
noncomputable def Same (H H' : Hp) : Prop := ∀ b o, H b = some o → H' b = some o
theorem Same.refl (H : Hp) : Same H H := fun _ _ h => h
theorem Same.trans {H H1 H2 : Hp} (a : Same H H1) (b : Same H1 H2) : Same H H2 := fun c o h => b c o (a c o h)
theorem Same.free {H H' : Hp} (e : Same H H') {l : Addr} (h : H' l = Option.none) : H l = Option.none := by
 cases q : H l with
 | none => rfl
 | some o =>
   rw [e l o q] at h
   cases h
section
variable {κ : Type} [DecidableEq κ]
end
theorem at_of {xs : List V} {z : Int} {j : Nat} {v : V} (e : z = (j : Int)) (h : xs[j]? = some v) : atI xs z = some v := by
 rw [e]
 exact atI_nat h
end L2
end
section
section
set_option maxHeartbeats 2000000
namespace L2
open PySem PySem.Spec PyProof.Rows
open PySem.W (WData Codec OpenSpec Well WellAll ReadsW ReadsAllW)
mutual
inductive Dw (K : PySem.W.Frag) (H : Hp) : V → WData → Prop
 | non : Dw K H .non .none
 | bl (b : Bool) : Dw K H (.bl b) (.bool b)
 | int (i : Int) : Dw K H (.int i) (.int i)
 | str (x : Str) : Dw K H (.str x) (.str x)
 | byt (b : Array UInt8) : Dw K H (.byt b) (.bytes b.toList)
 | lst {a : Addr} {xs : List V} {ds : List WData} : SqL K H a xs → DwAll K H xs ds → Dw K H (.ref a) (.list ds)
 | tup {a : Addr} {xs : List V} {ds : List WData} : SqT K H a xs → DwAll K H xs ds → Dw K H (.ref a) (.tuple ds)
inductive DwAll (K : PySem.W.Frag) (H : Hp) : List V → List WData → Prop
 | nil : DwAll K H [] []
 | cons {v : V} {vs : List V} {d : WData} {ds : List WData} : Dw K H v d → DwAll K H vs ds → DwAll K H (v :: vs) (d :: ds)
end
theorem dw_ints {K : PySem.W.Frag} {H : Hp} : ∀ ns : List Int, DwAll K H (ns.map V.int) (ns.map WData.int)
 | [] => .nil
 | n :: r => .cons (.int n) (dw_ints r)
theorem ints_dw {K : PySem.W.Frag} {H : Hp} : ∀ (ns : List Int) (xs : List V), DwAll K H xs (ns.map WData.int) → xs = ns.map V.int
 | [], xs, h => by
   cases h
   rfl
 | n :: r, xs, h => by
   cases h with
   | cons h1 h2 =>
     cases h1
     rw [ints_dw r _ h2] <;> rfl
section
variable {P : Program} {w : World} {K : PySem.W.Frag} {H : Hp} {h : Heap} {R : PySem.W.WRecords} {cl : Str → Option Addr}
theorem sqL_at {a : Addr} {xs : List V} (hok : HOk P w H h) (KX : K.In h) (q : SqL K H a xs) : ∃ (its : List Value) (o : Obj) (n : Nat), Vals xs its ∧ h.get? a = some o ∧ o.cls = .type "list" ∧ o.data = .seq its.toArray n := by
 rcases q with q | ⟨o, its, n, e, hc, _, hd, _, hv⟩
 · obtain ⟨_, its, n, hv, e⟩ := (show ObjOk P w H h a (.lst xs) from q.ok hok)
   exact ⟨its, _, n, hv, e, rfl, rfl⟩
 · exact ⟨its.toList, o, n, hv, KX _ _ e, hc, by simp [hd]⟩
theorem sqT_at {a : Addr} {xs : List V} (hok : HOk P w H h) (KX : K.In h) (q : SqT K H a xs) : ∃ (its : List Value) (o : Obj) (n : Nat), Vals xs its ∧ h.get? a = some o ∧ o.cls = .type "tuple" ∧ o.data = .seq its.toArray n := by
 rcases q with q | ⟨o, its, n, e, hc, hd, _, hv⟩
 · obtain ⟨_, its, hv, o, e, hc, n, hd⟩ := (show ObjOk P w H h a (.tup xs) from q.ok hok)
   exact ⟨its, o, n, hv, e, hc, hd⟩
 · exact ⟨its.toList, o, n, hv, KX _ _ e, hc, by simp [hd]⟩
mutual
theorem Dw.reads (hok : HOk P w H h) (KX : K.In h) : ∀ (d : WData) (v : V) (u : Value), Dw K H v d → RelV v u → ∃ as, ReadsW R cl h u d as
 | .none, _, _, x, r => by
   cases x
   cases r
   exact ⟨_, ReadsW.none⟩
 | .bool b, _, _, x, r => by
   cases x
   cases r
   exact ⟨_, ReadsW.bool b⟩
 | .int i, _, _, x, r => by
   cases x
   obtain ⟨t, rfl⟩ := r
   exact ⟨_, ReadsW.int i t⟩
 | .str s, _, _, x, r => by
   cases x
   obtain ⟨t, rfl⟩ := r
   exact ⟨_, ReadsW.str s t⟩
 | .bytes b, _, _, x, r => by
   cases x
   obtain ⟨t, rfl⟩ := r
   exact ⟨_, ReadsW.bytes _ t⟩
 | .list ds, _, _, x, r => by
   cases x with
   | lst hs ha =>
     cases r
     obtain ⟨its, o, n, rv, ho, hc, hd⟩ := sqL_at hok KX hs
     obtain ⟨as, hr⟩ := Dw.readsAll hok KX ds _ its ha rv
     exact ⟨_, ReadsW.list ho hc hd hr⟩
 | .tuple ds, _, _, x, r => by
   cases x with
   | tup hs ha =>
     cases r
     obtain ⟨its, o, n, rv, ho, hc, hd⟩ := sqT_at hok KX hs
     obtain ⟨as, hr⟩ := Dw.readsAll hok KX ds _ its ha rv
     exact ⟨_, ReadsW.tuple ho hc hd hr⟩
 | .float _, _, _, x, _ => by cases x
 | .dict _, _, _, x, _ => by cases x
 | .bytearray _, _, _, x, _ => by cases x
 | .set _, _, _, x, _ => by cases x
 | .frozenset _, _, _, x, _ => by cases x
 | .obj _ _, _, _, x, _ => by cases x
theorem Dw.readsAll (hok : HOk P w H h) (KX : K.In h) : ∀ (ds : List WData) (vs : List V) (us : List Value), DwAll K H vs ds → Vals vs us → ∃ as, ReadsAllW R cl h us ds as
 | [], _, _, x, r => by
   cases x
   cases r
   exact ⟨_, ReadsAllW.nil⟩
 | d :: ds, _, _, x, r => by
   cases x with
   | cons h1 h2 =>
     cases r with
     | cons r1 r2 =>
       obtain ⟨as, q1⟩ := Dw.reads hok KX d _ _ h1 r1
       obtain ⟨bs, q2⟩ := Dw.readsAll hok KX ds _ _ h2 r2
       exact ⟨_, ReadsAllW.cons q1 q2⟩
end
end
mutual
noncomputable def plW : WData → Bool
 | .none => true
 | .bool _ => true
 | .int _ => true
 | .str _ => true
 | .bytes _ => true
 | .list xs => plWs xs
 | .tuple xs => plWs xs
 | _ => false
noncomputable def plWs : List WData → Bool
 | [] => true
 | x :: r => plW x && plWs r
end
theorem plWs_map {α : Type} {f : α → WData} (h : ∀ a, plW (f a) = true) : ∀ l : List α, plWs (l.map f) = true
 | [] => rfl
 | x :: r => by
   show (plW (f x) && plWs (r.map f)) = true
   rw [h x, plWs_map h r] <;> rfl
theorem pl_enc : ∀ (c : Codec) (a : c.denote), plW (c.enc a) = true
 | .unit, _ => rfl
 | .bool, _ => rfl
 | .int _ _, _ => rfl
 | .nat _ _, _ => rfl
 | .u8, _ => rfl
 | .bytes _ _, _ => rfl
 | .text _ _ _ _, _ => rfl
 | .list _ _ c, a => plWs_map (fun x => pl_enc c x) a
 | .pair c d, a => by
   show (plW (c.enc a.1) && (plW (d.enc a.2) && true)) = true
   rw [pl_enc c a.1, pl_enc d a.2] <;> rfl
 | .triple c d e, a => by
   show (plW (c.enc a.1) && (plW (d.enc a.2.1) && (plW (e.enc a.2.2) && true))) = true
   rw [pl_enc c a.1, pl_enc d a.2.1, pl_enc e a.2.2] <;> rfl
 | .option c, none => rfl
 | .option c, some x => pl_enc c x
theorem pl_encAll : ∀ (cs : List Codec) (a : Codec.denoteAll cs), plWs (Codec.encAll cs a) = true
 | [], _ => rfl
 | c :: cs, a => by
   show (plW (c.enc a.1) && plWs (Codec.encAll cs a.2)) = true
   rw [pl_enc c a.1, pl_encAll cs a.2] <;> rfl
theorem weight_mem : ∀ {xs : List WData} {d : WData}, d ∈ xs → d.weight ≤ WData.weightAll xs
 | [], d, h => absurd h (by simp)
 | x :: r, d, h => by
   show d.weight ≤ x.weight + 1 + WData.weightAll r
   rcases List.mem_cons.mp h with e | m
   · rw [e]
     omega
   · have z := weight_mem m
     omega
noncomputable def toV : Value → V
 | .none => .non
 | .bool b => .bl b
 | .int i _ => .int i
 | .str x _ => .str x
 | .bytes b _ => .byt b
 | .ref a => .ref a
 | _ => .non
noncomputable def OkU (A : List Addr) : Value → Prop
 | .none => True
 | .bool _ => True
 | .int _ _ => True
 | .str _ _ => True
 | .bytes _ _ => True
 | .ref a => a ∈ A
 | _ => False
theorem OkU.mono {A B : List Addr} (h : ∀ a ∈ A, a ∈ B) : ∀ {u : Value}, OkU A u → OkU B u := fun {u} x => by
 cases u with
 | ref a => exact h a x
 | none => trivial
 | bool b => trivial
 | int i t => trivial
 | str s t => trivial
 | bytes b t => trivial
 | _ => exact False.elim x
theorem relV_toV {A : List Addr} {u : Value} (x : OkU A u) : RelV (toV u) u := by
 cases u with
 | ref a => rfl
 | none => rfl
 | bool b => rfl
 | int i t => exact ⟨t, rfl⟩
 | str s t => exact ⟨t, rfl⟩
 | bytes b t => exact ⟨t, rfl⟩
 | _ => exact False.elim x
theorem vals_toV {A : List Addr} : ∀ {vs : List Value}, (∀ u ∈ vs, OkU A u) → Vals (vs.map toV) vs
 | [], _ => .nil
 | u :: r, h => .cons (relV_toV (h u (List.mem_cons_self ..))) (vals_toV fun x hx => h x (List.mem_cons_of_mem _ hx))
noncomputable def ArgOb (h : Heap) (A : List Addr) (a : Addr) : Prop := ∃ vs : List Value, vs.length ≤ sizeLine ∧ (∀ u ∈ vs, OkU A u) ∧
 (h.get? a = some { cls := .type "list", data := .seq vs.toArray } ∨ h.get? a = some { cls := .type "tuple", data := .seq vs.toArray })
theorem ArgOb.mono {h : Heap} {A B : List Addr} {a : Addr} (k : ∀ a ∈ A, a ∈ B) (x : ArgOb h A a) : ArgOb h B a := by
 obtain ⟨vs, h1, h2, h3⟩ := x
 exact ⟨vs, h1, fun u hu => (h2 u hu).mono k, h3⟩
theorem wellAll_len {P : Params} {h : Heap} : ∀ {vs : List Value} {ds : List WData}, WellAll P h vs ds → vs.length = ds.length
 | _, _, .nil => rfl
 | _, _, .cons _ b => by
   show _ + 1 = _ + 1
   rw [wellAll_len b]
theorem well_list {P : Params} {h : Heap} {v : Value} {ds : List WData} (x : Well P h v (.list ds)) : ∃ (a : Addr) (vs : List Value), v = .ref a ∧ h.get? a = some { cls := .type "list", data := .seq vs.toArray } ∧ WellAll P h vs ds := by
 cases x with
 | list ho hall => exact ⟨_, _, rfl, ho, hall⟩
theorem well_tuple {P : Params} {h : Heap} {v : Value} {ds : List WData} (x : Well P h v (.tuple ds)) : ∃ (a : Addr) (vs : List Value), v = .ref a ∧ h.get? a = some { cls := .type "tuple", data := .seq vs.toArray } ∧ WellAll P h vs ds := by
 cases x with
 | tuple ho hall => exact ⟨_, _, rfl, ho, hall⟩
theorem well_cons {P : Params} {h : Heap} {us : List Value} {d : WData} {ds : List WData} (x : WellAll P h us (d :: ds)) : ∃ (v : Value) (vs : List Value), us = v :: vs ∧ Well P h v d ∧ WellAll P h vs ds := by
 cases x with
 | cons a b => exact ⟨_, _, rfl, a, b⟩
theorem line_of {n : Nat} (h : n ≤ 1048576) : n ≤ sizeLine := Nat.le_trans h (by decide)
section
variable {P : Params} {h : Heap}
mutual
theorem area_one : ∀ (d : WData) (v : Value), Well P h v d → plW d = true → d.weight ≤ 1048576 → ∃ A : List Addr, OkU A v ∧ ∀ a ∈ A, ArgOb h A a
 | .none, _, x, _, _ => by
   cases x
   exact ⟨[], trivial, fun a m => absurd m (by simp)⟩
 | .bool b, _, x, _, _ => by
   cases x
   exact ⟨[], trivial, fun a m => absurd m (by simp)⟩
 | .int i, _, x, _, _ => by
   cases x
   exact ⟨[], trivial, fun a m => absurd m (by simp)⟩
 | .str s, _, x, _, _ => by
   cases x
   exact ⟨[], trivial, fun a m => absurd m (by simp)⟩
 | .bytes b, _, x, _, _ => by
   cases x
   exact ⟨[], trivial, fun a m => absurd m (by simp)⟩
 | .list ds, _, x, p, z => by
   obtain ⟨a, vs, rfl, ho, hall⟩ := well_list x
   have z2 : WData.weightAll ds ≤ 1048576 := z
   obtain ⟨A, h1, h2⟩ := area_all ds _ hall p fun d hd => Nat.le_trans (weight_mem hd) z2
   have k : ∀ b ∈ A, b ∈ a :: A := fun b hb => List.mem_cons_of_mem _ hb
   refine ⟨a :: A, List.mem_cons_self .., fun b hb => ?_⟩
   rcases List.mem_cons.mp hb with e | m
   · rw [e]
     exact ⟨vs, line_of (by rw [wellAll_len hall]; exact Nat.le_trans (PySem.W.length_le_weightAllW ds) z2), fun u hu => (h1 u hu).mono k, .inl ho⟩
   · exact (h2 b m).mono k
 | .tuple ds, _, x, p, z => by
   obtain ⟨a, vs, rfl, ho, hall⟩ := well_tuple x
   have z2 : WData.weightAll ds ≤ 1048576 := z
   obtain ⟨A, h1, h2⟩ := area_all ds _ hall p fun d hd => Nat.le_trans (weight_mem hd) z2
   have k : ∀ b ∈ A, b ∈ a :: A := fun b hb => List.mem_cons_of_mem _ hb
   refine ⟨a :: A, List.mem_cons_self .., fun b hb => ?_⟩
   rcases List.mem_cons.mp hb with e | m
   · rw [e]
     exact ⟨vs, line_of (by rw [wellAll_len hall]; exact Nat.le_trans (PySem.W.length_le_weightAllW ds) z2), fun u hu => (h1 u hu).mono k, .inr ho⟩
   · exact (h2 b m).mono k
 | .float _, _, _, p, _ => Bool.noConfusion (show false = true from p)
 | .dict _, _, _, p, _ => Bool.noConfusion (show false = true from p)
 | .bytearray _, _, _, p, _ => Bool.noConfusion (show false = true from p)
 | .set _, _, _, p, _ => Bool.noConfusion (show false = true from p)
 | .frozenset _, _, _, p, _ => Bool.noConfusion (show false = true from p)
 | .obj _ _, _, _, p, _ => Bool.noConfusion (show false = true from p)
theorem area_all : ∀ (ds : List WData) (vs : List Value), WellAll P h vs ds → plWs ds = true → (∀ d ∈ ds, d.weight ≤ 1048576) → ∃ A : List Addr, (∀ u ∈ vs, OkU A u) ∧ ∀ a ∈ A, ArgOb h A a
 | [], _, x, _, _ => by
   cases x
   exact ⟨[], fun u m => absurd m (by simp), fun a m => absurd m (by simp)⟩
 | d :: ds, _, x, p, z => by
   obtain ⟨v, vs, rfl, x1, x2⟩ := well_cons x
   have q : plW d = true ∧ plWs ds = true := Bool.and_eq_true_iff.mp p
   obtain ⟨A, a1, a2⟩ := area_one d v x1 q.1 (z d (List.mem_cons_self ..))
   obtain ⟨B, b1, b2⟩ := area_all ds vs x2 q.2 fun e he => z e (List.mem_cons_of_mem _ he)
   have kA : ∀ b ∈ A, b ∈ A ++ B := fun b hb => List.mem_append.mpr (.inl hb)
   have kB : ∀ b ∈ B, b ∈ A ++ B := fun b hb => List.mem_append.mpr (.inr hb)
   refine ⟨A ++ B, fun u hu => ?_, fun b hb => ?_⟩
   · rcases List.mem_cons.mp hu with e | m
     · rw [e]
       exact a1.mono kA
     · exact (b1 u m).mono kB
   · rcases List.mem_append.mp hb with m | m
     · exact (a2 b m).mono kA
     · exact (b2 b m).mono kB
end
end
noncomputable def hoOf (o : Obj) : Option HO := match o.data with
 | .seq vs _ => if (o.cls == Value.type "list") = true then some (.frz o (.lst (vs.toList.map toV))) else some (.frz o (.tup (vs.toList.map toV)))
 | _ => none
noncomputable def argH (K : PySem.W.Frag) (h : Heap) (A : List Addr) : Hp := fun b => if b ∈ A then (if (K.lookup b).isNone = true then (h.get? b).bind hoOf else none) else none
noncomputable def OnlyF (H : Hp) : Prop := ∀ b, H b = none ∨ ∃ o u, H b = some (.frz o u)
theorem hoOf_lst (vs : List Value) : hoOf { cls := .type "list", data := .seq vs.toArray } = some (.frz { cls := .type "list", data := .seq vs.toArray } (.lst (vs.map toV))) := by
 show (if (Value.type "list" == Value.type "list") = true then some (HO.frz { cls := .type "list", data := .seq vs.toArray } (.lst (vs.toArray.toList.map toV))) else some (HO.frz { cls := .type "list", data := .seq vs.toArray } (.tup (vs.toArray.toList.map toV)))) = _
 rw [if_pos (beq_self_eq_true _)]
theorem hoOf_tup (vs : List Value) : hoOf { cls := .type "tuple", data := .seq vs.toArray } = some (.frz { cls := .type "tuple", data := .seq vs.toArray } (.tup (vs.map toV))) := by
 show (if (Value.type "tuple" == Value.type "list") = true then some (HO.frz { cls := .type "tuple", data := .seq vs.toArray } (.lst (vs.toArray.toList.map toV))) else some (HO.frz { cls := .type "tuple", data := .seq vs.toArray } (.tup (vs.toArray.toList.map toV)))) = _
 rw [if_neg (by decide)]
section
variable {P : Program} {w : World} {K : PySem.W.Frag} {h : Heap} {A : List Addr}
theorem argH_at {b : Addr} {o : Obj} (hb : b ∈ A) (hk : K.lookup b = none) (e : h.get? b = some o) : argH K h A b = hoOf o := by
 unfold argH
 rw [if_pos hb, hk, if_pos (show (none : Option Obj).isNone = true from rfl), e] <;> rfl
theorem of_argH {b : Addr} {u : HO} (q : argH K h A b = some u) : b ∈ A ∧ K.lookup b = none := by
 unfold argH at q
 by_cases hb : b ∈ A
 · rw [if_pos hb] at q
   cases hk : K.lookup b with
   | none => exact ⟨hb, rfl⟩
   | some o =>
     rw [hk, if_neg (by simp)] at q
     cases q
 · rw [if_neg hb] at q
   cases q
theorem argH_is (ar : ∀ a ∈ A, ArgOb h A a) {b : Addr} {u : HO} (q : argH K h A b = some u) : K.lookup b = none ∧ ∃ vs : List Value, vs.length ≤ sizeLine ∧ (∀ u ∈ vs, OkU A u) ∧
   ((h.get? b = some { cls := .type "list", data := .seq vs.toArray } ∧ u = .frz { cls := .type "list", data := .seq vs.toArray } (.lst (vs.map toV))) ∨
    (h.get? b = some { cls := .type "tuple", data := .seq vs.toArray } ∧ u = .frz { cls := .type "tuple", data := .seq vs.toArray } (.tup (vs.map toV)))) := by
 obtain ⟨hb, hk⟩ := of_argH q
 obtain ⟨vs, h1, h2, h3⟩ := ar b hb
 refine ⟨hk, vs, h1, h2, ?_⟩
 rcases h3 with e | e
 · rw [argH_at hb hk e, hoOf_lst] at q
   exact .inl ⟨e, (Option.some.inj q).symm⟩
 · rw [argH_at hb hk e, hoOf_tup] at q
   exact .inr ⟨e, (Option.some.inj q).symm⟩
theorem argH_only (ar : ∀ a ∈ A, ArgOb h A a) : OnlyF (argH K h A) := fun b => by
 cases q : argH K h A b with
 | none => exact .inl rfl
 | some u =>
   obtain ⟨_, vs, _, _, ⟨_, e⟩ | ⟨_, e⟩⟩ := argH_is ar q
   · exact .inr ⟨_, _, by rw [e]⟩
   · exact .inr ⟨_, _, by rw [e]⟩
theorem argH_ok (ar : ∀ a ∈ A, ArgOb h A a) : HOk P w (argH K h A) h := fun b u q => by
 obtain ⟨_, vs, h1, h2, ⟨e, rfl⟩ | ⟨e, rfl⟩⟩ := argH_is ar q
 · exact ⟨e, by rw [List.length_map]; exact h1, vs, _, vals_toV h2, e⟩
 · exact ⟨e, by rw [List.length_map]; exact h1, vs, vals_toV h2, _, e, rfl, _, rfl⟩
theorem seq_inj {c c' : Value} {vs us : List Value} (e : (some { cls := c, data := .seq vs.toArray } : Option Obj) = some { cls := c', data := .seq us.toArray }) : c = c' ∧ vs = us := by
 have e1 := Option.some.inj e
 have e2 : c = c' := congrArg Obj.cls e1
 have e3 : Data.seq vs.toArray = Data.seq us.toArray := congrArg Obj.data e1
 injection e3 with e4
 refine ⟨e2, ?_⟩
 have e5 := congrArg Array.toList e4
 simpa using e5
theorem argL (KX : K.In h) (ar : ∀ a ∈ A, ArgOb h A a) {a : Addr} {vs : List Value} (ha : a ∈ A) (e : h.get? a = some { cls := .type "list", data := .seq vs.toArray }) : (∀ u ∈ vs, OkU A u) ∧ SqL K (argH K h A) a (vs.map toV) := by
 obtain ⟨us, h1, h2, h3⟩ := ar a ha
 have hu : us = vs := by
   rcases h3 with q | q
   · rw [e] at q
     exact (seq_inj q).2.symm
   · rw [e] at q
     exact absurd (Value.type.inj (seq_inj q).1) (by decide)
 subst hu
 refine ⟨h2, ?_⟩
 cases hk : K.lookup a with
 | none => exact .inl (.inr ⟨_, by rw [argH_at ha hk e, hoOf_lst]⟩)
 | some o =>
   have e2 := KX a o hk
   rw [e] at e2
   obtain rfl := Option.some.inj e2
   exact .inr ⟨_, us.toArray, _, hk, rfl, rfl, rfl, by rw [List.size_toArray]; exact h1, by simpa using vals_toV h2⟩
theorem argT (KX : K.In h) (ar : ∀ a ∈ A, ArgOb h A a) {a : Addr} {vs : List Value} (ha : a ∈ A) (e : h.get? a = some { cls := .type "tuple", data := .seq vs.toArray }) : (∀ u ∈ vs, OkU A u) ∧ SqT K (argH K h A) a (vs.map toV) := by
 obtain ⟨us, h1, h2, h3⟩ := ar a ha
 have hu : us = vs := by
   rcases h3 with q | q
   · rw [e] at q
     exact absurd (Value.type.inj (seq_inj q).1) (by decide)
   · rw [e] at q
     exact (seq_inj q).2.symm
 subst hu
 refine ⟨h2, ?_⟩
 cases hk : K.lookup a with
 | none => exact .inl (.inr ⟨_, by rw [argH_at ha hk e, hoOf_tup]⟩)
 | some o =>
   have e2 := KX a o hk
   rw [e] at e2
   obtain rfl := Option.some.inj e2
   exact .inr ⟨_, us.toArray, _, hk, rfl, rfl, by rw [List.size_toArray]; exact h1, by simpa using vals_toV h2⟩
mutual
theorem dw_one {Pm : Params} (KX : K.In h) (ar : ∀ a ∈ A, ArgOb h A a) : ∀ (d : WData) (v : Value), Well Pm h v d → plW d = true → OkU A v → Dw K (argH K h A) (toV v) d
 | .none, _, x, _, _ => by
   cases x
   exact .non
 | .bool b, _, x, _, _ => by
   cases x
   exact .bl b
 | .int i, _, x, _, _ => by
   cases x
   exact .int i
 | .str s, _, x, _, _ => by
   cases x
   exact .str s
 | .bytes b, _, x, _, _ => by
   cases x
   have z := Dw.byt (K := K) (H := argH K h A) b.toArray
   exact z
 | .list ds, _, x, p, hu => by
   obtain ⟨a, vs, rfl, ho, hall⟩ := well_list x
   obtain ⟨h2, hs⟩ := argL KX ar hu ho
   exact .lst hs (dw_all KX ar ds _ hall p h2)
 | .tuple ds, _, x, p, hu => by
   obtain ⟨a, vs, rfl, ho, hall⟩ := well_tuple x
   obtain ⟨h2, hs⟩ := argT KX ar hu ho
   exact .tup hs (dw_all KX ar ds _ hall p h2)
 | .float _, _, _, p, _ => Bool.noConfusion (show false = true from p)
 | .dict _, _, _, p, _ => Bool.noConfusion (show false = true from p)
 | .bytearray _, _, _, p, _ => Bool.noConfusion (show false = true from p)
 | .set _, _, _, p, _ => Bool.noConfusion (show false = true from p)
 | .frozenset _, _, _, p, _ => Bool.noConfusion (show false = true from p)
 | .obj _ _, _, _, p, _ => Bool.noConfusion (show false = true from p)
theorem dw_all {Pm : Params} (KX : K.In h) (ar : ∀ a ∈ A, ArgOb h A a) : ∀ (ds : List WData) (vs : List Value), WellAll Pm h vs ds → plWs ds = true → (∀ u ∈ vs, OkU A u) → DwAll K (argH K h A) (vs.map toV) ds
 | [], _, x, _, _ => by
   cases x
   exact .nil
 | d :: ds, _, x, p, hu => by
   obtain ⟨v, vs, rfl, x1, x2⟩ := well_cons x
   have q : plW d = true ∧ plWs ds = true := Bool.and_eq_true_iff.mp p
   exact .cons (dw_one KX ar d v x1 q.1 (hu _ (List.mem_cons_self ..))) (dw_all KX ar ds vs x2 q.2 fun u m => hu u (List.mem_cons_of_mem _ m))
end
end
theorem layable_weight {ds : List WData} (h : WData.layableAll ds = true) : ∀ d ∈ ds, d.weight ≤ 1048576 := fun d hd =>
 (PySem.W.layableW_iff.mp (List.all_eq_true.mp h d hd)).2.2
theorem encAll_len : ∀ (cs : List Codec) (a : Codec.denoteAll cs), (Codec.encAll cs a).length = cs.length
 | [], _ => rfl
 | c :: cs, a => by
   show (Codec.encAll cs a.2).length + 1 = cs.length + 1
   rw [encAll_len cs a.2]
end L2
end
end
section
namespace L2
open PySem PySem.Spec PyProof.Rows
theorem ObjOk.get {P : Program} {w : World} {H : Hp} {h : Heap} {a : Addr} {o : HO} (x : ObjOk P w H h a o) : ∃ u, h.get? a = some u := by
 cases o with
 | lst xs => obtain ⟨_, _, _, _, e⟩ := x; exact ⟨_, e⟩
 | tup xs => obtain ⟨_, _, _, ob, e, _⟩ := x; exact ⟨_, e⟩
 | dK kvs => obtain ⟨_, _, _, _, o, _, _, e, _⟩ := x; exact ⟨_, e⟩
 | dT kvs => obtain ⟨_, _, _, _, o, _, _, e, _⟩ := x; exact ⟨_, e⟩
 | set S n => obtain ⟨o, _, _, _, e, _⟩ := x; exact ⟨_, e⟩
 | ins C dx fs => obtain ⟨_, _, _, e, _⟩ := x; exact ⟨_, e⟩
 | own y => obtain ⟨_, e⟩ := x; exact ⟨_, e⟩
 | xd fs => obtain ⟨_, ⟨_, _, _, e, _⟩, _⟩ := x; exact ⟨_, e⟩
 | rng lo hi => obtain ⟨_, _, _, e⟩ := x; exact ⟨_, e⟩
 | frz ob u => obtain ⟨e, _⟩ := x; exact ⟨_, e⟩
 | tbl ps => exact ⟨_, (show h.get? a = some _ from x)⟩
 | met f y => exact ⟨_, (show h.get? a = some _ from x)⟩
 | ext φ => obtain ⟨_, ⟨_, e⟩, _⟩ := x; exact ⟨_, e⟩
noncomputable def Fly (H : Hp) (h0 h : Heap) (e : Addr) (cls : Value) : Prop :=
 h0.get? e = none ∧ H e = none ∧ ∃ oe vs T oT ts, h.get? e = some oe ∧ oe.cls = cls ∧ oe.data = .fields vs ∧ vs[1]? = some (.ref T) ∧ h0.get? T = none ∧ H T = none ∧ T ≠ e ∧
   h.get? T = some oT ∧ oT.data = .fields ts ∧ ts[3]? = some .none
noncomputable def CXE (P : Program) (w : World) : CXT := fun outer H s E e s' => ∃ (ea C : Addr) (H' : Hp), e = .ref ea ∧ s'.os = s.os ∧ AllBare s'.gens ∧ Un (frs outer) [] H H' s.heap s'.heap ∧
 HOk P w H' s'.heap ∧ Fly H' s.heap s'.heap ea (.ref C) ∧ E (.ref C) none H'
theorem frames_rebase {h b1 b2 : Heap} : ∀ {l : List Env}, h.FunFrames b1 l → (∀ a ∈ frs l, b2.get? a = none) → h.FunFrames b2 l
 | [], _, _ => trivial
 | env :: r, ⟨hk, ⟨L, o, hf, hn, ho, hd⟩, hr⟩, k =>
   ⟨hk, ⟨L, o, hf, k L (by unfold frs; rw [List.filterMap_cons, hf]; exact List.mem_cons_self), ho, hd⟩,
     frames_rebase hr fun a ha => k a (by unfold frs at ha ⊢; rw [List.filterMap_cons, hf]; exact List.mem_cons_of_mem _ ha)⟩
section
variable {X : Cx} {pins : List (Addr × Obj)} {σ : St} {H : Hp} {s : Shared}
theorem hok_hid {ea : Addr} {Ts : List Addr} {h' : Heap} (I : Inv X pins σ H s) (he : H ea = none) (hT : ∀ T ∈ Ts, H T = none)
   (k : (PySem.W.hideAll s.heap (ea :: (Ts ++ frs X.stack))).StaysIn h') : HOk X.prog X.w H h' := fun a o e => by
 refine (I.hok a o e).stay (fun b u hb q => k b u (PySem.W.hideAll_get _ q fun m => ?_)) (fun _ q => q) fun _ _ q => q
 have tr : H b ≠ none := by
   rcases hb with rfl | hb
   · rw [e]; exact fun z => nomatch z
   · rw [hb]; exact fun z => nomatch z
 rcases List.mem_cons.mp m with q1 | m
 · exact tr (by rw [q1]; exact he)
 · rcases List.mem_append.mp m with m | m
   · exact tr (hT b m)
   · exact tr (I.stkFree b m)
theorem un_hid {ea : Addr} {Ts : List Addr} {h' : Heap} (hex : X.ex = []) (I : Inv X pins σ H s) (he : X.s_0.heap.get? ea = none) (hT : ∀ T ∈ Ts, X.s_0.heap.get? T = none)
   (k : (PySem.W.hideAll s.heap (ea :: (Ts ++ frs X.stack))).StaysIn h') (up : ∀ b o, s.heap.get? b = some o → (∀ vs, o.data ≠ .fields vs) → ∃ sl, h'.get? b = some { o with slots := sl }) :
   Un X.fs [] X.H_0 H X.s_0.heap h' := by
 have base := I.base
 rw [hex] at base
 have ne1 : ∀ b o, X.s_0.heap.get? b = some o → b ≠ ea := fun b o e q => by rw [q, he] at e; cases e
 have ne2 : ∀ b o, X.s_0.heap.get? b = some o → b ∉ Ts := fun b o e q => by rw [hT b q] at e; cases e
 have ne3 : ∀ b o, X.s_0.heap.get? b = some o → b ∉ X.fs → b ∉ frs X.stack := fun b o e q m => by
   rcases List.mem_cons.mp (I.stkSub b m) with z | z
   · have lt := Heap.lt_size e
     rw [z] at lt
     exact absurd (Nat.lt_of_lt_of_le lt I.ok.above) (Nat.lt_irrefl _)
   · exact q z
 have hid : ∀ b o o', X.s_0.heap.get? b = some o → b ∉ X.fs → s.heap.get? b = some o' → h'.get? b = some o' := fun b o o' e q e' =>
   k b o' (PySem.W.hideAll_get _ e' fun m => by
     rcases List.mem_cons.mp m with z | m
     · exact ne1 b o e z
     · rcases List.mem_append.mp m with m | m
       · exact ne2 b o e m
       · exact ne3 b o e q m)
 have frm : ∀ b, b ∈ X.fs → ∃ o, s.heap.get? b = some o ∧ ∀ vs, o.data ≠ .fields vs := fun b hb => (I.funs.mem hb).2
 refine ⟨fun b o e n hb hx => hid b o o e hb (base.keep b o e n hb hx), fun b o e n hb hx => ?_, fun b o e n hx => base.free b o e n hx, fun b o e hx => ?_, base.tups, base.frzs, base.tbls⟩
 · obtain ⟨sl, q⟩ := base.slot b o e n hb hx
   obtain ⟨o', q', nf⟩ := frm b hb
   rw [q] at q'
   cases q'
   obtain ⟨sl2, q2⟩ := up b _ q nf
   exact ⟨sl2, q2⟩
 · obtain ⟨o', q⟩ := base.there b o e hx
   by_cases hb : b ∈ X.fs
   · obtain ⟨o2, q2, nf⟩ := frm b hb
     obtain ⟨sl, q3⟩ := up b o2 q2 nf
     exact ⟨_, q3⟩
   · exact ⟨o', hid b o o' e hb q⟩
theorem stays_hid {h : Heap} {l : List Addr} : (PySem.W.hideAll h l).StaysIn h := fun _ _ e => PySem.W.of_hideAll l e
theorem frames_hid {ea : Addr} {Ts : List Addr} (I : Inv X pins σ H s) : s.heap.FunFrames (PySem.W.hideAll s.heap (ea :: (Ts ++ frs X.stack))) X.stack :=
 frames_rebase I.stack fun a ha => PySem.W.hideAll_none _ (List.mem_cons_of_mem _ (List.mem_append_right _ ha))
theorem new_entry {ea : Addr} {Ts : List Addr} {h' : Heap} {T : Addr} {oT : Obj} {ts : Array Value} (I : Inv X pins σ H s) (hex : X.ex = []) (hs : ∀ T ∈ Ts, X.s_0.heap.get? T = none) (hT : ∀ T ∈ Ts, H T = none)
   (hn : (PySem.W.hideAll s.heap (ea :: (Ts ++ frs X.stack))).get? T = none) (hne : T ≠ ea) (hg : h'.get? T = some oT) (hd : oT.data = .fields ts)
   (fr : h'.FunFrames (PySem.W.hideAll s.heap (ea :: (Ts ++ frs X.stack))) X.stack) : X.s_0.heap.get? T = none ∧ H T = none := by
 by_cases m1 : T ∈ Ts
 · exact ⟨hs T m1, hT T m1⟩
 · have m2 : T ∉ frs X.stack := fun m => by
     obtain ⟨_, o, e, nf⟩ := fr.mem m
     rw [hg] at e
     cases e
     exact nf ts hd
   have hnone : s.heap.get? T = none := by
     cases q : s.heap.get? T with
     | none => rfl
     | some o =>
       have z := PySem.W.hideAll_get (ea :: (Ts ++ frs X.stack)) q fun m => by
         rcases List.mem_cons.mp m with z | m
         · exact hne z
         · exact (List.mem_append.mp m).elim m1 m2
       rw [hn] at z
       cases z
   refine ⟨?_, ?_⟩
   · cases q : X.s_0.heap.get? T with
     | none => rfl
     | some o =>
       obtain ⟨o', z⟩ := I.base.there T o q (by rw [hex]; exact fun z => nomatch z)
       rw [hnone] at z
       cases z
   · cases q : H T with
     | none => rfl
     | some o =>
       obtain ⟨u, z⟩ := (I.hok T o q).get
       rw [hnone] at z
       cases z
theorem there_none {b : Addr} (I : Inv X pins σ H s) (hex : X.ex = []) (h : s.heap.get? b = none) : X.s_0.heap.get? b = none := by
 cases q : X.s_0.heap.get? b with
 | none => rfl
 | some o =>
   obtain ⟨o', z⟩ := I.base.there b o q (by rw [hex]; exact fun z => nomatch z)
   rw [h] at z
   cases z
end
section
variable {P : Program} {w : World} {K : PySem.W.Frag} {mg : Str → Option Value} {base : Heap} {N : List Str} {qual : Str} {scope : Scope} {f : Addr} {cd : Value} {A : Around} {outer : List Env} {s0 : Shared} {H0 : Hp} {E : XK}
theorem fly_end {pins : List (Addr × Obj)} {σ : St} {H : Hp} {s : Shared} {ea C : Addr} {Ts : List Addr} {h' : Heap}
   (I : Inv (cxOf (CXE P w) P w K mg base N qual scope f cd A outer s0 H0 E) pins σ H s) (he0 : s0.heap.get? ea = none) (heH : H ea = none) (hs : ∀ T ∈ Ts, s0.heap.get? T = none) (hT : ∀ T ∈ Ts, H T = none)
   (L : Heap.Left (PySem.W.hideAll s.heap (ea :: (Ts ++ frs (envOfC qual scope s0.heap.objs.size f cd :: outer)))) (envOfC qual scope s0.heap.objs.size f cd :: outer) ea (.ref C) s.heap h') (hE : E (.ref C) none H) :
   CXE P w outer H0 s0 E (.ref ea) { s with heap := h' } := by
 obtain ⟨k1, k2, ⟨oe, vs, T, oT, ts, g1, g2, g3, g4, g5, g6, g7, g8, g9⟩, k4⟩ := L
 obtain ⟨n1, n2⟩ := new_entry I rfl hs hT g5 g6 g7 g8 k2
 exact ⟨ea, C, H, rfl, I.os, I.bare, un_hid (Ts := Ts) rfl I he0 hs k1 k4, hok_hid I heH hT k1, ⟨he0, heH, oe, vs, T, oT, ts, g1, g2, g3, g4, n1, n2, g6, g7, g8, g9⟩, hE⟩
theorem pass_fly : Passes (CXE P w) (cxOf (CXE P w) P w K mg base N qual scope f cd A outer s0 H0 E) E := by
 intro pins σ H s e s' I h
 obtain ⟨ea, C, H', rfl, ho, hb, un, hok, ⟨f1, f2, oe, vs, T, oT, ts, g1, g2, g3, g4, g5, g6, g7, g8, g9, g10⟩, hE⟩ := h
 have I2 : Inv (cxOf (CXE P w) P w K mg base N qual scope f cd A outer s0 H0 E) pins σ H' s' := I.call' (ch := []) ho un hok hb (fun b z => nomatch z)
 have z1 : s0.heap.get? ea = none := there_none I rfl f1
 have z2 : s0.heap.get? T = none := there_none I rfl g5
 have q1 : ∀ T' ∈ [T], s0.heap.get? T' = none := fun T' m => by rw [List.mem_singleton.mp m]; exact z2
 have q2 : ∀ T' ∈ [T], H' T' = none := fun T' m => by rw [List.mem_singleton.mp m]; exact g6
 refine wpAny_leaving_next (base := PySem.W.hideAll s'.heap (ea :: ([T] ++ frs (envOfC qual scope s0.heap.objs.size f cd :: outer)))) (outer := outer) (cls := .ref C) I2.ok.frames (frames_hid I2) rfl
   ⟨oe, vs, T, oT, ts, g1, g2, g3, g4, PySem.W.hideAll_none _ (List.mem_cons_of_mem _ (List.mem_append_left _ (List.mem_singleton.mpr rfl))), g7, g8, g9, g10⟩ stays_hid (PySem.W.hideAll_none _ List.mem_cons_self) fun h' hL => ?_
 exact fly_end I2 z1 f2 q1 q2 hL hE
theorem raise_fly {pins : List (Addr × Obj)} {σ : St} {H : Hp} {s : Shared} {h1 : Heap} {ea C : Addr} {as : List Value} (I : Inv (cxOf (CXE P w) P w K mg base N qual scope f cd A outer s0 H0 E) pins σ H s)
   (M : Heap.MadeExcOf s.heap h1 ea (.ref C) as) (hE : E (.ref C) none H) : (cxOf (CXE P w) P w K mg base N qual scope f cd A outer s0 H0 E).xe (.ref ea) { s with heap := h1 } := by
 have I2 : Inv (cxOf (CXE P w) P w K mg base N qual scope f cd A outer s0 H0 E) pins σ H { s with heap := h1 } :=
   I.call' (ch := []) rfl (Un.kept M.keeps) (I.hok.kept M.keeps) I.bare (fun b z => nomatch z)
 obtain ⟨t, g1, g2, g3⟩ := M.there
 have z1 : s0.heap.get? ea = none := there_none I rfl M.new
 have z2 : H ea = none := by
   cases q : H ea with
   | none => rfl
   | some o =>
     obtain ⟨u, z⟩ := (I.hok ea o q).get
     rw [M.new] at z
     cases z
 refine wpAny_leaving_first (base := PySem.W.hideAll h1 (ea :: ([] ++ frs (envOfC qual scope s0.heap.objs.size f cd :: outer)))) (outer := outer) I2.ok.frames (frames_hid (Ts := []) I2) rfl g1 stays_hid (PySem.W.hideAll_none _ List.mem_cons_self) rfl rfl fun h' hL => ?_
 exact fly_end (Ts := []) I2 z1 z2 (fun _ m => nomatch m) (fun _ m => nomatch m) hL hE
end
end L2
end
section
namespace L2
open PySem PySem.Spec PyProof.Rows
structure OwnX (K : PySem.W.Frag) (mg : Str → Option Value) (x : Str) (C : Addr) : Prop where
 bound : mg x = some (.ref C)
 ex : PySem.W.excIn K C [.type "Exception", .type "BaseException", .type "object"] "Exception.__new__" = true
theorem OwnX.cls {K : PySem.W.Frag} {mg : Str → Option Value} {x : Str} {C : Addr} (O : OwnX K mg x C) {h : Heap} (X : K.In h) :
   OwnCls x C [.type "Exception", .type "BaseException", .type "object"] "Exception.__new__" mg h := by
 refine ⟨O.bound, ?_⟩
 have q := O.ex
 unfold PySem.W.excIn at q
 split at q
 · rename_i dd cd sl ho
   split at q
   · rename_i C' bm k0 k1 k2 k3 n k5 hm hs
     simp only [Bool.and_eq_true, beq_iff_eq, Bool.not_eq_true'] at q
     obtain ⟨⟨⟨⟨⟨e1, e2⟩, hdel⟩, ht⟩, hok⟩, hni⟩ := q
     subst e1
     subst e2
     cases cd with
     | mk nm bs mro ns qn hd sn sub ab col del =>
       dsimp only at hm hdel hok hni
       subst hm
       subst hdel
       have hsl : sl = #[k0, k1, k2, k3, some (.builtin "Exception.__new__"), k5] := by
         cases sl with
         | mk l => exact congrArg Array.mk hs
       subst hsl
       exact ⟨bm, ns, nm, qn, bs, hd, sn, sub, ab, col, dd, k0, k1, k2, k3, k5, _, X _ _ ho, .of_isNs (PySem.W.isNs_of_in X hok), PySem.W.nsMap_none_of_in X hok hni, PySem.W.tail_of_in X ht⟩
   · cases q
 · cases q
noncomputable def tRaise (C : Addr) (E : XK) : TS := fun _ _ H => E (.ref C) none H
section
variable {P : Program} {w : World} {K : PySem.W.Frag} {mg : Str → Option Value} {base : Heap} {N : List Str} {qual : Str} {scope : Scope} {f : Addr} {cd : Value} {A : Around} {outer : List Env} {s0 : Shared} {H0 : Hp} {E : XK}
theorem ps_raise0 {x : Str} {np cpos pos : Pos} {C : Addr} (O : OwnX K mg x C) (hg : Gl (cxOf (CXE P w) P w K mg base N qual scope f cd A outer s0 H0 E) x) (hd : (x == ("__debug__" : Str)) = false := by decide) :
   PS (cxOf (CXE P w) P w K mg base N qual scope f cd A outer s0 H0 E) (.Raise (some (.Call (.Name x np) [] [] cpos)) none pos) (tRaise C E) := by
 intro pins s σ H D I h
 obtain ⟨tl, N', nm, q, bs, hdct, sn, sub, ab, col, dd, k0, k1, k2, k3, k5, mN, hC, hN, hni, T⟩ := (O.cls I.kIn).obj
 refine wpAny_Raise_call_subT (C := C) (nm := nm) (q := q) (N := N') (bs := bs) (bm := tl) (hdct := hdct) (sn := sn) (sub := sub) (ab := ab) (col := col) (dd := dd) (k0 := k0) (k1 := k1) (k2 := k2) (k3 := k3) (k5 := k5)
   PySem.F.excBase_Exception (mN := mN) (T.hasType PySem.F.excBase_Exception.hasBase) (I.ok.hd rfl) rfl hni (ld_glob I hg O.bound ⟨rfl, ?_⟩ hd)
 exact evalArgs_empty ⟨rfl, Nat.zero_le _, hC, hN, T, fun h' e hm => raise_fly I hm h⟩
end
noncomputable def Cx.suite (X : Cx) (e : Value) (pins : List (Addr × Obj)) : Cx := { X with A := X.A.mark (some e), calm := false, pn := X.pn ++ pins, xe := fun _ _ => False }
theorem Inv.suite {X : Cx} {pins : List (Addr × Obj)} {σ : St} {H : Hp} {s : Shared} (I : Inv X pins σ H s) (e : Value) : Inv (X.suite e pins) [] σ H s :=
 ⟨⟨I.ok.mod, I.ok.kind, I.ok.glob, I.ok.blt, I.ok.above, I.ok.inj, I.ok.has, I.ok.cab, (fun z => nomatch z), I.ok.frames, I.ok.stk, I.ok.exf, I.ok.bs, I.ok.bsz, I.ok.noex, I.ok.exfs, I.ok.funs, I.ok.frf⟩,
   I.os, I.bare, I.base, I.loc, I.cell, I.free, I.freeC, (fun p hp => I.pin p (by rw [List.append_nil] at hp; exact hp)), I.hok, I.len⟩
theorem Inv.unsuite {X : Cx} {pins : List (Addr × Obj)} {σ : St} {H : Hp} {s : Shared} {e : Value} (ok : X.Ok) (I : Inv (X.suite e pins) [] σ H s) : Inv X pins σ H s :=
 ⟨ok, I.os, I.bare, I.base, I.loc, I.cell, I.free, I.freeC, (fun p hp => I.pin p (by rw [List.append_nil]; exact hp)), I.hok, I.len⟩
theorem SP.unsuite {X : Cx} {pins : List (Addr × Obj)} {D : Ends} {fl : Flow} {s' : Shared} {e : Value} (ok : X.Ok) (h : SP (X.suite e pins) [] D fl s') : SP X pins D fl s' := by
 cases fl with
 | next => obtain ⟨σ', H', I, q⟩ := h; exact ⟨σ', H', I.unsuite ok, q⟩
 | brk => obtain ⟨σ', H', I, q⟩ := h; exact ⟨σ', H', I.unsuite ok, q⟩
 | cont => obtain ⟨σ', H', I, q⟩ := h; exact ⟨σ', H', I.unsuite ok, q⟩
 | ret u => obtain ⟨v, σ', H', I, r, q⟩ := h; exact ⟨v, σ', H', I.unsuite ok, r, q⟩
noncomputable def Cx.tryX (X : Cx) (hs : List ExceptHandler) (pins : List (Addr × Obj)) (D : Ends) : Cx :=
 { X with pn := X.pn ++ pins, xe := fun e s1 => wpAny (model X.prog X.w) X.A (noteFrame e X.env) (fun _ s2 => wpAny (model X.prog X.w) X.A (setFlight e none) (fun _ s3 => wpAny (model X.prog X.w) X.A (handleBy e X.env hs) (SP X pins D) X.xe s3) X.xe s2) X.xe s1 }
theorem Inv.tryX {X : Cx} {pins : List (Addr × Obj)} {σ : St} {H : Hp} {s : Shared} (I : Inv X pins σ H s) (hs : List ExceptHandler) (D : Ends) : Inv (X.tryX hs pins D) [] σ H s :=
 ⟨⟨I.ok.mod, I.ok.kind, I.ok.glob, I.ok.blt, I.ok.above, I.ok.inj, I.ok.has, I.ok.cab, I.ok.hd, I.ok.frames, I.ok.stk, I.ok.exf, I.ok.bs, I.ok.bsz, I.ok.noex, I.ok.exfs, I.ok.funs, I.ok.frf⟩,
   I.os, I.bare, I.base, I.loc, I.cell, I.free, I.freeC, (fun p hp => I.pin p (by rw [List.append_nil] at hp; exact hp)), I.hok, I.len⟩
theorem Inv.untryX {X : Cx} {pins pins' : List (Addr × Obj)} {σ : St} {H : Hp} {s : Shared} {hs : List ExceptHandler} {D : Ends} (I : Inv (X.tryX hs pins D) pins' σ H s) : Inv X pins σ H s :=
 ⟨⟨I.ok.mod, I.ok.kind, I.ok.glob, I.ok.blt, I.ok.above, I.ok.inj, I.ok.has, I.ok.cab, I.ok.hd, I.ok.frames, I.ok.stk, I.ok.exf, I.ok.bs, I.ok.bsz, I.ok.noex, I.ok.exfs, I.ok.funs, I.ok.frf⟩,
   I.os, I.bare, I.base, I.loc, I.cell, I.free, I.freeC, (fun p hp => I.pin p (List.mem_append_left _ hp)), I.hok, I.len⟩
theorem SP.untryX {X : Cx} {pins : List (Addr × Obj)} {D D' : Ends} {fl : Flow} {s' : Shared} {hs : List ExceptHandler} (h : SP (X.tryX hs pins D') [] D fl s') : SP X pins D fl s' := by
 cases fl with
 | next => obtain ⟨σ', H', I, q⟩ := h; exact ⟨σ', H', I.untryX, q⟩
 | brk => obtain ⟨σ', H', I, q⟩ := h; exact ⟨σ', H', I.untryX, q⟩
 | cont => obtain ⟨σ', H', I, q⟩ := h; exact ⟨σ', H', I.untryX, q⟩
 | ret u => obtain ⟨v, σ', H', I, r, q⟩ := h; exact ⟨v, σ', H', I.untryX, r, q⟩
theorem ps_try {X : Cx} {body : List Stmt} {h0 : ExceptHandler} {hs : List ExceptHandler} {pos : Pos} {tb : Ends → TS} (hb : ∀ pins D, PSs (X.tryX (h0 :: hs) pins D) body (tb D)) :
   PS X (.Try body (h0 :: hs) [] [] pos) (fun D σ H => tb D D σ H) := by
 intro pins s σ H D I h
 refine wpAny_Try_except (wpAny_mono (hb pins D [] s σ H D (I.tryX _ D) h) (fun fl s1 q => ?_) fun e s1 q => q)
 have q' : SP X pins D fl s1 := q.untryX
 cases fl with
 | next => exact wpAny_execs_nil q'
 | ret v => exact q'
 | brk => exact q'
 | cont => exact q'
inductive Takes (X : Cx) (C : Addr) (D : Ends) : List ExceptHandler → Hp → Prop where
 | here {x : Str} {np pos : Pos} {b0 : Stmt} {suite : List Stmt} {rest : List ExceptHandler} {Ci : Addr} {t : TS} {H : Hp} (hg : Gl X x) (hm : X.mg x = some (.ref Ci)) (hx : PySem.W.exmOne X.K (.ref C) (.ref Ci) = some true)
     (hd : (x == ("__debug__" : Str)) = false) (hs : ∀ e pins, PSs (X.suite e pins) (b0 :: suite) t) (h : ∀ σ, t D σ H) : Takes X C D (.ExceptHandler (some (.Name x np)) none (b0 :: suite) pos :: rest) H
 | next {x : Str} {np pos : Pos} {b0 : Stmt} {suite : List Stmt} {rest : List ExceptHandler} {Ci : Addr} {H : Hp} (hg : Gl X x) (hm : X.mg x = some (.ref Ci)) (hx : PySem.W.exmOne X.K (.ref C) (.ref Ci) = some false)
     (hd : (x == ("__debug__" : Str)) = false) (h : Takes X C D rest H) : Takes X C D (.ExceptHandler (some (.Name x np)) none (b0 :: suite) pos :: rest) H
theorem type_looks {M : Model} {h : Heap} {e : Addr} {oe : Obj} (he : h.get? e = some oe) : PySem.W.Looks M h (typeOf (.ref e)) oe.cls :=
 (PySem.W.Looks.ld he).andThen .now
section
variable {X : Cx} {pins : List (Addr × Obj)} {σ : St} {H : Hp} {s : Shared}
theorem inv_hid {ea : Addr} {Ts : List Addr} {h' : Heap} (hex : X.ex = []) (I : Inv X pins σ H s) (he0 : X.s_0.heap.get? ea = none) (heH : H ea = none) (hs : ∀ T ∈ Ts, X.s_0.heap.get? T = none) (hT : ∀ T ∈ Ts, H T = none)
   (hp1 : ∀ p ∈ X.pn ++ pins, p.1 ≠ ea) (hp2 : ∀ p ∈ X.pn ++ pins, p.1 ∉ Ts)
   (k : (PySem.W.hideAll s.heap (ea :: (Ts ++ frs X.stack))).StaysIn h') (up : ∀ b o, s.heap.get? b = some o → (∀ vs, o.data ≠ .fields vs) → ∃ sl, h'.get? b = some { o with slots := sl }) :
   Inv X pins σ H { s with heap := h' } := by
 have cellUp : ∀ c v, s.heap.IsCell c v → h'.IsCell c v := fun c v hc => by
   obtain ⟨o, ho, hd⟩ := hc
   obtain ⟨sl, e⟩ := up c o ho fun vs q => by rw [hd] at q; cases q
   exact ⟨_, e, hd⟩
 obtain ⟨m, hn, hl⟩ := I.loc
 refine ⟨I.ok, I.os, I.bare, by rw [hex]; exact un_hid hex I he0 hs k up, ⟨m, Heap.UpToSlots.ns up hn, fun i x v h1 h2 h3 => ?_⟩, fun x c h => ?_, I.free, I.freeC, fun p hp => ?_, hok_hid I heH hT k, I.len⟩
 · obtain ⟨u, r, l⟩ := hl i x v h1 h2 h3
   refine ⟨u, r, ?_⟩
   rcases l with l | ⟨l, c, e1, e2⟩
   · exact .inl l
   · exact .inr ⟨l, c, e1, cellUp c _ e2⟩
 · obtain ⟨v, q⟩ := I.cell x c h
   exact ⟨v, cellUp c v q⟩
 · obtain ⟨q1, q2, q3, q4, q5⟩ := I.pin p hp
   refine ⟨k p.1 p.2 (PySem.W.hideAll_get _ q1 fun mm => ?_), q2, q3, q4, q5⟩
   rcases List.mem_cons.mp mm with z | mm
   · exact hp1 p hp z
   · rcases List.mem_append.mp mm with mm | mm
     · exact hp2 p hp mm
     · rcases List.mem_cons.mp (I.stkSub p.1 mm) with z | z
       · exact q3 z
       · exact q4 z
noncomputable def FlyP (X : Cx) (pins : List (Addr × Obj)) (H : Hp) (h : Heap) (ea : Addr) (cls fl : Value) : Prop :=
 X.s_0.heap.get? ea = none ∧ H ea = none ∧ (∀ p ∈ X.pn ++ pins, p.1 ≠ ea) ∧ ∃ oe vs T oT ts, h.get? ea = some oe ∧ oe.cls = cls ∧ oe.data = .fields vs ∧ vs[1]? = some (.ref T) ∧ X.s_0.heap.get? T = none ∧ H T = none ∧
   (∀ p ∈ X.pn ++ pins, p.1 ≠ T) ∧ T ≠ ea ∧ h.get? T = some oT ∧ oT.data = .fields ts ∧ ts[3]? = some fl
theorem land_fly {ea : Addr} {cls fl : Value} {A : Around} {Er : Value → Shared → Prop} {Q : Unit → Shared → Prop} (hex : X.ex = []) (I : Inv X pins σ H s) (F : FlyP X pins H s.heap ea cls fl)
   (h : ∀ h', Inv X pins σ H { s with heap := h' } → FlyP X pins H h' ea cls .none → Q () { s with heap := h' }) : wpAny (model X.prog X.w) A (setFlight (.ref ea) none) Q Er s := by
 obtain ⟨f1, f2, f3, oe, vs, T, oT, ts, g1, g2, g3, g4, g5, g6, g6', g7, g8, g9, g10⟩ := F
 have hz : 3 < ts.size := (Array.getElem?_eq_some_iff.mp g10).1
 refine wpAny_setFlight_none g1 g3 g4 g8 g9 hz ?_
 have other : ∀ b, b ≠ T → (s.heap.update T (Obj.mapFields (·.setIfInBounds 3 .none))).get? b = s.heap.get? b := fun b hb => Heap.get?_update_other _ _ (Ne.symm hb)
 have hTn := Heap.get?_update_self (Obj.mapFields (·.setIfInBounds 3 Value.none)) g8 (Obj.isFreed_of_fields (Obj.data_mapFields g9 _))
 have I2 : Inv X pins σ H { s with heap := s.heap.update T (Obj.mapFields (·.setIfInBounds 3 .none)) } := by
   refine inv_hid (ea := ea) (Ts := [T]) hex I f1 f2 (fun T' m => by rw [List.mem_singleton.mp m]; exact g5) (fun T' m => by rw [List.mem_singleton.mp m]; exact g6) f3 (fun p hp m => g6' p hp (List.mem_singleton.mp m)) (fun b o e => ?_) (fun b o e nf => ?_)
   · have hb : b ≠ T := fun z => by
       rw [z, PySem.W.hideAll_none _ (List.mem_cons_of_mem _ (List.mem_append_left _ (List.mem_singleton.mpr rfl)))] at e
       cases e
     exact (other b hb).trans (PySem.W.of_hideAll _ e)
   · have hb : b ≠ T := fun z => by
       rw [z, g8] at e
       cases e
       exact nf ts g9
     exact ⟨o.slots, (other b hb).trans e⟩
 exact h _ I2 ⟨f1, f2, f3, oe, vs, T, _, _, (other ea (Ne.symm g7)).trans g1, g2, g3, g4, g5, g6, g6', g7, hTn, Obj.data_mapFields g9 _, by simp [hz]⟩
theorem look_fly {ea : Addr} {cls : Value} {outer : List Env} {Er : Value → Shared → Prop} {Q : Unit → Shared → Prop} (hex : X.ex = []) (hst : X.stack = X.env :: outer) (hf : X.env.frame = some X.env.locals) (I : Inv X pins σ H s)
   (F : FlyP X pins H s.heap ea cls .none) (h : ∀ h' fl, Inv X pins σ H { s with heap := h' } → FlyP X pins H h' ea cls fl → Q () { s with heap := h' }) :
   wpAny (model X.prog X.w) X.A (noteFrame (.ref ea) X.env) Q Er s := by
 obtain ⟨f1, f2, f3, oe, vs, T, oT, ts, g1, g2, g3, g4, g5, g6, g6', g7, g8, g9, g10⟩ := F
 have hz : 1 < vs.size := (Array.getElem?_eq_some_iff.mp g4).1
 obtain ⟨a0, ha0⟩ : ∃ a0, vs[0]? = some a0 := ⟨_, Array.getElem?_eq_getElem (Nat.lt_of_succ_lt hz)⟩
 have q1 : ∀ T' ∈ [T], X.s_0.heap.get? T' = none := fun T' m => by rw [List.mem_singleton.mp m]; exact g5
 have q2 : ∀ T' ∈ [T], H T' = none := fun T' m => by rw [List.mem_singleton.mp m]; exact g6
 have fr : s.heap.FunFrames (PySem.W.hideAll s.heap (ea :: ([T] ++ frs X.stack))) X.stack := frames_hid I
 refine wpAny_noteFrame_onW (base := PySem.W.hideAll s.heap (ea :: ([T] ++ frs X.stack))) (outer := outer) (cls := cls) (a0 := a0) (by rw [← hst]; exact I.ok.frames) (by rw [← hst]; exact fr) hf
   ⟨oe, vs, T, oT, ts, g1, ⟨g2, ha0⟩, g3, g4, PySem.W.hideAll_none _ (List.mem_cons_of_mem _ (List.mem_append_left _ (List.mem_singleton.mpr rfl))), g7, g8, g9, g10⟩ stays_hid (PySem.W.hideAll_none _ List.mem_cons_self) fun h' hL => ?_
 obtain ⟨k1, k2, ⟨oe', vs', T', oT', ts', e1, ⟨e2, _⟩, e3, e4, e5, e6, e7, e8, e9⟩, k4⟩ := hL
 rw [← hst] at k2
 obtain ⟨n1, n2⟩ := new_entry I hex q1 q2 e5 e6 e7 e8 k2
 have I2 := inv_hid hex I f1 f2 q1 q2 f3 (fun p hp m => g6' p hp (List.mem_singleton.mp m)) k1 k4
 have n3 : ∀ p ∈ X.pn ++ pins, p.1 ≠ T' := fun p hp z => by
   obtain ⟨p1, p2, p3, p4, p5⟩ := I.pin p hp
   by_cases zz : T' = T
   · exact g6' p hp (z.trans zz)
   · have w := PySem.W.hideAll_get (ea :: ([T] ++ frs X.stack)) p1 fun mm => by
       rcases List.mem_cons.mp mm with y | mm
       · exact f3 p hp y
       · rcases List.mem_append.mp mm with mm | mm
         · exact zz (z.symm.trans (List.mem_singleton.mp mm))
         · rcases List.mem_cons.mp (I.stkSub p.1 mm) with y | y
           · exact p3 y
           · exact p4 y
     rw [z, e5] at w
     cases w
 exact h h' _ I2 ⟨f1, f2, f3, oe', vs', T', oT', ts', e1, e2, e3, e4, n1, n2, n3, e6, e7, e8, e9⟩
theorem FlyP.cls {h : Heap} {ea : Addr} {cls fl : Value} (F : FlyP X pins H h ea cls fl) : ∃ oe, h.get? ea = some oe ∧ oe.cls = cls := by
 obtain ⟨_, _, _, oe, vs, T, oT, ts, g1, g2, _⟩ := F
 exact ⟨oe, g1, g2⟩
theorem handle_fly {ea C : Addr} {D : Ends} {hs : List ExceptHandler} (hex : X.ex = []) (I : Inv X pins σ H s) (F : FlyP X pins H s.heap ea (.ref C) .none) (T : Takes X C D hs H) :
   wpAny (model X.prog X.w) X.A (handleBy (.ref ea) X.env hs) (SP X pins D) X.xe s := by
 obtain ⟨oe, he, hc⟩ := F.cls
 have lk : PySem.W.Looks (model X.prog X.w) s.heap (typeOf (.ref ea)) (.ref C) := by rw [← hc]; exact type_looks he
 induction T with
 | @here x np pos b0 suite rest Ci t H hg hm hx hd hs h =>
   have Is := I.suite (.ref ea)
   refine wpAny_handleBy_cons (codeAny_handlers_test ?_) (by intro q; cases q)
   refine ld_glob (X := X.suite (.ref ea) pins) Is hg hm ?_ hd
   refine (PySem.W.exm_one I.kIn lk hx).here ?_
   refine codeAny_handlers_suite ?_
   refine land_fly (X := X) hex I F fun h' I2 F2 => ?_
   refine wpAny_mono (hs (.ref ea) pins [] _ σ H D (I2.suite (.ref ea)) (h σ)) (fun fl s2 q => ?_) fun e s2 z => z.elim
   exact q.unsuite I.ok
 | @next x np pos b0 suite rest Ci H hg hm hx hd h ih =>
   have Is := I.suite (.ref ea)
   refine wpAny_handleBy_cons (codeAny_handlers_test ?_) (by intro q; cases q)
   refine ld_glob (X := X.suite (.ref ea) pins) Is hg hm ?_ hd
   refine (PySem.W.exm_one I.kIn lk hx).here ?_
   exact ih I F
end
noncomputable def Etry (X : Cx) (hs : List ExceptHandler) (D : Ends) : XK := fun c _ H => ∃ C, c = .ref C ∧ Takes X C D hs H
theorem pass_try {P : Program} {w : World} {K : PySem.W.Frag} {mg : Str → Option Value} {base : Heap} {N : List Str} {qual : Str} {scope : Scope} {f : Addr} {cd : Value} {A : Around} {outer : List Env} {s0 : Shared} {H0 : Hp} {E : XK}
   {hs : List ExceptHandler} {pins : List (Addr × Obj)} {D : Ends} :
   Passes (CXE P w) ((cxOf (CXE P w) P w K mg base N qual scope f cd A outer s0 H0 E).tryX hs pins D) (Etry (cxOf (CXE P w) P w K mg base N qual scope f cd A outer s0 H0 E) hs D) := by
 intro pins' σ H s e s' I h
 obtain ⟨ea, C, H', rfl, ho, hb, un, hok, ⟨f1, f2, oe, vs, T, oT, ts, g1, g2, g3, g4, g5, g6, g7, g8, g9, g10⟩, C', hC, hT⟩ := h
 cases hC
 have I0 := I.untryX
 have I2 : Inv (cxOf (CXE P w) P w K mg base N qual scope f cd A outer s0 H0 E) pins σ H' s' := I0.call' (ch := []) ho un hok hb (fun b z => nomatch z)
 have z1 : s0.heap.get? ea = none := there_none I0 rfl f1
 have z2 : s0.heap.get? T = none := there_none I0 rfl g5
 have pn : ∀ (b : Addr), s.heap.get? b = none → ∀ p ∈ (cxOf (CXE P w) P w K mg base N qual scope f cd A outer s0 H0 E).pn ++ pins, p.1 ≠ b := fun b hb p hp z => by
   have q := (I0.pin p hp).1
   rw [z, hb] at q
   cases q
 have F : FlyP (cxOf (CXE P w) P w K mg base N qual scope f cd A outer s0 H0 E) pins H' s'.heap ea (.ref C) .none :=
   ⟨z1, f2, pn ea f1, oe, vs, T, oT, ts, g1, g2, g3, g4, z2, g6, pn T g5, g7, g8, g9, g10⟩
 refine look_fly (outer := outer) rfl rfl rfl I2 F fun h1 fl I3 F3 => ?_
 refine land_fly rfl I3 F3 fun h2 I4 F4 => ?_
 exact handle_fly rfl I4 F4 hT
end L2
end
section
namespace Pu
open Of
theorem headIn_len {i : Nat} {r : Bytes} {n : Nat} {t : Bytes} (h : headIn i r = some (n, t)) : t.length ≤ r.length := by
 unfold headIn at h
 split at h
 · cases h; exact Nat.le_refl _
 · split at h
   · cases h
   · dsimp only at h
     split at h
     · cases h
     · cases h
       rw [List.length_drop]; exact Nat.sub_le _ _
theorem partsIn_len {m : Nat} : ∀ {k : Nat} {got r : Bytes} {b t : Bytes}, partsIn m k got r = some (b, t) → t.length + 1 ≤ r.length ∧ b.length + t.length + 1 ≤ got.length + r.length
 | 0, _, _, _, _, h => by simp [partsIn] at h
 | k + 1, _, [], _, _, h => by simp [partsIn] at h
 | k + 1, got, c :: r, b, t, h => by
   rw [partsIn] at h
   split at h
   · cases h; rw [List.length_cons]; omega
   · split at h
     · cases h
     · split at h
       · cases h
       · rename_i n u hu
         split at h
         · cases h
         · rename_i hn
           have l1 := headIn_len hu
           have l2 := partsIn_len h
           rw [List.length_drop] at l2
           rw [List.length_append, List.length_take] at l2
           rw [List.length_cons]
           omega
theorem stringIn_len {m i : Nat} {r : Bytes} {g : Got} {t : Bytes} (h : stringIn m i r = some (g, t)) : t.length ≤ r.length ∧ g.size + t.length ≤ r.length ∧ g.nodes = 1 ∧ g.twice = false := by
 unfold stringIn at h
 split at h
 · split at h
   · rename_i b u hb
     cases h
     have := partsIn_len hb
     refine ⟨by omega, ?_, rfl, rfl⟩
     show b.length + t.length ≤ r.length
     have e : ([] : Bytes).length = 0 := rfl
     omega
   · cases h
 · split at h
   · cases h
   · rename_i n u hu
     split at h
     · cases h
     · cases h
       have := headIn_len hu
       rw [List.length_drop]
       refine ⟨by omega, ?_, rfl, rfl⟩
       show n + (u.length - n) ≤ r.length
       omega
noncomputable def sumN (l : List Got) : Nat := (l.map Got.nodes).foldl (fun (a b : Nat) => a + b) 0
noncomputable def sumS (l : List Got) : Nat := (l.map Got.size).foldl (fun (a b : Nat) => a + b) 0
theorem foldl_add (l : List Nat) : ∀ a, l.foldl (fun (a b : Nat) => a + b) a = a + l.foldl (fun (a b : Nat) => a + b) 0 := by
 induction l with
 | nil => intro a; rfl
 | cons x r ih => intro a; rw [List.foldl_cons, List.foldl_cons, ih, ih (0 + x)]; omega
theorem sumN_cons (x : Got) (l : List Got) : sumN (x :: l) = x.nodes + sumN l := by
 unfold sumN; rw [List.map_cons, List.foldl_cons, foldl_add]; omega
theorem sumS_cons (x : Got) (l : List Got) : sumS (x :: l) = x.size + sumS l := by
 unfold sumS; rw [List.map_cons, List.foldl_cons, foldl_add]; omega
noncomputable def Sm (b : Bytes) (g : Got) (t : Bytes) : Prop := t.length + 1 ≤ b.length ∧ g.nodes + t.length ≤ b.length ∧ g.size + t.length + 1 ≤ b.length
noncomputable def SmL (got : List Got) (b : Bytes) (l : List Got) (t : Bytes) : Prop := t.length ≤ b.length ∧ ∃ l', l = got ++ l' ∧ sumN l' + t.length ≤ b.length ∧ sumS l' + t.length ≤ b.length
theorem SmL.cons {got : List Got} {b : Bytes} {x : Got} {t : Bytes} {l : List Got} {u : Bytes} (h : Sm b x t) (k : SmL (got ++ [x]) t l u) : SmL got b l u := by
 obtain ⟨k1, l', rfl, k2, k3⟩ := k
 obtain ⟨h1, h2, h3⟩ := h
 refine ⟨by omega, x :: l', by simp, ?_, ?_⟩
 · rw [sumN_cons]; omega
 · rw [sumS_cons]; omega
theorem smalls : ∀ f : Nat, (∀ d b g t, itemIn f d b = some (g, t) → Sm b g t) ∧ (∀ d n got b l t, itemsIn f d n got b = some (l, t) → SmL got b l t) ∧ (∀ d got b l t, itemsOpen f d got b = some (l, t) → SmL got b l t ∧ t.length + 1 ≤ b.length)
 | 0 => ⟨fun d b g t h => by simp [itemIn] at h, fun d n got b l t h => by simp [itemsIn] at h, fun d got b l t h => by simp [itemsOpen] at h⟩
 | f + 1 => by
   obtain ⟨i1, i2, i3⟩ := smalls f
   refine ⟨fun d b g t h => ?_, fun d n got b l t h => ?_, fun d got b l t h => ?_⟩
   · cases b with
     | nil => simp [itemIn] at h
     | cons c r =>
       rw [itemIn.eq_def] at h
       dsimp only at h
       split at h
       · split at h
         · rename_i n u hu
           cases h
           have := headIn_len hu
           exact ⟨by rw [List.length_cons]; omega, by show 1 + _ ≤ _; rw [List.length_cons]; omega, by show 0 + _ + 1 ≤ _; rw [List.length_cons]; omega⟩
         · cases h
       · split at h
         · have := stringIn_len h
           exact ⟨by rw [List.length_cons]; omega, by rw [List.length_cons]; omega, by rw [List.length_cons]; omega⟩
         · split at h
           · split at h
             · cases h
               exact ⟨by rw [List.length_cons]; omega, by show 1 + _ ≤ _; rw [List.length_cons]; omega, by show 0 + _ + 1 ≤ _; rw [List.length_cons]; omega⟩
             · split at h
               · split at h
                 · split at h
                   · cases h
                   · cases h
                     exact ⟨by rw [List.length_cons, List.length_cons]; omega, by show 1 + _ ≤ _; rw [List.length_cons, List.length_cons]; omega, by show 0 + _ + 1 ≤ _; rw [List.length_cons, List.length_cons]; omega⟩
                 · cases h
               · split at h
                 · rename_i n u hu
                   cases h
                   have := headIn_len hu
                   exact ⟨by rw [List.length_cons]; omega, by show 1 + _ ≤ _; rw [List.length_cons]; omega, by show 0 + _ + 1 ≤ _; rw [List.length_cons]; omega⟩
                 · cases h
           · split at h
             · cases h
             · split at h
               · split at h
                 · cases h
                 · rename_i n u hu
                   split at h
                   · cases h
                   · rename_i x v hx
                     cases h
                     have := headIn_len hu
                     obtain ⟨a1, a2, a3⟩ := i1 _ _ _ _ hx
                     exact ⟨by rw [List.length_cons]; omega, by show 1 + x.nodes + _ ≤ _; rw [List.length_cons]; omega, by show x.size + _ + 1 ≤ _; rw [List.length_cons]; omega⟩
               · split at h
                 · split at h
                   · cases h
                   · rename_i l u hl
                     obtain ⟨⟨a1, l', e, a2, a3⟩, a4⟩ := i3 _ _ _ _ _ hl
                     have e' : l = l' := e
                     subst e'
                     split at h
                     · cases h
                       exact ⟨by rw [List.length_cons]; omega, by show 1 + sumN l + _ ≤ _; rw [List.length_cons]; omega, by show sumS l + _ + 1 ≤ _; rw [List.length_cons]; omega⟩
                     · split at h
                       · cases h
                         exact ⟨by rw [List.length_cons]; omega, by show 1 + sumN l + _ ≤ _; rw [List.length_cons]; omega, by show sumS l + _ + 1 ≤ _; rw [List.length_cons]; omega⟩
                       · cases h
                 · split at h
                   · cases h
                   · rename_i n u hu
                     split at h
                     · cases h
                     · rename_i l v hl
                       obtain ⟨a1, l', e, a2, a3⟩ := i2 _ _ _ _ _ _ hl
                       have e' : l = l' := e
                       subst e'
                       have := headIn_len hu
                       split at h
                       · cases h
                         exact ⟨by rw [List.length_cons]; omega, by show 1 + sumN l + _ ≤ _; rw [List.length_cons]; omega, by show sumS l + _ + 1 ≤ _; rw [List.length_cons]; omega⟩
                       · cases h
                         exact ⟨by rw [List.length_cons]; omega, by show 1 + sumN l + _ ≤ _; rw [List.length_cons]; omega, by show sumS l + _ + 1 ≤ _; rw [List.length_cons]; omega⟩
   · rw [itemsIn] at h
     split at h
     · cases h
       exact ⟨Nat.le_refl _, [], by simp, by simp [sumN], by simp [sumS]⟩
     · split at h
       · cases h
       · rename_i x u hx
         exact SmL.cons (i1 _ _ _ _ hx) (i2 _ _ _ _ _ _ h)
   · rw [itemsOpen.eq_def] at h
     dsimp only at h
     split at h
     · cases h
     · rename_i c r
       split at h
       · cases h
         exact ⟨⟨by simp, [], by simp, by simp [sumN], by simp [sumS]⟩, by simp⟩
       · split at h
         · cases h
         · rename_i x u hx
           have a := i1 _ _ _ _ hx
           obtain ⟨b1, b2⟩ := i3 _ _ _ _ _ h
           exact ⟨SmL.cons a b1, by have := a.1; omega⟩
theorem fuels : ∀ f : Nat, (∀ d b f', 2 * b.length + 2 ≤ f → 2 * b.length + 2 ≤ f' → itemIn f d b = itemIn f' d b) ∧ (∀ d n got b f', 2 * b.length + 3 ≤ f → 2 * b.length + 3 ≤ f' → itemsIn f d n got b = itemsIn f' d n got b) ∧ (∀ d got b f', 2 * b.length + 3 ≤ f → 2 * b.length + 3 ≤ f' → itemsOpen f d got b = itemsOpen f' d got b)
 | 0 => ⟨fun d b f' h => by omega, fun d n got b f' h => by omega, fun d got b f' h => by omega⟩
 | f + 1 => by
   obtain ⟨i1, i2, i3⟩ := fuels f
   refine ⟨fun d b f' h h' => ?_, fun d n got b f' h h' => ?_, fun d got b f' h h' => ?_⟩
   · cases f' with
     | zero => omega
     | succ f' =>
       cases b with
       | nil => rw [itemIn.eq_def (f + 1), itemIn.eq_def (f' + 1)]
       | cons c r =>
         rw [List.length_cons] at h h'
         rw [itemIn.eq_def (f + 1), itemIn.eq_def (f' + 1)]
         dsimp only
         cases d with
         | zero => rfl
         | succ e =>
           dsimp only
           have k2 : ∀ n t, headIn (c.toNat % 32) r = some (n, t) → itemIn f e t = itemIn f' e t := fun n t q => by
             have := headIn_len q
             exact i1 _ _ _ (by omega) (by omega)
           have k3 : itemsOpen f e [] r = itemsOpen f' e [] r := i3 _ _ _ _ (by omega) (by omega)
           have k4 : ∀ n t k, headIn (c.toNat % 32) r = some (n, t) → itemsIn f e k [] t = itemsIn f' e k [] t := fun n t k q => by
             have := headIn_len q
             exact i2 _ _ _ _ _ (by omega) (by omega)
           rw [k3]
           cases q : headIn (c.toNat % 32) r with
           | none => rfl
           | some z =>
             obtain ⟨n, t⟩ := z
             dsimp only
             rw [k2 n t q, k4 n t _ q]
   · cases f' with
     | zero => omega
     | succ f' =>
       rw [itemsIn, itemsIn]
       split
       · rfl
       · rw [i1 d b f' (by omega) (by omega)]
         split
         · rfl
         · rename_i x t hx
           have := ((smalls f').1 _ _ _ _ hx).1
           exact i2 _ _ _ _ _ (by omega) (by omega)
   · cases f' with
     | zero => omega
     | succ f' =>
       rw [itemsOpen.eq_def (f + 1), itemsOpen.eq_def (f' + 1)]
       dsimp only
       cases b with
       | nil => rfl
       | cons c r =>
         dsimp only
         split
         · rfl
         · rw [i1 d (c :: r) f' (by omega) (by omega)]
           split
           · rfl
           · rename_i x t hx
             have := ((smalls f').1 _ _ _ _ hx).1
             exact i3 _ _ _ _ (by omega) (by omega)
noncomputable def item (d : Nat) (b : Bytes) : Option (Got × Bytes) := itemIn (2 * b.length + 2) d b
noncomputable def items (d n : Nat) (got : List Got) (b : Bytes) : Option (List Got × Bytes) := itemsIn (2 * b.length + 3) d n got b
noncomputable def itemsO (d : Nat) (got : List Got) (b : Bytes) : Option (List Got × Bytes) := itemsOpen (2 * b.length + 3) d got b
theorem item_sm {d : Nat} {b : Bytes} {g : Got} {t : Bytes} (h : item d b = some (g, t)) : Sm b g t := (smalls _).1 _ _ _ _ h
theorem item_nil (d : Nat) : item d [] = none := by
 unfold item
 rw [itemIn.eq_def]
theorem items_eq (d n : Nat) (got : List Got) (b : Bytes) : items d n got b = if n = 0 then some (got, b) else match item d b with
   | none => none
   | some (x, t) => items d (n - 1) (got ++ [x]) t := by
 show itemsIn (2 * b.length + 2 + 1) d n got b = _
 rw [itemsIn]
 split
 · rfl
 · unfold item
   cases hx : itemIn (2 * b.length + 2) d b with
   | none => rfl
   | some z =>
     obtain ⟨x, t⟩ := z
     have := ((smalls _).1 _ _ _ _ hx).1
     exact (fuels (2 * b.length + 2)).2.1 d (n - 1) (got ++ [x]) t (2 * t.length + 3) (by omega) (by omega)
theorem itemsO_eq (d : Nat) (got : List Got) (b : Bytes) : itemsO d got b = match b with
   | [] => none
   | c :: r => if c = 0xFF then some (got, r) else match item d (c :: r) with
     | none => none
     | some (x, t) => itemsO d (got ++ [x]) t := by
 show itemsOpen (2 * b.length + 2 + 1) d got b = _
 rw [itemsOpen.eq_def]
 dsimp only
 cases b with
 | nil => rfl
 | cons c r =>
   dsimp only
   split
   · rfl
   · unfold item
     cases hx : itemIn (2 * (c :: r).length + 2) d (c :: r) with
     | none => rfl
     | some z =>
       obtain ⟨x, t⟩ := z
       have := ((smalls _).1 _ _ _ _ hx).1
       exact (fuels (2 * (c :: r).length + 2)).2.2 d (got ++ [x]) t (2 * t.length + 3) (by omega) (by omega)
theorem item_cons (d : Nat) (c : UInt8) (r : Bytes) : item d (c :: r) =
   (let m := c.toNat / 32
   let i := c.toNat % 32
   if m = 0 ∨ m = 1 then (match headIn i r with
     | some (n, t) => some (leaf (short m n) 0, t)
     | none => none)
   else if m = 2 ∨ m = 3 then stringIn m i r
   else if m = 7 then (if i < 24 then some (leaf [c] 0, r)
     else if i = 24 then (match r with
       | v :: t => if v.toNat < 32 then none else some (leaf [c, v] 0, t)
       | [] => none)
     else match headIn i r with
       | some (x, t) => some (leaf (shortest (if i = 25 then .half else if i = 26 then .single else .double) x) 0, t)
       | none => none)
   else match d with
     | 0 => none
     | e + 1 =>
       if m = 6 then (match headIn i r with
         | none => none
         | some (n, t) => match item e t with
           | none => none
           | some (x, u) => some (⟨short 6 n ++ x.out, 1 + x.nodes, x.size, x.twice⟩, u))
       else if i = 31 then (match itemsO e [] r with
         | none => none
         | some (l, t) => if m = 4 then some (arrayOf l, t) else if l.length % 2 = 0 then some (mapOf l, t) else none)
       else match headIn i r with
         | none => none
         | some (n, t) => match items e (if m = 4 then n else 2 * n) [] t with
           | none => none
           | some (l, u) => some (if m = 4 then arrayOf l else mapOf l, u)) := by
 have h0 : item d (c :: r) = itemIn (2 * r.length + 3 + 1) d (c :: r) := by
   unfold item
   rw [List.length_cons]
   have e : 2 * (r.length + 1) + 2 = 2 * r.length + 3 + 1 := by omega
   rw [e]
 rw [h0, itemIn.eq_def]
 dsimp only
 cases d with
 | zero => rfl
 | succ e =>
   dsimp only
   have k2 : ∀ n t, headIn (c.toNat % 32) r = some (n, t) → itemIn (2 * r.length + 3) e t = item e t := fun n t q => by
     have := headIn_len q
     exact (fuels _).1 _ _ _ (by omega) (by omega)
   have k3 : itemsOpen (2 * r.length + 3) e [] r = itemsO e [] r := rfl
   have k4 : ∀ n t k, headIn (c.toNat % 32) r = some (n, t) → itemsIn (2 * r.length + 3) e k [] t = items e k [] t := fun n t k q => by
     have := headIn_len q
     exact (fuels _).2.1 _ _ _ _ _ (by omega) (by omega)
   rw [k3]
   cases q : headIn (c.toNat % 32) r with
   | none => rfl
   | some z =>
     obtain ⟨n, t⟩ := z
     dsimp only
     rw [k2 n t q, k4 n t _ q]
     rfl
theorem readIn_eq {b : Bytes} (hb : b.length ≤ 400) : readIn b = match item 16 b with
   | some (x, []) => some x
   | _ => none := by
 unfold readIn
 show (match item 16 b with | some (x, []) => _ | _ => none) = _
 cases h : item 16 b with
 | none => rfl
 | some z =>
   obtain ⟨g, t⟩ := z
   cases t with
   | cons _ _ => rfl
   | nil =>
     have := item_sm h
     obtain ⟨h1, h2, h3⟩ := this
     have e : ([] : Bytes).length = 0 := rfl
     dsimp only
     rw [if_pos]
     unfold NODES CONTENT
     omega
end Pu
end
section
namespace Pu
open Of
theorem u8_lt (c : UInt8) : c.toNat < 256 := c.toNat_lt
theorem ofNat_toNat (n : Nat) : (UInt8.ofNat n).toNat = n % 256 := by simp
theorem byte_toNat {m i : Nat} (h : 32 * m + i < 256) : (byte m i).toNat = 32 * m + i := by
 unfold byte; rw [ofNat_toNat]; omega
theorem num_snoc (l : Bytes) (b : UInt8) : num (l ++ [b]) = num l * 256 + b.toNat := by
 unfold num
 rw [List.foldl_append]
 show 256 * _ + _ = _
 omega
theorem num_lt : ∀ (l : Bytes), num l < 256 ^ l.length := by
 intro l
 suffices h : ∀ (l : Bytes) (a : Nat), l.foldl (fun x b => 256 * x + b.toNat) a < (a + 1) * 256 ^ l.length by
   have := h l 0
   unfold num
   simpa using this
 intro l
 induction l with
 | nil => intro a; simp
 | cons b r ih =>
   intro a
   rw [List.foldl_cons, List.length_cons]
   refine Nat.lt_of_lt_of_le (ih _) ?_
   rw [Nat.pow_succ, Nat.mul_comm (256 ^ r.length) 256, ← Nat.mul_assoc]
   refine Nat.mul_le_mul_right _ ?_
   have := u8_lt b
   omega
theorem take_snoc {α : Type} {l : List α} {i : Nat} {x : α} (h : l[i]? = some x) : l.take (i + 1) = l.take i ++ [x] := by
 rw [List.take_add_one, h]; rfl
theorem be_length (w n : Nat) : (be w n).length = w := by simp [be]
theorem be_get {w n j : Nat} (h : j < w) : (be w n)[j]? = some (UInt8.ofNat (n / 256 ^ (w - 1 - j))) := by
 unfold be
 rw [List.getElem?_map, List.getElem?_reverse (by simpa using h)]
 simp only [List.length_range]
 rw [List.getElem?_range (by omega)]
 rfl
theorem pow256 (k : Nat) : 256 ^ k = 2 ^ (8 * k) := by rw [Nat.pow_mul]
theorem be_take_snoc {w n j : Nat} (h : j < w) : (be w n).take (j + 1) = (be w n).take j ++ [UInt8.ofNat (n / 2 ^ (8 * (w - 1 - j)))] := by
 rw [take_snoc (be_get h), pow256]
theorem be_num {w n : Nat} (h : n < 256 ^ w) : num (be w n) = n := by
 have key : ∀ j, j ≤ w → num ((be w n).take j) = n / 256 ^ (w - j) := by
   intro j
   induction j with
   | zero => intro _; simp [num, Nat.div_eq_of_lt h]
   | succ j ih =>
     intro hj
     rw [take_snoc (be_get (by omega)), num_snoc, ih (by omega), ofNat_toNat]
     have e1 : w - j = (w - 1 - j) + 1 := by omega
     have e2 : w - (j + 1) = w - 1 - j := by omega
     rw [e1, e2, Nat.pow_succ, ← Nat.div_div_eq_div_mul]
     omega
 have := key w (Nat.le_refl _)
 rw [List.take_of_length_le (by rw [be_length]; omega)] at this
 simpa using this
theorem short_wide {m n i : Nat} (h0 : 24 ≤ n) (h1 : 24 ≤ i) (h2 : i ≤ 27) (h3 : n < 2 ^ (8 * 2 ^ (i - 24))) (h4 : ∀ j, 24 ≤ j → j < i → 2 ^ (8 * 2 ^ (j - 24)) ≤ n) : short m n = byte m i :: be (2 ^ (i - 24)) n := by
 unfold short
 rw [if_neg (by omega)]
 obtain rfl | rfl | rfl | rfl : i = 24 ∨ i = 25 ∨ i = 26 ∨ i = 27 := by omega
 · rw [if_pos (by simpa using h3)]
 · have := h4 24 (by omega) (by omega)
   rw [if_neg (by simp at this; omega), if_pos (by simpa using h3)]
 · have := h4 25 (by omega) (by omega)
   simp at this h3
   rw [if_neg (by omega), if_neg (by omega), if_pos (by omega)]
 · have := h4 26 (by omega) (by omega)
   simp at this h3
   rw [if_neg (by omega), if_neg (by omega), if_neg (by omega)]
theorem short_small {m n : Nat} (h : n < 24) : short m n = [byte m n] := by unfold short; rw [if_pos h]
theorem short_length (m n : Nat) : 1 ≤ (short m n).length ∧ (short m n).length ≤ 9 := by
 unfold short
 split
 · simp
 · split
   · simp [be_length]
   · split
     · simp [be_length]
     · split <;> simp [be_length]
noncomputable def clen (a : Nat) : Nat := if a < 128 then 1 else if 192 ≤ a ∧ a < 224 then 2 else if 224 ≤ a ∧ a < 240 then 3 else if 240 ≤ a ∧ a < 248 then 4 else 0
noncomputable def least (k : Nat) : Nat := if k ≤ 1 then 0 else if k = 2 then 128 else if k = 3 then 2048 else 65536
noncomputable def codeOf (k : Nat) (a : UInt8) (r : Bytes) : Nat := r.foldl (fun x b => x * 64 + b.toNat % 64) (a.toNat % 2 ^ (7 - k))
noncomputable def okCode (k code : Nat) : Bool := !(decide (55296 ≤ code) && decide (code ≤ 57343)) && (decide (least k ≤ code) && decide (code ≤ 1114111))
noncomputable def isChar : Bytes → Bool
 | [] => false
 | [_] => true
 | a :: r => r.all (fun b => b.toNat / 64 == 2) && okCode (r.length + 1) (codeOf (r.length + 1) a r)
theorem utf8_fuel : ∀ (k k' : Nat) (b : Bytes), b.length ≤ k → b.length ≤ k' → utf8 k b = utf8 k' b
 | _, _, [], _, _ => by rw [utf8.eq_def, utf8.eq_def]
 | 0, _, a :: r, h, _ => by simp at h
 | _, 0, a :: r, _, h => by simp at h
 | k + 1, k' + 1, a :: r, h, h' => by
   rw [List.length_cons] at h h'
   have ih : ∀ t : Bytes, t.length ≤ r.length → utf8 k t = utf8 k' t := fun t ht => utf8_fuel k k' t (by omega) (by omega)
   rw [utf8.eq_def, utf8.eq_def]
   dsimp only
   rw [ih r (Nat.le_refl _)]
   cases r with
   | nil => rfl
   | cons b s =>
     dsimp only
     rw [ih s (by simp)]
     cases s with
     | nil => rfl
     | cons c t =>
       dsimp only
       rw [ih t (by simp; omega)]
       cases t with
       | nil => rfl
       | cons d u =>
         dsimp only
         rw [ih u (by simp; omega)]
noncomputable def ut (b : Bytes) : Bool := utf8 b.length b
theorem utf8_ut {k : Nat} {b : Bytes} (h : b.length ≤ k) : utf8 k b = ut b := utf8_fuel _ _ _ h (Nat.le_refl _)
theorem goes_iff (b : UInt8) : goes b = (b.toNat / 64 == 2) := by
 unfold goes
 rw [Bool.eq_iff_iff]
 simp
 omega
theorem ut_nil : ut [] = true := by unfold ut; rw [utf8.eq_def]
theorem ut_cons (a : UInt8) (r : Bytes) : ut (a :: r) = if clen a.toNat = 0 ∨ (a :: r).length < clen a.toNat then false else isChar ((a :: r).take (clen a.toNat)) && ut ((a :: r).drop (clen a.toNat)) := by
 have ha := u8_lt a
 have e0 : ut (a :: r) = utf8 (r.length + 1) (a :: r) := rfl
 rw [e0, utf8.eq_def]
 dsimp only
 by_cases h1 : a.toNat < 128
 · have c1 : clen a.toNat = 1 := by unfold clen; rw [if_pos h1]
   rw [if_pos h1, c1, if_neg (by simp)]
   rw [utf8_ut (Nat.le_refl _)]
   simp [isChar]
 rw [if_neg h1]
 by_cases h2 : a.toNat < 194
 · rw [if_pos h2]
   by_cases h3 : a.toNat < 192
   · have c1 : clen a.toNat = 0 := by unfold clen; rw [if_neg h1, if_neg (by omega), if_neg (by omega), if_neg (by omega)]
     rw [c1, if_pos (.inl rfl)]
   · have c1 : clen a.toNat = 2 := by unfold clen; rw [if_neg h1, if_pos (by omega)]
     rw [c1]
     split
     · rfl
     · rename_i hn
       cases r with
       | nil => simp at hn
       | cons b s =>
         have hb := u8_lt b
         simp [isChar, okCode, codeOf, least]
         intro _ _
         omega
 rw [if_neg h2]
 cases r with
 | nil =>
   dsimp only
   split
   · rfl
   · rename_i hn
     exfalso
     apply hn
     unfold clen
     rw [if_neg h1]
     simp
     split
     · simp
     · split
       · simp
       · split <;> simp
 | cons b s =>
   dsimp only
   have hb := u8_lt b
   by_cases h3 : a.toNat < 224
   · have c1 : clen a.toNat = 2 := by unfold clen; rw [if_neg h1, if_pos (by omega)]
     rw [c1, if_neg (show ¬ (2 = 0 ∨ (a :: b :: s).length < 2) by simp), if_pos h3, utf8_ut (by simp), goes_iff]
     by_cases g : b.toNat / 64 = 2
     · simp [isChar, okCode, codeOf, least, g]
       intro _
       omega
     · simp [isChar, g]
   · rw [if_neg h3]
     cases s with
     | nil =>
       have : clen a.toNat = 0 ∨ [a, b].length < clen a.toNat := by
         unfold clen
         rw [if_neg h1, if_neg (by omega)]
         simp
         split
         · simp
         · split <;> simp
       rw [if_pos this]
       split <;> rfl
     | cons c t =>
       dsimp only
       have hc := u8_lt c
       by_cases h4 : a.toNat < 240
       · have c1 : clen a.toNat = 3 := by unfold clen; rw [if_neg h1, if_neg (by omega), if_pos (by omega)]
         rw [c1, if_neg (show ¬ (3 = 0 ∨ (a :: b :: c :: t).length < 3) by simp), if_pos h4, utf8_ut (by simp; omega), goes_iff, goes_iff]
         by_cases g : b.toNat / 64 = 2
         · by_cases g' : c.toNat / 64 = 2
           · have e : codeOf 3 a [b, c] = threeOf a b c := by simp [codeOf, threeOf]; omega
             have l : threeOf a b c < 65536 := by unfold threeOf; omega
             simp only [isChar, List.take_succ_cons, List.take_zero, List.drop_succ_cons, List.drop_zero, List.length_cons, List.length_nil, Nat.zero_add, Nat.reduceAdd, okCode, least, e, g, g']
             rw [Bool.eq_iff_iff]
             simp [g, g']
             grind
           · simp [isChar, g, g']
         · simp [isChar, g]
       · rw [if_neg h4]
         cases t with
         | nil =>
           have : clen a.toNat = 0 ∨ [a, b, c].length < clen a.toNat := by
             unfold clen
             rw [if_neg h1, if_neg (by omega), if_neg (by omega)]
             simp
             split <;> first | omega | simp | (simp; omega)
           rw [if_pos this]
           split
           · rfl
           · split <;> rfl
         | cons d u =>
           dsimp only
           have hd := u8_lt d
           by_cases h5 : a.toNat < 248
           · have c1 : clen a.toNat = 4 := by unfold clen; rw [if_neg h1, if_neg (by omega), if_neg (by omega), if_pos (by omega)]
             rw [c1, if_neg (show ¬ (4 = 0 ∨ (a :: b :: c :: d :: u).length < 4) by simp), utf8_ut (by simp; omega), goes_iff, goes_iff, goes_iff]
             by_cases g : b.toNat / 64 = 2
             · by_cases g' : c.toNat / 64 = 2
               · by_cases g'' : d.toNat / 64 = 2
                 · have e : codeOf 4 a [b, c, d] = fourOf a b c d := by simp [codeOf, fourOf]; omega
                   have l : fourOf a b c d ≤ 1114111 → a.toNat < 245 := by unfold fourOf; omega
                   simp only [isChar, List.take_succ_cons, List.take_zero, List.drop_succ_cons, List.drop_zero, List.length_cons, List.length_nil, Nat.zero_add, Nat.reduceAdd, okCode, least, e, g, g', g'']
                   rw [Bool.eq_iff_iff]
                   simp [g, g', g'']
                   grind
                 · have e9 : (d.toNat / 64 == 2) = false := by simp [g'']
                   simp [isChar, g, g', e9]
               · simp [isChar, g, g']
             · simp [isChar, g]
           · have c1 : clen a.toNat = 0 := by unfold clen; rw [if_neg h1, if_neg (by omega), if_neg (by omega), if_neg (by omega)]
             rw [c1, if_pos (show 0 = 0 ∨ (a :: b :: c :: d :: u).length < 0 from .inl rfl)]
             split
             · rfl
             · split
               · rfl
               · have : ¬ a.toNat < 245 := by omega
                 simp [this]
end Pu
end
section
namespace Pu
open Of
theorem log2_of {x k : Nat} (h1 : 2 ^ k ≤ x) (h2 : x < 2 ^ (k + 1)) : x.log2 = k := by
 have hp : 0 < 2 ^ k := Nat.two_pow_pos k
 have h0 : x ≠ 0 := by omega
 have a := (Nat.le_log2 h0).mpr h1
 have b := (Nat.log2_lt h0).mpr h2
 omega
theorem log2_le {x : Nat} (h0 : x ≠ 0) : 2 ^ x.log2 ≤ x ∧ x < 2 ^ (x.log2 + 1) := ⟨(Nat.le_log2 h0).mp (Nat.le_refl _), (Nat.log2_lt h0).mp (by omega)⟩
noncomputable def expo (g : Fmt) (x : Nat) : Nat := x / 2 ^ g.fbits % 2 ^ g.ebits
noncomputable def frac (g : Fmt) (x : Nat) : Nat := x % 2 ^ g.fbits
noncomputable def topE (g : Fmt) : Nat := 2 ^ g.ebits - 1
noncomputable def signN (g : Fmt) (x : Nat) : Nat := x / 2 ^ (g.ebits + g.fbits)
noncomputable def stepsN (g : Fmt) (x : Nat) : Nat := if expo g x = 0 then frac g x * 2 ^ g.up else (frac g x + 2 ^ g.fbits) * 2 ^ (expo g x - 1 + g.up)
noncomputable def bitLen (n : Nat) : Nat := if n = 0 then 0 else n.log2 + 1
noncomputable def sizeBits (g : Fmt) (c : Nat) : Option Nat :=
 if c % 2 ^ g.up ≠ 0 then none
 else if bitLen (c / 2 ^ g.up) ≤ g.fbits then some (c / 2 ^ g.up)
 else if topE g ≤ bitLen (c / 2 ^ g.up) - g.fbits then none
 else if c / 2 ^ g.up % 2 ^ (bitLen (c / 2 ^ g.up) - g.fbits - 1) ≠ 0 then none
 else some ((bitLen (c / 2 ^ g.up) - g.fbits) * 2 ^ g.fbits + (c / 2 ^ g.up / 2 ^ (bitLen (c / 2 ^ g.up) - g.fbits - 1) - 2 ^ g.fbits))
noncomputable def isInfN (g : Fmt) (x : Nat) : Bool := decide (expo g x = topE g) && decide (frac g x = 0)
noncomputable def isNanN (g : Fmt) (x : Nat) : Bool := decide (expo g x = topE g) && !decide (frac g x = 0)
noncomputable def narrowTo (g h : Fmt) (x : Nat) : Option Nat :=
 (if isInfN g x = true then some (topE h * 2 ^ h.fbits) else sizeBits h (stepsN g x)).map fun v => signN g x * 2 ^ (h.ebits + h.fbits) + v
noncomputable def topS (g : Fmt) (s : Bool) : Nat := if s = true then 2 ^ (g.ebits + g.fbits) else 0
noncomputable def sizeFor (g : Fmt) : Option Nat → Option Nat
 | none => some (topE g * 2 ^ g.fbits)
 | some x =>
   if x = 0 then some 0
   else if x < 2 ^ (g.fbits + 1 + g.up) then (if x % 2 ^ (1 + g.up) = 0 then some (x / 2 ^ (1 + g.up)) else none)
   else if 2 ^ g.ebits - 1 ≤ Nat.log2 x - g.fbits - g.up ∨ x % 2 ^ (Nat.log2 x - g.fbits - g.up + g.up) ≠ 0 then none
     else some ((Nat.log2 x - g.fbits - g.up) * 2 ^ g.fbits + (x / 2 ^ (Nat.log2 x - g.fbits - g.up + g.up) - 2 ^ g.fbits))
theorem bitsFor_eq (g : Fmt) (s : Bool) (m : Option Nat) : bitsFor g s m = (sizeFor g m).map fun v => topS g s + v := by
 unfold bitsFor sizeFor
 cases m with
 | none => rfl
 | some x =>
   dsimp only
   split
   · rfl
   · split
     · split <;> rfl
     · split
       · rfl
       · show some _ = some _
         rw [Nat.add_assoc]; rfl
theorem sizeBits_eq (g : Fmt) (c : Nat) : sizeBits g c = sizeFor g (some (2 * c)) := by
 have hU : 0 < 2 ^ g.up := Nat.two_pow_pos _
 have hF : 0 < 2 ^ g.fbits := Nat.two_pow_pos _
 have e1 : 2 ^ (1 + g.up) = 2 * 2 ^ g.up := by rw [Nat.add_comm, Nat.pow_succ]; omega
 have e2 : 2 ^ (g.fbits + 1 + g.up) = 2 * (2 ^ g.fbits * 2 ^ g.up) := by rw [Nat.pow_add, Nat.pow_succ]; rw [Nat.mul_comm (2 ^ g.fbits) 2, Nat.mul_assoc]
 have e3 : 2 * c % (2 * 2 ^ g.up) = 2 * (c % 2 ^ g.up) := Nat.mul_mod_mul_left _ _ _
 have e4 : 2 * c / (2 * 2 ^ g.up) = c / 2 ^ g.up := Nat.mul_div_mul_left _ _ (by omega)
 unfold sizeBits sizeFor
 dsimp only
 by_cases hz : c = 0
 · subst hz
   simp [bitLen]
 rw [if_neg (show ¬ 2 * c = 0 by omega), e2, e1, e3, e4]
 by_cases hc : c < 2 ^ g.fbits * 2 ^ g.up
 · rw [if_pos (show 2 * c < 2 * (2 ^ g.fbits * 2 ^ g.up) by omega)]
   by_cases hm : c % 2 ^ g.up = 0
   · rw [if_neg (by simpa using hm), if_pos (show 2 * (c % 2 ^ g.up) = 0 by omega)]
     have own : c / 2 ^ g.up < 2 ^ g.fbits := Nat.div_lt_of_lt_mul (by rw [Nat.mul_comm]; exact hc)
     rw [if_pos]
     unfold bitLen
     split
     · omega
     · rename_i h0
       have := (Nat.log2_lt h0).mpr own
       omega
   · rw [if_pos hm, if_neg (show ¬ 2 * (c % 2 ^ g.up) = 0 by omega)]
 · rw [if_neg (show ¬ 2 * c < 2 * (2 ^ g.fbits * 2 ^ g.up) by omega)]
   have hx0 : 2 * c ≠ 0 := by omega
   have hc0 : c ≠ 0 := hz
   obtain ⟨b1, b2⟩ := log2_le hc0
   have lx : (2 * c).log2 = c.log2 + 1 := log2_of (by rw [Nat.pow_succ]; omega) (by rw [Nat.pow_succ]; omega)
   have lc : g.fbits + g.up ≤ c.log2 := (Nat.le_log2 hc0).mpr (by rw [Nat.pow_add]; omega)
   rw [lx]
   obtain ⟨e, he⟩ : ∃ e, c.log2 = e + g.fbits + g.up := ⟨c.log2 - g.fbits - g.up, by omega⟩
   have ee : c.log2 + 1 - g.fbits - g.up = e + 1 := by omega
   rw [ee]
   have p1 : 2 ^ (e + 1 + g.up) = 2 ^ e * (2 * 2 ^ g.up) := by
     rw [Nat.pow_add, Nat.pow_succ, Nat.mul_assoc]
   by_cases hm : c % 2 ^ g.up = 0
   · rw [if_neg (by simpa using hm)]
     obtain ⟨own, ho⟩ : ∃ own, c = own * 2 ^ g.up := ⟨c / 2 ^ g.up, by have := Nat.div_add_mod c (2 ^ g.up); rw [hm, Nat.add_zero, Nat.mul_comm] at this; exact this.symm⟩
     have od : c / 2 ^ g.up = own := by rw [ho, Nat.mul_div_cancel _ hU]
     rw [od]
     have lo : own.log2 = e + g.fbits := by
       rw [he, ho] at b1 b2
       refine log2_of ?_ ?_
       · rw [Nat.pow_add 2 (e + g.fbits) g.up] at b1
         exact Nat.le_of_mul_le_mul_right b1 hU
       · have : 2 ^ (e + g.fbits + g.up + 1) = 2 ^ (e + g.fbits + 1) * 2 ^ g.up := by rw [← Nat.pow_add]; congr 1; omega
         rw [this] at b2
         exact Nat.lt_of_mul_lt_mul_right b2
     have o0 : own ≠ 0 := fun z => by rw [z, Nat.zero_mul] at ho; omega
     have bl : bitLen own = e + g.fbits + 1 := by unfold bitLen; rw [if_neg o0, lo]
     rw [bl]
     have q1 : e + g.fbits + 1 - g.fbits = e + 1 := by omega
     have q2 : e + 1 - 1 = e := by omega
     rw [if_neg (by omega), q1, q2, p1]
     have q3 : 2 * c % (2 ^ e * (2 * 2 ^ g.up)) = own % 2 ^ e * (2 * 2 ^ g.up) := by
       have : 2 * c = own * (2 * 2 ^ g.up) := by rw [ho]; rw [Nat.mul_left_comm]
       rw [this, Nat.mul_mod_mul_right]
     have q4 : 2 * c / (2 ^ e * (2 * 2 ^ g.up)) = own / 2 ^ e := by
       have : 2 * c = own * (2 * 2 ^ g.up) := by rw [ho]; rw [Nat.mul_left_comm]
       rw [this, Nat.mul_div_mul_right _ _ (by omega)]
     rw [q3, q4]
     unfold topE
     by_cases t1 : 2 ^ g.ebits - 1 ≤ e + 1
     · rw [if_pos t1, if_pos (.inl t1)]
     · rw [if_neg t1]
       by_cases t2 : own % 2 ^ e = 0
       · rw [if_neg (by simpa using t2), if_neg]
         rw [t2, Nat.zero_mul]
         simp
         omega
       · rw [if_pos t2, if_pos]
         right
         exact Nat.ne_of_gt (Nat.mul_pos (by omega) (by omega))
   · rw [if_pos hm, if_pos]
     right
     intro z
     apply hm
     rw [p1] at z
     have d1 : 2 * 2 ^ g.up ∣ 2 * c := Nat.dvd_trans (Nat.dvd_mul_left _ _) (Nat.dvd_of_mod_eq_zero z)
     have d2 : 2 ^ g.up ∣ c := Nat.dvd_of_mul_dvd_mul_left (by omega) d1
     exact Nat.mod_eq_zero_of_dvd d2
theorem E_ge (g : Fmt) : 2 ≤ 2 ^ g.ebits - 1 := by cases g <;> decide
theorem parts {g : Fmt} {s : Bool} {v : Nat} (hv : v < 2 ^ g.ebits * 2 ^ g.fbits) :
   decide (2 ^ (g.ebits + g.fbits) ≤ topS g s + v) = s ∧ expo g (topS g s + v) = v / 2 ^ g.fbits ∧ frac g (topS g s + v) = v % 2 ^ g.fbits := by
 have hF : 0 < 2 ^ g.fbits := Nat.two_pow_pos _
 have hq : v / 2 ^ g.fbits < 2 ^ g.ebits := Nat.div_lt_of_lt_mul (by rw [Nat.mul_comm]; exact hv)
 unfold topS expo frac
 rw [Nat.pow_add]
 cases s with
 | false =>
   rw [if_neg (by decide), Nat.zero_add]
   exact ⟨by simp; omega, Nat.mod_eq_of_lt hq, rfl⟩
 | true =>
   rw [if_pos rfl]
   refine ⟨by simp, ?_, ?_⟩
   · rw [Nat.add_comm, Nat.add_mul_div_right _ _ hF, Nat.add_mod_right, Nat.mod_eq_of_lt hq]
   · rw [Nat.add_comm, Nat.add_mul_mod_self_right]
theorem meaning_eq (g : Fmt) (x : Nat) : meaning g x = if isNanN g x = true then none else some (decide (2 ^ (g.ebits + g.fbits) ≤ x), if isInfN g x = true then none else some (2 * stepsN g x)) := by
 have e0 : meaning g x = (if expo g x = topE g then (if frac g x = 0 then some (decide (2 ^ (g.ebits + g.fbits) ≤ x), none) else none) else if expo g x = 0 then some (decide (2 ^ (g.ebits + g.fbits) ≤ x), some (frac g x * 2 ^ (1 + g.up))) else some (decide (2 ^ (g.ebits + g.fbits) ≤ x), some ((frac g x + 2 ^ g.fbits) * 2 ^ (expo g x + g.up)))) := rfl
 rw [e0]
 unfold isNanN isInfN stepsN
 by_cases h1 : expo g x = topE g
 · by_cases h2 : frac g x = 0
   · simp [h1, h2]
   · simp [h1, h2]
 · rw [if_neg h1]
   simp only [h1, decide_false, Bool.false_and, Bool.false_eq_true, if_false]
   by_cases h3 : expo g x = 0
   · rw [if_pos h3, if_pos h3, Nat.add_comm 1, Nat.pow_succ, ← Nat.mul_assoc, Nat.mul_comm 2]
   · rw [if_neg h3, if_neg h3]
     have : expo g x + g.up = (expo g x - 1 + g.up) + 1 := by omega
     rw [this, Nat.pow_succ, ← Nat.mul_assoc, Nat.mul_comm 2]
theorem bitsFor_means {g : Fmt} {s : Bool} {m : Option Nat} {y : Nat} (h : bitsFor g s m = some y) : meaning g y = some (s, m) ∧ y < 2 ^ g.bits := by
 rw [bitsFor_eq] at h
 cases hv : sizeFor g m with
 | none => rw [hv] at h; cases h
 | some v =>
   rw [hv] at h
   have hy : topS g s + v = y := Option.some.inj h
   subst hy
   have hF : 0 < 2 ^ g.fbits := Nat.two_pow_pos _
   have hU : 0 < 2 ^ g.up := Nat.two_pow_pos _
   have hE := E_ge g
   have fin : v < 2 ^ g.ebits * 2 ^ g.fbits → topS g s + v < 2 ^ g.bits := fun hl => by
     have : 2 ^ g.bits = 2 * (2 ^ g.ebits * 2 ^ g.fbits) := by unfold Fmt.bits; rw [Nat.pow_add, Nat.pow_add, Nat.pow_one, Nat.mul_assoc]
     rw [this]
     unfold topS
     rw [Nat.pow_add]
     split <;> omega
   have key : ∀ e r, e < 2 ^ g.ebits → r < 2 ^ g.fbits → v = e * 2 ^ g.fbits + r → v < 2 ^ g.ebits * 2 ^ g.fbits ∧ expo g (topS g s + v) = e ∧ frac g (topS g s + v) = r ∧ decide (2 ^ (g.ebits + g.fbits) ≤ topS g s + v) = s := fun e r h1 h2 h3 => by
     have hl : v < 2 ^ g.ebits * 2 ^ g.fbits := by
       have : (e + 1) * 2 ^ g.fbits ≤ 2 ^ g.ebits * 2 ^ g.fbits := Nat.mul_le_mul_right _ h1
       rw [Nat.add_mul, Nat.one_mul] at this
       omega
     obtain ⟨p1, p2, p3⟩ := parts (s := s) hl
     refine ⟨hl, ?_, ?_, p1⟩
     · rw [p2, h3, Nat.add_comm, Nat.add_mul_div_right _ _ hF, Nat.div_eq_of_lt h2, Nat.zero_add]
     · rw [p3, h3, Nat.add_comm, Nat.add_mul_mod_self_right, Nat.mod_eq_of_lt h2]
   rw [meaning_eq]
   unfold sizeFor at hv
   cases m with
   | none =>
     dsimp only at hv
     have e := Option.some.inj hv
     obtain ⟨k0, k1, k2, k3⟩ := key (topE g) 0 (by unfold topE; omega) hF (by omega)
     refine ⟨?_, fin k0⟩
     simp [isNanN, isInfN, k1, k2, k3]
   | some x =>
     dsimp only at hv
     by_cases hx : x = 0
     · rw [if_pos hx] at hv
       have e := Option.some.inj hv
       obtain ⟨k0, k1, k2, k3⟩ := key 0 0 (by omega) hF (by omega)
       refine ⟨?_, fin k0⟩
       have ne : ¬ (0 = topE g) := by unfold topE; omega
       simp [isNanN, isInfN, stepsN, k1, k2, k3, ne, hx]
     rw [if_neg hx] at hv
     by_cases hs : x < 2 ^ (g.fbits + 1 + g.up)
     · rw [if_pos hs] at hv
       by_cases hm : x % 2 ^ (1 + g.up) = 0
       · rw [if_pos hm] at hv
         have e := Option.some.inj hv
         have hr : x / 2 ^ (1 + g.up) < 2 ^ g.fbits := Nat.div_lt_of_lt_mul (by rw [Nat.mul_comm, ← Nat.pow_add, ← Nat.add_assoc]; exact hs)
         obtain ⟨k0, k1, k2, k3⟩ := key 0 (x / 2 ^ (1 + g.up)) (by omega) hr (by omega)
         refine ⟨?_, fin k0⟩
         have ne : ¬ (0 = topE g) := by unfold topE; omega
         have xx : 2 * (x / 2 ^ (1 + g.up) * 2 ^ g.up) = x := by
           have dm := Nat.div_add_mod x (2 ^ (1 + g.up))
           have e1 : 2 ^ (1 + g.up) = 2 * 2 ^ g.up := by rw [Nat.add_comm, Nat.pow_succ]; omega
           rw [hm, Nat.add_zero] at dm
           generalize x / 2 ^ (1 + g.up) = q at dm ⊢
           rw [← dm, e1, Nat.mul_comm q, Nat.mul_assoc]
         simp only [isNanN, isInfN, stepsN, k1, k2, k3, ne, decide_false, Bool.false_and, Bool.false_eq_true, if_false, if_true, xx]
       · rw [if_neg hm] at hv; cases hv
     · rw [if_neg hs] at hv
       obtain ⟨b1, b2⟩ := log2_le hx
       have lx : g.fbits + 1 + g.up ≤ x.log2 := (Nat.le_log2 hx).mpr (by omega)
       obtain ⟨e, he⟩ : ∃ e, x.log2 = e + 1 + g.fbits + g.up := ⟨x.log2 - 1 - g.fbits - g.up, by omega⟩
       have ee : x.log2 - g.fbits - g.up = e + 1 := by omega
       rw [ee] at hv
       by_cases hc : 2 ^ g.ebits - 1 ≤ e + 1 ∨ x % 2 ^ (e + 1 + g.up) ≠ 0
       · rw [if_pos hc] at hv; cases hv
       · rw [if_neg hc] at hv
         have ev := Option.some.inj hv
         have c1 : e + 1 < 2 ^ g.ebits - 1 := by omega
         have c2 : x % 2 ^ (e + 1 + g.up) = 0 := by omega
         have hP : 0 < 2 ^ (e + 1 + g.up) := Nat.two_pow_pos _
         obtain ⟨q, hq⟩ : ∃ q, x = q * 2 ^ (e + 1 + g.up) := ⟨x / 2 ^ (e + 1 + g.up), by have := Nat.div_add_mod x (2 ^ (e + 1 + g.up)); rw [c2, Nat.add_zero, Nat.mul_comm] at this; exact this.symm⟩
         have qd : x / 2 ^ (e + 1 + g.up) = q := by rw [hq, Nat.mul_div_cancel _ hP]
         rw [qd] at ev
         have q1 : 2 ^ g.fbits ≤ q := by
           rw [he, hq] at b1
           have : 2 ^ (e + 1 + g.fbits + g.up) = 2 ^ g.fbits * 2 ^ (e + 1 + g.up) := by rw [← Nat.pow_add]; congr 1; omega
           rw [this] at b1
           exact Nat.le_of_mul_le_mul_right b1 hP
         have q2 : q < 2 * 2 ^ g.fbits := by
           rw [he, hq] at b2
           have : 2 ^ (e + 1 + g.fbits + g.up + 1) = 2 * 2 ^ g.fbits * 2 ^ (e + 1 + g.up) := by rw [Nat.mul_comm 2, ← Nat.pow_succ, ← Nat.pow_add]; congr 1; omega
           rw [this] at b2
           exact Nat.lt_of_mul_lt_mul_right b2
         obtain ⟨k0, k1, k2, k3⟩ := key (e + 1) (q - 2 ^ g.fbits) (by omega) (by omega) (by omega)
         refine ⟨?_, fin k0⟩
         have ne : ¬ (e + 1 = topE g) := by unfold topE; omega
         have xx : 2 * ((q - 2 ^ g.fbits + 2 ^ g.fbits) * 2 ^ (e + 1 - 1 + g.up)) = x := by
           rw [Nat.sub_add_cancel q1, hq]
           have : e + 1 + g.up = (e + 1 - 1 + g.up) + 1 := by omega
           rw [this, Nat.pow_succ, ← Nat.mul_assoc q, Nat.mul_comm 2]
         have n0 : ¬ (e + 1 = 0) := by omega
         simp only [isNanN, isInfN, stepsN, k1, k2, k3, ne, n0, decide_false, Bool.false_and, Bool.false_eq_true, if_false, if_true, xx]
theorem means_bitsFor {g : Fmt} {s : Bool} {m : Option Nat} {y : Nat} (h : meaning g y = some (s, m)) (hy : y < 2 ^ g.bits) : bitsFor g s m = some y := by
 have hF : 0 < 2 ^ g.fbits := Nat.two_pow_pos _
 have hU : 0 < 2 ^ g.up := Nat.two_pow_pos _
 have hE := E_ge g
 have hB : 2 ^ g.bits = 2 * (2 ^ g.ebits * 2 ^ g.fbits) := by unfold Fmt.bits; rw [Nat.pow_add, Nat.pow_add, Nat.pow_one, Nat.mul_assoc]
 rw [hB] at hy
 obtain ⟨v, hv, hyv⟩ : ∃ v, v < 2 ^ g.ebits * 2 ^ g.fbits ∧ y = topS g (decide (2 ^ (g.ebits + g.fbits) ≤ y)) + v := by
   unfold topS
   rw [Nat.pow_add]
   by_cases hc : 2 ^ g.ebits * 2 ^ g.fbits ≤ y
   · exact ⟨y - 2 ^ g.ebits * 2 ^ g.fbits, by omega, by rw [if_pos (by simpa using hc)]; omega⟩
   · exact ⟨y, by omega, by rw [if_neg (by simpa using hc)]; omega⟩
 obtain ⟨p1, p2, p3⟩ := parts (s := decide (2 ^ (g.ebits + g.fbits) ≤ y)) hv
 rw [← hyv] at p1 p2 p3
 have hvv : v = expo g y * 2 ^ g.fbits + frac g y := by
   rw [p2, p3, Nat.mul_comm]
   exact (Nat.div_add_mod _ _).symm
 have hfr : frac g y < 2 ^ g.fbits := Nat.mod_lt _ hF
 have hex : expo g y < 2 ^ g.ebits := Nat.mod_lt _ (Nat.two_pow_pos _)
 rw [meaning_eq] at h
 by_cases hn : isNanN g y = true
 · rw [if_pos hn] at h; cases h
 rw [if_neg hn] at h
 have h' := Option.some.inj h
 have es : decide (2 ^ (g.ebits + g.fbits) ≤ y) = s := congrArg Prod.fst h'
 have em : (if isInfN g y = true then none else some (2 * stepsN g y)) = m := congrArg Prod.snd h'
 rw [es] at hyv
 rw [bitsFor_eq]
 suffices hh : sizeFor g m = some v by rw [hh, hyv]; rfl
 rw [← em]
 by_cases hi : isInfN g y = true
 · rw [if_pos hi]
   unfold isInfN at hi
   simp at hi
   show some _ = some _
   rw [hvv, hi.1, hi.2, Nat.add_zero]
 rw [if_neg hi]
 have ntop : expo g y ≠ topE g := fun z => by
   by_cases q : frac g y = 0
   · exact hi (by simp [isInfN, z, q])
   · exact hn (by simp [isNanN, z, q])
 unfold sizeFor stepsN
 dsimp only
 have e1 : 2 ^ (1 + g.up) = 2 * 2 ^ g.up := by rw [Nat.add_comm, Nat.pow_succ]; omega
 have e2 : 2 ^ (g.fbits + 1 + g.up) = 2 ^ g.fbits * (2 * 2 ^ g.up) := by rw [Nat.add_assoc, Nat.pow_add, e1]
 by_cases h0 : expo g y = 0
 · rw [if_pos h0]
   rw [h0, Nat.zero_mul, Nat.zero_add] at hvv
   rw [← hvv] at hfr ⊢
   by_cases hz : v = 0
   · subst hz; simp
   · have hpos : 0 < v * 2 ^ g.up := Nat.mul_pos (by omega) hU
     rw [if_neg (by omega), e1, e2]
     have q : 2 * (v * 2 ^ g.up) = v * (2 * 2 ^ g.up) := by rw [Nat.mul_left_comm]
     rw [q, if_pos (Nat.mul_lt_mul_of_pos_right hfr (by omega)), if_pos (Nat.mul_mod_left _ _), Nat.mul_div_cancel _ (by omega)]
 · rw [if_neg h0]
   obtain ⟨e, he⟩ : ∃ e, expo g y = e + 1 := ⟨expo g y - 1, by omega⟩
   rw [he] at hvv hex ntop ⊢
   have q0 : e + 1 - 1 = e := rfl
   rw [q0]
   have hP : 0 < 2 ^ (e + 1 + g.up) := Nat.two_pow_pos _
   have q : 2 * ((frac g y + 2 ^ g.fbits) * 2 ^ (e + g.up)) = (frac g y + 2 ^ g.fbits) * 2 ^ (e + 1 + g.up) := by
     have : e + 1 + g.up = (e + g.up) + 1 := by omega
     rw [this, Nat.pow_succ, ← Nat.mul_assoc (frac g y + 2 ^ g.fbits), Nat.mul_comm 2]
   rw [q]
   have x0 : (frac g y + 2 ^ g.fbits) * 2 ^ (e + 1 + g.up) ≠ 0 := Nat.ne_of_gt (Nat.mul_pos (by omega) hP)
   have big : 2 ^ (g.fbits + 1 + g.up) ≤ (frac g y + 2 ^ g.fbits) * 2 ^ (e + 1 + g.up) := by
     rw [Nat.add_assoc, Nat.pow_add]
     exact Nat.mul_le_mul (by omega) (Nat.pow_le_pow_right (by omega) (by omega))
   have lg : ((frac g y + 2 ^ g.fbits) * 2 ^ (e + 1 + g.up)).log2 = e + 1 + g.fbits + g.up := by
     refine log2_of ?_ ?_
     · have : 2 ^ (e + 1 + g.fbits + g.up) = 2 ^ g.fbits * 2 ^ (e + 1 + g.up) := by rw [← Nat.pow_add]; congr 1; omega
       rw [this]
       exact Nat.mul_le_mul_right _ (by omega)
     · have : 2 ^ (e + 1 + g.fbits + g.up + 1) = 2 * 2 ^ g.fbits * 2 ^ (e + 1 + g.up) := by rw [Nat.mul_comm 2, ← Nat.pow_succ, ← Nat.pow_add]; congr 1; omega
       rw [this]
       exact Nat.mul_lt_mul_of_pos_right (by omega) hP
   rw [if_neg x0, if_neg (by omega), lg]
   have ee : e + 1 + g.fbits + g.up - g.fbits - g.up = e + 1 := by omega
   rw [ee, Nat.mul_mod_left, Nat.mul_div_cancel _ hP, if_neg, Nat.add_sub_cancel, ← hvv]
   unfold topE at ntop
   omega
theorem half_single {s : Bool} {m : Option Nat} (h : bitsFor .single s m = none) : bitsFor .half s m = none := by
 cases q : bitsFor .half s m with
 | none => rfl
 | some y =>
   exfalso
   rw [bitsFor_eq] at q h
   have hs : sizeFor .single m = none := by
     cases z : sizeFor .single m with
     | none => rfl
     | some v => rw [z] at h; cases h
   have hh : sizeFor .half m ≠ none := fun z => by rw [z] at q; cases q
   cases m with
   | none => cases hs
   | some x =>
     unfold sizeFor at hs hh
     dsimp only at hs hh
     by_cases hx : x = 0
     · rw [if_pos hx] at hs; cases hs
     rw [if_neg hx] at hs hh
     obtain ⟨b1, b2⟩ := log2_le hx
     have f1 : Fmt.single.fbits + 1 + Fmt.single.up = 949 := rfl
     have f2 : Fmt.half.fbits + 1 + Fmt.half.up = 1061 := rfl
     have f3 : 1 + Fmt.half.up = 1051 := rfl
     have g1 : Fmt.single.fbits = 23 := rfl
     have g2 : Fmt.single.up = 925 := rfl
     have g3 : Fmt.half.fbits = 10 := rfl
     have g4 : Fmt.half.up = 1050 := rfl
     have g5 : 2 ^ Fmt.half.ebits - 1 = 31 := rfl
     have g6 : 2 ^ Fmt.single.ebits - 1 = 255 := rfl
     rw [f2, f3, g3, g4, g5] at hh
     rw [f1, g1, g2, g6] at hs
     have dvd : ∃ j, x.log2 - 23 ≤ j ∧ 1051 ≤ j ∧ x.log2 ≤ 1090 ∧ x % 2 ^ j = 0 := by
       by_cases c1 : x < 2 ^ 1061
       · rw [if_pos c1] at hh
         by_cases c2 : x % 2 ^ 1051 = 0
         · have := (Nat.log2_lt hx).mpr c1
           exact ⟨1051, by omega, by omega, by omega, c2⟩
         · rw [if_neg c2] at hh; exact absurd rfl hh
       · rw [if_neg c1] at hh
         have l1 := (Nat.le_log2 hx).mpr (Nat.le_of_not_lt c1)
         by_cases c3 : 31 ≤ x.log2 - 10 - 1050 ∨ x % 2 ^ (x.log2 - 10 - 1050 + 1050) ≠ 0
         · rw [if_pos c3] at hh; exact absurd rfl hh
         · refine ⟨x.log2 - 10 - 1050 + 1050, by omega, by omega, by omega, by omega⟩
     obtain ⟨j, j1, j2, j3, j4⟩ := dvd
     have big : 2 ^ 1051 ≤ x := Nat.le_trans (Nat.pow_le_pow_right (by omega) j2) (Nat.le_of_dvd (by omega) (Nat.dvd_of_mod_eq_zero j4))
     have l1 := (Nat.le_log2 hx).mpr big
     have c4 : ¬ x < 2 ^ 949 := fun z => by
       have := (Nat.log2_lt hx).mpr z
       omega
     rw [if_neg c4, if_neg] at hs
     · cases hs
     · intro z
       rcases z with z | z
       · omega
       · apply z
         have : x.log2 - 23 - 925 + 925 ≤ j := by omega
         exact Nat.mod_eq_zero_of_dvd (Nat.dvd_trans (Nat.pow_dvd_pow 2 this) (Nat.dvd_of_mod_eq_zero j4))
theorem narrow_bits {g h : Fmt} {x : Nat} (hx : x < 2 ^ g.bits) (hn : isNanN g x = false) : ∃ s m, meaning g x = some (s, m) ∧ narrowTo g h x = bitsFor h s m := by
 have hB : 2 ^ g.bits = 2 * 2 ^ (g.ebits + g.fbits) := by unfold Fmt.bits; rw [Nat.add_assoc, Nat.add_comm 1, Nat.pow_succ, Nat.mul_comm]
 have hp : 0 < 2 ^ (g.ebits + g.fbits) := Nat.two_pow_pos _
 rw [hB] at hx
 refine ⟨_, _, by rw [meaning_eq, if_neg (by rw [hn]; decide)], ?_⟩
 rw [bitsFor_eq]
 unfold narrowTo
 have e1 : signN g x * 2 ^ (h.ebits + h.fbits) = topS h (decide (2 ^ (g.ebits + g.fbits) ≤ x)) := by
   unfold signN topS
   by_cases c : 2 ^ (g.ebits + g.fbits) ≤ x
   · have : x / 2 ^ (g.ebits + g.fbits) = 1 := Nat.div_eq_of_lt_le (by omega) (by omega)
     rw [this, if_pos (by simpa using c), Nat.one_mul]
   · rw [Nat.div_eq_of_lt (by omega), if_neg (by simpa using c), Nat.zero_mul]
 rw [e1]
 by_cases hi : isInfN g x = true
 · rw [if_pos hi, if_pos hi]; rfl
 · rw [if_neg hi, if_neg hi, sizeBits_eq]
theorem shortest_nan {g : Fmt} {x : Nat} (h : isNanN g x = true) : shortest g x = floating .half 0x7E00 := by
 unfold shortest; rw [meaning_eq, if_pos h]
theorem shortest_half {x : Nat} (hx : x < 2 ^ 16) (hn : isNanN .half x = false) : shortest .half x = floating .half x := by
 have e := meaning_eq .half x
 rw [if_neg (by rw [hn]; decide)] at e
 unfold shortest
 rw [e]
 dsimp only
 rw [means_bitsFor e hx]
theorem shortest_single {x : Nat} (hx : x < 2 ^ 32) (hn : isNanN .single x = false) : shortest .single x = match narrowTo .single .half x with
   | none => floating .single x
   | some y => floating .half y := by
 obtain ⟨s, m, e, q⟩ := narrow_bits (g := .single) (h := .half) hx hn
 rw [q]
 unfold shortest
 rw [e]
 dsimp only
 cases z : bitsFor .half s m with
 | some y => rfl
 | none =>
   dsimp only
   rw [means_bitsFor e hx]
theorem shortest_double {x : Nat} (hx : x < 2 ^ 64) (hn : isNanN .double x = false) : (narrowTo .double .single x = none → shortest .double x = floating .double x) ∧
   ∀ y, narrowTo .double .single x = some y → y < 2 ^ 32 ∧ isNanN .single y = false ∧ shortest .double x = shortest .single y := by
 obtain ⟨s, m, e, q⟩ := narrow_bits (g := .double) (h := .single) hx hn
 rw [q]
 refine ⟨fun z => ?_, fun y hy => ?_⟩
 · unfold shortest
   rw [e]
   dsimp only
   rw [half_single z, z, means_bitsFor e hx]
   rfl
 · obtain ⟨k1, k2⟩ := bitsFor_means hy
   refine ⟨k2, ?_, ?_⟩
   · rw [meaning_eq] at k1
     cases c : isNanN .single y with
     | false => rfl
     | true => rw [if_pos c] at k1; cases k1
   · unfold shortest
     rw [e, k1]
end Pu
end
section
namespace Pu
open Of
theorem before_irrefl : ∀ a : Bytes, before a a = false
 | [] => rfl
 | x :: r => by
   unfold before
   rw [before_irrefl r]
   simp
theorem before_trans : ∀ {a b c : Bytes}, before a b = true → before b c = true → before a c = true
 | _, [], _, h, _ => by
   unfold before at h
   cases h
 | _, _ :: _, [], _, h => by simp [before] at h
 | [], _ :: _, _ :: _, _, _ => by simp [before]
 | x :: a, y :: b, z :: c, h, k => by
   simp only [before, Bool.or_eq_true, Bool.and_eq_true, decide_eq_true_eq, beq_iff_eq] at h k ⊢
   rcases h with h | ⟨h1, h2⟩
   · rcases k with k | ⟨k1, k2⟩
     · exact .inl (UInt8.lt_trans h k)
     · exact .inl (k1 ▸ h)
   · rcases k with k | ⟨k1, k2⟩
     · exact .inl (h1 ▸ k)
     · exact .inr ⟨h1.trans k1, before_trans h2 k2⟩
theorem before_total : ∀ {a b : Bytes}, before a b = false → before b a = false → a = b
 | [], [], _, _ => rfl
 | [], _ :: _, h, _ => by simp [before] at h
 | _ :: _, [], _, h => by simp [before] at h
 | x :: a, y :: b, h, k => by
   simp only [before, Bool.or_eq_false_iff, Bool.and_eq_false_iff, decide_eq_false_iff_not, beq_eq_false_iff_ne, ne_eq] at h k
   have e : x = y := UInt8.le_antisymm (UInt8.not_lt.mp k.1) (UInt8.not_lt.mp h.1)
   subst e
   rw [before_total (h.2.resolve_left (fun z => z rfl)) (k.2.resolve_left (fun z => z rfl))]
noncomputable def leB (a b : Bytes) : Prop := before b a = false
theorem leB_trans {a b c : Bytes} (h : leB a b) (k : leB b c) : leB a c := by
 unfold leB at *
 cases q : before c a with
 | false => rfl
 | true =>
   exfalso
   by_cases z : before a b = true
   · have := before_trans q z
     rw [k] at this; cases this
   · have e := before_total (Bool.eq_false_iff.mpr z) h
     subst e
     rw [k] at q; cases q
theorem leB_anti {a b : Bytes} (h : leB a b) (k : leB b a) : a = b := before_total k h
noncomputable abbrev Pr := Bytes × Bytes
noncomputable def Srtd (l : List Pr) : Prop := l.Pairwise fun p q => leB p.1 q.1
theorem putPair_perm (x : Pr) : ∀ l : List Pr, (putPair x l).Perm (x :: l)
 | [] => by simp [putPair]
 | y :: l => by
   unfold putPair
   split
   · exact List.Perm.refl _
   · exact (List.Perm.cons y (putPair_perm x l)).trans (List.Perm.swap x y l)
theorem putPair_srtd (x : Pr) : ∀ l : List Pr, Srtd l → Srtd (putPair x l)
 | [], _ => by simp [putPair, Srtd]
 | y :: l, h => by
   unfold putPair
   unfold Srtd at h
   rw [List.pairwise_cons] at h
   split
   · rename_i hb
     have ll : leB x.1 y.1 := by
       unfold leB
       cases q : before y.1 x.1 with
       | false => rfl
       | true => have := before_trans hb q; rw [before_irrefl] at this; cases this
     refine List.pairwise_cons.mpr ⟨fun z hz => ?_, List.pairwise_cons.mpr h⟩
     rcases List.mem_cons.mp hz with rfl | hz
     · exact ll
     · exact leB_trans ll (h.1 z hz)
   · rename_i hb
     refine List.pairwise_cons.mpr ⟨fun z hz => ?_, putPair_srtd x l h.2⟩
     rcases List.mem_cons.mp ((putPair_perm x l).mem_iff.mp hz) with rfl | hz
     · exact Bool.eq_false_iff.mpr hb
     · exact h.1 z hz
noncomputable def sortP (l : List Pr) : List Pr := l.foldr putPair []
theorem sortP_perm : ∀ l : List Pr, (sortP l).Perm l
 | [] => List.Perm.refl _
 | x :: l => (putPair_perm x _).trans (List.Perm.cons x (sortP_perm l))
theorem sortP_srtd : ∀ l : List Pr, Srtd (sortP l)
 | [] => List.Pairwise.nil
 | x :: l => putPair_srtd x _ (sortP_srtd l)
theorem keys_eq {l s : List Pr} (hp : s.Perm l) (hs : Srtd s) : s.map Prod.fst = (sortP l).map Prod.fst := by
 refine List.Perm.eq_of_pairwise (le := leB) (fun a b _ _ h k => leB_anti h k) ?_ ?_ ((hp.trans (sortP_perm l).symm).map _)
 · rw [List.pairwise_map]; exact hs
 · rw [List.pairwise_map]; exact sortP_srtd l
theorem twiceIn_keys : ∀ {s t : List Pr}, s.map Prod.fst = t.map Prod.fst → twiceIn s = twiceIn t
 | [], [], _ => rfl
 | [], _ :: _, h => by simp at h
 | _ :: _, [], h => by simp at h
 | [x], [y], _ => rfl
 | [x], _ :: _ :: _, h => by simp at h
 | _ :: _ :: _, [x], h => by simp at h
 | x :: y :: s, x' :: y' :: t, h => by
   have h0 := h
   simp only [List.map_cons, List.cons.injEq] at h
   have ih := twiceIn_keys (s := y :: s) (t := y' :: t) (by simp only [List.map_cons, List.cons.injEq]; exact h.2)
   unfold twiceIn
   rw [ih, h.1, h.2.1]
theorem srtd_nodup : ∀ {s : List Pr}, Srtd s → twiceIn s = false → s.Pairwise fun p q => p.1 ≠ q.1
 | [], _, _ => List.Pairwise.nil
 | [x], _, _ => by simp
 | x :: y :: s, h, k => by
   unfold twiceIn at k
   simp only [Bool.or_eq_false_iff, beq_eq_false_iff_ne, ne_eq] at k
   unfold Srtd at h
   rw [List.pairwise_cons] at h
   refine List.pairwise_cons.mpr ⟨fun z hz e => ?_, srtd_nodup h.2 k.2⟩
   have h2 := h.2
   rw [List.pairwise_cons] at h2
   have l1 : leB x.1 y.1 := h.1 y (by simp)
   have l2 : leB y.1 z.1 := by
     rcases List.mem_cons.mp hz with rfl | hz
     · exact before_irrefl _
     · exact h2.1 z hz
   rw [← e] at l2
   exact k.1 (leB_anti l1 l2)
theorem nodup_inj : ∀ {s : List Pr}, (s.Pairwise fun p q => p.1 ≠ q.1) → ∀ {a b : Pr}, a ∈ s → b ∈ s → a.1 = b.1 → a = b
 | [], _, a, b, h, _, _ => by simp at h
 | x :: s, nd, a, b, ha, hb, e => by
   rw [List.pairwise_cons] at nd
   rcases List.mem_cons.mp ha with rfl | ha
   · rcases List.mem_cons.mp hb with rfl | hb
     · rfl
     · exact absurd e (nd.1 b hb)
   · rename_i ha'
     rcases List.mem_cons.mp hb with hb | hb
     · subst hb
       exact absurd e.symm (nd.1 a ha)
     · exact nodup_inj nd.2 ha hb e
theorem sort_eq {l s : List Pr} (hp : s.Perm l) (hs : Srtd s) (ht : twiceIn (sortP l) = false) : s = sortP l := by
 have pp := hp.trans (sortP_perm l).symm
 have nd := srtd_nodup (sortP_srtd l) ht
 refine List.Perm.eq_of_pairwise (le := fun (p q : Pr) => leB p.1 q.1) (fun a b ha hb h k => ?_) hs (sortP_srtd l) pp
 exact nodup_inj nd (pp.mem_iff.mp ha) hb (leB_anti h k)
theorem items_pair (e n : Nat) (got : List Got) (b : Bytes) : items e (2 * (n + 1)) got b = match item e b with
   | none => none
   | some (k, t) => match item e t with
     | none => none
     | some (v, u) => items e (2 * n) (got ++ [k, v]) u := by
 rw [items_eq, if_neg (by omega)]
 cases h1 : item e b with
 | none => rfl
 | some z =>
   obtain ⟨k, t⟩ := z
   dsimp only
   rw [items_eq, if_neg (by omega)]
   cases h2 : item e t with
   | none => rfl
   | some z =>
     obtain ⟨v, u⟩ := z
     dsimp only
     rw [List.append_assoc]
     rfl
theorem item_ff (e : Nat) (r : Bytes) : item e (0xFF :: r) = none := by
 rw [item_cons]
 simp [headIn]
noncomputable def mapO (e : Nat) (got : List Got) (b : Bytes) : Option (List Got × Bytes) := match itemsO e got b with
 | none => none
 | some (l, t) => if l.length % 2 = 0 then some (l, t) else none
theorem mapO_eq (e : Nat) (got : List Got) (b : Bytes) (hg : got.length % 2 = 0) : mapO e got b = match b with
   | [] => none
   | c :: r => if c = 0xFF then some (got, r) else match item e (c :: r) with
     | none => none
     | some (k, t) => match item e t with
       | none => none
       | some (v, u) => mapO e (got ++ [k, v]) u := by
 unfold mapO
 rw [itemsO_eq]
 cases b with
 | nil => rfl
 | cons c r =>
   dsimp only
   by_cases hc : c = 0xFF
   · rw [if_pos hc, if_pos hc]
     dsimp only
     rw [if_pos hg]
   · rw [if_neg hc, if_neg hc]
     cases h1 : item e (c :: r) with
     | none => rfl
     | some z =>
       obtain ⟨k, t⟩ := z
       dsimp only
       rw [itemsO_eq]
       cases t with
       | nil => rw [item_nil]
       | cons c' r' =>
         dsimp only
         by_cases hc' : c' = 0xFF
         · subst hc'
           rw [if_pos rfl, item_ff]
           dsimp only
           rw [if_neg]
           rw [List.length_append]
           simp
           omega
         · rw [if_neg hc']
           cases h2 : item e (c' :: r') with
           | none => rfl
           | some z =>
             obtain ⟨v, u⟩ := z
             dsimp only
             rw [List.append_assoc]
             rfl
theorem pairsOf_snoc : ∀ (l : List Got) (k v : Got), l.length % 2 = 0 → pairsOf (l ++ [k, v]) = pairsOf l ++ [(k.out, v.out)]
 | [], k, v, _ => rfl
 | [x], k, v, h => by simp at h
 | x :: y :: l, k, v, h => by
   have ih := pairsOf_snoc l k v (by simp at h; omega)
   show (x.out, y.out) :: pairsOf (l ++ [k, v]) = (x.out, y.out) :: pairsOf l ++ [(k.out, v.out)]
   rw [ih]
   rfl
end Pu
end
section
namespace Pu
open Of
structure Hd (h : Bytes) (m i n : Nat) : Prop where
 m8 : m < 8
 i28 : i < 28
 eq : ∃ tl, h = byte m i :: tl ∧ (i < 24 → tl = [] ∧ n = i) ∧ (24 ≤ i → tl.length = 2 ^ (i - 24) ∧ num tl = n)
theorem byte_div {m i : Nat} (hm : m < 8) (hi : i < 32) : (byte m i).toNat / 32 = m ∧ (byte m i).toNat % 32 = i := by
 rw [byte_toNat (by omega)]; omega
theorem Hd.short {m n : Nat} (hm : m < 8) (hn : n < 2 ^ 64) : ∃ i, Hd (short m n) m i n ∧ (n < 24 → i = n) ∧ (24 ≤ n → 24 ≤ i) ∧ (24 ≤ n → n < 256 → i = 24) := by
 unfold Of.short
 split
 · rename_i h
   exact ⟨n, ⟨hm, by omega, [], rfl, fun _ => ⟨rfl, rfl⟩, fun z => by omega⟩, fun _ => rfl, fun z => by omega, fun z => by omega⟩
 · rename_i h
   split
   · rename_i h2
     exact ⟨24, ⟨hm, by omega, _, rfl, fun z => by omega, fun _ => ⟨by rw [be_length], be_num (by omega)⟩⟩, fun z => by omega, fun z => by omega, fun _ _ => rfl⟩
   · split
     · rename_i h3
       exact ⟨25, ⟨hm, by omega, _, rfl, fun z => by omega, fun _ => ⟨by rw [be_length], be_num (by omega)⟩⟩, fun z => by omega, fun z => by omega, fun _ z => by omega⟩
     · split
       · rename_i h3
         exact ⟨26, ⟨hm, by omega, _, rfl, fun z => by omega, fun _ => ⟨by rw [be_length], be_num (by omega)⟩⟩, fun z => by omega, fun z => by omega, fun _ z => by omega⟩
       · exact ⟨27, ⟨hm, by omega, _, rfl, fun z => by omega, fun _ => ⟨by rw [be_length], be_num (by omega)⟩⟩, fun z => by omega, fun z => by omega, fun _ z => by omega⟩
theorem Hd.floating {f : Fmt} {x : Nat} (hx : x < 2 ^ f.bits) : Hd (floating f x) 7 f.first x := by
 unfold Of.floating
 cases f with
 | half => exact ⟨by omega, by decide, _, rfl, fun z => by simp [Fmt.first] at z, fun _ => ⟨by rw [be_length]; rfl, be_num hx⟩⟩
 | single => exact ⟨by omega, by decide, _, rfl, fun z => by simp [Fmt.first] at z, fun _ => ⟨by rw [be_length]; rfl, be_num hx⟩⟩
 | double => exact ⟨by omega, by decide, _, rfl, fun z => by simp [Fmt.first] at z, fun _ => ⟨by rw [be_length]; rfl, be_num hx⟩⟩
theorem shortest_hd {f : Fmt} {x : Nat} (hx : x < 2 ^ f.bits) : ∃ i n, Hd (shortest f x) 7 i n ∧ 25 ≤ i := by
 unfold shortest
 split
 · exact ⟨_, _, Hd.floating (by decide), by decide⟩
 · rename_i s m hm
   split
   · rename_i y hy
     exact ⟨_, _, Hd.floating (bitsFor_means hy).2, by decide⟩
   · split
     · rename_i y hy
       exact ⟨_, _, Hd.floating (bitsFor_means hy).2, by decide⟩
     · refine ⟨_, _, Hd.floating (f := .double) ?_, by decide⟩
       cases q : bitsFor .double s m with
       | none => decide
       | some y => exact (bitsFor_means q).2
inductive Enc : Bytes → Prop where
 | leaf {h : Bytes} {m i n : Nat} : Hd h m i n → (m ≤ 1 ∨ m = 7) → Enc h
 | str {h s : Bytes} {m i n : Nat} : Hd h m i n → (m = 2 ∨ m = 3) → s.length = n → Enc (h ++ s)
 | box {h : Bytes} {m i n : Nat} {l : List Bytes} : Hd h m i n → (m = 4 ∧ l.length = n ∨ m = 5 ∧ l.length = 2 * n ∨ m = 6 ∧ l.length = 1) → (∀ x ∈ l, Enc x) → Enc (h ++ l.flatten)
theorem headIn_lt {i : Nat} {r : Bytes} {n : Nat} {t : Bytes} (h : headIn i r = some (n, t)) : n < 2 ^ 64 ∧ (i = 25 → n < 2 ^ 16) ∧ (i = 26 → n < 2 ^ 32) := by
 unfold headIn at h
 split at h
 · cases h; refine ⟨by omega, fun z => by omega, fun z => by omega⟩
 · split at h
   · cases h
   · dsimp only at h
     split at h
     · cases h
     · cases h
       rename_i h1 h2 h3
       have q := num_lt (r.take (2 ^ (i - 24)))
       have hl : (r.take (2 ^ (i - 24))).length = 2 ^ (i - 24) := by rw [List.length_take]; omega
       rw [hl] at q
       obtain rfl | rfl | rfl | rfl : i = 24 ∨ i = 25 ∨ i = 26 ∨ i = 27 := by omega
       · exact ⟨Nat.lt_of_lt_of_le q (by decide), fun z => by omega, fun z => by omega⟩
       · exact ⟨Nat.lt_of_lt_of_le q (by decide), fun z => q, fun z => by omega⟩
       · exact ⟨Nat.lt_of_lt_of_le q (by decide), fun z => by omega, fun z => q⟩
       · exact ⟨q, fun z => by omega, fun z => by omega⟩
theorem stringIn_enc {m i : Nat} {r : Bytes} {g : Got} {t : Bytes} (hm : m = 2 ∨ m = 3) (hr : r.length < 2 ^ 64) (h : stringIn m i r = some (g, t)) : Enc g.out := by
 unfold stringIn at h
 split at h
 · split at h
   · rename_i b u hb
     cases h
     have := partsIn_len hb
     have e : ([] : Bytes).length = 0 := rfl
     obtain ⟨j, hj, _⟩ := Hd.short (m := m) (n := b.length) (by omega) (by omega)
     exact Enc.str hj hm rfl
   · cases h
 · split at h
   · cases h
   · rename_i n u hu
     split at h
     · cases h
     · rename_i hc
       cases h
       obtain ⟨j, hj, _⟩ := Hd.short (m := m) (n := n) (by omega) (headIn_lt hu).1
       refine Enc.str hj hm ?_
       rw [List.length_take]
       omega
theorem arrayOf_enc {l : List Got} (hl : l.length < 2 ^ 64) (h : ∀ x ∈ l, Enc x.out) : Enc (arrayOf l).out := by
 obtain ⟨j, hj, _⟩ := Hd.short (m := 4) (n := l.length) (by omega) hl
 have e : (arrayOf l).out = short 4 l.length ++ (l.map Got.out).flatten := by
   show short 4 l.length ++ l.flatMap Got.out = _
   rw [List.flatMap_def]
 rw [e]
 refine Enc.box hj (.inl ⟨rfl, by simp⟩) fun x hx => ?_
 obtain ⟨g, hg, rfl⟩ := List.mem_map.mp hx
 exact h g hg
theorem pairsOf_mem : ∀ {l : List Got} {p : Pr}, p ∈ pairsOf l → ∃ k v, k ∈ l ∧ v ∈ l ∧ p = (k.out, v.out)
 | [], _, h => by simp [pairsOf] at h
 | [x], _, h => by simp [pairsOf] at h
 | k :: v :: r, p, h => by
   rcases List.mem_cons.mp h with rfl | h
   · exact ⟨k, v, by simp, by simp, rfl⟩
   · obtain ⟨k', v', h1, h2, h3⟩ := pairsOf_mem h
     exact ⟨k', v', by simp [h1], by simp [h2], h3⟩
theorem pairsOf_length : ∀ (l : List Got), 2 * (pairsOf l).length ≤ l.length
 | [] => by simp [pairsOf]
 | [x] => by simp [pairsOf]
 | k :: v :: r => by
   have := pairsOf_length r
   simp [pairsOf]
   omega
noncomputable def flat2 : List Pr → List Bytes
 | [] => []
 | p :: l => p.1 :: p.2 :: flat2 l
theorem flat2_flatten : ∀ l : List Pr, (flat2 l).flatten = l.flatMap fun x => x.1 ++ x.2
 | [] => rfl
 | p :: l => by simp [flat2, flat2_flatten l]
theorem flat2_length : ∀ l : List Pr, (flat2 l).length = 2 * l.length
 | [] => rfl
 | p :: l => by simp [flat2, flat2_length l]; omega
theorem flat2_mem : ∀ {l : List Pr} {x : Bytes}, x ∈ flat2 l → ∃ p ∈ l, x = p.1 ∨ x = p.2
 | [], _, h => by simp [flat2] at h
 | p :: l, x, h => by
   simp only [flat2, List.mem_cons] at h
   rcases h with h | h | h
   · exact ⟨p, by simp, .inl h⟩
   · exact ⟨p, by simp, .inr h⟩
   · obtain ⟨q, h1, h2⟩ := flat2_mem h
     exact ⟨q, by simp [h1], h2⟩
theorem mapOf_enc {l : List Got} (hl : l.length < 2 ^ 64) (h : ∀ x ∈ l, Enc x.out) : Enc (mapOf l).out := by
 have hlen : (sortP (pairsOf l)).length = (pairsOf l).length := (sortP_perm _).length_eq
 have h2 := pairsOf_length l
 obtain ⟨j, hj, _⟩ := Hd.short (m := 5) (n := (sortP (pairsOf l)).length) (by omega) (by omega)
 have e : (mapOf l).out = short 5 (sortP (pairsOf l)).length ++ (flat2 (sortP (pairsOf l))).flatten := by
   rw [flat2_flatten]
   rfl
 rw [e]
 refine Enc.box hj (.inr (.inl ⟨rfl, flat2_length _⟩)) fun x hx => ?_
 obtain ⟨p, hp, hx⟩ := flat2_mem hx
 obtain ⟨k, v, hk, hv, rfl⟩ := pairsOf_mem ((sortP_perm _).mem_iff.mp hp)
 rcases hx with rfl | rfl
 · exact h k hk
 · exact h v hv
theorem encs : ∀ f : Nat, (∀ d b g t, b.length < 2 ^ 60 → itemIn f d b = some (g, t) → Enc g.out) ∧
   (∀ d n got b l t, b.length < 2 ^ 60 → itemsIn f d n got b = some (l, t) → (∀ x ∈ got, Enc x.out) → (∀ x ∈ l, Enc x.out) ∧ l.length ≤ got.length + b.length) ∧
   (∀ d got b l t, b.length < 2 ^ 60 → itemsOpen f d got b = some (l, t) → (∀ x ∈ got, Enc x.out) → (∀ x ∈ l, Enc x.out) ∧ l.length ≤ got.length + b.length)
 | 0 => ⟨fun d b g t _ h => by simp [itemIn] at h, fun d n got b l t _ h => by simp [itemsIn] at h, fun d got b l t _ h => by simp [itemsOpen] at h⟩
 | f + 1 => by
   obtain ⟨i1, i2, i3⟩ := encs f
   refine ⟨fun d b g t hb h => ?_, fun d n got b l t hb h hg => ?_, fun d got b l t hb h hg => ?_⟩
   · cases b with
     | nil => rw [itemIn.eq_def] at h; cases h
     | cons c r =>
       rw [List.length_cons] at hb
       have hc := u8_lt c
       rw [itemIn.eq_def] at h
       dsimp only at h
       split at h
       · rename_i hm
         split at h
         · rename_i n u hu
           cases h
           obtain ⟨j, hj, _⟩ := Hd.short (m := c.toNat / 32) (n := n) (by omega) (headIn_lt hu).1
           exact Enc.leaf hj (by omega)
         · cases h
       · split at h
         · rename_i hm
           exact stringIn_enc hm (by omega) h
         · split at h
           · rename_i h7
             split at h
             · rename_i hi
               cases h
               refine Enc.leaf (h := [c]) (m := 7) (i := c.toNat % 32) (n := c.toNat % 32) ⟨by omega, by omega, [], ?_, fun _ => ⟨rfl, rfl⟩, fun z => by omega⟩ (.inr rfl)
               have : c = byte 7 (c.toNat % 32) := by
                 apply UInt8.toNat_inj.mp
                 rw [byte_toNat (by omega)]
                 omega
               rw [← this]
             · split at h
               · rename_i hi
                 split at h
                 · rename_i v u
                   split at h
                   · cases h
                   · cases h
                     refine Enc.leaf (h := [c, v]) (m := 7) (i := 24) (n := v.toNat) ⟨by omega, by omega, [v], ?_, fun z => by omega, fun _ => ⟨rfl, by simp [num]⟩⟩ (.inr rfl)
                     have : c = byte 7 24 := by
                       apply UInt8.toNat_inj.mp
                       rw [byte_toNat (by omega)]
                       omega
                     rw [← this]
                 · cases h
               · split at h
                 · rename_i x u hu
                   cases h
                   obtain ⟨q1, q2, q3⟩ := headIn_lt hu
                   refine (fun ⟨i, n, hh, _⟩ => Enc.leaf hh (.inr rfl)) (shortest_hd (x := x) (f := if c.toNat % 32 = 25 then .half else if c.toNat % 32 = 26 then .single else .double) ?_)
                   split
                   · rename_i z; exact q2 z
                   · split
                     · rename_i z; exact q3 z
                     · exact q1
                 · cases h
           · split at h
             · cases h
             · split at h
               · split at h
                 · cases h
                 · rename_i n u hu
                   split at h
                   · cases h
                   · rename_i x v hx
                     cases h
                     have := headIn_len hu
                     have hx' := i1 _ _ _ _ (by omega) hx
                     obtain ⟨j, hj, _⟩ := Hd.short (m := 6) (n := n) (by omega) (headIn_lt hu).1
                     have := Enc.box (l := [x.out]) hj (.inr (.inr ⟨rfl, rfl⟩)) (fun y hy => by rw [List.mem_singleton.mp hy]; exact hx')
                     simpa using this
               · split at h
                 · split at h
                   · cases h
                   · rename_i l u hl
                     obtain ⟨k1, k2⟩ := i3 _ _ _ _ _ (by omega) hl (fun x hx => by simp at hx)
                     have e : ([] : List Got).length = 0 := rfl
                     split at h
                     · cases h
                       exact arrayOf_enc (by omega) k1
                     · split at h
                       · cases h
                         exact mapOf_enc (by omega) k1
                       · cases h
                 · split at h
                   · cases h
                   · rename_i n u hu
                     split at h
                     · cases h
                     · rename_i l v hl
                       have := headIn_len hu
                       obtain ⟨k1, k2⟩ := i2 _ _ _ _ _ _ (by omega) hl (fun x hx => by simp at hx)
                       have e : ([] : List Got).length = 0 := rfl
                       split at h
                       · cases h
                         exact arrayOf_enc (by omega) k1
                       · cases h
                         exact mapOf_enc (by omega) k1
   · rw [itemsIn] at h
     split at h
     · cases h
       exact ⟨hg, by omega⟩
     · split at h
       · cases h
       · rename_i x u hx
         have s := ((smalls f).1 _ _ _ _ hx).1
         obtain ⟨k1, k2⟩ := i2 _ _ _ _ _ _ (by omega) h (fun y hy => by
           rcases List.mem_append.mp hy with hy | hy
           · exact hg y hy
           · rw [List.mem_singleton.mp hy]; exact i1 _ _ _ _ hb hx)
         refine ⟨k1, ?_⟩
         rw [List.length_append] at k2
         simp at k2
         omega
   · rw [itemsOpen.eq_def] at h
     dsimp only at h
     split at h
     · cases h
     · rename_i c r
       split at h
       · cases h
         exact ⟨hg, by omega⟩
       · split at h
         · cases h
         · rename_i x u hx
           have s := ((smalls f).1 _ _ _ _ hx).1
           obtain ⟨k1, k2⟩ := i3 _ _ _ _ _ (by omega) h (fun y hy => by
             rcases List.mem_append.mp hy with hy | hy
             · exact hg y hy
             · rw [List.mem_singleton.mp hy]; exact i1 _ _ _ _ hb hx)
           refine ⟨k1, ?_⟩
           rw [List.length_append] at k2
           have e1 : ([x] : List Got).length = 1 := rfl
           rw [e1] at k2
           omega
theorem item_enc {d : Nat} {b : Bytes} {g : Got} {t : Bytes} (hb : b.length < 2 ^ 60) (h : item d b = some (g, t)) : Enc g.out := (encs _).1 _ _ _ _ hb h
end Pu
end
section
namespace Pu
open Of
noncomputable def kindN (m i : Nat) : Nat := if m < 7 then m else if i = 25 then 8 else if i = 26 then 9 else if i = 27 then 10 else 7
structure Good (c : Bytes) (y : Node) (m i : Nat) : Prop where
 hd : ∃ h rest, c.drop y.at_ = h ++ rest ∧ Hd h m i y.arg ∧ y.head = h.length ∧ (m = 2 ∨ m = 3 → y.arg ≤ rest.length)
 kind : y.kind = kindN m i
theorem drop_get {c : Bytes} {a : Nat} {x : UInt8} {r : Bytes} (h : c.drop a = x :: r) : c.getD a 0 = x ∧ c[a]? = some x ∧ a < c.length ∧ c.drop (a + 1) = r := by
 have l : a < c.length := by
   apply Nat.lt_of_not_le
   intro z
   rw [List.drop_of_length_le z] at h
   cases h
 have e : c[a]? = some x := by
   have := congrArg (fun l => l[0]?) h
   simpa using this
 refine ⟨by rw [List.getD_eq_getElem?_getD, e]; rfl, e, l, ?_⟩
 have := congrArg (List.drop 1) h
 rw [List.drop_drop] at this
 simpa using this
theorem nodeAt_hd {c h rest : Bytes} {a m i n : Nat} (hc : c.drop a = h ++ rest) (H : Hd h m i n) : (nodeAt c a).kind = kindN m i ∧ (nodeAt c a).arg = n ∧ (nodeAt c a).head = h.length := by
 obtain ⟨m8, i28, tl, rfl, k1, k2⟩ := H
 obtain ⟨g1, g2, g3, g4⟩ := drop_get hc
 obtain ⟨d1, d2⟩ := byte_div m8 (show i < 32 by omega)
 unfold nodeAt kindN
 simp only [g1, d1, d2]
 refine ⟨by first | trivial | rfl, ?_, ?_⟩
 · split
   · rename_i hi
     exact (k1 hi).2.symm
   · rename_i hi
     obtain ⟨e1, e2⟩ := k2 (by omega)
     unfold cut
     rw [g4, ← e2]
     congr 1
     have : (if i = 24 then 2 else if i = 25 then 3 else if i = 26 then 5 else 9) - 1 = tl.length := by
       rw [e1]
       obtain rfl | rfl | rfl | rfl : i = 24 ∨ i = 25 ∨ i = 26 ∨ i = 27 := by omega
       all_goals rfl
     rw [this]
     exact List.take_left' rfl
 · split
   · rename_i hi
     rw [(k1 hi).1]; rfl
   · rename_i hi
     obtain ⟨e1, e2⟩ := k2 (by omega)
     rw [List.length_cons, e1]
     obtain rfl | rfl | rfl | rfl : i = 24 ∨ i = 25 ∨ i = 26 ∨ i = 27 := by omega
     all_goals rfl
noncomputable def need : Nat → List Node → Nat
 | k, [] => k
 | 0, _ :: _ => 0
 | k + 1, x :: r => need (k + x.below) r
theorem many_zero (l : List Node) : many 0 l = 0 := by cases l <;> simp [many]
theorem need_zero (l : List Node) : need 0 l = 0 := by cases l <;> simp [need]
theorem many_nil (k : Nat) : many k [] = 0 := by cases k <;> simp [many]
theorem many_add : ∀ (l : List Node) (a b : Nat), many (a + b) l = many a l + many b (l.drop (many a l))
 | [], a, b => by simp [many_nil]
 | x :: r, 0, b => by simp [many_zero]
 | x :: r, a + 1, b => by
   have e : a + 1 + b = (a + b) + 1 := by omega
   rw [e]
   show 1 + many (a + b + x.below) r = 1 + many (a + x.below) r + many b ((x :: r).drop (1 + many (a + x.below) r))
   have e2 : a + b + x.below = (a + x.below) + b := by omega
   rw [e2, many_add r (a + x.below) b, Nat.add_comm 1 (many (a + x.below) r), List.drop_succ_cons]
   omega
theorem many_le : ∀ (l : List Node) (a : Nat), many a l ≤ l.length
 | [], a => by simp [many_nil]
 | x :: r, 0 => by simp [many_zero]
 | x :: r, a + 1 => by
   have := many_le r (a + x.below)
   show 1 + _ ≤ _
   rw [List.length_cons]
   omega
theorem need_mono : ∀ (l : List Node) (a b : Nat), need a l ≤ need (a + b) l
 | [], a, b => by simp [need]
 | x :: r, 0, b => by rw [need_zero]; omega
 | x :: r, a + 1, b => by
   have e : a + 1 + b = (a + b) + 1 := by omega
   rw [e]
   show need (a + x.below) r ≤ need (a + b + x.below) r
   have e2 : a + b + x.below = (a + x.below) + b := by omega
   rw [e2]
   exact need_mono r _ b
theorem need_at : ∀ (l : List Node) (k i : Nat) (x : Node), need k l = 0 → i < many k l → l[i]? = some x → need x.below (l.drop (i + 1)) = 0
 | [], k, i, x, _, h, _ => by simp [many_nil] at h
 | y :: r, 0, i, x, _, h, _ => by simp [many_zero] at h
 | y :: r, k + 1, 0, x, h, _, e => by
   cases e
   have h' : need (k + y.below) r = 0 := h
   have := need_mono r y.below k
   rw [Nat.add_comm y.below k] at this
   show need y.below r = 0
   omega
 | y :: r, k + 1, i + 1, x, h, hi, e => by
   have hi' : i + 1 < 1 + many (k + y.below) r := hi
   exact need_at r (k + y.below) i x h (by omega) e
theorem need_many : ∀ (l : List Node) (b j : Nat), need b l = 0 → j < b → many j l < l.length
 | [], b, j, h, hj => by simp [need] at h; omega
 | y :: r, b, 0, h, hj => by rw [many_zero]; simp
 | y :: r, 0, j + 1, h, hj => by omega
 | y :: r, b + 1, j + 1, h, hj => by
   have := need_many r (b + y.below) (j + y.below) h (by omega)
   show 1 + many (j + y.below) r < _
   rw [List.length_cons]
   omega
noncomputable def Tr (k : Nat) (N : List Node) : Prop := ∀ j rest, many (k + j) (N ++ rest) = N.length + many j rest ∧ need (k + j) (N ++ rest) = need j rest
theorem Tr.nil : Tr 0 [] := fun j rest => by simp
theorem Tr.app {a b : Nat} {N M : List Node} (h : Tr a N) (k : Tr b M) : Tr (a + b) (N ++ M) := fun j rest => by
 obtain ⟨h1, h2⟩ := h (b + j) (M ++ rest)
 obtain ⟨k1, k2⟩ := k j rest
 rw [List.append_assoc, Nat.add_assoc, h1, h2, k1, k2, List.length_append]
 exact ⟨by omega, rfl⟩
theorem Tr.cons {x : Node} {N : List Node} (h : Tr x.below N) : Tr 1 (x :: N) := fun j rest => by
 obtain ⟨h1, h2⟩ := h j rest
 have e : 1 + j = j + 1 := by omega
 rw [e]
 refine ⟨?_, ?_⟩
 · show 1 + many (j + x.below) (N ++ rest) = _
   rw [Nat.add_comm j, h1, List.length_cons]
   omega
 · show need (j + x.below) (N ++ rest) = _
   rw [Nat.add_comm j, h2]
structure Seg (c : Bytes) (a len k : Nat) (N : List Node) : Prop where
 from_ : ∀ f, nodesFrom c (f + N.length) a = N ++ nodesFrom c f (a + len)
 few : N.length ≤ len
 tr : Tr k N
 good : ∀ y ∈ N, ∃ m i, Good c y m i
theorem Seg.nil {c : Bytes} {a : Nat} : Seg c a 0 0 [] := ⟨fun f => rfl, Nat.le_refl _, Tr.nil, fun y h => by simp at h⟩
theorem Seg.app {c : Bytes} {a l1 l2 k1 k2 : Nat} {N M : List Node} (h : Seg c a l1 k1 N) (k : Seg c (a + l1) l2 k2 M) : Seg c a (l1 + l2) (k1 + k2) (N ++ M) where
 from_ := fun f => by
   have e : f + (N ++ M).length = (f + M.length) + N.length := by rw [List.length_append]; omega
   rw [e, h.from_, k.from_, List.append_assoc, Nat.add_assoc]
 few := by have := h.few; have := k.few; rw [List.length_append]; omega
 tr := h.tr.app k.tr
 good := fun y hy => (List.mem_append.mp hy).elim (h.good y) (k.good y)
theorem Seg.node {c : Bytes} {a own len : Nat} {N : List Node} (h : Seg c (a + own) len (nodeAt c a).below N) (ho : (nodeAt c a).own = own) (h1 : 1 ≤ own) (hl : a < c.length) (hg : ∃ m i, Good c (nodeAt c a) m i) :
   Seg c a (own + len) 1 (nodeAt c a :: N) where
 from_ := fun f => by
   have e : f + (nodeAt c a :: N).length = (f + N.length) + 1 := by rw [List.length_cons]; omega
   rw [e]
   show (if a < c.length then nodeAt c a :: nodesFrom c (f + N.length) (a + (nodeAt c a).own) else []) = _
   rw [if_pos hl, ho, h.from_, Nat.add_assoc]
   rfl
 few := by have := h.few; rw [List.length_cons]; omega
 tr := Tr.cons h.tr
 good := fun y hy => by
   rcases List.mem_cons.mp hy with rfl | hy
   · exact hg
   · exact h.good y hy
theorem Seg.list {c : Bytes} : ∀ (l : List Bytes) (a : Nat) (suf : Bytes), (∀ x ∈ l, ∀ a suf, c.drop a = x ++ suf → ∃ N, Seg c a x.length 1 N) → c.drop a = l.flatten ++ suf → ∃ N, Seg c a l.flatten.length l.length N
 | [], a, suf, _, _ => ⟨[], Seg.nil⟩
 | x :: l, a, suf, h, hc => by
   rw [List.flatten_cons, List.append_assoc] at hc
   obtain ⟨N, hN⟩ := h x (by simp) a _ hc
   have hc2 : c.drop (a + x.length) = l.flatten ++ suf := by
     rw [← List.drop_drop, hc, List.drop_left']
     rfl
   obtain ⟨M, hM⟩ := Seg.list l (a + x.length) suf (fun y hy => h y (by simp [hy])) hc2
   have := hN.app hM
   rw [Nat.add_comm 1] at this
   exact ⟨_, by rw [List.flatten_cons, List.length_append, List.length_cons]; exact this⟩
theorem Enc.seg {x : Bytes} (h : Enc x) : ∀ (c : Bytes) (a : Nat) (suf : Bytes), c.drop a = x ++ suf → ∃ N, Seg c a x.length 1 N := by
 induction h with
 | @leaf h m i n H hm =>
   intro c a suf hc
   obtain ⟨k1, k2, k3⟩ := nodeAt_hd hc H
   have hl : a < c.length := by obtain ⟨_, _, tl, e, _⟩ := H; subst e; exact (drop_get hc).2.2.1
   have h1 : 1 ≤ h.length := by obtain ⟨_, _, tl, e, _⟩ := H; subst e; simp
   have kk : (nodeAt c a).kind ≠ 2 ∧ (nodeAt c a).kind ≠ 3 ∧ (nodeAt c a).kind ≠ 4 ∧ (nodeAt c a).kind ≠ 5 ∧ (nodeAt c a).kind ≠ 6 := by
     rw [k1]
     unfold kindN
     rcases hm with hm | hm
     · rw [if_pos (by omega)]; omega
     · rw [if_neg (by omega)]
       split
       · omega
       · split
         · omega
         · split <;> omega
   have b0 : (nodeAt c a).below = 0 := by unfold Node.below; rw [if_neg kk.2.2.1, if_neg kk.2.2.2.1, if_neg kk.2.2.2.2]
   have o0 : (nodeAt c a).own = h.length := by unfold Node.own; rw [if_neg (by omega), k3]; rfl
   refine ⟨_, Seg.node (len := 0) (N := []) (by rw [b0]; exact Seg.nil) o0 h1 hl ⟨m, i, ⟨h, suf, hc, ?_, k3, fun z => by omega⟩, k1⟩⟩
   rw [k2]; exact H
 | @str h s m i n H hm hs =>
   intro c a suf hc
   rw [List.append_assoc] at hc
   obtain ⟨k1, k2, k3⟩ := nodeAt_hd hc H
   have hl : a < c.length := by obtain ⟨_, _, tl, e, _⟩ := H; subst e; exact (drop_get hc).2.2.1
   have h1 : 1 ≤ h.length := by obtain ⟨_, _, tl, e, _⟩ := H; subst e; simp
   have kk : (nodeAt c a).kind = m := by rw [k1]; unfold kindN; rw [if_pos (by omega)]
   have b0 : (nodeAt c a).below = 0 := by unfold Node.below; rw [kk, if_neg (by omega), if_neg (by omega), if_neg (by omega)]
   have o0 : (nodeAt c a).own = (h ++ s).length := by unfold Node.own; rw [kk, if_pos hm, k2, k3, List.length_append, hs]
   refine ⟨_, Seg.node (len := 0) (N := []) (by rw [b0]; exact Seg.nil) o0 (by rw [List.length_append]; omega) hl ⟨m, i, ⟨h, s ++ suf, hc, ?_, k3, fun z => ?_⟩, k1⟩⟩
   · rw [k2]; exact H
   · rw [k2, List.length_append]; omega
 | @box h m i n l H hm hall ih =>
   intro c a suf hc
   rw [List.append_assoc] at hc
   obtain ⟨k1, k2, k3⟩ := nodeAt_hd hc H
   have hl : a < c.length := by obtain ⟨_, _, tl, e, _⟩ := H; subst e; exact (drop_get hc).2.2.1
   have h1 : 1 ≤ h.length := by obtain ⟨_, _, tl, e, _⟩ := H; subst e; simp
   have kk : (nodeAt c a).kind = m := by rw [k1]; unfold kindN; rw [if_pos (by omega)]
   have b0 : (nodeAt c a).below = l.length := by
     unfold Node.below
     rw [kk, k2]
     rcases hm with ⟨rfl, e⟩ | ⟨rfl, e⟩ | ⟨rfl, e⟩
     · rw [if_pos rfl, e]
     · rw [if_neg (by omega), if_pos rfl, e]
     · rw [if_neg (by omega), if_neg (by omega), if_pos rfl, e]
   have o0 : (nodeAt c a).own = h.length := by unfold Node.own; rw [kk, if_neg (by omega), k3]; rfl
   have hc2 : c.drop (a + h.length) = l.flatten ++ suf := by
     rw [← List.drop_drop, hc, List.drop_left']
     rfl
   obtain ⟨N, hN⟩ := Seg.list l (a + h.length) suf (fun x hx => ih x hx c) hc2
   have := Seg.node (N := N) (len := l.flatten.length) (by rw [b0]; exact hN) o0 h1 hl ⟨m, i, ⟨h, _, hc, by rw [k2]; exact H, k3, fun z => by omega⟩, k1⟩
   exact ⟨_, by rw [List.length_append]; exact this⟩
structure Whole (c : Bytes) : Prop where
 pos : 1 ≤ (nodes c).length
 few : (nodes c).length ≤ c.length
 many : many 1 (nodes c) = (nodes c).length
 need : need 1 (nodes c) = 0
 good : ∀ y ∈ nodes c, ∃ m i, Good c y m i
theorem nodesFrom_end (c : Bytes) (k a : Nat) (h : c.length ≤ a) : nodesFrom c k a = [] := by
 cases k with
 | zero => rfl
 | succ k => show (if _ then _ else _) = _; rw [if_neg (by omega)]
theorem Enc.whole {c : Bytes} (h : Enc c) : Whole c := by
 obtain ⟨N, hN⟩ := h.seg c 0 [] (by simp)
 have e : nodes c = N := by
   unfold nodes
   obtain ⟨f, hf⟩ : ∃ f, c.length + 1 = f + N.length := ⟨c.length + 1 - N.length, by have := hN.few; omega⟩
   rw [hf, hN.from_, nodesFrom_end _ _ _ (by omega), List.append_nil]
 obtain ⟨t1, t2⟩ := hN.tr 0 []
 rw [List.append_nil] at t1 t2
 have t1' : Of.many 1 N = N.length := by simpa [many_nil] using t1
 have t2' : Pu.need 1 N = 0 := by simpa [Pu.need] using t2
 refine ⟨?_, by rw [e]; exact hN.few, by rw [e]; exact t1', by rw [e]; exact t2', by rw [e]; exact hN.good⟩
 rw [e]
 cases N with
 | nil => simp [Pu.need] at t2'
 | cons _ _ => simp
theorem after_step {l : List Node} {i : Nat} {x : Node} (h : l[i]? = some x) : after l i = i + 1 + many x.below (l.drop (i + 1)) := by
 unfold after
 have hl : i < l.length := (List.getElem?_eq_some_iff.mp h).1
 have e : l.drop i = x :: l.drop (i + 1) := by
   rw [List.drop_eq_getElem_cons hl, (List.getElem?_eq_some_iff.mp h).2]
 rw [e]
 show i + (1 + many (0 + x.below) _) = _
 rw [Nat.zero_add]
 omega
theorem after_le {l : List Node} {i : Nat} (h : i ≤ l.length) : after l i ≤ l.length := by
 unfold after
 have := many_le (l.drop i) 1
 rw [List.length_drop] at this
 omega
theorem after_gt {l : List Node} {i : Nat} (h : i < l.length) : i < after l i := by
 obtain ⟨x, hx⟩ : ∃ x, l[i]? = some x := ⟨_, List.getElem?_eq_getElem h⟩
 rw [after_step hx]; omega
theorem member_lt {c : Bytes} (W : Whole c) {i j : Nat} {x : Node} (h : (nodes c)[i]? = some x) (hj : j < x.below) : i + 1 + many j ((nodes c).drop (i + 1)) < (nodes c).length := by
 have hl : i < (nodes c).length := (List.getElem?_eq_some_iff.mp h).1
 have n0 := need_at (nodes c) 1 i x W.need (by rw [W.many]; exact hl) h
 have := need_many _ _ j n0 hj
 rw [List.length_drop] at this
 omega
theorem member_next {l : List Node} (i j : Nat) : i + 1 + many (j + 1) (l.drop (i + 1)) = after l (i + 1 + many j (l.drop (i + 1))) := by
 unfold after
 rw [many_add _ j 1, List.drop_drop]
 omega
end Pu
end
section
namespace Pu
open Of
noncomputable def bi (b : Bytes) : List Int := b.map fun c => (c.toNat : Int)
inductive OneCall : List Int → OfCalls.Call → List Int → Prop where
 | read {b : Bytes} {t : List Int} : b.length ≤ 400 → OneCall (1 :: (b.length : Int) :: (bi b ++ t)) (.read b) t
 | write {t : List Int} : OneCall (2 :: t) .write t
 | count {t : List Int} : OneCall (3 :: t) .count t
 | kind {i : Nat} {t : List Int} : i < 2 ^ 32 → OneCall (4 :: (i : Int) :: t) (.kind i) t
 | number {i : Nat} {t : List Int} : i < 2 ^ 32 → OneCall (5 :: (i : Int) :: t) (.number i) t
 | copy {i : Nat} {t : List Int} : i < 2 ^ 32 → OneCall (6 :: (i : Int) :: t) (.copy i) t
 | after {i : Nat} {t : List Int} : i < 2 ^ 32 → OneCall (7 :: (i : Int) :: t) (.after i) t
 | part {i : Nat} {t : List Int} : i < 2 ^ 32 → OneCall (8 :: (i : Int) :: t) (.part i) t
 | find {i : Nat} {b : Bytes} {t : List Int} : i < 2 ^ 32 → b.length ≤ 400 → OneCall (9 :: (i : Int) :: (b.length : Int) :: (bi b ++ t)) (.find i b) t
 | same {b : Bytes} {t : List Int} : b.length ≤ 400 → OneCall (10 :: (b.length : Int) :: (bi b ++ t)) (.same b) t
 | canonical {b : Bytes} {t : List Int} : b.length ≤ 400 → OneCall (11 :: (b.length : Int) :: (bi b ++ t)) (.canonical b) t
inductive Lines : List Int → List OfCalls.Call → Prop where
 | nil : Lines [] []
 | cons {l t : List Int} {x : OfCalls.Call} {ops : List OfCalls.Call} : OneCall l x t → Lines t ops → Lines l (x :: ops)
noncomputable def run : OfCalls.State → List OfCalls.Call → List Int
 | _, [] => []
 | s, x :: r => ((FormNeutral.told (OfCalls.step s x).2).length : Int) :: (FormNeutral.told (OfCalls.step s x).2 ++ run (OfCalls.step s x).1 r)
theorem whole_id (c : List (List Int)) : PyYqofma.whole c = c := by
 unfold PyYqofma.whole
 split <;> rfl
theorem bytes_of {p : List Int} (h : p.all (fun (z : Int) => FormNeutral.natural z 8) = true) : ∃ b : Bytes, p = bi b ∧ FormNeutral.bytes p = some b := by
 have hb : NeutralIO.bytes p = true := by
   unfold NeutralIO.bytes
   rw [List.all_eq_true] at h ⊢
   intro x hx
   have := h x hx
   simp [FormNeutral.natural] at this
   simp
   omega
 refine ⟨p.map fun (z : Int) => UInt8.ofNat z.toNat, ?_, by unfold FormNeutral.bytes; rw [if_pos hb]⟩
 unfold bi
 rw [List.map_map]
 symm
 rw [List.map_congr_left (g := id)]
 · simp
 · intro x hx
   have := (List.all_eq_true.mp h) x hx
   simp [FormNeutral.natural] at this
   show ((UInt8.ofNat x.toNat).toNat : Int) = x
   rw [ofNat_toNat]
   omega
theorem bi_length (b : Bytes) : (bi b).length = b.length := by simp [bi]
theorem row_of {r x t : List Int} (h : PyFlat.row r = some (x, t)) : r = (x.length : Int) :: (x ++ t) := by
 cases r with
 | nil => cases h
 | cons n r =>
   have h' : (if 0 ≤ n ∧ n.toNat ≤ r.length then some (r.take n.toNat, r.drop n.toNat) else none) = some (x, t) := h
   by_cases hn : 0 ≤ n ∧ n.toNat ≤ r.length
   · rw [if_pos hn] at h'
     have e := Option.some.inj h'
     have e1 : r.take n.toNat = x := congrArg Prod.fst e
     have e2 : r.drop n.toNat = t := congrArg Prod.snd e
     rw [← e1, ← e2, List.take_append_drop, List.length_take]
     have e3 : n = ((min n.toNat r.length : Nat) : Int) := by omega
     rw [← e3]
   · rw [if_neg hn] at h'
     cases h'
theorem rows_one {r t : List Int} {xs : List (List Int)} (h : PyFlat.rows 1 r = some (xs, t)) : ∃ x, xs = [x] ∧ r = (x.length : Int) :: (x ++ t) := by
 unfold PyFlat.rows at h
 split at h
 · cases h
 · rename_i x s hx
   unfold PyFlat.rows at h
   cases h
   exact ⟨x, rfl, row_of hx⟩
theorem nat_of {i : Int} (h : FormNeutral.natural i 32 = true) : ∃ k : Nat, i = (k : Int) ∧ k < 2 ^ 32 ∧ FormNeutral.nat i = some k := by
 simp [FormNeutral.natural] at h
 refine ⟨i.toNat, by omega, by omega, ?_⟩
 unfold FormNeutral.nat
 rw [if_neg (by omega)]
theorem one_call {l : List Int} {c : List (List Int)} {t : List Int} (h : PyFlat.call PyYqofma.shape l = some (c, t)) (ha : FormNeutral.asked1 c = true) (hf : FormNeutral.fits c = true) :
   ∃ x, OneCall l x t ∧ FormNeutral.callOf c = some x := by
 cases l with
 | nil => cases h
 | cons p r =>
   have h0 : (match PyYqofma.shape p with
     | none => none
     | some (n, k) => if r.length < n then none else match PyFlat.rows k (r.drop n) with
       | none => none
       | some (xs, t) => some ((p :: r.take n) :: xs, t)) = some (c, t) := h
   clear h
   cases hs : PyYqofma.shape p with
   | none => rw [hs] at h0; cases h0
   | some nk =>
     obtain ⟨n, k⟩ := nk
     rw [hs] at h0
     dsimp only at h0
     by_cases hn : r.length < n
     · rw [if_pos hn] at h0; cases h0
     · rw [if_neg hn] at h0
       cases hx : PyFlat.rows k (r.drop n) with
       | none => rw [hx] at h0; cases h0
       | some xt =>
         obtain ⟨xs, t'⟩ := xt
         rw [hx] at h0
         have h := h0
         have e := Option.some.inj h
         have e1 : (p :: r.take n) :: xs = c := congrArg Prod.fst e
         have e2 : t' = t := congrArg Prod.snd e
         subst e2
         subst e1
         unfold PyYqofma.shape at hs
         have rw1 : ∀ (q : Int), p = q → n = 0 → k = 1 → ∃ b, r = (b.length : Int) :: (b ++ t') ∧ xs = [b] := fun q h1 h2 h3 => by
           subst h2; subst h3
           obtain ⟨x, h4, h5⟩ := rows_one hx
           exact ⟨x, h5, h4⟩
         have nd1 : n = 1 → k = 0 → ∃ i, r = i :: t' ∧ xs = [] := fun h2 h3 => by
           subst h2; subst h3
           cases r with
           | nil => simp at hn
           | cons i r =>
             unfold PyFlat.rows at hx
             cases hx
             exact ⟨i, rfl, rfl⟩
         have rowcase : ∀ (q : Int) (mk : Bytes → OfCalls.Call), p = q → n = 0 → k = 1 → (∀ b, FormNeutral.asked1 [[q], b] = b.all (fun (z : Int) => FormNeutral.natural z 8)) →
             (∀ b : List Int, FormNeutral.callOf [[q], b] = (FormNeutral.bytes b).bind fun z => some (mk z)) → (∀ b, FormNeutral.moderate (mk b) = decide (b.length ≤ 400)) → (∀ b : Bytes, b.length ≤ 400 → OneCall (q :: (b.length : Int) :: (bi b ++ t')) (mk b) t') →
             ∃ x, OneCall (p :: r) x t' ∧ FormNeutral.callOf ((p :: r.take n) :: xs) = some x := fun q mk h1 h2 h3 h4 h5 h6 h7 => by
           obtain ⟨b, hr, hxs⟩ := rw1 q h1 h2 h3
           subst h1; subst h2; subst hxs
           simp only [List.take_zero] at ha hf ⊢
           rw [h4] at ha
           obtain ⟨u, hu, hu2⟩ := bytes_of ha
           have hcall : FormNeutral.callOf [[p], b] = some (mk u) := by rw [h5, hu2]; rfl
           have hmod : u.length ≤ 400 := by
             unfold FormNeutral.fits at hf
             rw [hcall] at hf
             simpa [h6] using hf
           refine ⟨mk u, ?_, hcall⟩
           rw [hr, hu, bi_length]
           exact h7 u hmod
         have nodecase : ∀ (q : Int) (mk : Nat → OfCalls.Call), p = q → n = 1 → k = 0 → (∀ i, FormNeutral.asked1 [[q, i]] = FormNeutral.natural i 32) →
             (∀ i : Int, FormNeutral.callOf [[q, i]] = (FormNeutral.nat i).bind fun z => some (mk z)) → (∀ i : Nat, i < 2 ^ 32 → OneCall (q :: (i : Int) :: t') (mk i) t') →
             ∃ x, OneCall (p :: r) x t' ∧ FormNeutral.callOf ((p :: r.take n) :: xs) = some x := fun q mk h1 h2 h3 h4 h5 h7 => by
           obtain ⟨i, hr, hxs⟩ := nd1 h2 h3
           subst h1; subst h2; subst hxs; subst hr
           have e0 : ((i :: t').take 1) = [i] := by simp
           rw [e0] at ha ⊢
           rw [h4] at ha
           obtain ⟨j, hj, hj2, hj3⟩ := nat_of ha
           refine ⟨mk j, ?_, by rw [h5, hj3]; rfl⟩
           rw [hj]
           exact h7 j hj2
         by_cases hp1 : p = 1
         · have hp := hp1
           rw [if_pos hp] at hs
           cases hs
           exact rowcase 1 .read hp rfl rfl (fun _ => rfl) (fun _ => rfl) (fun _ => rfl) (fun b hb => .read hb)
         rw [if_neg hp1] at hs
         by_cases hp2 : p = 2
         · have hp := hp2
           rw [if_pos hp] at hs
           cases hs
           unfold PyFlat.rows at hx
           cases hx
           subst hp
           exact ⟨.write, .write, rfl⟩
         rw [if_neg hp2] at hs
         by_cases hp3 : p = 3
         · have hp := hp3
           rw [if_pos hp] at hs
           cases hs
           unfold PyFlat.rows at hx
           cases hx
           subst hp
           exact ⟨.count, .count, rfl⟩
         rw [if_neg hp3] at hs
         by_cases hp4 : p = 4
         · have hp := hp4
           rw [if_pos hp] at hs
           cases hs
           exact nodecase 4 .kind hp rfl rfl (fun _ => rfl) (fun _ => rfl) (fun b hb => .kind hb)
         rw [if_neg hp4] at hs
         by_cases hp5 : p = 5
         · have hp := hp5
           rw [if_pos hp] at hs
           cases hs
           exact nodecase 5 .number hp rfl rfl (fun _ => rfl) (fun _ => rfl) (fun b hb => .number hb)
         rw [if_neg hp5] at hs
         by_cases hp6 : p = 6
         · have hp := hp6
           rw [if_pos hp] at hs
           cases hs
           exact nodecase 6 .copy hp rfl rfl (fun _ => rfl) (fun _ => rfl) (fun b hb => .copy hb)
         rw [if_neg hp6] at hs
         by_cases hp7 : p = 7
         · have hp := hp7
           rw [if_pos hp] at hs
           cases hs
           exact nodecase 7 .after hp rfl rfl (fun _ => rfl) (fun _ => rfl) (fun b hb => .after hb)
         rw [if_neg hp7] at hs
         by_cases hp8 : p = 8
         · have hp := hp8
           rw [if_pos hp] at hs
           cases hs
           exact nodecase 8 .part hp rfl rfl (fun _ => rfl) (fun _ => rfl) (fun b hb => .part hb)
         rw [if_neg hp8] at hs
         by_cases hp9 : p = 9
         · have hp := hp9
           rw [if_pos hp] at hs
           cases hs
           cases r with
           | nil => simp at hn
           | cons i r =>
             obtain ⟨b, hxs, hr⟩ := rows_one hx
             have hr' : r = (b.length : Int) :: (b ++ t') := hr
             subst hp; subst hxs; subst hr'
             have e0 : ((i :: (b.length : Int) :: (b ++ t')).take 1) = [i] := by simp
             rw [e0] at ha hf ⊢
             have ha' : (FormNeutral.natural i 32 && b.all (fun (z : Int) => FormNeutral.natural z 8)) = true := ha
             rw [Bool.and_eq_true] at ha'
             obtain ⟨j, hj, hj2, hj3⟩ := nat_of ha'.1
             obtain ⟨u, hu, hu2⟩ := bytes_of ha'.2
             have hcall : FormNeutral.callOf [[9, i], b] = some (.find j u) := by
               show ((FormNeutral.nat i).bind fun z => (FormNeutral.bytes b).bind fun y => some (OfCalls.Call.find z y)) = _
               rw [hj3, hu2]; rfl
             have hmod : u.length ≤ 400 := by
               unfold FormNeutral.fits at hf
               rw [hcall] at hf
               simpa [FormNeutral.moderate] using hf
             refine ⟨.find j u, ?_, hcall⟩
             rw [hu, hj, bi_length]
             exact .find hj2 hmod
         rw [if_neg hp9] at hs
         by_cases hp10 : p = 10
         · have hp := hp10
           rw [if_pos hp] at hs
           cases hs
           exact rowcase 10 .same hp rfl rfl (fun _ => rfl) (fun _ => rfl) (fun _ => rfl) (fun b hb => .same hb)
         rw [if_neg hp10] at hs
         by_cases hp11 : p = 11
         · have hp := hp11
           rw [if_pos hp] at hs
           cases hs
           exact rowcase 11 .canonical hp rfl rfl (fun _ => rfl) (fun _ => rfl) (fun _ => rfl) (fun b hb => .canonical hb)
         rw [if_neg hp11] at hs
         cases hs
theorem lines_of : ∀ (f : Nat) (l : List Int) (cs : List (List (List Int))) (s : OfCalls.State), PyFlat.calls PyYqofma.shape f l = some cs → cs.all FormNeutral.asked1 = true → cs.all FormNeutral.fits = true →
   ∃ ops, Lines l ops ∧ ops.length = cs.length ∧ PyFlat.told (PyFlat.played FormNeutral.step s cs) = run s ops
 | f, [], cs, s, h, _, _ => by
   unfold PyFlat.calls at h
   cases h
   exact ⟨[], .nil, rfl, rfl⟩
 | 0, _ :: _, cs, s, h, _, _ => by
   unfold PyFlat.calls at h
   cases h
 | f + 1, p :: r, cs, s, h, h1, h2 => by
   unfold PyFlat.calls at h
   split at h
   · cases h
   · rename_i c t hc
     split at h
     · cases h
     · rename_i cs' hcs
       cases h
       rw [List.all_cons, Bool.and_eq_true] at h1 h2
       obtain ⟨x, hx, hcall⟩ := one_call hc h1.1 h2.1
       have st : FormNeutral.step s c = ((OfCalls.step s x).1, FormNeutral.told (OfCalls.step s x).2) := by
         unfold FormNeutral.step
         rw [hcall]
       obtain ⟨ops, k1, k2, k3⟩ := lines_of f t cs' (OfCalls.step s x).1 hcs h1.2 h2.2
       refine ⟨x :: ops, .cons hx k1, by rw [List.length_cons, List.length_cons, k2], ?_⟩
       show PyFlat.told ((FormNeutral.step s c).2 :: PyFlat.played FormNeutral.step (FormNeutral.step s c).1 cs') = _
       rw [st]
       unfold PyFlat.told at k3 ⊢
       rw [List.flatMap_cons, k3]
       rfl
theorem asked_lines {l : List Int} (h : PyYqofma.answers_asked l = true) : ∃ ops, Lines l ops ∧ ops.length ≤ 16 ∧ PyYqofma.answers l = run none ops := by
 unfold PyYqofma.answers_asked at h
 unfold PyYqofma.answers
 unfold PyYqofma.calls at h ⊢
 cases hc : PyFlat.calls PyYqofma.shape l.length l with
 | none => rw [hc] at h; cases h
 | some cs =>
   rw [hc] at h
   have hw : cs.map PyYqofma.whole = cs := by
     have : PyYqofma.whole = id := funext whole_id
     rw [this, List.map_id]
   dsimp only at h ⊢
   rw [hw] at h ⊢
   rw [Bool.and_eq_true] at h
   obtain ⟨h1, h2⟩ := h
   unfold FormNeutral.asked at h2
   simp only [Bool.and_eq_true] at h2
   obtain ⟨ops, k1, k2, k3⟩ := lines_of l.length l cs none hc h2.2.1 h2.2.2.1
   refine ⟨ops, k1, ?_, k3⟩
   unfold PyFlat.atMost at h1
   rw [k2]
   simpa using h1
end Pu
end
section
namespace Pu
open Of
theorem floating_length (f : Fmt) (x : Nat) : (floating f x).length ≤ 9 := by
 unfold floating
 rw [List.length_cons, be_length]
 cases f <;> decide
theorem shortest_length (f : Fmt) (x : Nat) : (shortest f x).length ≤ 9 := by
 unfold shortest
 split
 · exact floating_length _ _
 · split
   · exact floating_length _ _
   · split
     · exact floating_length _ _
     · exact floating_length _ _
noncomputable def sumO (l : List Got) : Nat := (l.map fun g => g.out.length).sum
theorem sumO_cons (g : Got) (l : List Got) : sumO (g :: l) = g.out.length + sumO l := by simp [sumO]
theorem flatMap_len (l : List Got) : (l.flatMap Got.out).length = sumO l := by
 induction l with
 | nil => rfl
 | cons g l ih => rw [List.flatMap_cons, List.length_append, ih, sumO_cons]
noncomputable def sumP (l : List Pr) : Nat := (l.map fun p => p.1.length + p.2.length).sum
theorem flatMapP_len (l : List Pr) : (l.flatMap fun (x : Bytes × Bytes) => x.1 ++ x.2).length = sumP l := by
 induction l with
 | nil => rfl
 | cons g l ih => rw [List.flatMap_cons, List.length_append, ih]; simp [sumP]
theorem sumP_perm {l s : List Pr} (h : s.Perm l) : sumP s = sumP l := (h.map _).sum_nat
theorem sumP_pairs : ∀ (l : List Got), sumP (pairsOf l) ≤ sumO l
 | [] => by simp [pairsOf, sumP]
 | [x] => by simp [pairsOf, sumP]
 | k :: v :: r => by
   have := sumP_pairs r
   rw [sumO_cons, sumO_cons]
   simp [pairsOf, sumP] at this ⊢
   omega
theorem arrayOf_len (l : List Got) : (arrayOf l).out.length ≤ 9 + sumO l := by
 show (short 4 l.length ++ l.flatMap Got.out).length ≤ _
 rw [List.length_append, flatMap_len]
 have := short_length 4 l.length
 omega
theorem mapOf_len (l : List Got) : (mapOf l).out.length ≤ 9 + sumO l := by
 show (short 5 (sortP (pairsOf l)).length ++ (sortP (pairsOf l)).flatMap fun (x : Bytes × Bytes) => x.1 ++ x.2).length ≤ _
 rw [List.length_append, flatMapP_len, sumP_perm (sortP_perm _)]
 have := short_length 5 (sortP (pairsOf l)).length
 have := sumP_pairs l
 omega
noncomputable def LnL (got : List Got) (b : Bytes) (l : List Got) (t : Bytes) : Prop := ∃ l', l = got ++ l' ∧ sumO l' + 10 * t.length ≤ 10 * b.length
theorem LnL.cons {got : List Got} {b : Bytes} {x : Got} {t : Bytes} {l : List Got} {u : Bytes} (h : x.out.length + 10 * t.length ≤ 10 * b.length) (k : LnL (got ++ [x]) t l u) : LnL got b l u := by
 obtain ⟨l', rfl, k2⟩ := k
 exact ⟨x :: l', by simp, by rw [sumO_cons]; omega⟩
theorem stringIn_out {m i : Nat} {r : Bytes} {g : Got} {t : Bytes} (h : stringIn m i r = some (g, t)) : g.out.length ≤ 9 + g.size := by
 unfold stringIn at h
 split at h
 · split at h
   · rename_i b u hb
     cases h
     show (short m b.length ++ b).length ≤ 9 + b.length
     rw [List.length_append]
     have := short_length m b.length
     omega
   · cases h
 · split at h
   · cases h
   · rename_i n u hu
     split at h
     · cases h
     · cases h
       show (short m n ++ u.take n).length ≤ 9 + n
       rw [List.length_append, List.length_take]
       have := short_length m n
       omega
theorem lens : ∀ f : Nat, (∀ d b g t, itemIn f d b = some (g, t) → g.out.length + 10 * t.length ≤ 10 * b.length) ∧ (∀ d n got b l t, itemsIn f d n got b = some (l, t) → LnL got b l t) ∧ (∀ d got b l t, itemsOpen f d got b = some (l, t) → LnL got b l t)
 | 0 => ⟨fun d b g t h => by simp [itemIn] at h, fun d n got b l t h => by simp [itemsIn] at h, fun d got b l t h => by simp [itemsOpen] at h⟩
 | f + 1 => by
   obtain ⟨i1, i2, i3⟩ := lens f
   refine ⟨fun d b g t h => ?_, fun d n got b l t h => ?_, fun d got b l t h => ?_⟩
   · cases b with
     | nil => rw [itemIn.eq_def] at h; cases h
     | cons c r =>
       rw [itemIn.eq_def] at h
       dsimp only at h
       rw [List.length_cons]
       split at h
       · split at h
         · rename_i n u hu
           cases h
           have := headIn_len hu
           have := short_length (c.toNat / 32) n
           show (short _ n).length + _ ≤ _
           omega
         · cases h
       · split at h
         · have := stringIn_len h
           have := stringIn_out h
           omega
         · split at h
           · split at h
             · cases h
               show 1 + _ ≤ _
               omega
             · split at h
               · split at h
                 · split at h
                   · cases h
                   · cases h
                     show 2 + _ ≤ _
                     rw [List.length_cons]
                     omega
                 · cases h
               · split at h
                 · rename_i n u hu
                   cases h
                   have := headIn_len hu
                   have := shortest_length (if c.toNat % 32 = 25 then .half else if c.toNat % 32 = 26 then .single else .double) n
                   show (shortest _ n).length + _ ≤ _
                   omega
                 · cases h
           · split at h
             · cases h
             · split at h
               · split at h
                 · cases h
                 · rename_i n u hu
                   split at h
                   · cases h
                   · rename_i x v hx
                     cases h
                     have := headIn_len hu
                     have := i1 _ _ _ _ hx
                     have := short_length 6 n
                     show (short 6 n ++ x.out).length + _ ≤ _
                     rw [List.length_append]
                     omega
               · split at h
                 · split at h
                   · cases h
                   · rename_i l u hl
                     obtain ⟨l', e, a2⟩ := i3 _ _ _ _ _ hl
                     have e' : l = l' := e
                     subst e'
                     split at h
                     · cases h
                       have := arrayOf_len l
                       omega
                     · split at h
                       · cases h
                         have := mapOf_len l
                         omega
                       · cases h
                 · split at h
                   · cases h
                   · rename_i n u hu
                     split at h
                     · cases h
                     · rename_i l v hl
                       obtain ⟨l', e, a2⟩ := i2 _ _ _ _ _ _ hl
                       have e' : l = l' := e
                       subst e'
                       have := headIn_len hu
                       have := arrayOf_len l
                       have := mapOf_len l
                       split at h <;> cases h <;> omega
   · rw [itemsIn] at h
     split at h
     · cases h
       exact ⟨[], by simp, by simp [sumO]⟩
     · split at h
       · cases h
       · rename_i x u hx
         exact LnL.cons (i1 _ _ _ _ hx) (i2 _ _ _ _ _ _ h)
   · rw [itemsOpen.eq_def] at h
     dsimp only at h
     split at h
     · cases h
     · rename_i c r
       split at h
       · cases h
         exact ⟨[], by simp, by simp [sumO]; omega⟩
       · split at h
         · cases h
         · rename_i x u hx
           exact LnL.cons (i1 _ _ _ _ hx) (i3 _ _ _ _ _ h)
theorem item_len {d : Nat} {b : Bytes} {g : Got} {t : Bytes} (h : item d b = some (g, t)) : g.out.length + 10 * t.length ≤ 10 * b.length := (lens _).1 _ _ _ _ h
noncomputable def headOf (b : Bytes) (a : Nat) : Option (Nat × Nat × Option Nat × Nat) := match b.drop a with
 | [] => none
 | c :: r => if c.toNat % 32 = 31 ∧ 2 ≤ c.toNat / 32 ∧ c.toNat / 32 ≤ 5 then some (c.toNat / 32, 31, none, a + 1) else match headIn (c.toNat % 32) r with
   | none => none
   | some (n, t) => some (c.toNat / 32, c.toNat % 32, some n, b.length - t.length)
noncomputable def lone (m i n : Nat) : Option Bytes :=
 if m ≤ 1 ∨ i < 24 then some (short m n) else if 24 < i then some (shortest (if i = 25 then .half else if i = 26 then .single else .double) n) else if n < 32 then none else some (short 7 n)
noncomputable def strOf (m : Nat) (n : Option Nat) (r : Bytes) : Option (Bytes × Bytes) := match n with
 | none => partsIn m (r.length + 1) [] r
 | some n => if r.length < n ∨ (m = 3 ∧ ut (r.take n) = false) then none else some (r.take n, r.drop n)
theorem headIn_suffix {i : Nat} {r : Bytes} {n : Nat} {t : Bytes} (h : headIn i r = some (n, t)) : ∃ w, t = r.drop w ∧ w ≤ r.length ∧ (i < 24 → w = 0 ∧ n = i) ∧ (24 ≤ i → i ≤ 27 ∧ w = 2 ^ (i - 24) ∧ n = num (r.take w)) := by
 unfold headIn at h
 split at h
 · rename_i hi
   cases h
   exact ⟨0, rfl, Nat.zero_le _, fun _ => ⟨rfl, rfl⟩, fun z => by omega⟩
 · rename_i hi
   split at h
   · cases h
   · rename_i hj
     dsimp only at h
     split at h
     · cases h
     · cases h
       exact ⟨_, rfl, by omega, fun z => absurd z hi, fun _ => ⟨by omega, rfl, rfl⟩⟩
theorem drop_back {b : Bytes} {a : Nat} {c : UInt8} {r : Bytes} (h : b.drop a = c :: r) {w : Nat} (hw : w ≤ r.length) : b.length - (r.drop w).length = a + 1 + w ∧ b.drop (a + 1 + w) = r.drop w := by
 have hl := congrArg List.length h
 rw [List.length_drop, List.length_cons] at hl
 obtain ⟨_, _, _, h4⟩ := drop_get h
 refine ⟨?_, ?_⟩
 · rw [List.length_drop]; omega
 · rw [← List.drop_drop, h4]
theorem headOf_behind {b : Bytes} {a m i bh : Nat} {n : Option Nat} (h : headOf b a = some (m, i, n, bh)) : a < bh ∧ bh ≤ b.length ∧ m < 8 ∧ i < 32 ∧ (n = none → i = 31 ∧ 2 ≤ m ∧ m ≤ 5 ∧ bh = a + 1) ∧ (∀ k, n = some k → k < 2 ^ 64 ∧ i ≤ 27 ∧ (i < 24 → k = i) ∧ (i = 24 → k < 256) ∧ (i = 25 → k < 2 ^ 16) ∧ (i = 26 → k < 2 ^ 32)) := by
 unfold headOf at h
 split at h
 · cases h
 · rename_i c r hc
   have hu := u8_lt c
   have hl := congrArg List.length hc
   rw [List.length_drop, List.length_cons] at hl
   split at h
   · rename_i hh
     cases h
     exact ⟨by omega, by omega, by omega, by omega, fun _ => ⟨rfl, hh.2.1, hh.2.2, rfl⟩, fun k z => by cases z⟩
   · split at h
     · cases h
     · rename_i n' t hn
       cases h
       obtain ⟨w, rfl, hw, k1, k2⟩ := headIn_suffix hn
       obtain ⟨q1, q2, q3⟩ := headIn_lt hn
       rw [(drop_back hc hw).1]
       refine ⟨by omega, by omega, by omega, by omega, (fun z => by cases z), fun k z => ?_⟩
       cases z
       refine ⟨q1, ?_, fun z => (k1 z).2, fun z => ?_, q2, q3⟩
       · by_cases z : c.toNat % 32 < 24
         · omega
         · exact (k2 (by omega)).1
       · obtain ⟨_, e1, e2⟩ := k2 (by omega)
         rw [e2]
         have := num_lt (r.take w)
         rw [List.length_take] at this
         have ew : w = 1 := by rw [e1, z]
         rw [ew] at this hw ⊢
         rw [Nat.min_eq_left hw] at this
         simpa using this
theorem item_head (d : Nat) (b : Bytes) (a : Nat) : item d (b.drop a) = match headOf b a with
   | none => none
   | some (m, i, n, bh) =>
     if m ≤ 1 ∨ m = 7 then (match n with
       | none => none
       | some n => match lone m i n with
         | none => none
         | some o => some (leaf o 0, b.drop bh))
     else if m ≤ 3 then (match strOf m n (b.drop bh) with
       | none => none
       | some (c, t) => some (leaf (short m c.length ++ c) c.length, t))
     else match d with
       | 0 => none
       | e + 1 => if m = 4 then (match (match n with | none => itemsO e [] (b.drop bh) | some n => items e n [] (b.drop bh)) with
           | none => none
           | some (l, t) => some (arrayOf l, t))
         else if m = 5 then (match (match n with | none => mapO e [] (b.drop bh) | some n => items e (2 * n) [] (b.drop bh)) with
           | none => none
           | some (l, t) => some (mapOf l, t))
         else match n with
           | none => none
           | some n => match item e (b.drop bh) with
             | none => none
             | some (x, u) => some (⟨short 6 n ++ x.out, 1 + x.nodes, x.size, x.twice⟩, u) := by
 unfold headOf
 cases hc : b.drop a with
 | nil => exact item_nil d
 | cons c r =>
   dsimp only
   have hu := u8_lt c
   obtain ⟨g1, g2, g3, g4⟩ := drop_get hc
   rw [item_cons]
   dsimp only
   by_cases hx : c.toNat % 32 = 31 ∧ 2 ≤ c.toNat / 32 ∧ c.toNat / 32 ≤ 5
   · rw [if_pos hx]
     dsimp only
     rw [if_neg (show ¬ (c.toNat / 32 = 0 ∨ c.toNat / 32 = 1) by omega), if_neg (show ¬ (c.toNat / 32 ≤ 1 ∨ c.toNat / 32 = 7) by omega), g4]
     by_cases hm : c.toNat / 32 = 2 ∨ c.toNat / 32 = 3
     · rw [if_pos hm, if_pos (show c.toNat / 32 ≤ 3 by omega)]
       unfold stringIn strOf
       rw [if_pos hx.1]
       cases partsIn (c.toNat / 32) (r.length + 1) [] r with
       | none => rfl
       | some z => rfl
     · rw [if_neg hm, if_neg (show ¬ c.toNat / 32 = 7 by omega), if_neg (show ¬ c.toNat / 32 ≤ 3 by omega)]
       cases d with
       | zero => rfl
       | succ e =>
         dsimp only
         rw [if_neg (show ¬ c.toNat / 32 = 6 by omega), if_pos hx.1]
         by_cases h4 : c.toNat / 32 = 4
         · rw [if_pos h4]
           cases itemsO e [] r with
           | none => rfl
           | some z => dsimp only; rw [if_pos h4]
         · rw [if_neg h4, if_pos (show c.toNat / 32 = 5 by omega)]
           unfold mapO
           cases itemsO e [] r with
           | none => rfl
           | some z =>
             dsimp only
             rw [if_neg h4]
             split <;> rfl
   · rw [if_neg hx]
     cases hn : headIn (c.toNat % 32) r with
     | none =>
       dsimp only
       have nolow : ¬ c.toNat % 32 < 24 := fun z => by unfold headIn at hn; rw [if_pos z] at hn; cases hn
       by_cases h1 : c.toNat / 32 = 0 ∨ c.toNat / 32 = 1
       · rw [if_pos h1]
       · rw [if_neg h1]
         by_cases h2 : c.toNat / 32 = 2 ∨ c.toNat / 32 = 3
         · rw [if_pos h2]
           unfold stringIn
           rw [if_neg (show ¬ c.toNat % 32 = 31 by omega), hn]
         · rw [if_neg h2]
           by_cases h7 : c.toNat / 32 = 7
           · rw [if_pos h7, if_neg nolow]
             by_cases h24 : c.toNat % 32 = 24
             · rw [if_pos h24]
               cases r with
               | nil => rfl
               | cons v t =>
                 exfalso
                 rw [h24] at hn
                 simp [headIn] at hn
             · rw [if_neg h24]
           · rw [if_neg h7]
             cases d with
             | zero => rfl
             | succ e =>
               dsimp only
               by_cases h6 : c.toNat / 32 = 6
               · rw [if_pos h6]
               · rw [if_neg h6, if_neg (show ¬ c.toNat % 32 = 31 by omega)]
     | some z =>
       obtain ⟨n, t⟩ := z
       dsimp only
       obtain ⟨w, rfl, hw, k1, k2⟩ := headIn_suffix hn
       obtain ⟨e1, e2⟩ := drop_back hc hw
       rw [e1, e2]
       by_cases h1 : c.toNat / 32 = 0 ∨ c.toNat / 32 = 1
       · rw [if_pos h1, if_pos (show (c.toNat / 32 ≤ 1 ∨ c.toNat / 32 = 7) by omega)]
         unfold lone
         rw [if_pos (show (c.toNat / 32 ≤ 1 ∨ c.toNat % 32 < 24) by omega)]
       · rw [if_neg h1]
         by_cases h2 : c.toNat / 32 = 2 ∨ c.toNat / 32 = 3
         · rw [if_pos h2, if_neg (show ¬ (c.toNat / 32 ≤ 1 ∨ c.toNat / 32 = 7) by omega), if_pos (show c.toNat / 32 ≤ 3 by omega)]
           unfold stringIn strOf
           have i31 : ¬ c.toNat % 32 = 31 := fun q => hx ⟨q, by omega, by omega⟩
           rw [if_neg i31, hn]
           dsimp only
           by_cases hl : (r.drop w).length < n
           · rw [if_pos (.inl hl), if_pos (.inl hl)]
           · have eu : utf8 n ((r.drop w).take n) = ut ((r.drop w).take n) := utf8_ut (by rw [List.length_take]; omega)
             rw [eu]
             by_cases hb : c.toNat / 32 = 3 ∧ ut ((r.drop w).take n) = false
             · rw [if_pos (.inr hb), if_pos (.inr hb)]
             · have nc : ¬ ((r.drop w).length < n ∨ (c.toNat / 32 = 3 ∧ ut ((r.drop w).take n) = false)) := fun q => q.elim hl hb
               rw [if_neg nc, if_neg nc]
               dsimp only
               have : ((r.drop w).take n).length = n := by rw [List.length_take]; omega
               rw [this]
         · rw [if_neg h2]
           by_cases h7 : c.toNat / 32 = 7
           · rw [if_pos h7, if_pos (show (c.toNat / 32 ≤ 1 ∨ c.toNat / 32 = 7) by omega)]
             unfold lone
             by_cases hi : c.toNat % 32 < 24
             · obtain ⟨q1, q2⟩ := k1 hi
               rw [if_pos hi, if_pos (show (c.toNat / 32 ≤ 1 ∨ c.toNat % 32 < 24) by omega), q1, q2]
               dsimp only
               have : short (c.toNat / 32) (c.toNat % 32) = [c] := by
                 rw [short_small hi, h7]
                 congr 1
                 apply UInt8.toNat_inj.mp
                 rw [byte_toNat (by omega)]
                 omega
               rw [this]
               rfl
             · rw [if_neg hi, if_neg (show ¬ (c.toNat / 32 ≤ 1 ∨ c.toNat % 32 < 24) by omega)]
               obtain ⟨p1, p2, p3⟩ := k2 (by omega)
               by_cases h24 : c.toNat % 32 = 24
               · rw [if_pos h24, if_neg (show ¬ 24 < c.toNat % 32 by omega)]
                 have ew : w = 1 := by rw [p2, h24]
                 rw [ew] at hw p3 ⊢
                 cases r with
                 | nil => simp at hw
                 | cons v t =>
                   have en : n = v.toNat := by rw [p3]; simp [num]
                   have hv := u8_lt v
                   dsimp only
                   rw [en]
                   by_cases hv32 : v.toNat < 32
                   · rw [if_pos hv32, if_pos hv32]
                   · rw [if_neg hv32, if_neg hv32]
                     dsimp only
                     have : short 7 v.toNat = [c, v] := by
                       rw [short_wide (i := 24) (by omega) (by omega) (by omega) (by simpa using hv) (fun j h1 h2 => by omega)]
                       have c1 : byte 7 24 = c := by
                         apply UInt8.toNat_inj.mp
                         rw [byte_toNat (by omega)]
                         omega
                       rw [c1]
                       simp [be]
                     rw [this]
                     rfl
               · rw [if_neg h24, if_pos (show 24 < c.toNat % 32 by omega)]
           · rw [if_neg h7, if_neg (show ¬ (c.toNat / 32 ≤ 1 ∨ c.toNat / 32 = 7) by omega), if_neg (show ¬ c.toNat / 32 ≤ 3 by omega)]
             cases d with
             | zero => rfl
             | succ e =>
               dsimp only
               by_cases h6 : c.toNat / 32 = 6
               · rw [if_pos h6, if_neg (show ¬ c.toNat / 32 = 4 by omega), if_neg (show ¬ c.toNat / 32 = 5 by omega)] <;> cases item e (r.drop w) <;> rfl
               · have i31 : ¬ c.toNat % 32 = 31 := fun q => hx ⟨q, by omega, by omega⟩
                 rw [if_neg h6, if_neg i31]
                 by_cases h4 : c.toNat / 32 = 4
                 · simp only [if_pos h4] <;> cases items e n [] (r.drop w) <;> rfl
                 · simp only [if_neg h4]
                   rw [if_pos (show c.toNat / 32 = 5 by omega)] <;> cases items e (2 * n) [] (r.drop w) <;> rfl
end Pu
end
section
namespace L2
open PySem PySem.Spec PyProof.Rows
section
variable {P : Program} {w : World} {K : PySem.W.Frag} {mg : Str → Option Value} {base : Heap}
theorem Fun.okE {x qual : Str} {st : Stmt} {f : Addr} {fd : FuncData} {N ps : List Str} {k : Nat} {sp : Sp} (F : Fun K x qual st f fd) (S : FnScope N ps (defScope st)) (len : ∀ vs H Q E, sp vs H Q E → vs.length = ps.length)
   (hbody : ∀ (cdv : Value) (A : Around) (outer : List Env) (s : Shared) (H : Hp) (vs : List V) (Q : VK) (E : XK), Room k (A.deeper (envOfC qual (defScope st) s.heap.objs.size f cdv)) → sp vs H Q E →
     ∃ t, PSs (cxOf (CXE P w) P w K mg base N qual (defScope st) f cdv A outer s H E) (defBody st) t ∧ t { nx := fun _ H' => Q .non H', rt := Q } (start N vs) H) : FnOk P w K mg base (CXE P w) (k + 1) f fd ps sp := by
 obtain ⟨oc, od, kV, doc, pm, an, cdv, ct, osl, rfl, lk, hcd⟩ := F.ex
 exact fn_of lk hcd S len fun A outer s H vs Q E hr hsp => hbody cdv A outer s H vs Q E hr hsp
end
structure Dfn (P : Program) (w : World) (K : PySem.W.Frag) (mg : Str → Option Value) (base : Heap) (k : Nat) (x : Str) (ps : List Str) (sp : Sp) where
 f : Addr
 fd : FuncData
 hm : mg x = some (.ref f)
 kp : PySem.W.keepIn K (.ref f) = true
 bd : Binds K fd ps []
 ok : FnOk P w K mg base (CXE P w) k f fd ps sp
structure Mth (P : Program) (w : World) (K : PySem.W.Frag) (mg : Str → Option Value) (base : Heap) (k : Nat) (C : Addr) (m : Str) (ps : List Str) (sp : Sp) where
 f : Addr
 fd : FuncData
 mt : Meth K C m f
 bd : Binds K fd ps []
 ok : FnOk P w K mg base (CXE P w) k f fd ps sp
structure Mkr (P : Program) (w : World) (K : PySem.W.Frag) (mg : Str → Option Value) (base : Heap) (k : Nat) (C : Addr) (x : Str) (ps : List Str) (sp : Sp) where
 f : Addr
 fd : FuncData
 hm : mg x = some (.ref C)
 mkr : Mk K C f
 bd : Binds K fd ps []
 ok : FnOk P w K mg base (CXE P w) k f fd ps sp
section
variable {X : Cx} {k : Nat} {C : Addr} {x m : Str} {ps : List Str} {sp : Sp} {E : XK} {p pos apos : Pos} {e o : Expr} {es : List Expr} {ta : TE} {t : TA}
theorem pe_d (D : Dfn X.prog X.w X.K X.mg X.base k x ps sp) (hx : Passes (CXE X.prog X.w) X E) (hr : Room k X.A) (ha : PA X (e :: es) t) (hg : Gl X x := by rfl) (hdb : (x == ("__debug__" : Str)) = false := by decide) (he : starEach (e :: es) X.env = (false, eval e X.env) :: starEach es X.env := by rfl) (hpl : (backTo pos (starEach es X.env)).any (·.1) = false := by rfl) :
   PE X (.Call (.Name x p) (e :: es) [] pos) (tCall sp [] E t) := pe_call D.ok hr hg D.hm D.kp D.bd .nil hx ha hdb he hpl
theorem pe_m {pl : Sem Bool} (D : Mth X.prog X.w X.K X.mg X.base k C m ps sp) (c : Cls X.K C) (hx : Passes (CXE X.prog X.w) X E) (hr : Room k X.A) (he : PE X o ta) (ha : PA X (e :: es) t)
   (hst : starEach (e :: es) X.env = (false, eval e X.env) :: starEach es X.env := by rfl) (hpl : (backTo pos (starEach es X.env)).any (·.1) = false := by rfl)
   (ht : eval (.Call (.Attribute o m apos) (e :: es) [] pos) X.env = (do
     let ov ← eval o X.env
     standAt apos.atName
     let (f, first) ← holding [ov] (getMethod ov m pl)
     callWith pos f first (backTo pos (starEach (e :: es) X.env)) (backToKw pos (keywordEach [] X.env))) := by rfl) :
   PE X (.Call (.Attribute o m apos) (e :: es) [] pos) (tMeth C m sp [] E ta t) := pe_meth he c D.mt D.ok hr D.bd .nil hx ha hst hpl ht
theorem pe_m0 {pl : Sem Bool} (D : Mth X.prog X.w X.K X.mg X.base k C m ps sp) (c : Cls X.K C) (hx : Passes (CXE X.prog X.w) X E) (hr : Room k X.A) (he : PE X o ta)
   (ht : eval (.Call (.Attribute o m apos) [] [] pos) X.env = (do
     let ov ← eval o X.env
     standAt apos.atName
     let (f, first) ← holding [ov] (getMethod ov m pl)
     callWith pos f first (backTo pos (starEach [] X.env)) (backToKw pos (keywordEach [] X.env))) := by rfl) :
   PE X (.Call (.Attribute o m apos) [] [] pos) (tMeth C m sp [] E ta tNil) := pe_meth0 he c D.mt D.ok hr D.bd .nil hx ht
theorem pe_mk (D : Mkr X.prog X.w X.K X.mg X.base k C x ps sp) (hx : Passes (CXE X.prog X.w) X E) (hr : Room (k + 1) X.A) (ha : PA X (e :: es) t) (hg : Gl X x := by rfl) (hdb : (x == ("__debug__" : Str)) = false := by decide) (he : starEach (e :: es) X.env = (false, eval e X.env) :: starEach es X.env := by rfl) (hpl : (backTo pos (starEach es X.env)).any (·.1) = false := by rfl) :
   PE X (.Call (.Name x p) (e :: es) [] pos) (tMake C sp [] E t) := pe_make D.mkr D.ok hr hg D.hm D.bd .nil hx ha hdb he hpl
theorem pe_mk0 (D : Mkr X.prog X.w X.K X.mg X.base k C x ps sp) (hx : Passes (CXE X.prog X.w) X E) (hr : Room (k + 1) X.A) (hg : Gl X x := by rfl) (hdb : (x == ("__debug__" : Str)) = false := by decide) :
   PE X (.Call (.Name x p) [] [] pos) (tMake C sp [] E tNil) := pe_make0 D.mkr D.ok hr hg D.hm D.bd .nil hx hdb
noncomputable def Cst (mg : Str → Option Value) (x : Str) (i : Int) : Prop := ∃ t, mg x = some (.int i t)
theorem pe_k {i : Int} (h : Cst X.mg x i) (hg : Gl X x := by rfl) (hd : (x == ("__debug__" : Str)) = false := by decide) : PE X (.Name x pos) (tC (.int i)) := by
 intro pins s σ H Q I hq
 obtain ⟨t, ht⟩ := h
 exact ld_glob I hg ht ⟨.int i, H, I, ⟨t, rfl⟩, hq⟩ hd
theorem pe_r {a : Addr} (h : X.mg x = some (.ref a)) (hg : Gl X x := by rfl) (hd : (x == ("__debug__" : Str)) = false := by decide) : PE X (.Name x pos) (tC (.ref a)) := pe_glob hg h rfl hd
theorem mt_bits : MtR X "int.bit_length" (fun x xs H Q => ∃ i : Int, x = .int i ∧ xs = [] ∧ Q (.int (Builtin.Int.intBits i)) H) := by
 intro pins s σ H x xs v us Q I rx rs h
 obtain ⟨i, rfl, rfl, q⟩ := h
 obtain ⟨t, rfl⟩ := rx
 cases rs
 exact call_int_bit_length ⟨.int _, H, I.tok _, ⟨_, rfl⟩, q⟩
end
noncomputable def TabI (P : Program) (w : World) (K : PySem.W.Frag) (a : Addr) (k : Int) (v : V) : Prop :=
 ∀ s : Shared, K.In s.heap → s.TypeIs (.ref a) "dict" ∧ ∀ (A : Around) (E : Value → Shared → Prop) (Q : Value → Shared → Prop) (t : Tok), (∀ u n, RelV v u → Q u { s with toks := n }) → wpAny (model P w) A (getItem (.ref a) (.int k t)) Q E s
noncomputable def tTab (P : Program) (w : World) (K : PySem.W.Frag) (td ty : TE) : TE := fun σ H Q => td σ H fun x H1 => ty σ H1 fun y H2 => ∃ a k v, x = .ref a ∧ y = .int k ∧ TabI P w K a k v ∧ Q v H2
section
variable {X : Cx} {o i : Expr} {pos : Pos} {td ty : TE}
theorem pe_tab (ho : PE X o td) (hi : PE X i ty) (hs : NoSl i) : PE X (.Subscript o i pos) (tTab X.prog X.w X.K td ty) := by
 intro pins s σ H Q I h
 refine subD_of PySem.F.slot_dict_getitem.lookup hs (thn (ho pins s σ H _ I h) fun u s1 ⟨x, H1, I1, rx, q1⟩ => thn (hi pins s1 σ H1 _ I1 q1) fun iv s2 ⟨y, H2, I2, ry, a, k, v, ex, ey, g, q2⟩ => ?_)
 subst ex
 subst ey
 obtain rfl : u = Value.ref a := rx
 obtain ⟨t, rfl⟩ := ry
 obtain ⟨g1, g2⟩ := g s2 I2.kIn
 exact ⟨g1, g2 _ _ _ t fun u n ru => ⟨v, H2, I2.tok n, ru, q2⟩⟩
end
end L2
end
section
namespace Srt
open PySem PyProof.Rows
structure Fix where
 M : Model
 G : Ctx
 s : Shared
 t : Shared
 kd : SortKind
 ke : SortKind
 f : Keyed → Keyed
 ok : Keyed → Prop
 lt : ∀ (x y : Keyed), ok x → ok y → ∃ b : Bool,
   (∀ {β : Type} (k : Except Value Bool → Sem β) Q E p, (∀ p', Sem.wp M G (k (.ok b)) Q E p' s) → Sem.wp M G ((keyLt' kd x.1 y.1).attempt >>= k) Q E p s) ∧
   (∀ {β : Type} (k : Except Value Bool → Sem β) Q E p, Sem.wp M G ((keyLt' ke (f x).1 (f y).1).attempt >>= k) Q E p t → ∃ p', Sem.wp M G (k (.ok b)) Q E p' t)
variable {F : Fix}
structure ArrR (F : Fix) (a b : Array Keyed) : Prop where
 eq : b = a.map F.f
 ok : ∀ x ∈ a, F.ok x
structure StR (F : Fix) (u v : SortSt) : Prop where
 ku : kindOf u = F.kd
 kv : kindOf v = F.ke
 arr : ArrR F (arrOf u) (arrOf v)
 pend : pendingOf v = pendingOf u
 gal : gallopOf v = gallopOf u
 fu : failedOf u = none
 fv : failedOf v = none
noncomputable def Sim (F : Fix) {α α' : Type} (R : α → α' → Prop) (m : StateT SortSt Sem α) (m' : StateT SortSt Sem α') : Prop :=
 ∀ u v, StR F u v → ∀ {β β' : Type} (Q : β → Pos → Shared → Prop) (E : Value → Pos → Shared → Prop) (Q' : β' → Pos → Shared → Prop) (E' : Value → Pos → Shared → Prop) (k : α × SortSt → Sem β) (k' : α' × SortSt → Sem β'),
   (∀ a a' u' v', R a a' → StR F u' v' → ∀ p p', Sem.wp F.M F.G (k' (a', v')) Q' E' p' F.t → Sem.wp F.M F.G (k (a, u')) Q E p F.s) →
   ∀ p p', Sem.wp F.M F.G (m'.run v >>= k') Q' E' p' F.t → Sem.wp F.M F.G (m.run u >>= k) Q E p F.s
section
variable {α α' γ γ' : Type} {R : α → α' → Prop} {S : γ → γ' → Prop}
theorem sim_pure {a : α} {a' : α'} (h : R a a') : Sim F R (pure a) (pure a') := by
 intro u v hs β β' Q E Q' E' k k' hk p p' w
 rw [StateT.run_pure, pure_bind] at w ⊢
 exact hk _ _ _ _ h hs p p' w
theorem sim_bind {m : StateT SortSt Sem α} {m' : StateT SortSt Sem α'} {f : α → StateT SortSt Sem γ} {f' : α' → StateT SortSt Sem γ'} (h : Sim F R m m') (hf : ∀ a a', R a a' → Sim F S (f a) (f' a')) : Sim F S (m >>= f) (m' >>= f') := by
 intro u v hs β β' Q E Q' E' k k' hk p p' w
 rw [StateT.run_bind, bind_assoc] at w ⊢
 exact h u v hs Q E Q' E' _ _ (fun a a' u' v' hr hs' p p' w' => hf a a' hr u' v' hs' Q E Q' E' k k' hk p p' w') p p' w
theorem sim_get : Sim F (StR F) (get : StateT SortSt Sem SortSt) (get : StateT SortSt Sem SortSt) := by
 intro u v hs β β' Q E Q' E' k k' hk p p' w
 rw [StateT.run_get, pure_bind] at w ⊢
 exact hk _ _ _ _ hs hs p p' w
theorem sim_set {u0 v0 : SortSt} (h : StR F u0 v0) : Sim F (fun _ _ => True) (set u0 : StateT SortSt Sem PUnit) (set v0 : StateT SortSt Sem PUnit) := by
 intro u v hs β β' Q E Q' E' k k' hk p p' w
 rw [StateT.run_set, pure_bind] at w ⊢
 exact hk _ _ _ _ trivial h p p' w
theorem sim_modify {f f' : SortSt → SortSt} (h : ∀ u v, StR F u v → StR F (f u) (f' v)) : Sim F (fun _ _ => True) (modify f : StateT SortSt Sem PUnit) (modify f' : StateT SortSt Sem PUnit) := by
 intro u v hs β β' Q E Q' E' k k' hk p p' w
 rw [StateT.run_modify, pure_bind] at w ⊢
 exact hk _ _ _ _ trivial (h u v hs) p p' w
theorem sim_rule {tag tag' : String} : Sim F (fun _ _ => True) (rule tag : StateT SortSt Sem Unit) (rule tag' : StateT SortSt Sem Unit) := by
 intro u v hs β β' Q E Q' E' k k' hk p p' w
 have w2 : Sem.wp F.M F.G (k' ((), v)) Q' E' p' F.t := w
 have g : Sem.wp F.M F.G (k ((), u)) Q E p F.s := hk _ _ _ _ trivial hs p p' w2
 exact g
theorem sim_no {m : StateT SortSt Sem α} {what : String} : Sim F R m (unsupported what : StateT SortSt Sem α') := by
 intro u v hs β β' Q E Q' E' k k' hk p p' w
 exact False.elim w
inductive StepR (R : α → α' → Prop) : ForInStep α → ForInStep α' → Prop
 | done {a a'} (h : R a a') : StepR R (.done a) (.done a')
 | yield {a a'} (h : R a a') : StepR R (.yield a) (.yield a')
theorem sim_list {f : Nat → α → StateT SortSt Sem (ForInStep α)} {f' : Nat → α' → StateT SortSt Sem (ForInStep α')} (hf : ∀ i a a', R a a' → Sim F (StepR R) (f i a) (f' i a')) :
   ∀ (l : List Nat) (a : α) (a' : α'), R a a' → Sim F R (forIn l a f) (forIn l a' f')
 | [], a, a', h => by rw [List.forIn_nil, List.forIn_nil]; exact sim_pure h
 | i :: l, a, a', h => by
   rw [List.forIn_cons, List.forIn_cons]
   refine sim_bind (hf i a a' h) fun b b' hb => ?_
   cases hb with
   | done h => exact sim_pure h
   | yield h => exact sim_list hf l _ _ h
theorem sim_for {lo hi : Nat} {f : Nat → α → StateT SortSt Sem (ForInStep α)} {f' : Nat → α' → StateT SortSt Sem (ForInStep α')} {a : α} {a' : α'} (h : R a a') (hf : ∀ i a a', R a a' → Sim F (StepR R) (f i a) (f' i a')) :
   Sim F R (forIn [lo:hi] a f) (forIn [lo:hi] a' f') := by
 rw [Std.Legacy.Range.forIn_eq_forIn_range', Std.Legacy.Range.forIn_eq_forIn_range']
 exact sim_list hf _ _ _ h
end
noncomputable def ItR (F : Fix) (x x' : Keyed) : Prop := x' = F.f x ∧ F.ok x
theorem sim_elem {a b : Array Keyed} (h : ArrR F a b) (i : Nat) : Sim F (ItR F) (elem' a i) (elem' b i) := by
 rw [elem'_eq, elem'_eq, h.eq, Array.getElem?_map]
 cases e : a[i]? with
 | none => exact sim_no
 | some x => exact sim_pure ⟨rfl, h.ok x (Array.mem_of_getElem? e)⟩
theorem run_lift {X : Type} (t : Sem X) (u : SortSt) : (liftM t : StateT SortSt Sem X).run u = t >>= fun a => pure (a, u) := rfl
theorem sim_lt {x y x' y' : Keyed} (hx : ItR F x x') (hy : ItR F y y') : Sim F Eq (lt' x y) (lt' x' y') := by
 obtain ⟨rfl, ox⟩ := hx
 obtain ⟨rfl, oy⟩ := hy
 intro u v hs β β' Q E Q' E' k k' hk p p' w
 obtain ⟨b, fwd, bwd⟩ := F.lt x y ox oy
 rw [lt'_eq] at w ⊢
 simp only [StateT.run_bind, StateT.run_get, pure_bind, bind_assoc, hs.ku, hs.kv, run_lift] at w ⊢
 have w1 : Sem.wp F.M F.G ((keyLt' F.ke (F.f x).1 (F.f y).1).attempt >>= fun r => (match r with
   | .ok b => (pure (some b) : StateT SortSt Sem (Option Bool))
   | .error e => (do modify (fun s => SortSt.mk' (kindOf s) (arrOf s) (pendingOf s) (gallopOf s) (some e)); return none)).run v >>= k') Q' E' p' F.t := w
 obtain ⟨p2, w2⟩ := bwd _ _ _ _ w1
 show Sem.wp F.M F.G ((keyLt' F.kd x.1 y.1).attempt >>= fun r => (match r with
   | .ok b => (pure (some b) : StateT SortSt Sem (Option Bool))
   | .error e => (do modify (fun s => SortSt.mk' (kindOf s) (arrOf s) (pendingOf s) (gallopOf s) (some e)); return none)).run u >>= k) Q E p F.s
 refine fwd _ _ _ _ fun p3 => ?_
 exact hk (some b) (some b) u v rfl hs p3 p2 w2
theorem sim_ltAt (i j : Nat) : Sim F Eq (ltAt' i j) (ltAt' i j) := by
 rw [ltAt'_eq]
 refine sim_bind sim_get fun u v hs => ?_
 dsimp only
 exact sim_bind (sim_elem hs.arr i) fun x x' hx => sim_bind (sim_elem hs.arr j) fun y y' hy => sim_lt hx hy
end Srt
end
section
namespace Srt
open PySem PyProof.Rows
variable {F : Fix}
theorem arr_swap {a b : Array Keyed} (h : ArrR F a b) (i j : Nat) : ArrR F (a.swapIfInBounds i j) (b.swapIfInBounds i j) := by
 refine ⟨?_, fun x hx => h.ok x (((swapIB_perm a i j).mem_iff).mp hx)⟩
 rw [h.eq]
 apply Array.ext_getElem?
 intro k
 by_cases hi : i < a.size
 · by_cases hj : j < a.size
   · rw [Array.getElem?_map, getElem?_swapIB hi hj, getElem?_swapIB (by rw [Array.size_map]; exact hi) (by rw [Array.size_map]; exact hj)]
     simp only [Array.getElem?_map]
     repeat' split
     all_goals rfl
   · simp only [Array.swapIfInBounds_def, Array.size_map, hi, hj, dite_true, dite_false]
 · simp only [Array.swapIfInBounds_def, Array.size_map, hi, dite_false]
theorem arr_swaps {β : Type} (p q : β → Nat) : ∀ (l : List β) {a b : Array Keyed}, ArrR F a b → ArrR F (l.foldl (fun a k => a.swapIfInBounds (p k) (q k)) a) (l.foldl (fun a k => a.swapIfInBounds (p k) (q k)) b)
 | [], _, _, h => h
 | k :: l, _, _, h => arr_swaps p q l (arr_swap h _ _)
theorem arr_size {a b : Array Keyed} (h : ArrR F a b) : b.size = a.size := by rw [h.eq, Array.size_map]
theorem arr_push {a b : Array Keyed} {x y : Keyed} (h : ArrR F a b) (hx : ItR F x y) : ArrR F (a.push x) (b.push y) := by
 obtain ⟨rfl, ok⟩ := hx
 refine ⟨by rw [h.eq, Array.map_push], fun z hz => ?_⟩
 rcases Array.mem_push.mp hz with hz | rfl
 · exact h.ok z hz
 · exact ok
theorem arr_app {a b c d : Array Keyed} (h : ArrR F a b) (g : ArrR F c d) : ArrR F (a ++ c) (b ++ d) :=
 ⟨by rw [h.eq, g.eq, Array.map_append], fun z hz => (Array.mem_append.mp hz).elim (h.ok z) (g.ok z)⟩
theorem arr_ext {a b : Array Keyed} (h : ArrR F a b) (i j : Nat) : ArrR F (a.extract i j) (b.extract i j) :=
 ⟨by rw [h.eq, Array.map_extract], fun z hz => h.ok z (by
   rw [Array.mem_iff_getElem?] at hz ⊢
   obtain ⟨k, hk⟩ := hz
   rw [Array.getElem?_extract] at hk
   split at hk
   · exact ⟨_, hk⟩
   · cases hk)⟩
theorem arr_rev {a b : Array Keyed} (h : ArrR F a b) : ArrR F a.reverse b.reverse :=
 ⟨by rw [h.eq, Array.map_reverse], fun z hz => h.ok z (Array.mem_reverse.mp hz)⟩
theorem arr_one {x y : Keyed} (hx : ItR F x y) : ArrR F #[x] #[y] := by
 obtain ⟨rfl, ok⟩ := hx
 exact ⟨by simp, fun z hz => by rw [List.mem_toArray] at hz; rw [List.mem_singleton.mp hz]; exact ok⟩
theorem arr_set {a b : Array Keyed} {x y : Keyed} (h : ArrR F a b) (hx : ItR F x y) (i : Nat) : ArrR F (a.setIfInBounds i x) (b.setIfInBounds i y) := by
 obtain ⟨rfl, ok⟩ := hx
 refine ⟨by rw [h.eq, Array.map_setIfInBounds], fun z hz => ?_⟩
 rcases Array.mem_or_eq_of_mem_setIfInBounds hz with hz | rfl
 · exact h.ok z hz
 · exact ok
theorem arr_sets (sa : Nat) : ∀ (l : List Keyed) (n : Nat) {a b : Array Keyed}, (∀ x ∈ l, F.ok x) → ArrR F a b →
   ArrR F ((l.zipIdx n).foldl (fun a (p, j) => a.setIfInBounds (sa + j) p) a) (((l.map F.f).zipIdx n).foldl (fun a (p, j) => a.setIfInBounds (sa + j) p) b)
 | [], _, _, _, _, h => h
 | x :: l, n, a, b, hl, h => by
   rw [List.map_cons, List.zipIdx_cons, List.zipIdx_cons, List.foldl_cons, List.foldl_cons]
   exact arr_sets sa l (n + 1) (fun y hy => hl y (List.mem_cons_of_mem _ hy)) (arr_set h ⟨rfl, hl x List.mem_cons_self⟩ _)
theorem sim_rev (i j : Nat) : Sim F (fun _ _ => True) (reverseSlice' i j) (reverseSlice' i j) := by
 rw [reverseSlice'_eq]
 exact sim_modify fun u v h => ⟨h.ku, h.kv, arr_swaps _ _ _ h.arr, h.pend, h.gal, h.fu, h.fv⟩
theorem sim_move (i j : Nat) : Sim F (fun _ _ => True) (moveDown' i j) (moveDown' i j) := by
 rw [moveDown'_eq]
 exact sim_modify fun u v h => ⟨h.ku, h.kv, arr_swaps _ _ _ h.arr, h.pend, h.gal, h.fu, h.fv⟩
theorem sim_gal (g : Nat) : Sim F (fun _ _ => True) (setMinGallop' g) (setMinGallop' g) := by
 rw [setMinGallop'_eq]
 exact sim_modify fun u v h => ⟨h.ku, h.kv, h.arr, h.pend, rfl, h.fu, h.fv⟩
section
variable {α α' : Type} {R : α → α' → Prop} {m n : StateT SortSt Sem α} {m' n' : StateT SortSt Sem α'}
theorem sim_ite {c : Prop} [Decidable c] (h1 : c → Sim F R m m') (h2 : ¬ c → Sim F R n n') : Sim F R (if c then m else n) (if c then m' else n') := by
 by_cases h : c
 · rw [if_pos h, if_pos h]; exact h1 h
 · rw [if_neg h, if_neg h]; exact h2 h
theorem sim_eq_bind {γ γ' δ : Type} {S : γ → γ' → Prop} {m m' : StateT SortSt Sem δ} {f : δ → StateT SortSt Sem γ} {f' : δ → StateT SortSt Sem γ'} (h : Sim F Eq m m') (hf : ∀ a, Sim F S (f a) (f' a)) : Sim F S (m >>= f) (m' >>= f') :=
 sim_bind h fun a a' e => by subst e; exact hf a
theorem sim_tt_bind {γ γ' : Type} {S : γ → γ' → Prop} {m m' : StateT SortSt Sem PUnit} {f : PUnit → StateT SortSt Sem γ} {f' : PUnit → StateT SortSt Sem γ'} (h : Sim F (fun _ _ => True) m m') (hf : Sim F S (f ⟨⟩) (f' ⟨⟩)) : Sim F S (m >>= f) (m' >>= f') :=
 sim_bind h fun a a' _ => hf
theorem sim_eq_for {δ : Type} {lo hi : Nat} {f f' : Nat → δ → StateT SortSt Sem (ForInStep δ)} {a : δ} (hf : ∀ i a, Sim F (StepR Eq) (f i a) (f' i a)) : Sim F Eq (forIn [lo:hi] a f) (forIn [lo:hi] a f') :=
 sim_for rfl fun i a a' e => by subst e; exact hf i a
end
theorem all_acc {ρ τ : Type} {P : Option ρ × τ → Prop} (h1 : ∀ t, P (none, t)) (h2 : ∀ r t, P (some r, t)) : ∀ c, P c
 | (none, t) => h1 t
 | (some r, t) => h2 r t
theorem all_opt {ρ : Type} {P : Option ρ → Prop} (h1 : P none) (h2 : ∀ r, P (some r)) : ∀ c, P c
 | none => h1
 | some r => h2 r
theorem sim_bin (lo n ok : Nat) : Sim F Eq (binarySort' lo n ok) (binarySort' lo n ok) := by
 rw [binarySort'_eq]
 repeat' first
   | with_reducible exact sim_pure rfl
   | with_reducible exact sim_pure (StepR.done rfl)
   | with_reducible exact sim_pure (StepR.yield rfl)
   | with_reducible refine sim_ite (fun _ => ?_) (fun _ => ?_)
   | with_reducible refine sim_tt_bind (sim_move _ _) ?_
   | with_reducible refine sim_eq_bind (sim_ltAt _ _) (all_opt ?_ fun b => ?_)
   | with_reducible refine sim_eq_bind (sim_eq_for fun i c => ?_) (all_acc (fun t => ?_) fun r t => ?_)
theorem sim_count (lo n : Nat) : Sim F Eq (countRun' lo n) (countRun' lo n) := by
 rw [countRun'_eq]
 repeat' first
   | with_reducible exact sim_pure rfl
   | with_reducible exact sim_pure (StepR.done rfl)
   | with_reducible exact sim_pure (StepR.yield rfl)
   | with_reducible refine sim_ite (fun _ => ?_) (fun _ => ?_)
   | with_reducible refine sim_tt_bind sim_rule ?_
   | with_reducible refine sim_tt_bind (sim_rev _ _) ?_
   | with_reducible refine sim_eq_bind (sim_ltAt _ _) (all_opt ?_ fun b => ?_)
   | with_reducible refine sim_eq_bind (sim_eq_for fun i c => ?_) (all_acc (fun t => ?_) fun r t => ?_)
theorem sim_beyond {left : Bool} {key key' : Keyed} {a b : Array Keyed} (hk : ItR F key key') (h : ArrR F a b) (base i : Nat) : Sim F Eq (beyond' left key a base i) (beyond' left key' b base i) := by
 unfold beyond'
 refine sim_bind (sim_elem h _) fun x x' hx => ?_
 refine sim_ite (fun _ => sim_lt hx hk) fun _ => ?_
 exact sim_eq_bind (sim_lt hk hx) fun b => sim_pure rfl
theorem sim_gallop {left : Bool} {key key' : Keyed} {a b : Array Keyed} (hk : ItR F key key') (h : ArrR F a b) (base n hint : Nat) : Sim F Eq (gallop' left key a base n hint) (gallop' left key' b base n hint) := by
 rw [gallop'_eq, gallop'_eq]
 repeat' first
   | with_reducible exact sim_pure rfl
   | with_reducible exact sim_pure (StepR.done rfl)
   | with_reducible exact sim_pure (StepR.yield rfl)
   | with_reducible refine sim_ite (fun _ => ?_) (fun _ => ?_)
   | with_reducible refine sim_eq_bind (sim_beyond hk h _ _) (all_opt ?_ fun b => ?_)
   | with_reducible refine sim_eq_bind (sim_eq_for fun i c => ?_) (all_acc (fun t => ?_) fun r t => ?_)
end Srt
end
section
set_option maxHeartbeats 4000000
namespace Srt
open PySem PyProof.Rows
variable {F : Fix}
inductive OptA (F : Fix) : Option (Array Keyed) → Option (Array Keyed) → Prop
 | none : OptA F none none
 | some {a b : Array Keyed} (h : ArrR F a b) : OptA F (some a) (some b)
noncomputable def AccR (F : Fix) {τ : Type} (c c' : Option (Array Keyed) × Array Keyed × τ) : Prop := OptA F c.1 c'.1 ∧ ArrR F c.2.1 c'.2.1 ∧ c.2.2 = c'.2.2
theorem acc_mk {τ : Type} {o o' : Option (Array Keyed)} {a a' : Array Keyed} {t : τ} (h1 : OptA F o o') (h2 : ArrR F a a') : AccR F (o, a, t) (o', a', t) := ⟨h1, h2, rfl⟩
theorem acc_for {τ : Type} {lo hi : Nat} {f f' : Nat → Option (Array Keyed) × Array Keyed × τ → StateT SortSt Sem (ForInStep (Option (Array Keyed) × Array Keyed × τ))} {a a' : Array Keyed} {t : τ}
   (h : ArrR F a a') (hf : ∀ i o o' b b' t, OptA F o o' → ArrR F b b' → Sim F (StepR (AccR F)) (f i (o, b, t)) (f' i (o', b', t))) :
   Sim F (AccR F) (forIn [lo:hi] (none, a, t) f) (forIn [lo:hi] (none, a', t) f') :=
 sim_for (acc_mk .none h) fun i c c' hc => by
   obtain ⟨o, b, t⟩ := c
   obtain ⟨o', b', t'⟩ := c'
   obtain ⟨h1, h2, h3⟩ := hc
   cases (show t = t' from h3)
   exact hf i o o' b b' t h1 h2
theorem acc_bind {τ γ γ' : Type} {S : γ → γ' → Prop} {m m' : StateT SortSt Sem (Option (Array Keyed) × Array Keyed × τ)} {f : Option (Array Keyed) × Array Keyed × τ → StateT SortSt Sem γ} {f' : Option (Array Keyed) × Array Keyed × τ → StateT SortSt Sem γ'}
   (h : Sim F (AccR F) m m') (h1 : ∀ b b' t, ArrR F b b' → Sim F S (f (none, b, t)) (f' (none, b', t))) (h2 : ∀ r r' b b' t, ArrR F r r' → ArrR F b b' → Sim F S (f (some r, b, t)) (f' (some r', b', t))) : Sim F S (m >>= f) (m' >>= f') :=
 sim_bind h fun c c' hc => by
   obtain ⟨o, b, t⟩ := c
   obtain ⟨o', b', t'⟩ := c'
   obtain ⟨q1, q2, q3⟩ := hc
   cases (show t = t' from q3)
   have q1' : OptA F o o' := q1
   cases q1' with
   | none => exact h1 b b' t q2
   | some q => exact h2 _ _ b b' t q q2
theorem sim_mergeLo {a b a' b' : Array Keyed} (ha : ArrR F a a') (hb : ArrR F b b') : Sim F (ArrR F) (mergeLo' a b) (mergeLo' a' b') := by
 rw [mergeLo'_eq, mergeLo'_eq]
 have sa := arr_size ha
 have sb := arr_size hb
 simp only [sa, sb]
 repeat' first
   | with_reducible exact sim_no
   | with_reducible refine sim_tt_bind sim_rule ?_
   | with_reducible refine sim_tt_bind (sim_gal _) ?_
   | with_reducible refine sim_bind sim_get (fun u v hs => ?_); rw [hs.gal]
   | with_reducible refine sim_ite (fun _ => ?_) (fun _ => ?_)
   | with_reducible refine sim_bind (sim_elem ha _) (fun x x' hx => ?_)
   | with_reducible refine sim_bind (sim_elem hb _) (fun x x' hx => ?_)
   | with_reducible refine sim_eq_bind (sim_lt (by assumption) (by assumption)) (all_opt ?_ fun b => ?_)
   | with_reducible refine sim_eq_bind (sim_gallop (by assumption) (by assumption) _ _ _) (all_opt ?_ fun b => ?_)
   | with_reducible refine acc_bind (acc_for ?_ fun i o o' b b' t h1 h2 => ?_) (fun b b' t h1 => ?_) (fun r r' b b' t h1 h2 => ?_)
   | with_reducible refine sim_pure (StepR.done (acc_mk ?_ ?_))
   | with_reducible refine sim_pure (StepR.yield (acc_mk ?_ ?_))
   | with_reducible exact OptA.none
   | with_reducible refine OptA.some ?_
   | with_reducible assumption
   | with_reducible refine sim_pure ?_
   | with_reducible refine arr_app ?_ ?_
   | with_reducible refine arr_push ?_ (by assumption)
   | with_reducible refine arr_ext ?_ _ _
   | with_reducible refine arr_one (by assumption)
   | with_reducible refine arr_rev ?_
end Srt
end
section
set_option maxHeartbeats 4000000
namespace Srt
open PySem PyProof.Rows
variable {F : Fix}
noncomputable def AccH (F : Fix) {τ : Type} (c c' : Option (Array Keyed) × Nat × Nat × Array Keyed × τ) : Prop := OptA F c.1 c'.1 ∧ c.2.1 = c'.2.1 ∧ c.2.2.1 = c'.2.2.1 ∧ ArrR F c.2.2.2.1 c'.2.2.2.1 ∧ c.2.2.2.2 = c'.2.2.2.2
theorem acH_mk {τ : Type} {o o' : Option (Array Keyed)} {a a' : Array Keyed} {t : τ} {i j : Nat} (h1 : OptA F o o') (h2 : ArrR F a a') : AccH F (o, i, j, a, t) (o', i, j, a', t) := ⟨h1, rfl, rfl, h2, rfl⟩
theorem acH_for {τ : Type} {lo hi : Nat} {f f' : Nat → Option (Array Keyed) × Nat × Nat × Array Keyed × τ → StateT SortSt Sem (ForInStep (Option (Array Keyed) × Nat × Nat × Array Keyed × τ))} {a a' : Array Keyed} {t : τ} {i j : Nat}
   (h : ArrR F a a') (hf : ∀ n o o' i j b b' t, OptA F o o' → ArrR F b b' → Sim F (StepR (AccH F)) (f n (o, i, j, b, t)) (f' n (o', i, j, b', t))) :
   Sim F (AccH F) (forIn [lo:hi] (none, i, j, a, t) f) (forIn [lo:hi] (none, i, j, a', t) f') :=
 sim_for (acH_mk .none h) fun n c c' hc => by
   obtain ⟨o, i, j, b, t⟩ := c
   obtain ⟨o', i', j', b', t'⟩ := c'
   obtain ⟨h1, h2, h3, h4, h5⟩ := hc
   cases (show i = i' from h2)
   cases (show j = j' from h3)
   cases (show t = t' from h5)
   exact hf n o o' i j b b' t h1 h4
theorem acH_bind {τ γ γ' : Type} {S : γ → γ' → Prop} {m m' : StateT SortSt Sem (Option (Array Keyed) × Nat × Nat × Array Keyed × τ)} {f : Option (Array Keyed) × Nat × Nat × Array Keyed × τ → StateT SortSt Sem γ}
   {f' : Option (Array Keyed) × Nat × Nat × Array Keyed × τ → StateT SortSt Sem γ'}
   (h : Sim F (AccH F) m m') (h1 : ∀ i j b b' t, ArrR F b b' → Sim F S (f (none, i, j, b, t)) (f' (none, i, j, b', t))) (h2 : ∀ r r' i j b b' t, ArrR F r r' → ArrR F b b' → Sim F S (f (some r, i, j, b, t)) (f' (some r', i, j, b', t))) : Sim F S (m >>= f) (m' >>= f') :=
 sim_bind h fun c c' hc => by
   obtain ⟨o, i, j, b, t⟩ := c
   obtain ⟨o', i', j', b', t'⟩ := c'
   obtain ⟨q1, q2, q3, q4, q5⟩ := hc
   cases (show i = i' from q2)
   cases (show j = j' from q3)
   cases (show t = t' from q5)
   have q1' : OptA F o o' := q1
   cases q1' with
   | none => exact h1 i j b b' t q4
   | some q => exact h2 _ _ i j b b' t q q4
theorem sim_mergeHi {a b a' b' : Array Keyed} (ha : ArrR F a a') (hb : ArrR F b b') : Sim F (ArrR F) (mergeHi' a b) (mergeHi' a' b') := by
 rw [mergeHi'_eq, mergeHi'_eq]
 have sa := arr_size ha
 have sb := arr_size hb
 simp only [sa, sb]
 repeat' first
   | with_reducible exact sim_no
   | with_reducible refine sim_tt_bind sim_rule ?_
   | with_reducible refine sim_tt_bind (sim_gal _) ?_
   | with_reducible refine sim_bind sim_get (fun u v hs => ?_); rw [hs.gal]
   | with_reducible refine sim_ite (fun _ => ?_) (fun _ => ?_)
   | with_reducible refine sim_bind (sim_elem ha _) (fun x x' hx => ?_)
   | with_reducible refine sim_bind (sim_elem hb _) (fun x x' hx => ?_)
   | with_reducible refine sim_eq_bind (sim_lt (by assumption) (by assumption)) (all_opt ?_ fun b => ?_)
   | with_reducible refine sim_eq_bind (sim_gallop (by assumption) (by assumption) _ _ _) (all_opt ?_ fun b => ?_)
   | with_reducible refine acH_bind (acH_for ?_ fun n o o' i j b b' t h1 h2 => ?_) (fun i j b b' t h1 => ?_) (fun r r' i j b b' t h1 h2 => ?_)
   | with_reducible refine sim_pure (StepR.done (acH_mk ?_ ?_))
   | with_reducible refine sim_pure (StepR.yield (acH_mk ?_ ?_))
   | with_reducible exact OptA.none
   | with_reducible refine OptA.some ?_
   | with_reducible assumption
   | with_reducible refine sim_pure ?_
   | with_reducible refine arr_app ?_ ?_
   | with_reducible refine arr_push ?_ (by assumption)
   | with_reducible refine arr_ext ?_ _ _
   | with_reducible refine arr_one (by assumption)
   | with_reducible refine arr_rev ?_
end Srt
end
section
set_option maxHeartbeats 4000000
namespace Srt
open PySem PyProof.Rows
variable {F : Fix}
theorem sim_mergeAt (hHi : ∀ {a b a' b' : Array Keyed}, ArrR F a a' → ArrR F b b' → Sim F (ArrR F) (mergeHi' a b) (mergeHi' a' b')) (i : Nat) : Sim F Eq (mergeAt' i) (mergeAt' i) := by
 rw [mergeAt'_eq]
 refine sim_bind sim_get fun u v hs => ?_
 rw [hs.pend]
 cases e1 : (pendingOf u)[i]? with
 | none => exact sim_no
 | some x =>
   obtain ⟨sa, na, pw⟩ := x
   cases e2 : (pendingOf u)[i + 1]? with
   | none => exact sim_no
   | some y =>
     obtain ⟨sb, nb, pw2⟩ := y
     dsimp only
     refine sim_tt_bind (sim_set ⟨hs.ku, hs.kv, hs.arr, rfl, hs.gal, hs.fu, hs.fv⟩) ?_
     refine sim_bind (sim_elem hs.arr _) fun x x' hx => ?_
     refine sim_eq_bind (sim_gallop hx hs.arr _ _ _) (all_opt (sim_pure rfl) fun k => ?_)
     dsimp only
     refine sim_ite (fun _ => sim_pure rfl) fun _ => ?_
     refine sim_bind (sim_elem hs.arr _) fun y y' hy => ?_
     refine sim_eq_bind (sim_gallop hy hs.arr _ _ _) (all_opt (sim_pure rfl) fun k2 => ?_)
     refine sim_ite (fun _ => sim_pure rfl) fun _ => ?_
     have fin : ∀ m m' : Array Keyed, ArrR F m m' → Sim F Eq
         (do
           modify fun s => setArr s (m.toList.zipIdx.foldl (fun a (p, j) => a.setIfInBounds (sa + k + j) p) (arrOf s))
           return (failedOf (← get)).isNone : StateT SortSt Sem Bool)
         (do
           modify fun s => setArr s (m'.toList.zipIdx.foldl (fun a (p, j) => a.setIfInBounds (sa + k + j) p) (arrOf s))
           return (failedOf (← get)).isNone) := by
       intro m m' hm
       refine sim_tt_bind (sim_modify fun u v h => ⟨h.ku, h.kv, ?_, h.pend, h.gal, h.fu, h.fv⟩) ?_
       · have := arr_sets (F := F) (sa + k) m.toList 0 (fun x hx => hm.ok x (Array.mem_toList_iff.mp hx)) h.arr
         rw [← Array.toList_map, ← hm.eq] at this
         exact this
       · refine sim_bind sim_get fun u v h => sim_pure ?_
         rw [h.fu, h.fv]
     refine sim_ite (fun _ => ?_) fun _ => ?_
     · exact sim_bind (sim_mergeLo (arr_ext hs.arr _ _) (arr_ext hs.arr _ _)) fun m m' hm => fin m m' hm
     · exact sim_bind (hHi (arr_ext hs.arr _ _) (arr_ext hs.arr _ _)) fun m m' hm => fin m m' hm
theorem sim_inner (hAt : ∀ i, Sim F Eq (mergeAt' i) (mergeAt' i)) (size pw : Nat) : Sim F Eq
   (forIn [:size] ((none : Option Unit), ()) fun x __s => do
     let d ← get
     match if (pendingOf d).size > 1 then (pendingOf d)[(pendingOf d).size - 2]? else none with
     | some (_, _, older) =>
       if older ≤ pw then pure (ForInStep.done (none, ()))
       else do
         let d ← mergeAt' ((pendingOf d).size - 2)
         if (!d) = true then pure (ForInStep.done (some (), ())) else pure (ForInStep.yield (none, ()))
     | x => pure (ForInStep.done (none, ())))
   (forIn [:size] ((none : Option Unit), ()) fun x __s => do
     let d ← get
     match if (pendingOf d).size > 1 then (pendingOf d)[(pendingOf d).size - 2]? else none with
     | some (_, _, older) =>
       if older ≤ pw then pure (ForInStep.done (none, ()))
       else do
         let d ← mergeAt' ((pendingOf d).size - 2)
         if (!d) = true then pure (ForInStep.done (some (), ())) else pure (ForInStep.yield (none, ()))
     | x => pure (ForInStep.done (none, ()))) := by
 refine sim_eq_for fun i c => sim_bind sim_get fun u v hs => ?_
 rw [hs.pend]
 generalize (if (pendingOf u).size > 1 then (pendingOf u)[(pendingOf u).size - 2]? else none) = o
 cases o with
 | none => exact sim_pure (.done rfl)
 | some x =>
   obtain ⟨x1, x2, x3⟩ := x
   refine sim_ite (fun _ => sim_pure (.done rfl)) fun _ => sim_eq_bind (hAt _) fun b => ?_
   exact sim_ite (fun _ => sim_pure (.done rfl)) fun _ => sim_pure (.yield rfl)
theorem sim_sortRuns (hAt : ∀ i, Sim F Eq (mergeAt' i) (mergeAt' i)) : Sim F Eq sortRuns' sortRuns' := by
 rw [sortRuns'_eq]
 refine sim_bind sim_get fun u v hs => ?_
 rw [arr_size hs.arr]
 dsimp only
 refine sim_eq_bind (sim_eq_for fun i c => ?_) (all_acc (fun t => ?_) fun r t => sim_pure rfl)
 · refine sim_ite (fun _ => sim_pure (.done rfl)) fun _ => sim_eq_bind (sim_count _ _) (all_opt (sim_pure (.done rfl)) fun n => ?_)
   refine sim_ite (fun _ => sim_tt_bind sim_rule (sim_eq_bind (sim_bin _ _ _) fun b => sim_ite (fun _ => sim_pure (.done rfl)) fun _ => ?_)) fun _ => ?_
   all_goals
     refine sim_bind sim_get fun u2 v2 h2 => ?_
     rw [h2.pend]
     cases (pendingOf u2).back? with
     | none =>
       refine sim_tt_bind (sim_modify fun a b h => ⟨h.ku, h.kv, h.arr, ?_, h.gal, h.fu, h.fv⟩) (sim_pure (.yield rfl))
       rw [h.pend]
     | some x =>
       obtain ⟨s1, n1, x3⟩ := x
       refine sim_eq_bind (sim_inner hAt _ _) (all_acc (fun t => ?_) fun r t => sim_pure (.done rfl))
       refine sim_tt_bind (sim_modify fun a b h => ⟨h.ku, h.kv, h.arr, ?_, h.gal, h.fu, h.fv⟩) ?_
       · rw [h.pend]
       · refine sim_tt_bind (sim_modify fun a b h => ⟨h.ku, h.kv, h.arr, ?_, h.gal, h.fu, h.fv⟩) (sim_pure (.yield rfl))
         rw [h.pend]
 · dsimp only
   refine sim_eq_bind (sim_eq_for fun i c => sim_bind sim_get fun u2 v2 h2 => ?_) (all_acc (fun t => sim_pure rfl) fun r t => sim_pure rfl)
   rw [h2.pend]
   refine sim_ite (fun _ => sim_pure (.done rfl)) fun _ => sim_eq_bind (hAt _) fun b => ?_
   exact sim_ite (fun _ => sim_pure (.done rfl)) fun _ => sim_pure (.yield rfl)
end Srt
end
section
set_option maxHeartbeats 1000000
namespace Srt
open PySem PyProof.Rows PySem.W
noncomputable def tupN (n : Nat) : Obj := { cls := .type "tuple", data := .seq (Array.replicate n Value.none) 0 }
noncomputable def hpN : Nat → Heap
 | 0 => { objs := #[] }
 | n + 1 => (hpN n).push (tupN n)
theorem hpN_size : ∀ n, (hpN n).objs.size = n
 | 0 => rfl
 | n + 1 => by
   show ((hpN n).push (tupN n)).objs.size = n + 1
   rw [Heap.size_push, hpN_size n]
theorem hpN_get : ∀ {n i : Nat}, i < n → (hpN n).get? i = some (tupN i)
 | n + 1, i, h => by
   by_cases e : i = n
   · subst e
     have := Heap.get?_push_size (hpN i) (o := tupN i) rfl
     rw [hpN_size] at this
     exact this
   · exact Heap.get?_push_of_some _ (hpN_get (by omega))
theorem eq_none : eqBool .none .none = (do rule "eq-bool.same-object"; pure true) := rfl
theorem zip_none (n m k : Nat) : ∀ x ∈ ((Array.replicate n Value.none).toList.zip (Array.replicate m Value.none).toList).zipIdx k, x.1 = (Value.none, Value.none) := by
 intro x hx
 have h1 : x.1 ∈ (Array.replicate n Value.none).toList.zip (Array.replicate m Value.none).toList := List.fst_mem_of_mem_zipIdx hx
 obtain ⟨y, i⟩ := x
 obtain ⟨p, q⟩ := y
 have h2 := List.of_mem_zip h1
 rw [Array.toList_replicate, Array.toList_replicate] at h2
 rw [(List.mem_replicate.mp h2.1).2, (List.mem_replicate.mp h2.2).2]
section
variable {M : Model} {G : Ctx} {t : Shared}
theorem mir_loop {body : (Value × Value) × Nat → Option Bool × Unit → Sem (ForInStep (Option Bool × Unit))} {Q : Option Bool × Unit → Pos → Shared → Prop} {E : Value → Pos → Shared → Prop}
   (hb : ∀ i R p, Sem.wp M G (body ((.none, .none), i) (none, ())) R E p t → R (.yield (none, ())) p t) :
   ∀ (l : List ((Value × Value) × Nat)) (p : Pos), (∀ x ∈ l, x.1 = (Value.none, Value.none)) → Sem.wp M G (forIn l (none, ()) body) Q E p t → Q (none, ()) p t
 | [], p, _, h => by
   rw [List.forIn_nil] at h
   exact h
 | (y, i) :: l, p, hl, h => by
   rw [List.forIn_cons] at h
   have e : y = (Value.none, Value.none) := hl (y, i) List.mem_cons_self
   subst e
   rw [Sem.wp_bind'] at h
   exact mir_loop hb l p (fun x hx => hl x (List.mem_cons_of_mem _ hx)) (hb i _ p h)
theorem mir_lt {i j : Nat} {Q : Bool → Pos → Shared → Prop} {E : Value → Pos → Shared → Prop} {p : Pos} (hi : t.heap.get? i = some (tupN i)) (hj : t.heap.get? j = some (tupN j))
   (h : Sem.wp M G (keyLt' (tuples' true) (.ref i) (.ref j)) Q E p t) : Q (decide (i < j)) p t := by
 rw [kat_lt_eq] at h
 have li : ∀ {k : Nat} {β : Type} {f : Array Value → Sem β} {R : β → Pos → Shared → Prop}, t.heap.get? k = some (tupN k) → Sem.wp M G (Builtin.List.listItems (.ref k) >>= f) R E p t → Sem.wp M G (f (Array.replicate k Value.none)) R E p t := by
   intro k β f R hk w
   rw [Sem.wp_bind'] at w
   unfold Builtin.List.listItems seqItems? at w
   obtain ⟨o, ho, w⟩ := w
   rw [hk] at ho
   cases ho
   exact w
 have h1 := li hi h
 have h2 := li hj h1
 rw [Sem.wp_bind'] at h2
 have e : decide (i < j) = decide ((Array.replicate i Value.none).size < (Array.replicate j Value.none).size) := by rw [Array.size_replicate, Array.size_replicate]
 rw [e]
 refine mir_loop ?_ _ p (zip_none i j 0) h2
 intro n R p w
 exact w
end
end Srt
end
section
set_option maxHeartbeats 1000000
namespace Srt
open PySem PyProof.Rows PySem.W
open AutoSeq1 (wpAny_loadPart')
noncomputable def lexI : List Int → List Int → Bool
 | [], [] => false
 | [], _ :: _ => true
 | _ :: _, [] => false
 | a :: r, b :: q => if a = b then lexI r q else decide (a < b)
theorem lt_loop (l b : Addr) (items items2 : Array Value) (n n2 : Nat) (ns ms : List Int) (h1 : IntsAre items.toList ns) (h2 : IntsAre items2.toList ms) (k : Nat) :
   ∀ i : Nat, i ≤ ns.length → i ≤ ms.length → ns.length - i = k → Meets (Builtin.«list.__eq__.loop» ⟨[.ref l, .ref b, rawInt i, rawInt 0], []⟩)
     (fun A R s => s.heap.get? l = some { cls := .type "list", data := .seq items n } ∧ s.heap.get? b = some { cls := .type "list", data := .seq items2 n2 } ∧
       R (.ok (.ret (.bool (lexI (ns.drop i) (ms.drop i))))) s) := by
 have z1 : items.size = ns.length := by rw [← Array.length_toList]; exact h1.length
 have z2 : items2.size = ms.length := by rw [← Array.length_toList]; exact h2.length
 have ends : ∀ i : Nat, (ns.length ≤ i ∨ ms.length ≤ i) → i ≤ ns.length → i ≤ ms.length → lexI (ns.drop i) (ms.drop i) = decide (items.size < items2.size) := by
   intro i hi a1 a2
   rw [z1, z2]
   rcases Nat.lt_or_ge i ns.length with q | q
   · have e : ms.length = i := by omega
     rw [List.drop_eq_getElem_cons q, List.drop_of_length_le (by omega : ms.length ≤ i)]
     show false = _
     exact (decide_eq_false (by omega)).symm
   · rw [List.drop_of_length_le q]
     rcases Nat.lt_or_ge i ms.length with q2 | q2
     · rw [List.drop_eq_getElem_cons q2]
       show true = _
       exact (decide_eq_true (by omega)).symm
     · rw [List.drop_of_length_le q2]
       show false = _
       exact (decide_eq_false (by omega)).symm
 induction k with
 | zero =>
   intro i l1 l2 hk prog w A R s h
   obtain ⟨hp, g, d, tk, os⟩ := s; obtain ⟨hl, hb, h⟩ := h
   wp_walk using wpAny_loadPart' hl, wpAny_loadPart' hb
   have hi1 : items[((i : Nat) : Int).toNat]? = none := by simp; omega
   rw [ends i (.inl (by omega)) l1 l2] at h
   rw [hi1]
   wp_walk using wpAny_loadPart' hl, wpAny_loadPart' hb
   exact h
 | succ k ih =>
   intro i l1 l2 hk prog w A R s h
   obtain ⟨hp, g, d, tk, os⟩ := s; obtain ⟨hl, hb, h⟩ := h
   wp_walk using wpAny_loadPart' hl, wpAny_loadPart' hb
   have hlt : i < ns.length := by omega
   obtain ⟨t1, e1⟩ := h1.get i _ (List.getElem?_eq_getElem hlt)
   have hi1 : items[((i : Nat) : Int).toNat]? = some (.int ns[i] t1) := by rw [Int.toNat_natCast, ← Array.getElem?_toList]; exact e1
   have hc : ((i : Int) + 1) = ((i + 1 : Nat) : Int) := by push_cast; rfl
   by_cases hlt2 : i < ms.length
   · obtain ⟨t2, e2⟩ := h2.get i _ (List.getElem?_eq_getElem hlt2)
     have hi2 : items2[((i : Nat) : Int).toNat]? = some (.int ms[i] t2) := by rw [Int.toNat_natCast, ← Array.getElem?_toList]; exact e2
     rw [hi1, hi2]
     rw [List.drop_eq_getElem_cons hlt, List.drop_eq_getElem_cons hlt2] at h
     refine wpAny_bind (wpAny_eqBool_int ?_)
     by_cases he : ns[i] = ms[i]
     · have he' : (ns[i] == ms[i]) = true := beq_iff_eq.mpr he
       have e3 : lexI (ns[i] :: ns.drop (i + 1)) (ms[i] :: ms.drop (i + 1)) = lexI (ns.drop (i + 1)) (ms.drop (i + 1)) := by
         show (if ns[i] = ms[i] then _ else _) = _
         rw [if_pos he]
       rw [e3] at h
       rw [he']
       wp_walk
       rw [hc]
       exact ⟨plainId_quiet MeetsSeq3.plain_eq_loop _, codeAny_builtin MeetsSeq3.entry_eq_loop (by
         rw [Around.under_plainId MeetsSeq3.plain_eq_loop _]
         exact ih (i + 1) (by omega) (by omega) (by omega) prog w A R _ ⟨hl, hb, h⟩)⟩
     · have he' : (ns[i] == ms[i]) = false := beq_eq_false_iff_ne.mpr he
       have e3 : lexI (ns[i] :: ns.drop (i + 1)) (ms[i] :: ms.drop (i + 1)) = decide (ns[i] < ms[i]) := by
         show (if ns[i] = ms[i] then _ else _) = _
         rw [if_neg he]
       rw [e3] at h
       rw [he']
       wp_walk using wpAny_loadPart' hl, wpAny_loadPart' hb
       rw [hi1, hi2]
       refine wpAny_bind (lt_int ?_)
       wp_walk
       exact h
   · have hi2 : items2[((i : Nat) : Int).toNat]? = none := by simp; omega
     rw [ends i (.inr (by omega)) l1 l2] at h
     rw [hi1, hi2]
     wp_walk using wpAny_loadPart' hl, wpAny_loadPart' hb
     exact h
theorem list_lt (l b : Addr) (items items2 : Array Value) (n n2 : Nat) (ns ms : List Int) (h1 : IntsAre items.toList ns) (h2 : IntsAre items2.toList ms) :
   Meets (Builtin.«list.__lt__» ⟨[.ref l, .ref b], []⟩)
     (fun A R s => s.heap.get? l = some { cls := .type "list", data := .seq items n } ∧ s.heap.get? b = some { cls := .type "list", data := .seq items2 n2 } ∧ R (.ok (.ret (.bool (lexI ns ms)))) s) := by
 intro prog w A R s h
 obtain ⟨hp, g, d, tk, os⟩ := s; obtain ⟨hl, hb, h⟩ := h
 have f3 := AutoSeq1.sub_list_list
 wp_walk using wpAny_loadPart' hl, wpAny_loadPart' hb
 exact ⟨plainId_quiet MeetsSeq3.plain_eq_loop _, codeAny_builtin MeetsSeq3.entry_eq_loop (by
   rw [Around.under_plainId MeetsSeq3.plain_eq_loop _]
   exact lt_loop l b items items2 n n2 ns ms h1 h2 _ 0 (Nat.zero_le _) (Nat.zero_le _) rfl prog w A R _ ⟨hl, hb, h⟩)⟩
section
variable {prog : Program} {w : World} {A : Around} {E : Value → Shared → Prop} {s : Shared}
theorem key_lt {l b : Addr} {items items2 : Array Value} {n n2 : Nat} {ns ms : List Int} {Q : Bool → Shared → Prop} (h1 : IntsAre items.toList ns) (h2 : IntsAre items2.toList ms) (hu : A.units < cLine)
   (hl : s.heap.get? l = some { cls := .type "list", data := .seq items n }) (hb : s.heap.get? b = some { cls := .type "list", data := .seq items2 n2 }) (h : Q (lexI ns ms) s) :
   wpAny (model prog w) A (keyLt' oneType' (.ref l) (.ref b)) Q E s := by
 rw [keyLt'_oneType, oneLt'_eq]
 rw [if_pos rfl]
 refine wpAny_bind (wpAny_cRoomFor hu ?_)
 refine wpAny_bind (wpAny_callSpecialIfBound?_slot (name := "__lt__") ⟨_, hl, rfl⟩ F.slot_list_lt (call_meets F.slot_list_lt ⟨_, hl, rfl⟩ F.entry_list_lt (F.args_list_lt_2 _ _) (list_lt l b items items2 n n2 ns ms h1 h2) ⟨hl, hb, ?_⟩))
 show wpAny _ _ (truthOfDropped (.bool (lexI ns ms))) Q E s
 obtain ⟨hp, g, d, tk, os⟩ := s
 wp_walk
 exact h
end
end Srt
end
section
set_option maxHeartbeats 1000000
namespace Srt
open PySem PyProof.Rows PySem.W
theorem lexI_irrefl : ∀ a : List Int, lexI a a = false
 | [] => rfl
 | x :: r => by
   show (if x = x then lexI r r else _) = false
   rw [if_pos rfl]
   exact lexI_irrefl r
theorem lexI_trans : ∀ {a b c : List Int}, lexI a b = true → lexI b c = true → lexI a c = true
 | [], [], _, h, _ => by cases h
 | [], _ :: _, [], _, h => by cases h
 | [], _ :: _, _ :: _, _, _ => rfl
 | _ :: _, [], _, h, _ => by cases h
 | _ :: _, _ :: _, [], _, h => by cases h
 | x :: a, y :: b, z :: c, g1, g2 => by
   have h1 : (if x = y then lexI a b else decide (x < y)) = true := g1
   have h2 : (if y = z then lexI b c else decide (y < z)) = true := g2
   clear g1 g2
   show (if x = z then lexI a c else decide (x < z)) = true
   by_cases e1 : x = y
   · rw [if_pos e1] at h1
     subst e1
     by_cases e2 : x = z
     · rw [if_pos e2] at h2 ⊢
       exact lexI_trans h1 h2
     · rw [if_neg e2] at h2 ⊢
       exact h2
   · rw [if_neg e1] at h1
     have h1 := of_decide_eq_true h1
     by_cases e2 : y = z
     · subst e2
       rw [if_neg e1]
       exact decide_eq_true h1
     · rw [if_neg e2] at h2
       have h2 := of_decide_eq_true h2
       rw [if_neg (by omega)]
       exact decide_eq_true (by omega)
theorem lexI_total : ∀ {a b : List Int}, lexI a b = false → lexI b a = false → a = b
 | [], [], _, _ => rfl
 | [], _ :: _, h, _ => by cases h
 | _ :: _, [], _, h => by cases h
 | x :: a, y :: b, g1, g2 => by
   have h1 : (if x = y then lexI a b else decide (x < y)) = false := g1
   have h2 : (if y = x then lexI b a else decide (y < x)) = false := g2
   clear g1 g2
   by_cases e : x = y
   · subst e
     rw [if_pos rfl] at h1 h2
     rw [lexI_total h1 h2]
   · rw [if_neg e] at h1
     rw [if_neg fun q => e q.symm] at h2
     have := of_decide_eq_false h1
     have := of_decide_eq_false h2
     omega
noncomputable def rank (L : List (List Int)) (a : List Int) : Nat := (L.filter fun m => lexI m a).length
theorem filter_le {α : Type} {p q : α → Bool} : ∀ (L : List α), (∀ x ∈ L, p x = true → q x = true) → (L.filter p).length ≤ (L.filter q).length
 | [], _ => Nat.le_refl _
 | x :: L, h => by
   have ih := filter_le L fun y hy => h y (List.mem_cons_of_mem _ hy)
   rw [List.filter_cons, List.filter_cons]
   by_cases hp : p x = true
   · rw [if_pos hp, if_pos (h x List.mem_cons_self hp)]
     exact Nat.succ_le_succ ih
   · rw [if_neg hp]
     split
     · exact Nat.le_succ_of_le ih
     · exact ih
theorem filter_lt {α : Type} {p q : α → Bool} : ∀ (L : List α), (∀ x ∈ L, p x = true → q x = true) → (∃ x ∈ L, p x = false ∧ q x = true) → (L.filter p).length < (L.filter q).length
 | [], _, h => by
   obtain ⟨x, hx, _⟩ := h
   cases hx
 | x :: L, h, ⟨y, hy, hp, hq⟩ => by
   have hL : ∀ z ∈ L, p z = true → q z = true := fun z hz => h z (List.mem_cons_of_mem _ hz)
   rw [List.filter_cons, List.filter_cons]
   rcases List.mem_cons.mp hy with e | hy
   · subst e
     rw [if_neg (by rw [hp]; exact Bool.false_ne_true), if_pos hq]
     exact Nat.lt_succ_of_le (filter_le L hL)
   · have ih := filter_lt L hL ⟨y, hy, hp, hq⟩
     by_cases hp' : p x = true
     · rw [if_pos hp', if_pos (h x List.mem_cons_self hp')]
       exact Nat.succ_lt_succ ih
     · rw [if_neg hp']
       split
       · exact Nat.lt_succ_of_lt ih
       · exact ih
theorem rank_lt {L : List (List Int)} {a b : List Int} (ha : a ∈ L) (hb : b ∈ L) : lexI a b = decide (rank L a < rank L b) := by
 cases h : lexI a b with
 | true =>
   refine (decide_eq_true ?_).symm
   exact filter_lt L (fun x _ hx => lexI_trans hx h) ⟨a, ha, lexI_irrefl a, h⟩
 | false =>
   refine (decide_eq_false (Nat.not_lt.mpr ?_)).symm
   refine filter_le L fun x _ hx => ?_
   cases q : lexI b a with
   | true => exact lexI_trans hx q
   | false => rw [lexI_total h q]; exact hx
theorem rank_le (L : List (List Int)) (a : List Int) : rank L a < L.length + 1 := Nat.lt_succ_of_le (List.length_filter_le _ _)
@[reducible] noncomputable def natK (N : Nat) : KeyKind where
 α := Nat
 blt := fun i j => decide (i < j)
 irrefl := fun a => decide_eq_false (Nat.lt_irrefl a)
 trans := fun a b c h1 h2 => decide_eq_true (Nat.lt_trans (of_decide_eq_true h1) (of_decide_eq_true h2))
 negTrans := fun a b c h => by
   have := of_decide_eq_true h
   by_cases q : a < b
   · exact .inl (decide_eq_true q)
   · exact .inr (decide_eq_true (by omega))
 total := fun a b h1 h2 => by
   have := of_decide_eq_false h1
   have := of_decide_eq_false h2
   omega
 keyOf := fun v => match v with
   | .ref i => if i < N then some i else none
   | _ => none
 dflt := 0
theorem natK_key {N i : Nat} (h : i < N) : (natK N).keyOf (.ref i) = some i := by
 show (if i < N then some i else none) = some i
 rw [if_pos h]
theorem natK_of {N : Nat} {v : Value} {i : Nat} (h : (natK N).keyOf v = some i) : v = .ref i ∧ i < N := by
 cases v with
 | ref j =>
   have h' : (if j < N then some j else none) = some i := h
   by_cases q : j < N
   · rw [if_pos q] at h'
     cases h'
     exact ⟨rfl, q⟩
   · rw [if_neg q] at h'
     cases h'
 | _ => cases (show (none : Option Nat) = some i from h)
theorem lex_none {prog : Program} {w : World} {A : Around} {fin : Bool} {Q : Bool → Shared → Prop} {s : Shared} (h : Q fin s) : ∀ (l : List (Value × Value)) (i : Nat), (∀ x ∈ l, x = (Value.none, Value.none)) → KatLex prog w A true fin Q l i s
 | [], _, _ => kat_nil h
 | (p, q) :: l, i, hl => by
   have e := hl (p, q) List.mem_cons_self
   cases e
   refine kat_cons ?_
   rw [eq_none]
   exact wpAny_bind (wpAny_rule (wpAny_pure (kat_yes (lex_none h l (i + 1) fun x hx => hl x (List.mem_cons_of_mem _ hx)))))
theorem natK_lt {prog : Program} {w : World} {s : Shared} {N : Nat} (hs : ∀ i, i < N → s.heap.get? i = some (tupN i)) : G.LtAt prog w s (natK N) (tuples' true) := by
 intro A E x y a b Q hx hy hq
 obtain ⟨rfl, ha⟩ := natK_of hx
 obtain ⟨rfl, hb⟩ := natK_of hy
 refine kat_lt (hs a ha) rfl (hs b hb) rfl (lex_none ?_ _ 0 fun x hx => ?_)
 · rw [Array.size_replicate, Array.size_replicate]
   exact hq
 · obtain ⟨p, q⟩ := x
   have h2 := List.of_mem_zip hx
   rw [Array.toList_replicate, Array.toList_replicate] at h2
   rw [(List.mem_replicate.mp h2.1).2, (List.mem_replicate.mp h2.2).2]
noncomputable def ListAt (s : Shared) (v : Value) (ns : List Int) : Prop := ∃ (a : Addr) (items : Array Value) (n : Nat), v = .ref a ∧ s.heap.get? a = some { cls := .type "list", data := .seq items n } ∧ IntsAre items.toList ns
section
variable {prog : Program} {w : World} {A : Around} {s : Shared} (kf : Value → List Int) (L : List (List Int))
noncomputable def Okay (s : Shared) (x : Keyed) : Prop := kf x.2 ∈ L ∧ ListAt s x.1 (kf x.2)
noncomputable def mirF (x : Keyed) : Keyed := (.ref (rank L (kf x.2)), x.2)
noncomputable def theFix (prog : Program) (w : World) {A : Around} (s : Shared) (hu : A.units < cLine) {Γ : Ctx} (hG : Γ.In A) : Fix where
 M := model prog w
 G := Γ
 s := s
 t := { s with heap := hpN (L.length + 1) }
 kd := oneType'
 ke := tuples' true
 f := mirF kf L
 ok := Okay kf L s
 lt := fun x y hx hy => by
   obtain ⟨mx, a, items, n, e1, e2, e3⟩ := hx
   obtain ⟨my, b, items2, n2, f1, f2, f3⟩ := hy
   refine ⟨lexI (kf x.2) (kf y.2), fun k Q E p h => ?_, fun k Q E p h => ?_⟩
   · rw [Sem.wp_bind', e1, f1]
     have z : wpAny (model prog w) A (keyLt' oneType' (.ref a) (.ref b)).attempt (fun r s' => r = .ok (lexI (kf x.2) (kf y.2)) ∧ s' = s) (fun _ _ => False) s :=
       wpAny_attempt (key_lt e3 f3 hu e2 f2 ⟨rfl, rfl⟩)
     refine Sem.wp_mono _ _ _ (fun r p' s' hr => ?_) (fun _ _ _ hF => hF.elim) p s (z Γ p hG)
     obtain ⟨rfl, rfl⟩ := hr
     exact h p'
   · rw [Sem.wp_bind', Sem.wp_attempt] at h
     have q := mir_lt (i := rank L (kf x.2)) (j := rank L (kf y.2)) (hpN_get (rank_le L _)) (hpN_get (rank_le L _)) h
     rw [← rank_lt mx my] at q
     exact ⟨p, q⟩
end
end Srt
end
section
set_option maxHeartbeats 1000000
namespace Srt
open PySem PyProof.Rows PySem.W
section
variable {prog : Program} {w : World} {A : Around} {s : Shared} {E : Value → Shared → Prop} {kf : Value → List Int} {L : List (List Int)}
theorem sort_runs {arr : Array Keyed} (hu : A.units < cLine) (hok : ∀ x ∈ arr, Okay kf L s x) (h2 : 2 ≤ arr.size) {Q : Unit → SortSt → Prop}
   (h : ∀ (st' : SortSt) (out : List Value), (arrOf st').map (·.2) = out.toArray → failedOf st' = none → out.Perm (arr.toList.map (·.2)) → out.Pairwise (fun p q => lexI (kf q) (kf p) = false) → Q () st') :
   wpS (model prog w) A E s sortRuns' Q (SortSt.mk' oneType' arr #[] 7 none) := by
 unfold wpS
 intro Γ p hG
 have hm : wpS (model prog w) A (fun _ _ => False) { s with heap := hpN (L.length + 1) } sortRuns'
     (fun _ st' => (arrOf st').Perm (arr.map (mirF kf L)) ∧ failedOf st' = none ∧ SortedToK (natK (L.length + 1)) (arrOf st') (arr.map (mirF kf L)).size) (SortSt.mk' (tuples' true) (arr.map (mirF kf L)) #[] 7 none) := by
   refine G.wpS_sortRunsSt (κ := natK (L.length + 1)) (kd := tuples' true) (a₀ := arr.map (mirF kf L)) (natK_lt fun i hi => hpN_get hi) (fun x hx => ?_) ⟨Array.Perm.refl _, rfl, rfl⟩ rfl (Stable.refl _) (by rw [Array.size_map]; exact h2) fun st' a1 a2 a3 a4 => ⟨a1, a2, a3⟩
   rw [Array.toList_map] at hx
   obtain ⟨y, hy, rfl⟩ := List.mem_map.mp hx
   exact ⟨_, natK_key (rank_le L _)⟩
 have hv := hm Γ p hG
 have hst : StR (theFix kf L prog w s hu hG) (SortSt.mk' oneType' arr #[] 7 none) (SortSt.mk' (tuples' true) (arr.map (mirF kf L)) #[] 7 none) := ⟨rfl, rfl, ⟨rfl, hok⟩, rfl, rfl, rfl, rfl⟩
 have sim := sim_sortRuns (F := theFix kf L prog w s hu hG) (sim_mergeAt fun ha hb => sim_mergeHi ha hb)
 have fin := sim _ _ hst (fun r p' s' => s' = s ∧ Q r.1 r.2) (fun e p' s' => E e s')
   (fun r p' s' => s' = { s with heap := hpN (L.length + 1) } ∧ ((arrOf r.2).Perm (arr.map (mirF kf L)) ∧ failedOf r.2 = none ∧ SortedToK (natK (L.length + 1)) (arrOf r.2) (arr.map (mirF kf L)).size)) (fun _ _ _ => False)
   (fun r => pure r) (fun r => pure r) ?_ p p (by rw [bind_pure]; exact hv)
 · rw [bind_pure] at fin
   exact fin
 · intro a a' u v _ hs p1 p2 hq
   obtain ⟨_, q1, q2, q3⟩ := hq
   refine ⟨rfl, ?_⟩
   have e : arrOf v = (arrOf u).map (mirF kf L) := hs.arr.eq
   rw [e] at q1 q3
   have e2 : ((arrOf u).map (mirF kf L)).toList.map (·.2) = (arrOf u).toList.map (·.2) := by
     rw [Array.toList_map, List.map_map]
     rfl
   have e3 : (arr.map (mirF kf L)).toList.map (·.2) = arr.toList.map (·.2) := by
     rw [Array.toList_map, List.map_map]
     rfl
   refine h u ((arrOf u).toList.map (·.2)) (by rw [← Array.toList_map, Array.toArray_toList]) hs.fu ?_ ?_
   · rw [← e2, ← e3]
     exact (Array.perm_iff_toList_perm.mp q1).map _
   · rw [List.pairwise_map, List.pairwise_iff_getElem]
     intro i j hi hj hij
     have hi' : i < (arrOf u).size := by simpa using hi
     have hj' : j < (arrOf u).size := by simpa using hj
     have z := q3 i j (Nat.le_of_lt hij) (by rw [← q1.size_eq, Array.size_map]; exact hj')
     have kk : ∀ n (hn : n < (arrOf u).size), KK (natK (L.length + 1)) ((arrOf u).map (mirF kf L)) n = rank L (kf (arrOf u)[n].2) := by
       intro n hn
       unfold KK
       rw [Array.getElem?_map, Array.getElem?_eq_getElem hn]
       show ((natK (L.length + 1)).keyOf (.ref (rank L (kf (arrOf u)[n].2)))).getD _ = _
       rw [natK_key (rank_le L _)]
       rfl
     rw [kk i hi', kk j hj'] at z
     have mi := (hs.arr.ok _ (Array.getElem_mem hi')).1
     have mj := (hs.arr.ok _ (Array.getElem_mem hj')).1
     have z' : decide (rank L (kf (arrOf u)[j].2) < rank L (kf (arrOf u)[i].2)) = false := z
     rw [← rank_lt mj mi] at z'
     rw [Array.getElem_toList, Array.getElem_toList]
     exact z'
end
end Srt
end
section
set_option maxHeartbeats 1000000
namespace Srt
open PySem PyProof.Rows PySem.W
structure Kp (s s' : Shared) : Prop where
 keep : ∀ b o, s.heap.get? b = some o → s'.heap.get? b = some o
 os : s'.os = s.os
 gens : s'.gens = s.gens
theorem Kp.trans {a b c : Shared} (x : Kp a b) (y : Kp b c) : Kp a c := ⟨fun p o e => y.keep p o (x.keep p o e), y.os.trans x.os, y.gens.trans x.gens⟩
theorem Kp.upd {s s' : Shared} (x : Kp s s') {a : Addr} (f : Obj → Obj) (ha : s.heap.get? a = none) : Kp s { s' with heap := s'.heap.update a f } :=
 ⟨fun b o e => by
   have hb : b ≠ a := fun q => by rw [q, ha] at e; cases e
   show (s'.heap.update a f).get? b = some o
   rw [Heap.get?_update_ne _ _ _ _ hb]
   exact x.keep b o e, x.os, x.gens⟩
section
variable {prog : Program} {w : World} {A : Around} {E : Value → Shared → Prop} {s0 s : Shared} {kf : Value → List Int} {L : List (List Int)} {a kS : Addr} {vs keys : List Value} {e e1 : Nat} {P : PySem.Fin → Shared → Prop}
noncomputable def Sorted (kf : Value → List Int) (vs out : List Value) : Prop := out.Perm vs ∧ out.Pairwise fun p q => lexI (kf q) (kf p) = false
theorem tail_k {st : SortSt} {out : List Value} (k0 : Kp s0 s) (nk : s0.heap.get? kS = none) (na : s0.heap.get? a = none) (hk : s.heap.get? kS = some (seqObj "list" keys.toArray e)) (ha : s.heap.get? a = some (seqObj "list" #[] e1)) (hne : kS ≠ a)
   (hZ : vs.length ≤ sizeLine) (hlen : keys.length = vs.length) (ho : (arrOf st).map (·.2) = out.toArray) (hf : failedOf st = none) (hs : Sorted kf vs out)
   (h : ∀ s' c, Kp s0 s' → s'.heap.get? a = some (seqObj "list" out.toArray c) → P (.done (.ret .none)) s') : wpAny (model prog w) A (ksk_tail a false e1 (.ref kS) st) P E s := by
 have hZ2 := hZ
 rw [sizeLine_eq] at hZ2
 have lo : out.length = vs.length := hs.1.length_eq
 have ha1 : (s.heap.update kS (Obj.mapSeq fun _ => (#[] : Array Value))).get? a = some (seqObj "list" #[] e1) := by
   rw [Heap.get?_update_ne _ _ _ _ hne.symm]
   exact ha
 unfold ksk_tail
 try dsimp only
 refine wpAny_bind (listUpdate_at hk rfl ?_ (by rw [List.size_toArray, hlen, sizeLine_eq]; omega) (Nat.zero_le _))
 refine wpAny_bind (wpAny_letGo ?_)
 refine wpAny_bind (seqEpoch_at ha1 rfl ?_)
 simp only [Bool.false_eq_true, if_false]
 rw [ho]
 refine wpAny_bind (listUpdate_at ha1 rfl ?_ (Nat.zero_le _) (by show out.length ≤ _; rw [lo, sizeLine_eq]; omega))
 rw [hf]
 simp only [bne_self_eq_false, Bool.false_eq_true, if_false]
 obtain ⟨c2, hc2⟩ : ∃ c2, ((s.heap.update kS (Obj.mapSeq fun _ => (#[] : Array Value))).update a (Obj.mapSeq fun _ => out.toArray)).get? a = some (seqObj "list" out.toArray c2) := ⟨_, get?_update_seq ha1 fun _ => out.toArray⟩
 exact wpAny_pure (h _ c2 (Kp.upd (s' := { s with heap := s.heap.update kS _ }) (Kp.upd k0 _ nk) _ na) hc2)
theorem map_all {M : Model} {X : Type} {f : Value → Sem X} {r : X} : ∀ (vs : List Value) {Q : List X → Shared → Prop}, (∀ v ∈ vs, ∀ {R : X → Shared → Prop}, R r s → wpAny M A (f v) R E s) → Q (vs.map fun _ => r) s → wpAny M A (vs.mapM f) Q E s
 | [], _, _, h => by
   rw [List.mapM_nil]
   exact wpAny_pure h
 | v :: vs, _, hf, h => by
   rw [List.mapM_cons]
   exact wpAny_bind (hf v List.mem_cons_self (wpAny_bind (map_all vs (fun u hu => hf u (List.mem_cons_of_mem _ hu)) (wpAny_pure h))))
theorem first_list {M : Model} {v : Value} {ns : List Int} {R : Option Value → Shared → Prop} (hv : ListAt s v ns) (h : R none s) : wpAny M A (firstOfTuple' v) R E s := by
 obtain ⟨a, items, n, rfl, ha, _⟩ := hv
 show wpAny M A (typeOf (.ref a) >>= fun t => if (t != .type "tuple") = true then pure none else _) R E s
 exact wpAny_bind (wpAny_typeOf (T := "list") ⟨_, ha, rfl⟩ (by rw [if_pos (by decide)]; exact wpAny_pure h))
theorem kind_lists (h2 : 2 ≤ keys.length) (hk : ∀ v ∈ keys, ∃ ns, ListAt s v ns) {Q : SortKind → Shared → Prop} (h : Q oneType' s) : wpAny (model prog w) A (keyKind' keys.toArray) Q E s := by
 obtain ⟨k1, ks, rfl⟩ : ∃ k1 ks, keys = k1 :: ks := by
   cases keys with
   | nil => simp at h2
   | cons k1 ks => exact ⟨k1, ks, rfl⟩
 rw [keyKind'_eq, List.mapM_toArray, map_eq_pure_bind]
 refine wpAny_bind (wpAny_bind (map_all (r := none) _ (fun v hv R hr => ?_) (wpAny_pure ?_)))
 · obtain ⟨ns, hn⟩ := hk v hv
   exact first_list hn hr
 · simp only [List.map_cons, List.all_toArray, List.all_cons, Option.isSome_none, Bool.false_and, Bool.false_eq_true, if_false, List.getElem?_toArray, List.getElem?_cons_zero, Option.bind_some, id]
   rw [oneTypeOnly'_eq, List.mapM_toArray, map_eq_pure_bind]
   refine wpAny_bind (wpAny_bind (wpAny_bind (map_all (r := Value.type "list") _ (fun v hv R hr => ?_) (wpAny_pure ?_))))
   · obtain ⟨ns, a, items, n, rfl, ha, _⟩ := hk v hv
     exact wpAny_typeOf (T := "list") ⟨_, ha, rfl⟩ hr
   · simp only [List.map_cons, List.getElem?_toArray, List.getElem?_cons_zero]
     have e : (((Value.type "list") :: ks.map fun _ => Value.type "list").toArray.all fun x => x == Value.type "list") = true := by
       rw [List.all_toArray, List.all_eq_true]
       intro x hx
       rcases List.mem_cons.mp hx with q | q
       · rw [q]; exact beq_self_eq_true _
       · obtain ⟨_, _, q⟩ := List.mem_map.mp q
         rw [← q]
         exact beq_self_eq_true _
     rw [e]
     exact wpAny_pure (wpAny_pure h)
theorem end_k (k0 : Kp s0 s) (nk : s0.heap.get? kS = none) (na : s0.heap.get? a = none) (hk : s.heap.get? kS = some (seqObj "list" keys.toArray e)) (ha : s.heap.get? a = some (seqObj "list" #[] e1)) (hne : kS ≠ a)
   (hZ : vs.length ≤ sizeLine) (hlen : keys.length = vs.length) (hu : A.units < cLine) (hok : ∀ (i : Nat) (v k : Value), vs[i]? = some v → keys[i]? = some k → kf v ∈ L ∧ ListAt s0 k (kf v))
   (h : ∀ s' out c, Kp s0 s' → s'.heap.get? a = some (seqObj "list" (List.toArray out) c) → Sorted kf vs out → P (.done (.ret .none)) s') : wpAny (model prog w) A (ksk_end a false vs.toArray e1 (.ref kS) keys.toArray) P E s := by
 have up : ∀ k ns, ListAt s0 k ns → ListAt s k ns := fun k ns ⟨b, items, n, e1, e2, e3⟩ => ⟨b, items, n, e1, k0.keep _ _ e2, e3⟩
 unfold ksk_end
 try dsimp only
 simp only [Bool.false_eq_true, if_false]
 have el : (keys.toArray.zip vs.toArray).toList = keys.zip vs := by rw [Array.toList_zip]
 have ez : (keys.toArray.zip vs.toArray).toList.map (·.2) = vs := by
   rw [el]
   exact List.map_snd_zip (by omega)
 by_cases h2 : vs.toArray.size < 2
 · rw [if_pos h2, if_pos h2]
   refine wpAny_bind (wpAny_pure ?_)
   rw [StateT.run_pure]
   refine wpAny_bind (wpAny_pure ?_)
   try dsimp only
   have pw : vs.Pairwise fun p q => lexI (kf q) (kf p) = false := by
     rw [List.size_toArray] at h2
     match vs, h2 with
     | [], _ => exact List.Pairwise.nil
     | [x], _ => exact List.pairwise_singleton _ _
     | _ :: _ :: r, h2 =>
       have h3 : r.length + 1 + 1 < 2 := h2
       omega
   refine tail_k (kf := kf) (out := vs) k0 nk na hk ha hne hZ hlen ?_ rfl ⟨List.Perm.refl _, pw⟩ fun s' c k1 h1 => h s' vs c k1 h1 ⟨List.Perm.refl _, pw⟩
   show (keys.toArray.zip vs.toArray).map (·.2) = vs.toArray
   apply Array.toList_inj.mp
   rw [Array.toList_map, ez]
 · rw [if_neg h2, if_neg h2]
   rw [List.size_toArray] at h2
   refine wpAny_bind (kind_lists (by omega) (fun v hv => ?_) ?_)
   · obtain ⟨i, hi, e⟩ := List.mem_iff_getElem.mp hv
     obtain ⟨u, hu'⟩ : ∃ u, vs[i]? = some u := ⟨_, List.getElem?_eq_getElem (by omega)⟩
     exact ⟨_, up _ _ (hok i u v hu' (by rw [← e]; exact List.getElem?_eq_getElem hi)).2⟩
   · refine wpAny_bind (wpAny_mono (sort_runs (kf := kf) (L := L) (arr := keys.toArray.zip vs.toArray) hu (fun x hx => ?_) ?_
       (Q := fun _ st' => ∃ out : List Value, (arrOf st').map (·.2) = out.toArray ∧ failedOf st' = none ∧ Sorted kf vs out) fun st' out o1 o2 o3 o4 => ⟨out, o1, o2, by rw [ez] at o3; exact o3, o4⟩) ?_ fun _ _ z => z)
     · have hx' : x ∈ keys.zip vs := by rw [← el]; exact Array.mem_toList_iff.mpr hx
       obtain ⟨i, hi, e⟩ := List.mem_iff_getElem.mp hx'
       have hi1 : i < keys.length := by rw [List.length_zip] at hi; omega
       have hi2 : i < vs.length := by rw [List.length_zip] at hi; omega
       rw [List.getElem_zip] at e
       have q := hok i vs[i] keys[i] (List.getElem?_eq_getElem hi2) (List.getElem?_eq_getElem hi1)
       rw [← e]
       exact ⟨q.1, up _ _ q.2⟩
     · rw [← Array.length_toList, el, List.length_zip]
       omega
     · rintro ⟨⟨⟩, st'⟩ s' ⟨rfl, out, o1, o2, o3⟩
       try dsimp only
       exact tail_k (kf := kf) (out := out) k0 nk na hk ha hne hZ hlen o1 o2 o3 fun s' c k1 h1 => h s' out c k1 h1 o3
theorem rest_k {f : Value} (k0 : Kp s0 s) (nk : s0.heap.get? kS = none) (na : s0.heap.get? a = none) (hk : s.heap.get? kS = some (seqObj "list" #[] 0)) (ha : s.heap.get? a = some (seqObj "list" #[] e1)) (hne : kS ≠ a)
   (hZ : vs.length ≤ sizeLine) (hlen : keys.length = vs.length) (hu : A.units < cLine) (hok : ∀ (i : Nat) (v k : Value), vs[i]? = some v → keys[i]? = some k → kf v ∈ L ∧ ListAt s0 k (kf v))
   (turn : ∀ (i : Nat) (v k : Value), vs[i]? = some v → keys[i]? = some k → ∀ s' : Shared, Kp s0 s' → wpAny (model prog w) A (call f [v]) (fun u s'' => u = k ∧ Kp s' s'') (fun _ _ => False) s')
   (h : ∀ s' out c, Kp s0 s' → s'.heap.get? a = some (seqObj "list" (List.toArray out) c) → Sorted kf vs out → P (.done (.ret .none)) s') : wpAny (model prog w) A (ksk_rest a f false vs.toArray e1 (.ref kS)) P E s := by
 have hZ2 := hZ
 rw [sizeLine_eq] at hZ2
 unfold ksk_rest
 refine wpAny_bind (wpAny_rule ?_)
 rw [List.forIn_toArray]
 refine wpAny_bind (ksk_fold (fun i s' => Kp s0 s' ∧ (∃ e, s'.heap.get? kS = some (seqObj "list" (keys.take i).toArray e)) ∧ s'.heap.get? a = some (seqObj "list" #[] e1)) vs 0 s ⟨k0, ⟨0, hk⟩, ha⟩ ?step ?done)
 case step =>
   rintro j x s' hx ⟨k1, ⟨e, hk1⟩, ha1⟩
   simp only [Nat.zero_add] at hk1 ⊢
   have hj : j < vs.length := (List.getElem?_eq_some_iff.mp hx).1
   obtain ⟨k, hkj⟩ : ∃ k, keys[j]? = some k := ⟨_, List.getElem?_eq_getElem (by omega)⟩
   refine wpAny_bind (wpAny_attempt (wpAny_mono (turn j x k hx hkj s' k1) (fun u s'' hr => ?_) fun _ _ hF => hF.elim))
   obtain ⟨rfl, k2⟩ := hr
   try dsimp only
   have hk2 := k2.keep _ _ hk1
   have ha2 := k2.keep _ _ ha1
   have ek : keys.take (j + 1) = keys.take j ++ [u] := by rw [List.take_add_one, hkj]; simp
   have lt : (keys.take j).length ≤ j := by rw [List.length_take]; omega
   refine wpAny_bind (listUpdate_at hk2 rfl ?_ (by rw [List.size_toArray, sizeLine_eq]; omega) (by rw [Array.size_push, List.size_toArray, sizeLine_eq]; omega))
   obtain ⟨c2, hc2⟩ : ∃ c2, (s''.heap.update kS (Obj.mapSeq (·.push u))).get? kS = some (seqObj "list" ((keys.take j).toArray.push u) c2) := ⟨_, get?_update_seq hk2 (·.push u)⟩
   refine wpAny_pure ⟨rfl, Kp.upd (k1.trans k2) _ nk, ⟨c2, ?_⟩, ?_⟩
   · have ea : (keys.take j ++ [u]).toArray = (keys.take j).toArray.push u := by simp
     rw [ek, ea]
     exact hc2
   · show (s''.heap.update kS (Obj.mapSeq (·.push u))).get? a = _
     rw [Heap.get?_update_ne _ _ _ _ hne.symm]
     exact ha2
 case done =>
   rintro s' ⟨k1, ⟨e, hk1⟩, ha1⟩
   have e3 : keys.take (0 + vs.length) = keys := List.take_of_length_le (by omega)
   rw [e3] at hk1
   try dsimp only
   refine wpAny_bind (listItems_at hk1 rfl ?_)
   exact end_k k1 nk na hk1 ha1 hne hZ hlen hu hok h
theorem sorted_k {l q : Addr} {Q : Value → Shared → Prop} (hl : s.heap.IsList l vs.toArray) (hZ : vs.length ≤ sizeLine) (hlen : keys.length = vs.length) (hu : A.units + 2 < cLine)
   (hok : ∀ (i : Nat) (v k : Value), vs[i]? = some v → keys[i]? = some k → kf v ∈ L ∧ ListAt s k (kf v))
   (turn : ∀ (i : Nat) (v k : Value), vs[i]? = some v → keys[i]? = some k → ∀ s' : Shared, Kp s s' → wpAny (model prog w) A.in1.in1 (call (.ref q) [v]) (fun u s'' => u = k ∧ Kp s' s'') (fun _ _ => False) s')
   (h : ∀ s' D out c, Kp s s' → s.heap.objs.size ≤ D → s'.heap.get? D = some (seqObj "list" (List.toArray out) c) → Sorted kf vs out → Q (.ref D) s') :
   wpAny (model prog w) A (call (.builtin "sorted") [.ref l] [(Str.ofString "key", .ref q)]) Q E s := by
 have hZ2 := hZ
 rw [sizeLine_eq] at hZ2
 refine call_function_entry_kw kind_sorted plain_sorted entry_sorted (ksk_s1 _ _) ?_
 unfold Builtin.«sorted»
 refine wpAny_bind (m := checkCount "sorted" 1 1 _) (wpAny_pure ?_)
 refine wpAny_bind (collect_list hl ?_ (by rw [sizeLine_eq]; omega))
 refine wpAny_bind (wpAny_newList ?_ (by rw [sizeLine_eq]; omega))
 generalize hg1 : (s.heap.push (seqObj "list" #[] 0)).update s.heap.objs.size (Obj.mapSeq (· ++ vs.toArray)) = g1
 have z1 : g1.objs.size = s.heap.objs.size + 1 := by rw [← hg1, Heap.size_update, size_push']
 have kp1 : ∀ b o, s.heap.get? b = some o → g1.get? b = some o := fun b o e => by
   rw [← hg1, Heap.get?_update_ne _ _ _ _ (Nat.ne_of_lt (Heap.lt_size e))]
   exact Heap.get?_push_of_some _ e
 show wpAny _ _ _ _ _ { s with heap := g1.push (seqObj "list" vs.toArray 0) }
 have hoL : (g1.push (seqObj "list" vs.toArray 0)).get? g1.objs.size = some (seqObj "list" vs.toArray 0) := Heap.get?_push_size _ rfl
 refine wpAny_bind (wpAny_holding (wpAny_call_entry_kw slot_list_sort ⟨_, hoL, rfl⟩ entry_list_sort ?body (ksk_l1 _ _)))
 case body =>
   show wpAny (model prog w) A.in1.in1 (Builtin.«list.sort» ⟨[.ref g1.objs.size], [(Str.ofString "key", .ref q)]⟩) _ _ _
   rw [ksk_t1]
   unfold ksk_tree
   refine wpAny_bind (listItems_at hoL rfl ?_)
   refine wpAny_bind (listUpdate_at hoL rfl ?_ (by rw [List.size_toArray, sizeLine_eq]; omega) (Nat.zero_le _))
   obtain ⟨c1, hc1⟩ : ∃ c1, ((g1.push (seqObj "list" vs.toArray 0)).update g1.objs.size (Obj.mapSeq fun _ => (#[] : Array Value))).get? g1.objs.size = some (seqObj "list" #[] c1) := ⟨_, get?_update_seq hoL fun _ => #[]⟩
   refine wpAny_bind (seqEpoch_at hc1 rfl ?_)
   refine wpAny_bind (wpAny_newTuple ?_ (by show vs.length ≤ _; rw [sizeLine_eq]; omega))
   refine wpAny_bind (wpAny_newList ?_ (Nat.zero_le _))
   refine wpAny_holding ?_
   have fr : ∀ b, s.heap.objs.size ≤ b → s.heap.get? b = none := fun b hb => Heap.get?_none_of_le hb
   have z2 : (((g1.push (seqObj "list" vs.toArray 0)).update g1.objs.size (Obj.mapSeq fun _ => (#[] : Array Value))).push (seqObj "tuple" vs.toArray 0)).objs.size = g1.objs.size + 2 := by
     rw [size_push', Heap.size_update, size_push']
   refine rest_k (s0 := s) (kf := kf) (L := L) (keys := keys) (kS := (((g1.push (seqObj "list" vs.toArray 0)).update g1.objs.size (Obj.mapSeq fun _ => (#[] : Array Value))).push (seqObj "tuple" vs.toArray 0)).objs.size)
     ⟨fun b o e => ?_, rfl, rfl⟩ (fr _ (by rw [z2, z1]; omega)) (fr _ (by rw [z1]; omega)) (Heap.get?_push_size _ rfl) (Heap.get?_push_of_some _ (Heap.get?_push_of_some _ hc1)) (fun q => by rw [z2] at q; exact absurd q (Nat.ne_of_gt (Nat.lt_add_of_pos_right (by decide)))) hZ hlen hu hok turn fun s' out c k1 h1 o => ⟨_, rfl, wpAny_pure ⟨_, rfl, ?_⟩⟩
   · refine Heap.get?_push_of_some _ (Heap.get?_push_of_some _ ?_)
     have hb : b ≠ g1.objs.size := Nat.ne_of_lt (Heap.lt_size (kp1 b o e))
     rw [Heap.get?_update_ne _ _ _ _ hb]
     exact Heap.get?_push_of_some _ (kp1 b o e)
   · exact h s' _ out c k1 (by rw [z1]; omega) h1 o
end
end Srt
end
section
namespace My
open PySem PySem.Spec PyProof.Rows L2 Of Pu
noncomputable def top (i : Nat) : Stmt := PySem.Challenge.pw_oneformroom_s01_answers.main.body.getD i (.Pass ⟨0, 0, 0, 0⟩)
noncomputable def vb (b : Bytes) : List V := b.map fun c => V.int (c.toNat : Int)
theorem vb_length (b : Bytes) : (vb b).length = b.length := by simp [vb]
theorem vb_get {b : Bytes} {i : Nat} {c : UInt8} (h : b[i]? = some c) : (vb b)[i]? = some (V.int (c.toNat : Int)) := by simp [vb, h]
theorem vb_inv {b : Bytes} {i : Nat} {y : V} (h : (vb b)[i]? = some y) : ∃ c, b[i]? = some c ∧ y = V.int (c.toNat : Int) := by
 unfold vb at h
 rw [List.getElem?_map] at h
 cases e : b[i]? with
 | none => rw [e] at h; cases h
 | some c => rw [e] at h; exact ⟨c, rfl, (Option.some.inj h).symm⟩
theorem vb_append (a b : Bytes) : vb (a ++ b) = vb a ++ vb b := by simp [vb]
theorem vb_inj {a b : Bytes} (h : vb a = vb b) : a = b := by
 unfold vb at h
 exact (List.map_inj_right (fun x y e => UInt8.toNat_inj.mp (by injection e with e; exact Int.ofNat_inj.mp e))).mp h
theorem sIx_nat (n d k : Nat) : HT.sIx n d (some (k : Int)) = min k n := by
 simp only [HT.sIx]
 split <;> omega
theorem cutV_nat {b : Bytes} {lo hi : Nat} (h1 : lo ≤ b.length) : cutV (vb b) (some (lo : Int)) (some (hi : Int)) = vb ((b.drop lo).take (hi - lo)) := by
 unfold cutV
 have e1 : HT.sIx (vb b).length 0 (some (lo : Int)) = lo := by
   rw [vb_length, sIx_nat]
   omega
 have e2 : HT.sIx (vb b).length (vb b).length (some (hi : Int)) = min hi b.length := by
   rw [vb_length, sIx_nat]
 rw [e1, e2]
 unfold vb
 rw [List.map_take, List.map_drop]
 rw [← List.map_drop, ← List.map_take, ← List.map_take]
 congr 1
 by_cases h : hi ≤ b.length
 · rw [Nat.min_eq_left h]
 · rw [Nat.min_eq_right (by omega), List.take_of_length_le (by rw [List.length_drop]; omega), List.take_of_length_le (by rw [List.length_drop]; omega)]
theorem cutV_from {b : Bytes} {lo : Nat} (h1 : lo ≤ b.length) : cutV (vb b) (some (lo : Int)) none = vb (b.drop lo) := by
 unfold cutV
 have e1 : HT.sIx (vb b).length 0 (some (lo : Int)) = lo := by
   rw [vb_length, sIx_nat]
   omega
 have e2 : HT.sIx (vb b).length (vb b).length none = b.length := by
   rw [vb_length]
   simp [HT.sIx]
 rw [e1, e2]
 unfold vb
 rw [← List.map_drop, List.take_of_length_le (by rw [List.length_map, List.length_drop]; omega)]
noncomputable def But (p : Addr) (H H' : Hp) : Prop := ∀ b o, H b = some o → b ≠ p → H' b = some o
theorem But.refl (p : Addr) (H : Hp) : But p H H := fun _ _ h _ => h
theorem But.trans {p : Addr} {H H1 H2 : Hp} (a : But p H H1) (b : But p H1 H2) : But p H H2 := fun c o h n => b c o (a c o h n) n
theorem But.of {p : Addr} {H H' : Hp} (a : Same H H') : But p H H' := fun c o h _ => a c o h
theorem But.free {p q : Addr} {H H' : Hp} (a : But p H H') (h : H' q = none) (n : q ≠ p) : H q = none := by
 cases e : H q with
 | none => rfl
 | some o => rw [a q o e n] at h; cases h
theorem Same.upd {H : Hp} {p : Addr} {o : HO} (h : H p = none) : Same H (upd H p o) := fun b u e => by rw [upd_ne (ne_of_none e h)]; exact e
theorem Same.upd2 {H H' : Hp} {p : Addr} {o : HO} (s : Same H H') (h : H p = none) : Same H (L2.upd H' p o) := fun b u e => by rw [upd_ne (ne_of_none e h)]; exact s b u e
noncomputable def Ret (H : Hp) (Q : VK) (L : List V) : Prop := ∀ p H', H p = none → Same H H' → H' p = some (.lst L) → Q (.ref p) H'
theorem Ret.new {H : Hp} {Q : VK} {L : List V} (r : Ret H Q L) {p : Addr} (h : H p = none) : Q (.ref p) (L2.upd H p (.lst L)) := r p _ h (Same.upd h) upd_same
theorem Ret.same {H H1 : Hp} {Q : VK} {L : List V} (r : Ret H Q L) (s : Same H H1) : Ret H1 Q L := fun p H' h s' e => r p H' (s.free h) (s.trans s') e
end My
end
section
namespace My
open PySem PySem.Spec PyProof.Rows L2 Of Pu
structure Tx (P : Program) (w : World) (K : PySem.W.Frag) (mg : Str → Option Value) where
 CH : Addr
 CN : Addr
 CR : Addr
 CL : Addr
 CM : Addr
 xV : Addr
 xF : Addr
 xT : Addr
 xN : Addr
 xS : Addr
 xM : Addr
 xK : Addr
 oV : OwnX K mg "NoValue" xV
 oF : OwnX K mg "NotWellFormed" xF
 oT : OwnX K mg "KeyTwice" xT
 oN : OwnX K mg "NoNode" xN
 oS : OwnX K mg "NotString" xS
 oM : OwnX K mg "NotMap" xM
 oK : OwnX K mg "NoSuchKey" xK
 clH : Cls K CH
 clN : Cls K CN
 clR : Cls K CR
 clL : Cls K CL
 clM : Cls K CM
 nH1 : NoAttr K CH "major"
 nH2 : NoAttr K CH "info"
 nH3 : NoAttr K CH "number"
 nH4 : NoAttr K CH "behind"
 nN1 : NoAttr K CN "kind"
 nN2 : NoAttr K CN "number"
 nN3 : NoAttr K CN "begins_at"
 nN4 : NoAttr K CN "content_at"
 nN5 : NoAttr K CN "after"
 nR1 : NoAttr K CR "data"
 nR2 : NoAttr K CR "at"
 nR3 : NoAttr K CR "node_count"
 nR4 : NoAttr K CR "string_bytes"
 nR5 : NoAttr K CR "key_twice"
 nL1 : NoAttr K CL "calls"
 nL2 : NoAttr K CL "at"
 nM1 : NoAttr K CM "form"
 nM2 : NoAttr K CM "nodes"
 kNEG : Cst mg "NEGATIVE" 1
 kBS : Cst mg "BYTE_STRING" 2
 kTXT : Cst mg "TEXT" 3
 kARR : Cst mg "ARRAY" 4
 kMAP : Cst mg "MAP" 5
 kTAG : Cst mg "TAG" 6
 kSIM : Cst mg "SIMPLE" 7
 kSW : Cst mg "SHORTEST_WIDE" 24
 kLW : Cst mg "LONGEST_WIDE" 27
 kUP : Cst mg "UP_TO_BREAK" 31
 kBRK : Cst mg "BREAK" 255
 kFFK : Cst mg "FIRST_FLOATING_KIND" 8
 kGRT : Cst mg "GREATEST" 1114111
 kFS : Cst mg "FIRST_SURROGATE" 55296
 kLS : Cst mg "LAST_SURROGATE" 57343
 kHALF : Cst mg "HALF" 25
 kDEEP : Cst mg "MOST_DEEP" 16
 kMN : Cst mg "MOST_NODES" 1024
 kMS : Cst mg "MOST_STRING_BYTES" 8192
 kFWS : Cst mg "FIRST_WIDE_SIMPLE" 32
 kREAD : Cst mg "READ" 1
 kWRITE : Cst mg "WRITE" 2
 kCOUNT : Cst mg "COUNT" 3
 kKIND : Cst mg "KIND" 4
 kNUM : Cst mg "NUMBER" 5
 kCOPY : Cst mg "COPY" 6
 kAFTER : Cst mg "AFTER" 7
 kPART : Cst mg "PART" 8
 kSAME : Cst mg "SAME" 10
 kCAN : Cst mg "CANONICAL" 11
 len : mg "len" = none
 range : mg "range" = none
 list : mg "list" = none
 sorted : mg "sorted" = none
 aSm : Addr
 mSm : mg "SMALLEST" = some (.ref aSm)
 tSm : ∀ H, SqT K H aSm ([0, 0, 128, 2048, 65536].map V.int)
 aNN : Addr
 mNN : mg "NO_NUMBER" = some (.ref aNN)
 tNN : ∀ H, SqT K H aNN ([249, 126, 0].map V.int)
 aEB : Addr
 mEB : mg "EXPONENT_BITS" = some (.ref aEB)
 tEB : ∀ f : Fmt, TabI P w K aEB f.first (.int f.ebits)
 aFB : Addr
 mFB : mg "FRACTION_BITS" = some (.ref aFB)
 tFB : ∀ f : Fmt, TabI P w K aFB f.first (.int f.fbits)
 tabP : Addr
 cM : Addr
 hdM : ∀ h, K.In h → PySem.W.CodeHd h cM tabP
 aSP : Addr
 mSP : mg "STEP_POWER" = some (.ref aSP)
 tSP : ∀ f : Fmt, TabI P w K aSP f.first (.int f.up)
noncomputable def onat : Option Nat → V
 | none => .non
 | some k => .int k
noncomputable def hdF (m i : Nat) (n : Option Nat) (b : Nat) : List (Str × V) := [("major", .int m), ("info", .int i), ("number", onat n), ("behind", .int b)]
theorem hd1 {m i b : Nat} {n : Option Nat} : (hdF m i n b).lookup ("major" : Str) = some (.int m) := rfl
theorem hd2 {m i b : Nat} {n : Option Nat} : (hdF m i n b).lookup ("info" : Str) = some (.int i) := rfl
theorem hd3 {m i b : Nat} {n : Option Nat} : (hdF m i n b).lookup ("number" : Str) = some (onat n) := rfl
theorem hd4 {m i b : Nat} {n : Option Nat} : (hdF m i n b).lookup ("behind" : Str) = some (.int b) := rfl
noncomputable def HdAt (C : Addr) (H : Hp) (p : Addr) (m i : Nat) (n : Option Nat) (b : Nat) : Prop := ∃ dx, H p = some (.ins C dx (hdF m i n b))
theorem HdAt.but {C p q : Addr} {H H' : Hp} {m i b : Nat} {n : Option Nat} (h : HdAt C H p m i n b) (s : But q H H') (ne : p ≠ q) : HdAt C H' p m i n b := let ⟨dx, e⟩ := h; ⟨dx, s _ _ e ne⟩
section
variable {P : Program} {w : World} {K : PySem.W.Frag} {mg : Str → Option Value} {base : Heap}
noncomputable def spHead (C : Addr) : Sp := fun vs H Q _ => ∃ (p dx : Addr) (m i b : Nat) (n : Option Nat), vs = [.ref p, .int m, .int i, onat n, .int b] ∧ H p = some (.ins C dx []) ∧ ∀ H' : Hp, HdAt C H' p m i n b → But p H H' → Q .non H'
theorem scHead : FnScope ["self", "major", "info", "number", "behind"] ["self", "major", "info", "number", "behind"] (defScope (inClass (top 20) 0)) := ⟨rfl, rfl, rfl, by decide +kernel, rfl, by decide +kernel, by decide +kernel⟩
theorem ok_Head (T : Tx P w K mg) {f : Addr} {fd : FuncData} (F : Fun K "__init__" "Head.__init__" (inClass (top 20) 0) f fd) : FnOk P w K mg base (CXE P w) 1 f fd ["self", "major", "info", "number", "behind"] (spHead T.CH) := by
 refine F.okE scHead (fun vs H Q E h => ?_) (fun cdv A outer s H vs Q E hr h => ?_)
 · obtain ⟨p, dx, m, i, b, n, rfl, _⟩ := h
   rfl
 · obtain ⟨p, dx, m, i, b, n, rfl, hp, k⟩ := h
   refine ⟨_, pss_cons (ps_fld (pv 0) (pv 1) rfl) (pss_cons (ps_fld (pv 0) (pv 2) rfl) (pss_cons (ps_fld (pv 0) (pv 3) rfl) (pss_one (ps_fld (pv 0) (pv 4) rfl)))), ?_⟩
   refine ⟨_, rfl, _, rfl, p, T.CH, dx, [], rfl, hp, T.clH, T.nH1, (by show 0 < 1000; decide), ?_⟩
   refine ⟨_, rfl, _, rfl, p, T.CH, dx, _, rfl, upd_same, T.clH, T.nH2, (by show 1 < 1000; decide), ?_⟩
   refine ⟨_, rfl, _, rfl, p, T.CH, dx, _, rfl, upd_same, T.clH, T.nH3, (by show 2 < 1000; decide), ?_⟩
   refine ⟨_, rfl, _, rfl, p, T.CH, dx, _, rfl, upd_same, T.clH, T.nH4, (by show 3 < 1000; decide), ?_⟩
   refine k _ ⟨dx, upd_same⟩ fun b o e hb => ?_
   rw [upd_ne hb, upd_ne hb, upd_ne hb, upd_ne hb]
   exact e
noncomputable def spWidth : Sp := fun vs H Q _ => ∃ i : Nat, vs = [.int i] ∧ 24 ≤ i ∧ i ≤ 27 ∧ Q (.int ((2 ^ (i - 24) : Nat) : Int)) H
theorem scWidth : FnScope ["info"] ["info"] (defScope (top 21)) := ⟨rfl, rfl, rfl, by decide +kernel, rfl, by decide +kernel, by decide +kernel⟩
theorem ok_width (T : Tx P w K mg) {f : Addr} {fd : FuncData} (F : Fun K "width" "width" (top 21) f fd) : FnOk P w K mg base (CXE P w) 1 f fd ["info"] spWidth := by
 refine F.okE scWidth (fun vs H Q E h => ?_) (fun cdv A outer s H vs Q E hr h => ?_)
 · obtain ⟨i, rfl, _⟩ := h
   rfl
 · obtain ⟨i, rfl, h1, h2, k⟩ := h
   refine ⟨_, pss_one (ps_ret (pe_op op_shl pe_int (pe_op op_sub (pv 0) (pe_k T.kSW)))), ?_⟩
   refine ⟨_, rfl, _, _, rfl, rfl, _, _, rfl, rfl, ⟨by omega, by omega, by decide⟩, ?_⟩
   have e : (1 : Int) * 2 ^ ((i : Int) - 24).toNat = ((2 ^ (i - 24) : Nat) : Int) := by
     have : ((i : Int) - 24).toNat = i - 24 := by omega
     rw [this, Int.one_mul]
     simp
   show Q (.int ((1 : Int) * 2 ^ ((i : Int) - 24).toNat)) H
   rw [e]
   exact k
end
end My
end
section
namespace My
open PySem PySem.Spec PyProof.Rows L2 Of Pu
section
variable {P : Program} {w : World} {K : PySem.W.Frag} {mg : Str → Option Value} {base : Heap}
noncomputable def spWHA (T : Tx P w K mg) : Sp := fun vs H Q E => ∃ (a : Addr) (at_ m i : Nat) (b : Bytes), vs = [.ref a, .int at_, .int m, .int i] ∧ H a = some (.lst (vb b)) ∧ at_ < b.length ∧ 24 ≤ i ∧ i ≤ 27 ∧
 (match headIn i (b.drop (at_ + 1)) with
  | none => E (.ref T.xF) none H
  | some (n, t) => ∀ p H', H p = none → Same H H' → HdAt T.CH H' p m i (some n) (b.length - t.length) → Q (.ref p) H')
theorem scWHA : FnScope ["data", "at", "major", "info", "behind", "number", "byte"] ["data", "at", "major", "info"] (defScope (top 23)) := ⟨rfl, rfl, rfl, by decide +kernel, rfl, by decide +kernel, by decide +kernel⟩
theorem ok_WHA (T : Tx P w K mg) {f : Addr} {fd : FuncData} (F : Fun K "wide_head_at" "wide_head_at" (top 23) f fd) (DW : Dfn P w K mg base 1 "width" ["info"] spWidth) (DH : Mkr P w K mg base 1 T.CH "Head" ["self", "major", "info", "number", "behind"] (spHead T.CH)) :
   FnOk P w K mg base (CXE P w) 3 f fd ["data", "at", "major", "info"] (spWHA T) := by
 refine F.okE scWHA (fun vs H Q E h => ?_) (fun cdv A outer s H vs Q E hr h => ?_)
 · obtain ⟨a, at_, m, i, b, rfl, _⟩ := h
   rfl
 · obtain ⟨a, at_, m, i, b, rfl, ha, hat, h1, h2, k⟩ := h
   refine ⟨_, pss_cons (ps_set (i := 4) scWHA.nd rfl (Or.inl rfl) (pe_op op_add (pe_op op_add (pv 1) pe_int) (pe_d DW pass_fly (hr.mono (by decide)) (pa_cons (pv 3) pa_nil))))
     (pss_cons (ps_if (pt_cmpR op_gt (pv 4) (pe_callB call_len_seq (by rfl) T.len PySem.boot_len (pa_cons (pv 0) pa_nil)) (nomark _)) (pss_one (ps_raise0 T.oF rfl)) pss_nil)
     (pss_cons (ps_set (i := 5) scWHA.nd rfl (Or.inl rfl) pe_int)
     (pss_cons (ps_for PassesOwn.leaving rfl (pi_list (pe_slice sl_list (pv 0) (po_some (pe_op op_add (pv 1) pe_int)) (po_some (pv 4)))) (pg_name (i := 6) scWHA.nd rfl (Or.inl rfl)) (pss_one (ps_set (i := 5) scWHA.nd rfl (Or.inl rfl) (pe_op op_add (pe_op op_mul (pv 5) pe_int) (pv 6)))))
     (pss_one (ps_ret (pe_mk DH pass_fly hr (pa_cons (pv 2) (pa_cons (pv 3) (pa_cons (pv 5) (pa_cons (pv 4) pa_nil))))))))))
     , ?_⟩
   refine ⟨_, rfl, _, _, rfl, rfl, _, rfl, i, rfl, h1, h2, _, _, rfl, rfl, ?_⟩
   refine ⟨_, rfl, _, rfl, a, _, rfl, .inl (SqL.of ha), _, _, rfl, rfl, _, rfl, ?_⟩
   have hl : (b.drop (at_ + 1)).length = b.length - (at_ + 1) := List.length_drop
   have hi : headIn i (b.drop (at_ + 1)) = if (b.drop (at_ + 1)).length < 2 ^ (i - 24) then none else some (num ((b.drop (at_ + 1)).take (2 ^ (i - 24))), (b.drop (at_ + 1)).drop (2 ^ (i - 24))) := by
     unfold headIn
     rw [if_neg (by omega), if_neg (by omega)]
   refine ite2 (fun hc => ?_) (fun hc => ?_)
   · -- raise
     have hc' := of_decide_eq_true hc
     rw [vb_length] at hc'
     rw [hi, if_pos (by rw [hl]; omega)] at k
     exact k
   · have hc' : ¬ ((vb b).length : Int) < _ := fun z => hc (decide_eq_true z)
     rw [vb_length] at hc'
     have hle : at_ + 1 + 2 ^ (i - 24) ≤ b.length := by omega
     rw [hi, if_neg (by rw [hl]; omega)] at k
     dsimp only at k
     generalize hr' : b.drop (at_ + 1) = r at k hl hi
     generalize hw : 2 ^ (i - 24) = wd at k hle
     have el : (r.take wd).length = wd := by rw [List.length_take]; omega
     refine ⟨_, rfl, _, rfl, _, _, rfl, rfl, _, rfl, _, rfl, _, rfl, a, _, rfl, SqL.of ha, fun q hq => ?_⟩
     have ec : cutV (vb b) (some ((at_ : Int) + 1)) (some ((at_ : Int) + 1 + (wd : Int))) = vb (r.take wd) := by
       have := cutV_nat (b := b) (lo := at_ + 1) (hi := at_ + 1 + wd) (by omega)
       rw [hr'] at this
       have e9 : at_ + 1 + wd - (at_ + 1) = wd := by omega
       rw [e9] at this
       simpa using this
     have Hs : Same H (upd H q (.lst (vb (r.take wd)))) := Same.upd hq
     rw [ec]
     refine ⟨q, rfl, ⟨_, SqL.of upd_same⟩, for_list (K := K) (a := q) (xs := vb (r.take wd)) (fun j σ H' => ∃ v : Option V, σ = [some (.ref a), some (.int at_), some (.int m), some (.int i), some (.int ((at_ : Int) + 1 + (wd : Int))), some (.int (num ((r.take wd).take j))), v] ∧ H' = upd H q (.lst (vb (r.take wd))))
       ⟨none, rfl, rfl⟩ (fun j σ H' _ ⟨_, _, e⟩ => by rw [e]; exact SqL.of upd_same) ?_ ?_⟩
     · rintro j y σ H' hj ⟨v, rfl, rfl⟩
       obtain ⟨c, hc1, rfl⟩ : ∃ c, (r.take wd)[j]? = some c ∧ y = V.int (c.toNat : Int) := by
         unfold vb at hj
         rw [List.getElem?_map] at hj
         cases e : (r.take wd)[j]? with
         | none => rw [e] at hj; cases hj
         | some c => rw [e] at hj; exact ⟨c, rfl, (Option.some.inj hj).symm⟩
       have en : ((num ((r.take wd).take j) : Nat) : Int) * 256 + (c.toNat : Int) = ((num ((r.take wd).take (j + 1)) : Nat) : Int) := by
         rw [take_snoc hc1, num_snoc]; simp
       exact ⟨_, rfl, _, _, rfl, rfl, .inr ⟨by decide, by decide⟩, _, rfl, _, _, rfl, rfl, ⟨some (.int c.toNat), congrArg (fun z => [some (V.ref a), some (.int at_), some (.int m), some (.int i), some (.int ((at_ : Int) + 1 + (wd : Int))), some (.int z), some (.int c.toNat)]) en, rfl⟩⟩
     · rintro σ H' ⟨v, rfl, rfl⟩
       rw [vb_length, List.take_length]
       refine ⟨_, rfl, _, rfl, _, rfl, _, rfl, fun x dx nx nd ne => ?_⟩
       refine ⟨x, dx, m, i, at_ + 1 + wd, some (num (r.take wd)), ?_, upd_same, fun H2 h2 b2 => ⟨rfl, ?_⟩⟩
       · simp [onat]
       · have s2 : Same H H2 := fun b' o e => b2 b' o (by rw [upd_ne (ne_of_none (Hs _ _ e) nx), upd_ne (ne_of_none (Hs _ _ e) nd)]; exact Hs _ _ e) (ne_of_none (Hs _ _ e) nx)
         refine k x H2 (Hs.free nx) s2 ?_
         have e7 : b.length - (r.drop wd).length = at_ + 1 + wd := by rw [List.length_drop]; omega
         rw [e7]
         exact h2
end
end My
end
section
namespace My
open PySem PySem.Spec PyProof.Rows L2 Of Pu
theorem made_same {H H0 H2 : Hp} {x dx C : Addr} (Hs : Same H0 H) (nx : H x = none) (nd : H dx = none) (b2 : But x (upd (upd H dx (.own x)) x (.ins C dx [])) H2) : Same H0 H2 := fun b' o e =>
 b2 b' o (by rw [upd_ne (ne_of_none (Hs _ _ e) nx), upd_ne (ne_of_none (Hs _ _ e) nd)]; exact Hs _ _ e) (ne_of_none (Hs _ _ e) nx)
theorem drop_cons {b : Bytes} {a : Nat} (h : a < b.length) : ∃ c r, b.drop a = c :: r ∧ b[a]? = some c := by
 refine ⟨b[a], b.drop (a + 1), List.drop_eq_getElem_cons h, List.getElem?_eq_getElem h⟩
section
variable {P : Program} {w : World} {K : PySem.W.Frag} {mg : Str → Option Value} {base : Heap}
noncomputable def spHA (T : Tx P w K mg) : Sp := fun vs H Q E => ∃ (a : Addr) (at_ : Nat) (b : Bytes), vs = [.ref a, .int at_] ∧ H a = some (.lst (vb b)) ∧
 (match headOf b at_ with
  | none => E (.ref T.xF) none H
  | some (m, i, n, bh) => ∀ p H', H p = none → Same H H' → HdAt T.CH H' p m i n bh → Q (.ref p) H')
theorem scHA : FnScope ["data", "at", "major", "info"] ["data", "at"] (defScope (top 22)) := ⟨rfl, rfl, rfl, by decide +kernel, rfl, by decide +kernel, by decide +kernel⟩
theorem ok_HA (T : Tx P w K mg) {f : Addr} {fd : FuncData} (F : Fun K "head_at" "head_at" (top 22) f fd) (DH : Mkr P w K mg base 1 T.CH "Head" ["self", "major", "info", "number", "behind"] (spHead T.CH))
   (DW : Dfn P w K mg base 3 "wide_head_at" ["data", "at", "major", "info"] (spWHA T)) : FnOk P w K mg base (CXE P w) 4 f fd ["data", "at"] (spHA T) := by
 refine F.okE scHA (fun vs H Q E h => ?_) (fun cdv A outer s H vs Q E hr h => ?_)
 · obtain ⟨a, at_, b, rfl, _⟩ := h
   rfl
 · obtain ⟨a, at_, b, rfl, ha, k⟩ := h
   refine ⟨_, pss_cons (ps_if (pt_cmpR op_ge (pv 1) (pe_callB call_len_seq (by rfl) T.len PySem.boot_len (pa_cons (pv 0) pa_nil)) (nomark _)) (pss_one (ps_raise0 T.oF rfl)) pss_nil)
     (pss_cons (ps_set (i := 2) scHA.nd rfl (Or.inl rfl) (pe_op op_fdiv (pe_ix ix_list (pv 0) (pv 1) (fun _ _ => rfl)) pe_int))
     (pss_cons (ps_set (i := 3) scHA.nd rfl (Or.inl rfl) (pe_op op_mod (pe_ix ix_list (pv 0) (pv 1) (fun _ _ => rfl)) pe_int))
     (pss_cons (ps_if (pt_cmpR op_lt (pv 3) (pe_k T.kSW) (nomark _)) (pss_one (ps_ret (pe_mk DH pass_fly (hr.mono (by decide)) (pa_cons (pv 2) (pa_cons (pv 3) (pa_cons (pv 3) (pa_cons (pe_op op_add (pv 1) pe_int) pa_nil))))))) pss_nil)
     (pss_cons (ps_if (pt_cmpR op_le (pv 3) (pe_k T.kLW) (nomark _)) (pss_one (ps_ret (pe_d DW pass_fly hr (pa_cons (pv 0) (pa_cons (pv 1) (pa_cons (pv 2) (pa_cons (pv 3) pa_nil))))))) pss_nil)
     (pss_cons (ps_if (pw_and (pt_cmpR op_eq (pv 3) (pe_k T.kUP) (nomark _)) (pw_and1 (pt_chain op_le op_le (pe_k T.kBS) (pv 2) (pe_k T.kMAP)))).pt (pss_one (ps_ret (pe_mk DH pass_fly (hr.mono (by decide)) (pa_cons (pv 2) (pa_cons (pv 3) (pa_cons pe_non (pa_cons (pe_op op_add (pv 1) pe_int) pa_nil))))))) pss_nil)
     (pss_one (ps_raise0 T.oF rfl))))))), ?_⟩
   refine ⟨_, rfl, _, rfl, a, _, rfl, .inl (SqL.of ha), _, _, rfl, rfl, _, rfl, ?_⟩
   refine ite2 (fun hc => ?_) (fun hc => ?_)
   · have hc' := of_decide_eq_true hc
     rw [vb_length] at hc'
     have e : headOf b at_ = none := by unfold headOf; rw [List.drop_of_length_le (by omega)]
     rw [e] at k
     exact k
   · have hc' : ¬ ((vb b).length : Int) ≤ (at_ : Int) := fun z => hc (decide_eq_true z)
     rw [vb_length] at hc'
     obtain ⟨c, r, hd, hg⟩ := drop_cons (b := b) (a := at_) (by omega)
     have hu := u8_lt c
     obtain ⟨_, _, hlt, hd1⟩ := drop_get hd
     have hl := congrArg List.length hd
     rw [List.length_drop, List.length_cons] at hl
     have e0 : headOf b at_ = if c.toNat % 32 = 31 ∧ 2 ≤ c.toNat / 32 ∧ c.toNat / 32 ≤ 5 then some (c.toNat / 32, 31, none, at_ + 1) else match headIn (c.toNat % 32) r with
         | none => none
         | some (n, t) => some (c.toNat / 32, c.toNat % 32, some n, b.length - t.length) := by
       unfold headOf
       rw [hd] <;> rfl
     rw [e0] at k
     refine ⟨_, rfl, _, rfl, a, _, _, _, rfl, rfl, SqL.of ha, atI_nat (vb_get hg), _, _, rfl, rfl, ⟨by decide, by decide⟩, ?_⟩
     refine ⟨_, rfl, _, rfl, a, _, _, _, rfl, rfl, SqL.of ha, atI_nat (vb_get hg), _, _, rfl, rfl, (by show (0 : Int) < 32; decide), ?_⟩
     refine ⟨_, rfl, _, _, rfl, rfl, _, rfl, ?_⟩
     refine ite2 (fun hi => ?_) (fun hi => ?_)
     · have hi' := of_decide_eq_true hi
       have hin : headIn (c.toNat % 32) r = some (c.toNat % 32, r) := by unfold headIn; rw [if_pos (by omega)]
       rw [if_neg (by omega), hin] at k
       dsimp only at k
       refine ⟨_, rfl, _, rfl, _, rfl, _, rfl, _, _, rfl, rfl, fun x dx nx nd ne => ?_⟩
       refine ⟨x, dx, c.toNat / 32, c.toNat % 32, at_ + 1, some (c.toNat % 32), ?_, upd_same, fun H2 h2 b2 => ⟨rfl, ?_⟩⟩
       · simp [onat]
       · refine k x H2 nx (made_same (Same.refl H) nx nd b2) ?_
         have e7 : b.length - r.length = at_ + 1 := by omega
         rw [e7]
         exact h2
     · have hi' : ¬ ((c.toNat : Int) % 32 < 24) := fun z => hi (decide_eq_true z)
       refine ⟨_, rfl, _, _, rfl, rfl, _, rfl, ?_⟩
       refine ite2 (fun hj => ?_) (fun hj => ?_)
       · have hj' := of_decide_eq_true hj
         rw [if_neg (by omega)] at k
         refine ⟨_, rfl, _, rfl, _, rfl, _, rfl, a, at_, c.toNat / 32, c.toNat % 32, b, ?_, ha, by omega, by omega, by omega, ?_⟩
         · simp
         · rw [hd1]
           cases hin : headIn (c.toNat % 32) r with
           | none => rw [hin] at k; exact k
           | some z => rw [hin] at k; exact k
       · have hj' : ¬ ((c.toNat : Int) % 32 ≤ 27) := fun z => hj (decide_eq_true z)
         have hin : headIn (c.toNat % 32) r = none := by unfold headIn; rw [if_neg (by omega), if_pos (by omega)]
         refine ⟨_, rfl, rfl, _, rfl, ?_⟩
         refine ite2 (fun h31 => ?_) (fun h31 => ?_)
         · have h31' : (c.toNat : Int) % 32 = 31 := by have := of_decide_eq_true h31; injection this
           refine ⟨_, rfl, _, _, rfl, rfl, _, rfl, ?_⟩
           refine ite2 (fun h2 => ?_) (fun h2 => ?_)
           · have h2' := of_decide_eq_true h2
             refine ⟨_, _, rfl, rfl, _, rfl, ?_⟩
             refine ite2 (fun h5 => ?_) (fun h5 => ?_)
             · have h5' := of_decide_eq_true h5
               rw [if_pos (by omega)] at k
               dsimp only at k
               refine ⟨_, rfl, _, rfl, _, rfl, _, _, rfl, rfl, fun x dx nx nd ne => ?_⟩
               refine ⟨x, dx, c.toNat / 32, 31, at_ + 1, none, ?_, upd_same, fun H2 h2 b2 => ⟨rfl, k x H2 nx (made_same (Same.refl H) nx nd b2) h2⟩⟩
               · simp [onat, h31']
             · have h5' : ¬ ((c.toNat : Int) / 32 ≤ 5) := fun z => h5 (decide_eq_true z)
               rw [if_neg (by omega), hin] at k
               exact k
           · have h2' : ¬ ((2 : Int) ≤ (c.toNat : Int) / 32) := fun z => h2 (decide_eq_true z)
             rw [if_neg (by omega), hin] at k
             exact ⟨_, rfl, iteF k⟩
         · have h31' : ¬ ((c.toNat : Int) % 32 = 31) := fun z => h31 (decide_eq_true (congrArg V.int z))
           rw [if_neg (by omega), hin] at k
           exact iteF k
end
end My
end
section
namespace My
open PySem PySem.Spec PyProof.Rows L2 Of Pu
section
variable {P : Program} {w : World} {K : PySem.W.Frag} {mg : Str → Option Value} {base : Heap}
noncomputable def spWH : Sp := fun vs H Q _ => ∃ (m i n : Nat), vs = [.int m, .int i, .int n] ∧ m ≤ 7 ∧ 24 ≤ i ∧ i ≤ 27 ∧ Ret H Q (vb (byte m i :: be (2 ^ (i - 24)) n))
theorem scWH : FnScope ["major", "info", "number", "head", "place"] ["major", "info", "number"] (defScope (top 24)) := ⟨rfl, rfl, rfl, by decide +kernel, rfl, by decide +kernel, by decide +kernel⟩
theorem ok_WH (T : Tx P w K mg) {f : Addr} {fd : FuncData} (F : Fun K "wide_head" "wide_head" (top 24) f fd) (DW : Dfn P w K mg base 1 "width" ["info"] spWidth) : FnOk P w K mg base (CXE P w) 2 f fd ["major", "info", "number"] spWH := by
 refine F.okE scWH (fun vs H Q E h => ?_) (fun cdv A outer s H vs Q E hr h => ?_)
 · obtain ⟨m, i, n, rfl, _⟩ := h
   rfl
 · obtain ⟨m, i, n, rfl, hm, h1, h2, k⟩ := h
   refine ⟨_, pss_cons (ps_set (i := 3) scWH.nd rfl (Or.inl rfl) (pe_lst (pa_cons (pe_op op_add (pe_op op_mul pe_int (pv 0)) (pv 1)) pa_nil)))
     (pss_cons (ps_for PassesOwn.leaving rfl (pi_range2 rfl T.range (pa_cons pe_int (pa_cons (pe_op op_add (pe_d DW pass_fly hr (pa_cons (pv 1) pa_nil)) pe_int) pa_nil))) (pg_name (i := 4) scWH.nd rfl (Or.inl rfl))
       (pss_one (ps_expr (pe_bm PySem.F.plainAttrs_list PySem.F.slot_list_append PySem.F.type_list_append mt_append (pv 3) (pa_cons (pe_op op_mod (pe_op op_shr (pv 2) (pe_op op_mul pe_int (pe_op op_sub (pe_d DW pass_fly hr (pa_cons (pv 1) pa_nil)) (pv 4)))) pe_int) pa_nil)))))
     (pss_one (ps_ret (pv 3)))), ?_⟩
   generalize hw : 2 ^ (i - 24) = wd at k
   have wd8 : wd ≤ 8 := by
     rw [← hw]
     obtain rfl | rfl | rfl | rfl : i = 24 ∨ i = 25 ∨ i = 26 ∨ i = 27 := by omega
     all_goals decide
   refine ⟨_, rfl, _, _, rfl, rfl, .inl ⟨by decide, by decide⟩, _, rfl, _, _, rfl, rfl, (by show 1 ≤ sizeLine; decide), fun q hq => ?_⟩
   refine ⟨_, rfl, i, rfl, h1, h2, _, _, rfl, rfl, _, _, rfl, ⟨by decide, by decide, by rw [hw]; omega, by rw [hw]; omega⟩, ?_⟩
   have e0 : ((((2 ^ (i - 24) : Nat) : Int) + 1 - 1).toNat) = wd := by rw [hw]; omega
   rw [e0]
   refine for_range (lo := 1) (n := wd) (fun j σ H' => ∃ v : Option V, σ = [some (.int m), some (.int i), some (.int n), some (.ref q), v] ∧ H' = upd H q (.lst (vb (byte m i :: (be wd n).take j)))) ⟨none, rfl, ?_⟩ ?_ ?_
   · rw [List.take_zero]
     show upd H q (.lst [V.int (32 * (m : Int) + (i : Int))]) = upd H q (.lst [V.int ((byte m i).toNat : Int)])
     rw [byte_toNat (by omega)]
     simp
   · rintro j σ H' hj ⟨v, rfl, rfl⟩
     refine ⟨_, rfl, .inl ⟨rfl, _, SqL.of upd_same⟩, _, rfl, _, rfl, i, rfl, h1, h2, _, rfl, _, _, rfl, rfl, _, _, rfl, rfl, .inl ⟨by decide, by decide⟩, _, _, rfl, rfl, (by show (0 : Int) ≤ 8 * (((2 ^ (i - 24) : Nat) : Int) - (1 + (j : Int))); rw [hw]; omega), _, _, rfl, rfl, (by show (0 : Int) < 256; decide), q, _, _, rfl, rfl, upd_same, ?_, ?_⟩
     · rw [vb_length, List.length_cons, List.length_take, be_length, sizeLine_eq]
       omega
     · refine ⟨some (.int (1 + (j : Int))), rfl, ?_⟩
       rw [upd_upd, be_take_snoc hj]
       have ev : (n : Int) / 2 ^ ((8 : Int) * (((2 ^ (i - 24) : Nat) : Int) - (1 + (j : Int)))).toNat % 256 = (((UInt8.ofNat (n / 2 ^ (8 * (wd - 1 - j)))).toNat : Nat) : Int) := by
         rw [ofNat_toNat, hw]
         have : ((8 : Int) * ((wd : Int) - (1 + (j : Int)))).toNat = 8 * (wd - 1 - j) := by omega
         rw [this]
         simp
       show upd H q (.lst (vb (byte m i :: (be wd n).take j) ++ [V.int ((n : Int) / 2 ^ ((8 : Int) * (((2 ^ (i - 24) : Nat) : Int) - (1 + (j : Int)))).toNat % 256)])) = _
       rw [ev, ← List.cons_append, vb_append]
       rfl
   · rintro σ H' ⟨v, rfl, rfl⟩
     refine ⟨_, rfl, ?_⟩
     rw [List.take_of_length_le (by rw [be_length]; omega)]
     exact k.new hq
noncomputable def spSH : Sp := fun vs H Q _ => ∃ (m n : Nat), vs = [.int m, .int n] ∧ m ≤ 7 ∧ n < 2 ^ 64 ∧ Ret H Q (vb (short m n))
theorem scSH : FnScope ["major", "number", "info"] ["major", "number"] (defScope (top 25)) := ⟨rfl, rfl, rfl, by decide +kernel, rfl, by decide +kernel, by decide +kernel⟩
theorem ok_SH (T : Tx P w K mg) {f : Addr} {fd : FuncData} (F : Fun K "short_head" "short_head" (top 25) f fd) (DW : Dfn P w K mg base 1 "width" ["info"] spWidth) (DH : Dfn P w K mg base 2 "wide_head" ["major", "info", "number"] spWH) : FnOk P w K mg base (CXE P w) 3 f fd ["major", "number"] spSH := by
 refine F.okE scSH (fun vs H Q E h => ?_) (fun cdv A outer s H vs Q E hr h => ?_)
 · obtain ⟨m, n, rfl, _⟩ := h
   rfl
 · obtain ⟨m, n, rfl, hm, hn, k⟩ := h
   refine ⟨_, pss_cons (ps_if (pt_cmpR op_lt (pv 1) (pe_k T.kSW) (nomark _)) (pss_one (ps_ret (pe_lst (pa_cons (pe_op op_add (pe_op op_mul pe_int (pv 0)) (pv 1)) pa_nil)))) pss_nil)
     (pss_cons (ps_set (i := 2) scSH.nd rfl (Or.inl rfl) (pe_k T.kSW))
     (pss_cons (ps_while PassesOwn.leaving (pt_cmpR op_ne (pe_op op_shr (pv 1) (pe_op op_mul pe_int (pe_d DW pass_fly (hr.mono (by decide)) (pa_cons (pv 2) pa_nil)))) pe_int (nomark _)) (pss_one (ps_aug (i := 2) scSH.nd rfl (Or.inl rfl) pe_int ip_add)))
     (pss_one (ps_ret (pe_d DH pass_fly hr (pa_cons (pv 0) (pa_cons (pv 2) (pa_cons (pv 1) pa_nil)))))))), ?_⟩
   refine ⟨_, rfl, _, _, rfl, rfl, _, rfl, ?_⟩
   refine ite2 (fun hc => ?_) (fun hc => ?_)
   · have hc' := of_decide_eq_true hc
     refine ⟨_, rfl, _, _, rfl, rfl, .inl ⟨by decide, by decide⟩, _, rfl, _, _, rfl, rfl, (by show 1 ≤ sizeLine; decide), fun q hq => ?_⟩
     rw [short_small (by omega)] at k
     have := k.new hq
     have e : vb [byte m n] = [V.int (32 * (m : Int) + (n : Int))] := by
       unfold vb
       rw [List.map_cons, byte_toNat (by omega)]
       simp
     rw [e] at this
     exact this
   · have hc' : ¬ ((n : Int) < 24) := fun z => hc (decide_eq_true z)
     refine while_by (fun σ H' => ∃ i : Nat, σ = [some (.int m), some (.int n), some (.int i)] ∧ H' = H ∧ 24 ≤ i ∧ i ≤ 27 ∧ ∀ j, 24 ≤ j → j < i → 2 ^ (8 * 2 ^ (j - 24)) ≤ n)
       (fun σ _ => match σ with | [_, _, some (.int i)] => (28 - i).toNat | _ => 0) ⟨24, rfl, rfl, by omega, by omega, fun j _ _ => by omega⟩ ?_ ?_
     · rintro σ H' ⟨i, rfl, rfl, h1, h2, h3⟩
       refine ⟨_, rfl, _, rfl, i, rfl, h1, h2, _, _, rfl, rfl, .inl ⟨by decide, by decide⟩, _, _, rfl, rfl, (Int.mul_nonneg (by decide) (Int.natCast_nonneg _)), rfl, _, rfl, ?_⟩
       have en : ((8 : Int) * ((2 ^ (i - 24) : Nat) : Int)).toNat = 8 * 2 ^ (i - 24) := by omega
       have ev : (n : Int) / 2 ^ ((8 : Int) * ((2 ^ (i - 24) : Nat) : Int)).toNat = ((n / 2 ^ (8 * 2 ^ (i - 24)) : Nat) : Int) := by rw [en]; simp
       have eb : decide (V.int ((n : Int) / 2 ^ ((8 : Int) * ((2 ^ (i - 24) : Nat) : Int)).toNat) = V.int 0) = decide (n < 2 ^ (8 * 2 ^ (i - 24))) := by
         rw [ev]
         have hp : 0 < 2 ^ (8 * 2 ^ (i - 24)) := Nat.two_pow_pos _
         by_cases z : n < 2 ^ (8 * 2 ^ (i - 24))
         · rw [Nat.div_eq_of_lt z]; simp [z]
         · have : 0 < n / 2 ^ (8 * 2 ^ (i - 24)) := Nat.div_pos (by omega) hp
           refine (decide_eq_false fun q => ?_).trans (decide_eq_false z).symm
           injection q with q
           have q' := Int.natCast_eq_zero.mp q
           omega
       show if (!decide (V.int ((n : Int) / 2 ^ ((8 : Int) * ((2 ^ (i - 24) : Nat) : Int)).toNat) = V.int 0)) = true then _ else _
       rw [eb]
       by_cases z : n < 2 ^ (8 * 2 ^ (i - 24))
       · rw [decide_eq_true z]
         refine iteF ?_
         refine ⟨_, rfl, _, rfl, _, rfl, m, i, n, rfl, hm, h1, h2, ?_⟩
         rw [short_wide (by omega) h1 h2 z h3] at k
         exact k
       · rw [decide_eq_false z]
         refine iteT ?_
         have hi : i < 27 := by
           apply Nat.lt_of_le_of_ne h2
           intro q
           subst q
           exact z (by simpa using hn)
         refine ⟨_, rfl, _, _, rfl, rfl, ⟨i + 1, rfl, rfl, by omega, by omega, fun j a1 a2 => ?_⟩, ?_⟩
         · by_cases q : j = i
           · subst q; omega
           · exact h3 j a1 (by omega)
         · show ((28 : Int) - ((i : Int) + 1)).toNat < ((28 : Int) - (i : Int)).toNat
           omega
     · rintro σ H' Q1 Q2 hQ ⟨v, e1, v2, e2, i, e3, a1, a2, i1, i2, e4, e5, a3, i3, i4, e6, e7, a4, e8, kk, e9, q⟩
       exact ⟨v, e1, v2, e2, i, e3, a1, a2, i1, i2, e4, e5, a3, i3, i4, e6, e7, a4, e8, kk, e9, hQ _ _ q⟩
end
end My
end
section
namespace My
open PySem PySem.Spec PyProof.Rows L2 Of Pu
theorem chT {p q : Bool} {G : Bool → Prop} {A : Prop} (hA : G q → A) (h : G (p && q)) : if p = true then A else ∃ k, V.bl false = V.bl k ∧ G k := by
 cases p with
 | true => exact iteT (hA h)
 | false => exact iteF ⟨_, rfl, h⟩
theorem chV {p q : Bool} {G : Bool → Prop} {A B : Prop} (hA : G q → A) (hB : G false → B) (h : G (p && q)) : if p = true then A else B := by
 cases p with
 | true => exact iteT (hA h)
 | false => exact iteF (hB h)
theorem iteB {b : Bool} {A B : Prop} (h1 : b = true → A) (h2 : b = false → B) : if b = true then A else B := by
 cases b with
 | true => exact iteT (h1 rfl)
 | false => exact iteF (h2 rfl)
section
variable {P : Program} {w : World} {K : PySem.W.Frag} {mg : Str → Option Value} {base : Heap}
noncomputable def spCL : Sp := fun vs H Q _ => ∃ (c : Nat), vs = [.int c] ∧ Q (.int (clen c)) H
theorem scCL : FnScope ["first"] ["first"] (defScope (top 41)) := ⟨rfl, rfl, rfl, by decide +kernel, rfl, by decide +kernel, by decide +kernel⟩
theorem ok_CL (T : Tx P w K mg) {f : Addr} {fd : FuncData} (F : Fun K "character_length" "character_length" (top 41) f fd) : FnOk P w K mg base (CXE P w) 1 f fd ["first"] spCL := by
 refine F.okE scCL (fun vs H Q E h => ?_) (fun cdv A outer s H vs Q E hr h => ?_)
 · obtain ⟨c, rfl, _⟩ := h
   rfl
 · obtain ⟨c, rfl, k⟩ := h
   refine ⟨_, pss_cons (ps_if (pt_cmpR op_lt (pv 0) pe_int (nomark _)) (pss_one (ps_ret pe_int)) pss_nil)
     (pss_cons (ps_if (pt_chain op_le op_lt pe_int (pv 0) pe_int) (pss_one (ps_ret pe_int)) pss_nil)
     (pss_cons (ps_if (pt_chain op_le op_lt pe_int (pv 0) pe_int) (pss_one (ps_ret pe_int)) pss_nil)
     (pss_cons (ps_if (pt_chain op_le op_lt pe_int (pv 0) pe_int) (pss_one (ps_ret pe_int)) pss_nil)
     (pss_one (ps_ret pe_int))))), ?_⟩
   unfold clen at k
   refine ⟨_, rfl, _, _, rfl, rfl, _, rfl, iteB (fun h1 => ?_) (fun h1 => ?_)⟩
   · rw [if_pos (by have := of_decide_eq_true h1; omega)] at k
     exact k
   · rw [if_neg (by have := of_decide_eq_false h1; omega)] at k
     refine ⟨_, rfl, _, _, rfl, rfl, _, rfl, chT (fun g => ⟨_, _, rfl, rfl, _, rfl, g⟩) (iteB (fun h2 => ?_) (fun h2 => ?_))⟩
     · rw [if_pos (by rw [Bool.and_eq_true, decide_eq_true_eq, decide_eq_true_eq] at h2; omega)] at k
       exact k
     · rw [if_neg (by rw [Bool.and_eq_false_iff, decide_eq_false_iff_not, decide_eq_false_iff_not] at h2; omega)] at k
       refine ⟨_, rfl, _, _, rfl, rfl, _, rfl, chT (fun g => ⟨_, _, rfl, rfl, _, rfl, g⟩) (iteB (fun h3 => ?_) (fun h3 => ?_))⟩
       · rw [if_pos (by rw [Bool.and_eq_true, decide_eq_true_eq, decide_eq_true_eq] at h3; omega)] at k
         exact k
       · rw [if_neg (by rw [Bool.and_eq_false_iff, decide_eq_false_iff_not, decide_eq_false_iff_not] at h3; omega)] at k
         refine ⟨_, rfl, _, _, rfl, rfl, _, rfl, chT (fun g => ⟨_, _, rfl, rfl, _, rfl, g⟩) (iteB (fun h4 => ?_) (fun h4 => ?_))⟩
         · rw [if_pos (by rw [Bool.and_eq_true, decide_eq_true_eq, decide_eq_true_eq] at h4; omega)] at k
           exact k
         · rw [if_neg (by rw [Bool.and_eq_false_iff, decide_eq_false_iff_not, decide_eq_false_iff_not] at h4; omega)] at k
           exact k
noncomputable def spIC : Sp := fun vs H Q _ => ∃ (a : Addr) (b : Bytes), vs = [.ref a] ∧ H a = some (.lst (vb b)) ∧ 1 ≤ b.length ∧ b.length ≤ 4 ∧ ∀ H', Same H H' → Q (.bl (isChar b)) H'
theorem scIC : FnScope ["row", "length", "code", "byte"] ["row"] (defScope (top 42)) := ⟨rfl, rfl, rfl, by decide +kernel, rfl, by decide +kernel, by decide +kernel⟩
theorem codeOf_snoc (k : Nat) (a : UInt8) (r : Bytes) (c : UInt8) : codeOf k a (r ++ [c]) = codeOf k a r * 64 + c.toNat % 64 := by
 unfold codeOf; rw [List.foldl_append]; rfl
theorem small_at {n : Nat} (h1 : 2 ≤ n) (h2 : n ≤ 4) : atI ([0, 0, 128, 2048, 65536].map V.int) (n : Int) = some (V.int (least n : Nat)) := by
 obtain rfl | rfl | rfl : n = 2 ∨ n = 3 ∨ n = 4 := by omega
 all_goals rfl
theorem ok_IC (T : Tx P w K mg) {f : Addr} {fd : FuncData} (F : Fun K "is_character" "is_character" (top 42) f fd) : FnOk P w K mg base (CXE P w) 1 f fd ["row"] spIC := by
 refine F.okE scIC (fun vs H Q E h => ?_) (fun cdv A outer s H vs Q E hr h => ?_)
 · obtain ⟨a, b, rfl, _⟩ := h
   rfl
 · obtain ⟨a, b, rfl, ha, h1, h4, k⟩ := h
   refine ⟨_, pss_cons (ps_set (i := 1) scIC.nd rfl (Or.inl rfl) (pe_callB call_len_seq (by rfl) T.len PySem.boot_len (pa_cons (pv 0) pa_nil)))
     (pss_cons (ps_if (pt_cmpR op_eq (pv 1) pe_int (nomark _)) (pss_one (ps_ret pe_bl)) pss_nil)
     (pss_cons (ps_set (i := 2) scIC.nd rfl (Or.inl rfl) (pe_op op_mod (pe_ix ix_list (pv 0) pe_int (fun _ _ => rfl)) (pe_op op_shl pe_int (pe_op op_sub pe_int (pv 1)))))
     (pss_cons (ps_for PassesOwn.leaving rfl (pi_list (pe_slice sl_list (pv 0) (po_some pe_int) po_none)) (pg_name (i := 3) scIC.nd rfl (Or.inl rfl))
       (pss_cons (ps_if (pt_cmpR op_ne (pe_op op_fdiv (pv 3) pe_int) pe_int (nomark _)) (pss_one (ps_ret pe_bl)) pss_nil)
       (pss_one (ps_set (i := 2) scIC.nd rfl (Or.inl rfl) (pe_op op_add (pe_op op_mul (pv 2) pe_int) (pe_op op_mod (pv 3) pe_int))))))
     (pss_cons (ps_if (pt_chain op_le op_le (pe_k T.kFS) (pv 2) (pe_k T.kLS)) (pss_one (ps_ret pe_bl)) pss_nil)
     (pss_one (ps_ret (pe_chain op_le op_le (pe_ix ix_tup (pe_r T.mSm) (pv 1) (fun _ _ => rfl)) (pv 2) (pe_k T.kGRT)))))))), ?_⟩
   obtain ⟨c, r, rfl⟩ : ∃ c r, b = c :: r := by
     cases b with
     | nil => simp at h1
     | cons c r => exact ⟨c, r, rfl⟩
   rw [List.length_cons] at h1 h4
   refine ⟨_, rfl, a, _, rfl, .inl (SqL.of ha), ?_⟩
   refine ⟨_, rfl, rfl, _, rfl, iteB (fun he => ?_) (fun he => ?_)⟩
   · have he' : (((vb (c :: r)).length : Nat) : Int) = 1 := by have := of_decide_eq_true he; injection this
     rw [vb_length, List.length_cons] at he'
     have : r = [] := List.length_eq_zero_iff.mp (by omega)
     subst this
     exact k H (Same.refl H)
   · have he' : ¬ (((vb (c :: r)).length : Nat) : Int) = 1 := fun z => of_decide_eq_false he (congrArg V.int z)
     rw [vb_length, List.length_cons] at he'
     have hr0 : r ≠ [] := fun z => by subst z; simp at he'
     have hrl : 1 ≤ r.length := List.length_pos_iff.mpr hr0
     have ich : isChar (c :: r) = (r.all (fun b => b.toNat / 64 == 2) && okCode (r.length + 1) (codeOf (r.length + 1) c r)) := by
       cases r with
       | nil => exact absurd rfl hr0
       | cons _ _ => rfl
     refine ⟨_, rfl, a, _, _, _, rfl, rfl, SqL.of ha, (atI_nat (xs := vb (c :: r)) (j := 0) (v := V.int (c.toNat : Int)) rfl), _, rfl, _, _, rfl, rfl, _, _, rfl, rfl, ⟨?_, ?_, by decide⟩, _, _, rfl, rfl, ?_, ?_⟩
     · show (0 : Int) ≤ 7 - (((vb (c :: r)).length : Nat) : Int)
       rw [vb_length, List.length_cons]; omega
     · show (7 : Int) - (((vb (c :: r)).length : Nat) : Int) ≤ 1000000
       omega
     · show (0 : Int) < 1 * 2 ^ ((7 : Int) - (((vb (c :: r)).length : Nat) : Int)).toNat
       rw [Int.one_mul]
       exact Int.pow_pos (by decide)
     · have e0 : (c.toNat : Int) % (1 * 2 ^ ((7 : Int) - (((vb (c :: r)).length : Nat) : Int)).toNat) = ((codeOf (r.length + 1) c (r.take 0) : Nat) : Int) := by
         rw [vb_length, List.length_cons, Int.one_mul]
         have : ((7 : Int) - ((r.length + 1 : Nat) : Int)).toNat = 7 - (r.length + 1) := by omega
         rw [this]
         simp [codeOf]
       refine ⟨_, rfl, _, rfl, a, _, rfl, SqL.of ha, fun q hq => ?_⟩
       have ec : cutV (vb (c :: r)) (some 1) none = vb r := by
         have := cutV_from (b := c :: r) (lo := 1) (by simp)
         simpa using this
       rw [ec]
       refine ⟨q, rfl, ⟨_, SqL.of upd_same⟩, for_list (K := K) (a := q) (xs := vb r) (fun j σ H' => ∃ v : Option V, σ = [some (.ref a), some (.int (((vb (c :: r)).length : Nat) : Int)), some (.int ((codeOf (r.length + 1) c (r.take j) : Nat) : Int)), v] ∧ H' = upd H q (.lst (vb r)) ∧ (r.take j).all (fun b => b.toNat / 64 == 2) = true)
         ⟨none, congrArg (fun z => [some (V.ref a), some (.int (((vb (c :: r)).length : Nat) : Int)), some (.int z), none]) e0, rfl, by simp⟩ (fun j σ H' _ ⟨_, _, e, _⟩ => by rw [e]; exact SqL.of upd_same) ?_ ?_⟩
       · rintro j y σ H' hj ⟨v, rfl, rfl, hall⟩
         obtain ⟨d, hd, rfl⟩ := vb_inv hj
         refine ⟨_, rfl, _, _, rfl, rfl, ⟨by decide, by decide⟩, rfl, _, rfl, ?_⟩
         have e64 : (d.toNat : Int) / 64 = ((d.toNat / 64 : Nat) : Int) := by simp
         by_cases g : d.toNat / 64 = 2
         · have : decide (V.int ((d.toNat : Int) / 64) = V.int 2) = true := decide_eq_true (by rw [e64, g]; rfl)
           show if (!decide (V.int ((d.toNat : Int) / 64) = V.int 2)) = true then _ else _
           rw [this]
           refine iteF ?_
           have en : ((codeOf (r.length + 1) c (r.take j) : Nat) : Int) * 64 + (d.toNat : Int) % 64 = ((codeOf (r.length + 1) c (r.take (j + 1)) : Nat) : Int) := by
             rw [take_snoc hd, codeOf_snoc]; simp
           refine ⟨_, rfl, _, _, rfl, rfl, .inr ⟨by decide, by decide⟩, _, rfl, _, _, rfl, rfl, (by show (0 : Int) < 64; decide), _, _, rfl, rfl, ⟨some (.int d.toNat), congrArg (fun z => [some (V.ref a), some (.int (((vb (c :: r)).length : Nat) : Int)), some (.int z), some (.int d.toNat)]) en, rfl, ?_⟩⟩
           rw [take_snoc hd, List.all_append, hall]
           simp [g]
         · have : decide (V.int ((d.toNat : Int) / 64) = V.int 2) = false := decide_eq_false (fun z => by rw [e64] at z; injection z with z; omega)
           show if (!decide (V.int ((d.toNat : Int) / 64) = V.int 2)) = true then _ else _
           rw [this]
           refine iteT ?_
           have hf : isChar (c :: r) = false := by
             rw [ich]
             have : r.all (fun b => b.toNat / 64 == 2) = false := by
               rw [List.all_eq_false]
               exact ⟨d, List.mem_of_getElem? hd, by simp [g]⟩
             rw [this]
             rfl
           have := k _ (Same.upd hq (o := .lst (vb r)))
           rw [hf] at this
           exact this
       · rintro σ H' ⟨v, rfl, rfl, hall⟩
         have et : r.take (vb r).length = r := by rw [vb_length, List.take_length]
         rw [et] at hall ⊢
         have kk := k _ (Same.upd hq (o := .lst (vb r)))
         rw [ich, hall, Bool.true_and] at kk
         generalize hcd : codeOf (r.length + 1) c r = code at kk ⊢
         unfold okCode at kk
         refine ⟨_, rfl, _, _, rfl, rfl, _, rfl, chT (fun g => ⟨_, _, rfl, rfl, _, rfl, g⟩) (iteB (fun h2 => ?_) (fun h2 => ?_))⟩
         · have h2' : (decide (55296 ≤ code) && decide (code ≤ 57343)) = true := by
             rw [Bool.and_eq_true, decide_eq_true_eq, decide_eq_true_eq] at h2 ⊢; omega
           rw [h2'] at kk
           exact kk
         · have h2' : (decide (55296 ≤ code) && decide (code ≤ 57343)) = false := by
             rw [Bool.and_eq_false_iff, decide_eq_false_iff_not, decide_eq_false_iff_not] at h2 ⊢; omega
           rw [h2'] at kk
           have hsm : atI ([0, 0, 128, 2048, 65536].map V.int) (((vb (c :: r)).length : Nat) : Int) = some (V.int (least (r.length + 1) : Nat)) := by
             rw [vb_length, List.length_cons]
             exact small_at (by omega) (by omega)
           refine ⟨_, rfl, T.aSm, _, _, _, rfl, rfl, T.tSm _, hsm, _, rfl, _, _, rfl, rfl, _, rfl, chV (G := fun z => Q (.bl z) (upd H q (.lst (vb r)))) (q := decide ((code : Int) ≤ 1114111)) (fun g => ⟨_, _, rfl, rfl, g⟩) (fun g => g) ?_⟩
           · have ez : (decide (((least (r.length + 1) : Nat) : Int) ≤ (code : Int)) && decide ((code : Int) ≤ 1114111)) = (!false && (decide (least (r.length + 1) ≤ code) && decide (code ≤ 1114111))) := by
               simp
               congr 1
               · rw [decide_eq_decide]; omega
             show Q (.bl (decide (((least (r.length + 1) : Nat) : Int) ≤ (code : Int)) && decide ((code : Int) ≤ 1114111))) _
             rw [ez]
             exact kk
end
end My
end
section
namespace My
open PySem PySem.Spec PyProof.Rows L2 Of Pu
section
variable {P : Program} {w : World} {K : PySem.W.Frag} {mg : Str → Option Value} {base : Heap}
noncomputable def spU8 : Sp := fun vs H Q _ => ∃ (a : Addr) (b : Bytes), vs = [.ref a] ∧ H a = some (.lst (vb b)) ∧ ∀ H', Same H H' → Q (.bl (ut b)) H'
theorem scU8 : FnScope ["row", "at", "length"] ["row"] (defScope (top 40)) := ⟨rfl, rfl, rfl, by decide +kernel, rfl, by decide +kernel, by decide +kernel⟩
theorem ok_U8 (T : Tx P w K mg) {f : Addr} {fd : FuncData} (F : Fun K "is_utf8" "is_utf8" (top 40) f fd) (DC : Dfn P w K mg base 1 "character_length" ["first"] spCL) (DI : Dfn P w K mg base 1 "is_character" ["row"] spIC) : FnOk P w K mg base (CXE P w) 2 f fd ["row"] spU8 := by
 refine F.okE scU8 (fun vs H Q E h => ?_) (fun cdv A outer s H vs Q E hr h => ?_)
 · obtain ⟨a, b, rfl, _⟩ := h
   rfl
 · obtain ⟨a, b, rfl, ha, k⟩ := h
   refine ⟨_, pss_cons (ps_set (i := 1) scU8.nd rfl (Or.inl rfl) pe_int)
     (pss_cons (ps_while PassesOwn.leaving (pt_cmpR op_lt (pv 1) (pe_callB call_len_seq (by rfl) T.len PySem.boot_len (pa_cons (pv 0) pa_nil)) (nomark _))
       (pss_cons (ps_set (i := 2) scU8.nd rfl (Or.inl rfl) (pe_d DC pass_fly hr (pa_cons (pe_ix ix_list (pv 0) (pv 1) (fun _ _ => rfl)) pa_nil)))
       (pss_cons (ps_if (pw_or (pt_cmpR op_eq (pv 2) pe_int (nomark _)) (pw_or1 (pt_cmpR op_gt (pe_op op_add (pv 1) (pv 2)) (pe_callB call_len_seq (by rfl) T.len PySem.boot_len (pa_cons (pv 0) pa_nil)) (nomark _)))).pt (pss_one (ps_ret pe_bl)) pss_nil)
       (pss_cons (ps_if (pt_not (pt_val (pe_d DI pass_fly hr (pa_cons (pe_slice sl_list (pv 0) (po_some (pv 1)) (po_some (pe_op op_add (pv 1) (pv 2)))) pa_nil)))) (pss_one (ps_ret pe_bl)) pss_nil)
       (pss_one (ps_aug (i := 1) scU8.nd rfl (Or.inl rfl) (pv 2) ip_add))))))
     (pss_one (ps_ret pe_bl))), ?_⟩
   refine ⟨fun n σ H' => ∃ (j : Nat) (v : Option V), σ = [some (.ref a), some (.int j), v] ∧ Same H H' ∧ j ≤ b.length ∧ n = b.length - j ∧ ut b = ut (b.drop j), ⟨_, 0, none, rfl, Same.refl H, Nat.zero_le _, rfl, rfl⟩, ?_⟩
   rintro n σ H' ⟨j, v, rfl, hs, hj, rfl, hu⟩
   refine ⟨_, rfl, _, rfl, a, _, rfl, .inl (SqL.of (hs _ _ ha)), _, _, rfl, rfl, _, rfl, iteB (fun h1 => ?_) (fun h1 => ?_)⟩
   · have h1' := of_decide_eq_true h1
     rw [vb_length] at h1'
     obtain ⟨c, r, hd, hg⟩ := drop_cons (b := b) (a := j) (by omega)
     have hl := congrArg List.length hd
     rw [List.length_drop, List.length_cons] at hl
     rw [hd, ut_cons] at hu
     refine ⟨_, fun σ' H'' q => q, ?_⟩
     refine ⟨_, rfl, _, rfl, a, _, _, _, rfl, rfl, SqL.of (hs _ _ ha), atI_nat (vb_get hg), c.toNat, rfl, ?_⟩
     refine ⟨_, rfl, rfl, _, rfl, iteB (fun h2 => ?_) (fun h2 => ?_)⟩
     · have h2' : ((clen c.toNat : Nat) : Int) = 0 := by have := of_decide_eq_true h2; injection this
       rw [if_pos (.inl (by omega))] at hu
       rw [hu] at k
       exact iteT (k H' hs)
     · have h2' : ¬ ((clen c.toNat : Nat) : Int) = 0 := fun z => of_decide_eq_false h2 (congrArg V.int z)
       refine ⟨_, rfl, _, rfl, _, _, rfl, rfl, _, rfl, a, _, rfl, .inl (SqL.of (hs _ _ ha)), _, _, rfl, rfl, _, rfl, iteB (fun h3 => ?_) (fun h3 => ?_)⟩
       · have h3' := of_decide_eq_true h3
         rw [vb_length] at h3'
         rw [if_pos (.inr (by rw [List.length_cons]; omega))] at hu
         rw [hu] at k
         exact k H' hs
       · have h3' := of_decide_eq_false h3
         rw [vb_length] at h3'
         rw [if_neg (by rw [List.length_cons]; omega)] at hu
         have ec : cutV (vb b) (some (j : Int)) (some ((j : Int) + ((clen c.toNat : Nat) : Int))) = vb ((c :: r).take (clen c.toNat)) := by
           have := cutV_nat (b := b) (lo := j) (hi := j + clen c.toNat) (by omega)
           rw [hd] at this
           have e9 : j + clen c.toNat - j = clen c.toNat := by omega
           rw [e9] at this
           simpa using this
         refine ⟨_, rfl, _, rfl, _, rfl, _, rfl, _, rfl, _, _, rfl, rfl, _, rfl, a, _, rfl, SqL.of (hs _ _ ha), fun q hq => ?_⟩
         have s2 : Same H (upd H' q (.lst (cutV (vb b) (some (j : Int)) (some ((j : Int) + ((clen c.toNat : Nat) : Int)))))) := hs.trans (Same.upd hq)
         have c4 : clen c.toNat ≤ 4 := by unfold clen; split <;> (try split) <;> (try split) <;> (try split) <;> omega
         refine ⟨q, (c :: r).take (clen c.toNat), rfl, (by rw [upd_same, ec]), (by rw [List.length_take, List.length_cons]; omega), (by rw [List.length_take]; omega), fun H3 s3 => ⟨_, rfl, ?_⟩⟩
         cases hic : isChar ((c :: r).take (clen c.toNat)) with
         | false =>
           rw [hic, Bool.false_and] at hu
           rw [hu] at k
           exact iteT (k H3 (s2.trans s3))
         | true =>
           rw [hic, Bool.true_and] at hu
           refine iteF ⟨_, rfl, _, rfl, _, _, rfl, rfl, b.length - (j + clen c.toNat), by omega, j + clen c.toNat, some (.int (clen c.toNat : Nat)), ?_, s2.trans s3, by omega, rfl, ?_⟩
           · exact congrArg (fun z => [some (V.ref a), some (.int z), some (.int ((clen c.toNat : Nat) : Int))]) (show (j : Int) + ((clen c.toNat : Nat) : Int) = ((j + clen c.toNat : Nat) : Int) by omega)
           · rw [hu, ← hd, List.drop_drop]
   · have h1' := of_decide_eq_false h1
     rw [vb_length] at h1'
     rw [List.drop_of_length_le (by omega), ut_nil] at hu
     rw [hu] at k
     exact k H' hs
end
end My
end
section
namespace My
open PySem PySem.Spec PyProof.Rows L2 Of Pu
theorem pow_cast (k : Nat) : (2 : Int) ^ k = ((2 ^ k : Nat) : Int) := by simp
theorem fb52 (g : Fmt) : g.fbits ≤ 52 ∧ g.ebits ≤ 11 ∧ g.up ≤ 1050 ∧ 5 ≤ g.ebits := by cases g <;> decide
section
variable {P : Program} {w : World} {K : PySem.W.Frag} {mg : Str → Option Value} {base : Heap}
noncomputable def spF2 (r : Fmt → Nat → V) : Sp := fun vs H Q _ => ∃ (g : Fmt) (x : Nat), vs = [.int (g.first : Nat), .int x] ∧ x < 2 ^ g.bits ∧ Q (r g x) H
noncomputable def spSign : Sp := spF2 fun g x => .int (signN g x : Nat)
noncomputable def spExpo : Sp := spF2 fun g x => .int (expo g x : Nat)
noncomputable def spFrac : Sp := spF2 fun g x => .int (frac g x : Nat)
noncomputable def spTop : Sp := fun vs H Q _ => ∃ g : Fmt, vs = [.int (g.first : Nat)] ∧ Q (.int (topE g : Nat)) H
noncomputable def spInf : Sp := spF2 fun g x => .bl (isInfN g x)
noncomputable def spNan : Sp := spF2 fun g x => .bl (isNanN g x)
noncomputable def spSteps : Sp := spF2 fun g x => .int (stepsN g x : Nat)
noncomputable def spSize : Sp := fun vs H Q _ => ∃ (g : Fmt) (c : Nat), vs = [.int (g.first : Nat), .int c] ∧ Q (onat (sizeBits g c)) H
noncomputable def spNar : Sp := fun vs H Q _ => ∃ (g h : Fmt) (x : Nat), vs = [.int (g.first : Nat), .int x] ∧ g.first = h.first + 1 ∧ x < 2 ^ g.bits ∧ Q (onat (narrowTo g h x)) H
noncomputable def spSF : Sp := fun vs H Q _ => ∃ (g : Fmt) (x : Nat), vs = [.int (g.first : Nat), .int x] ∧ x < 2 ^ g.bits ∧ Ret H Q (vb (shortest g x))
theorem sc50 : FnScope ["info", "bits"] ["info", "bits"] (defScope (top 50)) := ⟨rfl, rfl, rfl, by decide +kernel, rfl, by decide +kernel, by decide +kernel⟩
theorem ok_Sign (T : Tx P w K mg) {f : Addr} {fd : FuncData} (F : Fun K "sign_of" "sign_of" (top 50) f fd) : FnOk P w K mg base (CXE P w) 1 f fd ["info", "bits"] spSign := by
 refine F.okE sc50 (fun vs H Q E h => ?_) (fun cdv A outer s H vs Q E hr h => ?_)
 · obtain ⟨g, x, rfl, _⟩ := h
   rfl
 · obtain ⟨g, x, rfl, hx, k⟩ := h
   refine ⟨_, pss_one (ps_ret (pe_op op_shr (pv 1) (pe_op op_add (pe_tab (pe_r T.mEB) (pv 0) (fun _ _ => rfl)) (pe_tab (pe_r T.mFB) (pv 0) (fun _ _ => rfl))))), ?_⟩
   refine ⟨_, rfl, _, rfl, T.aEB, _, _, rfl, rfl, T.tEB g, _, rfl, T.aFB, _, _, rfl, rfl, T.tFB g, _, _, rfl, rfl, _, _, rfl, rfl, by omega, ?_⟩
   have e : (x : Int) / 2 ^ ((g.ebits : Int) + (g.fbits : Int)).toNat = ((signN g x : Nat) : Int) := by
     have : ((g.ebits : Int) + (g.fbits : Int)).toNat = g.ebits + g.fbits := by omega
     rw [this, pow_cast]
     unfold signN
     simp
   show Q (.int ((x : Int) / 2 ^ ((g.ebits : Int) + (g.fbits : Int)).toNat)) H
   rw [e]
   exact k
theorem sc51 : FnScope ["info", "bits"] ["info", "bits"] (defScope (top 51)) := ⟨rfl, rfl, rfl, by decide +kernel, rfl, by decide +kernel, by decide +kernel⟩
theorem ok_Expo (T : Tx P w K mg) {f : Addr} {fd : FuncData} (F : Fun K "exponent_of" "exponent_of" (top 51) f fd) : FnOk P w K mg base (CXE P w) 1 f fd ["info", "bits"] spExpo := by
 refine F.okE sc51 (fun vs H Q E h => ?_) (fun cdv A outer s H vs Q E hr h => ?_)
 · obtain ⟨g, x, rfl, _⟩ := h
   rfl
 · obtain ⟨g, x, rfl, hx, k⟩ := h
   have fb := fb52 g
   refine ⟨_, pss_one (ps_ret (pe_op op_mod (pe_op op_shr (pv 1) (pe_tab (pe_r T.mFB) (pv 0) (fun _ _ => rfl))) (pe_op op_shl pe_int (pe_tab (pe_r T.mEB) (pv 0) (fun _ _ => rfl))))), ?_⟩
   refine ⟨_, rfl, _, rfl, T.aFB, _, _, rfl, rfl, T.tFB g, _, _, rfl, rfl, by omega, _, rfl, T.aEB, _, _, rfl, rfl, T.tEB g, _, _, rfl, rfl, ⟨by omega, by omega, by decide⟩, _, _, rfl, rfl, ?_, ?_⟩
   · show (0 : Int) < 1 * 2 ^ ((g.ebits : Int)).toNat
     rw [Int.one_mul]
     exact Int.pow_pos (by decide)
   · have e : (x : Int) / 2 ^ ((g.fbits : Int)).toNat % (1 * 2 ^ ((g.ebits : Int)).toNat) = ((expo g x : Nat) : Int) := by
       rw [Int.toNat_natCast, Int.toNat_natCast, Int.one_mul, pow_cast, pow_cast]
       unfold expo
       simp
     show Q (.int ((x : Int) / 2 ^ ((g.fbits : Int)).toNat % (1 * 2 ^ ((g.ebits : Int)).toNat))) H
     rw [e]
     exact k
theorem sc52 : FnScope ["info", "bits"] ["info", "bits"] (defScope (top 52)) := ⟨rfl, rfl, rfl, by decide +kernel, rfl, by decide +kernel, by decide +kernel⟩
theorem ok_Frac (T : Tx P w K mg) {f : Addr} {fd : FuncData} (F : Fun K "fraction_of" "fraction_of" (top 52) f fd) : FnOk P w K mg base (CXE P w) 1 f fd ["info", "bits"] spFrac := by
 refine F.okE sc52 (fun vs H Q E h => ?_) (fun cdv A outer s H vs Q E hr h => ?_)
 · obtain ⟨g, x, rfl, _⟩ := h
   rfl
 · obtain ⟨g, x, rfl, hx, k⟩ := h
   have fb := fb52 g
   refine ⟨_, pss_one (ps_ret (pe_op op_mod (pv 1) (pe_op op_shl pe_int (pe_tab (pe_r T.mFB) (pv 0) (fun _ _ => rfl))))), ?_⟩
   refine ⟨_, rfl, _, rfl, T.aFB, _, _, rfl, rfl, T.tFB g, _, _, rfl, rfl, ⟨by omega, by omega, by decide⟩, _, _, rfl, rfl, ?_, ?_⟩
   · show (0 : Int) < 1 * 2 ^ ((g.fbits : Int)).toNat
     rw [Int.one_mul]
     exact Int.pow_pos (by decide)
   · have e : (x : Int) % (1 * 2 ^ ((g.fbits : Int)).toNat) = ((frac g x : Nat) : Int) := by
       rw [Int.toNat_natCast, Int.one_mul, pow_cast]
       unfold frac
       simp
     show Q (.int ((x : Int) % (1 * 2 ^ ((g.fbits : Int)).toNat))) H
     rw [e]
     exact k
theorem sc53 : FnScope ["info"] ["info"] (defScope (top 53)) := ⟨rfl, rfl, rfl, by decide +kernel, rfl, by decide +kernel, by decide +kernel⟩
theorem ok_Top (T : Tx P w K mg) {f : Addr} {fd : FuncData} (F : Fun K "top_exponent" "top_exponent" (top 53) f fd) : FnOk P w K mg base (CXE P w) 1 f fd ["info"] spTop := by
 refine F.okE sc53 (fun vs H Q E h => ?_) (fun cdv A outer s H vs Q E hr h => ?_)
 · obtain ⟨g, rfl, _⟩ := h
   rfl
 · obtain ⟨g, rfl, k⟩ := h
   have fb := fb52 g
   refine ⟨_, pss_one (ps_ret (pe_op op_sub (pe_op op_shl pe_int (pe_tab (pe_r T.mEB) (pv 0) (fun _ _ => rfl))) pe_int)), ?_⟩
   refine ⟨_, rfl, T.aEB, _, _, rfl, rfl, T.tEB g, _, _, rfl, rfl, ⟨by omega, by omega, by decide⟩, _, _, rfl, rfl, ?_⟩
   have e : (1 : Int) * 2 ^ ((g.ebits : Int)).toNat - 1 = ((topE g : Nat) : Int) := by
     rw [Int.toNat_natCast, Int.one_mul, pow_cast]
     unfold topE
     have : 0 < 2 ^ g.ebits := Nat.two_pow_pos _
     omega
   show Q (.int ((1 : Int) * 2 ^ ((g.ebits : Int)).toNat - 1)) H
   rw [e]
   exact k
theorem sc54 : FnScope ["info", "bits"] ["info", "bits"] (defScope (top 54)) := ⟨rfl, rfl, rfl, by decide +kernel, rfl, by decide +kernel, by decide +kernel⟩
theorem ok_Inf (T : Tx P w K mg) {f : Addr} {fd : FuncData} (F : Fun K "is_infinite" "is_infinite" (top 54) f fd) (DE : Dfn P w K mg base 1 "exponent_of" ["info", "bits"] spExpo) (DF : Dfn P w K mg base 1 "fraction_of" ["info", "bits"] spFrac) (DT : Dfn P w K mg base 1 "top_exponent" ["info"] spTop) :
   FnOk P w K mg base (CXE P w) 2 f fd ["info", "bits"] spInf := by
 refine F.okE sc54 (fun vs H Q E h => ?_) (fun cdv A outer s H vs Q E hr h => ?_)
 · obtain ⟨g, x, rfl, _⟩ := h
   rfl
 · obtain ⟨g, x, rfl, hx, k⟩ := h
   refine ⟨_, pss_one (ps_ret (pe_and (pe_cmpR op_eq (pe_d DE pass_fly hr (pa_cons (pv 0) (pa_cons (pv 1) pa_nil))) (pe_d DT pass_fly hr (pa_cons (pv 0) pa_nil)) (nomark _)) (pe_one (pe_cmpR op_eq (pe_d DF pass_fly hr (pa_cons (pv 0) (pa_cons (pv 1) pa_nil))) pe_int (nomark _))))), ?_⟩
   refine ⟨_, rfl, _, rfl, g, x, rfl, hx, _, rfl, g, rfl, rfl, _, rfl, ?_⟩
   have e1 : decide (V.int ((expo g x : Nat) : Int) = V.int ((topE g : Nat) : Int)) = decide (expo g x = topE g) := by
     rw [decide_eq_decide]
     exact ⟨fun z => by injection z with z; omega, fun z => by rw [z]⟩
   have e2 : decide (V.int ((frac g x : Nat) : Int) = V.int 0) = decide (frac g x = 0) := by
     rw [decide_eq_decide]
     exact ⟨fun z => by injection z with z; omega, fun z => by rw [z]; rfl⟩
   show if decide (V.int ((expo g x : Nat) : Int) = V.int ((topE g : Nat) : Int)) = true then _ else _
   rw [e1]
   refine chV (G := fun z => Q (.bl z) H) (q := decide (frac g x = 0)) (fun q => ⟨_, rfl, _, rfl, g, x, rfl, hx, rfl, ?_⟩) (fun q => q) k
   rw [← e2] at q
   exact q
theorem sc55 : FnScope ["info", "bits"] ["info", "bits"] (defScope (top 55)) := ⟨rfl, rfl, rfl, by decide +kernel, rfl, by decide +kernel, by decide +kernel⟩
theorem ok_Nan (T : Tx P w K mg) {f : Addr} {fd : FuncData} (F : Fun K "is_no_number" "is_no_number" (top 55) f fd) (DE : Dfn P w K mg base 1 "exponent_of" ["info", "bits"] spExpo) (DF : Dfn P w K mg base 1 "fraction_of" ["info", "bits"] spFrac) (DT : Dfn P w K mg base 1 "top_exponent" ["info"] spTop) :
   FnOk P w K mg base (CXE P w) 2 f fd ["info", "bits"] spNan := by
 refine F.okE sc55 (fun vs H Q E h => ?_) (fun cdv A outer s H vs Q E hr h => ?_)
 · obtain ⟨g, x, rfl, _⟩ := h
   rfl
 · obtain ⟨g, x, rfl, hx, k⟩ := h
   refine ⟨_, pss_one (ps_ret (pe_and (pe_cmpR op_eq (pe_d DE pass_fly hr (pa_cons (pv 0) (pa_cons (pv 1) pa_nil))) (pe_d DT pass_fly hr (pa_cons (pv 0) pa_nil)) (nomark _)) (pe_one (pe_cmpR op_ne (pe_d DF pass_fly hr (pa_cons (pv 0) (pa_cons (pv 1) pa_nil))) pe_int (nomark _))))), ?_⟩
   refine ⟨_, rfl, _, rfl, g, x, rfl, hx, _, rfl, g, rfl, rfl, _, rfl, ?_⟩
   have e1 : decide (V.int ((expo g x : Nat) : Int) = V.int ((topE g : Nat) : Int)) = decide (expo g x = topE g) := by
     rw [decide_eq_decide]
     exact ⟨fun z => by injection z with z; omega, fun z => by rw [z]⟩
   have e2 : decide (V.int ((frac g x : Nat) : Int) = V.int 0) = decide (frac g x = 0) := by
     rw [decide_eq_decide]
     exact ⟨fun z => by injection z with z; omega, fun z => by rw [z]; rfl⟩
   show if decide (V.int ((expo g x : Nat) : Int) = V.int ((topE g : Nat) : Int)) = true then _ else _
   rw [e1]
   refine chV (G := fun z => Q (.bl z) H) (q := !decide (frac g x = 0)) (fun q => ⟨_, rfl, _, rfl, g, x, rfl, hx, rfl, ?_⟩) (fun q => q) k
   rw [← e2] at q
   exact q
theorem sc57 : FnScope ["info", "bits", "exponent", "fraction"] ["info", "bits"] (defScope (top 57)) := ⟨rfl, rfl, rfl, by decide +kernel, rfl, by decide +kernel, by decide +kernel⟩
theorem ok_Steps (T : Tx P w K mg) {f : Addr} {fd : FuncData} (F : Fun K "steps" "steps" (top 57) f fd) (DE : Dfn P w K mg base 1 "exponent_of" ["info", "bits"] spExpo) (DF : Dfn P w K mg base 1 "fraction_of" ["info", "bits"] spFrac) :
   FnOk P w K mg base (CXE P w) 2 f fd ["info", "bits"] spSteps := by
 refine F.okE sc57 (fun vs H Q E h => ?_) (fun cdv A outer s H vs Q E hr h => ?_)
 · obtain ⟨g, x, rfl, _⟩ := h
   rfl
 · obtain ⟨g, x, rfl, hx, k⟩ := h
   have fb := fb52 g
   have hfr : frac g x < 2 ^ 52 := Nat.lt_of_lt_of_le (Nat.mod_lt _ (Nat.two_pow_pos _)) (Nat.pow_le_pow_right (by omega) fb.1)
   have hF : 2 ^ g.fbits ≤ 2 ^ 52 := Nat.pow_le_pow_right (by omega) fb.1
   have hex : expo g x < 2 ^ 11 := Nat.lt_of_lt_of_le (Nat.mod_lt _ (Nat.two_pow_pos _)) (Nat.pow_le_pow_right (by omega) fb.2.1)
   refine ⟨_, pss_cons (ps_set (i := 2) sc57.nd rfl (Or.inl rfl) (pe_d DE pass_fly hr (pa_cons (pv 0) (pa_cons (pv 1) pa_nil))))
     (pss_cons (ps_set (i := 3) sc57.nd rfl (Or.inl rfl) (pe_d DF pass_fly hr (pa_cons (pv 0) (pa_cons (pv 1) pa_nil))))
     (pss_cons (ps_if (pt_cmpR op_eq (pv 2) pe_int (nomark _)) (pss_one (ps_ret (pe_op op_shl (pv 3) (pe_tab (pe_r T.mSP) (pv 0) (fun _ _ => rfl))))) pss_nil)
     (pss_one (ps_ret (pe_op op_shl (pe_op op_add (pv 3) (pe_op op_shl pe_int (pe_tab (pe_r T.mFB) (pv 0) (fun _ _ => rfl)))) (pe_op op_add (pe_op op_sub (pv 2) pe_int) (pe_tab (pe_r T.mSP) (pv 0) (fun _ _ => rfl)))))))), ?_⟩
   refine ⟨_, rfl, _, rfl, g, x, rfl, hx, _, rfl, _, rfl, g, x, rfl, hx, _, rfl, rfl, _, rfl, iteB (fun h0 => ?_) (fun h0 => ?_)⟩
   · have h0' : ((expo g x : Nat) : Int) = 0 := by have := of_decide_eq_true h0; injection this
     refine ⟨_, rfl, _, rfl, T.aSP, _, _, rfl, rfl, T.tSP g, _, _, rfl, rfl, ⟨by omega, by omega, by omega⟩, ?_⟩
     have e : ((frac g x : Nat) : Int) * 2 ^ ((g.up : Int)).toNat = ((stepsN g x : Nat) : Int) := by
       unfold stepsN
       rw [if_pos (by omega), Int.toNat_natCast, pow_cast]
       exact (Int.natCast_mul _ _).symm
     show Q (.int (((frac g x : Nat) : Int) * 2 ^ ((g.up : Int)).toNat)) H
     rw [e]
     exact k
   · have h0' : ¬ ((expo g x : Nat) : Int) = 0 := fun z => of_decide_eq_false h0 (congrArg V.int z)
     have e1 : (1 : Int) * 2 ^ ((g.fbits : Int)).toNat = ((2 ^ g.fbits : Nat) : Int) := by rw [Int.toNat_natCast, Int.one_mul, pow_cast]
     refine ⟨_, rfl, _, rfl, T.aFB, _, _, rfl, rfl, T.tFB g, _, _, rfl, rfl, ⟨by omega, by omega, by decide⟩, _, _, rfl, rfl, _, rfl, _, _, rfl, rfl, _, rfl, T.aSP, _, _, rfl, rfl, T.tSP g, _, _, rfl, rfl, _, _, rfl, rfl, ⟨?_, ?_, ?_⟩, ?_⟩
     · show (0 : Int) ≤ ((expo g x : Nat) : Int) - 1 + (g.up : Int)
       omega
     · show ((expo g x : Nat) : Int) - 1 + (g.up : Int) ≤ 1000000
       omega
     · show (((frac g x : Nat) : Int) + 1 * 2 ^ ((g.fbits : Int)).toNat).natAbs < 2 ^ 64
       rw [e1, ← Int.natCast_add, Int.natAbs_natCast]
       omega
     · have e : (((frac g x : Nat) : Int) + 1 * 2 ^ ((g.fbits : Int)).toNat) * 2 ^ (((expo g x : Nat) : Int) - 1 + (g.up : Int)).toNat = ((stepsN g x : Nat) : Int) := by
         unfold stepsN
         have : (((expo g x : Nat) : Int) - 1 + (g.up : Int)).toNat = expo g x - 1 + g.up := by omega
         rw [if_neg (by omega), e1, this, pow_cast, ← Int.natCast_add]
         exact (Int.natCast_mul _ _).symm
       show Q (.int ((((frac g x : Nat) : Int) + 1 * 2 ^ ((g.fbits : Int)).toNat) * 2 ^ (((expo g x : Nat) : Int) - 1 + (g.up : Int)).toNat)) H
       rw [e]
       exact k
end
end My
end
section
namespace My
open PySem PySem.Spec PyProof.Rows L2 Of Pu
theorem intBits_nat (n : Nat) : Builtin.Int.intBits (n : Int) = bitLen n := by
 unfold Builtin.Int.intBits bitLen
 by_cases h : n = 0
 · subst h; rfl
 · rw [if_neg h, if_neg (by simp; exact h), Int.natAbs_natCast]
theorem subG {i : Nat} {v : V} {σ σ' : L2.St} {H : Hp} {Q : L2.St → Hp → Prop} (e : σ.set i (some v) = σ') (h : Q σ' H) : gName i v σ H Q := by unfold gName; rw [e]; exact h
section
variable {P : Program} {w : World} {K : PySem.W.Frag} {mg : Str → Option Value} {base : Heap}
theorem sc58 : FnScope ["info", "count", "own_steps", "fraction_bits", "exponent", "fraction"] ["info", "count"] (defScope (top 58)) := ⟨rfl, rfl, rfl, by decide +kernel, rfl, by decide +kernel, by decide +kernel⟩
theorem ok_Size (T : Tx P w K mg) {f : Addr} {fd : FuncData} (F : Fun K "size_bits" "size_bits" (top 58) f fd) (DT : Dfn P w K mg base 1 "top_exponent" ["info"] spTop) : FnOk P w K mg base (CXE P w) 2 f fd ["info", "count"] spSize := by
 refine F.okE sc58 (fun vs H Q E h => ?_) (fun cdv A outer s H vs Q E hr h => ?_)
 · obtain ⟨g, x, rfl, _⟩ := h
   rfl
 · obtain ⟨g, c, rfl, k⟩ := h
   have fb := fb52 g
   have htop : topE g < 2 ^ 11 := by cases g <;> decide
   refine ⟨_, pss_cons (ps_if (pt_cmpR op_ne (pe_op op_mod (pv 1) (pe_op op_shl pe_int (pe_tab (pe_r T.mSP) (pv 0) (fun _ _ => rfl)))) pe_int (nomark _)) (pss_one (ps_ret pe_non)) pss_nil)
     (pss_cons (ps_set (i := 2) sc58.nd rfl (Or.inl rfl) (pe_op op_shr (pv 1) (pe_tab (pe_r T.mSP) (pv 0) (fun _ _ => rfl))))
     (pss_cons (ps_set (i := 3) sc58.nd rfl (Or.inl rfl) (pe_tab (pe_r T.mFB) (pv 0) (fun _ _ => rfl)))
     (pss_cons (ps_set (i := 4) sc58.nd rfl (Or.inl rfl) (pe_op op_sub (pe_bm0 PySem.F.plainAttrs_int slot_int_bit_length type_int_bit_length mt_bits (pv 2)) (pv 3)))
     (pss_cons (ps_if (pt_cmpR op_le (pv 4) pe_int (nomark _)) (pss_one (ps_ret (pv 2))) pss_nil)
     (pss_cons (ps_if (pt_cmpR op_ge (pv 4) (pe_d DT pass_fly hr (pa_cons (pv 0) pa_nil)) (nomark _)) (pss_one (ps_ret pe_non)) pss_nil)
     (pss_cons (ps_if (pt_cmpR op_ne (pe_op op_mod (pv 2) (pe_op op_shl pe_int (pe_op op_sub (pv 4) pe_int))) pe_int (nomark _)) (pss_one (ps_ret pe_non)) pss_nil)
     (pss_cons (ps_set (i := 5) sc58.nd rfl (Or.inl rfl) (pe_op op_sub (pe_op op_shr (pv 2) (pe_op op_sub (pv 4) pe_int)) (pe_op op_shl pe_int (pv 3))))
     (pss_one (ps_ret (pe_op op_add (pe_op op_shl (pv 4) (pv 3)) (pv 5)))))))))))
     , ?_⟩
   have eU : (1 : Int) * 2 ^ ((g.up : Int)).toNat = ((2 ^ g.up : Nat) : Int) := by rw [Int.toNat_natCast, Int.one_mul, pow_cast]
   have hU : 0 < 2 ^ g.up := Nat.two_pow_pos _
   refine ⟨_, rfl, _, rfl, T.aSP, _, _, rfl, rfl, T.tSP g, _, _, rfl, rfl, ⟨by omega, by omega, by decide⟩, _, _, rfl, rfl, ?_, rfl, _, rfl, ?_⟩
   · show (0 : Int) < 1 * 2 ^ ((g.up : Int)).toNat
     rw [eU]; omega
   show if (!decide (V.int ((c : Int) % (1 * 2 ^ ((g.up : Int)).toNat)) = V.int 0)) = true then _ else _
   rw [eU]
   unfold sizeBits at k
   by_cases h1 : c % 2 ^ g.up = 0
   · rw [if_neg (by simpa using h1)] at k
     rw [decide_eq_true (show V.int ((c : Int) % ((2 ^ g.up : Nat) : Int)) = V.int 0 by rw [← Int.natCast_emod, h1]; rfl)]
     refine iteF ?_
     refine ⟨_, rfl, _, rfl, T.aSP, _, _, rfl, rfl, T.tSP g, _, _, rfl, rfl, by omega, ?_⟩
     refine ⟨_, rfl, T.aFB, _, _, rfl, rfl, T.tFB g, ?_⟩
     have eo : (c : Int) / 2 ^ ((g.up : Int)).toNat = ((c / 2 ^ g.up : Nat) : Int) := by rw [Int.toNat_natCast, pow_cast]; exact (Int.natCast_ediv _ _).symm
     refine ⟨_, rfl, rfl, _, rfl, rfl, _, rfl, _, _, rfl, rfl, ?_⟩
     generalize ho : c / 2 ^ g.up = own at k eo
     have eb : Builtin.Int.intBits ((c : Int) / 2 ^ ((g.up : Int)).toNat) = bitLen own := by rw [eo, intBits_nat]
     refine subG (σ' := [some (.int (g.first : Nat)), some (.int c), some (.int own), some (.int (g.fbits : Nat)), some (.int (((bitLen own : Nat) : Int) - ((g.fbits : Nat) : Int))), none]) ?_ ?_
     · rw [← eb, ← eo]
       rfl
     refine ⟨_, rfl, _, _, rfl, rfl, _, rfl, iteB (fun h2 => ?_) (fun h2 => ?_)⟩
     · have h2' := of_decide_eq_true h2
       rw [if_pos (by omega)] at k
       exact ⟨_, rfl, k⟩
     · have h2' := of_decide_eq_false h2
       rw [if_neg (by omega)] at k
       obtain ⟨e, he⟩ : ∃ e, bitLen own = e + 1 + g.fbits := ⟨bitLen own - 1 - g.fbits, by omega⟩
       have ee : bitLen own - g.fbits = e + 1 := by omega
       rw [ee] at k
       rw [he]
       refine ⟨_, rfl, _, rfl, g, rfl, _, _, rfl, rfl, _, rfl, iteB (fun h3 => ?_) (fun h3 => ?_)⟩
       · have h3' := of_decide_eq_true h3
         rw [if_pos (by omega)] at k
         exact k
       · have h3' := of_decide_eq_false h3
         rw [if_neg (by omega)] at k
         have eE : (1 : Int) * 2 ^ ((((e + 1 + g.fbits : Nat) : Int) - ((g.fbits : Nat) : Int)) - 1).toNat = ((2 ^ e : Nat) : Int) := by
           have : ((((e + 1 + g.fbits : Nat) : Int) - ((g.fbits : Nat) : Int)) - 1).toNat = e := by omega
           rw [this, Int.one_mul, pow_cast]
         have hE : 0 < 2 ^ e := Nat.two_pow_pos _
         refine ⟨_, rfl, _, rfl, _, _, rfl, rfl, _, _, rfl, rfl, ⟨?_, ?_, by decide⟩, _, _, rfl, rfl, ?_, rfl, _, rfl, ?_⟩
         · show (0 : Int) ≤ (((e + 1 + g.fbits : Nat) : Int) - ((g.fbits : Nat) : Int)) - 1
           omega
         · show (((e + 1 + g.fbits : Nat) : Int) - ((g.fbits : Nat) : Int)) - 1 ≤ 1000000
           omega
         · show (0 : Int) < 1 * 2 ^ ((((e + 1 + g.fbits : Nat) : Int) - ((g.fbits : Nat) : Int)) - 1).toNat
           rw [eE]; omega
         show if (!decide (V.int ((own : Int) % (1 * 2 ^ ((((e + 1 + g.fbits : Nat) : Int) - ((g.fbits : Nat) : Int)) - 1).toNat)) = V.int 0)) = true then _ else _
         rw [eE]
         have q0 : e + 1 - 1 = e := rfl
         rw [q0] at k
         by_cases h4 : own % 2 ^ e = 0
         · rw [if_neg (by simpa using h4)] at k
           rw [decide_eq_true (show V.int ((own : Int) % ((2 ^ e : Nat) : Int)) = V.int 0 by rw [← Int.natCast_emod, h4]; rfl)]
           refine iteF ?_
           have eE2 : ((((e + 1 + g.fbits : Nat) : Int) - ((g.fbits : Nat) : Int)) - 1).toNat = e := by omega
           have eF : (1 : Int) * 2 ^ ((g.fbits : Int)).toNat = ((2 ^ g.fbits : Nat) : Int) := by rw [Int.toNat_natCast, Int.one_mul, pow_cast]
           have o0 : own ≠ 0 := fun z => by rw [z] at he; simp [bitLen] at he; omega
           have big : 2 ^ g.fbits ≤ own / 2 ^ e := by
             rw [Nat.le_div_iff_mul_le hE, ← Nat.pow_add]
             refine (Nat.le_log2 o0).mp ?_
             unfold bitLen at he
             rw [if_neg o0] at he
             omega
           refine ⟨_, rfl, _, rfl, _, _, rfl, rfl, _, _, rfl, rfl, (by show (0 : Int) ≤ (((e + 1 + g.fbits : Nat) : Int) - ((g.fbits : Nat) : Int)) - 1; omega), _, rfl, _, _, rfl, rfl, ⟨by omega, by omega, by decide⟩, _, _, rfl, rfl, ?_⟩
           refine ⟨_, rfl, _, rfl, _, _, rfl, rfl, ⟨by omega, by omega, ?_⟩, _, rfl, _, _, rfl, rfl, ?_⟩
           · show ((((e + 1 + g.fbits : Nat) : Int) - ((g.fbits : Nat) : Int))).natAbs < 2 ^ 64
             omega
           · have ev : (((e + 1 + g.fbits : Nat) : Int) - ((g.fbits : Nat) : Int)) * 2 ^ ((g.fbits : Int)).toNat + ((own : Int) / 2 ^ ((((e + 1 + g.fbits : Nat) : Int) - ((g.fbits : Nat) : Int)) - 1).toNat - 1 * 2 ^ ((g.fbits : Int)).toNat) = (((e + 1) * 2 ^ g.fbits + (own / 2 ^ e - 2 ^ g.fbits) : Nat) : Int) := by
               have a1 : (((e + 1 + g.fbits : Nat) : Int) - ((g.fbits : Nat) : Int)) = ((e + 1 : Nat) : Int) := by omega
               have a2 : (own : Int) / 2 ^ e = ((own / 2 ^ e : Nat) : Int) := by rw [pow_cast]; exact (Int.natCast_ediv _ _).symm
               rw [eE2, eF, a1, a2, Int.toNat_natCast, pow_cast, Int.natCast_add ((e + 1) * 2 ^ g.fbits), Int.natCast_mul (e + 1), Int.natCast_sub big]
             show Q (.int ((((e + 1 + g.fbits : Nat) : Int) - ((g.fbits : Nat) : Int)) * 2 ^ ((g.fbits : Int)).toNat + ((own : Int) / 2 ^ ((((e + 1 + g.fbits : Nat) : Int) - ((g.fbits : Nat) : Int)) - 1).toNat - 1 * 2 ^ ((g.fbits : Int)).toNat))) H
             rw [ev]
             exact k
         · rw [if_pos h4] at k
           rw [decide_eq_false (fun z => by rw [← Int.natCast_emod] at z; injection z with z; exact h4 (Int.natCast_eq_zero.mp z))]
           exact iteT k
   · rw [if_pos h1] at k
     rw [decide_eq_false (fun z => by rw [← Int.natCast_emod] at z; injection z with z; exact h1 (Int.natCast_eq_zero.mp z))]
     exact iteT k
end
end My
end
section
namespace My
open PySem PySem.Spec PyProof.Rows L2 Of Pu
theorem onat_non {o : Option Nat} : decide (onat o = V.non) = o.isNone := by cases o <;> rfl
theorem floating_wide (g : Fmt) (x : Nat) : byte 7 g.first :: be (2 ^ (g.first - 24)) x = floating g x := by cases g <;> rfl
theorem narrow_ok {g h : Fmt} {x z : Nat} (hx : x < 2 ^ g.bits) (hn : isNanN g x = false) (e : narrowTo g h x = some z) : z < 2 ^ h.bits ∧ isNanN h z = false := by
 obtain ⟨s, m, e1, e2⟩ := narrow_bits (h := h) hx hn
 rw [e2] at e
 obtain ⟨k1, k2⟩ := bitsFor_means e
 refine ⟨k2, ?_⟩
 rw [meaning_eq] at k1
 cases c : isNanN h z with
 | false => rfl
 | true => rw [if_pos c] at k1; cases k1
section
variable {P : Program} {w : World} {K : PySem.W.Frag} {mg : Str → Option Value} {base : Heap}
theorem sc56 : FnScope ["info", "bits", "shorter", "size", "sign"] ["info", "bits"] (defScope (top 56)) := ⟨rfl, rfl, rfl, by decide +kernel, rfl, by decide +kernel, by decide +kernel⟩
theorem ok_Nar (T : Tx P w K mg) {f : Addr} {fd : FuncData} (F : Fun K "narrowed" "narrowed" (top 56) f fd) (DI : Dfn P w K mg base 2 "is_infinite" ["info", "bits"] spInf) (DT : Dfn P w K mg base 1 "top_exponent" ["info"] spTop)
   (DZ : Dfn P w K mg base 2 "size_bits" ["info", "count"] spSize) (DS : Dfn P w K mg base 2 "steps" ["info", "bits"] spSteps) (DG : Dfn P w K mg base 1 "sign_of" ["info", "bits"] spSign) : FnOk P w K mg base (CXE P w) 3 f fd ["info", "bits"] spNar := by
 refine F.okE sc56 (fun vs H Q E h => ?_) (fun cdv A outer s H vs Q E hr h => ?_)
 · obtain ⟨g, h, x, rfl, _⟩ := h
   rfl
 · obtain ⟨g, h, x, rfl, hgh, hx, k⟩ := h
   have fb := fb52 h
   have hr1 := hr.mono (j := 1) (by decide)
   refine ⟨_, pss_cons (ps_set (i := 2) sc56.nd rfl (Or.inl rfl) (pe_op op_sub (pv 0) pe_int))
     (pss_cons (ps_if (pt_val (pe_d DI pass_fly hr (pa_cons (pv 0) (pa_cons (pv 1) pa_nil))))
       (pss_one (ps_set (i := 3) sc56.nd rfl (Or.inl rfl) (pe_op op_shl (pe_d DT pass_fly hr1 (pa_cons (pv 2) pa_nil)) (pe_tab (pe_r T.mFB) (pv 2) (fun _ _ => rfl)))))
       (pss_one (ps_set (i := 3) sc56.nd rfl (Or.inl rfl) (pe_d DZ pass_fly hr (pa_cons (pv 2) (pa_cons (pe_d DS pass_fly hr (pa_cons (pv 0) (pa_cons (pv 1) pa_nil))) pa_nil))))))
     (pss_cons (ps_if (pt_cmp (pc_isN (pv 3))) (pss_one (ps_ret pe_non)) pss_nil)
     (pss_cons (ps_set (i := 4) sc56.nd rfl (Or.inl rfl) (pe_d DG pass_fly hr1 (pa_cons (pv 0) (pa_cons (pv 1) pa_nil))))
     (pss_one (ps_ret (pe_op op_add (pe_op op_shl (pv 4) (pe_op op_add (pe_tab (pe_r T.mEB) (pv 2) (fun _ _ => rfl)) (pe_tab (pe_r T.mFB) (pv 2) (fun _ _ => rfl)))) (pv 3))))))), ?_⟩
   refine ⟨_, rfl, _, _, rfl, rfl, ?_⟩
   refine subG (σ' := [some (.int (g.first : Nat)), some (.int x), some (.int (h.first : Nat)), none, none]) ?_ ?_
   · exact congrArg (fun z => [some (V.int (g.first : Nat)), some (.int x), some (.int z), none, none]) (show ((g.first : Nat) : Int) - 1 = ((h.first : Nat) : Int) by omega)
   have rest : ∀ o : Option Nat, onat (narrowTo g h x) = onat (o.map fun v => signN g x * 2 ^ (h.ebits + h.fbits) + v) → tSeq (tIfS (tB (tIsN (tVar 3))) (tRet (tC V.non)) tNext) (tSeq (tAsg (tCall spSign [] E (tCons (tVar 0) (tCons (tVar 1) tNil))) (gName 4)) (tRet (tOp (rI0 fun i j => V.int (i + j)) (tOp (rI CPow fun i j => V.int (i * 2 ^ j.toNat)) (tVar 4) (tOp (rI0 fun i j => V.int (i + j)) (tTab P w K (tC (V.ref T.aEB)) (tVar 2)) (tTab P w K (tC (V.ref T.aFB)) (tVar 2)))) (tVar 3))))
       { nx := fun _ H' => Q .non H', rt := Q } [some (.int (g.first : Nat)), some (.int x), some (.int (h.first : Nat)), some (onat o), none] H := by
     intro o ho
     rw [ho] at k
     refine ⟨_, rfl, _, rfl, ?_⟩
     rw [onat_non]
     cases o with
     | none => exact iteT k
     | some v =>
       refine iteF ?_
       have hs1 : signN g x ≤ 1 := by
         unfold signN
         have : x < 2 * 2 ^ (g.ebits + g.fbits) := by
           have hB : 2 ^ g.bits = 2 * 2 ^ (g.ebits + g.fbits) := by unfold Fmt.bits; rw [Nat.add_assoc, Nat.add_comm 1, Nat.pow_succ, Nat.mul_comm]
           omega
         have := Nat.div_lt_of_lt_mul (show x < 2 ^ (g.ebits + g.fbits) * 2 by omega)
         omega
       refine ⟨_, rfl, _, rfl, g, x, rfl, hx, _, rfl, _, rfl, T.aEB, _, _, rfl, rfl, T.tEB h, _, rfl, T.aFB, _, _, rfl, rfl, T.tFB h, _, _, rfl, rfl, _, _, rfl, rfl, ⟨by omega, ?_, ?_⟩, _, rfl, _, _, rfl, rfl, ?_⟩
       · show ((h.ebits : Nat) : Int) + ((h.fbits : Nat) : Int) ≤ 1000000
         omega
       · show ((signN g x : Nat) : Int).natAbs < 2 ^ 64
         omega
       · have ev : ((signN g x : Nat) : Int) * 2 ^ (((h.ebits : Nat) : Int) + ((h.fbits : Nat) : Int)).toNat + (v : Int) = ((signN g x * 2 ^ (h.ebits + h.fbits) + v : Nat) : Int) := by
           have : (((h.ebits : Nat) : Int) + ((h.fbits : Nat) : Int)).toNat = h.ebits + h.fbits := by omega
           rw [this, pow_cast, Int.natCast_add, Int.natCast_mul]
         show Q (.int (((signN g x : Nat) : Int) * 2 ^ (((h.ebits : Nat) : Int) + ((h.fbits : Nat) : Int)).toNat + (v : Int))) H
         rw [ev]
         exact k
   refine ⟨_, rfl, _, rfl, g, x, rfl, hx, _, rfl, iteB (fun hi => ?_) (fun hi => ?_)⟩
   · have htop : topE h < 2 ^ 11 := by cases h <;> decide
     refine ⟨_, rfl, h, rfl, _, rfl, T.aFB, _, _, rfl, rfl, T.tFB h, _, _, rfl, rfl, ⟨by omega, by omega, ?_⟩, ?_⟩
     · show ((topE h : Nat) : Int).natAbs < 2 ^ 64
       omega
     refine subG (σ' := [some (.int (g.first : Nat)), some (.int x), some (.int (h.first : Nat)), some (onat (some (topE h * 2 ^ h.fbits))), none]) ?_ (rest (some (topE h * 2 ^ h.fbits)) ?_)
     · refine congrArg (fun z => [some (V.int (g.first : Nat)), some (.int x), some (.int (h.first : Nat)), some (V.int z), none]) ?_
       rw [Int.toNat_natCast, pow_cast, Int.natCast_mul]
     · unfold narrowTo
       rw [if_pos hi]
   · refine ⟨_, rfl, _, rfl, _, rfl, g, x, rfl, hx, h, stepsN g x, rfl, ?_⟩
     refine rest (sizeBits h (stepsN g x)) ?_
     unfold narrowTo
     rw [if_neg (by rw [hi]; decide)]
theorem sc49 : FnScope ["info", "bits", "narrower"] ["info", "bits"] (defScope (top 49)) := ⟨rfl, rfl, rfl, by decide +kernel, rfl, by decide +kernel, by decide +kernel⟩
theorem ok_SF (T : Tx P w K mg) {f : Addr} {fd : FuncData} (F : Fun K "shortest_floating" "shortest_floating" (top 49) f fd) (DN : Dfn P w K mg base 2 "is_no_number" ["info", "bits"] spNan) (DR : Dfn P w K mg base 3 "narrowed" ["info", "bits"] spNar) (DW : Dfn P w K mg base 2 "wide_head" ["major", "info", "number"] spWH) :
   FnOk P w K mg base (CXE P w) 4 f fd ["info", "bits"] spSF := by
 refine F.okE sc49 (fun vs H Q E h => ?_) (fun cdv A outer s H vs Q E hr h => ?_)
 · obtain ⟨g, x, rfl, _⟩ := h
   rfl
 · obtain ⟨g, x, rfl, hx, k⟩ := h
   have hr2 := hr.mono (j := 2) (by decide)
   refine ⟨_, pss_cons (ps_if (pt_val (pe_d DN pass_fly hr2 (pa_cons (pv 0) (pa_cons (pv 1) pa_nil)))) (pss_one (ps_ret (pe_callTy call_list_of (by rfl) T.list PyProof.Rows.boot_list (pa_cons (pe_r T.mNN) pa_nil)))) pss_nil)
     (pss_cons (ps_while PassesOwn.leaving (pt_cmpR op_gt (pv 0) (pe_k T.kHALF) (nomark _))
       (pss_cons (ps_set (i := 2) sc49.nd rfl (Or.inl rfl) (pe_d DR pass_fly hr (pa_cons (pv 0) (pa_cons (pv 1) pa_nil))))
       (pss_cons (ps_if (pt_cmp (pc_isN (pv 2))) (pss_one ps_break) pss_nil)
       (pss_cons (ps_set (i := 1) sc49.nd rfl (Or.inl rfl) (pv 2))
       (pss_one (ps_aug (i := 0) sc49.nd rfl (Or.inl rfl) pe_int ip_sub))))))
     (pss_one (ps_ret (pe_d DW pass_fly hr2 (pa_cons (pe_k T.kSIM) (pa_cons (pv 0) (pa_cons (pv 1) pa_nil))))))), ?_⟩
   refine ⟨_, rfl, _, rfl, g, x, rfl, hx, _, rfl, iteB (fun hn => ?_) (fun hn => ?_)⟩
   · refine ⟨T.aNN, _, rfl, .inr (T.tNN _), fun l hl => ?_⟩
     rw [shortest_nan hn] at k
     exact k.new hl
   · have out : ∀ (h : Fmt) (y : Nat) (v : Option V), shortest g x = floating h y → tRet (tCall spWH [] E (tCons (tC (V.int 7)) (tCons (tVar 0) (tCons (tVar 1) tNil)))) { nx := fun _ H' => Q .non H', rt := Q } [some (.int (h.first : Nat)), some (.int y), v] H := by
       intro h y v e
       rw [e, ← floating_wide] at k
       exact ⟨_, rfl, _, rfl, 7, h.first, y, rfl, by omega, by cases h <;> decide, by cases h <;> decide, k⟩
     refine ⟨fun n σ H' => ∃ (h : Fmt) (y : Nat) (v : Option V), σ = [some (.int (h.first : Nat)), some (.int y), v] ∧ H' = H ∧ y < 2 ^ h.bits ∧ isNanN h y = false ∧ shortest g x = shortest h y ∧ n = h.first, ⟨_, g, x, none, rfl, rfl, hx, hn, rfl, rfl⟩, ?_⟩
     rintro n σ H' ⟨h, y, v, rfl, rfl, hy, hny, hsh, rfl⟩
     refine ⟨_, rfl, _, _, rfl, rfl, _, rfl, iteB (fun h1 => ?_) (fun h1 => ?_)⟩
     · have h1' := of_decide_eq_true h1
       refine ⟨_, fun σ' H'' q => q, ?_⟩
       cases h with
       | half => simp [Fmt.first] at h1'
       | single =>
         refine ⟨_, rfl, _, rfl, .single, .half, y, rfl, rfl, hy, _, rfl, _, rfl, ?_⟩
         rw [onat_non]
         have ss := shortest_single hy hny
         cases hz : narrowTo .single .half y with
         | none =>
           rw [hz] at ss
           refine iteT (out .single y _ (hsh.trans ss))
         | some z =>
           rw [hz] at ss
           obtain ⟨z1, z2⟩ := narrow_ok hy hny hz
           exact iteF ⟨_, rfl, _, rfl, _, _, rfl, rfl, 25, by decide, .half, z, _, rfl, rfl, z1, z2, hsh.trans (ss.trans (shortest_half z1 z2).symm), rfl⟩
       | double =>
         refine ⟨_, rfl, _, rfl, .double, .single, y, rfl, rfl, hy, _, rfl, _, rfl, ?_⟩
         rw [onat_non]
         obtain ⟨s1, s2⟩ := shortest_double hy hny
         cases hz : narrowTo .double .single y with
         | none => exact iteT (out .double y _ (hsh.trans (s1 hz)))
         | some z =>
           obtain ⟨z1, z2, z3⟩ := s2 z hz
           exact iteF ⟨_, rfl, _, rfl, _, _, rfl, rfl, 26, by decide, .single, z, _, rfl, rfl, z1, z2, hsh.trans z3, rfl⟩
     · have h1' := of_decide_eq_false h1
       cases h with
       | half => exact out .half y v (hsh.trans (shortest_half hy hny))
       | single => simp [Fmt.first] at h1'
       | double => simp [Fmt.first] at h1'
end
end My
end
section
namespace My
open PySem PySem.Spec PyProof.Rows L2 Of Pu
noncomputable def dB (b : Bytes) : List PyData := b.map fun c => PyData.int (c.toNat : Int)
theorem dB_eqv : ∀ (a b : Bytes), PyData.eqvAll (dB a) (dB b) = decide (a = b)
 | [], [] => by simp [dB, PyData.eqvAll]
 | [], _ :: _ => by simp [dB, PyData.eqvAll]
 | _ :: _, [] => by simp [dB, PyData.eqvAll]
 | x :: a, y :: b => by
   have ih := dB_eqv a b
   show (PyData.eqv (PyData.int (x.toNat : Int)) (PyData.int (y.toNat : Int)) && PyData.eqvAll (dB a) (dB b)) = _
   rw [ih]
   have e : PyData.eqv (PyData.int (x.toNat : Int)) (PyData.int (y.toNat : Int)) = decide (x = y) := by
     show ((x.toNat : Int) == (y.toNat : Int)) = _
     rw [Bool.eq_iff_iff, beq_iff_eq, decide_eq_true_eq]
     exact ⟨fun z => UInt8.toNat_inj.mp (by omega), fun z => by rw [z]⟩
   rw [e]
   simp [List.cons.injEq]
theorem dB_lay : ∀ b : Bytes, PyData.canLayAll0 (dB b) = true ∧ PyData.depthAll (dB b) = 0
 | [] => by simp [dB, PyData.canLayAll0, PyData.depthAll]
 | c :: b => by
   obtain ⟨h1, h2⟩ := dB_lay b
   refine ⟨?_, ?_⟩
   · show (PyData.canLay0 (PyData.int (c.toNat : Int)) && PyData.canLayAll0 (dB b)) = true
     rw [h1]
     simp [PyData.canLay0]
   · show max (PyData.depth (PyData.int (c.toNat : Int))) (PyData.depthAll (dB b)) = 0
     rw [h2]
     simp [PyData.depth]
theorem dB_shaped (b : Bytes) : SeqAt.shaped (.list (dB b)) = true := by
 obtain ⟨h1, h2⟩ := dB_lay b
 unfold SeqAt.shaped
 rw [Bool.and_eq_true]
 refine ⟨by simpa [PyData.canLay0] using h1, ?_⟩
 simp [PyData.depth, h2]
theorem dB_dp {K : PySem.W.Frag} {H : Hp} : ∀ b : Bytes, DpAll K H (vb b) (dB b)
 | [] => .nil
 | c :: b => .cons (.int _) (dB_dp b)
theorem op_eqB {X : Cx} (hu : X.A.units + 64 < cLine) : OpR X (compareOp .Eq) (fun x y H Q => ∃ a b L M, x = .ref a ∧ y = .ref b ∧ H a = some (.lst (vb L)) ∧ H b = some (.lst (vb M)) ∧ Q (.bl (decide (L = M))) H) := by
 intro pins s σ H x y v u Q I rx ry h
 obtain ⟨a, b, L, M, rfl, rfl, ha, hb, q⟩ := h
 refine op_eqD hu pins s σ H _ _ v u Q I rx ry ⟨.list (dB L), .list (dB M), .lst (SqL.of ha) (dB_dp L), .lst (SqL.of hb) (dB_dp M), dB_shaped L, dB_shaped M, ?_⟩
 show Q (.bl (PyData.eqvAll (dB L) (dB M))) H
 rw [dB_eqv]
 exact q
noncomputable def Refs (H : Hp) (rs : List Addr) (Ls : List Bytes) : Prop := rs.length = Ls.length ∧ ∀ (j : Nat) (r : Addr), rs[j]? = some r → ∃ L, Ls[j]? = some L ∧ H r = some (.lst (vb L))
theorem Refs.same {H H' : Hp} {rs : List Addr} {Ls : List Bytes} (h : Refs H rs Ls) (s : Same H H') : Refs H' rs Ls := ⟨h.1, fun j r e => let ⟨L, a, b⟩ := h.2 j r e; ⟨L, a, s _ _ b⟩⟩
theorem Refs.nil {H : Hp} : Refs H [] [] := ⟨rfl, fun j r e => by simp at e⟩
theorem Refs.snoc {H : Hp} {rs : List Addr} {Ls : List Bytes} {r : Addr} {L : Bytes} (h : Refs H rs Ls) (e : H r = some (.lst (vb L))) : Refs H (rs ++ [r]) (Ls ++ [L]) := by
 refine ⟨by simp [h.1], fun j r' hj => ?_⟩
 by_cases q : j < rs.length
 · rw [List.getElem?_append_left q] at hj
   obtain ⟨M, a, b⟩ := h.2 j r' hj
   exact ⟨M, by rw [List.getElem?_append_left (by rw [← h.1]; exact q)]; exact a, b⟩
 · rw [List.getElem?_append_right (by omega)] at hj
   have : j - rs.length = 0 := by
     cases z : j - rs.length with
     | zero => rfl
     | succ k => rw [z] at hj; simp at hj
   rw [this] at hj
   cases hj
   have ej : j = Ls.length := by have := h.1; omega
   exact ⟨L, by rw [ej]; simp, e⟩
theorem Refs.get {H : Hp} {rs : List Addr} {Ls : List Bytes} (h : Refs H rs Ls) {j : Nat} {L : Bytes} (e : Ls[j]? = some L) : ∃ r, rs[j]? = some r ∧ H r = some (.lst (vb L)) := by
 have hj : j < rs.length := by rw [h.1]; exact (List.getElem?_eq_some_iff.mp e).1
 obtain ⟨M, a, b⟩ := h.2 j _ (List.getElem?_eq_getElem hj)
 rw [e] at a
 cases a
 exact ⟨_, List.getElem?_eq_getElem hj, b⟩
theorem ref_inv {rs : List Addr} {j : Nat} {y : V} (h : (rs.map V.ref)[j]? = some y) : ∃ r, rs[j]? = some r ∧ y = .ref r := by
 rw [List.getElem?_map] at h
 cases e : rs[j]? with
 | none => rw [e] at h; cases h
 | some c => rw [e] at h; exact ⟨c, rfl, (Option.some.inj h).symm⟩
noncomputable def nbr : List Bytes → Bool
 | x :: y :: l => x == y || nbr (y :: l)
 | _ => false
theorem nbr_keys : ∀ (s : List Pr), nbr (s.map Prod.fst) = twiceIn s
 | [] => rfl
 | [x] => rfl
 | x :: y :: s => by
   have ih := nbr_keys (y :: s)
   unfold twiceIn
   rw [← ih]
   rfl
theorem nbr_iff : ∀ (s : List Bytes), nbr s = true ↔ ∃ i x, s[i]? = some x ∧ s[i + 1]? = some x
 | [] => by simp [nbr]
 | [x] => by simp [nbr]
 | x :: y :: s => by
   unfold nbr
   rw [Bool.or_eq_true, nbr_iff (y :: s), beq_iff_eq]
   constructor
   · rintro (h | ⟨i, a, h1, h2⟩)
     · exact ⟨0, x, rfl, by rw [h]; rfl⟩
     · exact ⟨i + 1, a, h1, h2⟩
   · rintro ⟨i, a, h1, h2⟩
     cases i with
     | zero =>
       cases h1; cases h2
       exact .inl rfl
     | succ i => exact .inr ⟨i, a, h1, h2⟩
section
variable {P : Program} {w : World} {K : PySem.W.Frag} {mg : Str → Option Value} {base : Heap}
noncomputable def spLF (T : Tx P w K mg) : Sp := fun vs H Q E => ∃ (p : Addr) (m i n b : Nat), vs = [.ref p] ∧ HdAt T.CH H p m i (some n) b ∧ (m ≤ 1 ∨ m = 7) ∧ i ≤ 27 ∧ n < 2 ^ 64 ∧ (i = 25 → n < 2 ^ 16) ∧ (i = 26 → n < 2 ^ 32) ∧
 (match lone m i n with
  | none => E (.ref T.xF) none H
  | some o => Ret H Q (vb o))
theorem sc66 : FnScope ["head"] ["head"] (defScope (top 66)) := ⟨rfl, rfl, rfl, by decide +kernel, rfl, by decide +kernel, by decide +kernel⟩
theorem ok_LF (T : Tx P w K mg) {f : Addr} {fd : FuncData} (F : Fun K "lone_form" "lone_form" (top 66) f fd) (DH : Dfn P w K mg base 3 "short_head" ["major", "number"] spSH) (DF : Dfn P w K mg base 4 "shortest_floating" ["info", "bits"] spSF) :
   FnOk P w K mg base (CXE P w) 5 f fd ["head"] (spLF T) := by
 refine F.okE sc66 (fun vs H Q E h => ?_) (fun cdv A outer s H vs Q E hr h => ?_)
 · obtain ⟨p, m, i, n, b, rfl, _⟩ := h
   rfl
 · obtain ⟨p, m, i, n, b, rfl, ⟨dx, hp⟩, hm, hi, hn, h25, h26, k⟩ := h
   have hr3 := hr.mono (j := 3) (by decide)
   refine ⟨_, pss_cons (ps_if (pw_or (pt_cmpR op_le (pe_fld (pv 0) rfl) (pe_k T.kNEG) (nomark _)) (pw_or1 (pt_cmpR op_lt (pe_fld (pv 0) rfl) (pe_k T.kSW) (nomark _)))).pt (pss_one (ps_ret (pe_d DH pass_fly hr3 (pa_cons (pe_fld (pv 0) rfl) (pa_cons (pe_fld (pv 0) rfl) pa_nil))))) pss_nil)
     (pss_cons (ps_if (pt_cmpR op_gt (pe_fld (pv 0) rfl) (pe_k T.kSW) (nomark _)) (pss_one (ps_ret (pe_d DF pass_fly hr (pa_cons (pe_fld (pv 0) rfl) (pa_cons (pe_fld (pv 0) rfl) pa_nil))))) pss_nil)
     (pss_cons (ps_if (pt_cmpR op_lt (pe_fld (pv 0) rfl) (pe_k T.kFWS) (nomark _)) (pss_one (ps_raise0 T.oF rfl)) pss_nil)
     (pss_one (ps_ret (pe_d DH pass_fly hr3 (pa_cons (pe_k T.kSIM) (pa_cons (pe_fld (pv 0) rfl) pa_nil))))))), ?_⟩
   unfold lone at k
   have short : (m ≤ 1 ∨ i < 24) → tRet (tCall spSH [] E (tCons (tFld K (tVar 0) "major") (tCons (tFld K (tVar 0) "number") tNil))) { nx := fun _ H' => Q .non H', rt := Q } [some (.ref p)] H := fun z => by
     rw [if_pos z] at k
     exact ⟨_, rfl, p, _, dx, _, _, rfl, hp, T.clH, T.nH1, hd1, _, rfl, p, _, dx, _, _, rfl, hp, T.clH, T.nH3, hd3, m, n, rfl, by omega, hn, k⟩
   refine ⟨_, rfl, p, _, dx, _, _, rfl, hp, T.clH, T.nH1, hd1, _, _, rfl, rfl, _, rfl, iteB (fun h1 => ?_) (fun h1 => ?_)⟩
   · have h1' := of_decide_eq_true h1
     exact iteT (short (.inl (by omega)))
   · have h1' := of_decide_eq_false h1
     refine ⟨_, rfl, p, _, dx, _, _, rfl, hp, T.clH, T.nH2, hd2, _, _, rfl, rfl, _, rfl, iteB (fun h2 => ?_) (fun h2 => ?_)⟩
     · have h2' := of_decide_eq_true h2
       exact short (.inr (by omega))
     · have h2' := of_decide_eq_false h2
       rw [if_neg (by omega)] at k
       refine ⟨_, rfl, p, _, dx, _, _, rfl, hp, T.clH, T.nH2, hd2, _, _, rfl, rfl, _, rfl, iteB (fun h3 => ?_) (fun h3 => ?_)⟩
       · have h3' := of_decide_eq_true h3
         rw [if_pos (by omega)] at k
         refine ⟨_, rfl, p, _, dx, _, _, rfl, hp, T.clH, T.nH2, hd2, _, rfl, p, _, dx, _, _, rfl, hp, T.clH, T.nH3, hd3, if i = 25 then .half else if i = 26 then .single else .double, n, ?_, ?_, k⟩
         · obtain rfl | rfl | rfl : i = 25 ∨ i = 26 ∨ i = 27 := by omega
           all_goals rfl
         · obtain rfl | rfl | rfl : i = 25 ∨ i = 26 ∨ i = 27 := by omega
           · exact h25 rfl
           · exact h26 rfl
           · exact hn
       · have h3' := of_decide_eq_false h3
         rw [if_neg (by omega)] at k
         refine ⟨_, rfl, p, _, dx, _, _, rfl, hp, T.clH, T.nH3, hd3, _, _, rfl, rfl, _, rfl, iteB (fun h4 => ?_) (fun h4 => ?_)⟩
         · have h4' := of_decide_eq_true h4
           rw [if_pos (by omega)] at k
           exact k
         · have h4' := of_decide_eq_false h4
           rw [if_neg (by omega)] at k
           exact ⟨_, rfl, p, _, dx, _, _, rfl, hp, T.clH, T.nH3, hd3, 7, n, rfl, by omega, hn, k⟩
noncomputable def spCF : Sp := fun vs H Q _ => ∃ (m : Nat) (a : Addr) (rs : List Addr) (Ls : List Bytes), vs = [.int m, .ref a] ∧ m ≤ 7 ∧ H a = some (.lst (rs.map V.ref)) ∧ Refs H rs Ls ∧ Ls.length ≤ 1000 ∧ Ls.flatten.length ≤ 100000 ∧ Ret H Q (vb (short m Ls.length ++ Ls.flatten))
theorem sc67 : FnScope ["major", "forms", "form", "one"] ["major", "forms"] (defScope (top 67)) := ⟨rfl, rfl, rfl, by decide +kernel, rfl, by decide +kernel, by decide +kernel⟩
theorem flat_take {Ls : List Bytes} {j : Nat} : (Ls.take j).flatten.length ≤ Ls.flatten.length := by
 have e : Ls.flatten = (Ls.take j).flatten ++ (Ls.drop j).flatten := by rw [← List.flatten_append, List.take_append_drop]
 rw [e, List.length_append]
 omega
theorem ok_CF (T : Tx P w K mg) {f : Addr} {fd : FuncData} (F : Fun K "counted_form" "counted_form" (top 67) f fd) (DH : Dfn P w K mg base 3 "short_head" ["major", "number"] spSH) : FnOk P w K mg base (CXE P w) 4 f fd ["major", "forms"] spCF := by
 refine F.okE sc67 (fun vs H Q E h => ?_) (fun cdv A outer s H vs Q E hr h => ?_)
 · obtain ⟨m, a, rs, Ls, rfl, _⟩ := h
   rfl
 · obtain ⟨m, a, rs, Ls, rfl, hm, ha, hR, hL1, hL2, k⟩ := h
   refine ⟨_, pss_cons (ps_set (i := 2) sc67.nd rfl (Or.inl rfl) (pe_d DH pass_fly hr (pa_cons (pv 0) (pa_cons (pe_callB call_len_seq (by rfl) T.len PySem.boot_len (pa_cons (pv 1) pa_nil)) pa_nil))))
     (pss_cons (ps_for PassesOwn.leaving rfl (pi_list (pv 1)) (pg_name (i := 3) sc67.nd rfl (Or.inl rfl)) (pss_one (ps_expr (pe_bm PySem.F.plainAttrs_list PySem.F.slot_list_extend PySem.F.type_list_extend mt_extend (pv 2) (pa_cons (pv 3) pa_nil)))))
     (pss_one (ps_ret (pv 2)))), ?_⟩
   have hrl := hR.1
   refine ⟨_, rfl, _, rfl, a, _, rfl, .inl (SqL.of ha), m, Ls.length, ?_, hm, by omega, fun q H1 hq s1 e1 => ?_⟩
   · show [V.int (m : Int), V.int (((rs.map V.ref).length : Nat) : Int)] = _
     rw [List.length_map, hrl]
   have hsl := (short_length m Ls.length).2
   refine ⟨_, rfl, a, rfl, ⟨_, SqL.of (s1 _ _ ha)⟩, for_list (K := K) (a := a) (xs := rs.map V.ref) (fun j σ H' => ∃ v : Option V, σ = [some (.int m), some (.ref a), some (.ref q), v] ∧ Same H H' ∧ H' q = some (.lst (vb (short m Ls.length ++ (Ls.take j).flatten))))
     ⟨none, rfl, s1, by rw [List.take_zero]; simpa using e1⟩ (fun j σ H' _ ⟨_, _, s2, _⟩ => SqL.of (s2 _ _ ha)) ?_ ?_⟩
   · rintro j y σ H' hj ⟨v, rfl, s2, e2⟩
     obtain ⟨r, hr', rfl⟩ := ref_inv hj
     obtain ⟨L, hL, er⟩ := hR.2 j r hr'
     refine ⟨_, rfl, .inl ⟨rfl, _, SqL.of e2⟩, _, rfl, q, r, _, _, rfl, rfl, e2, s2 _ _ er, ?_, some (.ref r), rfl, Same.upd2 s2 hq, ?_⟩
     · rw [vb_length, vb_length, List.length_append, sizeLine_eq]
       have h1 := flat_take (Ls := Ls) (j := j + 1)
       have e9 : [L].flatten = L := by simp
       rw [take_snoc hL, List.flatten_append, List.length_append, e9] at h1
       omega
     · rw [upd_same, take_snoc hL, List.flatten_append]
       simp [vb_append]
   · rintro σ H' ⟨v, rfl, s2, e2⟩
     rw [List.length_map, hrl, List.take_length] at e2
     exact ⟨_, rfl, k q H' hq s2 e2⟩
noncomputable def spNA : Sp := fun vs H Q _ => ∃ (a : Addr) (rs : List Addr) (Ls : List Bytes), vs = [.ref a] ∧ H a = some (.lst (rs.map V.ref)) ∧ Refs H rs Ls ∧ Ls.length ≤ 1000 ∧ Q (.bl (nbr Ls)) H
theorem sc68 : FnScope ["keys", "at"] ["keys"] (defScope (top 68)) := ⟨rfl, rfl, rfl, by decide +kernel, rfl, by decide +kernel, by decide +kernel⟩
theorem ok_NA (T : Tx P w K mg) {f : Addr} {fd : FuncData} (F : Fun K "has_neighbours_alike" "has_neighbours_alike" (top 68) f fd) : FnOk P w K mg base (CXE P w) 1 f fd ["keys"] spNA := by
 refine F.okE sc68 (fun vs H Q E h => ?_) (fun cdv A outer s H vs Q E hr h => ?_)
 · obtain ⟨a, rs, Ls, rfl, _⟩ := h
   rfl
 · obtain ⟨a, rs, Ls, rfl, ha, hR, hL1, k⟩ := h
   refine ⟨_, pss_cons (ps_for PassesOwn.leaving rfl (pi_range2 rfl T.range (pa_cons pe_int (pa_cons (pe_callB call_len_seq (by rfl) T.len PySem.boot_len (pa_cons (pv 0) pa_nil)) pa_nil))) (pg_name (i := 1) sc68.nd rfl (Or.inl rfl))
       (pss_one (ps_if (pt_cmpR (op_eqB hr.units) (pe_ix ix_list (pv 0) (pe_op op_sub (pv 1) pe_int) (fun _ _ => rfl)) (pe_ix ix_list (pv 0) (pv 1) (fun _ _ => rfl)) (nomark _)) (pss_one (ps_ret pe_bl)) pss_nil)))
     (pss_one (ps_ret pe_bl)), ?_⟩
   have hrl := hR.1
   have e0 : (((rs.map V.ref).length : Nat) : Int) = (Ls.length : Int) := by rw [List.length_map, hrl]
   refine ⟨_, rfl, a, _, rfl, .inl (SqL.of ha), _, _, rfl, ⟨by decide, by decide, by rw [e0]; omega, by rw [e0]; omega⟩, ?_⟩
   have e1 : ((((rs.map V.ref).length : Nat) : Int) - 1).toNat = Ls.length - 1 := by rw [e0]; omega
   rw [e1]
   refine for_range (lo := 1) (n := Ls.length - 1) (fun j σ H' => ∃ v : Option V, σ = [some (.ref a), v] ∧ H' = H ∧ ∀ i x, i < j → Ls[i]? = some x → Ls[i + 1]? ≠ some x) ⟨none, rfl, rfl, fun i x z => by omega⟩ ?_ ?_
   · rintro j σ H' hj ⟨v, rfl, rfl, hno⟩
     obtain ⟨L, hL⟩ : ∃ L, Ls[j]? = some L := ⟨_, List.getElem?_eq_getElem (by omega)⟩
     obtain ⟨M, hM⟩ : ∃ M, Ls[j + 1]? = some M := ⟨_, List.getElem?_eq_getElem (by omega)⟩
     obtain ⟨r1, hr1, er1⟩ := hR.get hL
     obtain ⟨r2, hr2, er2⟩ := hR.get hM
     refine ⟨_, rfl, _, rfl, _, _, rfl, rfl, a, _, _, V.ref r1, rfl, rfl, SqL.of ha, at_of (j := j) (by omega) (by rw [List.getElem?_map, hr1]; rfl), _, rfl, _, rfl, a, _, _, V.ref r2, rfl, rfl, SqL.of ha, at_of (j := j + 1) (by omega) (by rw [List.getElem?_map, hr2]; rfl), r1, r2, L, M, rfl, rfl, er1, er2, _, rfl, iteB (fun h1 => ?_) (fun h1 => ?_)⟩
     · have h1' := of_decide_eq_true h1
       subst h1'
       have : nbr Ls = true := (nbr_iff Ls).mpr ⟨j, L, hL, hM⟩
       rw [this] at k
       exact k
     · have h1' := of_decide_eq_false h1
       refine ⟨some (.int (1 + (j : Int))), rfl, rfl, fun i x hi hx hx' => ?_⟩
       by_cases q : i = j
       · subst q
         rw [hL] at hx
         rw [hM] at hx'
         cases hx
         cases hx'
         exact h1' rfl
       · exact hno i x (by omega) hx hx'
   · rintro σ H' ⟨v, rfl, rfl, hno⟩
     have : nbr Ls = false := by
       rw [Bool.eq_false_iff]
       intro z
       obtain ⟨i, x, h1, h2⟩ := (nbr_iff Ls).mp z
       have := (List.getElem?_eq_some_iff.mp h2).1
       exact hno i x (by omega) h1 h2
     rw [this] at k
     exact k
end
end My
end
section
namespace My
open PySem PySem.Spec PyProof.Rows L2 Of Pu
noncomputable def rdF (a : Addr) (at_ nc sb : Nat) (tw : Bool) : List (Str × V) := [("data", .ref a), ("at", .int at_), ("node_count", .int nc), ("string_bytes", .int sb), ("key_twice", .bl tw)]
theorem rd1 {a : Addr} {at_ nc sb : Nat} {tw : Bool} : (rdF a at_ nc sb tw).lookup ("data" : Str) = some (.ref a) := rfl
theorem rd2 {a : Addr} {at_ nc sb : Nat} {tw : Bool} : (rdF a at_ nc sb tw).lookup ("at" : Str) = some (.int at_) := rfl
theorem rd3 {a : Addr} {at_ nc sb : Nat} {tw : Bool} : (rdF a at_ nc sb tw).lookup ("node_count" : Str) = some (.int nc) := rfl
theorem rd4 {a : Addr} {at_ nc sb : Nat} {tw : Bool} : (rdF a at_ nc sb tw).lookup ("string_bytes" : Str) = some (.int sb) := rfl
theorem rd5 {a : Addr} {at_ nc sb : Nat} {tw : Bool} : (rdF a at_ nc sb tw).lookup ("key_twice" : Str) = some (.bl tw) := rfl
theorem rd_tw {a : Addr} {at_ nc sb : Nat} {tw x : Bool} : putF "key_twice" (.bl x) (rdF a at_ nc sb tw) = rdF a at_ nc sb x := rfl
noncomputable def RdAt (C : Addr) (H : Hp) (p a : Addr) (b : Bytes) (at_ nc sb : Nat) (tw : Bool) : Prop := (∃ dx, H p = some (.ins C dx (rdF a at_ nc sb tw))) ∧ H a = some (.lst (vb b))
theorem RdAt.same {C p a : Addr} {H H' : Hp} {b : Bytes} {at_ nc sb : Nat} {tw : Bool} (h : RdAt C H p a b at_ nc sb tw) (s : Same H H') : RdAt C H' p a b at_ nc sb tw := ⟨let ⟨dx, e⟩ := h.1; ⟨dx, s _ _ e⟩, s _ _ h.2⟩
theorem RdAt.ne {C p a : Addr} {H : Hp} {b : Bytes} {at_ nc sb : Nat} {tw : Bool} (h : RdAt C H p a b at_ nc sb tw) : a ≠ p := by
 obtain ⟨⟨dx, e⟩, e2⟩ := h
 exact ne_of e2 e (by intro z; cases z)
theorem RdAt.put {C p a : Addr} {H : Hp} {b : Bytes} {at_ nc sb at2 nc2 sb2 : Nat} {tw tw2 : Bool} {dx : Addr} (h : RdAt C H p a b at_ nc sb tw) : RdAt C (upd H p (.ins C dx (rdF a at2 nc2 sb2 tw2))) p a b at2 nc2 sb2 tw2 := ⟨⟨dx, upd_same⟩, by rw [upd_ne h.ne]; exact h.2⟩
theorem But.upd {p : Addr} {H : Hp} {o : HO} : But p H (L2.upd H p o) := fun b u e n => by rw [upd_ne n]; exact e
theorem But.upd2 {p q : Addr} {H H' : Hp} {o : HO} (s : But p H H') (h : H q = none) : But p H (L2.upd H' q o) := fun b u e n => by rw [upd_ne (ne_of_none e h)]; exact s b u e n
theorem rd_ne_hd {C C' p q : Addr} {H : Hp} {a : Addr} {at_ nc sb m i b : Nat} {tw : Bool} {n : Option Nat} {dx dx' : Addr} (h1 : H p = some (.ins C dx (hdF m i n b))) (h2 : H q = some (.ins C' dx' (rdF a at_ nc sb tw))) : p ≠ q :=
 ne_of h1 h2 (by intro z; injection z with _ _ z; simp [hdF, rdF] at z)
section
variable {P : Program} {w : World} {K : PySem.W.Frag} {mg : Str → Option Value} {base : Heap}
noncomputable def spRd (C : Addr) : Sp := fun vs H Q _ => ∃ (p dx a : Addr) (b : Bytes), vs = [.ref p, .ref a] ∧ H p = some (.ins C dx []) ∧ H a = some (.lst (vb b)) ∧ ∀ H' : Hp, RdAt C H' p a b 0 0 0 false → But p H H' → Q .non H'
theorem sc69_0 : FnScope ["self", "data"] ["self", "data"] (defScope (inClass (top 69) 0)) := ⟨rfl, rfl, rfl, by decide +kernel, rfl, by decide +kernel, by decide +kernel⟩
theorem ok_Rd (T : Tx P w K mg) {f : Addr} {fd : FuncData} (F : Fun K "__init__" "Reader.__init__" (inClass (top 69) 0) f fd) : FnOk P w K mg base (CXE P w) 1 f fd ["self", "data"] (spRd T.CR) := by
 refine F.okE sc69_0 (fun vs H Q E h => ?_) (fun cdv A outer s H vs Q E hr h => ?_)
 · obtain ⟨p, dx, a, b, rfl, _⟩ := h
   rfl
 · obtain ⟨p, dx, a, b, rfl, hp, ha, k⟩ := h
   refine ⟨_, pss_cons (ps_fld (pv 0) (pv 1) rfl) (pss_cons (ps_fld (pv 0) pe_int rfl) (pss_cons (ps_fld (pv 0) pe_int rfl) (pss_cons (ps_fld (pv 0) pe_int rfl) (pss_one (ps_fld (pv 0) pe_bl rfl))))), ?_⟩
   refine ⟨_, rfl, _, rfl, p, T.CR, dx, [], rfl, hp, T.clR, T.nR1, (by show 0 < 1000; decide), ?_⟩
   refine ⟨_, rfl, p, T.CR, dx, _, rfl, upd_same, T.clR, T.nR2, (by show 1 < 1000; decide), ?_⟩
   refine ⟨_, rfl, p, T.CR, dx, _, rfl, upd_same, T.clR, T.nR3, (by show 2 < 1000; decide), ?_⟩
   refine ⟨_, rfl, p, T.CR, dx, _, rfl, upd_same, T.clR, T.nR4, (by show 3 < 1000; decide), ?_⟩
   refine ⟨_, rfl, p, T.CR, dx, _, rfl, upd_same, T.clR, T.nR5, (by show 4 < 1000; decide), ?_⟩
   have nap : a ≠ p := ne_of ha hp (by intro z; cases z)
   refine k _ ⟨⟨dx, upd_same⟩, ?_⟩ fun b o e hb => ?_
   · rw [upd_ne nap, upd_ne nap, upd_ne nap, upd_ne nap, upd_ne nap]
     exact ha
   · rw [upd_ne hb, upd_ne hb, upd_ne hb, upd_ne hb, upd_ne hb]
     exact e
noncomputable def spTH (T : Tx P w K mg) : Sp := fun vs H Q E => ∃ (p a : Addr) (b : Bytes) (at_ nc sb : Nat) (tw : Bool), vs = [.ref p] ∧ RdAt T.CR H p a b at_ nc sb tw ∧
 (match headOf b at_ with
  | none => E (.ref T.xF) none H
  | some (m, i, n, bh) => ∀ q H', H q = none → But p H H' → RdAt T.CR H' p a b bh nc sb tw → HdAt T.CH H' q m i n bh → Q (.ref q) H')
theorem sc69_1 : FnScope ["self", "head"] ["self"] (defScope (inClass (top 69) 1)) := ⟨rfl, rfl, rfl, by decide +kernel, rfl, by decide +kernel, by decide +kernel⟩
theorem ok_TH (T : Tx P w K mg) {f : Addr} {fd : FuncData} (F : Fun K "take_head" "Reader.take_head" (inClass (top 69) 1) f fd) (DH : Dfn P w K mg base 4 "head_at" ["data", "at"] (spHA T)) : FnOk P w K mg base (CXE P w) 5 f fd ["self"] (spTH T) := by
 refine F.okE sc69_1 (fun vs H Q E h => ?_) (fun cdv A outer s H vs Q E hr h => ?_)
 · obtain ⟨p, a, b, at_, nc, sb, tw, rfl, _⟩ := h
   rfl
 · obtain ⟨p, a, b, at_, nc, sb, tw, rfl, hR, k⟩ := h
   obtain ⟨⟨dx, hp⟩, ha⟩ := id hR
   refine ⟨_, pss_cons (ps_set (i := 1) sc69_1.nd rfl (Or.inl rfl) (pe_d DH pass_fly hr (pa_cons (pe_fld (pv 0) rfl) (pa_cons (pe_fld (pv 0) rfl) pa_nil))))
     (pss_cons (ps_fld (pv 0) (pe_fld (pv 1) rfl) rfl) (pss_one (ps_ret (pv 1)))), ?_⟩
   refine ⟨_, rfl, p, _, dx, _, _, rfl, hp, T.clR, T.nR1, rd1, _, rfl, p, _, dx, _, _, rfl, hp, T.clR, T.nR2, rd2, a, at_, b, rfl, ha, ?_⟩
   cases e : headOf b at_ with
   | none => rw [e] at k; exact k
   | some z =>
     obtain ⟨m, i, n, bh⟩ := z
     rw [e] at k
     dsimp only at k ⊢
     intro q H' hq s1 hd
     obtain ⟨dh, hh⟩ := id hd
     have hp' := s1 _ _ hp
     have nqp : q ≠ p := rd_ne_hd hh hp'
     refine ⟨_, rfl, q, _, dh, _, _, rfl, hh, T.clH, T.nH4, hd4, _, rfl, p, _, dx, _, rfl, hp', T.clR, T.nR2, (by show 5 < 1000; decide), _, rfl, ?_⟩
     exact k q _ hq ((But.of s1).trans But.upd) ((hR.same s1).put) (hd.but But.upd nqp)
noncomputable def spCN (T : Tx P w K mg) : Sp := fun vs H Q E => ∃ (p a : Addr) (b : Bytes) (at_ nc sb : Nat) (tw : Bool), vs = [.ref p] ∧ RdAt T.CR H p a b at_ nc sb tw ∧ nc ≤ 1000 ∧ ∀ H', But p H H' → RdAt T.CR H' p a b at_ (nc + 1) sb tw → Q .non H'
theorem sc69_3 : FnScope ["self"] ["self"] (defScope (inClass (top 69) 3)) := ⟨rfl, rfl, rfl, by decide +kernel, rfl, by decide +kernel, by decide +kernel⟩
theorem ok_CN (T : Tx P w K mg) {f : Addr} {fd : FuncData} (F : Fun K "count_node" "Reader.count_node" (inClass (top 69) 3) f fd) : FnOk P w K mg base (CXE P w) 1 f fd ["self"] (spCN T) := by
 refine F.okE sc69_3 (fun vs H Q E h => ?_) (fun cdv A outer s H vs Q E hr h => ?_)
 · obtain ⟨p, a, b, at_, nc, sb, tw, rfl, _⟩ := h
   rfl
 · obtain ⟨p, a, b, at_, nc, sb, tw, rfl, hR, hnc, k⟩ := h
   obtain ⟨⟨dx, hp⟩, ha⟩ := id hR
   refine ⟨_, pss_cons (ps_fldaug (pv 0) pe_int in_add) (pss_one (ps_if (pt_cmpR op_gt (pe_fld (pv 0) rfl) (pe_k T.kMN) (nomark _)) (pss_one (ps_raise0 T.oF rfl)) pss_nil)), ?_⟩
   refine ⟨_, rfl, p, _, dx, _, _, rfl, hp, T.clR, T.nR3, rd3, _, _, rfl, rfl, dx, _, hp, (by show 5 < 1000; decide), ?_⟩
   have e : putF "node_count" (V.int ((nc : Int) + 1)) (rdF a at_ nc sb tw) = rdF a at_ (nc + 1) sb tw := rfl
   rw [e]
   refine ⟨_, rfl, p, _, dx, _, _, rfl, upd_same, T.clR, T.nR3, rd3, _, _, rfl, rfl, _, rfl, iteB (fun h1 => ?_) (fun h1 => ?_)⟩
   · have h1' := of_decide_eq_true h1
     exfalso
     omega
   · exact k _ But.upd hR.put
noncomputable def spGO (T : Tx P w K mg) : Sp := fun vs H Q E => ∃ (p a h : Addr) (b : Bytes) (at_ nc sb m i bh k : Nat) (n : Option Nat) (tw : Bool), vs = [.ref p, .ref h, .int k] ∧ RdAt T.CR H p a b at_ nc sb tw ∧ HdAt T.CH H h m i n bh ∧
 (match n with
  | some N => Q (.bl (decide (k < N))) H
  | none => (b[at_]? = some 0xFF → ∀ H', But p H H' → RdAt T.CR H' p a b (at_ + 1) nc sb tw → Q (.bl false) H') ∧ (b[at_]? ≠ some 0xFF → Q (.bl true) H))
theorem sc69_4 : FnScope ["self", "head", "taken"] ["self", "head", "taken"] (defScope (inClass (top 69) 4)) := ⟨rfl, rfl, rfl, by decide +kernel, rfl, by decide +kernel, by decide +kernel⟩
theorem ok_GO (T : Tx P w K mg) {f : Addr} {fd : FuncData} (F : Fun K "goes_on" "Reader.goes_on" (inClass (top 69) 4) f fd) : FnOk P w K mg base (CXE P w) 1 f fd ["self", "head", "taken"] (spGO T) := by
 refine F.okE sc69_4 (fun vs H Q E h => ?_) (fun cdv A outer s H vs Q E hr h => ?_)
 · obtain ⟨p, a, h, b, at_, nc, sb, m, i, bh, k, n, tw, rfl, _⟩ := h
   rfl
 · obtain ⟨p, a, h, b, at_, nc, sb, m, i, bh, kk, n, tw, rfl, hR, ⟨dh, hh⟩, k⟩ := h
   obtain ⟨⟨dx, hp⟩, ha⟩ := id hR
   refine ⟨_, pss_cons (ps_if (pt_cmp (pc_notN (pe_fld (pv 1) rfl))) (pss_one (ps_ret (pe_cmpR op_lt (pv 2) (pe_fld (pv 1) rfl) (nomark _)))) pss_nil)
     (pss_cons (ps_if (pw_and (pt_cmpR op_lt (pe_fld (pv 0) rfl) (pe_callB call_len_seq (by rfl) T.len PySem.boot_len (pa_cons (pe_fld (pv 0) rfl) pa_nil)) (nomark _)) (pw_and1 (pt_cmpR op_eq (pe_ix ix_list (pe_fld (pv 0) rfl) (pe_fld (pv 0) rfl) (fun _ _ => rfl)) (pe_k T.kBRK) (nomark _)))).pt
       (pss_cons (ps_fldaug (pv 0) pe_int in_add) (pss_one (ps_ret pe_bl))) pss_nil)
     (pss_one (ps_ret pe_bl))), ?_⟩
   refine ⟨_, rfl, h, _, dh, _, _, rfl, hh, T.clH, T.nH3, hd3, _, rfl, ?_⟩
   rw [onat_non]
   cases n with
   | some N =>
     refine iteT ⟨_, rfl, _, rfl, h, _, dh, _, _, rfl, hh, T.clH, T.nH3, hd3, _, _, rfl, rfl, ?_⟩
     have e : decide ((kk : Int) < ((N : Nat) : Int)) = decide (kk < N) := by rw [decide_eq_decide]; omega
     show Q (.bl (decide ((kk : Int) < ((N : Nat) : Int)))) H
     rw [e]
     exact k
   | none =>
     refine iteF ⟨_, rfl, p, _, dx, _, _, rfl, hp, T.clR, T.nR2, rd2, _, rfl, p, _, dx, _, _, rfl, hp, T.clR, T.nR1, rd1, a, _, rfl, .inl (SqL.of ha), _, _, rfl, rfl, _, rfl, iteB (fun h1 => ?_) (fun h1 => ?_)⟩
     · have h1' := of_decide_eq_true h1
       rw [vb_length] at h1'
       obtain ⟨c, hc⟩ : ∃ c, b[at_]? = some c := ⟨_, List.getElem?_eq_getElem (by omega)⟩
       refine ⟨_, rfl, p, _, dx, _, _, rfl, hp, T.clR, T.nR1, rd1, _, rfl, p, _, dx, _, _, rfl, hp, T.clR, T.nR2, rd2, a, _, _, _, rfl, rfl, SqL.of ha, atI_nat (vb_get hc), rfl, _, rfl, iteB (fun h2 => ?_) (fun h2 => ?_)⟩
       · have h2' : (c.toNat : Int) = 255 := by have := of_decide_eq_true h2; injection this
         have ec : c = 0xFF := UInt8.toNat_inj.mp (by show c.toNat = 255; omega)
         subst ec
         refine ⟨_, rfl, p, _, dx, _, _, rfl, hp, T.clR, T.nR2, rd2, _, _, rfl, rfl, dx, _, hp, (by show 5 < 1000; decide), ?_⟩
         exact k.1 hc _ But.upd (hR.put (dx := dx))
       · have h2' : ¬ (c.toNat : Int) = 255 := fun z => of_decide_eq_false h2 (congrArg V.int z)
         refine k.2 fun z => h2' ?_
         rw [hc] at z
         cases z
         rfl
     · have h1' := of_decide_eq_false h1
       rw [vb_length] at h1'
       refine iteF (k.2 fun z => ?_)
       have := (List.getElem?_eq_some_iff.mp z).1
       omega
noncomputable def spTC (T : Tx P w K mg) : Sp := fun vs H Q E => ∃ (p a h : Addr) (b : Bytes) (at_ nc sb m i bh n : Nat) (tw : Bool), vs = [.ref p, .ref h] ∧ RdAt T.CR H p a b at_ nc sb tw ∧ HdAt T.CH H h m i (some n) bh ∧ at_ ≤ b.length ∧
 (match Pu.strOf m (some n) (b.drop at_) with
  | none => ∀ H', But p H H' → E (.ref T.xF) none H'
  | some (c, t) => ∀ q H', H q = none → But p H H' → RdAt T.CR H' p a b (b.length - t.length) nc sb tw → H' q = some (.lst (vb c)) → Q (.ref q) H')
theorem sc69_9 : FnScope ["self", "head", "behind", "content"] ["self", "head"] (defScope (inClass (top 69) 9)) := ⟨rfl, rfl, rfl, by decide +kernel, rfl, by decide +kernel, by decide +kernel⟩
theorem ok_TC (T : Tx P w K mg) {f : Addr} {fd : FuncData} (F : Fun K "take_content" "Reader.take_content" (inClass (top 69) 9) f fd) (DU : Dfn P w K mg base 2 "is_utf8" ["row"] spU8) : FnOk P w K mg base (CXE P w) 3 f fd ["self", "head"] (spTC T) := by
 refine F.okE sc69_9 (fun vs H Q E h => ?_) (fun cdv A outer s H vs Q E hr h => ?_)
 · obtain ⟨p, a, h, b, at_, nc, sb, m, i, bh, n, tw, rfl, _⟩ := h
   rfl
 · obtain ⟨p, a, h, b, at_, nc, sb, m, i, bh, n, tw, rfl, hR, ⟨dh, hh⟩, hat, k⟩ := h
   obtain ⟨⟨dx, hp⟩, ha⟩ := id hR
   have nhp : h ≠ p := rd_ne_hd hh hp
   refine ⟨_, pss_cons (ps_set (i := 2) sc69_9.nd rfl (Or.inl rfl) (pe_op op_add (pe_fld (pv 0) rfl) (pe_fld (pv 1) rfl)))
     (pss_cons (ps_if (pt_cmpR op_gt (pv 2) (pe_callB call_len_seq (by rfl) T.len PySem.boot_len (pa_cons (pe_fld (pv 0) rfl) pa_nil)) (nomark _)) (pss_one (ps_raise0 T.oF rfl)) pss_nil)
     (pss_cons (ps_set (i := 3) sc69_9.nd rfl (Or.inl rfl) (pe_slice sl_list (pe_fld (pv 0) rfl) (po_some (pe_fld (pv 0) rfl)) (po_some (pv 2))))
     (pss_cons (ps_fld (pv 0) (pv 2) rfl)
     (pss_cons (ps_if (pw_and (pt_cmpR op_eq (pe_fld (pv 1) rfl) (pe_k T.kTXT) (nomark _)) (pw_and1 (pt_not (pt_val (pe_d DU pass_fly hr (pa_cons (pv 3) pa_nil)))))).pt (pss_one (ps_raise0 T.oF rfl)) pss_nil)
     (pss_one (ps_ret (pv 3))))))), ?_⟩
   refine ⟨_, rfl, p, _, dx, _, _, rfl, hp, T.clR, T.nR2, rd2, _, rfl, h, _, dh, _, _, rfl, hh, T.clH, T.nH3, hd3, _, _, rfl, rfl, ?_⟩
   refine ⟨_, rfl, _, rfl, p, _, dx, _, _, rfl, hp, T.clR, T.nR1, rd1, a, _, rfl, .inl (SqL.of ha), _, _, rfl, rfl, _, rfl, iteB (fun h1 => ?_) (fun h1 => ?_)⟩
   · have h1' := of_decide_eq_true h1
     rw [vb_length] at h1'
     unfold Pu.strOf at k
     dsimp only at k
     rw [if_pos (.inl (by rw [List.length_drop]; omega))] at k
     exact k H (But.refl p H)
   · have h1' := of_decide_eq_false h1
     rw [vb_length] at h1'
     refine ⟨_, rfl, p, _, dx, _, _, rfl, hp, T.clR, T.nR1, rd1, _, rfl, p, _, dx, _, _, rfl, hp, T.clR, T.nR2, rd2, _, rfl, _, rfl, _, rfl, a, _, rfl, SqL.of ha, fun q hq => ?_⟩
     have ec : cutV (vb b) (some (at_ : Int)) (some ((at_ : Int) + (n : Int))) = vb ((b.drop at_).take n) := by
       have := cutV_nat (b := b) (lo := at_) (hi := at_ + n) hat
       have e9 : at_ + n - at_ = n := by omega
       rw [e9] at this
       simpa using this
     rw [ec]
     have s1 : Same H (upd H q (.lst (vb ((b.drop at_).take n)))) := Same.upd hq
     have hp1 := s1 _ _ hp
     have nqp : q ≠ p := (ne_of_none hp hq).symm
     refine ⟨_, rfl, _, rfl, p, _, dx, _, rfl, hp1, T.clR, T.nR2, (by show 5 < 1000; decide), ?_⟩
     have e : putF "at" (V.int ((at_ : Int) + (n : Int))) (rdF a at_ nc sb tw) = rdF a (at_ + n) nc sb tw := rfl
     rw [e]
     have B2 : But p H (upd (upd H q (.lst (vb ((b.drop at_).take n)))) p (.ins T.CR dx (rdF a (at_ + n) nc sb tw))) := (But.of s1).trans But.upd
     have R2 : RdAt T.CR (upd (upd H q (.lst (vb ((b.drop at_).take n)))) p (.ins T.CR dx (rdF a (at_ + n) nc sb tw))) p a b (at_ + n) nc sb tw := (hR.same s1).put
     have e3 : (upd (upd H q (.lst (vb ((b.drop at_).take n)))) p (.ins T.CR dx (rdF a (at_ + n) nc sb tw))) q = some (.lst (vb ((b.drop at_).take n))) := by rw [upd_ne nqp]; exact upd_same
     generalize upd (upd H q (.lst (vb ((b.drop at_).take n)))) p (.ins T.CR dx (rdF a (at_ + n) nc sb tw)) = H2 at B2 R2 e3
     have hh2 := B2 _ _ hh nhp
     have hlt : ¬ (b.drop at_).length < n := by rw [List.length_drop]; omega
     have el : b.length - ((b.drop at_).drop n).length = at_ + n := by rw [List.length_drop, List.length_drop]; omega
     unfold Pu.strOf at k
     dsimp only at k
     have fin : ∀ H3, Same H2 H3 → ¬ (m = 3 ∧ ut ((b.drop at_).take n) = false) → Q (.ref q) H3 := fun H3 s3 hno => by
       rw [if_neg (fun z => z.elim hlt hno)] at k
       dsimp only at k
       rw [el] at k
       exact k q H3 hq (B2.trans (But.of s3)) (R2.same s3) (s3 _ _ e3)
     refine ⟨_, rfl, h, _, dh, _, _, rfl, hh2, T.clH, T.nH1, hd1, rfl, _, rfl, iteB (fun h2 => ?_) (fun h2 => ?_)⟩
     · have h2' : (m : Int) = 3 := by have := of_decide_eq_true h2; injection this
       refine ⟨_, rfl, q, _, rfl, e3, fun H3 s3 => ⟨_, rfl, ?_⟩⟩
       cases hu : ut ((b.drop at_).take n) with
       | true => exact iteF ⟨_, rfl, fin H3 s3 (fun z => by rw [hu] at z; exact absurd z.2 (by decide))⟩
       | false =>
         refine iteT ?_
         rw [if_pos (.inr ⟨by omega, hu⟩)] at k
         exact k H3 (B2.trans (But.of s3))
     · have h2' : ¬ (m : Int) = 3 := fun z => of_decide_eq_false h2 (congrArg V.int z)
       exact iteF ⟨_, rfl, fin H2 (Same.refl H2) (fun z => h2' (by omega))⟩
end
end My
end
section
namespace Pu
open Of
theorem parts_fuel (m : Nat) : ∀ (k k' : Nat) (got r : Bytes), r.length + 1 ≤ k → r.length + 1 ≤ k' → partsIn m k got r = partsIn m k' got r
 | 0, _, _, _, h, _ => by omega
 | _, 0, _, _, _, h => by omega
 | k + 1, k' + 1, got, [], _, _ => by rw [partsIn, partsIn]
 | k + 1, k' + 1, got, c :: r, h, h' => by
   rw [List.length_cons] at h h'
   rw [partsIn, partsIn]
   split
   · rfl
   · split
     · rfl
     · cases hn : headIn (c.toNat % 32) r with
       | none => rfl
       | some z =>
         obtain ⟨n, t⟩ := z
         dsimp only
         have := headIn_len hn
         split
         · rfl
         · exact parts_fuel m k k' _ _ (by rw [List.length_drop]; omega) (by rw [List.length_drop]; omega)
noncomputable def ptI (m : Nat) (got r : Bytes) : Option (Bytes × Bytes) := partsIn m (r.length + 1) got r
theorem ptI_head {m : Nat} (b : Bytes) (pos : Nat) (got : Bytes) : ptI m got (b.drop pos) = if b[pos]? = some 0xFF then some (got, b.drop (pos + 1)) else match headOf b pos with
   | none => none
   | some (m', i, n, bh) => match n with
     | none => none
     | some n => if m' = m then (match strOf m (some n) (b.drop bh) with
         | none => none
         | some (c, t) => ptI m (got ++ c) t) else none := by
 unfold ptI headOf
 cases hc : b.drop pos with
 | nil =>
   have hl := congrArg List.length hc
   rw [List.length_drop] at hl
   have hl' : b.length - pos = 0 := hl
   have e : b[pos]? = none := List.getElem?_eq_none (by omega)
   rw [e, partsIn]
   simp
 | cons c r =>
   obtain ⟨g1, g2, g3, g4⟩ := drop_get hc
   rw [g2, g4, partsIn]
   by_cases hff : c = 0xFF
   · rw [if_pos hff, if_pos (by rw [hff])]
   · rw [if_neg hff, if_neg (fun z => hff (Option.some.inj z))]
     dsimp only
     by_cases hx : c.toNat % 32 = 31 ∧ 2 ≤ c.toNat / 32 ∧ c.toNat / 32 ≤ 5
     · rw [if_pos hx]
       dsimp only
       have hn : headIn (c.toNat % 32) r = none := by rw [hx.1]; simp [headIn]
       rw [hn]
       split <;> rfl
     · rw [if_neg hx]
       cases hn : headIn (c.toNat % 32) r with
       | none => dsimp only; split <;> rfl
       | some z =>
         obtain ⟨n, t⟩ := z
         dsimp only
         obtain ⟨wd, rfl, hw, k1, k2⟩ := headIn_suffix hn
         obtain ⟨e1, e2⟩ := drop_back hc hw
         rw [e1, e2]
         by_cases hm : c.toNat / 32 = m
         · rw [if_neg (by omega), if_pos hm]
           unfold strOf
           dsimp only
           by_cases hl : (r.drop wd).length < n
           · rw [if_pos (.inl hl), if_pos (.inl hl)]
           · have eu : utf8 n ((r.drop wd).take n) = ut ((r.drop wd).take n) := utf8_ut (by rw [List.length_take]; omega)
             rw [eu]
             by_cases hb : m = 3 ∧ ut ((r.drop wd).take n) = false
             · rw [if_pos (.inr hb), if_pos (.inr hb)]
             · rw [if_neg (fun q => q.elim hl hb), if_neg (fun q => q.elim hl hb)]
               dsimp only
               refine parts_fuel m _ _ _ _ ?_ (Nat.le_refl _)
               rw [List.length_drop, List.length_drop, List.length_cons]
               omega
         · rw [if_pos hm, if_neg hm]
theorem strOf_some {m n : Nat} {r c t : Bytes} (h : strOf m (some n) r = some (c, t)) : c = r.take n ∧ t = r.drop n ∧ n ≤ r.length ∧ c.length = n := by
 unfold strOf at h
 dsimp only at h
 split at h
 · cases h
 · rename_i hh
   cases h
   refine ⟨rfl, rfl, by omega, ?_⟩
   rw [List.length_take]
   omega
end Pu
namespace My
open PySem PySem.Spec PyProof.Rows L2 Of Pu
section
variable {P : Program} {w : World} {K : PySem.W.Frag} {mg : Str → Option Value} {base : Heap}
noncomputable def spTP (T : Tx P w K mg) : Sp := fun vs H Q E => ∃ (p a h : Addr) (b : Bytes) (at_ nc sb m i bh : Nat) (tw : Bool), vs = [.ref p, .ref h] ∧ RdAt T.CR H p a b at_ nc sb tw ∧ HdAt T.CH H h m i none bh ∧ at_ ≤ b.length ∧ b.length ≤ 400 ∧
 (match ptI m [] (b.drop at_) with
  | none => ∀ H', But p H H' → E (.ref T.xF) none H'
  | some (c, t) => ∀ q H', H q = none → But p H H' → RdAt T.CR H' p a b (b.length - t.length) nc sb tw → H' q = some (.lst (vb c)) → Q (.ref q) H')
theorem sc69_8 : FnScope ["self", "head", "content", "part"] ["self", "head"] (defScope (inClass (top 69) 8)) := ⟨rfl, rfl, rfl, by decide +kernel, rfl, by decide +kernel, by decide +kernel⟩
theorem ok_TP (T : Tx P w K mg) {f : Addr} {fd : FuncData} (F : Fun K "take_parts" "Reader.take_parts" (inClass (top 69) 8) f fd) (MG : Mth P w K mg base 1 T.CR "goes_on" ["self", "head", "taken"] (spGO T)) (MH : Mth P w K mg base 5 T.CR "take_head" ["self"] (spTH T)) (MC : Mth P w K mg base 3 T.CR "take_content" ["self", "head"] (spTC T)) :
   FnOk P w K mg base (CXE P w) 6 f fd ["self", "head"] (spTP T) := by
 refine F.okE sc69_8 (fun vs H Q E h => ?_) (fun cdv A outer s H vs Q E hr h => ?_)
 · obtain ⟨p, a, h, b, at_, nc, sb, m, i, bh, tw, rfl, _⟩ := h
   rfl
 · obtain ⟨p, a, h, b, at_, nc, sb, m, i, bh, tw, rfl, hR, hd, hat, h400, k⟩ := h
   have hr1 := hr.mono (j := 1) (by decide)
   have hr3 := hr.mono (j := 3) (by decide)
   refine ⟨_, pss_cons (ps_set (i := 2) sc69_8.nd rfl (Or.inl rfl) (pe_lst pa_nil))
     (pss_cons (ps_while PassesOwn.leaving (pt_val (pe_m MG T.clR pass_fly hr1 (pv 0) (pa_cons (pv 1) (pa_cons pe_int pa_nil))))
       (pss_cons (ps_set (i := 3) sc69_8.nd rfl (Or.inl rfl) (pe_m0 MH T.clR pass_fly hr (pv 0)))
       (pss_cons (ps_if (pw_or (pt_cmpR op_ne (pe_fld (pv 3) rfl) (pe_fld (pv 1) rfl) (nomark _)) (pw_or1 (pt_cmp (pc_isN (pe_fld (pv 3) rfl))))).pt (pss_one (ps_raise0 T.oF rfl)) pss_nil)
       (pss_one (ps_expr (pe_bm PySem.F.plainAttrs_list PySem.F.slot_list_extend PySem.F.type_list_extend mt_extend (pv 2) (pa_cons (pe_m MC T.clR pass_fly hr3 (pv 0) (pa_cons (pv 3) pa_nil)) pa_nil)))))))
     (pss_one (ps_ret (pv 2)))), ?_⟩
   refine ⟨Nat.zero_le _, fun q hq => ?_⟩
   have s0 : Same H (upd H q (.lst [])) := Same.upd hq
   refine ⟨fun n σ H' => ∃ (pos : Nat) (c : Bytes) (v : Option V), σ = [some (.ref p), some (.ref h), some (.ref q), v] ∧ But p H H' ∧ RdAt T.CR H' p a b pos nc sb tw ∧ H' q = some (.lst (vb c)) ∧ pos ≤ b.length ∧ n = b.length - pos ∧ c.length ≤ pos ∧ ptI m [] (b.drop at_) = ptI m c (b.drop pos),
     ⟨_, at_, [], none, rfl, But.of s0, hR.same s0, upd_same, hat, rfl, Nat.zero_le _, rfl⟩, ?_⟩
   rintro n σ H' ⟨pos, c, v, rfl, B, R, hc, hpos, rfl, hcl, hpt⟩
   obtain ⟨⟨dx, hp⟩, ha⟩ := id R
   have nqp : q ≠ p := by
     obtain ⟨⟨dx0, hp0⟩, _⟩ := hR
     exact (ne_of_none hp0 hq).symm
   have nhp : h ≠ p := by
     obtain ⟨⟨dx0, hp0⟩, _⟩ := hR
     obtain ⟨dh, hh⟩ := hd
     exact rd_ne_hd hh hp0
   have hd' := hd.but B nhp
   rw [ptI_head b pos c] at hpt
   refine ⟨_, rfl, p, dx, _, rfl, hp, rfl, _, rfl, p, a, h, b, pos, nc, sb, m, i, bh, 0, none, tw, rfl, R, hd', ⟨fun hff H2 B2 R2 => ⟨_, rfl, iteF ?_⟩, fun hff => ⟨_, rfl, iteT ?_⟩⟩⟩
   · rw [if_pos hff] at hpt
     rw [hpt] at k
     dsimp only at k
     have hlt : pos < b.length := (List.getElem?_eq_some_iff.mp hff).1
     have e9 : b.length - (b.drop (pos + 1)).length = pos + 1 := by rw [List.length_drop]; omega
     rw [e9] at k
     exact ⟨_, rfl, k q H2 hq (B.trans B2) R2 (B2 _ _ hc nqp)⟩
   · rw [if_neg hff] at hpt
     refine ⟨_, fun σ' H'' z => z, ?_⟩
     refine ⟨_, rfl, p, dx, _, rfl, hp, rfl, p, a, b, pos, nc, sb, tw, rfl, R, ?_⟩
     cases eh : headOf b pos with
     | none =>
       rw [eh] at hpt
       rw [hpt] at k
       exact k H' B
     | some z =>
       obtain ⟨m', i', n', bh'⟩ := z
       rw [eh] at hpt
       dsimp only at hpt ⊢
       intro q2 H2 hq2 B2 R2 hd2
       obtain ⟨dh2, hh2⟩ := id hd2
       obtain ⟨dh, hh⟩ := hd'.but B2 nhp
       have bb := headOf_behind eh
       refine ⟨_, rfl, q2, _, dh2, _, _, rfl, hh2, T.clH, T.nH1, hd1, _, rfl, h, _, dh, _, _, rfl, hh, T.clH, T.nH1, hd1, rfl, _, rfl, ?_⟩
       by_cases hm : m' = m
       · have em : decide (V.int (m' : Int) = V.int (m : Int)) = true := decide_eq_true (by rw [hm])
         rw [em]
         refine iteF ⟨_, rfl, q2, _, dh2, _, _, rfl, hh2, T.clH, T.nH3, hd3, _, rfl, ?_⟩
         rw [onat_non]
         cases n' with
         | none =>
           dsimp only at hpt
           rw [hpt] at k
           exact iteT (k H2 (B.trans B2))
         | some n =>
           dsimp only at hpt
           rw [if_pos hm] at hpt
           refine iteF ?_
           obtain ⟨⟨dx2, hp2⟩, ha2⟩ := id R2
           have hc2 := B2 _ _ hc nqp
           refine ⟨_, rfl, .inl ⟨rfl, _, SqL.of hc2⟩, _, rfl, p, dx2, _, rfl, hp2, rfl, _, rfl, p, a, q2, b, bh', nc, sb, m', i', bh', n, tw, rfl, R2, hd2, bb.2.1, ?_⟩
           rw [hm]
           cases es : Pu.strOf m (some n) (b.drop bh') with
           | none =>
             rw [es] at hpt
             dsimp only at hpt ⊢
             rw [hpt] at k
             exact fun H3 B3 => k H3 ((B.trans B2).trans B3)
           | some z =>
             obtain ⟨c2, t2⟩ := z
             rw [es] at hpt
             dsimp only at hpt ⊢
             intro q3 H3 hq3 B3 R3 e3
             obtain ⟨z1, z2, z3, z4⟩ := Pu.strOf_some es
             rw [List.length_drop] at z3
             have el : b.length - t2.length = bh' + n := by rw [z2, List.length_drop, List.length_drop]; omega
             have hc3 := B3 _ _ hc2 nqp
             refine ⟨q, q3, _, _, rfl, rfl, hc3, e3, ?_, b.length - (bh' + n), by omega, bh' + n, c ++ c2, some (.ref q2), rfl, ?_, ?_, ?_, by omega, rfl, ?_, ?_⟩
             · rw [vb_length, vb_length, sizeLine_eq, z4]; omega
             · exact But.upd2 ((B.trans B2).trans B3) hq
             · rw [el] at R3
               obtain ⟨⟨dx3, hp3⟩, ha3⟩ := R3
               have naq : a ≠ q := ne_of_none hR.2 hq
               exact ⟨⟨dx3, by rw [upd_ne nqp.symm]; exact hp3⟩, by rw [upd_ne naq]; exact ha3⟩
             · rw [upd_same, vb_append]
             · rw [List.length_append, z4]; omega
             · rw [hpt, z2, List.drop_drop]
       · have em : decide (V.int (m' : Int) = V.int (m : Int)) = false := decide_eq_false (fun z => by injection z with z; omega)
         rw [em]
         have : ptI m [] (b.drop at_) = none := by
           rw [hpt]
           cases n' with
           | none => rfl
           | some n => dsimp only; rw [if_neg hm]
         rw [this] at k
         exact iteT (k H2 (B.trans B2))
noncomputable def spTS (T : Tx P w K mg) : Sp := fun vs H Q E => ∃ (p a h : Addr) (b : Bytes) (at_ nc sb m i bh : Nat) (n : Option Nat) (tw : Bool), vs = [.ref p, .ref h] ∧ RdAt T.CR H p a b at_ nc sb tw ∧ HdAt T.CH H h m i n bh ∧ m ≤ 7 ∧ at_ ≤ b.length ∧ b.length ≤ 400 ∧ sb ≤ at_ ∧
 (match Pu.strOf m n (b.drop at_) with
  | none => ∀ H', But p H H' → E (.ref T.xF) none H'
  | some (c, t) => ∀ q H', H q = none → But p H H' → RdAt T.CR H' p a b (b.length - t.length) nc (sb + c.length) tw → H' q = some (.lst (vb (short m c.length ++ c))) → Q (.ref q) H')
theorem sc69_7 : FnScope ["self", "head", "content"] ["self", "head"] (defScope (inClass (top 69) 7)) := ⟨rfl, rfl, rfl, by decide +kernel, rfl, by decide +kernel, by decide +kernel⟩
theorem ok_TS (T : Tx P w K mg) {f : Addr} {fd : FuncData} (F : Fun K "take_string" "Reader.take_string" (inClass (top 69) 7) f fd) (MP : Mth P w K mg base 6 T.CR "take_parts" ["self", "head"] (spTP T)) (MC : Mth P w K mg base 3 T.CR "take_content" ["self", "head"] (spTC T)) (DH : Dfn P w K mg base 3 "short_head" ["major", "number"] spSH) :
   FnOk P w K mg base (CXE P w) 7 f fd ["self", "head"] (spTS T) := by
 refine F.okE sc69_7 (fun vs H Q E h => ?_) (fun cdv A outer s H vs Q E hr h => ?_)
 · obtain ⟨p, a, h, b, at_, nc, sb, m, i, bh, n, tw, rfl, _⟩ := h
   rfl
 · obtain ⟨p, a, h, b, at_, nc, sb, m, i, bh, n, tw, rfl, hR, hd, hm, hat, h400, hsb, k⟩ := h
   obtain ⟨⟨dx, hp⟩, ha⟩ := id hR
   obtain ⟨dh, hh⟩ := id hd
   have nhp : h ≠ p := rd_ne_hd hh hp
   have hr3 := hr.mono (j := 3) (by decide)
   refine ⟨_, pss_cons (ps_if (pt_cmp (pc_isN (pe_fld (pv 1) rfl))) (pss_one (ps_set (i := 2) sc69_7.nd rfl (Or.inl rfl) (pe_m MP T.clR pass_fly hr (pv 0) (pa_cons (pv 1) pa_nil)))) (pss_one (ps_set (i := 2) sc69_7.nd rfl (Or.inl rfl) (pe_m MC T.clR pass_fly hr3 (pv 0) (pa_cons (pv 1) pa_nil)))))
     (pss_cons (ps_fldaug (pv 0) (pe_callB call_len_seq (by rfl) T.len PySem.boot_len (pa_cons (pv 2) pa_nil)) in_add)
     (pss_cons (ps_if (pt_cmpR op_gt (pe_fld (pv 0) rfl) (pe_k T.kMS) (nomark _)) (pss_one (ps_raise0 T.oF rfl)) pss_nil)
     (pss_one (ps_ret (pe_op op_cat (pe_d DH pass_fly hr3 (pa_cons (pe_fld (pv 1) rfl) (pa_cons (pe_callB call_len_seq (by rfl) T.len PySem.boot_len (pa_cons (pv 2) pa_nil)) pa_nil))) (pv 2)))))), ?_⟩
   have rest : ∀ (c t : Bytes) (q : Addr) (H1 : Hp), Pu.strOf m n (b.drop at_) = some (c, t) → c.length ≤ b.length → H q = none → But p H H1 → RdAt T.CR H1 p a b (b.length - t.length) nc sb tw → H1 q = some (.lst (vb c)) →
       tSeq (sFldAug K (tVar 0) (tCB (fun xs H Q => ∃ p ys, xs = [V.ref p] ∧ (SqL K H p ys ∨ SqT K H p ys) ∧ Q (V.int ys.length) H) (tCons (tVar 2) tNil)) rAdd "string_bytes") (tSeq (tIfS (tTest (tOp (rI0 fun i j => V.bl (decide (j < i))) (tFld K (tVar 0) "string_bytes") (tC (V.int 8192)))) (tRaise T.xF E) tNext)
         (tRet (tOp rCat (tCall spSH [] E (tCons (tFld K (tVar 1) "major") (tCons (tCB (fun xs H Q => ∃ p ys, xs = [V.ref p] ∧ (SqL K H p ys ∨ SqT K H p ys) ∧ Q (V.int ys.length) H) (tCons (tVar 2) tNil)) tNil))) (tVar 2))))
         { nx := fun _ H' => Q .non H', rt := Q } [some (.ref p), some (.ref h), some (.ref q)] H1 := by
     intro c t q H1 es hcl hq B1 R1 e1
     rw [es] at k
     dsimp only at k
     obtain ⟨⟨dx1, hp1⟩, ha1⟩ := id R1
     have nqp : q ≠ p := (ne_of_none hp hq).symm
     refine ⟨_, rfl, p, _, dx1, _, _, rfl, hp1, T.clR, T.nR4, rd4, _, rfl, q, _, rfl, .inl (SqL.of e1), _, _, rfl, rfl, dx1, _, hp1, (by show 5 < 1000; decide), ?_⟩
     have e : putF "string_bytes" (V.int ((sb : Int) + (((vb c).length : Nat) : Int))) (rdF a (b.length - t.length) nc sb tw) = rdF a (b.length - t.length) nc (sb + c.length) tw := by rw [vb_length]; rfl
     rw [e]
     have B2 : But p H (upd H1 p (.ins T.CR dx1 (rdF a (b.length - t.length) nc (sb + c.length) tw))) := B1.trans But.upd
     have R2 : RdAt T.CR (upd H1 p (.ins T.CR dx1 (rdF a (b.length - t.length) nc (sb + c.length) tw))) p a b (b.length - t.length) nc (sb + c.length) tw := R1.put
     have e2 : (upd H1 p (.ins T.CR dx1 (rdF a (b.length - t.length) nc (sb + c.length) tw))) q = some (.lst (vb c)) := by rw [upd_ne nqp]; exact e1
     generalize upd H1 p (.ins T.CR dx1 (rdF a (b.length - t.length) nc (sb + c.length) tw)) = H2 at B2 R2 e2
     obtain ⟨⟨dx2, hp2⟩, ha2⟩ := id R2
     have hh2 := B2 _ _ hh nhp
     refine ⟨_, rfl, p, _, dx2, _, _, rfl, hp2, T.clR, T.nR4, rd4, _, _, rfl, rfl, _, rfl, iteB (fun h1 => ?_) (fun h1 => ?_)⟩
     · have h1' := of_decide_eq_true h1
       exfalso
       omega
     · refine ⟨_, rfl, h, _, dh, _, _, rfl, hh2, T.clH, T.nH1, hd1, _, rfl, q, _, rfl, .inl (SqL.of e2), m, c.length, ?_, hm, by omega, fun q2 H3 hq2 s3 e3 => ?_⟩
       · show [V.int (m : Int), V.int (((vb c).length : Nat) : Int)] = _
         rw [vb_length]
       · have hsl := (short_length m c.length).2
         refine ⟨_, rfl, q2, q, _, _, rfl, rfl, e3, s3 _ _ e2, ?_, fun q3 hq3 => ?_⟩
         · rw [vb_length, vb_length, sizeLine_eq]; omega
         · have nq3p : q3 ≠ p := (ne_of_none (s3 _ _ hp2) hq3).symm
           refine k q3 _ (B2.free (s3.free hq3) nq3p) ((B2.trans (But.of s3)).trans (But.of (Same.upd hq3))) ((R2.same s3).same (Same.upd hq3)) ?_
           rw [upd_same, vb_append]
   refine ⟨_, rfl, h, _, dh, _, _, rfl, hh, T.clH, T.nH3, hd3, _, rfl, ?_⟩
   rw [onat_non]
   cases n with
   | none =>
     refine iteT ⟨_, rfl, p, dx, _, rfl, hp, rfl, _, rfl, p, a, h, b, at_, nc, sb, m, i, bh, tw, rfl, hR, hd, hat, h400, ?_⟩
     cases es : ptI m [] (b.drop at_) with
     | none =>
       have : Pu.strOf m none (b.drop at_) = none := es
       rw [this] at k
       exact k
     | some z =>
       obtain ⟨c, t⟩ := z
       have : Pu.strOf m none (b.drop at_) = some (c, t) := es
       intro q H1 hq B1 R1 e1
       have pl := partsIn_len es
       have e0 : ([] : Bytes).length = 0 := rfl
       rw [List.length_drop] at pl
       exact rest c t q H1 this (by omega) hq B1 R1 e1
   | some n =>
     refine iteF ⟨_, rfl, p, dx, _, rfl, hp, rfl, _, rfl, p, a, h, b, at_, nc, sb, m, i, bh, n, tw, rfl, hR, hd, hat, ?_⟩
     cases es : Pu.strOf m (some n) (b.drop at_) with
     | none =>
       rw [es] at k
       exact k
     | some z =>
       obtain ⟨c, t⟩ := z
       intro q H1 hq B1 R1 e1
       obtain ⟨z1, z2, z3, z4⟩ := Pu.strOf_some es
       rw [List.length_drop] at z3
       exact rest c t q H1 es (by omega) hq B1 R1 e1
end
end My
end
section
namespace Pu
open Of
theorem suffix_trans {a b c : Bytes} (h1 : ∃ k, b = a.drop k) (h2 : ∃ k, c = b.drop k) : ∃ k, c = a.drop k := by
 obtain ⟨k1, rfl⟩ := h1
 obtain ⟨k2, rfl⟩ := h2
 exact ⟨k1 + k2, by rw [List.drop_drop]⟩
theorem suffix_cons (c : UInt8) (r : Bytes) : ∃ k, r = (c :: r).drop k := ⟨1, rfl⟩
theorem headIn_suf {i : Nat} {r : Bytes} {n : Nat} {t : Bytes} (h : headIn i r = some (n, t)) : ∃ k, t = r.drop k := let ⟨w, e, _⟩ := headIn_suffix h; ⟨w, e⟩
theorem partsIn_suf {m : Nat} : ∀ {k : Nat} {got r b t : Bytes}, partsIn m k got r = some (b, t) → ∃ k, t = r.drop k
 | 0, _, _, _, _, h => by simp [partsIn] at h
 | k + 1, _, [], _, _, h => by simp [partsIn] at h
 | k + 1, got, c :: r, b, t, h => by
   rw [partsIn] at h
   split at h
   · cases h; exact suffix_cons c _
   · split at h
     · cases h
     · split at h
       · cases h
       · rename_i n u hu
         split at h
         · cases h
         · exact suffix_trans (suffix_cons c r) (suffix_trans (headIn_suf hu) (suffix_trans ⟨n, rfl⟩ (partsIn_suf h)))
theorem stringIn_suf {m i : Nat} {r : Bytes} {g : Got} {t : Bytes} (h : stringIn m i r = some (g, t)) : ∃ k, t = r.drop k := by
 unfold stringIn at h
 split at h
 · split at h
   · rename_i b u hb
     cases h
     exact partsIn_suf hb
   · cases h
 · split at h
   · cases h
   · rename_i n u hu
     split at h
     · cases h
     · cases h
       exact suffix_trans (headIn_suf hu) ⟨n, rfl⟩
theorem sufs : ∀ f : Nat, (∀ d b g t, itemIn f d b = some (g, t) → ∃ k, t = b.drop k) ∧ (∀ d n got b l t, itemsIn f d n got b = some (l, t) → ∃ k, t = b.drop k) ∧ (∀ d got b l t, itemsOpen f d got b = some (l, t) → ∃ k, t = b.drop k)
 | 0 => ⟨fun d b g t h => by simp [itemIn] at h, fun d n got b l t h => by simp [itemsIn] at h, fun d got b l t h => by simp [itemsOpen] at h⟩
 | f + 1 => by
   obtain ⟨i1, i2, i3⟩ := sufs f
   refine ⟨fun d b g t h => ?_, fun d n got b l t h => ?_, fun d got b l t h => ?_⟩
   · cases b with
     | nil => rw [itemIn.eq_def] at h; cases h
     | cons c r =>
       refine suffix_trans (suffix_cons c r) ?_
       rw [itemIn.eq_def] at h
       dsimp only at h
       split at h
       · split at h
         · rename_i n u hu
           cases h
           exact headIn_suf hu
         · cases h
       · split at h
         · exact stringIn_suf h
         · split at h
           · split at h
             · cases h
               exact ⟨0, rfl⟩
             · split at h
               · split at h
                 · split at h
                   · cases h
                   · cases h
                     exact suffix_cons _ _
                 · cases h
               · split at h
                 · rename_i n u hu
                   cases h
                   exact headIn_suf hu
                 · cases h
           · split at h
             · cases h
             · split at h
               · split at h
                 · cases h
                 · rename_i n u hu
                   split at h
                   · cases h
                   · rename_i x v hx
                     cases h
                     exact suffix_trans (headIn_suf hu) (i1 _ _ _ _ hx)
               · split at h
                 · split at h
                   · cases h
                   · rename_i l u hl
                     have := i3 _ _ _ _ _ hl
                     split at h
                     · cases h; exact this
                     · split at h
                       · cases h; exact this
                       · cases h
                 · split at h
                   · cases h
                   · rename_i n u hu
                     split at h
                     · cases h
                     · rename_i l v hl
                       have := suffix_trans (headIn_suf hu) (i2 _ _ _ _ _ _ hl)
                       split at h <;> cases h <;> exact this
   · rw [itemsIn] at h
     split at h
     · cases h
       exact ⟨0, rfl⟩
     · split at h
       · cases h
       · rename_i x u hx
         exact suffix_trans (i1 _ _ _ _ hx) (i2 _ _ _ _ _ _ h)
   · rw [itemsOpen.eq_def] at h
     dsimp only at h
     split at h
     · cases h
     · rename_i c r
       split at h
       · cases h
         exact suffix_cons c _
       · split at h
         · cases h
         · rename_i x u hx
           exact suffix_trans (i1 _ _ _ _ hx) (i3 _ _ _ _ _ h)
theorem item_suffix {d : Nat} {b : Bytes} {g : Got} {t : Bytes} (h : item d b = some (g, t)) : ∃ k, t = b.drop k := (sufs _).1 _ _ _ _ h
theorem suf_drop {b t : Bytes} (h : ∃ k, t = b.drop k) : b.drop (b.length - t.length) = t := by
 obtain ⟨k, rfl⟩ := h
 by_cases hk : k ≤ b.length
 · rw [List.length_drop]
   congr 1
   omega
 · rw [List.drop_of_length_le (show b.length ≤ k by omega)]
   simp
end Pu
namespace My
open PySem PySem.Spec PyProof.Rows L2 Of Pu
noncomputable def Kp : HO → Option HO → Prop
 | .tbl _, x => ∃ ps, x = some (.tbl ps)
 | o, x => x = some o
theorem Kp.of {o : HO} {x : Option HO} (h : x = some o) : Kp o x := by
 cases o with
 | tbl ps => exact ⟨ps, h⟩
 | _ => exact h
theorem Kp.trans {o : HO} {x : Option HO} {y : Option HO} (h : Kp o x) (k : ∀ u, x = some u → Kp u y) : Kp o y := by
 cases o with
 | tbl ps =>
   obtain ⟨ps', e⟩ := h
   exact (show ∃ ps, y = Option.some (.tbl ps) from k (.tbl ps') e)
 | _ => exact k _ h
theorem Kp.some {o : HO} {x : Option HO} (h : Kp o x) : ∃ u, x = some u := by
 cases o with
 | tbl ps =>
   obtain ⟨ps', e⟩ := h
   exact ⟨_, e⟩
 | _ => exact ⟨_, h⟩
noncomputable def Bat (p : Addr) (H H' : Hp) : Prop := ∀ b o, H b = Option.some o → b ≠ p → Kp o (H' b)
theorem Bat.of {p : Addr} {H H' : Hp} (a : But p H H') : Bat p H H' := fun b o e n => Kp.of (a b o e n)
theorem Bat.ofS {p : Addr} {H H' : Hp} (a : Same H H') : Bat p H H' := Bat.of (But.of a)
theorem Bat.trans {p : Addr} {H H1 H2 : Hp} (a : Bat p H H1) (b : Bat p H1 H2) : Bat p H H2 := fun c o h n => (a c o h n).trans fun u e => b c u e n
theorem Bat.free {p q : Addr} {H H' : Hp} (a : Bat p H H') (h : H' q = none) (n : q ≠ p) : H q = none := by
 cases e : H q with
 | none => rfl
 | some o =>
   obtain ⟨u, z⟩ := (a q o e n).some
   rw [h] at z; cases z
theorem Bat.upd2 {p q : Addr} {H H' : Hp} {o : HO} (s : Bat p H H') (h : H q = none) : Bat p H (L2.upd H' q o) := fun b u e n => by rw [upd_ne (ne_of_none e h)]; exact s b u e n
theorem Bat.lst {p b : Addr} {H H' : Hp} {xs : List V} (s : Bat p H H') (h : H b = some (.lst xs)) (n : b ≠ p) : H' b = some (.lst xs) := s b _ h n
theorem Bat.ins {p b C dx : Addr} {H H' : Hp} {fs : List (Str × V)} (s : Bat p H H') (h : H b = some (.ins C dx fs)) (n : b ≠ p) : H' b = some (.ins C dx fs) := s b _ h n
theorem Bat.tup {p b : Addr} {H H' : Hp} {xs : List V} (s : Bat p H H') (h : H b = some (.tup xs)) (n : b ≠ p) : H' b = some (.tup xs) := s b _ h n
theorem HdAt.bat {C p q : Addr} {H H' : Hp} {m i b : Nat} {n : Option Nat} (h : HdAt C H p m i n b) (s : Bat q H H') (ne : p ≠ q) : HdAt C H' p m i n b := let ⟨dx, e⟩ := h; ⟨dx, s.ins e ne⟩
noncomputable def lamLine : Nat := 300
noncomputable def lamCol : Nat := 34
noncomputable def triple (c : Addr) : Array Value := #[rawInt lamLine, rawInt lamCol, .ref c]
noncomputable def TabOk {P : Program} {w : World} {K : PySem.W.Frag} {mg : Str → Option Value} (T : Tx P w K mg) (H : Hp) : Prop :=
 H T.tabP = some (.tbl #[]) ∨ ∃ c, H T.tabP = some (.tbl (triple c)) ∧ H c = some (.ext fun h => h.CodeRec (.ref c) "Reader.take_map.<locals>.<lambda>")
theorem TabOk.keep {P : Program} {w : World} {K : PySem.W.Frag} {mg : Str → Option Value} {T : Tx P w K mg} {H H' : Hp} (h : TabOk T H) (k : ∀ b o, H b = some o → (∀ C dx fs, o ≠ .ins C dx fs) → (∀ xs, o ≠ .lst xs) → H' b = some o) : TabOk T H' := by
 rcases h with h | ⟨c, h1, h2⟩
 · exact .inl (k _ _ h (fun _ _ _ z => by cases z) (fun _ z => by cases z))
 · exact .inr ⟨c, k _ _ h1 (fun _ _ _ z => by cases z) (fun _ z => by cases z), k _ _ h2 (fun _ _ _ z => by cases z) (fun _ z => by cases z)⟩
theorem TabOk.same {P : Program} {w : World} {K : PySem.W.Frag} {mg : Str → Option Value} {T : Tx P w K mg} {H H' : Hp} (h : TabOk T H) (s : Same H H') : TabOk T H' := h.keep fun b o e _ _ => s b o e
theorem TabOk.but {P : Program} {w : World} {K : PySem.W.Frag} {mg : Str → Option Value} {T : Tx P w K mg} {H H' : Hp} {p C dx : Addr} {fs : List (Str × V)} (h : TabOk T H) (hp : H p = some (.ins C dx fs)) (s : But p H H') : TabOk T H' :=
 h.keep fun b o e n _ => s b o e fun z => n C dx fs (by rw [z, hp] at e; exact (Option.some.inj e).symm)
theorem TabOk.upd {P : Program} {w : World} {K : PySem.W.Frag} {mg : Str → Option Value} {T : Tx P w K mg} {H : Hp} {q : Addr} {xs : List V} {o : HO} (h : TabOk T H) (hq : H q = some (.lst xs)) : TabOk T (L2.upd H q o) :=
 h.keep fun b u e _ n => by rw [upd_ne (fun z => n xs (by rw [z, hq] at e; exact (Option.some.inj e).symm))]; exact e
noncomputable def GotR {P : Program} {w : World} {K : PySem.W.Frag} {mg : Str → Option Value} (T : Tx P w K mg) (H : Hp) (p a : Addr) (b : Bytes) (tw : Bool) (Q : VK) (g : Got) (t : Bytes) : Prop :=
 ∀ (q : Addr) (H' : Hp) (L : Bytes) (nc sb : Nat), H q = none → Bat p H H' → TabOk T H' → RdAt T.CR H' p a b (b.length - t.length) nc sb (tw || g.twice) → nc ≤ b.length - t.length → sb ≤ b.length - t.length → H' q = some (.lst (vb L)) → L.length = g.out.length → ((tw || g.twice) = false → L = g.out) → Q (.ref q) H'
noncomputable def IR {P : Program} {w : World} {K : PySem.W.Frag} {mg : Str → Option Value} (T : Tx P w K mg) (H : Hp) (p a : Addr) (b : Bytes) (tw : Bool) (Q : VK) (E : XK) : Option (Got × Bytes) → Prop
 | none => ∀ H', Bat p H H' → TabOk T H' → E (.ref T.xF) none H'
 | some (g, t) => GotR T H p a b tw Q g t
structure Rdy {P : Program} {w : World} {K : PySem.W.Frag} {mg : Str → Option Value} (T : Tx P w K mg) (H : Hp) (p a : Addr) (b : Bytes) (at_ nc sb : Nat) (tw : Bool) : Prop where
 rd : RdAt T.CR H p a b at_ nc sb tw
 nc : nc ≤ at_
 sb : sb ≤ at_
 le : at_ ≤ b.length
 few : b.length ≤ 400
 tab : TabOk T H
theorem lst_ne_ins {H : Hp} {r p C dx : Addr} {xs : List V} {fs : List (Str × V)} (h : H r = some (.lst xs)) (h2 : H p = some (.ins C dx fs)) : r ≠ p := ne_of h h2 (by intro z; cases z)
theorem Refs.but {H H' : Hp} {p C dx : Addr} {fs : List (Str × V)} {rs : List Addr} {Ls : List Bytes} (h : Refs H rs Ls) (hp : H p = some (.ins C dx fs)) (s : But p H H') : Refs H' rs Ls := ⟨h.1, fun j r e => let ⟨L, a, b⟩ := h.2 j r e; ⟨L, a, s _ _ b (lst_ne_ins b hp)⟩⟩
theorem Refs.bat {H H' : Hp} {p C dx : Addr} {fs : List (Str × V)} {rs : List Addr} {Ls : List Bytes} (h : Refs H rs Ls) (hp : H p = some (.ins C dx fs)) (s : Bat p H H') : Refs H' rs Ls := ⟨h.1, fun j r e => let ⟨L, a, b⟩ := h.2 j r e; ⟨L, a, s.lst b (lst_ne_ins b hp)⟩⟩
theorem Refs.upd {H : Hp} {q : Addr} {o : HO} {rs : List Addr} {Ls : List Bytes} (h : Refs H rs Ls) (nq : q ∉ rs) : Refs (L2.upd H q o) rs Ls := ⟨h.1, fun j r e => let ⟨L, a, b⟩ := h.2 j r e; ⟨L, a, by rw [upd_ne (fun z => nq (by rw [← z]; exact List.mem_of_getElem? e))]; exact b⟩⟩
structure Its (H : Hp) (rs : List Addr) (Ls : List Bytes) (got : List Got) (tw : Bool) : Prop where
 refs : Refs H rs Ls
 len : Ls.map List.length = got.map fun g => g.out.length
 eq : (tw || got.any Got.twice) = false → Ls = got.map Got.out
theorem Its.nil {H : Hp} {tw : Bool} : Its H [] [] [] tw := ⟨Refs.nil, rfl, fun _ => rfl⟩
theorem Its.lens {H : Hp} {rs : List Addr} {Ls : List Bytes} {got : List Got} {tw : Bool} (h : Its H rs Ls got tw) : Ls.length = got.length ∧ rs.length = got.length ∧ Ls.flatten.length = sumO got := by
 have e := congrArg List.length h.len
 rw [List.length_map, List.length_map] at e
 refine ⟨e, h.refs.1.trans e, ?_⟩
 rw [List.length_flatten, h.len]
 rfl
theorem Its.snoc {H : Hp} {rs : List Addr} {Ls : List Bytes} {got : List Got} {tw : Bool} {r : Addr} {L : Bytes} {g : Got} (h : Its H rs Ls got tw) (e : H r = some (.lst (vb L))) (hl : L.length = g.out.length) (he : ((tw || got.any Got.twice) || g.twice) = false → L = g.out) : Its H (rs ++ [r]) (Ls ++ [L]) (got ++ [g]) tw := by
 refine ⟨h.refs.snoc e, ?_, fun z => ?_⟩
 · rw [List.map_append, List.map_append, h.len]
   simp [hl]
 · have z' : ((tw || got.any Got.twice) || g.twice) = false := by
     rw [List.any_append] at z
     have e9 : ([g].any Got.twice) = g.twice := by simp
     rw [e9, ← Bool.or_assoc] at z
     exact z
   have z2 : (tw || got.any Got.twice) = false := by
     rw [Bool.or_eq_false_iff] at z'
     exact z'.1
   rw [h.eq z2, he z', List.map_append]
   rfl
theorem sumO_append (a b : List Got) : sumO (a ++ b) = sumO a + sumO b := by simp [sumO]
section
variable {P : Program} {w : World} {K : PySem.W.Frag} {mg : Str → Option Value} {base : Heap}
noncomputable def spTI (T : Tx P w K mg) (d e : Nat) : Sp := fun vs H Q E => ∃ (p a : Addr) (b : Bytes) (at_ nc sb : Nat) (tw : Bool), vs = [.ref p, .int d] ∧ Rdy T H p a b at_ nc sb tw ∧ IR T H p a b tw Q E (item e (b.drop at_))
noncomputable def arr (e : Nat) (n : Option Nat) (r : Bytes) : Option (Got × Bytes) := match (match n with | none => itemsO e [] r | some n => items e n [] r) with
 | none => none
 | some (l, t) => some (arrayOf l, t)
noncomputable def mpp (e : Nat) (n : Option Nat) (r : Bytes) : Option (Got × Bytes) := match (match n with | none => mapO e [] r | some n => items e (2 * n) [] r) with
 | none => none
 | some (l, t) => some (mapOf l, t)
noncomputable def spTA (T : Tx P w K mg) (d e : Nat) : Sp := fun vs H Q E => ∃ (p a h : Addr) (b : Bytes) (at_ nc sb i bh : Nat) (n : Option Nat) (tw : Bool), vs = [.ref p, .ref h, .int d] ∧ Rdy T H p a b at_ nc sb tw ∧ HdAt T.CH H h 4 i n bh ∧ IR T H p a b tw Q E (arr e n (b.drop at_))
noncomputable def spTM (T : Tx P w K mg) (d e : Nat) : Sp := fun vs H Q E => ∃ (p a h : Addr) (b : Bytes) (at_ nc sb i bh : Nat) (n : Option Nat) (tw : Bool), vs = [.ref p, .ref h, .int d] ∧ Rdy T H p a b at_ nc sb tw ∧ HdAt T.CH H h 5 i n bh ∧ IR T H p a b tw Q E (mpp e n (b.drop at_))
theorem sc69_5 : FnScope ["self", "head", "depth", "forms"] ["self", "head", "depth"] (defScope (inClass (top 69) 5)) := ⟨rfl, rfl, rfl, by decide +kernel, rfl, by decide +kernel, by decide +kernel⟩
noncomputable def rem (e : Nat) (n : Option Nat) (got : List Got) (r : Bytes) : Option (List Got × Bytes) := match n with
 | none => itemsO e got r
 | some N => items e (N - got.length) got r
theorem ok_TA (T : Tx P w K mg) {d e k0 : Nat} (hk : 4 ≤ k0) {f : Addr} {fd : FuncData} (F : Fun K "take_array" "Reader.take_array" (inClass (top 69) 5) f fd) (MG : Mth P w K mg base 1 T.CR "goes_on" ["self", "head", "taken"] (spGO T)) (MI : Mth P w K mg base k0 T.CR "take_item" ["self", "depth"] (spTI T d e)) (DC : Dfn P w K mg base 4 "counted_form" ["major", "forms"] spCF) :
   FnOk P w K mg base (CXE P w) (k0 + 1) f fd ["self", "head", "depth"] (spTA T d e) := by
 refine F.okE sc69_5 (fun vs H Q E h => ?_) (fun cdv A outer s H vs Q E hr h => ?_)
 · obtain ⟨p, a, h, b, at_, nc, sb, i, bh, n, tw, rfl, _⟩ := h
   rfl
 · obtain ⟨p, a, h, b, at_, nc, sb, i, bh, n, tw, rfl, hR, hd, k⟩ := h
   have hr1 := hr.mono (j := 1) (by omega)
   have hr4 := hr.mono (j := 4) hk
   obtain ⟨⟨dx0, hp0⟩, ha0⟩ := id hR.rd
   obtain ⟨dh, hh⟩ := id hd
   have nhp : h ≠ p := rd_ne_hd hh hp0
   refine ⟨_, pss_cons (ps_set (i := 3) sc69_5.nd rfl (Or.inl rfl) (pe_lst pa_nil))
     (pss_cons (ps_while PassesOwn.leaving (pt_val (pe_m MG T.clR pass_fly hr1 (pv 0) (pa_cons (pv 1) (pa_cons (pe_callB call_len_seq (by rfl) T.len PySem.boot_len (pa_cons (pv 3) pa_nil)) pa_nil))))
       (pss_one (ps_expr (pe_bm PySem.F.plainAttrs_list PySem.F.slot_list_append PySem.F.type_list_append mt_append (pv 3) (pa_cons (pe_m MI T.clR pass_fly hr (pv 0) (pa_cons (pv 2) pa_nil)) pa_nil)))))
     (pss_one (ps_ret (pe_d DC pass_fly hr4 (pa_cons (pe_fld (pv 1) rfl) (pa_cons (pv 3) pa_nil)))))), ?_⟩
   refine ⟨Nat.zero_le _, fun q hq => ?_⟩
   have s0 : Same H (upd H q (.lst [])) := Same.upd hq
   have nqp : q ≠ p := (ne_of_none hp0 hq).symm
   have nhq : h ≠ q := ne_of_none hh hq
   refine ⟨fun ms σ H' => ∃ (pos nc' sb' : Nat) (rs : List Addr) (Ls : List Bytes) (got : List Got), σ = [some (.ref p), some (.ref h), some (.int d), some (.ref q)] ∧ Bat p H H' ∧ Rdy T H' p a b pos nc' sb' (tw || got.any Got.twice) ∧ H' q = some (.lst (rs.map V.ref)) ∧ q ∉ rs ∧ Its H' rs Ls got tw ∧ ms = b.length - pos ∧
       got.length ≤ pos ∧ sumO got ≤ 10 * pos ∧ (∀ N, n = some N → got.length ≤ N) ∧ rem e n [] (b.drop at_) = rem e n got (b.drop pos),
     ⟨_, at_, nc, sb, [], [], [], rfl, Bat.ofS s0, ⟨by simpa using hR.rd.same s0, hR.nc, hR.sb, hR.le, hR.few, hR.tab.same s0⟩, upd_same, by simp, Its.nil, rfl, Nat.zero_le _, Nat.zero_le _, fun _ _ => Nat.zero_le _, rfl⟩, ?_⟩
   rintro ms σ H' ⟨pos, nc', sb', rs, Ls, got, rfl, B, R, hqq, nq, I, rfl, hgl, hsl, hN, hrem⟩
   obtain ⟨⟨dx, hp⟩, ha⟩ := id R.rd
   have hd' := hd.bat B nhp
   obtain ⟨l1, l2, l3⟩ := I.lens
   have hle := R.le
   have hfew := R.few
   have fin : ∀ H2, But p H' H2 → ∀ pos2, pos2 ≤ b.length → RdAt T.CR H2 p a b pos2 nc' sb' (tw || got.any Got.twice) → pos ≤ pos2 → arr e n (b.drop at_) = some (arrayOf got, b.drop pos2) → tRet (tCall spCF [] E (tCons (tFld K (tVar 1) "major") (tCons (tVar 3) tNil))) { nx := fun _ H' => Q .non H', rt := Q } [some (.ref p), some (.ref h), some (.int d), some (.ref q)] H2 := by
     intro H2 B2 pos2 hp2 R2 hle2 ea
     rw [ea] at k
     have hq2 := B2 _ _ hqq nqp
     have I2 := I.refs.but hp B2
     obtain ⟨dh2, hh2⟩ := hd'.but B2 nhp
     refine ⟨_, rfl, h, _, dh2, _, _, rfl, hh2, T.clH, T.nH1, hd1, _, rfl, 4, q, rs, Ls, rfl, by omega, hq2, I2, by omega, by omega, fun q3 H3 hq3 s3 e3 => ?_⟩
     have el : b.length - (b.drop pos2).length = pos2 := by rw [List.length_drop]; omega
     obtain ⟨⟨dx2, hp2'⟩, _⟩ := id R2
     refine k q3 H3 (short 4 Ls.length ++ Ls.flatten) nc' sb' ((B.trans (Bat.of B2)).free hq3 (ne_of_none hp2' hq3).symm) ((B.trans (Bat.of B2)).trans (Bat.ofS s3)) ((R.tab.but hp B2).same s3) ?_ ?_ ?_ e3 ?_ ?_
     · rw [el]; exact R2.same s3
     · rw [el]; have := R.nc; omega
     · rw [el]; have := R.sb; omega
     · show _ = (short 4 got.length ++ got.flatMap Got.out).length
       rw [List.length_append, List.length_append, l3, flatMap_len, l1]
     · intro z
       have : Ls = got.map Got.out := I.eq z
       show _ = short 4 got.length ++ got.flatMap Got.out
       rw [l1, this, List.flatMap_def]
   have more : (∀ N, n = some N → got.length < N) → rem e n got (b.drop pos) = (match item e (b.drop pos) with | none => none | some (x, t) => rem e n (got ++ [x]) t) →
       ∃ N' : L2.St → Hp → Prop, (∀ σ' H'', N' σ' H'' → ∃ m', m' < b.length - pos ∧ ∃ (pos nc' sb' : Nat) (rs : List Addr) (Ls : List Bytes) (got : List Got), σ' = [some (.ref p), some (.ref h), some (.int d), some (.ref q)] ∧ Bat p H H'' ∧ Rdy T H'' p a b pos nc' sb' (tw || got.any Got.twice) ∧ H'' q = some (.lst (rs.map V.ref)) ∧ q ∉ rs ∧ Its H'' rs Ls got tw ∧ m' = b.length - pos ∧
         got.length ≤ pos ∧ sumO got ≤ 10 * pos ∧ (∀ N, n = some N → got.length ≤ N) ∧ rem e n [] (b.drop at_) = rem e n got (b.drop pos)) ∧
       tDrop (tBM K "list" rAppend (tVar 3) (tCons (tMeth T.CR "take_item" (spTI T d e) [] E (tVar 0) (tCons (tVar 2) tNil)) tNil)) { nx := N', rt := Q, bk := tRet (tCall spCF [] E (tCons (tFld K (tVar 1) "major") (tCons (tVar 3) tNil))) { nx := fun _ H' => Q .non H', rt := Q }, ct := N' } [some (.ref p), some (.ref h), some (.int d), some (.ref q)] H' := by
     intro hlt hstep
     refine ⟨_, fun σ' H'' z => z, ?_⟩
     refine ⟨_, rfl, .inl ⟨rfl, _, SqL.of hqq⟩, _, rfl, p, dx, _, rfl, hp, rfl, _, rfl, p, a, b, pos, nc', sb', tw || got.any Got.twice, rfl, R, ?_⟩
     cases ei : item e (b.drop pos) with
     | none =>
       rw [ei] at hstep
       have : arr e n (b.drop at_) = none := by
         have z : rem e n [] (b.drop at_) = none := hrem.trans hstep
         unfold arr
         cases n with
         | none => dsimp only; rw [show itemsO e [] (b.drop at_) = none from z]
         | some N => dsimp only; rw [show items e N [] (b.drop at_) = none from z]
       rw [this] at k
       exact fun H2 B2 t2 => k H2 (B.trans B2) t2
     | some z =>
       obtain ⟨g, t⟩ := z
       rw [ei] at hstep
       intro q2 H2 L nc2 sb2 hq2 B2 t2 R2 hn2 hs2 e2 hl2 he2
       have sm := item_sm ei
       have ln := item_len ei
       obtain ⟨m1, m2, m3⟩ := sm
       rw [List.length_drop] at m1 ln
       have hq2' := B2.lst hqq nqp
       have I2 := I.refs.bat hp B2
       have nqq2 : q ≠ q2 := ne_of_none hqq hq2
       refine ⟨q, _, _, rfl, rfl, hq2', ?_, b.length - (b.length - t.length), by omega, b.length - t.length, nc2, sb2, rs ++ [q2], Ls ++ [L], got ++ [g], rfl, ?_, ⟨?_, hn2, hs2, by omega, hfew, t2.upd hq2'⟩, ?_, ?_, ?_, rfl, ?_, ?_, ?_, ?_⟩
       · rw [List.length_map, sizeLine_eq]; omega
       · exact Bat.upd2 (B.trans B2) hq
       · have e9 : (tw || (got ++ [g]).any Got.twice) = ((tw || got.any Got.twice) || g.twice) := by rw [List.any_append]; simp [Bool.or_assoc]
         rw [e9]
         obtain ⟨⟨dx2, hp2⟩, ha2⟩ := R2
         exact ⟨⟨dx2, by rw [upd_ne nqp.symm]; exact hp2⟩, by rw [upd_ne (ne_of_none ha0 hq)]; exact ha2⟩
       · rw [upd_same, List.map_append]
         rfl
       · intro z
         rcases List.mem_append.mp z with z | z
         · exact nq z
         · exact nqq2 (List.mem_singleton.mp z)
       · have I3 : Its (upd H2 q (.lst (rs.map V.ref ++ [V.ref q2]))) rs Ls got tw := ⟨I2.upd nq, I.len, I.eq⟩
         exact I3.snoc (by rw [upd_ne nqq2.symm]; exact e2) hl2 he2
       · rw [List.length_append]; simp; omega
       · rw [sumO_append]
         have : sumO [g] = g.out.length := by simp [sumO]
         rw [this]; omega
       · intro N hN'
         have := hlt N hN'
         rw [List.length_append]; simp; omega
       · rw [hrem, hstep]
         have et : b.drop (b.length - t.length) = t := by
           exact suf_drop (suffix_trans ⟨pos, rfl⟩ (item_suffix ei))
         rw [et]
   refine ⟨_, rfl, p, dx, _, rfl, hp, rfl, _, rfl, _, rfl, q, _, rfl, .inl (SqL.of hqq), p, a, h, b, pos, nc', sb', 4, i, bh, got.length, n, tw || got.any Got.twice, ?_, R.rd, hd', ?_⟩
   · show [V.ref p, V.ref h, V.int (((rs.map V.ref).length : Nat) : Int)] = _
     rw [List.length_map, l2]
   cases n with
   | some N =>
     refine ⟨_, rfl, iteB (fun h1 => ?_) (fun h1 => ?_)⟩
     · have h1' := of_decide_eq_true h1
       refine more (fun N' z => by cases z; exact h1') ?_
       show items e (N - got.length) got (b.drop pos) = _
       rw [items_eq, if_neg (by omega)]
       cases item e (b.drop pos) with
       | none => rfl
       | some z =>
         show items e (N - got.length - 1) _ _ = items e (N - (got ++ [z.1]).length) _ _
         rw [List.length_append]
         rfl
     · have h1' := of_decide_eq_false h1
       have hg := hN N rfl
       refine fin H' (But.refl p H') pos hle R.rd (Nat.le_refl _) ?_
       have z : items e N [] (b.drop at_) = some (got, b.drop pos) := by
         refine (show items e N [] (b.drop at_) = items e (N - got.length) got (b.drop pos) from hrem).trans ?_
         rw [items_eq, if_pos (by omega)]
       unfold arr
       dsimp only
       rw [z]
   | none =>
     refine ⟨fun hff H2 B2 R2 => ⟨_, rfl, iteF ?_⟩, fun hff => ⟨_, rfl, iteT ?_⟩⟩
     · have hlt : pos < b.length := (List.getElem?_eq_some_iff.mp hff).1
       obtain ⟨c, r, hdr, hg⟩ := drop_cons hlt
       rw [hff] at hg
       cases hg
       refine fin H2 B2 (pos + 1) (by omega) R2 (by omega) ?_
       have z : itemsO e [] (b.drop at_) = some (got, b.drop (pos + 1)) := by
         refine (show itemsO e [] (b.drop at_) = itemsO e got (b.drop pos) from hrem).trans ?_
         rw [itemsO_eq, hdr]
         dsimp only
         rw [if_pos rfl, (drop_get hdr).2.2.2]
       unfold arr
       dsimp only
       rw [z]
     · refine more (fun N' z => by cases z) ?_
       show itemsO e got (b.drop pos) = _
       rw [itemsO_eq]
       cases hdr : b.drop pos with
       | nil => rw [item_nil]
       | cons c r =>
         dsimp only
         have : ¬ c = 0xFF := fun z => hff (by rw [(drop_get hdr).2.1, z])
         rw [if_neg this]
         rfl
end
end My
end
section
namespace My
open PySem PySem.Spec PyProof.Rows L2 Of Pu
section
variable {P : Program} {w : World} {K : PySem.W.Frag} {mg : Str → Option Value} {base : Heap}
theorem IR.but {T : Tx P w K mg} {H H2 : Hp} {p a C dx : Addr} {fs : List (Str × V)} {b : Bytes} {tw : Bool} {Q : VK} {E : XK} {o : Option (Got × Bytes)} (h : IR T H p a b tw Q E o) (B : Bat p H H2) (hp : H2 p = some (.ins C dx fs)) : IR T H2 p a b tw Q E o := by
 cases o with
 | none => exact fun H' B' => h H' (B.trans B')
 | some z => exact fun q H' L nc sb hq B' => h q H' L nc sb (B.free hq (ne_of_none hp hq).symm) (B.trans B')
theorem sc69_2 : FnScope ["self", "depth", "head"] ["self", "depth"] (defScope (inClass (top 69) 2)) := ⟨rfl, rfl, rfl, by decide +kernel, rfl, by decide +kernel, by decide +kernel⟩
theorem ok_TI0 (T : Tx P w K mg) {k0 : Nat} (hk : 7 ≤ k0) {f : Addr} {fd : FuncData} (F : Fun K "take_item" "Reader.take_item" (inClass (top 69) 2) f fd) (MC : Mth P w K mg base 1 T.CR "count_node" ["self"] (spCN T)) (MH : Mth P w K mg base 5 T.CR "take_head" ["self"] (spTH T)) (DL : Dfn P w K mg base 5 "lone_form" ["head"] (spLF T)) (MS : Mth P w K mg base 7 T.CR "take_string" ["self", "head"] (spTS T)) :
   FnOk P w K mg base (CXE P w) (k0 + 1) f fd ["self", "depth"] (spTI T 16 0) := by
 refine F.okE sc69_2 (fun vs H Q E h => ?_) (fun cdv A outer s H vs Q E hr h => ?_)
 · obtain ⟨p, a, b, at_, nc, sb, tw, rfl, _⟩ := h
   rfl
 · obtain ⟨p, a, b, at_, nc, sb, tw, rfl, hR, k⟩ := h
   have hr1 := hr.mono (j := 1) (by omega)
   have hr3 := hr.mono (j := 3) (by omega)
   have hr5 := hr.mono (j := 5) (by omega)
   have hr7 := hr.mono (j := 7) (by omega)
   obtain ⟨⟨dx, hp⟩, ha⟩ := id hR.rd
   refine ⟨_, pss_cons (ps_expr (pe_m0 MC T.clR pass_fly hr1 (pv 0)))
     (pss_cons (ps_set (i := 2) sc69_2.nd rfl (Or.inl rfl) (pe_m0 MH T.clR pass_fly hr5 (pv 0)))
     (pss_cons (ps_if (pw_or (pt_cmpR op_le (pe_fld (pv 2) rfl) (pe_k T.kNEG) (nomark _)) (pw_or1 (pt_cmpR op_eq (pe_fld (pv 2) rfl) (pe_k T.kSIM) (nomark _)))).pt (pss_one (ps_ret (pe_d DL pass_fly hr5 (pa_cons (pv 2) pa_nil)))) pss_nil)
     (pss_cons (ps_if (pt_cmpR op_le (pe_fld (pv 2) rfl) (pe_k T.kTXT) (nomark _)) (pss_one (ps_ret (pe_m MS T.clR pass_fly hr7 (pv 0) (pa_cons (pv 2) pa_nil)))) pss_nil)
     (pss_cons (ps_if (pt_cmpR op_eq (pv 1) (pe_k T.kDEEP) (nomark _)) (pss_one (ps_raise0 T.oF rfl)) pss_nil)
     pss_never)))), ?_⟩
   have hnc := hR.nc
   have hsb := hR.sb
   have hle := hR.le
   have hfew := hR.few
   refine ⟨_, rfl, p, dx, _, rfl, hp, rfl, p, a, b, at_, nc, sb, tw, rfl, hR.rd, by omega, fun H1 B1 R1 => ?_⟩
   obtain ⟨⟨dx1, hp1⟩, ha1⟩ := id R1
   refine ⟨_, rfl, p, dx1, _, rfl, hp1, rfl, p, a, b, at_, nc + 1, sb, tw, rfl, R1, ?_⟩
   rw [item_head] at k
   cases eh : headOf b at_ with
   | none =>
     rw [eh] at k
     exact k H1 (Bat.of B1) (hR.tab.but hp B1)
   | some z =>
     obtain ⟨m, i, n, bh⟩ := z
     rw [eh] at k
     dsimp only at k ⊢
     intro q H2 hq B2' R2 hd2
     obtain ⟨hb1, hb2, hb3, hb4, hb5, hb6⟩ := headOf_behind eh
     have B2 := B1.trans B2'
     have t2 : TabOk T H2 := (hR.tab.but hp B1).but hp1 B2'
     obtain ⟨⟨dx2, hp2⟩, ha2⟩ := id R2
     obtain ⟨dh, hh⟩ := id hd2
     have el : b.length - (b.drop bh).length = bh := by rw [List.length_drop]; omega
     have lonely : (m ≤ 1 ∨ m = 7) → tRet (tCall (spLF T) [] E (tCons (tVar 2) tNil)) { nx := fun _ H' => Q .non H', rt := Q } [some (.ref p), some (.int (16 : Nat)), some (.ref q)] H2 := by
       intro hm
       rw [if_pos hm] at k
       cases n with
       | none => exfalso; have := hb5 rfl; omega
       | some n =>
         dsimp only at k
         obtain ⟨g1, g2, g3, g4, g5, g6⟩ := hb6 n rfl
         refine ⟨_, rfl, q, m, i, n, bh, rfl, hd2, hm, g2, g1, g5, g6, ?_⟩
         cases ez : lone m i n with
         | none => rw [ez] at k; exact k H2 (Bat.of B2) t2
         | some o =>
           rw [ez] at k
           intro q3 H3 hq3 s3 e3
           refine k q3 H3 o (nc + 1) sb (B2.free hq3 (ne_of_none hp2 hq3).symm) (Bat.of (B2.trans (But.of s3))) (t2.same s3) ?_ ?_ ?_ e3 rfl (fun _ => rfl)
           · rw [el, show (tw || (leaf o 0).twice) = tw from Bool.or_false tw]; exact R2.same s3
           · rw [el]; omega
           · rw [el]; omega
     refine ⟨_, rfl, q, _, dh, _, _, rfl, hh, T.clH, T.nH1, hd1, _, _, rfl, rfl, _, rfl, iteB (fun h1 => ?_) (fun h1 => ?_)⟩
     · have h1' := of_decide_eq_true h1
       exact iteT (lonely (.inl (by omega)))
     have h1' := of_decide_eq_false h1
     refine ⟨_, rfl, q, _, dh, _, _, rfl, hh, T.clH, T.nH1, hd1, rfl, _, rfl, iteB (fun h2 => ?_) (fun h2 => ?_)⟩
     · have h2' : (m : Int) = 7 := by have := of_decide_eq_true h2; injection this
       exact lonely (.inr (by omega))
     have h2' : ¬ (m : Int) = 7 := fun z => of_decide_eq_false h2 (congrArg V.int z)
     rw [if_neg (show ¬ (m ≤ 1 ∨ m = 7) by omega)] at k
     refine ⟨_, rfl, q, _, dh, _, _, rfl, hh, T.clH, T.nH1, hd1, _, _, rfl, rfl, _, rfl, iteB (fun h3 => ?_) (fun h3 => ?_)⟩
     · have h3' := of_decide_eq_true h3
       rw [if_pos (show m ≤ 3 by omega)] at k
       refine ⟨_, rfl, p, dx2, _, rfl, hp2, rfl, _, rfl, p, a, q, b, bh, nc + 1, sb, m, i, bh, n, tw, rfl, R2, hd2, by omega, hb2, hfew, by omega, ?_⟩
       cases es : Pu.strOf m n (b.drop bh) with
       | none =>
         rw [es] at k
         exact fun H3 B3 => k H3 (Bat.of (B2.trans B3)) (t2.but hp2 B3)
       | some z =>
         obtain ⟨c, t⟩ := z
         rw [es] at k
         intro q3 H3 hq3 B3 R3 e3
         have hct : c.length + bh ≤ b.length - t.length ∧ t.length ≤ b.length := by
           cases n with
           | none =>
             have pl := partsIn_len (show partsIn m ((b.drop bh).length + 1) [] (b.drop bh) = some (c, t) from es)
             have e0 : ([] : Bytes).length = 0 := rfl
             rw [List.length_drop] at pl
             omega
           | some n =>
             obtain ⟨z1, z2, z3, z4⟩ := Pu.strOf_some es
             rw [z2, List.length_drop, List.length_drop, z4]
             rw [List.length_drop] at z3
             omega
         refine k q3 H3 (short m c.length ++ c) (nc + 1) (sb + c.length) (B2.free hq3 (ne_of_none hp2 hq3).symm) (Bat.of (B2.trans B3)) (t2.but hp2 B3) ?_ (by omega) (by omega) e3 rfl (fun _ => rfl)
         rw [show (tw || (leaf (short m c.length ++ c) c.length).twice) = tw from Bool.or_false tw]
         exact R3
     have h3' := of_decide_eq_false h3
     rw [if_neg (show ¬ m ≤ 3 by omega)] at k
     exact ⟨_, rfl, rfl, _, rfl, iteT (k H2 (Bat.of B2) t2)⟩
theorem ok_TIs (T : Tx P w K mg) {d e k0 : Nat} (hd : d < 16) (hk : 7 ≤ k0) {f : Addr} {fd : FuncData} (F : Fun K "take_item" "Reader.take_item" (inClass (top 69) 2) f fd) (MC : Mth P w K mg base 1 T.CR "count_node" ["self"] (spCN T)) (MH : Mth P w K mg base 5 T.CR "take_head" ["self"] (spTH T)) (DL : Dfn P w K mg base 5 "lone_form" ["head"] (spLF T)) (MS : Mth P w K mg base 7 T.CR "take_string" ["self", "head"] (spTS T))
   (MA : Mth P w K mg base k0 T.CR "take_array" ["self", "head", "depth"] (spTA T (d + 1) e)) (MM : Mth P w K mg base k0 T.CR "take_map" ["self", "head", "depth"] (spTM T (d + 1) e)) (DH : Dfn P w K mg base 3 "short_head" ["major", "number"] spSH) (MI : Mth P w K mg base k0 T.CR "take_item" ["self", "depth"] (spTI T (d + 1) e)) :
   FnOk P w K mg base (CXE P w) (k0 + 1) f fd ["self", "depth"] (spTI T d (e + 1)) := by
 refine F.okE sc69_2 (fun vs H Q E h => ?_) (fun cdv A outer s H vs Q E hr h => ?_)
 · obtain ⟨p, a, b, at_, nc, sb, tw, rfl, _⟩ := h
   rfl
 · obtain ⟨p, a, b, at_, nc, sb, tw, rfl, hR, k⟩ := h
   have hr1 := hr.mono (j := 1) (by omega)
   have hr3 := hr.mono (j := 3) (by omega)
   have hr5 := hr.mono (j := 5) (by omega)
   have hr7 := hr.mono (j := 7) (by omega)
   obtain ⟨⟨dx, hp⟩, ha⟩ := id hR.rd
   refine ⟨_, pss_cons (ps_expr (pe_m0 MC T.clR pass_fly hr1 (pv 0)))
     (pss_cons (ps_set (i := 2) sc69_2.nd rfl (Or.inl rfl) (pe_m0 MH T.clR pass_fly hr5 (pv 0)))
     (pss_cons (ps_if (pw_or (pt_cmpR op_le (pe_fld (pv 2) rfl) (pe_k T.kNEG) (nomark _)) (pw_or1 (pt_cmpR op_eq (pe_fld (pv 2) rfl) (pe_k T.kSIM) (nomark _)))).pt (pss_one (ps_ret (pe_d DL pass_fly hr5 (pa_cons (pv 2) pa_nil)))) pss_nil)
     (pss_cons (ps_if (pt_cmpR op_le (pe_fld (pv 2) rfl) (pe_k T.kTXT) (nomark _)) (pss_one (ps_ret (pe_m MS T.clR pass_fly hr7 (pv 0) (pa_cons (pv 2) pa_nil)))) pss_nil)
     (pss_cons (ps_if (pt_cmpR op_eq (pv 1) (pe_k T.kDEEP) (nomark _)) (pss_one (ps_raise0 T.oF rfl)) pss_nil)
     (pss_cons (ps_if (pt_cmpR op_eq (pe_fld (pv 2) rfl) (pe_k T.kARR) (nomark _)) (pss_one (ps_ret (pe_m MA T.clR pass_fly hr (pv 0) (pa_cons (pv 2) (pa_cons (pe_op op_add (pv 1) pe_int) pa_nil))))) pss_nil)
     (pss_cons (ps_if (pt_cmpR op_eq (pe_fld (pv 2) rfl) (pe_k T.kMAP) (nomark _)) (pss_one (ps_ret (pe_m MM T.clR pass_fly hr (pv 0) (pa_cons (pv 2) (pa_cons (pe_op op_add (pv 1) pe_int) pa_nil))))) pss_nil)
     (pss_one (ps_ret (pe_op op_cat (pe_d DH pass_fly hr3 (pa_cons (pe_fld (pv 2) rfl) (pa_cons (pe_fld (pv 2) rfl) pa_nil))) (pe_m MI T.clR pass_fly hr (pv 0) (pa_cons (pe_op op_add (pv 1) pe_int) pa_nil))))))))))), ?_⟩
   have hnc := hR.nc
   have hsb := hR.sb
   have hle := hR.le
   have hfew := hR.few
   refine ⟨_, rfl, p, dx, _, rfl, hp, rfl, p, a, b, at_, nc, sb, tw, rfl, hR.rd, by omega, fun H1 B1 R1 => ?_⟩
   obtain ⟨⟨dx1, hp1⟩, ha1⟩ := id R1
   refine ⟨_, rfl, p, dx1, _, rfl, hp1, rfl, p, a, b, at_, nc + 1, sb, tw, rfl, R1, ?_⟩
   rw [item_head] at k
   cases eh : headOf b at_ with
   | none =>
     rw [eh] at k
     exact k H1 (Bat.of B1) (hR.tab.but hp B1)
   | some z =>
     obtain ⟨m, i, n, bh⟩ := z
     rw [eh] at k
     dsimp only at k ⊢
     intro q H2 hq B2' R2 hd2
     obtain ⟨hb1, hb2, hb3, hb4, hb5, hb6⟩ := headOf_behind eh
     have B2 := B1.trans B2'
     have t2 : TabOk T H2 := (hR.tab.but hp B1).but hp1 B2'
     obtain ⟨⟨dx2, hp2⟩, ha2⟩ := id R2
     obtain ⟨dh, hh⟩ := id hd2
     have el : b.length - (b.drop bh).length = bh := by rw [List.length_drop]; omega
     have lonely : (m ≤ 1 ∨ m = 7) → tRet (tCall (spLF T) [] E (tCons (tVar 2) tNil)) { nx := fun _ H' => Q .non H', rt := Q } [some (.ref p), some (.int d), some (.ref q)] H2 := by
       intro hm
       rw [if_pos hm] at k
       cases n with
       | none => exfalso; have := hb5 rfl; omega
       | some n =>
         dsimp only at k
         obtain ⟨g1, g2, g3, g4, g5, g6⟩ := hb6 n rfl
         refine ⟨_, rfl, q, m, i, n, bh, rfl, hd2, hm, g2, g1, g5, g6, ?_⟩
         cases ez : lone m i n with
         | none => rw [ez] at k; exact k H2 (Bat.of B2) t2
         | some o =>
           rw [ez] at k
           intro q3 H3 hq3 s3 e3
           refine k q3 H3 o (nc + 1) sb (B2.free hq3 (ne_of_none hp2 hq3).symm) (Bat.of (B2.trans (But.of s3))) (t2.same s3) ?_ ?_ ?_ e3 rfl (fun _ => rfl)
           · rw [el, show (tw || (leaf o 0).twice) = tw from Bool.or_false tw]; exact R2.same s3
           · rw [el]; omega
           · rw [el]; omega
     refine ⟨_, rfl, q, _, dh, _, _, rfl, hh, T.clH, T.nH1, hd1, _, _, rfl, rfl, _, rfl, iteB (fun h1 => ?_) (fun h1 => ?_)⟩
     · have h1' := of_decide_eq_true h1
       exact iteT (lonely (.inl (by omega)))
     have h1' := of_decide_eq_false h1
     refine ⟨_, rfl, q, _, dh, _, _, rfl, hh, T.clH, T.nH1, hd1, rfl, _, rfl, iteB (fun h2 => ?_) (fun h2 => ?_)⟩
     · have h2' : (m : Int) = 7 := by have := of_decide_eq_true h2; injection this
       exact lonely (.inr (by omega))
     have h2' : ¬ (m : Int) = 7 := fun z => of_decide_eq_false h2 (congrArg V.int z)
     rw [if_neg (show ¬ (m ≤ 1 ∨ m = 7) by omega)] at k
     refine ⟨_, rfl, q, _, dh, _, _, rfl, hh, T.clH, T.nH1, hd1, _, _, rfl, rfl, _, rfl, iteB (fun h3 => ?_) (fun h3 => ?_)⟩
     · have h3' := of_decide_eq_true h3
       rw [if_pos (show m ≤ 3 by omega)] at k
       refine ⟨_, rfl, p, dx2, _, rfl, hp2, rfl, _, rfl, p, a, q, b, bh, nc + 1, sb, m, i, bh, n, tw, rfl, R2, hd2, by omega, hb2, hfew, by omega, ?_⟩
       cases es : Pu.strOf m n (b.drop bh) with
       | none =>
         rw [es] at k
         exact fun H3 B3 => k H3 (Bat.of (B2.trans B3)) (t2.but hp2 B3)
       | some z =>
         obtain ⟨c, t⟩ := z
         rw [es] at k
         intro q3 H3 hq3 B3 R3 e3
         have hct : c.length + bh ≤ b.length - t.length ∧ t.length ≤ b.length := by
           cases n with
           | none =>
             have pl := partsIn_len (show partsIn m ((b.drop bh).length + 1) [] (b.drop bh) = some (c, t) from es)
             have e0 : ([] : Bytes).length = 0 := rfl
             rw [List.length_drop] at pl
             omega
           | some n =>
             obtain ⟨z1, z2, z3, z4⟩ := Pu.strOf_some es
             rw [z2, List.length_drop, List.length_drop, z4]
             rw [List.length_drop] at z3
             omega
         refine k q3 H3 (short m c.length ++ c) (nc + 1) (sb + c.length) (B2.free hq3 (ne_of_none hp2 hq3).symm) (Bat.of (B2.trans B3)) (t2.but hp2 B3) ?_ (by omega) (by omega) e3 rfl (fun _ => rfl)
         rw [show (tw || (leaf (short m c.length ++ c) c.length).twice) = tw from Bool.or_false tw]
         exact R3
     have h3' := of_decide_eq_false h3
     rw [if_neg (show ¬ m ≤ 3 by omega)] at k
     refine ⟨_, rfl, rfl, _, rfl, iteB (fun h4 => ?_) (fun h4 => ?_)⟩
     · have h4' : (d : Int) = 16 := by have := of_decide_eq_true h4; injection this
       exfalso
       omega
     have Rd2 : Rdy T H2 p a b bh (nc + 1) sb tw := ⟨R2, by omega, by omega, hb2, hfew, t2⟩
     refine ⟨_, rfl, q, _, dh, _, _, rfl, hh, T.clH, T.nH1, hd1, rfl, _, rfl, iteB (fun h5 => ?_) (fun h5 => ?_)⟩
     · have h5' : (m : Int) = 4 := by have := of_decide_eq_true h5; injection this
       have hm : m = 4 := by omega
       subst hm
       rw [if_pos rfl] at k
       exact ⟨_, rfl, p, dx2, _, rfl, hp2, rfl, _, rfl, _, rfl, _, _, rfl, rfl, p, a, q, b, bh, nc + 1, sb, i, bh, n, tw, rfl, Rd2, hd2, IR.but k (Bat.of B2) hp2⟩
     have h5' : ¬ (m : Int) = 4 := fun z => of_decide_eq_false h5 (congrArg V.int z)
     rw [if_neg (show ¬ m = 4 by omega)] at k
     refine ⟨_, rfl, q, _, dh, _, _, rfl, hh, T.clH, T.nH1, hd1, rfl, _, rfl, iteB (fun h6 => ?_) (fun h6 => ?_)⟩
     · have h6' : (m : Int) = 5 := by have := of_decide_eq_true h6; injection this
       have hm : m = 5 := by omega
       subst hm
       rw [if_pos rfl] at k
       exact ⟨_, rfl, p, dx2, _, rfl, hp2, rfl, _, rfl, _, rfl, _, _, rfl, rfl, p, a, q, b, bh, nc + 1, sb, i, bh, n, tw, rfl, Rd2, hd2, IR.but k (Bat.of B2) hp2⟩
     have h6' : ¬ (m : Int) = 5 := fun z => of_decide_eq_false h6 (congrArg V.int z)
     rw [if_neg (show ¬ m = 5 by omega)] at k
     cases n with
     | none => exfalso; have := hb5 rfl; omega
     | some n =>
       dsimp only at k
       obtain ⟨g1, g2, g3, g4, g5, g6⟩ := hb6 n rfl
       refine ⟨_, rfl, q, _, dh, _, _, rfl, hh, T.clH, T.nH1, hd1, _, rfl, q, _, dh, _, _, rfl, hh, T.clH, T.nH3, hd3, m, n, rfl, by omega, g1, fun q3 H3 hq3 s3 e3 => ?_⟩
       have hp3 := s3 _ _ hp2
       refine ⟨_, rfl, p, dx2, _, rfl, hp3, rfl, _, rfl, _, _, rfl, rfl, p, a, b, bh, nc + 1, sb, tw, rfl, ⟨R2.same s3, by omega, by omega, hb2, hfew, t2.same s3⟩, ?_⟩
       have B3 := B2.trans (But.of s3)
       cases ei : item e (b.drop bh) with
       | none =>
         rw [ei] at k
         exact fun H4 B4 t4 => k H4 ((Bat.of B3).trans B4) t4
       | some z =>
         obtain ⟨x, u⟩ := z
         rw [ei] at k
         dsimp only at k
         intro q4 H4 L nc4 sb4 hq4 B4 t4 R4 hn4 hs4 e4 hl4 he4
         have nq3p : q3 ≠ p := lst_ne_ins e3 hp3
         have hq3' := B4.lst e3 nq3p
         have hm6 : m = 6 := by
           have := hb3
           omega
         have ln := item_len ei
         rw [List.length_drop] at ln
         have sl := (short_length m n).2
         refine ⟨q3, q4, _, _, rfl, rfl, hq3', e4, ?_, fun q5 hq5 => ?_⟩
         · rw [vb_length, vb_length, sizeLine_eq, hl4]; omega
         · obtain ⟨⟨dx4, hp4⟩, ha4⟩ := id R4
           refine k q5 _ (short 6 n ++ L) nc4 sb4 (((Bat.of B3).trans B4).free hq5 (ne_of_none hp4 hq5).symm) (((Bat.of B3).trans B4).trans (Bat.ofS (Same.upd hq5))) (t4.same (Same.upd hq5)) (R4.same (Same.upd hq5)) hn4 hs4 ?_ ?_ ?_
           · rw [upd_same, vb_append, hm6]
           · show _ = (short 6 n ++ x.out).length
             rw [List.length_append, List.length_append, hl4]
           · intro z
             show _ = short 6 n ++ x.out
             rw [he4 z]
end
end My
end
section
namespace L2
open PySem PySem.Spec PyProof.Rows
theorem Inv.grown {X : Cx} {pins : List (Addr × Obj)} {σ : St} {H : Hp} {s : Shared} {Pt : Addr} {ps more : Array Value} {h' : Heap} {t' : Nat} (I : Inv X pins σ H s) (hP : H Pt = some (.tbl ps)) (hx : Heap.ExtBut Pt s.heap h') (hn : h'.get? Pt = some { cls := .none, data := .fields (ps ++ more) }) :
   Inv X pins σ (upd H Pt (.tbl (ps ++ more))) { s with heap := h', toks := t' } := by
 have np : ∀ b, H b = none → b ≠ Pt := fun b n z => by rw [z, hP] at n; cases n
 have kd : ∀ b o, H b = some o → (∀ qs, o ≠ .tbl qs) → b ≠ Pt := fun b o e n z => by rw [z, hP] at e; exact n ps (Option.some.inj e).symm
 refine I.un ⟨fun b o e n _ _ => hx b o (np b n) e, fun b o e n _ _ => ⟨o.slots, hx b o (np b n) e⟩, fun b o e n _ => by rw [upd_ne (np b n)]; exact n, fun b o e _ => ?_, fun b xs e => by rw [upd_ne (kd b _ e (fun _ z => by cases z))]; exact e, fun b o u e => by rw [upd_ne (kd b _ e (fun _ z => by cases z))]; exact e, fun b qs e => ?_⟩ (fun b u e => ?_)
 · by_cases z : b = Pt
   · rw [z]; exact ⟨_, hn⟩
   · exact ⟨o, hx b o z e⟩
 · by_cases z : b = Pt
   · subst z
     rw [hP] at e
     cases e
     exact ⟨more, upd_same⟩
   · exact ⟨#[], by rw [upd_ne z, e]; simp⟩
 · by_cases z : b = Pt
   · subst z
     rw [upd_same] at e
     cases e
     exact hn
   · rw [upd_ne z] at e
     refine (I.hok b u e).stay (fun c v hc q => hx c v ?_ q) (fun c q => by rw [upd_ne (kd c _ q (fun _ z => by cases z))]; exact q) fun c xs q => by rw [upd_ne (kd c _ q (fun _ z => by cases z))]; exact q
     rcases hc with rfl | hc
     · exact z
     · exact kd c _ hc (fun _ z => by cases z)
noncomputable def lamA (pp : Pos) : Arguments := { posonlyargs := [], args := [{ arg := "pair", annotation := none, pos := pp }], vararg := none, kwonlyargs := [], kw_defaults := [], kwarg := none, defaults := [] }
noncomputable def lamB (p1 p2 p3 : Pos) : Expr := .Subscript (.Name "pair" p1) (.Constant (.int 0) 0 p2) p3
noncomputable def lamS : Scope := { kind := .function, names := [("pair", .local)], isGenerator := false, isCoroutine := false, more := [] }
theorem lam_call {prog : Program} {w : World} {A : Around} {s : Shared} {f c t : Addr} {pm ctv k v2 : Value} {qual : Str} {pp p1 p2 p3 : Pos} (hroom : A.depth < recursionLimit) (nl : s.heap.NoLimit)
   (ho : s.heap.get? f = some (PySem.W.kla_obj "<lambda>" qual (lamA pp) (lamB p1 p2 p3) lamS [] pm c ctv)) (hcd : s.heap.CodeRec (.ref c) qual) (ht : IsTup s.heap t #[k, v2]) :
   wpAny (model prog w) A (call (.ref f) [.ref t]) (fun u s' => u = k ∧ Srt.Kp s s') (fun _ _ => False) s := by
 refine wpAny_call (PySem.W.kla_callFunE hroom ho rfl rfl rfl rfl hcd ?_)
 have hbind : bindArgs (PySem.W.kla_fn "<lambda>" qual (lamA pp) (lamB p1 p2 p3) lamS [] pm (.ref c) ctv) ⟨[.ref t], []⟩ = pure [(("pair" : Str), Value.ref t)] := rfl
 rw [hbind]
 refine wpAny_pure (wpAny_newFunctionEnv (show ∀ x ∈ lamS.names, x.2 ≠ .cell by decide) (by intro x hx; rw [List.mem_singleton.mp hx]; rfl) (fun h₁ hns hsb => ⟨nl.fresh _ hsb, ?_⟩) rfl)
 have hk₁ : ∀ b o, s.heap.get? b = some o → h₁.get? b = some o := fun b o e => hsb.extBut b o (Nat.ne_of_lt (Heap.lt_size e)) (Heap.get?_push_of_some _ e)
 obtain ⟨ob, ot, oc, on, od⟩ := id ht
 have ht' : IsTup h₁ t #[k, v2] := ⟨ob, hk₁ _ _ ot, oc, on, od⟩
 refine PySem.W.kla_codeExpr ?_
 refine Subscript_ ?_
 refine wpAny_Name (wpAny_loadName_local rfl rfl hns rfl ?_) (by decide)
 refine wpAny_Constant_int ?_
 refine subscriptTail_builtinR (x := k) ht'.typeIs slot_tuple_getitem.lookup (getItem_tuple (j := 0) (Q := fun r s' => r = k ∧ (r = k ∧ Srt.Kp s s')) ht' (by decide) (by decide) rfl rfl ⟨rfl, rfl, ⟨hk₁, rfl, rfl⟩⟩) (by with_unfolding_all rfl)
end L2
end
section
namespace L2
open PySem PySem.Spec PyProof.Rows
theorem Inv.grown2 {X : Cx} {pins : List (Addr × Obj)} {σ : St} {H : Hp} {s : Shared} {Pt c : Addr} {ps more : Array Value} {h' : Heap} {t' : Nat} {q : Str} (I : Inv X pins σ H s) (hP : H Pt = some (.tbl ps)) (hx : Heap.ExtBut Pt s.heap h') (hn : h'.get? Pt = some { cls := .none, data := .fields (ps ++ more) })
   (hc : s.heap.objs.size ≤ c) (hr : h'.CodeRec (.ref c) q) : Inv X pins σ (upd (upd H Pt (.tbl (ps ++ more))) c (.ext fun h => h.CodeRec (.ref c) q)) { s with heap := h', toks := t' } := by
 have cn : H c = none := I.hok.fresh hc
 have I1 := I.grown (t' := t') hP hx hn
 have np : c ≠ Pt := fun z => by rw [z, hP] at cn; cases cn
 have np' : ∀ b, H b = none → b ≠ Pt := fun b n z => by rw [z, hP] at n; cases n
 have kd : ∀ b o, H b = some o → (∀ qs, o ≠ .tbl qs) → b ≠ Pt := fun b o e n z => by rw [z, hP] at e; exact n ps (Option.some.inj e).symm
 have nc : ∀ b o, s.heap.get? b = some o → b ≠ c := fun b o e => Nat.ne_of_lt (Nat.lt_of_lt_of_le (Heap.lt_size e) hc)
 have nH : ∀ b u, H b = some u → b ≠ c := fun b u e z => by rw [z, cn] at e; cases e
 refine I.un ⟨fun b o e n _ _ => hx b o (np' b n) e, fun b o e n _ _ => ⟨o.slots, hx b o (np' b n) e⟩, fun b o e n _ => by rw [upd_ne (nc b o e), upd_ne (np' b n)]; exact n, fun b o e _ => ?_, fun b xs e => by rw [upd_ne (nH b _ e), upd_ne (kd b _ e (fun _ z => by cases z))]; exact e, fun b o u e => by rw [upd_ne (nH b _ e), upd_ne (kd b _ e (fun _ z => by cases z))]; exact e, fun b qs e => ?_⟩ (fun b u e => ?_)
 · by_cases z : b = Pt
   · rw [z]; exact ⟨_, hn⟩
   · exact ⟨o, hx b o z e⟩
 · by_cases z : b = Pt
   · subst z
     rw [hP] at e
     cases e
     exact ⟨more, by rw [upd_ne np.symm, upd_same]⟩
   · exact ⟨#[], by rw [upd_ne (nH b _ e), upd_ne z, e]; simp⟩
 · by_cases z : b = c
   · subst z
     rw [upd_same] at e
     cases e
     obtain ⟨c2, o, vs, t, e1, e2, e3⟩ := id hr
     cases e1
     refine ⟨hr, ⟨o, e2⟩, fun h1 h2 hp hk => ?_⟩
     obtain ⟨c2, o, vs, t, e1, e2, e3⟩ := hp
     cases e1
     exact ⟨_, o, vs, t, rfl, hk o e2, e3⟩
   · rw [upd_ne z] at e
     refine (I1.hok b u e).stay (fun c v _ q => q) (fun d q => ?_) fun d xs q => ?_
     · have : d ≠ c := fun z => by rw [z, upd_ne np, cn] at q; cases q
       rw [upd_ne this]; exact q
     · have : d ≠ c := fun z => by rw [z, upd_ne np, cn] at q; cases q
       rw [upd_ne this]; exact q
end L2
namespace My
open PySem PySem.Spec PyProof.Rows L2 Of Pu
noncomputable def BM (base : Heap) (mg : Str → Option Value) : Prop := ∃ bm ob, mg "__builtins__" = some (.ref bm) ∧ bm ≠ builtinsNs ∧ base.get? bm = some ob ∧ ob.cls = .type "module" ∧ ob.dict = some builtinsNs ∧ ob.data = .plain
noncomputable def PT (H : Hp) (t : Addr) (d : Pr) : Prop := ∃ k v, H t = some (.tup [.ref k, .ref v]) ∧ H k = some (.lst (vb d.1)) ∧ H v = some (.lst (vb d.2))
theorem PT.inj {H : Hp} {t : Addr} {d e : Pr} (h : PT H t d) (k : PT H t e) : d = e := by
 obtain ⟨k1, v1, a1, a2, a3⟩ := h
 obtain ⟨k2, v2, b1, b2, b3⟩ := k
 rw [a1] at b1
 injection b1 with b1
 injection b1 with b1
 injection b1 with c1 b1
 injection b1 with c2
 injection c1 with c1
 injection c2 with c2
 subst c1
 subst c2
 rw [a2] at b2
 rw [a3] at b3
 injection b2 with b2
 injection b3 with b3
 injection b2 with b2
 injection b3 with b3
 exact Prod.ext (vb_inj b2) (vb_inj b3)
noncomputable def Prs (H : Hp) (ts : List Addr) (ds : List Pr) : Prop := ts.length = ds.length ∧ ∀ (j : Nat) (t : Addr), ts[j]? = some t → ∃ d, ds[j]? = some d ∧ PT H t d
noncomputable def BatA (H H' : Hp) : Prop := ∀ b o, H b = some o → Kp o (H' b)
theorem lexI_before : ∀ (a b : Bytes), Srt.lexI (bi a) (bi b) = before a b
 | _, [] => by
   cases ‹Bytes› <;> rfl
 | [], _ :: _ => rfl
 | x :: a, y :: b => by
   have ih := lexI_before a b
   show (if (x.toNat : Int) = (y.toNat : Int) then Srt.lexI (bi a) (bi b) else decide ((x.toNat : Int) < (y.toNat : Int))) = _
   have eb : before (x :: a) (y :: b) = (decide (x < y) || (x == y && before a b)) := by rw [before]
   rw [ih, eb]
   by_cases h1 : x = y
   · subst h1
     have : ¬ x < x := UInt8.lt_irrefl x
     simp [this]
   · have h1' : ¬ (x.toNat : Int) = (y.toNat : Int) := fun z => h1 (UInt8.toNat_inj.mp (by omega))
     rw [if_neg h1']
     have h2 : decide ((x.toNat : Int) < (y.toNat : Int)) = decide (x < y) := by
       rw [decide_eq_decide, UInt8.lt_iff_toNat_lt]
       omega
     rw [h2]
     simp [h1]
noncomputable def tSorted {P : Program} {w : World} {K : PySem.W.Frag} {mg : Str → Option Value} (T : Tx P w K mg) (te : TE) : TE := fun σ H Q => te σ H fun x H1 => ∃ (a : Addr) (ts : List Addr) (ds : List Pr), x = .ref a ∧ H1 a = some (.lst (ts.map V.ref)) ∧ Prs H1 ts ds ∧ TabOk T H1 ∧
 ∀ (D : Addr) (H2 : Hp) (ts2 : List Addr) (ds2 : List Pr), H1 D = none → BatA H1 H2 → TabOk T H2 → H2 D = some (.lst (ts2.map V.ref)) → Prs H2 ts2 ds2 → D ∉ ts2 → ds2.Perm ds → Srtd ds2 → Q (.ref D) H2
theorem Vals.refs {ts : List Addr} : ∀ {us : List Value}, Vals (ts.map V.ref) us → us = ts.map Value.ref := by
 induction ts with
 | nil => intro us r; rw [List.map_nil] at r; cases r; rfl
 | cons t ts ih =>
   intro us r
   rw [List.map_cons] at r
   cases r with
   | cons r1 r2 =>
     cases r1
     rw [ih r2]
     rfl
theorem vals_ref (ts : List Addr) : Vals (ts.map V.ref) (ts.map Value.ref) := by
 induction ts with
 | nil => exact .nil
 | cons t ts ih => exact .cons rfl ih
noncomputable def unref : Value → Addr
 | .ref a => a
 | _ => 0
theorem ints_of_vb {b : Bytes} {us : List Value} (r : Vals (vb b) us) : IntsAre us (bi b) := by
 have : vb b = (bi b).map V.int := by simp [vb, bi]
 rw [this] at r
 exact intsAre_of r
section
variable {X : Cx}
open Classical in
theorem pe_sorted (T : Tx X.prog X.w X.K X.mg) (hB : BM X.base X.mg) {e : Expr} {te : TE} {np kpos cpos pp p1 p2 p3 lp : Pos} (he : PE X e te) (hu : X.A.units + 2 < cLine) (hdep : X.A.depth < recursionLimit) (hl : lp.line = lamLine) (hcol : lp.col = lamCol)
   (hcode : X.env.code = .ref T.cM) (hge : X.env.globals = mainGlobals) (hq : X.env.qual ++ "<lambda>" = "Reader.take_map.<locals>.<lambda>") (hcl : closureFor lamS X.env = pure [])
   (hg : Gl X "sorted" := by rfl) (hs : starEach [e] X.env = [(false, eval e X.env)] := by rfl) :
   PE X (.Call (.Name "sorted" np) [e] [⟨some "key", .Lambda (lamA pp) (lamB p1 p2 p3) lamS lp, kpos⟩] cpos) (tSorted T te) := by
 intro pins s σ H Q I h
 refine wpAny_Call_Name_kw (ld_blt I hg T.sorted PyProof.Rows.boot_sorted ?_ (by decide) (by decide))
 refine callWith_kw ?_ (by rw [hs]; rfl) (by rw [hs]; rfl) (by rfl) (by rfl)
 refine thn ((pa_cons he pa_nil hs) cpos pins s σ H (fun vs H1 => match vs with
   | [x] => ∃ (a : Addr) (ts : List Addr) (ds : List Pr), x = .ref a ∧ H1 a = some (.lst (ts.map V.ref)) ∧ Prs H1 ts ds ∧ TabOk T H1 ∧
     ∀ (D : Addr) (H2 : Hp) (ts2 : List Addr) (ds2 : List Pr), H1 D = none → BatA H1 H2 → TabOk T H2 → H2 D = some (.lst (ts2.map V.ref)) → Prs H2 ts2 ds2 → D ∉ ts2 → ds2.Perm ds → Srtd ds2 → Q (.ref D) H2
   | _ => False) I h) fun us s1 ⟨vs, H1, I1, r1, q1⟩ => ?_
 cases r1 with
 | nil => exact q1.elim
 | cons rx rr =>
 cases rr with
 | cons _ _ => exact q1.elim
 | nil =>
 obtain ⟨a, ts, ds, ex, ha, hpr, htab, k⟩ := q1
 subst ex
 cases rx
 show wpAny _ _ (evalAll ((do let v ← eval (.Lambda (lamA pp) (lamB p1 p2 p3) lamS lp) X.env; standAt cpos; pure v) :: [])) _ _ s1
 have behind : ∀ (H2 : Hp) (s2 : Shared) (f c : Addr) (pm ctv : Value), Inv X pins σ H2 s2 → BatA H1 H2 → TabOk T H2 → s2.heap.get? f = some (PySem.W.kla_obj "<lambda>" "Reader.take_map.<locals>.<lambda>" (lamA pp) (lamB p1 p2 p3) lamS [] pm c ctv) → s2.heap.CodeRec (.ref c) "Reader.take_map.<locals>.<lambda>" →
     wpAny (model X.prog X.w) X.A (call (.builtin "sorted") [.ref a] [(Str.ofString "key", .ref f)]) (EP X pins σ Q) X.xe s2 := by
   intro H2 s2 f c pm ctv I2 B2 t2 hf hcd
   have ha2 : H2 a = some (.lst (ts.map V.ref)) := B2 _ _ ha
   obtain ⟨its, n, rv, ho, hz⟩ := I2.lst ha2
   have eits := Vals.refs rv
   subst eits
   rw [List.length_map] at hz
   have pts : ∀ t ∈ ts, ∃ d, PT H2 t d := fun t ht => by
     obtain ⟨j, hj, e⟩ := List.mem_iff_getElem.mp ht
     obtain ⟨d, _, k', v', a1, a2, a3⟩ := hpr.2 j t (by rw [List.getElem?_eq_getElem hj, e])
     exact ⟨d, k', v', B2 _ _ a1, B2 _ _ a2, B2 _ _ a3⟩
   obtain ⟨dat, hdat⟩ : ∃ dat : Addr → Pr, ∀ t ∈ ts, PT H2 t (dat t) := by
     refine ⟨fun t => if h : ∃ d, PT H2 t d then Classical.choose h else ([], []), fun t ht => ?_⟩
     have h := pts t ht
     dsimp only
     rw [dif_pos h]
     exact Classical.choose_spec h
   obtain ⟨kad, hkad⟩ : ∃ kad : Addr → Addr × Addr, ∀ t ∈ ts, H2 t = some (.tup [.ref (kad t).1, .ref (kad t).2]) ∧ H2 (kad t).1 = some (.lst (vb (dat t).1)) ∧ H2 (kad t).2 = some (.lst (vb (dat t).2)) := by
     refine ⟨fun t => if h : ∃ z : Addr × Addr, H2 t = some (.tup [.ref z.1, .ref z.2]) ∧ H2 z.1 = some (.lst (vb (dat t).1)) ∧ H2 z.2 = some (.lst (vb (dat t).2)) then Classical.choose h else (0, 0), fun t ht => ?_⟩
     have h : ∃ z : Addr × Addr, H2 t = some (.tup [.ref z.1, .ref z.2]) ∧ H2 z.1 = some (.lst (vb (dat t).1)) ∧ H2 z.2 = some (.lst (vb (dat t).2)) := by
       obtain ⟨k', v', a1, a2, a3⟩ := hdat t ht
       exact ⟨(k', v'), a1, a2, a3⟩
     dsimp only
     rw [dif_pos h]
     exact Classical.choose_spec h
   have eds : ds = ts.map dat := by
     refine List.ext_getElem? fun j => ?_
     rw [List.getElem?_map]
     by_cases hj : j < ts.length
     · obtain ⟨d, hd, k', v', a1, a2, a3⟩ := hpr.2 j _ (List.getElem?_eq_getElem hj)
       rw [hd, List.getElem?_eq_getElem hj]
       exact congrArg some (PT.inj (H := H2) ⟨k', v', B2 _ _ a1, B2 _ _ a2, B2 _ _ a3⟩ (hdat _ (List.getElem_mem hj)))
     · rw [List.getElem?_eq_none (by rw [← hpr.1]; omega), List.getElem?_eq_none (by omega)]
       rfl
   have tup : ∀ t ∈ ts, IsTup s2.heap t #[.ref (kad t).1, .ref (kad t).2] := fun t ht => by
     obtain ⟨_, us, ru, p⟩ := I2.hok t _ (hkad t ht).1
     have : us = [.ref (kad t).1, .ref (kad t).2] := by
       cases ru with
       | cons r1 r2 =>
         cases r2 with
         | cons r3 r4 =>
           cases r4
           cases r1
           cases r3
           rfl
     subst this
     exact p
   refine Srt.sorted_k (kf := fun v => bi (dat (unref v)).1) (L := ts.map fun t => bi (dat t).1) (vs := ts.map Value.ref) (keys := ts.map fun t => Value.ref (kad t).1) ⟨_, ho, rfl, n, rfl⟩ (by rw [List.length_map]; exact hz) (by rw [List.length_map, List.length_map]) hu ?_ ?_ ?_
   · intro i v kk hv hk
     rw [List.getElem?_map] at hv hk
     cases et : ts[i]? with
     | none => rw [et] at hv; cases hv
     | some t =>
       rw [et] at hv hk
       cases hv
       cases hk
       have ht := List.mem_of_getElem? et
       refine ⟨List.mem_map.mpr ⟨t, ht, rfl⟩, ?_⟩
       obtain ⟨_, us, n2, ru, e2⟩ := I2.hok _ _ (hkad t ht).2.1
       exact ⟨_, us.toArray, n2, rfl, e2, (show IntsAre us.toArray.toList (bi (dat t).1) by simpa using ints_of_vb ru)⟩
   · intro i v kk hv hk s' hkp
     rw [List.getElem?_map] at hv hk
     cases et : ts[i]? with
     | none => rw [et] at hv; cases hv
     | some t =>
       rw [et] at hv hk
       cases hv
       cases hk
       have ht := List.mem_of_getElem? et
       obtain ⟨o, e1, e2, e3, e4⟩ := tup t ht
       exact lam_call (A := X.A.in1.in1) hdep (I2.nolimit.keeps hkp.keep) (hkp.keep _ _ hf) (hcd.keeps hkp.keep) ⟨o, hkp.keep _ _ e1, e2, e3, e4⟩
   · intro s' D out c2 hkp hD hDo hso
     obtain ⟨hperm, hpw⟩ := hso
     have eo : out = (out.map unref).map Value.ref := by
       rw [List.map_map]
       symm
       rw [List.map_congr_left (g := id)]
       · simp
       · intro v hv
         obtain ⟨t, _, rfl⟩ := List.mem_map.mp (hperm.mem_iff.mp hv)
         rfl
     generalize hts2 : out.map unref = ts2 at eo
     have hp2 : ts2.Perm ts := by
       rw [← hts2]
       have := hperm.map unref
       rw [List.map_map] at this
       have e9 : ts.map (unref ∘ Value.ref) = ts := by
         rw [List.map_congr_left (g := id)]
         · simp
         · intro t _; rfl
       rw [e9] at this
       exact this
     have fD : H2 D = none := I2.hok.fresh hD
     have I3 : Inv X pins σ (upd H2 D (.lst (ts2.map V.ref))) s' := by
       refine I2.call' (ch := []) hkp.os (Un.laid (fun b u q => hkp.keep b u q) hD fD) (I2.hok.laid (fun b u q => hkp.keep b u q) hD ?_) (by rw [hkp.gens]; exact I2.bare) (fun b z => by cases z)
       refine ⟨by rw [List.length_map, hp2.length_eq]; exact hz, ts2.map Value.ref, c2, vals_ref ts2, ?_⟩
       rw [hDo, ← eo]
     have sD : Same H2 (upd H2 D (.lst (ts2.map V.ref))) := Same.upd fD
     have hD1 : H1 D = none := by
       cases z : H1 D with
       | none => rfl
       | some u =>
         obtain ⟨u', z'⟩ := (B2 D u z).some
         rw [fD] at z'; cases z'
     refine ⟨.ref D, _, I3, rfl, k D _ ts2 (ts2.map dat) hD1 (fun b o e => (B2 b o e).trans fun u z => Kp.of (sD _ _ z)) (t2.same sD) upd_same ⟨by rw [List.length_map], fun j t hj => ?_⟩ (fun z => ?_) ?_ ?_⟩
     · refine ⟨dat t, by rw [List.getElem?_map, hj]; rfl, ?_⟩
       obtain ⟨k', v', a1, a2, a3⟩ := hdat t (hp2.mem_iff.mp (List.mem_of_getElem? hj))
       exact ⟨k', v', sD _ _ a1, sD _ _ a2, sD _ _ a3⟩
     · have := (hkad D (hp2.mem_iff.mp z)).1
       rw [fD] at this
       cases this
     · rw [eds]
       exact hp2.map dat
     · unfold Srtd
       rw [List.pairwise_map]
       rw [eo, List.pairwise_map] at hpw
       refine hpw.imp fun {x y} z => ?_
       have z' : Srt.lexI (bi (dat y).1) (bi (dat x).1) = false := z
       rw [lexI_before] at z'
       exact z'
 refine wpAny_evalAll_cons (wpAny_bind (PySem.W.kla_eval rfl ?_))
 rw [hq]
 have hgs : s1.heap.Ns mainGlobals X.mg := I1.mod.glob.keeps I1.bk
 have C : PySem.W.CodeHd s1.heap T.cM T.tabP := T.hdM _ I1.kIn
 obtain ⟨bm, ob, b1, b2, b3, b4, b5, b6⟩ := hB
 have b3' := I1.bk _ _ b3
 have fin : ∀ (ps : Array Value), H1 T.tabP = some (.tbl ps) → s1.heap.get? T.tabP = some (PySem.W.tabObj ps) ∧ mainGlobals ≠ T.tabP ∧ s1.heap.BuiltinsAt X.mg T.tabP := fun ps hps => by
   have hP : s1.heap.get? T.tabP = some (PySem.W.tabObj ps) := I1.hok _ _ hps
   refine ⟨hP, fun q => ?_, bm, ob, b1, b2, fun q => ?_, fun q => ?_, b3', b4, b5, b6⟩
   · obtain ⟨o, es, ep, e, hd, _⟩ := hgs
     rw [q, hP] at e; cases e; cases hd
   · obtain ⟨o, es, ep, e, hd, _⟩ := hgs
     rw [q, e] at b3'; cases b3'; rw [hd] at b6; cases b6
   · rw [q, hP] at b3'; cases b3'; cases b4
 rcases htab with h0 | ⟨c, h1, h2⟩
 · obtain ⟨hP, hgP, hb⟩ := fin _ h0
   refine PySem.W.kla_makeFunction hcl hge hgs hcode C hP (by first | exact .nil | exact trivial | simp [PySem.TriplesOk]) rfl hgP hb fun c' ctv h' tk hx hge' hlt hrec htb => ?_
   refine wpAny_bind (wpAny_standAt (wpAny_pure (wpAny_evalAll_nil ?_)))
   have hx' : Heap.ExtBut T.tabP s1.heap (h'.push (PySem.W.kla_obj "<lambda>" "Reader.take_map.<locals>.<lambda>" (lamA pp) (lamB p1 p2 p3) lamS [] ((X.mg "__name__").getD .none) c' ctv)) := fun b o hb e => Heap.get?_push_of_some _ (hx b o hb e)
   have hrec' := hrec.push (PySem.W.kla_obj "<lambda>" "Reader.take_map.<locals>.<lambda>" (lamA pp) (lamB p1 p2 p3) lamS [] ((X.mg "__name__").getD .none) c' ctv)
   have I2 := I1.grown2 (t' := tk) h0 hx' (Heap.get?_push_of_some _ htb) hge' hrec'
   have cn : H1 c' = none := I1.hok.fresh hge'
   have ncP : c' ≠ T.tabP := fun z => by rw [z, h0] at cn; cases cn
   have et : (#[] ++ #[rawInt lp.line, rawInt lp.col, .ref c'] : Array Value) = triple c' := by rw [hl, hcol]; rfl
   rw [et] at I2
   refine behind _ _ h'.objs.size c' _ ctv I2 (fun b o e => ?_) (.inr ⟨c', by rw [upd_ne ncP.symm, upd_same], upd_same⟩) (Heap.get?_push_size _ rfl) hrec'
   rw [upd_ne (ne_of_none e cn)]
   by_cases z : b = T.tabP
   · subst z
     rw [h0] at e
     cases e
     exact ⟨_, upd_same⟩
   · rw [upd_ne z]
     exact Kp.of e
 · obtain ⟨hP, hgP, hb⟩ := fin _ h1
   obtain ⟨hrec, _⟩ := I1.hok _ _ h2
   refine PySem.W.kla_makeFunctionHit (cv := .ref c) hcl hge hgs hcode C hP ?_ ?_ hb fun ctv h' tk hk hsz => ?_
   · first | exact trivial | simp [triple, PySem.TriplesOk] | decide
   · unfold triple
     simp [codeAmong, rawInt, hl, hcol]
   refine wpAny_bind (wpAny_standAt (wpAny_pure (wpAny_evalAll_nil ?_)))
   have hk' : ∀ b o, s1.heap.get? b = some o → (h'.push { cls := .type "function", data := .func (PySem.W.kla_fn "<lambda>" "Reader.take_map.<locals>.<lambda>" (lamA pp) (lamB p1 p2 p3) lamS [] ((X.mg "__name__").getD .none) (.ref c) ctv) }).get? b = some o := fun b o e => Heap.get?_push_of_some _ (hk b o e)
   exact behind H1 _ h'.objs.size c _ ctv (I1.kept (t' := tk) hk') (fun b o e => Kp.of e) (.inr ⟨c, h1, h2⟩) (Heap.get?_push_size _ rfl) (hrec.keeps hk')
end
end My
end
section
namespace My
open PySem PySem.Spec PyProof.Rows L2 Of Pu
noncomputable def PTq (H : Hp) (q t : Addr) (d : Pr) : Prop := ∃ k v, H t = some (.tup [.ref k, .ref v]) ∧ H k = some (.lst (vb d.1)) ∧ H v = some (.lst (vb d.2)) ∧ k ≠ q ∧ v ≠ q
noncomputable def Prq (H : Hp) (q : Addr) (ts : List Addr) (ds : List Pr) : Prop := ts.length = ds.length ∧ ∀ (j : Nat) (t : Addr), ts[j]? = some t → ∃ d, ds[j]? = some d ∧ PTq H q t d
theorem Prq.prs {H : Hp} {q : Addr} {ts : List Addr} {ds : List Pr} (h : Prq H q ts ds) : Prs H ts ds := ⟨h.1, fun j t e => let ⟨d, hd, k, v, a1, a2, a3, _⟩ := h.2 j t e; ⟨d, hd, k, v, a1, a2, a3⟩⟩
theorem Prq.nil {H : Hp} {q : Addr} : Prq H q [] [] := ⟨rfl, fun j r e => by simp at e⟩
theorem Prq.bat {H H' : Hp} {p q C dx : Addr} {fs : List (Str × V)} {ts : List Addr} {ds : List Pr} (h : Prq H q ts ds) (hp : H p = some (.ins C dx fs)) (s : Bat p H H') : Prq H' q ts ds :=
 ⟨h.1, fun j t e => by
   obtain ⟨d, hd, k, v, a1, a2, a3, a4, a5⟩ := h.2 j t e
   exact ⟨d, hd, k, v, s.tup a1 (ne_of a1 hp (by intro z; cases z)), s.lst a2 (lst_ne_ins a2 hp), s.lst a3 (lst_ne_ins a3 hp), a4, a5⟩⟩
theorem Prq.updq {H : Hp} {q : Addr} {xs ys : List V} {ts : List Addr} {ds : List Pr} (h : Prq H q ts ds) (hq : H q = some (.lst xs)) : Prq (L2.upd H q (.lst ys)) q ts ds :=
 ⟨h.1, fun j t e => by
   obtain ⟨d, hd, k, v, a1, a2, a3, a4, a5⟩ := h.2 j t e
   exact ⟨d, hd, k, v, by rw [upd_ne (ne_of a1 hq (by intro z; cases z))]; exact a1, by rw [upd_ne a4]; exact a2, by rw [upd_ne a5]; exact a3, a4, a5⟩⟩
theorem Prq.same {H H' : Hp} {q : Addr} {ts : List Addr} {ds : List Pr} (h : Prq H q ts ds) (s : Same H H') : Prq H' q ts ds :=
 ⟨h.1, fun j t e => by
   obtain ⟨d, hd, k, v, a1, a2, a3, a4, a5⟩ := h.2 j t e
   exact ⟨d, hd, k, v, s _ _ a1, s _ _ a2, s _ _ a3, a4, a5⟩⟩
theorem Prq.snoc {H : Hp} {q : Addr} {ts : List Addr} {ds : List Pr} {t : Addr} {d : Pr} (h : Prq H q ts ds) (e : PTq H q t d) : Prq H q (ts ++ [t]) (ds ++ [d]) := by
 refine ⟨by simp [h.1], fun j r' hj => ?_⟩
 by_cases z : j < ts.length
 · rw [List.getElem?_append_left z] at hj
   obtain ⟨M, a, b⟩ := h.2 j r' hj
   exact ⟨M, by rw [List.getElem?_append_left (by rw [← h.1]; exact z)]; exact a, b⟩
 · rw [List.getElem?_append_right (by omega)] at hj
   have : j - ts.length = 0 := by
     cases z : j - ts.length with
     | zero => rfl
     | succ k => rw [z] at hj; simp at hj
   rw [this] at hj
   cases hj
   have ej : j = ds.length := by have := h.1; omega
   exact ⟨d, by rw [ej]; simp, e⟩
noncomputable def cat2 (d : Pr) : Bytes := d.1 ++ d.2
noncomputable def plen (d : Pr) : Nat × Nat := (d.1.length, d.2.length)
theorem sumP_plen : ∀ (a b : List Pr), a.map plen = b.map plen → sumP a = sumP b
 | [], [], _ => rfl
 | [], _ :: _, h => by simp at h
 | _ :: _, [], h => by simp at h
 | x :: a, y :: b, h => by
   rw [List.map_cons, List.map_cons] at h
   injection h with h1 h2
   have ih := sumP_plen a b h2
   unfold plen at h1
   injection h1 with h3 h4
   simp [sumP] at ih ⊢
   omega
theorem cat2_len (l : List Pr) : (l.map cat2).flatten.length = sumP l := by
 rw [← flatMapP_len, List.flatMap_def]
 rfl
noncomputable def remM (e : Nat) (n : Option Nat) (cnt : Nat) (got : List Got) (r : Bytes) : Option (List Got × Bytes) := match n with
 | none => mapO e got r
 | some N => items e (2 * (N - cnt)) got r
section
variable {P : Program} {w : World} {K : PySem.W.Frag} {mg : Str → Option Value} {base : Heap}
theorem sc69_6 : FnScope ["self", "head", "depth", "pairs", "key", "pair"] ["self", "head", "depth"] (defScope (inClass (top 69) 6)) := ⟨rfl, rfl, rfl, by decide +kernel, rfl, by decide +kernel, by decide +kernel⟩
theorem le_sum {x : Nat} : ∀ {l : List Nat}, x ∈ l → x ≤ l.sum
 | [], h => by simp at h
 | y :: l, h => by
   rw [List.sum_cons]
   rcases List.mem_cons.mp h with h | h
   · omega
   · have := le_sum h
     omega
noncomputable def tKeys (K : PySem.W.Frag) : TE := tLc (iList K (tVar 3)) (gName 5) tYes (tOp (rIxT K) (tVar 5) (tC (.int 0))) [5]
noncomputable def tCats (K : PySem.W.Frag) : TE := tLc (iList K (tVar 3)) (gName 5) tYes (tOp rCat (tOp (rIxT K) (tVar 5) (tC (.int 0))) (tOp (rIxT K) (tVar 5) (tC (.int 1)))) [5]
noncomputable def sTail (T : Tx P w K mg) (E : XK) : TS := tSeq (tAsg (tSorted T (tVar 3)) (gName 3)) (tSeq (tIfS (tB (tCall spNA [] E (tCons (tKeys K) tNil))) (sFld K (tVar 0) (tC (.bl true)) "key_twice") tNext) (tRet (tCall spCF [] E (tCons (tFld K (tVar 1) "major") (tCons (tCats K) tNil)))))
theorem map_take_snoc {α β : Type} (f : α → β) {l : List α} {j : Nat} {d : α} (h : l[j]? = some d) : (l.take (j + 1)).map f = (l.take j).map f ++ [f d] := by
 rw [List.take_add_one, h, List.map_append]
 rfl
theorem keys_ok {ts : List Addr} {ds : List Pr} {H : Hp} {D : Addr} {σ : L2.St} {p0 p1 p2 ky : Option V} (hs : σ = [p0, p1, p2, some (.ref D), ky, none]) (hD : H D = some (.lst (ts.map V.ref))) (hP : Prs H ts ds) (hl : ts.length ≤ 400) {Q : VK}
   (k : ∀ q H' rs, H q = none → Same H H' → H' q = some (.lst (rs.map V.ref)) → Refs H' rs (ds.map Prod.fst) → Q (.ref q) H') : tKeys K σ H Q := by
 subst hs
 refine ⟨_, rfl, D, rfl, ⟨_, SqL.of hD⟩, fun q hq => ?_⟩
 refine lc_list (fun i H' => Same H H' ∧ ∃ rs, H' q = some (.lst (rs.map V.ref)) ∧ Refs H rs ((ds.take i).map Prod.fst)) ⟨Same.upd hq, [], upd_same, Refs.nil⟩ (fun i H' _ z => SqL.of (z.1 _ _ hD)) (fun i x H' hx z => ?_) (fun H' z => ?_)
 · obtain ⟨t, ht, rfl⟩ := ref_inv hx
   obtain ⟨s1, rs, h1, h2⟩ := z
   obtain ⟨d, hd, k', v', a1, a2, a3⟩ := hP.2 i t ht
   have hi : i < ds.length := (List.getElem?_eq_some_iff.mp hd).1
   refine ⟨rfl, ⟨_, rfl, t, _, _, _, rfl, rfl, SqT.of (s1 _ _ a1), rfl, _, h1, ?_, ?_, rs ++ [k'], ?_, ?_⟩⟩
   · rw [List.length_map, h2.1, List.length_map, List.length_take, sizeLine_eq]
     have := hP.1
     omega
   · exact fun b o e => by rw [upd_ne (ne_of_none e hq)]; exact s1 b o e
   · rw [upd_same, List.map_append]; rfl
   · rw [map_take_snoc Prod.fst hd]
     exact h2.snoc a2
 · obtain ⟨s1, rs, h1, h2⟩ := z
   rw [List.length_map, hP.1, List.take_length] at h2
   exact k q H' rs hq s1 h1 (h2.same s1)
theorem cats_ok {ts : List Addr} {ds : List Pr} {H : Hp} {D : Addr} {σ : L2.St} {p0 p1 p2 ky : Option V} (hs : σ = [p0, p1, p2, some (.ref D), ky, none]) (hD : H D = some (.lst (ts.map V.ref))) (hP : Prs H ts ds) (hl : ts.length ≤ 400) (hz : sumP ds ≤ 4000) {Q : VK}
   (k : ∀ q H' rs, H q = none → Same H H' → H' q = some (.lst (rs.map V.ref)) → Refs H' rs (ds.map cat2) → Q (.ref q) H') : tCats K σ H Q := by
 subst hs
 refine ⟨_, rfl, D, rfl, ⟨_, SqL.of hD⟩, fun q hq => ?_⟩
 refine lc_list (fun i H' => Same H H' ∧ ∃ rs, H' q = some (.lst (rs.map V.ref)) ∧ q ∉ rs ∧ Refs H' rs ((ds.take i).map cat2)) ⟨Same.upd hq, [], upd_same, by simp, Refs.nil⟩ (fun i H' _ z => SqL.of (z.1 _ _ hD)) (fun i x H' hx z => ?_) (fun H' z => ?_)
 · obtain ⟨t, ht, rfl⟩ := ref_inv hx
   obtain ⟨s1, rs, h1, nq, h2⟩ := z
   obtain ⟨d, hd, k', v', a1, a2, a3⟩ := hP.2 i t ht
   have hi : i < ds.length := (List.getElem?_eq_some_iff.mp hd).1
   have hdl : d.1.length + d.2.length ≤ 4000 := by
     have : d.1.length + d.2.length ≤ sumP ds := le_sum (List.mem_map.mpr ⟨d, List.mem_of_getElem? hd, rfl⟩)
     omega
   refine ⟨rfl, ⟨_, rfl, t, _, _, _, rfl, rfl, SqT.of (s1 _ _ a1), rfl, _, rfl, t, _, _, _, rfl, rfl, SqT.of (s1 _ _ a1), rfl, k', v', _, _, rfl, rfl, s1 _ _ a2, s1 _ _ a3, ?_, fun r hr => ?_⟩⟩
   · simp only [vb, List.length_map]; rw [sizeLine_eq]; omega
   have s2 : Same H' (upd H' r (.lst (vb d.1 ++ vb d.2))) := Same.upd hr
   have nqr : q ≠ r := ne_of_none h1 hr
   refine ⟨_, s2 _ _ h1, ?_, ?_, rs ++ [r], ?_, ?_, ?_⟩
   · rw [List.length_map, h2.1, List.length_map, List.length_take, sizeLine_eq]
     have := hP.1
     omega
   · exact fun b o e => by rw [upd_ne (ne_of_none e hq)]; exact s2 _ _ (s1 b o e)
   · rw [upd_same, List.map_append]; rfl
   · intro z
     rcases List.mem_append.mp z with z | z
     · exact nq z
     · exact nqr (List.mem_singleton.mp z)
   · rw [map_take_snoc cat2 hd]
     refine ((h2.same s2).upd nq).snoc ?_
     rw [upd_ne nqr.symm, upd_same]
     unfold cat2
     rw [vb_append]
 · obtain ⟨s1, rs, h1, _, h2⟩ := z
   rw [List.length_map, hP.1, List.take_length] at h2
   exact k q H' rs hq s1 h1 h2
theorem tail_ok (T : Tx P w K mg) {Q : VK} {E : XK} {p a h q : Addr} {b : Bytes} {pos nc sb i bh d : Nat} {n : Option Nat} {tw : Bool} {ts : List Addr} {ds : List Pr} {ky : Option V} {H : Hp} {nx : L2.St → Hp → Prop} (R : RdAt T.CR H p a b pos nc sb tw) (t : TabOk T H) (hd : HdAt T.CH H h 5 i n bh) (hq : H q = some (.lst (ts.map V.ref))) (hP : Prs H ts ds) (hl : ds.length ≤ 400) (hz : sumP ds ≤ 4000)
   (k : ∀ (q3 : Addr) (H3 : Hp) (ds2 : List Pr), H q3 = none → Bat p H H3 → TabOk T H3 → RdAt T.CR H3 p a b pos nc sb (tw || twiceIn (sortP ds)) → H3 q3 = some (.lst (vb (short 5 ds2.length ++ (ds2.map cat2).flatten))) → ds2.Perm ds → Srtd ds2 → Q (.ref q3) H3) :
   sTail T E { nx := nx, rt := Q } [some (.ref p), some (.ref h), some (.int d), some (.ref q), ky, none] H := by
 obtain ⟨⟨dx, hp⟩, ha⟩ := id R
 obtain ⟨dh, hh⟩ := id hd
 have nhp : h ≠ p := rd_ne_hd hh hp
 refine ⟨_, rfl, q, ts, ds, rfl, hq, hP, t, fun D H2 ts2 ds2 hD B2 t2 hD2 hP2 nD hpm hsr => ?_⟩
 have ll : ts2.length ≤ 400 := by rw [hP2.1, hpm.length_eq]; exact hl
 have hz2 : sumP ds2 ≤ 4000 := by rw [sumP_perm hpm]; exact hz
 have hp2 : H2 p = some (.ins T.CR dx (rdF a pos nc sb tw)) := B2 _ _ hp
 have hh2 : H2 h = some (.ins T.CH dh (hdF 5 i n bh)) := B2 _ _ hh
 have ha2 : H2 a = some (.lst (vb b)) := B2 _ _ ha
 dsimp only [gName, tSeq, tIfS, tB, tCall, tCons]
 refine keys_ok rfl hD2 hP2 ll fun q3 H3 rs3 hq3 s3 e3 r3 => ⟨q3, rs3, _, rfl, e3, r3, by rw [List.length_map, ← hP2.1]; omega, ?_⟩
 have etw : nbr (ds2.map Prod.fst) = twiceIn (sortP ds) := by rw [nbr_keys]; exact twiceIn_keys (keys_eq hpm hsr)
 rw [etw]
 have B3 : Bat p H H3 := fun b o e _ => (B2 b o e).trans fun u z => Kp.of (s3 _ _ z)
 have fin : ∀ H4, But p H3 H4 → RdAt T.CR H4 p a b pos nc sb (tw || twiceIn (sortP ds)) → tRet (tCall spCF [] E (tCons (tFld K (tVar 1) "major") (tCons (tCats K) tNil))) { nx := nx, rt := Q } [some (.ref p), some (.ref h), some (.int d), some (.ref D), ky, none] H4 := by
   intro H4 B4 R4
   have hp3 := s3 _ _ hp2
   have hh4 := B4 _ _ (s3 _ _ hh2) nhp
   have hD4 := B4 _ _ (s3 _ _ hD2) (lst_ne_ins (s3 _ _ hD2) hp3)
   have hP4 : Prs H4 ts2 ds2 := ⟨hP2.1, fun j t e => by
     obtain ⟨d, hd, k, v, a1, a2, a3⟩ := hP2.2 j t e
     have a1' := s3 _ _ a1
     have a2' := s3 _ _ a2
     have a3' := s3 _ _ a3
     exact ⟨d, hd, k, v, B4 _ _ a1' (ne_of a1' hp3 (by intro z; cases z)), B4 _ _ a2' (lst_ne_ins a2' hp3), B4 _ _ a3' (lst_ne_ins a3' hp3)⟩⟩
   refine ⟨_, rfl, h, _, dh, _, _, rfl, hh4, T.clH, T.nH1, hd1, ?_⟩
   refine cats_ok rfl hD4 hP4 ll hz2 fun q5 H5 rs5 hq5 s5 e5 r5 => ⟨5, q5, rs5, _, rfl, by omega, e5, r5, by rw [List.length_map, ← hP2.1]; omega, by rw [cat2_len]; omega, fun q6 H6 hq6 s6 e6 => ?_⟩
   obtain ⟨⟨dx4, hp4⟩, _⟩ := id R4
   have B6 : Bat p H H6 := ((B3.trans (Bat.of B4)).trans (Bat.ofS s5)).trans (Bat.ofS s6)
   have t4 : TabOk T H4 := (t2.same s3).but hp3 B4
   rw [List.length_map] at e6
   refine k q6 H6 ds2 ?_ B6 ((t4.same s5).same s6) ((R4.same s5).same s6) e6 hpm hsr
   exact ((B3.trans (Bat.of B4)).trans (Bat.ofS s5)).free hq6 (ne_of_none (s5 _ _ hp4) hq6).symm
 cases ht : twiceIn (sortP ds) with
 | true =>
   refine ⟨_, rfl, iteT ?_⟩
   refine ⟨_, rfl, p, _, dx, _, rfl, s3 _ _ hp2, T.clR, T.nR5, (by show 5 < 1000; omega), ?_⟩
   rw [rd_tw]
   exact fin _ But.upd (by rw [ht, Bool.or_true]; exact RdAt.put (show RdAt T.CR H3 p a b pos nc sb tw from ⟨⟨dx, s3 _ _ hp2⟩, s3 _ _ ha2⟩))
 | false =>
   refine ⟨_, rfl, iteF ?_⟩
   exact fin H3 (But.refl p H3) (by rw [ht, Bool.or_false]; exact ⟨⟨dx, s3 _ _ hp2⟩, s3 _ _ ha2⟩)
theorem blk69_6 : BlkOk ["self", "head", "depth", "pairs", "key", "pair"] (defScope (inClass (top 69) 6)) { kind := .function, names := [(".0", .local), ("pair", .local)], isGenerator := false, isCoroutine := false } [("pair", 5)] := blkOk_by (by decide +kernel)
theorem ok_TM (T : Tx P w K mg) {d e k0 : Nat} (hk : 4 ≤ k0) (hB : BM base mg) {f : Addr} {oc : Value} {od an : Option Addr} {kV doc pm ct : Value} {osl : Array (Option Value)}
   (lk : K.lookup f = some ⟨oc, od, .func (PySem.W.fnOf "take_map" "Reader.take_map" (defArgs (inClass (top 69) 6)) (defBody (inClass (top 69) 6)) (defScope (inClass (top 69) 6)) .none kV doc pm an (.ref T.cM) ct), osl⟩) (hcd : PySem.W.codeIn K (.ref T.cM) "Reader.take_map" = true)
   (MG : Mth P w K mg base 1 T.CR "goes_on" ["self", "head", "taken"] (spGO T)) (MI : Mth P w K mg base k0 T.CR "take_item" ["self", "depth"] (spTI T d e)) (DN : Dfn P w K mg base 1 "has_neighbours_alike" ["keys"] spNA) (DC : Dfn P w K mg base 4 "counted_form" ["major", "forms"] spCF) :
   FnOk P w K mg base (CXE P w) (k0 + 1) f (PySem.W.fnOf "take_map" "Reader.take_map" (defArgs (inClass (top 69) 6)) (defBody (inClass (top 69) 6)) (defScope (inClass (top 69) 6)) .none kV doc pm an (.ref T.cM) ct) ["self", "head", "depth"] (spTM T d e) := by
 refine fn_of lk hcd sc69_6 (fun vs H Q E h => ?_) (fun A outer s H vs Q E hr h => ?_)
 · obtain ⟨p, a, h, b, at_, nc, sb, i, bh, n, tw, rfl, _⟩ := h
   rfl
 · obtain ⟨p, a, h, b, at_, nc, sb, i, bh, n, tw, rfl, hR, hd, k⟩ := h
   have hr1 := hr.mono (j := 1) (by omega)
   have hr4 := hr.mono (j := 4) hk
   obtain ⟨⟨dx0, hp0⟩, ha0⟩ := id hR.rd
   obtain ⟨dh, hh⟩ := id hd
   have nhp : h ≠ p := rd_ne_hd hh hp0
   refine ⟨_, pss_cons (ps_set (i := 3) sc69_6.nd rfl (Or.inl rfl) (pe_lst pa_nil))
     (pss_cons (ps_while PassesOwn.leaving (pt_val (pe_m MG T.clR pass_fly hr1 (pv 0) (pa_cons (pv 1) (pa_cons (pe_callB call_len_seq (by rfl) T.len PySem.boot_len (pa_cons (pv 3) pa_nil)) pa_nil))))
       (pss_cons (ps_set (i := 4) sc69_6.nd rfl (Or.inl rfl) (pe_m MI T.clR pass_fly hr (pv 0) (pa_cons (pv 2) pa_nil)))
       (pss_one (ps_expr (pe_bm PySem.F.plainAttrs_list PySem.F.slot_list_append PySem.F.type_list_append mt_append (pv 3) (pa_cons (pe_tup (pa_cons (pv 4) (pa_cons (pe_m MI T.clR pass_fly hr (pv 0) (pa_cons (pv 2) pa_nil)) pa_nil))) pa_nil))))))
     (pss_cons (ps_set (i := 3) sc69_6.nd rfl (Or.inl rfl) (pe_sorted (pp := ⟨300, 41, 300, 45⟩) (p1 := ⟨300, 47, 300, 51⟩) (p2 := ⟨300, 52, 300, 53⟩) (p3 := ⟨300, 47, 300, 54⟩) (lp := ⟨300, 34, 300, 54⟩) T hB (pv 3) (Nat.lt_of_le_of_lt (Nat.add_le_add_left (by decide) _) hr.units) hr.depth rfl rfl rfl rfl rfl rfl))
     (pss_cons (ps_if (pt_val (pe_d DN pass_fly hr1 (pa_cons (pe_lc rfl sc69_6.nd (pi_list (pv 3)) blk69_6 (fun s H C cl fp => pg_name (i := 5) sc69_6.nd rfl (Or.inl rfl)) (fun _ _ _ _ _ => pts_nil) (fun s H C cl fp => pe_ix (r := rIxT K) ix_tup (pv 5) pe_int (fun _ _ => rfl))) pa_nil)))
       (pss_one (ps_fld (pv 0) pe_bl rfl)) pss_nil)
     (pss_one (ps_ret (pe_d DC pass_fly hr4 (pa_cons (pe_fld (pv 1) rfl) (pa_cons (pe_lc rfl sc69_6.nd (pi_list (pv 3)) blk69_6 (fun s H C cl fp => pg_name (i := 5) sc69_6.nd rfl (Or.inl rfl)) (fun _ _ _ _ _ => pts_nil)
       (fun s H C cl fp => pe_op op_cat (pe_ix (r := rIxT K) ix_tup (pv 5) pe_int (fun _ _ => rfl)) (pe_ix (r := rIxT K) ix_tup (pv 5) pe_int (fun _ _ => rfl)))) pa_nil)))))))), ?_⟩
   refine ⟨Nat.zero_le _, fun q hq => ?_⟩
   have s0 : Same H (upd H q (.lst [])) := Same.upd hq
   have nqp : q ≠ p := (ne_of_none hp0 hq).symm
   have nhq : h ≠ q := ne_of_none hh hq
   refine ⟨fun ms σ H' => ∃ (pos nc' sb' : Nat) (ts : List Addr) (ds : List Pr) (got : List Got) (ky : Option V), σ = [some (.ref p), some (.ref h), some (.int d), some (.ref q), ky, none] ∧ Bat p H H' ∧ Rdy T H' p a b pos nc' sb' (tw || got.any Got.twice) ∧ H' q = some (.lst (ts.map V.ref)) ∧ Prq H' q ts ds ∧ ms = b.length - pos ∧
       got.length = 2 * ts.length ∧ ds.map plen = (pairsOf got).map plen ∧ ((tw || got.any Got.twice) = false → ds = pairsOf got) ∧ got.length ≤ pos ∧ sumO got ≤ 10 * pos ∧ (∀ N, n = some N → ts.length ≤ N) ∧ remM e n 0 [] (b.drop at_) = remM e n ts.length got (b.drop pos),
     ⟨_, at_, nc, sb, [], [], [], none, rfl, Bat.ofS s0, ⟨by simpa using hR.rd.same s0, hR.nc, hR.sb, hR.le, hR.few, hR.tab.same s0⟩, upd_same, Prq.nil, rfl, rfl, rfl, fun _ => rfl, Nat.zero_le _, Nat.zero_le _, fun _ _ => Nat.zero_le _, rfl⟩, ?_⟩
   rintro ms σ H' ⟨pos, nc', sb', ts, ds, got, ky, rfl, B, R, hqq, hPq, rfl, hgt, hpl, hde, hgl, hsl, hN, hrem⟩
   obtain ⟨⟨dx, hp⟩, ha⟩ := id R.rd
   have hd' := hd.bat B nhp
   have hle := R.le
   have hfew := R.few
   have hdl : ds.length = ts.length := hPq.1.symm
   have hsd : sumP ds = sumP (pairsOf got) := sumP_plen _ _ hpl
   have hsp : sumP (pairsOf got) ≤ sumO got := sumP_pairs got
   have fin : ∀ H2, But p H' H2 → ∀ pos2, pos2 ≤ b.length → RdAt T.CR H2 p a b pos2 nc' sb' (tw || got.any Got.twice) → pos ≤ pos2 → mpp e n (b.drop at_) = some (mapOf got, b.drop pos2) → sTail T E { nx := fun _ H' => Q .non H', rt := Q } [some (.ref p), some (.ref h), some (.int d), some (.ref q), ky, none] H2 := by
     intro H2 B2 pos2 hp2 R2 hle2 ea
     rw [ea] at k
     have hq2 := B2 _ _ hqq nqp
     have hP2 : Prs H2 ts ds := (hPq.bat hp (Bat.of B2)).prs
     refine tail_ok T R2 (R.tab.but hp B2) (hd'.but B2 nhp) hq2 hP2 (by omega) (by omega) fun q3 H3 ds2 hq3 B3 t3 R3 e3 hpm hsr => ?_
     have el : b.length - (b.drop pos2).length = pos2 := by rw [List.length_drop]; omega
     obtain ⟨⟨dx2, hp2'⟩, _⟩ := id R2
     have etw : (tw || got.any Got.twice || twiceIn (sortP ds)) = (tw || (mapOf got).twice) := by
       show _ = (tw || (got.any Got.twice || twiceIn (sortP (pairsOf got))))
       rw [← Bool.or_assoc]
       cases z : (tw || got.any Got.twice) with
       | true => rfl
       | false => rw [hde z]
     rw [etw] at R3
     have hlen : ds.length = (pairsOf got).length := by
       have := congrArg List.length hpl
       rwa [List.length_map, List.length_map] at this
     refine k q3 H3 _ nc' sb' ((B.trans (Bat.of B2)).free hq3 (ne_of_none hp2' hq3).symm) ((B.trans (Bat.of B2)).trans B3) t3 ?_ ?_ ?_ e3 ?_ ?_
     · rw [el]; exact R3
     · rw [el]; have := R.nc; omega
     · rw [el]; have := R.sb; omega
     · show _ = (short 5 (sortP (pairsOf got)).length ++ (sortP (pairsOf got)).flatMap fun (x : Bytes × Bytes) => x.1 ++ x.2).length
       rw [List.length_append, List.length_append, cat2_len, flatMapP_len, sumP_perm (sortP_perm _), sumP_perm hpm, hsd, hpm.length_eq, (sortP_perm (pairsOf got)).length_eq, hlen]
     · intro z
       show _ = short 5 (sortP (pairsOf got)).length ++ (sortP (pairsOf got)).flatMap fun (x : Bytes × Bytes) => x.1 ++ x.2
       have z1 : (tw || (got.any Got.twice || twiceIn (sortP (pairsOf got)))) = false := z
       rw [← Bool.or_assoc, Bool.or_eq_false_iff] at z1
       have e1 := hde z1.1
       rw [e1] at hpm
       have e2 := sort_eq hpm hsr z1.2
       rw [e2, List.flatMap_def]
       rfl
   have more : (∀ N, n = some N → ts.length < N) → remM e n ts.length got (b.drop pos) = (match item e (b.drop pos) with | none => none | some (x, t) => match item e t with | none => none | some (y, u) => remM e n (ts.length + 1) (got ++ [x, y]) u) →
       ∃ N' : L2.St → Hp → Prop, (∀ σ' H'', N' σ' H'' → ∃ m', m' < b.length - pos ∧ ∃ (pos nc' sb' : Nat) (ts : List Addr) (ds : List Pr) (got : List Got) (ky : Option V), σ' = [some (.ref p), some (.ref h), some (.int d), some (.ref q), ky, none] ∧ Bat p H H'' ∧ Rdy T H'' p a b pos nc' sb' (tw || got.any Got.twice) ∧ H'' q = some (.lst (ts.map V.ref)) ∧ Prq H'' q ts ds ∧ m' = b.length - pos ∧
         got.length = 2 * ts.length ∧ ds.map plen = (pairsOf got).map plen ∧ ((tw || got.any Got.twice) = false → ds = pairsOf got) ∧ got.length ≤ pos ∧ sumO got ≤ 10 * pos ∧ (∀ N, n = some N → ts.length ≤ N) ∧ remM e n 0 [] (b.drop at_) = remM e n ts.length got (b.drop pos)) ∧
       tSeq (tAsg (tMeth T.CR "take_item" (spTI T d e) [] E (tVar 0) (tCons (tVar 2) tNil)) (gName 4)) (tDrop (tBM K "list" rAppend (tVar 3) (tCons (tTup (tCons (tVar 4) (tCons (tMeth T.CR "take_item" (spTI T d e) [] E (tVar 0) (tCons (tVar 2) tNil)) tNil))) tNil))) { nx := N', rt := Q, bk := sTail T E { nx := fun _ H' => Q .non H', rt := Q }, ct := N' } [some (.ref p), some (.ref h), some (.int d), some (.ref q), ky, none] H' := by
     intro hlt hstep
     have bad : remM e n ts.length got (b.drop pos) = none → mpp e n (b.drop at_) = none := by
       intro hn
       have z : remM e n 0 [] (b.drop at_) = none := hrem.trans hn
       unfold mpp
       cases n with
       | none => dsimp only; rw [show mapO e [] (b.drop at_) = none from z]
       | some N => dsimp only; rw [show items e (2 * N) [] (b.drop at_) = none from z]
     refine ⟨_, fun σ' H'' z => z, ?_⟩
     refine ⟨_, rfl, p, dx, _, rfl, hp, rfl, _, rfl, p, a, b, pos, nc', sb', tw || got.any Got.twice, rfl, R, ?_⟩
     cases ei : item e (b.drop pos) with
     | none =>
       rw [ei] at hstep
       rw [bad hstep] at k
       exact fun H2 B2 t2 => k H2 (B.trans B2) t2
     | some z =>
     obtain ⟨g1, t1⟩ := z
     rw [ei] at hstep
     dsimp only at hstep
     intro q1 H1 L1 nc1 sb1 hq1 B1 tb1 R1 hn1 hs1 e1 hl1 he1
     obtain ⟨m1, m2, m3⟩ := item_sm ei
     have ln1 := item_len ei
     rw [List.length_drop] at m1 ln1
     have et1 : b.drop (b.length - t1.length) = t1 := suf_drop (suffix_trans ⟨pos, rfl⟩ (item_suffix ei))
     obtain ⟨⟨dx1, hp1⟩, ha1⟩ := id R1
     have hqq1 := B1.lst hqq nqp
     have nqq1 : q1 ≠ q := (ne_of_none hqq hq1).symm
     refine ⟨_, rfl, .inl ⟨rfl, _, SqL.of hqq1⟩, _, rfl, _, rfl, p, dx1, _, rfl, hp1, rfl, _, rfl, p, a, b, b.length - t1.length, nc1, sb1, _, rfl, ⟨R1, hn1, hs1, by omega, hfew, tb1⟩, ?_⟩
     rw [et1]
     cases ei2 : item e t1 with
     | none =>
       rw [ei2] at hstep
       rw [bad hstep] at k
       exact fun H2 B2 t2 => k H2 ((B.trans B1).trans B2) t2
     | some z =>
     obtain ⟨g2, t2⟩ := z
     rw [ei2] at hstep
     dsimp only at hstep
     intro q2 H2 L2 nc2 sb2 hq2 B2 tb2 R2 hn2 hs2 e2 hl2 he2
     obtain ⟨m4, m5, m6⟩ := item_sm ei2
     have ln2 := item_len ei2
     have et2 : b.drop (b.length - t2.length) = t2 := suf_drop (suffix_trans ⟨pos, rfl⟩ (suffix_trans (item_suffix ei) (item_suffix ei2)))
     obtain ⟨⟨dx2, hp2⟩, ha2⟩ := id R2
     have hqq2 := B2.lst hqq1 nqp
     have nqq2 : q2 ≠ q := (ne_of_none hqq1 hq2).symm
     have e1' := B2.lst e1 (lst_ne_ins e1 hp1)
     refine ⟨(by rw [sizeLine_eq]; show 2 ≤ _; omega), fun t ht => ?_⟩
     have st : Same H2 (upd H2 t (.tup [.ref q1, .ref q2])) := Same.upd ht
     have ntq : t ≠ q := (ne_of_none hqq2 ht).symm
     refine ⟨q, _, _, rfl, rfl, st _ _ hqq2, ?_, b.length - (b.length - t2.length), by omega, b.length - t2.length, nc2, sb2, ts ++ [t], ds ++ [(L1, L2)], got ++ [g1, g2], some (.ref q1), rfl, ?_, ⟨?_, hn2, hs2, by omega, hfew, (tb2.same st).upd (st _ _ hqq2)⟩, ?_, ?_, rfl, ?_, ?_, ?_, ?_, ?_, ?_, ?_⟩
     · rw [List.length_map, sizeLine_eq]; omega
     · refine Bat.upd2 (Bat.trans ((B.trans B1).trans B2) (Bat.ofS st)) hq
     · have e9 : (tw || (got ++ [g1, g2]).any Got.twice) = (((tw || got.any Got.twice) || g1.twice) || g2.twice) := by rw [List.any_append]; simp [Bool.or_assoc]
       rw [e9]
       have R3 := R2.same st
       obtain ⟨⟨dx3, hp3⟩, ha3⟩ := R3
       exact ⟨⟨dx3, by rw [upd_ne nqp.symm]; exact hp3⟩, by rw [upd_ne (ne_of_none ha0 hq)]; exact ha3⟩
     · rw [upd_same, List.map_append]
       rfl
     · have P3 : Prq (upd H2 t (.tup [.ref q1, .ref q2])) q ts ds := ((hPq.bat hp B1).bat hp1 B2).same st
       refine (P3.updq (st _ _ hqq2)).snoc ⟨q1, q2, ?_, ?_, ?_, nqq1, nqq2⟩
       · rw [upd_ne ntq, upd_same]
       · rw [upd_ne nqq1]; exact st _ _ e1'
       · rw [upd_ne nqq2]; exact st _ _ e2
     · rw [List.length_append, List.length_append, hgt]; simp; omega
     · rw [pairsOf_snoc _ _ _ (by omega), List.map_append, List.map_append, hpl]
       simp [plen, hl1, hl2]
     · intro z
       have e9 : (tw || (got ++ [g1, g2]).any Got.twice) = (((tw || got.any Got.twice) || g1.twice) || g2.twice) := by rw [List.any_append]; simp [Bool.or_assoc]
       rw [e9] at z
       have z2 := he2 z
       rw [Bool.or_eq_false_iff] at z
       have z1 := he1 z.1
       have z0 := z.1
       rw [Bool.or_eq_false_iff] at z0
       rw [pairsOf_snoc _ _ _ (by omega), ← hde z0.1, z1, z2]
     · rw [List.length_append]; simp; omega
     · rw [sumO_append]
       have : sumO [g1, g2] = g1.out.length + g2.out.length := by simp [sumO]
       rw [this]; omega
     · intro N hN'
       have := hlt N hN'
       rw [List.length_append]; simp; omega
     · rw [hrem, hstep, et2, List.length_append]
       rfl
   refine ⟨_, rfl, p, dx, _, rfl, hp, rfl, _, rfl, _, rfl, q, _, rfl, .inl (SqL.of hqq), p, a, h, b, pos, nc', sb', 5, i, bh, ts.length, n, tw || got.any Got.twice, ?_, R.rd, hd', ?_⟩
   · show [V.ref p, V.ref h, V.int (((ts.map V.ref).length : Nat) : Int)] = _
     rw [List.length_map]
   cases n with
   | some N =>
     refine ⟨_, rfl, iteB (fun h1 => ?_) (fun h1 => ?_)⟩
     · have h1' := of_decide_eq_true h1
       refine more (fun N' z => by cases z; exact h1') ?_
       show items e (2 * (N - ts.length)) got (b.drop pos) = _
       rw [show N - ts.length = (N - (ts.length + 1)) + 1 by omega, items_pair]
       rfl
     · have h1' := of_decide_eq_false h1
       have hg := hN N rfl
       refine fin H' (But.refl p H') pos hle R.rd (Nat.le_refl _) ?_
       have z : items e (2 * N) [] (b.drop at_) = some (got, b.drop pos) := by
         refine (show items e (2 * N) [] (b.drop at_) = items e (2 * (N - ts.length)) got (b.drop pos) from hrem).trans ?_
         rw [items_eq, if_pos (by omega)]
       unfold mpp
       dsimp only
       rw [z]
   | none =>
     refine ⟨fun hff H2 B2 R2 => ⟨_, rfl, iteF ?_⟩, fun hff => ⟨_, rfl, iteT ?_⟩⟩
     · have hlt : pos < b.length := (List.getElem?_eq_some_iff.mp hff).1
       obtain ⟨c, r, hdr, hg⟩ := drop_cons hlt
       rw [hff] at hg
       cases hg
       refine fin H2 B2 (pos + 1) (by omega) R2 (by omega) ?_
       have z : mapO e [] (b.drop at_) = some (got, b.drop (pos + 1)) := by
         refine (show mapO e [] (b.drop at_) = mapO e got (b.drop pos) from hrem).trans ?_
         rw [mapO_eq _ _ _ (by omega), hdr]
         dsimp only
         rw [if_pos rfl, (drop_get hdr).2.2.2]
       unfold mpp
       dsimp only
       rw [z]
     · refine more (fun N' z => by cases z) ?_
       show mapO e got (b.drop pos) = _
       rw [mapO_eq _ _ _ (by omega)]
       cases hdr : b.drop pos with
       | nil => rw [item_nil]
       | cons c r =>
         dsimp only
         have : ¬ c = 0xFF := fun z => hff (by rw [(drop_get hdr).2.1, z])
         rw [if_neg this]
         rfl
end
end My
end
section
namespace My
open PySem PySem.Spec PyProof.Rows L2 Of Pu
section
variable {P : Program} {w : World} {K : PySem.W.Frag} {mg : Str → Option Value} {base : Heap}
structure Xs (T : Tx P w K mg) : Prop where
 same : ∀ C ∈ [T.xV, T.xF, T.xT, T.xN, T.xS, T.xM, T.xK], PySem.W.exmOne K (.ref C) (.ref C) = some true
 other : ∀ C ∈ [T.xV, T.xF, T.xT, T.xN, T.xS, T.xM, T.xK], ∀ D ∈ [T.xV, T.xF, T.xT, T.xN, T.xS, T.xM, T.xK], C ≠ D → PySem.W.exmOne K (.ref C) (.ref D) = some false
 nd : [T.xV, T.xF, T.xT, T.xN, T.xS, T.xM, T.xK].Nodup
theorem ne_xT {T : Tx P w K mg} (Z : Xs T) : T.xT ≠ T.xF := fun z => by
 have := Z.nd
 simp only [List.nodup_cons] at this
 exact this.2.1 (by rw [← z]; simp)
theorem ok_items (T : Tx P w K mg) (hB : BM base mg) {fI fA fM : Addr} {fdI fdA fdM : FuncData} (FI : Fun K "take_item" "Reader.take_item" (inClass (top 69) 2) fI fdI) (FA : Fun K "take_array" "Reader.take_array" (inClass (top 69) 5) fA fdA)
   (mI : Meth K T.CR "take_item" fI) (mA : Meth K T.CR "take_array" fA) (mM : Meth K T.CR "take_map" fM) (bI : Binds K fdI ["self", "depth"] []) (bA : Binds K fdA ["self", "head", "depth"] []) (bM : Binds K fdM ["self", "head", "depth"] [])
   (hM : ∃ (oc : Value) (od an : Option Addr) (kV doc pm ct : Value) (osl : Array (Option Value)), fdM = PySem.W.fnOf "take_map" "Reader.take_map" (defArgs (inClass (top 69) 6)) (defBody (inClass (top 69) 6)) (defScope (inClass (top 69) 6)) .none kV doc pm an (.ref T.cM) ct ∧ K.lookup fM = some ⟨oc, od, .func fdM, osl⟩) (hcd : PySem.W.codeIn K (.ref T.cM) "Reader.take_map" = true)
   (MC : Mth P w K mg base 1 T.CR "count_node" ["self"] (spCN T)) (MH : Mth P w K mg base 5 T.CR "take_head" ["self"] (spTH T)) (DL : Dfn P w K mg base 5 "lone_form" ["head"] (spLF T)) (MS : Mth P w K mg base 7 T.CR "take_string" ["self", "head"] (spTS T)) (DH : Dfn P w K mg base 3 "short_head" ["major", "number"] spSH)
   (MG : Mth P w K mg base 1 T.CR "goes_on" ["self", "head", "taken"] (spGO T)) (DN : Dfn P w K mg base 1 "has_neighbours_alike" ["keys"] spNA) (DC : Dfn P w K mg base 4 "counted_form" ["major", "forms"] spCF) :
   ∀ e : Nat, e ≤ 16 → FnOk P w K mg base (CXE P w) (8 + 2 * e) fI fdI ["self", "depth"] (spTI T (16 - e) e)
 | 0, _ => ok_TI0 T (k0 := 7) (by omega) FI MC MH DL MS
 | e + 1, he => by
   have ih := ok_items T hB FI FA mI mA mM bI bA bM hM hcd MC MH DL MS DH MG DN DC e (by omega)
   have MI : Mth P w K mg base (8 + 2 * e) T.CR "take_item" ["self", "depth"] (spTI T (16 - e) e) := ⟨fI, fdI, mI, bI, ih⟩
   have oA := ok_TA T (d := 16 - e) (e := e) (k0 := 8 + 2 * e) (by omega) FA MG MI DC
   obtain ⟨oc, od, an, kV, doc, pm, ct, osl, hfd, lk⟩ := hM
   subst hfd
   have oM := ok_TM T (d := 16 - e) (e := e) (k0 := 8 + 2 * e) (by omega) hB lk hcd MG MI DN DC
   have MI' : Mth P w K mg base (8 + 2 * e + 1) T.CR "take_item" ["self", "depth"] (spTI T (16 - e) e) := ⟨fI, fdI, mI, bI, ih.mono (by omega)⟩
   have MA' : Mth P w K mg base (8 + 2 * e + 1) T.CR "take_array" ["self", "head", "depth"] (spTA T (16 - e) e) := ⟨fA, fdA, mA, bA, oA⟩
   have MM' : Mth P w K mg base (8 + 2 * e + 1) T.CR "take_map" ["self", "head", "depth"] (spTM T (16 - e) e) := ⟨fM, _, mM, bM, oM⟩
   have ed : 16 - e = (16 - (e + 1)) + 1 := by omega
   rw [ed] at MI' MA' MM'
   exact ok_TIs T (d := 16 - (e + 1)) (e := e) (k0 := 8 + 2 * e + 1) (by omega) (by omega) FI MC MH DL MS MA' MM' DH MI'
theorem BatA.of {H H' : Hp} (a : Same H H') : BatA H H' := fun b o e => Kp.of (a b o e)
theorem BatA.ofB {p : Addr} {H H1 H2 : Hp} (a : BatA H H1) (hp : H p = none) (b : Bat p H1 H2) : BatA H H2 := fun c o h => (a c o h).trans fun u e => b c u e (ne_of_none h hp)
theorem BatA.lst {b : Addr} {H H' : Hp} {xs : List V} (s : BatA H H') (h : H b = some (.lst xs)) : H' b = some (.lst xs) := s b _ h
theorem BatA.ins {b C dx : Addr} {H H' : Hp} {fs : List (Str × V)} (s : BatA H H') (h : H b = some (.ins C dx fs)) : H' b = some (.ins C dx fs) := s b _ h
theorem valueOf_none {b : Bytes} (hb : b.length ≤ 400) (h : item 16 b = none) : OfCalls.valueOf b = .error (-1) := by
 unfold OfCalls.valueOf
 rw [readIn_eq hb, h]
theorem valueOf_more {b : Bytes} (hb : b.length ≤ 400) {g : Got} {c : UInt8} {r : Bytes} (h : item 16 b = some (g, c :: r)) : OfCalls.valueOf b = .error (-1) := by
 unfold OfCalls.valueOf
 rw [readIn_eq hb, h]
theorem valueOf_some {b : Bytes} (hb : b.length ≤ 400) {g : Got} (h : item 16 b = some (g, [])) : OfCalls.valueOf b = if g.twice = true then .error (-2) else .ok g.out := by
 unfold OfCalls.valueOf
 rw [readIn_eq hb, h]
noncomputable def OFR (T : Tx P w K mg) (H : Hp) (Q : VK) (E : XK) : Except Int Bytes → Prop
 | .error z => ∀ H', BatA H H' → TabOk T H' → E (.ref (if z = -1 then T.xF else T.xT)) none H'
 | .ok c => ∀ q H', H q = none → BatA H H' → TabOk T H' → H' q = some (.lst (vb c)) → Q (.ref q) H'
noncomputable def spOF (T : Tx P w K mg) : Sp := fun vs H Q E => ∃ (a : Addr) (b : Bytes), vs = [.ref a] ∧ H a = some (.lst (vb b)) ∧ b.length ≤ 400 ∧ TabOk T H ∧ OFR T H Q E (OfCalls.valueOf b)
theorem sc64 : FnScope ["data", "reader", "form"] ["data"] (defScope (top 64)) := ⟨rfl, rfl, rfl, by decide +kernel, rfl, by decide +kernel, by decide +kernel⟩
theorem ok_OF (T : Tx P w K mg) {f : Addr} {fd : FuncData} (F : Fun K "one_form" "one_form" (top 64) f fd) (MR : Mkr P w K mg base 1 T.CR "Reader" ["self", "data"] (spRd T.CR)) (MI : Mth P w K mg base 40 T.CR "take_item" ["self", "depth"] (spTI T 0 16)) :
   FnOk P w K mg base (CXE P w) 41 f fd ["data"] (spOF T) := by
 refine F.okE sc64 (fun vs H Q E h => ?_) (fun cdv A outer s H vs Q E hr h => ?_)
 · obtain ⟨a, b, rfl, _⟩ := h
   rfl
 · obtain ⟨a, b, rfl, ha, hb, ht, k⟩ := h
   refine ⟨_, pss_cons (ps_set (i := 1) sc64.nd rfl (Or.inl rfl) (pe_mk MR pass_fly (hr.mono (by decide)) (pa_cons (pv 0) pa_nil)))
     (pss_cons (ps_set (i := 2) sc64.nd rfl (Or.inl rfl) (pe_m MI T.clR pass_fly hr (pv 1) (pa_cons pe_int pa_nil)))
     (pss_cons (ps_if (pt_cmpR op_ne (pe_fld (pv 1) rfl) (pe_callB call_len_seq (by rfl) T.len PySem.boot_len (pa_cons (pv 0) pa_nil)) (nomark _)) (pss_one (ps_raise0 T.oF rfl)) pss_nil)
     (pss_cons (ps_if (pt_val (pe_fld (pv 1) rfl)) (pss_one (ps_raise0 T.oT rfl)) pss_nil)
     (pss_one (ps_ret (pv 2)))))), ?_⟩
   refine ⟨_, rfl, fun p dx hp hdx nd => ?_⟩
   have nap : a ≠ p := ne_of_none ha hp
   have nad : a ≠ dx := ne_of_none ha hdx
   refine ⟨p, dx, a, b, rfl, upd_same, by rw [upd_ne nap, upd_ne nad]; exact ha, fun H1 R1 B1 => ⟨rfl, ?_⟩⟩
   have s1 : Same H H1 := fun c o e => by
     have n1 : c ≠ p := ne_of_none e hp
     have n2 : c ≠ dx := ne_of_none e hdx
     exact B1 c o (by rw [upd_ne n1, upd_ne n2]; exact e) n1
   obtain ⟨⟨dx1, hp1⟩, ha1⟩ := id R1
   refine ⟨_, rfl, p, dx1, _, rfl, hp1, rfl, p, a, b, 0, 0, 0, false, rfl, ⟨R1, Nat.le_refl _, Nat.le_refl _, Nat.zero_le _, hb, ht.same s1⟩, ?_⟩
   rw [List.drop_zero]
   cases ei : item 16 b with
   | none =>
     rw [valueOf_none hb ei] at k
     exact fun H2 B2 t2 => k H2 ((BatA.of s1).ofB hp B2) t2
   | some z =>
     obtain ⟨g, t⟩ := z
     intro q H2 L nc sb hq B2 t2 R2 hn hs e2 hl he
     obtain ⟨⟨dx2, hp2⟩, ha2⟩ := id R2
     have B : BatA H H2 := (BatA.of s1).ofB hp B2
     have hqH : H q = none := s1.free hq
     obtain ⟨m1, _, _⟩ := item_sm ei
     refine ⟨_, rfl, p, _, dx2, _, _, rfl, hp2, T.clR, T.nR2, rd2, _, rfl, a, _, rfl, .inl (SqL.of ha2), rfl, _, rfl, ?_⟩
     rw [vb_length]
     refine iteB (fun h1 => ?_) (fun h1 => ?_)
     · cases t with
       | nil =>
         exfalso
         rw [show b.length - ([] : Bytes).length = b.length from rfl] at h1
         simp at h1
       | cons c r =>
         rw [valueOf_more hb ei] at k
         exact k H2 B t2
     · cases t with
       | cons c r =>
         exfalso
         rw [List.length_cons] at h1 m1
         simp at h1
         omega
       | nil =>
         rw [valueOf_some hb ei] at k
         refine ⟨_, rfl, p, _, dx2, _, _, rfl, hp2, T.clR, T.nR5, rd5, _, rfl, ?_⟩
         rw [Bool.false_or] at he ⊢
         cases htw : g.twice with
         | true =>
           rw [htw, if_pos rfl] at k
           exact iteT (k H2 B t2)
         | false =>
           rw [htw, if_neg (by decide)] at k
           rw [he htw] at e2
           exact iteF ⟨_, rfl, k q H2 hqH B t2 e2⟩
noncomputable def spIOF (T : Tx P w K mg) : Sp := fun vs H Q _ => ∃ (a : Addr) (b : Bytes), vs = [.ref a] ∧ H a = some (.lst (vb b)) ∧ b.length ≤ 400 ∧ TabOk T H ∧ ∀ H', BatA H H' → TabOk T H' → Q (.bl (isForm b)) H'
theorem isForm_eq {b : Bytes} : isForm b = match OfCalls.valueOf b with | .error _ => false | .ok c => decide (c = b) := by
 unfold isForm OfCalls.valueOf
 cases readIn b with
 | none => rfl
 | some x =>
   dsimp only
   cases x.twice with
   | true => rfl
   | false =>
     rw [if_neg (by decide)]
     show (true && x.out == b) = decide (x.out = b)
     rw [Bool.true_and]
     by_cases h : x.out = b
     · rw [h]; simp
     · simp [h]
theorem valueOf_err {b : Bytes} {z : Int} (h : OfCalls.valueOf b = .error z) : z = -1 ∨ z = -2 := by
 unfold OfCalls.valueOf at h
 split at h
 · cases h; exact .inl rfl
 · split at h
   · cases h; exact .inr rfl
   · cases h
theorem sc65 : FnScope ["data"] ["data"] (defScope (top 65)) := ⟨rfl, rfl, rfl, by decide +kernel, rfl, by decide +kernel, by decide +kernel⟩
theorem ok_IOF (T : Tx P w K mg) (Z : Xs T) {f : Addr} {fd : FuncData} (F : Fun K "is_one_form" "is_one_form" (top 65) f fd) (DO : Dfn P w K mg base 41 "one_form" ["data"] (spOF T)) :
   FnOk P w K mg base (CXE P w) 42 f fd ["data"] (spIOF T) := by
 refine F.okE sc65 (fun vs H Q E h => ?_) (fun cdv A outer s H vs Q E hr h => ?_)
 · obtain ⟨a, b, rfl, _⟩ := h
   rfl
 · obtain ⟨a, b, rfl, ha, hb, ht, k⟩ := h
   refine ⟨_, pss_one (ps_try fun pins D => pss_one (ps_ret (pe_cmpR (op_eqB hr.units) (pe_d DO pass_try hr (pa_cons (pv 0) pa_nil)) (pv 0) (nomark _)))), ?_⟩
   refine ⟨_, rfl, a, b, rfl, ha, hb, ht, ?_⟩
   rw [isForm_eq] at k
   cases ev : OfCalls.valueOf b with
   | error z =>
     rw [ev] at k
     dsimp only at k
     intro H' B' t'
     refine ⟨_, rfl, ?_⟩
     rcases valueOf_err ev with rfl | rfl
     · rw [if_pos rfl]
       exact .here rfl T.oF.bound (Z.same _ (by simp)) (by decide) (fun e pins => pss_one (ps_ret pe_bl)) fun σ => k H' B' t'
     · rw [if_neg (by decide)]
       exact .next rfl T.oF.bound (Z.other _ (by simp) _ (by simp) (ne_xT Z)) (by decide) (.here rfl T.oT.bound (Z.same _ (by simp)) (by decide) (fun e pins => pss_one (ps_ret pe_bl)) fun σ => k H' B' t')
   | ok c =>
     rw [ev] at k
     intro q H' hq B' t' e'
     refine ⟨_, rfl, q, a, c, b, rfl, rfl, e', B'.lst ha, k H' B' t'⟩
end
end My
end
section
namespace Pu
open Of
theorem headIn_hd {i n : Nat} {tl rest : Bytes} (hi : i < 28) (k1 : i < 24 → tl = [] ∧ n = i) (k2 : 24 ≤ i → tl.length = 2 ^ (i - 24) ∧ num tl = n) : headIn i (tl ++ rest) = some (n, rest) := by
 unfold headIn
 by_cases h : i < 24
 · obtain ⟨rfl, rfl⟩ := k1 h
   rw [if_pos h]
   rfl
 · obtain ⟨e1, e2⟩ := k2 (by omega)
   rw [if_neg h, if_neg (by omega)]
   dsimp only
   rw [← e1, if_neg (by rw [List.length_append]; omega), List.take_left' rfl, List.drop_left' rfl, e2]
theorem Good.headOf {c : Bytes} {y : Node} {m i : Nat} (h : Good c y m i) : headOf c y.at_ = some (m, i, some y.arg, y.at_ + y.head) ∧ m < 8 ∧ i < 28 ∧ 1 ≤ y.head ∧ y.at_ + y.head ≤ c.length ∧ (m = 2 ∨ m = 3 → y.at_ + y.head + y.arg ≤ c.length) := by
 obtain ⟨hh, rest, e, ⟨m8, i28, tl, rfl, k1, k2⟩, e2, e3⟩ := h.hd
 obtain ⟨d1, d2⟩ := byte_div m8 (show i < 32 by omega)
 have hl := congrArg List.length e
 rw [List.length_drop, List.length_append, List.length_cons] at hl
 rw [List.length_cons] at e2
 have hn : y.at_ + y.head + rest.length = c.length := by omega
 refine ⟨?_, m8, i28, by omega, by omega, fun z => by have := e3 z; omega⟩
 unfold Pu.headOf
 rw [e]
 show (if (byte m i).toNat % 32 = 31 ∧ 2 ≤ (byte m i).toNat / 32 ∧ (byte m i).toNat / 32 ≤ 5 then _ else match headIn ((byte m i).toNat % 32) (tl ++ rest) with | none => none | some (n, t) => some ((byte m i).toNat / 32, (byte m i).toNat % 32, some n, c.length - t.length)) = _
 rw [d1, d2, if_neg (by omega), headIn_hd i28 k1 k2]
 dsimp only
 rw [show c.length - rest.length = y.at_ + y.head by omega]
theorem many_ge {c : Bytes} (W : Whole c) {i : Nat} {x : Node} (h : (nodes c)[i]? = some x) : ∀ j, j ≤ x.below → j ≤ many j ((nodes c).drop (i + 1))
 | 0, _ => Nat.zero_le _
 | j + 1, hj => by
   have ih := many_ge W h j (by omega)
   have l := member_lt W h (show j < x.below by omega)
   have := member_next (l := nodes c) i j
   have := after_gt l
   omega
theorem below_le {c : Bytes} (W : Whole c) {i : Nat} {x : Node} (h : (nodes c)[i]? = some x) : x.below ≤ (nodes c).length := by
 have := many_ge W h x.below (Nat.le_refl _)
 have := many_le ((nodes c).drop (i + 1)) x.below
 rw [List.length_drop] at this
 omega
theorem kindN_str {m i : Nat} (hm : m < 8) : (kindN m i = 2 ∨ kindN m i = 3) ↔ (m = 2 ∨ m = 3) := by
 unfold kindN
 by_cases h : m < 7
 · rw [if_pos h]
 · rw [if_neg h]
   constructor
   · intro z
     split at z
     · omega
     · split at z
       · omega
       · split at z <;> omega
   · omega
end Pu
namespace My
open PySem PySem.Spec PyProof.Rows L2 Of Pu
noncomputable def ndF (x : Of.Node) (af : V) : List (Str × V) := [("kind", .int x.kind), ("number", .int x.arg), ("begins_at", .int x.at_), ("content_at", .int (x.at_ + x.head : Nat)), ("after", af)]
theorem nd1 {x : Of.Node} {af : V} : (ndF x af).lookup ("kind" : Str) = some (.int x.kind) := rfl
theorem nd2 {x : Of.Node} {af : V} : (ndF x af).lookup ("number" : Str) = some (.int x.arg) := rfl
theorem nd3 {x : Of.Node} {af : V} : (ndF x af).lookup ("begins_at" : Str) = some (.int x.at_) := rfl
theorem nd4 {x : Of.Node} {af : V} : (ndF x af).lookup ("content_at" : Str) = some (.int (x.at_ + x.head : Nat)) := rfl
theorem nd5 {x : Of.Node} {af : V} : (ndF x af).lookup ("after" : Str) = some af := rfl
theorem nd_af {x : Of.Node} {af y : V} : putF "after" y (ndF x af) = ndF x y := rfl
noncomputable def NdAt (C : Addr) (H : Hp) (p : Addr) (x : Of.Node) (af : V) : Prop := ∃ dx, H p = some (.ins C dx (ndF x af))
section
variable {P : Program} {w : World} {K : PySem.W.Frag} {mg : Str → Option Value} {base : Heap}
noncomputable def spIS : Sp := fun vs H Q _ => ∃ k : Nat, vs = [.int k] ∧ Q (.bl (decide (2 ≤ k ∧ k ≤ 3))) H
theorem sc29 : FnScope ["kind"] ["kind"] (defScope (top 29)) := ⟨rfl, rfl, rfl, by decide +kernel, rfl, by decide +kernel, by decide +kernel⟩
theorem ok_IS (T : Tx P w K mg) {f : Addr} {fd : FuncData} (F : Fun K "is_string_kind" "is_string_kind" (top 29) f fd) : FnOk P w K mg base (CXE P w) 1 f fd ["kind"] spIS := by
 refine F.okE sc29 (fun vs H Q E h => ?_) (fun cdv A outer s H vs Q E hr h => ?_)
 · obtain ⟨k, rfl, _⟩ := h
   rfl
 · obtain ⟨k, rfl, q⟩ := h
   refine ⟨_, pss_one (ps_ret (pe_chain op_le op_le (pe_k T.kBS) (pv 0) (pe_k T.kTXT))), ?_⟩
   refine ⟨_, rfl, _, _, rfl, rfl, _, rfl, iteB (fun h1 => ?_) (fun h1 => ?_)⟩
   · have h1' := of_decide_eq_true h1
     refine ⟨_, _, rfl, rfl, ?_⟩
     have : decide ((k : Int) ≤ 3) = decide (2 ≤ k ∧ k ≤ 3) := by rw [decide_eq_decide]; omega
     rw [← this] at q
     exact q
   · have h1' := of_decide_eq_false h1
     have : decide (2 ≤ k ∧ k ≤ 3) = false := by rw [decide_eq_false_iff_not]; omega
     rw [this] at q
     exact q
noncomputable def spKO (T : Tx P w K mg) : Sp := fun vs H Q _ => ∃ (p : Addr) (m i n b : Nat), vs = [.ref p] ∧ HdAt T.CH H p m i (some n) b ∧ m < 8 ∧ i < 28 ∧ Q (.int (kindN m i)) H
theorem sc30 : FnScope ["head"] ["head"] (defScope (top 30)) := ⟨rfl, rfl, rfl, by decide +kernel, rfl, by decide +kernel, by decide +kernel⟩
theorem ok_KO (T : Tx P w K mg) {f : Addr} {fd : FuncData} (F : Fun K "kind_of" "kind_of" (top 30) f fd) : FnOk P w K mg base (CXE P w) 1 f fd ["head"] (spKO T) := by
 refine F.okE sc30 (fun vs H Q E h => ?_) (fun cdv A outer s H vs Q E hr h => ?_)
 · obtain ⟨p, m, i, n, b, rfl, _⟩ := h
   rfl
 · obtain ⟨p, m, i, n, b, rfl, ⟨dh, hh⟩, hm, hi, q⟩ := h
   refine ⟨_, pss_cons (ps_if (pw_and (pt_cmpR op_eq (pe_fld (pv 0) rfl) (pe_k T.kSIM) (nomark _)) (pw_and1 (pt_cmpR op_gt (pe_fld (pv 0) rfl) (pe_k T.kSW) (nomark _)))).pt (pss_one (ps_ret (pe_op op_sub (pe_op op_sub (pe_op op_add (pe_k T.kFFK) (pe_fld (pv 0) rfl)) (pe_k T.kSW)) pe_int))) pss_nil)
     (pss_one (ps_ret (pe_fld (pv 0) rfl))), ?_⟩
   have rest : kindN m i = m → tRet (tFld K (tVar 0) "major") { nx := fun _ H' => Q .non H', rt := Q } [some (.ref p)] H := fun e => ⟨_, rfl, p, _, dh, _, _, rfl, hh, T.clH, T.nH1, hd1, by rw [e] at q; exact q⟩
   refine ⟨_, rfl, p, _, dh, _, _, rfl, hh, T.clH, T.nH1, hd1, rfl, _, rfl, ?_⟩
   refine iteB (fun h1 => ?_) (fun h1 => ?_)
   · have h1' : m = 7 := by have z := of_decide_eq_true h1; injection z with z; omega
     subst h1'
     refine ⟨_, rfl, p, _, dh, _, _, rfl, hh, T.clH, T.nH2, hd2, _, _, rfl, rfl, _, rfl, iteB (fun h2 => ?_) (fun h2 => ?_)⟩
     · have h2' := of_decide_eq_true h2
       refine ⟨_, rfl, p, _, dh, _, _, rfl, hh, T.clH, T.nH2, hd2, _, _, rfl, rfl, _, _, rfl, rfl, _, _, rfl, rfl, ?_⟩
       have e : (kindN 7 i : Int) = 8 + (i : Int) - 24 - 1 := by
         unfold kindN
         rw [if_neg (by omega)]
         obtain rfl | rfl | rfl : i = 25 ∨ i = 26 ∨ i = 27 := by omega
         all_goals rfl
       rw [e] at q
       exact q
     · have h2' := of_decide_eq_false h2
       refine rest ?_
       unfold kindN
       rw [if_neg (by omega), if_neg (by omega), if_neg (by omega), if_neg (by omega)]
   · have h1' : ¬ m = 7 := by intro z; subst z; simp at h1
     refine rest ?_
     unfold kindN
     rw [if_pos (by omega)]
noncomputable def spNode (T : Tx P w K mg) : Sp := fun vs H Q _ => ∃ (p dx h : Addr) (x : Of.Node) (m i : Nat), vs = [.ref p, .ref h, .int x.at_] ∧ H p = some (.ins T.CN dx []) ∧ HdAt T.CH H h m i (some x.arg) (x.at_ + x.head) ∧ x.kind = kindN m i ∧ m < 8 ∧ i < 28 ∧ ∀ H' : Hp, NdAt T.CN H' p x .non → But p H H' → Q .non H'
theorem sc28 : FnScope ["self", "head", "begins_at"] ["self", "head", "begins_at"] (defScope (inClass (top 28) 0)) := ⟨rfl, rfl, rfl, by decide +kernel, rfl, by decide +kernel, by decide +kernel⟩
theorem ok_Node (T : Tx P w K mg) {f : Addr} {fd : FuncData} (F : Fun K "__init__" "Node.__init__" (inClass (top 28) 0) f fd) (DK : Dfn P w K mg base 1 "kind_of" ["head"] (spKO T)) : FnOk P w K mg base (CXE P w) 2 f fd ["self", "head", "begins_at"] (spNode T) := by
 refine F.okE sc28 (fun vs H Q E h => ?_) (fun cdv A outer s H vs Q E hr h => ?_)
 · obtain ⟨p, dx, h, x, m, i, rfl, _⟩ := h
   rfl
 · obtain ⟨p, dx, h, x, m, i, rfl, hp, hd, hk, hm, hi, k⟩ := h
   obtain ⟨dh, hh⟩ := id hd
   have nhp : h ≠ p := ne_of hh hp (by intro z; injection z with _ _ z; simp [hdF] at z)
   refine ⟨_, pss_cons (ps_fld (pv 0) (pe_d DK pass_fly hr (pa_cons (pv 1) pa_nil)) rfl) (pss_cons (ps_fld (pv 0) (pe_fld (pv 1) rfl) rfl) (pss_cons (ps_fld (pv 0) (pv 2) rfl) (pss_cons (ps_fld (pv 0) (pe_fld (pv 1) rfl) rfl) (pss_one (ps_fld (pv 0) pe_non rfl))))), ?_⟩
   refine ⟨_, rfl, h, m, i, x.arg, _, rfl, hd, hm, hi, _, rfl, p, T.CN, dx, [], rfl, hp, T.clN, T.nN1, (by show 0 < 1000; decide), ?_⟩
   rw [← hk]
   refine ⟨_, rfl, h, _, dh, _, _, rfl, by rw [upd_ne nhp]; exact hh, T.clH, T.nH3, hd3, _, rfl, p, T.CN, dx, _, rfl, upd_same, T.clN, T.nN2, (by show 1 < 1000; decide), ?_⟩
   refine ⟨_, rfl, _, rfl, p, T.CN, dx, _, rfl, upd_same, T.clN, T.nN3, (by show 2 < 1000; decide), ?_⟩
   refine ⟨_, rfl, h, _, dh, _, _, rfl, by rw [upd_ne nhp, upd_ne nhp, upd_ne nhp]; exact hh, T.clH, T.nH4, hd4, _, rfl, p, T.CN, dx, _, rfl, upd_same, T.clN, T.nN4, (by show 3 < 1000; decide), ?_⟩
   refine ⟨_, rfl, p, T.CN, dx, _, rfl, upd_same, T.clN, T.nN5, (by show 4 < 1000; decide), ?_⟩
   refine k _ ⟨dx, upd_same⟩ fun b o e hb => ?_
   rw [upd_ne hb, upd_ne hb, upd_ne hb, upd_ne hb, upd_ne hb]
   exact e
noncomputable def spMC (T : Tx P w K mg) : Sp := fun vs H Q _ => ∃ (p : Addr) (x : Of.Node) (af : V), vs = [.ref p] ∧ NdAt T.CN H p x af ∧ Q (.int x.below) H
theorem sc31 : FnScope ["node"] ["node"] (defScope (top 31)) := ⟨rfl, rfl, rfl, by decide +kernel, rfl, by decide +kernel, by decide +kernel⟩
theorem ok_MC (T : Tx P w K mg) {f : Addr} {fd : FuncData} (F : Fun K "member_count" "member_count" (top 31) f fd) : FnOk P w K mg base (CXE P w) 1 f fd ["node"] (spMC T) := by
 refine F.okE sc31 (fun vs H Q E h => ?_) (fun cdv A outer s H vs Q E hr h => ?_)
 · obtain ⟨p, x, af, rfl, _⟩ := h
   rfl
 · obtain ⟨p, x, af, rfl, ⟨dx, hp⟩, q⟩ := h
   refine ⟨_, pss_cons (ps_if (pt_cmpR op_eq (pe_fld (pv 0) rfl) (pe_k T.kARR) (nomark _)) (pss_one (ps_ret (pe_fld (pv 0) rfl))) pss_nil)
     (pss_cons (ps_if (pt_cmpR op_eq (pe_fld (pv 0) rfl) (pe_k T.kMAP) (nomark _)) (pss_one (ps_ret (pe_op op_mul pe_int (pe_fld (pv 0) rfl)))) pss_nil)
     (pss_cons (ps_if (pt_cmpR op_eq (pe_fld (pv 0) rfl) (pe_k T.kTAG) (nomark _)) (pss_one (ps_ret pe_int)) pss_nil)
     (pss_one (ps_ret pe_int)))), ?_⟩
   have kd : ∀ n : Nat, decide (V.int (x.kind : Int) = V.int n) = true → x.kind = n := fun n z => by have z := of_decide_eq_true z; injection z with z; omega
   have kn : ∀ n : Nat, decide (V.int (x.kind : Int) = V.int n) = false → x.kind ≠ n := fun n z => by intro e; rw [e] at z; simp at z
   refine ⟨_, rfl, p, _, dx, _, _, rfl, hp, T.clN, T.nN1, nd1, rfl, _, rfl, iteB (fun h1 => ?_) (fun h1 => ?_)⟩
   · have e := kd 4 h1
     refine ⟨_, rfl, p, _, dx, _, _, rfl, hp, T.clN, T.nN2, nd2, ?_⟩
     unfold Of.Node.below at q
     rw [if_pos e] at q
     exact q
   have n1 := kn 4 h1
   refine ⟨_, rfl, p, _, dx, _, _, rfl, hp, T.clN, T.nN1, nd1, rfl, _, rfl, iteB (fun h2 => ?_) (fun h2 => ?_)⟩
   · have e := kd 5 h2
     refine ⟨_, rfl, p, _, dx, _, _, rfl, hp, T.clN, T.nN2, nd2, _, _, rfl, rfl, .inl (by decide), ?_⟩
     unfold Of.Node.below at q
     rw [if_neg n1, if_pos e] at q
     exact q
   have n2 := kn 5 h2
   refine ⟨_, rfl, p, _, dx, _, _, rfl, hp, T.clN, T.nN1, nd1, rfl, _, rfl, iteB (fun h3 => ?_) (fun h3 => ?_)⟩
   · have e := kd 6 h3
     unfold Of.Node.below at q
     rw [if_neg n1, if_neg n2, if_pos e] at q
     exact q
   have n3 := kn 6 h3
   unfold Of.Node.below at q
   rw [if_neg n1, if_neg n2, if_neg n3] at q
   exact q
end
end My
end
section
namespace My
open PySem PySem.Spec PyProof.Rows L2 Of Pu
noncomputable def Nds (C : Addr) (H : Hp) (rs : List Addr) (ns : List Of.Node) (af : Nat → V) : Prop := rs.length = ns.length ∧ ∀ (j : Nat) (r : Addr), rs[j]? = some r → ∃ x, ns[j]? = some x ∧ NdAt C H r x (af j)
theorem Nds.same {C : Addr} {H H' : Hp} {rs : List Addr} {ns : List Of.Node} {af : Nat → V} (h : Nds C H rs ns af) (s : Same H H') : Nds C H' rs ns af := ⟨h.1, fun j r e => by
 obtain ⟨x, hx, dx, hd⟩ := h.2 j r e
 exact ⟨x, hx, dx, s _ _ hd⟩⟩
theorem Nds.upd {C : Addr} {H : Hp} {q : Addr} {o : HO} {rs : List Addr} {ns : List Of.Node} {af : Nat → V} (h : Nds C H rs ns af) (nq : q ∉ rs) : Nds C (L2.upd H q o) rs ns af := ⟨h.1, fun j r e => by
 obtain ⟨x, hx, dx, hd⟩ := h.2 j r e
 exact ⟨x, hx, dx, by rw [upd_ne (fun z => nq (by rw [← z]; exact List.mem_of_getElem? e))]; exact hd⟩⟩
theorem Nds.nil {C : Addr} {H : Hp} {af : Nat → V} : Nds C H [] [] af := ⟨rfl, fun j r e => by simp at e⟩
theorem Nds.snoc {C : Addr} {H : Hp} {rs : List Addr} {ns : List Of.Node} {af : Nat → V} {r : Addr} {x : Of.Node} (h : Nds C H rs ns af) (e : NdAt C H r x (af ns.length)) : Nds C H (rs ++ [r]) (ns ++ [x]) af := by
 refine ⟨by simp [h.1], fun j r' hj => ?_⟩
 by_cases z : j < rs.length
 · rw [List.getElem?_append_left z] at hj
   obtain ⟨M, a, b⟩ := h.2 j r' hj
   exact ⟨M, by rw [List.getElem?_append_left (by rw [← h.1]; exact z)]; exact a, b⟩
 · rw [List.getElem?_append_right (by omega)] at hj
   have : j - rs.length = 0 := by
     cases z : j - rs.length with
     | zero => rfl
     | succ k => rw [z] at hj; simp at hj
   rw [this] at hj
   cases hj
   have ej : j = ns.length := by have := h.1; omega
   subst ej
   exact ⟨x, by simp, e⟩
theorem Nds.get {C : Addr} {H : Hp} {rs : List Addr} {ns : List Of.Node} {af : Nat → V} (h : Nds C H rs ns af) {j : Nat} {x : Of.Node} (e : ns[j]? = some x) : ∃ r, rs[j]? = some r ∧ NdAt C H r x (af j) := by
 have hj : j < rs.length := by rw [h.1]; exact (List.getElem?_eq_some_iff.mp e).1
 obtain ⟨y, hy, n⟩ := h.2 j _ (List.getElem?_eq_getElem hj)
 rw [e] at hy
 cases hy
 exact ⟨_, List.getElem?_eq_getElem hj, n⟩
theorem nodup_get {rs : List Addr} (hnd : rs.Nodup) {i j : Nat} {r : Addr} (h1 : rs[i]? = some r) (h2 : rs[j]? = some r) : i = j := by
 obtain ⟨l1, e1⟩ := List.getElem?_eq_some_iff.mp h1
 obtain ⟨l2, e2⟩ := List.getElem?_eq_some_iff.mp h2
 have h := List.pairwise_iff_getElem.mp hnd
 apply Classical.byContradiction
 intro z
 rcases Nat.lt_or_gt_of_ne z with z | z
 · exact h i j l1 l2 z (e1.trans e2.symm)
 · exact h j i l2 l1 z (e2.trans e1.symm)
theorem Nds.congr {C : Addr} {H : Hp} {rs : List Addr} {ns : List Of.Node} {af af' : Nat → V} (h : Nds C H rs ns af) (e : ∀ j, j < ns.length → af' j = af j) : Nds C H rs ns af' := ⟨h.1, fun j r hj => by
 obtain ⟨x, hx, n⟩ := h.2 j r hj
 exact ⟨x, hx, by rw [e j (List.getElem?_eq_some_iff.mp hx).1]; exact n⟩⟩
section
variable {P : Program} {w : World} {K : PySem.W.Frag} {mg : Str → Option Value} {base : Heap}
noncomputable def spFN (T : Tx P w K mg) : Sp := fun vs H Q _ => ∃ (a : Addr) (c : Bytes), vs = [.ref a] ∧ H a = some (.lst (vb c)) ∧ Whole c ∧ c.length ≤ 5000 ∧
 ∀ q H' rs, H q = none → Same H H' → H' q = some (.lst (rs.map V.ref)) → Nds T.CN H' rs (nodes c) (fun _ => .non) → rs.Nodup → (∀ r ∈ rs, H r = none) → Q (.ref q) H'
theorem sc33 : FnScope ["form", "nodes", "at", "head"] ["form"] (defScope (top 33)) := ⟨rfl, rfl, rfl, by decide +kernel, rfl, by decide +kernel, by decide +kernel⟩
theorem ok_FN (T : Tx P w K mg) {f : Addr} {fd : FuncData} (F : Fun K "found_nodes" "found_nodes" (top 33) f fd) (DH : Dfn P w K mg base 4 "head_at" ["data", "at"] (spHA T)) (MN : Mkr P w K mg base 2 T.CN "Node" ["self", "head", "begins_at"] (spNode T)) (DI : Dfn P w K mg base 1 "is_string_kind" ["kind"] spIS) :
   FnOk P w K mg base (CXE P w) 5 f fd ["form"] (spFN T) := by
 refine F.okE sc33 (fun vs H Q E h => ?_) (fun cdv A outer s H vs Q E hr h => ?_)
 · obtain ⟨a, c, rfl, _⟩ := h
   rfl
 · obtain ⟨a, c, rfl, ha, W, hc, k⟩ := h
   have hr1 := hr.mono (j := 1) (by omega)
   have hr3 := hr.mono (j := 3) (by omega)
   refine ⟨_, pss_cons (ps_set (i := 1) sc33.nd rfl (Or.inl rfl) (pe_lst pa_nil))
     (pss_cons (ps_set (i := 2) sc33.nd rfl (Or.inl rfl) pe_int)
     (pss_cons (ps_while PassesOwn.leaving (pt_cmpR op_lt (pv 2) (pe_callB call_len_seq (by rfl) T.len PySem.boot_len (pa_cons (pv 0) pa_nil)) (nomark _))
       (pss_cons (ps_set (i := 3) sc33.nd rfl (Or.inl rfl) (pe_d DH pass_fly hr (pa_cons (pv 0) (pa_cons (pv 2) pa_nil))))
       (pss_cons (ps_expr (pe_bm PySem.F.plainAttrs_list PySem.F.slot_list_append PySem.F.type_list_append mt_append (pv 1) (pa_cons (pe_mk MN pass_fly hr3 (pa_cons (pv 3) (pa_cons (pv 2) pa_nil))) pa_nil)))
       (pss_cons (ps_set (i := 2) sc33.nd rfl (Or.inl rfl) (pe_fld (pv 3) rfl))
       (pss_one (ps_if (pt_val (pe_d DI pass_fly hr1 (pa_cons (pe_fld (pv 3) rfl) pa_nil))) (pss_one (ps_aug (i := 2) sc33.nd rfl (Or.inl rfl) (pe_fld (pv 3) rfl) ip_add)) pss_nil))))))
     (pss_one (ps_ret (pv 1))))), ?_⟩
   refine ⟨Nat.zero_le _, fun q hq => ?_⟩
   have naq : a ≠ q := ne_of_none ha hq
   refine ⟨fun ms σ H' => ∃ (at_ k : Nat) (rs : List Addr) (N : List Of.Node) (hv : Option V), σ = [some (.ref a), some (.ref q), some (.int at_), hv] ∧ Same H H' ∧ H' q = some (.lst (rs.map V.ref)) ∧ Nds T.CN H' rs N (fun _ => .non) ∧ rs.Nodup ∧ (∀ r ∈ rs, H r = none ∧ r ≠ q) ∧ nodes c = N ++ nodesFrom c k at_ ∧ c.length + 1 ≤ k + at_ ∧ ms = c.length - at_ ∧ N.length ≤ at_,
     ⟨_, 0, c.length + 1, [], [], none, rfl, Same.upd hq, upd_same, Nds.nil, List.nodup_nil, (fun r z => by simp at z), rfl, Nat.le_refl _, rfl, Nat.zero_le _⟩, ?_⟩
   rintro ms σ H' ⟨at_, fu, rs, N, hv, rfl, sm, hqq, hN, hnd, hfr, hns, hfu, rfl, hla⟩
   refine ⟨_, rfl, _, rfl, a, _, rfl, .inl (SqL.of (sm _ _ ha)), _, _, rfl, rfl, _, rfl, ?_⟩
   rw [vb_length]
   refine iteB (fun h1 => ?_) (fun h1 => ?_)
   · have h1' : at_ < c.length := by have := of_decide_eq_true h1; omega
     obtain ⟨fu', rfl⟩ : ∃ f', fu = f' + 1 := ⟨fu - 1, by omega⟩
     have hst : nodesFrom c (fu' + 1) at_ = nodeAt c at_ :: nodesFrom c fu' (at_ + (nodeAt c at_).own) := by
       show (if at_ < c.length then _ else _) = _
       rw [if_pos h1']
     rw [hst] at hns
     obtain ⟨m, i, G⟩ := W.good (nodeAt c at_) (by rw [hns]; simp)
     obtain ⟨g1, g2, g3, g4, g5, g6⟩ := G.headOf
     have hat : (nodeAt c at_).at_ = at_ := rfl
     generalize hy : nodeAt c at_ = y at *
     rw [hat] at g1 g5 g6
     refine ⟨_, fun σ' H'' z => z, ?_⟩
     refine ⟨_, rfl, _, rfl, a, at_, c, rfl, sm _ _ ha, ?_⟩
     rw [g1]
     intro h H1 hh s1 hd
     obtain ⟨dh, hh1⟩ := id hd
     have hqq1 := s1 _ _ hqq
     refine ⟨_, rfl, .inl ⟨rfl, _, SqL.of hqq1⟩, _, rfl, _, rfl, fun p dx hp hdx ndx => ?_⟩
     have nhp : h ≠ p := ne_of_none hh1 hp
     have nhd : h ≠ dx := ne_of_none hh1 hdx
     refine ⟨p, dx, h, y, m, i, ?_, upd_same, ⟨dh, by rw [upd_ne nhp, upd_ne nhd, hat]; exact hh1⟩, G.kind, g2, g3, fun H2 n2 B2 => ⟨rfl, ?_⟩⟩
     · rw [hat]; rfl
     have s2 : Same H1 H2 := fun b o e => by
       have n1 : b ≠ p := ne_of_none e hp
       have n2 : b ≠ dx := ne_of_none e hdx
       exact B2 b o (by rw [upd_ne n1, upd_ne n2]; exact e) n1
     have hqq2 := s2 _ _ hqq1
     have npq : p ≠ q := (ne_of_none hqq1 hp).symm
     refine ⟨q, _, _, rfl, rfl, hqq2, ?_, ?_⟩
     · rw [List.length_map, hN.1, sizeLine_eq]; omega
     have nq : q ∉ rs := fun z => (hfr q z).2 rfl
     have hpr : p ∉ rs := fun z => by
       obtain ⟨j, hj, e⟩ := List.mem_iff_getElem.mp z
       obtain ⟨x, _, dx', hx'⟩ := hN.2 j p (by rw [List.getElem?_eq_getElem hj, e])
       have := s1 _ _ hx'
       rw [hp] at this
       cases this
     have pH : H p = none := sm.free (s1.free hp)
     have hh3 : (upd H2 q (.lst (rs.map V.ref ++ [.ref p]))) h = some (.ins T.CH dh (hdF m i (some y.arg) (at_ + y.head))) := by
       rw [upd_ne (lst_ne_ins hqq1 hh1).symm]
       exact s2 _ _ hh1
     refine ⟨_, rfl, h, _, dh, _, _, rfl, hh3, T.clH, T.nH4, hd4, ?_⟩
     refine ⟨_, rfl, h, _, dh, _, _, rfl, hh3, T.clH, T.nH1, hd1, m, rfl, ?_⟩
     have fin : ∀ at2 : Nat, at2 = at_ + y.own → ∃ m', m' < c.length - at_ ∧ ∃ (at_ k : Nat) (rs' : List Addr) (N : List Of.Node) (hv : Option V), [some (V.ref a), some (.ref q), some (.int at2), some (.ref h)] = [some (.ref a), some (.ref q), some (.int at_), hv] ∧ Same H (upd H2 q (.lst (rs.map V.ref ++ [.ref p]))) ∧ (upd H2 q (.lst (rs.map V.ref ++ [.ref p]))) q = some (.lst (rs'.map V.ref)) ∧ Nds T.CN (upd H2 q (.lst (rs.map V.ref ++ [.ref p]))) rs' N (fun _ => .non) ∧ rs'.Nodup ∧ (∀ r ∈ rs', H r = none ∧ r ≠ q) ∧ nodes c = N ++ nodesFrom c k at_ ∧ c.length + 1 ≤ k + at_ ∧ m' = c.length - at_ ∧ N.length ≤ at_ := by
       intro at2 e2
       have hown : 1 ≤ y.own := by unfold Of.Node.own; omega
       refine ⟨c.length - at2, by omega, at2, fu', rs ++ [p], N ++ [y], some (.ref h), rfl, ?_, ?_, ?_, ?_, ?_, ?_, by omega, rfl, ?_⟩
       · exact fun b o e => by rw [upd_ne (ne_of_none e hq)]; exact s2 _ _ (s1 _ _ (sm b o e))
       · rw [upd_same, List.map_append]; rfl
       · refine (((hN.same s1).same s2).upd nq).snoc ?_
         obtain ⟨dx', e'⟩ := n2
         exact ⟨dx', by rw [upd_ne npq]; exact e'⟩
       · rw [List.nodup_append]
         exact ⟨hnd, by simp, fun b hb b' hb' => by rw [List.mem_singleton.mp hb']; exact fun z => hpr (z ▸ hb)⟩
       · intro r hr'
         rcases List.mem_append.mp hr' with z | z
         · exact hfr r z
         · rw [List.mem_singleton.mp z]; exact ⟨pH, npq⟩
       · rw [hns, e2]; simp
       · rw [List.length_append]; simp; omega
     refine ⟨_, rfl, iteB (fun h2 => ?_) (fun h2 => ?_)⟩
     · have h2' := of_decide_eq_true h2
       have hk2 : y.kind = 2 ∨ y.kind = 3 := by rw [G.kind]; exact (kindN_str g2).mpr (by omega)
       refine ⟨_, rfl, _, rfl, h, _, dh, _, _, rfl, hh3, T.clH, T.nH3, hd3, ?_⟩
       have e9 : at_ + y.head + y.arg = at_ + y.own := by unfold Of.Node.own; rw [if_pos hk2]; omega
       exact ⟨_, _, rfl, rfl, fin (at_ + y.head + y.arg) e9⟩
     · have h2' := of_decide_eq_false h2
       have hk2 : ¬ (y.kind = 2 ∨ y.kind = 3) := by rw [G.kind]; intro z; have := (kindN_str g2).mp z; omega
       have e9 : at_ + y.head = at_ + y.own := by unfold Of.Node.own; rw [if_neg hk2]; omega
       exact fin (at_ + y.head) e9
   · have h1' : c.length ≤ at_ := by have := of_decide_eq_false h1; omega
     rw [nodesFrom_end _ _ _ h1', List.append_nil] at hns
     refine ⟨_, rfl, k q H' rs hq sm hqq (by rw [hns]; exact hN) hnd fun r z => (hfr r z).1⟩
noncomputable def spMA (T : Tx P w K mg) : Sp := fun vs H Q _ => ∃ (a : Addr) (c : Bytes) (rs : List Addr), vs = [.ref a] ∧ Whole c ∧ c.length ≤ 5000 ∧ H a = some (.lst (rs.map V.ref)) ∧ Nds T.CN H rs (nodes c) (fun _ => .non) ∧ rs.Nodup ∧
 ∀ H', (∀ b o, H b = some o → b ∉ rs → H' b = some o) → Nds T.CN H' rs (nodes c) (fun j => .int (after (nodes c) j)) → Q .non H'
theorem sc34 : FnScope ["nodes", "i", "node", "after", "member"] ["nodes"] (defScope (top 34)) := ⟨rfl, rfl, rfl, by decide +kernel, rfl, by decide +kernel, by decide +kernel⟩
theorem ok_MA (T : Tx P w K mg) {f : Addr} {fd : FuncData} (F : Fun K "mark_afters" "mark_afters" (top 34) f fd) (DM : Dfn P w K mg base 1 "member_count" ["node"] (spMC T)) :
   FnOk P w K mg base (CXE P w) 2 f fd ["nodes"] (spMA T) := by
 refine F.okE sc34 (fun vs H Q E h => ?_) (fun cdv A outer s H vs Q E hr h => ?_)
 · obtain ⟨a, c, rs, rfl, _⟩ := h
   rfl
 · obtain ⟨a, c, rs, rfl, W, hc, ha, hN, hnd, k⟩ := h
   refine ⟨_, pss_one (ps_for PassesOwn.leaving rfl (pi_range3 rfl T.range (pa_cons (pe_op op_sub (pe_callB call_len_seq (by rfl) T.len PySem.boot_len (pa_cons (pv 0) pa_nil)) pe_int) (pa_cons (pe_un un_neg pe_int) (pa_cons (pe_un un_neg pe_int) pa_nil)))) (pg_name (i := 1) sc34.nd rfl (Or.inl rfl))
     (pss_cons (ps_set (i := 2) sc34.nd rfl (Or.inl rfl) (pe_ix ix_list (pv 0) (pv 1) (fun _ _ => rfl)))
     (pss_cons (ps_set (i := 3) sc34.nd rfl (Or.inl rfl) (pe_op op_add (pv 1) pe_int))
     (pss_cons (ps_for PassesOwn.leaving rfl (pi_range1 rfl T.range (pa_cons (pe_d DM pass_fly hr (pa_cons (pv 2) pa_nil)) pa_nil)) (pg_name (i := 4) sc34.nd rfl (Or.inl rfl))
       (pss_one (ps_set (i := 3) sc34.nd rfl (Or.inl rfl) (pe_fld (pe_ix ix_list (pv 0) (pv 3) (fun _ _ => rfl)) rfl))))
     (pss_one (ps_fld (pv 2) (pv 3) rfl)))))), ?_⟩
   have hln := hN.1
   have hnle : (nodes c).length ≤ 5000 := Nat.le_trans W.few hc
   have anr : a ∉ rs := fun z => by
     obtain ⟨j, hj, e⟩ := List.mem_iff_getElem.mp z
     obtain ⟨x, _, dx', hx'⟩ := hN.2 j a (by rw [List.getElem?_eq_getElem hj, e])
     rw [ha] at hx'
     cases hx'
   refine ⟨_, rfl, a, _, rfl, .inl (SqL.of ha), _, _, rfl, rfl, _, rfl, _, rfl, ((rs.length : Int) - 1), -1, -1, rs.length, (by rw [List.length_map]), ?_, ?_⟩
   · have := RgC.neg (i := (rs.length : Int) - 1) (j := -1) (by omega) (by omega) (by omega) (by omega)
     rw [show ((rs.length : Int) - 1 - (-1)).toNat = rs.length by omega] at this
     exact this
   refine for_rangeC (lo := (rs.length : Int) - 1) (c := -1) (n := rs.length) (fun t σ H' => ∃ vi vn va vm : Option V, σ = [some (.ref a), vi, vn, va, vm] ∧ (∀ b o, H b = some o → b ∉ rs → H' b = some o) ∧ Nds T.CN H' rs (nodes c) (fun j => if rs.length - t ≤ j then .int (after (nodes c) j) else .non))
     ⟨none, none, none, none, rfl, fun b o e _ => e, hN.congr fun j hj => by rw [if_neg (by omega)]⟩ ?_ ?_
   · rintro t σ H' ht ⟨vi, vn, va, vm, rfl, hk, hNd⟩
     obtain ⟨i, hi⟩ : ∃ i, i = rs.length - 1 - t := ⟨_, rfl⟩
     have hil : i < rs.length := by omega
     have ei : ((rs.length : Int) - 1 + (t : Nat) * (-1)) = (i : Int) := by omega
     rw [ei]
     obtain ⟨r, hr'⟩ : ∃ r, rs[i]? = some r := ⟨_, List.getElem?_eq_getElem hil⟩
     obtain ⟨x, hx, dx, hdx⟩ := hNd.2 i r hr'
     dsimp only at hdx
     rw [if_neg (by omega)] at hdx
     have ha' := hk _ _ ha anr
     have gr : ∀ (j : Nat) (r : Addr), rs[j]? = some r → atI (rs.map V.ref) (j : Int) = some (.ref r) := fun j r e => atI_nat (by rw [List.getElem?_map, e]; rfl)
     have hbl := below_le W hx
     refine ⟨_, rfl, _, rfl, a, _, _, _, rfl, rfl, SqL.of ha', gr i r hr', ?_⟩
     refine ⟨_, rfl, _, _, rfl, rfl, ?_⟩
     refine ⟨_, rfl, r, x, _, rfl, ⟨dx, hdx⟩, _, rfl, by omega, by omega, ?_⟩
     refine for_range (lo := 0) (n := x.below) (fun j σ H'' => ∃ vm : Option V, σ = [some (.ref a), some (.int i), some (.ref r), some (.int ((i + 1 + many j ((nodes c).drop (i + 1)) : Nat) : Int)), vm] ∧ H'' = H') ⟨vm, by rw [many_zero]; rfl, rfl⟩ ?_ ?_
     · rintro j σ H'' hj ⟨vm, rfl, rfl⟩
       have hlt := member_lt W hx hj
       obtain ⟨rk, hrk⟩ : ∃ rk, rs[i + 1 + many j ((nodes c).drop (i + 1))]? = some rk := ⟨_, List.getElem?_eq_getElem (by rw [hln]; exact hlt)⟩
       obtain ⟨y, hy, dy, hdy⟩ := hNd.2 _ rk hrk
       dsimp only at hdy
       rw [if_pos (by omega)] at hdy
       refine ⟨_, rfl, _, rfl, a, _, _, _, rfl, rfl, SqL.of ha', gr _ rk hrk, rk, _, dy, _, _, rfl, hdy, T.clN, T.nN5, nd5, some (.int (0 + (j : Nat))), ?_, rfl⟩
       rw [member_next]
       rfl
     · rintro σ H'' ⟨vm, rfl, rfl⟩
       refine ⟨_, rfl, _, rfl, r, _, dx, _, rfl, hdx, T.clN, T.nN5, (by show 5 < 1000; omega), _, _, _, _, rfl, ?_, hln, ?_⟩
       · intro b o e hb
         rw [upd_ne (fun z => hb (by rw [z]; exact List.mem_of_getElem? hr'))]
         exact hk b o e hb
       · intro j rj hj
         obtain ⟨y, hy, dy, hdy⟩ := hNd.2 j rj hj
         refine ⟨y, hy, ?_⟩
         by_cases z : j = i
         · subst z
           rw [hr'] at hj
           cases hj
           rw [hx] at hy
           cases hy
           refine ⟨dx, ?_⟩
           dsimp only
           rw [upd_same, nd_af, if_pos (by omega), after_step hx]
         · have hne : rj ≠ r := fun e => z (by
             subst e
             exact nodup_get hnd hj hr')
           refine ⟨dy, ?_⟩
           dsimp only at hdy ⊢
           rw [upd_ne hne, hdy]
           by_cases z2 : rs.length - t ≤ j
           · rw [if_pos z2, if_pos (by omega)]
           · rw [if_neg z2, if_neg (by omega)]
   · rintro σ H' ⟨vi, vn, va, vm, rfl, hk, hNd⟩
     exact k H' hk (hNd.congr fun j hj => by rw [if_pos (by omega)])
noncomputable def NodesAt (T : Tx P w K mg) (H : Hp) (q : Addr) (c : Bytes) : Prop := ∃ rs : List Addr, H q = some (.lst (rs.map V.ref)) ∧ Nds T.CN H rs (nodes c) (fun j => .int (after (nodes c) j))
noncomputable def spNO (T : Tx P w K mg) : Sp := fun vs H Q _ => ∃ (a : Addr) (c : Bytes), vs = [.ref a] ∧ H a = some (.lst (vb c)) ∧ Whole c ∧ c.length ≤ 5000 ∧ ∀ q H', H q = none → Same H H' → NodesAt T H' q c → Q (.ref q) H'
theorem sc32 : FnScope ["form", "nodes"] ["form"] (defScope (top 32)) := ⟨rfl, rfl, rfl, by decide +kernel, rfl, by decide +kernel, by decide +kernel⟩
theorem ok_NO (T : Tx P w K mg) {f : Addr} {fd : FuncData} (F : Fun K "nodes_of" "nodes_of" (top 32) f fd) (DF : Dfn P w K mg base 5 "found_nodes" ["form"] (spFN T)) (DM : Dfn P w K mg base 2 "mark_afters" ["nodes"] (spMA T)) :
   FnOk P w K mg base (CXE P w) 6 f fd ["form"] (spNO T) := by
 refine F.okE sc32 (fun vs H Q E h => ?_) (fun cdv A outer s H vs Q E hr h => ?_)
 · obtain ⟨a, c, rfl, _⟩ := h
   rfl
 · obtain ⟨a, c, rfl, ha, W, hc, k⟩ := h
   refine ⟨_, pss_cons (ps_set (i := 1) sc32.nd rfl (Or.inl rfl) (pe_d DF pass_fly hr (pa_cons (pv 0) pa_nil))) (pss_cons (ps_expr (pe_d DM pass_fly (hr.mono (by decide)) (pa_cons (pv 1) pa_nil))) (pss_one (ps_ret (pv 1)))), ?_⟩
   refine ⟨_, rfl, a, c, rfl, ha, W, hc, fun q H1 rs hq s1 e1 n1 nd1 fr => ?_⟩
   refine ⟨_, rfl, q, c, rs, rfl, W, hc, e1, n1, nd1, fun H2 k2 n2 => ?_⟩
   have nq : q ∉ rs := fun z => by
     obtain ⟨j, hj, e⟩ := List.mem_iff_getElem.mp z
     obtain ⟨x, _, dx', hx'⟩ := n1.2 j q (by rw [List.getElem?_eq_getElem hj, e])
     rw [e1] at hx'
     cases hx'
   exact ⟨_, rfl, k q H2 hq (fun b o e => k2 b o (s1 b o e) fun z => by rw [fr b z] at e; cases e) ⟨rs, k2 _ _ e1 nq, n2⟩⟩
end
end My
end
section
namespace My
open PySem PySem.Spec PyProof.Rows L2 Of Pu
noncomputable def vi (l : List Int) : List V := l.map V.int
theorem vi_length (l : List Int) : (vi l).length = l.length := by simp [vi]
theorem vi_bi (b : Bytes) : vi (bi b) = vb b := by simp [vi, bi, vb]
theorem vi_append (a b : List Int) : vi (a ++ b) = vi a ++ vi b := by simp [vi]
theorem vi_get {l : List Int} {i : Nat} {z : Int} (h : l[i]? = some z) : (vi l)[i]? = some (.int z) := by simp [vi, h]
theorem cutV_row {l : List Int} {b : Bytes} {t : List Int} {lo : Nat} (h : l.drop lo = bi b ++ t) : cutV (vi l) (some (lo : Int)) (some ((lo + b.length : Nat) : Int)) = vb b := by
 unfold cutV
 rw [My.sIx_nat, My.sIx_nat, vi_length]
 have hl := congrArg List.length h
 rw [List.length_drop, List.length_append, bi_length] at hl
 by_cases hb : b = []
 · subst hb
   simp [vb]
 · have hb' : 0 < b.length := List.length_pos_iff.mpr hb
   rw [Nat.min_eq_left (by omega), Nat.min_eq_left (by omega)]
   unfold vi
   rw [← List.map_drop, h, List.map_append, Nat.add_sub_cancel_left, List.take_left' (by rw [List.length_map, bi_length])]
   exact vi_bi b
noncomputable def lnF (a : Addr) (at_ : Nat) : List (Str × V) := [("calls", .ref a), ("at", .int at_)]
theorem ln1 {a : Addr} {at_ : Nat} : (lnF a at_).lookup ("calls" : Str) = some (.ref a) := rfl
theorem ln2 {a : Addr} {at_ : Nat} : (lnF a at_).lookup ("at" : Str) = some (.int at_) := rfl
noncomputable def LnAt (K : PySem.W.Frag) (C : Addr) (H : Hp) (p a : Addr) (l : List Int) (at_ : Nat) : Prop := (∃ dx, H p = some (.ins C dx (lnF a at_))) ∧ SqL K H a (vi l)
theorem SqL.keep {K : PySem.W.Frag} {H H' : Hp} {a : Addr} {xs : List V} (h : SqL K H a xs) (k : ∀ o, H a = some o → (o = .lst xs ∨ ∃ u, o = .frz u (.lst xs)) → H' a = some o) : SqL K H' a xs := by
 rcases h with (h | ⟨o, h⟩) | h
 · exact .inl (.inl (k _ h (.inl rfl)))
 · exact .inl (.inr ⟨o, k _ h (.inr ⟨o, rfl⟩)⟩)
 · exact .inr h
theorem SqL.same {K : PySem.W.Frag} {H H' : Hp} {a : Addr} {xs : List V} (h : SqL K H a xs) (s : Same H H') : SqL K H' a xs := SqL.keep h fun o e _ => s _ _ e
theorem SqL.batA {K : PySem.W.Frag} {H H' : Hp} {a : Addr} {xs : List V} (h : SqL K H a xs) (s : BatA H H') : SqL K H' a xs := SqL.keep h fun o e z => by
 have := s _ _ e
 rcases z with rfl | ⟨u, rfl⟩
 · exact this
 · exact this
theorem SqL.bat {K : PySem.W.Frag} {H H' : Hp} {a p C dx : Addr} {fs : List (Str × V)} {xs : List V} (h : SqL K H a xs) (hp : H p = some (.ins C dx fs)) (s : Bat p H H') : SqL K H' a xs := SqL.keep h fun o e z => by
 have n : a ≠ p := ne_of e hp (by rcases z with rfl | ⟨u, rfl⟩ <;> intro y <;> cases y)
 have := s _ _ e n
 rcases z with rfl | ⟨u, rfl⟩
 · exact this
 · exact this
theorem SqL.but {K : PySem.W.Frag} {H H' : Hp} {a p C dx : Addr} {fs : List (Str × V)} {xs : List V} (h : SqL K H a xs) (hp : H p = some (.ins C dx fs)) (s : But p H H') : SqL K H' a xs := SqL.bat h hp (Bat.of s)
theorem LnAt.same {K : PySem.W.Frag} {C p a : Addr} {H H' : Hp} {l : List Int} {at_ : Nat} (h : LnAt K C H p a l at_) (s : Same H H') : LnAt K C H' p a l at_ := ⟨let ⟨dx, e⟩ := h.1; ⟨dx, s _ _ e⟩, SqL.same h.2 s⟩
section
variable {P : Program} {w : World} {K : PySem.W.Frag} {mg : Str → Option Value} {base : Heap}
noncomputable def spLn (T : Tx P w K mg) : Sp := fun vs H Q _ => ∃ (p dx a : Addr) (l : List Int), vs = [.ref p, .ref a] ∧ H p = some (.ins T.CL dx []) ∧ SqL K H a (vi l) ∧ ∀ H' : Hp, LnAt K T.CL H' p a l 0 → But p H H' → Q .non H'
theorem sc82_0 : FnScope ["self", "calls"] ["self", "calls"] (defScope (inClass (top 82) 0)) := ⟨rfl, rfl, rfl, by decide +kernel, rfl, by decide +kernel, by decide +kernel⟩
theorem ok_Ln (T : Tx P w K mg) {f : Addr} {fd : FuncData} (F : Fun K "__init__" "Line.__init__" (inClass (top 82) 0) f fd) : FnOk P w K mg base (CXE P w) 1 f fd ["self", "calls"] (spLn T) := by
 refine F.okE sc82_0 (fun vs H Q E h => ?_) (fun cdv A outer s H vs Q E hr h => ?_)
 · obtain ⟨p, dx, a, l, rfl, _⟩ := h
   rfl
 · obtain ⟨p, dx, a, l, rfl, hp, ha, k⟩ := h
   refine ⟨_, pss_cons (ps_fld (pv 0) (pv 1) rfl) (pss_one (ps_fld (pv 0) pe_int rfl)), ?_⟩
   refine ⟨_, rfl, _, rfl, p, T.CL, dx, [], rfl, hp, T.clL, T.nL1, (by show 0 < 1000; decide), ?_⟩
   refine ⟨_, rfl, p, T.CL, dx, _, rfl, upd_same, T.clL, T.nL2, (by show 1 < 1000; decide), ?_⟩
   have B : But p H (upd (upd H p (.ins T.CL dx (putF "calls" (.ref a) []))) p (.ins T.CL dx (putF "at" (.int 0) (putF "calls" (.ref a) [])))) := fun b o e hb => by
     rw [upd_ne hb, upd_ne hb]
     exact e
   exact k _ ⟨⟨dx, upd_same⟩, SqL.but ha hp B⟩ B
noncomputable def spHM (T : Tx P w K mg) : Sp := fun vs H Q _ => ∃ (p a : Addr) (l : List Int) (at_ : Nat), vs = [.ref p] ∧ LnAt K T.CL H p a l at_ ∧ Q (.bl (decide (at_ < l.length))) H
theorem sc82_1 : FnScope ["self"] ["self"] (defScope (inClass (top 82) 1)) := ⟨rfl, rfl, rfl, by decide +kernel, rfl, by decide +kernel, by decide +kernel⟩
theorem ok_HM (T : Tx P w K mg) {f : Addr} {fd : FuncData} (F : Fun K "has_more" "Line.has_more" (inClass (top 82) 1) f fd) : FnOk P w K mg base (CXE P w) 1 f fd ["self"] (spHM T) := by
 refine F.okE sc82_1 (fun vs H Q E h => ?_) (fun cdv A outer s H vs Q E hr h => ?_)
 · obtain ⟨p, a, l, at_, rfl, _⟩ := h
   rfl
 · obtain ⟨p, a, l, at_, rfl, ⟨⟨dx, hp⟩, ha⟩, k⟩ := h
   refine ⟨_, pss_one (ps_ret (pe_cmpR op_lt (pe_fld (pv 0) rfl) (pe_callB call_len_seq (by rfl) T.len PySem.boot_len (pa_cons (pe_fld (pv 0) rfl) pa_nil)) (nomark _))), ?_⟩
   refine ⟨_, rfl, p, _, dx, _, _, rfl, hp, T.clL, T.nL2, ln2, _, rfl, p, _, dx, _, _, rfl, hp, T.clL, T.nL1, ln1, a, _, rfl, .inl ha, _, _, rfl, rfl, ?_⟩
   rw [vi_length]
   have : decide (at_ < l.length) = decide ((at_ : Int) < (l.length : Int)) := by rw [decide_eq_decide]; omega
   rw [this] at k
   exact k
noncomputable def spTN (T : Tx P w K mg) : Sp := fun vs H Q _ => ∃ (p a : Addr) (l : List Int) (at_ : Nat) (z : Int), vs = [.ref p] ∧ LnAt K T.CL H p a l at_ ∧ l[at_]? = some z ∧ ∀ H', But p H H' → LnAt K T.CL H' p a l (at_ + 1) → Q (.int z) H'
theorem sc82_2 : FnScope ["self", "number"] ["self"] (defScope (inClass (top 82) 2)) := ⟨rfl, rfl, rfl, by decide +kernel, rfl, by decide +kernel, by decide +kernel⟩
theorem ok_TN (T : Tx P w K mg) {f : Addr} {fd : FuncData} (F : Fun K "take_number" "Line.take_number" (inClass (top 82) 2) f fd) : FnOk P w K mg base (CXE P w) 1 f fd ["self"] (spTN T) := by
 refine F.okE sc82_2 (fun vs H Q E h => ?_) (fun cdv A outer s H vs Q E hr h => ?_)
 · obtain ⟨p, a, l, at_, z, rfl, _⟩ := h
   rfl
 · obtain ⟨p, a, l, at_, z, rfl, ⟨⟨dx, hp⟩, ha⟩, hz, k⟩ := h
   refine ⟨_, pss_cons (ps_set (i := 1) sc82_2.nd rfl (Or.inl rfl) (pe_ix ix_list (pe_fld (pv 0) rfl) (pe_fld (pv 0) rfl) (fun _ _ => rfl))) (pss_cons (ps_fldaug (pv 0) pe_int in_add) (pss_one (ps_ret (pv 1)))), ?_⟩
   refine ⟨_, rfl, p, _, dx, _, _, rfl, hp, T.clL, T.nL1, ln1, _, rfl, p, _, dx, _, _, rfl, hp, T.clL, T.nL2, ln2, a, _, _, _, rfl, rfl, ha, atI_nat (vi_get hz), ?_⟩
   refine ⟨_, rfl, p, _, dx, _, _, rfl, hp, T.clL, T.nL2, ln2, _, _, rfl, rfl, dx, _, hp, (by show 2 < 1000; decide), ?_⟩
   have e : putF "at" (V.int ((at_ : Int) + 1)) (lnF a at_) = lnF a (at_ + 1) := rfl
   rw [e]
   exact ⟨_, rfl, k _ But.upd ⟨⟨dx, upd_same⟩, SqL.but ha hp But.upd⟩⟩
noncomputable def spTR (T : Tx P w K mg) : Sp := fun vs H Q _ => ∃ (p a : Addr) (l : List Int) (at_ : Nat) (b : Bytes) (t : List Int), vs = [.ref p] ∧ LnAt K T.CL H p a l at_ ∧ l.drop at_ = (b.length : Int) :: (bi b ++ t) ∧ ∀ q H', H q = none → But p H H' → LnAt K T.CL H' p a l (at_ + 1 + b.length) → H' q = some (.lst (vb b)) → Q (.ref q) H'
theorem sc82_3 : FnScope ["self", "length", "row"] ["self"] (defScope (inClass (top 82) 3)) := ⟨rfl, rfl, rfl, by decide +kernel, rfl, by decide +kernel, by decide +kernel⟩
theorem dropI {l : List Int} {a : Nat} {z : Int} {r : List Int} (h : l.drop a = z :: r) : l[a]? = some z ∧ l.drop (a + 1) = r := by
 have e : l[a]? = some z := by
   have := congrArg (fun l => l[0]?) h
   simpa using this
 refine ⟨e, ?_⟩
 have := congrArg (List.drop 1) h
 rw [List.drop_drop] at this
 simpa using this
theorem ok_TR (T : Tx P w K mg) {f : Addr} {fd : FuncData} (F : Fun K "take_row" "Line.take_row" (inClass (top 82) 3) f fd) (MN : Mth P w K mg base 1 T.CL "take_number" ["self"] (spTN T)) : FnOk P w K mg base (CXE P w) 2 f fd ["self"] (spTR T) := by
 refine F.okE sc82_3 (fun vs H Q E h => ?_) (fun cdv A outer s H vs Q E hr h => ?_)
 · obtain ⟨p, a, l, at_, b, t, rfl, _⟩ := h
   rfl
 · obtain ⟨p, a, l, at_, b, t, rfl, hL, hz, k⟩ := h
   obtain ⟨⟨dx, hp⟩, ha⟩ := id hL
   obtain ⟨z1, z2⟩ := dropI hz
   refine ⟨_, pss_cons (ps_set (i := 1) sc82_3.nd rfl (Or.inl rfl) (pe_m0 MN T.clL pass_fly hr (pv 0)))
     (pss_cons (ps_set (i := 2) sc82_3.nd rfl (Or.inl rfl) (pe_slice sl_list (pe_fld (pv 0) rfl) (po_some (pe_fld (pv 0) rfl)) (po_some (pe_op op_add (pe_fld (pv 0) rfl) (pv 1)))))
     (pss_cons (ps_fldaug (pv 0) (pv 1) in_add) (pss_one (ps_ret (pv 2))))), ?_⟩
   refine ⟨_, rfl, p, dx, _, rfl, hp, rfl, p, a, l, at_, _, rfl, hL, z1, fun H1 B1 L1 => ?_⟩
   obtain ⟨⟨dx1, hp1⟩, ha1⟩ := id L1
   refine ⟨_, rfl, p, _, dx1, _, _, rfl, hp1, T.clL, T.nL1, ln1, _, rfl, p, _, dx1, _, _, rfl, hp1, T.clL, T.nL2, ln2, _, rfl, _, rfl, p, _, dx1, _, _, rfl, hp1, T.clL, T.nL2, ln2, _, rfl, _, _, rfl, rfl, _, rfl, a, _, rfl, ha1, fun q hq => ?_⟩
   have ec : cutV (vi l) (some ((at_ + 1 : Nat) : Int)) (some (((at_ + 1 : Nat) : Int) + (b.length : Int))) = vb b := cutV_row z2
   rw [ec]
   have s1 : Same H1 (upd H1 q (.lst (vb b))) := Same.upd hq
   have nqp : q ≠ p := (ne_of_none hp1 hq).symm
   refine ⟨_, rfl, p, _, dx1, _, _, rfl, s1 _ _ hp1, T.clL, T.nL2, ln2, _, rfl, _, _, rfl, rfl, dx1, _, s1 _ _ hp1, (by show 2 < 1000; decide), ?_⟩
   have e : putF "at" (V.int (((at_ + 1 : Nat) : Int) + (b.length : Int))) (lnF a (at_ + 1)) = lnF a (at_ + 1 + b.length) := rfl
   rw [e]
   refine ⟨_, rfl, k q _ (B1.free hq nqp) ((B1.trans (But.of s1)).trans But.upd) ⟨⟨dx1, upd_same⟩, ?_⟩ ?_⟩
   · exact SqL.but (SqL.same ha1 s1) (s1 _ _ hp1) But.upd
   · rw [upd_ne nqp]; exact upd_same
end
end My
end
section
namespace My
open PySem PySem.Spec PyProof.Rows L2 Of Pu
noncomputable def rmF (fv : V) (nq : Addr) : List (Str × V) := [("form", fv), ("nodes", .ref nq)]
theorem rm1 {fv : V} {nq : Addr} : (rmF fv nq).lookup ("form" : Str) = some fv := rfl
theorem rm2 {fv : V} {nq : Addr} : (rmF fv nq).lookup ("nodes" : Str) = some (.ref nq) := rfl
section
variable {P : Program} {w : World} {K : PySem.W.Frag} {mg : Str → Option Value} {base : Heap} {av : Addr}
noncomputable def FmAt (T : Tx P w K mg) (av : Addr) (H : Hp) (fv : V) (nq : Addr) : Option Bytes → Prop
 | none => fv = .non
 | some c => ∃ a, fv = .ref a ∧ H a = some (.lst (vb c)) ∧ NodesAt T H nq c ∧ a ≠ av ∧ nq ≠ av
noncomputable def RmAt (T : Tx P w K mg) (av : Addr) (H : Hp) (p : Addr) (st : Option Bytes) : Prop := ∃ dx fv nq, H p = some (.ins T.CM dx (rmF fv nq)) ∧ FmAt T av H fv nq st
theorem nd_ne_rm {C C' p r dx dx' nq : Addr} {H : Hp} {x : Of.Node} {af fv : V} (h1 : H r = some (.ins C dx (ndF x af))) (h2 : H p = some (.ins C' dx' (rmF fv nq))) : r ≠ p :=
 ne_of h1 h2 (by intro z; injection z with _ _ z; simp [ndF, rmF] at z)
theorem NodesAt.keep {T : Tx P w K mg} {H H' : Hp} {q : Addr} {c : Bytes} (h : NodesAt T H q c) (kl : ∀ b xs, H b = some (.lst xs) → H' b = some (.lst xs)) (ki : ∀ b C dx x af, H b = some (.ins C dx (ndF x af)) → H' b = some (.ins C dx (ndF x af))) : NodesAt T H' q c := by
 obtain ⟨rs, h1, h2, h3⟩ := h
 refine ⟨rs, kl _ _ h1, h2, fun j r e => ?_⟩
 obtain ⟨x, hx, dx, hd⟩ := h3 j r e
 exact ⟨x, hx, dx, ki _ _ _ _ _ hd⟩
theorem FmAt.keep {T : Tx P w K mg} {H H' : Hp} {fv : V} {nq : Addr} {st : Option Bytes} (h : FmAt T av H fv nq st) (kl : ∀ b xs, H b = some (.lst xs) → H' b = some (.lst xs)) (ki : ∀ b C dx x af, H b = some (.ins C dx (ndF x af)) → H' b = some (.ins C dx (ndF x af))) : FmAt T av H' fv nq st := by
 cases st with
 | none => exact h
 | some c =>
   obtain ⟨a, h1, h2, h3⟩ := h
   exact ⟨a, h1, kl _ _ h2, h3.1.keep kl ki, h3.2⟩
theorem RmAt.batA {T : Tx P w K mg} {H H' : Hp} {p : Addr} {st : Option Bytes} (h : RmAt T av H p st) (s : BatA H H') : RmAt T av H' p st := by
 obtain ⟨dx, fv, nq, h1, h2⟩ := h
 exact ⟨dx, fv, nq, s.ins h1, h2.keep (fun b xs e => s.lst e) (fun b C dx x af e => s.ins e)⟩
theorem RmAt.same {T : Tx P w K mg} {H H' : Hp} {p : Addr} {st : Option Bytes} (h : RmAt T av H p st) (s : Same H H') : RmAt T av H' p st := h.batA (BatA.of s)
noncomputable def spRm (T : Tx P w K mg) (av : Addr) : Sp := fun vs H Q _ => ∃ (p dx : Addr), vs = [.ref p] ∧ H p = some (.ins T.CM dx []) ∧ ∀ H' : Hp, RmAt T av H' p none → But p H H' → Q .non H'
theorem sc83_0 : FnScope ["self"] ["self"] (defScope (inClass (top 83) 0)) := ⟨rfl, rfl, rfl, by decide +kernel, rfl, by decide +kernel, by decide +kernel⟩
theorem ok_Rm (T : Tx P w K mg) {f : Addr} {fd : FuncData} (F : Fun K "__init__" "Room.__init__" (inClass (top 83) 0) f fd) : FnOk P w K mg base (CXE P w) 1 f fd ["self"] (spRm T av) := by
 refine F.okE sc83_0 (fun vs H Q E h => ?_) (fun cdv A outer s H vs Q E hr h => ?_)
 · obtain ⟨p, dx, rfl, _⟩ := h
   rfl
 · obtain ⟨p, dx, rfl, hp, k⟩ := h
   refine ⟨_, pss_cons (ps_fld (pv 0) pe_non rfl) (pss_one (ps_fld (pv 0) (pe_lst pa_nil) rfl)), ?_⟩
   refine ⟨_, rfl, p, T.CM, dx, [], rfl, hp, T.clM, T.nM1, (by show 0 < 1000; decide), ?_⟩
   refine ⟨Nat.zero_le _, fun q hq => ?_⟩
   have nqp : q ≠ p := fun z => by rw [z, upd_same] at hq; cases hq
   refine ⟨_, rfl, p, T.CM, dx, _, rfl, by rw [upd_ne nqp.symm]; exact upd_same, T.clM, T.nM2, (by show 1 < 1000; decide), ?_⟩
   rw [upd_ne nqp] at hq
   refine k _ ⟨dx, .non, q, upd_same, rfl⟩ fun b o e hb => ?_
   rw [upd_ne hb, upd_ne (ne_of_none e hq), upd_ne hb]
   exact e
noncomputable def spHo (T : Tx P w K mg) (av : Addr) : Sp := fun vs H Q _ => ∃ (p a : Addr) (st : Option Bytes) (c : Bytes), vs = [.ref p, .ref a] ∧ RmAt T av H p st ∧ H a = some (.lst (vb c)) ∧ Whole c ∧ c.length ≤ 4000 ∧ a ≠ av ∧ (∃ o, H av = some o) ∧ ∀ H' : Hp, RmAt T av H' p (some c) → But p H H' → Q .non H'
theorem sc83_1 : FnScope ["self", "form"] ["self", "form"] (defScope (inClass (top 83) 1)) := ⟨rfl, rfl, rfl, by decide +kernel, rfl, by decide +kernel, by decide +kernel⟩
theorem ok_Ho (T : Tx P w K mg) {f : Addr} {fd : FuncData} (F : Fun K "hold" "Room.hold" (inClass (top 83) 1) f fd) (DN : Dfn P w K mg base 6 "nodes_of" ["form"] (spNO T)) : FnOk P w K mg base (CXE P w) 7 f fd ["self", "form"] (spHo T av) := by
 refine F.okE sc83_1 (fun vs H Q E h => ?_) (fun cdv A outer s H vs Q E hr h => ?_)
 · obtain ⟨p, a, st, c, rfl, _⟩ := h
   rfl
 · obtain ⟨p, a, st, c, rfl, ⟨dx, fv, nq, hp, _⟩, ha, W, hc, hav, ⟨oa, hoa⟩, k⟩ := h
   have nap : a ≠ p := lst_ne_ins ha hp
   refine ⟨_, pss_cons (ps_fld (pv 0) (pv 1) rfl) (pss_one (ps_fld (pv 0) (pe_d DN pass_fly hr (pa_cons (pv 1) pa_nil)) rfl)), ?_⟩
   refine ⟨_, rfl, _, rfl, p, T.CM, dx, _, rfl, hp, T.clM, T.nM1, (by show 2 < 1000; decide), ?_⟩
   have e : putF "form" (V.ref a) (rmF fv nq) = rmF (.ref a) nq := rfl
   rw [e]
   have ha1 : (upd H p (.ins T.CM dx (rmF (.ref a) nq))) a = some (.lst (vb c)) := by rw [upd_ne nap]; exact ha
   refine ⟨_, rfl, a, c, rfl, ha1, W, by omega, fun q H2 hq s2 n2 => ?_⟩
   have hp2 := s2 _ _ (upd_same (H := H) (a := p) (o := .ins T.CM dx (rmF (.ref a) nq)))
   refine ⟨_, rfl, p, T.CM, dx, _, rfl, hp2, T.clM, T.nM2, (by show 2 < 1000; decide), ?_⟩
   have e2 : putF "nodes" (V.ref q) (rmF (.ref a) nq) = rmF (.ref a) q := rfl
   rw [e2]
   have nqv : q ≠ av := fun z => by
     rw [z] at hq
     by_cases y : av = p
     · rw [y, upd_same] at hq; cases hq
     · rw [upd_ne y, hoa] at hq; cases hq
   refine k _ ⟨dx, .ref a, q, upd_same, a, rfl, by rw [upd_ne nap]; exact s2 _ _ ha1, n2.keep (fun b xs e => ?_) (fun b C dx x af e => ?_), hav, nqv⟩ fun b o e hb => ?_
   · rw [upd_ne (lst_ne_ins e hp2)]; exact e
   · rw [upd_ne (nd_ne_rm e hp2)]; exact e
   · rw [upd_ne hb]
     exact s2 _ _ (by rw [upd_ne hb]; exact e)
noncomputable def spNAt (T : Tx P w K mg) (av : Addr) : Sp := fun vs H Q E => ∃ (p : Addr) (c : Bytes) (i : Nat), vs = [.ref p, .int i] ∧ RmAt T av H p (some c) ∧
 (match (nodes c)[i]? with
  | none => E (.ref T.xN) none H
  | some x => ∀ r, NdAt T.CN H r x (.int (after (nodes c) i)) → Q (.ref r) H)
theorem sc83_2 : FnScope ["self", "i"] ["self", "i"] (defScope (inClass (top 83) 2)) := ⟨rfl, rfl, rfl, by decide +kernel, rfl, by decide +kernel, by decide +kernel⟩
theorem ok_NAt (T : Tx P w K mg) {f : Addr} {fd : FuncData} (F : Fun K "node_at" "Room.node_at" (inClass (top 83) 2) f fd) : FnOk P w K mg base (CXE P w) 1 f fd ["self", "i"] (spNAt T av) := by
 refine F.okE sc83_2 (fun vs H Q E h => ?_) (fun cdv A outer s H vs Q E hr h => ?_)
 · obtain ⟨p, c, i, rfl, _⟩ := h
   rfl
 · obtain ⟨p, c, i, rfl, ⟨dx, fv, nq, hp, a, rfl, ha, ⟨rs, hq, hN⟩, _⟩, k⟩ := h
   refine ⟨_, pss_cons (ps_if (pt_cmpR op_ge (pv 1) (pe_callB call_len_seq (by rfl) T.len PySem.boot_len (pa_cons (pe_fld (pv 0) rfl) pa_nil)) (nomark _)) (pss_one (ps_raise0 T.oN rfl)) pss_nil) (pss_one (ps_ret (pe_ix ix_list (pe_fld (pv 0) rfl) (pv 1) (fun _ _ => rfl)))), ?_⟩
   refine ⟨_, rfl, _, rfl, p, _, dx, _, _, rfl, hp, T.clM, T.nM2, rm2, nq, _, rfl, .inl (SqL.of hq), _, _, rfl, rfl, _, rfl, ?_⟩
   rw [List.length_map, hN.1]
   refine iteB (fun h1 => ?_) (fun h1 => ?_)
   · have h1' := of_decide_eq_true h1
     rw [List.getElem?_eq_none (by omega)] at k
     exact k
   · have h1' := of_decide_eq_false h1
     have hi : i < (nodes c).length := by omega
     rw [List.getElem?_eq_getElem hi] at k
     obtain ⟨r, hr', hn⟩ := hN.get (List.getElem?_eq_getElem hi)
     exact ⟨_, rfl, p, _, dx, _, _, rfl, hp, T.clM, T.nM2, rm2, _, rfl, nq, _, _, _, rfl, rfl, SqL.of hq, atI_nat (by rw [List.getElem?_map, hr']; rfl), k r hn⟩
noncomputable def spCO (T : Tx P w K mg) (av : Addr) : Sp := fun vs H Q E => ∃ (p r : Addr) (c : Bytes) (x : Of.Node) (af : V), vs = [.ref p, .ref r] ∧ RmAt T av H p (some c) ∧ Whole c ∧ x ∈ nodes c ∧ NdAt T.CN H r x af ∧
 (if x.kind = 2 ∨ x.kind = 3 then Ret H Q (vb (cut c (x.at_ + x.head) x.arg)) else E (.ref T.xS) none H)
theorem sc83_3 : FnScope ["self", "node"] ["self", "node"] (defScope (inClass (top 83) 3)) := ⟨rfl, rfl, rfl, by decide +kernel, rfl, by decide +kernel, by decide +kernel⟩
theorem ok_CO (T : Tx P w K mg) {f : Addr} {fd : FuncData} (F : Fun K "content_of" "Room.content_of" (inClass (top 83) 3) f fd) (DI : Dfn P w K mg base 1 "is_string_kind" ["kind"] spIS) : FnOk P w K mg base (CXE P w) 2 f fd ["self", "node"] (spCO T av) := by
 refine F.okE sc83_3 (fun vs H Q E h => ?_) (fun cdv A outer s H vs Q E hr h => ?_)
 · obtain ⟨p, r, c, x, af, rfl, _⟩ := h
   rfl
 · obtain ⟨p, r, c, x, af, rfl, ⟨dx, fv, nq, hp, a, rfl, ha, _⟩, W, hx, ⟨dr, hr'⟩, k⟩ := h
   refine ⟨_, pss_cons (ps_if (pt_not (pt_val (pe_d DI pass_fly hr (pa_cons (pe_fld (pv 1) rfl) pa_nil)))) (pss_one (ps_raise0 T.oS rfl)) pss_nil)
     (pss_one (ps_ret (pe_slice sl_list (pe_fld (pv 0) rfl) (po_some (pe_fld (pv 1) rfl)) (po_some (pe_op op_add (pe_fld (pv 1) rfl) (pe_fld (pv 1) rfl)))))), ?_⟩
   refine ⟨_, rfl, r, _, dr, _, _, rfl, hr', T.clN, T.nN1, nd1, x.kind, rfl, _, rfl, ?_⟩
   by_cases hk : x.kind = 2 ∨ x.kind = 3
   · rw [if_pos hk] at k
     have e : decide (2 ≤ x.kind ∧ x.kind ≤ 3) = true := by rw [decide_eq_true_eq]; omega
     rw [e]
     refine iteF ?_
     obtain ⟨m, i, G⟩ := W.good x hx
     obtain ⟨_, g2, _, _, g5, g6⟩ := G.headOf
     refine ⟨_, rfl, p, _, dx, _, _, rfl, hp, T.clM, T.nM1, rm1, _, rfl, r, _, dr, _, _, rfl, hr', T.clN, T.nN4, nd4, _, rfl, _, rfl, r, _, dr, _, _, rfl, hr', T.clN, T.nN4, nd4, _, rfl, r, _, dr, _, _, rfl, hr', T.clN, T.nN2, nd2, _, _, rfl, rfl, _, rfl, a, _, rfl, SqL.of ha, fun q hq => ?_⟩
     have ec : cutV (vb c) (some ((x.at_ + x.head : Nat) : Int)) (some (((x.at_ + x.head : Nat) : Int) + (x.arg : Int))) = vb (cut c (x.at_ + x.head) x.arg) := by
       have := cutV_nat (b := c) (lo := x.at_ + x.head) (hi := x.at_ + x.head + x.arg) g5
       rw [Nat.add_sub_cancel_left] at this
       exact this
     rw [ec]
     exact k.new hq
   · rw [if_neg hk] at k
     have e : decide (2 ≤ x.kind ∧ x.kind ≤ 3) = false := by rw [decide_eq_false_iff_not]; omega
     rw [e]
     exact iteT k
theorem formOf_end {c : Bytes} {i : Nat} {x : Of.Node} (h : (nodes c)[i]? = some x) (ha : after (nodes c) i = (nodes c).length) : formOf c i = c.drop x.at_ := by
 unfold formOf place
 rw [h, ha, List.getElem?_eq_none (Nat.le_refl _)]
 dsimp only
 unfold cut
 rw [List.take_of_length_le (by rw [List.length_drop]; omega)]
theorem formOf_in {c : Bytes} {i : Nat} {x y : Of.Node} (h : (nodes c)[i]? = some x) (ha : (nodes c)[after (nodes c) i]? = some y) : formOf c i = (c.drop x.at_).take (y.at_ - x.at_) := by
 unfold formOf place
 rw [h, ha]
 rfl
noncomputable def spPO (T : Tx P w K mg) (av : Addr) : Sp := fun vs H Q _ => ∃ (p r : Addr) (c : Bytes) (i : Nat) (x : Of.Node), vs = [.ref p, .ref r] ∧ RmAt T av H p (some c) ∧ Whole c ∧ (nodes c)[i]? = some x ∧ NdAt T.CN H r x (.int (after (nodes c) i)) ∧ Ret H Q (vb (formOf c i))
theorem sc83_4 : FnScope ["self", "node"] ["self", "node"] (defScope (inClass (top 83) 4)) := ⟨rfl, rfl, rfl, by decide +kernel, rfl, by decide +kernel, by decide +kernel⟩
theorem ok_PO (T : Tx P w K mg) {f : Addr} {fd : FuncData} (F : Fun K "part_of" "Room.part_of" (inClass (top 83) 4) f fd) : FnOk P w K mg base (CXE P w) 1 f fd ["self", "node"] (spPO T av) := by
 refine F.okE sc83_4 (fun vs H Q E h => ?_) (fun cdv A outer s H vs Q E hr h => ?_)
 · obtain ⟨p, r, c, i, x, rfl, _⟩ := h
   rfl
 · obtain ⟨p, r, c, i, x, rfl, ⟨dx, fv, nq, hp, a, rfl, ha, ⟨rs, hq, hN⟩, _⟩, W, hx, ⟨dr, hr'⟩, k⟩ := h
   refine ⟨_, pss_cons (ps_if (pt_cmpR op_eq (pe_fld (pv 1) rfl) (pe_callB call_len_seq (by rfl) T.len PySem.boot_len (pa_cons (pe_fld (pv 0) rfl) pa_nil)) (nomark _)) (pss_one (ps_ret (pe_slice sl_list (pe_fld (pv 0) rfl) (po_some (pe_fld (pv 1) rfl)) po_none))) pss_nil)
     (pss_one (ps_ret (pe_slice sl_list (pe_fld (pv 0) rfl) (po_some (pe_fld (pv 1) rfl)) (po_some (pe_fld (pe_ix ix_list (pe_fld (pv 0) rfl) (pe_fld (pv 1) rfl) (fun _ _ => rfl)) rfl))))), ?_⟩
   obtain ⟨m, j, G⟩ := W.good x (List.mem_of_getElem? hx)
   obtain ⟨_, g2, _, _, g5, _⟩ := G.headOf
   have hle := after_le (l := nodes c) (i := i) (Nat.le_of_lt (List.getElem?_eq_some_iff.mp hx).1)
   refine ⟨_, rfl, r, _, dr, _, _, rfl, hr', T.clN, T.nN5, nd5, _, rfl, p, _, dx, _, _, rfl, hp, T.clM, T.nM2, rm2, nq, _, rfl, .inl (SqL.of hq), rfl, _, rfl, ?_⟩
   rw [List.length_map, hN.1]
   refine iteB (fun h1 => ?_) (fun h1 => ?_)
   · have h1' : after (nodes c) i = (nodes c).length := by have z := of_decide_eq_true h1; injection z with z; omega
     refine ⟨_, rfl, p, _, dx, _, _, rfl, hp, T.clM, T.nM1, rm1, _, rfl, r, _, dr, _, _, rfl, hr', T.clN, T.nN3, nd3, _, rfl, a, _, rfl, SqL.of ha, fun q hq => ?_⟩
     rw [cutV_from (by omega), ← formOf_end hx h1']
     exact k.new hq
   · have h1' : after (nodes c) i ≠ (nodes c).length := by intro z; rw [z] at h1; simp at h1
     obtain ⟨y, hy⟩ : ∃ y, (nodes c)[after (nodes c) i]? = some y := ⟨_, List.getElem?_eq_getElem (by omega)⟩
     obtain ⟨ry, hry, dy, hdy⟩ := hN.get hy
     refine ⟨_, rfl, p, _, dx, _, _, rfl, hp, T.clM, T.nM1, rm1, _, rfl, r, _, dr, _, _, rfl, hr', T.clN, T.nN3, nd3, _, rfl, _, rfl, p, _, dx, _, _, rfl, hp, T.clM, T.nM2, rm2, _, rfl, r, _, dr, _, _, rfl, hr', T.clN, T.nN5, nd5, nq, _, _, _, rfl, rfl, SqL.of hq, atI_nat (by rw [List.getElem?_map, hry]; rfl), ry, _, dy, _, _, rfl, hdy, T.clN, T.nN3, nd3, _, rfl, a, _, rfl, SqL.of ha, fun q hq => ?_⟩
     rw [cutV_nat (by omega), ← formOf_in hx hy]
     exact k.new hq
end
end My
end
section
namespace Pu
open Of
theorem many_mono (l : List Node) (a b : Nat) : many a l ≤ many (a + b) l := by
 rw [many_add]
 omega
theorem member_in {c : Bytes} (W : Whole c) {i j : Nat} {x : Node} (h : (nodes c)[i]? = some x) (hj : j < x.below) : i + 1 + many j ((nodes c).drop (i + 1)) < after (nodes c) i := by
 have l := member_lt W h hj
 have e := member_next (l := nodes c) i j
 have g := after_gt l
 have m := many_mono ((nodes c).drop (i + 1)) (j + 1) (x.below - (j + 1))
 rw [show j + 1 + (x.below - (j + 1)) = x.below by omega] at m
 rw [after_step h]
 omega
end Pu
namespace My
open PySem PySem.Spec PyProof.Rows L2 Of Pu
section
variable {P : Program} {w : World} {K : PySem.W.Frag} {mg : Str → Option Value} {base : Heap} {av : Addr}
noncomputable def spVK (T : Tx P w K mg) (av : Addr) : Sp := fun vs H Q E => ∃ (p kq : Addr) (c key : Bytes) (i : Nat) (x : Of.Node), vs = [.ref p, .int i, .ref kq] ∧ RmAt T av H p (some c) ∧ Whole c ∧ H kq = some (.lst (vb key)) ∧ (nodes c)[i]? = some x ∧
 ∀ H', Same H H' → (if x.kind = 5 then (if lookFor c key (firsts (nodes c) x.below (i + 1)) < 0 then E (.ref T.xK) none H' else Q (.int (lookFor c key (firsts (nodes c) x.below (i + 1))).toNat) H') else E (.ref T.xM) none H')
theorem sc83_5 : FnScope ["self", "i", "key_form", "holder", "at", "key"] ["self", "i", "key_form"] (defScope (inClass (top 83) 5)) := ⟨rfl, rfl, rfl, by decide +kernel, rfl, by decide +kernel, by decide +kernel⟩
theorem ok_VK (T : Tx P w K mg) {f : Addr} {fd : FuncData} (F : Fun K "value_by_key" "Room.value_by_key" (inClass (top 83) 5) f fd) (MP : Mth P w K mg base 1 T.CM "part_of" ["self", "node"] (spPO T av)) : FnOk P w K mg base (CXE P w) 2 f fd ["self", "i", "key_form"] (spVK T av) := by
 refine F.okE sc83_5 (fun vs H Q E h => ?_) (fun cdv A outer s H vs Q E hr h => ?_)
 · obtain ⟨p, kq, c, key, i, x, rfl, _⟩ := h
   rfl
 · obtain ⟨p, kq, c, key, i, x, rfl, hR, W, hkq, hx, k⟩ := h
   obtain ⟨dx, fv, nq, hp, a, rfl, ha, ⟨rs, hq, hN⟩, _⟩ := id hR
   refine ⟨_, pss_cons (ps_set (i := 3) sc83_5.nd rfl (Or.inl rfl) (pe_ix ix_list (pe_fld (pv 0) rfl) (pv 1) (fun _ _ => rfl)))
     (pss_cons (ps_if (pt_cmpR op_ne (pe_fld (pv 3) rfl) (pe_k T.kMAP) (nomark _)) (pss_one (ps_raise0 T.oM rfl)) pss_nil)
     (pss_cons (ps_set (i := 4) sc83_5.nd rfl (Or.inl rfl) (pe_op op_add (pv 1) pe_int))
     (pss_cons (ps_while PassesOwn.leaving (pt_cmpR op_lt (pv 4) (pe_fld (pv 3) rfl) (nomark _))
       (pss_cons (ps_set (i := 5) sc83_5.nd rfl (Or.inl rfl) (pe_ix ix_list (pe_fld (pv 0) rfl) (pv 4) (fun _ _ => rfl)))
       (pss_cons (ps_if (pt_cmpR (op_eqB hr.units) (pe_m MP T.clM pass_fly hr (pv 0) (pa_cons (pv 5) pa_nil)) (pv 2) (nomark _)) (pss_one (ps_ret (pe_fld (pv 5) rfl))) pss_nil)
       (pss_one (ps_set (i := 4) sc83_5.nd rfl (Or.inl rfl) (pe_fld (pe_ix ix_list (pe_fld (pv 0) rfl) (pe_fld (pv 5) rfl) (fun _ _ => rfl)) rfl))))))
     (pss_one (ps_raise0 T.oK rfl))))), ?_⟩
   obtain ⟨r, hr', dr, hdr⟩ := hN.get hx
   have gr : ∀ (j : Nat) (r : Addr), rs[j]? = some r → atI (rs.map V.ref) (j : Int) = some (.ref r) := fun j r e => atI_nat (by rw [List.getElem?_map, e]; rfl)
   refine ⟨_, rfl, p, _, dx, _, _, rfl, hp, T.clM, T.nM2, rm2, _, rfl, nq, _, _, _, rfl, rfl, SqL.of hq, gr i r hr', ?_⟩
   refine ⟨_, rfl, r, _, dr, _, _, rfl, hdr, T.clN, T.nN1, nd1, rfl, _, rfl, iteB (fun h1 => ?_) (fun h1 => ?_)⟩
   · have h1' : x.kind ≠ 5 := by intro z; rw [z] at h1; simp at h1
     have := k H (fun _ _ e => e)
     rw [if_neg h1'] at this
     exact this
   have h1' : x.kind = 5 := by
     have z : decide (V.int (x.kind : Int) = V.int 5) = true := by
       cases z : decide (V.int (x.kind : Int) = V.int 5) with
       | true => rfl
       | false => rw [z] at h1; cases h1
     have z := of_decide_eq_true z
     injection z with z
     omega
   have hbe : x.below = 2 * x.arg := by
     unfold Of.Node.below
     rw [if_neg (by omega), if_pos h1']
   replace k : ∀ H', Same H H' → (if lookFor c key (firsts (nodes c) x.below (i + 1)) < 0 then E (.ref T.xK) none H' else Q (.int (lookFor c key (firsts (nodes c) x.below (i + 1))).toNat) H') := fun H' s' => by
     have := k H' s'
     rw [if_pos h1'] at this
     exact this
   refine ⟨_, rfl, _, _, rfl, rfl, ?_⟩
   refine ⟨fun ms σ H' => ∃ (j : Nat) (kv : Option V), 2 * j ≤ x.below ∧ σ = [some (.ref p), some (.int i), some (.ref kq), some (.ref r), some (.int ((i + 1 + many (2 * j) ((nodes c).drop (i + 1)) : Nat) : Int)), kv] ∧ Same H H' ∧ ms = x.below - 2 * j ∧
       lookFor c key (firsts (nodes c) x.below (i + 1)) = lookFor c key (firsts (nodes c) (x.below - 2 * j) (i + 1 + many (2 * j) ((nodes c).drop (i + 1)))),
     ⟨_, 0, none, Nat.zero_le _, by rw [Nat.mul_zero, many_zero]; rfl, (fun _ _ e => e), rfl, by rw [Nat.mul_zero, many_zero]; rfl⟩, ?_⟩
   rintro ms σ H' ⟨j, kv, hj, rfl, sm, rfl, hlk⟩
   have hp' := sm _ _ hp
   have hq' := sm _ _ hq
   have hdr' := sm _ _ hdr
   refine ⟨_, rfl, _, rfl, r, _, dr, _, _, rfl, hdr', T.clN, T.nN5, nd5, _, _, rfl, rfl, _, rfl, iteB (fun h2 => ?_) (fun h2 => ?_)⟩
   · have h2' := of_decide_eq_true h2
     have hjb : 2 * j < x.below := by
       apply Nat.lt_of_not_le
       intro z
       have e : 2 * j = x.below := by omega
       rw [e, after_step hx] at h2'
       omega
     have l1 := member_lt W hx hjb
     have l2 := member_lt W hx (show 2 * j + 1 < x.below by omega)
     have n1 := member_next (l := nodes c) i (2 * j)
     have n2 := member_next (l := nodes c) i (2 * j + 1)
     generalize hA : i + 1 + many (2 * j) ((nodes c).drop (i + 1)) = A at *
     generalize hB : i + 1 + many (2 * j + 1) ((nodes c).drop (i + 1)) = B at *
     obtain ⟨y, hy⟩ : ∃ y, (nodes c)[A]? = some y := ⟨_, List.getElem?_eq_getElem l1⟩
     obtain ⟨z, hz⟩ : ∃ z, (nodes c)[B]? = some z := ⟨_, List.getElem?_eq_getElem l2⟩
     obtain ⟨ry, hry, dy, hdy⟩ := hN.get hy
     obtain ⟨rz, hrz, dz, hdz⟩ := hN.get hz
     have hlk2 : lookFor c key (firsts (nodes c) (x.below - 2 * j) A) = if formOf c A = key then Int.ofNat B else lookFor c key (firsts (nodes c) (x.below - 2 * (j + 1)) (after (nodes c) B)) := by
       rw [show x.below - 2 * j = (x.below - 2 * (j + 1)) + 1 + 1 by omega]
       show lookFor c key (A :: after (nodes c) A :: firsts (nodes c) _ (after (nodes c) (after (nodes c) A))) = _
       rw [← n1]
       rfl
     refine ⟨_, fun σ' H'' z => z, ?_⟩
     refine ⟨_, rfl, p, _, dx, _, _, rfl, hp', T.clM, T.nM2, rm2, _, rfl, nq, _, _, _, rfl, rfl, SqL.of hq', gr A ry hry, ?_⟩
     refine ⟨_, rfl, p, dx, _, rfl, hp', rfl, _, rfl, p, ry, c, A, y, rfl, hR.same sm, W, hy, ⟨dy, sm _ _ hdy⟩, fun q1 H1 hq1 s1 e1 => ?_⟩
     have sm1 : Same H H1 := sm.trans s1
     refine ⟨_, rfl, q1, kq, _, _, rfl, rfl, e1, sm1 _ _ hkq, _, rfl, iteB (fun h3 => ?_) (fun h3 => ?_)⟩
     · have h3' := of_decide_eq_true h3
       rw [if_pos h3'] at hlk2
       have := k H1 sm1
       rw [hlk, hlk2, if_neg (by have := Int.natCast_nonneg B; show ¬ (B : Int) < 0; omega)] at this
       refine ⟨_, rfl, ry, _, dy, _, _, rfl, sm1 _ _ hdy, T.clN, T.nN5, nd5, ?_⟩
       rw [← n1]
       exact this
     · have h3' := of_decide_eq_false h3
       rw [if_neg h3'] at hlk2
       refine ⟨_, rfl, p, _, dx, _, _, rfl, sm1 _ _ hp, T.clM, T.nM2, rm2, _, rfl, ry, _, dy, _, _, rfl, sm1 _ _ hdy, T.clN, T.nN5, nd5, nq, _, _, _, rfl, rfl, SqL.of (sm1 _ _ hq), (by rw [← n1]; exact gr B rz hrz), rz, _, dz, _, _, rfl, sm1 _ _ hdz, T.clN, T.nN5, nd5, x.below - 2 * (j + 1), by omega, j + 1, some (.ref ry), by omega, ?_, sm1, rfl, ?_⟩
       · rw [show 2 * (j + 1) = 2 * j + 1 + 1 by omega, n2]
         rfl
       · rw [hlk, hlk2, show 2 * (j + 1) = 2 * j + 1 + 1 by omega, n2]
   · have h2' := of_decide_eq_false h2
     have hjb : 2 * j = x.below := by
       apply Nat.le_antisymm hj
       apply Nat.le_of_not_lt
       intro z
       have := member_in W hx z
       omega
     have := k H' sm
     rw [hlk, hjb, Nat.sub_self] at this
     exact this
noncomputable def spToR : Sp := fun vs H Q _ => ∃ (a : Addr) (b : Bytes), vs = [.ref a] ∧ H a = some (.lst (vb b)) ∧ b.length ≤ 5000 ∧ Ret H Q (vi ((b.length : Int) :: bi b))
theorem sc84 : FnScope ["row"] ["row"] (defScope (top 84)) := ⟨rfl, rfl, rfl, by decide +kernel, rfl, by decide +kernel, by decide +kernel⟩
theorem ok_ToR (T : Tx P w K mg) {f : Addr} {fd : FuncData} (F : Fun K "told_row" "told_row" (top 84) f fd) : FnOk P w K mg base (CXE P w) 1 f fd ["row"] spToR := by
 refine F.okE sc84 (fun vs H Q E h => ?_) (fun cdv A outer s H vs Q E hr h => ?_)
 · obtain ⟨a, b, rfl, _⟩ := h
   rfl
 · obtain ⟨a, b, rfl, ha, hb, k⟩ := h
   refine ⟨_, pss_one (ps_ret (pe_op op_cat (pe_lst (pa_cons (pe_callB call_len_seq (by rfl) T.len PySem.boot_len (pa_cons (pv 0) pa_nil)) pa_nil)) (pv 0))), ?_⟩
   refine ⟨_, rfl, a, _, rfl, .inl (SqL.of ha), (by rw [sizeLine_eq]; show 1 ≤ _; omega), fun q hq => ?_⟩
   have s1 := Same.upd (o := .lst [V.int (((vb b).length : Nat) : Int)]) hq
   refine ⟨_, rfl, q, a, _, _, rfl, rfl, upd_same, s1 _ _ ha, (by rw [vb_length, sizeLine_eq]; show 1 + _ ≤ _; omega), fun q2 hq2 => ?_⟩
   refine k q2 _ (s1.free hq2) (Same.upd2 s1 (s1.free hq2)) ?_
   rw [upd_same, vb_length, ← vi_bi]
   rfl
noncomputable def spToT : Sp := fun vs H Q _ => ∃ t : Bool, vs = [.bl t] ∧ Ret H Q (vi [if t = true then 1 else 0])
theorem sc85 : FnScope ["truth"] ["truth"] (defScope (top 85)) := ⟨rfl, rfl, rfl, by decide +kernel, rfl, by decide +kernel, by decide +kernel⟩
theorem ok_ToT (T : Tx P w K mg) {f : Addr} {fd : FuncData} (F : Fun K "told_truth" "told_truth" (top 85) f fd) : FnOk P w K mg base (CXE P w) 1 f fd ["truth"] spToT := by
 refine F.okE sc85 (fun vs H Q E h => ?_) (fun cdv A outer s H vs Q E hr h => ?_)
 · obtain ⟨t, rfl, _⟩ := h
   rfl
 · obtain ⟨t, rfl, k⟩ := h
   refine ⟨_, pss_one (ps_ret (pe_lst (pa_cons (pe_ifExp (pt_val (pv 0)) pe_int pe_int) pa_nil))), ?_⟩
   refine ⟨_, rfl, _, rfl, ?_⟩
   cases t with
   | true => exact iteT ⟨(by rw [sizeLine_eq]; show 1 ≤ _; omega), fun q hq => k.new hq⟩
   | false => exact iteF ⟨(by rw [sizeLine_eq]; show 1 ≤ _; omega), fun q hq => k.new hq⟩
end
end My
end
section
namespace My
open PySem PySem.Spec PyProof.Rows L2 Of Pu
theorem eqT {a b : Int} {A B : Prop} (h : a = b) (k : A) : if decide (V.int a = V.int b) = true then A else B := by
 subst h
 rw [if_pos (by simp)]
 exact k
theorem eqF {a b : Int} {A B : Prop} (h : a ≠ b) (k : B) : if decide (V.int a = V.int b) = true then A else B := by
 rw [if_neg (by rw [decide_eq_true_eq]; intro z; injection z with z; exact h z)]
 exact k
noncomputable def CArg (H : Hp) (cl : Int) (iv rv : V) : OfCalls.Call → Prop
 | .read b => cl = 1 ∧ iv = .non ∧ ∃ a, rv = .ref a ∧ H a = some (.lst (vb b)) ∧ b.length ≤ 400
 | .write => cl = 2 ∧ iv = .non ∧ rv = .non
 | .count => cl = 3 ∧ iv = .non ∧ rv = .non
 | .kind i => cl = 4 ∧ iv = .int i ∧ rv = .non
 | .number i => cl = 5 ∧ iv = .int i ∧ rv = .non
 | .copy i => cl = 6 ∧ iv = .int i ∧ rv = .non
 | .after i => cl = 7 ∧ iv = .int i ∧ rv = .non
 | .part i => cl = 8 ∧ iv = .int i ∧ rv = .non
 | .find i b => cl = 9 ∧ iv = .int i ∧ ∃ a, rv = .ref a ∧ H a = some (.lst (vb b)) ∧ b.length ≤ 400
 | .same b => cl = 10 ∧ iv = .non ∧ ∃ a, rv = .ref a ∧ H a = some (.lst (vb b)) ∧ b.length ≤ 400
 | .canonical b => cl = 11 ∧ iv = .non ∧ ∃ a, rv = .ref a ∧ H a = some (.lst (vb b)) ∧ b.length ≤ 400
theorem CArg.keep {H H' : Hp} {cl : Int} {iv rv : V} {x : OfCalls.Call} (h : CArg H cl iv rv x) (kl : ∀ b xs, H b = some (.lst xs) → H' b = some (.lst xs)) : CArg H' cl iv rv x := by
 cases x with
 | read b => obtain ⟨h1, h2, a, h3, h4, h5⟩ := h; exact ⟨h1, h2, a, h3, kl _ _ h4, h5⟩
 | find i b => obtain ⟨h1, h2, a, h3, h4, h5⟩ := h; exact ⟨h1, h2, a, h3, kl _ _ h4, h5⟩
 | same b => obtain ⟨h1, h2, a, h3, h4, h5⟩ := h; exact ⟨h1, h2, a, h3, kl _ _ h4, h5⟩
 | canonical b => obtain ⟨h1, h2, a, h3, h4, h5⟩ := h; exact ⟨h1, h2, a, h3, kl _ _ h4, h5⟩
 | _ => exact h
noncomputable def StOk (st : Option Bytes) : Prop := ∀ c, st = some c → Enc c ∧ c.length ≤ 4000
section
variable {P : Program} {w : World} {K : PySem.W.Frag} {mg : Str → Option Value} {base : Heap} {av : Addr}
noncomputable def Cd (T : Tx P w K mg) (z : Int) (C : Addr) : Prop := (z = -9 ∧ C = T.xV) ∨ (z = -1 ∧ (C = T.xF ∨ C = T.xN)) ∨ (z = -2 ∧ (C = T.xT ∨ C = T.xS ∨ C = T.xM)) ∨ (z = -3 ∧ C = T.xK)
noncomputable def RetR (T : Tx P w K mg) (av : Addr) (H : Hp) (p : Addr) (st : Option Bytes) (Q : VK) (l : List Int) : Prop := ∀ q H', H q = none → Bat p H H' → TabOk T H' → RmAt T av H' p st → H' q = some (.lst (vi l)) → Q (.ref q) H'
theorem RetR.ret {T : Tx P w K mg} {H : Hp} {p : Addr} {st : Option Bytes} {Q : VK} {l : List Int} (h : RetR T av H p st Q l) (t : TabOk T H) (R : RmAt T av H p st) : Ret H Q (vi l) := fun q H' hq s e => h q H' hq (Bat.ofS s) (t.same s) (R.same s) e
noncomputable def AnsR (T : Tx P w K mg) (av : Addr) (H : Hp) (p : Addr) (st : Option Bytes) (Q : VK) (E : XK) : OfCalls.Answer → Prop
 | .refused z => ∀ C H', Cd T z C → Bat p H H' → TabOk T H' → RmAt T av H' p st → E (.ref C) none H'
 | .done => RetR T av H p st Q []
 | .number n => RetR T av H p st Q [(n : Int)]
 | .bytes b => RetR T av H p st Q ((b.length : Int) :: bi b)
noncomputable def spAN (T : Tx P w K mg) (av : Addr) : Sp := fun vs H Q E => ∃ (p : Addr) (c : Bytes) (x : OfCalls.Call) (cl : Int) (iv rv : V), vs = [.ref p, .int cl, iv, rv] ∧ RmAt T av H p (some c) ∧ StOk (some c) ∧ TabOk T H ∧ CArg H cl iv rv x ∧ 4 ≤ cl ∧ cl ≤ 9 ∧ AnsR T av H p (some c) Q E (OfCalls.ask c x)
theorem sc86 : FnScope ["room", "call", "i", "row", "node"] ["room", "call", "i", "row"] (defScope (top 86)) := ⟨rfl, rfl, rfl, by decide +kernel, rfl, by decide +kernel, by decide +kernel⟩
theorem ok_AN (T : Tx P w K mg) {f : Addr} {fd : FuncData} (F : Fun K "answer_about_node" "answer_about_node" (top 86) f fd) (MN : Mth P w K mg base 1 T.CM "node_at" ["self", "i"] (spNAt T av)) (MC : Mth P w K mg base 2 T.CM "content_of" ["self", "node"] (spCO T av)) (MP : Mth P w K mg base 1 T.CM "part_of" ["self", "node"] (spPO T av)) (MV : Mth P w K mg base 2 T.CM "value_by_key" ["self", "i", "key_form"] (spVK T av))
   (DR : Dfn P w K mg base 1 "told_row" ["row"] spToR) : FnOk P w K mg base (CXE P w) 3 f fd ["room", "call", "i", "row"] (spAN T av) := by
 refine F.okE sc86 (fun vs H Q E h => ?_) (fun cdv A outer s H vs Q E hr h => ?_)
 · obtain ⟨p, c, x, cl, iv, rv, rfl, _⟩ := h
   rfl
 · obtain ⟨p, c, x, cl, iv, rv, rfl, hR, hS, ht, hA, hc1, hc2, k⟩ := h
   obtain ⟨hE, hcl⟩ := hS c rfl
   have W := hE.whole
   have hr1 := hr.mono (j := 1) (by omega)
   obtain ⟨dx, fv, nq, hp, _⟩ := id hR
   refine ⟨_, pss_cons (ps_set (i := 4) sc86.nd rfl (Or.inl rfl) (pe_m MN T.clM pass_fly hr1 (pv 0) (pa_cons (pv 2) pa_nil)))
     (pss_cons (ps_if (pt_cmpR op_eq (pv 1) (pe_k T.kKIND) (nomark _)) (pss_one (ps_ret (pe_lst (pa_cons (pe_fld (pv 4) rfl) pa_nil)))) pss_nil)
     (pss_cons (ps_if (pt_cmpR op_eq (pv 1) (pe_k T.kNUM) (nomark _)) (pss_one (ps_ret (pe_lst (pa_cons (pe_fld (pv 4) rfl) pa_nil)))) pss_nil)
     (pss_cons (ps_if (pt_cmpR op_eq (pv 1) (pe_k T.kCOPY) (nomark _)) (pss_one (ps_ret (pe_d DR pass_fly hr1 (pa_cons (pe_m MC T.clM pass_fly hr (pv 0) (pa_cons (pv 4) pa_nil)) pa_nil)))) pss_nil)
     (pss_cons (ps_if (pt_cmpR op_eq (pv 1) (pe_k T.kAFTER) (nomark _)) (pss_one (ps_ret (pe_lst (pa_cons (pe_fld (pv 4) rfl) pa_nil)))) pss_nil)
     (pss_cons (ps_if (pt_cmpR op_eq (pv 1) (pe_k T.kPART) (nomark _)) (pss_one (ps_ret (pe_d DR pass_fly hr1 (pa_cons (pe_m MP T.clM pass_fly hr1 (pv 0) (pa_cons (pv 4) pa_nil)) pa_nil)))) pss_nil)
     (pss_one (ps_ret (pe_lst (pa_cons (pe_m MV T.clM pass_fly hr (pv 0) (pa_cons (pv 2) (pa_cons (pv 3) pa_nil))) pa_nil))))))))), ?_⟩
   obtain ⟨i, rfl, hno⟩ : ∃ i : Nat, iv = .int i ∧ ((nodes c)[i]? = none → OfCalls.ask c x = .refused (-1)) := by
     cases x with
     | kind i => exact ⟨i, hA.2.1, fun e => by show OfCalls.atNode c i _ = _; unfold OfCalls.atNode; rw [e]; rfl⟩
     | number i => exact ⟨i, hA.2.1, fun e => by show OfCalls.atNode c i _ = _; unfold OfCalls.atNode; rw [e]; rfl⟩
     | copy i => exact ⟨i, hA.2.1, fun e => by show OfCalls.atNode c i _ = _; unfold OfCalls.atNode; rw [e]; rfl⟩
     | after i => exact ⟨i, hA.2.1, fun e => by show OfCalls.atNode c i _ = _; unfold OfCalls.atNode; rw [e]; rfl⟩
     | part i => exact ⟨i, hA.2.1, fun e => by show OfCalls.atNode c i _ = _; unfold OfCalls.atNode; rw [e]; rfl⟩
     | find i b => exact ⟨i, hA.2.1, fun e => by show OfCalls.atNode c i _ = _; unfold OfCalls.atNode; rw [e]; rfl⟩
     | read b => have := hA.1; omega
     | write => have := hA.1; omega
     | count => have := hA.1; omega
     | same b => have := hA.1; omega
     | canonical b => have := hA.1; omega
   refine ⟨_, rfl, p, dx, _, rfl, hp, rfl, _, rfl, p, c, i, rfl, hR, ?_⟩
   cases hn : (nodes c)[i]? with
   | none =>
     rw [hno hn] at k
     exact k _ H (.inr (.inl ⟨rfl, .inr rfl⟩)) (Bat.ofS fun _ _ e => e) ht hR
   | some y =>
   dsimp only
   intro r hr'
   obtain ⟨dr, hdr⟩ := id hr'
   have atn : ∀ f : Of.Node → OfCalls.Answer, OfCalls.atNode c i f = f y := fun f => by unfold OfCalls.atNode; rw [hn]
   have cutl : ∀ a n, (cut c a n).length ≤ c.length := fun a n => by unfold cut; rw [List.length_take, List.length_drop]; omega
   have one : 1 ≤ sizeLine := by rw [sizeLine_eq]; omega
   cases x with
   | kind i' =>
     obtain ⟨rfl, e, rfl⟩ := hA
     have e : i = i' := by injection e with e; omega
     subst e
     have k : AnsR T av H p (some c) Q E (.number y.kind) := by rw [← atn fun x => .number x.kind]; exact k
     exact ⟨_, rfl, rfl, _, rfl, eqT rfl ⟨_, rfl, r, _, dr, _, _, rfl, hdr, T.clN, T.nN1, nd1, one, fun q hq => (k.ret ht hR).new hq⟩⟩
   | number i' =>
     obtain ⟨rfl, e, rfl⟩ := hA
     have e : i = i' := by injection e with e; omega
     subst e
     have k : AnsR T av H p (some c) Q E (.number y.arg) := by rw [← atn fun x => .number x.arg]; exact k
     exact ⟨_, rfl, rfl, _, rfl, eqF (by decide) ⟨_, rfl, rfl, _, rfl, eqT rfl ⟨_, rfl, r, _, dr, _, _, rfl, hdr, T.clN, T.nN2, nd2, one, fun q hq => (k.ret ht hR).new hq⟩⟩⟩
   | copy i' =>
     obtain ⟨rfl, e, rfl⟩ := hA
     have e : i = i' := by injection e with e; omega
     subst e
     have k : AnsR T av H p (some c) Q E (if y.kind = 2 ∨ y.kind = 3 then .bytes (cut c (y.at_ + y.head) y.arg) else OfCalls.no (-2)) := by rw [← atn fun x => if x.kind = 2 ∨ x.kind = 3 then .bytes (cut c (x.at_ + x.head) x.arg) else OfCalls.no (-2)]; exact k
     refine ⟨_, rfl, rfl, _, rfl, eqF (by decide) ⟨_, rfl, rfl, _, rfl, eqF (by decide) ⟨_, rfl, rfl, _, rfl, eqT rfl ⟨_, rfl, p, dx, _, rfl, hp, rfl, _, rfl, p, r, c, y, _, rfl, hR, W, List.mem_of_getElem? hn, hr', ?_⟩⟩⟩⟩
     by_cases hk : y.kind = 2 ∨ y.kind = 3
     · rw [if_pos hk] at k ⊢
       exact fun q H1 hq s1 e1 => ⟨q, _, rfl, e1, by have := cutl (y.at_ + y.head) y.arg; omega, (k.ret ht hR).same s1⟩
     · rw [if_neg hk] at k ⊢
       exact k _ H (.inr (.inr (.inl ⟨rfl, .inr (.inl rfl)⟩))) (Bat.ofS fun _ _ e => e) ht hR
   | after i' =>
     obtain ⟨rfl, e, rfl⟩ := hA
     have e : i = i' := by injection e with e; omega
     subst e
     have k : AnsR T av H p (some c) Q E (.number (Of.after (nodes c) i)) := by rw [← atn fun _ => .number (Of.after (nodes c) i)]; exact k
     exact ⟨_, rfl, rfl, _, rfl, eqF (by decide) ⟨_, rfl, rfl, _, rfl, eqF (by decide) ⟨_, rfl, rfl, _, rfl, eqF (by decide) ⟨_, rfl, rfl, _, rfl, eqT rfl ⟨_, rfl, r, _, dr, _, _, rfl, hdr, T.clN, T.nN5, nd5, one, fun q hq => (k.ret ht hR).new hq⟩⟩⟩⟩⟩
   | part i' =>
     obtain ⟨rfl, e, rfl⟩ := hA
     have e : i = i' := by injection e with e; omega
     subst e
     have k : AnsR T av H p (some c) Q E (.bytes (formOf c i)) := by rw [← atn fun _ => .bytes (formOf c i)]; exact k
     refine ⟨_, rfl, rfl, _, rfl, eqF (by decide) ⟨_, rfl, rfl, _, rfl, eqF (by decide) ⟨_, rfl, rfl, _, rfl, eqF (by decide) ⟨_, rfl, rfl, _, rfl, eqF (by decide) ⟨_, rfl, rfl, _, rfl, eqT rfl ⟨_, rfl, p, dx, _, rfl, hp, rfl, _, rfl, p, r, c, i, y, rfl, hR, W, hn, hr', ?_⟩⟩⟩⟩⟩⟩
     exact fun q H1 hq s1 e1 => ⟨q, _, rfl, e1, by have := cutl (place c (nodes c) i) (place c (nodes c) (after (nodes c) i) - place c (nodes c) i); unfold formOf; omega, (k.ret ht hR).same s1⟩
   | find i' b =>
     obtain ⟨rfl, e, a, rfl, ha, hb⟩ := hA
     have e : i = i' := by injection e with e; omega
     subst e
     have k : AnsR T av H p (some c) Q E (if y.kind = 5 then (if lookFor c b (firsts (nodes c) y.below (i + 1)) < 0 then OfCalls.no (-3) else .number (lookFor c b (firsts (nodes c) y.below (i + 1))).toNat) else OfCalls.no (-2)) := by
       rw [← atn fun x => if x.kind = 5 then (if lookFor c b (firsts (nodes c) x.below (i + 1)) < 0 then OfCalls.no (-3) else .number (lookFor c b (firsts (nodes c) x.below (i + 1))).toNat) else OfCalls.no (-2)]; exact k
     refine ⟨_, rfl, rfl, _, rfl, eqF (by decide) ⟨_, rfl, rfl, _, rfl, eqF (by decide) ⟨_, rfl, rfl, _, rfl, eqF (by decide) ⟨_, rfl, rfl, _, rfl, eqF (by decide) ⟨_, rfl, rfl, _, rfl, eqF (by decide) ⟨_, rfl, p, dx, _, rfl, hp, rfl, _, rfl, _, rfl, p, a, c, b, i, y, rfl, hR, W, ha, hn, fun H' s' => ?_⟩⟩⟩⟩⟩⟩
     by_cases hk : y.kind = 5
     · rw [if_pos hk] at k ⊢
       by_cases hv : lookFor c b (firsts (nodes c) y.below (i + 1)) < 0
       · rw [if_pos hv] at k ⊢
         exact k _ H' (.inr (.inr (.inr ⟨rfl, rfl⟩))) (Bat.ofS s') (ht.same s') (hR.same s')
       · rw [if_neg hv] at k ⊢
         exact ⟨one, fun q hq => ((k.ret ht hR).same s').new hq⟩
     · rw [if_neg hk] at k ⊢
       exact k _ H' (.inr (.inr (.inl ⟨rfl, .inr (.inr rfl)⟩))) (Bat.ofS s') (ht.same s') (hR.same s')
   | read b => have := hA.1; omega
   | write => have := hA.1; omega
   | count => have := hA.1; omega
   | same b => have := hA.1; omega
   | canonical b => have := hA.1; omega
end
end My
end
section
namespace My
open PySem PySem.Spec PyProof.Rows L2 Of Pu
theorem valueOf_ok {b c : Bytes} (hb : b.length ≤ 400) (h : OfCalls.valueOf b = .ok c) : Enc c ∧ c.length ≤ 4000 := by
 cases ei : item 16 b with
 | none => rw [valueOf_none hb ei] at h; cases h
 | some z =>
   obtain ⟨g, t⟩ := z
   cases t with
   | cons x r => rw [valueOf_more hb ei] at h; cases h
   | nil =>
     rw [valueOf_some hb ei] at h
     split at h
     · cases h
     · cases h
       have := item_len ei
       refine ⟨item_enc (by omega) ei, ?_⟩
       omega
section
variable {P : Program} {w : World} {K : PySem.W.Frag} {mg : Str → Option Value} {base : Heap} {av : Addr}
theorem Cd.of {T : Tx P w K mg} {z : Int} (h : z = -1 ∨ z = -2) : Cd T z (if z = -1 then T.xF else T.xT) := by
 rcases h with rfl | rfl
 · rw [if_pos rfl]
   exact .inr (.inl ⟨rfl, .inl rfl⟩)
 · rw [if_neg (by decide)]
   exact .inr (.inr (.inl ⟨rfl, .inl rfl⟩))
theorem Bat.ofA {p : Addr} {H H' : Hp} (a : BatA H H') : Bat p H H' := fun b o e _ => a b o e
theorem RetR.bat {T : Tx P w K mg} {H H1 : Hp} {p : Addr} {st st' : Option Bytes} {Q : VK} {l : List Int} (h : RetR T av H p st' Q l) (B : Bat p H H1) (hp : ∃ o, H1 p = some o) : RetR T av H1 p st' Q l := fun q H' hq B' t R e =>
 h q H' (B.free hq (fun z => by obtain ⟨o, ho⟩ := hp; rw [z, ho] at hq; cases hq)) (B.trans B') t R e
theorem RmAt.some_ {T : Tx P w K mg} {H : Hp} {p : Addr} {st : Option Bytes} (h : RmAt T av H p st) : ∃ o, H p = some o := let ⟨dx, fv, nq, h1, _⟩ := h; ⟨_, h1⟩
noncomputable def askV (st : Option Bytes) (x : OfCalls.Call) : OfCalls.Answer := match st with
 | none => OfCalls.no (-9)
 | some b => OfCalls.ask b x
noncomputable def spAV (T : Tx P w K mg) (av : Addr) : Sp := fun vs H Q E => ∃ (p : Addr) (st : Option Bytes) (x : OfCalls.Call) (cl : Int) (iv rv : V), vs = [.ref p, .int cl, iv, rv] ∧ RmAt T av H p st ∧ StOk st ∧ TabOk T H ∧ CArg H cl iv rv x ∧ 2 ≤ cl ∧ cl ≤ 10 ∧ AnsR T av H p st Q E (askV st x)
theorem sc87 : FnScope ["room", "call", "i", "row"] ["room", "call", "i", "row"] (defScope (top 87)) := ⟨rfl, rfl, rfl, by decide +kernel, rfl, by decide +kernel, by decide +kernel⟩
theorem ok_AV (T : Tx P w K mg) {f : Addr} {fd : FuncData} (F : Fun K "answer_about_value" "answer_about_value" (top 87) f fd) (DN : Dfn P w K mg base 3 "answer_about_node" ["room", "call", "i", "row"] (spAN T av)) (DO : Dfn P w K mg base 41 "one_form" ["data"] (spOF T))
   (DR : Dfn P w K mg base 1 "told_row" ["row"] spToR) (DT : Dfn P w K mg base 1 "told_truth" ["truth"] spToT) : FnOk P w K mg base (CXE P w) 42 f fd ["room", "call", "i", "row"] (spAV T av) := by
 refine F.okE sc87 (fun vs H Q E h => ?_) (fun cdv A outer s H vs Q E hr h => ?_)
 · obtain ⟨p, st, x, cl, iv, rv, rfl, _⟩ := h
   rfl
 · obtain ⟨p, st, x, cl, iv, rv, rfl, hR, hS, ht, hA, hc1, hc2, k⟩ := h
   have hr1 := hr.mono (j := 1) (by omega)
   have hr3 := hr.mono (j := 3) (by omega)
   obtain ⟨dx, fv, nq, hp, hF⟩ := id hR
   refine ⟨_, pss_cons (ps_if (pt_cmpR op_isN (pe_fld (pv 0) rfl) pe_non (nomark _)) (pss_one (ps_raise0 T.oV rfl)) pss_nil)
     (pss_cons (ps_if (pt_cmpR op_eq (pv 1) (pe_k T.kWRITE) (nomark _)) (pss_one (ps_ret (pe_d DR pass_fly hr1 (pa_cons (pe_fld (pv 0) rfl) pa_nil)))) pss_nil)
     (pss_cons (ps_if (pt_cmpR op_eq (pv 1) (pe_k T.kCOUNT) (nomark _)) (pss_one (ps_ret (pe_lst (pa_cons (pe_callB call_len_seq (by rfl) T.len PySem.boot_len (pa_cons (pe_fld (pv 0) rfl) pa_nil)) pa_nil)))) pss_nil)
     (pss_cons (ps_if (pt_cmpR op_eq (pv 1) (pe_k T.kSAME) (nomark _)) (pss_one (ps_ret (pe_d DT pass_fly hr1 (pa_cons (pe_cmpR (op_eqB hr.units) (pe_d DO pass_fly hr (pa_cons (pv 3) pa_nil)) (pe_fld (pv 0) rfl) (nomark _)) pa_nil)))) pss_nil)
     (pss_one (ps_ret (pe_d DN pass_fly hr3 (pa_cons (pv 0) (pa_cons (pv 1) (pa_cons (pv 2) (pa_cons (pv 3) pa_nil)))))))))), ?_⟩
   have one : 1 ≤ sizeLine := by rw [sizeLine_eq]; omega
   cases st with
   | none =>
     obtain rfl : fv = .non := hF
     refine ⟨_, rfl, p, _, dx, _, _, rfl, hp, T.clM, T.nM1, rm1, rfl, _, rfl, ?_⟩
     exact k _ H (.inl ⟨rfl, rfl⟩) (Bat.ofS fun _ _ e => e) ht hR
   | some c =>
   obtain ⟨a, rfl, ha, ⟨rs, hq, hN⟩, _⟩ := hF
   obtain ⟨hE, hcl⟩ := hS c rfl
   refine ⟨_, rfl, p, _, dx, _, _, rfl, hp, T.clM, T.nM1, rm1, rfl, _, rfl, iteF ?_⟩
   by_cases h2 : cl = 2
   · subst h2
     have e : x = .write := by
       cases x with
       | write => rfl
       | _ => have := hA.1; omega
     subst e
     exact ⟨_, rfl, rfl, _, rfl, eqT rfl ⟨_, rfl, p, _, dx, _, _, rfl, hp, T.clM, T.nM1, rm1, a, c, rfl, ha, by omega, RetR.ret k ht hR⟩⟩
   refine ⟨_, rfl, rfl, _, rfl, eqF h2 ?_⟩
   by_cases h3 : cl = 3
   · subst h3
     have e : x = .count := by
       cases x with
       | count => rfl
       | _ => have := hA.1; omega
     subst e
     refine ⟨_, rfl, rfl, _, rfl, eqT rfl ⟨_, rfl, p, _, dx, _, _, rfl, hp, T.clM, T.nM2, rm2, nq, _, rfl, .inl (SqL.of hq), one, fun q hq' => ?_⟩⟩
     rw [List.length_map, hN.1]
     exact (RetR.ret k ht hR).new hq'
   refine ⟨_, rfl, rfl, _, rfl, eqF h3 ?_⟩
   by_cases h10 : cl = 10
   · subst h10
     obtain ⟨b, rfl⟩ : ∃ b, x = .same b := by
       cases x with
       | same b => exact ⟨b, rfl⟩
       | _ => have := hA.1; omega
     obtain ⟨_, _, ra, rfl, hra, hb⟩ := hA
     refine ⟨_, rfl, rfl, _, rfl, eqT rfl ⟨_, rfl, ra, b, rfl, hra, hb, ht, ?_⟩⟩
     have k : AnsR T av H p (some c) Q E (match OfCalls.valueOf b with | .error z => OfCalls.no z | .ok b => .number (if b = c then 1 else 0)) := k
     cases ev : OfCalls.valueOf b with
     | error z =>
       rw [ev] at k
       exact fun H' B' t' => k _ H' (Cd.of (valueOf_err ev)) (Bat.ofA B') t' (hR.batA B')
     | ok d =>
       rw [ev] at k
       intro q H' hq' B' t' e'
       refine ⟨_, rfl, p, _, dx, _, _, rfl, B'.ins hp, T.clM, T.nM1, rm1, q, a, d, c, rfl, rfl, e', B'.lst ha, _, rfl, ?_⟩
       have R' := hR.batA B'
       have k' : RetR T av H' p (some c) Q [((if d = c then 1 else 0 : Nat) : Int)] := RetR.bat (st := some c) k (Bat.ofA B') R'.some_
       have e9 : (if decide (d = c) = true then (1 : Int) else 0) = ((if d = c then 1 else 0 : Nat) : Int) := by
         by_cases z : d = c
         · rw [if_pos z, if_pos (by simpa using z)]; rfl
         · rw [if_neg z, if_neg (by simpa using z)]; rfl
       rw [e9]
       exact k'.ret t' R'
   refine ⟨_, rfl, rfl, _, rfl, eqF h10 ?_⟩
   exact ⟨_, rfl, _, rfl, _, rfl, _, rfl, p, c, x, cl, iv, rv, rfl, hR, hS, ht, hA, by omega, by omega, k⟩
noncomputable def spAns (T : Tx P w K mg) (av : Addr) : Sp := fun vs H Q E => ∃ (p : Addr) (st : Option Bytes) (x : OfCalls.Call) (cl : Int) (iv rv : V), vs = [.ref p, .int cl, iv, rv] ∧ RmAt T av H p st ∧ StOk st ∧ TabOk T H ∧ (∃ o, H av = some o) ∧ CArg H cl iv rv x ∧ AnsR T av H p (OfCalls.step st x).1 Q E (OfCalls.step st x).2
theorem sc88 : FnScope ["room", "call", "i", "row"] ["room", "call", "i", "row"] (defScope (top 88)) := ⟨rfl, rfl, rfl, by decide +kernel, rfl, by decide +kernel, by decide +kernel⟩
theorem step_ask {st : Option Bytes} {x : OfCalls.Call} {H : Hp} {cl : Int} {iv rv : V} (hA : CArg H cl iv rv x) (h1 : cl ≠ 1) (h11 : cl ≠ 11) : OfCalls.step st x = (st, askV st x) ∧ 2 ≤ cl ∧ cl ≤ 10 := by
 cases x with
 | read b => exact absurd hA.1 h1
 | canonical b => exact absurd hA.1 h11
 | _ => have := hA.1; exact ⟨by cases st <;> rfl, by omega, by omega⟩
theorem ok_Ans (T : Tx P w K mg) {f : Addr} {fd : FuncData} (F : Fun K "answer" "answer" (top 88) f fd) (DV : Dfn P w K mg base 42 "answer_about_value" ["room", "call", "i", "row"] (spAV T av)) (DO : Dfn P w K mg base 41 "one_form" ["data"] (spOF T)) (DI : Dfn P w K mg base 42 "is_one_form" ["data"] (spIOF T))
   (MH : Mth P w K mg base 7 T.CM "hold" ["self", "form"] (spHo T av)) (DT : Dfn P w K mg base 1 "told_truth" ["truth"] spToT) : FnOk P w K mg base (CXE P w) 43 f fd ["room", "call", "i", "row"] (spAns T av) := by
 refine F.okE sc88 (fun vs H Q E h => ?_) (fun cdv A outer s H vs Q E hr h => ?_)
 · obtain ⟨p, st, x, cl, iv, rv, rfl, _⟩ := h
   rfl
 · obtain ⟨p, st, x, cl, iv, rv, rfl, hR, hS, ht, ⟨ov, hov⟩, hA, k⟩ := h
   have hr1 := hr.mono (j := 1) (by omega)
   have hr7 := hr.mono (j := 7) (by omega)
   have hr41 := hr.mono (j := 41) (by omega)
   obtain ⟨dx, fv, nq, hp, hF⟩ := id hR
   refine ⟨_, pss_cons (ps_if (pt_cmpR op_eq (pv 1) (pe_k T.kREAD) (nomark _)) (pss_cons (ps_expr (pe_m MH T.clM pass_fly hr7 (pv 0) (pa_cons (pe_d DO pass_fly hr41 (pa_cons (pv 3) pa_nil)) pa_nil))) (pss_one (ps_ret (pe_lst pa_nil)))) pss_nil)
     (pss_cons (ps_if (pt_cmpR op_eq (pv 1) (pe_k T.kCAN) (nomark _)) (pss_one (ps_ret (pe_d DT pass_fly hr1 (pa_cons (pe_d DI pass_fly hr (pa_cons (pv 3) pa_nil)) pa_nil)))) pss_nil)
     (pss_one (ps_ret (pe_d DV pass_fly hr (pa_cons (pv 0) (pa_cons (pv 1) (pa_cons (pv 2) (pa_cons (pv 3) pa_nil)))))))), ?_⟩
   by_cases h1 : cl = 1
   · subst h1
     obtain ⟨b, rfl⟩ : ∃ b, x = .read b := by
       cases x with
       | read b => exact ⟨b, rfl⟩
       | _ => have := hA.1; omega
     obtain ⟨_, _, ra, rfl, hra, hb⟩ := hA
     have es : OfCalls.step st (.read b) = (match OfCalls.valueOf b with | .error z => (st, OfCalls.no z) | .ok b => (some b, .done)) := rfl
     rw [es] at k
     refine ⟨_, rfl, rfl, _, rfl, eqT rfl ⟨_, rfl, p, dx, _, rfl, hp, rfl, _, rfl, ra, b, rfl, hra, hb, ht, ?_⟩⟩
     cases ev : OfCalls.valueOf b with
     | error z =>
       rw [ev] at k
       exact fun H' B' t' => k _ H' (Cd.of (valueOf_err ev)) (Bat.ofA B') t' (hR.batA B')
     | ok c =>
       rw [ev] at k
       obtain ⟨hE, hcl⟩ := valueOf_ok hb ev
       intro q H' hq' B' t' e'
       refine ⟨p, q, st, c, rfl, hR.batA B', e', hE.whole, hcl, (ne_of_none hov hq').symm, (B' _ _ hov).some, fun H2 R2 B2 => ?_⟩
       have t2 : TabOk T H2 := t'.but (B'.ins hp) B2
       exact ⟨Nat.zero_le _, fun q3 hq3 => (RetR.ret (RetR.bat (st := st) k ((Bat.ofA B').trans (Bat.of B2)) R2.some_) t2 R2).new hq3⟩
   refine ⟨_, rfl, rfl, _, rfl, eqF h1 ?_⟩
   by_cases h11 : cl = 11
   · subst h11
     obtain ⟨b, rfl⟩ : ∃ b, x = .canonical b := by
       cases x with
       | canonical b => exact ⟨b, rfl⟩
       | _ => have := hA.1; omega
     obtain ⟨_, _, ra, rfl, hra, hb⟩ := hA
     refine ⟨_, rfl, rfl, _, rfl, eqT rfl ⟨_, rfl, ra, b, rfl, hra, hb, ht, fun H' B' t' => ⟨_, rfl, ?_⟩⟩⟩
     have R' := hR.batA B'
     have k' : RetR T av H' p st Q [((if isForm b = true then 1 else 0 : Nat) : Int)] := RetR.bat (st := st) k (Bat.ofA B') R'.some_
     have e9 : (if isForm b = true then (1 : Int) else 0) = ((if isForm b = true then 1 else 0 : Nat) : Int) := by
       cases isForm b <;> rfl
     rw [e9]
     exact k'.ret t' R'
   refine ⟨_, rfl, rfl, _, rfl, eqF h11 ?_⟩
   obtain ⟨es, c1, c2⟩ := step_ask (st := st) hA h1 h11
   rw [es] at k
   exact ⟨_, rfl, _, rfl, _, rfl, _, rfl, p, st, x, cl, iv, rv, rfl, hR, hS, ht, hA, c1, c2, k⟩
end
end My
end
section
namespace My
open PySem PySem.Spec PyProof.Rows L2 Of Pu
theorem cut_len (c : Bytes) (a n : Nat) : (cut c a n).length ≤ c.length := by unfold cut; rw [List.length_take, List.length_drop]; omega
noncomputable def Shrt (a : OfCalls.Answer) : Prop := (FormNeutral.told a).length ≤ 4002
theorem shrt_no (z : Int) : Shrt (OfCalls.no z) := by show 1 ≤ 4002; omega
theorem shrt_nat (n : Nat) : Shrt (.number n) := by show 2 ≤ 4002; omega
theorem shrt_by {b : Bytes} (h : b.length ≤ 4000) : Shrt (.bytes b) := by
 show (0 :: FormNeutral.bytesN b).length ≤ 4002
 unfold FormNeutral.bytesN FormNeutral.rowN
 simp
 omega
theorem shrt_at {c : Bytes} {i : Nat} {f : Of.Node → OfCalls.Answer} (h : ∀ x, Shrt (f x)) : Shrt (OfCalls.atNode c i f) := by
 unfold OfCalls.atNode
 cases (nodes c)[i]? with
 | none => exact shrt_no _
 | some x => exact h x
theorem shrt_ask {c : Bytes} (hc : c.length ≤ 4000) (x : OfCalls.Call) : Shrt (OfCalls.ask c x) := by
 cases x with
 | write => exact shrt_by hc
 | count => exact shrt_nat _
 | kind i => exact shrt_at fun _ => shrt_nat _
 | number i => exact shrt_at fun _ => shrt_nat _
 | copy i =>
   refine shrt_at fun x => ?_
   split
   · exact shrt_by (Nat.le_trans (cut_len _ _ _) hc)
   · exact shrt_no _
 | after i => exact shrt_at fun _ => shrt_nat _
 | part i => exact shrt_at fun _ => shrt_by (Nat.le_trans (cut_len _ _ _) hc)
 | find i k =>
   refine shrt_at fun x => ?_
   split
   · dsimp only
     split
     · exact shrt_no _
     · exact shrt_nat _
   · exact shrt_no _
 | same p =>
   show Shrt (match OfCalls.valueOf p with | .error z => OfCalls.no z | .ok b => .number (if b = c then 1 else 0))
   cases OfCalls.valueOf p with
   | error z => exact shrt_no _
   | ok b => exact shrt_nat _
 | read p => show 1 ≤ 4002; omega
 | canonical p => show 1 ≤ 4002; omega
theorem shrt_step {st : Option Bytes} (hS : StOk st) (x : OfCalls.Call) : Shrt (OfCalls.step st x).2 := by
 have ha : Shrt (askV st x) := by
   cases st with
   | none => exact shrt_no _
   | some c => exact shrt_ask (hS c rfl).2 x
 cases x with
 | read p =>
   show Shrt (match OfCalls.valueOf p with | .error z => (st, OfCalls.no z) | .ok b => (some b, .done)).2
   cases OfCalls.valueOf p with
   | error z => exact shrt_no _
   | ok b => show 1 ≤ 4002; omega
 | canonical p => exact shrt_nat _
 | _ => cases st <;> exact ha
theorem step_ok {st : Option Bytes} (hS : StOk st) {x : OfCalls.Call} {H : Hp} {cl : Int} {iv rv : V} (hA : CArg H cl iv rv x) : StOk (OfCalls.step st x).1 := by
 cases x with
 | read p =>
   obtain ⟨_, _, _, _, _, hb⟩ := hA
   show StOk (match OfCalls.valueOf p with | .error z => (st, OfCalls.no z) | .ok b => (some b, .done)).1
   cases ev : OfCalls.valueOf p with
   | error z => exact hS
   | ok b => intro c e; cases e; exact valueOf_ok hb ev
 | _ => exact hS
section
variable {P : Program} {w : World} {K : PySem.W.Frag} {mg : Str → Option Value} {base : Heap} {av : Addr}
theorem ne_of_nd {l : List Addr} (nd : l.Nodup) {i j : Nat} {a b : Addr} (h1 : l[i]? = some a) (h2 : l[j]? = some b) (h : i ≠ j) : a ≠ b := fun z => h (nodup_get nd h1 (by rw [z]; exact h2))
noncomputable def spAR (T : Tx P w K mg) (av : Addr) : Sp := fun vs H Q _ => ∃ (p : Addr) (st : Option Bytes) (x : OfCalls.Call) (cl : Int) (iv rv : V), vs = [.ref p, .int cl, iv, rv] ∧ RmAt T av H p st ∧ StOk st ∧ TabOk T H ∧ (∃ o, H av = some o) ∧ CArg H cl iv rv x ∧ RetR T av H p (OfCalls.step st x).1 Q (FormNeutral.told (OfCalls.step st x).2)
theorem sc89 : FnScope ["room", "call", "i", "row"] ["room", "call", "i", "row"] (defScope (top 89)) := ⟨rfl, rfl, rfl, by decide +kernel, rfl, by decide +kernel, by decide +kernel⟩
theorem ok_AR (T : Tx P w K mg) (Z : Xs T) {f : Addr} {fd : FuncData} (F : Fun K "answer_or_refusal" "answer_or_refusal" (top 89) f fd) (DA : Dfn P w K mg base 43 "answer" ["room", "call", "i", "row"] (spAns T av)) : FnOk P w K mg base (CXE P w) 44 f fd ["room", "call", "i", "row"] (spAR T av) := by
 refine F.okE sc89 (fun vs H Q E h => ?_) (fun cdv A outer s H vs Q E hr h => ?_)
 · obtain ⟨p, st, x, cl, iv, rv, rfl, _⟩ := h
   rfl
 · obtain ⟨p, st, x, cl, iv, rv, rfl, hR, hS, ht, ⟨ov, hov⟩, hA, k⟩ := h
   have hsh := shrt_step hS x
   refine ⟨_, pss_one (ps_try fun pins D => pss_one (ps_ret (pe_op op_cat (pe_lst (pa_cons pe_int pa_nil)) (pe_d DA pass_try hr (pa_cons (pv 0) (pa_cons (pv 1) (pa_cons (pv 2) (pa_cons (pv 3) pa_nil)))))))), ?_⟩
   have one : 1 ≤ sizeLine := by rw [sizeLine_eq]; omega
   refine ⟨one, fun q0 hq0 => ?_⟩
   have s0 : Same H (upd H q0 (.lst [V.int 0])) := Same.upd hq0
   refine ⟨_, rfl, _, rfl, _, rfl, _, rfl, p, st, x, cl, iv, rv, rfl, hR.same s0, hS, ht.same s0, ⟨ov, s0 _ _ hov⟩, hA.keep (fun b xs e => s0 _ _ e), ?_⟩
   have hq00 : (upd H q0 (.lst [V.int 0])) q0 = some (.lst [V.int 0]) := upd_same
   obtain ⟨dxp, fvp, nqp', hpp, _⟩ := id hR
   have hpp0 := s0 _ _ hpp
   generalize upd H q0 (.lst [V.int 0]) = H0 at *
   have nq0p : q0 ≠ p := lst_ne_ins hq00 hpp0
   have back : ∀ l : List Int, FormNeutral.told (OfCalls.step st x).2 = 0 :: l → RetR T av H0 p (OfCalls.step st x).1 (fun y H' => rCat (.ref q0) y H' Q) l := by
     intro l el q H' hq B' t' R' e'
     rw [el] at k
     have hl : l.length ≤ 4002 := by
       unfold Shrt at hsh
       rw [el, List.length_cons] at hsh
       omega
     refine ⟨q0, q, _, _, rfl, rfl, B'.lst hq00 nq0p, e', (by rw [vi_length, sizeLine_eq]; show 1 + _ ≤ _; omega), fun q2 hq2 => ?_⟩
     have s2 : Same H' (upd H' q2 (.lst ([V.int 0] ++ vi l))) := Same.upd hq2
     have B : Bat p H H' := (Bat.ofS s0).trans B'
     obtain ⟨o, ho⟩ := R'.some_
     exact k q2 _ (B.free hq2 (ne_of_none ho hq2).symm) (B.trans (Bat.ofS s2)) (t'.same s2) (R'.same s2) upd_same
   cases ea : (OfCalls.step st x).2 with
   | done => exact back [] (by rw [ea]; rfl)
   | number n => exact back [(n : Int)] (by rw [ea]; rfl)
   | bytes b =>
     refine back _ (by rw [ea]; show 0 :: FormNeutral.bytesN b = _; unfold FormNeutral.bytesN FormNeutral.rowN; rw [List.length_map]; rfl)
   | refused z =>
     intro C H' hc B' t' R'
     rw [ea] at k
     have k : RetR T av H p (OfCalls.step st x).1 Q [z] := k
     have B : Bat p H H' := (Bat.ofS s0).trans B'
     have fin : ∀ q, H' q = none → Q (.ref q) (upd H' q (.lst [V.int z])) := fun q hq => by
       obtain ⟨o, ho⟩ := R'.some_
       have s2 : Same H' (upd H' q (.lst [V.int z])) := Same.upd hq
       exact k q _ (B.free hq (ne_of_none ho hq).symm) (B.trans (Bat.ofS s2)) (t'.same s2) (R'.same s2) upd_same
     refine ⟨C, rfl, ?_⟩
     have nd := Z.nd
     rcases hc with ⟨rfl, rfl⟩ | ⟨rfl, rfl | rfl⟩ | ⟨rfl, rfl | rfl | rfl⟩ | ⟨rfl, rfl⟩
     · exact .here rfl T.oV.bound (Z.same _ (by simp)) (by decide) (fun e pins => pss_one (ps_ret (pe_lst (pa_cons (pe_un un_neg pe_int) pa_nil)))) fun σ => ⟨_, rfl, one, fin⟩
     · exact .next rfl T.oV.bound (Z.other _ (by simp) _ (by simp) (ne_of_nd nd (i := 1) (j := 0) rfl rfl (by decide))) (by decide)
         (.here rfl T.oF.bound (Z.same _ (by simp)) (by decide) (fun e pins => pss_one (ps_ret (pe_lst (pa_cons (pe_un un_neg pe_int) pa_nil)))) fun σ => ⟨_, rfl, one, fin⟩)
     · exact .next rfl T.oV.bound (Z.other _ (by simp) _ (by simp) (ne_of_nd nd (i := 3) (j := 0) rfl rfl (by decide))) (by decide)
         (.next rfl T.oF.bound (Z.other _ (by simp) _ (by simp) (ne_of_nd nd (i := 3) (j := 1) rfl rfl (by decide))) (by decide)
         (.next rfl T.oT.bound (Z.other _ (by simp) _ (by simp) (ne_of_nd nd (i := 3) (j := 2) rfl rfl (by decide))) (by decide)
         (.here rfl T.oN.bound (Z.same _ (by simp)) (by decide) (fun e pins => pss_one (ps_ret (pe_lst (pa_cons (pe_un un_neg pe_int) pa_nil)))) fun σ => ⟨_, rfl, one, fin⟩)))
     · exact .next rfl T.oV.bound (Z.other _ (by simp) _ (by simp) (ne_of_nd nd (i := 2) (j := 0) rfl rfl (by decide))) (by decide)
         (.next rfl T.oF.bound (Z.other _ (by simp) _ (by simp) (ne_of_nd nd (i := 2) (j := 1) rfl rfl (by decide))) (by decide)
         (.here rfl T.oT.bound (Z.same _ (by simp)) (by decide) (fun e pins => pss_one (ps_ret (pe_lst (pa_cons (pe_un un_neg pe_int) pa_nil)))) fun σ => ⟨_, rfl, one, fin⟩))
     · exact .next rfl T.oV.bound (Z.other _ (by simp) _ (by simp) (ne_of_nd nd (i := 4) (j := 0) rfl rfl (by decide))) (by decide)
         (.next rfl T.oF.bound (Z.other _ (by simp) _ (by simp) (ne_of_nd nd (i := 4) (j := 1) rfl rfl (by decide))) (by decide)
         (.next rfl T.oT.bound (Z.other _ (by simp) _ (by simp) (ne_of_nd nd (i := 4) (j := 2) rfl rfl (by decide))) (by decide)
         (.next rfl T.oN.bound (Z.other _ (by simp) _ (by simp) (ne_of_nd nd (i := 4) (j := 3) rfl rfl (by decide))) (by decide)
         (.here rfl T.oS.bound (Z.same _ (by simp)) (by decide) (fun e pins => pss_one (ps_ret (pe_lst (pa_cons (pe_un un_neg pe_int) pa_nil)))) fun σ => ⟨_, rfl, one, fin⟩))))
     · exact .next rfl T.oV.bound (Z.other _ (by simp) _ (by simp) (ne_of_nd nd (i := 5) (j := 0) rfl rfl (by decide))) (by decide)
         (.next rfl T.oF.bound (Z.other _ (by simp) _ (by simp) (ne_of_nd nd (i := 5) (j := 1) rfl rfl (by decide))) (by decide)
         (.next rfl T.oT.bound (Z.other _ (by simp) _ (by simp) (ne_of_nd nd (i := 5) (j := 2) rfl rfl (by decide))) (by decide)
         (.next rfl T.oN.bound (Z.other _ (by simp) _ (by simp) (ne_of_nd nd (i := 5) (j := 3) rfl rfl (by decide))) (by decide)
         (.next rfl T.oS.bound (Z.other _ (by simp) _ (by simp) (ne_of_nd nd (i := 5) (j := 4) rfl rfl (by decide))) (by decide)
         (.here rfl T.oM.bound (Z.same _ (by simp)) (by decide) (fun e pins => pss_one (ps_ret (pe_lst (pa_cons (pe_un un_neg pe_int) pa_nil)))) fun σ => ⟨_, rfl, one, fin⟩)))))
     · exact .next rfl T.oV.bound (Z.other _ (by simp) _ (by simp) (ne_of_nd nd (i := 6) (j := 0) rfl rfl (by decide))) (by decide)
         (.next rfl T.oF.bound (Z.other _ (by simp) _ (by simp) (ne_of_nd nd (i := 6) (j := 1) rfl rfl (by decide))) (by decide)
         (.next rfl T.oT.bound (Z.other _ (by simp) _ (by simp) (ne_of_nd nd (i := 6) (j := 2) rfl rfl (by decide))) (by decide)
         (.next rfl T.oN.bound (Z.other _ (by simp) _ (by simp) (ne_of_nd nd (i := 6) (j := 3) rfl rfl (by decide))) (by decide)
         (.next rfl T.oS.bound (Z.other _ (by simp) _ (by simp) (ne_of_nd nd (i := 6) (j := 4) rfl rfl (by decide))) (by decide)
         (.next rfl T.oM.bound (Z.other _ (by simp) _ (by simp) (ne_of_nd nd (i := 6) (j := 5) rfl rfl (by decide))) (by decide)
         (.here rfl T.oK.bound (Z.same _ (by simp)) (by decide) (fun e pins => pss_one (ps_ret (pe_lst (pa_cons (pe_un un_neg pe_int) pa_nil)))) fun σ => ⟨_, rfl, one, fin⟩))))))
end
end My
end
section
namespace My
open PySem PySem.Spec PyProof.Rows L2 Of Pu
noncomputable def takesOf (k : Int) : List Str := if k = 1 ∨ k = 10 ∨ k = 11 then ["row"] else if k = 2 ∨ k = 3 then [] else if k = 9 then ["node", "row"] else ["node"]
noncomputable def iPart : Option Nat → List Int
 | none => []
 | some i => [(i : Int)]
noncomputable def bPart : Option Bytes → List Int
 | none => []
 | some b => (b.length : Int) :: bi b
noncomputable def iVal : Option Nat → V
 | none => .non
 | some i => .int i
noncomputable def bVal (H : Hp) (rv : V) : Option Bytes → Prop
 | none => rv = .non
 | some b => ∃ a, rv = .ref a ∧ H a = some (.lst (vb b))
structure Parts (rem : List Int) (x : OfCalls.Call) (t : List Int) (cl : Int) (oi : Option Nat) (ob : Option Bytes) : Prop where
 eq : rem = cl :: (iPart oi ++ (bPart ob ++ t))
 lo : 1 ≤ cl
 hi : cl ≤ 11
 nd : inV (.str "node") ((takesOf cl).map V.str) = oi.isSome
 rw_ : inV (.str "row") ((takesOf cl).map V.str) = ob.isSome
 fl : ((takesOf cl).map V.str).all flatV = true
 arg : ∀ H rv, bVal H rv ob → CArg H cl (iVal oi) rv x
theorem parts_of {rem t : List Int} {x : OfCalls.Call} (h : OneCall rem x t) : ∃ cl oi ob, Parts rem x t cl oi ob := by
 cases h with
 | read hb => exact ⟨1, none, some _, rfl, by decide, by decide, (by first | decide +kernel | (show _ = true; decide +kernel)), (by first | decide +kernel | (show _ = true; decide +kernel)), by decide +kernel, fun H rv ⟨a, e, e2⟩ => ⟨rfl, rfl, a, e, e2, hb⟩⟩
 | write => exact ⟨2, none, none, rfl, by decide, by decide, (by first | decide +kernel | (show _ = true; decide +kernel)), (by first | decide +kernel | (show _ = true; decide +kernel)), by decide +kernel, fun H rv e => ⟨rfl, rfl, e⟩⟩
 | count => exact ⟨3, none, none, rfl, by decide, by decide, (by first | decide +kernel | (show _ = true; decide +kernel)), (by first | decide +kernel | (show _ = true; decide +kernel)), by decide +kernel, fun H rv e => ⟨rfl, rfl, e⟩⟩
 | kind hi => exact ⟨4, some _, none, rfl, by decide, by decide, (by first | decide +kernel | (show _ = true; decide +kernel)), (by first | decide +kernel | (show _ = true; decide +kernel)), by decide +kernel, fun H rv e => ⟨rfl, rfl, e⟩⟩
 | number hi => exact ⟨5, some _, none, rfl, by decide, by decide, (by first | decide +kernel | (show _ = true; decide +kernel)), (by first | decide +kernel | (show _ = true; decide +kernel)), by decide +kernel, fun H rv e => ⟨rfl, rfl, e⟩⟩
 | copy hi => exact ⟨6, some _, none, rfl, by decide, by decide, (by first | decide +kernel | (show _ = true; decide +kernel)), (by first | decide +kernel | (show _ = true; decide +kernel)), by decide +kernel, fun H rv e => ⟨rfl, rfl, e⟩⟩
 | after hi => exact ⟨7, some _, none, rfl, by decide, by decide, (by first | decide +kernel | (show _ = true; decide +kernel)), (by first | decide +kernel | (show _ = true; decide +kernel)), by decide +kernel, fun H rv e => ⟨rfl, rfl, e⟩⟩
 | part hi => exact ⟨8, some _, none, rfl, by decide, by decide, (by first | decide +kernel | (show _ = true; decide +kernel)), (by first | decide +kernel | (show _ = true; decide +kernel)), by decide +kernel, fun H rv e => ⟨rfl, rfl, e⟩⟩
 | find hi hb => exact ⟨9, some _, some _, rfl, by decide, by decide, (by first | decide +kernel | (show _ = true; decide +kernel)), (by first | decide +kernel | (show _ = true; decide +kernel)), by decide +kernel, fun H rv ⟨a, e, e2⟩ => ⟨rfl, rfl, a, e, e2, hb⟩⟩
 | same hb => exact ⟨10, none, some _, rfl, by decide, by decide, (by first | decide +kernel | (show _ = true; decide +kernel)), (by first | decide +kernel | (show _ = true; decide +kernel)), by decide +kernel, fun H rv ⟨a, e, e2⟩ => ⟨rfl, rfl, a, e, e2, hb⟩⟩
 | canonical hb => exact ⟨11, none, some _, rfl, by decide, by decide, (by first | decide +kernel | (show _ = true; decide +kernel)), (by first | decide +kernel | (show _ = true; decide +kernel)), by decide +kernel, fun H rv ⟨a, e, e2⟩ => ⟨rfl, rfl, a, e, e2, hb⟩⟩
section
variable {P : Program} {w : World} {K : PySem.W.Frag} {mg : Str → Option Value} {base : Heap}
structure Tk (T : Tx P w K mg) (aT : Addr) : Prop where
 m : mg "TAKES" = some (.ref aT)
 t : ∀ k : Int, 1 ≤ k → k ≤ 11 → ∃ t, TabI P w K aT k (.ref t) ∧ ∀ H, SqT K H t ((takesOf k).map V.str)
theorem FnOk.ex {CX : CXT} {k : Nat} {f : Addr} {fd : FuncData} {ps : List Str} {sp : Addr → Sp} (h : ∀ a, FnOk P w K mg base CX k f fd ps (sp a)) : FnOk P w K mg base CX k f fd ps (fun vs H Q E => ∃ a, sp a vs H Q E) :=
 ⟨fun vs H Q E ⟨a, z⟩ => (h a).len vs H Q E z, fun A outer s H args us vs Q E hr e0 b v ⟨a, z⟩ => (h a).run A outer s H args us vs Q E hr e0 b v z⟩
structure Lp (T : Tx P w K mg) (H H' : Hp) (a lp rp q : Addr) (l : List Int) (at_ : Nat) (st : Option Bytes) (tl : List Int) : Prop where
 bat : BatA H H'
 ln : LnAt K T.CL H' lp a l at_
 rm : RmAt T q H' rp st
 st : StOk st
 tab : TabOk T H'
 out : H' q = some (.lst (vi tl))
theorem ln_ne_rm {C C' lp rp dx dx' nq a : Addr} {H : Hp} {at_ : Nat} {fv : V} (h1 : H lp = some (.ins C dx (lnF a at_))) (h2 : H rp = some (.ins C' dx' (rmF fv nq))) : lp ≠ rp :=
 ne_of h1 h2 (by intro z; injection z with _ _ z; simp [lnF, rmF] at z)
theorem ln_ne_nd {C C' lp r dx dx' a : Addr} {H : Hp} {at_ : Nat} {x : Of.Node} {af : V} (h1 : H lp = some (.ins C dx (lnF a at_))) (h2 : H r = some (.ins C' dx' (ndF x af))) : r ≠ lp :=
 (ne_of h1 h2 (by intro z; injection z with _ _ z; simp [lnF, ndF] at z)).symm
theorem Lp.line {T : Tx P w K mg} {H H1 H2 : Hp} {a lp rp q : Addr} {l : List Int} {at_ at2 : Nat} {st : Option Bytes} {tl : List Int} (h : Lp T H H1 a lp rp q l at_ st tl) (hlp : H lp = none) (B : But lp H1 H2) (L : LnAt K T.CL H2 lp a l at2) : Lp T H H2 a lp rp q l at2 st tl := by
 obtain ⟨⟨dx, e1⟩, e2⟩ := h.ln
 obtain ⟨dr, fv, nq, hr, hF⟩ := h.rm
 refine ⟨h.bat.ofB hlp (Bat.of B), L, ⟨dr, fv, nq, B _ _ hr (ln_ne_rm e1 hr).symm, hF.keep (fun b xs e => B _ _ e (lst_ne_ins e e1)) (fun b C dx x af e => B _ _ e (ln_ne_nd e1 e))⟩, h.st, h.tab.but e1 B, B _ _ h.out (lst_ne_ins h.out e1)⟩
theorem Lp.room {T : Tx P w K mg} {H H1 H2 : Hp} {a lp rp q : Addr} {l : List Int} {at_ : Nat} {st st2 : Option Bytes} {tl : List Int} (h : Lp T H H1 a lp rp q l at_ st tl) (hrp : H rp = none) (B : Bat rp H1 H2) (R : RmAt T q H2 rp st2) (S : StOk st2) (t : TabOk T H2) : Lp T H H2 a lp rp q l at_ st2 tl := by
 obtain ⟨⟨dx, e1⟩, e2⟩ := h.ln
 obtain ⟨dr, fv, nq, hr, hF⟩ := h.rm
 exact ⟨h.bat.ofB hrp B, ⟨⟨dx, B.ins e1 (ln_ne_rm e1 hr)⟩, SqL.bat e2 hr B⟩, R, S, t, B.lst h.out (lst_ne_ins h.out hr)⟩
theorem Lp.told {T : Tx P w K mg} {H H1 : Hp} {a lp rp q : Addr} {l : List Int} {at_ : Nat} {st : Option Bytes} {tl tl2 : List Int} (h : Lp T H H1 a lp rp q l at_ st tl) (hq : H q = none) (ha : SqL K H a (vi l)) : Lp T H (L2.upd H1 q (.lst (vi tl2))) a lp rp q l at_ st tl2 := by
 obtain ⟨⟨dx, e1⟩, e2⟩ := h.ln
 obtain ⟨dr, fv, nq, hr, hF⟩ := h.rm
 have n1 : lp ≠ q := (lst_ne_ins h.out e1).symm
 have n2 : rp ≠ q := (lst_ne_ins h.out hr).symm
 have B : BatA H (L2.upd H1 q (.lst (vi tl2))) := fun b o e => by
   rw [upd_ne (ne_of_none e hq)]
   exact h.bat b o e
 refine ⟨B, ⟨⟨dx, by rw [upd_ne n1]; exact e1⟩, SqL.batA ha B⟩, ⟨dr, fv, nq, by rw [upd_ne n2]; exact hr, ?_⟩, h.st, h.tab.upd h.out, upd_same⟩
 cases st with
 | none => exact hF
 | some c =>
   obtain ⟨a1, f1, f2, ⟨rs, f3, f4, f5⟩, f6, f7⟩ := hF
   refine ⟨a1, f1, by rw [upd_ne f6]; exact f2, ⟨rs, by rw [upd_ne f7]; exact f3, f4, fun j r e => ?_⟩, f6, f7⟩
   obtain ⟨x, hx, dx', hd⟩ := f5 j r e
   exact ⟨x, hx, dx', by rw [upd_ne (lst_ne_ins h.out hd).symm]; exact hd⟩
noncomputable def spAn (T : Tx P w K mg) : Sp := fun vs H Q _ => ∃ (a : Addr) (l : List Int) (ops : List OfCalls.Call), vs = [.ref a] ∧ SqL K H a (vi l) ∧ TabOk T H ∧ Lines l ops ∧ ops.length ≤ 16 ∧ ∀ q H', H q = none → BatA H H' → TabOk T H' → H' q = some (.lst (vi (run none ops))) → Q (.ref q) H'
theorem sc90 : FnScope ["calls", "line", "room", "told", "call", "i", "row", "numbers"] ["calls"] (defScope (top 90)) := ⟨rfl, rfl, rfl, by decide +kernel, rfl, by decide +kernel, by decide +kernel⟩
noncomputable def spARx (T : Tx P w K mg) : Sp := fun vs H Q E => ∃ av, spAR T av vs H Q E
noncomputable def lenR (K : PySem.W.Frag) : List V → Hp → VK → Prop := fun xs H Q => ∃ p ys, xs = [.ref p] ∧ (SqL K H p ys ∨ SqT K H p ys) ∧ Q (.int (ys.length : Int)) H
noncomputable def sA3 (T : Tx P w K mg) (E : XK) : TS := tSeq (tAsg (tCall (spARx T) [] E (tCons (tVar 2) (tCons (tVar 4) (tCons (tVar 5) (tCons (tVar 6) tNil))))) (gName 7)) (tSeq (tDrop (tBM K "list" rAppend (tVar 3) (tCons (tCB (lenR K) (tCons (tVar 7) tNil)) tNil))) (tDrop (tBM K "list" rExtend (tVar 3) (tCons (tVar 7) tNil))))
noncomputable def sA2 (T : Tx P w K mg) (aT : Addr) (E : XK) : TS := tSeq (tAsg (tIf (tTest (tOp (rIn K false) (tC (.str "row")) (tTab P w K (tC (.ref aT)) (tVar 4)))) (tMeth T.CL "take_row" (spTR T) [] E (tVar 1) tNil) (tC .non)) (gName 6)) (sA3 T E)
theorem iteIn {x : V} {xs : List V} {c : Bool} {A B : Prop} (h : inV x xs = c) (k : if c = true then A else B) : if (if false = true then !inV x xs else inV x xs) = true then A else B := by
 rw [if_neg (show ¬ (false = true) by decide), h]
 exact k
theorem A3_ok (T : Tx P w K mg) {E : XK} {D : Ends} {H H1 : Hp} {a lp rp q : Addr} {l : List Int} {at_ : Nat} {st : Option Bytes} {tl : List Int} {x : OfCalls.Call} {cl : Int} {iv rv : V} {nv : Option V} (h : Lp T H H1 a lp rp q l at_ st tl) (hq : H q = none) (ha : SqL K H a (vi l)) (hrp : H rp = none) (hA : CArg H1 cl iv rv x) (hb : tl.length ≤ 64048)
   (k : ∀ H2 nv, Lp T H H2 a lp rp q l at_ (OfCalls.step st x).1 (tl ++ (((FormNeutral.told (OfCalls.step st x).2).length : Int) :: FormNeutral.told (OfCalls.step st x).2)) → D.nx [some (.ref a), some (.ref lp), some (.ref rp), some (.ref q), some (.int cl), some iv, some rv, some nv] H2) :
   sA3 T E D [some (.ref a), some (.ref lp), some (.ref rp), some (.ref q), some (.int cl), some iv, some rv, nv] H1 := by
 have hsh := shrt_step h.st x
 unfold Shrt at hsh
 refine ⟨_, rfl, _, rfl, _, rfl, _, rfl, q, rp, st, x, cl, iv, rv, rfl, h.rm, h.st, h.tab, ⟨_, h.out⟩, hA, fun q2 H2 hq2 B2 t2 R2 e2 => ?_⟩
 have h2 := h.room hrp B2 R2 (step_ok h.st hA) t2
 have nqq : q2 ≠ q := (ne_of_none h.out hq2).symm
 refine ⟨_, rfl, .inl ⟨rfl, _, SqL.of h2.out⟩, _, rfl, q2, _, rfl, .inl (SqL.of e2), q, _, _, rfl, rfl, h2.out, (by rw [vi_length, sizeLine_eq]; omega), ?_⟩
 rw [vi_length]
 have e3 : vi tl ++ [V.int ((FormNeutral.told (OfCalls.step st x).2).length : Int)] = vi (tl ++ [((FormNeutral.told (OfCalls.step st x).2).length : Int)]) := by rw [vi_append]; rfl
 rw [e3]
 have h3 := h2.told (tl2 := tl ++ [((FormNeutral.told (OfCalls.step st x).2).length : Int)]) hq ha
 have e2' : (L2.upd H2 q (.lst (vi (tl ++ [((FormNeutral.told (OfCalls.step st x).2).length : Int)])))) q2 = some (.lst (vi (FormNeutral.told (OfCalls.step st x).2))) := by rw [upd_ne nqq]; exact e2
 refine ⟨_, rfl, .inl ⟨rfl, _, SqL.of h3.out⟩, _, rfl, q, q2, _, _, rfl, rfl, h3.out, e2', (by rw [vi_length, vi_length, List.length_append, sizeLine_eq]; show _ + 1 + _ ≤ _; omega), ?_⟩
 rw [← vi_append, List.append_assoc]
 exact k _ _ (h3.told hq ha)
theorem A2_ok (T : Tx P w K mg) {aT : Addr} (Y : Tk T aT) {E : XK} {D : Ends} {H H1 : Hp} {a lp rp q : Addr} {l rem t : List Int} {at_ : Nat} {st : Option Bytes} {tl : List Int} {x : OfCalls.Call} {cl : Int} {oi : Option Nat} {ob : Option Bytes} {rv nv : Option V} (h : Lp T H H1 a lp rp q l at_ st tl) (hq : H q = none) (ha : SqL K H a (vi l)) (hlp : H lp = none) (hrp : H rp = none) (Pt : Parts rem x t cl oi ob) (hd : l.drop at_ = bPart ob ++ t) (hb : tl.length ≤ 64048)
   (k : ∀ H2 rv nv at2, at_ ≤ at2 → l.drop at2 = t → Lp T H H2 a lp rp q l at2 (OfCalls.step st x).1 (tl ++ (((FormNeutral.told (OfCalls.step st x).2).length : Int) :: FormNeutral.told (OfCalls.step st x).2)) → D.nx [some (.ref a), some (.ref lp), some (.ref rp), some (.ref q), some (.int cl), some (iVal oi), some rv, some nv] H2) :
   sA2 T aT E D [some (.ref a), some (.ref lp), some (.ref rp), some (.ref q), some (.int cl), some (iVal oi), rv, nv] H1 := by
 obtain ⟨tt, h1, h2⟩ := Y.t cl Pt.lo Pt.hi
 refine ⟨_, rfl, aT, cl, _, rfl, rfl, h1, tt, _, rfl, .inr (h2 H1), rfl, Pt.fl, _, rfl, iteIn Pt.rw_ ?_⟩
 obtain ⟨⟨dx, e1⟩, e2⟩ := id h.ln
 cases ob with
 | none =>
   refine iteF ?_
   exact A3_ok T h hq ha hrp (Pt.arg H1 .non rfl) hb fun H2 nv h' => k H2 _ nv at_ (Nat.le_refl _) hd h'
 | some b =>
   refine iteT ?_
   refine ⟨_, rfl, lp, dx, _, rfl, e1, rfl, lp, a, l, at_, b, t, rfl, h.ln, hd, fun q1 H2 hq1 B2 L2 e' => ?_⟩
   refine A3_ok T (h.line hlp B2 L2) hq ha hrp (Pt.arg H2 (.ref q1) ⟨q1, rfl, e'⟩) hb fun H3 nv h' => k H3 _ nv (at_ + 1 + b.length) (by omega) ?_ h'
   rw [Nat.add_assoc, ← List.drop_drop, hd]
   show ((b.length : Int) :: (bi b ++ t)).drop (1 + b.length) = t
   rw [Nat.add_comm 1, List.drop_succ_cons, List.drop_left' (bi_length b)]
theorem lines_inv {l : List Int} {ops : List OfCalls.Call} (h : Lines l ops) : (l = [] ∧ ops = []) ∨ ∃ x t ops', ops = x :: ops' ∧ OneCall l x t ∧ Lines t ops' := by
 cases h with
 | nil => exact .inl ⟨rfl, rfl⟩
 | cons h1 h2 => exact .inr ⟨_, _, _, rfl, h1, h2⟩
theorem ok_An (T : Tx P w K mg) {aT : Addr} (Y : Tk T aT) {f : Addr} {fd : FuncData} (F : Fun K "answers" "answers" (top 90) f fd) (ML : Mkr P w K mg base 1 T.CL "Line" ["self", "calls"] (spLn T)) (MR : Mkr P w K mg base 1 T.CM "Room" ["self"] (spRm T aT)) (MH : Mth P w K mg base 1 T.CL "has_more" ["self"] (spHM T)) (MN : Mth P w K mg base 1 T.CL "take_number" ["self"] (spTN T)) (MW : Mth P w K mg base 2 T.CL "take_row" ["self"] (spTR T))
   (DA : Dfn P w K mg base 44 "answer_or_refusal" ["room", "call", "i", "row"] (spARx T)) : FnOk P w K mg base (CXE P w) 45 f fd ["calls"] (spAn T) := by
 refine F.okE sc90 (fun vs H Q E h => ?_) (fun cdv A outer s H vs Q E hr h => ?_)
 · obtain ⟨a, l, ops, rfl, _⟩ := h
   rfl
 · obtain ⟨a, l, ops0, rfl, ha, ht, hL0, hlen, k⟩ := h
   have hr1 := hr.mono (j := 1) (by omega)
   have hr2 := hr.mono (j := 2) (by omega)
   refine ⟨_, pss_cons (ps_set (i := 1) sc90.nd rfl (Or.inl rfl) (pe_mk ML pass_fly hr2 (pa_cons (pv 0) pa_nil)))
     (pss_cons (ps_set (i := 2) sc90.nd rfl (Or.inl rfl) (pe_mk0 MR pass_fly hr2))
     (pss_cons (ps_set (i := 3) sc90.nd rfl (Or.inl rfl) (pe_lst pa_nil))
     (pss_cons (ps_while PassesOwn.leaving (pt_val (pe_m0 MH T.clL pass_fly hr1 (pv 1)))
       (pss_cons (ps_set (i := 4) sc90.nd rfl (Or.inl rfl) (pe_m0 MN T.clL pass_fly hr1 (pv 1)))
       (pss_cons (ps_set (i := 5) sc90.nd rfl (Or.inl rfl) (pe_ifExp (pt_cmpR op_in_seq pe_str (pe_tab (pe_r Y.m) (pv 4) (fun _ _ => rfl)) rfl) (pe_m0 MN T.clL pass_fly hr1 (pv 1)) pe_non))
       (pss_cons (ps_set (i := 6) sc90.nd rfl (Or.inl rfl) (pe_ifExp (pt_cmpR op_in_seq pe_str (pe_tab (pe_r Y.m) (pv 4) (fun _ _ => rfl)) rfl) (pe_m0 MW T.clL pass_fly hr2 (pv 1)) pe_non))
       (pss_cons (ps_set (i := 7) sc90.nd rfl (Or.inl rfl) (pe_d DA pass_fly hr (pa_cons (pv 2) (pa_cons (pv 4) (pa_cons (pv 5) (pa_cons (pv 6) pa_nil))))))
       (pss_cons (ps_expr (pe_bm PySem.F.plainAttrs_list PySem.F.slot_list_append PySem.F.type_list_append mt_append (pv 3) (pa_cons (pe_callB call_len_seq (by rfl) T.len PySem.boot_len (pa_cons (pv 7) pa_nil)) pa_nil)))
       (pss_one (ps_expr (pe_bm PySem.F.plainAttrs_list PySem.F.slot_list_extend PySem.F.type_list_extend mt_extend (pv 3) (pa_cons (pv 7) pa_nil))))))))))
     (pss_one (ps_ret (pv 3)))))), ?_⟩
   refine ⟨_, rfl, fun lp dl hlp hdl ndl => ?_⟩
   have sa : Same H (upd (upd H dl (.own lp)) lp (.ins T.CL dl [])) := fun b o e => by rw [upd_ne (ne_of_none e hlp), upd_ne (ne_of_none e hdl)]; exact e
   refine ⟨lp, dl, a, l, rfl, upd_same, SqL.same ha sa, fun H1 L1 B1 => ⟨rfl, ?_⟩⟩
   have s1 : Same H H1 := fun b o e => B1 b o (by rw [upd_ne (ne_of_none e hlp), upd_ne (ne_of_none e hdl)]; exact e) (ne_of_none e hlp)
   obtain ⟨⟨dx1, hl1⟩, ha1⟩ := id L1
   intro rp dr hrp hdr ndr
   have hrpH : H rp = none := s1.free hrp
   refine ⟨rp, dr, rfl, upd_same, fun H2 R2 B2 => ⟨rfl, ?_⟩⟩
   have s2 : Same H1 H2 := fun b o e => B2 b o (by rw [upd_ne (ne_of_none e hrp), upd_ne (ne_of_none e hdr)]; exact e) (ne_of_none e hrp)
   refine ⟨Nat.zero_le _, fun q hq2 => ?_⟩
   have hq : H q = none := s1.free (s2.free hq2)
   have s3 : Same H2 (upd H2 q (.lst [])) := Same.upd hq2
   refine ⟨fun ms σ H' => ∃ (at_ : Nat) (st : Option Bytes) (tl : List Int) (ops : List OfCalls.Call) (cv iv rv nv : Option V), σ = [some (.ref a), some (.ref lp), some (.ref rp), some (.ref q), cv, iv, rv, nv] ∧ Lp T H H' a lp rp q l at_ st tl ∧ Lines (l.drop at_) ops ∧ run none ops0 = tl ++ run st ops ∧ tl.length + 4003 * ops.length ≤ 64048 ∧ ms = l.length - at_,
     ⟨_, 0, none, [], ops0, none, none, none, none, rfl, ?_, hL0, rfl, by simp; omega, rfl⟩, ?_⟩
   · obtain ⟨d1, f1, n1, e1, e2⟩ := R2
     exact ⟨BatA.of ((s1.trans s2).trans s3), (L1.same s2).same s3, ⟨d1, f1, n1, s3 _ _ e1, e2⟩, (fun c z => by cases z), ((ht.same s1).same s2).same s3, upd_same⟩
   rintro ms σ H' ⟨at_, st, tl, ops, cv, iv, rv, nv, rfl, h, hL, hrun, hsz, rfl⟩
   obtain ⟨⟨dx, e1⟩, e2⟩ := id h.ln
   refine ⟨_, rfl, lp, dx, _, rfl, e1, rfl, lp, a, l, at_, rfl, h.ln, _, rfl, iteB (fun h1 => ?_) (fun h1 => ?_)⟩
   · have h1' := of_decide_eq_true h1
     rcases lines_inv hL with ⟨z, _⟩ | ⟨x, t, ops', rfl, hO, hL'⟩
     · have := congrArg List.length z
       rw [List.length_drop] at this
       simp at this
       omega
     obtain ⟨cl, oi, ob, Pt⟩ := parts_of hO
     obtain ⟨z1, z2⟩ := dropI Pt.eq
     refine ⟨_, fun σ' H'' z => z, ?_⟩
     refine ⟨_, rfl, lp, dx, _, rfl, e1, rfl, lp, a, l, at_, cl, rfl, h.ln, z1, fun H3 B3 L3 => ?_⟩
     have h3 := h.line hlp B3 L3
     rw [List.length_cons] at hsz
     have hsh := shrt_step h.st x
     unfold Shrt at hsh
     have next : ∀ H4 iv rv nv at2, at_ + 1 ≤ at2 → l.drop at2 = t → Lp T H H4 a lp rp q l at2 (OfCalls.step st x).1 (tl ++ (((FormNeutral.told (OfCalls.step st x).2).length : Int) :: FormNeutral.told (OfCalls.step st x).2)) →
         ∃ m', m' < l.length - at_ ∧ ∃ (at_ : Nat) (st : Option Bytes) (tl : List Int) (ops : List OfCalls.Call) (cv iv' rv' nv' : Option V), [some (V.ref a), some (.ref lp), some (.ref rp), some (.ref q), some (.int cl), some iv, some rv, some nv] = [some (.ref a), some (.ref lp), some (.ref rp), some (.ref q), cv, iv', rv', nv'] ∧ Lp T H H4 a lp rp q l at_ st tl ∧ Lines (l.drop at_) ops ∧ run none ops0 = tl ++ run st ops ∧ tl.length + 4003 * ops.length ≤ 64048 ∧ m' = l.length - at_ := by
       intro H4 iv rv nv at2 hle hd h4
       refine ⟨l.length - at2, by omega, at2, _, _, ops', some (.int cl), some iv, some rv, some nv, rfl, h4, by rw [hd]; exact hL', ?_, ?_, rfl⟩
       · rw [hrun, List.append_assoc]
         rfl
       · rw [List.length_append, List.length_cons]
         omega
     obtain ⟨tt, g1, g2⟩ := Y.t cl Pt.lo Pt.hi
     refine ⟨_, rfl, aT, cl, _, rfl, rfl, g1, tt, _, rfl, .inr (g2 H3), rfl, Pt.fl, _, rfl, iteIn Pt.nd ?_⟩
     obtain ⟨⟨dx3, e13⟩, e23⟩ := id h3.ln
     cases oi with
     | none =>
       refine iteF ?_
       exact A2_ok T Y h3 hq ha hlp hrpH Pt z2 (by omega) fun H4 rv nv at2 hle hd h4 => next H4 _ rv nv at2 hle hd h4
     | some i =>
       refine iteT ?_
       have z2' : l.drop (at_ + 1) = (i : Int) :: (bPart ob ++ t) := z2
       obtain ⟨y1, y2⟩ := dropI z2'
       refine ⟨_, rfl, lp, dx3, _, rfl, e13, rfl, lp, a, l, at_ + 1, (i : Int), rfl, h3.ln, y1, fun H4 B4 L4 => ?_⟩
       exact A2_ok T Y (h3.line hlp B4 L4) hq ha hlp hrpH Pt y2 (by omega) fun H5 rv nv at2 hle hd h5 => next H5 _ rv nv at2 (by omega) hd h5
   · have h1' := of_decide_eq_false h1
     have ez : l.drop at_ = [] := List.drop_of_length_le (by omega)
     rw [ez] at hL
     rcases lines_inv hL with ⟨_, rfl⟩ | ⟨x, t, ops', rfl, hO, hL'⟩
     · have : run none ops0 = tl := by rw [hrun]; show tl ++ [] = tl; rw [List.append_nil]
       rw [this] at k
       exact ⟨_, rfl, k q H' hq h.bat h.tab h.out⟩
     · cases hO
end
end My
end
section
set_option maxHeartbeats 2000000
namespace My
open PySem PySem.Spec PyProof.Rows L2 Of Pu
open PySem.W (WData Codec OpenSpec Well WellAll ReadsW ReadsAllW)
theorem cxe_no {P : Program} {w : World} {H : Hp} {s s' : Shared} {e : Value} (h : CXE P w [] H s (fun _ _ _ => False) e s') : False := by
 obtain ⟨_, _, _, _, _, _, _, _, _, z⟩ := h
 exact z
theorem spec_callT {P : Program} {w : World} {K : PySem.W.Frag} {mg mb : Str → Option Value} {k : Nat} {fa Pt c : Addr} {fd : FuncData} {ps : List Str} {sp : Sp} {s1 : Shared} {vals : List Value} {ds : List WData} {R : PySem.W.WRecords} {cl : Str → Option Addr} {d0 : WData}
   (KX : K.In s1.heap) (hns : s1.heap.Ns mainGlobals mg) (hb : s1.heap.Ns builtinsNs mb) (hbb : ∀ x : Str, x ≠ "__name__" → mb x = bootBuiltins x) (hlim : s1.heap.NoLimit) (hg : s1.gens = #[])
   (hwl : WellAll w.params s1.heap vals ds) (hpl : plWs ds = true) (hwt : ∀ d ∈ ds, d.weight ≤ 1048576) (hr : Room k callerA) (hBM : BM s1.heap mg) (hT : s1.heap.get? Pt = some (PySem.W.tabObj #[])) (hTK : K.lookup Pt = none) (hC : PySem.W.CodeHd s1.heap c Pt)
   (F : ∀ base : Heap, K.In base → base.Ns mainGlobals mg → BM base mg → FnOk P w K mg base (CXE P w) k fa fd ps sp) (hbind : ∀ (s : Shared) (us : List Value), us.length = ps.length → BindsTo s fd ⟨us, []⟩ (ps.zip us)) (hlen : ds.length = ps.length)
   (hsp : ∀ (Ha H : Hp) (xs : List V), Same Ha H → H Pt = some (.tbl #[]) → DwAll K Ha xs ds → sp xs H (fun v H' => Dw K H' v d0) fun _ _ _ => False) :
   codeAny (model P w) callerA (.call (.ref fa) ⟨vals, []⟩) (fun r s' => ∃ u as, r = .ok (.ret u) ∧ ReadsW R cl s'.heap u d0 as ∧ OldK s1.heap s'.heap ∧ s'.os = s1.os ∧ AllBare s'.gens) s1 := by
 obtain ⟨A, ho, ar⟩ := area_all ds vals hwl hpl hwt
 have hO : OnlyF (argH K s1.heap A) := argH_only ar
 have hok0 : HOk P w (argH K s1.heap A) s1.heap := argH_ok ar
 have hS := dw_all KX ar ds vals hwl hpl ho
 have hV := vals_toV ho
 have hK0 : ∀ b u, argH K s1.heap A b = some u → K.lookup b = none := fun b u q => (argH_is ar q).1
 have seq0 : ∀ {b : Addr} {u : HO}, argH K s1.heap A b = some u → ∃ (o : Obj) (vs : List Value), s1.heap.get? b = some o ∧ o.data = .seq vs.toArray := fun {b u} q => by
   obtain ⟨_, vs, _, _, ⟨e2, _⟩ | ⟨e2, _⟩⟩ := argH_is ar q
   · exact ⟨_, vs, e2, rfl⟩
   · exact ⟨_, vs, e2, rfl⟩
 generalize argH K s1.heap A = Ha at hO hok0 hS hK0 seq0
 have nPt : Ha Pt = none := by
   cases q : Ha Pt with
   | none => rfl
   | some u =>
     obtain ⟨o, vs, e, d⟩ := seq0 q
     rw [hT] at e
     cases e
     cases d
 have sm : Same Ha (upd Ha Pt (.tbl #[])) := Same.upd nPt
 have hP : (upd Ha Pt (.tbl #[])) Pt = some (.tbl #[]) := upd_same
 have hcase : ∀ b u, (upd Ha Pt (.tbl #[])) b = some u → (b = Pt ∧ u = .tbl #[]) ∨ Ha b = some u := fun b u e => by
   by_cases z : b = Pt
   · rw [z, upd_same] at e
     exact .inl ⟨z, (Option.some.inj e).symm⟩
   · rw [upd_ne z] at e
     exact .inr e
 generalize upd Ha Pt (.tbl #[]) = H at sm hP hcase
 have hok : HOk P w H s1.heap := fun b u e => by
   rcases hcase b u e with ⟨rfl, rfl⟩ | e'
   · exact hT
   · exact (hok0 b u e').stay (fun _ _ _ q => q) (fun d q => sm _ _ q) fun d xs q => sm _ _ q
 have nH : ∀ {b : Addr} {o : Obj}, s1.heap.get? b = some o → (∀ vs, o.data ≠ .seq vs) → b ≠ Pt → H b = none := fun {b o} e d n => by
   cases q : H b with
   | none => rfl
   | some u =>
     rcases hcase b u q with ⟨z, _⟩ | q'
     · exact absurd z n
     · obtain ⟨o', vs, e', d'⟩ := seq0 q'
       rw [e] at e'
       cases e'
       exact absurd d' (d _)
 have base_of : ∀ {b : Addr} {o : Obj}, s1.heap.get? b = some o → H b = none → (hidT s1.heap H).get? b = some o := fun e n => hidT_get e n
 have noA : ∀ {b : Addr} {o : Obj} {es : Array DictEntry} {ep : Nat}, s1.heap.get? b = some o → o.data = .dict es ep → H b = none := fun {b o es ep} e d =>
   nH e (fun vs z => by rw [d] at z; cases z) fun z => by
     rw [z, hT] at e
     cases e
     cases d
 have nsK : ∀ {b : Addr} {m : Str → Option Value}, s1.heap.Ns b m → (hidT s1.heap H).Ns b m := fun {b m} ⟨o, es, ep, e, d, r⟩ => ⟨o, es, ep, base_of e (noA e d), d, r⟩
 have nK : ∀ b o, K.lookup b = some o → H b = none := fun b o e => by
   cases q : H b with
   | none => rfl
   | some u =>
     rcases hcase b u q with ⟨z, _⟩ | q'
     · rw [z, hTK] at e
       cases e
     · rw [hK0 b u q'] at e
       cases e
 have hKb : K.In (hidT s1.heap H) := fun b o e => base_of (KX b o e) (nK b o e)
 have hM : Mod K mg (hidT s1.heap H) := ⟨hKb, nsK hns, ⟨mb, nsK hb, hbb⟩, let ⟨mc, h1, h2⟩ := hlim; ⟨mc, nsK h1, h2⟩⟩
 have hBb : BM (hidT s1.heap H) mg := by
   obtain ⟨bm, ob, b1, b2, b3, b4, b5, b6⟩ := hBM
   refine ⟨bm, ob, b1, b2, base_of b3 (nH b3 (fun vs z => by rw [b6] at z; cases z) fun z => ?_), b4, b5, b6⟩
   rw [z, hT] at b3
   cases b3
   cases b4
 have e0 : Env0 P w K mg (hidT s1.heap H) callerA [] s1 H := ⟨rfl, hM, fun b o e => of_hidT e, Nat.le_of_eq (hidT_size _ _), trivial, fun b hb => absurd (show b ∈ ([] : List Addr) from hb) (by simp), hok, .of_eq hg⟩
 have hl : vals.length = ps.length := by rw [wellAll_len hwl]; exact hlen
 refine codeAny_mono ((F _ hKb (nsK hns) hBb).run callerA [] s1 H ⟨vals, []⟩ vals (vals.map toV) _ _ hr e0 (hbind s1 vals hl) hV (hsp Ha H _ sm hP hS)) fun r s' x => ?_
 cases r with
 | error e => exact (cxe_no x).elim
 | ok fl =>
   cases fl with
   | next => exact False.elim x
   | brk => exact False.elim x
   | cont => exact False.elim x
   | ret u =>
     obtain ⟨v, H', os, bare, un, hok', r', q⟩ := x
     have kept : ∀ b o, s1.heap.get? b = some o → b ≠ Pt → s'.heap.get? b = some o := fun b o e nb => by
       cases q2 : H b with
       | none => exact un.keep b o e q2 (by intro z; exact absurd (show b ∈ ([] : List Addr) from z) (by simp)) (by simp)
       | some u2 =>
         rcases hcase b u2 q2 with ⟨z, _⟩ | q3
         · exact absurd z nb
         rcases hO b with z | ⟨ob, u3, z⟩
         · rw [q3] at z
           cases z
         · have z' := sm _ _ z
           have z2 := un.frzs b ob _ z'
           obtain ⟨e1, _⟩ := hok b _ z'
           obtain ⟨e2, _⟩ := hok' b _ z2
           rw [e] at e1
           cases e1
           exact e2
     obtain ⟨more, hmore⟩ := un.tbls _ _ hP
     have hT' : s'.heap.get? Pt = some (PySem.W.tabObj (#[] ++ more)) := hok' _ _ hmore
     have KX' : K.In s'.heap := fun b o e => kept b o (KX b o e) fun z => by
       rw [z, hTK] at e
       cases e
     obtain ⟨as, hrd⟩ := Dw.reads (R := R) (cl := cl) hok' KX' d0 v u q r'
     refine ⟨u, as, rfl, hrd, ⟨fun b o e => ?_, fun b o e => ?_⟩, os, bare⟩
     · by_cases z : b = Pt
       · subst z
         rw [hT] at e
         cases e
         exact .inr (.inl ⟨(hC.tab hT).isCodeTable, rfl, #[], more, rfl, hT'⟩)
       · exact .inl (kept b o e z)
     · by_cases z : b = Pt
       · subst z
         exact ⟨_, hT'⟩
       · exact ⟨o, kept b o e z⟩
theorem walk_specT {r : OpenSpec} {k : Nat} {q : Program} {loose : List Str} {XP : (Str → Option Value) → Heap → Prop} {YP : World → Heap → Prop} {d : DefRec} {K : Params → PySem.W.Frag} {Pt c : Addr} {ps : List Str}
   (hwell : r.wellSaid = true) (hdf : d.params.defaults = []) (hlen : r.args.length = ps.length) (hr : Room k callerA)
   (hY : ∀ (w : World) (h : Heap), YP w h → (K w.params).In h ∧ h.get? Pt = some (PySem.W.tabObj #[])) (hTK : ∀ w : World, (K w.params).lookup Pt = none) (hC : ∀ (w : World) (h : Heap), (K w.params).In h → PySem.W.CodeHd h c Pt)
   (F : ∀ (w : World) (mg : Str → Option Value) (fa : Addr) (h : Heap), (K w.params).In h → h.Ns mainGlobals mg → mg d.name = some (.ref fa) →
     ∃ (fd : FuncData) (sp : Sp), (∀ (s : Shared) (us : List Value), us.length = ps.length → BindsTo s fd ⟨us, []⟩ (ps.zip us)) ∧
       (∀ base : Heap, (K w.params).In base → base.Ns mainGlobals mg → BM base mg → FnOk r.prog w (K w.params) mg base (CXE r.prog w) k fa fd ps sp) ∧
       ∀ (Ha H : Hp) (xs : List V) (a : Codec.denoteAll r.args), Same Ha H → H Pt = some (.tbl #[]) → Codec.withinAll r.args a = true → Codec.app r.args r.asked a = true → DwAll (K w.params) Ha xs (Codec.encAll r.args a) →
         sp xs H (fun v H' => Dw (K w.params) H' v (r.ret.enc (Codec.app r.args r.f a))) fun _ _ _ => False) :
   PySem.W.WalkOS q loose XP YP r d [] (fun f vs => PySem.call f vs) := by
 intro w s_0 s1 mg mb G Y fa o pm cd doc dV kV ho hd hcd hD hmg hg args vals as hpre hlay hrd hwl hlo
 obtain ⟨a, e1, e2⟩ := PySem.W.os_pre_some hpre
 obtain ⟨e3, hwi⟩ := Codec.encAll_of_decAll r.args args a e1
 subst e3
 obtain ⟨KX, hT⟩ := hY w _ Y
 obtain ⟨fd, sp, hb, hF, hsp⟩ := F w mg fa _ KX G.T.g hmg
 refine PySem.W.enter_call (codeAny_mono (spec_callT (R := []) (cl := classAt s_0.heap) (d0 := r.ret.enc (Codec.app r.args r.f a)) (Pt := Pt) (c := c) KX G.T.g G.T.b G.T.builtins G.T.nolimit hg hwl (pl_encAll _ _) (layable_weight hlay) hr G.T.bmain hT (hTK w) (hC w _ KX) hF hb (by rw [encAll_len]; exact hlen)
   (fun Ha H xs hs hp hS => hsp Ha H xs a hs hp hwi e2 hS)) fun r' s' hq => ?_)
 obtain ⟨u, as', rfl, h1, h2, h3, h4⟩ := hq
 exact ⟨.inl ⟨u, _, as', rfl, fun _ => rfl, h1, (OpenSpec.post_iff hwell hwi _ _).mpr rfl, fun z => Bool.noConfusion (show false = true from z)⟩, h2, h3, h4⟩
end My
end
section
namespace My
open PySem PySem.Spec PyProof.Rows L2 Of Pu
section
variable {P : Program} {w : World} {K : PySem.W.Frag} {mg : Str → Option Value} {h : Heap}
noncomputable def DfP (K : PySem.W.Frag) (mg : Str → Option Value) (x : Str) (st : Stmt) (ps : List Str) : Prop := ∃ f fd, Fun K x x st f fd ∧ mg x = some (.ref f) ∧ Binds K fd ps []
noncomputable def MtP (K : PySem.W.Frag) (C : Addr) (m qual : Str) (st : Stmt) (ps : List Str) : Prop := ∃ f fd, Fun K m qual st f fd ∧ Meth K C m f ∧ Binds K fd ps []
noncomputable def MkP (K : PySem.W.Frag) (mg : Str → Option Value) (C : Addr) (x qual : Str) (st : Stmt) (ps : List Str) : Prop := ∃ f fd, Fun K "__init__" qual st f fd ∧ mg x = some (.ref C) ∧ Mk K C f ∧ Binds K fd ps []
noncomputable def TmP (T : Tx P w K mg) : Prop := ∃ f fd, (∃ (oc : Value) (od an : Option Addr) (kV doc pm ct : Value) (osl : Array (Option Value)), fd = PySem.W.fnOf "take_map" "Reader.take_map" (defArgs (inClass (top 69) 6)) (defBody (inClass (top 69) 6)) (defScope (inClass (top 69) 6)) .none kV doc pm an (.ref T.cM) ct ∧ K.lookup f = some ⟨oc, od, .func fd, osl⟩) ∧ PySem.W.codeIn K (.ref T.cM) "Reader.take_map" = true ∧ Meth K T.CR "take_map" f ∧ Binds K fd ["self", "head", "depth"] []
theorem all_ok (T : Tx P w K mg) (Z : Xs T) {aT : Addr} (Y : Tk T aT) {fa : Addr} (hfa : mg "answers" = some (.ref fa))
   (dWidth : DfP K mg "width" (top 21) ["info"]) (dWHA : DfP K mg "wide_head_at" (top 23) ["data", "at", "major", "info"]) (dHA : DfP K mg "head_at" (top 22) ["data", "at"])
   (dWH : DfP K mg "wide_head" (top 24) ["major", "info", "number"]) (dSH : DfP K mg "short_head" (top 25) ["major", "number"]) (dIS : DfP K mg "is_string_kind" (top 29) ["kind"])
   (dKO : DfP K mg "kind_of" (top 30) ["head"]) (dMC : DfP K mg "member_count" (top 31) ["node"]) (dNO : DfP K mg "nodes_of" (top 32) ["form"])
   (dFN : DfP K mg "found_nodes" (top 33) ["form"]) (dMA : DfP K mg "mark_afters" (top 34) ["nodes"]) (dU8 : DfP K mg "is_utf8" (top 40) ["row"])
   (dCL : DfP K mg "character_length" (top 41) ["first"]) (dIC : DfP K mg "is_character" (top 42) ["row"]) (dSF : DfP K mg "shortest_floating" (top 49) ["info", "bits"])
   (dSign : DfP K mg "sign_of" (top 50) ["info", "bits"]) (dExpo : DfP K mg "exponent_of" (top 51) ["info", "bits"]) (dFrac : DfP K mg "fraction_of" (top 52) ["info", "bits"])
   (dTop : DfP K mg "top_exponent" (top 53) ["info"]) (dInf : DfP K mg "is_infinite" (top 54) ["info", "bits"]) (dNan : DfP K mg "is_no_number" (top 55) ["info", "bits"])
   (dNar : DfP K mg "narrowed" (top 56) ["info", "bits"]) (dSteps : DfP K mg "steps" (top 57) ["info", "bits"]) (dSize : DfP K mg "size_bits" (top 58) ["info", "count"])
   (dOF : DfP K mg "one_form" (top 64) ["data"]) (dIOF : DfP K mg "is_one_form" (top 65) ["data"]) (dLF : DfP K mg "lone_form" (top 66) ["head"])
   (dCF : DfP K mg "counted_form" (top 67) ["major", "forms"]) (dNA : DfP K mg "has_neighbours_alike" (top 68) ["keys"]) (dToR : DfP K mg "told_row" (top 84) ["row"])
   (dToT : DfP K mg "told_truth" (top 85) ["truth"]) (dAN : DfP K mg "answer_about_node" (top 86) ["room", "call", "i", "row"]) (dAV : DfP K mg "answer_about_value" (top 87) ["room", "call", "i", "row"])
   (dAns : DfP K mg "answer" (top 88) ["room", "call", "i", "row"]) (dAR : DfP K mg "answer_or_refusal" (top 89) ["room", "call", "i", "row"]) (dAn : DfP K mg "answers" (top 90) ["calls"])
   (dKHead : MkP K mg T.CH "Head" "Head.__init__" (inClass (top 20) 0) ["self", "major", "info", "number", "behind"]) (dKNode : MkP K mg T.CN "Node" "Node.__init__" (inClass (top 28) 0) ["self", "head", "begins_at"]) (dKRd : MkP K mg T.CR "Reader" "Reader.__init__" (inClass (top 69) 0) ["self", "data"])
   (dKLn : MkP K mg T.CL "Line" "Line.__init__" (inClass (top 82) 0) ["self", "calls"]) (dKRm : MkP K mg T.CM "Room" "Room.__init__" (inClass (top 83) 0) ["self"]) (mTH : MtP K T.CR "take_head" "Reader.take_head" (inClass (top 69) 1) ["self"])
   (mTI : MtP K T.CR "take_item" "Reader.take_item" (inClass (top 69) 2) ["self", "depth"]) (mCN : MtP K T.CR "count_node" "Reader.count_node" (inClass (top 69) 3) ["self"]) (mGO : MtP K T.CR "goes_on" "Reader.goes_on" (inClass (top 69) 4) ["self", "head", "taken"])
   (mTA : MtP K T.CR "take_array" "Reader.take_array" (inClass (top 69) 5) ["self", "head", "depth"]) (mTM : TmP T) (mTS : MtP K T.CR "take_string" "Reader.take_string" (inClass (top 69) 7) ["self", "head"])
   (mTP : MtP K T.CR "take_parts" "Reader.take_parts" (inClass (top 69) 8) ["self", "head"]) (mTC : MtP K T.CR "take_content" "Reader.take_content" (inClass (top 69) 9) ["self", "head"]) (mHM : MtP K T.CL "has_more" "Line.has_more" (inClass (top 82) 1) ["self"])
   (mTN : MtP K T.CL "take_number" "Line.take_number" (inClass (top 82) 2) ["self"]) (mTR : MtP K T.CL "take_row" "Line.take_row" (inClass (top 82) 3) ["self"]) (mHo : MtP K T.CM "hold" "Room.hold" (inClass (top 83) 1) ["self", "form"])
   (mNAt : MtP K T.CM "node_at" "Room.node_at" (inClass (top 83) 2) ["self", "i"]) (mCO : MtP K T.CM "content_of" "Room.content_of" (inClass (top 83) 3) ["self", "node"]) (mPO : MtP K T.CM "part_of" "Room.part_of" (inClass (top 83) 4) ["self", "node"])
   (mVK : MtP K T.CM "value_by_key" "Room.value_by_key" (inClass (top 83) 5) ["self", "i", "key_form"]) :
   ∃ fd : FuncData, (∀ (s : Shared) (us : List Value), us.length = (["calls"] : List Str).length → BindsTo s fd ⟨us, []⟩ ((["calls"] : List Str).zip us)) ∧ ∀ base : Heap, BM base mg → FnOk P w K mg base (CXE P w) 45 fa fd ["calls"] (spAn T) := by
 obtain ⟨fWidth, fdWidth, FWidth, hWidth, bWidth⟩ := dWidth
 obtain ⟨fWHA, fdWHA, FWHA, hWHA, bWHA⟩ := dWHA
 obtain ⟨fHA, fdHA, FHA, hHA, bHA⟩ := dHA
 obtain ⟨fWH, fdWH, FWH, hWH, bWH⟩ := dWH
 obtain ⟨fSH, fdSH, FSH, hSH, bSH⟩ := dSH
 obtain ⟨fIS, fdIS, FIS, hIS, bIS⟩ := dIS
 obtain ⟨fKO, fdKO, FKO, hKO, bKO⟩ := dKO
 obtain ⟨fMC, fdMC, FMC, hMC, bMC⟩ := dMC
 obtain ⟨fNO, fdNO, FNO, hNO, bNO⟩ := dNO
 obtain ⟨fFN, fdFN, FFN, hFN, bFN⟩ := dFN
 obtain ⟨fMA, fdMA, FMA, hMA, bMA⟩ := dMA
 obtain ⟨fU8, fdU8, FU8, hU8, bU8⟩ := dU8
 obtain ⟨fCL, fdCL, FCL, hCL, bCL⟩ := dCL
 obtain ⟨fIC, fdIC, FIC, hIC, bIC⟩ := dIC
 obtain ⟨fSF, fdSF, FSF, hSF, bSF⟩ := dSF
 obtain ⟨fSign, fdSign, FSign, hSign, bSign⟩ := dSign
 obtain ⟨fExpo, fdExpo, FExpo, hExpo, bExpo⟩ := dExpo
 obtain ⟨fFrac, fdFrac, FFrac, hFrac, bFrac⟩ := dFrac
 obtain ⟨fTop, fdTop, FTop, hTop, bTop⟩ := dTop
 obtain ⟨fInf, fdInf, FInf, hInf, bInf⟩ := dInf
 obtain ⟨fNan, fdNan, FNan, hNan, bNan⟩ := dNan
 obtain ⟨fNar, fdNar, FNar, hNar, bNar⟩ := dNar
 obtain ⟨fSteps, fdSteps, FSteps, hSteps, bSteps⟩ := dSteps
 obtain ⟨fSize, fdSize, FSize, hSize, bSize⟩ := dSize
 obtain ⟨fOF, fdOF, FOF, hOF, bOF⟩ := dOF
 obtain ⟨fIOF, fdIOF, FIOF, hIOF, bIOF⟩ := dIOF
 obtain ⟨fLF, fdLF, FLF, hLF, bLF⟩ := dLF
 obtain ⟨fCF, fdCF, FCF, hCF, bCF⟩ := dCF
 obtain ⟨fNA, fdNA, FNA, hNA, bNA⟩ := dNA
 obtain ⟨fToR, fdToR, FToR, hToR, bToR⟩ := dToR
 obtain ⟨fToT, fdToT, FToT, hToT, bToT⟩ := dToT
 obtain ⟨fAN, fdAN, FAN, hAN, bAN⟩ := dAN
 obtain ⟨fAV, fdAV, FAV, hAV, bAV⟩ := dAV
 obtain ⟨fAns, fdAns, FAns, hAns, bAns⟩ := dAns
 obtain ⟨fAR, fdAR, FAR, hAR, bAR⟩ := dAR
 obtain ⟨fAn, fdAn, FAn, hAn, bAn⟩ := dAn
 obtain ⟨fKHead, fdKHead, FKHead, hKHead, kKHead, bKHead⟩ := dKHead
 obtain ⟨fKNode, fdKNode, FKNode, hKNode, kKNode, bKNode⟩ := dKNode
 obtain ⟨fKRd, fdKRd, FKRd, hKRd, kKRd, bKRd⟩ := dKRd
 obtain ⟨fKLn, fdKLn, FKLn, hKLn, kKLn, bKLn⟩ := dKLn
 obtain ⟨fKRm, fdKRm, FKRm, hKRm, kKRm, bKRm⟩ := dKRm
 obtain ⟨gTH, gdTH, GTH, tTH, cTH⟩ := mTH
 obtain ⟨gTI, gdTI, GTI, tTI, cTI⟩ := mTI
 obtain ⟨gCN, gdCN, GCN, tCN, cCN⟩ := mCN
 obtain ⟨gGO, gdGO, GGO, tGO, cGO⟩ := mGO
 obtain ⟨gTA, gdTA, GTA, tTA, cTA⟩ := mTA
 obtain ⟨gTM, gdTM, eTM, cTM, tTM, cbTM⟩ := mTM
 obtain ⟨gTS, gdTS, GTS, tTS, cTS⟩ := mTS
 obtain ⟨gTP, gdTP, GTP, tTP, cTP⟩ := mTP
 obtain ⟨gTC, gdTC, GTC, tTC, cTC⟩ := mTC
 obtain ⟨gHM, gdHM, GHM, tHM, cHM⟩ := mHM
 obtain ⟨gTN, gdTN, GTN, tTN, cTN⟩ := mTN
 obtain ⟨gTR, gdTR, GTR, tTR, cTR⟩ := mTR
 obtain ⟨gHo, gdHo, GHo, tHo, cHo⟩ := mHo
 obtain ⟨gNAt, gdNAt, GNAt, tNAt, cNAt⟩ := mNAt
 obtain ⟨gCO, gdCO, GCO, tCO, cCO⟩ := mCO
 obtain ⟨gPO, gdPO, GPO, tPO, cPO⟩ := mPO
 obtain ⟨gVK, gdVK, GVK, tVK, cVK⟩ := mVK
 have ef : fAn = fa := by
   rw [hfa] at hAn
   injection hAn with hAn
   injection hAn with hAn
   exact hAn.symm
 subst ef
 refine ⟨fdAn, ?_, fun base hB => ?_⟩
 · obtain ⟨oc, od, kV, doc, pm, an, cdv, ct, osl, rfl, lk, hcd⟩ := FAn.ex
   exact fun s us hu => match us, hu with | [_], _ => .of_eq rfl
 have DWidth : Dfn P w K mg base 1 "width" ["info"] (spWidth) := ⟨fWidth, fdWidth, hWidth, FWidth.kp, bWidth, ok_width T FWidth⟩
 have KHead : Mkr P w K mg base 1 T.CH "Head" ["self", "major", "info", "number", "behind"] (spHead T.CH) := ⟨fKHead, fdKHead, hKHead, kKHead, bKHead, ok_Head T FKHead⟩
 have DWHA : Dfn P w K mg base 3 "wide_head_at" ["data", "at", "major", "info"] (spWHA T) := ⟨fWHA, fdWHA, hWHA, FWHA.kp, bWHA, ok_WHA T FWHA DWidth KHead⟩
 have DHA : Dfn P w K mg base 4 "head_at" ["data", "at"] (spHA T) := ⟨fHA, fdHA, hHA, FHA.kp, bHA, ok_HA T FHA KHead DWHA⟩
 have DWH : Dfn P w K mg base 2 "wide_head" ["major", "info", "number"] (spWH) := ⟨fWH, fdWH, hWH, FWH.kp, bWH, ok_WH T FWH DWidth⟩
 have DSH : Dfn P w K mg base 3 "short_head" ["major", "number"] (spSH) := ⟨fSH, fdSH, hSH, FSH.kp, bSH, ok_SH T FSH DWidth DWH⟩
 have DCL : Dfn P w K mg base 1 "character_length" ["first"] (spCL) := ⟨fCL, fdCL, hCL, FCL.kp, bCL, ok_CL T FCL⟩
 have DIC : Dfn P w K mg base 1 "is_character" ["row"] (spIC) := ⟨fIC, fdIC, hIC, FIC.kp, bIC, ok_IC T FIC⟩
 have DU8 : Dfn P w K mg base 2 "is_utf8" ["row"] (spU8) := ⟨fU8, fdU8, hU8, FU8.kp, bU8, ok_U8 T FU8 DCL DIC⟩
 have DSign : Dfn P w K mg base 1 "sign_of" ["info", "bits"] (spSign) := ⟨fSign, fdSign, hSign, FSign.kp, bSign, ok_Sign T FSign⟩
 have DExpo : Dfn P w K mg base 1 "exponent_of" ["info", "bits"] (spExpo) := ⟨fExpo, fdExpo, hExpo, FExpo.kp, bExpo, ok_Expo T FExpo⟩
 have DFrac : Dfn P w K mg base 1 "fraction_of" ["info", "bits"] (spFrac) := ⟨fFrac, fdFrac, hFrac, FFrac.kp, bFrac, ok_Frac T FFrac⟩
 have DTop : Dfn P w K mg base 1 "top_exponent" ["info"] (spTop) := ⟨fTop, fdTop, hTop, FTop.kp, bTop, ok_Top T FTop⟩
 have DInf : Dfn P w K mg base 2 "is_infinite" ["info", "bits"] (spInf) := ⟨fInf, fdInf, hInf, FInf.kp, bInf, ok_Inf T FInf DExpo DFrac DTop⟩
 have DNan : Dfn P w K mg base 2 "is_no_number" ["info", "bits"] (spNan) := ⟨fNan, fdNan, hNan, FNan.kp, bNan, ok_Nan T FNan DExpo DFrac DTop⟩
 have DSteps : Dfn P w K mg base 2 "steps" ["info", "bits"] (spSteps) := ⟨fSteps, fdSteps, hSteps, FSteps.kp, bSteps, ok_Steps T FSteps DExpo DFrac⟩
 have DSize : Dfn P w K mg base 2 "size_bits" ["info", "count"] (spSize) := ⟨fSize, fdSize, hSize, FSize.kp, bSize, ok_Size T FSize DTop⟩
 have DNar : Dfn P w K mg base 3 "narrowed" ["info", "bits"] (spNar) := ⟨fNar, fdNar, hNar, FNar.kp, bNar, ok_Nar T FNar DInf DTop DSize DSteps DSign⟩
 have DSF : Dfn P w K mg base 4 "shortest_floating" ["info", "bits"] (spSF) := ⟨fSF, fdSF, hSF, FSF.kp, bSF, ok_SF T FSF DNan DNar DWH⟩
 have DLF : Dfn P w K mg base 5 "lone_form" ["head"] (spLF T) := ⟨fLF, fdLF, hLF, FLF.kp, bLF, ok_LF T FLF DSH DSF⟩
 have DCF : Dfn P w K mg base 4 "counted_form" ["major", "forms"] (spCF) := ⟨fCF, fdCF, hCF, FCF.kp, bCF, ok_CF T FCF DSH⟩
 have DNA : Dfn P w K mg base 1 "has_neighbours_alike" ["keys"] (spNA) := ⟨fNA, fdNA, hNA, FNA.kp, bNA, ok_NA T FNA⟩
 have KRd : Mkr P w K mg base 1 T.CR "Reader" ["self", "data"] (spRd T.CR) := ⟨fKRd, fdKRd, hKRd, kKRd, bKRd, ok_Rd T FKRd⟩
 have MTH : Mth P w K mg base 5 T.CR "take_head" ["self"] (spTH T) := ⟨gTH, gdTH, tTH, cTH, ok_TH T GTH DHA⟩
 have MCN : Mth P w K mg base 1 T.CR "count_node" ["self"] (spCN T) := ⟨gCN, gdCN, tCN, cCN, ok_CN T GCN⟩
 have MGO : Mth P w K mg base 1 T.CR "goes_on" ["self", "head", "taken"] (spGO T) := ⟨gGO, gdGO, tGO, cGO, ok_GO T GGO⟩
 have MTC : Mth P w K mg base 3 T.CR "take_content" ["self", "head"] (spTC T) := ⟨gTC, gdTC, tTC, cTC, ok_TC T GTC DU8⟩
 have MTP : Mth P w K mg base 6 T.CR "take_parts" ["self", "head"] (spTP T) := ⟨gTP, gdTP, tTP, cTP, ok_TP T GTP MGO MTH MTC⟩
 have MTS : Mth P w K mg base 7 T.CR "take_string" ["self", "head"] (spTS T) := ⟨gTS, gdTS, tTS, cTS, ok_TS T GTS MTP MTC DSH⟩
 have MTI : Mth P w K mg base 40 T.CR "take_item" ["self", "depth"] (spTI T 0 16) := ⟨gTI, gdTI, tTI, cTI, ok_items T hB GTI GTA tTI tTA tTM cTI cTA cbTM eTM cTM MCN MTH DLF MTS DSH MGO DNA DCF 16 (Nat.le_refl _)⟩
 have DOF : Dfn P w K mg base 41 "one_form" ["data"] (spOF T) := ⟨fOF, fdOF, hOF, FOF.kp, bOF, ok_OF T FOF KRd MTI⟩
 have DIOF : Dfn P w K mg base 42 "is_one_form" ["data"] (spIOF T) := ⟨fIOF, fdIOF, hIOF, FIOF.kp, bIOF, ok_IOF T Z FIOF DOF⟩
 have DIS : Dfn P w K mg base 1 "is_string_kind" ["kind"] (spIS) := ⟨fIS, fdIS, hIS, FIS.kp, bIS, ok_IS T FIS⟩
 have DKO : Dfn P w K mg base 1 "kind_of" ["head"] (spKO T) := ⟨fKO, fdKO, hKO, FKO.kp, bKO, ok_KO T FKO⟩
 have KNode : Mkr P w K mg base 2 T.CN "Node" ["self", "head", "begins_at"] (spNode T) := ⟨fKNode, fdKNode, hKNode, kKNode, bKNode, ok_Node T FKNode DKO⟩
 have DMC : Dfn P w K mg base 1 "member_count" ["node"] (spMC T) := ⟨fMC, fdMC, hMC, FMC.kp, bMC, ok_MC T FMC⟩
 have DFN : Dfn P w K mg base 5 "found_nodes" ["form"] (spFN T) := ⟨fFN, fdFN, hFN, FFN.kp, bFN, ok_FN T FFN DHA KNode DIS⟩
 have DMA : Dfn P w K mg base 2 "mark_afters" ["nodes"] (spMA T) := ⟨fMA, fdMA, hMA, FMA.kp, bMA, ok_MA T FMA DMC⟩
 have DNO : Dfn P w K mg base 6 "nodes_of" ["form"] (spNO T) := ⟨fNO, fdNO, hNO, FNO.kp, bNO, ok_NO T FNO DFN DMA⟩
 have KLn : Mkr P w K mg base 1 T.CL "Line" ["self", "calls"] (spLn T) := ⟨fKLn, fdKLn, hKLn, kKLn, bKLn, ok_Ln T FKLn⟩
 have MHM : Mth P w K mg base 1 T.CL "has_more" ["self"] (spHM T) := ⟨gHM, gdHM, tHM, cHM, ok_HM T GHM⟩
 have MTN : Mth P w K mg base 1 T.CL "take_number" ["self"] (spTN T) := ⟨gTN, gdTN, tTN, cTN, ok_TN T GTN⟩
 have MTR : Mth P w K mg base 2 T.CL "take_row" ["self"] (spTR T) := ⟨gTR, gdTR, tTR, cTR, ok_TR T GTR MTN⟩
 have KRm : Mkr P w K mg base 1 T.CM "Room" ["self"] (spRm T aT) := ⟨fKRm, fdKRm, hKRm, kKRm, bKRm, ok_Rm T FKRm⟩
 have MHo : ∀ av, Mth P w K mg base 7 T.CM "hold" ["self", "form"] (spHo T av) := fun av => ⟨gHo, gdHo, tHo, cHo, ok_Ho T GHo DNO⟩
 have MNAt : ∀ av, Mth P w K mg base 1 T.CM "node_at" ["self", "i"] (spNAt T av) := fun av => ⟨gNAt, gdNAt, tNAt, cNAt, ok_NAt T GNAt⟩
 have MCO : ∀ av, Mth P w K mg base 2 T.CM "content_of" ["self", "node"] (spCO T av) := fun av => ⟨gCO, gdCO, tCO, cCO, ok_CO T GCO DIS⟩
 have MPO : ∀ av, Mth P w K mg base 1 T.CM "part_of" ["self", "node"] (spPO T av) := fun av => ⟨gPO, gdPO, tPO, cPO, ok_PO T GPO⟩
 have MVK : ∀ av, Mth P w K mg base 2 T.CM "value_by_key" ["self", "i", "key_form"] (spVK T av) := fun av => ⟨gVK, gdVK, tVK, cVK, ok_VK T GVK (MPO av)⟩
 have DToR : Dfn P w K mg base 1 "told_row" ["row"] (spToR) := ⟨fToR, fdToR, hToR, FToR.kp, bToR, ok_ToR T FToR⟩
 have DToT : Dfn P w K mg base 1 "told_truth" ["truth"] (spToT) := ⟨fToT, fdToT, hToT, FToT.kp, bToT, ok_ToT T FToT⟩
 have DAN : ∀ av, Dfn P w K mg base 3 "answer_about_node" ["room", "call", "i", "row"] (spAN T av) := fun av => ⟨fAN, fdAN, hAN, FAN.kp, bAN, ok_AN T FAN (MNAt av) (MCO av) (MPO av) (MVK av) DToR⟩
 have DAV : ∀ av, Dfn P w K mg base 42 "answer_about_value" ["room", "call", "i", "row"] (spAV T av) := fun av => ⟨fAV, fdAV, hAV, FAV.kp, bAV, ok_AV T FAV (DAN av) DOF DToR DToT⟩
 have DAns : ∀ av, Dfn P w K mg base 43 "answer" ["room", "call", "i", "row"] (spAns T av) := fun av => ⟨fAns, fdAns, hAns, FAns.kp, bAns, ok_Ans T FAns (DAV av) DOF DIOF (MHo av) DToT⟩
 have DAR : Dfn P w K mg base 44 "answer_or_refusal" ["room", "call", "i", "row"] (spARx T) := ⟨fAR, fdAR, hAR, FAR.kp, bAR, FnOk.ex fun av => ok_AR T Z FAR (DAns av)⟩
 exact ok_An T Y FAn KLn KRm MHM MTN MTR DAR
end
end My
end
section
namespace My
open PySem PySem.Spec PyProof.Rows L2 Of Pu
open PySem.W (WData Codec OpenSpec)
section
variable {P : Program} {w : World} {K : PySem.W.Frag} {mg : Str → Option Value} {h : Heap}
noncomputable def Bnd (x qual : Str) (st : Stmt) (ps : List Str) : Prop := ∀ (kV doc pm : Value) (an : Option Addr) (cdv ct : Value) (us : List Value), us.length = ps.length → bindArgs (PySem.W.fnOf x qual (defArgs st) (defBody st) (defScope st) .none kV doc pm an cdv ct) ⟨us, []⟩ = pure (ps.zip us)
theorem df_mk {x : Str} {st : Stmt} {ps : List Str} {f : Addr} {od an : Option Addr} {osl : Array (Option Value)} {oc kV doc pm cd ct : Value} (X : K.In h) (G : h.Ns mainGlobals mg) (a : PySem.W.nsIn K mainGlobals x = some (some (.ref f)))
   (l : K.lookup f = some ⟨oc, od, .func (PySem.W.fnOf x x (defArgs st) (defBody st) (defScope st) .none kV doc pm an cd ct), osl⟩) (c : PySem.W.codeIn K cd x = true) (k : PySem.W.keepIn K (.ref f) = true)
   (b : Bnd x x st ps) : DfP K mg x st ps :=
 have F := fun_mk l c k
 ⟨f, _, F, PySem.W.mg_of X G a, F.binds b⟩
theorem mt_mk {C : Addr} {x qual : Str} {st : Stmt} {ps : List Str} {f : Addr} {od an : Option Addr} {osl : Array (Option Value)} {oc kV doc pm cd ct : Value} (a : PySem.W.findIn K (.ref C) x = some (some (.ref f))) (i : PySem.W.isFn K (.ref f) = true)
   (l : K.lookup f = some ⟨oc, od, .func (PySem.W.fnOf x qual (defArgs st) (defBody st) (defScope st) .none kV doc pm an cd ct), osl⟩) (c : PySem.W.codeIn K cd qual = true) (k : PySem.W.keepIn K (.ref f) = true)
   (b : Bnd x qual st ps) : MtP K C x qual st ps :=
 have F := fun_mk l c k
 ⟨f, _, F, ⟨a, i, k⟩, F.binds b⟩
theorem mk_mk {C : Addr} {x qual : Str} {st : Stmt} {ps : List Str} {f : Addr} {od an : Option Addr} {osl : Array (Option Value)} {oc kV doc pm cd ct : Value} (X : K.In h) (G : h.Ns mainGlobals mg) (aC : PySem.W.nsIn K mainGlobals x = some (some (.ref C))) (a : PySem.W.findIn K (.ref C) "__init__" = some (some (.ref f))) (i : PySem.W.isFn K (.ref f) = true)
   (l : K.lookup f = some ⟨oc, od, .func (PySem.W.fnOf "__init__" qual (defArgs st) (defBody st) (defScope st) .none kV doc pm an cd ct), osl⟩) (c : PySem.W.codeIn K cd qual = true) (k : PySem.W.keepIn K (.ref f) = true) (m : PySem.W.makesIn K C = true) (kc : PySem.W.keepIn K (.ref C) = true)
   (b : Bnd "__init__" qual st ps) : MkP K mg C x qual st ps :=
 have F := fun_mk l c k
 ⟨f, _, F, PySem.W.mg_of X G aC, ⟨m, a, i, kc⟩, F.binds b⟩
theorem bTM : Bnd "take_map" "Reader.take_map" (inClass (top 69) 6) ["self", "head", "depth"] := fun _ _ _ _ _ _ us hl => match us, hl with | [_, _, _], _ => rfl
theorem tm_mk (T : Tx P w K mg) {f : Addr} {od an : Option Addr} {osl : Array (Option Value)} {oc kV doc pm ct : Value} (a : PySem.W.findIn K (.ref T.CR) "take_map" = some (some (.ref f))) (i : PySem.W.isFn K (.ref f) = true)
   (l : K.lookup f = some ⟨oc, od, .func (PySem.W.fnOf "take_map" "Reader.take_map" (defArgs (inClass (top 69) 6)) (defBody (inClass (top 69) 6)) (defScope (inClass (top 69) 6)) .none kV doc pm an (.ref T.cM) ct), osl⟩) (c : PySem.W.codeIn K (.ref T.cM) "Reader.take_map" = true) (k : PySem.W.keepIn K (.ref f) = true) : TmP T :=
 ⟨f, _, ⟨oc, od, an, kV, doc, pm, ct, osl, rfl, l⟩, c, ⟨a, i, k⟩, .all (bTM kV doc pm an (.ref T.cM) ct)⟩
theorem cst_mk {x : Str} {i : Int} {t : Tok} (X : K.In h) (G : h.Ns mainGlobals mg) (a : PySem.W.nsIn K mainGlobals x = some (some (.int i t))) : Cst mg x i := ⟨t, PySem.W.mg_of X G a⟩
noncomputable def intKeysB (es : Array DictEntry) : Bool := es.toList.all fun e => match e.key with
 | .int k _ => e.hash == hashInt k
 | _ => false
theorem intKeys_of {es : Array DictEntry} (h : intKeysB es = true) : IntKeys es := fun e he => by
 have q := List.all_eq_true.mp h e (Array.mem_toList_iff.mpr he)
 split at q
 · rename_i k t hk
   exact ⟨k, t, hk, by simpa using q⟩
 · cases q
theorem tabI_int {a : Addr} {es : Array DictEntry} {ep : Nat} {od : Option Addr} {sl : Array (Option Value)} {k v : Int} (l : K.lookup a = some ⟨.type "dict", od, .dict es ep, sl⟩) (ik : intKeysB es = true) (hf : (match findBy Value.isInt es k with | some (.int j _) => j == v | _ => false) = true) : TabI P w K a k (.int v) := by
 intro s X
 have hm : s.heap.IntMap a (findBy Value.isInt es) := ⟨_, es, ep, X _ _ l, rfl, rfl, intKeys_of ik, fun _ => rfl⟩
 refine ⟨hm.typeIs, fun A E Q t q => ?_⟩
 split at hf
 · rename_i j t' hj
   have e : j = v := by simpa using hf
   subst e
   exact wpAny_getItem_intMap hm hj (q _ _ ⟨_, rfl⟩)
 · cases hf
theorem tabI_ref {a b : Addr} {es : Array DictEntry} {ep : Nat} {od : Option Addr} {sl : Array (Option Value)} {k : Int} (l : K.lookup a = some ⟨.type "dict", od, .dict es ep, sl⟩) (ik : intKeysB es = true) (hf : findBy Value.isInt es k = some (.ref b)) : TabI P w K a k (.ref b) := by
 intro s X
 have hm : s.heap.IntMap a (findBy Value.isInt es) := ⟨_, es, ep, X _ _ l, rfl, rfl, intKeys_of ik, fun _ => rfl⟩
 exact ⟨hm.typeIs, fun A E Q t q => wpAny_getItem_intMap hm hf (q _ _ rfl)⟩
noncomputable def intsB : List Value → List Int → Bool
 | [], [] => true
 | .int i _ :: vs, j :: js => i == j && intsB vs js
 | _, _ => false
theorem ints_vals : ∀ {vs : List Value} {js : List Int}, intsB vs js = true → Vals (js.map V.int) vs
 | [], [], _ => .nil
 | [], _ :: _, h => by simp [intsB] at h
 | v :: vs, [], h => by cases v <;> simp [intsB] at h
 | v :: vs, j :: js, h => by
   cases v with
   | int i t =>
     simp only [intsB, Bool.and_eq_true, beq_iff_eq] at h
     obtain ⟨h1, h2⟩ := h
     subst h1
     exact .cons ⟨t, rfl⟩ (ints_vals h2)
   | _ => simp [intsB] at h
noncomputable def strsB : List Value → List Str → Bool
 | [], [] => true
 | .str i _ :: vs, j :: js => i == j && strsB vs js
 | _, _ => false
theorem strs_vals : ∀ {vs : List Value} {js : List Str}, strsB vs js = true → Vals (js.map V.str) vs
 | [], [], _ => .nil
 | [], _ :: _, h => by simp [strsB] at h
 | v :: vs, [], h => by cases v <;> simp [strsB] at h
 | v :: vs, j :: js, h => by
   cases v with
   | str i t =>
     simp only [strsB, Bool.and_eq_true, beq_iff_eq] at h
     obtain ⟨h1, h2⟩ := h
     subst h1
     exact .cons ⟨t, rfl⟩ (strs_vals h2)
   | _ => simp [strsB] at h
theorem sqT_int {a : Addr} {its : Array Value} {n : Nat} {od : Option Addr} {sl : Array (Option Value)} {xs : List Int} (l : K.lookup a = some ⟨.type "tuple", od, .seq its n, sl⟩) (hs : its.size ≤ 20) (hv : intsB its.toList xs = true) (H : Hp) : SqT K H a (xs.map V.int) :=
 .inr ⟨_, its, n, l, rfl, rfl, by rw [sizeLine_eq]; omega, ints_vals hv⟩
theorem sqT_str {a : Addr} {its : Array Value} {n : Nat} {od : Option Addr} {sl : Array (Option Value)} {xs : List Str} (l : K.lookup a = some ⟨.type "tuple", od, .seq its n, sl⟩) (hs : its.size ≤ 20) (hv : strsB its.toList xs = true) (H : Hp) : SqT K H a (xs.map V.str) :=
 .inr ⟨_, its, n, l, rfl, rfl, by rw [sizeLine_eq]; omega, strs_vals hv⟩
noncomputable def TkR (P : Program) (w : World) (K : PySem.W.Frag) (aT : Addr) (k : Int) : Prop := ∃ t, TabI P w K aT k (.ref t) ∧ ∀ H, SqT K H t ((takesOf k).map V.str)
theorem tkr_mk {aT b : Addr} {es : Array DictEntry} {ep n : Nat} {od od2 : Option Addr} {sl sl2 : Array (Option Value)} {its : Array Value} {k : Int} (l : K.lookup aT = some ⟨.type "dict", od, .dict es ep, sl⟩) (ik : intKeysB es = true) (hf : findBy Value.isInt es k = some (.ref b))
   (l2 : K.lookup b = some ⟨.type "tuple", od2, .seq its n, sl2⟩) (hs : its.size ≤ 20) (hv : strsB its.toList (takesOf k) = true) : TkR P w K aT k := ⟨b, tabI_ref l ik hf, sqT_str l2 hs hv⟩
theorem tk_mk (T : Tx P w K mg) {aT : Addr} (m : mg "TAKES" = some (.ref aT)) (r1 : TkR P w K aT 1) (r2 : TkR P w K aT 2) (r3 : TkR P w K aT 3) (r4 : TkR P w K aT 4) (r5 : TkR P w K aT 5) (r6 : TkR P w K aT 6) (r7 : TkR P w K aT 7) (r8 : TkR P w K aT 8) (r9 : TkR P w K aT 9) (r10 : TkR P w K aT 10) (r11 : TkR P w K aT 11) : Tk T aT := by
 refine ⟨m, fun k h1 h2 => ?_⟩
 obtain rfl | rfl | rfl | rfl | rfl | rfl | rfl | rfl | rfl | rfl | rfl : k = 1 ∨ k = 2 ∨ k = 3 ∨ k = 4 ∨ k = 5 ∨ k = 6 ∨ k = 7 ∨ k = 8 ∨ k = 9 ∨ k = 10 ∨ k = 11 := by omega
 · exact r1
 · exact r2
 · exact r3
 · exact r4
 · exact r5
 · exact r6
 · exact r7
 · exact r8
 · exact r9
 · exact r10
 · exact r11
theorem tabF {a : Addr} {es : Array DictEntry} {ep : Nat} {od : Option Addr} {sl : Array (Option Value)} {g : Fmt → Nat} (l : K.lookup a = some ⟨.type "dict", od, .dict es ep, sl⟩) (ik : intKeysB es = true)
   (h1 : (match findBy Value.isInt es 25 with | some (.int j _) => j == (g .half : Int) | _ => false) = true) (h2 : (match findBy Value.isInt es 26 with | some (.int j _) => j == (g .single : Int) | _ => false) = true) (h3 : (match findBy Value.isInt es 27 with | some (.int j _) => j == (g .double : Int) | _ => false) = true) (f : Fmt) : TabI P w K a f.first (.int (g f)) := by
 cases f with
 | half => exact tabI_int l ik h1
 | single => exact tabI_int l ik h2
 | double => exact tabI_int l ik h3
theorem hsp_ok (T : Tx P w K mg) {Pt : Addr} (hP : T.tabP = Pt) (Ha H : Hp) (xs : List V) (l : List Int) (sm : Same Ha H) (hT : H Pt = some (.tbl #[])) (hask : PyYqofma.answers_asked l = true) (hx : DwAll K Ha xs [WData.list (l.map WData.int)]) :
   spAn T xs H (fun v H' => Dw K H' v (WData.list ((PyYqofma.answers l).map WData.int))) fun _ _ _ => False := by
 cases hx with
 | cons h1 h2 =>
   cases h2
   cases h1 with
   | lst hs ha =>
     have e := ints_dw l _ ha
     subst e
     obtain ⟨ops, hl, hn, hr⟩ := asked_lines hask
     rw [hr]
     exact ⟨_, l, ops, rfl, SqL.same hs sm, .inl (by rw [hP]; exact hT), hl, hn, fun q H' hq B t e => .lst (L2.SqL.of e) (dw_ints _)⟩
theorem bWidth : Bnd "width" "width" (top 21) ["info"] := fun _ _ _ _ _ _ us hl => match us, hl with | [_], _ => rfl
theorem bWHA : Bnd "wide_head_at" "wide_head_at" (top 23) ["data", "at", "major", "info"] := fun _ _ _ _ _ _ us hl => match us, hl with | [_, _, _, _], _ => rfl
theorem bHA : Bnd "head_at" "head_at" (top 22) ["data", "at"] := fun _ _ _ _ _ _ us hl => match us, hl with | [_, _], _ => rfl
theorem bWH : Bnd "wide_head" "wide_head" (top 24) ["major", "info", "number"] := fun _ _ _ _ _ _ us hl => match us, hl with | [_, _, _], _ => rfl
theorem bSH : Bnd "short_head" "short_head" (top 25) ["major", "number"] := fun _ _ _ _ _ _ us hl => match us, hl with | [_, _], _ => rfl
theorem bIS : Bnd "is_string_kind" "is_string_kind" (top 29) ["kind"] := fun _ _ _ _ _ _ us hl => match us, hl with | [_], _ => rfl
theorem bKO : Bnd "kind_of" "kind_of" (top 30) ["head"] := fun _ _ _ _ _ _ us hl => match us, hl with | [_], _ => rfl
theorem bMC : Bnd "member_count" "member_count" (top 31) ["node"] := fun _ _ _ _ _ _ us hl => match us, hl with | [_], _ => rfl
theorem bNO : Bnd "nodes_of" "nodes_of" (top 32) ["form"] := fun _ _ _ _ _ _ us hl => match us, hl with | [_], _ => rfl
theorem bFN : Bnd "found_nodes" "found_nodes" (top 33) ["form"] := fun _ _ _ _ _ _ us hl => match us, hl with | [_], _ => rfl
theorem bMA : Bnd "mark_afters" "mark_afters" (top 34) ["nodes"] := fun _ _ _ _ _ _ us hl => match us, hl with | [_], _ => rfl
theorem bU8 : Bnd "is_utf8" "is_utf8" (top 40) ["row"] := fun _ _ _ _ _ _ us hl => match us, hl with | [_], _ => rfl
theorem bCL : Bnd "character_length" "character_length" (top 41) ["first"] := fun _ _ _ _ _ _ us hl => match us, hl with | [_], _ => rfl
theorem bIC : Bnd "is_character" "is_character" (top 42) ["row"] := fun _ _ _ _ _ _ us hl => match us, hl with | [_], _ => rfl
theorem bSF : Bnd "shortest_floating" "shortest_floating" (top 49) ["info", "bits"] := fun _ _ _ _ _ _ us hl => match us, hl with | [_, _], _ => rfl
theorem bSign : Bnd "sign_of" "sign_of" (top 50) ["info", "bits"] := fun _ _ _ _ _ _ us hl => match us, hl with | [_, _], _ => rfl
theorem bExpo : Bnd "exponent_of" "exponent_of" (top 51) ["info", "bits"] := fun _ _ _ _ _ _ us hl => match us, hl with | [_, _], _ => rfl
theorem bFrac : Bnd "fraction_of" "fraction_of" (top 52) ["info", "bits"] := fun _ _ _ _ _ _ us hl => match us, hl with | [_, _], _ => rfl
theorem bTop : Bnd "top_exponent" "top_exponent" (top 53) ["info"] := fun _ _ _ _ _ _ us hl => match us, hl with | [_], _ => rfl
theorem bInf : Bnd "is_infinite" "is_infinite" (top 54) ["info", "bits"] := fun _ _ _ _ _ _ us hl => match us, hl with | [_, _], _ => rfl
theorem bNan : Bnd "is_no_number" "is_no_number" (top 55) ["info", "bits"] := fun _ _ _ _ _ _ us hl => match us, hl with | [_, _], _ => rfl
theorem bNar : Bnd "narrowed" "narrowed" (top 56) ["info", "bits"] := fun _ _ _ _ _ _ us hl => match us, hl with | [_, _], _ => rfl
theorem bSteps : Bnd "steps" "steps" (top 57) ["info", "bits"] := fun _ _ _ _ _ _ us hl => match us, hl with | [_, _], _ => rfl
theorem bSize : Bnd "size_bits" "size_bits" (top 58) ["info", "count"] := fun _ _ _ _ _ _ us hl => match us, hl with | [_, _], _ => rfl
theorem bOF : Bnd "one_form" "one_form" (top 64) ["data"] := fun _ _ _ _ _ _ us hl => match us, hl with | [_], _ => rfl
theorem bIOF : Bnd "is_one_form" "is_one_form" (top 65) ["data"] := fun _ _ _ _ _ _ us hl => match us, hl with | [_], _ => rfl
theorem bLF : Bnd "lone_form" "lone_form" (top 66) ["head"] := fun _ _ _ _ _ _ us hl => match us, hl with | [_], _ => rfl
theorem bCF : Bnd "counted_form" "counted_form" (top 67) ["major", "forms"] := fun _ _ _ _ _ _ us hl => match us, hl with | [_, _], _ => rfl
theorem bNA : Bnd "has_neighbours_alike" "has_neighbours_alike" (top 68) ["keys"] := fun _ _ _ _ _ _ us hl => match us, hl with | [_], _ => rfl
theorem bToR : Bnd "told_row" "told_row" (top 84) ["row"] := fun _ _ _ _ _ _ us hl => match us, hl with | [_], _ => rfl
theorem bToT : Bnd "told_truth" "told_truth" (top 85) ["truth"] := fun _ _ _ _ _ _ us hl => match us, hl with | [_], _ => rfl
theorem bAN : Bnd "answer_about_node" "answer_about_node" (top 86) ["room", "call", "i", "row"] := fun _ _ _ _ _ _ us hl => match us, hl with | [_, _, _, _], _ => rfl
theorem bAV : Bnd "answer_about_value" "answer_about_value" (top 87) ["room", "call", "i", "row"] := fun _ _ _ _ _ _ us hl => match us, hl with | [_, _, _, _], _ => rfl
theorem bAns : Bnd "answer" "answer" (top 88) ["room", "call", "i", "row"] := fun _ _ _ _ _ _ us hl => match us, hl with | [_, _, _, _], _ => rfl
theorem bAR : Bnd "answer_or_refusal" "answer_or_refusal" (top 89) ["room", "call", "i", "row"] := fun _ _ _ _ _ _ us hl => match us, hl with | [_, _, _, _], _ => rfl
theorem bAn : Bnd "answers" "answers" (top 90) ["calls"] := fun _ _ _ _ _ _ us hl => match us, hl with | [_], _ => rfl
theorem bKHead : Bnd "__init__" "Head.__init__" (inClass (top 20) 0) ["self", "major", "info", "number", "behind"] := fun _ _ _ _ _ _ us hl => match us, hl with | [_, _, _, _, _], _ => rfl
theorem bKNode : Bnd "__init__" "Node.__init__" (inClass (top 28) 0) ["self", "head", "begins_at"] := fun _ _ _ _ _ _ us hl => match us, hl with | [_, _, _], _ => rfl
theorem bKRd : Bnd "__init__" "Reader.__init__" (inClass (top 69) 0) ["self", "data"] := fun _ _ _ _ _ _ us hl => match us, hl with | [_, _], _ => rfl
theorem bKLn : Bnd "__init__" "Line.__init__" (inClass (top 82) 0) ["self", "calls"] := fun _ _ _ _ _ _ us hl => match us, hl with | [_, _], _ => rfl
theorem bKRm : Bnd "__init__" "Room.__init__" (inClass (top 83) 0) ["self"] := fun _ _ _ _ _ _ us hl => match us, hl with | [_], _ => rfl
theorem bMTH : Bnd "take_head" "Reader.take_head" (inClass (top 69) 1) ["self"] := fun _ _ _ _ _ _ us hl => match us, hl with | [_], _ => rfl
theorem bMTI : Bnd "take_item" "Reader.take_item" (inClass (top 69) 2) ["self", "depth"] := fun _ _ _ _ _ _ us hl => match us, hl with | [_, _], _ => rfl
theorem bMCN : Bnd "count_node" "Reader.count_node" (inClass (top 69) 3) ["self"] := fun _ _ _ _ _ _ us hl => match us, hl with | [_], _ => rfl
theorem bMGO : Bnd "goes_on" "Reader.goes_on" (inClass (top 69) 4) ["self", "head", "taken"] := fun _ _ _ _ _ _ us hl => match us, hl with | [_, _, _], _ => rfl
theorem bMTA : Bnd "take_array" "Reader.take_array" (inClass (top 69) 5) ["self", "head", "depth"] := fun _ _ _ _ _ _ us hl => match us, hl with | [_, _, _], _ => rfl
theorem bMTS : Bnd "take_string" "Reader.take_string" (inClass (top 69) 7) ["self", "head"] := fun _ _ _ _ _ _ us hl => match us, hl with | [_, _], _ => rfl
theorem bMTP : Bnd "take_parts" "Reader.take_parts" (inClass (top 69) 8) ["self", "head"] := fun _ _ _ _ _ _ us hl => match us, hl with | [_, _], _ => rfl
theorem bMTC : Bnd "take_content" "Reader.take_content" (inClass (top 69) 9) ["self", "head"] := fun _ _ _ _ _ _ us hl => match us, hl with | [_, _], _ => rfl
theorem bMHM : Bnd "has_more" "Line.has_more" (inClass (top 82) 1) ["self"] := fun _ _ _ _ _ _ us hl => match us, hl with | [_], _ => rfl
theorem bMTN : Bnd "take_number" "Line.take_number" (inClass (top 82) 2) ["self"] := fun _ _ _ _ _ _ us hl => match us, hl with | [_], _ => rfl
theorem bMTR : Bnd "take_row" "Line.take_row" (inClass (top 82) 3) ["self"] := fun _ _ _ _ _ _ us hl => match us, hl with | [_], _ => rfl
theorem bMHo : Bnd "hold" "Room.hold" (inClass (top 83) 1) ["self", "form"] := fun _ _ _ _ _ _ us hl => match us, hl with | [_, _], _ => rfl
theorem bMNAt : Bnd "node_at" "Room.node_at" (inClass (top 83) 2) ["self", "i"] := fun _ _ _ _ _ _ us hl => match us, hl with | [_, _], _ => rfl
theorem bMCO : Bnd "content_of" "Room.content_of" (inClass (top 83) 3) ["self", "node"] := fun _ _ _ _ _ _ us hl => match us, hl with | [_, _], _ => rfl
theorem bMPO : Bnd "part_of" "Room.part_of" (inClass (top 83) 4) ["self", "node"] := fun _ _ _ _ _ _ us hl => match us, hl with | [_, _], _ => rfl
theorem bMVK : Bnd "value_by_key" "Room.value_by_key" (inClass (top 83) 5) ["self", "i", "key_form"] := fun _ _ _ _ _ _ us hl => match us, hl with | [_, _, _], _ => rfl
end
end My
end
section
namespace My
open PySem PySem.Spec PyProof.Rows L2 Of Pu
open PySem.W (WData Codec OpenSpec)
noncomputable def exAll (K : PySem.W.Frag) (l : List Addr) : Bool := l.all fun C => l.all fun D => PySem.W.exmOne K (.ref C) (.ref D) == some (C == D)
theorem ex_same {K : PySem.W.Frag} {l : List Addr} (h : exAll K l = true) (C : Addr) (hC : C ∈ l) : PySem.W.exmOne K (.ref C) (.ref C) = some true := by
 have := List.all_eq_true.mp (List.all_eq_true.mp h C hC) C hC
 simpa using this
theorem ex_other {K : PySem.W.Frag} {l : List Addr} (h : exAll K l = true) (C : Addr) (hC : C ∈ l) (D : Addr) (hD : D ∈ l) (n : C ≠ D) : PySem.W.exmOne K (.ref C) (.ref D) = some false := by
 have q := List.all_eq_true.mp (List.all_eq_true.mp h C hC) D hD
 have e : (C == D) = false := beq_eq_false_iff_ne.mpr n
 rw [e] at q
 exact eq_of_beq q
theorem fin {P : Program} {w : World} {K : PySem.W.Frag} {mg : Str → Option Value} {h : Heap} (KX : K.In h) (G : h.Ns mainGlobals mg) {fa : Addr} (hfa : mg "answers" = some (.ref fa))
   (CH CN CR CL CM xV xF xT xN xS xM xK aSm aNN aEB aFB tabP cM aSP aT fM : Addr)
   (p_oV : OwnX K mg "NoValue" xV)
   (p_oF : OwnX K mg "NotWellFormed" xF)
   (p_oT : OwnX K mg "KeyTwice" xT)
   (p_oN : OwnX K mg "NoNode" xN)
   (p_oS : OwnX K mg "NotString" xS)
   (p_oM : OwnX K mg "NotMap" xM)
   (p_oK : OwnX K mg "NoSuchKey" xK)
   (p_clH : Cls K CH)
   (p_clN : Cls K CN)
   (p_clR : Cls K CR)
   (p_clL : Cls K CL)
   (p_clM : Cls K CM)
   (p_nH1 : NoAttr K CH "major")
   (p_nH2 : NoAttr K CH "info")
   (p_nH3 : NoAttr K CH "number")
   (p_nH4 : NoAttr K CH "behind")
   (p_nN1 : NoAttr K CN "kind")
   (p_nN2 : NoAttr K CN "number")
   (p_nN3 : NoAttr K CN "begins_at")
   (p_nN4 : NoAttr K CN "content_at")
   (p_nN5 : NoAttr K CN "after")
   (p_nR1 : NoAttr K CR "data")
   (p_nR2 : NoAttr K CR "at")
   (p_nR3 : NoAttr K CR "node_count")
   (p_nR4 : NoAttr K CR "string_bytes")
   (p_nR5 : NoAttr K CR "key_twice")
   (p_nL1 : NoAttr K CL "calls")
   (p_nL2 : NoAttr K CL "at")
   (p_nM1 : NoAttr K CM "form")
   (p_nM2 : NoAttr K CM "nodes")
   (p_kNEG : Cst mg "NEGATIVE" 1)
   (p_kBS : Cst mg "BYTE_STRING" 2)
   (p_kTXT : Cst mg "TEXT" 3)
   (p_kARR : Cst mg "ARRAY" 4)
   (p_kMAP : Cst mg "MAP" 5)
   (p_kTAG : Cst mg "TAG" 6)
   (p_kSIM : Cst mg "SIMPLE" 7)
   (p_kSW : Cst mg "SHORTEST_WIDE" 24)
   (p_kLW : Cst mg "LONGEST_WIDE" 27)
   (p_kUP : Cst mg "UP_TO_BREAK" 31)
   (p_kBRK : Cst mg "BREAK" 255)
   (p_kFFK : Cst mg "FIRST_FLOATING_KIND" 8)
   (p_kGRT : Cst mg "GREATEST" 1114111)
   (p_kFS : Cst mg "FIRST_SURROGATE" 55296)
   (p_kLS : Cst mg "LAST_SURROGATE" 57343)
   (p_kHALF : Cst mg "HALF" 25)
   (p_kDEEP : Cst mg "MOST_DEEP" 16)
   (p_kMN : Cst mg "MOST_NODES" 1024)
   (p_kMS : Cst mg "MOST_STRING_BYTES" 8192)
   (p_kFWS : Cst mg "FIRST_WIDE_SIMPLE" 32)
   (p_kREAD : Cst mg "READ" 1)
   (p_kWRITE : Cst mg "WRITE" 2)
   (p_kCOUNT : Cst mg "COUNT" 3)
   (p_kKIND : Cst mg "KIND" 4)
   (p_kNUM : Cst mg "NUMBER" 5)
   (p_kCOPY : Cst mg "COPY" 6)
   (p_kAFTER : Cst mg "AFTER" 7)
   (p_kPART : Cst mg "PART" 8)
   (p_kSAME : Cst mg "SAME" 10)
   (p_kCAN : Cst mg "CANONICAL" 11)
   (p_len : mg "len" = none)
   (p_range : mg "range" = none)
   (p_list : mg "list" = none)
   (p_sorted : mg "sorted" = none)
   (p_mSm : mg "SMALLEST" = some (.ref aSm))
   (p_tSm : ∀ H, SqT K H aSm ([0, 0, 128, 2048, 65536].map V.int))
   (p_mNN : mg "NO_NUMBER" = some (.ref aNN))
   (p_tNN : ∀ H, SqT K H aNN ([249, 126, 0].map V.int))
   (p_mEB : mg "EXPONENT_BITS" = some (.ref aEB))
   (p_tEB : ∀ f : Fmt, TabI P w K aEB f.first (.int f.ebits))
   (p_mFB : mg "FRACTION_BITS" = some (.ref aFB))
   (p_tFB : ∀ f : Fmt, TabI P w K aFB f.first (.int f.fbits))
   (p_hdM : ∀ h, K.In h → PySem.W.CodeHd h cM tabP)
   (p_mSP : mg "STEP_POWER" = some (.ref aSP))
   (p_tSP : ∀ f : Fmt, TabI P w K aSP f.first (.int f.up))
   (zb : exAll K [xV, xF, xT, xN, xS, xM, xK] = true) (zn : [xV, xF, xT, xN, xS, xM, xK].Nodup)
   (mT : mg "TAKES" = some (.ref aT)) (r1 : TkR P w K aT 1) (r2 : TkR P w K aT 2) (r3 : TkR P w K aT 3) (r4 : TkR P w K aT 4) (r5 : TkR P w K aT 5) (r6 : TkR P w K aT 6) (r7 : TkR P w K aT 7) (r8 : TkR P w K aT 8) (r9 : TkR P w K aT 9) (r10 : TkR P w K aT 10) (r11 : TkR P w K aT 11)
   (dWidth : DfP K mg "width" (top 21) ["info"]) (dWHA : DfP K mg "wide_head_at" (top 23) ["data", "at", "major", "info"]) (dHA : DfP K mg "head_at" (top 22) ["data", "at"])
   (dWH : DfP K mg "wide_head" (top 24) ["major", "info", "number"]) (dSH : DfP K mg "short_head" (top 25) ["major", "number"]) (dIS : DfP K mg "is_string_kind" (top 29) ["kind"])
   (dKO : DfP K mg "kind_of" (top 30) ["head"]) (dMC : DfP K mg "member_count" (top 31) ["node"]) (dNO : DfP K mg "nodes_of" (top 32) ["form"])
   (dFN : DfP K mg "found_nodes" (top 33) ["form"]) (dMA : DfP K mg "mark_afters" (top 34) ["nodes"]) (dU8 : DfP K mg "is_utf8" (top 40) ["row"])
   (dCL : DfP K mg "character_length" (top 41) ["first"]) (dIC : DfP K mg "is_character" (top 42) ["row"]) (dSF : DfP K mg "shortest_floating" (top 49) ["info", "bits"])
   (dSign : DfP K mg "sign_of" (top 50) ["info", "bits"]) (dExpo : DfP K mg "exponent_of" (top 51) ["info", "bits"]) (dFrac : DfP K mg "fraction_of" (top 52) ["info", "bits"])
   (dTop : DfP K mg "top_exponent" (top 53) ["info"]) (dInf : DfP K mg "is_infinite" (top 54) ["info", "bits"]) (dNan : DfP K mg "is_no_number" (top 55) ["info", "bits"])
   (dNar : DfP K mg "narrowed" (top 56) ["info", "bits"]) (dSteps : DfP K mg "steps" (top 57) ["info", "bits"]) (dSize : DfP K mg "size_bits" (top 58) ["info", "count"])
   (dOF : DfP K mg "one_form" (top 64) ["data"]) (dIOF : DfP K mg "is_one_form" (top 65) ["data"]) (dLF : DfP K mg "lone_form" (top 66) ["head"])
   (dCF : DfP K mg "counted_form" (top 67) ["major", "forms"]) (dNA : DfP K mg "has_neighbours_alike" (top 68) ["keys"]) (dToR : DfP K mg "told_row" (top 84) ["row"])
   (dToT : DfP K mg "told_truth" (top 85) ["truth"]) (dAN : DfP K mg "answer_about_node" (top 86) ["room", "call", "i", "row"]) (dAV : DfP K mg "answer_about_value" (top 87) ["room", "call", "i", "row"])
   (dAns : DfP K mg "answer" (top 88) ["room", "call", "i", "row"]) (dAR : DfP K mg "answer_or_refusal" (top 89) ["room", "call", "i", "row"]) (dAn : DfP K mg "answers" (top 90) ["calls"])
   (dKHead : MkP K mg CH "Head" "Head.__init__" (inClass (top 20) 0) ["self", "major", "info", "number", "behind"]) (dKNode : MkP K mg CN "Node" "Node.__init__" (inClass (top 28) 0) ["self", "head", "begins_at"]) (dKRd : MkP K mg CR "Reader" "Reader.__init__" (inClass (top 69) 0) ["self", "data"])
   (dKLn : MkP K mg CL "Line" "Line.__init__" (inClass (top 82) 0) ["self", "calls"]) (dKRm : MkP K mg CM "Room" "Room.__init__" (inClass (top 83) 0) ["self"]) (mTH : MtP K CR "take_head" "Reader.take_head" (inClass (top 69) 1) ["self"])
   (mTI : MtP K CR "take_item" "Reader.take_item" (inClass (top 69) 2) ["self", "depth"]) (mCN : MtP K CR "count_node" "Reader.count_node" (inClass (top 69) 3) ["self"]) (mGO : MtP K CR "goes_on" "Reader.goes_on" (inClass (top 69) 4) ["self", "head", "taken"])
   (mTA : MtP K CR "take_array" "Reader.take_array" (inClass (top 69) 5) ["self", "head", "depth"]) (mTS : MtP K CR "take_string" "Reader.take_string" (inClass (top 69) 7) ["self", "head"]) (mTP : MtP K CR "take_parts" "Reader.take_parts" (inClass (top 69) 8) ["self", "head"])
   (mTC : MtP K CR "take_content" "Reader.take_content" (inClass (top 69) 9) ["self", "head"]) (mHM : MtP K CL "has_more" "Line.has_more" (inClass (top 82) 1) ["self"]) (mTN : MtP K CL "take_number" "Line.take_number" (inClass (top 82) 2) ["self"])
   (mTR : MtP K CL "take_row" "Line.take_row" (inClass (top 82) 3) ["self"]) (mHo : MtP K CM "hold" "Room.hold" (inClass (top 83) 1) ["self", "form"]) (mNAt : MtP K CM "node_at" "Room.node_at" (inClass (top 83) 2) ["self", "i"])
   (mCO : MtP K CM "content_of" "Room.content_of" (inClass (top 83) 3) ["self", "node"]) (mPO : MtP K CM "part_of" "Room.part_of" (inClass (top 83) 4) ["self", "node"]) (mVK : MtP K CM "value_by_key" "Room.value_by_key" (inClass (top 83) 5) ["self", "i", "key_form"])
   {od an : Option Addr} {osl : Array (Option Value)} {oc kV doc pm ct : Value} (tm1 : PySem.W.findIn K (.ref CR) "take_map" = some (some (.ref fM))) (tm2 : PySem.W.isFn K (.ref fM) = true)
   (tm3 : K.lookup fM = some ⟨oc, od, .func (PySem.W.fnOf "take_map" "Reader.take_map" (defArgs (inClass (top 69) 6)) (defBody (inClass (top 69) 6)) (defScope (inClass (top 69) 6)) .none kV doc pm an (.ref cM) ct), osl⟩) (tm4 : PySem.W.codeIn K (.ref cM) "Reader.take_map" = true) (tm5 : PySem.W.keepIn K (.ref fM) = true) :
   ∃ (fd : FuncData) (sp : Sp), (∀ (s : Shared) (us : List Value), us.length = (["calls"] : List Str).length → BindsTo s fd ⟨us, []⟩ ((["calls"] : List Str).zip us)) ∧ (∀ base : Heap, K.In base → base.Ns mainGlobals mg → BM base mg → FnOk P w K mg base (CXE P w) 45 fa fd ["calls"] sp) ∧
     ∀ (Ha H : Hp) (xs : List V) (l : List Int), Same Ha H → H tabP = some (.tbl #[]) → PyYqofma.answers_asked l = true → DwAll K Ha xs [WData.list (l.map WData.int)] → sp xs H (fun v H' => Dw K H' v (WData.list ((PyYqofma.answers l).map WData.int))) fun _ _ _ => False := by
 let T : Tx P w K mg := ⟨CH, CN, CR, CL, CM, xV, xF, xT, xN, xS, xM, xK, p_oV, p_oF, p_oT, p_oN, p_oS, p_oM, p_oK, p_clH, p_clN, p_clR, p_clL, p_clM, p_nH1, p_nH2, p_nH3, p_nH4, p_nN1, p_nN2, p_nN3, p_nN4, p_nN5, p_nR1, p_nR2, p_nR3, p_nR4, p_nR5, p_nL1, p_nL2, p_nM1, p_nM2, p_kNEG, p_kBS, p_kTXT, p_kARR, p_kMAP, p_kTAG, p_kSIM, p_kSW, p_kLW, p_kUP, p_kBRK, p_kFFK, p_kGRT, p_kFS, p_kLS, p_kHALF, p_kDEEP, p_kMN, p_kMS, p_kFWS, p_kREAD, p_kWRITE, p_kCOUNT, p_kKIND, p_kNUM, p_kCOPY, p_kAFTER, p_kPART, p_kSAME, p_kCAN, p_len, p_range, p_list, p_sorted, aSm, p_mSm, p_tSm, aNN, p_mNN, p_tNN, aEB, p_mEB, p_tEB, aFB, p_mFB, p_tFB, tabP, cM, p_hdM, aSP, p_mSP, p_tSP⟩
 have Z : Xs T := ⟨ex_same zb, ex_other zb, zn⟩
 have Y : Tk T aT := tk_mk T mT r1 r2 r3 r4 r5 r6 r7 r8 r9 r10 r11
 have mTM : TmP T := tm_mk T tm1 tm2 tm3 tm4 tm5
 obtain ⟨fd, hb, hF⟩ := all_ok T Z Y hfa dWidth dWHA dHA dWH dSH dIS dKO dMC dNO dFN dMA dU8 dCL dIC dSF dSign dExpo dFrac dTop dInf dNan dNar dSteps dSize dOF dIOF dLF dCF dNA dToR dToT dAN dAV dAns dAR dAn dKHead dKNode dKRd dKLn dKRm mTH mTI mCN mGO mTA mTM mTS mTP mTC mHM mTN mTR mHo mNAt mCO mPO mVK
 exact ⟨fd, spAn T, hb, fun base _ _ hB => hF base hB, fun Ha H xs l sm hT hask hx => hsp_ok T rfl Ha H xs l sm hT hask hx⟩
end My
end
open PySem PySem.W PyProof.Rows
set_option maxHeartbeats 0 in
theorem PySem.Challenge.cw_oneformroom_s01_answers_holds : PySem.Challenge.rw_oneformroom_s01_answers.Holds := by
 refine PySem.W.holds_os (q := Hd.pQ) (loose := Hd.lo) (Xt := Hd.Xt) (XP := XL Hd.pQ []) (Yf := Hd.hk.obs) (Ya := Hd.hk.val) (N := 9824)
   (YP := (kmHook Hd.kpre.heap_1 Hd.kAs Hd.kAs_eq [406]).says) Hd.left Hd.hk.of Hd.hk.keeps (fun s e => xl_of s (Hd.both e).1) XL.keeps
   (by rfl) (by rfl) (by rfl) (fun s e => recFacts_of (Hd.both e).2)
   os_shapes Hd.well Hd.chains Hd.bare ?hw ?hc
 case hw => exact ⟨[.list [.int 2]], by decide +kernel, by decide +kernel⟩
 k_fillS
 refine My.walk_specT (r := PySem.Challenge.rw_oneformroom_s01_answers) (k := 45) (Pt := 406) (c := 408) (ps := ["calls"]) Hd.well rfl rfl ⟨rfl, by decide, by decide⟩ (fun w h Y => ⟨PySem.W.km_in_of Y, PySem.W.km_tabs_of Y 406 (by simp)⟩) (fun w => ?TK) (fun w h KX => PySem.W.codeHd_of_K KX ?CH) ?F
 case TK => kernel_rfl
 case CH => kernel_rfl
 case F =>
   intro w mg fa h KX G hmg
   have main := My.fin (P := PySem.Challenge.rw_oneformroom_s01_answers.prog) (w := w) KX G hmg
     122
     178
     433
     487
     543
     24
     37
     50
     63
     76
     89
     102
     225
     250
     247
     248
     406
     408
     249
     438
     _
     ⟨PySem.W.mg_of KX G (by k_is), by kernel_rfl⟩
     ⟨PySem.W.mg_of KX G (by k_is), by kernel_rfl⟩
     ⟨PySem.W.mg_of KX G (by k_is), by kernel_rfl⟩
     ⟨PySem.W.mg_of KX G (by k_is), by kernel_rfl⟩
     ⟨PySem.W.mg_of KX G (by k_is), by kernel_rfl⟩
     ⟨PySem.W.mg_of KX G (by k_is), by kernel_rfl⟩
     ⟨PySem.W.mg_of KX G (by k_is), by kernel_rfl⟩
     ⟨by k_is, by k_is, by k_is, by k_is⟩
     ⟨by k_is, by k_is, by k_is, by k_is⟩
     ⟨by k_is, by k_is, by k_is, by k_is⟩
     ⟨by k_is, by k_is, by k_is, by k_is⟩
     ⟨by k_is, by k_is, by k_is, by k_is⟩
     (show PySem.W.findIn _ _ _ = _ by k_is)
     (show PySem.W.findIn _ _ _ = _ by k_is)
     (show PySem.W.findIn _ _ _ = _ by k_is)
     (show PySem.W.findIn _ _ _ = _ by k_is)
     (show PySem.W.findIn _ _ _ = _ by k_is)
     (show PySem.W.findIn _ _ _ = _ by k_is)
     (show PySem.W.findIn _ _ _ = _ by k_is)
     (show PySem.W.findIn _ _ _ = _ by k_is)
     (show PySem.W.findIn _ _ _ = _ by k_is)
     (show PySem.W.findIn _ _ _ = _ by k_is)
     (show PySem.W.findIn _ _ _ = _ by k_is)
     (show PySem.W.findIn _ _ _ = _ by k_is)
     (show PySem.W.findIn _ _ _ = _ by k_is)
     (show PySem.W.findIn _ _ _ = _ by k_is)
     (show PySem.W.findIn _ _ _ = _ by k_is)
     (show PySem.W.findIn _ _ _ = _ by k_is)
     (show PySem.W.findIn _ _ _ = _ by k_is)
     (show PySem.W.findIn _ _ _ = _ by k_is)
     (My.cst_mk KX G (by k_is))
     (My.cst_mk KX G (by k_is))
     (My.cst_mk KX G (by k_is))
     (My.cst_mk KX G (by k_is))
     (My.cst_mk KX G (by k_is))
     (My.cst_mk KX G (by k_is))
     (My.cst_mk KX G (by k_is))
     (My.cst_mk KX G (by k_is))
     (My.cst_mk KX G (by k_is))
     (My.cst_mk KX G (by k_is))
     (My.cst_mk KX G (by k_is))
     (My.cst_mk KX G (by k_is))
     (My.cst_mk KX G (by k_is))
     (My.cst_mk KX G (by k_is))
     (My.cst_mk KX G (by k_is))
     (My.cst_mk KX G (by k_is))
     (My.cst_mk KX G (by k_is))
     (My.cst_mk KX G (by k_is))
     (My.cst_mk KX G (by k_is))
     (My.cst_mk KX G (by k_is))
     (My.cst_mk KX G (by k_is))
     (My.cst_mk KX G (by k_is))
     (My.cst_mk KX G (by k_is))
     (My.cst_mk KX G (by k_is))
     (My.cst_mk KX G (by k_is))
     (My.cst_mk KX G (by k_is))
     (My.cst_mk KX G (by k_is))
     (My.cst_mk KX G (by k_is))
     (My.cst_mk KX G (by k_is))
     (My.cst_mk KX G (by k_is))
     (PySem.W.mg_none_of KX G (by k_is))
     (PySem.W.mg_none_of KX G (by k_is))
     (PySem.W.mg_none_of KX G (by k_is))
     (PySem.W.mg_none_of KX G (by k_is))
     (PySem.W.mg_of KX G (by k_is))
     (by refine' My.sqT_int ?l ?hs ?hv; (case l => k_is); (case hs => decide +kernel); (case hv => decide +kernel))
     (PySem.W.mg_of KX G (by k_is))
     (by refine' My.sqT_int ?l ?hs ?hv; (case l => k_is); (case hs => decide +kernel); (case hv => decide +kernel))
     (PySem.W.mg_of KX G (by k_is))
     (by refine' My.tabF (g := Of.Fmt.ebits) ?l ?ik ?h1 ?h2 ?h3; (case l => k_is); (case ik => decide +kernel); (case h1 => decide +kernel); (case h2 => decide +kernel); (case h3 => decide +kernel))
     (PySem.W.mg_of KX G (by k_is))
     (by refine' My.tabF (g := Of.Fmt.fbits) ?l ?ik ?h1 ?h2 ?h3; (case l => k_is); (case ik => decide +kernel); (case h1 => decide +kernel); (case h2 => decide +kernel); (case h3 => decide +kernel))
     (fun h X => PySem.W.codeHd_of_K X (by kernel_rfl))
     (PySem.W.mg_of KX G (by k_is))
     (by refine' My.tabF (g := Of.Fmt.up) ?l ?ik ?h1 ?h2 ?h3; (case l => k_is); (case ik => decide +kernel); (case h1 => decide +kernel); (case h2 => decide +kernel); (case h3 => decide +kernel))
     (by kernel_rfl)
     (by decide +kernel)
     (PySem.W.mg_of KX G (by k_is))
     (by refine' My.tkr_mk ?l ?ik ?hf ?l2 ?hs ?hv; (case l => k_is); (case hf => rfl); (case l2 => k_is); (case ik => decide +kernel); (case hs => decide +kernel); (case hv => decide +kernel))
     (by refine' My.tkr_mk ?l ?ik ?hf ?l2 ?hs ?hv; (case l => k_is); (case hf => rfl); (case l2 => k_is); (case ik => decide +kernel); (case hs => decide +kernel); (case hv => decide +kernel))
     (by refine' My.tkr_mk ?l ?ik ?hf ?l2 ?hs ?hv; (case l => k_is); (case hf => rfl); (case l2 => k_is); (case ik => decide +kernel); (case hs => decide +kernel); (case hv => decide +kernel))
     (by refine' My.tkr_mk ?l ?ik ?hf ?l2 ?hs ?hv; (case l => k_is); (case hf => rfl); (case l2 => k_is); (case ik => decide +kernel); (case hs => decide +kernel); (case hv => decide +kernel))
     (by refine' My.tkr_mk ?l ?ik ?hf ?l2 ?hs ?hv; (case l => k_is); (case hf => rfl); (case l2 => k_is); (case ik => decide +kernel); (case hs => decide +kernel); (case hv => decide +kernel))
     (by refine' My.tkr_mk ?l ?ik ?hf ?l2 ?hs ?hv; (case l => k_is); (case hf => rfl); (case l2 => k_is); (case ik => decide +kernel); (case hs => decide +kernel); (case hv => decide +kernel))
     (by refine' My.tkr_mk ?l ?ik ?hf ?l2 ?hs ?hv; (case l => k_is); (case hf => rfl); (case l2 => k_is); (case ik => decide +kernel); (case hs => decide +kernel); (case hv => decide +kernel))
     (by refine' My.tkr_mk ?l ?ik ?hf ?l2 ?hs ?hv; (case l => k_is); (case hf => rfl); (case l2 => k_is); (case ik => decide +kernel); (case hs => decide +kernel); (case hv => decide +kernel))
     (by refine' My.tkr_mk ?l ?ik ?hf ?l2 ?hs ?hv; (case l => k_is); (case hf => rfl); (case l2 => k_is); (case ik => decide +kernel); (case hs => decide +kernel); (case hv => decide +kernel))
     (by refine' My.tkr_mk ?l ?ik ?hf ?l2 ?hs ?hv; (case l => k_is); (case hf => rfl); (case l2 => k_is); (case ik => decide +kernel); (case hs => decide +kernel); (case hv => decide +kernel))
     (by refine' My.tkr_mk ?l ?ik ?hf ?l2 ?hs ?hv; (case l => k_is); (case hf => rfl); (case l2 => k_is); (case ik => decide +kernel); (case hs => decide +kernel); (case hv => decide +kernel))
     (by refine' My.df_mk KX G ?a ?l ?c ?k My.bWidth; (case a => k_is); (case l => k_is); (case c => k_is); (case k => k_is))
     (by refine' My.df_mk KX G ?a ?l ?c ?k My.bWHA; (case a => k_is); (case l => k_is); (case c => k_is); (case k => k_is))
     (by refine' My.df_mk KX G ?a ?l ?c ?k My.bHA; (case a => k_is); (case l => k_is); (case c => k_is); (case k => k_is))
     (by refine' My.df_mk KX G ?a ?l ?c ?k My.bWH; (case a => k_is); (case l => k_is); (case c => k_is); (case k => k_is))
     (by refine' My.df_mk KX G ?a ?l ?c ?k My.bSH; (case a => k_is); (case l => k_is); (case c => k_is); (case k => k_is))
     (by refine' My.df_mk KX G ?a ?l ?c ?k My.bIS; (case a => k_is); (case l => k_is); (case c => k_is); (case k => k_is))
     (by refine' My.df_mk KX G ?a ?l ?c ?k My.bKO; (case a => k_is); (case l => k_is); (case c => k_is); (case k => k_is))
     (by refine' My.df_mk KX G ?a ?l ?c ?k My.bMC; (case a => k_is); (case l => k_is); (case c => k_is); (case k => k_is))
     (by refine' My.df_mk KX G ?a ?l ?c ?k My.bNO; (case a => k_is); (case l => k_is); (case c => k_is); (case k => k_is))
     (by refine' My.df_mk KX G ?a ?l ?c ?k My.bFN; (case a => k_is); (case l => k_is); (case c => k_is); (case k => k_is))
     (by refine' My.df_mk KX G ?a ?l ?c ?k My.bMA; (case a => k_is); (case l => k_is); (case c => k_is); (case k => k_is))
     (by refine' My.df_mk KX G ?a ?l ?c ?k My.bU8; (case a => k_is); (case l => k_is); (case c => k_is); (case k => k_is))
     (by refine' My.df_mk KX G ?a ?l ?c ?k My.bCL; (case a => k_is); (case l => k_is); (case c => k_is); (case k => k_is))
     (by refine' My.df_mk KX G ?a ?l ?c ?k My.bIC; (case a => k_is); (case l => k_is); (case c => k_is); (case k => k_is))
     (by refine' My.df_mk KX G ?a ?l ?c ?k My.bSF; (case a => k_is); (case l => k_is); (case c => k_is); (case k => k_is))
     (by refine' My.df_mk KX G ?a ?l ?c ?k My.bSign; (case a => k_is); (case l => k_is); (case c => k_is); (case k => k_is))
     (by refine' My.df_mk KX G ?a ?l ?c ?k My.bExpo; (case a => k_is); (case l => k_is); (case c => k_is); (case k => k_is))
     (by refine' My.df_mk KX G ?a ?l ?c ?k My.bFrac; (case a => k_is); (case l => k_is); (case c => k_is); (case k => k_is))
     (by refine' My.df_mk KX G ?a ?l ?c ?k My.bTop; (case a => k_is); (case l => k_is); (case c => k_is); (case k => k_is))
     (by refine' My.df_mk KX G ?a ?l ?c ?k My.bInf; (case a => k_is); (case l => k_is); (case c => k_is); (case k => k_is))
     (by refine' My.df_mk KX G ?a ?l ?c ?k My.bNan; (case a => k_is); (case l => k_is); (case c => k_is); (case k => k_is))
     (by refine' My.df_mk KX G ?a ?l ?c ?k My.bNar; (case a => k_is); (case l => k_is); (case c => k_is); (case k => k_is))
     (by refine' My.df_mk KX G ?a ?l ?c ?k My.bSteps; (case a => k_is); (case l => k_is); (case c => k_is); (case k => k_is))
     (by refine' My.df_mk KX G ?a ?l ?c ?k My.bSize; (case a => k_is); (case l => k_is); (case c => k_is); (case k => k_is))
     (by refine' My.df_mk KX G ?a ?l ?c ?k My.bOF; (case a => k_is); (case l => k_is); (case c => k_is); (case k => k_is))
     (by refine' My.df_mk KX G ?a ?l ?c ?k My.bIOF; (case a => k_is); (case l => k_is); (case c => k_is); (case k => k_is))
     (by refine' My.df_mk KX G ?a ?l ?c ?k My.bLF; (case a => k_is); (case l => k_is); (case c => k_is); (case k => k_is))
     (by refine' My.df_mk KX G ?a ?l ?c ?k My.bCF; (case a => k_is); (case l => k_is); (case c => k_is); (case k => k_is))
     (by refine' My.df_mk KX G ?a ?l ?c ?k My.bNA; (case a => k_is); (case l => k_is); (case c => k_is); (case k => k_is))
     (by refine' My.df_mk KX G ?a ?l ?c ?k My.bToR; (case a => k_is); (case l => k_is); (case c => k_is); (case k => k_is))
     (by refine' My.df_mk KX G ?a ?l ?c ?k My.bToT; (case a => k_is); (case l => k_is); (case c => k_is); (case k => k_is))
     (by refine' My.df_mk KX G ?a ?l ?c ?k My.bAN; (case a => k_is); (case l => k_is); (case c => k_is); (case k => k_is))
     (by refine' My.df_mk KX G ?a ?l ?c ?k My.bAV; (case a => k_is); (case l => k_is); (case c => k_is); (case k => k_is))
     (by refine' My.df_mk KX G ?a ?l ?c ?k My.bAns; (case a => k_is); (case l => k_is); (case c => k_is); (case k => k_is))
     (by refine' My.df_mk KX G ?a ?l ?c ?k My.bAR; (case a => k_is); (case l => k_is); (case c => k_is); (case k => k_is))
     (by refine' My.df_mk KX G ?a ?l ?c ?k My.bAn; (case a => k_is); (case l => k_is); (case c => k_is); (case k => k_is))
     (by refine' My.mk_mk KX G ?aC ?a ?i ?l ?c ?k ?m ?kc My.bKHead; (case aC => k_is); (case a => k_is); (case i => k_is); (case l => k_is); (case c => k_is); (case k => k_is); (case m => k_is); (case kc => k_is))
     (by refine' My.mk_mk KX G ?aC ?a ?i ?l ?c ?k ?m ?kc My.bKNode; (case aC => k_is); (case a => k_is); (case i => k_is); (case l => k_is); (case c => k_is); (case k => k_is); (case m => k_is); (case kc => k_is))
     (by refine' My.mk_mk KX G ?aC ?a ?i ?l ?c ?k ?m ?kc My.bKRd; (case aC => k_is); (case a => k_is); (case i => k_is); (case l => k_is); (case c => k_is); (case k => k_is); (case m => k_is); (case kc => k_is))
     (by refine' My.mk_mk KX G ?aC ?a ?i ?l ?c ?k ?m ?kc My.bKLn; (case aC => k_is); (case a => k_is); (case i => k_is); (case l => k_is); (case c => k_is); (case k => k_is); (case m => k_is); (case kc => k_is))
     (by refine' My.mk_mk KX G ?aC ?a ?i ?l ?c ?k ?m ?kc My.bKRm; (case aC => k_is); (case a => k_is); (case i => k_is); (case l => k_is); (case c => k_is); (case k => k_is); (case m => k_is); (case kc => k_is))
     (by refine' My.mt_mk ?a ?i ?l ?c ?k My.bMTH; (case a => k_is); (case i => k_is); (case l => k_is); (case c => k_is); (case k => k_is))
     (by refine' My.mt_mk ?a ?i ?l ?c ?k My.bMTI; (case a => k_is); (case i => k_is); (case l => k_is); (case c => k_is); (case k => k_is))
     (by refine' My.mt_mk ?a ?i ?l ?c ?k My.bMCN; (case a => k_is); (case i => k_is); (case l => k_is); (case c => k_is); (case k => k_is))
     (by refine' My.mt_mk ?a ?i ?l ?c ?k My.bMGO; (case a => k_is); (case i => k_is); (case l => k_is); (case c => k_is); (case k => k_is))
     (by refine' My.mt_mk ?a ?i ?l ?c ?k My.bMTA; (case a => k_is); (case i => k_is); (case l => k_is); (case c => k_is); (case k => k_is))
     (by refine' My.mt_mk ?a ?i ?l ?c ?k My.bMTS; (case a => k_is); (case i => k_is); (case l => k_is); (case c => k_is); (case k => k_is))
     (by refine' My.mt_mk ?a ?i ?l ?c ?k My.bMTP; (case a => k_is); (case i => k_is); (case l => k_is); (case c => k_is); (case k => k_is))
     (by refine' My.mt_mk ?a ?i ?l ?c ?k My.bMTC; (case a => k_is); (case i => k_is); (case l => k_is); (case c => k_is); (case k => k_is))
     (by refine' My.mt_mk ?a ?i ?l ?c ?k My.bMHM; (case a => k_is); (case i => k_is); (case l => k_is); (case c => k_is); (case k => k_is))
     (by refine' My.mt_mk ?a ?i ?l ?c ?k My.bMTN; (case a => k_is); (case i => k_is); (case l => k_is); (case c => k_is); (case k => k_is))
     (by refine' My.mt_mk ?a ?i ?l ?c ?k My.bMTR; (case a => k_is); (case i => k_is); (case l => k_is); (case c => k_is); (case k => k_is))
     (by refine' My.mt_mk ?a ?i ?l ?c ?k My.bMHo; (case a => k_is); (case i => k_is); (case l => k_is); (case c => k_is); (case k => k_is))
     (by refine' My.mt_mk ?a ?i ?l ?c ?k My.bMNAt; (case a => k_is); (case i => k_is); (case l => k_is); (case c => k_is); (case k => k_is))
     (by refine' My.mt_mk ?a ?i ?l ?c ?k My.bMCO; (case a => k_is); (case i => k_is); (case l => k_is); (case c => k_is); (case k => k_is))
     (by refine' My.mt_mk ?a ?i ?l ?c ?k My.bMPO; (case a => k_is); (case i => k_is); (case l => k_is); (case c => k_is); (case k => k_is))
     (by refine' My.mt_mk ?a ?i ?l ?c ?k My.bMVK; (case a => k_is); (case i => k_is); (case l => k_is); (case c => k_is); (case k => k_is))
     (by k_is)
     (by k_is)
     (by k_is)
     (by k_is)
     (by k_is)
   obtain ⟨fd, sp, h1, h2, h3⟩ := main
   exact ⟨fd, sp, h1, h2, fun Ha H xs a s1 s2 _ s4 s5 => h3 Ha H xs a.1 s1 s2 s4 s5⟩
#print axioms PySem.Challenge.cw_oneformroom_s01_answers_holds
