import PyProof.Rows.All
import Wide.All
import OpenK.AllK
import Wide.FinOn
import PyProof.EqAt
import PyProof.EqKinds
import PyProof.TupleCall
import KE.BitLaws
import Open.SpecLaws
import KE.OsHead
import KE.OsGo
import PyProof.Rows.StrDigitsNeg
import PyProof.Rows.StrOr
import PyProof.Rows.Digits
import PyProof.Rows.RuleM_int
import PyProof.FString
import KE.KLam
import KE.KEqSeq
import Open.Pieces
import PySem.Challenge.RW_thirdsums_s05_petzval
set_option Elab.async false
set_option linter.all false
set_option maxRecDepth 100000
section
set_option maxRecDepth 1000000
namespace Th
open PySem PySem.W PyProof.Rows
def topRunT (tb : String → Option Builtin) (p : Program) (w : World) (n₀ : Nat) (ann : Option Value) : Nat → SharedT → Thread → Option SharedT
  | 0, _, _ => none
  | n + 1, s, t => match through t with
    | true => some s
    | false => match stepOk n₀ ann t with
      | false => none
      | true => match stepT (denote tb) p w s t with
        | some (s', t') => topRunT tb p w n₀ ann n s' t'
        | none => none
theorem topRun_of {tb : String → Option Builtin} {p : Program} {w : World} {n₀ : Nat} {ann : Option Value} : ∀ {n : Nat} {s s' : SharedT} {t : Thread}, topRunT tb p w n₀ ann n s t = some s' → topRun tb p w n₀ ann n s.abs t = some s'.abs
  | 0, _, _, _, h => by cases h
  | n + 1, s, s', t, h => by
    unfold topRunT at h
    unfold topRun
    cases he : through t with
    | true => rw [he] at h; cases h; rfl
    | false =>
      rw [he] at h
      cases hk : stepOk n₀ ann t with
      | false => rw [hk] at h; cases h
      | true =>
        rw [hk] at h
        cases hs : stepT (denote tb) p w s t with
        | none => rw [hs] at h; cases h
        | some r => obtain ⟨s₂, t₂⟩ := r; rw [hs] at h; rw [stepT_spec hs]; exact topRun_of h
def grow : List Obj → BT → Nat → Option BT
  | [], t, _ => some t
  | o :: l, t, n => match ((t.ins n o).get n).isSome with
    | true => grow l (t.ins n o) (n + 1)
    | false => none
theorem grow_of {life : Life} : ∀ {l : List Obj} {t T : BT} {n : Nat} {xs : List Obj}, grow l t n = some T → absHeap t n life = ⟨xs.toArray, life⟩ → absHeap T (n + l.length) life = ⟨(xs ++ l).toArray, life⟩
  | [], t, T, n, xs, h, e => by cases h; rw [List.append_nil]; exact e
  | o :: l, t, T, n, xs, h, e => by
    unfold grow at h
    cases hg : ((t.ins n o).get n).isSome with
    | false => rw [hg] at h; cases h
    | true =>
      rw [hg] at h
      have e2 : absHeap (t.ins n o) (n + 1) life = ⟨(xs ++ [o]).toArray, life⟩ := by
        rw [absHeap_ins hg, e]
        show (⟨xs.toArray.push o, life⟩ : Heap) = _
        rw [List.push_toArray]
      have := grow_of (l := l) h e2
      rw [List.length_cons, show n + (l.length + 1) = n + 1 + l.length by omega, this, List.append_assoc]
      rfl
def runT (tb : String → Option Builtin) (p : Program) (w : World) (N : Nat) : Option Shared := (fencedOpening tb p w N).bind fun s₀ => match s₀.heap.isNs mainGlobals && s₀.gens.size == 0 with
  | true => (grow s₀.heap.objs.toList .nil 0).bind fun T => (topRunT tb p w s₀.heap.objs.size (s₀.heap.nsMap mainGlobals "__annotations__") N ⟨T, s₀.heap.objs.size, s₀.heap.life, s₀.gens, s₀.drawn, s₀.toks, s₀.os⟩ (topStub p)).bind fun s₁ =>
      match staticsOk (importedModules p.main.body) s₀.heap s₁.abs.heap && namesBound p s₁.abs.heap && gensDone s₁.abs && laidKept s₀.heap s₁.abs.heap with
      | true => some s₁.abs
      | false => none
  | false => none
theorem runT_of {tb : String → Option Builtin} {p : Program} {w : World} {N : Nat} {s : Shared} (h : runT tb p w N = some s) : openEnds tb p w N = some s := by
  unfold runT at h
  unfold openEnds
  obtain ⟨s₀, e0, h⟩ := Option.bind_eq_some_iff.mp h
  rw [e0]
  show topFrom tb p w N s₀ = some s
  unfold topFrom
  cases hg : (s₀.heap.isNs mainGlobals && s₀.gens.size == 0) with
  | false => rw [hg] at h; cases h
  | true =>
    rw [hg] at h
    dsimp only at h ⊢
    obtain ⟨T, eT, h⟩ := Option.bind_eq_some_iff.mp h
    obtain ⟨s₁, e1, h⟩ := Option.bind_eq_some_iff.mp h
    have ha : absHeap T s₀.heap.objs.size s₀.heap.life = s₀.heap := by
      have := grow_of (life := s₀.heap.life) (xs := []) eT rfl
      rw [Nat.zero_add, List.nil_append, Array.length_toList] at this
      rw [this]
    have := topRun_of e1
    rw [show (SharedT.abs ⟨T, s₀.heap.objs.size, s₀.heap.life, s₀.gens, s₀.drawn, s₀.toks, s₀.os⟩) = s₀ from by unfold SharedT.abs; dsimp only; rw [ha]] at this
    rw [this]
    dsimp only [Option.bind_some]
    exact h
end Th

open PySem PySem.W PyProof.Rows
def Th.tp (i : Nat) : Stmt := PySem.Challenge.pw_thirdsums_s05_petzval.main.body.getD i (.Pass ⟨0, 0, 0, 0⟩)
def Th.vw : Program := { PySem.Challenge.pw_thirdsums_s05_petzval with main := { PySem.Challenge.pw_thirdsums_s05_petzval.main with body := [Th.tp 1, Th.tp 2, Th.tp 3, Th.tp 4, Th.tp 5, Th.tp 6, Th.tp 7, Th.tp 8, Th.tp 9, Th.tp 11, Th.tp 12, Th.tp 13, Th.tp 14, Th.tp 15, Th.tp 17, Th.tp 18, Th.tp 19, Th.tp 20, Th.tp 21, Th.tp 22, Th.tp 23, Th.tp 24, Th.tp 25, Th.tp 26, Th.tp 27, Th.tp 29, Th.tp 31, Th.tp 32, Th.tp 33, Th.tp 34, Th.tp 35, Th.tp 37, Th.tp 38, Th.tp 39, Th.tp 40, Th.tp 41, Th.tp 42, Th.tp 43, Th.tp 44, Th.tp 45, Th.tp 46, Th.tp 47, Th.tp 48, Th.tp 49, Th.tp 50, Th.tp 52, Th.tp 53, Th.tp 54, Th.tp 55, Th.tp 56, Th.tp 57, Th.tp 58, Th.tp 59, Th.tp 60, Th.tp 61, Th.tp 62, Th.tp 63, Th.tp 64, Th.tp 65, Th.tp 66, Th.tp 67, Th.tp 68, Th.tp 69, Th.tp 70, Th.tp 71, Th.tp 72, Th.tp 73, Th.tp 74, Th.tp 75, Th.tp 76, Th.tp 78, Th.tp 79, Th.tp 80, Th.tp 82, Th.tp 83, Th.tp 84, Th.tp 85, Th.tp 86] } }
local macro_rules | `(tactic| o_headS $H) => `(tactic| contradiction)
theorem Th.dummy : False → PySem.Challenge.rw_thirdsums_s05_petzval.Holds := by
  intro hf
  w_on; k_headS
def Th.as : List Addr := [2, 3, 15, 16, 17, 19, 20, 22, 23, 24, 26, 27, 29, 30, 31, 33, 34, 36, 37, 38, 40, 41, 43, 44, 45, 47, 48, 50, 51, 52, 54, 55, 57, 58, 59, 61, 62, 64, 65, 66, 73, 74, 75, 76, 79, 86, 88, 89, 91, 92, 93, 94, 95, 96, 99, 106, 107, 108, 109, 112, 119, 120, 121, 122, 125, 132, 133, 134, 135, 138, 140, 141, 143, 144, 145, 147, 148, 150, 151, 152, 154, 155, 157, 158, 159, 161, 162, 164, 165, 166, 168, 169, 171, 172, 173, 175, 176, 178, 179, 180, 182, 183, 185, 186, 194, 196, 197, 199, 200, 201, 202, 203, 204, 205, 208, 210, 211, 213, 214, 215, 217, 218, 220, 221, 222, 224, 225, 227, 228, 229, 231, 232, 234, 235, 236, 237, 239, 240, 242, 243, 244, 246, 247, 249, 250, 251, 253, 254, 256, 257, 258, 261, 262, 263, 265, 266, 268, 269, 270, 272, 273, 275, 276, 277, 279, 280, 282, 283, 284, 286, 287, 289, 290, 298, 300, 301, 303, 304, 305, 306, 307, 308, 309, 319, 321, 322, 324, 325, 326, 327, 328, 329, 330, 340, 342, 343, 345, 346, 347, 349, 350, 352, 353, 354, 356, 357, 359, 360, 361, 363, 364, 366, 367, 368, 370, 371, 373, 374, 375, 377, 378, 380, 381, 382, 384, 385, 387, 388, 389, 390, 391, 392, 393, 396, 398, 399, 401, 402, 403, 405, 406, 408, 409, 410, 412, 413, 415, 416, 417, 419, 420, 422, 423, 424, 426, 427, 429, 430, 431, 433, 434, 436, 437, 438, 440, 441, 443, 444, 445, 447, 448, 450, 451, 452, 454, 455, 457, 458, 459, 461, 462, 464, 465, 466, 468, 469, 471, 472, 473, 475, 476, 478, 479, 480, 482, 483, 485, 486, 487, 489, 490, 492, 493, 494, 496, 497, 499, 500, 501, 503, 504, 506, 507, 508, 511, 512, 513, 515, 516, 518, 519, 520, 523, 524, 525, 527, 528, 530, 531]
theorem Th.as_eq : ∀ P, Th.as = (Th.dummy.heap_1 P).map (·.1) := fun P => by kernel_rfl
def Th.run (w : World) := Th.runT treeTable PySem.Challenge.pw_thirdsums_s05_petzval w 7774
def Th.runA (w : World) := (Th.run w).map fun s => seen ((recsOf Th.vw).map (·.name)) (ownsOf Th.vw) [] { s with gens := #[] }
theorem Th.runA_self : Th.runA = Th.runA := rfl
lay_quick Th.runA
name_quick thA for Th.runA by Th.runA_self
theorem Th.leftA : ∀ w, PySem.W.Fast.thA w = some (expectedOf Th.vw) := fun w => by kernel_rfl
def Th.runB (w : World) := (Th.run w).map fun s => s.heap.keysOk (looseW Th.vw []) ((recsOf Th.vw).map (·.name)) ((litsOf Th.vw).map (·.1)) ((clssOf Th.vw (looseW Th.vw [])).map (·.name)) && s.heap.accountedOkI (importedModules PySem.Challenge.pw_thirdsums_s05_petzval.main.body) && s.heap.isNs mainGlobals && s.heap.isNs builtinsNs && tablesOk Th.vw s.heap && (xlAt Th.vw [] s && recOk [] s) && (if true then s.gens.size == 0 else !leftWithCleanup s.gens)
theorem Th.runB_self : Th.runB = Th.runB := rfl
lay_quick Th.runB
name_quick thB for Th.runB by Th.runB_self
theorem Th.leftB : ∀ w, PySem.W.Fast.thB w = some (true) := fun w => by kernel_rfl
def Th.runC (w : World) := (Th.run w).map fun s => (s.heap.bltView, tabsOk Th.vw s, pinSeenD Th.vw (drecsOf Th.vw) s, plainSeenE Th.vw (looseW Th.vw []) s, plainSeenD Th.vw [] s, wideSeen Th.vw s, clsSeenW Th.vw [] s)
theorem Th.runC_self : Th.runC = Th.runC := rfl
lay_quick Th.runC
name_quick thC for Th.runC by Th.runC_self
theorem Th.leftC : ∀ w, PySem.W.Fast.thC w = some (bltViewBooted, true, pinGoodD (drecsOf Th.vw), plainGoodE Th.vw (looseW Th.vw []), plainGoodD Th.vw [], wideGood Th.vw, clsGoodW Th.vw []) := fun w => by kernel_rfl
def Th.runD (w : World) := (Th.run w).map fun s => Th.as.map s.heap.get?
theorem Th.runD_self : Th.runD = Th.runD := rfl
lay_quick Th.runD
name_quick thD for Th.runD by Th.runD_self
theorem Th.leftD : ∀ w, PySem.W.Fast.thD w = some ((Th.dummy.heap_1 w.params).map fun p => some p.2) := fun w => by kernel_rfl
theorem Th.left_o : LeftO PySem.Challenge.pw_thirdsums_s05_petzval Th.vw [] (fun s => xlAt Th.vw [] s && recOk [] s) (Hook.obs (kHook Th.dummy.heap_1 Th.as Th.as_eq)) (Hook.val (kHook Th.dummy.heap_1 Th.as Th.as_eq)) 7774 := fun w => by
  show (openEnds treeTable PySem.Challenge.pw_thirdsums_s05_petzval w 7774).map (fun s => (openSeen Th.vw [] (importedModules PySem.Challenge.pw_thirdsums_s05_petzval.main.body) (fun s => xlAt Th.vw [] s && recOk [] s) true s, Th.as.map s.heap.get?)) = some (openGood Th.vw [], (Th.dummy.heap_1 w.params).map fun p => some p.2)
  have h1 := Th.leftA w
  have h2 := Th.leftB w
  have h3 := Th.leftC w
  have h4 := Th.leftD w
  rw [← PySem.W.Fast.thA_eq] at h1
  rw [← PySem.W.Fast.thB_eq] at h2
  rw [← PySem.W.Fast.thC_eq] at h3
  rw [← PySem.W.Fast.thD_eq] at h4
  unfold Th.runA at h1
  unfold Th.runB at h2
  unfold Th.runC at h3
  unfold Th.runD at h4
  obtain ⟨s, e, f1⟩ := Option.map_eq_some_iff.mp h1
  rw [e] at h2 h3 h4
  have f2 := Option.some.inj h2
  have f3 := Option.some.inj h3
  have f4 := Option.some.inj h4
  rw [Th.runT_of e]
  show some _ = some _
  rw [← f4]
  refine congrArg (fun z => some (z, Th.as.map s.heap.get?)) ?_
  unfold openSeen openGood
  rw [← f1]
  refine Prod.ext rfl (Prod.ext (congrArg (·.1) f3) (Prod.ext f2 ?_))
  exact congrArg (·.2) f3
end
namespace Ma
open Ln Ln.Text
def isBl (c : UInt8) : Bool := c == 32 || c == 9 || c == 10 || c == 13
def skip : Bool → Bytes → Nat
  | _, [] => 0
  | cm, c :: r =>
    let c1 := if c = 35 then true else cm
    let c2 := if c = 10 then false else c1
    if (!c2 && !isBl c) = true then 0 else 1 + skip c2 r
theorem skip_true : ∀ r : Bytes, skip true r = (r.takeWhile fun (x : UInt8) => x != 10).length + skip false (r.drop (r.takeWhile fun (x : UInt8) => x != 10).length)
  | [] => rfl
  | c :: r => by
    by_cases h : c = 10
    · subst h
      simp [skip, isBl]
    · have ih := skip_true r
      have h1 : (c != 10) = true := by simpa using h
      simp only [List.takeWhile_cons, h1, if_true, List.length_cons, List.drop_succ_cons]
      by_cases h2 : c = 35
      · subst h2
        simp only [skip]
        simp
        omega
      · simp only [skip, h2, h, if_false]
        simp
        omega
theorem blanks_skip : ∀ (f : Nat) (b : Bytes), b.length < f → blanks f b = skip false b
  | 0, b, h => by omega
  | f + 1, [], h => rfl
  | f + 1, c :: r, h => by
    have hr : r.length < f := by simp at h; omega
    by_cases h1 : c = 35
    · subst h1
      show 1 + _ + blanks f _ = 1 + skip true r
      rw [blanks_skip f _ (by simp; omega), skip_true]
      omega
    · by_cases h2 : c = 32 ∨ c = 9 ∨ c = 10 ∨ c = 13
      · have e : blanks (f + 1) (c :: r) = 1 + blanks f r := by simp only [blanks, h1, if_false, h2, if_true]
        rw [e, blanks_skip f r hr]
        have e2 : isBl c = true := by simp only [isBl, Bool.or_eq_true, beq_iff_eq]; rcases h2 with h | h | h | h <;> simp [h]
        simp only [skip, h1, if_false, e2]
        by_cases h3 : c = 10 <;> simp [h3]
      · have e : blanks (f + 1) (c :: r) = 0 := by simp only [blanks, h1, if_false, h2]
        rw [e]
        have e2 : isBl c = false := by
          simp only [isBl, Bool.or_eq_false_iff, beq_eq_false_iff_ne]
          simp only [not_or] at h2
          exact ⟨⟨⟨h2.1, h2.2.1⟩, h2.2.2.1⟩, h2.2.2.2⟩
        have h3 : ¬ c = 10 := by intro q; exact h2 (.inr (.inr (.inl q)))
        simp [skip, h1, e2, h3]
theorem skip_le : ∀ (cm : Bool) (b : Bytes), skip cm b ≤ b.length
  | _, [] => Nat.le_refl _
  | cm, c :: r => by
    have e : skip cm (c :: r) = if (!(if c = 10 then false else if c = 35 then true else cm) && !isBl c) = true then 0 else 1 + skip (if c = 10 then false else if c = 35 then true else cm) r := rfl
    rw [e]
    generalize (if c = 10 then false else if c = 35 then true else cm) = d
    have := skip_le d r
    by_cases h : (!d && !isBl c) = true
    · rw [if_pos h]; exact Nat.zero_le _
    · rw [if_neg h]; simp only [List.length_cons]; omega
def tokS (b : Bytes) (p : Nat) : Nat := p + skip false (b.drop p)
def tokX (b : Bytes) (p : Nat) : Tok × Nat := tokenIn (b.drop (tokS b p))
def over_ : Tok → Bool
  | .end_ => true
  | .broken => true
  | _ => false
def Lx (b : Bytes) (p : Nat) : List Lex := lexes ((b.drop p).length + 1) p (b.drop p)
abbrev nA (b : Bytes) : Bytes := b.takeWhile isDigit
abbrev nR (b : Bytes) : Bytes := b.drop (nA b).length
abbrev nP (b : Bytes) : Bool := (nR b).head? == some 46
abbrev nZ (b : Bytes) : Bytes := if nP b = true then ((nR b).drop 1).takeWhile isDigit else []
abbrev nN (b : Bytes) : Nat := (nA b).length + (if nP b = true then 1 + (nZ b).length else 0)
abbrev nOk (b : Bytes) : Prop := (!((b.drop (nN b)).head?.any fun (c : UInt8) => isLetter c || c == 46)) = true ∧ (nA b).length + (nZ b).length ≤ DIGITS ∧ (nP b = false ∨ nZ b ≠ [])
theorem numberIn_eq (b : Bytes) : numberIn b = if nOk b then (.num (natural (nA b ++ nZ b)) (nZ b).length (nP b), nN b) else (.broken, 0) := rfl
theorem nN_le (b : Bytes) : nN b ≤ b.length := by
  have t1 : (nA b).length ≤ b.length := (List.takeWhile_prefix _).length_le
  cases hp : nP b with
  | false => simp only [nN, hp]; simpa using t1
  | true =>
    have q : 0 < (nR b).length := by
      cases z : nR b with
      | nil => simp only [nP, z] at hp; cases hp
      | cons => simp
    have t2 : (((nR b).drop 1).takeWhile isDigit).length ≤ ((nR b).drop 1).length := (List.takeWhile_prefix _).length_le
    simp only [nN, nZ, hp, if_true]
    simp only [List.length_drop] at q t2 ⊢
    omega
theorem num_le (b : Bytes) : (numberIn b).2 ≤ b.length := by
  rw [numberIn_eq]
  by_cases h : nOk b
  · rw [if_pos h]; exact nN_le b
  · rw [if_neg h]; exact Nat.zero_le _
theorem tok_pos (b : Bytes) (h : over_ (tokenIn b).1 = false) : 1 ≤ (tokenIn b).2 ∧ (tokenIn b).2 ≤ b.length := by
  cases b with
  | nil => simp [tokenIn, over_] at h
  | cons c r =>
    by_cases h1 : isLetter c = true
    · have e1 : ((c :: r).takeWhile fun (x : UInt8) => isLetter x || isDigit x) = c :: (r.takeWhile fun (x : UInt8) => isLetter x || isDigit x) := by simp [List.takeWhile_cons, h1]
      have t1 : (r.takeWhile fun (x : UInt8) => isLetter x || isDigit x).length ≤ r.length := (List.takeWhile_prefix _).length_le
      simp only [tokenIn, h1, if_true] at h ⊢
      split at h
      · simp [over_] at h
      · rename_i h2
        rw [if_neg h2]
        split <;> simp only [e1, List.length_cons] <;> omega
    · by_cases h2 : isDigit c = true
      · have e : tokenIn (c :: r) = numberIn (c :: r) := by simp only [tokenIn, h1, h2, if_true]; rfl
        rw [e] at h ⊢
        refine ⟨?_, num_le _⟩
        have t : 1 ≤ (nA (c :: r)).length := by simp [nA, List.takeWhile_cons, h2]
        rw [numberIn_eq] at h ⊢
        by_cases h3 : nOk (c :: r)
        · rw [if_pos h3]
          show 1 ≤ (nA (c :: r)).length + _
          omega
        · rw [if_neg h3] at h
          cases h
      · by_cases h3 : isMark c = true
        · simp only [tokenIn, h1, h2, h3, if_true]
          simp
        · simp [tokenIn, h1, h2, h3, over_] at h
theorem lexes_fuel : ∀ (f : Nat) (i : Nat) (r : Bytes), r.length < f → lexes f i r = lexes (r.length + 1) i r := by
  have key : ∀ (n f g i : Nat) (r : Bytes), r.length ≤ n → r.length < f → r.length < g → lexes f i r = lexes g i r := by
    intro n
    induction n with
    | zero =>
      intro f g i r hn hf hg
      have : r = [] := by cases r with | nil => rfl | cons => simp at hn
      subst this
      cases f with
      | zero => omega
      | succ f => cases g with
        | zero => omega
        | succ g => rfl
    | succ n ih =>
      intro f g i r hn hf hg
      cases f with
      | zero => omega
      | succ f => cases g with
        | zero => omega
        | succ g =>
          have e : ∀ f, lexes (f + 1) i r = ⟨i + blanks (r.length + 1) r, (tokenIn (r.drop (blanks (r.length + 1) r))).1⟩ :: (match (tokenIn (r.drop (blanks (r.length + 1) r))).1 with
            | .end_ => []
            | .broken => []
            | _ => lexes f (i + blanks (r.length + 1) r + (tokenIn (r.drop (blanks (r.length + 1) r))).2) ((r.drop (blanks (r.length + 1) r)).drop (tokenIn (r.drop (blanks (r.length + 1) r))).2)) := fun f => rfl
          rw [e, e]
          have tp := tok_pos (r.drop (blanks (r.length + 1) r))
          have hl : ∀ (q : over_ (tokenIn (r.drop (blanks (r.length + 1) r))).1 = false), ((r.drop (blanks (r.length + 1) r)).drop (tokenIn (r.drop (blanks (r.length + 1) r))).2).length + 1 ≤ r.length := fun q => by
            have := tp q
            simp only [List.length_drop] at this ⊢
            omega
          generalize tokenIn (r.drop (blanks (r.length + 1) r)) = x at hl
          obtain ⟨x1, x2⟩ := x
          cases x1 with
          | end_ => rfl
          | broken => rfl
          | word w => have := hl rfl; dsimp only at this ⊢; rw [ih f g _ _ (by omega) (by omega) (by omega)]
          | name w => have := hl rfl; dsimp only at this ⊢; rw [ih f g _ _ (by omega) (by omega) (by omega)]
          | num n k p => have := hl rfl; dsimp only at this ⊢; rw [ih f g _ _ (by omega) (by omega) (by omega)]
          | mark c => have := hl rfl; dsimp only at this ⊢; rw [ih f g _ _ (by omega) (by omega) (by omega)]
  intro f i r h
  exact key r.length f _ i r (Nat.le_refl _) h (Nat.lt_succ_self _)
theorem Lx_eq (b : Bytes) (p : Nat) : Lx b p = ⟨tokS b p, (tokX b p).1⟩ :: (if over_ (tokX b p).1 = true then [] else Lx b (tokS b p + (tokX b p).2)) := by
  unfold Lx
  generalize hr : b.drop p = r
  have e : lexes (r.length + 1) p r = ⟨p + blanks (r.length + 1) r, (tokenIn (r.drop (blanks (r.length + 1) r))).1⟩ :: (match (tokenIn (r.drop (blanks (r.length + 1) r))).1 with
            | .end_ => []
            | .broken => []
            | _ => lexes r.length (p + blanks (r.length + 1) r + (tokenIn (r.drop (blanks (r.length + 1) r))).2) ((r.drop (blanks (r.length + 1) r)).drop (tokenIn (r.drop (blanks (r.length + 1) r))).2)) := rfl
  have es : blanks (r.length + 1) r = skip false r := blanks_skip _ _ (Nat.lt_succ_self _)
  have e1 : tokS b p = p + skip false r := by unfold tokS; rw [hr]
  have e2 : tokX b p = tokenIn (r.drop (skip false r)) := by unfold tokX; rw [e1, ← hr, List.drop_drop]
  have tp := tok_pos (r.drop (skip false r))
  rw [e, es, e1, e2]
  have hl : ∀ (q : over_ (tokenIn (r.drop (skip false r))).1 = false), lexes r.length (p + skip false r + (tokenIn (r.drop (skip false r))).2) ((r.drop (skip false r)).drop (tokenIn (r.drop (skip false r))).2) = lexes ((b.drop (p + skip false r + (tokenIn (r.drop (skip false r))).2)).length + 1) (p + skip false r + (tokenIn (r.drop (skip false r))).2) (b.drop (p + skip false r + (tokenIn (r.drop (skip false r))).2)) := fun q => by
    have := tp q
    have z : (r.drop (skip false r)).drop (tokenIn (r.drop (skip false r))).2 = b.drop (p + skip false r + (tokenIn (r.drop (skip false r))).2) := by
      rw [List.drop_drop, ← hr, List.drop_drop]
      congr 1; omega
    rw [z]
    refine lexes_fuel _ _ _ ?_
    rw [← z]
    simp only [List.length_drop] at this ⊢
    omega
  generalize tokenIn (r.drop (skip false r)) = x at hl
  obtain ⟨x1, x2⟩ := x
  cases x1 with
  | end_ => rfl
  | broken => rfl
  | word w => exact congrArg _ (hl rfl)
  | name w => exact congrArg _ (hl rfl)
  | num n k p => exact congrArg _ (hl rfl)
  | mark c => exact congrArg _ (hl rfl)
theorem tokens_Lx (b : Bytes) : tokens b = Lx b 0 := by
  unfold tokens Lx
  rw [lexes_fuel _ _ _ (by omega)]
  rfl
end Ma
namespace Ma
open Ln Ln.Text
inductive K where
  | w (s : String) | m (c : UInt8) | name | whole | pointed | fin | none
  deriving DecidableEq
def isK : K → Tok → Bool
  | .w s, t => t == .word (ascii s)
  | .m c, t => t == .mark c
  | .name, .name _ => true
  | .whole, .num _ _ false => true
  | .pointed, .num _ _ true => true
  | .fin, t => t == .end_
  | .none, t => t == .broken
  | _, _ => false
theorem bind_run {α β : Type} (m : P α) (k : α → P β) (l : List Lex) : (m >>= k) l = match m l with
    | .error e => .error e
    | .ok (a, l') => k a l' := by
  show (StateT.bind m k) l = _
  unfold StateT.bind
  show Except.bind (m l) _ = _
  cases m l with
  | error e => rfl
  | ok x => rfl
theorem pure_run {α : Type} (a : α) (l : List Lex) : (pure a : P α) l = .ok (a, l) := rfl
theorem pass_run (l : List Lex) : pass l = .ok ((), l.drop 1) := rfl
theorem need_run (b : Bool) (k p : Nat) (l : List Lex) : need b k p l = if b = true then .ok ((), l) else .error (k, p) := by
  unfold need; cases b <;> rfl
theorem peek_cons (x : Lex) (r : List Lex) : peek (x :: r) = if x.tok = .broken then .error (1, x.at_) else .ok (x, x :: r) := by
  show (match (x :: r) with | x :: _ => if x.tok = .broken then halt 1 x.at_ else pure x | [] => halt 2 0 : P Lex) (x :: r) = _
  by_cases h : x.tok = .broken
  · simp only [h, if_true]; rfl
  · simp only [h, if_false]; rfl
def hd : P Lex := fun l => match l with
  | x :: _ => .ok (x, l)
  | [] => .error (2, 0)
def sees (k : K) : P Bool := fun l => match l with
  | x :: _ => .ok (isK k x.tok, l)
  | [] => .error (2, 0)
def refuse {α : Type} (n : Nat) : P α := fun l => match l with
  | x :: _ => .error (n, x.at_)
  | [] => .error (2, 0)
def expect (ks : List K) : P Unit := fun l => match l with
  | x :: _ => if x.tok = .broken then .error (1, x.at_) else if (ks.any fun k => isK k x.tok) = true then .ok ((), l) else .error (2, x.at_)
  | [] => .error (2, 0)
def takeK (k : K) : P Tok := fun l => match expect [k] l with
  | .error e => .error e
  | .ok _ => match l with
    | x :: r => .ok (x.tok, r)
    | [] => .error (2, 0)
def Guard {α : Type} (k : P α) : Prop := ∀ x r, x.tok = .broken → k (x :: r) = .error (1, x.at_)
def numN : Tok → Nat
  | .num n _ _ => n
  | _ => 0
def numP : Tok → Nat
  | .num _ k _ => k
  | _ => 0
def rPointed : P Rat := do
  let t ← takeK .pointed
  pure ((numN t : Rat) / (10 ^ numP t : Nat))
def rNumber : P Rat := do
  expect [.whole, .pointed]
  if (← sees .pointed) = true then rPointed
  else do
    let t ← takeK .whole
    if (← sees (.m 47)) = false then pure (numN t : Rat)
    else do
      pass
      expect [.whole]
      let y ← hd
      if numN y.tok = 0 then refuse 6
      else do
        pass
        pure ((numN t : Rat) / (numN y.tok : Rat))
def rValue : P Rat := do
  if (← sees (.m 45)) = false then rNumber
  else do
    pass
    let q ← rNumber
    pure (-q)
def rBefore (bad : Bool) (ks : List K) : P Unit := do
  expect ks
  if bad = true then refuse 6 else pure ()
def rIndex (c : UInt8) : P Rat := do
  let q ← rNumber
  rBefore (decide (q < 1)) [.m c]
  pass
  pure q
def rCurve : P Rat := do
  expect [.w "flat", .w "curve", .w "radius"]
  if (← sees (.w "flat")) = true then do pass; pure 0
  else if (← sees (.w "curve")) = true then do pass; rValue
  else do
    pass
    let r ← rValue
    rBefore (decide (r = 0)) [.w "conic", .w "clear", .m 59]
    pure (1 / r)
def rConic : P Rat := do
  if (← sees (.w "conic")) = false then pure 0
  else do
    pass
    rValue
theorem sees_cons (k : K) (x : Lex) (r : List Lex) : sees k (x :: r) = .ok (isK k x.tok, x :: r) := rfl
theorem hd_cons (x : Lex) (r : List Lex) : hd (x :: r) = .ok (x, x :: r) := rfl
theorem expect_cons (ks : List K) (x : Lex) (r : List Lex) : expect ks (x :: r) = if x.tok = .broken then .error (1, x.at_) else if (ks.any fun k => isK k x.tok) = true then .ok ((), x :: r) else .error (2, x.at_) := rfl
theorem takeK_cons (k : K) (x : Lex) (r : List Lex) : takeK k (x :: r) = if x.tok = .broken then .error (1, x.at_) else if isK k x.tok = true then .ok (x.tok, r) else .error (2, x.at_) := by
  show (match expect [k] (x :: r) with
    | .error e => (.error e : Except Fault (Tok × List Lex))
    | .ok _ => .ok (x.tok, r)) = _
  rw [expect_cons]
  by_cases h : x.tok = .broken
  · rw [if_pos h, if_pos h]
  · rw [if_neg h, if_neg h]
    cases z : isK k x.tok <;> simp [z]
theorem word_cons (s : String) (x : Lex) (r : List Lex) : word s (x :: r) = if x.tok = .broken then .error (1, x.at_) else if isK (.w s) x.tok = true then .ok (x.at_, r) else .error (2, x.at_) := by
  unfold word
  rw [bind_run, peek_cons]
  by_cases h : x.tok = .broken
  · rw [if_pos h, if_pos h]
  · rw [if_neg h, if_neg h]
    dsimp only
    rw [bind_run, need_run]
    show _ = if (x.tok == .word (ascii s)) = true then _ else _
    cases z : (x.tok == .word (ascii s)) <;> rfl
theorem mark_cons (c : UInt8) (x : Lex) (r : List Lex) : mark c (x :: r) = if x.tok = .broken then .error (1, x.at_) else if isK (.m c) x.tok = true then .ok (x.at_, r) else .error (2, x.at_) := by
  unfold mark
  rw [bind_run, peek_cons]
  by_cases h : x.tok = .broken
  · rw [if_pos h, if_pos h]
  · rw [if_neg h, if_neg h]
    dsimp only
    rw [bind_run, need_run]
    show _ = if (x.tok == .mark c) = true then _ else _
    cases z : (x.tok == .mark c) <;> rfl
theorem isMarkNext_cons (c : UInt8) (x : Lex) (r : List Lex) : isMarkNext c (x :: r) = if x.tok = .broken then .error (1, x.at_) else .ok (isK (.m c) x.tok, x :: r) := by
  unfold isMarkNext
  rw [bind_run, peek_cons]
  by_cases h : x.tok = .broken
  · rw [if_pos h, if_pos h]
  · rw [if_neg h, if_neg h]; rfl
theorem isWordNext_cons (s : String) (x : Lex) (r : List Lex) : isWordNext s (x :: r) = if x.tok = .broken then .error (1, x.at_) else .ok (isK (.w s) x.tok, x :: r) := by
  unfold isWordNext
  rw [bind_run, peek_cons]
  by_cases h : x.tok = .broken
  · rw [if_pos h, if_pos h]
  · rw [if_neg h, if_neg h]; rfl
theorem isK_broken (k : K) (h : k ≠ .none) : isK k .broken = false := by
  cases k with
  | none => exact absurd rfl h
  | _ => rfl
theorem guard_takeK {α : Type} (q : K) (k : Tok → P α) : Guard (takeK q >>= k) := fun x r h => by
  rw [bind_run, takeK_cons, if_pos h]
theorem guard_mark {α : Type} (c : UInt8) (k : Nat → P α) : Guard (mark c >>= k) := fun x r h => by
  rw [bind_run, mark_cons, if_pos h]
theorem number_k {α : Type} (k : Rat → P α) (hk : ∀ q, Guard (k q)) : (rNumber >>= k) = (number >>= k) := by
  funext l
  rw [bind_run, bind_run]
  cases l with
  | nil => rfl
  | cons x r =>
    unfold rNumber number
    rw [bind_run, bind_run, expect_cons, peek_cons]
    by_cases h : x.tok = .broken
    · rw [if_pos h, if_pos h]
    · rw [if_neg h, if_neg h]
      obtain ⟨p, t⟩ := x
      cases t with
      | num n z pt =>
        cases pt with
        | true => rfl
        | false =>
          dsimp only
          rw [show (([K.whole, K.pointed].any fun k => isK k (Tok.num n z false)) = true) from rfl, if_pos rfl]
          dsimp only
          rw [bind_run, sees_cons]
          dsimp only
          rw [if_neg (show ¬ (isK .pointed (Tok.num n z false) = true) from Bool.false_ne_true), bind_run, takeK_cons, if_neg h]
          dsimp only
          rw [if_pos (show isK .whole (Tok.num n z false) = true from rfl), bind_run, pass_run]
          dsimp only
          rw [bind_run, bind_run]
          cases r with
          | nil => rfl
          | cons y r =>
            dsimp only [List.drop]
            rw [sees_cons, isMarkNext_cons]
            by_cases hy : y.tok = .broken
            · rw [if_pos hy, hy, isK_broken _ (by decide)]
              dsimp only
              rw [if_pos rfl, pure_run]
              exact hk _ y r hy
            · rw [if_neg hy]
              dsimp only
              cases hm : isK (.m 47) y.tok with
              | false => rfl
              | true =>
                rw [if_neg (by decide), if_pos rfl, bind_run, bind_run, pass_run]
                dsimp only [List.drop]
                rw [bind_run, bind_run]
                cases r with
                | nil => rfl
                | cons u r =>
                  rw [expect_cons, peek_cons]
                  by_cases hu : u.tok = .broken
                  · rw [if_pos hu, if_pos hu]
                  · rw [if_neg hu, if_neg hu]
                    obtain ⟨p2, t2⟩ := u
                    cases t2 with
                    | num n2 z2 pt2 =>
                      cases pt2 with
                      | true => rfl
                      | false =>
                        dsimp only
                        rw [show (([K.whole].any fun k => isK k (Tok.num n2 z2 false)) = true) from rfl, if_pos rfl]
                        dsimp only
                        rw [bind_run, hd_cons, bind_run, pass_run]
                        dsimp only
                        rw [bind_run, need_run]
                        by_cases hz : n2 = 0
                        · subst hz; rfl
                        · rw [if_neg (show ¬ (numN (Tok.num n2 z2 false) = 0) from hz), if_pos (by simpa using hz)]; rfl
                    | _ => rfl
      | _ => rfl
theorem value_k {α : Type} (k : Rat → P α) (hk : ∀ q, Guard (k q)) : (rValue >>= k) = (value >>= k) := by
  funext l
  rw [bind_run, bind_run]
  cases l with
  | nil => rfl
  | cons x r =>
    unfold rValue value
    rw [bind_run, bind_run, sees_cons, isMarkNext_cons]
    by_cases h : x.tok = .broken
    · rw [if_pos h, h, isK_broken _ (by decide)]
      dsimp only
      rw [if_pos rfl]
      unfold rNumber
      rw [bind_run, expect_cons, if_pos h]
    · rw [if_neg h]
      dsimp only
      cases hm : isK (.m 45) x.tok with
      | false =>
        rw [if_pos rfl, if_neg (by decide)]
        have := congrFun (number_k k hk) (x :: r)
        rw [bind_run, bind_run] at this
        exact this
      | true =>
        rw [if_neg (by decide), if_pos rfl, bind_run, bind_run, pass_run]
        dsimp only [List.drop]
        have := congrFun (number_k (fun q => k (-q)) (fun q => hk _)) r
        rw [bind_run, bind_run] at this ⊢
        generalize rNumber r = A at this
        generalize number r = B at this
        cases A <;> cases B <;> exact this
end Ma
namespace Ma
open Ln Ln.Text
theorem bind_congr' {α β : Type} {m : P α} {k k' : α → P β} (h : ∀ a, k a = k' a) : (m >>= k) = (m >>= k') := by
  have : k = k' := funext h
  rw [this]
theorem index_eq (c : UInt8) : rIndex c = index c := by
  unfold rIndex index
  rw [number_k _ (fun q => by unfold rBefore; exact fun x r h => by rw [bind_run, bind_run, expect_cons, if_pos h])]
  refine bind_congr' fun q => ?_
  funext l
  cases l with
  | nil => rfl
  | cons x r =>
    unfold rBefore
    rw [bind_run, bind_run, bind_run, expect_cons, mark_cons]
    by_cases h : x.tok = .broken
    · rw [if_pos h, if_pos h]
    · rw [if_neg h, if_neg h]
      have e : (([K.m c].any fun k => isK k x.tok) = true) = (isK (.m c) x.tok = true) := by simp
      simp only [e]
      cases z : isK (.m c) x.tok with
      | false => rfl
      | true =>
        simp only [if_true]
        rw [bind_run, need_run]
        by_cases hq : q < 1
        · have h2 : ¬ (1 ≤ q) := Rat.not_le.mpr hq
          simp only [hq, h2, decide_true, decide_false, if_true]
          rfl
        · have h2 : 1 ≤ q := Rat.not_lt.mp hq
          simp only [hq, h2, decide_true, decide_false, if_true]
          rfl
def rNewName (taken : Bytes → Bool) : P Bytes := fun l => match l with
  | x :: r => if x.tok = .broken then .error (1, x.at_) else match x.tok with
    | .name b => if taken b = true then .error (3, x.at_) else .ok (b, r)
    | _ => .error (2, x.at_)
  | [] => .error (2, 0)
theorem name_cons (x : Lex) (r : List Lex) : name (x :: r) = if x.tok = .broken then .error (1, x.at_) else match x.tok with
    | .name b => .ok ((x.at_, b), r)
    | _ => .error (2, x.at_) := by
  unfold name
  rw [bind_run, peek_cons]
  by_cases h : x.tok = .broken
  · rw [if_pos h, if_pos h]
  · rw [if_neg h, if_neg h]
    obtain ⟨p, t⟩ := x
    cases t <;> rfl
theorem name_new {α : Type} (taken : Bytes → Bool) (ok : Bytes → Bool) (ho : ∀ b, ok b = !taken b) (k : Bytes → P α) : (name >>= fun n => need (ok n.2) 3 n.1 >>= fun _ => k n.2) = (rNewName taken >>= k) := by
  funext l
  rw [bind_run, bind_run]
  cases l with
  | nil => rfl
  | cons x r =>
    rw [name_cons]
    unfold rNewName
    dsimp only
    by_cases h : x.tok = .broken
    · rw [if_pos h, if_pos h]
    · rw [if_neg h, if_neg h]
      obtain ⟨p, t⟩ := x
      cases t with
      | name b =>
        dsimp only
        rw [bind_run, need_run, ho]
        cases taken b <;> rfl
      | _ => rfl
def takenG (l : List Glass) (b : Bytes) : Bool := l.any fun g => g.name == b
def takenE (l : List Elem) (b : Bytes) : Bool := l.any fun g => g.name == b
theorem all_any {α : Type} (f : α → Bytes) (l : List α) (b : Bytes) : (l.all fun g => f g != b) = !(l.any fun g => f g == b) := by
  induction l with
  | nil => rfl
  | cons a l ih => rw [List.all_cons, List.any_cons, ih, Bool.not_or]; rfl
theorem take_word {α : Type} (s : String) (k : P α) : (word s >>= fun _ => k) = (takeK (.w s) >>= fun _ => k) := by
  funext l
  rw [bind_run, bind_run]
  cases l with
  | nil => rfl
  | cons x r =>
    rw [word_cons, takeK_cons]
    by_cases h : x.tok = .broken
    · rw [if_pos h, if_pos h]
    · rw [if_neg h, if_neg h]
      cases isK (.w s) x.tok <;> rfl
theorem take_mark {α : Type} (c : UInt8) (k : P α) : (mark c >>= fun _ => k) = (takeK (.m c) >>= fun _ => k) := by
  funext l
  rw [bind_run, bind_run]
  cases l with
  | nil => rfl
  | cons x r =>
    rw [mark_cons, takeK_cons]
    by_cases h : x.tok = .broken
    · rw [if_pos h, if_pos h]
    · rw [if_neg h, if_neg h]
      cases isK (.m c) x.tok <;> rfl
def rGlass (l : List Glass) : P Glass :=
  if l.length = 64 then refuse 5 else do
    pass
    let n ← rNewName (takenG l)
    let _ ← takeK (.m 58)
    let a ← rIndex 44
    let b ← rIndex 44
    let c ← rIndex 59
    pure ⟨n, [a, b, c]⟩
theorem glass_eq (l : List Glass) (hl : l.length ≤ 64) (x : Lex) (r : List Lex) (hx : isK (.w "glass") x.tok = true) : rGlass l (x :: r) = glass l (x :: r) := by
  have hb : ¬ x.tok = .broken := by intro q; rw [q] at hx; cases hx
  unfold rGlass glass
  rw [bind_run, word_cons, if_neg hb, if_pos hx]
  dsimp only
  rw [bind_run, need_run]
  by_cases h : l.length = 64
  · have h2 : ¬ l.length < GLASSES := by unfold GLASSES; omega
    rw [if_pos h]
    simp only [h2, decide_false]
    rfl
  · have h2 : l.length < GLASSES := by unfold GLASSES; omega
    rw [if_neg h]
    simp only [h2, decide_true, if_true]
    rw [bind_run, pass_run]
    dsimp only [List.drop]
    have e := name_new (takenG l) (fun b => l.all fun g => g.name != b) (fun b => all_any (·.name) l b) (fun n => mark 58 >>= fun _ => index 44 >>= fun a => index 44 >>= fun b => index 59 >>= fun c => (pure ⟨n, [a, b, c]⟩ : P Glass))
    refine Eq.trans ?_ (congrFun e r).symm
    simp only [index_eq, take_mark]
theorem div_nonneg (a b : Nat) : (0 : Rat) ≤ (a : Rat) / (b : Rat) := by
  have e : (a : Rat) / (b : Rat) = Rat.divInt (a : Int) (b : Int) := by rw [Rat.divInt_eq_div]; rfl
  rw [e]
  refine Rat.num_nonneg.mp ?_
  rw [Rat.num_divInt]
  exact Int.ediv_nonneg (Int.mul_nonneg (by cases b with
    | zero => decide
    | succ n => rw [Int.sign_eq_one_of_pos (by omega)]; decide) (Int.natCast_nonneg a)) (Int.natCast_nonneg _)
theorem number_nonneg {l l' : List Lex} {q : Rat} (h : rNumber l = .ok (q, l')) : 0 ≤ q := by
  cases l with
  | nil => cases h
  | cons x r =>
    unfold rNumber at h
    rw [bind_run, expect_cons] at h
    split at h
    · cases h
    · rename_i a l1 h0
      split at h0
      · cases h0
      · split at h0
        · cases h0
          rw [bind_run, sees_cons] at h
          dsimp only at h
          split at h
          · unfold rPointed at h
            rw [bind_run, takeK_cons] at h
            split at h
            · cases h
            · cases h; exact div_nonneg _ _
          · rw [bind_run, takeK_cons] at h
            split at h
            · cases h
            · rename_i t l2 h3
              rw [bind_run] at h
              split at h
              · cases h
              · rename_i b l3 h4
                split at h
                · cases h
                  have := div_nonneg (numN t) 1
                  rw [show ((1 : Nat) : Rat) = 1 from rfl] at this
                  have e : (numN t : Rat) / 1 = (numN t : Rat) := by grind
                  rw [e] at this; exact this
                · rw [bind_run, pass_run] at h
                  dsimp only at h
                  rw [bind_run] at h
                  split at h
                  · cases h
                  · rw [bind_run] at h
                    split at h
                    · cases h
                    · rename_i y l5 h6
                      split at h
                      · cases l5 <;> cases h
                      · cases h; exact div_nonneg _ _
        · cases h0
theorem before_any (bad : Bool) (ks : List K) (x : Lex) (r : List Lex) : rBefore bad ks (x :: r) = if x.tok = .broken then .error (1, x.at_) else if (ks.any fun k => isK k x.tok) = true then (if bad = true then .error (6, x.at_) else .ok ((), x :: r)) else .error (2, x.at_) := by
  unfold rBefore
  rw [bind_run, expect_cons]
  by_cases h : x.tok = .broken
  · rw [if_pos h, if_pos h]
  · rw [if_neg h, if_neg h]
    by_cases h2 : (ks.any fun k => isK k x.tok) = true
    · rw [if_pos h2, if_pos h2]
      cases bad <;> rfl
    · rw [if_neg h2, if_neg h2]
theorem guard_before {α : Type} (bad : Bool) (ks : List K) (k : Unit → P α) : Guard (rBefore bad ks >>= k) := fun x r h => by
  rw [bind_run, before_any, if_pos h]
theorem bind_assoc' {α β γ : Type} (m : P α) (f : α → P β) (g : β → P γ) : (m >>= f >>= g) = (m >>= fun a => f a >>= g) := by
  funext l
  rw [bind_run, bind_run, bind_run]
  cases m l with
  | error e => rfl
  | ok x => exact (bind_run _ _ _).symm
def curveS : P Rat := do
    if (← isWordNext "flat") = true then do pass; pure 0
    else if (← isWordNext "curve") = true then do pass; value
    else do
      let _ ← word "radius"
      let r ← value
      let x ← peek
      need (x.tok == .word (ascii "conic") || (x.tok == .word (ascii "clear") || x.tok == .mark 59)) 2 x.at_
      need (r != 0) 6 x.at_
      pure (1 / r)
theorem curve_k {α : Type} (k : Rat → P α) (hk : ∀ q, Guard (k q)) : (rCurve >>= k) = (curveS >>= k) := by
  funext l
  cases l with
  | nil => rfl
  | cons x r =>
    unfold rCurve curveS
    rw [bind_run, bind_run, bind_run, bind_run, expect_cons, isWordNext_cons]
    by_cases h : x.tok = .broken
    · rw [if_pos h, if_pos h]
    · rw [if_neg h, if_neg h]
      dsimp only
      have ea : (([K.w "flat", K.w "curve", K.w "radius"].any fun k => isK k x.tok) = true) = (isK (.w "flat") x.tok = true ∨ isK (.w "curve") x.tok = true ∨ isK (.w "radius") x.tok = true) := by simp [List.any_cons]
      simp only [ea]
      cases h1 : isK (.w "flat") x.tok with
      | true =>
        simp only [true_or, if_true]
        rw [bind_run, sees_cons]
        simp only [h1, if_true]
      | false =>
        cases h2 : isK (.w "curve") x.tok with
        | true =>
          simp only [true_or, or_true, if_true]
          rw [bind_run, sees_cons]
          simp only [h1]
          rw [if_neg (by decide), if_neg (by decide), bind_run, bind_run, sees_cons, isWordNext_cons, if_neg h]
          simp only [h2, if_true]
          rw [bind_run, bind_run, pass_run]
          have := congrFun (value_k k hk) r
          rw [bind_run, bind_run] at this
          exact this
        | false =>
          cases h3 : isK (.w "radius") x.tok with
          | false =>
            simp only [Bool.false_eq_true, or_self, if_false]
            rw [bind_run, isWordNext_cons, if_neg h]
            simp only [h2]
            rw [if_neg (by decide), bind_run, word_cons, if_neg h, h3, if_neg (by decide)]
          | true =>
            simp only [or_true, if_true]
            rw [bind_run, sees_cons]
            simp only [h1]
            rw [if_neg (by decide), if_neg (by decide), bind_run, bind_run, sees_cons, isWordNext_cons, if_neg h]
            simp only [h2]
            rw [if_neg (by decide), if_neg (by decide), bind_run, bind_run, pass_run, word_cons, if_neg h, h3, if_pos rfl]
            dsimp only [List.drop]
            have e1 := congrFun (value_k (fun q => rBefore (decide (q = 0)) [.w "conic", .w "clear", .m 59] >>= fun _ => (pure (1 / q) : P Rat)) (fun q => guard_before _ _ _)) r
            rw [e1]
            have e2 : ∀ q : Rat, (rBefore (decide (q = 0)) [.w "conic", .w "clear", .m 59] >>= fun _ => (pure (1 / q) : P Rat)) = (peek >>= fun x => need (x.tok == .word (ascii "conic") || (x.tok == .word (ascii "clear") || x.tok == .mark 59)) 2 x.at_ >>= fun _ => need (q != 0) 6 x.at_ >>= fun _ => (pure (1 / q) : P Rat)) := fun q => by
              funext l
              cases l with
              | nil => rfl
              | cons y r =>
                rw [bind_run, bind_run, before_any, peek_cons]
                by_cases hy : y.tok = .broken
                · rw [if_pos hy, if_pos hy]
                · rw [if_neg hy, if_neg hy]
                  dsimp only
                  rw [bind_run, need_run]
                  have eb : ([K.w "conic", K.w "clear", K.m 59].any fun k => isK k y.tok) = (y.tok == .word (ascii "conic") || (y.tok == .word (ascii "clear") || y.tok == .mark 59)) := by
                    simp only [List.any_cons, List.any_nil, Bool.or_false]; rfl
                  rw [eb]
                  cases (y.tok == .word (ascii "conic") || (y.tok == .word (ascii "clear") || y.tok == .mark 59)) with
                  | false => rfl
                  | true =>
                    rw [if_pos rfl, if_pos rfl]
                    dsimp only
                    rw [bind_run, need_run]
                    by_cases hq : q = 0
                    · subst hq; rfl
                    · have hn : (q != 0) = true := by simpa using hq
                      rw [hn]
                      simp only [hq, decide_false]
                      rfl
            simp only [e2]
theorem conic_k {α : Type} (c : Rat) (k : Rat × Rat → P α) (hk : ∀ q, Guard (k q)) : (rConic >>= fun z => k (c, z)) = (isWordNext "conic" >>= fun b => (if b = true then (do
    pass
    let k ← value
    pure (c, k)) else pure (c, 0) : P (Rat × Rat)) >>= k) := by
  funext l
  cases l with
  | nil => rfl
  | cons x r =>
    unfold rConic
    rw [bind_run, bind_run, bind_run, sees_cons, isWordNext_cons]
    by_cases h : x.tok = .broken
    · rw [if_pos h, h, isK_broken _ (by decide)]
      exact hk _ x r h
    · rw [if_neg h]
      dsimp only
      cases h1 : isK (.w "conic") x.tok with
      | false =>
        rw [if_pos rfl, if_neg (by decide), bind_run]
        rfl
      | true =>
        rw [if_neg (by decide), if_pos rfl, bind_run, bind_run, bind_run, pass_run]
        dsimp only [List.drop]
        have e := congrFun (value_k (fun z => k (c, z)) (fun z => hk _)) r
        rw [bind_run, bind_run] at e
        rw [bind_run]
        generalize rValue r = A at e
        generalize value r = B at e
        cases A <;> cases B <;> exact e
theorem shape_k {α : Type} (k : Rat × Rat → P α) (hk : ∀ q, Guard (k q)) : (rCurve >>= fun c => rConic >>= fun z => k (c, z)) = (shape >>= k) := by
  have e : shape = (curveS >>= fun c => isWordNext "conic" >>= fun b => (if b = true then (do
    pass
    let k ← value
    pure (c, k)) else pure (c, 0) : P (Rat × Rat))) := rfl
  have g : ∀ c, Guard (rConic >>= fun z => k (c, z)) := fun c x r h => by
    unfold rConic
    rw [bind_run, bind_run, sees_cons, h, isK_broken _ (by decide)]
    exact hk _ x r h
  rw [e, bind_assoc', curve_k _ g]
  refine bind_congr' fun c => ?_
  rw [conic_k c k hk, bind_assoc']
def rClearO : P (Option Rat) := do
  if (← sees (.w "clear")) = true then do
    pass
    let q ← rNumber
    rBefore (decide (q = 0)) [.m 59]
    pure (some q)
  else pure none
theorem clear_k {α : Type} (k : Option Rat → P α) : (rClearO >>= fun c => takeK (.m 59) >>= fun _ => k c) = (clearEnd >>= k) := by
  funext l
  cases l with
  | nil => rfl
  | cons x r =>
    unfold rClearO clearEnd
    rw [bind_run, bind_run, bind_run, bind_run, sees_cons, isWordNext_cons]
    by_cases h : x.tok = .broken
    · rw [if_pos h, h, isK_broken _ (by decide)]
      dsimp only
      rw [if_neg (by decide), pure_run]
      dsimp only
      rw [bind_run, takeK_cons, if_pos h]
    · rw [if_neg h]
      dsimp only
      cases h1 : isK (.w "clear") x.tok with
      | false =>
        rw [if_neg (by decide), if_neg (by decide), pure_run]
        dsimp only
        rw [← take_mark, bind_run, bind_run]
        cases mark 59 (x :: r) with
        | error e => rfl
        | ok z => rfl
      | true =>
        rw [if_pos rfl, if_pos rfl, bind_run, bind_run, pass_run]
        dsimp only [List.drop]
        have e1 := congrFun (number_k (fun q => rBefore (decide (q = 0)) [.m 59] >>= fun _ => (pure (some q) : P (Option Rat))) (fun q => guard_before _ _ _)) r
        have e3 := congrFun (number_k (fun q => mark 59 >>= fun e => need (decide (0 < q)) 6 e >>= fun _ => (pure (some q) : P (Option Rat))) (fun q => guard_mark _ _)) r
        rw [← e3, bind_run, bind_run]
        cases hA : rNumber r with
        | error e => rfl
        | ok z =>
          obtain ⟨q, l'⟩ := z
          have hq := number_nonneg hA
          dsimp only
          cases l' with
          | nil => rfl
          | cons y l' =>
            rw [bind_run, bind_run, before_any, mark_cons]
            by_cases hy : y.tok = .broken
            · rw [if_pos hy, if_pos hy]
            · rw [if_neg hy, if_neg hy]
              have eb : ([K.m 59].any fun k => isK k y.tok) = isK (.m 59) y.tok := by simp
              rw [eb]
              cases hm : isK (.m 59) y.tok with
              | false => rfl
              | true =>
                rw [if_pos rfl, if_pos rfl]
                dsimp only
                rw [bind_run, need_run]
                by_cases hz : q = 0
                · subst hz; rfl
                · have hp : 0 < q := by grind
                  simp only [hz, hp, decide_false, decide_true, if_true]
                  rw [if_neg (by decide)]
                  dsimp only [pure_run]
                  rw [bind_run, takeK_cons, if_neg hy, hm, if_pos rfl]
end Ma
namespace Ma
open Ln Ln.Text
def elemTail (n : Bytes) (g : Rat) (kind : Kind) (flatOne : Bool) : P Elem :=
  if flatOne = true then do
    let c ← rClearO
    let _ ← takeK (.m 59)
    pure ⟨n, g, kind, 0, 0, c⟩
  else do
    let s ← rCurve
    let z ← rConic
    let c ← rClearO
    let _ ← takeK (.m 59)
    pure ⟨n, g, kind, s, z, c⟩
def rElem (gl : List Glass) (others : List Elem) (t : Tok) : P Elem :=
  if others.length = 64 then refuse 5 else do
    pass
    let n ← rNewName (takenE others)
    let _ ← takeK (.w "after")
    let g ← rNumber
    if isK (.w "surface") t = true then do
      let _ ← takeK (.w "into")
      let m ← glassNamed gl
      elemTail n g (.surface m) false
    else if isK (.w "stop") t = false then elemTail n g .mirror false
    else elemTail n g .halt_ true
theorem guard_clear {α : Type} (k : Option Rat → P α) : Guard (rClearO >>= fun c => takeK (.m 59) >>= fun _ => k c) := fun x r h => by
  unfold rClearO
  rw [bind_run, bind_run, sees_cons, h, isK_broken _ (by decide)]
  dsimp only
  rw [if_neg (by decide), pure_run]
  dsimp only
  rw [bind_run, takeK_cons, if_pos h]
theorem tail_f (n : Bytes) (g : Rat) (kind : Kind) : elemTail n g kind false = (shape >>= fun s => clearEnd >>= fun c => (pure ⟨n, g, kind, s.1, s.2, c⟩ : P Elem)) := by
  have e := shape_k (fun s => rClearO >>= fun c => takeK (.m 59) >>= fun _ => (pure ⟨n, g, kind, s.1, s.2, c⟩ : P Elem)) (fun q => guard_clear _)
  show (rCurve >>= fun c => rConic >>= fun z => rClearO >>= fun o => takeK (.m 59) >>= fun _ => (pure ⟨n, g, kind, c, z, o⟩ : P Elem)) = _
  rw [e]
  refine bind_congr' fun s => ?_
  exact clear_k _
theorem tail_t (n : Bytes) (g : Rat) (kind : Kind) : elemTail n g kind true = (clearEnd >>= fun c => (pure ⟨n, g, kind, 0, 0, c⟩ : P Elem)) := clear_k _
theorem guard_tail_f (n : Bytes) (g : Rat) (kind : Kind) : Guard (elemTail n g kind false) := fun x r h => by
  show (rCurve >>= _) (x :: r) = _
  unfold rCurve
  rw [bind_run, bind_run, expect_cons, if_pos h]
theorem guard_tail_t (n : Bytes) (g : Rat) (kind : Kind) : Guard (elemTail n g kind true) := guard_clear _
theorem tok_eq {s : String} {t : Tok} (h : isK (.w s) t = true) : t = .word (ascii s) := eq_of_beq h
theorem elem_eq (gl : List Glass) (others : List Elem) (hl : others.length ≤ 64) (x : Lex) (r : List Lex) (hx : isK (.w "surface") x.tok = true ∨ isK (.w "mirror") x.tok = true ∨ isK (.w "stop") x.tok = true) :
    rElem gl others x.tok (x :: r) = elem gl others (x :: r) := by
  have hb : ¬ x.tok = .broken := by intro q; rw [q] at hx; rcases hx with h | h | h <;> cases h
  unfold rElem elem
  rw [bind_run, peek_cons, if_neg hb]
  dsimp only
  have hn : (x.tok == .word (ascii "surface") || (x.tok == .word (ascii "mirror") || x.tok == .word (ascii "stop"))) = true := by
    rcases hx with h | h | h
    · rw [show (x.tok == .word (ascii "surface")) = true from h]; rfl
    · rw [show (x.tok == .word (ascii "mirror")) = true from h, Bool.true_or, Bool.or_true]
    · rw [show (x.tok == .word (ascii "stop")) = true from h, Bool.or_true, Bool.or_true]
  rw [bind_run, need_run, hn, if_pos rfl]
  dsimp only
  rw [bind_run, need_run]
  by_cases h : others.length = 64
  · have h2 : ¬ others.length < ELEMS := by unfold ELEMS; omega
    rw [if_pos h]
    simp only [h2, decide_false]
    rfl
  · have h2 : others.length < ELEMS := by unfold ELEMS; omega
    rw [if_neg h]
    simp only [h2, decide_true, if_true]
    rw [bind_run, bind_run, pass_run]
    dsimp only [List.drop]
    generalize ht : x.tok = t at hx
    have e := name_new (takenE others) (fun b => others.all fun g => g.name != b) (fun b => all_any (·.name) others b) (fun n => word "after" >>= fun _ => number >>= fun g =>
      if t = .word (ascii "surface") then (do
        let _ ← word "into"
        let m ← glassNamed gl
        let s ← shape
        let c ← clearEnd
        pure ⟨n, g, .surface m, s.1, s.2, c⟩ : P Elem)
      else if t = .word (ascii "mirror") then (do
        let s ← shape
        let c ← clearEnd
        pure ⟨n, g, .mirror, s.1, s.2, c⟩)
      else (do
        let c ← clearEnd
        pure ⟨n, g, .halt_, 0, 0, c⟩))
    refine Eq.trans ?_ (congrFun e r).symm
    refine congrFun (bind_congr' fun n => ?_) r
    rw [take_word]
    refine bind_congr' fun _ => ?_
    have ek : ∀ g : Rat, (if isK (.w "surface") t = true then (do
        let _ ← takeK (.w "into")
        let m ← glassNamed gl
        elemTail n g (.surface m) false : P Elem)
      else if isK (.w "stop") t = false then elemTail n g .mirror false
      else elemTail n g .halt_ true) = (if t = .word (ascii "surface") then (do
        let _ ← word "into"
        let m ← glassNamed gl
        let s ← shape
        let c ← clearEnd
        pure ⟨n, g, .surface m, s.1, s.2, c⟩ : P Elem)
      else if t = .word (ascii "mirror") then (do
        let s ← shape
        let c ← clearEnd
        pure ⟨n, g, .mirror, s.1, s.2, c⟩)
      else (do
        let c ← clearEnd
        pure ⟨n, g, .halt_, 0, 0, c⟩)) := fun g => by
      rcases hx with h | h | h
      · rw [if_pos h, if_pos (tok_eq h), take_word]
        simp only [tail_f]
      · have q := tok_eq h
        subst q
        rw [if_neg (by decide +kernel), if_pos (by decide +kernel), if_neg (by decide +kernel), if_pos rfl, tail_f]
      · have q := tok_eq h
        subst q
        rw [if_neg (by decide +kernel), if_neg (by decide +kernel), if_neg (by decide +kernel), if_neg (by decide +kernel), tail_t]
    rw [number_k]
    · exact bind_congr' ek
    · intro g
      rcases hx with h | h | h
      · rw [if_pos h]; exact guard_takeK _ _
      · have q := tok_eq h
        subst q
        rw [if_neg (by decide +kernel), if_pos (by decide +kernel)]; exact guard_tail_f _ _ _
      · have q := tok_eq h
        subst q
        rw [if_neg (by decide +kernel), if_neg (by decide +kernel)]; exact guard_tail_t _ _ _
theorem glasses_step (f : Nat) (l : List Glass) (x : Lex) (r : List Lex) (hb : ¬ x.tok = .broken) : glasses (f + 1) l (x :: r) = if isK (.w "glass") x.tok = true then (glass l >>= fun g => glasses f (l ++ [g])) (x :: r) else .ok (l, x :: r) := by
  show (isWordNext "glass" >>= fun b => if b = true then (glass l >>= fun g => glasses f (l ++ [g])) else pure l) (x :: r) = _
  rw [bind_run, isWordNext_cons, if_neg hb]
  dsimp only
  cases isK (.w "glass") x.tok <;> rfl
theorem elems_step (gl : List Glass) (f : Nat) (l : List Elem) (x : Lex) (r : List Lex) (hb : ¬ x.tok = .broken) : elems gl (f + 1) l (x :: r) = if isK .fin x.tok = true then .ok (l, x :: r) else (elem gl l >>= fun e => elems gl f (l ++ [e])) (x :: r) := by
  show (peek >>= fun x => if x.tok = .end_ then pure l else (elem gl l >>= fun e => elems gl f (l ++ [e]))) (x :: r) = _
  rw [bind_run, peek_cons, if_neg hb]
  dsimp only
  show _ = if (x.tok == .end_) = true then _ else _
  by_cases h : x.tok = .end_
  · rw [if_pos h, if_pos (by simpa using h)]; rfl
  · rw [if_neg h, if_neg (by simpa using h)]
theorem elems_bad (gl : List Glass) (f : Nat) (l : List Elem) (x : Lex) (r : List Lex) (hb : ¬ x.tok = .broken) (h : ([K.w "surface", K.w "mirror", K.w "stop", K.fin].any fun k => isK k x.tok) = false) : elems gl (f + 1) l (x :: r) = .error (2, x.at_) := by
  simp only [List.any_cons, List.any_nil, Bool.or_eq_false_iff] at h
  rw [elems_step gl f l x r hb, h.2.2.2.1, if_neg (by decide), bind_run]
  unfold elem
  rw [bind_run, peek_cons, if_neg hb]
  dsimp only
  have e : (x.tok == .word (ascii "surface") || (x.tok == .word (ascii "mirror") || x.tok == .word (ascii "stop"))) = false := by
    have h1 : (x.tok == .word (ascii "surface")) = false := h.1
    have h2 : (x.tok == .word (ascii "mirror")) = false := h.2.1
    have h3 : (x.tok == .word (ascii "stop")) = false := h.2.2.1
    rw [h1, h2, h3]; rfl
  rw [bind_run, need_run, e]
  rfl
end Ma
namespace Ma
open Ln
theorem dig_eq : Num.isDigit = Text.isDigit := by
  funext c
  unfold Num.isDigit Text.isDigit
  simp only [UInt8.le_iff_toNat_le]
  rfl
theorem nat_eq : Num.number = Text.natural := rfl
theorem drop_tw {p : UInt8 → Bool} : ∀ (l : Bytes), l.drop (l.takeWhile p).length = [] ↔ l.all p = true
  | [] => by simp
  | a :: l => by
    cases h : p a with
    | true => simp [List.takeWhile_cons, h, drop_tw l]
    | false => simp [List.takeWhile_cons, h]
theorem tw_all {p : UInt8 → Bool} : ∀ {l : Bytes}, l.all p = true → l.takeWhile p = l
  | [], _ => rfl
  | a :: l, h => by
    simp only [List.all_cons, Bool.and_eq_true] at h
    rw [List.takeWhile_cons, h.1, if_pos rfl, tw_all h.2]
def unsignedV (s : Bytes) : Option Rat :=
  let a := s.takeWhile Text.isDigit
  if a = [] then none else match s.drop a.length with
    | [] => some ((Text.natural a : Nat) : Rat)
    | c :: back =>
      if back = [] ∨ back.all Text.isDigit = false then none
      else if c = 46 then some (((Text.natural (a ++ back) : Nat) : Rat) / ((10 ^ back.length : Nat) : Rat))
      else if c = 47 ∧ 0 < Text.natural back then some (((Text.natural a : Nat) : Rat) / ((Text.natural back : Nat) : Rat))
      else none
def restOk : Except Nat (Rat × Bytes) → Option Rat
  | .error _ => none
  | .ok x => if x.2 = [] then some x.1 else none
theorem unsigned_eq (p : Nat) (s : Bytes) (hs : s.length ≤ 512) : restOk (Num.partAt p s) = unsignedV s := by
  unfold Num.partAt unsignedV
  rw [dig_eq, nat_eq]
  dsimp only
  have hl : (s.takeWhile Text.isDigit).length ≤ s.length := (List.takeWhile_prefix _).length_le
  by_cases h0 : s.takeWhile Text.isDigit = []
  · rw [if_pos h0, if_pos h0]; rfl
  · rw [if_neg h0, if_neg h0, if_neg (by unfold Num.DIGITS; omega)]
    have hd : (s.drop (s.takeWhile Text.isDigit).length).length ≤ s.length := by simp
    generalize s.drop (s.takeWhile Text.isDigit).length = r at hd
    generalize s.takeWhile Text.isDigit = a
    cases r with
    | nil => rfl
    | cons c back =>
      have hb : back.length ≤ 512 := by simp at hd; omega
      have ht : (back.takeWhile Text.isDigit).length ≤ back.length := (List.takeWhile_prefix _).length_le
      have hD : ¬ Num.DIGITS < (back.takeWhile Text.isDigit).length := by unfold Num.DIGITS; omega
      dsimp only
      by_cases h1 : c = 46
      · subst h1
        show restOk (if back.takeWhile Text.isDigit = [] then _ else if Num.DIGITS < (back.takeWhile Text.isDigit).length then _ else _) = _
        rw [if_neg hD]
        by_cases h2 : back.takeWhile Text.isDigit = []
        · rw [if_pos h2]
          have : back = [] ∨ back.all Text.isDigit = false := by
            cases back with
            | nil => exact .inl rfl
            | cons x y =>
              refine .inr ?_
              cases hx : Text.isDigit x with
              | true => simp [List.takeWhile_cons, hx] at h2
              | false => simp [hx]
          rw [if_pos this]; rfl
        · rw [if_neg h2]
          have hne : back ≠ [] := by intro q; rw [q] at h2; exact h2 rfl
          cases ha : back.all Text.isDigit with
          | false =>
            have : ¬ back.drop (back.takeWhile Text.isDigit).length = [] := by rw [drop_tw, ha]; decide
            rw [if_pos (Or.inr rfl)]
            show (if _ = [] then _ else _) = _
            rw [if_neg this]
          | true =>
            rw [if_neg (by simp [hne]), if_pos rfl]
            show (if _ = [] then _ else _) = _
            rw [if_pos ((drop_tw back).mpr ha)]
            dsimp only
            rw [tw_all ha]
      · by_cases h3 : c = 47
        · subst h3
          show restOk (if back.takeWhile Text.isDigit = [] then _ else if Num.DIGITS < (back.takeWhile Text.isDigit).length then _ else _) = _
          rw [if_neg hD]
          by_cases h2 : back.takeWhile Text.isDigit = []
          · rw [if_pos h2]
            have : back = [] ∨ back.all Text.isDigit = false := by
              cases back with
              | nil => exact .inl rfl
              | cons x y =>
                refine .inr ?_
                cases hx : Text.isDigit x with
                | true => simp [List.takeWhile_cons, hx] at h2
                | false => simp [hx]
            rw [if_pos this]; rfl
          · rw [if_neg h2]
            have hne : back ≠ [] := by intro q; rw [q] at h2; exact h2 rfl
            cases ha : back.all Text.isDigit with
            | false =>
              have : ¬ back.drop (back.takeWhile Text.isDigit).length = [] := by rw [drop_tw, ha]; decide
              rw [if_pos (Or.inr rfl)]
              by_cases hz : Text.natural (back.takeWhile Text.isDigit) = 0
              · rw [if_pos hz]; rfl
              · rw [if_neg hz]
                show (if _ = [] then _ else _) = _
                rw [if_neg this]
            | true =>
              have hor : ¬ (back = [] ∨ true = false) := by simp [hne]
              rw [if_neg hor, if_neg h1, tw_all ha]
              by_cases hz : Text.natural back = 0
              · rw [if_pos hz, if_neg (by omega)]; rfl
              · rw [if_neg hz, if_pos ⟨rfl, by omega⟩]
                show (if _ = [] then _ else _) = _
                rw [if_pos (by simp)]
        · have e : (match (motive := Bytes → Except Nat (Rat × Bytes)) c :: back with
              | 46 :: t => if t.takeWhile Text.isDigit = [] then .error (p + a.length + 1) else if Num.DIGITS < (t.takeWhile Text.isDigit).length then .error (p + a.length + 1 + Num.DIGITS) else .ok (((Text.natural (a ++ t.takeWhile Text.isDigit) : Nat) : Rat) / ((10 ^ (t.takeWhile Text.isDigit).length : Nat) : Rat), t.drop (t.takeWhile Text.isDigit).length)
              | 47 :: t => if t.takeWhile Text.isDigit = [] then .error (p + a.length + 1) else if Num.DIGITS < (t.takeWhile Text.isDigit).length then .error (p + a.length + 1 + Num.DIGITS) else if Text.natural (t.takeWhile Text.isDigit) = 0 then .error (p + a.length + 1) else .ok (((Text.natural a : Nat) : Rat) / ((Text.natural (t.takeWhile Text.isDigit) : Nat) : Rat), t.drop (t.takeWhile Text.isDigit).length)
              | _ => .ok (((Text.natural a : Nat) : Rat), c :: back)) = .ok (((Text.natural a : Nat) : Rat), c :: back) := by
            split
            · rename_i q; simp only [List.cons.injEq] at q; exact absurd q.1 h1
            · rename_i q; simp only [List.cons.injEq] at q; exact absurd q.1 h3
            · rfl
          refine Eq.trans (congrArg restOk e) ?_
          show (if c :: back = [] then some ((Text.natural a : Nat) : Rat) else none) = _
          rw [if_neg (by simp)]
          by_cases hh : back = [] ∨ back.all Text.isDigit = false
          · rw [if_pos hh]
          · rw [if_neg hh, if_neg h1, if_neg (by simp [h3])]
def signedV (s : Bytes) : Option Rat := match s with
  | 45 :: t => (unsignedV t).map fun q => -q
  | _ => unsignedV s
def handedV (s : Bytes) : Option Rat := if 512 < s.length then none else match signedV s with
  | some q => if Num.fits q = true then some q else none
  | none => none
end Ma
namespace Ma
theorem frac_num (a b : Int) (hb : b ≠ 0) : a.fdiv (if b < 0 then -((Nat.gcd a.natAbs b.natAbs : Nat) : Int) else ((Nat.gcd a.natAbs b.natAbs : Nat) : Int)) = ((a : Rat) / (b : Rat)).num ∧
    b.fdiv (if b < 0 then -((Nat.gcd a.natAbs b.natAbs : Nat) : Int) else ((Nat.gcd a.natAbs b.natAbs : Nat) : Int)) = (((a : Rat) / (b : Rat)).den : Int) := by
  have hg : (0 : Int) < ((Nat.gcd a.natAbs b.natAbs : Nat) : Int) := by
    have : 0 < Nat.gcd a.natAbs b.natAbs := Nat.gcd_pos_of_pos_right _ (by omega)
    omega
  have da : ((Nat.gcd a.natAbs b.natAbs : Nat) : Int) ∣ a := Int.ofNat_dvd_left.mpr (Nat.gcd_dvd_left _ _)
  have db : ((Nat.gcd a.natAbs b.natAbs : Nat) : Int) ∣ b := Int.ofNat_dvd_left.mpr (Nat.gcd_dvd_right _ _)
  rw [← Rat.divInt_eq_div, Rat.num_divInt, Rat.den_divInt, if_neg hb]
  have eg : ((b.gcd a : Nat) : Int) = ((Nat.gcd a.natAbs b.natAbs : Nat) : Int) := by
    show ((Nat.gcd b.natAbs a.natAbs : Nat) : Int) = _; rw [Nat.gcd_comm]
  have eg' : b.gcd a = Nat.gcd a.natAbs b.natAbs := by exact_mod_cast eg
  rw [eg']
  generalize Nat.gcd a.natAbs b.natAbs = g at *
  obtain ⟨u, rfl⟩ := da
  obtain ⟨v, rfl⟩ := db
  have g0 : (g : Int) ≠ 0 := by omega
  by_cases h : (g : Int) * v < 0
  · have hv : v < 0 := by
      rcases Int.lt_or_le v 0 with q | q
      · exact q
      · have := Int.mul_nonneg (Int.le_of_lt hg) q; omega
    rw [if_pos h, Int.sign_eq_neg_one_of_neg h]
    constructor
    · rw [show (g : Int) * u = (-(g : Int)) * (-u) by rw [Int.neg_mul_neg], Int.mul_fdiv_cancel_left _ (by omega)]
      rw [show (-1 : Int) * (-(g : Int) * -u) = (g : Int) * (-u) by rw [Int.neg_mul_neg, Int.neg_one_mul, Int.mul_neg], Int.mul_ediv_cancel_left _ g0]
    · rw [show (g : Int) * v = (-(g : Int)) * (-v) by rw [Int.neg_mul_neg], Int.mul_fdiv_cancel_left _ (by omega)]
      have : ((-(g : Int) * -v).natAbs : Int) = (g : Int) * (-v) := by
        rw [Int.neg_mul_neg]
        have : (g : Int) * v = -((g : Int) * (-v)) := by rw [Int.mul_neg, Int.neg_neg]
        have h2 : 0 ≤ (g : Int) * (-v) := Int.mul_nonneg (Int.le_of_lt hg) (by omega)
        omega
      have e2 : (((-(g : Int) * -v).natAbs / g : Nat) : Int) = -v := by
        rw [Int.natCast_ediv, this, Int.mul_ediv_cancel_left _ g0]
      omega
  · have hv : 0 < v := by
      rcases Int.lt_or_le 0 v with q | q
      · exact q
      · exfalso
        rcases Int.lt_or_le v 0 with q2 | q2
        · have := Int.mul_neg_of_pos_of_neg hg q2; omega
        · have : v = 0 := by omega
          subst this; simp at hb
    have hp : 0 < (g : Int) * v := Int.mul_pos hg hv
    rw [if_neg h, Int.sign_eq_one_of_pos hp, Int.one_mul, Int.mul_fdiv_cancel_left _ g0, Int.mul_ediv_cancel_left _ g0, Int.mul_fdiv_cancel_left _ g0]
    refine ⟨rfl, ?_⟩
    have : (((g : Int) * v).natAbs : Int) = (g : Int) * v := by omega
    rw [Int.natCast_ediv, this, Int.mul_ediv_cancel_left _ g0]
def Sz (n : Nat) (q : Rat) : Prop := q.num.natAbs < 2 ^ n ∧ q.den < 2 ^ n
theorem Sz.mono {n m : Nat} {q : Rat} (h : Sz n q) (le : n ≤ m) : Sz m q :=
  ⟨Nat.lt_of_lt_of_le h.1 (Nat.pow_le_pow_right (by decide) le), Nat.lt_of_lt_of_le h.2 (Nat.pow_le_pow_right (by decide) le)⟩
theorem numq_le (a b : Int) : ((a : Rat) / (b : Rat)).num.natAbs ≤ a.natAbs := by
  rw [← Rat.divInt_eq_div, Rat.num_divInt]
  rw [Int.natAbs_ediv_of_dvd ?_]
  · rw [Int.natAbs_mul]
    refine Nat.le_trans (Nat.div_le_self _ _) ?_
    have : b.sign.natAbs ≤ 1 := by rw [Int.natAbs_sign]; split <;> omega
    exact Nat.le_trans (Nat.mul_le_mul_right _ this) (by omega)
  · exact Int.dvd_mul_of_dvd_right (Int.gcd_dvd_right ..)
theorem den_le (a b : Int) (hb : b ≠ 0) : ((a : Rat) / (b : Rat)).den ≤ b.natAbs := by
  rw [← Rat.divInt_eq_div, Rat.den_divInt, if_neg hb]
  exact Nat.div_le_self _ _
theorem Sz.div {n : Nat} {a b : Int} (ha : a.natAbs < 2 ^ n) (hb : b.natAbs < 2 ^ n) (h0 : b ≠ 0) : Sz n ((a : Rat) / (b : Rat)) :=
  ⟨Nat.lt_of_le_of_lt (numq_le a b) ha, Nat.lt_of_le_of_lt (den_le a b h0) hb⟩
theorem mul_lt2 {a b n m : Nat} (ha : a < 2 ^ n) (hb : b < 2 ^ m) : a * b < 2 ^ (n + m) := by
  rw [Nat.pow_add]
  exact Nat.mul_lt_mul'' ha hb
theorem den_ne (q : Rat) : (q.den : Int) ≠ 0 := by have := q.den_pos; omega
theorem rat_eq (q : Rat) : q = (q.num : Rat) / ((q.den : Int) : Rat) := by
  rw [← Rat.divInt_eq_div]; exact (Rat.num_divInt_den q).symm
theorem mul_eq (p q : Rat) : p * q = ((p.num * q.num : Int) : Rat) / ((p.den * q.den : Int) : Rat) := by
  conv => lhs; rw [rat_eq p, rat_eq q]
  have h1 : ((p.den : Int) : Rat) ≠ 0 := by exact_mod_cast den_ne p
  have h2 : ((q.den : Int) : Rat) ≠ 0 := by exact_mod_cast den_ne q
  rw [Rat.intCast_mul, Rat.intCast_mul]
  grind
theorem add_eq (p q : Rat) : p + q = ((p.num * q.den + q.num * p.den : Int) : Rat) / ((p.den * q.den : Int) : Rat) := by
  conv => lhs; rw [rat_eq p, rat_eq q]
  have h1 : ((p.den : Int) : Rat) ≠ 0 := by exact_mod_cast den_ne p
  have h2 : ((q.den : Int) : Rat) ≠ 0 := by exact_mod_cast den_ne q
  rw [Rat.intCast_add, Rat.intCast_mul, Rat.intCast_mul, Rat.intCast_mul]
  grind
theorem div_eq (p q : Rat) (hq : q ≠ 0) : p / q = ((p.num * q.den : Int) : Rat) / ((p.den * q.num : Int) : Rat) := by
  have h0 : q.num ≠ 0 := fun z => hq (Rat.num_eq_zero.mp z)
  have h3 : ((q.num : Int) : Rat) ≠ 0 := by exact_mod_cast h0
  have h1 : ((p.den : Int) : Rat) ≠ 0 := by exact_mod_cast den_ne p
  have h2 : ((q.den : Int) : Rat) ≠ 0 := by exact_mod_cast den_ne q
  conv => lhs; rw [rat_eq p, rat_eq q]
  rw [Rat.intCast_mul, Rat.intCast_mul]
  grind
theorem Sz.mul {n m : Nat} {p q : Rat} (hp : Sz n p) (hq : Sz m q) : Sz (n + m) (p * q) := by
  rw [mul_eq]
  refine Sz.div ?_ ?_ ?_
  · rw [Int.natAbs_mul]; exact mul_lt2 hp.1 hq.1
  · rw [Int.natAbs_mul]; exact mul_lt2 hp.2 hq.2
  · exact Int.mul_ne_zero (den_ne p) (den_ne q)
theorem Sz.add {n m : Nat} {p q : Rat} (hp : Sz n p) (hq : Sz m q) : Sz (n + m + 1) (p + q) := by
  rw [add_eq]
  refine Sz.div ?_ ?_ ?_
  · have h1 : (p.num * (q.den : Int)).natAbs < 2 ^ (n + m) := by rw [Int.natAbs_mul]; exact mul_lt2 hp.1 hq.2
    have h2 : (q.num * (p.den : Int)).natAbs < 2 ^ (n + m) := by rw [Int.natAbs_mul, Nat.add_comm]; exact mul_lt2 hq.1 hp.2
    rw [Nat.pow_succ]
    have := Int.natAbs_add_le (p.num * (q.den : Int)) (q.num * (p.den : Int))
    omega
  · rw [Int.natAbs_mul, Nat.pow_succ]
    have : (p.den : Int).natAbs * (q.den : Int).natAbs < 2 ^ (n + m) := mul_lt2 hp.2 hq.2
    omega
  · exact Int.mul_ne_zero (den_ne p) (den_ne q)
theorem Sz.neg {n : Nat} {q : Rat} (h : Sz n q) : Sz n (-q) := by
  unfold Sz at *
  rw [Rat.neg_num, Rat.neg_den, Int.natAbs_neg]
  exact h
theorem Sz.sub {n m : Nat} {p q : Rat} (hp : Sz n p) (hq : Sz m q) : Sz (n + m + 1) (p - q) := by
  rw [Rat.sub_eq_add_neg]
  exact hp.add hq.neg
theorem Sz.quo {n m : Nat} {p q : Rat} (hp : Sz n p) (hq : Sz m q) (h0 : q ≠ 0) : Sz (n + m) (p / q) := by
  rw [div_eq p q h0]
  refine Sz.div ?_ ?_ ?_
  · rw [Int.natAbs_mul]; exact mul_lt2 hp.1 hq.2
  · rw [Int.natAbs_mul]; exact mul_lt2 hp.2 hq.1
  · exact Int.mul_ne_zero (den_ne p) fun z => h0 (Rat.num_eq_zero.mp z)
end Ma
namespace Ma
open Ln
structure Stn where
  stop : Bool
  walk : Rat
  before : Rat
  behind : Rat
  square : Rat
  bend : Rat
  conic : Rat
  colour : Rat
def stnOf (s : System_) (line i : Nat) : Stn := match (s.elem i).kind with
  | .halt_ => ⟨true, s.gap i / s.index line i, 0, 0, 0, 0, 0, 0⟩
  | _ =>
    let n := s.index line i
    let m := s.index line (i + 1)
    let g := (s.elem i).curve
    ⟨false, s.gap i / n, n * g, m * g, 1 / (m * m) - 1 / (n * n), g * (1 / m - 1 / n), (s.elem i).conic * (g * (g * g)) * (m - n), spreads s line (i + 1) - spreads s line i⟩
end Ma
namespace Ma
open Ln
end Ma
namespace Ma
open Ln
def stnsFrom (s : System_) (line i k : Nat) : List Stn := (List.range' i k).map (stnOf s line)
def stns (s : System_) (line : Nat) : List Stn := stnsFrom s line 0 s.count
end Ma
namespace Ma
open Ln
def digL (n : Nat) : List Nat := (Nat.toDigits 10 n).map Char.toNat
theorem digC : ∀ d : Nat, d < 10 → (Nat.digitChar d).toNat = 48 + d := by decide
theorem digL_lt {n : Nat} (h : n < 10) : digL n = [48 + n] := by
  unfold digL
  rw [Nat.toDigits_of_lt_base h]
  show [(Nat.digitChar n).toNat] = _
  rw [digC n h]
theorem digL_step {n : Nat} (h : 10 ≤ n) : digL n = digL (n / 10) ++ [48 + n % 10] := by
  have hm : n % 10 < 10 := Nat.mod_lt n (by decide)
  have t : Nat.toDigits 10 (n / 10) ++ Nat.toDigits 10 (n % 10) = Nat.toDigits 10 (10 * (n / 10) + n % 10) := Nat.toDigits_append_toDigits (by decide) (by omega) hm
  rw [Nat.div_add_mod] at t
  show (Nat.toDigits 10 n).map Char.toNat = _
  rw [← t, List.map_append, Nat.toDigits_of_lt_base hm]
  show (Nat.toDigits 10 (n / 10)).map Char.toNat ++ [(Nat.digitChar (n % 10)).toNat] = _
  rw [digC _ hm] <;> rfl
def codes (b : Bytes) : List Nat := b.map fun (c : UInt8) => c.toNat
theorem byte_of {m : Nat} (h : m < 256) : (UInt8.ofNat m).toNat = m := by
  rw [UInt8.toNat_ofNat']
  exact Nat.mod_eq_of_lt h
theorem digitsIn_eq : ∀ (k n : Nat), n < 2 ^ k → 0 < k → codes (Num.digitsIn k n) = digL n
  | 0, _, _, h => absurd h (by decide)
  | k + 1, n, h, _ => by
    show codes ((if n < 10 then [] else Num.digitsIn k (n / 10)) ++ [UInt8.ofNat (48 + n % 10)]) = _
    unfold codes
    rw [List.map_append]
    show _ ++ [(UInt8.ofNat (48 + n % 10)).toNat] = _
    rw [byte_of (by omega)]
    by_cases h1 : n < 10
    · rw [if_pos h1, digL_lt h1, Nat.mod_eq_of_lt h1]; rfl
    · rw [if_neg h1, digL_step (by omega)]
      have h2 : n / 10 < 2 ^ k := by rw [Nat.pow_succ] at h; omega
      have h3 : 0 < k := by
        cases k with
        | zero => simp at h2; omega
        | succ => omega
      have ih := digitsIn_eq k (n / 10) h2 h3
      unfold codes at ih
      rw [ih]
theorem decimal_eq (n : Nat) : codes (Num.decimal n) = digL n := digitsIn_eq _ _ Nat.lt_log2_self (Nat.succ_pos _)
def intL (i : Int) : List Nat := (if i < 0 then [45] else []) ++ digL i.natAbs
def fracL (q : Rat) : List Nat := if q.den = 1 then intL q.num else intL q.num ++ (47 :: digL q.den)
theorem exact_eq (q : Rat) : codes (Num.exactText q) = fracL q := by
  unfold Num.exactText fracL intL codes
  have hs : (q < 0) = (q.num < 0) := by
    refine propext ⟨fun h => ?_, fun h => ?_⟩
    · rcases Int.lt_or_le q.num 0 with z | z
      · exact z
      · have := Rat.num_nonneg.mp z; grind
    · have : ¬ 0 ≤ q := fun z => by have := Rat.num_nonneg.mpr z; omega
      exact Rat.not_le.mp this
  simp only [hs, List.map_append]
  have e1 : (Num.decimal q.num.natAbs).map (fun (c : UInt8) => c.toNat) = digL q.num.natAbs := decimal_eq _
  have e2 : (Num.decimal q.den).map (fun (c : UInt8) => c.toNat) = digL q.den := decimal_eq _
  rw [e1]
  have e3 : (ascii "-").map (fun (c : UInt8) => c.toNat) = [45] := by decide +kernel
  have e4 : (ascii "/").map (fun (c : UInt8) => c.toNat) = [47] := by decide +kernel
  by_cases h : q.num < 0
  · simp only [h, if_true, e3]
    by_cases h2 : q.den = 1
    · simp [h2]
    · simp only [h2, if_false, List.map_append, e4, e2]; simp
  · simp only [h, if_false]
    by_cases h2 : q.den = 1
    · simp [h2]
    · simp only [h2, if_false, List.map_append, e4, e2]; simp
def joinB : List (List Nat) → List Nat
  | [] => []
  | [x] => x
  | x :: y :: r => x ++ 32 :: joinB (y :: r)
theorem list_eq : ∀ l : List Rat, codes (Num.listText l) = joinB (l.map fracL)
  | [] => rfl
  | [q] => exact_eq q
  | q :: p :: r => by
    have ih := list_eq (p :: r)
    show codes (Num.exactText q ++ (32 :: Num.listText (p :: r))) = fracL q ++ 32 :: joinB ((p :: r).map fracL)
    rw [← ih, ← exact_eq q]
    unfold codes
    rw [List.map_append]
    rfl
def tellsI (l : List Rat) : List Int := if l.all Num.tellable = false then [-6] else ((joinB (l.map fracL)).length : Int) :: (joinB (l.map fracL)).map fun (n : Nat) => (n : Int)
theorem gives_eq (l : List Rat) : LensDNeutral.shown (LensD.gives l) = tellsI l := by
  unfold LensD.gives tellsI
  by_cases h : l.all Num.tellable = false
  · rw [if_pos h, if_pos h]; rfl
  · rw [if_neg h, if_neg h]
    have e := list_eq l
    show ((Num.listText l).length : Int) :: ([] ++ (Num.listText l).map fun (c : UInt8) => (c.toNat : Int)) = _
    rw [← e]
    unfold codes
    rw [List.length_map, List.map_map]
    rfl
end Ma
namespace Ma
open Ln
def quots (l : List (Int × Int)) : List Rat := l.map fun p => (p.1 : Rat) / (p.2 : Rat)
theorem mul_ne {a b : Rat} (h : a ≠ 0) (h' : b ≠ 0) : a * b ≠ 0 := fun z => (Rat.mul_eq_zero.mp z).elim h h'
def B (n : Nat) (x : Int) : Prop := x.natAbs < 2 ^ n
theorem B.mono {n m : Nat} {x : Int} (h : B n x) (le : n ≤ m) : B m x := Nat.lt_of_lt_of_le h (Nat.pow_le_pow_right (by decide) le)
theorem Sz.num {n : Nat} {q : Rat} (h : Sz n q) : B n q.num := h.1
theorem Sz.den {n : Nat} {q : Rat} (h : Sz n q) : B n (q.den : Int) := h.2
structure StnOk (t : Stn) : Prop where
  walk : Sz 130 t.walk
  before : Sz 130 t.before
  behind : Sz 130 t.behind
  square : Sz 400 t.square
  bend : Sz 400 t.bend
  conic : Sz 400 t.conic
  colour : Sz 400 t.colour
end Ma
namespace Ma
open Ln Ln.Text
theorem take_tw {p : UInt8 → Bool} : ∀ (l : Bytes), l.take (l.takeWhile p).length = l.takeWhile p
  | [] => rfl
  | a :: l => by
    cases h : p a with
    | true => simp [List.takeWhile_cons, h, take_tw l]
    | false => simp [List.takeWhile_cons, h]
theorem tw_digits {p : UInt8 → Bool} : ∀ (l : Bytes), (l.takeWhile p).all p = true
  | [] => rfl
  | a :: l => by
    cases h : p a with
    | true => simp only [List.takeWhile_cons, h, if_true, List.all_cons, tw_digits l]; rfl
    | false => simp [List.takeWhile_cons, h]
theorem tok_digit {c : Bytes} {n k : Nat} {pt : Bool} (h : (tokenIn c).1 = .num n k pt) : tokenIn c = numberIn c := by
  cases c with
  | nil => simp [tokenIn] at h
  | cons x r =>
    by_cases h1 : isLetter x = true
    · simp only [tokenIn, h1, if_true] at h
      split at h
      · cases h
      · split at h <;> cases h
    · by_cases h2 : isDigit x = true
      · simp only [tokenIn, h1, h2, if_true]; rfl
      · by_cases h3 : isMark x = true
        · simp [tokenIn, h1, h2, h3] at h
        · simp [tokenIn, h1, h2, h3] at h
theorem num_ok {c : Bytes} {n k : Nat} {pt : Bool} (h : (tokenIn c).1 = .num n k pt) : nOk c ∧ n = natural (nA c ++ nZ c) ∧ k = (nZ c).length ∧ pt = nP c ∧ (tokenIn c).2 = nN c := by
  have e := tok_digit h
  rw [e] at h ⊢
  rw [numberIn_eq] at h ⊢
  by_cases ho : nOk c
  · rw [if_pos ho] at h ⊢
    cases h
    exact ⟨ho, rfl, rfl, rfl, rfl⟩
  · rw [if_neg ho] at h; cases h
theorem piece_whole {c : Bytes} {n k : Nat} (h : (tokenIn c).1 = .num n k false) : (c.take (tokenIn c).2).all isDigit = true ∧ natural (c.take (tokenIn c).2) = n ∧ (c.take (tokenIn c).2).length ≤ 18 := by
  obtain ⟨ho, hn, hk, hp, hl⟩ := num_ok h
  have e1 : nN c = (nA c).length := by simp only [nN, ← hp]; simp
  have e2 : nZ c = [] := by simp only [nZ, ← hp]; simp
  rw [hl, e1, take_tw]
  refine ⟨tw_digits c, ?_, ?_⟩
  · rw [hn, e2, List.append_nil]
  · have := ho.2.1
    unfold DIGITS at this
    have t : (nA c).length = (c.takeWhile isDigit).length := rfl
    omega
theorem piece_pointed {c : Bytes} {n k : Nat} (h : (tokenIn c).1 = .num n k true) : ∃ a z : Bytes, c.take (tokenIn c).2 = a ++ 46 :: z ∧ a.all isDigit = true ∧ z.all isDigit = true ∧ natural (a ++ z) = n ∧ z.length = k ∧ a.length + z.length ≤ 18 := by
  obtain ⟨ho, hn, hk, hp, hl⟩ := num_ok h
  have hp' : nP c = true := hp.symm
  have e1 : nN c = (nA c).length + (1 + (nZ c).length) := by simp only [nN, hp', if_true]
  have e2 : nZ c = ((nR c).drop 1).takeWhile isDigit := by simp only [nZ, hp', if_true]
  refine ⟨nA c, nZ c, ?_, tw_digits c, by rw [e2]; exact tw_digits _, hn.symm, hk.symm, ?_⟩
  · rw [hl, e1]
    have hr : ∃ r, nR c = 46 :: r := by
      have q : (nR c).head? = some 46 := eq_of_beq hp'
      cases z : nR c with
      | nil => rw [z] at q; cases q
      | cons x r => rw [z] at q; cases q; exact ⟨r, rfl⟩
    obtain ⟨r, hr⟩ := hr
    have hc : nA c ++ nR c = c := by
      have := List.take_append_drop (nA c).length c
      rw [take_tw] at this
      exact this
    have ez : nZ c = r.takeWhile isDigit := by rw [e2, hr]; rfl
    have key : ∀ (a z c : Bytes) (r : Bytes), a ++ 46 :: r = c → z = r.takeWhile isDigit → c.take (a.length + (1 + z.length)) = a ++ 46 :: z := fun a z c r h1 h2 => by
      rw [← h1, List.take_append, List.take_of_length_le (by omega), show a.length + (1 + z.length) - a.length = z.length + 1 by omega, List.take_succ_cons, h2, take_tw]
    exact key _ _ _ r (by rw [← hr]; exact hc) ez
  · have := ho.2.1
    unfold DIGITS at this
    exact this
theorem piece_name {c w : Bytes} (h : (tokenIn c).1 = .name w) : c.take (tokenIn c).2 = w ∧ WORDS.contains w = false := by
  cases c with
  | nil => simp [tokenIn] at h
  | cons x r =>
    by_cases h1 : isLetter x = true
    · simp only [tokenIn, h1, if_true] at h ⊢
      split at h
      · cases h
      · rename_i hn
        rw [if_neg hn]
        split at h
        · cases h
        · rename_i hw
          rw [if_neg hw]
          cases h
          exact ⟨take_tw _, by simpa using hw⟩
    · by_cases h2 : isDigit x = true
      · simp only [tokenIn, h1, h2, if_true] at h
        rw [if_neg (by decide)] at h
        rw [numberIn_eq] at h
        split at h <;> cases h
      · by_cases h3 : isMark x = true
        · simp [tokenIn, h1, h2, h3] at h
        · simp [tokenIn, h1, h2, h3] at h
def TokOk : Tok → Prop
  | .word w => w ∈ WORDS
  | .mark c => isMark c = true
  | _ => True
theorem tok_ok (c : Bytes) : TokOk (tokenIn c).1 := by
  cases c with
  | nil => exact True.intro
  | cons x r =>
    by_cases h1 : isLetter x = true
    · simp only [tokenIn, h1, if_true]
      split
      · exact True.intro
      · split
        · rename_i hw
          exact List.contains_iff_mem.mp hw
        · exact True.intro
    · by_cases h2 : isDigit x = true
      · simp only [tokenIn, h1, h2, if_true]
        rw [if_neg (by decide), numberIn_eq]
        split <;> exact True.intro
      · by_cases h3 : isMark x = true
        · simp only [tokenIn, h1, h2, h3, if_true]
          exact h3
        · simp only [tokenIn, h1, h2, h3]
          exact True.intro
theorem nat_lt : ∀ (l : Bytes) (a : Nat), l.all isDigit = true → l.foldl (fun (n : Nat) (c : UInt8) => 10 * n + (c.toNat - 48)) a < 10 ^ l.length * (a + 1)
  | [], a, _ => by simp
  | c :: l, a, h => by
    simp only [List.all_cons, Bool.and_eq_true] at h
    rw [List.foldl_cons]
    have hc : c.toNat ≤ 57 := by
      have := h.1
      unfold isDigit at this
      simp only [Bool.and_eq_true, decide_eq_true_eq, UInt8.le_iff_toNat_le] at this
      exact this.2
    have := nat_lt l (10 * a + (c.toNat - 48)) h.2
    refine Nat.lt_of_lt_of_le this ?_
    rw [List.length_cons, Nat.pow_succ, Nat.mul_assoc]
    exact Nat.mul_le_mul_left _ (by omega)
theorem natural_lt {l : Bytes} (h : l.all isDigit = true) : natural l < 10 ^ l.length := by
  have := nat_lt l 0 h
  rw [Nat.zero_add, Nat.mul_one] at this
  exact this
theorem natural_B {l : Bytes} (h : l.all isDigit = true) (hl : l.length ≤ 18) : natural l < 2 ^ 60 :=
  Nat.lt_of_lt_of_le (natural_lt h) (Nat.le_trans (Nat.pow_le_pow_right (by decide) hl) (by decide))
theorem sz_nat {n : Nat} (h : n < 2 ^ 60) : Sz 60 (n : Rat) := by
  have := Sz.div (n := 60) (a := (n : Int)) (b := 1) h (by decide) (by decide)
  have e : (((n : Int) : Rat) / ((1 : Int) : Rat)) = (n : Rat) := by
    rw [show (((1 : Int)) : Rat) = 1 from rfl]
    have : ((n : Int) : Rat) = (n : Rat) := rfl
    grind
  rw [e] at this
  exact this
theorem sz_div {n m : Nat} (h : n < 2 ^ 60) (h' : m < 2 ^ 60) (h0 : m ≠ 0) : Sz 60 ((n : Rat) / (m : Rat)) :=
  Sz.div (n := 60) (a := (n : Int)) (b := (m : Int)) h h' (by omega)
end Ma
namespace Ma
open Ln
def triple (s : System_) (g : Nat) : List Rat := (s.glasses.map fun (x : Glass) => x.index).getD g []
def GlOk (gl : List Glass) : Prop := ∀ g ∈ gl, g.index.length = 3 ∧ ∀ q ∈ g.index, 1 ≤ q ∧ Sz 60 q
theorem triple_mem {s : System_} (h : GlOk s.glasses) (g : Nat) : triple s g = [] ∨ ((triple s g).length = 3 ∧ ∀ q ∈ triple s g, 1 ≤ q ∧ Sz 60 q) := by
  unfold triple
  rw [List.getD_eq_getElem?_getD]
  cases e : (s.glasses.map fun (x : Glass) => x.index)[g]? with
  | none => exact .inl rfl
  | some l =>
    have m := List.mem_of_getElem? e
    obtain ⟨x, hx, rfl⟩ := List.mem_map.mp m
    exact .inr (h x hx)
theorem gi_one {s : System_} (h : GlOk s.glasses) (g line : Nat) : 1 ≤ s.glassIndex g line := by
  show 1 ≤ (triple s g).getD line 1
  rw [List.getD_eq_getElem?_getD]
  cases e : (triple s g)[line]? with
  | none => exact Rat.le_refl
  | some q =>
    rcases triple_mem h g with z | z
    · rw [z] at e; simp at e
    · exact (z.2 q (List.mem_of_getElem? e)).1
theorem mirrors_succ (s : System_) (i : Nat) (hi : i < s.count) : s.mirrors (i + 1) = s.mirrors i + (if (s.elem i).kind = .mirror then 1 else 0) := by
  unfold System_.mirrors System_.elem
  have e : s.elems[i]? = some (s.elems.getD i noElem) := by
    rw [List.getD_eq_getElem?_getD]
    have : i < s.elems.length := hi
    rw [List.getElem?_eq_getElem this]; rfl
  rw [List.take_add_one, e]
  simp only [Option.toList, List.filter_append, List.length_append]
  generalize s.elems.getD i noElem = x
  by_cases hk : x.kind = .mirror
  · rw [if_pos hk, List.filter_cons, if_pos (by rw [hk]; rfl)]; rfl
  · rw [if_neg hk, List.filter_cons, if_neg (by simpa using hk)]; rfl
theorem sign_ne (s : System_) (i : Nat) : s.sign i ≠ 0 := by
  unfold System_.sign
  split <;> decide
theorem index_ne {s : System_} (h : GlOk s.glasses) (line i : Nat) : s.index line i ≠ 0 := by
  unfold System_.index
  have h1 := gi_one h (s.medium i) line
  refine mul_ne (sign_ne s i) ?_
  intro z
  rw [z] at h1
  exact absurd h1 (by decide)
theorem sign_sq (s : System_) (i : Nat) : s.sign i = 1 ∨ s.sign i = -1 := by
  unfold System_.sign
  split
  · exact .inl rfl
  · exact .inr rfl
theorem walk_eq (s : System_) (line i : Nat) (h : s.glassIndex (s.medium i) line ≠ 0) : s.gap i / s.index line i = (s.elem i).gap / s.glassIndex (s.medium i) line := by
  unfold System_.gap System_.index
  rcases sign_sq s i with e | e <;> rw [e] <;> grind
def back (s : System_) (i : Nat) : Bool := s.mirrors i % 2 == 1
theorem sign_back (s : System_) (i : Nat) : s.sign i = if back s i = true then -1 else 1 := by
  unfold System_.sign back
  have : s.mirrors i % 2 = 0 ∨ s.mirrors i % 2 = 1 := by omega
  rcases this with h | h <;> rw [h] <;> rfl
theorem index_back (s : System_) (line i : Nat) : s.index line i = if back s i = true then -s.glassIndex (s.medium i) line else s.glassIndex (s.medium i) line := by
  unfold System_.index
  rw [sign_back]
  cases back s i
  · rw [if_neg (by decide), if_neg (by decide)]; grind
  · rw [if_pos rfl, if_pos rfl]; grind
theorem back_succ (s : System_) (i : Nat) (hi : i < s.count) : back s (i + 1) = if (s.elem i).kind = .mirror then !back s i else back s i := by
  unfold back
  rw [mirrors_succ s i hi]
  by_cases h : (s.elem i).kind = .mirror
  · simp only [h, if_true]
    have : s.mirrors i % 2 = 0 ∨ s.mirrors i % 2 = 1 := by omega
    rcases this with z | z
    · rw [show (s.mirrors i + 1) % 2 = 1 by omega, z]; rfl
    · rw [show (s.mirrors i + 1) % 2 = 0 by omega, z]; rfl
  · simp [h]
theorem medium_succ (s : System_) (i : Nat) : s.medium (i + 1) = match (s.elem i).kind with
    | .surface g => g
    | _ => s.medium i := rfl
theorem spreads_eq (s : System_) (line i : Nat) (h : s.glassIndex (s.medium i) line ≠ 0) : spreads s line i = (s.glassIndex (s.medium i) 1 - s.glassIndex (s.medium i) 2) / s.glassIndex (s.medium i) line := by
  unfold spreads System_.index
  rcases sign_sq s i with e | e <;> rw [e] <;> grind
end Ma
namespace L2
open PySem PySem.Spec PyProof.Rows
abbrev Key := Sum Int Str
def keyIs : Key → Value → Bool
  | .inl k, v => Value.isInt k v
  | .inr x, v => Value.isStrOf x v
def keyH (w : World) : Key → Int
  | .inl k => hashInt k
  | .inr x => hashStr w x
theorem keyIs_shape : ∀ {k : Key} {v : Value}, keyIs k v = true → (∃ i t, k = Sum.inl i ∧ v = Value.int i t) ∨ (∃ x t, k = Sum.inr x ∧ v = Value.str x t)
  | .inl i, v, h => by
    obtain ⟨t, e⟩ := Value.isInt_shape (k := i) (v := v) h
    exact .inl ⟨i, t, rfl, e⟩
  | .inr x, v, h => by
    obtain ⟨t, e⟩ := Value.isStrOf_shape (x := x) (v := v) h
    exact .inr ⟨x, t, rfl, e⟩
theorem keyIs_int (i : Int) (t : Tok) : keyIs (.inl i) (.int i t) = true := by simp [keyIs, Value.isInt]
theorem keyIs_str (x : Str) (t : Tok) : keyIs (.inr x) (.str x t) = true := by simp [keyIs, Value.isStrOf]
theorem key_ll (a b : Int) : decide ((Sum.inl a : Key) = Sum.inl b) = (a == b) := by
  by_cases e : a = b
  · subst e; simp
  · have h : ¬ (Sum.inl a : Key) = Sum.inl b := fun q => e (Sum.inl.inj q)
    rw [decide_eq_false h]
    exact (beq_eq_false_iff_ne.mpr e).symm
theorem key_rr (a b : Str) : decide ((Sum.inr a : Key) = Sum.inr b) = decide (a = b) := by
  by_cases e : a = b
  · subst e; simp
  · have h : ¬ (Sum.inr a : Key) = Sum.inr b := fun q => e (Sum.inr.inj q)
    rw [decide_eq_false h, decide_eq_false e]
theorem key_lr (a : Int) (b : Str) : decide ((Sum.inl a : Key) = Sum.inr b) = false := decide_eq_false (fun q => nomatch q)
theorem key_rl (a : Str) (b : Int) : decide ((Sum.inr a : Key) = Sum.inl b) = false := decide_eq_false (fun q => nomatch q)
def mixKind (prog : Program) (w : World) : PySem.KeyKind prog w Key where
  is := keyIs
  hash := keyH w
  inj := fun v a b ha hb => by
    rcases keyIs_shape ha with ⟨i, t, rfl, rfl⟩ | ⟨x, t, rfl, rfl⟩
    · rcases keyIs_shape hb with ⟨j, u, rfl, e⟩ | ⟨y, u, rfl, e⟩
      · injection e with e1 _; rw [e1]
      · exact nomatch e
    · rcases keyIs_shape hb with ⟨j, u, rfl, e⟩ | ⟨y, u, rfl, e⟩
      · exact nomatch e
      · injection e with e1 _; rw [e1]
  byValue := fun k v h => by
    rcases keyIs_shape h with ⟨i, t, rfl, rfl⟩ | ⟨x, t, rfl, rfl⟩ <;> rfl
  pyHash := fun hv h => by
    rcases keyIs_shape hv with ⟨i, t, rfl, rfl⟩ | ⟨x, t, rfl, rfl⟩
    · exact wpAny_pyHash_int h
    · exact wpAny_pyHash_str h
  eqBool := fun hu hv h => by
    rcases keyIs_shape hu with ⟨i, t, rfl, rfl⟩ | ⟨x, t, rfl, rfl⟩
    · rcases keyIs_shape hv with ⟨j, u, rfl, rfl⟩ | ⟨y, u, rfl, rfl⟩
      · rw [key_ll] at h; exact wpAny_eqBool_int h
      · rw [key_lr] at h; exact SeqAt.EqAt.int_str i t y u _ _ _ _ h
    · rcases keyIs_shape hv with ⟨j, u, rfl, rfl⟩ | ⟨y, u, rfl, rfl⟩
      · rw [key_rl] at h; exact SeqAt.EqAt.str_int x t j u _ _ _ _ h
      · rw [key_rr] at h; exact wpAny_eqBool_str h
  «strs» := fun k x t v h => by
    rcases keyIs_shape h with ⟨i, u, rfl, e⟩ | ⟨y, u, rfl, e⟩
    · exact nomatch e
    · injection e with e1 _
      subst e1
      cases v <;> rfl
theorem mixKind_int (prog : Program) (w : World) (i : Int) (t : Tok) : (mixKind prog w).is (.inl i) (.int i t) = true := keyIs_int i t
theorem mixKind_str (prog : Program) (w : World) (x : Str) (t : Tok) : (mixKind prog w).is (.inr x) (.str x t) = true := keyIs_str x t
end L2
namespace L2
open PySem PySem.Spec PyProof.Rows
inductive V where
  | non | bl (b : Bool) | int (i : Int) | str (x : Str) | byt (b : Array UInt8) | flt (b : UInt64) | ref (a : Addr) | ty (n : String)
  deriving DecidableEq
def RelV : V → Value → Prop
  | .non, u => u = Value.none
  | .bl b, u => u = Value.bool b
  | .int i, u => ∃ t, u = Value.int i t
  | .str x, u => ∃ t, u = Value.str x t
  | .byt b, u => ∃ t, u = Value.bytes b t
  | .flt b, u => ∃ t, u = Value.float b t
  | .ref a, u => u = Value.ref a
  | .ty n, u => u = Value.type n
abbrev Vals : List V → List Value → Prop := Paired RelV
theorem Vals.length {xs : List V} {us : List Value} (r : Vals xs us) : xs.length = us.length := Paired.length r
theorem Vals.get : ∀ {xs : List V} {us : List Value} {i : Nat} {x : V}, Vals xs us → xs[i]? = some x → ∃ u, us[i]? = some u ∧ RelV x u
  | _, _, _, _, .nil, e => by simp at e
  | _, _, 0, _, .cons r _, e => by simp at e; subst e; exact ⟨_, rfl, r⟩
  | _, _, i + 1, x, .cons _ t, e => by
    obtain ⟨u, h1, h2⟩ := Vals.get (i := i) (x := x) t (by simpa using e)
    exact ⟨u, by simpa using h1, h2⟩
theorem Vals.append : ∀ {xs ys : List V} {us ws : List Value}, Vals xs us → Vals ys ws → Vals (xs ++ ys) (us ++ ws)
  | _, _, _, _, .nil, s => s
  | _, _, _, _, .cons r t, s => .cons r (Vals.append t s)
theorem Vals.take : ∀ {xs : List V} {us : List Value} (n : Nat), Vals xs us → Vals (xs.take n) (us.take n)
  | _, _, 0, _ => .nil
  | _, _, _ + 1, .nil => .nil
  | _, _, n + 1, .cons r t => .cons r (Vals.take n t)
theorem Vals.drop : ∀ {xs : List V} {us : List Value} (n : Nat), Vals xs us → Vals (xs.drop n) (us.drop n)
  | _, _, 0, r => r
  | _, _, _ + 1, .nil => .nil
  | _, _, n + 1, .cons _ t => Vals.drop n t
def RelO : Option V → Option Value → Prop
  | some v, some u => RelV v u
  | none, none => True
  | _, _ => False
def KV {κ : Type} : List (κ × V) → List (κ × Value) → Prop := Paired fun (p : κ × V) (q : κ × Value) => p.1 = q.1 ∧ RelV p.2 q.2
def kV : Key → V
  | .inl i => .int i
  | .inr x => .str x
inductive HO where
  /-- a list -/
  | lst (xs : List V)
  /-- a tuple (never changes) -/
  | tup (xs : List V)
  /-- a dict whose keys are ints and texts; one whose keys are tuples of ints and texts (the empty one is both) -/
  | dK (kvs : List (Key × V)) | dT (kvs : List (List Key × V))
  /-- a set of ints: its members, its size -/
  | set (S : Int → Bool) (n : Nat)
  /-- an instance of the class at C, its dict at dx, its attributes -/
  | ins (C dx : Addr) (fs : List (Str × V))
  /-- the dict of the instance at x -/
  | own (x : Addr)
  /-- the dict of an exception -/
  | xd (fs : List (Str × V))
  /-- a bound method, f of x -/
  | met (f x : Addr)
  /-- a range object lo, lo + 1, .. below hi -/
  | rng (lo hi : Int)
  /-- a thing that is known to the object (the script; a dict while a loop walks it): read, never written while it is so -/
  | frz (o : Obj) (u : HO)
  /-- a code object's table -/
  | tbl (ps : Array Value)
  /-- any other thing, by what is true of its one object (a def of one's own: SetO a S n := HO.ext fun h => ..) -/
  | ext (φ : Heap → Prop)
abbrev Hp := Addr → Option HO
def upd (H : Hp) (a : Addr) (o : HO) : Hp := fun b => if b = a then some o else H b
theorem upd_same {H : Hp} {a : Addr} {o : HO} : upd H a o a = some o := by unfold upd; rw [if_pos rfl]
theorem upd_ne {H : Hp} {a b : Addr} {o : HO} (h : b ≠ a) : upd H a o b = H b := by unfold upd; rw [if_neg h]
theorem upd_upd {H : Hp} {a : Addr} {o u : HO} : upd (upd H a o) a u = upd H a u := by
  funext b; unfold upd; split <;> rfl
theorem ne_of {H : Hp} {a b : Addr} {o u : HO} (h : H a = some o) (h' : H b = some u) (d : o ≠ u) : a ≠ b := by
  intro e; subst e; rw [h] at h'; exact d (Option.some.inj h')
theorem ne_of_none {H : Hp} {a b : Addr} {o : HO} (h : H a = some o) (h' : H b = none) : a ≠ b := by
  intro e; subst e; rw [h] at h'; cases h'
section
variable (P : Program) (w : World)
def ObjOk (H : Hp) (h : Heap) (a : Addr) : HO → Prop
  | .lst xs => xs.length ≤ sizeLine ∧ ∃ (its : List Value) (n : Nat), Vals xs its ∧ h.get? a = some { cls := .type "list", data := .seq its.toArray n }
  | .tup xs => xs.length ≤ sizeLine ∧ ∃ its : List Value, Vals xs its ∧ IsTup h a its.toArray
  | .dK kvs => kvs.length ≤ sizeLine ∧ (a == sysModules) = false ∧ ∃ vs, KV kvs vs ∧ h.DictOf (mixKind P w) a vs
  | .dT kvs => kvs.length ≤ sizeLine ∧ (a == sysModules) = false ∧ ∃ xs : List (List Key × Addr × Value),
      Paired (fun (p : List Key × V) (q : List Key × Addr × Value) => p.1 = q.1 ∧ H q.2.1 = some (.tup (p.1.map kV)) ∧ RelV p.2 q.2.2) kvs xs ∧
      ∃ o es ep, h.get? a = some o ∧ o.ExactDict ∧ o.data = .dict es ep ∧ es.toList = xs.map (entryOfKey (tupleKind (mixKind P w))) ∧ (xs.map (·.1)).Nodup
  | .set S n => h.SetOf (intKind P w) a S n
  | .ins C dx fs => H dx = some (.own a) ∧ fs.length ≤ 1000 ∧ dx ≠ a ∧ h.get? a = some (PySem.W.instObj C dx) ∧
      ∃ mA, h.Ns1 dx mA ∧ (∀ f, RelO (fs.lookup f) (mA f)) ∧ PySem.Within mA (fs.map (·.1))
  | .own _ => ∃ o, h.get? a = some o
  | .xd fs => ∃ mA, h.Ns1 a mA ∧ ∀ f, RelO (fs.lookup f) (mA f)
  | .rng lo hi => ∃ t u v, h.get? a = some { cls := .type "range", data := .fields #[.int lo t, .int hi u, .int 1 v] }
  | .frz o u => h.get? a = some o ∧ ObjOk H h a u
  | .tbl ps => h.get? a = some { cls := .none, data := .fields ps }
  | .met f x => h.get? a = some (PySem.W.methodObj (.ref f) (.ref x))
  | .ext φ => φ h ∧ (∃ o, h.get? a = some o) ∧ ∀ h1 h2 : Heap, φ h1 → (∀ o, h1.get? a = some o → h2.get? a = some o) → φ h2
def HOk (H : Hp) (h : Heap) : Prop := ∀ a o, H a = some o → ObjOk P w H h a o
end
section
variable {P : Program} {w : World} {H H' : Hp} {h h' : Heap} {a : Addr} {o : HO}
theorem ObjOk.lt (x : ObjOk P w H h a o) : a < h.objs.size := by
  cases o with
  | lst xs => obtain ⟨_, _, _, _, e⟩ := x; exact Heap.lt_size e
  | tup xs => obtain ⟨_, _, _, p⟩ := x; exact p.lt
  | dK kvs => obtain ⟨_, _, _, _, o, _, _, e, _⟩ := x; exact Heap.lt_size e
  | dT kvs => obtain ⟨_, _, _, _, o, _, _, e, _⟩ := x; exact Heap.lt_size e
  | set S n => obtain ⟨o, _, _, _, e, _⟩ := x; exact Heap.lt_size e
  | ins C dx fs => obtain ⟨_, _, _, e, _⟩ := x; exact Heap.lt_size e
  | own y => obtain ⟨_, e⟩ := x; exact Heap.lt_size e
  | xd fs => obtain ⟨_, ⟨_, _, _, e, _⟩, _⟩ := x; exact Heap.lt_size e
  | rng lo hi => obtain ⟨_, _, _, e⟩ := x; exact Heap.lt_size e
  | frz ob u => obtain ⟨e, _⟩ := x; exact Heap.lt_size e
  | tbl ps => exact Heap.lt_size (show h.get? a = some _ from x)
  | met f y => exact Heap.lt_size (show h.get? a = some _ from x)
  | ext φ => obtain ⟨_, ⟨_, e⟩, _⟩ := x; exact Heap.lt_size e
theorem Paired.mapP {α β : Type} {F G : α → β → Prop} : ∀ {l₁ : List α} {l₂ : List β}, Paired F l₁ l₂ → (∀ a b, F a b → G a b) → Paired G l₁ l₂
  | _, _, .nil, _ => .nil
  | _, _, .cons r t, f => .cons (f _ _ r) (Paired.mapP t f)
theorem ObjOk.stay (x : ObjOk P w H h a o) (k : ∀ b u, (b = a ∨ H b = some (.own a)) → h.get? b = some u → h'.get? b = some u)
    (ho : ∀ b, H b = some (.own a) → H' b = some (.own a)) (ht : ∀ b xs, H b = some (.tup xs) → H' b = some (.tup xs)) : ObjOk P w H' h' a o := by
  induction o with
  | lst xs => obtain ⟨z, its, n, r, e⟩ := x; exact ⟨z, its, n, r, k _ _ (.inl rfl) e⟩
  | tup xs => obtain ⟨z, its, r, ob, e, c⟩ := x; exact ⟨z, its, r, ob, k _ _ (.inl rfl) e, c⟩
  | dK kvs => obtain ⟨z, y, vs, r, ob, es, ep, e, c⟩ := x; exact ⟨z, y, vs, r, ob, es, ep, k _ _ (.inl rfl) e, c⟩
  | dT kvs =>
    obtain ⟨z, y, xs, r, ob, es, ep, e, c⟩ := x
    exact ⟨z, y, xs, Paired.mapP r fun p q z => ⟨z.1, ht _ _ z.2.1, z.2.2⟩, ob, es, ep, k _ _ (.inl rfl) e, c⟩
  | set S n => obtain ⟨ob, es, ep, t, e, c⟩ := x; exact ⟨ob, es, ep, t, k _ _ (.inl rfl) e, c⟩
  | ins C dx fs =>
    obtain ⟨d, z, ne, e, mA, ⟨od, es, ep, e2, c⟩, r⟩ := x
    exact ⟨ho _ d, z, ne, k _ _ (.inl rfl) e, mA, ⟨od, es, ep, k _ _ (.inr d) e2, c⟩, r⟩
  | own y => obtain ⟨ob, e⟩ := x; exact ⟨ob, k _ _ (.inl rfl) e⟩
  | xd fs => obtain ⟨mA, ⟨od, es, ep, e, c⟩, r⟩ := x; exact ⟨mA, ⟨od, es, ep, k _ _ (.inl rfl) e, c⟩, r⟩
  | rng lo hi => obtain ⟨t, u, v, e⟩ := x; exact ⟨t, u, v, k _ _ (.inl rfl) e⟩
  | frz ob u ih => obtain ⟨e, q⟩ := x; exact ⟨k _ _ (.inl rfl) e, ih q⟩
  | tbl ps =>
    have e : h.get? a = some { cls := .none, data := .fields ps } := x
    show h'.get? a = some { cls := .none, data := .fields ps }
    exact k a _ (.inl rfl) e
  | met f y =>
    have e : h.get? a = some (PySem.W.methodObj (.ref f) (.ref y)) := x
    show h'.get? a = some (PySem.W.methodObj (.ref f) (.ref y))
    exact k a _ (.inl rfl) e
  | ext φ => obtain ⟨p, ⟨o, e⟩, st⟩ := x; exact ⟨st _ _ p fun o q => k _ _ (.inl rfl) q, ⟨o, k _ _ (.inl rfl) e⟩, st⟩
theorem HOk.lt (x : HOk P w H h) (e : H a = some o) : a < h.objs.size := (x a o e).lt
theorem HOk.fresh (x : HOk P w H h) (e : h.objs.size ≤ a) : H a = none := by
  cases q : H a with
  | none => rfl
  | some u => exact absurd (Nat.lt_of_lt_of_le (x.lt q) e) (Nat.lt_irrefl _)
theorem HOk.kept (x : HOk P w H h) (k : ∀ b u, h.get? b = some u → h'.get? b = some u) : HOk P w H h' := fun a o e =>
  (x a o e).stay (fun b u _ q => k b u q) (fun _ q => q) fun _ _ q => q
theorem HOk.laid (x : HOk P w H h) (k : ∀ b u, h.get? b = some u → h'.get? b = some u) (hp : h.objs.size ≤ a) (new : ObjOk P w (upd H a o) h' a o) : HOk P w (upd H a o) h' := fun b u e => by
  have hn := x.fresh hp
  by_cases hb : b = a
  · subst hb; rw [upd_same] at e; cases e; exact new
  · rw [upd_ne hb] at e
    exact (x b u e).stay (fun c v _ q => k c v q) (fun c q => by rw [upd_ne (ne_of_none q hn)]; exact q) fun c xs q => by rw [upd_ne (ne_of_none q hn)]; exact q
end
def Rd (H : Hp) (a : Addr) (u : HO) : Prop := H a = some u ∨ ∃ o, H a = some (.frz o u)
theorem Rd.ok {P : Program} {w : World} {H : Hp} {h : Heap} {a : Addr} {u : HO} (r : Rd H a u) (x : HOk P w H h) : ObjOk P w H h a u := by
  rcases r with r | ⟨o, r⟩
  · exact x a u r
  · obtain ⟨_, q⟩ := x a _ r
    exact q
def Mut : Option HO → Prop
  | some (.lst _) => True
  | some (.dK _) => True
  | some (.dT _) => True
  | some (.set _ _) => True
  | some (.ins _ _ _) => True
  | some (.ext _) => True
  | _ => False
section
variable {P : Program} {w : World} {H : Hp} {h h' : Heap} {x e : Addr} {o' : HO}
theorem HOk.write (ok : HOk P w H h) (mu : Mut (H x)) (he : e = x ∨ H e = some (.own x)) (k : ∀ b u, b ≠ e → h.get? b = some u → h'.get? b = some u) (heo : ∃ u, h'.get? e = some u)
    (new : ObjOk P w (upd H x o') h' x o') : HOk P w (upd H x o') h' := fun b u q => by
  have nown : ∀ c y, H c = some (.own y) → c ≠ x := fun c y r z => by subst z; rw [r] at mu; exact mu
  have ntup : ∀ c xs, H c = some (.tup xs) → c ≠ x := fun c xs r z => by subst z; rw [r] at mu; exact mu
  by_cases hb : b = x
  · subst hb; rw [upd_same] at q; cases q; exact new
  · rw [upd_ne hb] at q
    by_cases hbe : b = e
    · have q' : H b = some (.own x) := by
        rcases he with z | z
        · exact absurd (hbe.trans z) hb
        · rw [hbe]; exact z
      rw [q] at q'; cases q'
      obtain ⟨v, hv⟩ := heo
      exact ⟨v, by rw [hbe]; exact hv⟩
    · refine (ok b u q).stay (fun c v hc r => k c v ?_ r) (fun c r => by rw [upd_ne (nown c b r)]; exact r) fun c xs r => by rw [upd_ne (ntup c xs r)]; exact r
      rcases hc with rfl | hc
      · exact hbe
      · rintro rfl
        rcases he with z | z
        · exact nown c b hc z
        · rw [hc] at z; cases z; exact hb rfl
end
structure Un (fs ex : List Addr) (H H' : Hp) (h h' : Heap) : Prop where
  keep : ∀ b o, h.get? b = some o → H b = none → b ∉ fs → b ∉ ex → h'.get? b = some o
  slot : ∀ b o, h.get? b = some o → H b = none → b ∈ fs → b ∉ ex → ∃ sl, h'.get? b = some { o with slots := sl }
  free : ∀ b o, h.get? b = some o → H b = none → b ∉ ex → H' b = none
  there : ∀ b o, h.get? b = some o → b ∉ ex → ∃ o', h'.get? b = some o'
  tups : ∀ b xs, H b = some (.tup xs) → H' b = some (.tup xs)
  frzs : ∀ b o u, H b = some (.frz o u) → H' b = some (.frz o u)
  tbls : ∀ b ps, H b = some (.tbl ps) → ∃ more, H' b = some (.tbl (ps ++ more))
section
variable {fs fs' ex ex' : List Addr} {H H1 H2 : Hp} {h h1 h2 h' : Heap} {a x e : Addr} {o : HO}
theorem Un.any (u : Un fs ex H H1 h h1) {b : Addr} {ob : Obj} (q : h.get? b = some ob) (n : H b = none) (hx : b ∉ ex) : ∃ sl, h1.get? b = some { ob with slots := sl } := by
  by_cases hb : b ∈ fs
  · exact u.slot b ob q n hb hx
  · exact ⟨ob.slots, u.keep b ob q n hb hx⟩
theorem Un.kept (k : ∀ b u, h.get? b = some u → h'.get? b = some u) : Un fs ex H H h h' :=
  ⟨fun b ob q _ _ _ => k b ob q, fun b ob q _ _ _ => ⟨ob.slots, k b ob q⟩, fun _ _ _ n _ => n, fun b ob q _ => ⟨ob, k b ob q⟩, fun _ _ q => q, fun _ _ _ q => q, fun _ ps q => ⟨#[], by rw [q]; simp⟩⟩
theorem Un.refl : Un fs ex H H h h := Un.kept fun _ _ q => q
theorem Un.laid (k : ∀ b u, h.get? b = some u → h'.get? b = some u) (hp : h.objs.size ≤ a) (hn : H a = none) : Un fs ex H (upd H a o) h h' where
  keep := fun b u q _ _ _ => k b u q
  slot := fun b u q _ _ _ => ⟨u.slots, k b u q⟩
  free := fun b u q n _ => by rw [upd_ne (Nat.ne_of_lt (Nat.lt_of_lt_of_le (Heap.lt_size q) hp))]; exact n
  there := fun b u q _ => ⟨u, k b u q⟩
  tups := fun b xs q => by rw [upd_ne (ne_of_none q hn)]; exact q
  frzs := fun b u xs q => by rw [upd_ne (ne_of_none q hn)]; exact q
  tbls := fun b ps q => ⟨#[], by rw [upd_ne (ne_of_none q hn), q]; simp⟩
theorem Un.write (mu : Mut (H x)) (he : e = x ∨ H e = some (.own x)) (k : ∀ b u, b ≠ e → h.get? b = some u → h'.get? b = some u) (heo : ∃ u, h'.get? e = some u) : Un fs ex H (upd H x o) h h' := by
  have hx : ∀ b, H b = none → b ≠ x := fun b n z => by subst z; rw [n] at mu; exact mu
  have hb : ∀ b, H b = none → b ≠ e := fun b n z => by
    subst z
    rcases he with r | r
    · exact hx b n r
    · rw [n] at r; cases r
  have hm : ∀ b u, H b = some u → ¬ Mut (some u) → b ≠ x := fun b u q nm z => by subst z; rw [q] at mu; exact nm mu
  refine ⟨fun b u q n _ _ => k b u (hb b n) q, fun b u q n _ _ => ⟨u.slots, k b u (hb b n) q⟩, fun b u q n _ => by rw [upd_ne (hx b n)]; exact n, fun b u q _ => ?_,
    fun b xs q => by rw [upd_ne (hm b _ q fun z => z)]; exact q, fun b u xs q => by rw [upd_ne (hm b _ q fun z => z)]; exact q, fun b ps q => ⟨#[], by rw [upd_ne (hm b _ q fun z => z), q]; simp⟩⟩
  by_cases hbe : b = e
  · subst hbe; exact heo
  · exact ⟨u, k b u hbe q⟩
end
def trk (h : Heap) (H : Hp) : List Addr := (List.range h.objs.size).filter fun a => (H a).isSome
def hidT (h : Heap) (H : Hp) : Heap := PySem.W.hideAll h (trk h H)
theorem hidT_size (h : Heap) (H : Hp) : (hidT h H).objs.size = h.objs.size := PySem.W.hideAll_size _ _
theorem hidT_get {h : Heap} {H : Hp} {b : Addr} {o : Obj} (e : h.get? b = some o) (n : H b = none) : (hidT h H).get? b = some o :=
  PySem.W.hideAll_get _ e fun hm => by
    have q : (H b).isSome = true := (List.mem_filter.mp hm).2
    rw [n] at q; simp at q
theorem of_hidT {h : Heap} {H : Hp} {b : Addr} {o : Obj} (e : (hidT h H).get? b = some o) : h.get? b = some o ∧ H b = none := by
  have e' : h.get? b = some o := PySem.W.of_hideAll (trk h H) e
  refine ⟨e', ?_⟩
  cases q : H b with
  | none => rfl
  | some x =>
    have hm : b ∈ trk h H := List.mem_filter.mpr ⟨List.mem_range.mpr (Heap.lt_size e'), by simp [q]⟩
    have z : (hidT h H).get? b = none := PySem.W.hideAll_none (trk h H) hm
    rw [z] at e; cases e
end L2
namespace L2
open PySem PySem.Spec PyProof.Rows
structure Mod (K : PySem.W.Frag) (mg : Str → Option Value) (base : Heap) : Prop where
  kin : K.In base
  glob : base.Ns mainGlobals mg
  blt : ∃ mb, base.Ns builtinsNs mb ∧ ∀ x : Str, x ≠ "__name__" → mb x = bootBuiltins x
  nolimit : base.NoLimit
  digits : base.NoDigits
  seer : base.NoSeer
  bmain : ∃ bm ob, mg "__builtins__" = some (.ref bm) ∧ bm ≠ builtinsNs ∧ base.get? bm = some ob ∧ ob.cls = .type "module" ∧ ob.dict = some builtinsNs ∧ ob.data = .plain
structure Cx where
  prog : Program
  w : World
  K : PySem.W.Frag
  mg : Str → Option Value
  base : Heap
  A : Around
  N : List Str
  s_0 : Shared
  H_0 : Hp
  env : Env
  outer : List Env
  stack : List Env
  ex : List Addr
  fn : Str → Bool
  calm : Bool
  pn : List (Addr × Obj)
  xe : Value → Shared → Prop
def frs (l : List Env) : List Addr := l.filterMap (·.frame)
abbrev Cx.fs (X : Cx) : List Addr := frs X.outer
def Vis (sc : Scope) (x : Str) : Prop := sc.names.lookup x = some .local ∨ sc.names.lookup x = some .cell ∨ sc.names.lookup x = some .free
def Loc (sc : Scope) (x : Str) : Prop := sc.names.lookup x = some .local ∨ sc.names.lookup x = some .cell
def Look (env : Env) (h : Heap) (m : Str → Option Value) (x : Str) (u : Value) : Prop :=
  (env.kindOf x = some .local ∧ m x = some u) ∨ ((env.kindOf x = some .cell ∨ env.kindOf x = some .free) ∧ ∃ c, env.cells.lookup x = some c ∧ h.IsCell c (some u))
structure Cx.Ok (X : Cx) : Prop where
  mod : Mod X.K X.mg X.base
  kind : X.env.scope.kind = .function
  glob : X.env.globals = mainGlobals
  blt : X.env.builtins = builtinsNs
  above : X.s_0.heap.objs.size ≤ X.env.locals
  inj : ∀ x y c, X.env.cells.lookup x = some c → X.env.cells.lookup y = some c → x = y
  has : ∀ x, (X.env.kindOf x = some .cell ∨ X.env.kindOf x = some .free) → ∃ c, X.env.cells.lookup x = some c
  cab : ∀ x c, X.fn x = true → X.env.cells.lookup x = some c → X.s_0.heap.objs.size ≤ c
  hd : X.calm = true → X.A.handled = none
  frames : X.A.frames = some X.stack
  stk : X.stack = X.outer ∨ (X.stack = X.env :: X.outer ∧ X.env.frame = some X.env.locals)
  exf : ∀ b ∈ X.ex, b ≠ X.env.locals ∧ ∀ x c, X.env.cells.lookup x = some c → c ≠ b
  bs : ∀ b o, X.base.get? b = some o → X.s_0.heap.get? b = some o ∧ X.H_0 b = none
  bsz : X.base.objs.size ≤ X.s_0.heap.objs.size
  noex : ∀ b o, X.base.get? b = some o → b ∉ X.ex
  exfs : ∀ b ∈ X.ex, b ∉ X.fs
  funs : X.s_0.heap.FunFrames X.base X.outer
  frf : ∀ b ∈ X.fs, X.H_0 b = none
structure Inv (X : Cx) (pins : List (Addr × Obj)) (σ : List (Option V)) (H : Hp) (s : Shared) : Prop where
  ok : X.Ok
  os : s.os = X.s_0.os
  bare : AllBare s.gens
  base : Un X.fs X.ex X.H_0 H X.s_0.heap s.heap
  loc : ∃ m, s.heap.Ns X.env.locals m ∧ ∀ (i : Nat) (x : Str) (v : V), X.N[i]? = some x → σ[i]? = some (some v) → Vis X.env.scope x → ∃ u, RelV v u ∧ Look X.env s.heap m x u
  cell : ∀ x c, X.env.cells.lookup x = some c → ∃ v, s.heap.IsCell c v
  free : H X.env.locals = none
  freeC : ∀ x c, X.env.cells.lookup x = some c → H c = none
  pin : ∀ p ∈ X.pn ++ pins, s.heap.get? p.1 = some p.2 ∧ H p.1 = none ∧ p.1 ≠ X.env.locals ∧ p.1 ∉ X.fs ∧ ∀ v, p.2.data ≠ .cell v
  hok : HOk X.prog X.w H s.heap
  len : σ.length = X.N.length
section
variable {X : Cx} {pins : List (Addr × Obj)} {σ : List (Option V)} {H H' : Hp} {s : Shared} {h' : Heap}
theorem Cx.Ok.nofr (ok : X.Ok) {b : Addr} {o : Obj} (e : X.base.get? b = some o) : b ∉ X.fs := fun hb => by
  have := (ok.funs.mem hb).1
  rw [e] at this; cases this
theorem Inv.bs (I : Inv X pins σ H s) : ∀ b o, X.base.get? b = some o → s.heap.get? b = some o ∧ H b = none := fun b o e =>
  ⟨I.base.keep b o (I.ok.bs b o e).1 (I.ok.bs b o e).2 (I.ok.nofr e) (I.ok.noex b o e), I.base.free b o (I.ok.bs b o e).1 (I.ok.bs b o e).2 (I.ok.noex b o e)⟩
theorem Inv.bk (I : Inv X pins σ H s) : ∀ b o, X.base.get? b = some o → s.heap.get? b = some o := fun b o e => (I.bs b o e).1
theorem Inv.mod (I : Inv X pins σ H s) : Mod X.K X.mg X.base := I.ok.mod
theorem Inv.kIn (I : Inv X pins σ H s) : X.K.In s.heap := I.ok.mod.kin.keeps I.bk
theorem Inv.nolimit (I : Inv X pins σ H s) : s.heap.NoLimit := I.ok.mod.nolimit.keeps I.bk
theorem Inv.fr (I : Inv X pins σ H s) : ∃ m, Fr X.base X.env.locals s.heap m :=
  let ⟨m, hn, _⟩ := I.loc
  ⟨m, hn, I.bk, Nat.le_trans I.ok.bsz I.ok.above⟩
theorem Inv.lt (I : Inv X pins σ H s) : X.env.locals < s.heap.objs.size := let ⟨_, hn, _⟩ := I.loc; hn.lt
theorem Inv.sz (I : Inv X pins σ H s) : X.s_0.heap.objs.size ≤ s.heap.objs.size := Nat.le_trans I.ok.above (Nat.le_of_lt I.lt)
theorem Inv.nofs (I : Inv X pins σ H s) {a : Addr} (h : s.heap.objs.size ≤ a) : a ∉ X.fs := fun hb => by
  obtain ⟨_, o, ho, _⟩ := I.ok.funs.mem hb
  exact absurd (Nat.lt_of_lt_of_le (Heap.lt_size ho) (Nat.le_trans I.sz h)) (Nat.lt_irrefl _)
theorem Inv.cne (I : Inv X pins σ H s) : ∀ x c, X.env.cells.lookup x = some c → c ≠ X.env.locals := fun x c e z => by
  obtain ⟨v, o, ho, hd⟩ := I.cell x c e
  obtain ⟨m, ⟨o', es, ep, ho', hd', _⟩, _⟩ := I.loc
  rw [z, ho'] at ho; cases ho; rw [hd'] at hd; cases hd
theorem Inv.funs (I : Inv X pins σ H s) : s.heap.FunFrames X.base X.outer := by
  have all : ∀ (l : List Env), (∀ b ∈ frs l, b ∈ X.fs) → X.s_0.heap.FunFrames X.base l → s.heap.FunFrames X.base l := by
    intro l
    induction l with
    | nil => intro _ _; trivial
    | cons env r ih =>
      intro hs hl
      obtain ⟨hk, ⟨L, o, hf, hn, ho, hd⟩, hr⟩ := hl
      have hL : L ∈ X.fs := hs L (by unfold frs; rw [List.filterMap_cons, hf]; exact List.mem_cons_self)
      obtain ⟨sl, e⟩ := I.base.slot L o ho (I.ok.frf L hL) hL fun z => I.ok.exfs L z hL
      exact ⟨hk, ⟨L, _, hf, hn, e, hd⟩, ih (fun b hb => hs b (by unfold frs; rw [List.filterMap_cons, hf]; exact List.mem_cons_of_mem _ hb)) hr⟩
  exact all X.outer (fun _ hb => hb) I.ok.funs
theorem Inv.stack (I : Inv X pins σ H s) : s.heap.FunFrames X.base X.stack := by
  rcases I.ok.stk with e | ⟨e, hf⟩
  · rw [e]; exact I.funs
  · rw [e]
    obtain ⟨m, hn, _⟩ := I.loc
    refine .cons (by rw [I.ok.kind]; decide) hf hn ?_ I.funs
    exact Heap.get?_none_of_le (Nat.le_trans I.ok.bsz I.ok.above)
theorem Inv.stkSub (I : Inv X pins σ H s) : ∀ b ∈ frs X.stack, b ∈ X.env.locals :: X.fs := fun b hb => by
  rcases I.ok.stk with e | ⟨e, hf⟩
  · rw [e] at hb; exact List.mem_cons_of_mem _ hb
  · rw [e] at hb
    unfold frs at hb
    rw [List.filterMap_cons, hf] at hb
    exact hb
theorem Inv.stkFree (I : Inv X pins σ H s) : ∀ b ∈ frs X.stack, H b = none := fun b hb => by
  rcases List.mem_cons.mp (I.stkSub b hb) with e | hb
  · rw [e]; exact I.free
  · obtain ⟨_, o, ho, _⟩ := I.ok.funs.mem hb
    exact I.base.free b o ho (I.ok.frf b hb) fun z => I.ok.exfs b z hb
theorem Inv.step {g' : Array GenState} {t' : Nat} {d' : Drawn} {ch : List Addr} (I : Inv X pins σ H s)
    (hch : ∀ b ∈ ch, (b ∈ X.ex ∨ X.s_0.heap.objs.size ≤ b) ∧ b ≠ X.env.locals ∧ (∀ x c, X.env.cells.lookup x = some c → c ≠ b) ∧ ∀ p ∈ X.pn ++ pins, p.1 ≠ b)
    (keep : ∀ b o, b ≠ X.env.locals → b ∉ X.fs → b ∉ ch → s.heap.get? b = some o → H b = none → h'.get? b = some o)
    (slot : ∀ b o, b ≠ X.env.locals → b ∈ X.fs → b ∉ ch → s.heap.get? b = some o → H b = none → ∃ sl, h'.get? b = some { o with slots := sl }) (free : ∀ b o, b ∉ ch → s.heap.get? b = some o → H b = none → H' b = none)
    (there : ∀ b o, b ∉ ch → s.heap.get? b = some o → ∃ o', h'.get? b = some o')
    (tups : ∀ b xs, H b = some (.tup xs) → H' b = some (.tup xs)) (frzs : ∀ b o u, H b = some (.frz o u) → H' b = some (.frz o u)) (tbls : ∀ b ps, H b = some (.tbl ps) → ∃ more, H' b = some (.tbl (ps ++ more)))
    (ns : ∀ m, s.heap.Ns X.env.locals m → h'.Ns X.env.locals m) (hok : HOk X.prog X.w H' h') (hg : AllBare g') :
    Inv X pins σ H' { s with heap := h', gens := g', drawn := d', toks := t' } := by
  have neL : ∀ b o, X.s_0.heap.get? b = some o → b ≠ X.env.locals := fun b o e => Nat.ne_of_lt (Nat.lt_of_lt_of_le (Heap.lt_size e) I.ok.above)
  have neC : ∀ b o, X.s_0.heap.get? b = some o → b ∉ X.ex → b ∉ ch := fun b o e hx hb => by
    rcases (hch b hb).1 with z | z
    · exact hx z
    · exact absurd (Nat.lt_of_lt_of_le (Heap.lt_size e) z) (Nat.lt_irrefl _)
  have cellK : ∀ x c, X.env.cells.lookup x = some c → ∀ v, s.heap.IsCell c v → h'.IsCell c v := fun x c e v ⟨o, ho, hd⟩ => by
    have nch : c ∉ ch := fun z => (hch c z).2.2.1 x c e rfl
    by_cases hc : c ∈ X.fs
    · obtain ⟨sl, q⟩ := slot c o (I.cne x c e) hc nch ho (I.freeC x c e)
      exact ⟨_, q, hd⟩
    · exact ⟨o, keep c o (I.cne x c e) hc nch ho (I.freeC x c e), hd⟩
  refine ⟨I.ok, I.os, hg, ⟨fun b o e n hb hx => ?_, fun b o e n hb hx => ?_, fun b o e n hx => ?_, fun b o e hx => ?_, fun b xs e => tups b xs (I.base.tups b xs e), fun b o xs e => frzs b o xs (I.base.frzs b o xs e), fun b ps e => ?_⟩, ?_, fun x c e => ?_, ?_, fun x c e => ?_, fun p hp => ?_, hok, I.len⟩
  · exact keep b o (neL b o e) hb (neC b o e hx) (I.base.keep b o e n hb hx) (I.base.free b o e n hx)
  · obtain ⟨sl, e1⟩ := I.base.slot b o e n hb hx
    obtain ⟨sl', e2⟩ := slot b _ (neL b o e) hb (neC b o e hx) e1 (I.base.free b o e n hx)
    exact ⟨sl', e2⟩
  · obtain ⟨o', e1⟩ := I.base.there b o e hx
    exact free b o' (neC b o e hx) e1 (I.base.free b o e n hx)
  · obtain ⟨o', e1⟩ := I.base.there b o e hx
    exact there b o' (neC b o e hx) e1
  · obtain ⟨m1, e1⟩ := I.base.tbls b ps e
    obtain ⟨m2, e2⟩ := tbls b _ e1
    exact ⟨m1 ++ m2, by rw [e2, Array.append_assoc]⟩
  · obtain ⟨m, hn, hl⟩ := I.loc
    refine ⟨m, ns m hn, fun i x v e1 e2 e3 => ?_⟩
    obtain ⟨u, r, l⟩ := hl i x v e1 e2 e3
    refine ⟨u, r, ?_⟩
    rcases l with l | ⟨k, c, e, z⟩
    · exact .inl l
    · exact .inr ⟨k, c, e, cellK x c e _ z⟩
  · obtain ⟨v, z⟩ := I.cell x c e
    exact ⟨v, cellK x c e v z⟩
  · obtain ⟨m, ⟨o, _, _, ho, _⟩, _⟩ := I.loc
    exact free _ o (fun z => (hch _ z).2.1 rfl) ho I.free
  · obtain ⟨v, o, ho, hd⟩ := I.cell x c e
    exact free c o (fun z => (hch c z).2.2.1 x c e rfl) ho (I.freeC x c e)
  · obtain ⟨e, n, ne, nf, d⟩ := I.pin p hp
    have nch : p.1 ∉ ch := fun z => (hch p.1 z).2.2.2 p hp rfl
    exact ⟨keep p.1 p.2 ne nf nch e n, free p.1 p.2 nch e n, ne, nf, d⟩
theorem Inv.un {t' : Nat} (I : Inv X pins σ H s) (u : Un X.fs [] H H' s.heap h') (hok : HOk X.prog X.w H' h') : Inv X pins σ H' { s with heap := h', toks := t' } := by
  obtain ⟨m, ⟨o, es, ep, ho, r⟩, _⟩ := id I.loc
  obtain ⟨sl, hL⟩ := u.any ho I.free (by simp)
  exact I.step (g' := s.gens) (d' := s.drawn) (ch := []) (fun _ z => nomatch z) (fun b o _ hb _ e n => u.keep b o e n hb (by simp)) (fun b o _ hb _ e n => u.slot b o e n hb (by simp)) (fun b o _ e n => u.free b o e n (by simp)) (fun b o _ e => u.there b o e (by simp)) u.tups u.frzs u.tbls (fun m' hm => by
    obtain ⟨o', es', ep', ho', r'⟩ := hm
    rw [ho] at ho'; cases ho'
    exact ⟨_, es', ep', hL, r'⟩) hok I.bare
theorem Inv.call {g' : Array GenState} {t' : Nat} {d' : Drawn} {ch : List Addr} (I : Inv X pins σ H s) (u : Un (frs X.stack) ch H H' s.heap h') (hok : HOk X.prog X.w H' h') (hg : AllBare g')
    (hch : ∀ b ∈ ch, (b ∈ X.ex ∨ X.s_0.heap.objs.size ≤ b) ∧ b ≠ X.env.locals ∧ (∀ x c, X.env.cells.lookup x = some c → c ≠ b) ∧ ∀ p ∈ X.pn ++ pins, p.1 ≠ b) :
    Inv X pins σ H' { s with heap := h', gens := g', drawn := d', toks := t' } := by
  obtain ⟨m, ⟨o, es, ep, ho, r⟩, _⟩ := id I.loc
  obtain ⟨sl, hL⟩ := u.any ho I.free fun z => (hch _ z).2.1 rfl
  exact I.step (ch := ch) hch (fun b o hL hb hc e n => u.keep b o e n (fun z => (List.mem_cons.mp (I.stkSub b z)).elim hL hb) hc) (fun b o _ _ hc e n => u.any e n hc) (fun b o hc e n => u.free b o e n hc) (fun b o hc e => u.there b o e hc) u.tups u.frzs u.tbls (fun m' hm => by
    obtain ⟨o', es', ep', ho', r'⟩ := hm
    rw [ho] at ho'; cases ho'
    exact ⟨_, es', ep', hL, r'⟩) hok hg
theorem Inv.turned {t' : Nat} {it : Addr} (I : Inv X pins σ H s) (k : ∀ b o, b ≠ it → s.heap.get? b = some o → h'.get? b = some o) (hn : H it = none) (hL : it ≠ X.env.locals)
    (h1 : it ∈ X.ex ∨ X.s_0.heap.objs.size ≤ it) (h2 : ∀ x c, X.env.cells.lookup x = some c → c ≠ it) (h3 : ∀ p ∈ X.pn ++ pins, p.1 ≠ it) : Inv X pins σ H { s with heap := h', toks := t' } := by
  have nit : ∀ b u, H b = some u → b ≠ it := fun b u e z => by rw [z, hn] at e; cases e
  refine I.step (g' := s.gens) (d' := s.drawn) (ch := [it]) (fun b hb => ?_) (fun b o _ _ hc e _ => k b o (fun z => hc (by simp [z])) e) (fun b o _ _ hc e _ => ⟨o.slots, k b o (fun z => hc (by simp [z])) e⟩) (fun _ _ _ _ n => n)
    (fun b o hc e => ⟨o, k b o (fun z => hc (by simp [z])) e⟩) (fun _ _ e => e) (fun _ _ _ e => e) (fun b ps e => ⟨#[], by rw [e]; simp⟩) (fun m hm => ?_) (fun b u e => ?_) I.bare
  · have e : b = it := by simpa using hb
    subst e
    exact ⟨h1, hL, h2, h3⟩
  · obtain ⟨o, es, ep, ho, r⟩ := hm
    exact ⟨o, es, ep, k _ o (Ne.symm hL) ho, r⟩
  · refine (I.hok b u e).stay (fun c v hc q => k c v ?_ q) (fun _ q => q) fun _ _ q => q
    rcases hc with z | z
    · rw [z]; exact nit b u e
    · exact nit c _ z
theorem Inv.tok (I : Inv X pins σ H s) (t : Nat) : Inv X pins σ H { s with toks := t } := I.un (h' := s.heap) (t' := t) Un.refl I.hok
theorem Inv.kept {t' : Nat} (I : Inv X pins σ H s) (k : ∀ b u, s.heap.get? b = some u → h'.get? b = some u) : Inv X pins σ H { s with heap := h', toks := t' } := I.un (Un.kept k) (I.hok.kept k)
theorem Inv.laid {a : Addr} {o : HO} {t' : Nat} (I : Inv X pins σ H s) (k : ∀ b u, s.heap.get? b = some u → h'.get? b = some u) (hp : s.heap.objs.size ≤ a) (new : ObjOk X.prog X.w (upd H a o) h' a o) :
    Inv X pins σ (upd H a o) { s with heap := h', toks := t' } := I.un (Un.laid k hp (I.hok.fresh hp)) (I.hok.laid k hp new)
theorem Inv.write {x e : Addr} {o : HO} {t' : Nat} (I : Inv X pins σ H s) (mu : Mut (H x)) (he : e = x ∨ H e = some (.own x)) (k : ∀ b u, b ≠ e → s.heap.get? b = some u → h'.get? b = some u) (heo : ∃ u, h'.get? e = some u)
    (new : ObjOk X.prog X.w (upd H x o) h' x o) : Inv X pins σ (upd H x o) { s with heap := h', toks := t' } := I.un (Un.write mu he k heo) (I.hok.write mu he k heo new)
theorem Inv.weak {σ' : List (Option V)} (I : Inv X pins σ H s) (hl : σ'.length = σ.length) (w : ∀ (i : Nat) v, σ'[i]? = some (some v) → σ[i]? = some (some v)) : Inv X pins σ' H s :=
  ⟨I.ok, I.os, I.bare, I.base, let ⟨m, hn, hl'⟩ := I.loc; ⟨m, hn, fun i x v e1 e2 e3 => hl' i x v e1 (w i v e2) e3⟩, I.cell, I.free, I.freeC, I.pin, I.hok, hl.trans I.len⟩
theorem Inv.pins_of {pins' : List (Addr × Obj)} (I : Inv X pins σ H s) (h : ∀ p ∈ pins', s.heap.get? p.1 = some p.2 ∧ H p.1 = none ∧ p.1 ≠ X.env.locals ∧ p.1 ∉ X.fs ∧ ∀ v, p.2.data ≠ .cell v) : Inv X pins' σ H s :=
  ⟨I.ok, I.os, I.bare, I.base, I.loc, I.cell, I.free, I.freeC, fun p hp => (List.mem_append.mp hp).elim (fun z => I.pin p (List.mem_append_left _ z)) (h p), I.hok, I.len⟩
theorem nodup_ix {N : List Str} (hN : N.Nodup) {i j : Nat} {x : Str} (a : N[i]? = some x) (b : N[j]? = some x) : i = j := by
  obtain ⟨h1, e1⟩ := List.getElem?_eq_some_iff.mp a
  obtain ⟨h2, e2⟩ := List.getElem?_eq_some_iff.mp b
  exact (List.getElem_inj hN).mp (e1.trans e2.symm)
theorem store_ok2 {M : Model} {A : Around} {E : Value → Shared → Prop} {i : Nat} {x : Str} {v : V} {u : Value} {Q : Unit → Shared → Prop} (I : Inv X pins σ H s) (hN : X.N.Nodup) (hi : X.N[i]? = some x) (hx : Loc X.env.scope x) (r : RelV v u)
    (h : ∀ s', Inv X pins (σ.set i (some v)) H s' → (∃ a, Heap.SameBut a s.heap s'.heap ∧ (a = X.env.locals ∨ X.env.cells.lookup x = some a)) → Q () s') (hf : X.fn x = true ∨ X.env.scope.names.lookup x = some .local := by first | exact .inl rfl | exact .inr rfl | assumption) : wpAny M A (storeName X.env x u) Q E s := by
  obtain ⟨m, hn, hl⟩ := id I.loc
  have hcls : (X.env.scope.kind == .class || (X.env.scope.kind == .module && X.env.locals != X.env.globals)) = false := by rw [I.ok.kind]; rfl
  have hiσ : i < σ.length := by rw [I.len]; exact (List.getElem?_eq_some_iff.mp hi).1
  have cne := I.cne
  have tracked : ∀ {a : Addr} {h' : Heap}, (∃ o, s.heap.get? a = some o ∧ H a = none) → Heap.SameBut a s.heap h' → HOk X.prog X.w H h' := fun {a h'} ha hs b ob e => by
    obtain ⟨_, _, hfree⟩ := ha
    refine (I.hok b ob e).stay (fun c w' hc q => (hs.2 c ?_).trans q) (fun _ q => q) fun _ _ q => q
    rintro rfl
    rcases hc with rfl | hc
    · rw [hfree] at e; cases e
    · rw [hfree] at hc; cases hc
  rcases hx with hk | hk
  · refine wpAny_storeName_local hk hn (fun h' hn' hs => ?_) hcls
    obtain ⟨oL, _, _, hoL, _⟩ := id hn
    refine h _ ⟨I.ok, I.os, I.bare, ⟨fun b o e n hb hx => ?_, fun b o e n hb hx => ?_, I.base.free, fun b o e hx => ?_, I.base.tups, I.base.frzs, I.base.tbls⟩, ⟨_, hn', fun j y v' e1 e2 e3 => ?_⟩, fun y c e => ?_, I.free, I.freeC, fun p hp => ?_, tracked ⟨oL, hoL, I.free⟩ hs, by simpa using I.len⟩ ⟨_, hs, .inl rfl⟩
    · exact (hs.2 b (Nat.ne_of_lt (Nat.lt_of_lt_of_le (Heap.lt_size e) I.ok.above))).trans (I.base.keep b o e n hb hx)
    · obtain ⟨sl, e1⟩ := I.base.slot b o e n hb hx
      exact ⟨sl, (hs.2 b (Nat.ne_of_lt (Nat.lt_of_lt_of_le (Heap.lt_size e) I.ok.above))).trans e1⟩
    · obtain ⟨o', e1⟩ := I.base.there b o e hx
      exact ⟨o', (hs.2 b (Nat.ne_of_lt (Nat.lt_of_lt_of_le (Heap.lt_size e) I.ok.above))).trans e1⟩
    · by_cases hj : j = i
      · subst hj
        rw [hi] at e1; cases e1
        rw [List.getElem?_set_self hiσ] at e2
        cases e2
        exact ⟨u, r, .inl ⟨hk, by simp⟩⟩
      · rw [List.getElem?_set_ne (Ne.symm hj)] at e2
        obtain ⟨u', r', q⟩ := hl j y v' e1 e2 e3
        refine ⟨u', r', ?_⟩
        rcases q with ⟨k, e⟩ | ⟨k, c, e, z⟩
        · refine .inl ⟨k, ?_⟩
          have : y ≠ x := fun e => hj (nodup_ix hN e1 (e ▸ hi))
          simp [this, e]
        · exact .inr ⟨k, c, e, z.sameBut hs (cne y c e)⟩
    · obtain ⟨w', z⟩ := I.cell y c e
      exact ⟨w', z.sameBut hs (cne y c e)⟩
    · obtain ⟨e, n, ne, nf, d⟩ := I.pin p hp
      exact ⟨(hs.2 p.1 ne).trans e, n, ne, nf, d⟩
  · have hfn : X.fn x = true := by
      rcases hf with z | z
      · exact z
      · rw [z] at hk; cases hk
    obtain ⟨c, hc⟩ := I.ok.has x (.inl hk)
    obtain ⟨w', z⟩ := I.cell x c hc
    refine wpAny_storeName_cell I.ok.kind hk hc z (fun h' hc' hs => ?_)
    obtain ⟨oc, hoc, hocd⟩ := id z
    refine h { s with heap := h' } ⟨I.ok, I.os, I.bare, ⟨fun b o e n hb hx => ?_, fun b o e n hb hx => ?_, I.base.free, fun b o e hx => ?_, I.base.tups, I.base.frzs, I.base.tbls⟩, ⟨m, hn.sameBut hs (Ne.symm (cne x c hc)), fun j y v' e1 e2 e3 => ?_⟩, fun y c' e => ?_, I.free, I.freeC, fun p hp => ?_, tracked ⟨oc, hoc, I.freeC x c hc⟩ hs, by simpa using I.len⟩ ⟨c, hs, .inr hc⟩
    · exact (hs.2 b (Nat.ne_of_lt (Nat.lt_of_lt_of_le (Heap.lt_size e) (I.ok.cab x c hfn hc)))).trans (I.base.keep b o e n hb hx)
    · obtain ⟨sl, e1⟩ := I.base.slot b o e n hb hx
      exact ⟨sl, (hs.2 b (Nat.ne_of_lt (Nat.lt_of_lt_of_le (Heap.lt_size e) (I.ok.cab x c hfn hc)))).trans e1⟩
    · obtain ⟨o', e1⟩ := I.base.there b o e hx
      exact ⟨o', (hs.2 b (Nat.ne_of_lt (Nat.lt_of_lt_of_le (Heap.lt_size e) (I.ok.cab x c hfn hc)))).trans e1⟩
    · by_cases hj : j = i
      · subst hj
        rw [hi] at e1; cases e1
        rw [List.getElem?_set_self hiσ] at e2
        cases e2
        exact ⟨u, r, .inr ⟨.inl hk, c, hc, hc'⟩⟩
      · rw [List.getElem?_set_ne (Ne.symm hj)] at e2
        obtain ⟨u', r', q⟩ := hl j y v' e1 e2 e3
        refine ⟨u', r', ?_⟩
        rcases q with q | ⟨k, c', e, z'⟩
        · exact .inl q
        · refine .inr ⟨k, c', e, z'.sameBut hs ?_⟩
          rintro rfl
          exact hj (nodup_ix hN e1 (I.ok.inj _ _ _ e hc ▸ hi))
    · by_cases hcc : c' = c
      · subst hcc; exact ⟨_, hc'⟩
      · obtain ⟨w2, z2⟩ := I.cell y c' e
        exact ⟨w2, z2.sameBut hs hcc⟩
    · obtain ⟨e, n, ne, nf, d⟩ := I.pin p hp
      refine ⟨(hs.2 p.1 ?_).trans e, n, ne, nf, d⟩
      intro q
      rw [q, hoc] at e
      have q' : oc = p.2 := Option.some.inj e
      exact d w' (by rw [← q']; exact hocd)
theorem store_ok {M : Model} {A : Around} {E : Value → Shared → Prop} {i : Nat} {x : Str} {v : V} {u : Value} {Q : Unit → Shared → Prop} (I : Inv X pins σ H s) (hN : X.N.Nodup) (hi : X.N[i]? = some x) (hx : Loc X.env.scope x) (r : RelV v u)
    (h : ∀ s', Inv X pins (σ.set i (some v)) H s' → Q () s') (hf : X.fn x = true ∨ X.env.scope.names.lookup x = some .local := by first | exact .inl rfl | exact .inr rfl | assumption) : wpAny M A (storeName X.env x u) Q E s :=
  store_ok2 I hN hi hx r (fun s' I' _ => h s' I') hf
theorem Inv.call' {s' : Shared} {ch : List Addr} (I : Inv X pins σ H s) (ho : s'.os = s.os) (u : Un (frs X.stack) ch H H' s.heap s'.heap) (hok : HOk X.prog X.w H' s'.heap) (hg : AllBare s'.gens)
    (hch : ∀ b ∈ ch, (b ∈ X.ex ∨ X.s_0.heap.objs.size ≤ b) ∧ b ≠ X.env.locals ∧ (∀ x c, X.env.cells.lookup x = some c → c ≠ b) ∧ ∀ p ∈ X.pn ++ pins, p.1 ≠ b) : Inv X pins σ H' s' := by
  obtain ⟨h', g', d', t', o'⟩ := s'
  have e : o' = s.os := ho
  subst e
  exact I.call (g' := g') (t' := t') (d' := d') u hok hg hch
end
abbrev XK := Value → Option Addr → Hp → Prop
abbrev St := List (Option V)
abbrev VK := V → Hp → Prop
abbrev TE := St → Hp → VK → Prop
abbrev TT := St → Hp → (Bool → Hp → Prop) → Prop
abbrev TA := St → Hp → (List V → Hp → Prop) → Prop
structure Ends where
  nx : St → Hp → Prop
  rt : VK
  bk : St → Hp → Prop := fun _ _ => False
  ct : St → Hp → Prop := fun _ _ => False
abbrev TS := Ends → St → Hp → Prop
def EP (X : Cx) (pins : List (Addr × Obj)) (σ : St) (Q : VK) (u : Value) (s' : Shared) : Prop := ∃ v H', Inv X pins σ H' s' ∧ RelV v u ∧ Q v H'
def TP (X : Cx) (pins : List (Addr × Obj)) (σ : St) (Q : Bool → Hp → Prop) (b : Bool) (s' : Shared) : Prop := ∃ H', Inv X pins σ H' s' ∧ Q b H'
def AP (X : Cx) (pins : List (Addr × Obj)) (σ : St) (Q : List V → Hp → Prop) (us : List Value) (s' : Shared) : Prop := ∃ vs H', Inv X pins σ H' s' ∧ Vals vs us ∧ Q vs H'
def SP (X : Cx) (pins : List (Addr × Obj)) (D : Ends) (f : Flow) (s' : Shared) : Prop :=
  match f with
  | .next => ∃ σ' H', Inv X pins σ' H' s' ∧ D.nx σ' H'
  | .brk => ∃ σ' H', Inv X pins σ' H' s' ∧ D.bk σ' H'
  | .cont => ∃ σ' H', Inv X pins σ' H' s' ∧ D.ct σ' H'
  | .ret u => ∃ v σ' H', Inv X pins σ' H' s' ∧ RelV v u ∧ D.rt v H'
def PE (X : Cx) (e : Expr) (t : TE) : Prop :=
  ∀ (pins : List (Addr × Obj)) (s : Shared) (σ : St) (H : Hp) (Q : VK), Inv X pins σ H s → t σ H Q → wpAny (model X.prog X.w) X.A (eval e X.env) (EP X pins σ Q) X.xe s
def PT (X : Cx) (e : Expr) (t : TT) : Prop :=
  ∀ (pins : List (Addr × Obj)) (s : Shared) (σ : St) (H : Hp) (Q : Bool → Hp → Prop), Inv X pins σ H s → t σ H Q → wpAny (model X.prog X.w) X.A (isTrue e X.env (eval e X.env)) (TP X pins σ Q) X.xe s
def PW (X : Cx) (e : Expr) (t : TT) : Prop :=
  ∀ (whole : Sem Value) (pins : List (Addr × Obj)) (s : Shared) (σ : St) (H : Hp) (Q : Bool → Hp → Prop), Inv X pins σ H s → t σ H Q → wpAny (model X.prog X.w) X.A (isTrue e X.env whole) (TP X pins σ Q) X.xe s
theorem PW.pt {X : Cx} {e : Expr} {t : TT} (h : PW X e t) : PT X e t := h _
def PA (X : Cx) (es : List Expr) (t : TA) : Prop :=
  ∀ (pos : Pos) (pins : List (Addr × Obj)) (s : Shared) (σ : St) (H : Hp) (Q : List V → Hp → Prop), Inv X pins σ H s → t σ H Q → wpAny (model X.prog X.w) X.A (spliced (backTo pos (starEach es X.env))) (AP X pins σ Q) X.xe s
def PS (X : Cx) (st : Stmt) (t : TS) : Prop :=
  ∀ (pins : List (Addr × Obj)) (s : Shared) (σ : St) (H : Hp) (D : Ends), Inv X pins σ H s → t D σ H → wpAny (model X.prog X.w) X.A (exec st X.env) (SP X pins D) X.xe s
def PSs (X : Cx) (st : List Stmt) (t : TS) : Prop :=
  ∀ (pins : List (Addr × Obj)) (s : Shared) (σ : St) (H : Hp) (D : Ends), Inv X pins σ H s → t D σ H → wpAny (model X.prog X.w) X.A (execs st X.env) (SP X pins D) X.xe s
theorem thn {α : Type} {t : Sem α} {Q Q' : α → Shared → Prop} {M : Model} {A : Around} {E : Value → Shared → Prop} {s : Shared} (h : wpAny M A t Q E s) (hQ : ∀ a s, Q a s → Q' a s) : wpAny M A t Q' E s := wpAny_mono h hQ fun _ _ x => x
end L2
namespace L2
open PySem PySem.Spec PyProof.Rows
section
variable {X : Cx}
theorem bin {a b : Expr} {ta tb : TE} (ha : PE X a ta) (hb : PE X b tb) {pins : List (Addr × Obj)} {s : Shared} {σ : St} {H : Hp} {R : V → V → Hp → Prop} (I : Inv X pins σ H s) (h : ta σ H fun x H1 => tb σ H1 fun y H2 => R x y H2)
    {α : Type} {Q : α → Shared → Prop} {f : Value → Value → Sem α}
    (hf : ∀ v u s2 x y H2, Inv X pins σ H2 s2 → RelV x v → RelV y u → R x y H2 → wpAny (model X.prog X.w) X.A (f v u) Q X.xe s2) :
    wpAny (model X.prog X.w) X.A (eval a X.env) (fun v s₁ => wpAny (model X.prog X.w) X.A (eval b X.env) (fun u s₂ => wpAny (model X.prog X.w) X.A (f v u) Q X.xe s₂) X.xe s₁) X.xe s := by
  refine thn (ha pins s σ H _ I h) fun v s1 ⟨x, H1, I1, r1, q1⟩ => ?_
  refine thn (hb pins s1 σ H1 _ I1 q1) fun u s2 ⟨y, H2, I2, r2, q2⟩ => ?_
  exact hf v u s2 x y H2 I2 r1 r2 q2
def tVar (i : Nat) : TE := fun σ H Q => ∃ v, σ[i]? = some (some v) ∧ Q v H
def tC (v : V) : TE := fun _ H Q => Q v H
theorem pe_var {i : Nat} {x : Str} {pos : Pos} (hN : X.N[i]? = some x) (hv : Vis X.env.scope x) (hd : (x == ("__debug__" : Str)) = false := by decide) (hcd : (x == ("__classdict__" : Str)) = false := by decide) : PE X (.Name x pos) (tVar i) := by
  intro pins s σ H Q I h
  obtain ⟨v, e, h⟩ := h
  obtain ⟨m, hn, hl⟩ := I.loc
  obtain ⟨u, r, l⟩ := hl i x v hN e hv
  have fin : EP X pins σ Q u s := ⟨v, H, I, r, h⟩
  rcases l with ⟨hk, hm⟩ | ⟨hk, c, hc, hcell⟩
  · exact wpAny_Name (wpAny_loadName_local I.ok.kind hk hn hm fin) hd
  · rcases hk with hk | hk
    · exact wpAny_Name (wpAny_loadName_cell I.ok.kind hk hc hcell fin) hd
    · exact wpAny_Name (wpAny_loadName_free I.ok.kind hk hc hcell fin hcd) hd
theorem pe_int {i j pos} : PE X (.Constant (.int i) j pos) (tC (.int i)) := fun _ _ _ H _ I h => wpAny_Constant_int ⟨.int i, H, I.tok _, ⟨_, rfl⟩, h⟩
theorem pe_bl {b j pos} : PE X (.Constant (.bool b) j pos) (tC (.bl b)) := fun _ _ _ H _ I h => Constant_bool ⟨.bl b, H, I, rfl, h⟩
theorem pe_non {j pos} : PE X (.Constant .none j pos) (tC .non) := fun _ _ _ H _ I h => Constant_none ⟨.non, H, I, rfl, h⟩
theorem pe_str {x j pos} : PE X (.Constant (.str x) j pos) (tC (.str x)) := fun _ _ _ H _ I h => Calls.Constant_str ⟨.str x, H, I.tok _, ⟨_, rfl⟩, h⟩
def Gl (X : Cx) (x : Str) : Prop := X.env.kindOf x = some .globalImplicit
theorem ld_glob {E : Value → Shared → Prop} {pins : List (Addr × Obj)} {s : Shared} {σ : St} {H : Hp} {x : Str} {u : Value} {pos : Pos} {Q : Value → Shared → Prop} (I : Inv X pins σ H s) (hg : Gl X x) (hm : X.mg x = some u) (h : Q u s)
    (hd : (x == ("__debug__" : Str)) = false := by decide) : wpAny (model X.prog X.w) X.A (eval (.Name x pos) X.env) Q E s :=
  Calls.Name_function_global I.ok.kind hg (Calls.loadGlobal_global (by rw [I.ok.glob]; exact I.mod.glob.keeps I.bk) hm h) hd
theorem ld_blt {E : Value → Shared → Prop} {pins : List (Addr × Obj)} {s : Shared} {σ : St} {H : Hp} {x : Str} {u : Value} {pos : Pos} {Q : Value → Shared → Prop} (I : Inv X pins σ H s) (hg : Gl X x) (hm : X.mg x = none) (hv : bootBuiltins x = some u) (h : Q u s)
    (hn : x ≠ "__name__" := by decide) (hd : (x == ("__debug__" : Str)) = false := by decide) : wpAny (model X.prog X.w) X.A (eval (.Name x pos) X.env) Q E s := by
  obtain ⟨mb, h1, h2⟩ := I.mod.blt
  exact Calls.Name_function_global I.ok.kind hg (Calls.loadGlobal_builtin (by rw [I.ok.glob]; exact I.mod.glob.keeps I.bk) hm (by rw [I.ok.blt]; exact h1.keeps I.bk) ((h2 x hn).trans hv) h) hd
theorem pe_glob {x : Str} {v : V} {u : Value} {pos : Pos} (hg : Gl X x) (hm : X.mg x = some u) (r : RelV v u) (hd : (x == ("__debug__" : Str)) = false := by decide) : PE X (.Name x pos) (tC v) :=
  fun _ _ _ H _ I h => ld_glob I hg hm ⟨v, H, I, r, h⟩ hd
variable {a b : Expr} {ta tb : TE} {pos : Pos}
def PC (X : Cx) (op : CmpOp) (a b : Expr) (t : TE) : Prop :=
  ∀ (pins : List (Addr × Obj)) (s : Shared) (σ : St) (H : Hp) (Q : VK), Inv X pins σ H s → t σ H Q →
    wpAny (model X.prog X.w) X.A (eval a X.env) (fun v s₁ => wpAny (model X.prog X.w) X.A (eval b X.env) (fun u s₂ => wpAny (model X.prog X.w) X.A (compareOp op v u) (EP X pins σ Q) X.xe s₂) X.xe s₁) X.xe s
def tB (t : TE) : TT := fun σ H Q => t σ H fun x H1 => ∃ c, x = .bl c ∧ Q c H1
theorem pt_cmp {op : CmpOp} {t : TE} (h : PC X op a b t) (h1 : behindInMarks op b = false := by first | exact nobehind _ (by decide) (by decide) | rfl) : PT X (.Compare a [op] [b] pos) (tB t) := by
  intro pins s σ H Q I hw
  refine wpAny_isTrue_Compare1 (thn (h pins s σ H _ I hw) fun v s1 h1 => thn h1 fun u s2 h2 => thn h2 fun c s3 ⟨x, H1, I1, r1, q1⟩ => ?_) h1
  obtain ⟨d, rfl, q⟩ := q1
  cases r1
  exact wpAny_truthy_bool ⟨H1, I1, q⟩
theorem pt_val {e : Expr} {t : TE} (h : PE X e t) (he : ∀ whole, isTrue e X.env whole = (do let v ← whole; standAt e.pos; holding [v] (truthy v)) := by intro _; rfl) : PT X e (tB t) := by
  intro pins s σ H Q I hw
  refine isTrue_plain (thn (h pins s σ H _ I hw) fun v s1 ⟨x, H1, I1, r1, q1⟩ => ?_) (he _)
  obtain ⟨d, rfl, q⟩ := q1
  cases r1
  exact wpAny_truthy_bool ⟨H1, I1, q⟩
variable {tA tB' : TT} {rest : List Expr}
def tAnd (t u : TT) : TT := fun σ H Q => t σ H fun c H1 => if c = true then u σ H1 Q else Q false H1
def tOr (t u : TT) : TT := fun σ H Q => t σ H fun c H1 => if c = true then Q true H1 else u σ H1 Q
def tNot (t : TT) : TT := fun σ H Q => t σ H fun c H1 => Q (!c) H1
theorem pw_and1 (ha : PT X a tA) : PW X (.BoolOp .And [a] pos) tA := by
  intro wh pins s σ H Q I h
  refine isTrue_and (thn (ha pins s σ H Q I h) fun c s1 e => ?_)
  cases c with
  | true => exact isTrue_and_nil e
  | false => exact e
theorem pw_or1 (ha : PT X a tA) : PW X (.BoolOp .Or [a] pos) tA := by
  intro wh pins s σ H Q I h
  refine isTrue_or (thn (ha pins s σ H Q I h) fun c s1 e => ?_)
  cases c with
  | false => exact isTrue_or_nil e
  | true => exact e
theorem pw_and (ha : PT X a tA) (hb : PW X (.BoolOp .And (b :: rest) pos) tB') : PW X (.BoolOp .And (a :: b :: rest) pos) (tAnd tA tB') := by
  intro wh pins s σ H Q I h
  refine isTrue_and (thn (ha pins s σ H _ I h) fun c s1 ⟨H1, I1, q1⟩ => ?_)
  cases c with
  | true => exact hb wh pins s1 σ H1 Q I1 q1
  | false => exact ⟨H1, I1, q1⟩
theorem pw_or (ha : PT X a tA) (hb : PW X (.BoolOp .Or (b :: rest) pos) tB') : PW X (.BoolOp .Or (a :: b :: rest) pos) (tOr tA tB') := by
  intro wh pins s σ H Q I h
  refine isTrue_or (thn (ha pins s σ H _ I h) fun c s1 ⟨H1, I1, q1⟩ => ?_)
  cases c with
  | true => exact ⟨H1, I1, q1⟩
  | false => exact hb wh pins s1 σ H1 Q I1 q1
theorem pt_not (ha : PT X a tA) : PT X (.UnaryOp .Not a pos) (tNot tA) := by
  intro pins s σ H Q I h
  exact isTrue_not (ha pins s σ H (fun c H1 => Q (!c) H1) I h)
def tAndV (ta tb : TE) : TE := fun σ H Q => ta σ H fun x H1 => ∃ c, x = .bl c ∧ if c = true then tb σ H1 Q else Q (.bl false) H1
def tOrV (ta tb : TE) : TE := fun σ H Q => ta σ H fun x H1 => ∃ c, x = .bl c ∧ if c = true then Q (.bl true) H1 else tb σ H1 Q
def tNotV (ta : TE) : TE := fun σ H Q => ta σ H fun x H1 => ∃ c, x = .bl c ∧ Q (.bl (!c)) H1
theorem pe_one {op} {t : TE} (h : PE X a t) : PE X (.BoolOp op [a] pos) t := fun pins s σ H Q I hw => BoolOp_one (h pins s σ H Q I hw)
theorem pe_and (ha : PE X a ta) (hb : PE X (.BoolOp .And (b :: rest) pos) tb) : PE X (.BoolOp .And (a :: b :: rest) pos) (tAndV ta tb) := by
  intro pins s σ H Q I h
  refine BoolOp_and (thn (ha pins s σ H _ I h) fun v s1 ⟨x, H1, I1, r1, q1⟩ => ?_)
  obtain ⟨c, rfl, q1⟩ := q1
  cases r1
  refine wpAny_truthy_bool ?_
  cases c with
  | true => exact hb pins s1 σ H1 Q I1 q1
  | false => exact ⟨.bl false, H1, I1, rfl, q1⟩
theorem pe_or (ha : PE X a ta) (hb : PE X (.BoolOp .Or (b :: rest) pos) tb) : PE X (.BoolOp .Or (a :: b :: rest) pos) (tOrV ta tb) := by
  intro pins s σ H Q I h
  refine BoolOp_or (thn (ha pins s σ H _ I h) fun v s1 ⟨x, H1, I1, r1, q1⟩ => ?_)
  obtain ⟨c, rfl, q1⟩ := q1
  cases r1
  refine wpAny_truthy_bool ?_
  cases c with
  | false => exact hb pins s1 σ H1 Q I1 q1
  | true => exact ⟨.bl true, H1, I1, rfl, q1⟩
theorem pe_not (ha : PE X a ta) : PE X (.UnaryOp .Not a pos) (tNotV ta) := by
  intro pins s σ H Q I h
  refine UnaryOp_ (thn (ha pins s σ H _ I h) fun v s1 ⟨x, H1, I1, r1, q1⟩ => ?_)
  obtain ⟨c, rfl, q1⟩ := q1
  cases r1
  exact not_of (wpAny_truthy_bool ⟨.bl (!c), H1, I1, rfl, q1⟩)
def tIf (t : TT) (ta tb : TE) : TE := fun σ H Q => t σ H fun c H1 => if c = true then ta σ H1 Q else tb σ H1 Q
theorem pe_ifExp {c : Expr} (hc : PT X c tA) (ha : PE X a ta) (hb : PE X b tb) : PE X (.IfExp c a b pos) (tIf tA ta tb) := by
  intro pins s σ H Q I h
  refine wpAny_IfExp (thn (hc pins s σ H _ I h) fun d s1 ⟨H1, I1, q1⟩ => ?_)
  cases d with
  | true => exact ha pins s1 σ H1 Q I1 q1
  | false => exact hb pins s1 σ H1 Q I1 q1
end
end L2
namespace L2
open PySem PySem.Spec PyProof.Rows
def SqL (K : PySem.W.Frag) (H : Hp) (a : Addr) (xs : List V) : Prop :=
  Rd H a (.lst xs) ∨
    ∃ (o : Obj) (its : Array Value) (n : Nat), K.lookup a = some o ∧ o.cls = .type "list" ∧ o.dict = none ∧ o.data = .seq its n ∧ its.size ≤ sizeLine ∧ Vals xs its.toList
def SqT (K : PySem.W.Frag) (H : Hp) (a : Addr) (xs : List V) : Prop :=
  Rd H a (.tup xs) ∨
    ∃ (o : Obj) (its : Array Value) (n : Nat), K.lookup a = some o ∧ o.cls = .type "tuple" ∧ o.data = .seq its n ∧ its.size ≤ sizeLine ∧ Vals xs its.toList
def absV : Value → Option V
  | .none => some .non
  | .bool b => some (.bl b)
  | .int i _ => some (.int i)
  | .str x _ => some (.str x)
  | .bytes b _ => some (.byt b)
  | .float b _ => some (.flt b)
  | .ref a => some (.ref a)
  | .type n => some (.ty n)
  | _ => none
theorem RelV.abs {x : V} {u : Value} (r : RelV x u) : absV u = some x := by
  cases x with
  | non => cases r; rfl
  | bl _ => cases r; rfl
  | int _ => obtain ⟨t, rfl⟩ := r; rfl
  | str _ => obtain ⟨t, rfl⟩ := r; rfl
  | byt _ => obtain ⟨t, rfl⟩ := r; rfl
  | flt _ => obtain ⟨t, rfl⟩ := r; rfl
  | ref _ => cases r; rfl
  | ty _ => cases r; rfl
theorem RelV.inj {x y : V} {u : Value} (r : RelV x u) (q : RelV y u) : x = y := Option.some.inj (r.abs.symm.trans q.abs)
theorem Vals.inj : ∀ {xs ys : List V} {us : List Value}, Vals xs us → Vals ys us → xs = ys
  | _, _, _, .nil, .nil => rfl
  | _, _, _, .cons r t, .cons r' t' => by rw [r.inj r', Vals.inj t t']
section
variable {X : Cx} {pins : List (Addr × Obj)} {σ : St} {H : Hp} {s : Shared} {a : Addr} {xs ys : List V}
theorem SqL.of {K : PySem.W.Frag} (h : H a = some (.lst xs)) : SqL K H a xs := .inl (.inl h)
theorem SqT.of {K : PySem.W.Frag} (h : H a = some (.tup xs)) : SqT K H a xs := .inl (.inl h)
theorem Inv.list (I : Inv X pins σ H s) (h : SqL X.K H a xs) : ∃ its : List Value, Vals xs its ∧ PlainL s.heap a its.toArray ∧ xs.length ≤ sizeLine := by
  rcases h with h | ⟨o, its, n, hk, hc, hd, hs, hz, r⟩
  · obtain ⟨z, its, n, r, e⟩ := h.ok I.hok
    exact ⟨its, r, ⟨_, n, e, rfl, rfl, rfl⟩, z⟩
  · refine ⟨its.toList, r, ⟨o, n, I.kIn a o hk, hc, hd, by simpa using hs⟩, ?_⟩
    have e := r.length
    simp only [Array.length_toList] at e
    omega
theorem Inv.tuple (I : Inv X pins σ H s) (h : SqT X.K H a xs) : ∃ its : List Value, Vals xs its ∧ IsTup s.heap a its.toArray ∧ xs.length ≤ sizeLine := by
  rcases h with h | ⟨o, its, n, hk, hc, hs, hz, r⟩
  · obtain ⟨z, its, r, p⟩ := h.ok I.hok
    exact ⟨its, r, p, z⟩
  · refine ⟨its.toList, r, ⟨o, I.kIn a o hk, hc, n, by simpa using hs⟩, ?_⟩
    have e := r.length
    simp only [Array.length_toList] at e
    omega
theorem Inv.list_inj (I : Inv X pins σ H s) (h : SqL X.K H a xs) (h' : SqL X.K H a ys) : xs = ys := by
  obtain ⟨its, r, ⟨o, n, e, _, _, d⟩, _⟩ := I.list h
  obtain ⟨its', r', ⟨o', n', e', _, _, d'⟩, _⟩ := I.list h'
  rw [e] at e'; cases e'
  rw [d] at d'
  injection d' with d1 _
  have : its = its' := by simpa using congrArg Array.toList d1
  subst this
  exact r.inj r'
theorem Inv.tuple_inj (I : Inv X pins σ H s) (h : SqT X.K H a xs) (h' : SqT X.K H a ys) : xs = ys := by
  obtain ⟨its, r, ⟨o, e, _, n, d⟩, _⟩ := I.tuple h
  obtain ⟨its', r', ⟨o', e', _, n', d'⟩, _⟩ := I.tuple h'
  rw [e] at e'; cases e'
  rw [d] at d'
  injection d' with d1 _
  have : its = its' := by simpa using congrArg Array.toList d1
  subst this
  exact r.inj r'
end
section
variable {X : Cx} {st : Stmt} {rest : List Stmt} {t u : TS} {e : Expr} {te : TE} {pos : Pos}
def tNext : TS := fun D σ H => D.nx σ H
def tSeq (t u : TS) : TS := fun D σ H => t { D with nx := u D } σ H
theorem pss_nil : PSs X [] tNext := fun _ _ σ H _ I h => wpAny_execs_nil ⟨σ, H, I, h⟩
theorem pss_cons (h1 : PS X st t) (h2 : PSs X rest u) : PSs X (st :: rest) (tSeq t u) := by
  intro pins s σ H D I h
  refine wpAny_execs_cons (thn (h1 pins s σ H { D with nx := u D } I h) fun f s1 q => ?_)
  cases f with
  | next =>
    obtain ⟨σ', H', I', q⟩ := q
    exact h2 pins s1 σ' H' D I' q
  | ret v => exact q
  | brk => exact q
  | cont => exact q
theorem pss_one (h1 : PS X st t) : PSs X [st] t := by
  intro pins s σ H D I h
  refine wpAny_execs_cons (thn (h1 pins s σ H D I h) fun f s1 q => ?_)
  cases f with
  | next => exact wpAny_execs_nil q
  | ret v => exact q
  | brk => exact q
  | cont => exact q
def tBreak : TS := fun D σ H => D.bk σ H
theorem ps_break : PS X (.Break pos) tBreak := fun _ _ σ H _ I h => wpAny_Break ⟨σ, H, I, h⟩
theorem Inv.quiet {pins : List (Addr × Obj)} {σ : St} {H : Hp} {s : Shared} (I : Inv X pins σ H s) : interactive X.env = false := by simp [interactive, I.ok.kind]
def tDrop (te : TE) : TS := fun D σ H => te σ H fun _ H1 => D.nx σ H1
theorem ps_expr (he : PE X e te) (hs : swapsWith e none pos.line X.env = pure false := by rfl) : PS X (.Expr e pos) (tDrop te) := by
  intro pins s σ H D I h
  exact wpAny_Expr_any (thn (he pins s σ H _ I h) fun v s1 ⟨x, H1, I1, r1, q1⟩ => ⟨σ, H1, I1, q1⟩) I.quiet hs
def tRet (te : TE) : TS := fun D σ H => te σ H D.rt
theorem ps_ret (he : PE X e te) : PS X (.Return (some e) pos) (tRet te) := by
  intro pins s σ H D I h
  exact wpAny_Return_some (thn (he pins s σ H _ I h) fun v s1 ⟨x, H1, I1, r1, q1⟩ => ⟨x, σ, H1, I1, r1, q1⟩)
def tIfS (c : TT) (t u : TS) : TS := fun D σ H => c σ H fun b H1 => if b = true then t D σ H1 else u D σ H1
theorem ps_if {c : Expr} {a b : List Stmt} {tc : TT} (hc : PT X c tc) (ha : PSs X a t) (hb : PSs X b u) : PS X (.If c a b pos) (tIfS tc t u) := by
  intro pins s σ H D I h
  refine wpAny_If (thn (hc pins s σ H _ I h) fun d s1 ⟨H1, I1, q1⟩ => ?_)
  cases d with
  | true => exact ha pins s1 σ H1 D I1 q1
  | false => exact hb pins s1 σ H1 D I1 q1
end
abbrev TG := V → St → Hp → (St → Hp → Prop) → Prop
abbrev TGs := List V → St → Hp → (St → Hp → Prop) → Prop
def PG (X : Cx) (target : Expr) (t : TG) : Prop :=
  ∀ (pins : List (Addr × Obj)) (s : Shared) (σ : St) (H : Hp) (v : V) (u : Value) (Q : St → Hp → Prop), Inv X pins σ H s → RelV v u → t v σ H Q →
    wpAny (model X.prog X.w) X.A (assign target X.env u) (fun _ s' => ∃ σ' H', Inv X pins σ' H' s' ∧ Q σ' H') X.xe s
def PGs (X : Cx) (ts : List Expr) (t : TGs) : Prop :=
  ∀ (pins : List (Addr × Obj)) (s : Shared) (σ : St) (H : Hp) (vs : List V) (us : List Value) (Q : St → Hp → Prop), Inv X pins σ H s → Vals vs us → t vs σ H Q →
    wpAny (model X.prog X.w) X.A (assignInOrder ((assignEach ts X.env).map (·.2)) us) (fun _ s' => ∃ σ' H', Inv X pins σ' H' s' ∧ Q σ' H') X.xe s
abbrev TIp := V → V → Hp → VK → Prop
def PIp (X : Cx) (op : Operator) (t : TIp) : Prop :=
  ∀ (pins : List (Addr × Obj)) (s : Shared) (σ : St) (H : Hp) (x y : V) (v u : Value) (Q : VK), Inv X pins σ H s → RelV x v → RelV y u → t x y H Q →
    wpAny (model X.prog X.w) X.A (inplaceOp op v u) (EP X pins σ Q) X.xe s
section
variable {X : Cx} {pos : Pos}
def gName (i : Nat) : TG := fun v σ H Q => Q (σ.set i (some v)) H
theorem pg_name {i : Nat} {x : Str} (hN : X.N.Nodup) (hi : X.N[i]? = some x) (hx : Loc X.env.scope x) (hf : X.fn x = true ∨ X.env.scope.names.lookup x = some .local := by first | exact .inl rfl | exact .inr rfl | assumption) : PG X (.Name x pos) (gName i) := by
  intro pins s σ H v u Q I r h
  exact wpAny_assign_Name (store_ok I hN hi hx r (fun s' I' => ⟨_, H, I', h⟩) hf)
def gNil : TGs := fun vs σ H Q => vs = [] ∧ Q σ H
def gCons (t : TG) (u : TGs) : TGs := fun vs σ H Q => ∃ v r, vs = v :: r ∧ t v σ H fun σ' H' => u r σ' H' Q
theorem pgs_nil : PGs X [] gNil := by
  intro pins s σ H vs us Q I r h
  obtain ⟨e, h⟩ := h
  subst e
  cases r
  exact assignInOrder_nil ⟨σ, H, I, h⟩
theorem pgs_cons {e : Expr} {es : List Expr} {t : TG} {u : TGs} (h1 : PG X e t) (h2 : PGs X es u)
    (hs : (assignEach (e :: es) X.env).map (·.2) = assign e X.env :: (assignEach es X.env).map (·.2) := by rfl) : PGs X (e :: es) (gCons t u) := by
  intro pins s σ H vs us Q I r h
  obtain ⟨v, vr, e1, h⟩ := h
  subst e1
  cases r with
  | cons r rr =>
    rw [hs]
    refine assignInOrder_cons (thn (h1 pins s σ H _ _ _ I r h) fun _ s1 ⟨σ1, H1, I1, q1⟩ => ?_)
    exact h2 pins s1 σ1 H1 _ _ Q I1 rr q1
def gTup (K : PySem.W.Frag) (n : Nat) (t : TGs) : TG := fun v σ H Q => ∃ a xs, v = .ref a ∧ SqT K H a xs ∧ xs.length = n ∧ t xs σ H Q
theorem pg_tup {es : List Expr} {k : Nat} {t : TGs} {n : Nat} (hc : X.calm = true) (h : PGs X es t)
    (hn : (assignEach es X.env).length = n := by rfl) (hst : (assignEach es X.env).findIdx? (·.1) = none := by rfl) : PG X (.Tuple es k pos) (gTup X.K n t) := by
  intro pins s σ H v u Q I r hw
  obtain ⟨a, xs, e1, hq, hl, hw⟩ := hw
  subst e1
  cases r
  obtain ⟨its, rv, ht, hz⟩ := I.tuple hq
  refine assign_Tuple_tuple (I.ok.hd hc) ht (by simp [hn, ← hl, rv.length]) hst fun h' hx => ?_
  have I1 : Inv X pins σ H { s with heap := h' } := I.kept (t' := s.toks) fun b o e => hx b o (Nat.ne_of_lt (Heap.lt_size e)) e
  exact h pins _ σ H xs _ Q I1 (by simpa using rv) hw
def tAsg (te : TE) (g : TG) : TS := fun D σ H => te σ H fun x H1 => g x σ H1 D.nx
theorem ps_set {i : Nat} {x : Str} {e : Expr} {te : TE} {pos' : Pos} (hN : X.N.Nodup) (hi : X.N[i]? = some x) (hx : Loc X.env.scope x) (he : PE X e te) (hs : swapsWith e (some (.Name x pos')) pos.line X.env = pure false := by rfl) (hf : X.fn x = true ∨ X.env.scope.names.lookup x = some .local := by first | exact .inl rfl | exact .inr rfl | assumption) :
    PS X (.Assign [.Name x pos'] e pos) (tAsg te (gName i)) := by
  intro pins s σ H D I h
  refine wpAny_Assign_Name (thn (he pins s σ H _ I h) fun v s1 ⟨y, H1, I1, r1, q1⟩ => ?_) hs
  exact store_ok I1 hN hi hx r1 (fun s2 I2 => ⟨_, H1, I2, q1⟩) hf
def tAug (i : Nat) (te : TE) (ti : TIp) : TS := fun D σ H => ∃ x, σ[i]? = some (some x) ∧ te σ H fun y H1 => ti x y H1 fun z H2 => D.nx (σ.set i (some z)) H2
theorem ps_aug {i : Nat} {x : Str} {e : Expr} {te : TE} {op : Operator} {ti : TIp} {pos' : Pos} (hN : X.N.Nodup) (hi : X.N[i]? = some x) (hx : Loc X.env.scope x) (he : PE X e te) (ho : PIp X op ti) (hf : X.fn x = true ∨ X.env.scope.names.lookup x = some .local := by first | exact .inl rfl | exact .inr rfl | assumption) :
    PS X (.AugAssign (.Name x pos') op e pos) (tAug i te ti) := by
  intro pins s σ H D I h
  obtain ⟨v, e1, h⟩ := h
  obtain ⟨m, hn, hl⟩ := I.loc
  have vis : Vis X.env.scope x := by rcases hx with k | k; exact .inl k; exact .inr (.inl k)
  obtain ⟨u, r, l⟩ := hl i x v hi e1 vis
  refine wpAny_AugAssign_Name ?_
  have go : wpAny (model X.prog X.w) X.A (eval e X.env) (fun w s₂ => wpAny (model X.prog X.w) X.A (inplaceOp op u w) (fun r s₃ => wpAny (model X.prog X.w) X.A (storeName X.env x r) (fun _ => SP X pins D .next) X.xe s₃) X.xe s₂) X.xe s := by
    refine thn (he pins s σ H _ I h) fun w s1 ⟨y, H1, I1, r1, q1⟩ => ?_
    refine thn (ho pins s1 σ H1 v y u w _ I1 r r1 q1) fun z s2 ⟨zv, H2, I2, r2, q2⟩ => ?_
    exact store_ok I2 hN hi hx r2 (fun s3 I3 => ⟨_, H2, I3, q2⟩) hf
  rcases l with ⟨hk, hm⟩ | ⟨hk, c, hc, hcell⟩
  · exact wpAny_loadName_local I.ok.kind hk hn hm go
  · rcases hk with hk | hk
    · exact wpAny_loadName_cell I.ok.kind hk hc hcell go
    · rcases hx with k | k
      · have : X.env.scope.names.lookup x = some .free := hk
        rw [k] at this; cases this
      · have : X.env.scope.names.lookup x = some .free := hk
        rw [k] at this; cases this
def ipI (f : Int → Int → Int) : TIp := fun x y H Q => ∃ i j, x = .int i ∧ y = .int j ∧ Q (.int (f i j)) H
theorem ip_add : PIp X .Add (ipI fun i j => i + j) := by
  intro pins s σ H x y v u Q I r1 r2 h
  obtain ⟨i, j, e1, e2, q⟩ := h
  subst e1; subst e2
  obtain ⟨t, rfl⟩ := r1
  obtain ⟨t', rfl⟩ := r2
  exact iadd_int ⟨.int _, H, I.tok _, ⟨_, rfl⟩, q⟩
end
section
variable {X : Cx} {pos : Pos}
def tWhile (c : TT) (tb : TS) : TS := fun D σ H => ∃ W : Nat → St → Hp → Prop, (∃ m, W m σ H) ∧ ∀ m σ H, W m σ H →
  c σ H fun b H1 => if b = true then ∃ N : St → Hp → Prop, (∀ σ' H', N σ' H' → ∃ m', m' < m ∧ W m' σ' H') ∧ tb { D with nx := N, ct := N, bk := D.nx } σ H1 else D.nx σ H1
theorem ps_while {c : Expr} {body : List Stmt} {tc : TT} {tb : TS} (hp : PassesOwn (model X.prog X.w) X.A X.env X.xe) (hc : PT X c tc) (hb : PSs X body tb) : PS X (.While c body [] pos) (tWhile tc tb) := by
  intro pins s σ H D I h
  obtain ⟨W, ⟨m0, w0⟩, turn⟩ := h
  refine wpAny_While (codeAny_whileLoop (fun n s' => ∃ σ' H', Inv X pins σ' H' s' ∧ W n σ' H') ?_ m0 ⟨σ, H, I, w0⟩)
  rintro n s1 ⟨σ1, H1, I1, w1⟩
  refine wpAny_passesOwn hp (thn (hc pins s1 σ1 H1 _ I1 (turn n σ1 H1 w1)) fun b s2 ⟨H2, I2, q2⟩ => ?_)
  cases b with
  | true =>
    obtain ⟨N, hN, q2⟩ := q2
    rw [if_pos rfl]
    refine wpAny_passesOwn hp (thn (hb pins s2 σ1 H2 _ I2 q2) fun f s3 q3 => ?_)
    cases f with
    | next =>
      obtain ⟨σ3, H3, I3, n3⟩ := q3
      obtain ⟨m', hm, w3⟩ := hN σ3 H3 n3
      exact ⟨m', hm, σ3, H3, I3, w3⟩
    | cont =>
      obtain ⟨σ3, H3, I3, n3⟩ := q3
      obtain ⟨m', hm, w3⟩ := hN σ3 H3 n3
      exact ⟨m', hm, σ3, H3, I3, w3⟩
    | brk => exact q3
    | ret v => exact q3
  | false =>
    rw [if_neg Bool.false_ne_true]
    exact wpAny_execs_nil ⟨σ1, H2, I2, q2⟩
end
structure It where
  go : Nat → Hp → Prop
  yld : Nat → Hp → V → Hp → Prop
  stop : Nat → Hp → Prop
def FpOk (X : Cx) (pins : List (Addr × Obj)) (H : Hp) (b : Addr) : Prop :=
  H b = none ∧ b ≠ X.env.locals ∧ b ∉ X.fs ∧ (b ∈ X.ex ∨ X.s_0.heap.objs.size ≤ b) ∧ (∀ x c, X.env.cells.lookup x = some c → c ≠ b) ∧ ∀ p ∈ X.pn ++ pins, p.1 ≠ b
theorem Inv.fpOk {X : Cx} {pins : List (Addr × Obj)} {σ : St} {H H' : Hp} {s : Shared} {b : Addr} (I : Inv X pins σ H s) (hb : s.heap.objs.size ≤ b) (hn : H' b = none) : FpOk X pins H' b := by
  refine ⟨hn, Nat.ne_of_gt (Nat.lt_of_lt_of_le I.lt hb), I.nofs hb, .inr (Nat.le_trans I.sz hb), fun x c e z => ?_, fun p hp z => ?_⟩
  · obtain ⟨v, q⟩ := I.cell x c e
    exact absurd (Nat.lt_of_lt_of_le q.lt (by rw [z]; exact hb)) (Nat.lt_irrefl _)
  · exact absurd (Nat.lt_of_lt_of_le (Heap.lt_size (I.pin p hp).1) (by rw [z]; exact hb)) (Nat.lt_irrefl _)
structure Turn (P : Program) (w : World) (K : PySem.W.Frag) (tg : Expr) (J : It) (fp : List Addr) (it : Addr) (tn : Nat → Heap → Prop) : Prop where
  mem : it ∈ fp
  obj : ∀ i h, tn i h → ∀ b ∈ fp, ∃ o, h.get? b = some o ∧ ∀ v, o.data ≠ .cell v
  keep : ∀ i h h', tn i h → (∀ b ∈ fp, ∀ o, h.get? b = some o → h'.get? b = some o) → tn i h'
  item : ∀ (X : Cx), X.prog = P → X.w = w → X.K = K → X.calm = true → ∀ (i : Nat) (pins : List (Addr × Obj)) (s : Shared) (σ : St) (H : Hp) (E : Value → Shared → Prop), Inv X pins σ H s → (∀ b ∈ fp, FpOk X pins H b) → tn i s.heap → J.go i H →
    wpAny (model P w) X.A (pyNext (.ref it)) (fun r s1 => ∃ u, r = some u ∧
      wpAny (model P w) X.A (letOwnedTupleGo tg (.ref it) u) (fun _ s2 => ∃ x H', Inv X pins σ H' s2 ∧ RelV x u ∧ J.yld i H x H' ∧ tn (i + 1) s2.heap ∧ ∀ b ∈ fp, H' b = none) E s1) E s
  done : ∀ (X : Cx), X.prog = P → X.w = w → X.K = K → X.calm = true → ∀ (i : Nat) (pins : List (Addr × Obj)) (s : Shared) (σ : St) (H : Hp) (E : Value → Shared → Prop), Inv X pins σ H s → (∀ b ∈ fp, FpOk X pins H b) → tn i s.heap → J.stop i H →
    wpAny (model P w) X.A (pyNext (.ref it)) (fun r s1 => r = none ∧ Inv X pins σ H s1) E s
  self : ∀ (A : Around) (i : Nat) (s : Shared) (Q : Value → Shared → Prop) (E : Value → Shared → Prop), tn i s.heap → Q (.ref it) s → wpAny (model P w) A (pyIter (.ref it)) Q E s
abbrev TI := St → Hp → (It → Hp → Prop) → Prop
def PIE (X : Cx) (pins : List (Addr × Obj)) (σ : St) (tg : Expr) (R : It → Hp → Prop) (itv : Value) (s2 : Shared) : Prop :=
  ∃ (it : Addr) (fp : List Addr) (tn : Nat → Heap → Prop) (J : It) (H' : Hp), itv = .ref it ∧ Inv X pins σ H' s2 ∧ Turn X.prog X.w X.K tg J fp it tn ∧ tn 0 s2.heap ∧ (∀ b ∈ fp, FpOk X pins H' b) ∧ R J H'
def PI (X : Cx) (tg iter : Expr) (wi : TI) : Prop :=
  ∀ (pins : List (Addr × Obj)) (s : Shared) (σ : St) (H : Hp) (R : It → Hp → Prop), Inv X pins σ H s → wi σ H R →
    wpAny (model X.prog X.w) X.A (eval iter X.env) (fun v s1 => wpAny (model X.prog X.w) X.A (pyIter v) (PIE X pins σ tg R) X.xe s1) X.xe s
theorem go_of {M : Model} {A : Around} {E : Value → Shared → Prop} {s : Shared} {tg : Expr} {it : Addr} {u : Value} {o : Obj} {n : String} {vs : Array Value} {Q : Unit → Shared → Prop} (ho : s.heap.get? it = some o) (hc : o.cls = .type n) (hd : o.data = .fields vs)
    (hn : ["enumerate", "zip", "dict_itemiterator", "dict_reverseitemiterator", "odict_iterator", "itertools.zip_longest", "itertools.pairwise"].contains n = false) (hQ : Q () s) : wpAny M A (letOwnedTupleGo tg (.ref it) u) Q E s := by
  unfold letOwnedTupleGo
  cases tg <;> first
    | exact wpAny_pure hQ
    | (cases u <;> first
        | exact wpAny_pure hQ
        | (refine wpAny_bind (wpAny_load ho ?_)
           rw [hc, hd]
           show wpAny M A (if (["enumerate", "zip", "dict_itemiterator", "dict_reverseitemiterator", "odict_iterator", "itertools.zip_longest", "itertools.pairwise"].contains n && vs[0]? == some (rawInt _)) = true then _ else _) Q E s
           rw [if_neg (by intro h; rw [hn, Bool.false_and] at h; cases h)]
           exact wpAny_pure hQ))
def Itl (K : PySem.W.Frag) (a : Addr) : It :=
  ⟨fun i H => ∃ xs x, SqL K H a xs ∧ xs[i]? = some x, fun i H x H' => H' = H ∧ ∀ xs, SqL K H a xs → xs[i]? = some x, fun i H => ∃ xs, SqL K H a xs ∧ xs.length ≤ i⟩
def Itt (K : PySem.W.Frag) (a : Addr) : It :=
  ⟨fun i H => ∃ xs x, SqT K H a xs ∧ xs[i]? = some x, fun i H x H' => H' = H ∧ ∀ xs, SqT K H a xs → xs[i]? = some x, fun i H => ∃ xs, SqT K H a xs ∧ xs.length ≤ i⟩
theorem turn_list {P : Program} {w : World} {K : PySem.W.Frag} {tg : Expr} (a it : Addr) : Turn P w K tg (Itl K a) [it] it (fun i h => h.IsListIter it a i) where
  mem := by simp
  obj := fun i h st b hb => by
    have e : b = it := by simpa using hb
    subst e
    obtain ⟨o, e, c, d⟩ := st
    exact ⟨o, e, fun v z => by rw [d] at z; cases z⟩
  keep := fun i h h' st k => st.at fun o e => k it (by simp) o e
  item := by
    intro X hP hw hK hc i pins s σ H E I hf st hg
    subst hP hw hK
    obtain ⟨xs, x, hq, hx⟩ := hg
    obtain ⟨its, rv, p, hz⟩ := I.list hq
    obtain ⟨u, hu, ru⟩ := rv.get hx
    obtain ⟨f0, f1, f2, f3, f4, f5⟩ := hf it (by simp)
    refine wpAny_pyNext_list_item st p.isList (x := u) (by simpa using hu) fun h' st' sb => ?_
    have I1 : Inv X pins σ H { s with heap := h' } := I.turned (t' := s.toks) (fun b o hb e => (sb.2 b hb).trans e) f0 f1 f3 f4 f5
    obtain ⟨o, e, c, d⟩ := id st'
    exact ⟨u, rfl, go_of (s := { s with heap := h' }) e c d (by decide) ⟨x, H, I1, ru, ⟨rfl, fun ys hy => by rw [I.list_inj hy hq]; exact hx⟩, st', fun b hb => (hf b hb).1⟩⟩
  done := by
    intro X hP hw hK hc i pins s σ H E I hf st hg
    subst hP hw hK
    obtain ⟨xs, hq, hx⟩ := hg
    obtain ⟨its, rv, p, hz⟩ := I.list hq
    obtain ⟨f0, f1, f2, f3, f4, f5⟩ := hf it (by simp)
    have hl := rv.length
    exact wpAny_pyNext_list_end (I.ok.hd hc) st p.isList (by simp; omega) fun h' eb => ⟨rfl, I.turned (t' := s.toks) (fun b o hb e => eb b o hb e) f0 f1 f3 f4 f5⟩
  self := fun _ _ _ _ _ st h => wpAny_pyIter_listiter st h
theorem turn_tuple {P : Program} {w : World} {K : PySem.W.Frag} {tg : Expr} (a it : Addr) : Turn P w K tg (Itt K a) [it] it (fun i h => h.IsTupleIter it a i) where
  mem := by simp
  obj := fun i h st b hb => by
    have e : b = it := by simpa using hb
    subst e
    obtain ⟨o, e, c, d⟩ := st
    exact ⟨o, e, fun v z => by rw [d] at z; cases z⟩
  keep := fun i h h' st k => st.at fun o e => k it (by simp) o e
  item := by
    intro X hP hw hK hc i pins s σ H E I hf st hg
    subst hP hw hK
    obtain ⟨xs, x, hq, hx⟩ := hg
    obtain ⟨its, rv, p, hz⟩ := I.tuple hq
    obtain ⟨u, hu, ru⟩ := rv.get hx
    obtain ⟨f0, f1, f2, f3, f4, f5⟩ := hf it (by simp)
    refine wpAny_pyNext_tuple_item st (show s.heap.IsTuple a its.toArray from p) (x := u) (by simpa using hu) fun h' st' sb => ?_
    have I1 : Inv X pins σ H { s with heap := h' } := I.turned (t' := s.toks) (fun b o hb e => (sb.2 b hb).trans e) f0 f1 f3 f4 f5
    obtain ⟨o, e, c, d⟩ := id st'
    exact ⟨u, rfl, go_of (s := { s with heap := h' }) e c d (by decide) ⟨x, H, I1, ru, ⟨rfl, fun ys hy => by rw [I.tuple_inj hy hq]; exact hx⟩, st', fun b hb => (hf b hb).1⟩⟩
  done := by
    intro X hP hw hK hc i pins s σ H E I hf st hg
    subst hP hw hK
    obtain ⟨xs, hq, hx⟩ := hg
    obtain ⟨its, rv, p, hz⟩ := I.tuple hq
    obtain ⟨f0, f1, f2, f3, f4, f5⟩ := hf it (by simp)
    have hl := rv.length
    exact wpAny_pyNext_tuple_end (I.ok.hd hc) st (show s.heap.IsTuple a its.toArray from p) (by simp; omega) fun h' eb => ⟨rfl, I.turned (t' := s.toks) (fun b o hb e => eb b o hb e) f0 f1 f3 f4 f5⟩
  self := fun _ _ _ _ _ st h => wpAny_pyIter_tupleiter st h
end L2
namespace L2
open PySem PySem.Spec PyProof.Rows
section
variable {X : Cx} {tg : Expr}
def iList (K : PySem.W.Frag) (tl : TE) : TI := fun σ H R => tl σ H fun x H1 => ∃ a, x = .ref a ∧ (∃ xs, SqL K H1 a xs) ∧ R (Itl K a) H1
def iTup (K : PySem.W.Frag) (tl : TE) : TI := fun σ H R => tl σ H fun x H1 => ∃ a, x = .ref a ∧ (∃ xs, SqT K H1 a xs) ∧ R (Itt K a) H1
theorem pi_list {l : Expr} {tl : TE} (hl : PE X l tl) : PI X tg l (iList X.K tl) := by
  intro pins s σ H R I h
  refine thn (hl pins s σ H _ I h) fun v s1 ⟨x, H1, I1, r1, q1⟩ => ?_
  obtain ⟨a, e, ⟨xs, hq⟩, q⟩ := q1
  subst e
  cases r1
  obtain ⟨its, rv, p, hz⟩ := I1.list hq
  refine wpAny_pyIter_list p.isList ?_
  refine ⟨s1.heap.objs.size, [s1.heap.objs.size], _, _, H1, rfl, I1.kept (t' := s1.toks) fun b o e => Heap.get?_push_of_some _ e, turn_list a _, ⟨_, Heap.get?_push_size _ rfl, rfl, rfl⟩, fun b hb => ?_, q⟩
  have e : b = s1.heap.objs.size := by simpa using hb
  subst e
  exact I1.fpOk (Nat.le_refl _) (I1.hok.fresh (Nat.le_refl _))
theorem pi_tup {l : Expr} {tl : TE} (hl : PE X l tl) : PI X tg l (iTup X.K tl) := by
  intro pins s σ H R I h
  refine thn (hl pins s σ H _ I h) fun v s1 ⟨x, H1, I1, r1, q1⟩ => ?_
  obtain ⟨a, e, ⟨xs, hq⟩, q⟩ := q1
  subst e
  cases r1
  obtain ⟨its, rv, p, hz⟩ := I1.tuple hq
  refine wpAny_pyIter_tuple (show s1.heap.IsTuple a its.toArray from p) ?_
  refine ⟨s1.heap.objs.size, [s1.heap.objs.size], _, _, H1, rfl, I1.kept (t' := s1.toks) fun b o e => Heap.get?_push_of_some _ e, turn_tuple a _, ⟨_, Heap.get?_push_size _ rfl, rfl, rfl⟩, fun b hb => ?_, q⟩
  have e : b = s1.heap.objs.size := by simpa using hb
  subst e
  exact I1.fpOk (Nat.le_refl _) (I1.hok.fresh (Nat.le_refl _))
def tFor (wi : TI) (g : TG) (tb : TS) : TS := fun D σ H => wi σ H fun J H1 => ∃ W : Nat → Nat → St → Hp → Prop, (∃ m, W 0 m σ H1) ∧ ∀ i m σ H, W i m σ H →
  (J.stop i H ∧ D.nx σ H) ∨ (J.go i H ∧ ∃ N : St → Hp → Prop, (∀ σ' H', N σ' H' → ∃ m', m' < m ∧ W (i + 1) m' σ' H') ∧ ∀ x H', J.yld i H x H' → g x σ H' fun σ2 H2 => tb { D with nx := N, ct := N, bk := D.nx } σ2 H2)
def pinsAt (fp : List Addr) (h : Heap) : List (Addr × Obj) := fp.filterMap fun b => (h.get? b).map fun o => (b, o)
theorem mem_pinsAt {fp : List Addr} {h : Heap} {b : Addr} {o : Obj} (hb : b ∈ fp) (e : h.get? b = some o) : (b, o) ∈ pinsAt fp h := List.mem_filterMap.mpr ⟨b, hb, by rw [e]; rfl⟩
theorem of_pinsAt {fp : List Addr} {h : Heap} {p : Addr × Obj} (hp : p ∈ pinsAt fp h) : p.1 ∈ fp ∧ h.get? p.1 = some p.2 := by
  obtain ⟨b, hb, e⟩ := List.mem_filterMap.mp hp
  cases q : h.get? b with
  | none => rw [q] at e; cases e
  | some o =>
    rw [q] at e
    have e' : (b, o) = p := Option.some.inj e
    subst e'
    exact ⟨hb, q⟩
theorem Inv.pinned {pins : List (Addr × Obj)} {σ : St} {H : Hp} {s : Shared} {fp : List Addr} (I : Inv X pins σ H s) (hf : ∀ b ∈ fp, FpOk X pins H b) (ho : ∀ b ∈ fp, ∃ o, s.heap.get? b = some o ∧ ∀ v, o.data ≠ .cell v) : Inv X (pins ++ pinsAt fp s.heap) σ H s :=
  I.pins_of fun p hp => (List.mem_append.mp hp).elim (fun z => I.pin p (List.mem_append_right _ z)) fun z => by
    obtain ⟨hb, e⟩ := of_pinsAt z
    obtain ⟨f0, f1, f2, _⟩ := hf p.1 hb
    obtain ⟨o, e', d⟩ := ho p.1 hb
    rw [e] at e'; cases e'
    exact ⟨e, f0, f1, f2, d⟩
theorem Inv.unpinned {pins pl : List (Addr × Obj)} {σ : St} {H : Hp} {s : Shared} (I : Inv X (pins ++ pl) σ H s) : Inv X pins σ H s := I.pins_of fun p hp => I.pin p (List.mem_append_right _ (List.mem_append_left _ hp))
theorem ps_for {iter : Expr} {body : List Stmt} {wi : TI} {g : TG} {tb : TS} {pos : Pos} (hp : PassesOwn (model X.prog X.w) X.A X.env X.xe) (hc : X.calm = true) (hi : PI X tg iter wi) (hg : PG X tg g) (hb : PSs X body tb)
    (hs : ∀ x, foldedSetIterable iter X.env x = pure x := by intro _; rfl) : PS X (.For tg iter body [] pos) (tFor wi g tb) := by
  intro pins s σ H D I h
  refine wpAny_For (thn (hi pins s σ H _ I h) fun v s1 h1 => thn h1 fun itv s2 h2 => ?_) hs
  obtain ⟨it, fp, tn, J, H2, e, I2, T, st2, f2, W, ⟨m0, w0⟩, turn⟩ := h2
  subst e
  have stat : ∀ {H' : Hp}, (∀ b ∈ fp, H' b = none) → ∀ b ∈ fp, FpOk X pins H' b := fun hn b hb => ⟨hn b hb, (f2 b hb).2⟩
  refine codeAny_forLoop_any (fun n s' => ∃ i σ' H', Inv X pins σ' H' s' ∧ tn i s'.heap ∧ (∀ b ∈ fp, H' b = none) ∧ W i n σ' H') ?_ m0 ⟨0, σ, H2, I2, st2, fun b hb => (f2 b hb).1, w0⟩
  rintro n s3 ⟨i, σ3, H3, I3, st3, fr3, w3⟩
  rcases turn i n σ3 H3 w3 with ⟨stop, qn⟩ | ⟨go, N, hN, step⟩
  · refine wpAny_passesOwn hp (thn (T.done X rfl rfl rfl hc i pins s3 σ3 H3 X.xe I3 (stat fr3) st3 stop) fun r s4 ⟨hr, I4⟩ => ?_)
    subst hr
    exact wpAny_execs_nil ⟨σ3, H3, I4, qn⟩
  · refine wpAny_passesOwn hp (thn (T.item X rfl rfl rfl hc i pins s3 σ3 H3 X.xe I3 (stat fr3) st3 go) fun r s4 ⟨u, hr, h4⟩ => ?_)
    subst hr
    refine wpAny_passesOwn hp (thn h4 fun _ s5 ⟨x, H5, I5, r5, y5, st5, fr5⟩ => ?_)
    have I5' := I5.pinned (stat fr5) (T.obj _ _ st5)
    refine wpAny_passesOwn hp (thn (hg _ s5 σ3 H5 x u _ I5' r5 (step x H5 y5)) fun _ s6 ⟨σ6, H6, I6, q6⟩ => ?_)
    refine wpAny_passesOwn hp (thn (hb _ s6 σ6 H6 _ I6 q6) fun f s7 q7 => ?_)
    have again : ∀ {σ7 : St} {H7 : Hp}, Inv X (pins ++ pinsAt fp s5.heap) σ7 H7 s7 → N σ7 H7 → ∃ m, m < n ∧ ∃ i σ' H', Inv X pins σ' H' s7 ∧ tn i s7.heap ∧ (∀ b ∈ fp, H' b = none) ∧ W i m σ' H' := fun {σ7 H7} I7 n7 => by
      obtain ⟨m', hm, w7⟩ := hN σ7 H7 n7
      refine ⟨m', hm, i + 1, σ7, H7, I7.unpinned, T.keep _ _ _ st5 fun b hb o e => (I7.pin (b, o) (List.mem_append_right _ (List.mem_append_right _ (mem_pinsAt hb e)))).1, fun b hb => ?_, w7⟩
      obtain ⟨o, e, d⟩ := T.obj _ _ st5 b hb
      exact (I7.pin (b, o) (List.mem_append_right _ (List.mem_append_right _ (mem_pinsAt hb e)))).2.1
    cases f with
    | next => obtain ⟨σ7, H7, I7, n7⟩ := q7; exact again I7 n7
    | cont => obtain ⟨σ7, H7, I7, n7⟩ := q7; exact again I7 n7
    | brk => obtain ⟨σ7, H7, I7, q7⟩ := q7; exact ⟨σ7, H7, I7.unpinned, q7⟩
    | ret v => obtain ⟨x7, σ7, H7, I7, r7, q7⟩ := q7; exact ⟨x7, σ7, H7, I7.unpinned, r7, q7⟩
end
theorem for_list {K : PySem.W.Frag} {a : Addr} {xs : List V} {g : TG} {tb : TS} {D : Ends} {σ : St} {H : Hp} (Pv : Nat → St → Hp → Prop) (h0 : Pv 0 σ H) (hl : ∀ i σ H, i ≤ xs.length → Pv i σ H → SqL K H a xs)
    (hs : ∀ i x σ H, xs[i]? = some x → Pv i σ H → g x σ H fun σ2 H2 => tb { D with nx := Pv (i + 1), ct := Pv (i + 1), bk := D.nx } σ2 H2) (hd : ∀ σ H, Pv xs.length σ H → D.nx σ H) :
    ∃ W : Nat → Nat → St → Hp → Prop, (∃ m, W 0 m σ H) ∧ ∀ i m σ H, W i m σ H →
      ((Itl K a).stop i H ∧ D.nx σ H) ∨ ((Itl K a).go i H ∧ ∃ N : St → Hp → Prop, (∀ σ' H', N σ' H' → ∃ m', m' < m ∧ W (i + 1) m' σ' H') ∧ ∀ x H', (Itl K a).yld i H x H' → g x σ H' fun σ2 H2 => tb { D with nx := N, ct := N, bk := D.nx } σ2 H2) := by
  refine ⟨fun i m σ H => m = xs.length - i ∧ i ≤ xs.length ∧ Pv i σ H, ⟨xs.length, by simp, Nat.zero_le _, h0⟩, ?_⟩
  rintro i m σ H ⟨rfl, hi, p⟩
  have q := hl i σ H hi p
  by_cases hlt : i < xs.length
  · refine .inr ⟨⟨xs, xs[i], q, by simp [hlt]⟩, Pv (i + 1), fun σ' H' p' => ⟨xs.length - (i + 1), by omega, rfl, hlt, p'⟩, fun x H' y => ?_⟩
    obtain ⟨e, y⟩ := y
    subst e
    exact hs i x σ _ (y xs q) p
  · have e : i = xs.length := by omega
    subst e
    exact .inl ⟨⟨xs, q, Nat.le_refl _⟩, hd σ H p⟩
theorem for_tup {K : PySem.W.Frag} {a : Addr} {xs : List V} {g : TG} {tb : TS} {D : Ends} {σ : St} {H : Hp} (Pv : Nat → St → Hp → Prop) (h0 : Pv 0 σ H) (hl : ∀ i σ H, i ≤ xs.length → Pv i σ H → SqT K H a xs)
    (hs : ∀ i x σ H, xs[i]? = some x → Pv i σ H → g x σ H fun σ2 H2 => tb { D with nx := Pv (i + 1), ct := Pv (i + 1), bk := D.nx } σ2 H2) (hd : ∀ σ H, Pv xs.length σ H → D.nx σ H) :
    ∃ W : Nat → Nat → St → Hp → Prop, (∃ m, W 0 m σ H) ∧ ∀ i m σ H, W i m σ H →
      ((Itt K a).stop i H ∧ D.nx σ H) ∨ ((Itt K a).go i H ∧ ∃ N : St → Hp → Prop, (∀ σ' H', N σ' H' → ∃ m', m' < m ∧ W (i + 1) m' σ' H') ∧ ∀ x H', (Itt K a).yld i H x H' → g x σ H' fun σ2 H2 => tb { D with nx := N, ct := N, bk := D.nx } σ2 H2) := by
  refine ⟨fun i m σ H => m = xs.length - i ∧ i ≤ xs.length ∧ Pv i σ H, ⟨xs.length, by simp, Nat.zero_le _, h0⟩, ?_⟩
  rintro i m σ H ⟨rfl, hi, p⟩
  have q := hl i σ H hi p
  by_cases hlt : i < xs.length
  · refine .inr ⟨⟨xs, xs[i], q, by simp [hlt]⟩, Pv (i + 1), fun σ' H' p' => ⟨xs.length - (i + 1), by omega, rfl, hlt, p'⟩, fun x H' y => ?_⟩
    obtain ⟨e, y⟩ := y
    subst e
    exact hs i x σ _ (y xs q) p
  · have e : i = xs.length := by omega
    subst e
    exact .inl ⟨⟨xs, q, Nat.le_refl _⟩, hd σ H p⟩
theorem while_by {c : TT} {tb : TS} {D : Ends} {σ : St} {H : Hp} (Pv : St → Hp → Prop) (μ : St → Hp → Nat) (h0 : Pv σ H)
    (hs : ∀ σ H, Pv σ H → c σ H fun b H1 => if b = true then tb { D with nx := fun σ' H' => Pv σ' H' ∧ μ σ' H' < μ σ H, ct := fun σ' H' => Pv σ' H' ∧ μ σ' H' < μ σ H, bk := D.nx } σ H1 else D.nx σ H1)
    (mono : ∀ σ H Q Q', (∀ b H1, Q b H1 → Q' b H1) → c σ H Q → c σ H Q') : tWhile c tb D σ H := by
  refine ⟨fun m σ H => m = μ σ H ∧ Pv σ H, ⟨_, rfl, h0⟩, ?_⟩
  rintro m σ H ⟨rfl, p⟩
  refine mono σ H _ _ (fun b H1 q => ?_) (hs σ H p)
  cases b with
  | true => exact ⟨_, fun σ' H' ⟨p', l⟩ => ⟨_, l, rfl, p'⟩, q⟩
  | false => exact q
end L2
namespace L2
open PySem PySem.Spec PyProof.Rows
abbrev R2 := V → V → Hp → VK → Prop
def OpR (X : Cx) (f : Value → Value → Sem Value) (r : R2) : Prop :=
  ∀ (pins : List (Addr × Obj)) (s : Shared) (σ : St) (H : Hp) (x y : V) (v u : Value) (Q : VK), Inv X pins σ H s → RelV x v → RelV y u → r x y H Q →
    wpAny (model X.prog X.w) X.A (f v u) (EP X pins σ Q) X.xe s
def UnR (X : Cx) (f : Value → Sem Value) (r : V → Hp → VK → Prop) : Prop :=
  ∀ (pins : List (Addr × Obj)) (s : Shared) (σ : St) (H : Hp) (x : V) (v : Value) (Q : VK), Inv X pins σ H s → RelV x v → r x H Q →
    wpAny (model X.prog X.w) X.A (f v) (EP X pins σ Q) X.xe s
def CallR (X : Cx) (f : Value) (r : List V → Hp → VK → Prop) : Prop :=
  ∀ (pins : List (Addr × Obj)) (s : Shared) (σ : St) (H : Hp) (xs : List V) (us : List Value) (Q : VK), Inv X pins σ H s → Vals xs us → r xs H Q →
    wpAny (model X.prog X.w) X.A (call f us) (EP X pins σ Q) X.xe s
def tOp (r : R2) (ta tb : TE) : TE := fun σ H Q => ta σ H fun x H1 => tb σ H1 fun y H2 => r x y H2 Q
def tUn (r : V → Hp → VK → Prop) (ta : TE) : TE := fun σ H Q => ta σ H fun x H1 => r x H1 Q
def rI (C : Int → Int → Prop) (g : Int → Int → V) : R2 := fun x y H Q => ∃ i j, x = .int i ∧ y = .int j ∧ C i j ∧ Q (g i j) H
def rI0 (g : Int → Int → V) : R2 := fun x y H Q => ∃ i j, x = .int i ∧ y = .int j ∧ Q (g i j) H
def rU (g : Int → V) : V → Hp → VK → Prop := fun x H Q => ∃ i, x = .int i ∧ Q (g i) H
section
variable {X : Cx} {a b c : Expr} {ta tb tc : TE} {pos : Pos}
theorem binT (ha : PE X a ta) (hb : PE X b tb) {pins : List (Addr × Obj)} {s : Shared} {σ : St} {H : Hp} {R : V → V → Hp → Prop} (I : Inv X pins σ H s)
    (h : ta σ H fun x H1 => tb σ H1 fun y H2 => R x y H2) {Q : Value → Shared → Prop} {f : Value → Value → Sem Value}
    (hf : ∀ v u s2 x y H2, Inv X pins σ H2 s2 → RelV x v → RelV y u → R x y H2 → wpAny (model X.prog X.w) X.A (f v u) Q X.xe s2) :
    wpAny (model X.prog X.w) X.A (eval a X.env) (fun v s₁ => wpAny (model X.prog X.w) X.A (eval b X.env) (fun u s₂ => wpAny (model X.prog X.w) X.A (f v u) Q X.xe s₂) X.xe s₁) X.xe s := by
  refine thn (ha pins s σ H _ I h) fun v s1 ⟨x, H1, I1, r1, q1⟩ => ?_
  refine thn (hb pins s1 σ H1 _ I1 q1) fun u s2 ⟨y, H2, I2, r2, q2⟩ => ?_
  exact hf v u s2 x y H2 I2 r1 r2 q2
theorem pe_op {op : Operator} {r : R2} (ho : OpR X (binaryOp op) r) (ha : PE X a ta) (hb : PE X b tb) : PE X (.BinOp a op b pos) (tOp r ta tb) := by
  intro pins s σ H Q I h
  exact wpAny_BinOp (binT ha hb I h fun v u s2 x y H2 I2 rx ry q => ho pins s2 σ H2 x y v u Q I2 rx ry q)
theorem pe_un {op : UnaryOp} {r : V → Hp → VK → Prop} (ho : UnR X (unaryOp op) r) (ha : PE X a ta) : PE X (.UnaryOp op a pos) (tUn r ta) := by
  intro pins s σ H Q I h
  exact UnaryOp_ (thn (ha pins s σ H _ I h) fun v s1 ⟨x, H1, I1, r1, q1⟩ => ho pins s1 σ H1 x v Q I1 r1 q1)
theorem opI {f : Value → Value → Sem Value} {C : Int → Int → Prop} {g : Int → Int → Int}
    (rule : ∀ (i j : Int) (t u : Tok) (s : Shared) (Q : Value → Shared → Prop) (E : Value → Shared → Prop), C i j → Q (.int (g i j) s.toks) { s with toks := s.toks + 1 } → wpAny (model X.prog X.w) X.A (f (.int i t) (.int j u)) Q E s) :
    OpR X f (rI C fun i j => .int (g i j)) := by
  intro pins s σ H x y v u Q I rx ry h
  obtain ⟨i, j, rfl, rfl, hc, q⟩ := h
  obtain ⟨t, rfl⟩ := rx
  obtain ⟨t', rfl⟩ := ry
  exact rule i j t t' s _ _ hc ⟨.int (g i j), H, I.tok _, ⟨_, rfl⟩, q⟩
theorem opI0 {f : Value → Value → Sem Value} {g : Int → Int → Int}
    (rule : ∀ (i j : Int) (t u : Tok) (s : Shared) (Q : Value → Shared → Prop) (E : Value → Shared → Prop), Q (.int (g i j) s.toks) { s with toks := s.toks + 1 } → wpAny (model X.prog X.w) X.A (f (.int i t) (.int j u)) Q E s) :
    OpR X f (rI0 fun i j => .int (g i j)) := by
  intro pins s σ H x y v u Q I rx ry h
  obtain ⟨i, j, rfl, rfl, q⟩ := h
  obtain ⟨t, rfl⟩ := rx
  obtain ⟨t', rfl⟩ := ry
  exact rule i j t t' s _ _ ⟨.int (g i j), H, I.tok _, ⟨_, rfl⟩, q⟩
theorem opB0 {f : Value → Value → Sem Value} {g : Int → Int → Bool}
    (rule : ∀ (i j : Int) (t u : Tok) (s : Shared) (Q : Value → Shared → Prop) (E : Value → Shared → Prop), Q (.bool (g i j)) s → wpAny (model X.prog X.w) X.A (f (.int i t) (.int j u)) Q E s) :
    OpR X f (rI0 fun i j => .bl (g i j)) := by
  intro pins s σ H x y v u Q I rx ry h
  obtain ⟨i, j, rfl, rfl, q⟩ := h
  obtain ⟨t, rfl⟩ := rx
  obtain ⟨t', rfl⟩ := ry
  exact rule i j t t' s _ _ ⟨.bl (g i j), H, I, rfl, q⟩
def CMul (i j : Int) : Prop := (-(2 ^ 64) < i ∧ i < 2 ^ 64) ∨ (-(2 ^ 64) < j ∧ j < 2 ^ 64)
theorem CMul.ok {i j : Int} (h : CMul i j) : IntMulOk i j := by
  rcases h with ⟨h1, h2⟩ | ⟨h1, h2⟩
  · exact .of_left (intBits_le_64 h1 h2)
  · exact .of_right (intBits_le_64 h1 h2)
theorem op_add : OpR X (binaryOp .Add) (rI0 fun i j => .int (i + j)) := opI0 fun _ _ _ _ _ _ _ q => add_int q
theorem op_sub : OpR X (binaryOp .Sub) (rI0 fun i j => .int (i - j)) := opI0 fun _ _ _ _ _ _ _ q => sub_int q
theorem op_mul : OpR X (binaryOp .Mult) (rI CMul fun i j => .int (i * j)) := opI fun _ _ _ _ _ _ _ hc q => mul_int q hc.ok
theorem op_mod : OpR X (binaryOp .Mod) (rI (fun _ j => 0 < j) fun i j => .int (i % j)) := opI fun i j _ _ _ _ _ hc q => by
  have h1 : (0 : Int) < j := hc
  exact mod_int' (by omega) (by rw [Int.fmod_eq_emod_of_nonneg i (by omega)]; exact q)
theorem iop_mul : OpR X (inplaceOp .Mult) (rI CMul fun i j => .int (i * j)) := opI fun _ _ _ _ _ _ _ hc q => imul_int q hc.ok
theorem unI {f : Value → Sem Value} {g : Int → Int}
    (rule : ∀ (i : Int) (t : Tok) (s : Shared) (Q : Value → Shared → Prop) (E : Value → Shared → Prop), Q (.int (g i) s.toks) { s with toks := s.toks + 1 } → wpAny (model X.prog X.w) X.A (f (.int i t)) Q E s) :
    UnR X f (rU fun i => .int (g i)) := by
  intro pins s σ H x v Q I rx h
  obtain ⟨i, rfl, q⟩ := h
  obtain ⟨t, rfl⟩ := rx
  exact rule i t s _ _ ⟨.int (g i), H, I.tok _, ⟨_, rfl⟩, q⟩
theorem un_neg : UnR X (unaryOp .USub) (rU fun i => .int (-i)) := unI fun _ _ _ _ _ q => neg_int q
end
def scal : V → V → Bool
  | .non, .non => true | .non, .int _ => true | .int _, .non => true | .non, .bl _ => true | .bl _, .non => true | .non, .str _ => true | .str _, .non => true
  | .int _, .int _ => true | .bl _, .bl _ => true | .str _, .str _ => true | .byt _, .byt _ => true
  | .int _, .str _ => true | .str _, .int _ => true | .bl _, .str _ => true | .str _, .bl _ => true
  | _, _ => false
def rEq : R2 := fun x y H Q => scal x y = true ∧ Q (.bl (decide (x = y))) H
def rNe : R2 := fun x y H Q => scal x y = true ∧ Q (.bl (!decide (x = y))) H
theorem dec_int {i j : Int} : decide (V.int i = V.int j) = (i == j) := by
  rw [Bool.eq_iff_iff]
  simp
theorem dec_bl {i j : Bool} : decide (V.bl i = V.bl j) = (i == j) := by
  rw [Bool.eq_iff_iff]
  simp
theorem dec_str {i j : Str} : decide (V.str i = V.str j) = (i == j) := by
  rw [Bool.eq_iff_iff]
  simp
theorem dec_byt {i j : Array UInt8} : decide (V.byt i = V.byt j) = (i.toList == j.toList) := by
  rw [Bool.eq_iff_iff]
  cases i
  cases j
  simp
section
variable {X : Cx} {a b c : Expr} {ta tb tc : TE} {pos : Pos}
theorem fin_bl {pins : List (Addr × Obj)} {σ : St} {H : Hp} {s : Shared} {Q : VK} {k k' : Bool} (I : Inv X pins σ H s) (q : Q (.bl k) H) (e : k = k') : EP X pins σ Q (.bool k') s := by
  subst e
  exact ⟨.bl k, H, I, rfl, q⟩
theorem op_eq : OpR X (compareOp .Eq) rEq := by
  intro pins s σ H x y v u Q I rx ry h
  obtain ⟨hs, q⟩ := h
  cases x with
  | non =>
    cases rx
    cases y with
    | non => cases ry; exact PySem.EqNone.eq_none_none (fin_bl I q (by simp))
    | bl j => cases ry; exact PySem.EqNone.eq_none_bool (fin_bl I q (by simp))
    | int j => obtain ⟨t', rfl⟩ := ry; exact PySem.EqNone.eq_none_int (fin_bl I q (by simp))
    | str j => obtain ⟨t', rfl⟩ := ry; exact PySem.EqNone.eq_none_str (fin_bl I q (by simp))
    | _ => exact absurd (show false = true from hs) Bool.false_ne_true
  | bl i =>
    cases rx
    cases y with
    | non => cases ry; exact PySem.EqNone.eq_bool_none (fin_bl I q (by simp))
    | bl j => cases ry; exact eq_bool (fin_bl I q dec_bl)
    | str j => obtain ⟨t', rfl⟩ := ry; exact PySem.EqMixed.eq_bool_str (fin_bl I q (by simp))
    | _ => exact absurd (show false = true from hs) Bool.false_ne_true
  | int i =>
    obtain ⟨t, rfl⟩ := rx
    cases y with
    | non => cases ry; exact PySem.EqNone.eq_int_none (fin_bl I q (by simp))
    | int j => obtain ⟨t', rfl⟩ := ry; exact eq_int (fin_bl I q dec_int)
    | str j => obtain ⟨t', rfl⟩ := ry; exact PySem.EqMixed.eq_int_str (fin_bl I q (by simp))
    | _ => exact absurd (show false = true from hs) Bool.false_ne_true
  | str i =>
    obtain ⟨t, rfl⟩ := rx
    cases y with
    | non => cases ry; exact PySem.EqNone.eq_str_none (fin_bl I q (by simp))
    | bl j => cases ry; exact PySem.EqMixed.eq_str_bool (fin_bl I q (by simp))
    | int j => obtain ⟨t', rfl⟩ := ry; exact PySem.EqMixed.eq_str_int (fin_bl I q (by simp))
    | str j => obtain ⟨t', rfl⟩ := ry; exact eq_str (fin_bl I q dec_str)
    | _ => exact absurd (show false = true from hs) Bool.false_ne_true
  | byt i =>
    obtain ⟨t, rfl⟩ := rx
    cases y with
    | byt j => obtain ⟨t', rfl⟩ := ry; exact PySem.W.eq_bytes (fin_bl I q dec_byt)
    | _ => exact absurd (show false = true from hs) Bool.false_ne_true
  | _ => cases y <;> exact absurd (show false = true from hs) Bool.false_ne_true
theorem op_ne : OpR X (compareOp .NotEq) rNe := by
  intro pins s σ H x y v u Q I rx ry h
  obtain ⟨hs, q⟩ := h
  cases x with
  | non =>
    cases rx
    cases y with
    | non => cases ry; exact PySem.EqNone.ne_none_none (fin_bl I q (by simp))
    | bl j => cases ry; exact PySem.EqNone.ne_none_bool (fin_bl I q (by simp))
    | int j => obtain ⟨t', rfl⟩ := ry; exact PySem.EqNone.ne_none_int (fin_bl I q (by simp))
    | str j => obtain ⟨t', rfl⟩ := ry; exact PySem.EqNone.ne_none_str (fin_bl I q (by simp))
    | _ => exact absurd (show false = true from hs) Bool.false_ne_true
  | bl i =>
    cases rx
    cases y with
    | non => cases ry; exact PySem.EqNone.ne_bool_none (fin_bl I q (by simp))
    | bl j => cases ry; exact ne_bool (fin_bl I q (congrArg not dec_bl))
    | str j => obtain ⟨t', rfl⟩ := ry; exact PySem.EqMixed.ne_bool_str (fin_bl I q (by simp))
    | _ => exact absurd (show false = true from hs) Bool.false_ne_true
  | int i =>
    obtain ⟨t, rfl⟩ := rx
    cases y with
    | non => cases ry; exact PySem.EqNone.ne_int_none (fin_bl I q (by simp))
    | int j => obtain ⟨t', rfl⟩ := ry; exact ne_int (fin_bl I q (congrArg not dec_int))
    | str j => obtain ⟨t', rfl⟩ := ry; exact PySem.EqMixed.ne_int_str (fin_bl I q (by simp))
    | _ => exact absurd (show false = true from hs) Bool.false_ne_true
  | str i =>
    obtain ⟨t, rfl⟩ := rx
    cases y with
    | non => cases ry; exact PySem.EqNone.ne_str_none (fin_bl I q (by simp))
    | bl j => cases ry; exact PySem.EqMixed.ne_str_bool (fin_bl I q (by simp))
    | int j => obtain ⟨t', rfl⟩ := ry; exact PySem.EqMixed.ne_str_int (fin_bl I q (by simp))
    | str j => obtain ⟨t', rfl⟩ := ry; exact ne_str (fin_bl I q (congrArg not dec_str))
    | _ => exact absurd (show false = true from hs) Bool.false_ne_true
  | byt i =>
    obtain ⟨t, rfl⟩ := rx
    cases y with
    | byt j => obtain ⟨t', rfl⟩ := ry; exact PySem.W.ne_bytes (fin_bl I q (congrArg not dec_byt))
    | _ => exact absurd (show false = true from hs) Bool.false_ne_true
  | _ => cases y <;> exact absurd (show false = true from hs) Bool.false_ne_true
theorem op_lt : OpR X (compareOp .Lt) (rI0 fun i j => .bl (decide (i < j))) := opB0 fun _ _ _ _ _ _ _ q => lt_int q
theorem op_le : OpR X (compareOp .LtE) (rI0 fun i j => .bl (decide (i ≤ j))) := opB0 fun _ _ _ _ _ _ _ q => le_int q
theorem op_gt : OpR X (compareOp .Gt) (rI0 fun i j => .bl (decide (j < i))) := opB0 fun _ _ _ _ _ _ _ q => gt_int q
theorem op_ge : OpR X (compareOp .GtE) (rI0 fun i j => .bl (decide (j ≤ i))) := opB0 fun _ _ _ _ _ _ _ q => ge_int q
theorem nomark (b : Expr) {op : CmpOp} (h : op ≠ .In := by decide) (h2 : op ≠ .NotIn := by decide) : behindInMarks op b = false := by
  have e1 : (op == CmpOp.In) = false := by cases op <;> first | rfl | exact absurd rfl h
  have e2 : (op == CmpOp.NotIn) = false := by cases op <;> first | rfl | exact absurd rfl h2
  cases b <;> simp [behindInMarks, e1, e2]
theorem pe_cmpR {op : CmpOp} {r : R2} (ho : OpR X (compareOp op) r) (ha : PE X a ta) (hb : PE X b tb) (hm : behindInMarks op b = false) : PE X (.Compare a [op] [b] pos) (tOp r ta tb) := by
  intro pins s σ H Q I h
  exact wpAny_Compare1 (binT ha hb I h fun v u s2 x y H2 I2 rx ry q => ho pins s2 σ H2 x y v u Q I2 rx ry q) hm
def tTest (t : TE) : TT := fun σ H Q => t σ H fun x H' => ∃ k, x = .bl k ∧ Q k H'
theorem pt_cmpR {op : CmpOp} {r : R2} (ho : OpR X (compareOp op) r) (ha : PE X a ta) (hb : PE X b tb) (hm : behindInMarks op b = false) : PT X (.Compare a [op] [b] pos) (tTest (tOp r ta tb)) := by
  intro pins s σ H Q I h
  refine wpAny_isTrue_Compare1 (thn (ha pins s σ H _ I h) fun v s1 ⟨x, H1, I1, r1, q1⟩ => thn (hb pins s1 σ H1 _ I1 q1) fun u s2 ⟨y, H2, I2, r2, q2⟩ =>
    thn (ho pins s2 σ H2 x y v u _ I2 r1 r2 q2) fun c s3 ⟨z, H3, I3, r3, k, e, q3⟩ => ?_) hm
  subst e
  cases r3
  exact wpAny_truthy_bool ⟨H3, I3, q3⟩
def tChain (r r' : R2) (ta tb tc : TE) : TE := fun σ H Q => ta σ H fun x H1 => tb σ H1 fun y H2 => r x y H2 fun z H3 => ∃ k, z = .bl k ∧
  (if k = true then tc σ H3 fun w' H4 => r' y w' H4 Q else Q (.bl false) H3)
theorem pe_chain {op op' : CmpOp} {r r' : R2} (ho : OpR X (compareOp op) r) (ho' : OpR X (compareOp op') r') (ha : PE X a ta) (hb : PE X b tb) (hc : PE X c tc)
    (hm : lastMarks [op, op'] [b, c] = false := by with_unfolding_all rfl) : PE X (.Compare a [op, op'] [b, c] pos) (tChain r r' ta tb tc) := by
  intro pins s σ H Q I h
  refine Compare_chain (thn (ha pins s σ H _ I h) fun v s1 ⟨x, H1, I1, r1, q1⟩ => chain_link (thn (hb pins s1 σ H1 _ I1 q1) fun u s2 ⟨y, H2, I2, r2, q2⟩ =>
    thn (ho pins s2 σ H2 x y v u _ I2 r1 r2 q2) fun d s3 ⟨z, H3, I3, r3, k, e, q3⟩ => ?_)) hm
  subst e
  cases r3
  refine wpAny_truthy_bool ?_
  cases k with
  | false => exact ite_ff ⟨.bl false, H3, I3, rfl, q3⟩
  | true => exact ite_tt (chain_last (thn (hc pins s3 σ H3 _ I3 q3) fun w' s4 ⟨z', H4, I4, r4, q4⟩ => ho' pins s4 σ H4 y z' u w' Q I4 r2 r4 q4))
theorem line63 : (sizeLine : Nat) < 2 ^ 63 := by rw [sizeLine_eq]; decide
theorem vals1 {x : V} {us : List Value} (r : Vals [x] us) : ∃ u, us = [u] ∧ RelV x u := by
  cases r with
  | cons r1 r2 => cases r2; exact ⟨_, rfl, r1⟩
theorem call_abs : CallR X (.builtin "abs") (fun xs H Q => ∃ i, xs = [.int i] ∧ Q (.int (if i < 0 then -i else i)) H) := by
  intro pins s σ H xs us Q I r h
  obtain ⟨i, rfl, q⟩ := h
  obtain ⟨u, rfl, t, rfl⟩ := vals1 r
  exact call_abs_int fun u tk => ⟨.int (if i < 0 then -i else i), H, I.tok _, ⟨_, rfl⟩, q⟩
theorem call_ord : CallR X (.builtin "ord") (fun xs H Q => ∃ x, xs = [.str x] ∧ x.length = 1 ∧ Q (.int (x.cps.getD 0 0 : Nat)) H) := by
  intro pins s σ H xs us Q I r h
  obtain ⟨x, rfl, hz, q⟩ := h
  obtain ⟨u, rfl, t, rfl⟩ := vals1 r
  exact ord_of_one hz ⟨.int _, H, I.tok _, ⟨_, rfl⟩, q⟩
end
end L2
namespace L2
open PySem PySem.Spec PyProof.Rows
structure ObjM (h : Heap) (x dx C : Addr) (mA : Str → Option Value) : Prop where
  obj : h.get? x = some (PySem.W.instObj C dx)
  ns : h.Ns1 dx mA
  ne : dx ≠ x
theorem lookIn_ns {h : Heap} {dx : Addr} {mA : Str → Option Value} (n : h.Ns1 dx mA) : ∃ od, h.get? dx = some od ∧ ∀ name, PySem.W.lookIn name od = some (mA name) := by
  obtain ⟨o, es, ep, ho, hd, hk, _, hm⟩ := n
  refine ⟨o, ho, fun name => ?_⟩
  have e := hm name
  unfold nsFind findBy at e
  rw [← Array.find?_toList] at e
  unfold PySem.W.lookIn
  rw [hd]
  dsimp only
  split
  · rename_i y q
    rw [q] at e
    exact congrArg some e
  · rename_i q
    rw [q] at e
    have a : es.toList.any (·.refKey) = false := by
      rw [List.any_eq_false]
      intro y hy
      obtain ⟨z, t, hkey⟩ := hk y (Array.mem_toList_iff.mp hy)
      simp [DictEntry.refKey, hkey]
    have a' : ¬ es.toList.any (·.refKey) = true := by rw [a]; exact Bool.false_ne_true
    rw [if_neg a']
    exact congrArg some e
theorem ObjM.look {h : Heap} {x dx C : Addr} {mA : Str → Option Value} (I : ObjM h x dx C mA) : ∃ od, PySem.W.InstAt h x (PySem.W.instObj C dx) C (some od) ∧ ∀ name, PySem.W.lookIn name od = some (mA name) :=
  let ⟨od, ho, hl⟩ := lookIn_ns I.ns
  ⟨od, ⟨I.obj, rfl, rfl, ho⟩, hl⟩
section
variable {prog : Program} {w : World} {A : Around} {E : Value → Shared → Prop} {s : Shared} {K : PySem.W.Frag} {x dx C f : Addr} {mA : Str → Option Value} {name : Str} {v : Value}
theorem get_map {expr : Bool} {Q : Value → Shared → Prop} (X : K.In s.heap) (I : ObjM s.heap x dx C mA) (hg : PySem.W.plainGet K C name = true) (hh : PySem.W.hasDictIn K C = true)
    (ha : PySem.W.findIn K (.ref C) name = some none) (hv : mA name = some v) (hv' : PySem.W.handedIn v = true) (h : Q v { s with toks := s.toks + 1 }) :
    wpAny (model prog w) A (getAttr (.ref x) name expr) Q E s := by
  obtain ⟨od, J, hl⟩ := I.look
  exact PySem.W.get_value X J (PySem.W.plainGet_of hg).1 (PySem.W.findObj_own hh ha rfl (by rw [hl, hv])) hv' h
theorem get_meth {pl : Sem Bool} {Q : Value × List Value → Shared → Prop} (X : K.In s.heap) (I : ObjM s.heap x dx C mA) (hg : PySem.W.plainGet K C name = true)
    (hf : PySem.W.findIn K (.ref C) name = some (some (.ref f))) (ht : PySem.W.isFn K (.ref f) = true) (hv : mA name = none) (h : Q (.ref f, [.ref x]) s) :
    wpAny (model prog w) A (getMethod (.ref x) name pl) Q E s := by
  obtain ⟨od, J, hl⟩ := I.look
  exact PySem.W.method_fn X J (PySem.W.plainGet_of hg).1 (PySem.W.plainGet_of hg).2 hf (beq_iff_eq.mp ht) (by show (PySem.W.lookIn name od).map (·.isSome) = some false; rw [hl, hv]; rfl) h
theorem set_map {ns : List Str} {Q : Unit → Shared → Prop} (X : K.In s.heap) (I : ObjM s.heap x dx C mA)
    (hs : PySem.W.findIn K (.ref C) "__setattr__" = some (some (.builtin "object.__setattr__"))) (hp : PySem.W.plainOver K C = true) (ht : PySem.W.takerIn K C name = some none) (hh : PySem.W.hasDictIn K C = true)
    (hw : PySem.Within mA ns) (hsz : ns.length ≤ sizeLine)
    (h : ∀ h', ObjM h' x dx C (fun y => if y = name then some v else mA y) → Heap.SameBut dx s.heap h' → Q () { s with heap := h', toks := s.toks + 2 }) :
    wpAny (model prog w) A (setAttr (.ref x) name v) Q E s := by
  obtain ⟨od, J, hl⟩ := I.look
  refine PySem.W.set_plain X J hs (PySem.W.osa_open (s := { s with toks := s.toks + 1 }) (r := none) X J hp ht fun b => ?_)
  obtain ⟨cd, hc, hd'⟩ := PySem.W.any_some hh
  have hx : s.heap.get? x = some ⟨.ref C, some dx, .plain, #[]⟩ := I.obj
  refine wpAny_bind (wpAny_pure (wpAny_bind (wpAny_bind (wpAny_loadPart hx (wpAny_bind (PySem.W.Looks.here (s := { s with toks := s.toks + 1 }) (PySem.W.looks_clsIn X hc) ?_))))))
  rw [hd']
  refine wpAny_pure (a := some dx) (wpAny_bind (wpAny_pure (wpAny_bind ?_)))
  refine wpAny_nsSet1 (s := { s with toks := s.toks + 1 }) I.ns fun h' hn2 hs2 => ?_
  obtain ⟨oD, esD, epD, hoD, hdD, hcD⟩ := hn2.count (PySem.Within.cons name v hw)
  refine wpAny_bind (wpAny_lookBehind hoD (by rw [hdD]; exact pastItsLine_dict (Nat.le_trans hcD (by rw [List.length_cons]; omega))) ?_)
  exact wpAny_pure (h _ ⟨(hs2.2 _ (Ne.symm I.ne)).trans I.obj, hn2, I.ne⟩ hs2)
theorem make_map {R : Result → Shared → Prop} {vs : List Value} {kw : List (Str × Value)} (X : K.In s.heap) (hm : PySem.W.makesIn K C = true)
    (hi : PySem.W.findIn K (.ref C) "__init__" = some (some (.ref f))) (hf : PySem.W.typeIn K (.ref f) = some (.type "function"))
    (h : codeAny (model prog w) (A.under (.builtin "type.__call__" ⟨.ref C :: vs, kw⟩)) (.call (.ref f) ⟨.ref (s.heap.objs.size + 1) :: vs, kw⟩) (PySem.W.InitBack (s.heap.objs.size + 1) R)
      { s with heap := (s.heap.push PySem.W.emptyDict).push (PySem.W.instObj C s.heap.objs.size) }) :
    codeAny (model prog w) A (.call (.ref C) ⟨vs, kw⟩) R s := by
  obtain ⟨hh, g, d, t, os⟩ := s
  exact PySem.W.make_core (PySem.W.makes_of X hm) (PySem.W.looks_findIn X hi) (fun self => PySem.W.bind_fn X self hf) (.inl rfl) h
end
def putF (f : Str) (v : V) : List (Str × V) → List (Str × V)
  | [] => [(f, v)]
  | (g, x) :: r => if g = f then (g, v) :: r else (g, x) :: putF f v r
theorem lookup_putF (f g : Str) (v : V) : ∀ fs : List (Str × V), (putF f v fs).lookup g = if g = f then some v else fs.lookup g
  | [] => by
    show List.lookup g [(f, v)] = _
    by_cases h : g = f
    · have hb : (g == f) = true := beq_iff_eq.mpr h
      simp only [List.lookup, hb, if_pos h]
    · have hb : (g == f) = false := beq_eq_false_iff_ne.mpr h
      simp only [List.lookup, hb, if_neg h]
  | (k, x) :: r => by
    have ih := lookup_putF f g v r
    rw [show putF f v ((k, x) :: r) = (if k = f then (k, v) :: r else (k, x) :: putF f v r) from rfl]
    by_cases hk : k = f
    · rw [if_pos hk]
      by_cases h : g = k
      · have hb : (g == k) = true := beq_iff_eq.mpr h
        simp only [List.lookup, hb, if_pos (h.trans hk)]
      · have hb : (g == k) = false := beq_eq_false_iff_ne.mpr h
        simp only [List.lookup, hb, if_neg (fun e : g = f => h (e.trans hk.symm))]
    · rw [if_neg hk]
      by_cases h : g = k
      · have hb : (g == k) = true := beq_iff_eq.mpr h
        simp only [List.lookup, hb, if_neg (fun e : g = f => hk (h.symm.trans e))]
      · have hb : (g == k) = false := beq_eq_false_iff_ne.mpr h
        simp only [List.lookup, hb]
        exact ih
theorem keys_putF (f : Str) (v : V) : ∀ fs : List (Str × V), f ∈ (putF f v fs).map (·.1) ∧ ∀ g, g ∈ fs.map (·.1) → g ∈ (putF f v fs).map (·.1)
  | [] => ⟨by simp [putF], fun g h => by simp at h⟩
  | (k, x) :: r => by
    obtain ⟨i1, i2⟩ := keys_putF f v r
    rw [show putF f v ((k, x) :: r) = (if k = f then (k, v) :: r else (k, x) :: putF f v r) from rfl]
    by_cases hk : k = f
    · rw [if_pos hk]
      subst hk
      exact ⟨by simp, fun g h => by simpa using h⟩
    · rw [if_neg hk]
      refine ⟨?_, fun g h => ?_⟩
      · rw [List.map_cons]
        exact List.mem_cons_of_mem _ i1
      · rw [List.map_cons] at h ⊢
        rcases List.mem_cons.mp h with e | e
        · exact List.mem_cons.mpr (.inl e)
        · exact List.mem_cons_of_mem _ (i2 g e)
theorem length_putF (f : Str) (v : V) : ∀ fs : List (Str × V), (putF f v fs).length ≤ fs.length + 1
  | [] => by simp [putF]
  | (k, x) :: r => by
    have ih := length_putF f v r
    rw [show putF f v ((k, x) :: r) = (if k = f then (k, v) :: r else (k, x) :: putF f v r) from rfl]
    by_cases hk : k = f
    · rw [if_pos hk, List.length_cons, List.length_cons]; omega
    · rw [if_neg hk, List.length_cons, List.length_cons]; omega
theorem RelO.some_of {v : V} {o : Option Value} (r : RelO (some v) o) : ∃ u, o = some u ∧ RelV v u := by
  cases o with
  | none => exact (show False from r).elim
  | some u => exact ⟨u, rfl, r⟩
theorem RelO.none_of {o : Option Value} (r : RelO none o) : o = none := by
  cases o with
  | none => rfl
  | some u => exact (show False from r).elim
theorem handed_of {v : V} {u : Value} (r : RelV v u) : PySem.W.handedIn u = true := by
  cases v with
  | non => cases (show u = Value.none from r); rfl
  | bl b => cases (show u = Value.bool b from r); rfl
  | int i => obtain ⟨t, e⟩ := (show ∃ t, u = Value.int i t from r); cases e; rfl
  | str x => obtain ⟨t, e⟩ := (show ∃ t, u = Value.str x t from r); cases e; rfl
  | byt b => obtain ⟨t, e⟩ := (show ∃ t, u = Value.bytes b t from r); cases e; rfl
  | flt b => obtain ⟨t, e⟩ := (show ∃ t, u = Value.float b t from r); cases e; rfl
  | ref a => cases (show u = Value.ref a from r); rfl
  | ty n => cases (show u = Value.type n from r); rfl
section
variable {P : Program} {w : World} {H H' : Hp} {h h' : Heap} {a C dx : Addr} {fs fs' : List (Str × V)}
theorem ins_get (hok : HOk P w H h) (e : H a = some (.ins C dx fs)) : ∃ mA, ObjM h a dx C mA ∧ (∀ f, RelO (fs.lookup f) (mA f)) ∧ PySem.Within mA (fs.map (·.1)) ∧ fs.length ≤ 1000 ∧ H dx = some (.own a) := by
  obtain ⟨d, z, ne, ob, mA, n, r, q⟩ := (show ObjOk P w H h a (.ins C dx fs) from hok a _ e)
  exact ⟨mA, ⟨ob, n, ne⟩, r, q, z, d⟩
end
structure Cls (K : PySem.W.Frag) (C : Addr) : Prop where
  pg : PySem.W.plainGet K C Str.empty = true
  hd : PySem.W.hasDictIn K C = true
  po : PySem.W.plainOver K C = true
  sa : PySem.W.findIn K (.ref C) "__setattr__" = some (some (.builtin "object.__setattr__"))
theorem Cls.get {K : PySem.W.Frag} {C : Addr} (c : Cls K C) (f : Str) : PySem.W.plainGet K C f = true := c.pg
def NoAttr (K : PySem.W.Frag) (C : Addr) (f : Str) : Prop := PySem.W.findIn K (.ref C) f = some none
theorem NoAttr.taker {K : PySem.W.Frag} {C : Addr} {f : Str} (n : NoAttr K C f) : PySem.W.takerIn K C f = some none := by
  unfold PySem.W.takerIn
  rw [show PySem.W.findIn K (.ref C) f = some none from n]
  rfl
structure Meth (K : PySem.W.Frag) (C : Addr) (m : Str) (f : Addr) : Prop where
  at_ : PySem.W.findIn K (.ref C) m = some (some (.ref f))
  fn : PySem.W.isFn K (.ref f) = true
  kp : PySem.W.keepIn K (.ref f) = true
section
variable {X : Cx} {pins : List (Addr × Obj)} {σ : St} {H : Hp} {s : Shared} {a C dx : Addr} {fs : List (Str × V)} {f : Str} {v : V} {A : Around} {E : Value → Shared → Prop}
theorem getattr_ok {b : Bool} {Q : Value → Shared → Prop} (I : Inv X pins σ H s) (e : H a = some (.ins C dx fs)) (c : Cls X.K C) (n : NoAttr X.K C f) (l : fs.lookup f = some v)
    (h : ∀ u s', Inv X pins σ H s' → RelV v u → Q u s') : wpAny (model X.prog X.w) A (getAttr (.ref a) f b) Q E s := by
  obtain ⟨mA, O, r, _, _, _⟩ := ins_get I.hok e
  obtain ⟨u, hu, ru⟩ := RelO.some_of (v := v) (o := mA f) (by rw [← l]; exact r f)
  exact get_map I.kIn O (c.get f) c.hd n hu (handed_of ru) (h u _ (I.tok _) ru)
theorem getmeth_ok {m : Str} {g : Addr} {pl : Sem Bool} {Q : Value × List Value → Shared → Prop} (I : Inv X pins σ H s) (e : H a = some (.ins C dx fs)) (c : Cls X.K C) (k : Meth X.K C m g) (l : fs.lookup m = none)
    (h : Q (.ref g, [.ref a]) s) : wpAny (model X.prog X.w) A (getMethod (.ref a) m pl) Q E s := by
  obtain ⟨mA, O, r, _, _, _⟩ := ins_get I.hok e
  have hn : mA m = none := RelO.none_of (by rw [← l]; exact r m)
  exact get_meth I.kIn O (c.get m) k.at_ k.fn hn h
theorem setattr_ok {y : V} {u : Value} {Q : Unit → Shared → Prop} (I : Inv X pins σ H s) (e : H a = some (.ins C dx fs)) (c : Cls X.K C) (n : NoAttr X.K C f) (hl : fs.length < 1000) (ry : RelV y u)
    (h : ∀ s', Inv X pins σ (upd H a (.ins C dx (putF f y fs))) s' → Q () s') : wpAny (model X.prog X.w) A (setAttr (.ref a) f u) Q E s := by
  obtain ⟨mA, O, r, wi, _, ho⟩ := ins_get I.hok e
  have hz : (fs.map (·.1)).length ≤ sizeLine := by rw [List.length_map, sizeLine_eq]; omega
  refine set_map I.kIn O c.sa c.po n.taker c.hd wi hz fun h' O' sb => h _ ?_
  have hd : ∃ o, h'.get? dx = some o := let ⟨o, _, _, e', _⟩ := O'.ns; ⟨o, e'⟩
  refine I.write (x := a) (e := dx) (by rw [e]; exact True.intro) (.inr ho) (fun b q hb z => (sb.2 b hb).trans z) hd ?_
  refine ⟨by rw [upd_ne O.ne]; exact ho, ?_, O.ne, O'.obj, _, O'.ns, fun g => ?_, fun g hg => ?_⟩
  · have := length_putF f y fs; omega
  · show RelO ((putF f y fs).lookup g) (if g = f then some u else mA g)
    rw [lookup_putF]
    by_cases q : g = f
    · rw [if_pos q, if_pos q]; exact ry
    · rw [if_neg q, if_neg q]; exact r g
  · by_cases q : g = f
    · rw [q]; exact (keys_putF f y fs).1
    · refine (keys_putF f y fs).2 g (wi g fun z => hg ?_)
      show (if g = f then some u else mA g) = none
      rw [if_neg q]; exact z
theorem Inv.made (I : Inv X pins σ H s) : Inv X pins σ (upd (upd H s.heap.objs.size (.own (s.heap.objs.size + 1))) (s.heap.objs.size + 1) (.ins C s.heap.objs.size []))
    { s with heap := (s.heap.push PySem.W.emptyDict).push (PySem.W.instObj C s.heap.objs.size) } := by
  have e1 : (s.heap.push PySem.W.emptyDict).get? s.heap.objs.size = some PySem.W.emptyDict := Heap.get?_push_size s.heap rfl
  have e2 : ((s.heap.push PySem.W.emptyDict).push (PySem.W.instObj C s.heap.objs.size)).get? (s.heap.objs.size + 1) = some (PySem.W.instObj C s.heap.objs.size) := by
    have := Heap.get?_push_size (s.heap.push PySem.W.emptyDict) (o := PySem.W.instObj C s.heap.objs.size) rfl
    rwa [Heap.size_push] at this
  have e3 : (s.heap.push PySem.W.emptyDict).Ns s.heap.objs.size (fun _ => none) := ⟨PySem.W.emptyDict, #[], _, e1, rfl, (fun e he => absurd he (by simp)), fun _ => rfl⟩
  have I1 := I.laid (a := s.heap.objs.size) (o := .own (s.heap.objs.size + 1)) (h' := s.heap.push PySem.W.emptyDict) (t' := s.toks) (fun b u q => Heap.get?_push_of_some _ q) (Nat.le_refl _) ⟨_, e1⟩
  refine I1.laid (a := s.heap.objs.size + 1) (o := .ins C s.heap.objs.size []) (t' := s.toks) (fun b u q => Heap.get?_push_of_some _ q) (Nat.le_of_eq (Heap.size_push _ _)) ?_
  have ne : s.heap.objs.size ≠ s.heap.objs.size + 1 := Nat.ne_of_lt (Nat.lt_succ_self _)
  refine ⟨by rw [upd_ne ne, upd_same], Nat.zero_le _, ne, e2, fun _ => none, (Heap.Ns1.of_empty e3).at fun o q => Heap.get?_push_of_some _ q, fun _ => True.intro, fun y hy => absurd rfl hy⟩
theorem attr_of {prog : Program} {w : World} {env : Env} {e : Expr} {f : Str} {pos : Pos} {s : Shared} {Q : Value → Shared → Prop} (hb : attributeBase e f env (eval e env) = eval e env)
    (h : wpAny (model prog w) A (eval e env) (fun o s₁ => wpAny (model prog w) A (getAttr o f true) Q E s₁) E s) : wpAny (model prog w) A (eval (.Attribute e f pos) env) Q E s :=
  Attribute_any_ h (by rw [arm_eval_Attribute, hb])
end
def tFld (K : PySem.W.Frag) (ta : TE) (f : Str) : TE := fun σ H Q => ta σ H fun x H1 => ∃ a C dx fs v, x = .ref a ∧ H1 a = some (.ins C dx fs) ∧ Cls K C ∧ NoAttr K C f ∧ fs.lookup f = some v ∧ Q v H1
def sFld (K : PySem.W.Frag) (ta tv : TE) (f : Str) : TS := fun D σ H => tv σ H fun y H1 => ta σ H1 fun x H2 => ∃ a C dx fs, x = .ref a ∧ H2 a = some (.ins C dx fs) ∧ Cls K C ∧ NoAttr K C f ∧ fs.length < 1000 ∧
  D.nx σ (upd H2 a (.ins C dx (putF f y fs)))
section
variable {X : Cx} {o e value : Expr} {f : Str} {pos pos' tpos : Pos} {ta tv : TE}
theorem pe_fld (he : PE X e ta) (hb : attributeBase e f X.env (eval e X.env) = eval e X.env) : PE X (.Attribute e f pos) (tFld X.K ta f) := by
  intro pins s σ H Q I h
  refine attr_of hb (thn (he pins s σ H _ I h) fun u s1 ⟨x, H1, I1, rx, a, C, dx, fs, v, ex, ea, c, n, l, q⟩ => ?_)
  subst ex
  obtain rfl : u = Value.ref a := rx
  exact getattr_ok I1 ea c n l fun u' s2 I2 ru => ⟨v, H1, I2, ru, q⟩
theorem ps_fld (ha : PE X o ta) (hv : PE X value tv) (hs : swapsWith value (some (.Attribute o f pos')) pos.line X.env = pure false) : PS X (.Assign [.Attribute o f pos'] value pos) (sFld X.K ta tv f) := by
  intro pins s σ H D I h
  refine plainObj_wpAny_Assign_Attribute (thn (hv pins s σ H _ I h) fun u s1 ⟨y, H1, I1, ry, q⟩ => thn (ha pins s1 σ H1 _ I1 q) fun ov s2 ⟨x, H2, I2, rx, a, C, dx, fs, ex, ea, c, n, l, q2⟩ => ?_) hs
  subst ex
  obtain rfl : ov = Value.ref a := rx
  exact setattr_ok I2 ea c n l ry fun s3 I3 => ⟨σ, _, I3, q2⟩
theorem methcall_of {pl : Sem Bool} {m : Str} {apos : Pos} {args : List Expr} {pins : List (Addr × Obj)} {s : Shared} {σ : St} {H : Hp} {Q : Value → Shared → Prop} {te : TE} (he : PE X e te) (I : Inv X pins σ H s)
    (h : te σ H fun x H1 => ∃ a C dx fs g, x = .ref a ∧ H1 a = some (.ins C dx fs) ∧ Cls X.K C ∧ Meth X.K C m g ∧ fs.lookup m = none ∧
      ∀ s1, Inv X pins σ H1 s1 → wpAny (model X.prog X.w) X.A (callWith pos (.ref g) [.ref a] (backTo pos (starEach args X.env)) (backToKw pos (keywordEach [] X.env))) Q X.xe s1)
    (ht : eval (.Call (.Attribute e m apos) args [] pos) X.env = (do
      let ov ← eval e X.env
      standAt apos.atName
      let (f, first) ← holding [ov] (getMethod ov m pl)
      callWith pos f first (backTo pos (starEach args X.env)) (backToKw pos (keywordEach [] X.env)))) :
    wpAny (model X.prog X.w) X.A (eval (.Call (.Attribute e m apos) args [] pos) X.env) Q X.xe s := by
  refine PySem.W.methodCall_KW (pl := pl) (thn (he pins s σ H _ I h) fun u s1 ⟨x, H1, I1, rx, a, C, dx, fs, g, ex, ea, c, k, l, q⟩ => ?_) ht
  subst ex
  obtain rfl : u = Value.ref a := rx
  exact getmeth_ok I1 ea c k l (q s1 I1)
end
end L2
namespace L2
open PySem PySem.Spec PyProof.Rows
structure Room (k : Nat) (A : Around) : Prop where
  hd : A.handled = none
  dp : A.depth + 3 * k + 205 < recursionLimit
  un : A.units + 16 * k + 200 < cLine
theorem Room.mono {j k : Nat} {A : Around} (r : Room k A) (h : j ≤ k) : Room j A := ⟨r.hd, by have := r.dp; omega, by have := r.un; omega⟩
theorem Room.deeper {k : Nat} {A : Around} (r : Room (k + 1) A) (env : Env) : Room k (A.deeper env) :=
  ⟨r.hd, by have := r.dp; show A.depth + 1 + 3 * k + 205 < _; omega, by have := r.un; show A.units + 3 + 16 * k + 200 < _; omega⟩
theorem make_depth {A : Around} {C : Addr} {us : List Value} {kw : List (Str × Value)} : (A.under (.builtin "type.__call__" ⟨.ref C :: us, kw⟩)).depth = A.depth + 1 := by
  first | rfl | simp [Around.under, Code.weight, Code.isCreation, Code.isGuard, Code.isCaller, Code.frames, Code.isFrame, guardIds]
theorem make_units {A : Around} {C : Addr} {us : List Value} {kw : List (Str × Value)} : (A.under (.builtin "type.__call__" ⟨.ref C :: us, kw⟩)).units = A.units + 1 := by
  first | rfl | simp [Around.under, Code.cUnits, Code.frames, Code.isFrame]
theorem Room.make {k : Nat} {A : Around} (r : Room (k + 1) A) (C : Addr) (us : List Value) (kw : List (Str × Value)) : Room k (A.under (.builtin "type.__call__" ⟨.ref C :: us, kw⟩)) :=
  ⟨r.hd, by have := r.dp; rw [make_depth]; omega, by have := r.un; rw [make_units]; omega⟩
theorem Room.depth {k : Nat} {A : Around} (r : Room k A) : A.depth < recursionLimit := by have := r.dp; omega
theorem Room.units {k : Nat} {A : Around} (r : Room k A) : A.units + 64 < cLine := by have := r.un; omega
def tNil : TA := fun _ H Q => Q [] H
def tCons (ta : TE) (tr : TA) : TA := fun σ H Q => ta σ H fun x H1 => tr σ H1 fun xs H2 => Q (x :: xs) H2
section
variable {X : Cx} {e : Expr} {es : List Expr} {te : TE} {t : TA} {pos : Pos}
theorem pa_nil : PA X [] tNil := fun _ _ _ _ H Q I h => Calls.spliced_nil ⟨[], H, I, .nil, h⟩
theorem pa_cons (ha : PE X e te) (hr : PA X es t) (hs : starEach (e :: es) X.env = (false, eval e X.env) :: starEach es X.env := by rfl) : PA X (e :: es) (tCons te t) := by
  intro pos pins s σ H Q I h
  rw [hs]
  show wpAny _ _ (spliced ((false, eval e X.env) :: backTo pos (starEach es X.env))) _ _ s
  refine Calls.spliced_cons (thn (ha pins s σ H _ I h) fun u s1 ⟨x, H1, I1, r1, q1⟩ => ?_)
  exact thn (hr pos pins s1 σ H1 _ I1 q1) fun us s2 ⟨xs, H2, I2, r2, q2⟩ => ⟨x :: xs, H2, I2, .cons r1 r2, q2⟩
def tTup (t : TA) : TE := fun σ H Q => t σ H fun xs H1 => xs.length ≤ sizeLine ∧ ∀ p, H1 p = none → Q (.ref p) (upd H1 p (.tup xs))
def tLst (t : TA) : TE := fun σ H Q => t σ H fun xs H1 => xs.length ≤ sizeLine ∧ ∀ p, H1 p = none → Q (.ref p) (upd H1 p (.lst xs))
theorem pe_tup {x1} (h : PA X es t) : PE X (.Tuple es x1 pos) (tTup t) := by
  intro pins s σ H Q I hq
  refine wpAny_Tuple_spliced (thn (h pos pins s σ H _ I hq) fun us s1 ⟨xs, H1, I1, r, z, q⟩ => ⟨by rw [← r.length]; exact z, ?_⟩)
  have hf : H1 s1.heap.objs.size = none := I1.hok.fresh (Nat.le_refl _)
  refine ⟨.ref s1.heap.objs.size, upd H1 s1.heap.objs.size (.tup xs), I1.laid (t' := s1.toks) (fun b u e => Heap.get?_push_of_some _ e) (Nat.le_refl _) ?_, rfl, q _ hf⟩
  exact ⟨z, us, r, ⟨_, Heap.get?_push_size _ rfl, rfl, _, rfl⟩⟩
theorem pe_lst (h : PA X es t) : PE X (.List es pos) (tLst t) := by
  intro pins s σ H Q I hq
  refine wpAny_List_spliced (thn (h pos pins s σ H _ I hq) fun us s1 ⟨xs, H1, I1, r, z, q⟩ => ⟨by rw [← r.length]; exact z, ?_⟩)
  have hf : H1 s1.heap.objs.size = none := I1.hok.fresh (Nat.le_refl _)
  refine ⟨.ref s1.heap.objs.size, upd H1 s1.heap.objs.size (.lst xs), I1.laid (t' := s1.toks) (fun b u e => Heap.get?_push_of_some _ e) (Nat.le_refl _) ?_, rfl, q _ hf⟩
  exact ⟨z, us, 0, r, Heap.get?_push_size _ rfl⟩
end
abbrev Sp := List V → Hp → VK → XK → Prop
abbrev CXT := List Env → Hp → Shared → XK → Value → Shared → Prop
structure Env0 (P : Program) (w : World) (K : PySem.W.Frag) (mg : Str → Option Value) (base : Heap) (A : Around) (outer : List Env) (s : Shared) (H : Hp) : Prop where
  frames : A.frames = some outer
  mod : Mod K mg base
  bs : ∀ b o, base.get? b = some o → s.heap.get? b = some o ∧ H b = none
  bsz : base.objs.size ≤ s.heap.objs.size
  funs : s.heap.FunFrames base outer
  frf : ∀ b ∈ frs outer, H b = none
  hok : HOk P w H s.heap
  bare : AllBare s.gens
def CE (outer : List Env) (P : Program) (w : World) (H : Hp) (s : Shared) (Q : VK) (u : Value) (s' : Shared) : Prop :=
  ∃ v H', s'.os = s.os ∧ AllBare s'.gens ∧ Un (frs outer) [] H H' s.heap s'.heap ∧ HOk P w H' s'.heap ∧ RelV v u ∧ Q v H'
def CR (CX : CXT) (outer : List Env) (P : Program) (w : World) (H : Hp) (s : Shared) (Q : VK) (E : XK) (r : Result) (s' : Shared) : Prop :=
  match r with
  | .ok (.ret u) => CE outer P w H s Q u s'
  | .ok _ => False
  | .error e => CX outer H s E e s'
structure FnOk (P : Program) (w : World) (K : PySem.W.Frag) (mg : Str → Option Value) (base : Heap) (CX : CXT) (k : Nat) (f : Addr) (fd : FuncData) (ps : List Str) (sp : Sp) : Prop where
  len : ∀ vs H Q E, sp vs H Q E → vs.length = ps.length
  run : ∀ (A : Around) (outer : List Env) (s : Shared) (H : Hp) (args : Args) (us : List Value) (vs : List V) (Q : VK) (E : XK), Room k A → Env0 P w K mg base A outer s H → BindsTo s fd args (ps.zip us) → Vals vs us → sp vs H Q E →
    codeAny (model P w) A (.call (.ref f) args) (CR CX outer P w H s Q E) s
theorem Env0.make {P : Program} {w : World} {K : PySem.W.Frag} {mg : Str → Option Value} {base : Heap} {A : Around} {outer : List Env} {s : Shared} {H : Hp} (e : Env0 P w K mg base A outer s H) (C : Addr) (us : List Value) (kw : List (Str × Value)) :
    Env0 P w K mg base (A.under (.builtin "type.__call__" ⟨.ref C :: us, kw⟩)) outer s H := ⟨by first | exact e.frames | (simpa [Around.under, Code.envs, Code.isFrame, pushEnvs] using e.frames), e.mod, e.bs, e.bsz, e.funs, e.frf, e.hok, e.bare⟩
section
variable {X : Cx} {pins : List (Addr × Obj)} {σ : St} {H : Hp} {s s' : Shared}
theorem Inv.env0 (I : Inv X pins σ H s) : Env0 X.prog X.w X.K X.mg X.base X.A X.stack s H :=
  ⟨I.ok.frames, I.ok.mod, I.bs, Nat.le_trans I.ok.bsz I.sz, I.stack, I.stkFree, I.hok, I.bare⟩
theorem Inv.after {Q : VK} {u : Value} (I : Inv X pins σ H s) (h : CE X.stack X.prog X.w H s Q u s') : EP X pins σ Q u s' := by
  obtain ⟨v, H', os, bare, un, hok, r, q⟩ := h
  obtain ⟨hh, g, d, t, os'⟩ := s'
  obtain rfl : os' = s.os := os
  exact ⟨v, H', I.call (h' := hh) (g' := g) (d' := d) (t' := t) (ch := []) un hok bare (fun b z => absurd z (by simp)), r, q⟩
end
def tCall (sp : Sp) (dvs : List V) (E : XK) (t : TA) : TE := fun σ H Q => t σ H fun vs H1 => sp (vs ++ dvs) H1 Q E
def tMeth (C : Addr) (m : Str) (sp : Sp) (dvs : List V) (E : XK) (ta : TE) (t : TA) : TE := fun σ H Q => ta σ H fun x H1 => ∃ a dx fs, x = .ref a ∧ H1 a = some (.ins C dx fs) ∧ fs.lookup m = none ∧
  t σ H1 fun vs H2 => sp (x :: (vs ++ dvs)) H2 Q E
def tMake (C : Addr) (sp : Sp) (dvs : List V) (E : XK) (t : TA) : TE := fun σ H Q => t σ H fun vs H1 => ∀ x dx, H1 x = none → H1 dx = none → dx ≠ x →
  sp (.ref x :: (vs ++ dvs)) (upd (upd H1 dx (.own x)) x (.ins C dx [])) (fun v H2 => v = .non ∧ Q (.ref x) H2) E
def Binds (K : PySem.W.Frag) (fd : FuncData) (ps : List Str) (ds : List Value) : Prop :=
  ∀ (s : Shared) (us : List Value), K.In s.heap → (us ++ ds).length = ps.length → BindsTo s fd ⟨us, []⟩ (ps.zip (us ++ ds))
theorem Binds.all {K : PySem.W.Frag} {fd : FuncData} {ps : List Str} (h : ∀ us : List Value, us.length = ps.length → bindArgs fd ⟨us, []⟩ = pure (ps.zip us)) : Binds K fd ps [] := fun s us _ hl => by
  rw [List.append_nil] at hl ⊢
  exact .of_eq (h us hl)
def Passes (CX : CXT) (X : Cx) (E : XK) : Prop := ∀ (pins : List (Addr × Obj)) (σ : St) (H : Hp) (s : Shared) (e : Value) (s' : Shared), Inv X pins σ H s → CX X.stack H s E e s' → X.xe e s'
section
variable {X : Cx} {CX : CXT} {k : Nat} {f C : Addr} {fd : FuncData} {ps : List Str} {sp : Sp} {dvs : List V} {ds : List Value} {E : XK} {x m : Str} {p pos apos : Pos} {e o : Expr} {es : List Expr} {ta : TE} {t : TA}
theorem run_fn {pins : List (Addr × Obj)} {σ : St} {H : Hp} {s : Shared} {Q : VK} {us : List Value} {vs : List V} (F : FnOk X.prog X.w X.K X.mg X.base CX k f fd ps sp) (hr : Room k X.A) (hb : Binds X.K fd ps ds) (hd : Vals dvs ds) (hx : Passes CX X E)
    (I : Inv X pins σ H s) (r : Vals vs us) (h : sp (vs ++ dvs) H Q E) : wpAny (model X.prog X.w) X.A (call (.ref f) us) (EP X pins σ Q) X.xe s := by
  have r2 : Vals (vs ++ dvs) (us ++ ds) := r.append hd
  have hl : (us ++ ds).length = ps.length := by rw [← r2.length]; exact F.len _ _ _ _ h
  refine wpAny_call (codeAny_mono (F.run X.A X.stack s H ⟨us, []⟩ (us ++ ds) (vs ++ dvs) Q E hr I.env0 (hb s us I.kIn hl) r2 h) fun r s' hq => ?_)
  cases r with
  | error e => exact hx pins σ H s e s' I hq
  | ok fl =>
    cases fl with
    | ret u => exact I.after hq
    | next => exact False.elim hq
    | brk => exact False.elim hq
    | cont => exact False.elim hq
theorem pe_call (F : FnOk X.prog X.w X.K X.mg X.base CX k f fd ps sp) (hr : Room k X.A) (hg : Gl X x) (hm : X.mg x = some (.ref f)) (hk : PySem.W.keepIn X.K (.ref f) = true) (hb : Binds X.K fd ps ds) (hd : Vals dvs ds) (hx : Passes CX X E)
    (ha : PA X (e :: es) t) (hdb : (x == ("__debug__" : Str)) = false := by decide) (he : starEach (e :: es) X.env = (false, eval e X.env) :: starEach es X.env := by rfl) (hpl : (backTo pos (starEach es X.env)).any (·.1) = false := by rfl) :
    PE X (.Call (.Name x p) (e :: es) [] pos) (tCall sp dvs E t) := by
  intro pins s σ H Q I h
  refine wpAny_Call_Name_kw (ld_glob I hg hm ?_ hdb)
  refine PySem.W.callWith_K (h₀ := X.base) I.ok.mod.kin hk (thn (ha pos pins s σ H _ I h) fun us s1 ⟨vs, H1, I1, r, q⟩ => ⟨I1.kIn, ?_⟩) he hpl
  exact run_fn F hr hb hd hx I1 r q
theorem pe_meth {pl : Sem Bool} (he : PE X o ta) (c : Cls X.K C) (hm : Meth X.K C m f) (F : FnOk X.prog X.w X.K X.mg X.base CX k f fd ps sp) (hr : Room k X.A) (hb : Binds X.K fd ps ds) (hd : Vals dvs ds) (hx : Passes CX X E) (ha : PA X (e :: es) t)
    (hst : starEach (e :: es) X.env = (false, eval e X.env) :: starEach es X.env := by rfl) (hpl : (backTo pos (starEach es X.env)).any (·.1) = false := by rfl)
    (ht : eval (.Call (.Attribute o m apos) (e :: es) [] pos) X.env = (do
      let ov ← eval o X.env
      standAt apos.atName
      let (f, first) ← holding [ov] (getMethod ov m pl)
      callWith pos f first (backTo pos (starEach (e :: es) X.env)) (backToKw pos (keywordEach [] X.env))) := by rfl) :
    PE X (.Call (.Attribute o m apos) (e :: es) [] pos) (tMeth C m sp dvs E ta t) := by
  intro pins s σ H Q I h
  refine PySem.W.methodCall_KW (pl := pl) (thn (he pins s σ H _ I h) fun u s1 ⟨x, H1, I1, rx, a, dx, fs, ex, ea, l, q⟩ => ?_) ht
  subst ex
  obtain rfl : u = Value.ref a := rx
  refine getmeth_ok I1 ea c hm l ?_
  refine PySem.W.callWith_K (first := [.ref a]) (h₀ := X.base) I.ok.mod.kin hm.kp (thn (ha pos pins s1 σ H1 _ I1 q) fun us s2 ⟨vs, H2, I2, r, q2⟩ => ⟨I2.kIn, ?_⟩) hst hpl
  exact run_fn (us := .ref a :: us) (vs := .ref a :: vs) F hr hb hd hx I2 (.cons rfl r) q2
theorem pe_meth0 {pl : Sem Bool} (he : PE X o ta) (c : Cls X.K C) (hm : Meth X.K C m f) (F : FnOk X.prog X.w X.K X.mg X.base CX k f fd ps sp) (hr : Room k X.A) (hb : Binds X.K fd ps ds) (hd : Vals dvs ds) (hx : Passes CX X E)
    (ht : eval (.Call (.Attribute o m apos) [] [] pos) X.env = (do
      let ov ← eval o X.env
      standAt apos.atName
      let (f, first) ← holding [ov] (getMethod ov m pl)
      callWith pos f first (backTo pos (starEach [] X.env)) (backToKw pos (keywordEach [] X.env))) := by rfl) :
    PE X (.Call (.Attribute o m apos) [] [] pos) (tMeth C m sp dvs E ta tNil) := by
  intro pins s σ H Q I h
  refine PySem.W.methodCall_KW (pl := pl) (thn (he pins s σ H _ I h) fun u s1 ⟨x, H1, I1, rx, a, dx, fs, ex, ea, l, q⟩ => ?_) ht
  subst ex
  obtain rfl : u = Value.ref a := rx
  refine getmeth_ok I1 ea c hm l ?_
  exact PySem.W.callWith_K0 (first := [.ref a]) I1.kIn hm.kp (run_fn (us := [.ref a]) (vs := [.ref a]) F hr hb hd hx I1 (.cons rfl .nil) q)
structure Mk (K : PySem.W.Frag) (C f : Addr) : Prop where
  makes : PySem.W.makesIn K C = true
  init : PySem.W.findIn K (.ref C) "__init__" = some (some (.ref f))
  fn : PySem.W.isFn K (.ref f) = true
  kp : PySem.W.keepIn K (.ref C) = true
theorem run_make {pins : List (Addr × Obj)} {σ : St} {H : Hp} {s : Shared} {Q : VK} {us : List Value} {vs : List V} (M : Mk X.K C f) (F : FnOk X.prog X.w X.K X.mg X.base CX k f fd ps sp) (hr : Room (k + 1) X.A) (hb : Binds X.K fd ps ds) (hd : Vals dvs ds)
    (hx : Passes CX X E) (I : Inv X pins σ H s) (r : Vals vs us)
    (h : ∀ x dx, H x = none → H dx = none → dx ≠ x → sp (.ref x :: (vs ++ dvs)) (upd (upd H dx (.own x)) x (.ins C dx [])) (fun v H2 => v = .non ∧ Q (.ref x) H2) E) :
    wpAny (model X.prog X.w) X.A (call (.ref C) us) (EP X pins σ Q) X.xe s := by
  have hq := h (s.heap.objs.size + 1) s.heap.objs.size (I.hok.fresh (Nat.le_succ _)) (I.hok.fresh (Nat.le_refl _)) (Nat.ne_of_lt (Nat.lt_succ_self _))
  have I2 := Inv.made (C := C) I
  have r2 : Vals (V.ref (s.heap.objs.size + 1) :: (vs ++ dvs)) (Value.ref (s.heap.objs.size + 1) :: (us ++ ds)) := .cons rfl (r.append hd)
  have hl : (Value.ref (s.heap.objs.size + 1) :: us ++ ds).length = ps.length := by
    have e := r2.length
    rw [F.len _ _ _ _ hq] at e
    exact e.symm
  refine wpAny_call (make_map (f := f) I.kIn M.makes M.init (beq_iff_eq.mp M.fn) (codeAny_mono (F.run _ X.stack _ _ ⟨Value.ref (s.heap.objs.size + 1) :: us, []⟩ (Value.ref (s.heap.objs.size + 1) :: (us ++ ds)) _ _ E (hr.make C us [])
    (I2.env0.make C us []) (hb _ (Value.ref (s.heap.objs.size + 1) :: us) I2.kIn hl) r2 hq) fun r s' hq' => ?_))
  cases r with
  | error e => exact hx pins σ _ _ e s' I2 hq'
  | ok fl =>
    cases fl with
    | ret u =>
      obtain ⟨v, H', I3, rv, ev, q3⟩ := I2.after hq'
      subst ev
      exact ⟨rv, ⟨V.ref (s.heap.objs.size + 1), H', I3, rfl, q3⟩⟩
    | next => exact False.elim hq'
    | brk => exact False.elim hq'
    | cont => exact False.elim hq'
theorem pe_make (M : Mk X.K C f) (F : FnOk X.prog X.w X.K X.mg X.base CX k f fd ps sp) (hr : Room (k + 1) X.A) (hg : Gl X x) (hm : X.mg x = some (.ref C)) (hb : Binds X.K fd ps ds) (hd : Vals dvs ds) (hx : Passes CX X E)
    (ha : PA X (e :: es) t) (hdb : (x == ("__debug__" : Str)) = false := by decide) (he : starEach (e :: es) X.env = (false, eval e X.env) :: starEach es X.env := by rfl) (hpl : (backTo pos (starEach es X.env)).any (·.1) = false := by rfl) :
    PE X (.Call (.Name x p) (e :: es) [] pos) (tMake C sp dvs E t) := by
  intro pins s σ H Q I h
  refine wpAny_Call_Name_kw (ld_glob I hg hm ?_ hdb)
  refine PySem.W.callWith_K (h₀ := X.base) I.ok.mod.kin M.kp (thn (ha pos pins s σ H _ I h) fun us s1 ⟨vs, H1, I1, r, q⟩ => ⟨I1.kIn, ?_⟩) he hpl
  exact run_make M F hr hb hd hx I1 r q
end
structure FnScope (N P : List Str) (sc : Scope) : Prop where
  kind : sc.kind = .function
  co : sc.isCoroutine = false
  gen : sc.isGenerator = false
  nd : N.Nodup
  pre : N.take P.length = P
  par : ∀ x ∈ P, sc.names.lookup x = some .local ∨ sc.names.lookup x = some .cell
  nofree : ∀ y ∈ sc.names, y.2 ≠ .free
theorem bindL_out {kindOf : Str → Option NameKind} {x : Str} : ∀ {binds : List (Str × Value)} {m : Str → Option Value}, (∀ v, (x, v) ∉ binds) → bindL kindOf binds m x = m x
  | [], _, _ => rfl
  | (n, v) :: r, m, h => by
    unfold bindL
    rw [bindL_out fun w hw => h w (List.mem_cons_of_mem _ hw)]
    split
    · have : x ≠ n := by rintro rfl; exact h v List.mem_cons_self
      simp [this]
    · rfl
theorem bindC_out {kindOf : Str → Option NameKind} {x : Str} : ∀ {binds : List (Str × Value)} {m : Str → Option Value}, (∀ v, (x, v) ∉ binds) → bindC kindOf binds m x = m x
  | [], _, _ => rfl
  | (n, v) :: r, m, h => by
    unfold bindC
    rw [bindC_out fun w hw => h w (List.mem_cons_of_mem _ hw)]
    split
    · rfl
    · have : x ≠ n := by rintro rfl; exact h v List.mem_cons_self
      simp [this]
theorem bindL_get {kindOf : Str → Option NameKind} {x : Str} {v : Value} : ∀ {P : List Str} {vs : List Value} {i : Nat} {m : Str → Option Value}, P.Nodup → P[i]? = some x → vs[i]? = some v → kindOf x = some .local →
    bindL kindOf (P.zip vs) m x = some v
  | [], _, _, _, _, h, _, _ => by simp at h
  | _ :: _, [], _, _, _, _, h, _ => by simp at h
  | p :: P, w :: vs, 0, m, nd, h1, h2, hk => by
    simp at h1 h2; subst h1; subst h2
    show bindL kindOf ((p, w) :: P.zip vs) m p = _
    unfold bindL
    rw [bindL_out fun v hv => (List.nodup_cons.mp nd).1 (List.of_mem_zip hv).1, if_pos hk]
    simp
  | p :: P, w :: vs, i + 1, m, nd, h1, h2, hk => by
    show bindL kindOf ((p, w) :: P.zip vs) m x = _
    unfold bindL
    exact bindL_get (i := i) (List.nodup_cons.mp nd).2 (by simpa using h1) (by simpa using h2) hk
theorem bindC_get {kindOf : Str → Option NameKind} {x : Str} {v : Value} : ∀ {P : List Str} {vs : List Value} {i : Nat} {m : Str → Option Value}, P.Nodup → P[i]? = some x → vs[i]? = some v → kindOf x ≠ some .local →
    bindC kindOf (P.zip vs) m x = some v
  | [], _, _, _, _, h, _, _ => by simp at h
  | _ :: _, [], _, _, _, _, h, _ => by simp at h
  | p :: P, w :: vs, 0, m, nd, h1, h2, hk => by
    simp at h1 h2; subst h1; subst h2
    show bindC kindOf ((p, w) :: P.zip vs) m p = _
    unfold bindC
    rw [bindC_out fun v hv => (List.nodup_cons.mp nd).1 (List.of_mem_zip hv).1, if_neg hk]
    simp
  | p :: P, w :: vs, i + 1, m, nd, h1, h2, hk => by
    show bindC kindOf ((p, w) :: P.zip vs) m x = _
    unfold bindC
    exact bindC_get (i := i) (List.nodup_cons.mp nd).2 (by simpa using h1) (by simpa using h2) hk
def start (N : List Str) (vs : List V) : St := vs.map some ++ List.replicate (N.length - vs.length) none
def cxOf (CX : CXT) (P : Program) (w : World) (K : PySem.W.Frag) (mg : Str → Option Value) (base : Heap) (N : List Str) (qual : Str) (scope : Scope) (f : Addr) (cd : Value) (A : Around) (outer : List Env) (s : Shared) (H : Hp) (E : XK) : Cx where
  prog := P
  w := w
  K := K
  mg := mg
  base := base
  A := A.deeper (envOfC qual scope s.heap.objs.size f cd)
  N := N
  s_0 := s
  H_0 := H
  env := envOfC qual scope s.heap.objs.size f cd
  outer := outer
  stack := envOfC qual scope s.heap.objs.size f cd :: outer
  ex := []
  calm := true
  fn := fun _ => true
  pn := []
  xe := fun e s' => wpAny (model P w) (A.deeper (envOfC qual scope s.heap.objs.size f cd)) (leaving (envOfC qual scope s.heap.objs.size f cd) e) (fun _ s'' => CX outer H s E e s'') (fun e' s'' => CX outer H s E e' s'') s'
theorem cell_has {sc : Scope} {n : Nat} {x : Str} (h : sc.names.lookup x = some .cell) : ∃ c, (cellsFrom n sc.names []).lookup x = some c := by
  have q := PySem.W.cellsFrom_some sc.names n [] (.inl h)
  exact Option.isSome_iff_exists.mp q
theorem inv_start {CX : CXT} {P : Program} {w : World} {K : PySem.W.Frag} {mg : Str → Option Value} {base : Heap} {N ps : List Str} {qual : Str} {scope : Scope} {f : Addr} {cd : Value} {A : Around} {outer : List Env} {s s1 : Shared} {H : Hp} {E : XK} {us : List Value} {vs : List V}
    (S : FnScope N ps scope) (hd : A.handled = none) (e0 : Env0 P w K mg base A outer s H) (hl : vs.length = ps.length) (r : Vals vs us)
    (x : InCallC s s.heap.objs.size (bindL (envOfC qual scope s.heap.objs.size f cd).kindOf (ps.zip us) fun _ => none) (cellsFrom (s.heap.objs.size + 1) scope.names []) (bindC (envOfC qual scope s.heap.objs.size f cd).kindOf (ps.zip us) fun _ => none) s1) :
    Inv (cxOf CX P w K mg base N qual scope f cd A outer s H E) [] (start N vs) H s1 := by
  have hpl : ps.length ≤ N.length := by have := congrArg List.length S.pre; rw [List.length_take] at this; omega
  obtain ⟨h1, tk, rfl, hk⟩ := x.done
  have noA : ∀ b : Addr, b ∉ (cxOf CX P w K mg base N qual scope f cd A outer s H E).ex := fun b z => absurd (show b ∈ ([] : List Addr) from z) (by simp)
  refine ⟨⟨e0.mod, S.kind, rfl, rfl, Nat.le_refl _, fun y z c h1 h2 => ?_, fun y hy => ?_, fun y c _ h => ?_, fun _ => hd, Around.frames_deeper e0.frames, .inr ⟨rfl, rfl⟩, fun b z => absurd z (noA b), e0.bs, e0.bsz, fun b _ _ => noA b, fun b z => absurd z (noA b), e0.funs, e0.frf⟩,
    rfl, e0.bare, Un.kept hk, ⟨_, x.toInCall.ns, fun i y v h1 h2 h3 => ?_⟩, fun y c h => ⟨_, x.cell y c h⟩, e0.hok.fresh (Nat.le_refl _), fun y c h => ?_, fun p hp => absurd (show p ∈ ([] : List (Addr × Obj)) from hp) (by simp), e0.hok.kept hk, ?_⟩
  · exact name_of_addr x.apart (PySem.mem_of_lookup h1) (PySem.mem_of_lookup h2)
  · have hy : scope.names.lookup y = some .cell ∨ scope.names.lookup y = some .free := hy
    rcases hy with hy | hy
    · exact cell_has hy
    · exact absurd rfl (S.nofree _ (PySem.mem_of_lookup hy))
  · exact Nat.le_of_lt (x.above y c (PySem.mem_of_lookup h))
  · have hi : i < vs.length := by
      unfold start at h2
      by_cases hi : i < vs.length
      · exact hi
      · rw [List.getElem?_append_right (by simpa using hi)] at h2
        rw [List.getElem?_replicate] at h2
        split at h2 <;> cases h2
    have ha : vs[i]? = some v := by
      unfold start at h2
      rw [List.getElem?_append_left (by simpa using hi), List.getElem?_map] at h2
      cases e : vs[i]? with
      | none => rw [e] at h2; cases h2
      | some a => rw [e] at h2; cases h2; rfl
    obtain ⟨u, hu, rv⟩ := r.get ha
    have hp : ps[i]? = some y := by
      rw [← S.pre, List.getElem?_take_of_lt (by omega)]; exact h1
    have ndP : ps.Nodup := by rw [← S.pre]; exact S.nd.sublist (List.take_sublist _ _)
    refine ⟨u, rv, ?_⟩
    rcases S.par y (List.mem_of_getElem? hp) with k | k
    · exact .inl ⟨k, bindL_get ndP hp hu k⟩
    · obtain ⟨c, e⟩ := cell_has (n := s.heap.objs.size + 1) k
      refine .inr ⟨.inl k, c, e, ?_⟩
      have q := x.cell y c e
      rw [bindC_get ndP hp hu (by show scope.names.lookup y ≠ _; rw [k]; decide)] at q
      exact q
  · exact e0.hok.fresh (Nat.le_of_lt (x.above y c (PySem.mem_of_lookup h)))
  · unfold start
    show _ = N.length
    rw [List.length_append, List.length_map, List.length_replicate]
    omega
theorem fn_of {CX : CXT} {P : Program} {w : World} {K : PySem.W.Frag} {mg : Str → Option Value} {base : Heap} {k : Nat} {f : Addr} {name qual : Str} {params : Arguments} {body : List Stmt} {scope : Scope} {dV kV doc pm cdv ct oc : Value} {an od : Option Addr}
    {osl : Array (Option Value)} {N ps : List Str} {sp : Sp} (lk : K.lookup f = some ⟨oc, od, .func (PySem.W.fnOf name qual params body scope dV kV doc pm an cdv ct), osl⟩) (hcd : PySem.W.codeIn K cdv qual = true) (S : FnScope N ps scope)
    (len : ∀ vs H Q E, sp vs H Q E → vs.length = ps.length)
    (hbody : ∀ (A : Around) (outer : List Env) (s : Shared) (H : Hp) (vs : List V) (Q : VK) (E : XK), Room k (A.deeper (envOfC qual scope s.heap.objs.size f cdv)) → sp vs H Q E →
      ∃ t, PSs (cxOf CX P w K mg base N qual scope f cdv A outer s H E) body t ∧ t { nx := fun _ H' => Q .non H', rt := Q } (start N vs) H) :
    FnOk P w K mg base CX (k + 1) f (PySem.W.fnOf name qual params body scope dV kV doc pm an cdv ct) ps sp := by
  refine ⟨len, fun A outer s H args us vs Q E hr e0 hb r hsp => ?_⟩
  have hl := len _ _ _ _ hsp
  have KX : K.In s.heap := e0.mod.kin.keeps fun b o e => (e0.bs b o e).1
  have lim : s.heap.NoLimit := e0.mod.nolimit.keeps fun b o e => (e0.bs b o e).1
  have hkind : ∀ y ∈ ps.zip us, scope.names.lookup y.1 = some .local ∨ (scope.names.lookup y.1 = some .cell ∧ ((cellsFrom (s.heap.objs.size + 1) scope.names []).lookup y.1).isSome = true) := fun ⟨n, v⟩ hy => by
    rcases S.par n (List.of_mem_zip hy).1 with q | q
    · exact .inl q
    · exact .inr ⟨q, PySem.W.cellsFrom_some _ _ _ (.inl q)⟩
  refine codeAny_call_function hr.depth (KX _ _ lk) rfl S.co S.gen rfl (PySem.W.codeRec_of KX hcd) (hb _ _ _ _ ?_)
  refine wpAny_newFunctionEnv_cells S.kind hkind fun env he s1 x => ?_
  subst he
  refine ⟨lim.keeps x.toInCall.keep, codeAny_func ?_⟩
  obtain ⟨t, ht, hq⟩ := hbody A outer s H vs Q E (hr.deeper _) hsp
  have I : Inv (cxOf CX P w K mg base N qual scope f cdv A outer s H E) [] (start N vs) H s1 := inv_start S hr.hd e0 hl r x
  refine wpAny_mono (ht [] s1 (start N vs) H _ I hq) (fun fl s' hs => ?_) fun e s' hs => hs
  have fin : ∀ {σ' : St} {H' : Hp} {v : V} {u : Value}, Inv (cxOf CX P w K mg base N qual scope f cdv A outer s H E) [] σ' H' s' → RelV v u → Q v H' → CE outer P w H s Q u s' :=
    fun {σ' H' v u} J rv q => ⟨v, H', J.os, J.bare, J.base, J.hok, rv, q⟩
  cases fl with
  | ret u =>
    obtain ⟨v, σ', H', J, rv, q⟩ := hs
    exact fin J rv q
  | next =>
    obtain ⟨σ', H', J, q⟩ := hs
    exact fin (v := V.non) (u := Value.none) J rfl q
  | brk =>
    obtain ⟨_, _, _, q⟩ := hs
    exact False.elim q
  | cont =>
    obtain ⟨_, _, _, q⟩ := hs
    exact False.elim q
end L2
namespace L2
open PySem PySem.Spec PyProof.Rows
section
variable {X : Cx} {x : Str} {p pos : Pos} {e : Expr} {es : List Expr} {t : TA} {id T : String} {r : List V → Hp → VK → Prop}
def tCB (r : List V → Hp → VK → Prop) (t : TA) : TE := fun σ H Q => t σ H fun vs H1 => r vs H1 Q
theorem pe_callB (hc : CallR X (.builtin id) r) (hg : Gl X x) (hm : X.mg x = none) (hv : bootBuiltins x = some (.builtin id)) (ha : PA X (e :: es) t) (hn : x ≠ "__name__" := by decide) (hdb : (x == ("__debug__" : Str)) = false := by decide)
    (he : starEach (e :: es) X.env = (false, eval e X.env) :: starEach es X.env := by rfl) (hpl : (backTo pos (starEach es X.env)).any (·.1) = false := by rfl) : PE X (.Call (.Name x p) (e :: es) [] pos) (tCB r t) := by
  intro pins s σ H Q I h
  refine wpAny_Call_Name_kw (ld_blt I hg hm hv ?_ hn hdb)
  exact PyProof.Rows.callWith_builtin1 (thn (ha pos pins s σ H _ I h) fun us s1 ⟨vs, H1, I1, r1, q1⟩ => hc pins s1 σ H1 vs us Q I1 r1 q1) he hpl
theorem pe_callTy (hc : CallR X (.type T) r) (hg : Gl X x) (hm : X.mg x = none) (hv : bootBuiltins x = some (.type T)) (ha : PA X (e :: es) t) (hn : x ≠ "__name__" := by decide) (hdb : (x == ("__debug__" : Str)) = false := by decide)
    (he : starEach (e :: es) X.env = (false, eval e X.env) :: starEach es X.env := by rfl) (hpl : (backTo pos (starEach es X.env)).any (·.1) = false := by rfl) : PE X (.Call (.Name x p) (e :: es) [] pos) (tCB r t) := by
  intro pins s σ H Q I h
  refine wpAny_Call_Name_kw (ld_blt I hg hm hv ?_ hn hdb)
  exact PyProof.Rows.callWith_type1 (thn (ha pos pins s σ H _ I h) fun us s1 ⟨vs, H1, I1, r1, q1⟩ => hc pins s1 σ H1 vs us Q I1 r1 q1) he hpl
end
end L2
namespace HT
open PySem PyProof.Rows
section
variable {prog : Program} {w : World} {A : Around} {E : Value → Shared → Prop} {s : Shared}
def sIx (n d : Nat) : Option Int → Nat
  | none => d
  | some v => if v < 0 then (v + (n : Int)).toNat else min v.toNat n
theorem sIx_none (n d : Nat) : sIx n d none = d := rfl
theorem sIx_nat (n d k : Nat) : sIx n d (some (k : Int)) = min k n := by
  show (if (k : Int) < 0 then ((k : Int) + (n : Int)).toNat else min (k : Int).toNat n) = min k n
  rw [if_neg (by omega), Int.toNat_natCast]
end
end HT
namespace L2
open PySem PySem.Spec PyProof.Rows
abbrev TO := St → Hp → (Option Int → Hp → Prop) → Prop
def PO (X : Cx) (e : Option Expr) (t : TO) : Prop :=
  ∀ (pins : List (Addr × Obj)) (s : Shared) (σ : St) (H : Hp) (Q : Option Int → Hp → Prop), Inv X pins σ H s → t σ H Q →
    wpAny (model X.prog X.w) X.A (evalPart e X.env) (fun u s' => ∃ o H', Inv X pins σ H' s' ∧ IsPart u o ∧ Q o H') X.xe s
def tNoPart : TO := fun _ H Q => Q none H
def tPart (t : TE) : TO := fun σ H Q => t σ H fun x H1 => ∃ i, x = .int i ∧ Q (some i) H1
section
variable {X : Cx} {e : Expr} {te : TE} {lo hi : Option Expr} {tl th : TO} {pos p2 : Pos}
theorem po_none : PO X none tNoPart := by
  intro pins s σ H Q I h
  rw [evalPart_none]
  exact wpAny_pure ⟨none, H, I, .none, h⟩
theorem po_some (h : PE X e te) : PO X (some e) (tPart te) := by
  intro pins s σ H Q I hw
  rw [evalPart_some]
  refine thn (h pins s σ H _ I hw) fun u s1 ⟨x, H1, I1, r1, q1⟩ => ?_
  obtain ⟨i, rfl, q⟩ := q1
  obtain ⟨t, rfl⟩ := r1
  exact ⟨some i, H1, I1, .int i t, q⟩
def SlR (X : Cx) (r : V → Option Int → Option Int → Hp → VK → Prop) : Prop :=
  ∀ (pins : List (Addr × Obj)) (s : Shared) (σ : St) (H : Hp) (x : V) (v vl vu : Value) (lo hi : Option Int) (sl : Addr) (Q : VK), Inv X pins σ H s → RelV x v → s.heap.IsSliceOf sl vl vu .none → IsPart vl lo → IsPart vu hi → r x lo hi H Q →
    ∃ T id, typeLookup (.type T) "__getitem__" = pure (some (.builtin id)) ∧ s.TypeIs v T ∧ wpAny (model X.prog X.w) X.A (getItem v (.ref sl)) (EP X pins σ Q) X.xe s
def tSl (r : V → Option Int → Option Int → Hp → VK → Prop) (te : TE) (tl th : TO) : TE := fun σ H Q => te σ H fun x H1 => tl σ H1 fun l H2 => th σ H2 fun u H3 => r x l u H3 Q
theorem pe_slice {r : V → Option Int → Option Int → Hp → VK → Prop} (hr : SlR X r) (he : PE X e te) (hl : PO X lo tl) (hu : PO X hi th) : PE X (.Subscript e (.Slice lo hi none p2) pos) (tSl r te tl th) := by
  intro pins s σ H Q I h
  refine Subscript_ (thn (he pins s σ H _ I h) fun v s1 ⟨x, H1, I1, r1, q1⟩ => ?_)
  refine wpAny_Slice (thn (hl pins s1 σ H1 _ I1 q1) fun vl s2 ⟨l, H2, I2, pl, q2⟩ => thn (hu pins s2 σ H2 _ I2 q2) fun vu s3 ⟨u, H3, I3, pu, q3⟩ => ?_)
  rw [evalPart_none]
  refine wpAny_pure ?_
  have I4 : Inv X pins σ H3 { s3 with heap := s3.heap.push { cls := .type "slice", data := .fields #[vl, vu, .none] } } := I3.kept (t' := s3.toks) fun b ob q => Heap.get?_push_of_some _ q
  obtain ⟨T, id, hT, ht, hg⟩ := hr pins { s3 with heap := s3.heap.push { cls := .type "slice", data := .fields #[vl, vu, .none] } } σ H3 x v vl vu l u s3.heap.objs.size Q I4 r1 (Heap.IsSliceOf.new ..) pl pu q3
  show wpAny (model X.prog X.w) X.A (subscriptTail e (.Slice lo hi none p2) v (.ref s3.heap.objs.size)) (EP X pins σ Q) X.xe { s3 with heap := s3.heap.push { cls := .type "slice", data := .fields #[vl, vu, .none] } }
  exact tail_any (ops := [.ref s3.heap.objs.size, v]) ht hT hg (by with_unfolding_all rfl)
def cutV (xs : List V) (lo hi : Option Int) : List V := (xs.drop (HT.sIx xs.length 0 lo)).take (HT.sIx xs.length xs.length hi - HT.sIx xs.length 0 lo)
theorem cutV_length (xs : List V) (lo hi : Option Int) : (cutV xs lo hi).length ≤ xs.length := by
  unfold cutV
  rw [List.length_take, List.length_drop]
  omega
end
end L2
namespace L2
open PySem PySem.Spec PyProof.Rows
def ixN (n : Nat) (i : Int) : Option Nat := if 0 ≤ i then (if i < n then some i.toNat else none) else if -(n : Int) ≤ i then some (i + n).toNat else none
def atI {α : Type} (xs : List α) (i : Int) : Option α := (ixN xs.length i).bind fun j => xs[j]?
theorem ixN_seq {n : Nat} {i : Int} {j : Nat} (h : ixN n i = some j) : seqIndex? i n = some j ∧ j < n ∧ -(n : Int) ≤ i ∧ i < n := by
  unfold ixN at h
  by_cases h0 : 0 ≤ i
  · rw [if_pos h0] at h
    by_cases h1 : i < n
    · rw [if_pos h1] at h
      have e : i.toNat = j := Option.some.inj h
      exact ⟨by rw [seqIndex_of h0 h1, e], by omega, by omega, h1⟩
    · rw [if_neg h1] at h; cases h
  · rw [if_neg h0] at h
    by_cases h1 : -(n : Int) ≤ i
    · rw [if_pos h1] at h
      have e : (i + n).toNat = j := Option.some.inj h
      exact ⟨by rw [seqIndex_neg (by omega) h1, e], by omega, h1, by omega⟩
    · rw [if_neg h1] at h; cases h
theorem atI_get {α : Type} {xs : List α} {i : Int} {v : α} (h : atI xs i = some v) : ∃ j, seqIndex? i xs.length = some j ∧ xs[j]? = some v ∧ j < xs.length ∧ -(xs.length : Int) ≤ i ∧ i < xs.length := by
  unfold atI at h
  cases e : ixN xs.length i with
  | none => rw [e] at h; cases h
  | some j =>
    rw [e] at h
    obtain ⟨h1, h2, h3, h4⟩ := ixN_seq e
    exact ⟨j, h1, h, h2, h3, h4⟩
theorem atI_nat {α : Type} {xs : List α} {j : Nat} {v : α} (h : xs[j]? = some v) : atI xs (j : Int) = some v := by
  have hj : j < xs.length := (List.getElem?_eq_some_iff.mp h).1
  have e : ixN xs.length (j : Int) = some j := by
    unfold ixN
    rw [if_pos (by omega), if_pos (by omega)]; simp
  unfold atI; rw [e]; exact h
def PlainIx (b : Expr) : Prop := ∀ o i, subscripted b false o i = operate [o, i] (getItem o i)
def IxR (X : Cx) (r : R2) : Prop :=
  ∀ (value slice : Expr) (pins : List (Addr × Obj)) (s : Shared) (σ : St) (H : Hp) (x y : V) (v u : Value) (Q : VK), Inv X pins σ H s → RelV x v → RelV y u → r x y H Q →
    subscripted slice false v u = operate [v, u] (getItem v u) → wpAny (model X.prog X.w) X.A (subscriptTail value slice v u) (EP X pins σ Q) X.xe s
def MtR (X : Cx) (id : String) (r : V → List V → Hp → VK → Prop) : Prop :=
  ∀ (pins : List (Addr × Obj)) (s : Shared) (σ : St) (H : Hp) (x : V) (xs : List V) (v : Value) (us : List Value) (Q : VK), Inv X pins σ H s → RelV x v → Vals xs us → r x xs H Q →
    wpAny (model X.prog X.w) X.A (call (.builtin id) (v :: us)) (EP X pins σ Q) X.xe s
section
variable {X : Cx} {a b : Expr} {ta tb : TE} {pos : Pos}
theorem pe_ix {r : R2} (hr : IxR X r) (ha : PE X a ta) (hb : PE X b tb) (hs : PlainIx b) : PE X (.Subscript a b pos) (tOp r ta tb) := by
  intro pins s σ H Q I h
  exact Subscript_ (binT ha hb I h fun v u s2 x y H2 I2 rx ry q => hr a b pins s2 σ H2 x y v u Q I2 rx ry q (hs _ _))
def rIxL (K : PySem.W.Frag) : R2 := fun x y H Q => ∃ p xs i v, x = .ref p ∧ y = .int i ∧ SqL K H p xs ∧ atI xs i = some v ∧ Q v H
def rIxT (K : PySem.W.Frag) : R2 := fun x y H Q => ∃ p xs i v, x = .ref p ∧ y = .int i ∧ SqT K H p xs ∧ atI xs i = some v ∧ Q v H
theorem ix_list : IxR X (rIxL X.K) := by
  intro value slice pins s σ H x y v u Q I rx ry h hs
  obtain ⟨p, xs, i, z, rfl, rfl, hq, he, q⟩ := h
  cases rx
  obtain ⟨t, rfl⟩ := ry
  obtain ⟨its, r, pl, hz⟩ := I.list hq
  obtain ⟨j, h1, h2, h3, h4, h5⟩ := atI_get he
  obtain ⟨w, ew, rw'⟩ := r.get h2
  have hl := r.length
  have hn := line63
  have fin : EP X pins σ Q w s := ⟨z, H, I, rw', q⟩
  by_cases h0 : 0 ≤ i
  · have hj : i.toNat = j := by
      rw [seqIndex_of h0 h5] at h1
      exact Option.some.inj h1
    exact item_listR pl.isList h0 (by omega) (by rw [hj]; simpa using ew) fin hs
  · have hj : (i + (its.toArray.size : Int)).toNat = j := by
      rw [seqIndex_neg (by omega) h4] at h1
      rw [List.size_toArray, ← hl]
      exact Option.some.inj h1
    exact subscriptTail_builtinR (x := w) pl.isList.typeIs slot_list_getitem.lookup
      (wpAny_getItem_list_neg (Q := fun r s' => r = w ∧ EP X pins σ Q r s') pl.isList (by omega) (by rw [List.size_toArray] <;> omega) (by omega) (by rw [hj]; simpa using ew) ⟨rfl, fin⟩) hs
theorem ix_tup : IxR X (rIxT X.K) := by
  intro value slice pins s σ H x y v u Q I rx ry h hs
  obtain ⟨p, xs, i, z, rfl, rfl, hq, he, q⟩ := h
  cases rx
  obtain ⟨t, rfl⟩ := ry
  obtain ⟨its, r, pl, hz⟩ := I.tuple hq
  obtain ⟨j, h1, h2, h3, h4, h5⟩ := atI_get he
  obtain ⟨w, ew, rw'⟩ := r.get h2
  have hl := r.length
  have hn := line63
  have fin : EP X pins σ Q w s := ⟨z, H, I, rw', q⟩
  exact subscriptTail_builtinR (x := w) pl.typeIs slot_tuple_getitem.lookup
    (getItem_tuple (j := j) (Q := fun r s' => r = w ∧ EP X pins σ Q r s') pl (by omega) (by omega) (by rw [List.size_toArray, ← hl]; exact h1) (by simpa using ew) ⟨rfl, fin⟩) hs
theorem slice_bounds (lo hi : Option Int) (n : Nat) : (sliceBounds lo hi none n).1 = ((HT.sIx n 0 lo : Nat) : Int) ∧ (sliceBounds lo hi none n).2.1 = ((HT.sIx n n hi : Nat) : Int) ∧ (sliceBounds lo hi none n).2.2 = 1 := by
  refine ⟨?_, ?_, rfl⟩
  · cases lo with
    | none => simp [sliceBounds, HT.sIx]
    | some i =>
      simp only [sliceBounds, HT.sIx, Option.getD_none, show (1 : Int) > 0 by decide, if_true]
      by_cases h : i < 0
      · simp only [h, if_true] <;> omega
      · simp only [h, if_false] <;> omega
  · cases hi with
    | none => simp [sliceBounds, HT.sIx]
    | some i =>
      simp only [sliceBounds, HT.sIx, Option.getD_none, show (1 : Int) > 0 by decide, if_true]
      by_cases h : i < 0
      · simp only [h, if_true] <;> omega
      · simp only [h, if_false] <;> omega
theorem slicePick_cut (its : List Value) (lo hi : Option Int) : slicePick its.toArray lo hi none = ((its.drop (HT.sIx its.length 0 lo)).take (HT.sIx its.length its.length hi - HT.sIx its.length 0 lo)).toArray := by
  obtain ⟨h1, h2, h3⟩ := slice_bounds lo hi its.toArray.size
  unfold slicePick
  rw [h1, h2, h3]
  simp only [sliceRange_one, pick_run, List.size_toArray] <;> rfl
def rSlL (K : PySem.W.Frag) : V → Option Int → Option Int → Hp → VK → Prop := fun x lo hi H Q => ∃ a xs, x = .ref a ∧ SqL K H a xs ∧ ∀ p, H p = none → Q (.ref p) (upd H p (.lst (cutV xs lo hi)))
theorem sl_list : SlR X (rSlL X.K) := by
  intro pins s σ H x v vl vu lo hi sl Q I rx hs pl pu h
  obtain ⟨a, xs, rfl, hx, q⟩ := h
  cases rx
  obtain ⟨its, r, ht, hz⟩ := I.list hx
  have hlen := r.length
  refine ⟨"list", _, slot_list_getitem.lookup, ht.isList.typeIs, ?_⟩
  refine wpAny_getItem_list_slice ht.isList hs pl pu .none (by simp) ?_ (by rw [List.size_toArray] <;> omega)
  rw [slicePick_cut, ← hlen]
  refine ⟨.ref s.heap.objs.size, _, I.laid (t' := s.toks) (o := .lst (cutV xs lo hi)) (fun b ob q => Heap.get?_push_of_some _ q) (Nat.le_refl _) ?_, rfl, q _ (I.hok.fresh (Nat.le_refl _))⟩
  exact ⟨Nat.le_trans (cutV_length xs lo hi) hz, _, 0, (r.drop (HT.sIx xs.length 0 lo)).take (HT.sIx xs.length xs.length hi - HT.sIx xs.length 0 lo), Heap.get?_push_size _ rfl⟩
def flatV : V → Bool
  | .non => true
  | .bl _ => true
  | .int _ => true
  | .str _ => true
  | _ => false
def eqV : V → V → Bool
  | .non, .non => true
  | .bl a, .bl b => a == b
  | .bl a, .int b => (if a then 1 else 0) == b
  | .int a, .bl b => a == (if b then 1 else 0)
  | .int a, .int b => a == b
  | .str a, .str b => a == b
  | _, _ => false
theorem eqAt_V {A : Around} {s : Shared} {y x : V} {u v : Value} (ry : RelV y u) (rx : RelV x v) (fy : flatV y = true) (fx : flatV x = true) : SeqAt.EqAt A s u v (eqV y x) := by
  cases y with
  | non =>
    cases ry
    cases x with
    | non => cases rx; exact SeqAt.EqAt.same _
    | bl b => cases rx; exact SeqAt.EqAt.none_bool b
    | int b => obtain ⟨t, rfl⟩ := rx; exact SeqAt.EqAt.none_int b t
    | str b => obtain ⟨t, rfl⟩ := rx; exact SeqAt.EqAt.none_str b t
    | _ => exact absurd (show false = true from fx) Bool.false_ne_true
  | bl a =>
    cases ry
    cases x with
    | non => cases rx; exact SeqAt.EqAt.bool_none a
    | bl b => cases rx; exact SeqAt.EqAt.bool_bool a b
    | int b => obtain ⟨t, rfl⟩ := rx; exact SeqAt.EqAt.bool_int a b t
    | str b => obtain ⟨t, rfl⟩ := rx; exact SeqAt.EqAt.bool_str a b t
    | _ => exact absurd (show false = true from fx) Bool.false_ne_true
  | int a =>
    obtain ⟨t', rfl⟩ := ry
    cases x with
    | non => cases rx; exact SeqAt.EqAt.int_none a t'
    | bl b => cases rx; exact SeqAt.EqAt.int_bool a t' b
    | int b => obtain ⟨t, rfl⟩ := rx; exact SeqAt.EqAt.int_int a t' b t
    | str b => obtain ⟨t, rfl⟩ := rx; exact SeqAt.EqAt.int_str a t' b t
    | _ => exact absurd (show false = true from fx) Bool.false_ne_true
  | str a =>
    obtain ⟨t', rfl⟩ := ry
    cases x with
    | non => cases rx; exact SeqAt.EqAt.str_none a t'
    | bl b => cases rx; exact SeqAt.EqAt.str_bool a t' b
    | int b => obtain ⟨t, rfl⟩ := rx; exact SeqAt.EqAt.str_int a t' b t
    | str b => obtain ⟨t, rfl⟩ := rx; exact SeqAt.EqAt.str_str a t' b t
    | _ => exact absurd (show false = true from fx) Bool.false_ne_true
  | _ => exact absurd (show false = true from fy) Bool.false_ne_true
def eqU (x : V) (u : Value) : Bool := match u with
  | .none => eqV .non x
  | .bool b => eqV (.bl b) x
  | .int i _ => eqV (.int i) x
  | .str z _ => eqV (.str z) x
  | _ => false
theorem eqU_of {x y : V} {u : Value} (r : RelV y u) (f : flatV y = true) : eqU x u = eqV y x := by
  cases y with
  | non => cases r; rfl
  | bl b => cases r; rfl
  | int i => obtain ⟨t, rfl⟩ := r; rfl
  | str z => obtain ⟨t, rfl⟩ := r; rfl
  | _ => exact absurd (show false = true from f) Bool.false_ne_true
theorem any_eqU {x : V} : ∀ {xs : List V} {us : List Value}, Vals xs us → xs.all flatV = true → us.any (eqU x) = xs.any fun y => eqV y x
  | _, _, .nil, _ => rfl
  | y :: xs, u :: us, .cons r t, f => by
    rw [List.all_cons, Bool.and_eq_true] at f
    rw [List.any_cons, List.any_cons, eqU_of r f.1, any_eqU t f.2]
theorem mem_eqAt {A : Around} {s : Shared} {x : V} {v : Value} (rx : RelV x v) (fx : flatV x = true) : ∀ {xs : List V} {us : List Value}, Vals xs us → xs.all flatV = true → ∀ u ∈ us, SeqAt.EqAt A s u v (eqU x u)
  | _, _, .nil, _ => fun u hu => by cases hu
  | y :: xs, u :: us, .cons r t, f => fun u' hu => by
    rw [List.all_cons, Bool.and_eq_true] at f
    rcases List.mem_cons.mp hu with rfl | hu
    · rw [eqU_of r f.1]; exact eqAt_V r rx f.1 fx
    · exact mem_eqAt rx fx t f.2 u' hu
def inV (x : V) (xs : List V) : Bool := xs.any fun y => eqV y x
def rIn (K : PySem.W.Frag) (neg : Bool) : R2 := fun x y H Q => ∃ p xs, y = .ref p ∧ (SqL K H p xs ∨ SqT K H p xs) ∧ flatV x = true ∧ xs.all flatV = true ∧ Q (.bl (if neg then !inV x xs else inV x xs)) H
theorem op_notIn_seq : OpR X (compareOp .NotIn) (rIn X.K true) := by
  intro pins s σ H x y v u Q I rx ry h
  obtain ⟨p, xs, rfl, hq, fx, fs, q⟩ := h
  cases ry
  rcases hq with hq | hq
  · obtain ⟨its, r, pl, hz⟩ := I.list hq
    refine SeqAt.notIn_listAt (eqU x) pl.isList (fun w hw => mem_eqAt rx fx r fs w (by simpa using hw)) ⟨.bl _, H, I, rfl, ?_⟩
    rw [show its.toArray.any (eqU x) = its.any (eqU x) by simp, any_eqU r fs]
    exact q
  · obtain ⟨its, r, pl, hz⟩ := I.tuple hq
    refine SeqAt.notIn_tupleAt (eqU x) pl (fun w hw => mem_eqAt rx fx r fs w (by simpa using hw)) ⟨.bl _, H, I, rfl, ?_⟩
    rw [show its.toArray.any (eqU x) = its.any (eqU x) by simp, any_eqU r fs]
    exact q
theorem call_len_seq : CallR X (.builtin "len") (fun xs H Q => ∃ p ys, xs = [.ref p] ∧ (SqL X.K H p ys ∨ SqT X.K H p ys) ∧ Q (.int ys.length) H) := by
  intro pins s σ H xs us Q I r h
  obtain ⟨p, ys, rfl, hq, q⟩ := h
  obtain ⟨u, rfl, rx⟩ := vals1 r
  cases rx
  have hn := line63
  rcases hq with hq | hq
  · obtain ⟨its, r', pl, hz⟩ := I.list hq
    have hlen := r'.length
    exact Calls.call_len_list pl.isList (by simp only [List.size_toArray] <;> omega) ⟨.int ys.length, H, I.tok _, ⟨s.toks + 1, by rw [List.size_toArray, hlen]⟩, q⟩
  · obtain ⟨its, r', pl, hz⟩ := I.tuple hq
    have hlen := r'.length
    exact len_tuple pl (by simp only [List.size_toArray] <;> omega) ⟨.int ys.length, H, I.tok _, ⟨s.toks + 1, by rw [List.size_toArray, hlen]⟩, q⟩
theorem call_tuple_of : CallR X (.type "tuple") (fun xs H Q => ∃ p ys, xs = [.ref p] ∧ ((SqL X.K H p ys ∧ ∀ l, H l = none → Q (.ref l) (upd H l (.tup ys))) ∨ (SqT X.K H p ys ∧ Q (.ref p) H))) := by
  intro pins s σ H xs us Q I r h
  obtain ⟨p, ys, rfl, h⟩ := h
  obtain ⟨u, rfl, rx⟩ := vals1 r
  cases rx
  rcases h with ⟨hq, q⟩ | ⟨hq, q⟩
  · obtain ⟨its, r', pl, hz⟩ := I.list hq
    have hlen := r'.length
    refine call_tuple_list pl.isList (fun h' kp => ?_) (by simp only [List.size_toArray] <;> omega)
    have I1 : Inv X pins σ H { s with heap := h' } := I.kept (t' := s.toks) kp
    have I2 : Inv X pins σ (upd H h'.objs.size (.tup ys)) { s with heap := h'.push { cls := .type "tuple", data := .seq its.toArray } } :=
      I1.laid (t' := s.toks) (fun b o e => Heap.get?_push_of_some _ e) (Nat.le_refl _) (show ObjOk X.prog X.w _ _ _ (.tup ys) from ⟨hz, its, r', IsTup.new _ _⟩)
    exact ⟨.ref h'.objs.size, _, I2, rfl, q _ (I1.hok.fresh (Nat.le_refl _))⟩
  · obtain ⟨its, r', pl, hz⟩ := I.tuple hq
    exact call_tuple_same pl ⟨.ref p, H, I, rfl, q⟩
def tyV (K : PySem.W.Frag) (T : String) (x : V) (H : Hp) : Prop := match x with
  | .str _ => T = "str"
  | .int _ => T = "int"
  | .ref p => (T = "list" ∧ ∃ xs, SqL K H p xs) ∨ (T = "tuple" ∧ ∃ o, K.lookup p = some o ∧ o.cls = .type "tuple" ∧ o.dict = none) ∨
      (T = "dict" ∧ ((∃ kvs, H p = some (.dK kvs)) ∨ ∃ kvs, H p = some (.dT kvs))) ∨ (T = "set" ∧ ∃ S n, H p = some (.set S n))
  | _ => False
theorem tyV_is {pins : List (Addr × Obj)} {σ : St} {H : Hp} {s : Shared} {T : String} {x : V} {v : Value} (I : Inv X pins σ H s) (r : RelV x v) (ty : tyV X.K T x H) :
    s.TypeIs v T ∧ ∀ a, v = .ref a → ∃ ob, s.heap.get? a = some ob ∧ ob.dict = none := by
  cases x with
  | str z =>
    obtain ⟨t, rfl⟩ := r
    cases (show T = "str" from ty)
    exact ⟨typeIs_str s z t, fun _ e => nomatch e⟩
  | int i =>
    obtain ⟨t, rfl⟩ := r
    cases (show T = "int" from ty)
    exact ⟨typeIs_int s i t, fun _ e => nomatch e⟩
  | ref p =>
    cases r
    rcases ty with ⟨rfl, xs, hq⟩ | ⟨rfl, o, hk, hc, hd⟩ | ⟨rfl, hk⟩ | ⟨rfl, S, n, hk⟩
    · obtain ⟨its, _, pl, _⟩ := I.list hq
      refine ⟨pl.isList.typeIs, fun a e => ?_⟩
      cases e
      obtain ⟨o, n, e, c, hd, _⟩ := pl
      exact ⟨o, e, hd⟩
    · refine ⟨⟨o, I.kIn p o hk, hc⟩, fun a e => ?_⟩
      cases e
      exact ⟨o, I.kIn _ o hk, hd⟩
    · have z : ∃ o, s.heap.get? p = some o ∧ o.ExactDict := by
        rcases hk with ⟨kvs, hk⟩ | ⟨kvs, hk⟩
        · obtain ⟨_, _, _, _, o, _, _, e, ex, _⟩ := I.hok p _ hk
          exact ⟨o, e, ex⟩
        · obtain ⟨_, _, _, _, o, _, _, e, ex, _⟩ := I.hok p _ hk
          exact ⟨o, e, ex⟩
      obtain ⟨o, e, ex⟩ := z
      refine ⟨⟨o, e, ex.1⟩, fun a e2 => ?_⟩
      cases e2
      exact ⟨o, e, ex.2.1⟩
    · obtain ⟨o, _, _, _, e, ex, _⟩ := I.hok p _ hk
      refine ⟨⟨o, e, ex.1⟩, fun a e2 => ?_⟩
      cases e2
      exact ⟨o, e, ex.2.1⟩
  | _ => exact False.elim ty
def tBM0 (K : PySem.W.Frag) (T : String) (r : V → List V → Hp → VK → Prop) (to : TE) : TE := fun σ H Q => to σ H fun x H1 => tyV K T x H1 ∧ r x [] H1 Q
def tBM (K : PySem.W.Frag) (T : String) (r : V → List V → Hp → VK → Prop) (to : TE) (t : TA) : TE := fun σ H Q => to σ H fun x H1 => tyV K T x H1 ∧ t σ H1 fun xs H2 => r x xs H2 Q
variable {o e : Expr} {es : List Expr} {to : TE} {t : TA} {name : Str} {apos cpos : Pos} {T id : String} {r : V → List V → Hp → VK → Prop}
theorem pe_bm0 (pa : PlainAttrs T) (slot : Slot T name id) (hty : typeOf (.builtin id) = pure (.type "method_descriptor")) (hm : MtR X id r) (ho : PE X o to)
    (hbase : attributeBase o name X.env (eval o X.env) = eval o X.env := by rfl) (hline : (apos.endLine == cpos.line) = true := by rfl) : PE X (.Call (.Attribute o name apos) [] [] cpos) (tBM0 X.K T r to) := by
  intro pins s σ H Q I h
  refine wpAny_Call_method0_late hbase hline (thn (ho pins s σ H _ I h) fun v s1 ⟨x, H1, I1, r1, ty, q1⟩ => ?_)
  obtain ⟨h1, h2⟩ := tyV_is I1 r1 ty
  exact ⟨T, id, pa, slot, hty, h1, h2, Calls.callWith_builtin rfl (PySem.evalArgs_none (hm pins s1 σ H1 x [] v [] Q I1 r1 .nil q1))⟩
theorem pe_bm (pa : PlainAttrs T) (slot : Slot T name id) (hty : typeOf (.builtin id) = pure (.type "method_descriptor")) (hm : MtR X id r) (ho : PE X o to) (ha : PA X (e :: es) t)
    (hbase : attributeBase o name X.env (eval o X.env) = eval o X.env := by rfl)
    (hfew : ((backTo cpos (starEach (e :: es) X.env)).all (fun x => !x.1) && (backToKw cpos (keywordEach [] X.env)).all (fun x => x.1.isSome)
      && decide ((e :: es).length + ([] : List Keyword).length + (if ([] : List Keyword).isEmpty then 0 else 1) < 30)) = true := by rfl)
    (hline : (apos.endLine == cpos.line) = true := by rfl) (hs : starEach (e :: es) X.env = (false, eval e X.env) :: starEach es X.env := by rfl) (hplain : (backTo cpos (starEach es X.env)).any (·.1) = false := by rfl) :
    PE X (.Call (.Attribute o name apos) (e :: es) [] cpos) (tBM X.K T r to t) := by
  intro pins s σ H Q I h
  refine wpAny_Call_method_late hbase hfew hline rfl (thn (ho pins s σ H _ I h) fun v s1 ⟨x, H1, I1, r1, ty, q1⟩ => ?_)
  obtain ⟨h1, h2⟩ := tyV_is I1 r1 ty
  refine ⟨T, id, pa, slot, hty, h1, h2, ?_⟩
  have hA := ha cpos pins s1 σ H1 _ I1 q1
  rw [hs] at hA ⊢
  refine Calls.callWith_builtin (by show (false || (backTo cpos (starEach es X.env)).any (·.1)) = false; rw [hplain] <;> rfl) (Calls.evalArgs_plain ?_)
  exact thn hA fun us s2 ⟨vs, H2, I2, r2, q2⟩ => hm pins s2 σ H2 x vs v us Q I2 r1 r2 q2
end
end L2
namespace L2
open PySem PySem.Spec PyProof.Rows
def MtM (X : Cx) (id : String) (r : V → List V → Hp → VK → Prop) : Prop :=
  ∀ (pins : List (Addr × Obj)) (s : Shared) (σ : St) (H : Hp) (x : V) (xs : List V) (v : Value) (us : List Value) (Q : VK), Inv X pins σ H s → RelV x v → Vals xs us → r x xs H Q →
    wpAny (model X.prog X.w) X.A (call (.builtin id) (v :: us)) (EP X pins σ Q) X.xe s
theorem Vals.one : ∀ {x : V} {us : List Value}, Vals [x] us → ∃ u, us = [u] ∧ RelV x u
  | _, _, .cons r .nil => ⟨_, rfl, r⟩
section
variable {X : Cx} {pins : List (Addr × Obj)} {σ : St} {H : Hp} {s : Shared} {l b : Addr} {xs ys zs : List V}
theorem Inv.lset {its its' : List Value} {n : Nat} {f : Array Value → Array Value} {t' : Nat} (I : Inv X pins σ H s) (hH : H l = some (.lst xs))
    (e : s.heap.get? l = some { cls := .type "list", data := .seq its.toArray n }) (hf : f its.toArray = its'.toArray) (hv : Vals ys its') (hz : ys.length ≤ sizeLine) :
    Inv X pins σ (upd H l (.lst ys)) { s with heap := s.heap.update l (Obj.mapSeq f), toks := t' } := by
  have q := PySem.IsL.update e f
  rw [hf] at q
  refine I.write (x := l) (e := l) (by rw [hH]; exact trivial) (.inl rfl) (fun b' u hb hu => (Heap.get?_update_other s.heap (Obj.mapSeq f) (Ne.symm hb)).trans hu) ⟨_, q⟩ ?_
  exact ⟨hz, its', _, hv, q⟩
theorem Inv.lnew {its : List Value} {t' : Nat} (I : Inv X pins σ H s) (hv : Vals ys its) (hz : ys.length ≤ sizeLine) :
    Inv X pins σ (upd H s.heap.objs.size (.lst ys)) { s with heap := s.heap.push { cls := .type "list", data := .seq its.toArray }, toks := t' } :=
  I.laid (fun _ _ q => Heap.get?_push_of_some _ q) (Nat.le_refl _) ⟨hz, its, 0, hv, Heap.get?_push_size _ rfl⟩
theorem Inv.fresh (I : Inv X pins σ H s) : H s.heap.objs.size = none := I.hok.fresh (Nat.le_refl _)
theorem Inv.lstM (I : Inv X pins σ H s) (hH : H l = some (.lst xs)) : xs.length ≤ sizeLine ∧ ∃ (its : List Value) (n : Nat), Vals xs its ∧ xs.length = its.length ∧ s.heap.get? l = some { cls := .type "list", data := .seq its.toArray n } := by
  obtain ⟨z, its, n, r, e⟩ := I.hok l _ hH
  exact ⟨z, its, n, r, r.length, e⟩
theorem notLongL {n : Nat} (h : n ≤ sizeLine) : Builtin.List.listTooLong n = false := by
  unfold Builtin.List.listTooLong
  exact decide_eq_false (by omega)
end
section
variable {X : Cx}
def rAppend : V → List V → Hp → VK → Prop := fun x vs H Q => ∃ l xs y, x = .ref l ∧ vs = [y] ∧ H l = some (.lst xs) ∧ xs.length < sizeLine ∧ Q .non (upd H l (.lst (xs ++ [y])))
theorem mt_append : MtM X "list.append" rAppend := by
  intro pins s σ H x vs v us Q I rx rv h
  obtain ⟨l, xs, y, rfl, rfl, hH, hz, q⟩ := h
  cases rx
  obtain ⟨u, rfl, ru⟩ := rv.one
  obtain ⟨z, its, n, r, hl, e⟩ := I.lstM hH
  refine call_meets F.slot_list_append ⟨_, e, rfl⟩ F.entry_list_append (F.args_list_append_2 _ _) (PySem.list_append l its.toArray n u (by rw [List.size_toArray]; omega)) ⟨e, ?_⟩
  refine ⟨.non, _, I.lset (its' := its ++ [u]) hH e (by simp) (r.append (.cons ru .nil)) ?_, rfl, q⟩
  rw [List.length_append, List.length_singleton]
  omega
def rExtend : V → List V → Hp → VK → Prop := fun x vs H Q => ∃ l b xs zs, x = .ref l ∧ vs = [.ref b] ∧ H l = some (.lst xs) ∧ H b = some (.lst zs) ∧ xs.length + zs.length ≤ sizeLine ∧ Q .non (upd H l (.lst (xs ++ zs)))
theorem mt_extend : MtM X "list.extend" rExtend := by
  intro pins s σ H x vs v us Q I rx rv h
  obtain ⟨l, b, xs, zs, rfl, rfl, hH, hB, hz, q⟩ := h
  cases rx
  obtain ⟨u, rfl, ru⟩ := rv.one
  cases ru
  obtain ⟨z, its, n, r, hl, e⟩ := I.lstM hH
  obtain ⟨z2, its2, n2, r2, hl2, e2⟩ := I.lstM hB
  have hsz : its.toArray.size + its2.toArray.size ≤ sizeLine := by rw [List.size_toArray, List.size_toArray]; omega
  have hlong : ¬ (!its.toArray.isEmpty && Builtin.List.listTooLong (its.toArray.size + its2.toArray.size)) = true := by
    rw [notLongL hsz, Bool.and_false]
    exact Bool.false_ne_true
  refine call_meets F.slot_list_extend ⟨_, e, rfl⟩ F.entry_list_extend (F.args_list_extend_2 _ _)
    (AutoSeq1.list_extend_list_list_0 l its.toArray n b its2.toArray n2 hlong (by rw [List.size_toArray]; omega) (by omega)) ⟨e, e2, ?_⟩
  refine ⟨.non, _, I.lset (its' := its ++ its2) hH e (by simp) (r.append r2) ?_, rfl, q⟩
  rw [List.length_append]
  omega
def rCat : R2 := fun x y H Q => ∃ l b xs zs, x = .ref l ∧ y = .ref b ∧ H l = some (.lst xs) ∧ H b = some (.lst zs) ∧ xs.length + zs.length ≤ sizeLine ∧ ∀ p, H p = none → Q (.ref p) (upd H p (.lst (xs ++ zs)))
theorem op_cat : OpR X (binaryOp .Add) rCat := by
  intro pins s σ H x y v u Q I rx ry h
  obtain ⟨l, b, xs, zs, rfl, rfl, hH, hB, hz, q⟩ := h
  cases rx
  cases ry
  obtain ⟨z, its, n, r, hl, e⟩ := I.lstM hH
  obtain ⟨z2, its2, n2, r2, hl2, e2⟩ := I.lstM hB
  refine PySem.P.add_list e e2 ?_ (by rw [List.size_toArray, List.size_toArray]; omega)
  have ea : its.toArray ++ its2.toArray = (its ++ its2).toArray := by simp
  rw [ea]
  exact ⟨.ref _, _, I.lnew (t' := s.toks) (r.append r2) (by rw [List.length_append]; omega), rfl, q _ I.fresh⟩
end
end L2
namespace L2
open PySem PySem.Spec PyProof.Rows
section
variable {X : Cx}
def rIndex (K : PySem.W.Frag) : V → List V → Hp → VK → Prop := fun x xs H Q => ∃ (a : Addr) (ys : List V) (y : V) (j : Nat) (z : V), x = V.ref a ∧ xs = [y] ∧ SqL K H a ys ∧ flatV y = true ∧ ys.all flatV = true ∧ ys[j]? = some z ∧ eqV z y = true ∧
  (∀ (m : Nat) (z' : V), m < j → ys[m]? = some z' → eqV z' y = false) ∧ Q (.int (j : Nat)) H
theorem flat_at {ys : List V} (f : ys.all flatV = true) {j : Nat} {z : V} (h : ys[j]? = some z) : flatV z = true := List.all_eq_true.mp f z (List.mem_of_getElem? h)
theorem mt_index : MtR X "list.index" (rIndex X.K) := by
  intro pins s σ H x xs v us Q I rx rxs h
  obtain ⟨a, ys, y, j, z, rfl, rfl, hs, fy, fys, hz, hzj, hno, q⟩ := h
  cases rx
  cases rxs with
  | cons ry rt =>
    rename_i uy ut
    cases rt
    obtain ⟨its, rv, ⟨⟨cls, dd, data, sl⟩, n, ho, hc, hdn, hd⟩, hlen⟩ := I.list hs
    simp only at hc hd
    subst hc hd
    obtain ⟨u, hu, ru⟩ := rv.get hz
    obtain ⟨hjl, hje⟩ := List.getElem?_eq_some_iff.mp hu
    have hvl := rv.length
    have hj : j < its.toArray.size := by simpa using hjl
    have hsl := sizeLine_eq
    refine call_meets PySem.F.slot_list_index ⟨_, ho, rfl⟩ PySem.F.entry_list_index (PySem.F.args_list_index_2 _ _)
      (SeqAt.list_indexAt a its.toArray n dd sl uy (eqU y) j hj (by omega) ?_ ?_) ⟨ho, fun u' hu' => mem_eqAt ry fy rv fys u' (by simpa using hu'), ?_⟩
    · have e1 : its.toArray[j] = u := by simpa using hje
      rw [e1, eqU_of ru (flat_at fys hz)]
      exact hzj
    · intro m hm hmj
      have hml : m < its.length := by simpa using hm
      have hmy : m < ys.length := by omega
      have hy' : ys[m]? = some ys[m] := List.getElem?_eq_getElem hmy
      obtain ⟨u2, hu2, ru2⟩ := rv.get hy'
      obtain ⟨_, hme⟩ := List.getElem?_eq_some_iff.mp hu2
      have e1 : its.toArray[m] = u2 := by simpa using hme
      rw [e1, eqU_of ru2 (flat_at fys hy')]
      exact hno m _ hmj hy'
    · exact ⟨.int (j : Nat), H, I.tok _, ⟨_, rfl⟩, q⟩
end
mutual
inductive Dp (K : PySem.W.Frag) (H : Hp) : V → PyData → Prop
  | non : Dp K H .non .none
  | bl (b : Bool) : Dp K H (.bl b) (.bool b)
  | int (i : Int) : Dp K H (.int i) (.int i)
  | str (x : Str) : Dp K H (.str x) (.str x)
  | lst {a : Addr} {xs : List V} {ds : List PyData} : SqL K H a xs → DpAll K H xs ds → Dp K H (.ref a) (.list ds)
  | tup {a : Addr} {xs : List V} {ds : List PyData} : SqT K H a xs → DpAll K H xs ds → Dp K H (.ref a) (.tuple ds)
inductive DpAll (K : PySem.W.Frag) (H : Hp) : List V → List PyData → Prop
  | nil : DpAll K H [] []
  | cons {v : V} {vs : List V} {d : PyData} {ds : List PyData} : Dp K H v d → DpAll K H vs ds → DpAll K H (v :: vs) (d :: ds)
end
section
variable {X : Cx} {pins : List (Addr × Obj)} {σ : St} {H : Hp} {s : Shared}
mutual
theorem Dp.reads (I : Inv X pins σ H s) : ∀ (d : PyData) (v : V) (u : Value), Dp X.K H v d → RelV v u → ∃ as, Reads s.heap u d as
  | .none, _, _, h, r => by
    cases h
    cases r
    exact ⟨_, Reads.none⟩
  | .bool b, _, _, h, r => by
    cases h
    cases r
    exact ⟨_, Reads.bool b⟩
  | .int i, _, _, h, r => by
    cases h
    obtain ⟨t, rfl⟩ := r
    exact ⟨_, Reads.int i t⟩
  | .str x, _, _, h, r => by
    cases h
    obtain ⟨t, rfl⟩ := r
    exact ⟨_, Reads.str x t⟩
  | .list ds, _, _, h, r => by
    cases h with
    | lst hs ha =>
      cases r
      obtain ⟨its, rv, ⟨o, n, ho, hc, _, hd⟩, _⟩ := I.list hs
      obtain ⟨as, hr⟩ := Dp.readsAll I ds _ its ha rv
      exact ⟨_, Reads.list ho hc hd hr⟩
  | .tuple ds, _, _, h, r => by
    cases h with
    | tup hs ha =>
      cases r
      obtain ⟨its, rv, ⟨o, ho, hc, n, hd⟩, _⟩ := I.tuple hs
      obtain ⟨as, hr⟩ := Dp.readsAll I ds _ its ha rv
      exact ⟨_, Reads.tuple ho hc hd hr⟩
  | .dict _, _, _, h, _ => by cases h
theorem Dp.readsAll (I : Inv X pins σ H s) : ∀ (ds : List PyData) (vs : List V) (us : List Value), DpAll X.K H vs ds → Vals vs us → ∃ as, ReadsAll s.heap us ds as
  | [], _, _, h, r => by
    cases h
    cases r
    exact ⟨_, ReadsAll.nil⟩
  | d :: ds, _, _, h, r => by
    cases h with
    | cons h1 h2 =>
      cases r with
      | cons r1 r2 =>
        obtain ⟨as, q1⟩ := Dp.reads I d _ _ h1 r1
        obtain ⟨bs, q2⟩ := Dp.readsAll I ds _ _ h2 r2
        exact ⟨_, ReadsAll.cons q1 q2⟩
end
end
section
variable {X : Cx}
def rEqD (K : PySem.W.Frag) : R2 := fun x y H Q => ∃ d e, Dp K H x d ∧ Dp K H y e ∧ SeqAt.shaped d = true ∧ SeqAt.shaped e = true ∧ Q (.bl (PyData.eqv d e)) H
theorem op_eqD (hu : X.A.units + 64 < cLine) : OpR X (compareOp .Eq) (rEqD X.K) := by
  intro pins s σ H x y v u Q I rx ry h
  obtain ⟨d, e, hd, he, sd, se, q⟩ := h
  obtain ⟨as, r1⟩ := Dp.reads I d x v hd rx
  obtain ⟨bs, r2⟩ := Dp.reads I e y u he ry
  exact SeqAt.compareEq_shaped r1 r2 sd se hu ⟨.bl _, H, I, rfl, q⟩
end
end L2
namespace L2
open PySem PySem.Spec PyProof.Rows
abbrev CellAt (h : Heap) (c : Addr) (v : Option Value) : Prop := h.IsCell c v
def relS (scope sc : Scope) : Scope :=
  { scope with names := scope.names.map fun (n, k) => if (k == .free && sc.kind == .function && sc.names.lookup n == some .cell) then (n, .cell) else (n, k) }
def cloFrom (cells : List (Str × Addr)) : List (Str × NameKind) → List (Str × Addr) → List (Str × Addr)
  | [], acc => acc
  | (n, k) :: r, acc => if k == .free then cloFrom cells r ((n, (cells.lookup n).getD 0) :: acc) else cloFrom cells r acc
theorem closure_loop (env : Env) (f : Str × NameKind → List (Str × Addr) → Sem (ForInStep (List (Str × Addr))))
    (hf : ∀ n k c, f (n, k) c = if k == .free then (do let a ← cellOf env n; pure (.yield ((n, a) :: c))) else pure (.yield c)) :
    ∀ (names : List (Str × NameKind)) (acc : List (Str × Addr)), (∀ y ∈ names, y.2 = .free → ∃ c, env.cells.lookup y.1 = some c) → forIn names acc f = pure (cloFrom env.cells names acc)
  | [], acc, _ => by rw [List.forIn_nil]; rfl
  | (n, k) :: r, acc, h => by
    rw [List.forIn_cons, hf]
    have ih := fun acc => closure_loop env f hf r acc fun y hy => h y (List.mem_cons_of_mem _ hy)
    unfold cloFrom
    by_cases hk : (k == NameKind.free) = true
    · rw [if_pos hk, if_pos hk]
      obtain ⟨c, hc⟩ := h (n, k) List.mem_cons_self (by simpa using hk)
      have e : cellOf env n = pure c := by unfold cellOf; rw [hc]
      rw [e]
      have e2 : (env.cells.lookup n).getD 0 = c := by rw [hc]; rfl
      rw [e2]
      exact ih _
    · rw [if_neg hk, if_neg hk]
      exact ih _
theorem closure_ok {scope : Scope} {env : Env} (h : ∀ y ∈ scope.names, y.2 = .free → ∃ c, env.cells.lookup y.1 = some c) : closureFor scope env = pure (cloFrom env.cells scope.names []) := by
  simp only [closureFor]
  rw [closure_loop env _ (fun n k c => rfl) scope.names [] h]
  rfl
theorem mem_lookup {α : Type} : ∀ {l : List (Str × α)} {n : Str} {c : α}, (n, c) ∈ l → ∃ c', l.lookup n = some c'
  | (k, v) :: r, n, c, h => by
    rw [List.lookup_cons]
    cases hb : n == k with
    | true => exact ⟨_, rfl⟩
    | false =>
      rcases List.mem_cons.mp h with e | h
      · cases e; simp at hb
      · exact mem_lookup h
theorem cloFrom_mem {cells : List (Str × Addr)} : ∀ {names : List (Str × NameKind)} {acc : List (Str × Addr)} {n : Str} {c : Addr}, (n, c) ∈ cloFrom cells names acc → (n, c) ∈ acc ∨ ((n, .free) ∈ names ∧ c = (cells.lookup n).getD 0)
  | [], _, _, _, h => .inl h
  | (m, k) :: r, acc, n, c, h => by
    unfold cloFrom at h
    split at h
    · rename_i hk
      have hk : k = .free := by simpa using hk
      rcases cloFrom_mem h with h | ⟨h1, h2⟩
      · rcases List.mem_cons.mp h with e | h
        · cases e; exact .inr ⟨hk ▸ List.mem_cons_self, rfl⟩
        · exact .inl h
      · exact .inr ⟨List.mem_cons_of_mem _ h1, h2⟩
    · rcases cloFrom_mem h with h | ⟨h1, h2⟩
      · exact .inl h
      · exact .inr ⟨List.mem_cons_of_mem _ h1, h2⟩
theorem cloFrom_acc {cells : List (Str × Addr)} : ∀ {names : List (Str × NameKind)} {acc : List (Str × Addr)} {p : Str × Addr}, p ∈ acc → p ∈ cloFrom cells names acc
  | [], _, _, h => h
  | (m, k) :: r, acc, p, h => by
    unfold cloFrom
    split
    · exact cloFrom_acc (List.mem_cons_of_mem _ h)
    · exact cloFrom_acc h
theorem cloFrom_has {cells : List (Str × Addr)} : ∀ {names : List (Str × NameKind)} {acc : List (Str × Addr)} {n : Str}, (n, .free) ∈ names → (n, (cells.lookup n).getD 0) ∈ cloFrom cells names acc
  | (m, k) :: r, acc, n, h => by
    unfold cloFrom
    rcases List.mem_cons.mp h with e | h
    · cases e
      exact cloFrom_acc List.mem_cons_self
    · split
      · exact cloFrom_has h
      · exact cloFrom_has h
theorem cells_mem : ∀ {names : List (Str × NameKind)} {h : Heap} {acc : List (Str × Addr)} {x : Str} {c : Addr}, (x, c) ∈ cellsFrom h.objs.size names acc →
    (x, c) ∈ acc ∨ ((x, .cell) ∈ names ∧ h.objs.size ≤ c ∧ CellAt (pushCells h names) c none)
  | [], _, _, _, _, h => .inl h
  | (n, k) :: r, h, acc, x, c, hm => by
    unfold cellsFrom at hm
    unfold pushCells
    split at hm
    · rename_i hk
      rw [if_pos hk]
      have hk : k = .cell := by simpa using hk
      rw [← Heap.size_push h { cls := .type "cell", data := .cell none }] at hm
      rcases cells_mem hm with hm | ⟨h1, h2, h3⟩
      · rcases List.mem_cons.mp hm with e | hm
        · cases e
          exact .inr ⟨hk ▸ List.mem_cons_self, Nat.le_refl _, _, pushCells_keeps r _ _ _ (Heap.get?_push_size _ rfl), rfl⟩
        · exact .inl hm
      · rw [Heap.size_push] at h2
        exact .inr ⟨List.mem_cons_of_mem _ h1, Nat.le_of_succ_le h2, h3⟩
    · rename_i hk
      rw [if_neg hk]
      rcases cells_mem hm with hm | ⟨h1, h2, h3⟩
      · exact .inl hm
      · exact .inr ⟨List.mem_cons_of_mem _ h1, h2, h3⟩
theorem cells_acc : ∀ {names : List (Str × NameKind)} {n : Nat} {acc : List (Str × Addr)} {p : Str × Addr}, p ∈ acc → p ∈ cellsFrom n names acc
  | [], _, _, _, h => h
  | (m, k) :: r, n, acc, p, h => by
    unfold cellsFrom
    split
    · exact cells_acc (List.mem_cons_of_mem _ h)
    · exact cells_acc h
theorem cells_has : ∀ {names : List (Str × NameKind)} {n : Nat} {acc : List (Str × Addr)} {x : Str}, (x, .cell) ∈ names → ∃ c, (x, c) ∈ cellsFrom n names acc
  | (m, k) :: r, n, acc, x, h => by
    unfold cellsFrom
    rcases List.mem_cons.mp h with e | h
    · cases e
      exact ⟨n, cells_acc List.mem_cons_self⟩
    · split
      · exact cells_has h
      · exact cells_has h
theorem cells_inj : ∀ {names : List (Str × NameKind)} {h : Heap} {acc : List (Str × Addr)} {x y : Str} {c : Addr}, (∀ p ∈ acc, p.2 < h.objs.size) → (∀ x y c, (x, c) ∈ acc → (y, c) ∈ acc → x = y) →
    (x, c) ∈ cellsFrom h.objs.size names acc → (y, c) ∈ cellsFrom h.objs.size names acc → x = y
  | [], _, _, _, _, _, _, hi, h1, h2 => hi _ _ _ h1 h2
  | (n, k) :: r, h, acc, x, y, c, hl, hi, h1, h2 => by
    unfold cellsFrom at h1 h2
    split at h1
    · rename_i hk
      rw [if_pos hk] at h2
      rw [← Heap.size_push h { cls := .type "cell", data := .cell none }] at h1 h2
      refine cells_inj (h := h.push _) (fun p hp => ?_) (fun x y c a b => ?_) h1 h2
      · rw [Heap.size_push]
        rcases List.mem_cons.mp hp with rfl | hp
        · exact Nat.lt_succ_self _
        · exact Nat.lt_succ_of_lt (hl p hp)
      · rcases List.mem_cons.mp a with e | a <;> rcases List.mem_cons.mp b with e' | b
        · cases e; cases e'; rfl
        · cases e; exact absurd (hl _ b) (Nat.lt_irrefl _)
        · cases e'; exact absurd (hl _ a) (Nat.lt_irrefl _)
        · exact hi _ _ _ a b
    · rename_i hk
      rw [if_neg hk] at h2
      exact cells_inj hl hi h1 h2
theorem newEnv_comp {M : Model} {A : Around} {E : Value → Shared → Prop} {s : Shared} {scope : Scope} {globals : Addr} {closure : List (Str × Addr)} {qual : Str} {func : Option Addr} {code : Value} {around : Env} {builtins : Addr} {Q : Env → Shared → Prop}
    (h : Q (newEnv scope s.heap.objs.size globals (cellsFrom (s.heap.objs.size + 1) scope.names closure) qual func code (some around) builtins)
      { s with heap := pushCells (s.heap.push { cls := .type "dict", data := .dict #[] }) scope.names }) :
    wpAny M A (newFunctionEnv scope globals closure [] qual func code (some around) builtins) Q E s := by
  simp only [newFunctionEnv, Option.isSome_some, if_true]
  refine wpAny_bind (wpAny_alloc ?_)
  refine wpAny_bind (wpAny_layCells _ (fun n k c => rfl) scope.names closure _ _ ?_)
  rw [show ({ s with heap := s.heap.push { cls := .type "dict", data := .dict #[] } } : Shared).heap.objs.size = s.heap.objs.size + 1 from Heap.size_push ..]
  rw [List.forIn_nil]
  exact wpAny_bind (wpAny_pure (wpAny_pure h))
theorem lookup_relS {sc : Scope} : ∀ {names : List (Str × NameKind)} {x : Str} {k : NameKind},
    (names.map fun (n, k) => if (k == NameKind.free && sc.kind == .function && sc.names.lookup n == some .cell) then (n, NameKind.cell) else (n, k)).lookup x = some k →
    ∃ k', names.lookup x = some k' ∧ (k = k' ∨ (k' = .free ∧ k = .cell))
  | [], _, _, h => by simp at h
  | (n, k₀) :: r, x, k, h => by
    have ih := @lookup_relS sc r x k
    have h' : List.lookup x ((if (k₀ == NameKind.free && sc.kind == .function && sc.names.lookup n == some .cell) = true then (n, NameKind.cell) else (n, k₀)) :: (r.map _)) = some k := h
    cases hx : x == n with
    | true =>
      simp only [List.lookup_cons, hx]
      by_cases hc : (k₀ == NameKind.free && sc.kind == .function && sc.names.lookup n == some .cell) = true
      · rw [if_pos hc] at h'
        simp only [List.lookup_cons, hx] at h'
        cases h'
        simp only [Bool.and_eq_true, beq_iff_eq] at hc
        exact ⟨k₀, rfl, .inr ⟨hc.1.1, rfl⟩⟩
      · rw [if_neg hc] at h'
        simp only [List.lookup_cons, hx] at h'
        cases h'
        exact ⟨_, rfl, .inl rfl⟩
    | false =>
      simp only [List.lookup_cons, hx]
      by_cases hc : (k₀ == NameKind.free && sc.kind == .function && sc.names.lookup n == some .cell) = true
      · rw [if_pos hc] at h'
        simp only [List.lookup_cons, hx] at h'
        exact ih h'
      · rw [if_neg hc] at h'
        simp only [List.lookup_cons, hx] at h'
        exact ih h'
structure BlkOk (N : List Str) (sc scope : Scope) (own : List (Str × Nat)) : Prop where
  kind : scope.kind = .function
  uniq : ∀ y ∈ scope.names, scope.names.lookup y.1 = some y.2
  ix : ∀ p ∈ own, N[p.2]? = some p.1
  free : ∀ y ∈ scope.names, y.2 = .free → sc.names.lookup y.1 = some .cell ∨ sc.names.lookup y.1 = some .free
  own : ∀ y ∈ scope.names, y.2 = .local ∨ y.2 = .cell → y.1 ∈ own.map (·.1) ∨ y.1 ∉ N
def wipe (σ : St) : List Nat → St
  | [] => σ
  | v :: vs => (wipe σ vs).set v none
theorem wipe_length (σ : St) : ∀ vs : List Nat, (wipe σ vs).length = σ.length
  | [] => rfl
  | v :: vs => by unfold wipe; rw [List.length_set, wipe_length σ vs]
theorem wipe_some {σ : St} {i : Nat} {x : V} : ∀ {vs : List Nat}, (wipe σ vs)[i]? = some (some x) → σ[i]? = some (some x) ∧ i ∉ vs
  | [], h => ⟨h, by simp⟩
  | v :: vs, h => by
    unfold wipe at h
    by_cases hi : v = i
    · subst hi
      by_cases hv : v < (wipe σ vs).length
      · rw [List.getElem?_set_self hv] at h; cases h
      · rw [List.getElem?_eq_none (by simpa using hv)] at h; cases h
    · rw [List.getElem?_set_ne hi] at h
      obtain ⟨h1, h2⟩ := wipe_some h
      exact ⟨h1, by simp only [List.mem_cons, not_or]; exact ⟨fun e => hi e.symm, h2⟩⟩
abbrev Cx.blk (X : Cx) (s : Shared) (H : Hp) (scope : Scope) (cenv : Env) (fp : List Addr) : Cx := { X with s_0 := s, H_0 := H, env := cenv, outer := X.stack, ex := fp, fn := fun x => scope.names.lookup x == some .cell, pn := [], xe := fun _ _ => False }
section
variable {X : Cx} {pins : List (Addr × Obj)} {σ : St} {H : Hp} {s : Shared}
theorem block_start {scope : Scope} {own : List (Str × Nat)} {fp : List Addr} (I : Inv X pins σ H s) (ok : BlkOk X.N X.env.scope scope own) (hN : X.N.Nodup) (hfp : ∀ b ∈ fp, FpOk X pins H b ∧ b < s.heap.objs.size) :
    Inv (X.blk s H scope (compEnvC scope (cellsFrom (s.heap.objs.size + 1) scope.names (cloFrom X.env.cells scope.names [])) s.heap.objs.size X.env) fp) [] (wipe σ (own.map (·.2))) H { s with heap := pushCells (s.heap.push { cls := .type "dict", data := .dict #[] }) scope.names } := by
  have hfree : ∀ y ∈ scope.names, y.2 = .free → ∃ c, X.env.cells.lookup y.1 = some c := fun y hy e => by
    rcases ok.free y hy e with k | k
    · exact I.ok.has _ (.inl k)
    · exact I.ok.has _ (.inr k)
  generalize hcenv : compEnvC scope (cellsFrom (s.heap.objs.size + 1) scope.names (cloFrom X.env.cells scope.names [])) s.heap.objs.size X.env = cenv
  have kp : ∀ b o, s.heap.get? b = some o → (pushCells (s.heap.push { cls := .type "dict", data := .dict #[] }) scope.names).get? b = some o := fun b o e => pushCells_keeps _ _ _ _ (Heap.get?_push_of_some _ e)
  have hL : cenv.locals = s.heap.objs.size := by rw [← hcenv]; rfl
  have hcl : cenv.cells = cellsFrom (s.heap.objs.size + 1) scope.names (cloFrom X.env.cells scope.names []) := by rw [← hcenv]; rfl
  have hsc : cenv.scope = relS scope X.env.scope := by rw [← hcenv]; rfl
  rw [← Heap.size_push s.heap { cls := .type "dict", data := .dict #[] }] at hcl
  have cm : ∀ {y c}, (y, c) ∈ cloFrom X.env.cells scope.names [] → X.env.cells.lookup y = some c ∧ c < s.heap.objs.size := fun {y c} hm => by
    rcases cloFrom_mem hm with hm | ⟨h1, rfl⟩
    · cases hm
    · obtain ⟨c, hc⟩ := hfree _ h1 rfl
      rw [hc]
      obtain ⟨w, z⟩ := I.cell _ _ hc
      exact ⟨rfl, z.lt⟩
  have mem : ∀ {y c}, cenv.cells.lookup y = some c → (X.env.cells.lookup y = some c ∧ c < s.heap.objs.size) ∨ (s.heap.objs.size + 1 ≤ c ∧ CellAt (pushCells (s.heap.push { cls := .type "dict", data := .dict #[] }) scope.names) c none) := fun {y c} e => by
    rw [hcl] at e
    rcases cells_mem (PySem.mem_of_lookup e) with hm | ⟨_, h2, h3⟩
    · exact .inl (cm hm)
    · rw [Heap.size_push] at h2; exact .inr ⟨h2, h3⟩
  have look : ∀ {y}, scope.names.lookup y = some .free → ∃ c, cenv.cells.lookup y = some c ∧ X.env.cells.lookup y = some c := fun {y} hl => by
    have hy : (y, NameKind.free) ∈ scope.names := PySem.mem_of_lookup hl
    obtain ⟨c', e'⟩ := mem_lookup (cells_acc (names := scope.names) (n := (s.heap.push { cls := .type "dict", data := .dict #[] }).objs.size) (cloFrom_has (cells := X.env.cells) (acc := []) hy))
    rw [← hcl] at e'
    refine ⟨c', e', ?_⟩
    rw [hcl] at e'
    rcases cells_mem (PySem.mem_of_lookup e') with hm | ⟨h1, _, _⟩
    · exact (cm hm).1
    · have := ok.uniq _ h1
      rw [hl] at this; cases this
  have okB : (X.blk s H scope cenv fp).Ok := by
    refine ⟨I.ok.mod, by show cenv.scope.kind = _; rw [hsc]; exact ok.kind, by show cenv.globals = _; rw [← hcenv]; exact I.ok.glob, by show cenv.builtins = _; rw [← hcenv]; exact I.ok.blt, by show s.heap.objs.size ≤ cenv.locals; rw [hL]; exact Nat.le_refl _,
      fun y z c e1 e2 => ?_, fun y hy => ?_, fun y c z e => ?_, I.ok.hd, I.ok.frames, .inl rfl, fun b hb => ⟨?_, fun y c e z => ?_⟩, I.bs, Nat.le_trans I.ok.bsz I.sz, fun b o e hb => ?_, fun b hb z => ?_, I.stack, I.stkFree⟩
    · have e1 : cenv.cells.lookup y = some c := e1
      have e2 : cenv.cells.lookup z = some c := e2
      rw [hcl] at e1 e2
      refine cells_inj (fun p hp => ?_) (fun y z c a b => I.ok.inj y z c (cm a).1 (cm b).1) (PySem.mem_of_lookup e1) (PySem.mem_of_lookup e2)
      rw [Heap.size_push]
      exact Nat.lt_succ_of_lt (cm (y := p.1) (c := p.2) hp).2
    · show ∃ c, cenv.cells.lookup y = some c
      have key : ∀ k, cenv.kindOf y = some k → (k = .cell ∨ k = .free) → ∃ c, cenv.cells.lookup y = some c := fun k hk hk' => by
        unfold Env.kindOf at hk
        rw [hsc] at hk
        obtain ⟨k', e, r⟩ := lookup_relS hk
        have : k' = .cell ∨ k' = .free := by
          rcases r with rfl | ⟨rfl, _⟩
          · exact hk'
          · exact .inr rfl
        rcases this with rfl | rfl
        · obtain ⟨c, hm⟩ := cells_has (n := (s.heap.push { cls := .type "dict", data := .dict #[] }).objs.size) (acc := cloFrom X.env.cells scope.names []) (PySem.mem_of_lookup e)
          obtain ⟨c', e'⟩ := mem_lookup hm
          exact ⟨c', by rw [hcl]; exact e'⟩
        · obtain ⟨c, h1, _⟩ := look e
          exact ⟨c, h1⟩
      rcases hy with hy | hy
      · exact key _ hy (.inl rfl)
      · exact key _ hy (.inr rfl)
    · have z : (scope.names.lookup y == some NameKind.cell) = true := z
      have z : scope.names.lookup y = some .cell := by simpa using z
      have e : cenv.cells.lookup y = some c := e
      rw [hcl] at e
      rcases cells_mem (PySem.mem_of_lookup e) with hm | ⟨_, h2, _⟩
      · rcases cloFrom_mem hm with hm | ⟨h1, _⟩
        · cases hm
        · have q := ok.uniq _ h1
          rw [z] at q; cases q
      · rw [Heap.size_push] at h2
        exact Nat.le_of_succ_le h2
    · show b ≠ cenv.locals
      rw [hL]; exact Nat.ne_of_lt (hfp b hb).2
    · have e : cenv.cells.lookup y = some c := e
      rcases mem e with ⟨h1, _⟩ | ⟨h1, _⟩
      · exact (hfp b hb).1.2.2.2.2.1 y c h1 z
      · have h2 : s.heap.objs.size + 1 ≤ b := by rw [← z]; exact h1
        exact absurd (Nat.lt_of_lt_of_le (hfp b hb).2 (Nat.le_of_succ_le h2)) (Nat.lt_irrefl _)
    · rcases (hfp b hb).1.2.2.2.1 with z | z
      · exact I.ok.noex b o e z
      · exact absurd (Nat.lt_of_lt_of_le (Heap.lt_size e) (Nat.le_trans I.ok.bsz z)) (Nat.lt_irrefl _)
    · rcases List.mem_cons.mp (I.stkSub b z) with z | z
      · exact (hfp b hb).1.2.1 z
      · exact (hfp b hb).1.2.2.1 z
  refine ⟨okB, rfl, I.bare, Un.kept kp, ⟨fun _ => none, ?_, fun i y av e1 e2 e3 => ?_⟩, fun y c e => ?_, ?_, fun y c e => ?_, fun p hp => ?_, I.hok.kept kp, by rw [wipe_length]; exact I.len⟩
  · show Heap.Ns _ cenv.locals _
    rw [hL]
    exact Heap.Ns.keeps (Heap.Ns.new ..) fun b o e => pushCells_keeps _ _ _ _ e
  · obtain ⟨e2, hne⟩ := wipe_some e2
    have hfr : scope.names.lookup y = some .free ∧ (cenv.kindOf y = some .cell ∨ cenv.kindOf y = some .free) := by
      have key : ∀ k, cenv.scope.names.lookup y = some k → k = .local ∨ k = .cell ∨ k = .free → scope.names.lookup y = some .free ∧ (cenv.kindOf y = some .cell ∨ cenv.kindOf y = some .free) := fun k hk hk' => by
        have hk0 := hk
        rw [hsc] at hk
        obtain ⟨k', e, r⟩ := lookup_relS hk
        have no : ¬ (k' = .local ∨ k' = .cell) := fun hh => by
          rcases ok.own _ (PySem.mem_of_lookup e) hh with e' | e'
          · obtain ⟨p, hp, hpy⟩ := List.mem_map.mp e'
            have e3 := ok.ix p hp
            have : p.1 = y := hpy
            rw [this] at e3
            exact hne (List.mem_map.mpr ⟨p, hp, nodup_ix hN e3 e1⟩)
          · exact e' (List.mem_of_getElem? e1)
        rcases r with rfl | ⟨rfl, rfl⟩
        · rcases hk' with rfl | rfl | rfl
          · exact absurd (.inl rfl) no
          · exact absurd (.inr rfl) no
          · exact ⟨e, .inr hk0⟩
        · exact ⟨e, .inl hk0⟩
      have e3 : Vis cenv.scope y := e3
      rcases e3 with e3 | e3 | e3
      · exact key _ e3 (.inl rfl)
      · exact key _ e3 (.inr (.inl rfl))
      · exact key _ e3 (.inr (.inr rfl))
    obtain ⟨m, hn, hl⟩ := I.loc
    have hvis : Vis X.env.scope y := (ok.free _ (PySem.mem_of_lookup hfr.1) rfl).elim (fun k => .inr (.inl k)) (fun k => .inr (.inr k))
    obtain ⟨w, r, q⟩ := hl i y av e1 e2 hvis
    refine ⟨w, r, .inr ⟨hfr.2, ?_⟩⟩
    obtain ⟨c, h1, h2⟩ := look hfr.1
    rcases q with ⟨k, _⟩ | ⟨_, c', e', z⟩
    · have k : X.env.scope.names.lookup y = some .local := k
      rcases ok.free _ (PySem.mem_of_lookup hfr.1) rfl with k' | k' <;> rw [show X.env.scope.names.lookup y = _ from k'] at k <;> cases k
    · rw [h2] at e'; cases e'
      exact ⟨c, h1, z.keeps kp⟩
  · have e : cenv.cells.lookup y = some c := e
    rcases mem e with ⟨h1, _⟩ | ⟨_, z⟩
    · obtain ⟨w, z⟩ := I.cell y c h1
      exact ⟨w, z.keeps kp⟩
    · exact ⟨_, z⟩
  · show H cenv.locals = none
    rw [hL]; exact I.hok.fresh (Nat.le_refl _)
  · have e : cenv.cells.lookup y = some c := e
    rcases mem e with ⟨h1, _⟩ | ⟨h1, _⟩
    · exact I.freeC y c h1
    · exact I.hok.fresh (Nat.le_of_succ_le h1)
  · exact absurd (show p ∈ ([] : List (Addr × Obj)) ++ [] from hp) (by simp)
theorem app_ok {E : Value → Shared → Prop} {D : Addr} {xs : List V} {y : V} {v : Value} {Q : Value → Shared → Prop} (I : Inv X pins σ H s) (hD : H D = some (.lst xs)) (hz : xs.length < sizeLine) (r : RelV y v)
    (h : ∀ s', Inv X pins σ (upd H D (.lst (xs ++ [y]))) s' → Q .none s') : wpAny (model X.prog X.w) X.A (call (.builtin "list.append") [.ref D, v]) Q E s := by
  obtain ⟨hz', its, n, ri, e⟩ := I.hok D _ hD
  have hl := ri.length
  refine append_at (hsz := by rw [List.size_toArray]; omega) e fun h' sb ho' => ?_
  refine h { s with heap := h' } (I.write (t' := s.toks) (by rw [hD]; trivial) (.inl rfl) (fun b u hb q => (sb.2 b hb).trans q) ⟨_, ho'⟩ ⟨by rw [List.length_append]; exact hz, its ++ [v], n + 1, ri.append (.cons r .nil), ?_⟩)
  rw [ho']
  simp
def PTs (X : Cx) (ifs : List Expr) (t : TT) : Prop :=
  ∀ (pins : List (Addr × Obj)) (s : Shared) (σ : St) (H : Hp) (Q : Bool → Hp → Prop), Inv X pins σ H s → t σ H Q →
    wpAny (model X.prog X.w) X.A (forIn ifs true fun c r => if r = true then do let ok ← isTrue c X.env (eval c X.env); pure (ForInStep.yield ok) else pure (ForInStep.yield r)) (TP X pins σ Q) X.xe s
def tYes : TT := fun _ H Q => Q true H
theorem pts_nil : PTs X [] tYes := fun _ _ _ H _ I h => wpAny_tests_nil ⟨H, I, h⟩
end
theorem thnF {α : Type} {t : Sem α} {Q Q' : α → Shared → Prop} {M : Model} {A : Around} {E : Value → Shared → Prop} {s : Shared} (h : wpAny M A t Q (fun _ _ => False) s) (hQ : ∀ a s, Q a s → Q' a s) : wpAny M A t Q' E s := wpAny_mono h hQ fun _ _ z => False.elim z
theorem compLoop_any {prog : Program} {w : World} {A : Around} {R : Result → Shared → Prop} {s : Shared} {elt target iter : Expr} {ifs : List Expr} {scope : Scope} {pos : Pos} {it acc : Value} {env : Env} (I : Nat → Shared → Prop)
    (turn : ∀ n s, I n s → wpAny (model prog w) A (pyNext it) (fun r s₁ => match r with
      | none => R (.ok .next) s₁
      | some v => wpAny (model prog w) A (letOwnedTupleGo target it v) (fun _ s₁' => wpAny (model prog w) A (assign target env v) (fun _ s₂ =>
          wpAny (model prog w) A (forIn ifs true fun c r => if r = true then do let ok ← isTrue c env (eval c env); pure (ForInStep.yield ok) else pure (ForInStep.yield r)) (fun ok s₃ =>
            if ok = true then wpAny (model prog w) A (eval elt env) (fun x s₄ =>
              wpAny (model prog w) A (call (.builtin "list.append") [acc, x]) (fun _ s₅ => ∃ m, m < n ∧ I m s₅) (notedBy (model prog w) A env fun e s' => R (.error e) s') s₄) (notedBy (model prog w) A env fun e s' => R (.error e) s') s₃
            else ∃ m, m < n ∧ I m s₃) (notedBy (model prog w) A env fun e s' => R (.error e) s') s₂) (notedBy (model prog w) A env fun e s' => R (.error e) s') s₁') (notedBy (model prog w) A env fun e s' => R (.error e) s') s₁) (notedBy (model prog w) A env fun e s' => R (.error e) s') s)
    (n : Nat) (h : I n s) :
    codeAny (model prog w) A (.compLoop (.ListComp elt [⟨target, iter, ifs, 0⟩] scope pos) 0 it acc env) R s := by
  refine codeAny_loop rfl I (fun n s hI => ?_) n h
  show wpAny _ A ((compTurn (.ListComp elt [⟨target, iter, ifs, 0⟩] scope pos) 0 it acc env).onRaise (fun x => do noteFrame x env; theTreesLotGoes x)) _ _ s
  refine wpAny_noted ?_
  rw [compTurn_list]
  refine wpAny_bind (wpAny_standAt (wpAny_bind (wpAny_mono (turn n s hI) (fun r s₁ h₁ => ?_) fun _ _ h' => h')))
  cases r with
  | none => exact wpAny_pure h₁
  | some v =>
    refine wpAny_bind (wpAny_mono h₁ (fun _ s₁' h₁' => ?_) fun _ _ h' => h')
    refine wpAny_bind (wpAny_mono h₁' (fun _ s₂ h₂ => wpAny_bind (wpAny_mono h₂ (fun ok s₃ h₃ => ?_) fun _ _ h' => h')) fun _ _ h' => h')
    cases ok with
    | false => exact wpAny_pure ⟨rfl, h₃⟩
    | true =>
      exact wpAny_bind (wpAny_bind (wpAny_mono h₃ (fun x s₄ h₄ => wpAny_bind (wpAny_mono h₄ (fun _ s₅ h₅ => wpAny_pure (wpAny_pure ⟨rfl, h₅⟩)) fun _ _ h' => h')) fun _ _ h' => h'))
section
variable {X : Cx}
def tLc (wi : TI) (g : TG) (tt : TT) (te : TE) (vs : List Nat) : TE := fun σ H Q => wi σ H fun J H1 => ∀ D, H1 D = none → ∃ W : Nat → Nat → Hp → Prop, (∃ m, W 0 m (upd H1 D (.lst []))) ∧ ∀ i m H, W i m H →
  (J.stop i H ∧ Q (.ref D) H) ∨ (J.go i H ∧ ∃ Nx : Hp → Prop, (∀ H', Nx H' → ∃ m', m' < m ∧ W (i + 1) m' H') ∧ ∀ x H', J.yld i H x H' → g x (wipe σ vs) H' fun σ2 H2 => wipe σ2 vs = wipe σ vs ∧ tt σ2 H2 fun b H3 =>
    if b = true then te σ2 H3 fun y H4 => ∃ acc, H4 D = some (.lst acc) ∧ acc.length < sizeLine ∧ Nx (upd H4 D (.lst (acc ++ [y]))) else Nx H3)
theorem lc_core {pins : List (Addr × Obj)} {s : Shared} {σ : St} {H : Hp} {Q : VK} {elt tg iter : Expr} {ifs : List Expr} {scope : Scope} {own : List (Str × Nat)} {pos pos' : Pos} {wi : TI} {g : TG} {tt : TT} {te : TE} {use : Option (Value → Sem Unit)} {Qf : Value → Shared → Prop}
    (hc : X.calm = true) (hN : X.N.Nodup) (I : Inv X pins σ H s) (hi : PI X tg iter wi) (ok : BlkOk X.N X.env.scope scope own)
    (hg : ∀ (s : Shared) (H : Hp) (C : Addr) (cl : List (Str × Addr)) (fp : List Addr), PG (X.blk s H scope (compEnvC scope cl C X.env) fp) tg g) (ht : ∀ (s : Shared) (H : Hp) (C : Addr) (cl : List (Str × Addr)) (fp : List Addr), PTs (X.blk s H scope (compEnvC scope cl C X.env) fp) ifs tt)
    (he : ∀ (s : Shared) (H : Hp) (C : Addr) (cl : List (Str × Addr)) (fp : List Addr), PE (X.blk s H scope (compEnvC scope cl C X.env) fp) elt te) (hs : ∀ x, foldedSetIterable iter X.env x = pure x)
    (h : tLc wi g tt te (own.map (·.2)) σ H Q)
    (hRR : ∀ D C s' m H', Inv X pins σ H' s' → Q (.ref D) H' → s'.heap.Ns C m → FpOk X pins H' C → compPost (model X.prog X.w) X.A X.xe use Qf (.ref D) C (.ok .next) s') :
    wpAny (model X.prog X.w) X.A (comprehension (.ListComp elt [⟨tg, iter, ifs, 0⟩] scope pos) scope X.env pos' (newList []) false (eval iter X.env) use) Qf X.xe s := by
  have hfree : ∀ y ∈ scope.names, y.2 = .free → ∃ c, X.env.cells.lookup y.1 = some c := fun y hy e => by
    rcases ok.free y hy e with k | k
    · exact I.ok.has _ (.inl k)
    · exact I.ok.has _ (.inr k)
  refine wpAny_comprehension_free (use := use) rfl hs (closure_ok hfree) ok.kind (fun y hy e => by rw [ok.uniq y hy, e])
    (thn (hi pins s σ H _ I h) fun xv s1 hx => thn hx fun itv s2 h2 => ?_)
  obtain ⟨it, fp, tn, J, H2, e, I2, T, st2, f2, q⟩ := h2
  subst e
  refine wpAny_newObj_type (newEnv_comp ?_) (by show 0 ≤ sizeLine; decide)
  generalize hD : s2.heap.objs.size = D
  have hDn : H2 D = none := I2.hok.fresh (Nat.le_of_eq hD)
  obtain ⟨W, ⟨m0, w0⟩, turn⟩ := q D hDn
  generalize hs3 : ({ s2 with heap := s2.heap.push { cls := .type "list", data := .seq ([] : List Value).toArray } } : Shared) = s3
  have I3 : Inv X pins σ (upd H2 D (.lst [])) s3 := by
    rw [← hs3]
    refine I2.laid (t' := s2.toks) (fun b o e => Heap.get?_push_of_some _ e) (Nat.le_of_eq hD) ⟨Nat.zero_le _, [], 0, .nil, ?_⟩
    rw [← hD]
    exact Heap.get?_push_size _ rfl
  have h3 : s3.heap = s2.heap.push { cls := .type "list", data := .seq ([] : List Value).toArray } := by rw [← hs3]
  have sz : ∀ b ∈ fp, b < s2.heap.objs.size := fun b hb => by
    obtain ⟨o, e, _⟩ := T.obj _ _ st2 b hb
    exact Heap.lt_size e
  have f3 : ∀ b ∈ fp, FpOk X pins (upd H2 D (.lst [])) b ∧ b < s3.heap.objs.size := fun b hb => by
    have hlt := sz b hb
    refine ⟨⟨?_, (f2 b hb).2⟩, by rw [h3, Heap.size_push]; exact Nat.lt_succ_of_lt hlt⟩
    rw [upd_ne (by rw [← hD]; exact Nat.ne_of_lt hlt)]
    exact (f2 b hb).1
  have st3 : tn 0 s3.heap := T.keep _ _ _ st2 fun b _ o e => by rw [h3]; exact Heap.get?_push_of_some _ e
  have I4 := block_start I3 ok hN f3
  have pg := hg s3 (upd H2 D (.lst [])) s3.heap.objs.size (cellsFrom (s3.heap.objs.size + 1) scope.names (cloFrom X.env.cells scope.names [])) fp
  have pt := ht s3 (upd H2 D (.lst [])) s3.heap.objs.size (cellsFrom (s3.heap.objs.size + 1) scope.names (cloFrom X.env.cells scope.names [])) fp
  have pe := he s3 (upd H2 D (.lst [])) s3.heap.objs.size (cellsFrom (s3.heap.objs.size + 1) scope.names (cloFrom X.env.cells scope.names [])) fp
  show codeAny _ _ (.compStart (.ListComp elt [⟨tg, iter, ifs, 0⟩] scope pos) 0 (.ref it) (.ref D) (compEnvC scope (cellsFrom (s3.heap.objs.size + 1) scope.names (cloFrom X.env.cells scope.names [])) s3.heap.objs.size X.env)) (compPost (model X.prog X.w) X.A X.xe use Qf (.ref D) s3.heap.objs.size) { s3 with heap := pushCells (s3.heap.push { cls := .type "dict", data := .dict #[] }) scope.names }
  have nfp : ∀ b ∈ fp, (upd H2 D (.lst [])) b = none := fun b hb => (f3 b hb).1.1
  generalize hce : compEnvC scope (cellsFrom (s3.heap.objs.size + 1) scope.names (cloFrom X.env.cells scope.names [])) s3.heap.objs.size X.env = ce at I4 pg pt pe ⊢
  have cL : ce.locals = s3.heap.objs.size := by subst hce; rfl
  generalize hH3 : upd H2 D (.lst []) = H3 at I3 I4 pg pt pe w0 nfp f3
  generalize hs4 : ({ s3 with heap := pushCells (s3.heap.push { cls := .type "dict", data := .dict #[] }) scope.names } : Shared) = s4 at I4 ⊢
  have st4 : tn 0 s4.heap := T.keep _ _ _ st3 fun b _ o e => by rw [← hs4]; exact pushCells_keeps _ _ _ _ (Heap.get?_push_of_some _ e)
  have stat : ∀ {σ' : St} {H' : Hp} {s' : Shared}, Inv (X.blk s3 H3 scope ce fp) [] σ' H' s' → (∀ b ∈ fp, H' b = none) → ∀ b ∈ fp, FpOk (X.blk s3 H3 scope ce fp) [] H' b := fun {σ' H' s'} I' hn b hb =>
    ⟨hn b hb, (I'.ok.exf b hb).1, I'.ok.exfs b hb, .inl hb, fun x c e => (I'.ok.exf b hb).2 x c e, fun p hp => absurd (show p ∈ ([] : List (Addr × Obj)) ++ [] from hp) (by simp)⟩
  have loop : codeAny (model X.prog X.w) X.A (.compLoop (.ListComp elt [⟨tg, iter, ifs, 0⟩] scope pos) 0 (.ref it) (.ref D) ce) (compPost (model X.prog X.w) X.A X.xe use Qf (.ref D) s3.heap.objs.size) s4 := by
    refine compLoop_any (fun n s' => ∃ i H', Inv (X.blk s3 H3 scope ce fp) [] (wipe σ (own.map (·.2))) H' s' ∧ tn i s'.heap ∧ (∀ b ∈ fp, H' b = none) ∧ W i n H') ?_ m0 ⟨0, H3, I4, st4, nfp, w0⟩
    rintro n s5 ⟨i, H5, I5, st5, n5, w5⟩
    rcases turn i n H5 w5 with ⟨stop, qq⟩ | ⟨go, Nx, hNx, step⟩
    · have td := T.done (X.blk s3 H3 scope ce fp) rfl rfl rfl hc i [] s5 _ H5 (fun _ _ => False) I5 (stat I5 n5) st5 stop
      refine thnF td fun r s6 ⟨hr, I6⟩ => ?_
      subst hr
      have I7 : Inv X pins σ H5 s6 := I3.call' (ch := fp) I6.os I6.base I6.hok I6.bare fun b hb => ⟨(f3 b hb).1.2.2.2.1, (f3 b hb).1.2.1, (f3 b hb).1.2.2.2.2.1, (f3 b hb).1.2.2.2.2.2⟩
      have nC : H5 s3.heap.objs.size = none := by
        have z : H5 ce.locals = none := I6.free
        rw [cL] at z
        exact z
      obtain ⟨m, hn, _⟩ := I6.loc
      have hn : s6.heap.Ns ce.locals m := hn
      rw [cL] at hn
      exact hRR D s3.heap.objs.size s6 m H5 I7 qq hn (I3.fpOk (Nat.le_refl _) nC)
    · have ti := T.item (X.blk s3 H3 scope ce fp) rfl rfl rfl hc i [] s5 _ H5 (fun _ _ => False) I5 (stat I5 n5) st5 go
      refine thnF ti fun r s6 ⟨u, hr, h6⟩ => ?_
      subst hr
      refine thnF h6 fun _ s7 ⟨x, H7, I7, r7, y7, st7, n7⟩ => ?_
      have I7' := I7.pinned (stat I7 n7) (T.obj _ _ st7)
      refine thnF (pg _ s7 _ H7 x u _ I7' r7 (step x H7 y7)) fun _ s8 ⟨σ8, H8, I8, hw8, q8⟩ => ?_
      refine thnF (pt _ s8 σ8 H8 _ I8 q8) fun b s9 ⟨H9, I9, q9⟩ => ?_
      have fin : ∀ {s' : Shared} {H' : Hp}, Inv (X.blk s3 H3 scope ce fp) ([] ++ pinsAt fp s7.heap) σ8 H' s' → Nx H' → ∃ m, m < n ∧ ∃ i H', Inv (X.blk s3 H3 scope ce fp) [] (wipe σ (own.map (·.2))) H' s' ∧ tn i s'.heap ∧ (∀ b ∈ fp, H' b = none) ∧ W i m H' := fun {s' H'} I' nx => by
        obtain ⟨m', hm, w'⟩ := hNx H' nx
        have pin' : ∀ b ∈ fp, ∀ o, s7.heap.get? b = some o → s'.heap.get? b = some o ∧ H' b = none := fun b hb o e =>
          let z := I'.pin (b, o) (List.mem_append_right _ (List.mem_append_right _ (mem_pinsAt hb e)))
          ⟨z.1, z.2.1⟩
        have hl : (wipe σ (own.map (·.2))).length = σ8.length := by rw [← hw8, wipe_length]
        refine ⟨m', hm, i + 1, H', (I'.unpinned (pins := [])).weak hl (fun j v e => ?_), T.keep _ _ _ st7 fun b hb o e => (pin' b hb o e).1, fun b hb => ?_, w'⟩
        · rw [← hw8] at e
          exact (wipe_some e).1
        · obtain ⟨o, e, _⟩ := T.obj _ _ st7 b hb
          exact (pin' b hb o e).2
      cases b with
      | false =>
        simp only [Bool.false_eq_true, if_false] at q9 ⊢
        exact fin I9 q9
      | true =>
        simp only [if_true] at q9 ⊢
        refine thnF (pe _ s9 σ8 H9 _ I9 q9) fun z s10 ⟨yv, H10, I10, r10, acc, hD10, hz10, nx⟩ => ?_
        exact app_ok (X := X.blk s3 H3 scope ce fp) I10 hD10 hz10 r10 fun s11 I11 => fin I11 nx
  exact codeAny_compStart_list loop (T.self X.A 0 _ _ _ st4 loop)
theorem pe_lc {elt tg iter : Expr} {ifs : List Expr} {scope : Scope} {own : List (Str × Nat)} {pos : Pos} {wi : TI} {g : TG} {tt : TT} {te : TE} (hc : X.calm = true) (hN : X.N.Nodup) (hi : PI X tg iter wi) (ok : BlkOk X.N X.env.scope scope own)
    (hg : ∀ (s : Shared) (H : Hp) (C : Addr) (cl : List (Str × Addr)) (fp : List Addr), PG (X.blk s H scope (compEnvC scope cl C X.env) fp) tg g) (ht : ∀ (s : Shared) (H : Hp) (C : Addr) (cl : List (Str × Addr)) (fp : List Addr), PTs (X.blk s H scope (compEnvC scope cl C X.env) fp) ifs tt)
    (he : ∀ (s : Shared) (H : Hp) (C : Addr) (cl : List (Str × Addr)) (fp : List Addr), PE (X.blk s H scope (compEnvC scope cl C X.env) fp) elt te) (hs : ∀ x, foldedSetIterable iter X.env x = pure x := by intro _; rfl) :
    PE X (.ListComp elt [⟨tg, iter, ifs, 0⟩] scope pos) (tLc wi g tt te (own.map (·.2))) := by
  intro pins s σ H Q I h
  rw [eval_ListComp]
  refine lc_core hc hN I hi ok hg ht he hs h fun D C s' m H' I' q hn f => ⟨m, hn, fun h'' sb => ?_⟩
  obtain ⟨f0, f1, f2, f3, f4, f5⟩ := f
  exact ⟨.ref D, H', I'.turned (t' := s'.toks) (fun b o hb e => (sb.2 b hb).trans e) f0 f1 f3 f4 f5, rfl, q⟩
theorem ps_setLc {i : Nat} {y : Str} {py : Pos} {elt tg iter : Expr} {ifs : List Expr} {scope : Scope} {own : List (Str × Nat)} {pos spos : Pos} {wi : TI} {g : TG} {tt : TT} {te : TE} (hc : X.calm = true) (hN : X.N.Nodup) (hy : X.N[i]? = some y) (hyl : X.env.scope.names.lookup y = some .local)
    (hsw : swapsWith (.ListComp elt [⟨tg, iter, ifs, 0⟩] scope pos) (some (.Name y py)) spos.line X.env = pure true) (hi : PI X tg iter wi) (ok : BlkOk X.N X.env.scope scope own)
    (hg : ∀ (s : Shared) (H : Hp) (C : Addr) (cl : List (Str × Addr)) (fp : List Addr), PG (X.blk s H scope (compEnvC scope cl C X.env) fp) tg g) (ht : ∀ (s : Shared) (H : Hp) (C : Addr) (cl : List (Str × Addr)) (fp : List Addr), PTs (X.blk s H scope (compEnvC scope cl C X.env) fp) ifs tt)
    (he : ∀ (s : Shared) (H : Hp) (C : Addr) (cl : List (Str × Addr)) (fp : List Addr), PE (X.blk s H scope (compEnvC scope cl C X.env) fp) elt te) (hs : ∀ x, foldedSetIterable iter X.env x = pure x := by intro _; rfl) :
    PS X (.Assign [.Name y py] (.ListComp elt [⟨tg, iter, ifs, 0⟩] scope pos) spos) (tAsg (tLc wi g tt te (own.map (·.2))) (gName i)) := by
  intro pins s σ H D I h
  rw [exec_Assign_Name_used _ _ _ _ hsw]
  refine wpAny_bind (wpAny_standAt (wpAny_bind ?_))
  show wpAny _ X.A (do let _ ← comprehension (.ListComp elt [⟨tg, iter, ifs, 0⟩] scope pos) scope X.env (firstIterPos [⟨tg, iter, ifs, 0⟩] pos) (newList []) false (eval iter X.env) (some (assign (.Name y py) X.env))) _ _ s
  have h : tLc wi g tt te (own.map (·.2)) σ H (fun x H1 => gName i x σ H1 D.nx) := h
  refine wpAny_bind (thn (lc_core (Qf := fun _ s' => SP X pins D .next s') hc hN I hi ok hg ht he hs h fun L C s' m H' I' q hn f => ?_) fun _ s' hq => wpAny_pure (wpAny_pure hq))
  show wpAny _ _ (assign (.Name y py) X.env (.ref L)) _ _ _
  refine wpAny_assign_Name (store_ok2 (v := V.ref L) I' hN hy (.inl hyl) rfl (fun s2 I2 ⟨a, sb, ha⟩ => ?_) (.inr hyl))
  obtain ⟨f0, f1, f2, f3, f4, f5⟩ := f
  have haC : C ≠ a := by
    rcases ha with z | z
    · rw [z]; exact f1
    · exact fun e => f4 y a z e.symm
  refine ⟨m, hn.sameBut sb haC, fun h3 sb3 => ?_⟩
  exact ⟨_, H', I2.turned (t' := s2.toks) (fun b o hb e => (sb3.2 b hb).trans e) f0 f1 f3 f4 f5, q⟩
theorem sw_true {elt : Expr} {gs : List Comprehension} {scope : Scope} {pos py : Pos} {y : Str} {l : Nat} {env : Env} (hk : env.scope.kind = .function) (hy : env.scope.names.lookup y = some .local) (hl : (py.line == pos.line) = true)
    (ha : (scope.names.any fun (n, k) => n == y && (k == .local || k == .cell)) = false) : swapsWith (.ListComp elt gs scope pos) (some (.Name y py)) l env = pure true := by
  have ky : env.kindOf y = some .local := hy
  have hb : env.blockKind = .function := by unfold Env.blockKind; rw [hk]; rfl
  unfold swapsWith
  simp only [hb, ky, ha, Expr.pos, hl]
  rfl
end
theorem lc_list {K : PySem.W.Frag} {a : Addr} {xs : List V} {g : TG} {tt : TT} {te : TE} {vs : List Nat} {σ : St} {H1 : Hp} {D : Addr} {Qd : Hp → Prop} (Pv : Nat → Hp → Prop) (h0 : Pv 0 (upd H1 D (.lst []))) (hl : ∀ i H, i ≤ xs.length → Pv i H → SqL K H a xs)
    (hs : ∀ i x H, xs[i]? = some x → Pv i H → g x (wipe σ vs) H fun σ2 H2 => wipe σ2 vs = wipe σ vs ∧ tt σ2 H2 fun b H3 =>
      if b = true then te σ2 H3 fun y H4 => ∃ acc, H4 D = some (.lst acc) ∧ acc.length < sizeLine ∧ Pv (i + 1) (upd H4 D (.lst (acc ++ [y]))) else Pv (i + 1) H3) (hd : ∀ H, Pv xs.length H → Qd H) :
    ∃ W : Nat → Nat → Hp → Prop, (∃ m, W 0 m (upd H1 D (.lst []))) ∧ ∀ i m H, W i m H →
      ((Itl K a).stop i H ∧ Qd H) ∨ ((Itl K a).go i H ∧ ∃ Nx : Hp → Prop, (∀ H', Nx H' → ∃ m', m' < m ∧ W (i + 1) m' H') ∧ ∀ x H', (Itl K a).yld i H x H' → g x (wipe σ vs) H' fun σ2 H2 => wipe σ2 vs = wipe σ vs ∧ tt σ2 H2 fun b H3 =>
        if b = true then te σ2 H3 fun y H4 => ∃ acc, H4 D = some (.lst acc) ∧ acc.length < sizeLine ∧ Nx (upd H4 D (.lst (acc ++ [y]))) else Nx H3) := by
  refine ⟨fun i m H => m = xs.length - i ∧ i ≤ xs.length ∧ Pv i H, ⟨xs.length, by simp, Nat.zero_le _, h0⟩, ?_⟩
  rintro i m H ⟨rfl, hi, p⟩
  have q := hl i H hi p
  by_cases hlt : i < xs.length
  · refine .inr ⟨⟨xs, xs[i], q, by simp [hlt]⟩, Pv (i + 1), fun H' p' => ⟨xs.length - (i + 1), by omega, rfl, hlt, p'⟩, fun x H' y => ?_⟩
    obtain ⟨e, y⟩ := y
    subst e
    exact hs i x _ (y xs q) p
  · have e : i = xs.length := by omega
    subst e
    exact .inl ⟨⟨xs, q, Nat.le_refl _⟩, hd H p⟩
def blkC (N : List Str) (sc scope : Scope) (own : List (Str × Nat)) : Bool :=
  (match scope.kind with | .function => true | _ => false) && (scope.names.all fun y => decide (scope.names.lookup y.1 = some y.2)) && (own.all fun p => decide (N[p.2]? = some p.1)) &&
    (scope.names.all fun y => match y.2 with
      | .free => (match sc.names.lookup y.1 with | some .cell => true | some .free => true | _ => false)
      | .local => decide (y.1 ∈ own.map (·.1)) || decide (y.1 ∉ N)
      | .cell => decide (y.1 ∈ own.map (·.1)) || decide (y.1 ∉ N)
      | _ => true)
theorem blkOk_by {N : List Str} {sc scope : Scope} {own : List (Str × Nat)} (h : blkC N sc scope own = true) : BlkOk N sc scope own := by
  unfold blkC at h
  simp only [Bool.and_eq_true, List.all_eq_true, decide_eq_true_eq] at h
  obtain ⟨⟨⟨h1, h2⟩, h3⟩, h4⟩ := h
  refine ⟨?_, h2, h3, fun y hy e => ?_, fun y hy e => ?_⟩
  · split at h1
    · assumption
    · cases h1
  · have q := h4 y hy
    simp only [e] at q
    split at q <;> first | exact .inl (by assumption) | exact .inr (by assumption) | cases q
  · have q := h4 y hy
    rcases e with e | e <;> (simp only [e, Bool.or_eq_true, decide_eq_true_eq] at q; exact q)
end L2
namespace L2
open PySem PySem.Spec PyProof.Rows
end L2
namespace L2
open PySem PySem.Spec PyProof.Rows
section
variable {κ : Type} [DecidableEq κ]
def valV (kvs : List (κ × V)) (k : κ) : Option V := (kvs.find? fun kv => decide (kv.1 = k)).map (·.2)
def putK (kvs : List (κ × V)) (k : κ) (v : V) : List (κ × V) :=
  if (kvs.any fun kv => decide (kv.1 = k)) = true then kvs.map (fun kv => if kv.1 = k then (kv.1, v) else kv) else kvs ++ [(k, v)]
theorem valV_pos {p : κ × V} {r : List (κ × V)} {k : κ} (e : p.1 = k) : valV (p :: r) k = some p.2 := by simp [valV, List.find?_cons, e]
theorem valV_neg {p : κ × V} {r : List (κ × V)} {k : κ} (e : ¬ p.1 = k) : valV (p :: r) k = valV r k := by simp [valV, List.find?_cons, e]
theorem valV_any (k : κ) : ∀ kvs : List (κ × V), (kvs.any fun kv => decide (kv.1 = k)) = (valV kvs k).isSome
  | [] => rfl
  | p :: r => by
    rw [List.any_cons]
    by_cases e : p.1 = k
    · simp only [valV_pos e, decide_eq_true e, Bool.true_or, Option.isSome_some]
    · rw [valV_neg e, decide_eq_false e, Bool.false_or]; exact valV_any k r
theorem length_putK (kvs : List (κ × V)) (k : κ) (v : V) : (putK kvs k v).length ≤ kvs.length + 1 := by
  unfold putK
  split
  · rw [List.length_map]; omega
  · rw [List.length_append, List.length_cons, List.length_nil]; omega
theorem putK_new {kvs : List (κ × V)} {k : κ} (v : V) (h : valV kvs k = none) : putK kvs k v = kvs ++ [(k, v)] := by
  unfold putK
  rw [valV_any, h]
  exact if_neg (by decide)
theorem RelO.isSome_eq {o : Option V} {u : Option Value} (r : RelO o u) : o.isSome = u.isSome := by
  cases o with
  | none => cases u with
    | none => rfl
    | some _ => exact (show False from r).elim
  | some _ => cases u with
    | none => exact (show False from r).elim
    | some _ => rfl
theorem KV.val {kvs : List (κ × V)} {vs : List (κ × Value)} (r : KV kvs vs) (k : κ) : RelO (valV kvs k) (valueAt vs k) := by
  unfold KV at r
  induction r with
  | nil => exact True.intro
  | @cons p q ps qs h t ih =>
    obtain ⟨h1, h2⟩ := h
    by_cases e : p.1 = k
    · have e' : q.1 = k := h1.symm.trans e
      have b : valueAt (q :: qs) k = some q.2 := by simp [valueAt, List.find?_cons, e']
      rw [valV_pos e, b]; exact h2
    · have e' : ¬ q.1 = k := fun z => e (h1.trans z)
      have b : valueAt (q :: qs) k = valueAt qs k := by simp [valueAt, List.find?_cons, e']
      rw [valV_neg e, b]; exact ih
theorem KV.any {kvs : List (κ × V)} {vs : List (κ × Value)} (r : KV kvs vs) (k : κ) : (kvs.any fun kv => decide (kv.1 = k)) = vs.any fun kv => decide (kv.1 = k) := by
  unfold KV at r
  induction r with
  | nil => rfl
  | cons h t ih => rw [List.any_cons, List.any_cons, ih, h.1]
theorem KV.repl {kvs : List (κ × V)} {vs : List (κ × Value)} (r : KV kvs vs) (k : κ) {y : V} {u : Value} (ry : RelV y u) :
    KV (kvs.map fun kv => if kv.1 = k then (kv.1, y) else kv) (vs.map fun kv => if kv.1 = k then (kv.1, u) else kv) := by
  unfold KV at r ⊢
  induction r with
  | nil => exact .nil
  | @cons p q ps qs h t ih =>
    rw [List.map_cons, List.map_cons]
    refine .cons ?_ ih
    obtain ⟨h1, h2⟩ := h
    by_cases e : p.1 = k
    · rw [if_pos e, if_pos (h1.symm.trans e)]; exact ⟨h1, ry⟩
    · rw [if_neg e, if_neg (fun z => e (h1.trans z))]; exact ⟨h1, h2⟩
theorem KV.put {kvs : List (κ × V)} {vs : List (κ × Value)} (r : KV kvs vs) (k : κ) {y : V} {u : Value} (ry : RelV y u) : KV (putK kvs k y) (stored vs k u) := by
  unfold putK stored
  rw [r.any k]
  by_cases e : (vs.any fun kv => decide (kv.1 = k)) = true
  · rw [if_pos e, if_pos e]; exact r.repl k ry
  · rw [if_neg e, if_neg e]; exact Paired.snoc r ⟨rfl, ry⟩
theorem KV.length {kvs : List (κ × V)} {vs : List (κ × Value)} (r : KV kvs vs) : kvs.length = vs.length := Paired.length r
end
theorem kV_is {P : Program} {w : World} {k : Key} {u : Value} (r : RelV (kV k) u) : (mixKind P w).is k u = true := by
  cases k with
  | inl i => obtain ⟨t, e⟩ := (show ∃ t, u = Value.int i t from r); subst e; exact mixKind_int P w i t
  | inr x => obtain ⟨t, e⟩ := (show ∃ t, u = Value.str x t from r); subst e; exact mixKind_str P w x t
theorem items_are {P : Program} {w : World} : ∀ {ks : List Key} {us : List Value}, Vals (ks.map kV) us → ItemsAre (mixKind P w) ks us
  | [], _, r => by rw [List.map_nil] at r; cases r; exact .nil
  | k :: ks, _, r => by
    rw [List.map_cons] at r
    cases r with
    | cons h t => exact .cons (kV_is h) (items_are t)
abbrev KT (H : Hp) : List (List Key × V) → List (List Key × Addr × Value) → Prop := Paired fun p q => p.1 = q.1 ∧ H q.2.1 = some (.tup (p.1.map kV)) ∧ RelV p.2 q.2.2
theorem KT.val {H : Hp} {kvs : List (List Key × V)} {xs : List (List Key × Addr × Value)} (r : KT H kvs xs) (k : List Key) : RelO (valV kvs k) ((atKey xs k).map (·.2)) := by
  induction r with
  | nil => exact True.intro
  | @cons p q ps qs h t ih =>
    obtain ⟨h1, _, h2⟩ := h
    by_cases e : p.1 = k
    · have e' : q.1 = k := h1.symm.trans e
      have b : atKey (q :: qs) k = some q.2 := by simp [atKey, List.find?_cons, e']
      rw [valV_pos e, b]; exact h2
    · have e' : ¬ q.1 = k := fun z => e (h1.trans z)
      have b : atKey (q :: qs) k = atKey qs k := by simp [atKey, List.find?_cons, e']
      rw [valV_neg e, b]; exact ih
theorem KT.repl {H : Hp} {kvs : List (List Key × V)} {xs : List (List Key × Addr × Value)} (r : KT H kvs xs) (k : List Key) {y : V} {u : Value} (ry : RelV y u) :
    KT H (kvs.map fun kv => if kv.1 = k then (kv.1, y) else kv) (xs.map (putAt k u)) := by
  induction r with
  | nil => exact .nil
  | @cons p q ps qs h t ih =>
    rw [List.map_cons, List.map_cons]
    refine .cons ?_ ih
    obtain ⟨h1, h2, h3⟩ := h
    unfold putAt
    by_cases e : p.1 = k
    · rw [if_pos e, if_pos (h1.symm.trans e)]; exact ⟨h1, h2, ry⟩
    · rw [if_neg e, if_neg (fun z => e (h1.trans z))]; exact ⟨h1, h2, h3⟩
theorem KT.put {H : Hp} {kvs : List (List Key × V)} {xs : List (List Key × Addr × Value)} (r : KT H kvs xs) (k : List Key) {b : Addr} {y : V} {u : Value} (hb : H b = some (.tup (k.map kV))) (ry : RelV y u) :
    KT H (putK kvs k y) (storedH xs k b u) := by
  have e : (kvs.any fun kv => decide (kv.1 = k)) = (atKey xs k).isSome := by
    rw [valV_any, (r.val k).isSome_eq, Option.isSome_map]
  unfold putK storedH
  rw [e]
  by_cases q : (atKey xs k).isSome = true
  · rw [if_pos q, if_pos q]; exact r.repl k ry
  · rw [if_neg q, if_neg q]; exact Paired.snoc r ⟨rfl, hb, ry⟩
theorem KT.keeps {H H' : Hp} {kvs : List (List Key × V)} {xs : List (List Key × Addr × Value)} (r : KT H kvs xs) (ht : ∀ b ys, H b = some (.tup ys) → H' b = some (.tup ys)) : KT H' kvs xs :=
  Paired.mapP r fun _ _ z => ⟨z.1, ht _ _ z.2.1, z.2.2⟩
section
variable {P : Program} {w : World} {H : Hp} {h : Heap} {a : Addr}
theorem rd_of {u : HO} (ok : HOk P w H h) (e : Rd H a u) : ObjOk P w H h a u := e.ok ok
theorem dk_rd {kvs : List (Key × V)} (ok : HOk P w H h) (e : Rd H a (.dK kvs)) : kvs.length ≤ sizeLine ∧ (a == sysModules) = false ∧ ∃ vs, KV kvs vs ∧ h.DictOf (mixKind P w) a vs :=
  show ObjOk P w H h a (.dK kvs) from rd_of ok e
theorem dk_of {kvs : List (Key × V)} (ok : HOk P w H h) (e : H a = some (.dK kvs)) : kvs.length ≤ sizeLine ∧ (a == sysModules) = false ∧ ∃ vs, KV kvs vs ∧ h.DictOf (mixKind P w) a vs := dk_rd ok (.inl e)
theorem key_of {ks : List Key} (ok : HOk P w H h) (e : H a = some (.tup (ks.map kV))) : (tupleKind (mixKind P w)).is h ks a := by
  obtain ⟨_, its, r, o, h1, h2, n, h3⟩ := (show ObjOk P w H h a (.tup (ks.map kV)) from ok a _ e)
  exact ⟨o, its.toArray, n, h1, h2, h3, by simpa using items_are r⟩
theorem dt_rd {kvs : List (List Key × V)} (ok : HOk P w H h) (e : Rd H a (.dT kvs)) : kvs.length ≤ sizeLine ∧ (a == sysModules) = false ∧
    ∃ xs, KT H kvs xs ∧ h.DictOfH (tupleKind (mixKind P w)) a xs := by
  obtain ⟨z, y, xs, r, o, es, ep, h1, h2, h3, h4, h5⟩ := (show ObjOk P w H h a (.dT kvs) from rd_of ok e)
  refine ⟨z, y, xs, r, o, es, ep, h1, h2, h3, h4, fun x hx => ?_, h5⟩
  have all : ∀ {l : List (List Key × V)} {m : List (List Key × Addr × Value)}, KT H l m → ∀ x ∈ m, (tupleKind (mixKind P w)).is h x.1 x.2.1 := by
    intro l m q
    induction q with
    | nil => intro x hx; exact nomatch hx
    | @cons p q ps qs hq t ih =>
      intro x hx
      rcases List.mem_cons.mp hx with e | hx
      · subst e
        exact key_of ok (by rw [← hq.1]; exact hq.2.1)
      · exact ih x hx
  exact all r x hx
theorem dt_of {kvs : List (List Key × V)} (ok : HOk P w H h) (e : H a = some (.dT kvs)) : kvs.length ≤ sizeLine ∧ (a == sysModules) = false ∧
    ∃ xs, KT H kvs xs ∧ h.DictOfH (tupleKind (mixKind P w)) a xs := dt_rd ok (.inl e)
end
def DGet (H : Hp) (a : Addr) (y : V) (r : Option V) : Prop :=
  (∃ kvs k, Rd H a (.dK kvs) ∧ y = kV k ∧ r = valV kvs k) ∨ ∃ kvs k b, Rd H a (.dT kvs) ∧ y = .ref b ∧ H b = some (.tup (k.map kV)) ∧ r = valV kvs k
def DPut (H : Hp) (a : Addr) (y v : V) (H' : Hp) : Prop :=
  (∃ kvs k, H a = some (.dK kvs) ∧ y = kV k ∧ kvs.length < sizeLine ∧ H' = upd H a (.dK (putK kvs k v))) ∨
  ∃ kvs k b, H a = some (.dT kvs) ∧ y = .ref b ∧ H b = some (.tup (k.map kV)) ∧ kvs.length < sizeLine ∧ H' = upd H a (.dT (putK kvs k v))
theorem DGet.t {H : Hp} {a b : Addr} {kvs : List (List Key × V)} {k : List Key} (e : H a = some (.dT kvs)) (eb : H b = some (.tup (k.map kV))) : DGet H a (.ref b) (valV kvs k) := .inr ⟨kvs, k, b, .inl e, rfl, eb, rfl⟩
theorem DPut.t {H : Hp} {a b : Addr} {kvs : List (List Key × V)} {k : List Key} {v : V} (e : H a = some (.dT kvs)) (eb : H b = some (.tup (k.map kV))) (hl : kvs.length < sizeLine) :
    DPut H a (.ref b) v (upd H a (.dT (putK kvs k v))) := .inr ⟨kvs, k, b, e, rfl, eb, hl, rfl⟩
section
variable {X : Cx} {pins : List (Addr × Obj)} {σ : St} {H : Hp} {s : Shared} {a : Addr} {y v : V} {u r : Value} {o : Option V} {A : Around} {E : Value → Shared → Prop}
theorem Inv.big (I : Inv X pins σ H s) : sysModules < s.heap.objs.size := by
  have h : mainGlobals < s.heap.objs.size := (I.mod.glob.keeps I.bk).lt
  exact Nat.lt_trans (by decide) h
theorem d_getItem {Q : Value → Shared → Prop} (hu : A.units + 1 < cLine) (I : Inv X pins σ H s) (g : DGet H a y (some v)) (ry : RelV y u) (h : ∀ w' s', Inv X pins σ H s' → RelV v w' → Q w' s') :
    wpAny (model X.prog X.w) A (getItem (.ref a) u) Q E s := by
  rcases g with ⟨kvs, k, e, ey, l⟩ | ⟨kvs, k, b, e, ey, eb, l⟩
  · subst ey
    obtain ⟨z, hd, vs, rel, dd⟩ := dk_rd I.hok e
    obtain ⟨w', hw, rw'⟩ := RelO.some_of (v := v) (o := valueAt vs k) (by rw [l]; exact rel.val k)
    exact wpAny_getItem_of (kV_is ry) dd.mapOf hw (h w' _ (I.tok _) rw')
  · subst ey
    cases (show u = Value.ref b from ry)
    obtain ⟨z, hd, xs, rel, dd⟩ := dt_rd I.hok e
    obtain ⟨w', hw, rw'⟩ := RelO.some_of (v := v) (o := (atKey xs k).map (·.2)) (by rw [l]; exact rel.val k)
    obtain ⟨p, hp, hp2⟩ := Option.map_eq_some_iff.mp hw
    refine wpAny_getItem_heap (tupleKind_room_in1 hu) (key_of I.hok eb) dd hp ?_
    rw [hp2]
    exact h w' _ (I.tok _) rw'
theorem d_in {Q : Value → Shared → Prop} (hu : A.units + 1 < cLine) (I : Inv X pins σ H s) (g : DGet H a y o) (ry : RelV y u) (h : ∀ s', Inv X pins σ H s' → Q (.bool o.isSome) s') :
    wpAny (model X.prog X.w) A (compareOp .In u (.ref a)) Q E s := by
  rcases g with ⟨kvs, k, e, ey, l⟩ | ⟨kvs, k, b, e, ey, eb, l⟩
  · subst ey
    obtain ⟨z, hd, vs, rel, dd⟩ := dk_rd I.hok e
    refine wpAny_in_of (kV_is ry) hd dd.mapOf ?_
    rw [← (rel.val k).isSome_eq, ← l]
    exact h _ (I.tok _)
  · subst ey
    cases (show u = Value.ref b from ry)
    obtain ⟨z, hd, xs, rel, dd⟩ := dt_rd I.hok e
    refine wpAny_in_heap (tupleKind_room_in1 hu) (key_of I.hok eb) hd dd ?_
    have q := (rel.val k).isSome_eq
    rw [Option.isSome_map] at q
    rw [← q, ← l]
    exact h _ (I.tok _)
theorem d_notIn {Q : Value → Shared → Prop} (hu : A.units + 1 < cLine) (I : Inv X pins σ H s) (g : DGet H a y o) (ry : RelV y u) (h : ∀ s', Inv X pins σ H s' → Q (.bool (!o.isSome)) s') :
    wpAny (model X.prog X.w) A (compareOp .NotIn u (.ref a)) Q E s := by
  rcases g with ⟨kvs, k, e, ey, l⟩ | ⟨kvs, k, b, e, ey, eb, l⟩
  · subst ey
    obtain ⟨z, hd, vs, rel, dd⟩ := dk_rd I.hok e
    refine wpAny_notIn_of (kV_is ry) hd dd.mapOf ?_
    rw [← (rel.val k).isSome_eq, ← l]
    exact h _ (I.tok _)
  · subst ey
    cases (show u = Value.ref b from ry)
    obtain ⟨z, hd, xs, rel, dd⟩ := dt_rd I.hok e
    refine wpAny_notIn_heap (tupleKind_room_in1 hu) (key_of I.hok eb) hd dd ?_
    have q := (rel.val k).isSome_eq
    rw [Option.isSome_map] at q
    rw [← q, ← l]
    exact h _ (I.tok _)
theorem d_write {h' : Heap} {t' : Nat} {ob : HO} (I : Inv X pins σ H s) (mu : Mut (H a)) (hs : Heap.SameBut a s.heap h') (he : ∃ q, h'.get? a = some q) (new : ObjOk X.prog X.w (upd H a ob) h' a ob) :
    Inv X pins σ (upd H a ob) { s with heap := h', toks := t' } :=
  I.write (x := a) (e := a) mu (.inl rfl) (fun b q hb z => (hs.2 b hb).trans z) he new
theorem dk_new {P : Program} {w : World} {H' : Hp} {h' : Heap} {kvs : List (Key × V)} {vs : List (Key × Value)} (z : kvs.length ≤ sizeLine) (hd : (a == sysModules) = false) (rel : KV kvs vs) (dd : h'.DictOf (mixKind P w) a vs) :
    ObjOk P w H' h' a (.dK kvs) := ⟨z, hd, vs, rel, dd⟩
theorem d_setItem {H' : Hp} {Q : Unit → Shared → Prop} (hu : A.units + 1 < cLine) (I : Inv X pins σ H s) (g : DPut H a y v H') (ry : RelV y u) (rv : RelV v r) (h : ∀ s', Inv X pins σ H' s' → Q () s') :
    wpAny (model X.prog X.w) A (setItem (.ref a) u r) Q E s := by
  rcases g with ⟨kvs, k, e, ey, l, eH⟩ | ⟨kvs, k, b, e, ey, eb, l, eH⟩
  · subst ey eH
    obtain ⟨z, hd, vs, rel, dd⟩ := dk_of I.hok e
    have hz : vs.length ≤ sizeLine := by rw [← rel.length]; exact z
    have hl : (putK kvs k v).length ≤ sizeLine := by have := length_putK kvs k v; omega
    refine wpAny_setItem_pairs (hsz := hz) (kV_is ry) dd fun h' dd' hs => h _ ?_
    have he : ∃ q, h'.get? a = some q := let ⟨q, _, _, hq, _⟩ := dd'; ⟨q, hq⟩
    exact d_write I (by rw [e]; exact True.intro) hs he (dk_new hl hd (rel.put k rv) dd')
  · subst ey eH
    cases (show u = Value.ref b from ry)
    obtain ⟨z, hd, xs, rel, dd⟩ := dt_of I.hok e
    have hz : xs.length ≤ sizeLine := by rw [← Paired.length rel]; exact z
    have hl : (putK kvs k v).length ≤ sizeLine := by have := length_putK kvs k v; omega
    refine wpAny_setItem_heap (hsz := hz) (tupleKind_room_in1 hu) (key_of I.hok eb) dd fun h' dd' hs => h _ ?_
    obtain ⟨q, es, ep, hq, h2, h3, h4, _, h5⟩ := dd'
    refine d_write I (by rw [e]; exact True.intro) hs ⟨q, hq⟩ ⟨hl, hd, _, (rel.put k eb rv).keeps fun c ys ec => ?_, q, es, ep, hq, h2, h3, h4, h5⟩
    rw [upd_ne (ne_of ec e (fun z => nomatch z))]
    exact ec
end
def NoSl (i : Expr) : Prop := ∀ ov iv, subscripted i false ov iv = operate [ov, iv] (getItem ov iv)
theorem subD_of {prog : Program} {w : World} {A : Around} {E : Value → Shared → Prop} {s : Shared} {env : Env} {value slice : Expr} {pos : Pos} {T id : String} {Q : Value → Shared → Prop}
    (hl : typeLookup (.type T) "__getitem__" = pure (some (.builtin id))) (hs : NoSl slice)
    (h : wpAny (model prog w) A (eval value env) (fun o s₁ => wpAny (model prog w) A (eval slice env) (fun i s₂ => s₂.TypeIs o T ∧ wpAny (model prog w) A (getItem o i) Q E s₂) E s₁) E s) :
    wpAny (model prog w) A (eval (.Subscript value slice pos) env) Q E s := by
  refine Subscript_ (wpAny_mono h (fun o s₁ h₁ => wpAny_mono h₁ (fun i s₂ h₂ => ?_) fun _ _ x => x) fun _ _ x => x)
  obtain ⟨hT, h₂⟩ := h₂
  unfold subscriptTail
  refine wpAny_bind ?_
  rw [getitemInPython_of_ne hT.not_modules]
  refine wpAny_bind (wpAny_specialOf hT hl ?_)
  have fin : wpAny (model prog w) A (subscripted slice false o i) (fun r s₃ => wpAny (model prog w) A (letTemporaryGo value o r >>= fun _ => pure r) Q E s₃) E s₂ := by
    rw [hs o i]
    exact wpAny_operating (wpAny_mono h₂ (fun r s₃ h₃ => wpAny_bind (wpAny_letTemporaryGo (wpAny_pure h₃))) fun _ _ x => x)
  first
    | exact wpAny_pure (wpAny_bind fin)
    | exact wpAny_bind (wpAny_pure (wpAny_bind fin))
    | exact wpAny_bind fin
theorem dict_typeIs {X : Cx} {pins : List (Addr × Obj)} {σ : St} {H : Hp} {s : Shared} {a : Addr} {y : V} {o : Option V} (I : Inv X pins σ H s) (g : DGet H a y o) : s.TypeIs (.ref a) "dict" := by
  rcases g with ⟨kvs, k, e, _, _⟩ | ⟨kvs, k, b, e, _, _, _⟩
  · obtain ⟨_, _, vs, _, dd⟩ := dk_rd I.hok e
    exact dd.typeIs
  · obtain ⟨_, _, xs, _, dd⟩ := dt_rd I.hok e
    exact dd.typeIs
def tDGet (td ty : TE) : TE := fun σ H Q => td σ H fun x H1 => ty σ H1 fun y H2 => ∃ a v, x = .ref a ∧ DGet H2 a y (some v) ∧ Q v H2
def tDIn (ty td : TE) : TE := fun σ H Q => ty σ H fun y H1 => td σ H1 fun x H2 => ∃ a o, x = .ref a ∧ DGet H2 a y o ∧ Q (.bl o.isSome) H2
def tDNotIn (ty td : TE) : TE := fun σ H Q => ty σ H fun y H1 => td σ H1 fun x H2 => ∃ a o, x = .ref a ∧ DGet H2 a y o ∧ Q (.bl (!o.isSome)) H2
def sDPut (td ty tv : TE) : TS := fun D σ H => tv σ H fun v H1 => td σ H1 fun x H2 => ty σ H2 fun y H3 => ∃ a H4, x = .ref a ∧ DPut H3 a y v H4 ∧ D.nx σ H4
section
variable {X : Cx} {o i e value : Expr} {pos pos' tpos : Pos} {td ty tv : TE}
theorem pe_dget (hu : X.A.units + 1 < cLine) (ho : PE X o td) (hi : PE X i ty) (hs : NoSl i) : PE X (.Subscript o i pos) (tDGet td ty) := by
  intro pins s σ H Q I h
  refine subD_of PySem.F.slot_dict_getitem.lookup hs (thn (ho pins s σ H _ I h) fun u s1 ⟨x, H1, I1, rx, q1⟩ => thn (hi pins s1 σ H1 _ I1 q1) fun iv s2 ⟨y, H2, I2, ry, a, v, ex, g, q2⟩ => ?_)
  subst ex
  obtain rfl : u = Value.ref a := rx
  exact ⟨dict_typeIs I2 g, d_getItem hu I2 g ry fun w' s3 I3 rw' => ⟨v, H2, I3, rw', q2⟩⟩
theorem pc_din (hu : X.A.units + 1 < cLine) (hi : PE X i ty) (ho : PE X o td) : PC X .In i o (tDIn ty td) := by
  intro pins s σ H Q I h
  refine thn (hi pins s σ H _ I h) fun iv s1 ⟨y, H1, I1, ry, q1⟩ => thn (ho pins s1 σ H1 _ I1 q1) fun u s2 ⟨x, H2, I2, rx, a, ov, ex, g, q2⟩ => ?_
  subst ex
  obtain rfl : u = Value.ref a := rx
  exact d_in hu I2 g ry fun s3 I3 => ⟨.bl ov.isSome, H2, I3, rfl, q2⟩
theorem pc_dnotin (hu : X.A.units + 1 < cLine) (hi : PE X i ty) (ho : PE X o td) : PC X .NotIn i o (tDNotIn ty td) := by
  intro pins s σ H Q I h
  refine thn (hi pins s σ H _ I h) fun iv s1 ⟨y, H1, I1, ry, q1⟩ => thn (ho pins s1 σ H1 _ I1 q1) fun u s2 ⟨x, H2, I2, rx, a, ov, ex, g, q2⟩ => ?_
  subst ex
  obtain rfl : u = Value.ref a := rx
  exact d_notIn hu I2 g ry fun s3 I3 => ⟨.bl (!ov.isSome), H2, I3, rfl, q2⟩
theorem ps_dput (hu : X.A.units + 1 < cLine) (ho : PE X o td) (hi : PE X i ty) (hv : PE X value tv) (hs : swapsWith value (some (.Subscript o i pos')) pos.line X.env = pure false) :
    PS X (.Assign [.Subscript o i pos'] value pos) (sDPut td ty tv) := by
  intro pins s σ H D I h
  refine wpAny_Assign_Subscript (thn (hv pins s σ H _ I h) fun r s1 ⟨v, H1, I1, rv, q1⟩ => thn (ho pins s1 σ H1 _ I1 q1) fun u s2 ⟨x, H2, I2, rx, q2⟩ => thn (hi pins s2 σ H2 _ I2 q2) fun iv s3 ⟨y, H3, I3, ry, a, H4, ex, g, q3⟩ => ?_) hs
  subst ex
  obtain rfl : u = Value.ref a := rx
  exact d_setItem hu I3 g ry rv fun s4 I4 => ⟨σ, H4, I4, q3⟩
end
theorem dt_empty {P : Program} {w : World} {H : Hp} (h : Heap) (hb : sysModules < h.objs.size) : ObjOk P w H (h.push { cls := .type "dict", data := .dict #[] }) h.objs.size (.dT []) :=
  ⟨Nat.zero_le _, beq_eq_false_iff_ne.mpr (Ne.symm (Nat.ne_of_lt hb)), [], .nil, _, #[], 0, Heap.get?_push_size _ rfl, ⟨rfl, rfl, rfl⟩, rfl, rfl, List.nodup_nil⟩
def tDNewT : TE := fun _ H Q => ∀ p, H p = none → Q (.ref p) (upd H p (.dT []))
section
variable {X : Cx} {pos : Pos}
theorem pe_dnewT : PE X (.Dict [] [] pos) tDNewT := fun pins s σ H Q I h =>
  wpAny_Dict_empty ⟨.ref s.heap.objs.size, _, I.laid (a := s.heap.objs.size) (o := .dT []) (t' := s.toks) (fun _ _ q => Heap.get?_push_of_some _ q) (Nat.le_refl _) (dt_empty s.heap I.big), rfl, h _ (I.hok.fresh (Nat.le_refl _))⟩
end
end L2
namespace L2
open PySem PySem.Spec PyProof.Rows
end L2
namespace L2
open PySem PySem.Spec PyProof.Rows
section
variable {X : Cx}
theorem pi_one {tg : Expr} {pins : List (Addr × Obj)} {σ : St} {H : Hp} {s : Shared} {R : It → Hp → Prop} {J : It} {tn : Nat → Heap → Prop} {tk : Nat} (I : Inv X pins σ H s) (o : Obj)
    (T : Turn X.prog X.w X.K tg J [s.heap.objs.size] s.heap.objs.size tn) (st : tn 0 (s.heap.push o)) (q : R J H) : PIE X pins σ tg R (.ref s.heap.objs.size) { s with heap := s.heap.push o, toks := tk } := by
  refine ⟨s.heap.objs.size, [s.heap.objs.size], tn, J, H, rfl, I.kept fun b ob e => Heap.get?_push_of_some _ e, T, st, fun b hb => ?_, q⟩
  have e : b = s.heap.objs.size := by simpa using hb
  subst e
  exact I.fpOk (Nat.le_refl _) (I.hok.fresh (Nat.le_refl _))
end
def Its (x : Str) : It := ⟨fun i _ => i < x.cps.size, fun i H v H' => H' = H ∧ ∃ c, x.cps[i]? = some c ∧ v = .str ⟨#[c]⟩, fun i _ => x.cps.size ≤ i⟩
theorem turn_str {P : Program} {w : World} {K : PySem.W.Frag} {tg : Expr} (it : Addr) (x : Str) (t : Tok) (ty : String) (hty : ty = "str_ascii_iterator" ∨ ty = "str_iterator") :
    Turn P w K tg (Its x) [it] it (fun i h => h.IsStrIter it ty x t i) where
  mem := by simp
  obj := fun i h st b hb => by
    have e : b = it := by simpa using hb
    subst e
    obtain ⟨o, e, c, d⟩ := st
    exact ⟨o, e, fun v z => by rw [d] at z; cases z⟩
  keep := fun i h h' st k => let ⟨o, ho, r⟩ := st; ⟨o, k it (by simp) o ho, r⟩
  item := by
    intro X hP hw hK hc i pins s σ H E I hf st hg
    subst hP hw hK
    obtain ⟨f0, f1, f2, f3, f4, f5⟩ := hf it (by simp)
    have W : Walks X.prog X.w X.A it [it] [it] x.cps.size (SignAt x) (fun i h => h.IsStrIter it ty x t i) := by
      rcases hty with e | e
      · rw [e]; exact Walks.strAscii (I.ok.hd hc) it x t
      · rw [e]; exact Walks.strWide (I.ok.hd hc) it x t
    have hno : ["enumerate", "zip", "dict_itemiterator", "dict_reverseitemiterator", "odict_iterator", "itertools.zip_longest", "itertools.pairwise"].contains ty = false := by
      rcases hty with e | e
      · rw [e]; decide
      · rw [e]; decide
    refine W.item i s _ _ hg st fun v h' tk hv st' kk => ?_
    obtain ⟨c, u, hcx, rfl⟩ := hv
    have I1 : Inv X pins σ H { s with heap := h', toks := tk } := I.turned (fun b o hb e => kk b o (by simpa using hb) e) f0 f1 f3 f4 f5
    obtain ⟨oi, e, cc, dd⟩ := id st'
    exact ⟨_, rfl, go_of (s := { s with heap := h', toks := tk }) e cc dd hno ⟨.str ⟨#[c]⟩, H, I1, ⟨u, rfl⟩, ⟨rfl, c, hcx, rfl⟩, st', fun b hb => (hf b hb).1⟩⟩
  done := by
    intro X hP hw hK hc i pins s σ H E I hf st hg
    subst hP hw hK
    obtain ⟨f0, f1, f2, f3, f4, f5⟩ := hf it (by simp)
    have hx : x.cps[i]? = none := Array.getElem?_eq_none hg
    rcases hty with e | e
    · rw [e] at st
      exact wpAny_pyNext_ascii_end (I.ok.hd hc) st hx fun h' eb => ⟨rfl, I.turned (t' := s.toks) (fun b o hb e => eb b o hb e) f0 f1 f3 f4 f5⟩
    · rw [e] at st
      exact wpAny_pyNext_wide_end (I.ok.hd hc) st hx fun h' eb => ⟨rfl, I.turned (t' := s.toks) (fun b o hb e => eb b o hb e) f0 f1 f3 f4 f5⟩
  self := fun A i s Q E st h => by
    rcases hty with e | e
    · rw [e] at st; exact wpAny_pyIter_striter_ascii st h
    · rw [e] at st; exact wpAny_pyIter_striter_wide st h
def iStr (te : TE) : TI := fun σ H R => te σ H fun v H1 => ∃ x, v = .str x ∧ R (Its x) H1
theorem pi_str {X : Cx} {tg e : Expr} {te : TE} (he : PE X e te) : PI X tg e (iStr te) := by
  intro pins s σ H R I h
  refine thn (he pins s σ H _ I h) fun v s1 ⟨y, H1, I1, r1, x, ex, q⟩ => ?_
  subst ex
  obtain ⟨t, rfl⟩ := r1
  cases ha : x.cps.all (· < 128)
  · exact wpAny_pyIter_wide ha (pi_one (tk := s1.toks) I1 _ (turn_str _ x t "str_iterator" (.inr rfl)) ⟨_, Heap.get?_push_size _ rfl, rfl, rfl⟩ q)
  · exact wpAny_pyIter_ascii ha (pi_one (tk := s1.toks) I1 _ (turn_str _ x t "str_ascii_iterator" (.inl rfl)) ⟨_, Heap.get?_push_size _ rfl, rfl, rfl⟩ q)
end L2
section 
namespace Bits
open PySem PyProof.Rows
end Bits
end 
section 
namespace TL
open PySem PySem.Builtin PySem.Builtin.Str PySem.StrLaws
abbrev tl (x : Str) : List Nat := x.cps.toList
theorem len_tl (x : Str) : x.length = (tl x).length := by simp [tl, Str.length]
theorem ext_tl {x y : Str} (h : tl x = tl y) : x = y := Str.ext' (Array.toList_inj.mp h)
theorem tl_append (x y : Str) : tl (x ++ y) = tl x ++ tl y := by
  show (x ++ y).cps.toList = _
  rw [Str.cps_append, Array.toList_append]
theorem tl_ofString (s : String) : tl (Str.ofString s) = s.toList.map Char.toNat := PyProof.Rows.signs_ofString s
def joinL (S : List Nat) : List (List Nat) → List Nat
  | [] => []
  | [p] => p
  | p :: q :: r => p ++ (S ++ joinL S (q :: r))
theorem tl_join (y : Str) : ∀ parts : List Str, tl (Str.join y parts) = joinL (tl y) (parts.map tl)
  | [] => rfl
  | [_] => rfl
  | x :: z :: r => by
    show tl (x ++ y ++ Str.join y (z :: r)) = tl x ++ (tl y ++ joinL (tl y) ((z :: r).map tl))
    rw [tl_append, tl_append, tl_join y (z :: r), List.append_assoc]
theorem join_eq (y : Str) (parts : List Str) : Txt.join y parts = Str.join y parts := glued_eq_join y parts
def numL (n : Nat) : List Nat := (Nat.toDigits 10 n).map Char.toNat
theorem tl_num (n : Nat) : tl (Str.ofString (toString ((n : Nat) : Int))) = numL n := PySem.W.KIN.signs_num n
theorem numL_len {n k : Nat} (hk : 0 < k) (h : n < 10 ^ k) : (numL n).length ≤ k := by
  have z := PyProof.Rows.toString_length_le (v := (n : Int)) (by omega) hk (by
    have e : ((10 : Int) ^ k) = ((10 ^ k : Nat) : Int) := by
      first
        | exact (Int.natCast_pow 10 k).symm
        | simp
    rw [e]
    first | exact Int.ofNat_lt.mpr h | omega)
  rw [len_tl, tl_num] at z
  exact z
end TL
end 
namespace L2
open PySem PySem.Spec PyProof.Rows
theorem strs_of_vals : ∀ {ys : List Str} {us : List Value}, Vals (ys.map V.str) us → StrsAre us ys
  | [], _, .nil => .nil
  | y :: ys, _, .cons r t => by
    obtain ⟨k, rfl⟩ := r
    exact .cons y k (strs_of_vals t)
section
variable {X : Cx}
theorem mt_join : MtR X "str.join" (fun x xs H Q => ∃ a p, ∃ ys : List Str, x = .str a ∧ xs = [.ref p] ∧ (SqL X.K H p (ys.map V.str) ∨ SqT X.K H p (ys.map V.str)) ∧
    (ys.map (·.length)).sum + ys.length * a.length ≤ 16777216 ∧ Q (.str (Txt.join a ys)) H) := by
  intro pins s σ H x xs v us Q I rx rs h
  obtain ⟨a, p, ys, rfl, rfl, hp, hz, h⟩ := h
  obtain ⟨t, rfl⟩ := rx
  cases rs with
  | cons r1 rs =>
    cases rs
    cases r1
    rcases hp with hp | hp
    · obtain ⟨its, r, ⟨o, n, ho, hc, _, hd⟩, _⟩ := I.list hp
      exact PyProof.Rows.join_list (items := its.toArray) ⟨o, ho, hc, n, hd⟩ (by rw [List.toList_toArray]; exact strs_of_vals r) hz fun t' k => ⟨.str _, H, I.tok k, ⟨t', rfl⟩, h⟩
    · obtain ⟨its, r, ht, _⟩ := I.tuple hp
      exact PyProof.Rows.join_tuple (items := its.toArray) ht (by rw [List.toList_toArray]; exact strs_of_vals r) hz fun t' k => ⟨.str _, H, I.tok k, ⟨t', rfl⟩, h⟩
end
section
variable {X : Cx} {o e : Expr} {to te : TE}
def tM1 (r : V → List V → Hp → VK → Prop) (to te : TE) : TE := fun σ H Q => to σ H fun x H1 => (∃ a, x = .str a) ∧ te σ H1 fun y H2 => r x [y] H2 Q
theorem pe_m1 {id : String} {name : Str} {apos pos : Pos} {r : V → List V → Hp → VK → Prop} (slot : Slot "str" name id) (ty : typeOf (.builtin id) = pure (.type "method_descriptor")) (rule : MtR X id r) (ho : PE X o to) (he : PE X e te)
    (hs : starEach [e] X.env = [(false, eval e X.env)] := by rfl) (hbase : attributeBase o name X.env (eval o X.env) = eval o X.env := by rfl) (hline : (apos.endLine == pos.line) = true := by rfl) :
    PE X (.Call (.Attribute o name apos) [e] [] pos) (tM1 r to te) := by
  intro pins s σ H Q I h
  refine PySem.Call_method1 hbase hs hline (thn (ho pins s σ H _ I h) fun v s1 ⟨x, H1, I1, r1, q1⟩ => ?_)
  obtain ⟨⟨a, rfl⟩, q1⟩ := q1
  obtain ⟨t, rfl⟩ := _root_.id r1
  refine ⟨"str", _, F.plainAttrs_str, slot, ty, typeIs_str _ _ _, (fun _ e => nomatch e), Calls.callWith_builtin rfl (Calls.evalArgs_plain (Calls.spliced_cons ?_))⟩
  exact thn (he pins s1 σ H1 _ I1 q1) fun u s2 ⟨y, H2, I2, r2, q2⟩ => Calls.spliced_nil (rule pins s2 σ H2 _ [y] _ [u] Q I2 r1 (.cons r2 .nil) q2)
theorem pe_join {apos pos : Pos} (ho : PE X o to) (he : PE X e te) (hs : starEach [e] X.env = [(false, eval e X.env)] := by rfl) (hbase : attributeBase o "join" X.env (eval o X.env) = eval o X.env := by rfl) (hline : (apos.endLine == pos.line) = true := by rfl) :
    PE X (.Call (.Attribute o "join" apos) [e] [] pos) (tM1 (fun x xs H Q => ∃ a p, ∃ ys : List Str, x = .str a ∧ xs = [.ref p] ∧ (SqL X.K H p (ys.map V.str) ∨ SqT X.K H p (ys.map V.str)) ∧
      (ys.map (·.length)).sum + ys.length * a.length ≤ 16777216 ∧ Q (.str (Txt.join a ys)) H) to te) :=
  pe_m1 F.slot_str_join F.type_str_join mt_join ho he hs hbase hline
end
end L2
namespace L2
open PySem PySem.Spec PyProof.Rows
end L2
namespace L2
open PySem PySem.Spec PyProof.Rows
def inClass (s : Stmt) (j : Nat) : Stmt := match s with
  | .ClassDef _ _ _ body _ _ _ _ _ _ _ => body.getD j (.Pass ⟨0, 0, 0, 0⟩)
  | _ => .Pass ⟨0, 0, 0, 0⟩
def defArgs (s : Stmt) : Arguments := match s with
  | .FunctionDef _ a _ _ _ _ _ _ _ _ => a
  | _ => { posonlyargs := [], args := [], vararg := none, kwonlyargs := [], kw_defaults := [], kwarg := none, defaults := [] }
def defBody (s : Stmt) : List Stmt := match s with
  | .FunctionDef _ _ b _ _ _ _ _ _ _ => b
  | _ => []
def defScope (s : Stmt) : Scope := match s with
  | .FunctionDef _ _ _ _ _ _ sc _ _ _ => sc
  | _ => { kind := .function, names := [], isGenerator := false, isCoroutine := false }
structure Fun (K : PySem.W.Frag) (x qual : Str) (st : Stmt) (f : Addr) (fd : FuncData) : Prop where
  ex : ∃ (oc : Value) (od : Option Addr) (kV doc pm : Value) (an : Option Addr) (cdv ct : Value) (osl : Array (Option Value)),
    fd = PySem.W.fnOf x qual (defArgs st) (defBody st) (defScope st) .none kV doc pm an cdv ct ∧ K.lookup f = some ⟨oc, od, .func fd, osl⟩ ∧ PySem.W.codeIn K cdv qual = true
  kp : PySem.W.keepIn K (.ref f) = true
section
variable {P : Program} {w : World} {K : PySem.W.Frag} {mg : Str → Option Value} {base : Heap}
theorem Fun.binds {x qual : Str} {st : Stmt} {f : Addr} {fd : FuncData} {ps : List Str} (F : Fun K x qual st f fd)
    (h : ∀ (kV doc pm : Value) (an : Option Addr) (cdv ct : Value) (us : List Value), us.length = ps.length → bindArgs (PySem.W.fnOf x qual (defArgs st) (defBody st) (defScope st) .none kV doc pm an cdv ct) ⟨us, []⟩ = pure (ps.zip us)) : Binds K fd ps [] := by
  obtain ⟨oc, od, kV, doc, pm, an, cdv, ct, osl, rfl, lk, hcd⟩ := F.ex
  exact .all (h kV doc pm an cdv ct)
theorem fun_mk {x qual : Str} {st : Stmt} {f : Addr} {oc : Value} {od an : Option Addr} {osl : Array (Option Value)} {kV doc pm cdv ct : Value} (l : K.lookup f = some ⟨oc, od, .func (PySem.W.fnOf x qual (defArgs st) (defBody st) (defScope st) .none kV doc pm an cdv ct), osl⟩)
    (c : PySem.W.codeIn K cdv qual = true) (k : PySem.W.keepIn K (.ref f) = true) : Fun K x qual st f (PySem.W.fnOf x qual (defArgs st) (defBody st) (defScope st) .none kV doc pm an cdv ct) := ⟨⟨oc, od, kV, doc, pm, an, cdv, ct, osl, rfl, l, c⟩, k⟩
end
theorem hu_of {A : Around} {k : Nat} (hr : Room k A) : A.units + 1 < cLine := Nat.lt_of_le_of_lt (Nat.add_le_add_left (by decide : 1 ≤ 64) _) hr.units
section
variable {X : Cx}
theorem pv (i : Nat) {x : Str} {pos : Pos} (hN : X.N[i]? = some x := by rfl) (hv : Vis X.env.scope x := by first | exact Or.inl rfl | exact Or.inr (Or.inl rfl) | exact Or.inr (Or.inr rfl)) (hd : (x == ("__debug__" : Str)) = false := by decide)
    (hcd : (x == ("__classdict__" : Str)) = false := by decide) : PE X (.Name x pos) (tVar i) := pe_var hN hv hd hcd
end
theorem iteF {A B : Prop} (h : B) : if false = true then A else B := by
  rw [if_neg Bool.false_ne_true]
  exact h
theorem iteT {A B : Prop} (h : A) : if true = true then A else B := by
  rw [if_pos rfl]
  exact h
def Same (H H' : Hp) : Prop := ∀ b o, H b = some o → H' b = some o
theorem Same.refl (H : Hp) : Same H H := fun _ _ h => h
theorem Same.trans {H H1 H2 : Hp} (a : Same H H1) (b : Same H1 H2) : Same H H2 := fun c o h => b c o (a c o h)
theorem Same.free {H H' : Hp} (e : Same H H') {l : Addr} (h : H' l = Option.none) : H l = Option.none := by
  cases q : H l with
  | none => rfl
  | some o =>
    rw [e l o q] at h
    cases h
theorem Same.seq {K : PySem.W.Frag} {H H' : Hp} {a : Addr} {xs : List V} (e : Same H H') (h : SqL K H a xs) : SqL K H' a xs := by
  rcases h with (h | ⟨o, h⟩) | h
  · exact .inl (.inl (e _ _ h))
  · exact .inl (.inr ⟨o, e _ _ h⟩)
  · exact .inr h
end L2
set_option maxHeartbeats 2000000
namespace L2
open PySem PySem.Spec PyProof.Rows
open PySem.W (WData Codec OpenSpec Well WellAll ReadsW ReadsAllW)
mutual
/-- x stands for the datum d, lists and tuples all the way -/
inductive Dw (K : PySem.W.Frag) (H : Hp) : V → WData → Prop
  | non : Dw K H .non .none
  | bl (b : Bool) : Dw K H (.bl b) (.bool b)
  | int (i : Int) : Dw K H (.int i) (.int i)
  | str (x : Str) : Dw K H (.str x) (.str x)
  | byt (b : Array UInt8) : Dw K H (.byt b) (.bytes b.toList)
  | lst {a : Addr} {xs : List V} {ds : List WData} : SqL K H a xs → DwAll K H xs ds → Dw K H (.ref a) (.list ds)
  | tup {a : Addr} {xs : List V} {ds : List WData} : SqT K H a xs → DwAll K H xs ds → Dw K H (.ref a) (.tuple ds)
inductive DwAll (K : PySem.W.Frag) (H : Hp) : List V → List WData → Prop
  | nil : DwAll K H [] []
  | cons {v : V} {vs : List V} {d : WData} {ds : List WData} : Dw K H v d → DwAll K H vs ds → DwAll K H (v :: vs) (d :: ds)
end
theorem dw_ints {K : PySem.W.Frag} {H : Hp} : ∀ ns : List Int, DwAll K H (ns.map V.int) (ns.map WData.int)
  | [] => .nil
  | n :: r => .cons (.int n) (dw_ints r)
theorem ints_dw {K : PySem.W.Frag} {H : Hp} : ∀ (ns : List Int) (xs : List V), DwAll K H xs (ns.map WData.int) → xs = ns.map V.int
  | [], xs, h => by
    cases h
    rfl
  | n :: r, xs, h => by
    cases h with
    | cons h1 h2 =>
      cases h1
      rw [ints_dw r _ h2] <;> rfl
section
variable {P : Program} {w : World} {K : PySem.W.Frag} {H : Hp} {h : Heap} {R : PySem.W.WRecords} {cl : Str → Option Addr}
theorem sqL_at {a : Addr} {xs : List V} (hok : HOk P w H h) (KX : K.In h) (q : SqL K H a xs) : ∃ (its : List Value) (o : Obj) (n : Nat), Vals xs its ∧ h.get? a = some o ∧ o.cls = .type "list" ∧ o.data = .seq its.toArray n := by
  rcases q with q | ⟨o, its, n, e, hc, _, hd, _, hv⟩
  · obtain ⟨_, its, n, hv, e⟩ := (show ObjOk P w H h a (.lst xs) from q.ok hok)
    exact ⟨its, _, n, hv, e, rfl, rfl⟩
  · exact ⟨its.toList, o, n, hv, KX _ _ e, hc, by simp [hd]⟩
theorem sqT_at {a : Addr} {xs : List V} (hok : HOk P w H h) (KX : K.In h) (q : SqT K H a xs) : ∃ (its : List Value) (o : Obj) (n : Nat), Vals xs its ∧ h.get? a = some o ∧ o.cls = .type "tuple" ∧ o.data = .seq its.toArray n := by
  rcases q with q | ⟨o, its, n, e, hc, hd, _, hv⟩
  · obtain ⟨_, its, hv, o, e, hc, n, hd⟩ := (show ObjOk P w H h a (.tup xs) from q.ok hok)
    exact ⟨its, o, n, hv, e, hc, hd⟩
  · exact ⟨its.toList, o, n, hv, KX _ _ e, hc, by simp [hd]⟩
mutual
theorem Dw.reads (hok : HOk P w H h) (KX : K.In h) : ∀ (d : WData) (v : V) (u : Value), Dw K H v d → RelV v u → ∃ as, ReadsW R cl h u d as
  | .none, _, _, x, r => by
    cases x
    cases r
    exact ⟨_, ReadsW.none⟩
  | .bool b, _, _, x, r => by
    cases x
    cases r
    exact ⟨_, ReadsW.bool b⟩
  | .int i, _, _, x, r => by
    cases x
    obtain ⟨t, rfl⟩ := r
    exact ⟨_, ReadsW.int i t⟩
  | .str s, _, _, x, r => by
    cases x
    obtain ⟨t, rfl⟩ := r
    exact ⟨_, ReadsW.str s t⟩
  | .bytes b, _, _, x, r => by
    cases x
    obtain ⟨t, rfl⟩ := r
    exact ⟨_, ReadsW.bytes _ t⟩
  | .list ds, _, _, x, r => by
    cases x with
    | lst hs ha =>
      cases r
      obtain ⟨its, o, n, rv, ho, hc, hd⟩ := sqL_at hok KX hs
      obtain ⟨as, hr⟩ := Dw.readsAll hok KX ds _ its ha rv
      exact ⟨_, ReadsW.list ho hc hd hr⟩
  | .tuple ds, _, _, x, r => by
    cases x with
    | tup hs ha =>
      cases r
      obtain ⟨its, o, n, rv, ho, hc, hd⟩ := sqT_at hok KX hs
      obtain ⟨as, hr⟩ := Dw.readsAll hok KX ds _ its ha rv
      exact ⟨_, ReadsW.tuple ho hc hd hr⟩
  | .float _, _, _, x, _ => by cases x
  | .dict _, _, _, x, _ => by cases x
  | .bytearray _, _, _, x, _ => by cases x
  | .set _, _, _, x, _ => by cases x
  | .frozenset _, _, _, x, _ => by cases x
  | .obj _ _, _, _, x, _ => by cases x
theorem Dw.readsAll (hok : HOk P w H h) (KX : K.In h) : ∀ (ds : List WData) (vs : List V) (us : List Value), DwAll K H vs ds → Vals vs us → ∃ as, ReadsAllW R cl h us ds as
  | [], _, _, x, r => by
    cases x
    cases r
    exact ⟨_, ReadsAllW.nil⟩
  | d :: ds, _, _, x, r => by
    cases x with
    | cons h1 h2 =>
      cases r with
      | cons r1 r2 =>
        obtain ⟨as, q1⟩ := Dw.reads hok KX d _ _ h1 r1
        obtain ⟨bs, q2⟩ := Dw.readsAll hok KX ds _ _ h2 r2
        exact ⟨_, ReadsAllW.cons q1 q2⟩
end
end
mutual
/-- data that a codec tells -/
def plW : WData → Bool
  | .none => true
  | .bool _ => true
  | .int _ => true
  | .str _ => true
  | .bytes _ => true
  | .list xs => plWs xs
  | .tuple xs => plWs xs
  | _ => false
def plWs : List WData → Bool
  | [] => true
  | x :: r => plW x && plWs r
end
theorem plWs_map {α : Type} {f : α → WData} (h : ∀ a, plW (f a) = true) : ∀ l : List α, plWs (l.map f) = true
  | [] => rfl
  | x :: r => by
    show (plW (f x) && plWs (r.map f)) = true
    rw [h x, plWs_map h r] <;> rfl
theorem pl_enc : ∀ (c : Codec) (a : c.denote), plW (c.enc a) = true
  | .unit, _ => rfl
  | .bool, _ => rfl
  | .int _ _, _ => rfl
  | .nat _ _, _ => rfl
  | .u8, _ => rfl
  | .bytes _ _, _ => rfl
  | .text _ _ _ _, _ => rfl
  | .list _ _ c, a => plWs_map (fun x => pl_enc c x) a
  | .pair c d, a => by
    show (plW (c.enc a.1) && (plW (d.enc a.2) && true)) = true
    rw [pl_enc c a.1, pl_enc d a.2] <;> rfl
  | .triple c d e, a => by
    show (plW (c.enc a.1) && (plW (d.enc a.2.1) && (plW (e.enc a.2.2) && true))) = true
    rw [pl_enc c a.1, pl_enc d a.2.1, pl_enc e a.2.2] <;> rfl
  | .option c, none => rfl
  | .option c, some x => pl_enc c x
theorem pl_encAll : ∀ (cs : List Codec) (a : Codec.denoteAll cs), plWs (Codec.encAll cs a) = true
  | [], _ => rfl
  | c :: cs, a => by
    show (plW (c.enc a.1) && plWs (Codec.encAll cs a.2)) = true
    rw [pl_enc c a.1, pl_encAll cs a.2] <;> rfl
theorem weight_mem : ∀ {xs : List WData} {d : WData}, d ∈ xs → d.weight ≤ WData.weightAll xs
  | [], d, h => absurd h (by simp)
  | x :: r, d, h => by
    show d.weight ≤ x.weight + 1 + WData.weightAll r
    rcases List.mem_cons.mp h with e | m
    · rw [e]
      omega
    · have z := weight_mem m
      omega
def toV : Value → V
  | .none => .non
  | .bool b => .bl b
  | .int i _ => .int i
  | .str x _ => .str x
  | .bytes b _ => .byt b
  | .ref a => .ref a
  | _ => .non
def OkU (A : List Addr) : Value → Prop
  | .none => True
  | .bool _ => True
  | .int _ _ => True
  | .str _ _ => True
  | .bytes _ _ => True
  | .ref a => a ∈ A
  | _ => False
theorem OkU.mono {A B : List Addr} (h : ∀ a ∈ A, a ∈ B) : ∀ {u : Value}, OkU A u → OkU B u := fun {u} x => by
  cases u with
  | ref a => exact h a x
  | none => trivial
  | bool b => trivial
  | int i t => trivial
  | str s t => trivial
  | bytes b t => trivial
  | _ => exact False.elim x
theorem relV_toV {A : List Addr} {u : Value} (x : OkU A u) : RelV (toV u) u := by
  cases u with
  | ref a => rfl
  | none => rfl
  | bool b => rfl
  | int i t => exact ⟨t, rfl⟩
  | str s t => exact ⟨t, rfl⟩
  | bytes b t => exact ⟨t, rfl⟩
  | _ => exact False.elim x
theorem vals_toV {A : List Addr} : ∀ {vs : List Value}, (∀ u ∈ vs, OkU A u) → Vals (vs.map toV) vs
  | [], _ => .nil
  | u :: r, h => .cons (relV_toV (h u (List.mem_cons_self ..))) (vals_toV fun x hx => h x (List.mem_cons_of_mem _ hx))
def ArgOb (h : Heap) (A : List Addr) (a : Addr) : Prop := ∃ vs : List Value, vs.length ≤ sizeLine ∧ (∀ u ∈ vs, OkU A u) ∧
  (h.get? a = some { cls := .type "list", data := .seq vs.toArray } ∨ h.get? a = some { cls := .type "tuple", data := .seq vs.toArray })
theorem ArgOb.mono {h : Heap} {A B : List Addr} {a : Addr} (k : ∀ a ∈ A, a ∈ B) (x : ArgOb h A a) : ArgOb h B a := by
  obtain ⟨vs, h1, h2, h3⟩ := x
  exact ⟨vs, h1, fun u hu => (h2 u hu).mono k, h3⟩
theorem wellAll_len {P : Params} {h : Heap} : ∀ {vs : List Value} {ds : List WData}, WellAll P h vs ds → vs.length = ds.length
  | _, _, .nil => rfl
  | _, _, .cons _ b => by
    show _ + 1 = _ + 1
    rw [wellAll_len b]
theorem well_list {P : Params} {h : Heap} {v : Value} {ds : List WData} (x : Well P h v (.list ds)) : ∃ (a : Addr) (vs : List Value), v = .ref a ∧ h.get? a = some { cls := .type "list", data := .seq vs.toArray } ∧ WellAll P h vs ds := by
  cases x with
  | list ho hall => exact ⟨_, _, rfl, ho, hall⟩
theorem well_tuple {P : Params} {h : Heap} {v : Value} {ds : List WData} (x : Well P h v (.tuple ds)) : ∃ (a : Addr) (vs : List Value), v = .ref a ∧ h.get? a = some { cls := .type "tuple", data := .seq vs.toArray } ∧ WellAll P h vs ds := by
  cases x with
  | tuple ho hall => exact ⟨_, _, rfl, ho, hall⟩
theorem well_cons {P : Params} {h : Heap} {us : List Value} {d : WData} {ds : List WData} (x : WellAll P h us (d :: ds)) : ∃ (v : Value) (vs : List Value), us = v :: vs ∧ Well P h v d ∧ WellAll P h vs ds := by
  cases x with
  | cons a b => exact ⟨_, _, rfl, a, b⟩
theorem line_of {n : Nat} (h : n ≤ 1048576) : n ≤ sizeLine := Nat.le_trans h (by decide)
section
variable {P : Params} {h : Heap}
mutual
theorem area_one : ∀ (d : WData) (v : Value), Well P h v d → plW d = true → d.weight ≤ 1048576 → ∃ A : List Addr, OkU A v ∧ ∀ a ∈ A, ArgOb h A a
  | .none, _, x, _, _ => by
    cases x
    exact ⟨[], trivial, fun a m => absurd m (by simp)⟩
  | .bool b, _, x, _, _ => by
    cases x
    exact ⟨[], trivial, fun a m => absurd m (by simp)⟩
  | .int i, _, x, _, _ => by
    cases x
    exact ⟨[], trivial, fun a m => absurd m (by simp)⟩
  | .str s, _, x, _, _ => by
    cases x
    exact ⟨[], trivial, fun a m => absurd m (by simp)⟩
  | .bytes b, _, x, _, _ => by
    cases x
    exact ⟨[], trivial, fun a m => absurd m (by simp)⟩
  | .list ds, _, x, p, z => by
    obtain ⟨a, vs, rfl, ho, hall⟩ := well_list x
    have z2 : WData.weightAll ds ≤ 1048576 := z
    obtain ⟨A, h1, h2⟩ := area_all ds _ hall p fun d hd => Nat.le_trans (weight_mem hd) z2
    have k : ∀ b ∈ A, b ∈ a :: A := fun b hb => List.mem_cons_of_mem _ hb
    refine ⟨a :: A, List.mem_cons_self .., fun b hb => ?_⟩
    rcases List.mem_cons.mp hb with e | m
    · rw [e]
      exact ⟨vs, line_of (by rw [wellAll_len hall]; exact Nat.le_trans (PySem.W.length_le_weightAllW ds) z2), fun u hu => (h1 u hu).mono k, .inl ho⟩
    · exact (h2 b m).mono k
  | .tuple ds, _, x, p, z => by
    obtain ⟨a, vs, rfl, ho, hall⟩ := well_tuple x
    have z2 : WData.weightAll ds ≤ 1048576 := z
    obtain ⟨A, h1, h2⟩ := area_all ds _ hall p fun d hd => Nat.le_trans (weight_mem hd) z2
    have k : ∀ b ∈ A, b ∈ a :: A := fun b hb => List.mem_cons_of_mem _ hb
    refine ⟨a :: A, List.mem_cons_self .., fun b hb => ?_⟩
    rcases List.mem_cons.mp hb with e | m
    · rw [e]
      exact ⟨vs, line_of (by rw [wellAll_len hall]; exact Nat.le_trans (PySem.W.length_le_weightAllW ds) z2), fun u hu => (h1 u hu).mono k, .inr ho⟩
    · exact (h2 b m).mono k
  | .float _, _, _, p, _ => Bool.noConfusion (show false = true from p)
  | .dict _, _, _, p, _ => Bool.noConfusion (show false = true from p)
  | .bytearray _, _, _, p, _ => Bool.noConfusion (show false = true from p)
  | .set _, _, _, p, _ => Bool.noConfusion (show false = true from p)
  | .frozenset _, _, _, p, _ => Bool.noConfusion (show false = true from p)
  | .obj _ _, _, _, p, _ => Bool.noConfusion (show false = true from p)
theorem area_all : ∀ (ds : List WData) (vs : List Value), WellAll P h vs ds → plWs ds = true → (∀ d ∈ ds, d.weight ≤ 1048576) → ∃ A : List Addr, (∀ u ∈ vs, OkU A u) ∧ ∀ a ∈ A, ArgOb h A a
  | [], _, x, _, _ => by
    cases x
    exact ⟨[], fun u m => absurd m (by simp), fun a m => absurd m (by simp)⟩
  | d :: ds, _, x, p, z => by
    obtain ⟨v, vs, rfl, x1, x2⟩ := well_cons x
    have q : plW d = true ∧ plWs ds = true := Bool.and_eq_true_iff.mp p
    obtain ⟨A, a1, a2⟩ := area_one d v x1 q.1 (z d (List.mem_cons_self ..))
    obtain ⟨B, b1, b2⟩ := area_all ds vs x2 q.2 fun e he => z e (List.mem_cons_of_mem _ he)
    have kA : ∀ b ∈ A, b ∈ A ++ B := fun b hb => List.mem_append.mpr (.inl hb)
    have kB : ∀ b ∈ B, b ∈ A ++ B := fun b hb => List.mem_append.mpr (.inr hb)
    refine ⟨A ++ B, fun u hu => ?_, fun b hb => ?_⟩
    · rcases List.mem_cons.mp hu with e | m
      · rw [e]
        exact a1.mono kA
      · exact (b1 u m).mono kB
    · rcases List.mem_append.mp hb with m | m
      · exact (a2 b m).mono kA
      · exact (b2 b m).mono kB
end
end
def hoOf (o : Obj) : Option HO := match o.data with
  | .seq vs _ => if (o.cls == Value.type "list") = true then some (.frz o (.lst (vs.toList.map toV))) else some (.frz o (.tup (vs.toList.map toV)))
  | _ => none
def argH (K : PySem.W.Frag) (h : Heap) (A : List Addr) : Hp := fun b => if b ∈ A then (if (K.lookup b).isNone = true then (h.get? b).bind hoOf else none) else none
def OnlyF (H : Hp) : Prop := ∀ b, H b = none ∨ ∃ o u, H b = some (.frz o u)
theorem hoOf_lst (vs : List Value) : hoOf { cls := .type "list", data := .seq vs.toArray } = some (.frz { cls := .type "list", data := .seq vs.toArray } (.lst (vs.map toV))) := by
  show (if (Value.type "list" == Value.type "list") = true then some (HO.frz { cls := .type "list", data := .seq vs.toArray } (.lst (vs.toArray.toList.map toV))) else some (HO.frz { cls := .type "list", data := .seq vs.toArray } (.tup (vs.toArray.toList.map toV)))) = _
  rw [if_pos (beq_self_eq_true _)]
theorem hoOf_tup (vs : List Value) : hoOf { cls := .type "tuple", data := .seq vs.toArray } = some (.frz { cls := .type "tuple", data := .seq vs.toArray } (.tup (vs.map toV))) := by
  show (if (Value.type "tuple" == Value.type "list") = true then some (HO.frz { cls := .type "tuple", data := .seq vs.toArray } (.lst (vs.toArray.toList.map toV))) else some (HO.frz { cls := .type "tuple", data := .seq vs.toArray } (.tup (vs.toArray.toList.map toV)))) = _
  rw [if_neg (by decide)]
section
variable {P : Program} {w : World} {K : PySem.W.Frag} {h : Heap} {A : List Addr}
theorem argH_at {b : Addr} {o : Obj} (hb : b ∈ A) (hk : K.lookup b = none) (e : h.get? b = some o) : argH K h A b = hoOf o := by
  unfold argH
  rw [if_pos hb, hk, if_pos (show (none : Option Obj).isNone = true from rfl), e] <;> rfl
theorem of_argH {b : Addr} {u : HO} (q : argH K h A b = some u) : b ∈ A ∧ K.lookup b = none := by
  unfold argH at q
  by_cases hb : b ∈ A
  · rw [if_pos hb] at q
    cases hk : K.lookup b with
    | none => exact ⟨hb, rfl⟩
    | some o =>
      rw [hk, if_neg (by simp)] at q
      cases q
  · rw [if_neg hb] at q
    cases q
theorem argH_is (ar : ∀ a ∈ A, ArgOb h A a) {b : Addr} {u : HO} (q : argH K h A b = some u) : K.lookup b = none ∧ ∃ vs : List Value, vs.length ≤ sizeLine ∧ (∀ u ∈ vs, OkU A u) ∧
    ((h.get? b = some { cls := .type "list", data := .seq vs.toArray } ∧ u = .frz { cls := .type "list", data := .seq vs.toArray } (.lst (vs.map toV))) ∨
     (h.get? b = some { cls := .type "tuple", data := .seq vs.toArray } ∧ u = .frz { cls := .type "tuple", data := .seq vs.toArray } (.tup (vs.map toV)))) := by
  obtain ⟨hb, hk⟩ := of_argH q
  obtain ⟨vs, h1, h2, h3⟩ := ar b hb
  refine ⟨hk, vs, h1, h2, ?_⟩
  rcases h3 with e | e
  · rw [argH_at hb hk e, hoOf_lst] at q
    exact .inl ⟨e, (Option.some.inj q).symm⟩
  · rw [argH_at hb hk e, hoOf_tup] at q
    exact .inr ⟨e, (Option.some.inj q).symm⟩
theorem argH_only (ar : ∀ a ∈ A, ArgOb h A a) : OnlyF (argH K h A) := fun b => by
  cases q : argH K h A b with
  | none => exact .inl rfl
  | some u =>
    obtain ⟨_, vs, _, _, ⟨_, e⟩ | ⟨_, e⟩⟩ := argH_is ar q
    · exact .inr ⟨_, _, by rw [e]⟩
    · exact .inr ⟨_, _, by rw [e]⟩
theorem argH_ok (ar : ∀ a ∈ A, ArgOb h A a) : HOk P w (argH K h A) h := fun b u q => by
  obtain ⟨_, vs, h1, h2, ⟨e, rfl⟩ | ⟨e, rfl⟩⟩ := argH_is ar q
  · exact ⟨e, by rw [List.length_map]; exact h1, vs, _, vals_toV h2, e⟩
  · exact ⟨e, by rw [List.length_map]; exact h1, vs, vals_toV h2, _, e, rfl, _, rfl⟩
theorem seq_inj {c c' : Value} {vs us : List Value} (e : (some { cls := c, data := .seq vs.toArray } : Option Obj) = some { cls := c', data := .seq us.toArray }) : c = c' ∧ vs = us := by
  have e1 := Option.some.inj e
  have e2 : c = c' := congrArg Obj.cls e1
  have e3 : Data.seq vs.toArray = Data.seq us.toArray := congrArg Obj.data e1
  injection e3 with e4
  refine ⟨e2, ?_⟩
  have e5 := congrArg Array.toList e4
  simpa using e5
theorem argL (KX : K.In h) (ar : ∀ a ∈ A, ArgOb h A a) {a : Addr} {vs : List Value} (ha : a ∈ A) (e : h.get? a = some { cls := .type "list", data := .seq vs.toArray }) : (∀ u ∈ vs, OkU A u) ∧ SqL K (argH K h A) a (vs.map toV) := by
  obtain ⟨us, h1, h2, h3⟩ := ar a ha
  have hu : us = vs := by
    rcases h3 with q | q
    · rw [e] at q
      exact (seq_inj q).2.symm
    · rw [e] at q
      exact absurd (Value.type.inj (seq_inj q).1) (by decide)
  subst hu
  refine ⟨h2, ?_⟩
  cases hk : K.lookup a with
  | none => exact .inl (.inr ⟨_, by rw [argH_at ha hk e, hoOf_lst]⟩)
  | some o =>
    have e2 := KX a o hk
    rw [e] at e2
    obtain rfl := Option.some.inj e2
    exact .inr ⟨_, us.toArray, _, hk, rfl, rfl, rfl, by rw [List.size_toArray]; exact h1, by simpa using vals_toV h2⟩
theorem argT (KX : K.In h) (ar : ∀ a ∈ A, ArgOb h A a) {a : Addr} {vs : List Value} (ha : a ∈ A) (e : h.get? a = some { cls := .type "tuple", data := .seq vs.toArray }) : (∀ u ∈ vs, OkU A u) ∧ SqT K (argH K h A) a (vs.map toV) := by
  obtain ⟨us, h1, h2, h3⟩ := ar a ha
  have hu : us = vs := by
    rcases h3 with q | q
    · rw [e] at q
      exact absurd (Value.type.inj (seq_inj q).1) (by decide)
    · rw [e] at q
      exact (seq_inj q).2.symm
  subst hu
  refine ⟨h2, ?_⟩
  cases hk : K.lookup a with
  | none => exact .inl (.inr ⟨_, by rw [argH_at ha hk e, hoOf_tup]⟩)
  | some o =>
    have e2 := KX a o hk
    rw [e] at e2
    obtain rfl := Option.some.inj e2
    exact .inr ⟨_, us.toArray, _, hk, rfl, rfl, by rw [List.size_toArray]; exact h1, by simpa using vals_toV h2⟩
mutual
theorem dw_one {Pm : Params} (KX : K.In h) (ar : ∀ a ∈ A, ArgOb h A a) : ∀ (d : WData) (v : Value), Well Pm h v d → plW d = true → OkU A v → Dw K (argH K h A) (toV v) d
  | .none, _, x, _, _ => by
    cases x
    exact .non
  | .bool b, _, x, _, _ => by
    cases x
    exact .bl b
  | .int i, _, x, _, _ => by
    cases x
    exact .int i
  | .str s, _, x, _, _ => by
    cases x
    exact .str s
  | .bytes b, _, x, _, _ => by
    cases x
    have z := Dw.byt (K := K) (H := argH K h A) b.toArray
    exact z
  | .list ds, _, x, p, hu => by
    obtain ⟨a, vs, rfl, ho, hall⟩ := well_list x
    obtain ⟨h2, hs⟩ := argL KX ar hu ho
    exact .lst hs (dw_all KX ar ds _ hall p h2)
  | .tuple ds, _, x, p, hu => by
    obtain ⟨a, vs, rfl, ho, hall⟩ := well_tuple x
    obtain ⟨h2, hs⟩ := argT KX ar hu ho
    exact .tup hs (dw_all KX ar ds _ hall p h2)
  | .float _, _, _, p, _ => Bool.noConfusion (show false = true from p)
  | .dict _, _, _, p, _ => Bool.noConfusion (show false = true from p)
  | .bytearray _, _, _, p, _ => Bool.noConfusion (show false = true from p)
  | .set _, _, _, p, _ => Bool.noConfusion (show false = true from p)
  | .frozenset _, _, _, p, _ => Bool.noConfusion (show false = true from p)
  | .obj _ _, _, _, p, _ => Bool.noConfusion (show false = true from p)
theorem dw_all {Pm : Params} (KX : K.In h) (ar : ∀ a ∈ A, ArgOb h A a) : ∀ (ds : List WData) (vs : List Value), WellAll Pm h vs ds → plWs ds = true → (∀ u ∈ vs, OkU A u) → DwAll K (argH K h A) (vs.map toV) ds
  | [], _, x, _, _ => by
    cases x
    exact .nil
  | d :: ds, _, x, p, hu => by
    obtain ⟨v, vs, rfl, x1, x2⟩ := well_cons x
    have q : plW d = true ∧ plWs ds = true := Bool.and_eq_true_iff.mp p
    exact .cons (dw_one KX ar d v x1 q.1 (hu _ (List.mem_cons_self ..))) (dw_all KX ar ds vs x2 q.2 fun u m => hu u (List.mem_cons_of_mem _ m))
end
end
theorem layable_weight {ds : List WData} (h : WData.layableAll ds = true) : ∀ d ∈ ds, d.weight ≤ 1048576 := fun d hd =>
  (PySem.W.layableW_iff.mp (List.all_eq_true.mp h d hd)).2.2
theorem encAll_len : ∀ (cs : List Codec) (a : Codec.denoteAll cs), (Codec.encAll cs a).length = cs.length
  | [], _ => rfl
  | c :: cs, a => by
    show (Codec.encAll cs a.2).length + 1 = cs.length + 1
    rw [encAll_len cs a.2]
end L2
set_option maxHeartbeats 2000000
namespace L2
open PySem PySem.Spec PyProof.Rows
section
variable {M : Model} {A : Around} {E : Value → Shared → Prop} {s : Shared}
def TbOk (h : Heap) (x : Addr) (vs : Array Value) : Prop := vs[1]? = some .none ∨ ∃ T oT ts, vs[1]? = some (.ref T) ∧ T ≠ x ∧ h.get? T = some oT ∧ oT.data = .fields ts ∧ 3 < ts.size
structure Noted (fs : List Addr) (x : Addr) (oe : Obj) (old : Value) (h h' : Heap) : Prop where
  obj : ∃ oe' vs' T oT ts, h'.get? x = some oe' ∧ oe'.cls = oe.cls ∧ oe'.dict = oe.dict ∧ oe'.data = .fields vs' ∧ vs'[1]? = some (.ref T) ∧ T ≠ x ∧ h'.get? T = some oT ∧ oT.data = .fields ts ∧ 3 < ts.size ∧ (h.get? T = none ∨ old = .ref T)
  keep : ∀ b o, b ≠ x → old ≠ .ref b → b ∉ fs → h.get? b = some o → h'.get? b = some o
  slot : ∀ b o, b ≠ x → old ≠ .ref b → h.get? b = some o → ∃ sl, h'.get? b = some { o with slots := sl }
  there : ∀ b o, h.get? b = some o → ∃ o', h'.get? b = some o'
theorem entryX {base : Heap} {env : Env} {outer : List Env} {L x : Addr} {oe : Obj} {vs : Array Value} {head : Value} {hadNext : Bool} {Q : Unit → Shared → Prop}
    (hfr : A.frames = some (env :: outer)) (hl : s.heap.FunFrames base (env :: outer)) (hf : env.frame = some L)
    (he : s.heap.get? x = some oe) (hd : oe.data = .fields vs) (hsz : 1 < vs.size)
    (h : ∀ h', Noted ((env :: outer).filterMap (·.frame)) x oe .none s.heap h' → Q () { s with heap := h' }) :
    wpAny M A (do let a ← frameOf env; let pl ← entryPlaceOf L hadNext; let b ← EntryCells.newEntry head a .none (rawInt L) .none pl; setField (.ref x) 1 b) (fun _ s' => wpAny M A (setFlight (.ref x) none) Q E s') E s := by
  have hene : x ∉ (env :: outer).filterMap (·.frame) := fun hm => by
    obtain ⟨_, o, ho, hnf⟩ := hl.mem hm
    rw [he] at ho; injection ho with ho; subst ho; exact hnf vs hd
  refine wpAny_bind (wpAny_frameOf_fun hfr hl hf fun h₁ hs₁ => ?_)
  refine wpAny_bind (wpAny_entryPlaceOf fun pl hpl => ?_)
  unfold EntryCells.newEntry newFields
  refine wpAny_bind (wpAny_newObj_type ?_ (hpl.sizeOk5 _ _ _ _ _))
  have he₁ : h₁.get? x = some oe := (hs₁.2.1 x hene).trans he
  have he₂ := Heap.get?_push_of_some (h := h₁) { cls := .type "traceback", dict := none, data := .fields ([head, .ref L, .none, rawInt L, .none] ++ (if pl.isEmpty then List.replicate 6 Value.none else pl)).toArray } he₁
  refine wpAny_setField he₂ hd hsz ?_
  have hTe : h₁.objs.size ≠ x := Nat.ne_of_gt (Heap.lt_size he₁)
  have hd₃ := Obj.data_mapFields hd (·.setIfInBounds 1 (Value.ref h₁.objs.size))
  have he₃ := Heap.get?_update_self (Obj.mapFields (·.setIfInBounds 1 (Value.ref h₁.objs.size))) he₂ (Obj.isFreed_of_fields hd₃)
  have hT₃ := (Heap.get?_update_other (h₁.push { cls := .type "traceback", dict := none, data := .fields ([head, .ref L, .none, rawInt L, .none] ++ (if pl.isEmpty then List.replicate 6 Value.none else pl)).toArray })
    (Obj.mapFields (·.setIfInBounds 1 (Value.ref h₁.objs.size))) (Ne.symm hTe)).trans (Heap.get?_push_size h₁ rfl)
  unfold setFlight
  refine wpAny_bind (wpAny_field he₃ hd₃ (x := .ref h₁.objs.size) (by simp [hsz]) ?_)
  rw [if_pos (show (Value.ref h₁.objs.size != Value.none) = true from by simp)]
  refine wpAny_setField hT₃ rfl (by simp only [List.size_toArray, List.length_append, List.length_cons, List.length_nil] <;> omega) (h _ ?_)
  have keep : ∀ b o, b ≠ x → h₁.get? b = some o →
      (((h₁.push { cls := .type "traceback", dict := none, data := .fields ([head, .ref L, .none, rawInt L, .none] ++ (if pl.isEmpty then List.replicate 6 Value.none else pl)).toArray }).update x (Obj.mapFields (·.setIfInBounds 1 (Value.ref h₁.objs.size)))).update h₁.objs.size
        (Obj.mapFields (·.setIfInBounds 3 ((none : Option Addr).elim Value.none fun f => rawInt f)))).get? b = some o := fun b o hbe hb => by
    have hbT : h₁.objs.size ≠ b := Nat.ne_of_gt (Heap.lt_size hb)
    rw [Heap.get?_update_other _ _ hbT, Heap.get?_update_other _ _ (Ne.symm hbe)]
    exact Heap.get?_push_of_some _ hb
  have hx' := (Heap.get?_update_other ((h₁.push { cls := .type "traceback", dict := none, data := .fields ([head, .ref L, .none, rawInt L, .none] ++ (if pl.isEmpty then List.replicate 6 Value.none else pl)).toArray }).update x (Obj.mapFields (·.setIfInBounds 1 (Value.ref h₁.objs.size))))
    (Obj.mapFields (·.setIfInBounds 3 ((none : Option Addr).elim Value.none fun f => rawInt f))) hTe).trans he₃
  refine ⟨⟨_, _, h₁.objs.size, _, _, hx', Obj.cls_mapFields _ _, ?_, hd₃, by simp [hsz], hTe, Heap.get?_update_self _ hT₃ (Obj.isFreed_of_fields (Obj.data_mapFields rfl _)), Obj.data_mapFields rfl _, ?_, .inl ?_⟩, fun b o hb _ hbf e => keep b o hb ((hs₁.2.1 b hbf).trans e), fun b o hb _ e => ?_, fun b o e => ?_⟩
  · obtain ⟨c, d, dt, sl⟩ := oe; cases dt <;> rfl
  · rw [Array.size_setIfInBounds]; simp only [List.size_toArray, List.length_append, List.length_cons, List.length_nil]; omega
  · exact Heap.get?_none_of_le (by rw [hs₁.1]; exact Nat.le_refl _)
  · obtain ⟨sl, hs⟩ := hs₁.2.2 b o e
    exact ⟨sl, keep b _ hb hs⟩
  · by_cases hb : b = x
    · subst hb; exact ⟨_, hx'⟩
    · obtain ⟨sl, hs⟩ := hs₁.2.2 b o e
      exact ⟨_, keep b _ hb hs⟩
theorem flightX {x T : Addr} {oe oT : Obj} {vs ts : Array Value} {fs : List Addr} {Q : Unit → Shared → Prop} (he : s.heap.get? x = some oe) (hd : oe.data = .fields vs) (h1 : vs[1]? = some (.ref T)) (hTe : T ≠ x)
    (hT : s.heap.get? T = some oT) (hdT : oT.data = .fields ts) (hsz : 3 < ts.size) (h : ∀ h', Noted fs x oe (.ref T) s.heap h' → Q () { s with heap := h' }) : wpAny M A (setFlight (.ref x) none) Q E s := by
  unfold setFlight
  refine wpAny_bind (wpAny_field he hd h1 ?_)
  rw [if_pos (show (Value.ref T != Value.none) = true from by simp)]
  have other : ∀ b, b ≠ T → (s.heap.update T (Obj.mapFields (·.setIfInBounds 3 ((none : Option Addr).elim Value.none fun f => rawInt f)))).get? b = s.heap.get? b :=
    fun b hb => Heap.get?_update_other _ _ (Ne.symm hb)
  have self' := Heap.get?_update_self (Obj.mapFields (·.setIfInBounds 3 ((none : Option Addr).elim Value.none fun f => rawInt f))) hT (Obj.isFreed_of_fields (Obj.data_mapFields hdT _))
  refine wpAny_setField hT hdT hsz (h _ ⟨⟨oe, vs, T, _, _, (other x (Ne.symm hTe)).trans he, rfl, rfl, hd, h1, hTe, self', Obj.data_mapFields hdT _, by rw [Array.size_setIfInBounds]; exact hsz, .inr rfl⟩, fun b o hb ho _ e => (other b fun q => ho (by rw [q])).trans e, fun b o hb ho e => ⟨o.slots, (other b fun q => ho (by rw [q])).trans e⟩, fun b o e => ?_⟩)
  by_cases hb : b = T
  · subst hb; exact ⟨_, self'⟩
  · exact ⟨o, (other b hb).trans e⟩
theorem noteX {base : Heap} {env : Env} {outer : List Env} {L x : Addr} {oe : Obj} {vs : Array Value} {Q : Unit → Shared → Prop}
    (hfr : A.frames = some (env :: outer)) (hl : s.heap.FunFrames base (env :: outer)) (hf : env.frame = some L)
    (he : s.heap.get? x = some oe) (hd : oe.data = .fields vs) (h1 : TbOk s.heap x vs)
    (h : ∀ h' old, vs[1]? = some old → Noted ((env :: outer).filterMap (·.frame)) x oe old s.heap h' → Q () { s with heap := h' }) :
    wpAny M A (noteFrame (.ref x) env) (fun _ s' => wpAny M A (setFlight (.ref x) none) Q E s') E s := by
  rcases h1 with h1 | ⟨T, oT, ts, h1, hTe, hT, hdT, hsz⟩
  · unfold noteFrame
    simp only [hf]
    refine wpAny_bind (wpAny_field he hd h1 ?_)
    rw [if_neg (by decide)]
    exact entryX hfr hl hf he hd (Array.getElem?_eq_some_iff.mp h1).1 fun h' n => h h' _ h1 n
  · by_cases hr : (ts[3]'hsz == rawInt L) = true
    · unfold noteFrame
      simp only [hf]
      refine wpAny_bind (wpAny_field he hd h1 ?_)
      rw [if_pos (show (Value.ref T != Value.none) = true from by simp)]
      refine wpAny_bind (wpAny_field hT hdT (Array.getElem?_eq_getElem hsz) ?_)
      rw [if_pos hr]
      exact wpAny_pure (flightX he hd h1 hTe hT hdT hsz fun h' n => h h' _ h1 n)
    · unfold noteFrame
      simp only [hf]
      refine wpAny_bind (wpAny_field he hd h1 ?_)
      rw [if_pos (show (Value.ref T != Value.none) = true from by simp)]
      refine wpAny_bind (wpAny_field hT hdT (Array.getElem?_eq_getElem hsz) ?_)
      rw [if_neg hr]
      refine wpAny_bind (wpAny_setField hT hdT hsz ?_)
      have other : ∀ b, b ≠ T → (s.heap.update T (Obj.mapFields (·.setIfInBounds 3 Value.none))).get? b = s.heap.get? b := fun b hb => Heap.get?_update_other _ _ (Ne.symm hb)
      have self' := Heap.get?_update_self (Obj.mapFields (·.setIfInBounds 3 Value.none)) hT (Obj.isFreed_of_fields (Obj.data_mapFields hdT _))
      have noRecord : ∀ b o, s.heap.get? b = some o → (∀ vs, o.data ≠ .fields vs) → b ≠ T := fun b o hb hnf q => by
        rw [q, hT] at hb; injection hb with hb; subst hb; exact hnf ts hdT
      have back : ∀ b o, s.heap.get? b = some o → ∃ o', (s.heap.update T (Obj.mapFields (·.setIfInBounds 3 Value.none))).get? b = some o' := fun b o e => by
        by_cases hb : b = T
        · subst hb; exact ⟨_, self'⟩
        · exact ⟨o, (other b hb).trans e⟩
      refine entryX (s := { s with heap := s.heap.update T (Obj.mapFields (·.setIfInBounds 3 Value.none)) }) hfr (hl.of_keeps fun b o hb hnf => ⟨o, (other b (noRecord b o hb hnf)).trans hb, rfl⟩) hf ((other x (Ne.symm hTe)).trans he) hd (Array.getElem?_eq_some_iff.mp h1).1 fun h' n => h h' (.ref T) h1 ?_
      obtain ⟨n1, n2, n3, n4⟩ := n
      refine ⟨?_, fun b o hb ho hbf e => n2 b o hb (by intro q; cases q) hbf ((other b fun q => ho (by rw [q])).trans e), fun b o hb ho e => n3 b o hb (by intro q; cases q) ((other b fun q => ho (by rw [q])).trans e), fun b o e => let ⟨o', e'⟩ := back b o e; n4 b o' e'⟩
      obtain ⟨oe', vs', T', oT', ts', q1, q2, q3, q4, q5, q6, q7, q8, q9, q10⟩ := n1
      refine ⟨oe', vs', T', oT', ts', q1, q2, q3, q4, q5, q6, q7, q8, q9, ?_⟩
      rcases q10 with q | q
      · refine .inl ?_
        cases z : s.heap.get? T' with
        | none => rfl
        | some o =>
          obtain ⟨o', e'⟩ := back _ _ z
          have q' : (s.heap.update T (Obj.mapFields (·.setIfInBounds 3 Value.none))).get? T' = none := q
          rw [e'] at q'; cases q'
      · cases q
end
theorem ObjOk.gone {P : Program} {w : World} {H : Hp} {h : Heap} {a : Addr} {o : HO} (x : ObjOk P w H h a o) (e : h.get? a = none) : False := by
  induction o with
  | lst xs => obtain ⟨_, _, _, _, q⟩ := x; rw [e] at q; cases q
  | tup xs => obtain ⟨_, _, _, _, q, _⟩ := x; rw [e] at q; cases q
  | dK kvs => obtain ⟨_, _, _, _, _, _, _, q, _⟩ := x; rw [e] at q; cases q
  | dT kvs => obtain ⟨_, _, _, _, _, _, _, q, _⟩ := x; rw [e] at q; cases q
  | set S n => obtain ⟨_, _, _, _, q, _⟩ := x; rw [e] at q; cases q
  | ins C dx fs => obtain ⟨_, _, _, q, _⟩ := x; rw [e] at q; cases q
  | own y => obtain ⟨_, q⟩ := x; rw [e] at q; cases q
  | xd fs => obtain ⟨_, ⟨_, _, _, q, _⟩, _⟩ := x; rw [e] at q; cases q
  | rng lo hi => obtain ⟨_, _, _, q⟩ := x; rw [e] at q; cases q
  | frz ob u ih => exact ih x.2
  | tbl ps => have q : h.get? a = some _ := x; rw [e] at q; cases q
  | met f y => have q : h.get? a = some _ := x; rw [e] at q; cases q
  | ext φ => obtain ⟨_, ⟨_, q⟩, _⟩ := x; rw [e] at q; cases q
structure Fly (h0 : Heap) (H : Hp) (h : Heap) (x : Addr) (cls : Value) (od : Option Addr) : Prop where
  free : H x = none
  new : h0.get? x = none
  obj : ∃ oe vs, h.get? x = some oe ∧ oe.cls = cls ∧ oe.dict = od ∧ oe.data = .fields vs ∧ (vs[1]? = some .none ∨ ∃ T oT ts, vs[1]? = some (.ref T) ∧ T ≠ x ∧ h.get? T = some oT ∧ oT.data = .fields ts ∧ 3 < ts.size ∧ H T = none ∧ h0.get? T = none)
theorem Fly.mono {h0 h1 : Heap} {H : Hp} {h : Heap} {x : Addr} {cls : Value} {od : Option Addr} (f : Fly h0 H h x cls od) (k : ∀ b, h0.get? b = none → h1.get? b = none) : Fly h1 H h x cls od :=
  ⟨f.free, k _ f.new, let ⟨oe, vs, a, b, c, d, e⟩ := f.obj; ⟨oe, vs, a, b, c, d, e.imp id fun ⟨T, oT, ts, q1, q2, q3, q4, q5, q6, q7⟩ => ⟨T, oT, ts, q1, q2, q3, q4, q5, q6, k _ q7⟩⟩⟩
def cxX (P : Program) (w : World) : CXT := fun outer H s E e s' => ∃ x cls od H', e = .ref x ∧ s'.os = s.os ∧ AllBare s'.gens ∧ Un (frs outer) [] H H' s.heap s'.heap ∧ HOk P w H' s'.heap ∧ Fly s.heap H' s'.heap x cls od ∧ E cls od H'
section
variable {X : Cx} {pins : List (Addr × Obj)} {σ σ₁ : St} {H H' H₁ : Hp} {s s₁ : Shared} {h' : Heap}
def refsOf : Value → List Addr
  | .ref T => [T]
  | _ => []
theorem none_of_there {h0 h1 : Heap} (k : ∀ b o, h0.get? b = some o → ∃ o', h1.get? b = some o') : ∀ b, h1.get? b = none → h0.get? b = none := fun b e => by
  cases q : h0.get? b with
  | none => rfl
  | some o =>
    obtain ⟨o', e'⟩ := k b o q
    rw [e] at e'; cases e'
theorem Inv.stepF {ch : List Addr} (I : Inv X pins σ H s) (hex : X.ex = [])
    (hch : ∀ b ∈ ch, X.s_0.heap.get? b = none ∧ b ≠ X.env.locals ∧ (∀ x c, X.env.cells.lookup x = some c → c ≠ b) ∧ ∀ p ∈ X.pn ++ pins, p.1 ≠ b)
    (u : Un (frs X.stack) ch H H s.heap h') (hok : HOk X.prog X.w H h') : Inv X pins σ H { s with heap := h' } := by
  obtain ⟨m, ⟨o0, es0, ep0, ho0, r0⟩, _⟩ := id I.loc
  obtain ⟨sl0, hL0⟩ := u.any ho0 I.free fun z => (hch _ z).2.1 rfl
  have keep : ∀ b o, b ≠ X.env.locals → b ∉ X.fs → b ∉ ch → s.heap.get? b = some o → H b = none → h'.get? b = some o := fun b o hL hb hc e n => u.keep b o e n (fun z => (List.mem_cons.mp (I.stkSub b z)).elim hL hb) hc
  have slot : ∀ b o, b ≠ X.env.locals → b ∈ X.fs → b ∉ ch → s.heap.get? b = some o → H b = none → ∃ sl, h'.get? b = some { o with slots := sl } := fun b o _ _ hc e n => u.any e n hc
  have ns : ∀ m, s.heap.Ns X.env.locals m → h'.Ns X.env.locals m := fun m' hm => by
    obtain ⟨o', es', ep', ho', r'⟩ := hm
    rw [ho0] at ho'; cases ho'
    exact ⟨_, es', ep', hL0, r'⟩
  have neL : ∀ b o, X.s_0.heap.get? b = some o → b ≠ X.env.locals := fun b o e => Nat.ne_of_lt (Nat.lt_of_lt_of_le (Heap.lt_size e) I.ok.above)
  have neC : ∀ b o, X.s_0.heap.get? b = some o → b ∉ ch := fun b o e hb => by
    rw [(hch b hb).1] at e; cases e
  have cellK : ∀ x c, X.env.cells.lookup x = some c → ∀ v, s.heap.IsCell c v → h'.IsCell c v := fun x c e v ⟨o, ho, hd⟩ => by
    have nch : c ∉ ch := fun z => (hch c z).2.2.1 x c e rfl
    by_cases hc : c ∈ X.fs
    · obtain ⟨sl, q⟩ := slot c o (I.cne x c e) hc nch ho (I.freeC x c e)
      exact ⟨_, q, hd⟩
    · exact ⟨o, keep c o (I.cne x c e) hc nch ho (I.freeC x c e), hd⟩
  refine ⟨I.ok, I.os, I.bare, ⟨fun b o e n hb hx => ?_, fun b o e n hb hx => ?_, fun b o e n hx => ?_, fun b o e hx => ?_, I.base.tups, I.base.frzs, I.base.tbls⟩, ?_, fun x c e => ?_, I.free, I.freeC, fun p hp => ?_, hok, I.len⟩
  · exact keep b o (neL b o e) hb (neC b o e) (I.base.keep b o e n hb hx) (I.base.free b o e n hx)
  · obtain ⟨sl, e1⟩ := I.base.slot b o e n hb hx
    obtain ⟨sl', e2⟩ := slot b _ (neL b o e) hb (neC b o e) e1 (I.base.free b o e n hx)
    exact ⟨sl', e2⟩
  · exact I.base.free b o e n hx
  · obtain ⟨o', e1⟩ := I.base.there b o e hx
    exact u.there b o' e1 (neC b o e)
  · obtain ⟨m, hn, hl⟩ := I.loc
    refine ⟨m, ns m hn, fun i x v e1 e2 e3 => ?_⟩
    obtain ⟨u, r, l⟩ := hl i x v e1 e2 e3
    refine ⟨u, r, ?_⟩
    rcases l with l | ⟨k, c, e, z⟩
    · exact .inl l
    · exact .inr ⟨k, c, e, cellK x c e _ z⟩
  · obtain ⟨v, z⟩ := I.cell x c e
    exact ⟨v, cellK x c e v z⟩
  · obtain ⟨e, n, ne, nf, d⟩ := I.pin p hp
    have nch : p.1 ∉ ch := fun z => (hch p.1 z).2.2.2 p hp rfl
    exact ⟨keep p.1 p.2 ne nf nch e n, n, ne, nf, d⟩
theorem Inv.apart (I₁ : Inv X pins σ₁ H₁ s₁) (hex : X.ex = []) {b : Addr} (e : s₁.heap.get? b = none) : X.s_0.heap.get? b = none ∧ b ≠ X.env.locals ∧ (∀ x c, X.env.cells.lookup x = some c → c ≠ b) ∧ ∀ p ∈ X.pn ++ pins, p.1 ≠ b := by
  refine ⟨none_of_there (fun b o q => I₁.base.there b o q (by rw [hex]; simp)) b e, fun z => ?_, fun x c hc z => ?_, fun p hp z => ?_⟩
  · obtain ⟨_, ⟨o, _, _, ho, _⟩, _⟩ := I₁.loc
    rw [z, ho] at e; cases e
  · obtain ⟨_, o, ho, _⟩ := I₁.cell x c hc
    rw [z, e] at ho; cases ho
  · have := (I₁.pin p hp).1
    rw [z, e] at this; cases this
theorem fly_noted {fs : List Addr} {x : Addr} {oe : Obj} {vs : Array Value} {old : Value} {od : Option Addr} {cls : Value} (hfs : ∀ b, b ∈ fs → b ∈ frs X.stack) (hex : X.ex = []) (I₁ : Inv X pins σ₁ H₁ s₁) (I : Inv X pins σ H s) (f : Fly s₁.heap H s.heap x cls od)
    (he : s.heap.get? x = some oe) (hd : oe.data = .fields vs) (ho : vs[1]? = some old) (N : Noted fs x oe old s.heap h') (ks : ∀ b o, s₁.heap.get? b = some o → ∃ o', s.heap.get? b = some o') :
    Inv X pins σ H { s with heap := h' } ∧ Fly s₁.heap H h' x cls od := by
  obtain ⟨ff, fn, oe', vs', he', hc, hdd, hd', tb⟩ := f
  rw [he] at he'; cases he'
  rw [hd] at hd'; cases hd'
  have hT : ∀ T, old = .ref T → H T = none ∧ s₁.heap.get? T = none := fun T e => by
    rcases tb with q | ⟨T', oT, ts, q, _, _, _, _, q6, q7⟩
    · rw [ho, e] at q; cases q
    · rw [ho, e] at q; cases q; exact ⟨q6, q7⟩
  have nx : ∀ b u, H b = some u → b ≠ x := fun b u e z => by rw [z, ff] at e; cases e
  have nT : ∀ b u, H b = some u → old ≠ .ref b := fun b u e z => by rw [(hT b z).1] at e; cases e
  have nf : ∀ b u, H b = some u → b ∉ fs := fun b u e z => by rw [I.stkFree b (hfs b z)] at e; cases e
  have hok : HOk X.prog X.w H h' := fun b u e => by
    refine (I.hok b u e).stay (fun c v hc q => ?_) (fun _ q => q) fun _ _ q => q
    have : ∃ u', H c = some u' := by
      rcases hc with rfl | z
      · exact ⟨_, e⟩
      · exact ⟨_, z⟩
    obtain ⟨u', e'⟩ := this
    exact N.keep c v (nx c u' e') (nT c u' e') (nf c u' e') q
  refine ⟨?_, ff, fn, ?_⟩
  · refine I.stepF (ch := x :: refsOf old) hex (fun b hb => ?_) ⟨fun b o e n hb hx => ?_, fun b o e n hb hx => ?_, fun b o e n hx => n, fun b o e hx => N.there b o e, fun _ _ e => e, fun _ _ _ e => e, fun b ps e => ⟨#[], by rw [e]; simp⟩⟩ hok
    · refine I₁.apart hex ?_
      rcases List.mem_cons.mp hb with rfl | hb
      · exact fn
      · cases old with
        | ref T =>
          have : b = T := by simpa [refsOf] using hb
          subst this
          exact (hT b rfl).2
        | _ => simp [refsOf] at hb
    · refine N.keep b o (fun z => hx (by simp [z])) (fun z => hx ?_) (fun z => hb (hfs b z)) e
      rw [z]; simp [refsOf]
    · refine N.slot b o (fun z => hx (by simp [z])) (fun z => hx ?_) e
      rw [z]; simp [refsOf]
  · obtain ⟨oe', vs', T, oT, ts, q1, q2, q3, q4, q5, q6, q7, q8, q9, q10⟩ := N.obj
    refine ⟨oe', vs', q1, q2.trans hc, q3.trans hdd, q4, .inr ⟨T, oT, ts, q5, q6, q7, q8, q9, ?_⟩⟩
    rcases q10 with q | q
    · refine ⟨?_, none_of_there ks _ q⟩
      cases z : H T with
      | none => rfl
      | some u =>
        exact (ObjOk.gone (I.hok T u z) q).elim
    · exact hT T q
def Thr (X : Cx) (E : XK) : Prop := ∀ (pins : List (Addr × Obj)) (σ₁ : St) (H₁ : Hp) (s₁ : Shared) (σ : St) (H : Hp) (s : Shared) (x : Addr) (cls : Value) (od : Option Addr), Inv X pins σ₁ H₁ s₁ → Inv X pins σ H s →
  (∀ b o, s₁.heap.get? b = some o → ∃ o', s.heap.get? b = some o') → Fly s₁.heap H s.heap x cls od → E cls od H → X.xe (.ref x) s
theorem Thr.pass {E : XK} (h : Thr X E) : Passes (cxX X.prog X.w) X E := fun pins σ H s e s' I ⟨x, cls, od, H', e1, os, bare, un, hok, f, hE⟩ => by
  subst e1
  exact h pins σ H s σ H' s' x cls od I (I.call' os un hok bare (ch := []) fun b z => absurd z (by simp)) (fun b o q => un.there b o q (by simp)) f hE
theorem fly_note {x : Addr} {cls : Value} {od : Option Addr} {Q : Unit → Shared → Prop} {E' : Value → Shared → Prop} (hst : X.stack = X.env :: X.outer) (hfr : X.env.frame = some X.env.locals) (hex : X.ex = []) (I₁ : Inv X pins σ₁ H₁ s₁) (I : Inv X pins σ H s)
    (ks : ∀ b o, s₁.heap.get? b = some o → ∃ o', s.heap.get? b = some o') (f : Fly s₁.heap H s.heap x cls od) (h : ∀ h', Inv X pins σ H { s with heap := h' } → Fly s₁.heap H h' x cls od → (∀ b o, s₁.heap.get? b = some o → ∃ o', h'.get? b = some o') → Q () { s with heap := h' }) :
    wpAny (model X.prog X.w) X.A (noteFrame (.ref x) X.env) (fun _ s' => wpAny (model X.prog X.w) X.A (setFlight (.ref x) none) Q E' s') E' s := by
  obtain ⟨oe, vs, he, hc, hdd, hd, tb⟩ := id f.obj
  have hF : s.heap.FunFrames X.base (X.env :: X.outer) := by rw [← hst]; exact I.stack
  refine noteX (I.ok.frames.trans (congrArg some hst)) hF hfr he hd (tb.imp id fun ⟨T, oT, ts, q1, q2, q3, q4, q5, _⟩ => ⟨T, oT, ts, q1, q2, q3, q4, q5⟩) fun h' old ho N => ?_
  obtain ⟨I', f'⟩ := fly_noted (fun b hb => by rw [hst]; exact hb) hex I₁ I f he hd ho N ks
  exact h h' I' f' fun b o q => let ⟨o', q'⟩ := ks b o q; N.there b o' q'
end
section
variable {P : Program} {w : World} {K : PySem.W.Frag} {mg : Str → Option Value} {base : Heap} {N : List Str} {qual : Str} {scope : Scope} {f : Addr} {cd : Value} {A : Around} {outer : List Env} {s0 : Shared} {H0 : Hp} {E : XK}
theorem thr_cx : Thr (cxOf (cxX P w) P w K mg base N qual scope f cd A outer s0 H0 E) E := fun pins σ₁ H₁ s₁ σ H s x cls od I₁ I ks fl hE => by
  show wpAny _ _ (leaving _ _) _ _ s
  unfold leaving
  refine wpAny_bind (fly_note rfl rfl rfl I₁ I ks fl fun h' I' fl' _ => ⟨x, cls, od, H, rfl, I'.os, I'.bare, I'.base, I'.hok, fl'.mono ?_, hE⟩)
  exact none_of_there fun b o q => I₁.base.there b o q (by intro z; exact absurd (show b ∈ ([] : List Addr) from z) (by simp))
theorem pass_cx : Passes (cxX P w) (cxOf (cxX P w) P w K mg base N qual scope f cd A outer s0 H0 E) E := Thr.pass (X := cxOf (cxX P w) P w K mg base N qual scope f cd A outer s0 H0 E) thr_cx
theorem own_cx : PassesOwn (model P w) (cxOf (cxX P w) P w K mg base N qual scope f cd A outer s0 H0 E).A (cxOf (cxX P w) P w K mg base N qual scope f cd A outer s0 H0 E).env (cxOf (cxX P w) P w K mg base N qual scope f cd A outer s0 H0 E).xe := PassesOwn.leaving
theorem Fun.okX {x qual : Str} {st : Stmt} {f : Addr} {fd : FuncData} {N ps : List Str} {k : Nat} {sp : Sp} (F : Fun K x qual st f fd) (S : FnScope N ps (defScope st)) (len : ∀ vs H Q E, sp vs H Q E → vs.length = ps.length)
    (hbody : ∀ (cdv : Value) (A : Around) (outer : List Env) (s : Shared) (H : Hp) (vs : List V) (Q : VK) (E : XK), Room k (A.deeper (envOfC qual (defScope st) s.heap.objs.size f cdv)) → sp vs H Q E →
      ∃ t, PSs (cxOf (cxX P w) P w K mg base N qual (defScope st) f cdv A outer s H E) (defBody st) t ∧ t { nx := fun _ H' => Q .non H', rt := Q } (start N vs) H) : FnOk P w K mg base (cxX P w) (k + 1) f fd ps sp := by
  obtain ⟨oc, od, kV, doc, pm, an, cdv, ct, osl, rfl, lk, hcd⟩ := F.ex
  exact fn_of lk hcd S len fun A outer s H vs Q E hr hsp => hbody cdv A outer s H vs Q E hr hsp
end
structure XCls (K : PySem.W.Frag) (C : Addr) : Prop where
  exc : PySem.W.excIn K C [.type "Exception", .type "BaseException", .type "object"] "Exception.__new__" = true
theorem exc_obj {K : PySem.W.Frag} {h : Heap} {C : Addr} {bmB : List Value} {newId : String} (X : K.In h) (q : PySem.W.excIn K C bmB newId = true) :
    ∃ bm N nm qn bs hdct sn sub ab col dd k0 k1 k2 k3 k5 mN, h.get? C = some (excClassObj nm qn C N bs bm hdct sn sub ab col dd k0 k1 k2 k3 k5 newId) ∧ h.Ns N mN ∧ mN "__init__" = none ∧ OwnTail h bmB bm := by
  unfold PySem.W.excIn at q
  split at q
  · rename_i dd cd sl ho
    split at q
    · rename_i C' bm k0 k1 k2 k3 n k5 hm hs
      simp only [Bool.and_eq_true, beq_iff_eq, Bool.not_eq_true'] at q
      obtain ⟨⟨⟨⟨⟨rfl, rfl⟩, hdel⟩, ht⟩, hok⟩, hni⟩ := q
      obtain ⟨nm, bs, mro, ns, qn, hd, sn, sub, ab, col, del⟩ := cd
      dsimp only at hm hdel hok hni
      subst hm hdel
      have hsl : sl = #[k0, k1, k2, k3, some (.builtin n), k5] := by
        obtain ⟨l⟩ := sl
        simp only at hs
        rw [hs]
      subst hsl
      exact ⟨bm, ns, nm, qn, bs, hd, sn, sub, ab, col, dd, k0, k1, k2, k3, k5, _, X _ _ ho, .of_isNs (PySem.W.isNs_of_in X hok), PySem.W.nsMap_none_of_in X hok hni, PySem.W.tail_of_in X ht⟩
    · cases q
  · cases q
section
variable {X : Cx} {E : XK} {c : Str} {C : Addr} {np cpos pos : Pos}
def tRaise0 (C : Addr) (E : XK) : TS := fun _ _ H => E (.ref C) none H
theorem ps_raise0 (ht : Thr X E) (hc : X.calm = true) (hg : Gl X c) (hm : X.mg c = some (.ref C)) (x : XCls X.K C) (hd : (c == ("__debug__" : Str)) = false := by decide) :
    PS X (.Raise (some (.Call (.Name c np) [] [] cpos)) none pos) (tRaise0 C E) := by
  intro pins s σ H D I hq
  obtain ⟨bm, Na, nm, qn, bs, hdct, sn, sub, ab, col, dd, k0, k1, k2, k3, k5, mN, hC, hN, hni, T⟩ := exc_obj I.kIn x.exc
  refine wpAny_Raise_call_subT (C := C) (nm := nm) (q := qn) (N := Na) (bs := bs) (bm := bm) (hdct := hdct) (sn := sn) (sub := sub) (ab := ab) (col := col) (dd := dd) (k0 := k0) (k1 := k1) (k2 := k2) (k3 := k3) (k5 := k5)
    PySem.F.excBase_Exception (mN := mN) (T.hasType PySem.F.excBase_Exception.hasBase) (I.ok.hd hc) rfl hni (ld_glob I hg hm ⟨rfl, ?_⟩ hd)
  refine evalArgs_empty ⟨rfl, Nat.zero_le _, hC, hN, T, fun h' e m => ?_⟩
  refine ht pins σ H s σ H _ e (.ref C) none I (I.kept (t' := s.toks) m.keeps) (fun b o q => ⟨o, m.keeps b o q⟩) ⟨?_, m.new, ?_⟩ hq
  · cases z : H e with
    | none => rfl
    | some u => exact (ObjOk.gone (I.hok e u z) m.new).elim
  · obtain ⟨t, h1, _, _⟩ := m.there
    exact ⟨_, _, h1, rfl, rfl, rfl, .inl rfl⟩
end
end L2
set_option maxHeartbeats 2000000
namespace L2
open PySem PySem.Spec PyProof.Rows
open PySem.Builtin PySem.Builtin.ObjectAttr
section
variable {P : Program} {w : World} {A : Around} {E : Value → Shared → Prop} {hp : Heap} {gs : Array GenState} {dr : Drawn} {tk : Nat} {os : OsState}
variable {cn cq : Str} {C Nc x : Addr} {cb bmr : List Value} {csn : List Str} {csub : List Value} {cab : Bool} {ccol : Option Bool} {cdd : Option Addr} {p0 p1 p2 p3 p5 : Option Value} {B idn ids own : String}
  {mC mA : Str → Option Value} {name : Str} {v : Value}
theorem xstore_entry {tn : Tok} {Q : Fin → Shared → Prop} {nms : List Str} {ob : Obj} (SF : StoreFacts B bmr ids own)
    (hC : hp.get? C = some (excClassObj cn cq C Nc cb bmr true csn csub cab ccol cdd p0 p1 p2 p3 p5 idn)) (hN : hp.Ns Nc mC) (hno : mC name = none) (hB : typeLookup (.type B) name = pure none)
    (hx : hp.get? x = some ob) (hcl : ob.cls = .ref C) (hdat : ∃ vs, ob.data = .fields vs) (hdi : (ob.dict = none ∧ mA = fun _ => none) ∨ ∃ dx, ob.dict = some dx ∧ dx ≠ x ∧ hp.Ns1 dx mA)
    (hw : Within mA nms) (hsz : nms.length ≤ sizeLine)
    (hq : ∀ h2 t2 dx, (ob.dict = some dx ∨ (ob.dict = none ∧ dx = hp.objs.size)) → dx ≠ x → h2.Ns1 dx (fun y => if y = name then some v else mA y) → h2.get? x = some { ob with dict := some dx } → (∀ b u, b ≠ x → b ≠ dx → hp.get? b = some u → h2.get? b = some u) → Q (.done (.ret .none)) ⟨h2, gs, dr, t2, os⟩) :
    wpAny (model P w) A (Builtin.«object.__setattr__» ⟨[.ref x, .str name tn, v], []⟩) Q E ⟨hp, gs, dr, tk, os⟩ := by
  have hps := SF.passes (.ref x)
  obtain ⟨vs, hvs⟩ := hdat
  unfold Builtin.«object.__setattr__»
  repeat (first
    | rw [refuse_eq]
    | (rw [refuseLoop_ref, hps])
    | (with_reducible refine wpAny_loadPart_at hx ?_; rw [hcl])
    | with_reducible refine wpAny_mroOf_exc hC ?_
    | (with_reducible refine wpAny_typeLookup_exc hC hN SF.mro hB ?_; rw [hno])
    | wp_step)
  rcases hdi with ⟨e0, rfl⟩ | ⟨dx, e0, hne, hns⟩
  · rw [e0, if_neg (by simp [typeHasDict])]
    split
    · rename_i z
      cases z
    · split
      · rename_i c z
        rw [hvs] at z
        cases z
      · have hx1 : (hp.push { cls := .type "dict", data := .dict #[] }).get? x = some ob := Heap.get?_push_of_some _ hx
        have hxs : x ≠ hp.objs.size := Nat.ne_of_lt (Heap.lt_size hx)
        refine wpAny_bind (wpAny_alloc' (wpAny_bind (wpAny_update' hx1 (wpAny_pure ?_))))
        have g1 : ((hp.push { cls := .type "dict", data := .dict #[] }).update x fun u => { cls := u.cls, dict := some hp.objs.size, data := u.data, slots := u.slots }).get? hp.objs.size = some { cls := .type "dict", data := .dict #[] } :=
          (Heap.get?_update_ne _ _ _ _ hxs.symm).trans (Heap.get?_push_at rfl rfl)
        have g2 : ((hp.push { cls := .type "dict", data := .dict #[] }).update x fun u => { cls := u.cls, dict := some hp.objs.size, data := u.data, slots := u.slots }).Ns hp.objs.size (fun _ => none) :=
          ⟨_, #[], _, g1, rfl, (fun q hq' => absurd hq' (by simp)), fun _ => rfl⟩
        show wpAny _ _ (storeInDict hp.objs.size (.str name tn) name v) _ _ _
        unfold storeInDict newKeyGuard
        refine wpAny_bind (wpAny_pure (wpAny_bind (wpAny_nsSet1 (Heap.Ns1.of_empty g2) fun h2 n2 s2 => ?_)))
        obtain ⟨oD, eD, pD, q1, q2, q3⟩ := n2.count (Within.cons name v Within.nil)
        refine wpAny_bind (wpAny_lookBehind q1 (by rw [q2]; exact pastItsLine_dict (Nat.le_trans q3 (by rw [List.length_cons, List.length_nil, sizeLine_eq]; omega))) ?_)
        wp_walk
        refine hq h2 _ hp.objs.size (.inr ⟨e0, rfl⟩) (Ne.symm hxs) n2 ?_ fun b u hb hd z => (s2.2 b hd).trans ((Heap.get?_update_ne _ _ _ _ hb).trans (Heap.get?_push_of_some _ z))
        refine (s2.2 x hxs).trans (Heap.get?_update_self _ hx1 ?_)
        obtain ⟨oc, od, odt, osl⟩ := ob
        cases hvs
        rfl
  · rw [e0]
    refine wpAny_pure ?_
    show wpAny _ _ (storeInDict dx (.str name tn) name v) _ _ _
    unfold storeInDict newKeyGuard
    refine wpAny_bind (wpAny_pure (wpAny_bind (wpAny_nsSet1 hns fun h2 n2 s2 => ?_)))
    obtain ⟨oD, eD, pD, q1, q2, q3⟩ := n2.count (Within.cons name v hw)
    refine wpAny_bind (wpAny_lookBehind q1 (by rw [q2]; exact pastItsLine_dict (Nat.le_trans q3 (by rw [List.length_cons]; omega))) ?_)
    wp_walk
    refine hq h2 _ dx (.inl e0) hne n2 ?_ fun b u hb hd z => (s2.2 b hd).trans z
    rw [(s2.2 x hne.symm).trans hx]
    obtain ⟨oc, od, odt, osl⟩ := ob
    cases (show od = some dx from e0)
    rfl
theorem xstore {Q : Unit → Shared → Prop} {nms : List Str} {ob : Obj} (SF : StoreFacts B bmr ids own)
    (hC : hp.get? C = some (excClassObj cn cq C Nc cb bmr true csn csub cab ccol cdd p0 p1 p2 p3 p5 idn)) (hN : hp.Ns Nc mC) (hns : mC "__setattr__" = none) (hno : mC name = none) (hB : typeLookup (.type B) name = pure none)
    (hx : hp.get? x = some ob) (hcl : ob.cls = .ref C) (hdat : ∃ vs, ob.data = .fields vs) (hdi : (ob.dict = none ∧ mA = fun _ => none) ∨ ∃ dx, ob.dict = some dx ∧ dx ≠ x ∧ hp.Ns1 dx mA)
    (hw : Within mA nms) (hsz : nms.length ≤ sizeLine)
    (hq : ∀ h2 t2 dx, (ob.dict = some dx ∨ (ob.dict = none ∧ dx = hp.objs.size)) → dx ≠ x → h2.Ns1 dx (fun y => if y = name then some v else mA y) → h2.get? x = some { ob with dict := some dx } → (∀ b u, b ≠ x → b ≠ dx → hp.get? b = some u → h2.get? b = some u) → Q () ⟨h2, gs, dr, t2, os⟩) :
    wpAny (model P w) A (setAttr (.ref x) name v) Q E ⟨hp, gs, dr, tk, os⟩ := by
  have sb := SF.slot.bind (.ref x)
  unfold setAttr callSpecial? specialOf
  repeat (any_goals (first
    | assumption
    | (with_reducible refine wpAny_loadPart_at hx ?_; rw [hcl])
    | (with_reducible refine wpAny_typeLookup_exc hC hN SF.mro SF.slot.lookup ?_; rw [hns])
    | wp_step))
  refine codeAny_call_builtin SF.slot.plain SF.entry (wpAny_check_sa SF hC hx hcl (xstore_entry SF hC hN hno hB hx hcl hdat hdi hw hsz fun h2 t2 dx e1 e2 e3 e4 e5 => ?_))
  repeat (any_goals (first | assumption | wp_step))
  exact hq h2 t2 dx e1 e2 e3 e4 e5
end
end L2
set_option maxHeartbeats 2000000
namespace L2
open PySem PySem.Spec PyProof.Rows
open PySem.Builtin PySem.Builtin.ObjectAttr
section
variable {P : Program} {w : World} {A : Around} {E : Value → Shared → Prop} {hp : Heap} {gs : Array GenState} {dr : Drawn} {tk : Nat} {os : OsState}
variable {cn cq : Str} {C Nc x dx : Addr} {cb bmr : List Value} {csn : List Str} {csub : List Value} {cab : Bool} {ccol : Option Bool} {cdd : Option Addr} {p0 p1 p2 p3 p5 : Option Value} {B idn : String}
  {mC mA : Str → Option Value} {name : Str} {v : Value} {ob : Obj} {vs : Array Value}
theorem xload_entry {tn : Tok} {Q : Fin → Shared → Prop} (FB : ExcAttrBase B bmr)
    (hC : hp.get? C = some (excClassObj cn cq C Nc cb bmr true csn csub cab ccol cdd p0 p1 p2 p3 p5 idn)) (hN : hp.Ns Nc mC) (hno : mC name = none) (hB : typeLookup (.type B) name = pure none)
    (hx : hp.get? x = some ob) (hcl : ob.cls = .ref C) (hdat : ob.data = .fields vs) (hdi : ob.dict = some dx) (hns : hp.Ns1 dx mA) (hv : mA name = some v) (hq : Q (.done (.ret v)) ⟨hp, gs, dr, tk, os⟩) :
    wpAny (model P w) A (Builtin.«object.__getattribute__» ⟨[.ref x, .str name tn], []⟩) Q E ⟨hp, gs, dr, tk, os⟩ := by
  unfold Builtin.«object.__getattribute__»
  repeat (first
    | (with_reducible refine wpAny_loadPart_at hx ?_; rw [hcl])
    | (with_reducible refine wpAny_typeLookup_exc hC hN FB.mro hB ?_; rw [hno])
    | wp_step)
  split
  · rename_i c z
    rw [hdat] at z
    cases z
  · unfold instanceDict
    repeat (first
      | (with_reducible refine wpAny_loadPart_at hx ?_; rw [hcl])
      | with_reducible refine wpAny_loadPart_at hC ?_
      | wp_step)
    rw [hdi]
    repeat (first
      | (with_reducible refine wpAny_nsGet hns.ns ?_; rw [hv])
      | wp_step)
    exact hq
theorem xload {expr : Bool} {Q : Value → Shared → Prop} (FB : ExcAttrBase B bmr)
    (hC : hp.get? C = some (excClassObj cn cq C Nc cb bmr true csn csub cab ccol cdd p0 p1 p2 p3 p5 idn)) (hN : hp.Ns Nc mC) (hg1 : mC "__getattribute__" = none) (hg2 : mC "__getattr__" = none) (hno : mC name = none) (hB : typeLookup (.type B) name = pure none)
    (hx : hp.get? x = some ob) (hcl : ob.cls = .ref C) (hdat : ob.data = .fields vs) (hdi : ob.dict = some dx) (hns : hp.Ns1 dx mA) (hv : mA name = some v) (hh : handedOut v = pure v) (hq : Q v ⟨hp, gs, dr, tk + 1, os⟩) :
    wpAny (model P w) A (getAttr (.ref x) name expr) Q E ⟨hp, gs, dr, tk, os⟩ := by
  have f3 := FB.ga.bind (.ref x)
  have hx0 : (expr && onTheHeap (Value.builtin "BaseException.__getattribute__")) = false := by cases expr <;> rfl
  have hx2 : (Value.builtin "BaseException.__getattribute__" == Value.builtin "object.__getattribute__") = false := by decide +kernel
  have hx1 : (onTheHeap (Value.ref C) && Value.builtin "BaseException.__getattribute__" == Value.builtin "object.__getattribute__") = false := by rw [hx2]; rfl
  unfold getAttr
  repeat (any_goals (first
    | assumption
    | (with_reducible refine wpAny_loadPart_at hx ?_; rw [hcl])
    | (with_reducible refine wpAny_typeLookup_exc hC hN FB.mro FB.ga.lookup ?_; rw [hg1])
    | (with_reducible refine wpAny_typeLookup_exc hC hN FB.mro FB.noGetattr ?_; rw [hg2])
    | wp_step))
  refine codeAny_call_builtin FB.ga.plain F.entry_bexc_ga (wpAny_check_ga_own FB hC .base hx hcl ?_)
  refine xload_entry FB hC hN hno hB hx hcl hdat hdi hns hv ?_
  repeat (any_goals (first | assumption | wp_step))
end
abbrev bmX : List Value := [.type "Exception", .type "BaseException", .type "object"]
theorem nsIn_some {K : PySem.W.Frag} {h : Heap} {N : Addr} {m : Str → Option Value} {n : Str} {v : Value} (X : K.In h) (G : h.Ns N m) (e : PySem.W.nsIn K N n = some (some v)) : m n = some v := by
  obtain ⟨o, es, ep, ho, hd, _, hf⟩ := G
  unfold PySem.W.nsIn at e
  split at e
  · rename_i q
    have z := X _ _ q
    rw [ho] at z
    cases z
    cases hd
    split at e
    · rename_i y he
      rw [← hf]
      unfold nsFind findBy
      rw [← Array.find?_toList, he]
      simpa using e
    · split at e <;> simp at e
  · cases e
def xInit (K : PySem.W.Frag) (C fI : Addr) (names : List Str) : Bool := match K.lookup C with
  | some ⟨.type "type", _, .cls cd, sl⟩ => (match cd.mro, sl.toList with
    | .ref C' :: bm, [_, _, _, _, some (.builtin n), _] => C' == C && n == "Exception.__new__" && !cd.hasDel && cd.hasDict && bm == bmX && PySem.W.nsOkIn K cd.ns && PySem.W.nsIn K cd.ns "__init__" == some (some (.ref fI)) && names.all fun x => PySem.W.nsIn K cd.ns x == some none
    | _, _ => false)
  | _ => false
def XAt (h : Heap) (C fI : Addr) (names : List Str) : Prop := ∃ cn cq Nc cb csn csub cab ccol cdd p0 p1 p2 p3 p5 mC, h.get? C = some (excClassObj cn cq C Nc cb bmX true csn csub cab ccol cdd p0 p1 p2 p3 p5 "Exception.__new__") ∧ h.Ns Nc mC ∧ mC "__init__" = some (.ref fI) ∧ ∀ n ∈ names, mC n = none
theorem xInit_at {K : PySem.W.Frag} {h : Heap} {C fI : Addr} {names : List Str} (X : K.In h) (q : xInit K C fI names = true) : XAt h C fI names := by
  unfold xInit at q
  split at q
  · rename_i dd cd sl ho
    split at q
    · rename_i C' bm k0 k1 k2 k3 n k5 hm hs
      simp only [Bool.and_eq_true, beq_iff_eq, Bool.not_eq_true', List.all_eq_true] at q
      obtain ⟨⟨⟨⟨⟨⟨⟨rfl, rfl⟩, hdel⟩, hdi⟩, rfl⟩, hok⟩, hin⟩, hno⟩ := q
      obtain ⟨nm, bs, mro, ns, qn, hd, sn, sub, ab, col, del⟩ := cd
      dsimp only at hm hdel hok hin hno hdi
      subst hm hdel hdi
      have hsl : sl = #[k0, k1, k2, k3, some (.builtin "Exception.__new__"), k5] := by
        obtain ⟨l⟩ := sl
        simp only at hs
        rw [hs]
      subst hsl
      have G : h.Ns ns (h.nsMap ns) := .of_isNs (PySem.W.isNs_of_in X hok)
      exact ⟨nm, qn, ns, bs, sn, sub, ab, col, dd, k0, k1, k2, k3, k5, _, X _ _ ho, G, nsIn_some X G hin, fun m hm => PySem.W.nsMap_none_of_in X hok (hno m hm)⟩
    · cases q
  · cases q
end L2
set_option maxHeartbeats 2000000
namespace L2
open PySem PySem.Spec PyProof.Rows
def xoO (x C : Addr) (od : Option Addr) : HO := .ext fun h => ∃ vs, h.get? x = some ⟨.ref C, od, .fields vs, #[]⟩ ∧ vs[1]? = some .none
def xdO (d : Addr) (fs : List (Str × V)) : HO := .ext fun h => ∃ mA, h.Ns1 d mA ∧ (∀ f, RelO (fs.lookup f) (mA f)) ∧ PySem.Within mA (fs.map (·.1))
theorem xoO_ok {P : Program} {w : World} {H : Hp} {h : Heap} {x C : Addr} {od : Option Addr} {vs : Array Value} (e : h.get? x = some ⟨.ref C, od, .fields vs, #[]⟩) (h1 : vs[1]? = some .none) : ObjOk P w H h x (xoO x C od) :=
  ⟨⟨vs, e, h1⟩, ⟨_, e⟩, fun _ _ ⟨ws, q, q1⟩ k => ⟨ws, k _ q, q1⟩⟩
theorem xdO_ok {P : Program} {w : World} {H : Hp} {h : Heap} {d : Addr} {fs : List (Str × V)} {mA : Str → Option Value} (n : h.Ns1 d mA) (r : ∀ f, RelO (fs.lookup f) (mA f)) (wi : PySem.Within mA (fs.map (·.1))) : ObjOk P w H h d (xdO d fs) := by
  refine ⟨⟨mA, n, r, wi⟩, let ⟨o, _, _, e, _⟩ := n; ⟨o, e⟩, fun h1 h2 ⟨mB, n', r', w'⟩ k => ⟨mB, ?_, r', w'⟩⟩
  obtain ⟨o, es, ep, e, z⟩ := n'
  exact ⟨o, es, ep, k o e, z⟩
def del (H : Hp) (a : Addr) : Hp := fun b => if b = a then none else H b
theorem del_same {H : Hp} {a : Addr} : del H a a = none := if_pos rfl
theorem del_ne {H : Hp} {a b : Addr} (h : b ≠ a) : del H a b = H b := if_neg h
section
variable {X : Cx} {pins : List (Addr × Obj)} {σ : St} {H : Hp} {s : Shared} {a C : Addr}
theorem Inv.forget {o : HO} (I : Inv X pins σ H s) (e : H a = some o) (hm : (∀ xs, o ≠ .tup xs) ∧ (∀ b u, o ≠ .frz b u) ∧ (∀ ps, o ≠ .tbl ps) ∧ ∀ y, o ≠ .own y) : Inv X pins σ (del H a) s := by
  have ne : ∀ b, H b = none → del H a b = none := fun b q => by
    by_cases z : b = a
    · rw [z]; exact del_same
    · rw [del_ne z]; exact q
  have kp : ∀ b u, H b = some u → b ≠ a → del H a b = some u := fun b u q z => by rw [del_ne z]; exact q
  have nt : ∀ b xs, H b = some (.tup xs) → b ≠ a := fun b xs q z => by rw [z, e] at q; exact hm.1 xs (Option.some.inj q)
  have nf : ∀ b o' u, H b = some (.frz o' u) → b ≠ a := fun b o' u q z => by rw [z, e] at q; exact hm.2.1 o' u (Option.some.inj q)
  have nb : ∀ b ps, H b = some (.tbl ps) → b ≠ a := fun b ps q z => by rw [z, e] at q; exact hm.2.2.1 ps (Option.some.inj q)
  have no : ∀ b y, H b = some (.own y) → b ≠ a := fun b y q z => by rw [z, e] at q; exact hm.2.2.2 y (Option.some.inj q)
  refine ⟨I.ok, I.os, I.bare, ⟨fun b o' q n hb hx => I.base.keep b o' q n hb hx, fun b o' q n hb hx => I.base.slot b o' q n hb hx, fun b o' q n hx => ne b (I.base.free b o' q n hx), I.base.there, fun b xs q => kp b _ (I.base.tups b xs q) (nt b xs (I.base.tups b xs q)),
    fun b o' u q => kp b _ (I.base.frzs b o' u q) (nf b o' u (I.base.frzs b o' u q)), fun b ps q => let ⟨m, z⟩ := I.base.tbls b ps q; ⟨m, kp b _ z (nb b _ z)⟩⟩, I.loc, I.cell, ne _ I.free, fun x c q => ne _ (I.freeC x c q), fun p hp => let ⟨q1, q2, q3⟩ := I.pin p hp; ⟨q1, ne _ q2, q3⟩, fun b u q => ?_, I.len⟩
  by_cases z : b = a
  · rw [z, del_same] at q; cases q
  · rw [del_ne z] at q
    exact (I.hok b u q).stay (fun _ _ _ q' => q') (fun c q' => kp c _ q' (no c b q')) fun c xs q' => kp c _ q' (nt c xs q')
structure XIni (K : PySem.W.Frag) (C fI : Addr) (names : List Str) : Prop where
  ini : xInit K C fI names = true
  sa : ("__setattr__" : Str) ∈ names
  ga : ("__getattribute__" : Str) ∈ names
  gt : ("__getattr__" : Str) ∈ names
  fn : PySem.W.isFn K (.ref fI) = true
theorem setattr_x {A : Around} {E : Value → Shared → Prop} {fI : Addr} {names : List Str} {od : Option Addr} {fs : List (Str × V)} {f : Str} {y : V} {u : Value} {Q : Unit → Shared → Prop} (I : Inv X pins σ H s) (e : H a = some (xoO a C od))
    (hd : (od = none ∧ fs = []) ∨ ∃ d, od = some d ∧ d ≠ a ∧ H d = some (xdO d fs)) (c : XIni X.K C fI names) (hf : f ∈ names) (hB : typeLookup (.type "Exception") f = pure none) (hl : fs.length < 1000) (ry : RelV y u)
    (h : ∀ s' d, ((od = none ∧ H d = none) ∨ od = some d) → d ≠ a → Inv X pins σ (upd (upd H d (xdO d (putF f y fs))) a (xoO a C (some d))) s' → Q () s') : wpAny (model X.prog X.w) A (setAttr (.ref a) f u) Q E s := by
  obtain ⟨cn, cq, Nc, cb, csn, csub, cab, ccol, cdd, p0, p1, p2, p3, p5, mC, hC, hN, _, hno⟩ := xInit_at I.kIn c.ini
  obtain ⟨⟨vs, hx, hv1⟩, _, _⟩ := (show ObjOk X.prog X.w H s.heap a (xoO a C od) from I.hok a _ e)
  obtain ⟨mA, hdi, hr, hwi⟩ : ∃ mA : Str → Option Value, ((od = none ∧ mA = fun _ => none) ∨ ∃ dx, od = some dx ∧ dx ≠ a ∧ s.heap.Ns1 dx mA) ∧ (∀ g, RelO (fs.lookup g) (mA g)) ∧ PySem.Within mA (fs.map (·.1)) := by
    rcases hd with ⟨z1, z2⟩ | ⟨d, z1, z2, z3⟩
    · subst z2
      exact ⟨fun _ => none, .inl ⟨z1, rfl⟩, fun _ => True.intro, fun g hg => absurd rfl hg⟩
    · obtain ⟨⟨mA, n, r, wi⟩, _, _⟩ := (show ObjOk X.prog X.w H s.heap d (xdO d fs) from I.hok d _ z3)
      exact ⟨mA, .inr ⟨d, z1, z2, n⟩, r, wi⟩
  obtain ⟨hh, gg, dd, tt, oo⟩ := s
  refine xstore (nms := fs.map (·.1)) PySem.F.store_Exception hC hN (hno _ c.sa) (hno _ hf) hB hx rfl ⟨vs, rfl⟩ hdi hwi (by rw [List.length_map, sizeLine_eq]; omega) fun h2 t2 dx e1 e2 e3 e4 e5 => ?_
  have e1' : (od = none ∧ H dx = none) ∨ od = some dx := by
    rcases e1 with z | ⟨z, z2⟩
    · exact .inr z
    · refine .inl ⟨z, I.hok.fresh ?_⟩
      rw [z2]; exact Nat.le_refl _
  refine h _ dx e1' e2 ?_
  have dOk : ∀ H' : Hp, ObjOk X.prog X.w H' h2 dx (xdO dx (putF f y fs)) := fun H' => by
    refine xdO_ok e3 (fun g => ?_) fun g hg => ?_
    · rw [lookup_putF]
      by_cases q : g = f
      · rw [if_pos q, if_pos q]; exact ry
      · rw [if_neg q, if_neg q]; exact hr g
    · by_cases q : g = f
      · rw [q]; exact (keys_putF f y fs).1
      · refine (keys_putF f y fs).2 g (hwi g fun z => hg ?_)
        show (if g = f then some u else mA g) = none
        rw [if_neg q]; exact z
  have aOk : ∀ H' : Hp, ObjOk X.prog X.w H' h2 a (xoO a C (some dx)) := fun H' => xoO_ok (vs := vs) e4 hv1
  have tr : ∀ b q, H b = some q → b ≠ a → b ≠ dx → ObjOk X.prog X.w (upd (upd H dx (xdO dx (putF f y fs))) a (xoO a C (some dx))) h2 b q := fun b q z za zd => by
    have dT : ∀ xs, H dx ≠ some (.tup xs) := fun xs w => by
      rcases e1' with ⟨_, k⟩ | k
      · rw [k] at w; cases w
      · rcases hd with ⟨k2, _⟩ | ⟨d, k2, _, k3⟩
        · rw [k] at k2; cases k2
        · rw [k] at k2; cases k2; rw [k3] at w; cases w
    have dO : ∀ y', H dx ≠ some (.own y') := fun y' w => by
      rcases e1' with ⟨_, k⟩ | k
      · rw [k] at w; cases w
      · rcases hd with ⟨k2, _⟩ | ⟨d, k2, _, k3⟩
        · rw [k] at k2; cases k2
        · rw [k] at k2; cases k2; rw [k3] at w; cases w
    have nA : ∀ c' q', H c' = some q' → (∀ ψ, q' ≠ .ext ψ) → c' ≠ a := fun c' q' w k z' => by
      rw [z', e] at w
      exact k _ (Option.some.inj w).symm
    refine (I.hok b q z).stay (fun c' v' hc' q' => e5 c' v' ?_ ?_ q') (fun c' w => ?_) fun c' xs w => ?_
    · rcases hc' with k | k
      · rw [k]; exact za
      · exact nA c' _ k (by intro ψ w; cases w)
    · rcases hc' with k | k
      · rw [k]; exact zd
      · intro w; rw [w] at k; exact dO _ k
    · rw [upd_ne (nA c' _ w (by intro ψ k; cases k)), upd_ne (by intro k; rw [k] at w; exact dO _ w)]; exact w
    · rw [upd_ne (nA c' _ w (by intro ψ k; cases k)), upd_ne (by intro k; rw [k] at w; exact dT _ w)]; exact w
  have hok : HOk X.prog X.w (upd (upd H dx (xdO dx (putF f y fs))) a (xoO a C (some dx))) h2 := fun b q z => by
    by_cases hb : b = a
    · subst hb; rw [upd_same] at z; cases z; exact aOk _
    · rw [upd_ne hb] at z
      by_cases hb2 : b = dx
      · subst hb2; rw [upd_same] at z; cases z; exact dOk _
      · rw [upd_ne hb2] at z; exact tr b q z hb hb2
  have ga : ∀ b u', hh.get? b = some u' → ∃ o', h2.get? b = some o' := fun b u' z => by
    by_cases hb : b = a
    · subst hb; exact ⟨_, e4⟩
    · by_cases hb2 : b = dx
      · subst hb2; obtain ⟨o, _, _, z', _⟩ := e3; exact ⟨o, z'⟩
      · exact ⟨u', e5 b u' hb hb2 z⟩
  have nd : ∀ b u', hh.get? b = some u' → H b = none → b ≠ a ∧ b ≠ dx := fun b u' z n => by
    refine ⟨fun k => (by rw [k, e] at n; cases n), fun k => ?_⟩
    rcases e1 with k1 | ⟨_, k2⟩
    · rcases hd with ⟨k3, _⟩ | ⟨d, k3, _, k4⟩
      · have k1 : od = some dx := k1
        rw [k3] at k1; cases k1
      · have k1 : od = some dx := k1
        rw [k3] at k1; cases k1; rw [k, k4] at n; cases n
    · have := Heap.lt_size z
      rw [k, k2] at this
      exact absurd this (Nat.lt_irrefl _)
  refine Inv.un (s := ⟨hh, gg, dd, tt, oo⟩) (h' := h2) (t' := t2) I ⟨fun b o q n _ _ => e5 b o (nd b o q n).1 (nd b o q n).2 q, fun b o q n _ _ => ⟨o.slots, e5 b o (nd b o q n).1 (nd b o q n).2 q⟩, fun b o q n _ => by rw [upd_ne (nd b o q n).1, upd_ne (nd b o q n).2]; exact n, fun b o q _ => ga b o q, fun b xs q => ?_, fun b o u q => ?_, fun b ps q => ⟨#[], ?_⟩⟩ hok
  all_goals
    have hba : b ≠ a := by intro k; rw [k, e] at q; cases q
    have hbd : b ≠ dx := by
      intro k
      rcases e1' with ⟨_, k1⟩ | k1
      · rw [k, k1] at q; cases q
      · rcases hd with ⟨k3, _⟩ | ⟨d, k3, _, k4⟩
        · rw [k3] at k1; cases k1
        · rw [k3] at k1; cases k1; rw [k, k4] at q; cases q
    rw [upd_ne hba, upd_ne hbd, q]
  simp
end
end L2
set_option maxHeartbeats 2000000
namespace L2
open PySem PySem.Spec PyProof.Rows
section
variable {X : Cx} {pins : List (Addr × Obj)} {σ : St} {H : Hp} {s : Shared} {a C : Addr} {h' : Heap}
theorem Inv.laidF {o : HO} {t' : Nat} (I : Inv X pins σ H s) (k : ∀ b u, s.heap.get? b = some u → h'.get? b = some u) (hn : s.heap.get? a = none) (new : ObjOk X.prog X.w (upd H a o) h' a o) : Inv X pins σ (upd H a o) { s with heap := h', toks := t' } := by
  have fr : H a = none := by
    cases z : H a with
    | none => rfl
    | some u => exact (ObjOk.gone (I.hok a u z) hn).elim
  have ne : ∀ b u, s.heap.get? b = some u → b ≠ a := fun b u q z => by rw [z, hn] at q; cases q
  refine I.un ⟨fun b u q _ _ _ => k b u q, fun b u q _ _ _ => ⟨u.slots, k b u q⟩, fun b u q n _ => by rw [upd_ne (ne b u q)]; exact n, fun b u q _ => ⟨u, k b u q⟩, fun b xs q => by rw [upd_ne (ne_of_none q fr)]; exact q, fun b u xs q => by rw [upd_ne (ne_of_none q fr)]; exact q, fun b ps q => ⟨#[], by rw [upd_ne (ne_of_none q fr), q]; simp⟩⟩ fun b u e => ?_
  by_cases hb : b = a
  · subst hb; rw [upd_same] at e; cases e; exact new
  · rw [upd_ne hb] at e
    exact (I.hok b u e).stay (fun c v _ q => k c v q) (fun c q => by rw [upd_ne (ne_of_none q fr)]; exact q) fun c xs q => by rw [upd_ne (ne_of_none q fr)]; exact q
theorem isFn_at {K : PySem.W.Frag} {h : Heap} {f : Addr} (KX : K.In h) (e : PySem.W.isFn K (.ref f) = true) : ∃ o, h.get? f = some o ∧ o.cls = .type "function" := by
  have q : PySem.W.typeIn K (.ref f) = some (.type "function") := beq_iff_eq.mp e
  unfold PySem.W.typeIn at q
  simp only at q
  cases z : K.lookup f with
  | none => rw [z] at q; simp at q
  | some o =>
    rw [z] at q
    refine ⟨o, KX _ _ z, ?_⟩
    simpa using q
theorem run_makeX {k : Nat} {fI : Addr} {fd : FuncData} {ps names : List Str} {sp : Sp} {E : XK} {us : List Value} {vs : List V} {R : Addr → Option Addr → Hp → Prop} (c : XIni X.K C fI names) (F : FnOk X.prog X.w X.K X.mg X.base (cxX X.prog X.w) k fI fd ps sp) (hr : Room (k + 1) X.A) (hb : Binds X.K fd ps [])
    (hx : Passes (cxX X.prog X.w) X E) (I : Inv X pins σ H s) (r : Vals vs us) (hlen : us.length ≤ sizeLine)
    (h : ∀ x, H x = none → sp (.ref x :: vs) (upd H x (xoO x C none)) (fun v H2 => v = .non ∧ ∃ od, H2 x = some (xoO x C od) ∧ R x od H2) E) :
    wpAny (model X.prog X.w) X.A (call (.ref C) us) (fun u s' => ∃ x od H2, u = .ref x ∧ Inv X pins σ H2 s' ∧ s.heap.get? x = none ∧ (∀ b o, s.heap.get? b = some o → ∃ o', s'.heap.get? b = some o') ∧ H2 x = some (xoO x C od) ∧ R x od H2) X.xe s := by
  obtain ⟨cn, cq, Nc, cb, csn, csub, cab, ccol, cdd, p0, p1, p2, p3, p5, mC, hC, hN, hin, hno⟩ := xInit_at I.kIn c.ini
  obtain ⟨oI, hfI, hfc⟩ := isFn_at I.kIn c.fn
  obtain ⟨hh, gg, dd, tt, oo⟩ := s
  refine wpAny_call_exc_init PySem.F.excBase_Exception hC hN hin hfI hfc (fun h2 x m => ?_) hlen
  have fr : H x = none := by
    cases z : H x with
    | none => rfl
    | some u => exact (ObjOk.gone (I.hok x u z) m.new).elim
  obtain ⟨t, m1, _, _⟩ := m.there
  have I2 := Inv.laidF (s := ⟨hh, gg, dd, tt, oo⟩) (a := x) (o := xoO x C none) (t' := tt) I m.keeps m.new (xoO_ok (vs := #[.ref t, .none, .none, .none, .bool false, .none]) m1 rfl)
  have r2 : Vals (V.ref x :: vs) (Value.ref x :: us) := .cons rfl r
  have hq := h x fr
  have hl : (Value.ref x :: us ++ []).length = ps.length := by
    have e := r2.length
    rw [F.len _ _ _ _ hq] at e
    rw [List.append_nil]
    exact e.symm
  have hbb := hb { heap := h2, gens := gg, drawn := dd, toks := tt, os := oo } (Value.ref x :: us) I2.kIn hl
  rw [List.append_nil] at hbb
  refine wpAny_call (codeAny_mono (F.run _ X.stack { heap := h2, gens := gg, drawn := dd, toks := tt, os := oo } _ ⟨Value.ref x :: us, []⟩ (Value.ref x :: us) _ _ E (hr.make C us []) (I2.env0.make C us []) hbb r2 hq) fun res s' hq' => ?_)
  cases res with
  | error e => exact hx pins σ _ _ e s' I2 hq'
  | ok fl =>
    cases fl with
    | next => exact False.elim hq'
    | brk => exact False.elim hq'
    | cont => exact False.elim hq'
    | ret u =>
      have th : ∀ b o, hh.get? b = some o → ∃ o', s'.heap.get? b = some o' := fun b o q => by
        obtain ⟨_, _, _, _, un, _⟩ := hq'
        exact un.there b o (m.keeps b o q) (by simp)
      obtain ⟨v, H3, I3, rv, ev, od, q1, q2⟩ := I2.after hq'
      subst ev
      exact ⟨show u = .none from rv, x, od, H3, rfl, I3, m.new, th, q1, q2⟩
theorem raiseStmt_x {M : Model} {A : Around} {E : Value → Shared → Prop} {env : Env} {v : Sem Value} {Q : Flow → Shared → Prop} {s : Shared} (hh : A.handled = none)
    (h : wpAny M A v (fun u s1 => ∃ x od vs fI, u = .ref x ∧ (∃ names, XAt s1.heap C fI names) ∧ s1.heap.get? x = some ⟨.ref C, od, .fields vs, #[]⟩ ∧ vs[1]? = some .none ∧ E (.ref x) s1) E s) :
    wpAny M A (raiseStmt env (some v) none) Q E s := by
  unfold raiseStmt
  refine wpAny_bind (wpAny_mono h (fun u s1 h1 => ?_) fun _ _ z => z)
  obtain ⟨x, od, vs, fI, rfl, ⟨names, cn, cq, Nc, cb, csn, csub, cab, ccol, cdd, p0, p1, p2, p3, p5, mC, hC, hN, hin, hno⟩, hx, hv1, hE⟩ := h1
  obtain ⟨h2, g, d, tk, os⟩ := s1
  have hcB : (Value.ref C :: bmX).contains (.type "BaseException") = true := by rw [List.contains_cons]; rfl
  repeat (first
    | with_reducible refine wpAny_loadPart_at hx ?_
    | with_reducible refine wpAny_loadPart_at hC ?_
    | with_reducible refine wpAny_field hx rfl hv1 ?_
    | (with_reducible refine wpAny_isSubtype_exc hC ?_; rw [hcB])
    | wp_step)
  exact wpAny_raiseNew_none hh hE
end
section
variable {X : Cx} {E : XK} {c f : Str} {C fI : Addr} {fd : FuncData} {ps names : List Str} {sp : Sp} {k : Nat} {np cpos pos pos' : Pos} {e o value : Expr} {es : List Expr} {t : TA} {ta tv : TE}
def tRaiseI (C : Addr) (sp : Sp) (E : XK) (t : TA) : TS := fun _ σ H => t σ H fun vs H1 => vs.length ≤ sizeLine ∧ ∀ x, H1 x = none → sp (.ref x :: vs) (upd H1 x (xoO x C none)) (fun v H2 => v = .non ∧ ∃ od, H2 x = some (xoO x C od) ∧ E (.ref C) od (del H2 x)) E
theorem ps_raiseI (ht : Thr X E) (hex : X.ex = []) (hc : X.calm = true) (hg : Gl X c) (hm : X.mg c = some (.ref C)) (hk : PySem.W.keepIn X.K (.ref C) = true) (xc : XIni X.K C fI names) (F : FnOk X.prog X.w X.K X.mg X.base (cxX X.prog X.w) k fI fd ps sp) (hr : Room (k + 1) X.A) (hb : Binds X.K fd ps [])
    (ha : PA X (e :: es) t) (hd : (c == ("__debug__" : Str)) = false := by decide) (he : starEach (e :: es) X.env = (false, eval e X.env) :: starEach es X.env := by rfl) (hpl : (backTo cpos (starEach es X.env)).any (·.1) = false := by rfl) :
    PS X (.Raise (some (.Call (.Name c np) (e :: es) [] cpos)) none pos) (tRaiseI C sp E t) := by
  intro pins s σ H D I hq
  rw [arm_exec_Raise]
  refine wpAny_bind (wpAny_standAt (raiseStmt_x (C := C) (I.ok.hd hc) ?_))
  have core : wpAny (model X.prog X.w) X.A (eval (.Call (.Name c np) (e :: es) [] cpos) X.env) (fun u s1 => ∃ x od vs fI, u = .ref x ∧ (∃ names, XAt s1.heap C fI names) ∧ s1.heap.get? x = some ⟨.ref C, od, .fields vs, #[]⟩ ∧ vs[1]? = some .none ∧ X.xe (.ref x) s1) X.xe s := by
    refine wpAny_Call_Name_kw (ld_glob I hg hm ?_ hd)
    refine PySem.W.callWith_K (h₀ := X.base) I.ok.mod.kin hk (thn (ha cpos pins s σ H _ I hq) fun us s1 ⟨vs, H1, I1, r, hz, q⟩ => ⟨I1.kIn, ?_⟩) he hpl
    refine thn (run_makeX (R := fun x od H2 => E (.ref C) od (del H2 x)) xc F hr hb ht.pass I1 r (by show us.length ≤ sizeLine; rw [← r.length]; exact hz) q) fun u s2 ⟨x, od, H2, e1, I2, nx, th, q1, q2⟩ => ?_
    obtain ⟨⟨vs', hx, hv⟩, _, _⟩ := (show ObjOk X.prog X.w H2 s2.heap x (xoO x C od) from I2.hok x _ q1)
    have I3 : Inv X pins σ (del H2 x) s2 := I2.forget q1 ⟨(fun _ z => nomatch z), (fun _ _ z => nomatch z), (fun _ z => nomatch z), (fun _ z => nomatch z)⟩
    refine ⟨x, od, vs', fI, e1, ⟨names, xInit_at I2.kIn xc.ini⟩, hx, hv, ht pins σ H1 s1 σ (del H2 x) s2 x (.ref C) od I1 I3 th ⟨del_same, nx, _, vs', hx, rfl, rfl, rfl, .inl hv⟩ q2⟩
  first
    | exact wpAny_bind (thn core fun v s3 h3 => wpAny_bind (wpAny_standAt (wpAny_pure h3)))
    | (simp only [evalOpt, Option.map]; exact wpAny_bind (thn core fun v s3 h3 => wpAny_bind (wpAny_standAt (wpAny_pure h3))))
def sFldX (C : Addr) (ta tv : TE) (f : Str) : TS := fun D σ H => tv σ H fun y H1 => ta σ H1 fun x H2 => ∃ a od fs, x = .ref a ∧ H2 a = some (xoO a C od) ∧ ((od = none ∧ fs = []) ∨ ∃ d, od = some d ∧ d ≠ a ∧ H2 d = some (xdO d fs)) ∧ fs.length < 1000 ∧
  ∀ d, ((od = none ∧ H2 d = none) ∨ od = some d) → d ≠ a → D.nx σ (upd (upd H2 d (xdO d (putF f y fs))) a (xoO a C (some d)))
theorem ps_fldX (xc : XIni X.K C fI names) (hf : f ∈ names) (hB : typeLookup (.type "Exception") f = pure none) (ha : PE X o ta) (hv : PE X value tv) (hs : swapsWith value (some (.Attribute o f pos')) pos.line X.env = pure false) : PS X (.Assign [.Attribute o f pos'] value pos) (sFldX C ta tv f) := by
  intro pins s σ H D I h
  refine plainObj_wpAny_Assign_Attribute (thn (hv pins s σ H _ I h) fun u s1 ⟨y, H1, I1, ry, q⟩ => thn (ha pins s1 σ H1 _ I1 q) fun ov s2 ⟨x, H2, I2, rx, a, od, fs, ex, ea, hd, l, q2⟩ => ?_) hs
  subst ex
  obtain rfl : ov = Value.ref a := rx
  exact setattr_x I2 ea hd xc hf hB l ry fun s3 d e1 e2 I3 => ⟨σ, _, I3, q2 d e1 e2⟩
end
end L2
set_option maxHeartbeats 2000000
namespace L2
open PySem PySem.Spec PyProof.Rows
def xcIn (K : PySem.W.Frag) (C : Addr) : Bool := match K.lookup C with
  | some ⟨.type "type", _, .cls cd, sl⟩ => (match cd.mro, sl.toList with
    | .ref C' :: bm, [_, _, _, _, some (.builtin n), _] => C' == C && n == "Exception.__new__" && !cd.hasDel && bm == bmX
    | _, _ => false)
  | _ => false
theorem xcIn_at {K : PySem.W.Frag} {h : Heap} {C : Addr} (X : K.In h) (q : xcIn K C = true) : ∃ cn cq Nc cb hd csn csub cab ccol cdd p0 p1 p2 p3 p5, h.get? C = some (excClassObj cn cq C Nc cb bmX hd csn csub cab ccol cdd p0 p1 p2 p3 p5 "Exception.__new__") := by
  unfold xcIn at q
  split at q
  · rename_i dd cd sl ho
    split at q
    · rename_i C' bm k0 k1 k2 k3 n k5 hm hs
      simp only [Bool.and_eq_true, beq_iff_eq, Bool.not_eq_true'] at q
      obtain ⟨⟨⟨rfl, rfl⟩, hdel⟩, rfl⟩ := q
      obtain ⟨nm, bs, mro, ns, qn, hd, sn, sub, ab, col, del⟩ := cd
      dsimp only at hm hdel
      subst hm hdel
      have hsl : sl = #[k0, k1, k2, k3, some (.builtin "Exception.__new__"), k5] := by
        obtain ⟨l⟩ := sl
        simp only at hs
        rw [hs]
      subst hsl
      exact ⟨nm, qn, ns, bs, hd, sn, sub, ab, col, dd, k0, k1, k2, k3, k5, X _ _ ho⟩
    · cases q
  · cases q
section
variable {M : Model} {A : Around} {E : Value → Shared → Prop} {h : Heap} {g : Array GenState} {d : Drawn} {t : Nat} {os : OsState} {x C D : Addr} {oe : Obj} {Q : Bool → Shared → Prop}
variable {cn cq : Str} {Nc : Addr} {cb : List Value} {hd : Bool} {csn : List Str} {csub : List Value} {cab : Bool} {ccol : Option Bool} {cdd : Option Addr} {p0 p1 p2 p3 p5 : Option Value} {idn : String}
variable {dn dq : Str} {Nd : Addr} {db : List Value} {hd' : Bool} {dsn : List Str} {dsub : List Value} {dab : Bool} {dcol : Option Bool} {ddd : Option Addr} {r0 r1 r2 r3 r5 : Option Value} {idd : String}
theorem matches_x (hC : h.get? C = some (excClassObj cn cq C Nc cb bmX hd csn csub cab ccol cdd p0 p1 p2 p3 p5 idn)) (hD : h.get? D = some (excClassObj dn dq D Nd db bmX hd' dsn dsub dab dcol ddd r0 r1 r2 r3 r5 idd))
    (hx : h.get? x = some oe) (hcl : oe.cls = .ref C) (hq : Q (decide (C = D)) ⟨h, g, d, t, os⟩) : wpAny M A (excMatches (.ref x) (.ref D)) Q E ⟨h, g, d, t, os⟩ := by
  have hcB : (Value.ref D :: bmX).contains (.type "BaseException") = true := by rw [List.contains_cons]; rfl
  have hcC : (Value.ref C :: bmX).contains (.ref D) = decide (C = D) := by
    by_cases e : C = D
    · subst e
      simp
    · rw [decide_eq_false e, List.contains_cons]
      have : (Value.ref D == Value.ref C) = false := by
        rw [beq_eq_false_iff_ne]
        intro z
        exact e (Value.ref.inj z).symm
      rw [this]
      rfl
  have f := tc_notTuple
  unfold excMatches
  repeat (first
    | (with_reducible refine wpAny_loadPart_at hx ?_; rw [hcl])
    | (with_reducible refine wpAny_isSubtype_exc hD ?_; rw [hcB])
    | (with_reducible refine wpAny_isSubtype_exc hC ?_; rw [hcC])
    | with_reducible refine wpAny_loadPart_at hD ?_
    | wp_step)
  all_goals first
    | exact hq
    | (cases z : decide (C = D) <;> (rw [z] at hq; wp_walk; exact hq))
end
section
variable {X : Cx} {pins : List (Addr × Obj)} {σ σ₁ : St} {H H₁ : Hp} {s s₁ : Shared}
theorem fly_land {M : Model} {A : Around} {E' : Value → Shared → Prop} {x : Addr} {cls : Value} {od : Option Addr} {Q : Unit → Shared → Prop} (hex : X.ex = []) (I₁ : Inv X pins σ₁ H₁ s₁) (I : Inv X pins σ H s) (ks : ∀ b o, s₁.heap.get? b = some o → ∃ o', s.heap.get? b = some o') (f : Fly s₁.heap H s.heap x cls od)
    (h : ∀ h', Inv X pins σ H { s with heap := h' } → Fly s₁.heap H h' x cls od → (∀ b o, s₁.heap.get? b = some o → ∃ o', h'.get? b = some o') → Q () { s with heap := h' }) : wpAny M A (setFlight (.ref x) none) Q E' s := by
  obtain ⟨oe, vs, he, hc, hdd, hd, tb⟩ := id f.obj
  rcases tb with h1 | ⟨T, oT, ts, h1, hTe, hT, hdT, hsz, _, _⟩
  · unfold setFlight
    refine wpAny_bind (wpAny_field he hd h1 ?_)
    rw [if_neg (by decide)]
    exact wpAny_pure (h s.heap I f ks)
  · refine flightX (fs := []) he hd h1 hTe hT hdT hsz fun h' N => ?_
    obtain ⟨I', f'⟩ := fly_noted (fun b hb => absurd hb (by simp)) hex I₁ I f he hd h1 N ks
    exact h h' I' f' fun b o q => let ⟨o', q'⟩ := ks b o q; N.there b o' q'
abbrev Cx.hnd (X : Cx) (x : Addr) (pn : List (Addr × Obj)) : Cx := { X with A := X.A.mark (some (.ref x)), calm := false, pn := pn ++ X.pn, xe := fun _ _ => False }
theorem Cx.Ok.hnd {x : Addr} {pn : List (Addr × Obj)} (ok : X.Ok) : (X.hnd x pn).Ok := ⟨ok.mod, ok.kind, ok.glob, ok.blt, ok.above, ok.inj, ok.has, ok.cab, (fun z => Bool.noConfusion z), ok.frames, ok.stk, ok.exf, ok.bs, ok.bsz, ok.noex, ok.exfs, ok.funs, ok.frf⟩
theorem Inv.hnd {x : Addr} {pn : List (Addr × Obj)} (I : Inv X pins σ H s) (h : ∀ p ∈ pn, s.heap.get? p.1 = some p.2 ∧ H p.1 = none ∧ p.1 ≠ X.env.locals ∧ p.1 ∉ X.fs ∧ ∀ v, p.2.data ≠ .cell v) : Inv (X.hnd x pn) pins σ H s :=
  ⟨I.ok.hnd, I.os, I.bare, I.base, I.loc, I.cell, I.free, I.freeC, fun p hp => by
    have hp : p ∈ (pn ++ X.pn) ++ pins := hp
    rw [List.append_assoc] at hp
    rcases List.mem_append.mp hp with q | q
    · exact h p q
    · exact I.pin p q, I.hok, I.len⟩
theorem Inv.unhnd {x : Addr} {pn : List (Addr × Obj)} (ok : X.Ok) (I : Inv (X.hnd x pn) pins σ H s) : Inv X pins σ H s :=
  ⟨ok, I.os, I.bare, I.base, I.loc, I.cell, I.free, I.freeC, fun p hp => I.pin p (by
    show p ∈ (pn ++ X.pn) ++ pins
    rw [List.append_assoc]
    exact List.mem_append_right _ hp), I.hok, I.len⟩
abbrev Ret (Q : VK) : Ends := { nx := fun _ _ => False, rt := Q }
def HandOk (X : Cx) (hs : List ExceptHandler) (R : VK → XK) : Prop := ∀ (pins : List (Addr × Obj)) (σ₁ : St) (H₁ : Hp) (s₁ : Shared) (σ : St) (H : Hp) (s : Shared) (x C : Addr) (od : Option Addr) (Q : VK), Inv X pins σ₁ H₁ s₁ → Inv X pins σ H s →
  (∀ b o, s₁.heap.get? b = some o → ∃ o', s.heap.get? b = some o') → Fly s₁.heap H s.heap x (.ref C) od → xcIn X.K C = true → R Q (.ref C) od H → wpAny (model X.prog X.w) X.A (handleBy (.ref x) X.env hs) (SP X pins (Ret Q)) X.xe s
theorem hand_nil : HandOk X [] (fun _ _ _ _ => False) := fun _ _ _ _ _ _ _ _ _ _ _ _ _ _ _ _ h => h.elim
theorem hand_test {c : Str} {D : Addr} {np pos : Pos} {name : Option Str} {body : List Stmt} {rest : List ExceptHandler} {R Rh : VK → XK} (hex : X.ex = []) (hg : Gl X c) (hm : X.mg c = some (.ref D)) (xd : xcIn X.K D = true) (hrest : HandOk X rest R)
    (hsuite : ∀ (pins : List (Addr × Obj)) (σ₁ : St) (H₁ : Hp) (s₁ : Shared) (σ : St) (H : Hp) (s : Shared) (x : Addr) (od : Option Addr) (Q : VK), Inv X pins σ₁ H₁ s₁ → Inv X pins σ H s →
      (∀ b o, s₁.heap.get? b = some o → ∃ o', s.heap.get? b = some o') → Fly s₁.heap H s.heap x (.ref D) od → Rh Q (.ref D) od H →
      codeAny (model X.prog X.w) (X.A.mark (some (.ref x))) (.handlers (.ref x) [.ExceptHandler none name body pos] X.env) (fun r s₂ => match r with
          | .ok f => (match name with
            | none => SP X pins (Ret Q) f s₂
            | some n => wpAny (model X.prog X.w) X.A (do bindName X.env n .none; unbindBehindTheSuite X.env n pos) (fun _ s₃ => SP X pins (Ret Q) f s₃) X.xe s₂)
          | .error e => cameBackBy (model X.prog X.w) X.A X.env X.xe e s₂) s)
    (hd : (c == ("__debug__" : Str)) = false := by decide) :
    HandOk X (.ExceptHandler (some (.Name c np)) name body pos :: rest) (fun Q cls od H => if cls = .ref D then Rh Q cls od H else R Q cls od H) := by
  intro pins σ₁ H₁ s₁ σ H s x C od Q I₁ I ks f xc hR
  refine wpAny_handleBy_cons (codeAny_handlers_test ?_) (by intro z; cases z)
  have I' : Inv (X.hnd x []) pins σ H s := I.hnd fun p hp => absurd hp (by simp)
  refine ld_glob (X := X.hnd x []) I' hg hm ?_ hd
  obtain ⟨oe, vs, he, hc, hdd, hdat, tb⟩ := id f.obj
  obtain ⟨a1, a2, a3, a4, a5, a6, a7, a8, a9, a10, a11, a12, a13, a14, a15, hC⟩ := xcIn_at I.kIn xc
  obtain ⟨b1, b2, b3, b4, b5, b6, b7, b8, b9, b10, b11, b12, b13, b14, b15, hD⟩ := xcIn_at I.kIn xd
  obtain ⟨hh, gg, dd, tt, oo⟩ := s
  refine matches_x hC hD he hc ?_
  by_cases e : C = D
  · subst e
    rw [decide_eq_true rfl, if_pos rfl]
    rw [if_pos rfl] at hR
    exact hsuite pins σ₁ H₁ s₁ σ H _ x od Q I₁ I ks f hR
  · rw [decide_eq_false e, if_neg (by decide)]
    rw [if_neg (fun z => e (Value.ref.inj z))] at hR
    exact hrest pins σ₁ H₁ s₁ σ H _ x C od Q I₁ I ks f xc hR
theorem hand_plain {c : Str} {D : Addr} {np pos : Pos} {b : Stmt} {suite : List Stmt} {rest : List ExceptHandler} {R : VK → XK} {ts : TS} (hex : X.ex = []) (hg : Gl X c) (hm : X.mg c = some (.ref D)) (xd : xcIn X.K D = true) (hrest : HandOk X rest R)
    (hs : ∀ x, PSs (X.hnd x []) (b :: suite) ts) (hd : (c == ("__debug__" : Str)) = false := by decide) :
    HandOk X (.ExceptHandler (some (.Name c np)) none (b :: suite) pos :: rest) (fun Q cls od H => if cls = .ref D then ∀ σ, ts (Ret Q) σ H else R Q cls od H) := by
  refine hand_test (Rh := fun Q cls od H => ∀ σ, ts (Ret Q) σ H) hex hg hm xd hrest (fun pins σ₁ H₁ s₁ σ H s x od Q I₁ I ks f hR => ?_) hd
  refine codeAny_handlers_suite (fly_land hex I₁ I ks f fun h' I' f' ks' => ?_)
  refine wpAny_mono (hs x pins _ σ H (Ret Q) (I'.hnd fun p hp => absurd hp (by simp)) (hR σ)) (fun fl s2 q => ?_) fun _ _ z => z.elim
  cases fl with
  | next => obtain ⟨_, _, _, z⟩ := q; exact z.elim
  | brk => obtain ⟨_, _, _, z⟩ := q; exact z.elim
  | cont => obtain ⟨_, _, _, z⟩ := q; exact z.elim
  | ret u => obtain ⟨v, σ', H', J, r, z⟩ := q; exact ⟨v, σ', H', J.unhnd I.ok, r, z⟩
theorem Inv.gone {h' : Heap} {m' : Str → Option Value} {t' : Nat} (I : Inv X pins σ H s) (hn : h'.Ns X.env.locals m') (hs : Heap.SameBut X.env.locals s.heap h') : Inv X pins (List.replicate X.N.length none) H { s with heap := h', toks := t' } := by
  obtain ⟨m, ⟨oL, _, _, hoL, _⟩, _⟩ := id I.loc
  refine ⟨I.ok, I.os, I.bare, ⟨fun b o e n hb hx => ?_, fun b o e n hb hx => ?_, I.base.free, fun b o e hx => ?_, I.base.tups, I.base.frzs, I.base.tbls⟩, ⟨m', hn, fun j y v e1 e2 e3 => ?_⟩, fun y c e => ?_, I.free, I.freeC, fun p hp => ?_, fun b ob e => ?_, List.length_replicate⟩
  · exact (hs.2 b (Nat.ne_of_lt (Nat.lt_of_lt_of_le (Heap.lt_size e) I.ok.above))).trans (I.base.keep b o e n hb hx)
  · obtain ⟨sl, e1⟩ := I.base.slot b o e n hb hx
    exact ⟨sl, (hs.2 b (Nat.ne_of_lt (Nat.lt_of_lt_of_le (Heap.lt_size e) I.ok.above))).trans e1⟩
  · obtain ⟨o', e1⟩ := I.base.there b o e hx
    exact ⟨o', (hs.2 b (Nat.ne_of_lt (Nat.lt_of_lt_of_le (Heap.lt_size e) I.ok.above))).trans e1⟩
  · rw [List.getElem?_replicate] at e2
    split at e2 <;> cases e2
  · obtain ⟨w', z⟩ := I.cell y c e
    exact ⟨w', z.sameBut hs (I.cne y c e)⟩
  · obtain ⟨e, n, ne, nf, d⟩ := I.pin p hp
    exact ⟨(hs.2 p.1 ne).trans e, n, ne, nf, d⟩
  · refine (I.hok b ob e).stay (fun c w' hc q => (hs.2 c ?_).trans q) (fun _ q => q) fun _ _ q => q
    rintro rfl
    rcases hc with hc | hc
    · rw [← hc, I.free] at e; cases e
    · rw [I.free] at hc; cases hc
theorem hand_as {c n : Str} {D : Addr} {i : Nat} {np pos : Pos} {b : Stmt} {suite : List Stmt} {rest : List ExceptHandler} {R : VK → XK} {ts : Addr → Option Addr → TS} (hex : X.ex = []) (hst : X.stack = X.env :: X.outer) (hN : X.N.Nodup) (hi : X.N[i]? = some n) (hl : X.env.scope.names.lookup n = some .local) (hg : Gl X c) (hm : X.mg c = some (.ref D)) (xd : xcIn X.K D = true) (hrest : HandOk X rest R)
    (hs : ∀ x oe vs, oe.cls = .ref D → oe.data = .fields vs → PSs (X.hnd x [(x, oe)]) (b :: suite) (ts x oe.dict)) (hd : (c == ("__debug__" : Str)) = false := by decide) :
    HandOk X (.ExceptHandler (some (.Name c np)) (some n) (b :: suite) pos :: rest) (fun Q cls od H => if cls = .ref D then ∀ σ x, σ[i]? = some (some (.ref x)) → ts x od (Ret Q) σ H else R Q cls od H) := by
  refine hand_test (Rh := fun Q cls od H => ∀ σ x, σ[i]? = some (some (.ref x)) → ts x od (Ret Q) σ H) hex hg hm xd hrest (fun pins σ₁ H₁ s₁ σ H s x od Q I₁ I ks f hR => ?_) hd
  refine codeAny_handlers_suite_as (fly_land hex I₁ I ks f fun h' I' f' ks' => ?_)
  have hiσ : i < σ.length := by rw [I'.len]; exact (List.getElem?_eq_some_iff.mp hi).1
  obtain ⟨oe, vs, he, hc, hdd, hdat, tb⟩ := id f'.obj
  have xa := I₁.apart hex f'.new
  refine store_ok2 (v := V.ref x) (u := .ref x) I' hN hi (.inl hl) rfl (fun s2 I2 ⟨a, sb, ha⟩ => ?_) (.inr hl)
  have hxa : x ≠ a := by
    rcases ha with z | z
    · rw [z]; exact xa.2.1
    · exact fun e => xa.2.2.1 n a z e.symm
  have nfs : x ∉ X.fs := fun hb => by
    obtain ⟨_, o, ho, _⟩ := I₁.ok.funs.mem hb
    rw [xa.1] at ho; cases ho
  have J : Inv (X.hnd x [(x, oe)]) pins (σ.set i (some (.ref x))) H s2 := I2.hnd fun p hp => by
    have : p = (x, oe) := by simpa using hp
    subst this
    exact ⟨(sb.2 x hxa).trans he, f'.free, xa.2.1, nfs, fun v z => by rw [hdat] at z; cases z⟩
  refine wpAny_mono (hs x oe vs hc hdat pins s2 _ H (Ret Q) J (by rw [hdd]; exact hR _ x (List.getElem?_set_self hiσ))) (fun fl s3 q => ?_) fun _ _ z => z.elim
  cases fl with
  | next => obtain ⟨_, _, _, z⟩ := q; exact z.elim
  | brk => obtain ⟨_, _, _, z⟩ := q; exact z.elim
  | cont => obtain ⟨_, _, _, z⟩ := q; exact z.elim
  | ret u =>
    obtain ⟨v, σ', H', J', r, z⟩ := q
    have J2 := J'.unhnd I.ok
    obtain ⟨m, hn, _⟩ := id J2.loc
    refine wpAny_nameGoes hl hn (by rw [I.ok.kind]; rfl) fun h3 m3 n3 s3' => ?_
    exact ⟨v, _, H', J2.gone n3 s3', r, z⟩
abbrev Cx.tryb (X : Cx) (xe : Value → Shared → Prop) (pn : List (Addr × Obj)) : Cx := { X with xe := xe, pn := pn ++ X.pn }
theorem Cx.Ok.tryb {xe : Value → Shared → Prop} {pn : List (Addr × Obj)} (ok : X.Ok) : (X.tryb xe pn).Ok :=
  ⟨ok.mod, ok.kind, ok.glob, ok.blt, ok.above, ok.inj, ok.has, ok.cab, ok.hd, ok.frames, ok.stk, ok.exf, ok.bs, ok.bsz, ok.noex, ok.exfs, ok.funs, ok.frf⟩
theorem Inv.tryb {xe : Value → Shared → Prop} (I : Inv X pins σ H s) : Inv (X.tryb xe pins) [] σ H s :=
  ⟨I.ok.tryb, I.os, I.bare, I.base, I.loc, I.cell, I.free, I.freeC, fun p hp => I.pin p (by
    have hp : p ∈ (pins ++ X.pn) ++ [] := hp
    rw [List.append_nil] at hp
    rcases List.mem_append.mp hp with z | z
    · exact List.mem_append_right _ z
    · exact List.mem_append_left _ z), I.hok, I.len⟩
theorem Inv.untryb {xe : Value → Shared → Prop} {pins' : List (Addr × Obj)} (ok : X.Ok) (I : Inv (X.tryb xe pins) pins' σ H s) : Inv X pins σ H s :=
  ⟨ok, I.os, I.bare, I.base, I.loc, I.cell, I.free, I.freeC, fun p hp => I.pin p (by
    show p ∈ (pins ++ X.pn) ++ pins'
    rcases List.mem_append.mp hp with z | z
    · exact List.mem_append_left _ (List.mem_append_right _ z)
    · exact List.mem_append_left _ (List.mem_append_left _ z)), I.hok, I.len⟩
theorem ps_try {body : List Stmt} {h0 : ExceptHandler} {hs : List ExceptHandler} {pos : Pos} {R : VK → XK} {tb : XK → TS} (hst : X.stack = X.env :: X.outer) (hfr : X.env.frame = some X.env.locals) (hex : X.ex = []) (hh : HandOk X (h0 :: hs) R)
    (hb : ∀ (xe : Value → Shared → Prop) (pn : List (Addr × Obj)) (E' : XK), Thr (X.tryb xe pn) E' → PassesOwn (model X.prog X.w) X.A X.env xe → PSs (X.tryb xe pn) body (tb E')) :
    PS X (.Try body (h0 :: hs) [] [] pos) (fun D σ H => tb (fun cls od H' => ∃ C, cls = .ref C ∧ xcIn X.K C = true ∧ R D.rt cls od H') (Ret D.rt) σ H) := by
  intro pins s σ H D I h
  have up : ∀ {fl : Flow} {s' : Shared}, SP X pins (Ret D.rt) fl s' → SP X pins D fl s' := fun {fl s'} q => by
    cases fl with
    | next => obtain ⟨_, _, _, z⟩ := q; exact z.elim
    | brk => obtain ⟨_, _, _, z⟩ := q; exact z.elim
    | cont => obtain ⟨_, _, _, z⟩ := q; exact z.elim
    | ret u => exact q
  refine wpAny_Try_except ?_
  refine wpAny_mono (hb (fun e s1 => wpAny (model X.prog X.w) X.A (noteFrame e X.env) (fun _ s2 => wpAny (model X.prog X.w) X.A (setFlight e none) (fun _ s3 => wpAny (model X.prog X.w) X.A (handleBy e X.env (h0 :: hs)) (SP X pins D) X.xe s3) X.xe s2) X.xe s1) pins
    (fun cls od H' => ∃ C, cls = .ref C ∧ xcIn X.K C = true ∧ R D.rt cls od H') ?_ PassesOwn.looking [] s σ H (Ret D.rt) I.tryb h) (fun fl s' q => ?_) fun _ _ z => z
  · rintro pins' σ₁ H₁ s₁ σ' H' s' x cls od I₁ I' ks f ⟨C, rfl, xc, hR⟩
    have J₁ := I₁.untryb I.ok
    have J' := I'.untryb I.ok
    refine fly_note hst hfr hex J₁ J' ks f fun h' I2 f2 ks2 => ?_
    exact wpAny_mono (hh pins σ₁ H₁ s₁ σ' H' _ x C od D.rt J₁ I2 ks2 f2 xc hR) (fun fl s3 q => up q) fun _ _ z => z
  · cases fl with
    | next => obtain ⟨_, _, _, z⟩ := q; exact z.elim
    | brk => obtain ⟨_, _, _, z⟩ := q; exact z.elim
    | cont => obtain ⟨_, _, _, z⟩ := q; exact z.elim
    | ret u =>
      obtain ⟨v, σ', H', J, r, z⟩ := q
      exact ⟨v, σ', H', J.untryb I.ok, r, z⟩
end
end L2
set_option maxHeartbeats 2000000
namespace L2
open PySem PySem.Spec PyProof.Rows
structure Ext (M : List Addr) (G H G' H' : Hp) : Prop where
  sub0 : Same G H
  sub : Same G' H'
  grow : Same G G'
  keep : ∀ b o, H b = some o → b ∉ M → H' b = some o
  there : ∀ b o, H b = some o → ∃ o', H' b = some o'
  fresh : ∀ b o, G' b = some o → G b = some o ∨ H b = none
structure Own (G H : Hp) (p : Addr) (o : HO) : Prop where
  at_ : H p = some o
  fr : G p = none
section
variable {M M' : List Addr} {G H G1 H1 G2 H2 : Hp} {p : Addr} {o u : HO}
theorem Ext.refl (h : Same G H) : Ext M G H G H := ⟨h, h, Same.refl G, fun _ _ e _ => e, fun _ o e => ⟨o, e⟩, fun _ _ e => .inl e⟩
theorem Ext.none_of (e : Ext M G H G1 H1) (h : H1 p = none) : H p = none := by
  cases q : H p with
  | none => rfl
  | some o => obtain ⟨o', z⟩ := e.there _ _ q; rw [h] at z; cases z
theorem Ext.trans (a : Ext M G H G1 H1) (b : Ext M G1 H1 G2 H2) : Ext M G H G2 H2 where
  sub0 := a.sub0
  sub := b.sub
  grow := a.grow.trans b.grow
  keep := fun c o e hc => b.keep c o (a.keep c o e hc) hc
  there := fun c o e => let ⟨o', e'⟩ := a.there c o e; b.there c o' e'
  fresh := fun c o e => (b.fresh c o e).elim (a.fresh c o) fun z => .inr (a.none_of z)
theorem Ext.mono (a : Ext M G H G1 H1) (h : ∀ b ∈ M, b ∈ M') : Ext M' G H G1 H1 := ⟨a.sub0, a.sub, a.grow, fun b o e hb => a.keep b o e fun z => hb (h b z), a.there, a.fresh⟩
theorem Ext.up (a : Ext [] G H G1 H1) : Ext M G H G1 H1 := a.mono fun _ z => absurd z (by simp)
theorem Ext.tr0 (a : Ext M G H G1 H1) (b : Ext [] G1 H1 G2 H2) : Ext M G H G2 H2 := a.trans b.up
theorem Ext.same (a : Ext [] G H G1 H1) : Same H H1 := fun b o e => a.keep b o e (by simp)
theorem Ext.lay (a : Ext M G H G1 H1) (h : H1 p = none) : Ext M G H (upd G1 p o) (upd H1 p o) where
  sub0 := a.sub0
  sub := fun b u e => by
    by_cases q : b = p
    · subst q; rw [upd_same] at e ⊢; exact e
    · rw [upd_ne q] at e ⊢; exact a.sub b u e
  grow := fun b u e => by
    have ne : b ≠ p := fun q => by
      subst q
      have := a.sub _ _ (a.grow _ _ e)
      rw [h] at this; cases this
    rw [upd_ne ne]; exact a.grow b u e
  keep := fun b u e hb => by
    have ne : b ≠ p := fun q => by
      subst q
      rw [a.none_of h] at e; cases e
    rw [upd_ne ne]; exact a.keep b u e hb
  there := fun b u e => by
    have ne : b ≠ p := fun q => by
      subst q
      rw [a.none_of h] at e; cases e
    rw [upd_ne ne]; exact a.there b u e
  fresh := fun b u e => by
    by_cases q : b = p
    · subst q; exact .inr (a.none_of h)
    · rw [upd_ne q] at e; exact a.fresh b u e
theorem Ext.lend (a : Ext M G H G1 H1) (h : H1 p = none) : Ext M G H G1 (upd H1 p o) where
  sub0 := a.sub0
  sub := fun b u e => by
    have ne : b ≠ p := fun q => by
      subst q
      have := a.sub _ _ e
      rw [h] at this; cases this
    rw [upd_ne ne]; exact a.sub b u e
  grow := a.grow
  keep := fun b u e hb => by
    have ne : b ≠ p := fun q => by
      subst q
      rw [a.none_of h] at e; cases e
    rw [upd_ne ne]; exact a.keep b u e hb
  there := fun b u e => by
    have ne : b ≠ p := fun q => by
      subst q
      rw [a.none_of h] at e; cases e
    rw [upd_ne ne]; exact a.there b u e
  fresh := a.fresh
theorem Ext.put (a : Ext M G H G1 H1) (h : H p = none ∨ p ∈ M) (f : G1 p = none) : Ext M G H G1 (upd H1 p o) where
  sub0 := a.sub0
  sub := fun b u e => by
    have ne : b ≠ p := fun q => by
      subst q
      rw [f] at e; cases e
    rw [upd_ne ne]; exact a.sub b u e
  grow := a.grow
  keep := fun b u e hb => by
    have ne : b ≠ p := fun q => by
      subst q
      rcases h with h | h
      · rw [h] at e; cases e
      · exact hb h
    rw [upd_ne ne]; exact a.keep b u e hb
  there := fun b u e => by
    by_cases q : b = p
    · subst q; exact ⟨o, upd_same⟩
    · rw [upd_ne q]; exact a.there b u e
  fresh := a.fresh
theorem Ext.freeze (a : Ext M G H G1 H1) (e : H1 p = some o) (h : H p = none) : Ext M G H (upd G1 p o) H1 where
  sub0 := a.sub0
  sub := fun b u z => by
    by_cases q : b = p
    · subst q; rw [upd_same] at z; rw [e]; exact z
    · rw [upd_ne q] at z; exact a.sub b u z
  grow := fun b u z => by
    have ne : b ≠ p := fun q => by
      subst q
      have := a.sub0 _ _ z
      rw [h] at this; cases this
    rw [upd_ne ne]; exact a.grow b u z
  keep := a.keep
  there := a.there
  fresh := fun b u z => by
    by_cases q : b = p
    · subst q; exact .inr h
    · rw [upd_ne q] at z; exact a.fresh b u z
theorem Own.ext (w : Own G H p o) (a : Ext M G H G1 H1) (h : p ∉ M) : Own G1 H1 p o :=
  ⟨a.keep _ _ w.at_ h, by
    cases q : G1 p with
    | none => rfl
    | some u =>
      rcases a.fresh _ _ q with z | z
      · rw [w.fr] at z; cases z
      · rw [w.at_] at z; cases z⟩
theorem Own.new (s : Same G H) (h : H p = none) : Own G (upd H p o) p o := ⟨upd_same, s.free h⟩
theorem Own.put (w : Own G H p o) : Own G (upd H p u) p u := ⟨upd_same, w.fr⟩
end
abbrev Rl (α : Type) := Hp → V → α → Prop
def Mono {α : Type} (R : Rl α) : Prop := ∀ (G G' : Hp) (v : V) (a : α), Same G G' → R G v a → R G' v a
theorem Same.seqT {K : PySem.W.Frag} {H H' : Hp} {a : Addr} {xs : List V} (e : Same H H') (h : SqT K H a xs) : SqT K H' a xs := by
  rcases h with (h | ⟨o, h⟩) | h
  · exact .inl (.inl (e _ _ h))
  · exact .inl (.inr ⟨o, e _ _ h⟩)
  · exact .inr h
def Fr (K : PySem.W.Frag) : Rl Rat := fun G v q => ∃ p, v = .ref p ∧ SqT K G p [.int q.num, .int q.den]
def bytesV (b : List UInt8) : List V := b.map fun (c : UInt8) => V.int (c.toNat : Int)
def Bs (K : PySem.W.Frag) : Rl (List UInt8) := fun G v b => ∃ p, v = .ref p ∧ SqL K G p (bytesV b)
def Ls (K : PySem.W.Frag) {α : Type} (R : Rl α) : Rl (List α) := fun G v l => ∃ p vs, v = .ref p ∧ SqL K G p vs ∧ Paired (R G) vs l
def Tp (K : PySem.W.Frag) {α : Type} (R : Rl α) : Rl (List α) := fun G v l => ∃ p vs, v = .ref p ∧ SqT K G p vs ∧ Paired (R G) vs l
theorem Fr.mono {K : PySem.W.Frag} : Mono (Fr K) := fun _ _ _ _ s ⟨p, e, h⟩ => ⟨p, e, s.seqT h⟩
theorem Bs.mono {K : PySem.W.Frag} : Mono (Bs K) := fun _ _ _ _ s ⟨p, e, h⟩ => ⟨p, e, s.seq h⟩
theorem Paired.map' {α β : Type} {F F' : α → β → Prop} (hm : ∀ a b, F a b → F' a b) : ∀ {l₁ : List α} {l₂ : List β}, Paired F l₁ l₂ → Paired F' l₁ l₂
  | _, _, .nil => .nil
  | _, _, .cons h t => .cons (hm _ _ h) (Paired.map' hm t)
theorem Tp.mono {K : PySem.W.Frag} {α : Type} {R : Rl α} (m : Mono R) : Mono (Tp K R) := fun _ _ _ _ s ⟨p, vs, e, h, r⟩ => ⟨p, vs, e, s.seqT h, Paired.map' (fun _ _ z => m _ _ _ _ s z) r⟩
theorem bits_of {n : Nat} {x : Int} (h : Ma.B n x) : Builtin.Int.intBits x ≤ n := by
  unfold Builtin.Int.intBits
  by_cases h0 : x = 0
  · subst h0; exact Nat.zero_le _
  · rw [if_neg (by simpa using h0)]
    have hn : x.natAbs ≠ 0 := by omega
    exact (Nat.log2_lt hn).mpr h
def CB (i j : Int) : Prop := Ma.B 67108864 i ∧ Ma.B 67108864 j
theorem CB.ok {i j : Int} (h : CB i j) : IntMulOk i j := by
  have h1 := bits_of h.1
  have h2 := bits_of h.2
  have e : Builtin.Int.intTooBig (Builtin.Int.intBits i + Builtin.Int.intBits j) = false := by
    unfold Builtin.Int.intTooBig
    have : bitsLine = 134217728 := by decide
    exact decide_eq_false (by omega)
  unfold IntMulOk
  rw [e]
  simp
section
variable {X : Cx}
theorem op_mulB : OpR X (binaryOp .Mult) (rI CB fun i j => .int (i * j)) := opI fun _ _ _ _ _ _ _ hc q => mul_int q hc.ok
structure Deep (X : Cx) : Prop where
  tree : X.prog.given.tree = none
  stk : X.stack = X.env :: X.outer
  gen : X.env.scope.isGenerator = false
  co : X.env.scope.isCoroutine = false
  dp : X.A.depth + Builtin.pylongFrames < recursionLimit
theorem pylong_room {pins : List (Addr × Obj)} {σ : St} {H : Hp} {s : Shared} (d : Deep X) (I : Inv X pins σ H s) : PySem.PylongRoom (model X.prog X.w) X.A s :=
  PySem.PylongRoom.of I.nolimit d.dp (PySem.SeerAt.of (I.ok.mod.seer.keeps I.bk) d.tree (I.ok.frames.trans (congrArg some d.stk)) d.gen d.co I.ok.blt I.ok.glob)
theorem op_fdivG (d : Deep X) : OpR X (binaryOp .FloorDiv) (rI (fun _ j => j ≠ 0) fun i j => .int (i.fdiv j)) := by
  intro pins s σ H x y v u Q I rx ry h
  obtain ⟨i, j, rfl, rfl, hc, q⟩ := h
  obtain ⟨t, rfl⟩ := rx
  obtain ⟨t', rfl⟩ := ry
  exact floordiv_int hc ⟨.int _, H, I.tok _, ⟨_, rfl⟩, q⟩ (.inr (pylong_room d I))
end
def tMid (t1 t2 : TS) : TS := fun D σ H => ∃ R : L2.St → Hp → Prop, t1 { D with nx := R } σ H ∧ ∀ σ' H', R σ' H' → t2 D σ' H'
theorem pss_mid {X : Cx} {a : Stmt} {r : List Stmt} {t u : TS} (ha : PS X a t) (hr : PSs X r u) : PSs X (a :: r) (tMid t u) := by
  intro pins s σ H D I ⟨R, h, h'⟩
  refine wpAny_execs_cons (thn (ha pins s σ H { D with nx := R } I h) fun f s1 q => ?_)
  cases f with
  | next =>
    obtain ⟨σ', H', I', q⟩ := q
    exact hr pins s1 σ' H' D I' (h' _ _ q)
  | ret v => exact q
  | brk => exact q
  | cont => exact q
structure Def (P : Program) (w : World) (K : PySem.W.Frag) (mg : Str → Option Value) (base : Heap) (k : Nat) (x : Str) (ps : List Str) (sp : Sp) : Prop where
  ex : ∃ f fd, FnOk P w K mg base (cxX P w) k f fd ps sp ∧ mg x = some (.ref f) ∧ PySem.W.keepIn K (.ref f) = true ∧ Binds K fd ps []
section
variable {X : Cx} {k : Nat} {x : Str} {ps : List Str} {sp : Sp} {E : XK} {p pos : Pos} {e : Expr} {es : List Expr} {t : TA}
theorem pe_def (D : Def X.prog X.w X.K X.mg X.base k x ps sp) (hr : Room k X.A) (hx : Passes (cxX X.prog X.w) X E) (ha : PA X (e :: es) t) (hg : Gl X x := by rfl) (hdb : (x == ("__debug__" : Str)) = false := by decide)
    (he : starEach (e :: es) X.env = (false, eval e X.env) :: starEach es X.env := by rfl) (hpl : (backTo pos (starEach es X.env)).any (·.1) = false := by rfl) :
    PE X (.Call (.Name x p) (e :: es) [] pos) (tCall sp [] E t) := by
  obtain ⟨f, fd, F, hm, hk, hb⟩ := D.ex
  exact pe_call F hr hg hm hk hb .nil hx ha hdb he hpl
end
section
variable {P : Program} {w : World} {K : PySem.W.Frag} {mg : Str → Option Value} {base : Heap} {N : List Str} {qual : Str} {scope : Scope} {f : Addr} {cd : Value} {A : Around} {outer : List Env} {s0 : Shared} {H0 : Hp} {E : XK}
theorem deep_cx {k : Nat} (ht : P.given.tree = none) (hg : scope.isGenerator = false) (hc : scope.isCoroutine = false) (hr : Room k (A.deeper (envOfC qual scope s0.heap.objs.size f cd))) : Deep (cxOf (cxX P w) P w K mg base N qual scope f cd A outer s0 H0 E) :=
  ⟨ht, rfl, hg, hc, by have := hr.dp; show _ + 100 < _; show (A.deeper (envOfC qual scope s0.heap.objs.size f cd)).depth + 100 < _; omega⟩
end
end L2
set_option maxHeartbeats 2000000
namespace L2
open PySem PySem.Spec PyProof.Rows
def sgn (x : Str) : List V := x.cps.toList.map fun c => V.str ⟨#[c]⟩
theorem sgn_len (x : Str) : (sgn x).length = x.cps.size := by unfold sgn; rw [List.length_map]; exact Array.length_toList
theorem sgn_get {x : Str} {i c : Nat} (h : x.cps[i]? = some c) : (sgn x)[i]? = some (.str ⟨#[c]⟩) := by
  unfold sgn
  rw [List.getElem?_map, Array.getElem?_toList, h]; rfl
theorem for_str {x : Str} {g : TG} {tb : TS} {D : Ends} {σ : L2.St} {H : Hp} (Pv : Nat → L2.St → Hp → Prop) (h0 : Pv 0 σ H)
    (hs : ∀ i y σ H, (sgn x)[i]? = some y → Pv i σ H → g y σ H fun σ2 H2 => tb { D with nx := Pv (i + 1), ct := Pv (i + 1), bk := D.nx } σ2 H2) (hd : ∀ σ H, Pv (sgn x).length σ H → D.nx σ H) :
    ∃ W : Nat → Nat → L2.St → Hp → Prop, (∃ m, W 0 m σ H) ∧ ∀ i m σ H, W i m σ H →
      ((Its x).stop i H ∧ D.nx σ H) ∨ ((Its x).go i H ∧ ∃ N : L2.St → Hp → Prop, (∀ σ' H', N σ' H' → ∃ m', m' < m ∧ W (i + 1) m' σ' H') ∧ ∀ y H', (Its x).yld i H y H' → g y σ H' fun σ2 H2 => tb { D with nx := N, ct := N, bk := D.nx } σ2 H2) := by
  refine ⟨fun i m σ H => m = (sgn x).length - i ∧ i ≤ (sgn x).length ∧ Pv i σ H, ⟨(sgn x).length, by simp, Nat.zero_le _, h0⟩, ?_⟩
  rintro i m σ H ⟨rfl, hi, p⟩
  by_cases hlt : i < (sgn x).length
  · refine .inr ⟨by rw [sgn_len] at hlt; exact hlt, Pv (i + 1), fun σ' H' p' => ⟨(sgn x).length - (i + 1), by omega, rfl, hlt, p'⟩, fun y H' q => ?_⟩
    obtain ⟨e, c, hc, rfl⟩ := q
    subst e
    exact hs i _ σ _ (sgn_get hc) p
  · have e : i = (sgn x).length := by omega
    subst e
    exact .inl ⟨by rw [sgn_len]; exact Nat.le_refl _, hd σ H p⟩
theorem lc_str {x : Str} {g : TG} {tt : TT} {te : TE} {vs : List Nat} {σ : L2.St} {H1 : Hp} {D : Addr} {Qd : Hp → Prop} (Pv : Nat → Hp → Prop) (h0 : Pv 0 (upd H1 D (.lst [])))
    (hs : ∀ i y H, (sgn x)[i]? = some y → Pv i H → g y (wipe σ vs) H fun σ2 H2 => wipe σ2 vs = wipe σ vs ∧ tt σ2 H2 fun b H3 =>
      if b = true then te σ2 H3 fun y H4 => ∃ acc, H4 D = some (.lst acc) ∧ acc.length < sizeLine ∧ Pv (i + 1) (upd H4 D (.lst (acc ++ [y]))) else Pv (i + 1) H3) (hd : ∀ H, Pv (sgn x).length H → Qd H) :
    ∃ W : Nat → Nat → Hp → Prop, (∃ m, W 0 m (upd H1 D (.lst []))) ∧ ∀ i m H, W i m H →
      ((Its x).stop i H ∧ Qd H) ∨ ((Its x).go i H ∧ ∃ Nx : Hp → Prop, (∀ H', Nx H' → ∃ m', m' < m ∧ W (i + 1) m' H') ∧ ∀ y H', (Its x).yld i H y H' → g y (wipe σ vs) H' fun σ2 H2 => wipe σ2 vs = wipe σ vs ∧ tt σ2 H2 fun b H3 =>
        if b = true then te σ2 H3 fun y H4 => ∃ acc, H4 D = some (.lst acc) ∧ acc.length < sizeLine ∧ Nx (upd H4 D (.lst (acc ++ [y]))) else Nx H3) := by
  refine ⟨fun i m H => m = (sgn x).length - i ∧ i ≤ (sgn x).length ∧ Pv i H, ⟨(sgn x).length, by simp, Nat.zero_le _, h0⟩, ?_⟩
  rintro i m H ⟨rfl, hi, p⟩
  by_cases hlt : i < (sgn x).length
  · refine .inr ⟨by rw [sgn_len] at hlt; exact hlt, Pv (i + 1), fun H' p' => ⟨(sgn x).length - (i + 1), by omega, rfl, hlt, p'⟩, fun y H' q => ?_⟩
    obtain ⟨e, c, hc, rfl⟩ := q
    subst e
    exact hs i _ _ (sgn_get hc) p
  · have e : i = (sgn x).length := by omega
    subst e
    exact .inl ⟨by rw [sgn_len]; exact Nat.le_refl _, hd H p⟩
end L2
set_option maxHeartbeats 2000000
namespace PySem
open Sem (wp)
section
variable {prog : Program} {w : World} {A : Around} {E : Value → Shared → Prop} {s : Shared} {d : Addr}
theorem meets_len_H (hd : (d == sysModules) = false) :
    MeetsIn prog w (Builtin.«dict.__len__» ⟨[.ref d], []⟩) (fun _ R s => ∃ o es ep, s.heap.get? d = some o ∧ o.data = .dict es ep ∧ R (.ok (.ret (.int (es.size : Nat) s.toks))) { s with toks := s.toks + 1 }) :=
  .of_wp fun A R s ⟨o, es, ep, ho, hdat, h⟩ => by
    show wpAny _ _ (dictSize d >>= _) _ _ s
    unfold dictSize
    refine wpAny_bind (wpAny_bind (wpAny_dictEntries ho hdat (wpAny_pure ?_)))
    show wpAny _ _ (Builtin.Dict.pendingCount d >>= _) _ _ s
    refine wpAny_bind (wpAny_pendingCount_other hd ?_)
    refine wpAny_ret_mkInt ?_
    rw [Nat.add_zero]; exact h
theorem len_body_H {o : Obj} {es : Array DictEntry} {ep : Nat} {Q : Value → Shared → Prop} (hd : (d == sysModules) = false) (ho : s.heap.get? d = some o) (hx : o.ExactDict) (hdat : o.data = .dict es ep) (hfit : (es.size : Int) < 2 ^ 63)
    (h : Q (.int (es.size : Nat) (s.toks + 1)) { s with toks := s.toks + 1 + 1 }) : wpAny (model prog w) A (Builtin.«len» ⟨[.ref d], []⟩) (fun fin s' => ∃ r, fin = .done (.ret r) ∧ Q r s') E s := by
  have ty : s.TypeIs (.ref d) "dict" := ⟨o, ho, hx.1⟩
  unfold Builtin.«len»
  refine wpAny_bind (m := oneArg "len" _) (wpAny_pure ?_)
  refine wpAny_bind (m := callSpecial? (.ref d) (Str.ofString "__len__")) (wpAny_callSpecial?_slot (name := Str.ofString "__len__") ty F.slot_dict_len
    (call_meetsIn F.slot_dict_len ty F.entry_dict_len (F.args_dict_len_1 _) (meets_len_H hd) ⟨o, es, ep, ho, hdat, ?_⟩))
  show wpAny _ _ _ _ _ { s with toks := s.toks + 1 }
  refine wpAny_bind (wpAny_holding (wpAny_pure ?_))
  refine wpAny_bind (wpAny_letGo ?_)
  show wpAny _ _ (if ((es.size : Nat) : Int) < 0 then _ else _) _ _ _
  rw [if_neg (by omega)]
  show wpAny _ _ (if ((es.size : Nat) : Int) ≥ 2 ^ 63 then _ else _) _ _ _
  rw [if_neg (by omega)]
  exact wpAny_bind (wpAny_mkInt (wpAny_pure ⟨_, rfl, h⟩))
theorem call_len_H {o : Obj} {es : Array DictEntry} {ep : Nat} {Q : Value → Shared → Prop} (hd : (d == sysModules) = false) (ho : s.heap.get? d = some o) (hx : o.ExactDict) (hdat : o.data = .dict es ep) (hfit : (es.size : Int) < 2 ^ 63)
    (h : Q (.int (es.size : Nat) (s.toks + 1)) { s with toks := s.toks + 1 + 1 }) : wpAny (model prog w) A (call (.builtin "len") [.ref d]) Q E s :=
  Calls.call_function_entry kind_len plain_len entry_len (args_len1 _) (len_body_H hd ho hx hdat hfit h)
end
end PySem
namespace L2
open PySem PySem.Spec PyProof.Rows
theorem call_lenT {X : Cx} : CallR X (.builtin "len") (fun xs H Q => ∃ a kvs, xs = [V.ref a] ∧ H a = some (.dT kvs) ∧ Q (.int (kvs.length : Nat)) H) := by
  intro pins s σ H xs us Q I r h
  obtain ⟨a, kvs, rfl, ha, q⟩ := h
  obtain ⟨u, rfl, ru⟩ := vals1 r
  cases ru
  obtain ⟨z, y, xs, rel, o, es, ep, h1, h2, h3, h4, h5⟩ := (show ObjOk X.prog X.w H s.heap a (.dT kvs) from I.hok a _ ha)
  have hl : es.size = kvs.length := by rw [size_of_entries h4]; exact (Paired.length rel).symm
  refine call_len_H y h1 h2 h3 (by rw [hl]; rw [sizeLine_eq] at z; omega) ?_
  rw [hl]
  exact ⟨.int (kvs.length : Nat), H, (I.tok _).tok _, ⟨_, rfl⟩, q⟩
end L2
set_option maxHeartbeats 2000000
namespace L2
open PySem PySem.Spec PyProof.Rows TL
section
variable {X : Cx} {a b : Expr} {ta tb : TE} {pos p1 p2 p3 : Pos}
theorem mt_bitlen : MtR X "int.bit_length" (fun x xs H Q => ∃ i, x = .int i ∧ xs = [] ∧ Q (.int ((Builtin.Int.intBits i : Nat) : Int)) H) := by
  intro pins s σ H x xs v us Q I rx r h
  obtain ⟨i, rfl, rfl, q⟩ := h
  obtain ⟨t, rfl⟩ := rx
  cases r
  exact call_int_bit_length ⟨.int _, H, I.tok _, ⟨_, rfl⟩, q⟩
theorem Inv.dig {pins : List (Addr × Obj)} {σ : L2.St} {H : Hp} {s : Shared} (I : Inv X pins σ H s) : s.heap.NoDigits := I.ok.mod.digits.keeps I.bk
theorem call_strB (hc : X.calm = true) : CallR X (.type "str") (fun xs H Q => ∃ i : Int, xs = [.int i] ∧ i.natAbs < 10 ^ 4300 ∧ Q (.str (Str.ofString (toString i))) H) := by
  intro pins s σ H xs us Q I r h
  obtain ⟨i, rfl, hz, q⟩ := h
  obtain ⟨u, rfl, t, rfl⟩ := vals1 r
  exact str_of_int_or (I.ok.hd hc) I.dig (fun _ => ⟨.str _, H, I.tok _, ⟨_, rfl⟩, q⟩) (fun hge => absurd hz (Nat.not_lt.mpr hge))
def tFs (x : Str) (ta tb : TE) : TE := fun σ H Q => ta σ H fun u H1 => ∃ i : Int, u = .int i ∧ i.natAbs < 10 ^ 4300 ∧ (Str.ofString (toString i)).length + x.length ≤ sizeLine ∧ tb σ H1 fun v H2 => ∃ k : Int, v = .int k ∧ k.natAbs < 10 ^ 4300 ∧ (Str.ofString (toString i)).length + x.length + (Str.ofString (toString k)).length ≤ sizeLine ∧
  Q (.str (Str.ofString (toString i) ++ x ++ Str.ofString (toString k))) H2
theorem empty_app (y : Str) : Str.empty ++ y = y := by
  refine ext_tl ?_
  rw [tl_append]; rfl
theorem pe_fs {x : Str} {j : Nat} (hc : X.calm = true) (ha : PE X a ta) (hb : PE X b tb) :
    PE X (.JoinedStr [.FormattedValue a (-1) none p1, .Constant (.str x) j p2, .FormattedValue b (-1) none p3] pos) (tFs x ta tb) := by
  intro pins s σ H Q I h
  refine wpAny_JoinedStr ?_
  show wpAny _ _ (eval (.FormattedValue a (-1) none p1) X.env) _ _ s
  refine wpAny_FormattedValue_plain (thn (ha pins s σ H _ I h) fun u s1 ⟨xu, H1, I1, r1, i, hi, hlt, hl0, q1⟩ => ?_)
  subst hi
  obtain ⟨t, rfl⟩ := r1
  refine formatField_int (I1.ok.hd hc) I1.dig (fun _ => ?_) (fun hge => absurd hlt (Nat.not_lt.mpr hge))
  refine ⟨_, _, rfl, ?_, ?_⟩
  · rw [empty_app]; exact int_text_fits10 hlt
  have I2 := (I1.tok (s1.toks + 1 + 1))
  show wpAny _ _ (eval (.Constant (.str x) j p2) X.env) _ _ _
  refine Calls.Constant_str ?_
  refine ⟨_, _, rfl, ?_, ?_⟩
  · rw [empty_app, strLen_append]
    exact hl0
  show wpAny _ _ (eval (.FormattedValue b (-1) none p3) X.env) _ _ _
  have I3 := I2.tok (s1.toks + 1 + 1 + 1)
  refine wpAny_FormattedValue_plain (thn (hb pins _ σ H1 _ I3 q1) fun v s4 ⟨xv, H4, I4, r4, k, hk, hlk, hlen, q4⟩ => ?_)
  subst hk
  obtain ⟨t4, rfl⟩ := r4
  refine formatField_int (I4.ok.hd hc) I4.dig (fun _ => ?_) (fun hge => absurd hlk (Nat.not_lt.mpr hge))
  refine ⟨_, _, rfl, ?_, ?_⟩
  · rw [empty_app, strLen_append, strLen_append]; exact hlen
  · rw [empty_app]
    refine ⟨by rw [strLen_append, strLen_append]; exact hlen, .str _, H4, ?_, ⟨_, rfl⟩, q4⟩
    exact ((I4.tok (s4.toks + 1 + 1))).tok _
end
theorem tl_int (i : Int) : tl (Str.ofString (toString i)) = Ma.intL i := by
  unfold Ma.intL
  by_cases h : i < 0
  · rw [if_pos h, toString_neg h]
    have e : (0 : Int) - i = ((i.natAbs : Nat) : Int) := by omega
    rw [e, tl_ofString, String.toList_append, List.map_append]
    have e2 := tl_num i.natAbs
    rw [tl_ofString] at e2
    rw [e2]; rfl
  · rw [if_neg h]
    have e : i = ((i.natAbs : Nat) : Int) := by omega
    rw [e]
    exact tl_num _
end L2
set_option maxHeartbeats 4000000
namespace L2
open PySem PySem.Spec PyProof.Rows
section
variable {M : Model} {A : Around} {E : Value → Shared → Prop} {s : Shared}
theorem note_frame_eq {x : Value} {e1 e2 : Env} (h : e1.frame = e2.frame) : noteFrame x e1 = noteFrame x e2 := by
  unfold noteFrame PySem.frameOf
  rw [h]
theorem entryN {base : Heap} {env : Env} {outer : List Env} {L x : Addr} {oe : Obj} {vs : Array Value} {head : Value} {hadNext : Bool} {Q : Unit → Shared → Prop}
    (hfr : A.frames = some (env :: outer)) (hl : s.heap.FunFrames base (env :: outer)) (hf : env.frame = some L)
    (he : s.heap.get? x = some oe) (hd : oe.data = .fields vs) (hsz : 1 < vs.size)
    (h : ∀ h', Noted ((env :: outer).filterMap (·.frame)) x oe .none s.heap h' → Q () { s with heap := h' }) :
    wpAny M A (do let a ← frameOf env; let pl ← entryPlaceOf L hadNext; let b ← EntryCells.newEntry head a .none (rawInt L) .none pl; setField (.ref x) 1 b) Q E s := by
  have hene : x ∉ (env :: outer).filterMap (·.frame) := fun hm => by
    obtain ⟨_, o, ho, hnf⟩ := hl.mem hm
    rw [he] at ho; injection ho with ho; subst ho; exact hnf vs hd
  refine wpAny_bind (wpAny_frameOf_fun hfr hl hf fun h₁ hs₁ => ?_)
  refine wpAny_bind (wpAny_entryPlaceOf fun pl hpl => ?_)
  unfold EntryCells.newEntry newFields
  refine wpAny_bind (wpAny_newObj_type ?_ (hpl.sizeOk5 _ _ _ _ _))
  have he₁ : h₁.get? x = some oe := (hs₁.2.1 x hene).trans he
  have he₂ := Heap.get?_push_of_some (h := h₁) { cls := .type "traceback", dict := none, data := .fields ([head, .ref L, .none, rawInt L, .none] ++ (if pl.isEmpty then List.replicate 6 Value.none else pl)).toArray } he₁
  have hTe : h₁.objs.size ≠ x := Nat.ne_of_gt (Heap.lt_size he₁)
  have hd₃ := Obj.data_mapFields hd (·.setIfInBounds 1 (Value.ref h₁.objs.size))
  have he₃ := Heap.get?_update_self (Obj.mapFields (·.setIfInBounds 1 (Value.ref h₁.objs.size))) he₂ (Obj.isFreed_of_fields hd₃)
  have hT₃ := (Heap.get?_update_other (h₁.push { cls := .type "traceback", dict := none, data := .fields ([head, .ref L, .none, rawInt L, .none] ++ (if pl.isEmpty then List.replicate 6 Value.none else pl)).toArray })
    (Obj.mapFields (·.setIfInBounds 1 (Value.ref h₁.objs.size))) (Ne.symm hTe)).trans (Heap.get?_push_size h₁ rfl)
  refine wpAny_setField he₂ hd hsz (h _ ?_)
  have keep : ∀ b o, b ≠ x → h₁.get? b = some o →
      ((h₁.push { cls := .type "traceback", dict := none, data := .fields ([head, .ref L, .none, rawInt L, .none] ++ (if pl.isEmpty then List.replicate 6 Value.none else pl)).toArray }).update x (Obj.mapFields (·.setIfInBounds 1 (Value.ref h₁.objs.size)))).get? b = some o := fun b o hbe hb => by
    rw [Heap.get?_update_other _ _ (Ne.symm hbe)]
    exact Heap.get?_push_of_some _ hb
  refine ⟨⟨_, _, h₁.objs.size, _, _, he₃, Obj.cls_mapFields _ _, ?_, hd₃, by simp [hsz], hTe, hT₃, rfl, ?_, .inl ?_⟩, fun b o hb _ hbf e => keep b o hb ((hs₁.2.1 b hbf).trans e), fun b o hb _ e => ?_, fun b o e => ?_⟩
  · obtain ⟨c, d, dt, sl⟩ := oe; cases dt <;> rfl
  · simp only [List.size_toArray, List.length_append, List.length_cons, List.length_nil]; omega
  · exact Heap.get?_none_of_le (by rw [hs₁.1]; exact Nat.le_refl _)
  · obtain ⟨sl, hs⟩ := hs₁.2.2 b o e
    exact ⟨sl, keep b _ hb hs⟩
  · by_cases hb : b = x
    · subst hb; exact ⟨_, he₃⟩
    · obtain ⟨sl, hs⟩ := hs₁.2.2 b o e
      exact ⟨_, keep b _ hb hs⟩
theorem flightN {x T : Addr} {oe oT : Obj} {vs ts : Array Value} {fs : List Addr} {fr : Option Addr} {Q : Unit → Shared → Prop} (he : s.heap.get? x = some oe) (hd : oe.data = .fields vs) (h1 : vs[1]? = some (.ref T)) (hTe : T ≠ x)
    (hT : s.heap.get? T = some oT) (hdT : oT.data = .fields ts) (hsz : 3 < ts.size) (h : ∀ h', Noted fs x oe (.ref T) s.heap h' → Q () { s with heap := h' }) : wpAny M A (setFlight (.ref x) fr) Q E s := by
  unfold setFlight
  refine wpAny_bind (wpAny_field he hd h1 ?_)
  rw [if_pos (show (Value.ref T != Value.none) = true from by simp)]
  have other : ∀ b, b ≠ T → (s.heap.update T (Obj.mapFields (·.setIfInBounds 3 (fr.elim Value.none fun f => rawInt f)))).get? b = s.heap.get? b :=
    fun b hb => Heap.get?_update_other _ _ (Ne.symm hb)
  have self' := Heap.get?_update_self (Obj.mapFields (·.setIfInBounds 3 (fr.elim Value.none fun f => rawInt f))) hT (Obj.isFreed_of_fields (Obj.data_mapFields hdT _))
  refine wpAny_setField hT hdT hsz (h _ ⟨⟨oe, vs, T, _, _, (other x (Ne.symm hTe)).trans he, rfl, rfl, hd, h1, hTe, self', Obj.data_mapFields hdT _, by rw [Array.size_setIfInBounds]; exact hsz, .inr rfl⟩, fun b o hb ho _ e => (other b fun q => ho (by rw [q])).trans e, fun b o hb ho e => ⟨o.slots, (other b fun q => ho (by rw [q])).trans e⟩, fun b o e => ?_⟩)
  by_cases hb : b = T
  · subst hb; exact ⟨_, self'⟩
  · exact ⟨o, (other b hb).trans e⟩
theorem noteN {base : Heap} {env : Env} {outer : List Env} {L x : Addr} {oe : Obj} {vs : Array Value} {Q : Unit → Shared → Prop}
    (hfr : A.frames = some (env :: outer)) (hl : s.heap.FunFrames base (env :: outer)) (hf : env.frame = some L)
    (he : s.heap.get? x = some oe) (hd : oe.data = .fields vs) (h1 : TbOk s.heap x vs)
    (h : ∀ h' old, vs[1]? = some old → Noted ((env :: outer).filterMap (·.frame)) x oe old s.heap h' → Q () { s with heap := h' }) :
    wpAny M A (noteFrame (.ref x) env) Q E s := by
  rcases h1 with h1 | ⟨T, oT, ts, h1, hTe, hT, hdT, hsz⟩
  · unfold noteFrame
    simp only [hf]
    refine wpAny_bind (wpAny_field he hd h1 ?_)
    rw [if_neg (by decide)]
    exact entryN hfr hl hf he hd (Array.getElem?_eq_some_iff.mp h1).1 fun h' n => h h' _ h1 n
  · by_cases hr : (ts[3]'hsz == rawInt L) = true
    · unfold noteFrame
      simp only [hf]
      refine wpAny_bind (wpAny_field he hd h1 ?_)
      rw [if_pos (show (Value.ref T != Value.none) = true from by simp)]
      refine wpAny_bind (wpAny_field hT hdT (Array.getElem?_eq_getElem hsz) ?_)
      rw [if_pos hr]
      refine wpAny_pure (h s.heap _ h1 ⟨⟨oe, vs, T, oT, ts, he, rfl, rfl, hd, h1, hTe, hT, hdT, hsz, .inr rfl⟩, fun b o _ _ _ e => e, fun b o _ _ e => ⟨o.slots, e⟩, fun b o e => ⟨o, e⟩⟩)
    · unfold noteFrame
      simp only [hf]
      refine wpAny_bind (wpAny_field he hd h1 ?_)
      rw [if_pos (show (Value.ref T != Value.none) = true from by simp)]
      refine wpAny_bind (wpAny_field hT hdT (Array.getElem?_eq_getElem hsz) ?_)
      rw [if_neg hr]
      refine wpAny_bind (wpAny_setField hT hdT hsz ?_)
      have other : ∀ b, b ≠ T → (s.heap.update T (Obj.mapFields (·.setIfInBounds 3 Value.none))).get? b = s.heap.get? b := fun b hb => Heap.get?_update_other _ _ (Ne.symm hb)
      have self' := Heap.get?_update_self (Obj.mapFields (·.setIfInBounds 3 Value.none)) hT (Obj.isFreed_of_fields (Obj.data_mapFields hdT _))
      have noRecord : ∀ b o, s.heap.get? b = some o → (∀ vs, o.data ≠ .fields vs) → b ≠ T := fun b o hb hnf q => by
        rw [q, hT] at hb; injection hb with hb; subst hb; exact hnf ts hdT
      have back : ∀ b o, s.heap.get? b = some o → ∃ o', (s.heap.update T (Obj.mapFields (·.setIfInBounds 3 Value.none))).get? b = some o' := fun b o e => by
        by_cases hb : b = T
        · subst hb; exact ⟨_, self'⟩
        · exact ⟨o, (other b hb).trans e⟩
      refine entryN (s := { s with heap := s.heap.update T (Obj.mapFields (·.setIfInBounds 3 Value.none)) }) hfr (hl.of_keeps fun b o hb hnf => ⟨o, (other b (noRecord b o hb hnf)).trans hb, rfl⟩) hf ((other x (Ne.symm hTe)).trans he) hd (Array.getElem?_eq_some_iff.mp h1).1 fun h' n => h h' (.ref T) h1 ?_
      obtain ⟨n1, n2, n3, n4⟩ := n
      refine ⟨?_, fun b o hb ho hbf e => n2 b o hb (by intro q; cases q) hbf ((other b fun q => ho (by rw [q])).trans e), fun b o hb ho e => n3 b o hb (by intro q; cases q) ((other b fun q => ho (by rw [q])).trans e), fun b o e => let ⟨o', e'⟩ := back b o e; n4 b o' e'⟩
      obtain ⟨oe', vs', T', oT', ts', q1, q2, q3, q4, q5, q6, q7, q8, q9, q10⟩ := n1
      refine ⟨oe', vs', T', oT', ts', q1, q2, q3, q4, q5, q6, q7, q8, q9, ?_⟩
      rcases q10 with q | q
      · refine .inl ?_
        cases z : s.heap.get? T' with
        | none => rfl
        | some o =>
          obtain ⟨o', e'⟩ := back _ _ z
          have q' : (s.heap.update T (Obj.mapFields (·.setIfInBounds 3 Value.none))).get? T' = none := q
          rw [e'] at q'; cases q'
      · cases q
end
section
variable {X : Cx}
theorem lc_coreX {E : XK} {pins : List (Addr × Obj)} {s : Shared} {σ : St} {H : Hp} {Q : VK} {elt tg iter : Expr} {ifs : List Expr} {scope : Scope} {own : List (Str × Nat)} {pos pos' : Pos} {wi : TI} {g : TG} {tt : TT} {te : TE} {use : Option (Value → Sem Unit)} {Qf : Value → Shared → Prop}
    (hT : Thr X E) (hst : X.stack = X.env :: X.outer) (hfr : X.env.frame = some X.env.locals) (hex : X.ex = []) (hc : X.calm = true) (hN : X.N.Nodup) (I : Inv X pins σ H s) (hi : PI X tg iter wi) (ok : BlkOk X.N X.env.scope scope own)
    (hg : ∀ (s : Shared) (H : Hp) (C : Addr) (cl : List (Str × Addr)) (fp : List Addr), PG (X.blk s H scope (compEnvC scope cl C X.env) fp) tg g) (ht : ∀ (s : Shared) (H : Hp) (C : Addr) (cl : List (Str × Addr)) (fp : List Addr), PTs (X.blk s H scope (compEnvC scope cl C X.env) fp) ifs tt)
    (he : ∀ (s : Shared) (H : Hp) (C : Addr) (cl : List (Str × Addr)) (fp : List Addr) (xe : Value → Shared → Prop) (pn : List (Addr × Obj)), Passes (cxX X.prog X.w) ((X.blk s H scope (compEnvC scope cl C X.env) fp).tryb xe pn) E → PE ((X.blk s H scope (compEnvC scope cl C X.env) fp).tryb xe pn) elt te) (hs : ∀ x, foldedSetIterable iter X.env x = pure x)
    (h : tLc wi g tt te (own.map (·.2)) σ H Q)
    (hRR : ∀ D C s' m H', Inv X pins σ H' s' → Q (.ref D) H' → s'.heap.Ns C m → FpOk X pins H' C → compPost (model X.prog X.w) X.A X.xe use Qf (.ref D) C (.ok .next) s') :
    wpAny (model X.prog X.w) X.A (comprehension (.ListComp elt [⟨tg, iter, ifs, 0⟩] scope pos) scope X.env pos' (newList []) false (eval iter X.env) use) Qf X.xe s := by
  have hfree : ∀ y ∈ scope.names, y.2 = .free → ∃ c, X.env.cells.lookup y.1 = some c := fun y hy e => by
    rcases ok.free y hy e with k | k
    · exact I.ok.has _ (.inl k)
    · exact I.ok.has _ (.inr k)
  refine wpAny_comprehension_free (use := use) rfl hs (closure_ok hfree) ok.kind (fun y hy e => by rw [ok.uniq y hy, e])
    (thn (hi pins s σ H _ I h) fun xv s1 hx => thn hx fun itv s2 h2 => ?_)
  obtain ⟨it, fp, tn, J, H2, e, I2, T, st2, f2, q⟩ := h2
  subst e
  refine wpAny_newObj_type (newEnv_comp ?_) (by show 0 ≤ sizeLine; decide)
  generalize hD : s2.heap.objs.size = D
  have hDn : H2 D = none := I2.hok.fresh (Nat.le_of_eq hD)
  obtain ⟨W, ⟨m0, w0⟩, turn⟩ := q D hDn
  generalize hs3 : ({ s2 with heap := s2.heap.push { cls := .type "list", data := .seq ([] : List Value).toArray } } : Shared) = s3
  have I3 : Inv X pins σ (upd H2 D (.lst [])) s3 := by
    rw [← hs3]
    refine I2.laid (t' := s2.toks) (fun b o e => Heap.get?_push_of_some _ e) (Nat.le_of_eq hD) ⟨Nat.zero_le _, [], 0, .nil, ?_⟩
    rw [← hD]
    exact Heap.get?_push_size _ rfl
  have h3 : s3.heap = s2.heap.push { cls := .type "list", data := .seq ([] : List Value).toArray } := by rw [← hs3]
  have sz : ∀ b ∈ fp, b < s2.heap.objs.size := fun b hb => by
    obtain ⟨o, e, _⟩ := T.obj _ _ st2 b hb
    exact Heap.lt_size e
  have f3 : ∀ b ∈ fp, FpOk X pins (upd H2 D (.lst [])) b ∧ b < s3.heap.objs.size := fun b hb => by
    have hlt := sz b hb
    refine ⟨⟨?_, (f2 b hb).2⟩, by rw [h3, Heap.size_push]; exact Nat.lt_succ_of_lt hlt⟩
    rw [upd_ne (by rw [← hD]; exact Nat.ne_of_lt hlt)]
    exact (f2 b hb).1
  have st3 : tn 0 s3.heap := T.keep _ _ _ st2 fun b _ o e => by rw [h3]; exact Heap.get?_push_of_some _ e
  have I4 := block_start I3 ok hN f3
  have pg := hg s3 (upd H2 D (.lst [])) s3.heap.objs.size (cellsFrom (s3.heap.objs.size + 1) scope.names (cloFrom X.env.cells scope.names [])) fp
  have pt := ht s3 (upd H2 D (.lst [])) s3.heap.objs.size (cellsFrom (s3.heap.objs.size + 1) scope.names (cloFrom X.env.cells scope.names [])) fp
  have pe := he s3 (upd H2 D (.lst [])) s3.heap.objs.size (cellsFrom (s3.heap.objs.size + 1) scope.names (cloFrom X.env.cells scope.names [])) fp
  show codeAny _ _ (.compStart (.ListComp elt [⟨tg, iter, ifs, 0⟩] scope pos) 0 (.ref it) (.ref D) (compEnvC scope (cellsFrom (s3.heap.objs.size + 1) scope.names (cloFrom X.env.cells scope.names [])) s3.heap.objs.size X.env)) (compPost (model X.prog X.w) X.A X.xe use Qf (.ref D) s3.heap.objs.size) { s3 with heap := pushCells (s3.heap.push { cls := .type "dict", data := .dict #[] }) scope.names }
  have nfp : ∀ b ∈ fp, (upd H2 D (.lst [])) b = none := fun b hb => (f3 b hb).1.1
  generalize hce : compEnvC scope (cellsFrom (s3.heap.objs.size + 1) scope.names (cloFrom X.env.cells scope.names [])) s3.heap.objs.size X.env = ce at I4 pg pt pe ⊢
  have cL : ce.locals = s3.heap.objs.size := by subst hce; rfl
  generalize hH3 : upd H2 D (.lst []) = H3 at I3 I4 pg pt pe w0 nfp f3
  generalize hs4 : ({ s3 with heap := pushCells (s3.heap.push { cls := .type "dict", data := .dict #[] }) scope.names } : Shared) = s4 at I4 ⊢
  have st4 : tn 0 s4.heap := T.keep _ _ _ st3 fun b _ o e => by rw [← hs4]; exact pushCells_keeps _ _ _ _ (Heap.get?_push_of_some _ e)
  have stat : ∀ {σ' : St} {H' : Hp} {s' : Shared}, Inv (X.blk s3 H3 scope ce fp) [] σ' H' s' → (∀ b ∈ fp, H' b = none) → ∀ b ∈ fp, FpOk (X.blk s3 H3 scope ce fp) [] H' b := fun {σ' H' s'} I' hn b hb =>
    ⟨hn b hb, (I'.ok.exf b hb).1, I'.ok.exfs b hb, .inl hb, fun x c e => (I'.ok.exf b hb).2 x c e, fun p hp => absurd (show p ∈ ([] : List (Addr × Obj)) ++ [] from hp) (by simp)⟩
  have cF : ce.frame = X.env.frame := by subst hce; rfl
  have pass : ∀ pn : List (Addr × Obj), (∀ b ∈ fp, ∃ o, (b, o) ∈ pn) → Passes (cxX X.prog X.w) ((X.blk s3 H3 scope ce fp).tryb (notedBy (model X.prog X.w) X.A ce fun e s' => compPost (model X.prog X.w) X.A X.xe use Qf (.ref D) s3.heap.objs.size (.error e) s') pn) E := by
    rintro pn hpn pins' σ' H' s' e s'' I' ⟨x, cls, od, H'', rfl, os, bare, un, hok, fl, hE⟩
    have K' : Inv (X.blk s3 H3 scope ce fp) pn σ' H' s' := Inv.untryb I4.ok I'
    have J : Inv (X.blk s3 H3 scope ce fp) pn σ' H'' s'' := K'.call' os un hok bare (ch := []) fun b z => absurd z (by simp)
    have I7 : Inv X pins σ H'' s'' := I3.call' (ch := fp) J.os J.base J.hok J.bare fun b hb => ⟨(f3 b hb).1.2.2.2.1, (f3 b hb).1.2.1, (f3 b hb).1.2.2.2.2.1, (f3 b hb).1.2.2.2.2.2⟩
    have ks3 : ∀ b o, s3.heap.get? b = some o → ∃ o', s'.heap.get? b = some o' := fun b o q => by
      by_cases hb : b ∈ fp
      · obtain ⟨o', ho'⟩ := hpn b hb
        exact ⟨o', (K'.pin (b, o') (List.mem_append_right _ ho')).1⟩
      · exact K'.base.there b o q hb
    have fl3 : Fly s3.heap H'' s''.heap x cls od := fl.mono (none_of_there ks3)
    have ks : ∀ b o, s3.heap.get? b = some o → ∃ o', s''.heap.get? b = some o' := fun b o q => let ⟨o', q'⟩ := ks3 b o q; un.there b o' q' (by simp)
    obtain ⟨oe, vs, he', hcl, hdd, hd, tb⟩ := id fl.obj
    have hF : s''.heap.FunFrames X.base (X.env :: X.outer) := by rw [← hst]; exact I7.stack
    have hfs : ∀ b, b ∈ (X.env :: X.outer).filterMap (·.frame) → b ∈ frs X.stack := fun b hb => by rw [hst]; exact hb
    have nC : H'' s3.heap.objs.size = none := by
      have z : H'' ce.locals = none := J.free
      rw [cL] at z
      exact z
    obtain ⟨mC, hnC', _⟩ := J.loc
    have hnC : s''.heap.Ns s3.heap.objs.size mC := by rw [← cL]; exact hnC'
    obtain ⟨mK, hnK', _⟩ := K'.loc
    have hnK : s'.heap.Ns s3.heap.objs.size mK := by rw [← cL]; exact hnK'
    obtain ⟨oC, esC, epC, hoC, rC⟩ := hnC
    obtain ⟨oK, _, _, hoK, _⟩ := hnK
    have Cx' : s3.heap.objs.size ≠ x := fun z => by rw [z, fl.new] at hoK; cases hoK
    have CF : s3.heap.objs.size ∉ (X.env :: X.outer).filterMap (·.frame) := fun hb => by
      rcases List.mem_cons.mp (I3.stkSub _ (hfs _ hb)) with z | z
      · exact Nat.lt_irrefl _ (z ▸ I3.lt)
      · exact I3.nofs (Nat.le_refl _) z
    show wpAny _ _ (noteFrame (.ref x) ce) _ _ s''
    rw [note_frame_eq cF]
    refine noteN (I7.ok.frames.trans (congrArg some hst)) hF hfr he' hd (tb.imp id fun ⟨T, oT, ts, q1, q2, q3, q4, q5, _⟩ => ⟨T, oT, ts, q1, q2, q3, q4, q5⟩) fun h1 old ho N => ?_
    have oldC : old ≠ .ref s3.heap.objs.size := fun z => by
      rcases tb with q | ⟨T, oT, ts, q1, q2, q3, q4, q5, q6, q7⟩
      · rw [ho, z] at q; cases q
      · rw [ho, z] at q1; cases q1; rw [q7] at hoK; cases hoK
    obtain ⟨I8, f8⟩ := fly_noted hfs hex I3 I7 fl3 he' hd ho N ks
    have hC1 : h1.get? s3.heap.objs.size = some oC := N.keep _ _ Cx' oldC CF hoC
    obtain ⟨oe1, vs1, T1, oT1, ts1, q1, q2, q3, q4, q5, q6, q7, q8, q9, q10⟩ := N.obj
    have T1C : T1 ≠ s3.heap.objs.size := fun z => by
      rcases q10 with q | q
      · rw [z, hoC] at q; cases q
      · exact oldC (by rw [q, z])
    refine ⟨mC, ⟨oC, esC, epC, hC1, rC⟩, fun h2 sb cenv' hcl' => ?_⟩
    obtain ⟨z0, z1, z2, z3, z4, z5⟩ := I3.fpOk (Nat.le_refl _) nC
    have I9 : Inv X pins σ H'' { s'' with heap := h2 } := I8.turned (t' := s''.toks) (fun b o hb e => (sb.2 b hb).trans e) z0 z1 z3 z4 z5
    have x2 : h2.get? x = some oe1 := (sb.2 x (fun z => Cx' z.symm)).trans q1
    have t2 : h2.get? T1 = some oT1 := (sb.2 T1 T1C).trans q7
    have ks2 : ∀ b o, s3.heap.get? b = some o → ∃ o', h2.get? b = some o' := fun b o q => by
      have hb : b ≠ s3.heap.objs.size := Nat.ne_of_lt (Heap.lt_size q)
      obtain ⟨o1, e1⟩ := ks b o q
      obtain ⟨o2, e2⟩ := N.there b o1 e1
      exact ⟨o2, (sb.2 b hb).trans e2⟩
    have f9 : Fly s3.heap H'' h2 x cls od := by
      obtain ⟨g1, g2, oe', vs', e1, e2, e3, e4, e5⟩ := f8
      have : oe' = oe1 := Option.some.inj (e1.symm.trans q1)
      subst this
      have hv : vs' = vs1 := by
        have := e4.symm.trans q4
        injection this
      subst hv
      rcases e5 with e5 | ⟨T', oT', ts', u1, u2, u3, u4, u5, u6, u7⟩
      · rw [q5] at e5; cases e5
      · have hT' : T1 = T' := by
          have := q5.symm.trans u1
          injection this with this
          injection this
        subst hT'
        exact ⟨g1, g2, oe', vs', x2, e2, e3, e4, .inr ⟨T1, oT1, ts1, q5, q6, t2, q8, q9, u6, u7⟩⟩
    unfold PySem.passOn
    refine wpAny_bind (wpAny_field x2 q4 q5 ?_)
    rw [if_neg (show ¬ ((Value.ref T1 == Value.none) = true) by simp)]
    refine wpAny_bind (flightN (fs := (X.env :: X.outer).filterMap (·.frame)) x2 q4 q5 q6 t2 q8 q9 fun h3 N3 => ?_)
    obtain ⟨I10, f10⟩ := fly_noted hfs hex I3 I9 f9 x2 q4 q5 N3 ks2
    refine wpAny_throw ?_
    exact hT pins σ H3 s3 σ H'' _ x cls od I3 I10 (fun b o q => let ⟨o', e'⟩ := ks2 b o q; N3.there b o' e') f10 hE
  have loop : codeAny (model X.prog X.w) X.A (.compLoop (.ListComp elt [⟨tg, iter, ifs, 0⟩] scope pos) 0 (.ref it) (.ref D) ce) (compPost (model X.prog X.w) X.A X.xe use Qf (.ref D) s3.heap.objs.size) s4 := by
    refine compLoop_any (fun n s' => ∃ i H', Inv (X.blk s3 H3 scope ce fp) [] (wipe σ (own.map (·.2))) H' s' ∧ tn i s'.heap ∧ (∀ b ∈ fp, H' b = none) ∧ W i n H') ?_ m0 ⟨0, H3, I4, st4, nfp, w0⟩
    rintro n s5 ⟨i, H5, I5, st5, n5, w5⟩
    rcases turn i n H5 w5 with ⟨stop, qq⟩ | ⟨go, Nx, hNx, step⟩
    · have td := T.done (X.blk s3 H3 scope ce fp) rfl rfl rfl hc i [] s5 _ H5 (fun _ _ => False) I5 (stat I5 n5) st5 stop
      refine thnF td fun r s6 ⟨hr, I6⟩ => ?_
      subst hr
      have I7 : Inv X pins σ H5 s6 := I3.call' (ch := fp) I6.os I6.base I6.hok I6.bare fun b hb => ⟨(f3 b hb).1.2.2.2.1, (f3 b hb).1.2.1, (f3 b hb).1.2.2.2.2.1, (f3 b hb).1.2.2.2.2.2⟩
      have nC : H5 s3.heap.objs.size = none := by
        have z : H5 ce.locals = none := I6.free
        rw [cL] at z
        exact z
      obtain ⟨m, hn, _⟩ := I6.loc
      have hn : s6.heap.Ns ce.locals m := hn
      rw [cL] at hn
      exact hRR D s3.heap.objs.size s6 m H5 I7 qq hn (I3.fpOk (Nat.le_refl _) nC)
    · have ti := T.item (X.blk s3 H3 scope ce fp) rfl rfl rfl hc i [] s5 _ H5 (fun _ _ => False) I5 (stat I5 n5) st5 go
      refine thnF ti fun r s6 ⟨u, hr, h6⟩ => ?_
      subst hr
      refine thnF h6 fun _ s7 ⟨x, H7, I7, r7, y7, st7, n7⟩ => ?_
      have I7' := I7.pinned (stat I7 n7) (T.obj _ _ st7)
      refine thnF (pg _ s7 _ H7 x u _ I7' r7 (step x H7 y7)) fun _ s8 ⟨σ8, H8, I8, hw8, q8⟩ => ?_
      refine thnF (pt _ s8 σ8 H8 _ I8 q8) fun b s9 ⟨H9, I9, q9⟩ => ?_
      have fin : ∀ {s' : Shared} {H' : Hp}, Inv (X.blk s3 H3 scope ce fp) ([] ++ pinsAt fp s7.heap) σ8 H' s' → Nx H' → ∃ m, m < n ∧ ∃ i H', Inv (X.blk s3 H3 scope ce fp) [] (wipe σ (own.map (·.2))) H' s' ∧ tn i s'.heap ∧ (∀ b ∈ fp, H' b = none) ∧ W i m H' := fun {s' H'} I' nx => by
        obtain ⟨m', hm, w'⟩ := hNx H' nx
        have pin' : ∀ b ∈ fp, ∀ o, s7.heap.get? b = some o → s'.heap.get? b = some o ∧ H' b = none := fun b hb o e =>
          let z := I'.pin (b, o) (List.mem_append_right _ (List.mem_append_right _ (mem_pinsAt hb e)))
          ⟨z.1, z.2.1⟩
        have hl : (wipe σ (own.map (·.2))).length = σ8.length := by rw [← hw8, wipe_length]
        refine ⟨m', hm, i + 1, H', (I'.unpinned (pins := [])).weak hl (fun j v e => ?_), T.keep _ _ _ st7 fun b hb o e => (pin' b hb o e).1, fun b hb => ?_, w'⟩
        · rw [← hw8] at e
          exact (wipe_some e).1
        · obtain ⟨o, e, _⟩ := T.obj _ _ st7 b hb
          exact (pin' b hb o e).2
      cases b with
      | false =>
        simp only [Bool.false_eq_true, if_false] at q9 ⊢
        exact fin I9 q9
      | true =>
        simp only [if_true] at q9 ⊢
        have pe := pe _ (pinsAt fp s7.heap) (pass (pinsAt fp s7.heap) fun b hb => let ⟨o, e, _⟩ := T.obj _ _ st7 b hb; ⟨o, mem_pinsAt hb e⟩)
        have I9' : Inv (X.blk s3 H3 scope ce fp) (pinsAt fp s7.heap) σ8 H9 s9 := I9
        refine thn (pe _ s9 σ8 H9 _ I9'.tryb q9) fun z s10 ⟨yv, H10, I10', r10, acc, hD10, hz10, nx⟩ => ?_
        have I10 : Inv (X.blk s3 H3 scope ce fp) ([] ++ pinsAt fp s7.heap) σ8 H10 s10 := Inv.untryb I4.ok I10'
        exact app_ok (X := X.blk s3 H3 scope ce fp) I10 hD10 hz10 r10 fun s11 I11 => fin I11 nx
  exact codeAny_compStart_list loop (T.self X.A 0 _ _ _ st4 loop)
theorem ps_setLcX {E : XK} {i : Nat} {y : Str} {py : Pos} {elt tg iter : Expr} {ifs : List Expr} {scope : Scope} {own : List (Str × Nat)} {pos spos : Pos} {wi : TI} {g : TG} {tt : TT} {te : TE} (hT : Thr X E) (hst : X.stack = X.env :: X.outer) (hfr : X.env.frame = some X.env.locals) (hex : X.ex = []) (hc : X.calm = true) (hN : X.N.Nodup) (hy : X.N[i]? = some y) (hyl : X.env.scope.names.lookup y = some .local)
    (hsw : swapsWith (.ListComp elt [⟨tg, iter, ifs, 0⟩] scope pos) (some (.Name y py)) spos.line X.env = pure true) (hi : PI X tg iter wi) (ok : BlkOk X.N X.env.scope scope own)
    (hg : ∀ (s : Shared) (H : Hp) (C : Addr) (cl : List (Str × Addr)) (fp : List Addr), PG (X.blk s H scope (compEnvC scope cl C X.env) fp) tg g) (ht : ∀ (s : Shared) (H : Hp) (C : Addr) (cl : List (Str × Addr)) (fp : List Addr), PTs (X.blk s H scope (compEnvC scope cl C X.env) fp) ifs tt)
    (he : ∀ (s : Shared) (H : Hp) (C : Addr) (cl : List (Str × Addr)) (fp : List Addr) (xe : Value → Shared → Prop) (pn : List (Addr × Obj)), Passes (cxX X.prog X.w) ((X.blk s H scope (compEnvC scope cl C X.env) fp).tryb xe pn) E → PE ((X.blk s H scope (compEnvC scope cl C X.env) fp).tryb xe pn) elt te) (hs : ∀ x, foldedSetIterable iter X.env x = pure x := by intro _; rfl) :
    PS X (.Assign [.Name y py] (.ListComp elt [⟨tg, iter, ifs, 0⟩] scope pos) spos) (tAsg (tLc wi g tt te (own.map (·.2))) (gName i)) := by
  intro pins s σ H D I h
  rw [exec_Assign_Name_used _ _ _ _ hsw]
  refine wpAny_bind (wpAny_standAt (wpAny_bind ?_))
  show wpAny _ X.A (do let _ ← comprehension (.ListComp elt [⟨tg, iter, ifs, 0⟩] scope pos) scope X.env (firstIterPos [⟨tg, iter, ifs, 0⟩] pos) (newList []) false (eval iter X.env) (some (assign (.Name y py) X.env))) _ _ s
  have h : tLc wi g tt te (own.map (·.2)) σ H (fun x H1 => gName i x σ H1 D.nx) := h
  refine wpAny_bind (thn (lc_coreX (Qf := fun _ s' => SP X pins D .next s') hT hst hfr hex hc hN I hi ok hg ht he hs h fun L C s' m H' I' q hn f => ?_) fun _ s' hq => wpAny_pure (wpAny_pure hq))
  show wpAny _ _ (assign (.Name y py) X.env (.ref L)) _ _ _
  refine wpAny_assign_Name (store_ok2 (v := V.ref L) I' hN hy (.inl hyl) rfl (fun s2 I2 ⟨a, sb, ha⟩ => ?_) (.inr hyl))
  obtain ⟨f0, f1, f2, f3, f4, f5⟩ := f
  have haC : C ≠ a := by
    rcases ha with z | z
    · rw [z]; exact f1
    · exact fun e => f4 y a z e.symm
  refine ⟨m, hn.sameBut sb haC, fun h3 sb3 => ?_⟩
  exact ⟨_, H', I2.turned (t' := s2.toks) (fun b o hb e => (sb3.2 b hb).trans e) f0 f1 f3 f4 f5, q⟩
end
end L2
set_option maxHeartbeats 4000000
namespace L2
open PySem PySem.Spec PyProof.Rows
end L2
set_option maxHeartbeats 4000000
namespace L2
open PySem PySem.Spec PyProof.Rows
structure Cal (P : Program) (w : World) (K : PySem.W.Frag) (mg : Str → Option Value) (base : Heap) (k : Nat) (f : Addr) (Φ : Hp → Prop) (sp : Sp) : Prop where
  fn : ∀ (h : Heap) (H : Hp), K.In h → HOk P w H h → Φ H → ∃ q, (q = Keeper.frame ∨ q = Keeper.machine ∨ q = Keeper.boundFrame) ∧ PySem.W.Looks (model P w) h (keeperOf (.ref f)) q
  run : ∀ (A : Around) (outer : List Env) (s : Shared) (H : Hp) (us : List Value) (vs : List V) (Q : VK) (E : XK), Room k A → Env0 P w K mg base A outer s H → Φ H → Vals vs us → sp vs H Q E →
    codeAny (model P w) A (.call (.ref f) ⟨us, []⟩) (CR (cxX P w) outer P w H s Q E) s
section
variable {X : Cx} {k i : Nat} {x : Str} {E : XK} {p pos : Pos} {e : Expr} {es : List Expr} {t : TA}
def tCallV (P : Program) (w : World) (K : PySem.W.Frag) (mg : Str → Option Value) (base : Heap) (k i : Nat) (E : XK) (t : TA) : TE := fun σ H Q => ∃ f Φ sp, σ[i]? = some (some (.ref f)) ∧ Cal P w K mg base k f Φ sp ∧ t σ H fun vs H1 => Φ H1 ∧ sp vs H1 Q E
theorem pe_callv (hN : X.N[i]? = some x) (hv : Vis X.env.scope x) (hr : Room k X.A) (hx : Passes (cxX X.prog X.w) X E) (ha : PA X (e :: es) t) (hd : (x == ("__debug__" : Str)) = false := by decide) (hcd : (x == ("__classdict__" : Str)) = false := by decide)
    (he : starEach (e :: es) X.env = (false, eval e X.env) :: starEach es X.env := by rfl) (hpl : (backTo pos (starEach es X.env)).any (·.1) = false := by rfl) :
    PE X (.Call (.Name x p) (e :: es) [] pos) (tCallV X.prog X.w X.K X.mg X.base k i E t) := by
  intro pins s σ H Q I h
  obtain ⟨f, Φ, sp, hi, C, h⟩ := h
  refine wpAny_Call_Name_kw (thn (pe_var hN hv hd hcd pins s σ H (fun v H' => v = .ref f ∧ H' = H) I ⟨_, hi, rfl, rfl⟩) fun u s1 ⟨v, H1, I1, r, ev, eH⟩ => ?_)
  subst ev eH
  cases r
  have ev : wpAny (model X.prog X.w) X.A (spliced (backTo pos (starEach (e :: es) X.env))) (fun vs s₁ => (∃ q, (q = Keeper.frame ∨ q = Keeper.machine ∨ q = Keeper.boundFrame) ∧ PySem.W.Looks (model X.prog X.w) s₁.heap (keeperOf (.ref f)) q) ∧ wpAny (model X.prog X.w) X.A (call (.ref f) ([] ++ vs)) (EP X pins σ Q) X.xe s₁) X.xe s1 := by
    refine thn (ha pos pins s1 σ H1 _ I1 h) fun us s2 ⟨vs, H2, I2, r, hΦ, q⟩ => ⟨C.fn _ _ I2.kIn I2.hok hΦ, ?_⟩
    refine wpAny_call (codeAny_mono (C.run X.A X.stack s2 H2 us vs Q E hr I2.env0 hΦ r q) fun r s' hq => ?_)
    cases r with
    | error e => exact hx pins σ H2 s2 e s' I2 hq
    | ok fl =>
      cases fl with
      | ret u => exact I2.after hq
      | next => exact False.elim hq
      | brk => exact False.elim hq
      | cont => exact False.elim hq
  rw [he] at ev ⊢
  exact PySem.W.callWith_of (P := fun h => ∃ q, (q = Keeper.frame ∨ q = Keeper.machine ∨ q = Keeper.boundFrame) ∧ PySem.W.Looks (model X.prog X.w) h (keeperOf (.ref f)) q) (by show ((false || (backTo pos (starEach es X.env)).any (·.1)) || false) = false; rw [hpl]; rfl) (fun h z => z) (Calls.evalArgs_plain ev)
end
end L2
set_option maxHeartbeats 4000000
namespace L2
open PySem PySem.Spec PyProof.Rows
section
variable {X : Cx} {x C fI : Addr} {oe : Obj} {vs : Array Value} {names : List Str} {f : Str} {o : Expr} {pos : Pos} {to : TE}
def tXfld (x : Addr) (od : Option Addr) (to : TE) (f : Str) : TE := fun σ H Q => to σ H fun v H1 => v = .ref x ∧ ∃ d fs y, od = some d ∧ H1 d = some (xdO d fs) ∧ fs.lookup f = some y ∧ Q y H1
theorem pe_xfld (hp : (x, oe) ∈ X.pn) (hc : oe.cls = .ref C) (hd : oe.data = .fields vs) (c : XIni X.K C fI names) (hf : f ∈ names) (hB : typeLookup (.type "Exception") f = pure none) (he : PE X o to) (hb : attributeBase o f X.env (eval o X.env) = eval o X.env) :
    PE X (.Attribute o f pos) (tXfld x oe.dict to f) := by
  intro pins s σ H Q I h
  refine attr_of hb (thn (he pins s σ H _ I h) fun u s1 ⟨v, H1, I1, rx, ev, d, fs, y, ed, hx, hl, q⟩ => ?_)
  subst ev
  obtain rfl : u = Value.ref x := rx
  obtain ⟨cn, cq, Nc, cb, csn, csub, cab, ccol, cdd, p0, p1, p2, p3, p5, mC, hC, hN, _, hno⟩ := xInit_at I1.kIn c.ini
  obtain ⟨hx0, _, _, _, _⟩ := I1.pin (x, oe) (List.mem_append_left _ hp)
  obtain ⟨⟨mA, n, r, wi⟩, _, _⟩ := (show ObjOk X.prog X.w H1 s1.heap d (xdO d fs) from I1.hok d _ hx)
  obtain ⟨u, hu, ru⟩ := RelO.some_of (v := y) (o := mA f) (by rw [← hl]; exact r f)
  have I2 := I1.tok (s1.toks + 1)
  obtain ⟨hh, gg, dd, tt, oo⟩ := s1
  exact xload PySem.F.attrBase_Exception hC hN (hno _ c.ga) (hno _ c.gt) (hno _ hf) hB hx0 hc hd ed n hu (PySem.W.handedOut_of (handed_of ru)) ⟨y, H1, I2, ru, q⟩
end
end L2
set_option maxHeartbeats 1000000
namespace L2
open PySem PySem.Spec PyProof.Rows
def fnO (f : Addr) (o : Obj) : HO := .ext fun h => h.get? f = some o
def cdO (c : Addr) (q : Str) : HO := .ext fun h => h.CodeRec (.ref c) q
section
variable {P : Program} {w : World} {H : Hp} {h : Heap}
theorem fnO_ok {f : Addr} {o : Obj} (e : h.get? f = some o) : ObjOk P w H h f (fnO f o) := ⟨e, ⟨o, e⟩, fun h1 h2 q k => k _ q⟩
theorem cdO_ok {c : Addr} {q : Str} (e : h.CodeRec (.ref c) q) : ObjOk P w H h c (cdO c q) := by
  obtain ⟨c', oc, vs, t, e1, ho, hd, hv⟩ := id e
  cases e1
  refine ⟨e, ⟨oc, ho⟩, fun h1 h2 x k => ?_⟩
  obtain ⟨c', oc, vs, t, e1, ho, hd, hv⟩ := x
  cases e1
  exact ⟨_, oc, vs, t, rfl, k _ ho, hd, hv⟩
end
theorem cal_lam {P : Program} {w : World} {K : PySem.W.Frag} {mg : Str → Option Value} {base : Heap} {k : Nat} {f c : Addr} {name qual : Str} {params : Arguments} {body : Expr} {scope : Scope} {pm ctv : Value} {N ps : List Str} {sp : Sp}
    (S : FnScope N ps scope) (len : ∀ vs H Q E, sp vs H Q E → vs.length = ps.length)
    (hb : ∀ us : List Value, us.length = ps.length → bindArgs (PySem.W.kla_fn name qual params body scope [] pm (.ref c) ctv) ⟨us, []⟩ = pure (ps.zip us))
    (hbody : ∀ (A : Around) (outer : List Env) (s : Shared) (H : Hp) (vs : List V) (Q : VK) (E : XK), Room k (A.deeper (envOfC qual scope s.heap.objs.size f (.ref c))) → sp vs H Q E →
      ∃ t, PE (cxOf (cxX P w) P w K mg base N qual scope f (.ref c) A outer s H E) body t ∧ t (start N vs) H Q) :
    Cal P w K mg base (k + 1) f (fun H => H f = some (fnO f (PySem.W.kla_obj name qual params body scope [] pm c ctv)) ∧ H c = some (cdO c qual)) sp where
  fn := fun h H X hok hΦ => by
    have e : h.get? f = some (PySem.W.kla_obj name qual params body scope [] pm c ctv) := (hok f _ hΦ.1).1
    exact ⟨.frame, .inl rfl, (PySem.W.Looks.ld (part := none) e).andThen .now⟩
  run := fun A outer s H us vs Q E hr e0 hΦ r hsp => by
    have hl := len _ _ _ _ hsp
    have hlu : us.length = ps.length := by rw [← r.length]; exact hl
    have ho : s.heap.get? f = some (PySem.W.kla_obj name qual params body scope [] pm c ctv) := (e0.hok f _ hΦ.1).1
    have hrec : s.heap.CodeRec (.ref c) qual := (e0.hok c _ hΦ.2).1
    have lim : s.heap.NoLimit := e0.mod.nolimit.keeps fun b o e => (e0.bs b o e).1
    have hkind : ∀ y ∈ ps.zip us, scope.names.lookup y.1 = some .local ∨ (scope.names.lookup y.1 = some .cell ∧ ((cellsFrom (s.heap.objs.size + 1) scope.names []).lookup y.1).isSome = true) := fun ⟨n, v⟩ hy => by
      rcases S.par n (List.of_mem_zip hy).1 with q | q
      · exact .inl q
      · exact .inr ⟨q, PySem.W.cellsFrom_some _ _ _ (.inl q)⟩
    refine PySem.W.kla_callFunE hr.depth ho rfl S.co S.gen rfl hrec ?_
    rw [hb us hlu]
    refine wpAny_pure ?_
    refine wpAny_newFunctionEnv_cells S.kind hkind fun env he s1 x => ?_
    subst he
    refine ⟨lim.keeps x.toInCall.keep, PySem.W.kla_codeExpr ?_⟩
    obtain ⟨t, ht, hq⟩ := hbody A outer s H vs Q E (hr.deeper _) hsp
    have I : Inv (cxOf (cxX P w) P w K mg base N qual scope f (.ref c) A outer s H E) [] (start N vs) H s1 := inv_start S hr.hd e0 hl r x
    refine wpAny_mono (ht [] s1 (start N vs) H _ I hq) (fun u s' hs => ?_) fun e s' hs => hs
    obtain ⟨v, H', J, rv, q⟩ := hs
    exact ⟨v, H', J.os, J.bare, J.base, J.hok, rv, q⟩
def hdIn (K : PySem.W.Frag) (c Pt : Addr) : Bool := match K.lookup c with
  | some ⟨.type "code", _, .fields vs, _⟩ => (match (vs[11]? : Option Value), vs.getD 11 .none, vs.getD 18 .none, vs.getD 7 .none, vs.getD 9 .none, vs.getD 10 .none with
    | some (.ref q), .ref q', .str _ _, .int _ _, .bool _, .int _ _ => q == Pt && q' == Pt && c != Pt
    | _, _, _, _, _, _ => false)
  | _ => false
theorem hd_of {K : PySem.W.Frag} {c Pt : Addr} (e : hdIn K c Pt = true) {h : Heap} (X : K.In h) : PySem.W.CodeHd h c Pt := by
  unfold hdIn at e
  split at e
  · rename_i od vs sl ho
    split at e
    · rename_i q q' file tf flags tg inF text tt h1 h2 h3 h4 h5 h6
      simp only [Bool.and_eq_true, beq_iff_eq, bne_iff_ne] at e
      obtain ⟨⟨rfl, rfl⟩, ne⟩ := e
      exact ⟨_, vs, _, _, _, _, _, _, _, X _ _ ho, rfl, rfl, h1, h2, h3, h4, h5, h6, ne⟩
    · cases e
  · cases e
def tLam (clos : List (Str × Addr)) (Pt : Addr) (pos : Pos) (qual : Str) (params : Arguments) (body : Expr) (scope : Scope) : TE := fun _ H Q => ∃ tb : Array Value, H Pt = some (.tbl tb) ∧ TriplesOk tb.toList ∧ codeAmong pos tb.toList = none ∧
  ∀ (f c : Addr) (pm ctv : Value), H f = none → H c = none → f ≠ c → Q (.ref f) (upd (upd (upd H Pt (.tbl (tb ++ #[rawInt pos.line, rawInt pos.col, .ref c]))) c (cdO c qual)) f (fnO f (PySem.W.kla_obj "<lambda>" qual params body scope clos pm c ctv)))
theorem pe_lam {X : Cx} {clos : List (Str × Addr)} {params : Arguments} {body : Expr} {scope : Scope} {pos : Pos} {cm Pt : Addr} (hdef : defaultsOf params X.env = ([], [])) (hcl : closureFor scope X.env = pure clos) (hcode : X.env.code = .ref cm) (hC : hdIn X.K cm Pt = true) :
    PE X (.Lambda params body scope pos) (tLam clos Pt pos (X.env.qual ++ "<lambda>") params body scope) := by
  intro pins s σ H Q I hq
  obtain ⟨tb, hPt, htr, hnf, hq⟩ := hq
  have hP : s.heap.get? Pt = some (PySem.W.tabObj tb) := I.hok Pt _ hPt
  have hgs : s.heap.Ns mainGlobals X.mg := I.ok.mod.glob.keeps I.bk
  have hgP : mainGlobals ≠ Pt := fun q => by
    obtain ⟨o, es, ep, e, hd, _⟩ := hgs
    rw [q, hP] at e; cases e; cases hd
  have hbA : s.heap.BuiltinsAt X.mg Pt := by
    obtain ⟨bm, ob, b1, b2, b3, b4, b5, b6⟩ := I.ok.mod.bmain
    have b3' := I.bk _ _ b3
    refine ⟨bm, ob, b1, b2, fun q => ?_, fun q => ?_, b3', b4, b5, b6⟩
    · obtain ⟨o, es, ep, e, hd, _⟩ := hgs
      rw [q, e] at b3'; cases b3'; rw [hd] at b6; cases b6
    · rw [q, hP] at b3'; cases b3'; cases b4
  refine PySem.W.kla_eval hdef (PySem.W.kla_makeFunction hcl I.ok.glob hgs hcode (hd_of hC I.kIn) hP htr hnf hgP hbA fun c ctv h' tk hx hge hlt hrec htb => ?_)
  generalize hob : PySem.W.kla_obj "<lambda>" (X.env.qual ++ "<lambda>") params body scope clos ((X.mg "__name__").getD .none) c ctv = ob
  have hfr : ob.isFreed = false := by rw [← hob]; rfl
  have hc0 : H c = none := I.hok.fresh hge
  have hf0 : H h'.objs.size = none := I.hok.fresh (Nat.le_trans hge (Nat.le_of_lt hlt))
  have nfc : h'.objs.size ≠ c := Nat.ne_of_gt hlt
  have key := hq h'.objs.size c ((X.mg "__name__").getD .none) ctv hf0 hc0 nfc
  rw [hob] at key
  refine ⟨.ref h'.objs.size, _, ?_, rfl, key⟩
  have npc : Pt ≠ c := ne_of_none hPt hc0
  have npf : Pt ≠ h'.objs.size := ne_of_none hPt hf0
  have lt0 : ∀ b o, s.heap.get? b = some o → b ≠ c ∧ b ≠ h'.objs.size := fun b o e => by
    have := Heap.lt_size e
    exact ⟨Nat.ne_of_lt (Nat.lt_of_lt_of_le this hge), Nat.ne_of_lt (Nat.lt_trans (Nat.lt_of_lt_of_le this hge) hlt)⟩
  have put : ∀ b, b ≠ Pt → b ≠ c → b ≠ h'.objs.size → (upd (upd (upd H Pt (.tbl (tb ++ #[rawInt pos.line, rawInt pos.col, .ref c]))) c (cdO c (X.env.qual ++ "<lambda>"))) h'.objs.size (fnO h'.objs.size ob)) b = H b := fun b h1 h2 h3 => by
    rw [upd_ne h3, upd_ne h2, upd_ne h1]
  have atP : (upd (upd (upd H Pt (.tbl (tb ++ #[rawInt pos.line, rawInt pos.col, .ref c]))) c (cdO c (X.env.qual ++ "<lambda>"))) h'.objs.size (fnO h'.objs.size ob)) Pt = some (.tbl (tb ++ #[rawInt pos.line, rawInt pos.col, .ref c])) := by
    rw [upd_ne npf, upd_ne npc, upd_same]
  have neH : ∀ b o, H b = some o → b ≠ c ∧ b ≠ h'.objs.size := fun b o e => ⟨ne_of_none e hc0, ne_of_none e hf0⟩
  have kp : ∀ b o, b ≠ Pt → s.heap.get? b = some o → (h'.push ob).get? b = some o := fun b o hb e => Heap.get?_push_of_some _ (hx b o hb e)
  refine I.un (t' := tk) ⟨fun b o e n _ _ => ?_, fun b o e n _ _ => ?_, fun b o e n _ => ?_, fun b o e _ => ?_, fun b xs e => ?_, fun b o u e => ?_, fun b ps e => ?_⟩ fun b o e => ?_
  · exact kp b o (fun z => by rw [z, hPt] at n; cases n) e
  · exact ⟨o.slots, kp b o (fun z => by rw [z, hPt] at n; cases n) e⟩
  · rw [put b (fun z => by rw [z, hPt] at n; cases n) (lt0 b o e).1 (lt0 b o e).2]; exact n
  · by_cases hb : b = Pt
    · exact ⟨_, by rw [hb]; exact Heap.get?_push_of_some _ htb⟩
    · exact ⟨o, kp b o hb e⟩
  · rw [put b (fun z => by rw [z, hPt] at e; cases e) (neH b _ e).1 (neH b _ e).2]; exact e
  · rw [put b (fun z => by rw [z, hPt] at e; cases e) (neH b _ e).1 (neH b _ e).2]; exact e
  · by_cases hb : b = Pt
    · subst hb
      rw [hPt] at e; cases e
      exact ⟨_, atP⟩
    · exact ⟨#[], by rw [put b hb (neH b _ e).1 (neH b _ e).2, e]; simp⟩
  · by_cases h1 : b = h'.objs.size
    · subst h1
      rw [upd_same] at e; cases e
      exact fnO_ok (Heap.get?_push_size _ hfr)
    · by_cases h2 : b = c
      · subst h2
        rw [upd_ne h1, upd_same] at e; cases e
        exact cdO_ok (hrec.push _)
      · by_cases h3 : b = Pt
        · subst h3
          rw [atP] at e; cases e
          exact Heap.get?_push_of_some _ htb
        · rw [put b h3 h2 h1] at e
          refine (I.hok b o e).stay (fun d v hd q => kp d v (fun z => ?_) q) (fun d q => ?_) fun d xs q => ?_
          · rcases hd with hd | hd
            · exact h3 (hd ▸ z)
            · rw [z, hPt] at hd; cases hd
          · rw [put d (fun z => by rw [z, hPt] at q; cases q) (neH d _ q).1 (neH d _ q).2]; exact q
          · rw [put d (fun z => by rw [z, hPt] at q; cases q) (neH d _ q).1 (neH d _ q).2]; exact q
end L2
namespace L2
open PySem PySem.Spec PyProof.Rows
theorem Cal.mono {P : Program} {w : World} {K : PySem.W.Frag} {mg : Str → Option Value} {base : Heap} {j k : Nat} {f : Addr} {Φ : Hp → Prop} {sp : Sp} (C : Cal P w K mg base j f Φ sp) (h : j ≤ k) : Cal P w K mg base k f Φ sp :=
  ⟨C.fn, fun A outer s H us vs Q E hr => C.run A outer s H us vs Q E (hr.mono h)⟩
structure FunC (K : PySem.W.Frag) (x qual : Str) (st : Stmt) (f : Addr) (fd : FuncData) (cm : Addr) : Prop where
  ex : ∃ (oc : Value) (od : Option Addr) (kV doc pm : Value) (an : Option Addr) (ct : Value) (osl : Array (Option Value)),
    fd = PySem.W.fnOf x qual (defArgs st) (defBody st) (defScope st) .none kV doc pm an (.ref cm) ct ∧ K.lookup f = some ⟨oc, od, .func fd, osl⟩ ∧ PySem.W.codeIn K (.ref cm) qual = true
theorem FunC.okX {P : Program} {w : World} {K : PySem.W.Frag} {mg : Str → Option Value} {base : Heap} {x qual : Str} {st : Stmt} {f cm : Addr} {fd : FuncData} {N ps : List Str} {k : Nat} {sp : Sp} (F : FunC K x qual st f fd cm) (S : FnScope N ps (defScope st)) (len : ∀ vs H Q E, sp vs H Q E → vs.length = ps.length)
    (hbody : ∀ (A : Around) (outer : List Env) (s : Shared) (H : Hp) (vs : List V) (Q : VK) (E : XK), Room k (A.deeper (envOfC qual (defScope st) s.heap.objs.size f (.ref cm))) → sp vs H Q E →
      ∃ t, PSs (cxOf (cxX P w) P w K mg base N qual (defScope st) f (.ref cm) A outer s H E) (defBody st) t ∧ t { nx := fun _ H' => Q .non H', rt := Q } (start N vs) H) : FnOk P w K mg base (cxX P w) (k + 1) f fd ps sp := by
  obtain ⟨oc, od, kV, doc, pm, an, ct, osl, rfl, lk, hcd⟩ := F.ex
  exact fn_of lk hcd S len fun A outer s H vs Q E hr hsp => hbody A outer s H vs Q E hr hsp
def lamOf (st : Stmt) : Expr := match (defBody st).getLast? with
  | some (.Return (some (.Call _ es _ _)) _) => es.getLast?.getD (.Constant .none 0 ⟨0, 0, 0, 0⟩)
  | _ => .Constant .none 0 ⟨0, 0, 0, 0⟩
def lamArgs (st : Stmt) : Arguments := match lamOf st with
  | .Lambda a _ _ _ => a
  | _ => { posonlyargs := [], args := [], vararg := none, kwonlyargs := [], kw_defaults := [], kwarg := none, defaults := [] }
def lamBody (st : Stmt) : Expr := match lamOf st with
  | .Lambda _ b _ _ => b
  | e => e
def lamScope (st : Stmt) : Scope := match lamOf st with
  | .Lambda _ _ sc _ => sc
  | _ => { kind := .function, names := [], isGenerator := false, isCoroutine := false }
def off1 (H : Hp) (Pt : Addr) : Hp := fun b => if b = Pt then none else H b
theorem off1_same {H : Hp} {Pt : Addr} : Same (off1 H Pt) H := fun b o e => by
  unfold off1 at e
  by_cases h : b = Pt
  · rw [if_pos h] at e; cases e
  · rw [if_neg h] at e; exact e
theorem off1_at {H : Hp} {Pt : Addr} : off1 H Pt Pt = none := by unfold off1; rw [if_pos rfl]
theorem off1_ne {H : Hp} {Pt b : Addr} (h : b ≠ Pt) : off1 H Pt b = H b := by unfold off1; rw [if_neg h]
theorem off1_seq {K : PySem.W.Frag} {H : Hp} {Pt a : Addr} {xs : List V} {tb : Array Value} (hP : H Pt = some (.tbl tb)) (h : SqL K H a xs) : SqL K (off1 H Pt) a xs := by
  rcases h with (h | ⟨o, h⟩) | h
  · exact .inl (.inl (by rw [off1_ne (fun z => by rw [z, hP] at h; cases h)]; exact h))
  · exact .inl (.inr ⟨o, by rw [off1_ne (fun z => by rw [z, hP] at h; cases h)]; exact h⟩)
  · exact .inr h
end L2
set_option maxHeartbeats 2000000
namespace L2
open PySem PySem.Spec PyProof.Rows
open PySem.W (WData Codec OpenSpec Well WellAll ReadsW ReadsAllW)
mutual
theorem dw_same {K : PySem.W.Frag} {H H' : Hp} (s : Same H H') : ∀ (d : WData) (v : V), Dw K H v d → Dw K H' v d
  | _, _, .non => .non
  | _, _, .bl b => .bl b
  | _, _, .int i => .int i
  | _, _, .str x => .str x
  | _, _, .byt b => .byt b
  | _, _, .lst (ds := ds) (xs := xs) h r => .lst (s.seq h) (dwAll_same s ds xs r)
  | _, _, .tup (ds := ds) (xs := xs) h r => .tup (s.seqT h) (dwAll_same s ds xs r)
theorem dwAll_same {K : PySem.W.Frag} {H H' : Hp} (s : Same H H') : ∀ (ds : List WData) (vs : List V), DwAll K H vs ds → DwAll K H' vs ds
  | _, _, .nil => .nil
  | _, _, .cons (d := d) (v := v) (ds := ds) (vs := vs) h r => .cons (dw_same s d v h) (dwAll_same s ds vs r)
end
theorem nK_ne {K : PySem.W.Frag} {H : Hp} {Pt b : Addr} {o : Obj} {u : HO} (nK : ∀ b o, K.lookup b = some o → H b = none) (hP : H Pt = some u) (e : K.lookup b = some o) (z : b = Pt) : K.lookup b = none := by
  have := nK b o e
  rw [z, hP] at this
  cases this
theorem spec_callT {P : Program} {w : World} {K : PySem.W.Frag} {mg mb : Str → Option Value} {CX : CXT} {k : Nat} {fa cm Pt : Addr} {fd : FuncData} {ps : List Str} {sp : Sp} {s₁ : Shared} {vals : List Value} {ds : List WData} {R : PySem.W.WRecords} {cl : Str → Option Addr} {d0 : WData}
    (KX : K.In s₁.heap) (hns : s₁.heap.Ns mainGlobals mg) (hb : s₁.heap.Ns builtinsNs mb) (hbb : ∀ x : Str, x ≠ "__name__" → mb x = bootBuiltins x) (hlim : s₁.heap.NoLimit) (hdig : s₁.heap.NoDigits) (hsee : s₁.heap.NoSeer) (hbm : ∃ bm ob, mg "__builtins__" = some (.ref bm) ∧ bm ≠ builtinsNs ∧ s₁.heap.get? bm = some ob ∧ ob.cls = .type "module" ∧ ob.dict = some builtinsNs ∧ ob.data = .plain) (hg : s₁.gens = #[])
    (hwl : WellAll w.params s₁.heap vals ds) (hpl : plWs ds = true) (hwt : ∀ d ∈ ds, d.weight ≤ 1048576) (hr : Room k callerA) (hC : hdIn K cm Pt = true) (hPn : K.lookup Pt = none) (hPh : s₁.heap.get? Pt = some (PySem.W.tabObj #[]))
    (F : ∀ base : Heap, K.In base → base.Ns mainGlobals mg → FnOk P w (K) mg base CX k fa fd ps sp) (hbind : ∀ (s : Shared) (us : List Value), us.length = ps.length → BindsTo s fd ⟨us, []⟩ (ps.zip us)) (hlen : ds.length = ps.length)
    (hsp : ∀ (H : Hp) (xs : List V), H Pt = some (.tbl #[]) → DwAll (K) H xs ds → sp xs H (fun v H' => Dw (K) H' v d0) fun _ _ _ => False)
    (hCX : ∀ H e s', CX [] H s₁ (fun _ _ _ => False) e s' → False) :
    codeAny (model P w) callerA (.call (.ref fa) ⟨vals, []⟩) (fun r s' => ∃ u as, r = .ok (.ret u) ∧ ReadsW R cl s'.heap u d0 as ∧ OldK s₁.heap s'.heap ∧ s'.os = s₁.os ∧ AllBare s'.gens) s₁ := by
  have hCh : PySem.W.CodeHd s₁.heap cm Pt := hd_of hC KX
  have KX1 : K.In s₁.heap := KX
  clear KX hC
  generalize K = Kd at *
  obtain ⟨A, ho, ar⟩ := area_all ds vals hwl hpl hwt
  have hO : OnlyF (argH Kd s₁.heap A) := argH_only ar
  have hok0 : HOk P w (argH Kd s₁.heap A) s₁.heap := argH_ok ar
  have hS0 := dw_all KX1 ar ds vals hwl hpl ho
  have hV := vals_toV ho
  have hK : ∀ b u, argH Kd s₁.heap A b = some u → Kd.lookup b = none := fun b u q => (argH_is ar q).1
  have noA : ∀ {b : Addr} {o : Obj}, s₁.heap.get? b = some o → (∀ c (vs : List Value), (c = .type "list" ∨ c = .type "tuple") → o ≠ { cls := c, data := .seq vs.toArray }) → argH Kd s₁.heap A b = none := fun {b o} e d => by
    cases q : argH Kd s₁.heap A b with
    | none => rfl
    | some u =>
      obtain ⟨_, vs, _, _, ⟨e2, _⟩ | ⟨e2, _⟩⟩ := argH_is ar q
      · rw [e2] at e
        cases e
        exact (d _ vs (.inl rfl) rfl).elim
      · rw [e2] at e
        cases e
        exact (d _ vs (.inr rfl) rfl).elim
  generalize argH Kd s₁.heap A = H0 at hO hok0 hS0 hK noA
  have h0P : H0 Pt = none := noA hPh fun c vs _ z => by injection z with _ _ z; cases z
  have hne : ∀ {b : Addr} {o : HO}, H0 b = some o → b ≠ Pt := fun {b o} e => ne_of_none e h0P
  have grow : Same H0 (upd H0 Pt (.tbl #[])) := fun b o e => by rw [upd_ne (hne e)]; exact e
  have hS : DwAll Kd (upd H0 Pt (.tbl #[])) (vals.map toV) ds := dwAll_same grow ds _ hS0
  have hok : HOk P w (upd H0 Pt (.tbl #[])) s₁.heap := fun b o e => by
    by_cases hb : b = Pt
    · subst hb
      rw [upd_same] at e; cases e
      exact hPh
    · rw [upd_ne hb] at e
      exact (hok0 b o e).stay (fun _ _ _ q => q) (fun c q => grow c _ q) fun c xs q => grow c _ q
  have noH : ∀ {b : Addr} {o : Obj}, s₁.heap.get? b = some o → (∀ c (vs : List Value), (c = .type "list" ∨ c = .type "tuple") → o ≠ { cls := c, data := .seq vs.toArray }) → o ≠ PySem.W.tabObj #[] → (upd H0 Pt (.tbl #[])) b = none := fun {b o} e d d2 => by
    rw [upd_ne (fun z => by rw [z, hPh] at e; cases e; exact d2 rfl)]
    exact noA e d
  have hP1 : (upd H0 Pt (.tbl #[])) Pt = some (.tbl #[]) := upd_same
  have hcases : ∀ b u, (upd H0 Pt (.tbl #[])) b = some u → b = Pt ∨ (∃ o v, (upd H0 Pt (.tbl #[])) b = some (.frz o v)) := fun b u e => by
    by_cases hb : b = Pt
    · exact .inl hb
    · rw [upd_ne hb] at e ⊢
      rcases hO b with z | ⟨o, v, z⟩
      · rw [z] at e; cases e
      · exact .inr ⟨o, v, z⟩
  have nK : ∀ b o, Kd.lookup b = some o → (upd H0 Pt (.tbl #[])) b = none := fun b o e => by
    have hb : b ≠ Pt := fun z => by rw [z, hPn] at e; cases e
    rw [upd_ne hb]
    cases q : H0 b with
    | none => rfl
    | some u =>
      rw [hK b u q] at e
      cases e
  clear hS0 hok0 hO hK noA h0P hne grow
  generalize upd H0 Pt (.tbl #[]) = H at hS hok noH hP1 hcases nK
  have base_of : ∀ {b : Addr} {o : Obj}, s₁.heap.get? b = some o → H b = none → (hidT s₁.heap H).get? b = some o := fun e n => hidT_get e n
  have nsK : ∀ {b : Addr} {m : Str → Option Value}, s₁.heap.Ns b m → (hidT s₁.heap H).Ns b m := fun {b m} ⟨o, es, ep, e, d, r⟩ => ⟨o, es, ep, base_of e (noH e (fun c vs _ z => by rw [z] at d; cases d) (fun z => by rw [z] at d; cases d)), d, r⟩
  have noM : ∀ {b : Addr} {o : Obj}, s₁.heap.get? b = some o → o.cls = .type "module" → H b = none := fun {b o} e d => noH e (fun c vs hc z => by rw [z] at d; rcases hc with hc | hc <;> (rw [hc] at d; exact absurd (Value.type.inj d) (by decide))) (fun z => by rw [z] at d; cases d)
  have hKb : Kd.In (hidT s₁.heap H) := fun b o e => base_of (KX1 b o e) (nK b o e)
  have hM : Mod Kd mg (hidT s₁.heap H) := ⟨hKb, nsK hns, ⟨mb, nsK hb, hbb⟩, (let ⟨mc, h1, h2⟩ := hlim; ⟨mc, nsK h1, h2⟩), (let ⟨mc, h1, h2⟩ := hdig; ⟨mc, nsK h1, h2⟩), ⟨(let ⟨mc, h1, h2⟩ := hsee.statics; ⟨mc, nsK h1, h2⟩), (let ⟨mc, h1, h2⟩ := hsee.mods; ⟨mc, nsK h1, h2⟩), (let ⟨mc, h1, h2⟩ := hsee.imp; ⟨mc, nsK h1, h2⟩), (let ⟨mg', bm, ob, h1, h2, h3, h4, h5⟩ := hsee.main; ⟨mg', bm, ob, nsK h1, h2, base_of h3 (noM h3 h4), h4, h5⟩)⟩, (let ⟨bm, ob, h1, h2, h3, h4, h5⟩ := hbm; ⟨bm, ob, h1, h2, base_of h3 (noM h3 h4), h4, h5⟩)⟩
  have e0 : Env0 P w Kd mg (hidT s₁.heap H) callerA [] s₁ H := ⟨rfl, hM, fun b o e => of_hidT e, Nat.le_of_eq (hidT_size _ _), trivial, fun b hb => absurd (show b ∈ ([] : List Addr) from hb) (by simp), hok, .of_eq hg⟩
  have hl : vals.length = ps.length := by rw [wellAll_len hwl]; exact hlen
  refine codeAny_mono ((F _ hKb (nsK hns)).run callerA [] s₁ H ⟨vals, []⟩ vals (vals.map toV) _ _ hr e0 (hbind s₁ vals hl) hV (hsp H _ hP1 hS)) fun r s' x => ?_
  cases r with
  | error e => exact (hCX H e s' x).elim
  | ok fl =>
    cases fl with
    | next => exact False.elim x
    | brk => exact False.elim x
    | cont => exact False.elim x
    | ret u =>
      obtain ⟨v, H', os, bare, un, hok', r', q⟩ := x
      have kept : ∀ b o, b ≠ Pt → s₁.heap.get? b = some o → s'.heap.get? b = some o := fun b o hbP e => by
        cases q2 : H b with
        | none => exact un.keep b o e q2 (by intro z; exact absurd (show b ∈ ([] : List Addr) from z) (by simp)) (by simp)
        | some u2 =>
          rcases hcases b _ q2 with z | ⟨ob, u3, z⟩
          · exact (hbP z).elim
          · have z2 := un.frzs b ob _ z
            obtain ⟨e1, _⟩ := hok b _ z
            obtain ⟨e2, _⟩ := hok' b _ z2
            rw [e] at e1
            cases e1
            exact e2
      obtain ⟨more, hT⟩ := un.tbls Pt _ hP1
      have hT' : s'.heap.get? Pt = some { cls := .none, data := .fields (#[] ++ more) } := hok' Pt _ hT
      have KX' : Kd.In s'.heap := fun b o e => kept b o (fun z => by rw [nK_ne nK hP1 e z] at e; cases e) (KX1 b o e)
      obtain ⟨as, hrd⟩ := Dw.reads (R := R) (cl := cl) hok' KX' d0 v u q r'
      refine ⟨u, as, rfl, hrd, ⟨fun b o e => ?_, fun b o e => ?_⟩, os, bare⟩
      · by_cases hbP : b = Pt
        · subst hbP
          rw [hPh] at e; cases e
          exact .inr (.inl ⟨(hCh.tab hPh).isCodeTable, rfl, #[], more, rfl, hT'⟩)
        · exact .inl (kept b o hbP e)
      · by_cases hbP : b = Pt
        · subst hbP
          exact ⟨_, hT'⟩
        · exact ⟨o, kept b o hbP e⟩
theorem walk_specT {r : OpenSpec} {k : Nat} {q : Program} {loose : List Str} {XP : (Str → Option Value) → Heap → Prop} {YP : World → Heap → Prop} {d : DefRec} {K : Params → PySem.W.Frag} {CX : World → CXT} {ps : List Str} {sp : Addr → PySem.W.Frag → Sp}
    (hwell : r.wellSaid = true) (himp : PyProof.Rows.importsNone q = true) (hrec : (recsOf q).find? (fun e => e.name == d.name) = some d) (hdf : d.params.defaults = []) (hlen : r.args.length = ps.length) (hr : Room k callerA)
    (hY : ∀ (w : World) (h : Heap), YP w h → (K w.params).In h)
    (F : ∀ (w : World) (mg : Str → Option Value) (fa : Addr) (h : Heap), YP w h → (K w.params).In h → h.Ns mainGlobals mg → mg d.name = some (.ref fa) →
      ∃ (cm Pt : Addr) (fd : FuncData), hdIn (K w.params) cm Pt = true ∧ (K w.params).lookup Pt = none ∧ (∃ oc od sl, (K w.params).lookup fa = some ⟨oc, od, .func fd, sl⟩ ∧ fd.code = .ref cm) ∧ (∀ (s : Shared) (us : List Value), us.length = ps.length → BindsTo s fd ⟨us, []⟩ (ps.zip us)) ∧
        ∀ base : Heap, (K w.params).In base → base.Ns mainGlobals mg → FnOk r.prog w (K w.params) mg base (CX w) k fa fd ps (sp Pt (K w.params)))
    (hsp : ∀ (Pt : Addr) (K : PySem.W.Frag) (H : Hp) (xs : List V) (a : Codec.denoteAll r.args), H Pt = some (.tbl #[]) → Codec.withinAll r.args a = true → Codec.app r.args r.asked a = true → DwAll K H xs (Codec.encAll r.args a) →
      sp Pt K xs H (fun v H' => Dw K H' v (r.ret.enc (Codec.app r.args r.f a))) fun _ _ _ => False)
    (hCX : ∀ (w : World) (H : Hp) (s : Shared) (e : Value) (s' : Shared), CX w [] H s (fun _ _ _ => False) e s' → False) :
    PySem.W.WalkOS q loose XP YP r d [] (fun f vs => PySem.call f vs) := by
  intro w s_0 s₁ mg mb G Y fa o pm cd doc dV kV ho hd hcd hD hmg hg args vals as hpre hlay hrd hwl hlo
  obtain ⟨a, e1, e2⟩ := PySem.W.os_pre_some hpre
  obtain ⟨e3, hwi⟩ := Codec.encAll_of_decAll r.args args a e1
  subst e3
  have KX := hY w _ Y
  obtain ⟨cm, Pt, fd, hC, hPn, ⟨oc, od, sl, hlk, hcode⟩, hb, hF⟩ := F w mg fa _ Y KX G.T.g hmg
  have hPh : s₁.heap.get? Pt = some (PySem.W.tabObj #[]) := by
    obtain ⟨a', o', fd', c', P', h1, h2, h3, h4, h5, h6⟩ := G.T.tab d (List.mem_of_find?_eq_some hrec)
    rw [hmg] at h1
    cases h1
    have e4 := KX _ _ hlk
    rw [h2] at e4
    cases e4
    cases h3
    rw [hcode] at h4
    cases h4
    obtain ⟨⟨o2, vs2, g1, g2, g3, g4⟩, g5⟩ := h6
    obtain ⟨o3, vs3, _, _, _, _, _, _, _, k1, k2, k3, k4, _⟩ := hd_of hC KX
    rw [g1] at k1
    cases k1
    rw [g3] at k3
    cases k3
    rw [g4] at k4
    cases k4
    exact g5
  refine PySem.W.enter_call (codeAny_mono (spec_callT (R := []) (cl := classAt s_0.heap) (d0 := r.ret.enc (Codec.app r.args r.f a)) KX G.T.g G.T.b G.T.builtins G.T.nolimit G.T.nodigits (G.T.seer himp) G.T.bmain hg hwl (pl_encAll _ _) (layable_weight hlay) hr hC hPn hPh hF hb (by rw [encAll_len]; exact hlen)
    (fun H xs hP hS => hsp Pt _ H xs a hP hwi e2 hS) fun H e s' => hCX w H s₁ e s') fun r' s' hq => ?_)
  obtain ⟨u, as', rfl, h1, h2, h3, h4⟩ := hq
  exact ⟨.inl ⟨u, _, as', rfl, fun _ => rfl, h1, (OpenSpec.post_iff hwell hwi _ _).mpr rfl, fun z => Bool.noConfusion (show false = true from z)⟩, h2, h3, h4⟩
end L2
set_option maxHeartbeats 1000000
namespace L2
open PySem PySem.Spec PyProof.Rows
end L2
namespace Th
open PySem PySem.Spec PyProof.Rows L2
def prog : Program := PySem.Challenge.pw_thirdsums_s05_petzval
def top (i : Nat) : Stmt := PySem.Challenge.pw_thirdsums_s05_petzval.main.body.getD i (.Pass ⟨0, 0, 0, 0⟩)
abbrev s_common_divisor : Stmt := top 3
abbrev s_fraction : Stmt := top 4
abbrev s_negative : Stmt := top 5
abbrev s_plus : Stmt := top 6
abbrev s_minus : Stmt := top 7
abbrev s_times : Stmt := top 8
abbrev s_over : Stmt := top 9
abbrev s_Fault_init : Stmt := inClass (top 12) 0
abbrev s_is_digit : Stmt := top 22
abbrev s_digits_end : Stmt := top 23
abbrev s_whole_value : Stmt := top 24
abbrev s_pointed_value : Stmt := top 25
abbrev s_unsigned_value : Stmt := top 26
abbrev s_handed_over : Stmt := top 27
abbrev s_petzval_sum : Stmt := top 29
abbrev s_Station_init : Stmt := inClass (top 31) 0
abbrev s_spread : Stmt := top 32
abbrev s_squared : Stmt := top 33
abbrev s_shape_station : Stmt := top 34
abbrev s_stations_of : Stmt := top 35
abbrev s_begins_name : Stmt := top 43
abbrev s_goes_on_name : Stmt := top 44
abbrev s_blanks_end : Stmt := top 45
abbrev s_word_or_name : Stmt := top 46
abbrev s_name_token : Stmt := top 47
abbrev s_bars_number : Stmt := top 48
abbrev s_number_token : Stmt := top 49
abbrev s_token_from : Stmt := top 50
abbrev s_Element_init : Stmt := inClass (top 59) 0
abbrev s_System_init : Stmt := inClass (top 60) 0
abbrev s_Reader_init : Stmt := inClass (top 61) 0
abbrev s_Reader_sees : Stmt := inClass (top 61) 1
abbrev s_Reader_piece : Stmt := inClass (top 61) 2
abbrev s_Reader_refuse : Stmt := inClass (top 61) 3
abbrev s_Reader_expect : Stmt := inClass (top 61) 4
abbrev s_Reader_step : Stmt := inClass (top 61) 5
abbrev s_Reader_take : Stmt := inClass (top 61) 6
abbrev s_read_pointed : Stmt := top 62
abbrev s_read_number : Stmt := top 63
abbrev s_read_value : Stmt := top 64
abbrev s_refuse_number_before : Stmt := top 65
abbrev s_read_index : Stmt := top 66
abbrev s_read_new_name : Stmt := top 67
abbrev s_read_known_glass : Stmt := top 68
abbrev s_read_glass : Stmt := top 69
abbrev s_read_glasses : Stmt := top 70
abbrev s_read_curve : Stmt := top 71
abbrev s_read_conic : Stmt := top 72
abbrev s_pass_clear : Stmt := top 73
abbrev s_read_element : Stmt := top 74
abbrev s_read_path : Stmt := top 75
abbrev s_read_system : Stmt := top 76
abbrev s_exact_text : Stmt := top 79
abbrev s_told : Stmt := top 80
abbrev s_refuse_sizes : Stmt := top 84
abbrev s_answered : Stmt := top 85
abbrev s_petzval : Stmt := top 86
theorem tree_none : prog.given.tree = none := rfl
end Th
set_option maxHeartbeats 2000000
namespace Th
open PySem PySem.Spec PyProof.Rows L2
theorem if_neI {i j : Int} {A B : Prop} (h1 : i ≠ j → A) (h2 : i = j → B) : if (!decide (V.int i = V.int j)) = true then A else B := by
  by_cases h : i = j
  · rw [if_neg (by simp [h])]; exact h2 h
  · rw [if_pos (by simp [h])]; exact h1 h
theorem if_eqI {i j : Int} {A B : Prop} (h1 : i = j → A) (h2 : i ≠ j → B) : if (decide (V.int i = V.int j)) = true then A else B := by
  by_cases h : i = j
  · rw [if_pos (by simp [h])]; exact h1 h
  · rw [if_neg (by simp [h])]; exact h2 h
theorem if_dec {c : Prop} [Decidable c] {A B : Prop} (h1 : c → A) (h2 : ¬ c → B) : if (decide c) = true then A else B := by
  by_cases h : c
  · rw [if_pos (by simp [h])]; exact h1 h
  · rw [if_neg (by simp [h])]; exact h2 h
theorem if_bl {b : Bool} {A B : Prop} (h1 : b = true → A) (h2 : b = false → B) : if b = true then A else B := by
  cases b with
  | true => rw [if_pos rfl]; exact h1 rfl
  | false => rw [if_neg (by decide)]; exact h2 rfl
def slotN (i : Nat) (σ : L2.St) : Nat := match σ[i]? with
  | some (some (.int j)) => j.toNat
  | _ => 0
theorem natAbs_if (i : Int) : (if i < 0 then -i else i) = ((i.natAbs : Nat) : Int) := by
  by_cases h : i < 0
  · rw [if_pos h]; omega
  · rw [if_neg h]; omega
structure Tx (K : PySem.W.Frag) (mg : Str → Option Value) : Prop where
  abs_ : mg "abs" = none
  len_ : mg "len" = none
section
variable {w : World} {K : PySem.W.Frag} {mg : Str → Option Value} {base : Heap}
def spGcd : Sp := fun vs H Q _ => ∃ a b : Nat, vs = [.int (a : Int), .int (b : Int)] ∧ Q (.int ((Nat.gcd a b : Nat) : Int)) H
theorem sc_gcd : FnScope ["a", "b", "rest"] ["a", "b"] (defScope s_common_divisor) := ⟨rfl, rfl, rfl, by decide +kernel, rfl, by decide +kernel, by decide +kernel⟩
theorem ok_gcd {f : Addr} {fd : FuncData} (F : Fun K "common_divisor" "common_divisor" s_common_divisor f fd) : FnOk prog w K mg base (cxX prog w) 1 f fd ["a", "b"] spGcd := by
  refine F.okX sc_gcd (fun vs H Q E h => ?_) (fun cdv A outer s H vs Q E hr h => ?_)
  · obtain ⟨a, b, rfl, _⟩ := h; rfl
  · obtain ⟨a, b, rfl, k⟩ := h
    refine ⟨_, pss_cons (ps_while own_cx (pt_cmpR op_ne (pv 1) pe_int (nomark _)) (pss_cons (ps_set (i := 2) sc_gcd.nd rfl (Or.inl rfl) (pe_op op_mod (pv 0) (pv 1))) (pss_cons (ps_set (i := 0) sc_gcd.nd rfl (Or.inl rfl) (pv 1)) (pss_one (ps_set (i := 1) sc_gcd.nd rfl (Or.inl rfl) (pv 2)))))) (pss_one (ps_ret (pv 0))), ?_⟩
    refine while_by (fun σ H' => H' = H ∧ ∃ (m n : Nat) (r : Option V), σ = [some (.int (m : Int)), some (.int (n : Int)), r] ∧ Nat.gcd m n = Nat.gcd a b) (fun σ _ => slotN 1 σ) ⟨rfl, a, b, none, rfl, rfl⟩ ?_ (fun σ H Q Q' hq ⟨x, e, h1, z, e2, q⟩ => ⟨x, e, h1, z, e2, hq _ _ q⟩)
    rintro σ H' ⟨rfl, m, n, r, rfl, e⟩
    refine ⟨_, rfl, rfl, _, rfl, if_neI (fun hn => ?_) (fun hn => ?_)⟩
    · have hp : 0 < n := by omega
      refine ⟨_, rfl, _, rfl, _, _, rfl, rfl, (by show (0 : Int) < (n : Int); omega), _, rfl, _, rfl, ⟨rfl, n, m % n, _, rfl, ?_⟩, ?_⟩
      · rw [← e, Nat.gcd_comm m n, Nat.gcd_comm n (m % n), ← Nat.gcd_rec]
      · show ((m : Int) % (n : Int)).toNat < ((n : Int)).toNat
        have := Nat.mod_lt m hp
        omega
    · have : n = 0 := by omega
      subst this
      refine ⟨_, rfl, ?_⟩
      rw [← e, Nat.gcd_zero_right] at k
      exact k
def spFrac (K : PySem.W.Frag) : Sp := fun vs H Q _ => ∃ (G : Hp) (a b : Int), vs = [.int a, .int b] ∧ b ≠ 0 ∧ Same G H ∧ ∀ v G' H', Ext [] G H G' H' → Fr K G' v ((a : Rat) / (b : Rat)) → Q v H'
theorem sc_frac : FnScope ["top", "bottom", "common"] ["top", "bottom"] (defScope s_fraction) := ⟨rfl, rfl, rfl, by decide +kernel, rfl, by decide +kernel, by decide +kernel⟩
theorem ok_frac {f : Addr} {fd : FuncData} (F : Fun K "fraction" "fraction" s_fraction f fd) (T : Tx K mg) (Dg : Def prog w K mg base 1 "common_divisor" ["a", "b"] spGcd) : FnOk prog w K mg base (cxX prog w) 2 f fd ["top", "bottom"] (spFrac K) := by
  refine F.okX sc_frac (fun vs H Q E h => ?_) (fun cdv A outer s H vs Q E hr h => ?_)
  · obtain ⟨G, a, b, rfl, _⟩ := h; rfl
  · obtain ⟨G, a, b, rfl, hb, sm, k⟩ := h
    have dp := deep_cx (w := w) (K := K) (mg := mg) (base := base) (N := ["top", "bottom", "common"]) (outer := outer) (H0 := H) (E := E) tree_none sc_frac.gen sc_frac.co hr
    refine ⟨_, pss_cons (ps_set (i := 2) sc_frac.nd rfl (Or.inl rfl) (pe_def Dg hr pass_cx (pa_cons (pe_callB call_abs rfl T.abs_ boot_abs (pa_cons (pv 0) pa_nil)) (pa_cons (pe_callB call_abs rfl T.abs_ boot_abs (pa_cons (pv 1) pa_nil)) pa_nil))))
      (pss_cons (ps_if (pt_cmpR op_lt (pv 1) pe_int (nomark _)) (pss_one (ps_set (i := 2) sc_frac.nd rfl (Or.inl rfl) (pe_un un_neg (pv 2)))) pss_nil)
      (pss_one (ps_ret (pe_tup (pa_cons (pe_op (op_fdivG dp) (pv 0) (pv 2)) (pa_cons (pe_op (op_fdivG dp) (pv 1) (pv 2)) pa_nil)))))), ?_⟩
    have e := Ma.frac_num a b hb
    have hg : 0 < Nat.gcd a.natAbs b.natAbs := Nat.gcd_pos_of_pos_right _ (by omega)
    refine ⟨_, rfl, _, rfl, _, rfl, _, rfl, a.natAbs, b.natAbs, by rw [natAbs_if, natAbs_if]; rfl, ?_⟩
    refine ⟨_, rfl, _, _, rfl, rfl, _, rfl, if_dec (fun hn => ?_) (fun hn => ?_)⟩
    · rw [if_pos hn] at e
      refine ⟨_, rfl, _, rfl, _, rfl, _, rfl, _, _, rfl, rfl, (by show -((Nat.gcd a.natAbs b.natAbs : Nat) : Int) ≠ 0; omega), _, rfl, _, rfl, _, _, rfl, rfl, (by show -((Nat.gcd a.natAbs b.natAbs : Nat) : Int) ≠ 0; omega), (by show 2 ≤ sizeLine; decide), fun p hp => ?_⟩
      have kk := k _ _ _ ((Ext.refl sm).lay hp (o := .tup [.int ((a : Rat) / (b : Rat)).num, .int (((a : Rat) / (b : Rat)).den : Int)])) ⟨p, rfl, .of upd_same⟩
      rw [← e.1, ← e.2] at kk
      exact kk
    · rw [if_neg hn] at e
      refine ⟨_, rfl, _, rfl, _, _, rfl, rfl, (by show ((Nat.gcd a.natAbs b.natAbs : Nat) : Int) ≠ 0; omega), _, rfl, _, rfl, _, _, rfl, rfl, (by show ((Nat.gcd a.natAbs b.natAbs : Nat) : Int) ≠ 0; omega), (by show 2 ≤ sizeLine; decide), fun p hp => ?_⟩
      have kk := k _ _ _ ((Ext.refl sm).lay hp (o := .tup [.int ((a : Rat) / (b : Rat)).num, .int (((a : Rat) / (b : Rat)).den : Int)])) ⟨p, rfl, .of upd_same⟩
      rw [← e.1, ← e.2] at kk
      exact kk
end
end Th
set_option maxHeartbeats 2000000
namespace Th
open PySem PySem.Spec PyProof.Rows L2
def tIxC (K : PySem.W.Frag) (i : Nat) (j : Int) : TE := fun σ H Q => ∃ p xs v, σ[i]? = some (some (.ref p)) ∧ SqT K H p xs ∧ atI xs j = some v ∧ Q v H
theorem px {X : Cx} (i : Nat) {x : Str} {j : Int} {z : Nat} {p1 p2 pos : Pos} (h : PE X (.Name x p1) (tVar i)) : PE X (.Subscript (.Name x p1) (.Constant (.int j) z p2) pos) (tIxC X.K i j) := by
  intro pins s σ H Q I ⟨p, xs, v, e1, e2, e3, q⟩
  exact pe_ix ix_tup h pe_int (fun _ _ => rfl) pins s σ H Q I ⟨_, e1, p, xs, j, v, rfl, rfl, e2, e3, q⟩
abbrev Szb (q : Rat) : Prop := Ma.Sz 30000000 q
theorem cbN {p q : Rat} (hp : Szb p) (hq : Szb q) : CB p.num q.num := ⟨hp.num.mono (by decide), hq.num.mono (by decide)⟩
theorem cbD {p q : Rat} (hp : Szb p) (hq : Szb q) : CB p.den q.den := ⟨hp.den.mono (by decide), hq.den.mono (by decide)⟩
theorem cbND {p q : Rat} (hp : Szb p) (hq : Szb q) : CB p.num q.den := ⟨hp.num.mono (by decide), hq.den.mono (by decide)⟩
theorem cbDN {p q : Rat} (hp : Szb p) (hq : Szb q) : CB p.den q.num := ⟨hp.den.mono (by decide), hq.num.mono (by decide)⟩
section
variable {w : World} {K : PySem.W.Frag} {mg : Str → Option Value} {base : Heap}
def sp1 (K : PySem.W.Frag) (C : Rat → Prop) (f : Rat → Rat) : Sp := fun vs H Q _ => ∃ (G : Hp) (a : V) (p : Rat), vs = [a] ∧ Same G H ∧ Fr K G a p ∧ C p ∧ ∀ v G' H', Ext [] G H G' H' → Fr K G' v (f p) → Q v H'
def sp2 (K : PySem.W.Frag) (C : Rat → Rat → Prop) (f : Rat → Rat → Rat) : Sp := fun vs H Q _ => ∃ (G : Hp) (a b : V) (p q : Rat), vs = [a, b] ∧ Same G H ∧ Fr K G a p ∧ Fr K G b q ∧ C p q ∧ ∀ v G' H', Ext [] G H G' H' → Fr K G' v (f p q) → Q v H'
def Big2 (p q : Rat) : Prop := Szb p ∧ Szb q
theorem sc_neg : FnScope ["x"] ["x"] (defScope s_negative) := ⟨rfl, rfl, rfl, by decide +kernel, rfl, by decide +kernel, by decide +kernel⟩
theorem ok_neg {f : Addr} {fd : FuncData} (F : Fun K "negative" "negative" s_negative f fd) : FnOk prog w K mg base (cxX prog w) 1 f fd ["x"] (sp1 K (fun _ => True) fun p => -p) := by
  refine F.okX sc_neg (fun vs H Q E h => ?_) (fun cdv A outer s H vs Q E hr h => ?_)
  · obtain ⟨G, a, p, rfl, _⟩ := h; rfl
  · obtain ⟨G, _, p, rfl, sm, ⟨a, rfl, ha⟩, _, k⟩ := h
    refine ⟨_, pss_one (ps_ret (pe_tup (pa_cons (pe_un un_neg (px 0 (pv 0))) (pa_cons (px 0 (pv 0)) pa_nil)))), ?_⟩
    refine ⟨a, _, _, rfl, sm.seqT ha, rfl, _, rfl, a, _, _, rfl, sm.seqT ha, rfl, (by show 2 ≤ sizeLine; decide), fun l hl => ?_⟩
    have kk := k _ _ _ ((Ext.refl sm).lay hl (o := .tup [.int (-p).num, .int ((-p).den : Int)])) ⟨l, rfl, .of upd_same⟩
    rw [Rat.neg_num, Rat.neg_den] at kk
    exact kk
theorem sc_plus : FnScope ["x", "y"] ["x", "y"] (defScope s_plus) := ⟨rfl, rfl, rfl, by decide +kernel, rfl, by decide +kernel, by decide +kernel⟩
theorem ok_plus {f : Addr} {fd : FuncData} (F : Fun K "plus" "plus" s_plus f fd) (Df : Def prog w K mg base 2 "fraction" ["top", "bottom"] (spFrac K)) : FnOk prog w K mg base (cxX prog w) 3 f fd ["x", "y"] (sp2 K Big2 fun p q => p + q) := by
  refine F.okX sc_plus (fun vs H Q E h => ?_) (fun cdv A outer s H vs Q E hr h => ?_)
  · obtain ⟨G, a, b, p, q, rfl, _⟩ := h; rfl
  · obtain ⟨G, _, _, p, q, rfl, sm, ⟨a, rfl, ha⟩, ⟨b, rfl, hb⟩, ⟨bp, bq⟩, k⟩ := h
    refine ⟨_, pss_one (ps_ret (pe_def Df hr pass_cx (pa_cons (pe_op op_add (pe_op op_mulB (px 0 (pv 0)) (px 1 (pv 1))) (pe_op op_mulB (px 1 (pv 1)) (px 0 (pv 0)))) (pa_cons (pe_op op_mulB (px 0 (pv 0)) (px 1 (pv 1))) pa_nil)))), ?_⟩
    refine ⟨a, _, _, rfl, sm.seqT ha, rfl, b, _, _, rfl, sm.seqT hb, rfl, _, _, rfl, rfl, cbND bp bq, b, _, _, rfl, sm.seqT hb, rfl, a, _, _, rfl, sm.seqT ha, rfl, _, _, rfl, rfl, cbND bq bp, _, _, rfl, rfl,
      a, _, _, rfl, sm.seqT ha, rfl, b, _, _, rfl, sm.seqT hb, rfl, _, _, rfl, rfl, cbD bp bq, G, _, _, rfl, Int.mul_ne_zero (Ma.den_ne p) (Ma.den_ne q), sm, fun v G' H' e h => ?_⟩
    refine k v G' H' e ?_
    show L2.Fr K G' v (p + q)
    rw [Ma.add_eq]; exact h
theorem sc_minus : FnScope ["x", "y"] ["x", "y"] (defScope s_minus) := ⟨rfl, rfl, rfl, by decide +kernel, rfl, by decide +kernel, by decide +kernel⟩
theorem ok_minus {f : Addr} {fd : FuncData} (F : Fun K "minus" "minus" s_minus f fd) (Dn : Def prog w K mg base 1 "negative" ["x"] (sp1 K (fun _ => True) fun p => -p)) (Dp : Def prog w K mg base 3 "plus" ["x", "y"] (sp2 K Big2 fun p q => p + q)) : FnOk prog w K mg base (cxX prog w) 4 f fd ["x", "y"] (sp2 K Big2 fun p q => p - q) := by
  refine F.okX sc_minus (fun vs H Q E h => ?_) (fun cdv A outer s H vs Q E hr h => ?_)
  · obtain ⟨G, a, b, p, q, rfl, _⟩ := h; rfl
  · obtain ⟨G, a, b, p, q, rfl, sm, ha, hb, ⟨bp, bq⟩, k⟩ := h
    refine ⟨_, pss_one (ps_ret (pe_def Dp hr pass_cx (pa_cons (pv 0) (pa_cons (pe_def Dn (hr.mono (by decide)) pass_cx (pa_cons (pv 1) pa_nil)) pa_nil)))), ?_⟩
    refine ⟨_, rfl, _, rfl, G, _, q, rfl, sm, hb, trivial, fun v G1 H1 e1 h1 => ?_⟩
    refine ⟨G1, _, _, p, -q, rfl, e1.sub, Fr.mono _ _ _ _ e1.grow ha, h1, ⟨bp, bq.neg⟩, fun v G2 H2 e2 h2 => ?_⟩
    refine k v G2 H2 (e1.trans e2) ?_
    show L2.Fr K G2 v (p - q)
    rw [Rat.sub_eq_add_neg]; exact h2
theorem sc_times : FnScope ["x", "y"] ["x", "y"] (defScope s_times) := ⟨rfl, rfl, rfl, by decide +kernel, rfl, by decide +kernel, by decide +kernel⟩
theorem ok_times {f : Addr} {fd : FuncData} (F : Fun K "times" "times" s_times f fd) (Df : Def prog w K mg base 2 "fraction" ["top", "bottom"] (spFrac K)) : FnOk prog w K mg base (cxX prog w) 3 f fd ["x", "y"] (sp2 K Big2 fun p q => p * q) := by
  refine F.okX sc_times (fun vs H Q E h => ?_) (fun cdv A outer s H vs Q E hr h => ?_)
  · obtain ⟨G, a, b, p, q, rfl, _⟩ := h; rfl
  · obtain ⟨G, _, _, p, q, rfl, sm, ⟨a, rfl, ha⟩, ⟨b, rfl, hb⟩, ⟨bp, bq⟩, k⟩ := h
    refine ⟨_, pss_one (ps_ret (pe_def Df hr pass_cx (pa_cons (pe_op op_mulB (px 0 (pv 0)) (px 1 (pv 1))) (pa_cons (pe_op op_mulB (px 0 (pv 0)) (px 1 (pv 1))) pa_nil)))), ?_⟩
    refine ⟨a, _, _, rfl, sm.seqT ha, rfl, b, _, _, rfl, sm.seqT hb, rfl, _, _, rfl, rfl, cbN bp bq,
      a, _, _, rfl, sm.seqT ha, rfl, b, _, _, rfl, sm.seqT hb, rfl, _, _, rfl, rfl, cbD bp bq, G, _, _, rfl, Int.mul_ne_zero (Ma.den_ne p) (Ma.den_ne q), sm, fun v G' H' e h => ?_⟩
    refine k v G' H' e ?_
    show L2.Fr K G' v (p * q)
    rw [Ma.mul_eq]; exact h
def BigQ (p q : Rat) : Prop := Szb p ∧ Szb q ∧ q ≠ 0
theorem sc_over : FnScope ["x", "y"] ["x", "y"] (defScope s_over) := ⟨rfl, rfl, rfl, by decide +kernel, rfl, by decide +kernel, by decide +kernel⟩
theorem ok_over {f : Addr} {fd : FuncData} (F : Fun K "over" "over" s_over f fd) (Df : Def prog w K mg base 2 "fraction" ["top", "bottom"] (spFrac K)) : FnOk prog w K mg base (cxX prog w) 3 f fd ["x", "y"] (sp2 K BigQ fun p q => p / q) := by
  refine F.okX sc_over (fun vs H Q E h => ?_) (fun cdv A outer s H vs Q E hr h => ?_)
  · obtain ⟨G, a, b, p, q, rfl, _⟩ := h; rfl
  · obtain ⟨G, _, _, p, q, rfl, sm, ⟨a, rfl, ha⟩, ⟨b, rfl, hb⟩, ⟨bp, bq, hq⟩, k⟩ := h
    have hn : q.num ≠ 0 := fun z => hq (Rat.num_eq_zero.mp z)
    refine ⟨_, pss_one (ps_ret (pe_def Df hr pass_cx (pa_cons (pe_op op_mulB (px 0 (pv 0)) (px 1 (pv 1))) (pa_cons (pe_op op_mulB (px 0 (pv 0)) (px 1 (pv 1))) pa_nil)))), ?_⟩
    refine ⟨a, _, _, rfl, sm.seqT ha, rfl, b, _, _, rfl, sm.seqT hb, rfl, _, _, rfl, rfl, cbND bp bq,
      a, _, _, rfl, sm.seqT ha, rfl, b, _, _, rfl, sm.seqT hb, rfl, _, _, rfl, rfl, cbDN bp bq, G, _, _, rfl, Int.mul_ne_zero (Ma.den_ne p) hn, sm, fun v G' H' e h => ?_⟩
    refine k v G' H' e ?_
    show L2.Fr K G' v (p / q)
    rw [Ma.div_eq p q hq]; exact h
end
end Th
set_option maxHeartbeats 2000000
namespace Th
open PySem PySem.Spec PyProof.Rows L2
theorem dp_ints {K : PySem.W.Frag} {H : Hp} : ∀ ns : List Int, DpAll K H (ns.map V.int) (ns.map PyData.int)
  | [] => .nil
  | n :: r => .cons (.int n) (dp_ints r)
theorem eqv_ints : ∀ (ns ms : List Int), PyData.eqvAll (ns.map PyData.int) (ms.map PyData.int) = decide (ns = ms)
  | [], [] => rfl
  | [], _ :: _ => rfl
  | _ :: _, [] => rfl
  | n :: ns, m :: ms => by
    show (n == m && PyData.eqvAll (ns.map PyData.int) (ms.map PyData.int)) = _
    rw [eqv_ints ns ms]
    by_cases h : n = m
    · subst h; simp
    · simp [h]
def rEqL (K : PySem.W.Frag) : R2 := fun x y H Q => ∃ p q, ∃ ns ms : List Int, x = .ref p ∧ y = .ref q ∧ SqL K H p (ns.map V.int) ∧ SqL K H q (ms.map V.int) ∧ Q (.bl (decide (ns = ms))) H
theorem op_eqL {X : Cx} (hu : X.A.units + 64 < cLine) : OpR X (compareOp .Eq) (rEqL X.K) := by
  intro pins s σ H x y v u Q I rx ry ⟨p, q, ns, ms, hx, hy, h1, h2, hq⟩
  subst hx hy
  refine op_eqD hu pins s σ H _ _ v u Q I rx ry ⟨.list (ns.map PyData.int), .list (ms.map PyData.int), .lst h1 (dp_ints _), .lst h2 (dp_ints _), PySem.W.ke_shaped_ints _, PySem.W.ke_shaped_ints _, ?_⟩
  show Q (.bl (PyData.eqvAll _ _)) H
  rw [eqv_ints]; exact hq
def intsOf (b : List UInt8) : List Int := b.map fun (c : UInt8) => (c.toNat : Int)
theorem bytesV_eq (b : List UInt8) : bytesV b = (intsOf b).map V.int := by
  unfold bytesV intsOf; rw [List.map_map]; rfl
theorem ints_inj : ∀ {a b : List UInt8}, intsOf a = intsOf b → a = b
  | [], [], _ => rfl
  | [], _ :: _, h => by cases h
  | _ :: _, [], h => by cases h
  | x :: a, y :: b, h => by
    have h1 : ((x.toNat : Int)) = (y.toNat : Int) ∧ intsOf a = intsOf b := by
      have := List.cons.inj h
      exact this
    have e : x = y := UInt8.toNat_inj.mp (by omega)
    rw [e, ints_inj h1.2]
theorem bytesV_length (b : List UInt8) : (bytesV b).length = b.length := by unfold bytesV; rw [List.length_map]
theorem bytesV_get {b : List UInt8} {i : Nat} (h : i < b.length) : (bytesV b)[i]? = some (.int ((b[i]).toNat : Int)) := by
  unfold bytesV
  rw [List.getElem?_map, List.getElem?_eq_getElem h]; rfl
theorem at_byte {b : List UInt8} {i : Nat} (h : i < b.length) : atI (bytesV b) (i : Int) = some (.int ((b[i]).toNat : Int)) := atI_nat (bytesV_get h)
theorem cut_bytes (b : List UInt8) (lo hi : Nat) (h1 : lo ≤ b.length) (h2 : hi ≤ b.length) : cutV (bytesV b) (some (lo : Int)) (some (hi : Int)) = bytesV ((b.drop lo).take (hi - lo)) := by
  unfold cutV
  rw [bytesV_length, HT.sIx_nat, HT.sIx_nat, Nat.min_eq_left h1, Nat.min_eq_left h2]
  unfold bytesV
  rw [List.map_take, List.map_drop]
theorem cut_to (b : List UInt8) (hi : Nat) (h2 : hi ≤ b.length) : cutV (bytesV b) none (some (hi : Int)) = bytesV (b.take hi) := by
  unfold cutV
  rw [bytesV_length, HT.sIx_none, HT.sIx_nat, Nat.min_eq_left h2]
  unfold bytesV
  rw [List.map_take]; rfl
theorem cut_from (b : List UInt8) (lo : Nat) : cutV (bytesV b) (some (lo : Int)) none = bytesV (b.drop lo) := by
  unfold cutV
  rw [bytesV_length, HT.sIx_none, HT.sIx_nat]
  unfold bytesV
  by_cases h : lo ≤ b.length
  · rw [Nat.min_eq_left h, ← List.map_drop, List.take_of_length_le (by simp)]
  · rw [Nat.min_eq_right (by omega), Nat.sub_self, List.drop_eq_nil_of_le (by omega : b.length ≤ lo)]; simp
def Bl : Rl (List UInt8) := fun G v b => ∃ p, v = .ref p ∧ G p = some (.lst (bytesV b))
theorem Bl.mono : Mono Bl := fun _ _ _ _ s ⟨p, e, h⟩ => ⟨p, e, s _ _ h⟩
theorem Bl.bs {K : PySem.W.Frag} {G : Hp} {v : V} {b : List UInt8} (h : Bl G v b) : Bs K G v b := let ⟨p, e, h⟩ := h; ⟨p, e, .of h⟩
def GI (mg : Str → Option Value) (x : Str) (i : Int) : Prop := ∃ t, mg x = some (.int i t)
theorem pgi {X : Cx} {x : Str} {i : Int} {pos : Pos} (h : GI X.mg x i) (hg : Gl X x := by rfl) (hd : (x == ("__debug__" : Str)) = false := by decide) : PE X (.Name x pos) (tC (.int i)) :=
  let ⟨t, e⟩ := h; pe_glob hg e ⟨t, rfl⟩ hd
structure XC (K : PySem.W.Frag) (mg : Str → Option Value) (x : Str) (C : Addr) : Prop where
  m : mg x = some (.ref C)
  c : XCls K C
structure Td (K : PySem.W.Frag) (mg : Str → Option Value) (CN : Addr) : Prop extends Tx K mg where
  minus_ : GI mg "MINUS" 45
  point_ : GI mg "POINT" 46
  slash_ : GI mg "SLASH" 47
  most_ : GI mg "MOST_BYTES" 512
  great_ : GI mg "TOO_GREAT" 1000000000000000000
  nt : XC K mg "NotTaken" CN
section
variable {w : World} {K : PySem.W.Frag} {mg : Str → Option Value} {base : Heap} {CN : Addr}
def spIsDig : Sp := fun vs H Q _ => ∃ c : UInt8, vs = [.int (c.toNat : Int)] ∧ Q (.bl (Ln.Text.isDigit c)) H
theorem dig_int (c : UInt8) : Ln.Text.isDigit c = (decide ((48 : Int) ≤ (c.toNat : Int)) && decide ((c.toNat : Int) ≤ 57)) := by
  unfold Ln.Text.isDigit
  simp only [UInt8.le_iff_toNat_le]
  have e1 : decide (UInt8.toNat 48 ≤ c.toNat) = decide ((48 : Int) ≤ (c.toNat : Int)) := by
    rw [show UInt8.toNat 48 = 48 from rfl]; exact decide_eq_decide.mpr (by omega)
  have e2 : decide (c.toNat ≤ UInt8.toNat 57) = decide ((c.toNat : Int) ≤ 57) := by
    rw [show UInt8.toNat 57 = 57 from rfl]; exact decide_eq_decide.mpr (by omega)
  rw [e1, e2]
theorem sc_isdig : FnScope ["byte"] ["byte"] (defScope s_is_digit) := ⟨rfl, rfl, rfl, by decide +kernel, rfl, by decide +kernel, by decide +kernel⟩
theorem ok_isdig {f : Addr} {fd : FuncData} (F : Fun K "is_digit" "is_digit" s_is_digit f fd) : FnOk prog w K mg base (cxX prog w) 1 f fd ["byte"] spIsDig := by
  refine F.okX sc_isdig (fun vs H Q E h => ?_) (fun cdv A outer s H vs Q E hr h => ?_)
  · obtain ⟨c, rfl, _⟩ := h; rfl
  · obtain ⟨c, rfl, k⟩ := h
    refine ⟨_, pss_one (ps_ret (pe_chain op_le op_le pe_int (pv 0) pe_int)), ?_⟩
    rw [dig_int] at k
    refine ⟨_, rfl, _, _, rfl, rfl, _, rfl, if_dec (fun h1 => ?_) (fun h1 => ?_)⟩
    · refine ⟨_, _, rfl, rfl, ?_⟩
      rw [decide_eq_true h1, Bool.true_and] at k
      exact k
    · rw [decide_eq_false h1, Bool.false_and] at k
      exact k
def twd (b : List UInt8) : Nat := (b.takeWhile Ln.Text.isDigit).length
def spDigEnd (K : PySem.W.Frag) : Sp := fun vs H Q _ => ∃ (G : Hp) (a : V) (b : List UInt8) (p : Nat), vs = [a, .int (p : Int)] ∧ Same G H ∧ Bs K G a b ∧ Q (.int ((p + twd (b.drop p) : Nat) : Int)) H
theorem sc_digend : FnScope ["text", "place"] ["text", "place"] (defScope s_digits_end) := ⟨rfl, rfl, rfl, by decide +kernel, rfl, by decide +kernel, by decide +kernel⟩
theorem drop_cons {b : List UInt8} {i : Nat} (h : i < b.length) : b.drop i = b[i] :: b.drop (i + 1) := List.drop_eq_getElem_cons h
theorem twd_pos {b : List UInt8} {i : Nat} (h : i < b.length) (hd : Ln.Text.isDigit b[i] = true) : i + 1 + twd (b.drop (i + 1)) = i + twd (b.drop i) := by
  rw [drop_cons h]
  unfold twd
  rw [List.takeWhile_cons, hd, if_pos rfl, List.length_cons]
  rw [Nat.add_assoc, Nat.add_comm 1]
theorem twd_stop {b : List UInt8} {i : Nat} (h : i < b.length) (hd : Ln.Text.isDigit b[i] = false) : twd (b.drop i) = 0 := by
  rw [drop_cons h]
  unfold twd
  rw [List.takeWhile_cons, hd, if_neg (by decide)]; rfl
theorem ok_digend {f : Addr} {fd : FuncData} (F : Fun K "digits_end" "digits_end" s_digits_end f fd) (T : Td K mg CN) (Dd : Def prog w K mg base 1 "is_digit" ["byte"] spIsDig) : FnOk prog w K mg base (cxX prog w) 2 f fd ["text", "place"] (spDigEnd K) := by
  refine F.okX sc_digend (fun vs H Q E h => ?_) (fun cdv A outer s H vs Q E hr h => ?_)
  · obtain ⟨G, a, b, p, rfl, _⟩ := h; rfl
  · obtain ⟨G, _, b, p, rfl, sm, ⟨a, rfl, ha⟩, k⟩ := h
    refine ⟨_, pss_cons (ps_while own_cx (pw_and (pt_cmpR op_lt (pv 1) (pe_callB call_len_seq (by rfl) T.len_ boot_len (pa_cons (pv 0) pa_nil)) (nomark _)) (pw_and1 (pt_val (pe_def Dd hr pass_cx (pa_cons (pe_ix ix_list (pv 0) (pv 1) (fun _ _ => rfl)) pa_nil))))).pt
      (pss_one (ps_aug (i := 1) sc_digend.nd rfl (Or.inl rfl) pe_int ip_add))) (pss_one (ps_ret (pv 1))), ?_⟩
    refine while_by (fun σ H' => H' = H ∧ ∃ i : Nat, σ = [some (.ref a), some (.int (i : Int))] ∧ i + twd (b.drop i) = p + twd (b.drop p)) (fun σ _ => b.length - slotN 1 σ) ⟨rfl, p, rfl, rfl⟩ ?_ ?_
    · rintro σ H' ⟨rfl, i, rfl, e⟩
      refine ⟨_, rfl, _, rfl, a, _, rfl, .inl (sm.seq ha), _, _, rfl, rfl, _, rfl, if_dec (fun h1 => ?_) (fun h1 => ?_)⟩
      · have hi : i < b.length := by rw [bytesV_length] at h1; omega
        refine ⟨_, rfl, _, rfl, a, _, _, _, rfl, rfl, sm.seq ha, at_byte hi, b[i], rfl, _, rfl, if_bl (fun h2 => ?_) (fun h2 => ?_)⟩
        · refine ⟨_, rfl, _, _, rfl, rfl, ⟨rfl, i + 1, rfl, ?_⟩, ?_⟩
          · rw [twd_pos hi h2]; exact e
          · show b.length - ((i : Int) + 1).toNat < b.length - ((i : Int)).toNat
            omega
        · refine ⟨_, rfl, ?_⟩
          rw [← e, twd_stop hi h2] at k
          exact k
      · refine iteF ?_
        have hi : b.length ≤ i := by rw [bytesV_length] at h1; omega
        refine ⟨_, rfl, ?_⟩
        rw [← e, List.drop_eq_nil_of_le hi] at k
        exact k
    · rintro σ H Q Q' hq ⟨x, e, y, e2, p, ys, e3, h3, i, j, e4, e5, z, e6, h⟩
      refine ⟨x, e, y, e2, p, ys, e3, h3, i, j, e4, e5, z, e6, ?_⟩
      cases z with
      | false => rw [if_neg (by decide)] at h ⊢; exact hq _ _ h
      | true =>
        rw [if_pos rfl] at h ⊢
        obtain ⟨x1, f1, x2, f2, g1, g2, g3, g4, f3, f4, f5, f6, c, f7, u, f8, h⟩ := h
        exact ⟨x1, f1, x2, f2, g1, g2, g3, g4, f3, f4, f5, f6, c, f7, u, f8, hq _ _ h⟩
end
end Th
set_option maxHeartbeats 2000000
namespace Th
open PySem PySem.Spec PyProof.Rows L2
open Ln (Bytes)
open Ln.Text (isDigit natural)
theorem take_snoc' {b : Bytes} {i : Nat} (h : i < b.length) : b.take (i + 1) = b.take i ++ [b[i]] := by
  rw [List.take_add_one, List.getElem?_eq_getElem h]; rfl
theorem natural_snoc (b : Bytes) (c : UInt8) : natural (b ++ [c]) = 10 * natural b + (c.toNat - 48) := by
  unfold natural
  rw [List.foldl_append]; rfl
theorem dig_ge {c : UInt8} (h : isDigit c = true) : 48 ≤ c.toNat ∧ c.toNat ≤ 57 := by
  unfold isDigit at h
  simp only [Bool.and_eq_true, decide_eq_true_eq, UInt8.le_iff_toNat_le] at h
  exact h
theorem all_get {b : Bytes} (h : b.all isDigit = true) {i : Nat} (hi : i < b.length) : isDigit b[i] = true := List.all_eq_true.mp h _ (List.getElem_mem hi)
theorem get_bytes {b : Bytes} {i : Nat} {x : V} (h : (bytesV b)[i]? = some x) : ∃ hi : i < b.length, x = .int ((b[i]).toNat : Int) := by
  have hi : i < b.length := by
    have := (List.getElem?_eq_some_iff.mp h).1
    rw [bytesV_length] at this; exact this
  refine ⟨hi, ?_⟩
  rw [bytesV_get hi] at h
  exact (Option.some.inj h).symm
theorem size_ok {n : Nat} (h : n ≤ 100000) : n ≤ sizeLine := Nat.le_trans h (by decide)
section
variable {w : World} {K : PySem.W.Frag} {mg : Str → Option Value} {base : Heap} {CN : Addr}
def spWhole (K : PySem.W.Frag) : Sp := fun vs H Q _ => ∃ (G : Hp) (a : V) (b : Bytes), vs = [a] ∧ Same G H ∧ Bs K G a b ∧ b.all isDigit = true ∧ Q (.int ((natural b : Nat) : Int)) H
theorem sc_whole : FnScope ["digits", "value", "byte"] ["digits"] (defScope s_whole_value) := ⟨rfl, rfl, rfl, by decide +kernel, rfl, by decide +kernel, by decide +kernel⟩
theorem ok_whole {f : Addr} {fd : FuncData} (F : Fun K "whole_value" "whole_value" s_whole_value f fd) : FnOk prog w K mg base (cxX prog w) 1 f fd ["digits"] (spWhole K) := by
  refine F.okX sc_whole (fun vs H Q E h => ?_) (fun cdv A outer s H vs Q E hr h => ?_)
  · obtain ⟨G, a, b, rfl, _⟩ := h; rfl
  · obtain ⟨G, _, b, rfl, sm, ⟨a, rfl, ha⟩, hd, k⟩ := h
    refine ⟨_, pss_cons (ps_set (i := 1) sc_whole.nd rfl (Or.inl rfl) pe_int) (pss_cons (ps_for own_cx rfl (pi_list (pv 0)) (pg_name (i := 2) sc_whole.nd rfl (Or.inl rfl)) (pss_one (ps_set (i := 1) sc_whole.nd rfl (Or.inl rfl) (pe_op op_sub (pe_op op_add (pe_op op_mul (pv 1) pe_int) (pv 2)) pe_int)))) (pss_one (ps_ret (pv 1)))), ?_⟩
    refine ⟨_, rfl, a, rfl, ⟨_, sm.seq ha⟩, for_list (K := K) (a := a) (xs := bytesV b) (fun i σ H' => H' = H ∧ ∃ r, σ = [some (.ref a), some (.int ((natural (b.take i) : Nat) : Int)), r]) ⟨rfl, none, rfl⟩ (fun i σ H' _ ⟨e, _⟩ => by rw [e]; exact sm.seq ha) ?_ ?_⟩
    · rintro i x σ H' hx ⟨rfl, r, rfl⟩
      obtain ⟨hi, rfl⟩ := get_bytes hx
      refine ⟨_, rfl, _, _, rfl, rfl, .inr ⟨by decide, by decide⟩, _, rfl, _, _, rfl, rfl, _, _, rfl, rfl, rfl, some (.int ((b[i].toNat : Nat) : Int)), ?_⟩
      have q := dig_ge (all_get hd hi)
      have e : ((natural (b.take i) : Nat) : Int) * 10 + ((b[i].toNat : Nat) : Int) - 48 = ((natural (b.take (i + 1)) : Nat) : Int) := by
        rw [take_snoc' hi, natural_snoc]; omega
      rw [← e]; rfl
    · rintro σ H' ⟨rfl, r, rfl⟩
      refine ⟨_, rfl, ?_⟩
      rw [bytesV_length, List.take_length]; exact k
def spPointed (K : PySem.W.Frag) : Sp := fun vs H Q _ => ∃ (G : Hp) (a z : V) (x y : Bytes), vs = [a, z] ∧ Same G H ∧ Bl G a x ∧ Bl G z y ∧ (x ++ y).all isDigit = true ∧ x.length + y.length ≤ 1000 ∧ ∀ v G' H', Ext [] G H G' H' → Fr K G' v (((natural (x ++ y) : Nat) : Rat) / ((10 ^ y.length : Nat) : Rat)) → Q v H'
theorem sc_pointed : FnScope ["front", "back", "bottom", "byte"] ["front", "back"] (defScope s_pointed_value) := ⟨rfl, rfl, rfl, by decide +kernel, rfl, by decide +kernel, by decide +kernel⟩
theorem ok_pointed {f : Addr} {fd : FuncData} (F : Fun K "pointed_value" "pointed_value" s_pointed_value f fd) (Df : Def prog w K mg base 2 "fraction" ["top", "bottom"] (spFrac K)) (Dw : Def prog w K mg base 1 "whole_value" ["digits"] (spWhole K)) : FnOk prog w K mg base (cxX prog w) 3 f fd ["front", "back"] (spPointed K) := by
  refine F.okX sc_pointed (fun vs H Q E h => ?_) (fun cdv A outer s H vs Q E hr h => ?_)
  · obtain ⟨G, a, z, x, y, rfl, _⟩ := h; rfl
  · obtain ⟨G, _, _, x, y, rfl, sm, ⟨a, rfl, ha⟩, ⟨z, rfl, hz⟩, hd, hl, k⟩ := h
    refine ⟨_, pss_cons (ps_set (i := 2) sc_pointed.nd rfl (Or.inl rfl) pe_int) (pss_cons (ps_for own_cx rfl (pi_list (pv 1)) (pg_name (i := 3) sc_pointed.nd rfl (Or.inl rfl)) (pss_one (ps_aug (i := 2) sc_pointed.nd rfl (Or.inl rfl) pe_int iop_mul)))
      (pss_one (ps_ret (pe_def Df hr pass_cx (pa_cons (pe_def Dw (hr.mono (by decide)) pass_cx (pa_cons (pe_op op_cat (pv 0) (pv 1)) pa_nil)) (pa_cons (pv 2) pa_nil)))))), ?_⟩
    have hz' : SqL K H z (bytesV y) := .of (sm _ _ hz)
    refine ⟨_, rfl, z, rfl, ⟨_, hz'⟩, for_list (K := K) (a := z) (xs := bytesV y) (fun i σ H' => H' = H ∧ ∃ r, σ = [some (.ref a), some (.ref z), some (.int ((10 ^ i : Nat) : Int)), r]) ⟨rfl, none, rfl⟩ (fun i σ H' _ ⟨e, _⟩ => by rw [e]; exact hz') ?_ ?_⟩
    · rintro i u σ H' hx ⟨rfl, r, rfl⟩
      refine ⟨_, rfl, _, _, rfl, rfl, .inr ⟨by decide, by decide⟩, rfl, some u, ?_⟩
      have e : ((10 ^ i : Nat) : Int) * 10 = ((10 ^ (i + 1) : Nat) : Int) := by rw [Nat.pow_succ]; omega
      rw [← e]; rfl
    · rintro σ H' ⟨rfl, r, rfl⟩
      refine ⟨_, rfl, _, rfl, a, z, _, _, rfl, rfl, sm _ _ ha, sm _ _ hz, ?_, fun p hp => ?_⟩
      · rw [bytesV_length, bytesV_length]; exact size_ok (by omega)
      · have e1 := (Ext.refl (M := []) sm).lay hp (o := .lst (bytesV x ++ bytesV y))
        refine ⟨_, _, x ++ y, rfl, e1.sub, ⟨p, rfl, ?_⟩, hd, _, rfl, ?_⟩
        · refine .of ?_
          rw [upd_same]
          unfold bytesV
          rw [List.map_append]
        · refine ⟨_, _, _, rfl, ?_, e1.sub, fun v G' H' e2 h2 => k v G' H' (e1.trans e2) ?_⟩
          · rw [bytesV_length]
            have : 0 < 10 ^ y.length := Nat.pow_pos (by decide)
            omega
          · rw [bytesV_length] at h2; exact h2
def OutQ (K : PySem.W.Frag) (CN : Addr) (G H : Hp) (r : Option Rat) (Q : VK) (E : XK) : Prop := match r with
  | some q => ∀ v G' H', Ext [] G H G' H' → Fr K G' v q → Q v H'
  | none => ∀ H', E (.ref CN) none H'
theorem uv_none1 {b : Bytes} (h : b.takeWhile isDigit = []) : Ma.unsignedV b = none := by
  unfold Ma.unsignedV; dsimp only; rw [if_pos h]
theorem uv_whole {b : Bytes} (h : ¬ b.takeWhile isDigit = []) (h2 : b.length ≤ twd b) : Ma.unsignedV b = some ((natural (b.takeWhile isDigit) : Nat) : Rat) := by
  unfold Ma.unsignedV; dsimp only; rw [if_neg h, show b.drop (b.takeWhile isDigit).length = [] from List.drop_eq_nil_of_le h2]
theorem uv_rest {b : Bytes} (h : ¬ b.takeWhile isDigit = []) (h2 : twd b < b.length) : Ma.unsignedV b = (if b.drop (twd b + 1) = [] ∨ (b.drop (twd b + 1)).all isDigit = false then none
      else if b[twd b] = 46 then some (((natural (b.takeWhile isDigit ++ b.drop (twd b + 1)) : Nat) : Rat) / ((10 ^ (b.drop (twd b + 1)).length : Nat) : Rat))
      else if b[twd b] = 47 ∧ 0 < natural (b.drop (twd b + 1)) then some (((natural (b.takeWhile isDigit) : Nat) : Rat) / ((natural (b.drop (twd b + 1)) : Nat) : Rat))
      else none) := by
  unfold Ma.unsignedV; dsimp only; rw [if_neg h]
  have e : b.drop (b.takeWhile isDigit).length = b[twd b] :: b.drop (twd b + 1) := drop_cons h2
  rw [e]
theorem dig_all (b : Bytes) : (twd b < b.length) ↔ b.all isDigit = false := by
  have h := Ma.drop_tw (p := isDigit) b
  have hl : twd b ≤ b.length := (List.takeWhile_prefix _).length_le
  constructor
  · intro q
    cases z : b.all isDigit with
    | false => rfl
    | true =>
      have := List.drop_eq_nil_iff.mp (h.mpr z)
      unfold twd at q; omega
  · intro q
    rcases Nat.lt_or_ge (twd b) b.length with z | z
    · exact z
    · have := h.mp (List.drop_eq_nil_of_le z)
      rw [q] at this; cases this
theorem bytes_nil {b : Bytes} : (intsOf b = intsOf []) ↔ b = [] := ⟨fun h => ints_inj h, fun h => by rw [h]⟩
def spUns (K : PySem.W.Frag) (CN : Addr) : Sp := fun vs H Q E => ∃ (G : Hp) (a : V) (b : Bytes), vs = [a] ∧ Same G H ∧ Bs K G a b ∧ b.length ≤ 512 ∧ OutQ K CN G H (Ma.unsignedV b) Q E
theorem sc_uns : FnScope ["text", "middle", "front", "back"] ["text"] (defScope s_unsigned_value) := ⟨rfl, rfl, rfl, by decide +kernel, rfl, by decide +kernel, by decide +kernel⟩
theorem ok_uns {f : Addr} {fd : FuncData} (F : Fun K "unsigned_value" "unsigned_value" s_unsigned_value f fd) (T : Td K mg CN) (De : Def prog w K mg base 2 "digits_end" ["text", "place"] (spDigEnd K))
    (Df : Def prog w K mg base 2 "fraction" ["top", "bottom"] (spFrac K)) (Dw : Def prog w K mg base 1 "whole_value" ["digits"] (spWhole K)) (Dp : Def prog w K mg base 3 "pointed_value" ["front", "back"] (spPointed K)) : FnOk prog w K mg base (cxX prog w) 4 f fd ["text"] (spUns K CN) := by
  refine F.okX sc_uns (fun vs H Q E h => ?_) (fun cdv A outer s H vs Q E hr h => ?_)
  · obtain ⟨G, a, b, rfl, _⟩ := h; rfl
  · obtain ⟨G, _, b, rfl, sm, ⟨a, rfl, ha⟩, hlen, k⟩ := h
    have hu := hr.units
    have hr1 := hr.mono (show 1 ≤ 3 by decide)
    have hr2 := hr.mono (show 2 ≤ 3 by decide)
    refine ⟨_, pss_cons (ps_set (i := 1) sc_uns.nd rfl (Or.inl rfl) (pe_def De hr2 pass_cx (pa_cons (pv 0) (pa_cons pe_int pa_nil))))
      (pss_cons (ps_set (i := 2) sc_uns.nd rfl (Or.inl rfl) (pe_slice sl_list (pv 0) po_none (po_some (pv 1))))
      (pss_cons (ps_set (i := 3) sc_uns.nd rfl (Or.inl rfl) (pe_slice sl_list (pv 0) (po_some (pe_op op_add (pv 1) pe_int)) po_none))
      (pss_cons (ps_if (pt_cmpR (op_eqL hu) (pv 2) (pe_lst pa_nil) (nomark _)) (pss_one (ps_raise0 thr_cx rfl (by rfl) T.nt.m T.nt.c)) pss_nil)
      (pss_cons (ps_if (pt_cmpR op_eq (pv 1) (pe_callB call_len_seq (by rfl) T.len_ boot_len (pa_cons (pv 0) pa_nil)) (nomark _)) (pss_one (ps_ret (pe_def Df hr2 pass_cx (pa_cons (pe_def Dw hr1 pass_cx (pa_cons (pv 2) pa_nil)) (pa_cons pe_int pa_nil))))) pss_nil)
      (pss_cons (ps_if (pw_or (pt_cmpR (op_eqL hu) (pv 3) (pe_lst pa_nil) (nomark _)) (pw_or1 (pt_cmpR op_lt (pe_def De hr2 pass_cx (pa_cons (pv 3) (pa_cons pe_int pa_nil))) (pe_callB call_len_seq (by rfl) T.len_ boot_len (pa_cons (pv 3) pa_nil)) (nomark _)))).pt (pss_one (ps_raise0 thr_cx rfl (by rfl) T.nt.m T.nt.c)) pss_nil)
      (pss_cons (ps_if (pt_cmpR op_eq (pe_ix ix_list (pv 0) (pv 1) (fun _ _ => rfl)) (pgi T.point_) (nomark _)) (pss_one (ps_ret (pe_def Dp hr pass_cx (pa_cons (pv 2) (pa_cons (pv 3) pa_nil))))) pss_nil)
      (pss_cons (ps_if (pw_and (pt_cmpR op_eq (pe_ix ix_list (pv 0) (pv 1) (fun _ _ => rfl)) (pgi T.slash_) (nomark _)) (pw_and1 (pt_cmpR op_gt (pe_def Dw hr1 pass_cx (pa_cons (pv 3) pa_nil)) pe_int (nomark _)))).pt
        (pss_one (ps_ret (pe_def Df hr2 pass_cx (pa_cons (pe_def Dw hr1 pass_cx (pa_cons (pv 2) pa_nil)) (pa_cons (pe_def Dw hr1 pass_cx (pa_cons (pv 3) pa_nil)) pa_nil))))) pss_nil)
      (pss_one (ps_raise0 thr_cx rfl (by rfl) T.nt.m T.nt.c))))))))), ?_⟩
    have hm : twd b ≤ b.length := (List.takeWhile_prefix _).length_le
    have hdrop0 : b.drop 0 = b := List.drop_zero ..
    refine ⟨_, rfl, G, _, b, 0, rfl, sm, ⟨a, rfl, ha⟩, ?_⟩
    rw [hdrop0, Nat.zero_add]
    have ef : cutV (bytesV b) none (some ((twd b : Nat) : Int)) = bytesV (b.takeWhile isDigit) := by rw [cut_to b _ hm]; unfold twd; rw [Ma.take_tw]
    have eb : cutV (bytesV b) (some (((twd b : Nat) : Int) + 1)) none = bytesV (b.drop (twd b + 1)) := by
      have := cut_from b (twd b + 1)
      rw [← this]; rfl
    refine ⟨_, rfl, _, rfl, _, rfl, a, _, rfl, sm.seq ha, fun p hp => ?_⟩
    rw [ef]
    have E1 := (Ext.refl (M := []) sm).lay hp (o := .lst (bytesV (b.takeWhile isDigit)))
    refine ⟨_, rfl, _, rfl, _, _, rfl, rfl, _, rfl, a, bytesV b, rfl, E1.sub.seq (E1.grow.seq ha), fun q hq => ?_⟩
    rw [eb]
    have E2 := E1.lay hq (o := .lst (bytesV (b.drop (twd b + 1))))
    generalize hG2 : upd (upd G p (.lst (bytesV (b.takeWhile isDigit)))) q (.lst (bytesV (b.drop (twd b + 1)))) = G2 at E2
    generalize hH2 : upd (upd H p (.lst (bytesV (b.takeWhile isDigit)))) q (.lst (bytesV (b.drop (twd b + 1)))) = H2 at E2
    have hpq : p ≠ q := ne_of_none (upd_same (H := H) (a := p)) hq
    have hF : G2 p = some (.lst (bytesV (b.takeWhile isDigit))) := by rw [← hG2, upd_ne hpq, upd_same]
    have hB : G2 q = some (.lst (bytesV (b.drop (twd b + 1)))) := by rw [← hG2, upd_same]
    have hT : SqL K G2 a (bytesV b) := E2.grow.seq ha
    clear hG2 hH2
    refine ⟨_, rfl, (by show 0 ≤ sizeLine; decide), fun l hl => ?_⟩
    have E3 := E2.lend hl (o := .lst [])
    refine ⟨p, l, intsOf (b.takeWhile isDigit), intsOf [], rfl, rfl, by rw [← bytesV_eq]; exact .of (E3.sub _ _ hF), .of upd_same, _, rfl, if_dec (fun h1 => ?_) (fun h1 => ?_)⟩
    · rw [uv_none1 (bytes_nil.mp h1)] at k
      exact k _
    have h1' : ¬ b.takeWhile isDigit = [] := fun z => h1 (bytes_nil.mpr z)
    refine ⟨_, rfl, _, rfl, a, _, rfl, .inl (E3.sub.seq hT), rfl, _, rfl, if_eqI (fun h2 => ?_) (fun h2 => ?_)⟩
    · rw [bytesV_length] at h2
      rw [uv_whole h1' (by omega)] at k
      refine ⟨_, rfl, G2, _, _, rfl, E3.sub, ⟨p, rfl, .of hF⟩, Ma.tw_digits b, G2, _, _, rfl, by decide, E3.sub, fun v G' H' e h => k v G' H' (E3.trans e) ?_⟩
      have e1 : ((((natural (b.takeWhile isDigit) : Nat) : Int) : Rat) / ((1 : Int) : Rat)) = ((natural (b.takeWhile isDigit) : Nat) : Rat) := by
        rw [show (((1 : Int)) : Rat) = 1 from rfl]
        have : (((natural (b.takeWhile isDigit) : Nat) : Int) : Rat) = ((natural (b.takeWhile isDigit) : Nat) : Rat) := rfl
        grind
      rw [← e1]; exact h
    have hlt : twd b < b.length := by rw [bytesV_length] at h2; omega
    rw [uv_rest h1' hlt] at k
    refine ⟨_, rfl, (by show 0 ≤ sizeLine; decide), fun l2 hl2 => ?_⟩
    have E4 := E3.lend hl2 (o := .lst [])
    have hl2' : SqL K (upd (upd H2 l (.lst [])) l2 (.lst [])) l2 [] := .of upd_same
    generalize upd (upd H2 l (.lst [])) l2 (.lst []) = H4 at E4 hl2'
    refine ⟨q, l2, intsOf (b.drop (twd b + 1)), intsOf [], rfl, rfl, by rw [← bytesV_eq]; exact .of (E4.sub _ _ hB), hl2', _, rfl, if_dec (fun h3 => ?_) (fun h3 => ?_)⟩
    · rw [if_pos (.inl (bytes_nil.mp h3))] at k
      exact iteT (k _)
    have h3' : ¬ b.drop (twd b + 1) = [] := fun z => h3 (bytes_nil.mpr z)
    refine ⟨_, rfl, G2, _, b.drop (twd b + 1), 0, rfl, E4.sub, ⟨q, rfl, .of hB⟩, _, rfl, q, _, rfl, .inl (.of (E4.sub _ _ hB)), _, _, rfl, rfl, _, rfl, if_dec (fun h4 => ?_) (fun h4 => ?_)⟩
    · rw [bytesV_length, List.drop_zero, Nat.zero_add] at h4
      rw [if_pos (.inr ((dig_all _).mp (by omega)))] at k
      exact k _
    have h4' : (b.drop (twd b + 1)).all isDigit = true := by
      rw [bytesV_length, List.drop_zero, Nat.zero_add] at h4
      cases z : (b.drop (twd b + 1)).all isDigit with
      | true => rfl
      | false => exact absurd ((dig_all _).mpr z) (by omega)
    rw [if_neg (by rw [h4']; simp [h3'])] at k
    refine ⟨_, rfl, _, rfl, a, _, _, _, rfl, rfl, E4.sub.seq hT, at_byte hlt, rfl, _, rfl, if_eqI (fun h5 => ?_) (fun h5 => ?_)⟩
    · have h5' : b[twd b] = 46 := UInt8.toNat_inj.mp (by show _ = 46; omega)
      rw [if_pos h5'] at k
      refine ⟨_, rfl, _, rfl, G2, _, _, b.takeWhile isDigit, b.drop (twd b + 1), rfl, E4.sub, ⟨p, rfl, hF⟩, ⟨q, rfl, hB⟩, ?_, ?_, fun v G' H' e h => k v G' H' (E4.trans e) h⟩
      · rw [List.all_append, h4', Ma.tw_digits]; rfl
      · have : (b.takeWhile isDigit).length = twd b := rfl
        rw [List.length_drop]; omega
    have h5' : ¬ b[twd b] = 46 := fun z => h5 (by rw [z]; rfl)
    rw [if_neg h5'] at k
    refine ⟨_, rfl, _, rfl, a, _, _, _, rfl, rfl, E4.sub.seq hT, at_byte hlt, rfl, _, rfl, if_eqI (fun h6 => ?_) (fun h6 => ?_)⟩
    · have h6' : b[twd b] = 47 := UInt8.toNat_inj.mp (by show _ = 47; omega)
      refine ⟨_, rfl, G2, _, _, rfl, E4.sub, ⟨q, rfl, .of hB⟩, h4', _, _, rfl, rfl, _, rfl, if_dec (fun h7 => ?_) (fun h7 => ?_)⟩
      · rw [if_pos ⟨h6', by omega⟩] at k
        refine ⟨_, rfl, G2, _, _, rfl, E4.sub, ⟨p, rfl, .of hF⟩, Ma.tw_digits b, _, rfl, G2, _, _, rfl, E4.sub, ⟨q, rfl, .of hB⟩, h4', G2, _, _, rfl, by omega, E4.sub, fun v G' H' e h => k v G' H' (E4.trans e) h⟩
      · rw [if_neg (by rintro ⟨_, z⟩; omega)] at k
        exact k _
    · have h6' : ¬ b[twd b] = 47 := fun z => h6 (by rw [z]; rfl)
      rw [if_neg (fun z => h6' z.1)] at k
      exact iteF (k _)
theorem hv_long {b : Bytes} (h : 512 < b.length) : Ma.handedV b = none := by unfold Ma.handedV; rw [if_pos h]
theorem hv_eq {b : Bytes} (h : ¬ 512 < b.length) : Ma.handedV b = match Ma.signedV b with
    | some q => if Ln.Num.fits q = true then some q else none
    | none => none := by unfold Ma.handedV; rw [if_neg h]; try rfl
theorem sv_minus (t : Bytes) : Ma.signedV (45 :: t) = (Ma.unsignedV t).map fun q => -q := rfl
theorem sv_plain {b : Bytes} (h : b.take 1 ≠ [45]) : Ma.signedV b = Ma.unsignedV b := by
  unfold Ma.signedV
  split
  · rename_i t; exact absurd rfl h
  · rfl
theorem fits_iff (q : Rat) : Ln.Num.fits q = true ↔ ((q.num.natAbs : Nat) : Int) < 1000000000000000000 ∧ ((q.den : Nat) : Int) < 1000000000000000000 := by
  unfold Ln.Num.fits
  rw [Bool.and_eq_true, decide_eq_true_eq, decide_eq_true_eq]
  have : (10 : Nat) ^ 18 = 1000000000000000000 := by decide
  rw [this]
  omega
def spHanded (K : PySem.W.Frag) (CN : Addr) : Sp := fun vs H Q E => ∃ (G : Hp) (a : V) (b : Bytes), vs = [a] ∧ Same G H ∧ Bs K G a b ∧ OutQ K CN G H (Ma.handedV b) Q E
theorem sc_handed : FnScope ["text", "value"] ["text"] (defScope s_handed_over) := ⟨rfl, rfl, rfl, by decide +kernel, rfl, by decide +kernel, by decide +kernel⟩
theorem ok_handed {f : Addr} {fd : FuncData} (F : Fun K "handed_over" "handed_over" s_handed_over f fd) (T : Td K mg CN) (Dn : Def prog w K mg base 1 "negative" ["x"] (sp1 K (fun _ => True) fun p => -p)) (Du : Def prog w K mg base 4 "unsigned_value" ["text"] (spUns K CN)) : FnOk prog w K mg base (cxX prog w) 5 f fd ["text"] (spHanded K CN) := by
  refine F.okX sc_handed (fun vs H Q E h => ?_) (fun cdv A outer s H vs Q E hr h => ?_)
  · obtain ⟨G, a, b, rfl, _⟩ := h; rfl
  · obtain ⟨G, _, b, rfl, sm, ⟨a, rfl, ha⟩, k⟩ := h
    have hu := hr.units
    have hr1 := hr.mono (show 1 ≤ 4 by decide)
    refine ⟨_, pss_cons (ps_if (pt_cmpR op_gt (pe_callB call_len_seq (by rfl) T.len_ boot_len (pa_cons (pv 0) pa_nil)) (pgi T.most_) (nomark _)) (pss_one (ps_raise0 thr_cx rfl (by rfl) T.nt.m T.nt.c)) pss_nil)
      (pss_mid (ps_if (pt_cmpR (op_eqL hu) (pe_slice sl_list (pv 0) po_none (po_some pe_int)) (pe_lst (pa_cons (pgi T.minus_) pa_nil)) (nomark _))
        (pss_one (ps_set (i := 1) sc_handed.nd rfl (Or.inl rfl) (pe_def Dn hr1 pass_cx (pa_cons (pe_def Du hr pass_cx (pa_cons (pe_slice sl_list (pv 0) (po_some pe_int) po_none) pa_nil)) pa_nil))))
        (pss_one (ps_set (i := 1) sc_handed.nd rfl (Or.inl rfl) (pe_def Du hr pass_cx (pa_cons (pv 0) pa_nil)))))
      (pss_cons (ps_if (pw_or (pt_cmpR op_ge (pe_callB call_abs (by rfl) T.abs_ boot_abs (pa_cons (px 1 (pv 1)) pa_nil)) (pgi T.great_) (nomark _)) (pw_or1 (pt_cmpR op_ge (px 1 (pv 1)) (pgi T.great_) (nomark _)))).pt (pss_one (ps_raise0 thr_cx rfl (by rfl) T.nt.m T.nt.c)) pss_nil)
      (pss_one (ps_ret (pv 1))))), ?_⟩
    refine ⟨_, rfl, a, _, rfl, .inl (sm.seq ha), _, _, rfl, rfl, _, rfl, if_dec (fun h1 => ?_) (fun h1 => ?_)⟩
    · rw [bytesV_length] at h1
      rw [hv_long (by omega)] at k
      exact k _
    have h1' : ¬ 512 < b.length := by rw [bytesV_length] at h1; omega
    rw [hv_eq h1'] at k
    have z1 : ∀ v : V, L2.start ["text", "value"] [V.ref a] = [some (V.ref a), none] := fun _ => rfl
    refine ⟨fun σ' H' => ∃ v q G', σ' = [some (.ref a), some v] ∧ Ext [] G H G' H' ∧ Fr K G' v q ∧ OutQ K CN G H (if Ln.Num.fits q = true then some q else none) Q E, ?_, ?_⟩
    · -- if text[:1] == [MINUS]
      refine ⟨_, rfl, _, rfl, a, _, rfl, sm.seq ha, fun p hp => ?_⟩
      have ec : cutV (bytesV b) none (some 1) = bytesV (b.take 1) := by
        by_cases hz : 1 ≤ b.length
        · exact cut_to b 1 hz
        · have : b = [] := by cases b with | nil => rfl | cons => simp at hz
          subst this; rfl
      rw [ec]
      have E1 := (Ext.refl (M := []) sm).lay hp (o := .lst (bytesV (b.take 1)))
      refine ⟨(by show 1 ≤ sizeLine; decide), fun l hl => ?_⟩
      have E2 := E1.lay hl (o := .lst [.int 45])
      have hpl : p ≠ l := ne_of_none (upd_same (H := H) (a := p)) hl
      have hP : upd (upd G p (.lst (bytesV (b.take 1)))) l (.lst [.int 45]) p = some (.lst (bytesV (b.take 1))) := by rw [upd_ne hpl, upd_same]
      have hL : upd (upd G p (.lst (bytesV (b.take 1)))) l (.lst [.int 45]) l = some (.lst [.int 45]) := upd_same
      generalize upd (upd G p (.lst (bytesV (b.take 1)))) l (.lst [.int 45]) = G2 at E2 hP hL
      generalize upd (upd H p (.lst (bytesV (b.take 1)))) l (.lst [.int 45]) = H2 at E2
      refine ⟨p, l, intsOf (b.take 1), [45], rfl, rfl, by rw [← bytesV_eq]; exact .of (E2.sub _ _ hP), .of (E2.sub _ _ hL), _, rfl, if_dec (fun h2 => ?_) (fun h2 => ?_)⟩
      · have h2' : b.take 1 = [45] := ints_inj (show intsOf (b.take 1) = intsOf [45] from h2)
        obtain ⟨t, rfl⟩ : ∃ t, b = 45 :: t := by
          cases b with
          | nil => simp at h2'
          | cons c t => simp at h2'; exact ⟨t, by rw [h2']⟩
        rw [sv_minus] at k
        refine ⟨_, rfl, _, rfl, a, bytesV (45 :: t), rfl, E2.sub.seq (E2.grow.seq ha), fun r hr' => ?_⟩
        rw [show cutV (bytesV (45 :: t)) (some 1) none = bytesV t from cut_from (45 :: t) 1]
        have E3 := E2.lay hr' (o := .lst (bytesV t))
        refine ⟨_, _, t, rfl, E3.sub, ⟨r, rfl, .of upd_same⟩, ?_, ?_⟩
        · simp at h1'; omega
        · cases hv : Ma.unsignedV t with
          | none => rw [hv] at k; exact k
          | some q =>
            rw [hv] at k
            intro v G3 H3 e3 f3
            refine ⟨G3, _, q, rfl, e3.sub, f3, trivial, fun v4 G4 H4 e4 f4 => ⟨v4, -q, G4, rfl, (E3.trans e3).trans e4, f4, k⟩⟩
      · have h2' : b.take 1 ≠ [45] := fun z => h2 (by rw [z]; rfl)
        rw [sv_plain h2'] at k
        refine ⟨_, rfl, G2, _, b, rfl, E2.sub, ⟨a, rfl, E2.grow.seq ha⟩, by omega, ?_⟩
        cases hv : Ma.unsignedV b with
        | none => rw [hv] at k; exact k
        | some q =>
          rw [hv] at k
          intro v G3 H3 e3 f3
          exact ⟨v, q, G3, rfl, E2.trans e3, f3, k⟩
    · rintro σ' H' ⟨v, q, G', rfl, e1, ⟨r, rfl, hr'⟩, k⟩
      refine ⟨r, _, _, rfl, e1.sub.seqT hr', rfl, _, rfl, _, _, rfl, rfl, _, rfl, if_dec (fun h2 => ?_) (fun h2 => ?_)⟩
      · have : ¬ Ln.Num.fits q = true := fun z => by
          have := (fits_iff q).mp z
          rw [natAbs_if] at h2; omega
        rw [if_neg this] at k
        exact iteT (k _)
      · refine ⟨r, _, _, rfl, e1.sub.seqT hr', rfl, _, _, rfl, rfl, _, rfl, if_dec (fun h3 => ?_) (fun h3 => ?_)⟩
        · have : ¬ Ln.Num.fits q = true := fun z => by
            have := (fits_iff q).mp z
            omega
          rw [if_neg this] at k
          exact k _
        · have : Ln.Num.fits q = true := (fits_iff q).mpr (by rw [natAbs_if] at h2; omega)
          rw [if_pos this] at k
          exact ⟨_, rfl, k _ _ _ e1 ⟨r, rfl, hr'⟩⟩
end
end Th
set_option maxHeartbeats 2000000
namespace Th
open PySem PySem.Spec PyProof.Rows L2
open Ln (Bytes)
open Ln.Text (isDigit natural isLetter Tok tokenIn WORDS)
structure Tk (K : PySem.W.Frag) (mg : Str → Option Value) (CN : Addr) : Prop extends Td K mg CN where
  hash_ : GI mg "HASH" 35
  line_ : GI mg "LINE_END" 10
  mname_ : GI mg "MOST_NAME_BYTES" 32
  mdig_ : GI mg "MOST_DIGITS" 18
  ord_ : mg "ord" = none
section
variable {w : World} {K : PySem.W.Frag} {mg : Str → Option Value} {base : Heap} {CN : Addr}
def spBegins : Sp := fun vs H Q _ => ∃ c : UInt8, vs = [.int (c.toNat : Int)] ∧ Q (.bl (isLetter c)) H
theorem let_int (c : UInt8) : isLetter c = ((decide ((65 : Int) ≤ (c.toNat : Int)) && decide ((c.toNat : Int) ≤ 90)) || ((decide ((97 : Int) ≤ (c.toNat : Int)) && decide ((c.toNat : Int) ≤ 122)) || decide ((c.toNat : Int) = 95))) := by
  unfold isLetter
  simp only [UInt8.le_iff_toNat_le]
  have e1 : decide (UInt8.toNat 65 ≤ c.toNat) = decide ((65 : Int) ≤ (c.toNat : Int)) := by
    rw [show UInt8.toNat 65 = 65 from rfl]; exact decide_eq_decide.mpr (by omega)
  have e2 : decide (c.toNat ≤ UInt8.toNat 90) = decide ((c.toNat : Int) ≤ 90) := by
    rw [show UInt8.toNat 90 = 90 from rfl]; exact decide_eq_decide.mpr (by omega)
  have e3 : decide (UInt8.toNat 97 ≤ c.toNat) = decide ((97 : Int) ≤ (c.toNat : Int)) := by
    rw [show UInt8.toNat 97 = 97 from rfl]; exact decide_eq_decide.mpr (by omega)
  have e4 : decide (c.toNat ≤ UInt8.toNat 122) = decide ((c.toNat : Int) ≤ 122) := by
    rw [show UInt8.toNat 122 = 122 from rfl]; exact decide_eq_decide.mpr (by omega)
  have e5 : (c == 95) = decide ((c.toNat : Int) = 95) := by
    by_cases h : c = 95
    · subst h; rfl
    · have h2 : ¬ (c.toNat : Int) = 95 := fun z => h (UInt8.toNat_inj.mp (by show _ = 95; omega))
      rw [decide_eq_false h2]; simpa using h
  rw [e1, e2, e3, e4, e5, Bool.or_comm, Bool.or_assoc]
theorem sc_begins : FnScope ["byte"] ["byte"] (defScope s_begins_name) := ⟨rfl, rfl, rfl, by decide +kernel, rfl, by decide +kernel, by decide +kernel⟩
theorem ok_begins {f : Addr} {fd : FuncData} (F : Fun K "begins_name" "begins_name" s_begins_name f fd) : FnOk prog w K mg base (cxX prog w) 1 f fd ["byte"] spBegins := by
  refine F.okX sc_begins (fun vs H Q E h => ?_) (fun cdv A outer s H vs Q E hr h => ?_)
  · obtain ⟨c, rfl, _⟩ := h; rfl
  · obtain ⟨c, rfl, k⟩ := h
    refine ⟨_, pss_one (ps_ret (pe_or (pe_chain op_le op_le pe_int (pv 0) pe_int) (pe_or (pe_chain op_le op_le pe_int (pv 0) pe_int) (pe_one (pe_cmpR op_eq (pv 0) pe_int (nomark _)))))), ?_⟩
    rw [let_int] at k
    refine ⟨_, rfl, _, _, rfl, rfl, _, rfl, ?_⟩
    have rest : ∀ (h0 : (decide ((65 : Int) ≤ (c.toNat : Int)) && decide ((c.toNat : Int) ≤ 90)) = false), tOrV (tChain (rI0 fun i j => .bl (decide (i ≤ j))) (rI0 fun i j => .bl (decide (i ≤ j))) (tC (.int 97)) (tVar 0) (tC (.int 122))) (tOp rEq (tVar 0) (tC (.int 95))) [some (.int (c.toNat : Int))] H Q := by
      intro h0
      rw [h0, Bool.false_or] at k
      refine ⟨_, rfl, _, _, rfl, rfl, _, rfl, if_dec (fun h1 => ?_) (fun h1 => ?_)⟩
      · refine ⟨_, _, rfl, rfl, _, rfl, if_dec (fun h2 => ?_) (fun h2 => ?_)⟩
        · rw [decide_eq_true h1, decide_eq_true h2] at k; exact k
        · rw [decide_eq_true h1, decide_eq_false h2] at k
          refine ⟨_, rfl, rfl, ?_⟩
          have e : decide (V.int ((c.toNat : Nat) : Int) = V.int 95) = decide ((c.toNat : Int) = 95) := decide_eq_decide.mpr ⟨fun z => V.int.inj z, fun z => by rw [z]⟩
          rw [e]; exact k
      · rw [decide_eq_false h1] at k
        refine ⟨_, rfl, iteF ⟨_, rfl, rfl, ?_⟩⟩
        have e : decide (V.int ((c.toNat : Nat) : Int) = V.int 95) = decide ((c.toNat : Int) = 95) := decide_eq_decide.mpr ⟨fun z => V.int.inj z, fun z => by rw [z]⟩
        rw [e]; exact k
    refine if_dec (fun h1 => ?_) (fun h1 => ?_)
    · refine ⟨_, _, rfl, rfl, _, rfl, if_dec (fun h2 => ?_) (fun h2 => ?_)⟩
      · rw [decide_eq_true h1, decide_eq_true h2] at k; exact k
      · exact rest (by rw [decide_eq_false h2, Bool.and_false])
    · exact ⟨_, rfl, iteF (rest (by rw [decide_eq_false h1]; rfl))⟩
def goesOn (c : UInt8) : Bool := isLetter c || isDigit c
def spGoes : Sp := fun vs H Q _ => ∃ c : UInt8, vs = [.int (c.toNat : Int)] ∧ Q (.bl (goesOn c)) H
theorem sc_goes : FnScope ["byte"] ["byte"] (defScope s_goes_on_name) := ⟨rfl, rfl, rfl, by decide +kernel, rfl, by decide +kernel, by decide +kernel⟩
theorem ok_goes {f : Addr} {fd : FuncData} (F : Fun K "goes_on_name" "goes_on_name" s_goes_on_name f fd) (Db : Def prog w K mg base 1 "begins_name" ["byte"] spBegins) (Dd : Def prog w K mg base 1 "is_digit" ["byte"] spIsDig) : FnOk prog w K mg base (cxX prog w) 2 f fd ["byte"] spGoes := by
  refine F.okX sc_goes (fun vs H Q E h => ?_) (fun cdv A outer s H vs Q E hr h => ?_)
  · obtain ⟨c, rfl, _⟩ := h; rfl
  · obtain ⟨c, rfl, k⟩ := h
    refine ⟨_, pss_one (ps_ret (pe_or (pe_def Db hr pass_cx (pa_cons (pv 0) pa_nil)) (pe_one (pe_def Dd hr pass_cx (pa_cons (pv 0) pa_nil))))), ?_⟩
    refine ⟨_, rfl, c, rfl, _, rfl, if_bl (fun h => ?_) (fun h => ?_)⟩
    · unfold goesOn at k; rw [h] at k; exact k
    · unfold goesOn at k; rw [h] at k
      exact ⟨_, rfl, c, rfl, k⟩
def spBlanks (K : PySem.W.Frag) : Sp := fun vs H Q _ => ∃ (G : Hp) (a : V) (b : Bytes) (p : Nat), vs = [a, .int (p : Int)] ∧ Same G H ∧ Bs K G a b ∧ p ≤ b.length ∧ ∀ G' H', Ext [] G H G' H' → Q (.int ((Ma.tokS b p : Nat) : Int)) H'
theorem sc_blanks : FnScope ["text", "place", "comment", "byte"] ["text", "place"] (defScope s_blanks_end) := ⟨rfl, rfl, rfl, by decide +kernel, rfl, by decide +kernel, by decide +kernel⟩
theorem skip_cons (cm : Bool) (c : UInt8) (r : Bytes) : Ma.skip cm (c :: r) = if (!(if c = 10 then false else if c = 35 then true else cm) && !Ma.isBl c) = true then 0 else 1 + Ma.skip (if c = 10 then false else if c = 35 then true else cm) r := rfl
theorem in_blank (c : UInt8) : inV (.int (c.toNat : Int)) [.int 32, .int 9, .int 10, .int 13] = Ma.isBl c := by
  have e : ∀ n : UInt8, ((n.toNat : Int) == (c.toNat : Int)) = (c == n) := fun n => by
    by_cases h : c = n
    · subst h; simp
    · have : ¬ (n.toNat : Int) = (c.toNat : Int) := fun z => h (UInt8.toNat_inj.mp (by omega))
      rw [beq_eq_false_iff_ne.mpr this, beq_eq_false_iff_ne.mpr h]
  unfold inV Ma.isBl
  show (((32 : Int) == (c.toNat : Int)) || (((9 : Int) == (c.toNat : Int)) || (((10 : Int) == (c.toNat : Int)) || (((13 : Int) == (c.toNat : Int)) || false)))) = _
  have e1 := e 32
  have e2 := e 9
  have e3 := e 10
  have e4 := e 13
  rw [show ((32 : UInt8).toNat : Int) = 32 from rfl] at e1
  rw [show ((9 : UInt8).toNat : Int) = 9 from rfl] at e2
  rw [show ((10 : UInt8).toNat : Int) = 10 from rfl] at e3
  rw [show ((13 : UInt8).toNat : Int) = 13 from rfl] at e4
  rw [e1, e2, e3, e4, Bool.or_false, Bool.or_assoc, Bool.or_assoc]
theorem byte_eq {c : UInt8} {n : UInt8} {i : Int} (hn : (n.toNat : Int) = i) : ((c.toNat : Int) = i) ↔ c = n := ⟨fun h => UInt8.toNat_inj.mp (by omega), fun h => by rw [h]; exact hn⟩
theorem ok_blanks {f : Addr} {fd : FuncData} (F : Fun K "blanks_end" "blanks_end" s_blanks_end f fd) (T : Tk K mg CN) : FnOk prog w K mg base (cxX prog w) 1 f fd ["text", "place"] (spBlanks K) := by
  refine F.okX sc_blanks (fun vs H Q E h => ?_) (fun cdv A outer s H vs Q E hr h => ?_)
  · obtain ⟨G, a, b, p, rfl, _⟩ := h; rfl
  · obtain ⟨G, _, b, p, rfl, sm, ⟨a, rfl, ha⟩, hp, k⟩ := h
    have hu := hr.units
    refine ⟨_, pss_cons (ps_set (i := 2) sc_blanks.nd rfl (Or.inl rfl) pe_bl) (pss_cons (ps_while own_cx (pt_cmpR op_lt (pv 1) (pe_callB call_len_seq (by rfl) T.len_ boot_len (pa_cons (pv 0) pa_nil)) (nomark _))
      (pss_cons (ps_set (i := 3) sc_blanks.nd rfl (Or.inl rfl) (pe_ix ix_list (pv 0) (pv 1) (fun _ _ => rfl)))
      (pss_mid (ps_if (pt_cmpR op_eq (pv 3) (pgi T.hash_) (nomark _)) (pss_one (ps_set (i := 2) sc_blanks.nd rfl (Or.inl rfl) pe_bl)) pss_nil)
      (pss_mid (ps_if (pt_cmpR op_eq (pv 3) (pgi T.line_) (nomark _)) (pss_one (ps_set (i := 2) sc_blanks.nd rfl (Or.inl rfl) pe_bl)) pss_nil)
      (pss_cons (ps_if (pw_and (pt_not (pt_val (pv 2))) (pw_and1 (pt_cmpR op_notIn_seq (pv 3) (pe_tup (pa_cons pe_int (pa_cons pe_int (pa_cons pe_int (pa_cons pe_int pa_nil))))) rfl))).pt (pss_one ps_break) pss_nil)
      (pss_one (ps_aug (i := 1) sc_blanks.nd rfl (Or.inl rfl) pe_int ip_add)))))))
      (pss_one (ps_ret (pv 1)))), ?_⟩
    refine while_by (fun σ H' => ∃ (G' : Hp) (i : Nat) (cm : Bool) (r : Option V), σ = [some (.ref a), some (.int (i : Int)), some (.bl cm), r] ∧ Ext [] G H G' H' ∧ i ≤ b.length ∧ i + Ma.skip cm (b.drop i) = Ma.tokS b p) (fun σ _ => b.length - slotN 1 σ) ⟨G, p, false, none, rfl, Ext.refl sm, hp, rfl⟩ ?_ (fun σ H Q Q' hq ⟨x, e, y, e2, p, ys, e3, h3, i, j, e4, e5, z, e6, h⟩ => ⟨x, e, y, e2, p, ys, e3, h3, i, j, e4, e5, z, e6, hq _ _ h⟩)
    rintro σ H' ⟨G', i, cm, r, rfl, e0, hi, e⟩
    refine ⟨_, rfl, _, rfl, a, _, rfl, .inl (e0.sub.seq (e0.grow.seq ha)), _, _, rfl, rfl, _, rfl, if_dec (fun h1 => ?_) (fun h1 => ?_)⟩
    · have hlt : i < b.length := by rw [bytesV_length] at h1; omega
      rw [drop_cons hlt, skip_cons] at e
      refine ⟨_, rfl, _, rfl, a, _, _, _, rfl, rfl, e0.sub.seq (e0.grow.seq ha), at_byte hlt, ?_⟩
      generalize b[i] = c at e
      refine ⟨fun σ' H2 => H2 = H' ∧ σ' = [some (.ref a), some (.int (i : Int)), some (.bl (if c = 35 then true else cm)), some (.int (c.toNat : Int))], ?_, ?_⟩
      · refine ⟨_, rfl, rfl, _, rfl, if_eqI (fun h2 => ?_) (fun h2 => ?_)⟩
        · rw [if_pos ((byte_eq (n := 35) rfl).mp h2)]; exact ⟨rfl, rfl⟩
        · rw [if_neg (fun z => h2 ((byte_eq (n := 35) rfl).mpr z))]; exact ⟨rfl, rfl⟩
      rintro σ' H2 ⟨rfl, rfl⟩
      refine ⟨fun σ' H3 => H3 = H2 ∧ σ' = [some (.ref a), some (.int (i : Int)), some (.bl (if c = 10 then false else if c = 35 then true else cm)), some (.int (c.toNat : Int))], ?_, ?_⟩
      · refine ⟨_, rfl, rfl, _, rfl, if_eqI (fun h2 => ?_) (fun h2 => ?_)⟩
        · rw [if_pos ((byte_eq (n := 10) rfl).mp h2)]; exact ⟨rfl, rfl⟩
        · rw [if_neg (fun z => h2 ((byte_eq (n := 10) rfl).mpr z))]; exact ⟨rfl, rfl⟩
      rintro σ' H3 ⟨rfl, rfl⟩
      generalize (if c = 10 then false else if c = 35 then true else cm) = d at e
      refine ⟨_, rfl, _, rfl, ?_⟩
      have go : ∀ (G4 H4 : Hp), Ext [] G H G4 H4 → (!d && !Ma.isBl c) = false → tAug 1 (tC (.int 1)) (ipI fun i j => i + j) { nx := fun σ' H' => (∃ (G' : Hp) (i : Nat) (cm : Bool) (r : Option V), σ' = [some (.ref a), some (.int (i : Int)), some (.bl cm), r] ∧ Ext [] G H G' H' ∧ i ≤ b.length ∧ i + Ma.skip cm (b.drop i) = Ma.tokS b p) ∧ b.length - slotN 1 σ' < b.length - i, rt := Q } [some (.ref a), some (.int (i : Int)), some (.bl d), some (.int (c.toNat : Int))] H4 := by
        intro G4 H4 e4 hz
        refine ⟨_, rfl, _, _, rfl, rfl, ⟨G4, i + 1, d, _, rfl, e4, hlt, ?_⟩, ?_⟩
        · rw [hz, if_neg (by decide)] at e
          rw [← e, Nat.add_assoc]
        · show b.length - ((i : Int) + 1).toNat < b.length - i
          omega
      cases d with
      | true => exact iteF (go G' _ e0 rfl)
      | false =>
        refine iteT ⟨_, rfl, (by show 4 ≤ sizeLine; decide), fun t ht => ?_⟩
        have e1 := e0.lay ht (o := .tup [.int 32, .int 9, .int 10, .int 13])
        refine ⟨t, _, rfl, .inr (.of upd_same), rfl, rfl, _, rfl, ?_⟩
        show if (!inV (.int (c.toNat : Int)) [.int 32, .int 9, .int 10, .int 13]) = true then _ else _
        rw [in_blank]
        cases hb : Ma.isBl c with
        | true => exact iteF (go _ _ e1 (by rw [hb]; rfl))
        | false =>
          rw [hb, if_pos (show (!false && !false) = true from rfl)] at e
          refine iteT ⟨_, rfl, ?_⟩
          have := k _ _ e1
          rw [← e] at this
          exact this
    · have hge : b.length ≤ i := by rw [bytesV_length] at h1; omega
      rw [List.drop_eq_nil_of_le hge] at e
      refine ⟨_, rfl, ?_⟩
      have := k _ _ e0
      rw [← e] at this
      exact this
end
end Th
set_option maxHeartbeats 2000000
namespace Th
open PySem PySem.Spec PyProof.Rows L2
open Ln (Bytes)
open Ln.Text (isDigit natural isLetter isMark Tok tokenIn WORDS)
def GT (K : PySem.W.Frag) (mg : Str → Option Value) (x : Str) (xs : List V) : Prop := ∃ a, mg x = some (.ref a) ∧ ∀ H, SqT K H a xs
def GS (mg : Str → Option Value) (x : Str) (y : Str) : Prop := ∃ t, mg x = some (.str y t)
theorem pgs {X : Cx} {x y : Str} {pos : Pos} (h : GS X.mg x y) (hg : Gl X x := by rfl) (hd : (x == ("__debug__" : Str)) = false := by decide) : PE X (.Name x pos) (tC (.str y)) :=
  let ⟨t, e⟩ := h; pe_glob hg e ⟨t, rfl⟩ hd
def WS : List String := ["after", "clear", "conic", "curve", "flat", "glass", "into", "mirror", "radius", "start", "stop", "surface"]
theorem words_eq : WORDS = WS.map Ln.ascii := rfl
def strB (b : Bytes) : Str := ⟨(Ma.codes b).toArray⟩
theorem ws_codes : ∀ s ∈ WS, (Str.ofString s) = strB (Ln.ascii s) := by decide +kernel
theorem ws_small : ∀ s ∈ WS, (Ln.ascii s).length ≤ 32 := by decide +kernel
structure Tl (K : PySem.W.Frag) (mg : Str → Option Value) (CN : Addr) : Prop extends Tk K mg CN where
  words_ : GT K mg "WORDS" (WS.map fun s => V.str (Str.ofString s))
  marks_ : GS mg "MARKS" ":,;/-"
theorem strB_cps (b : Bytes) : (strB b).cps.toList = Ma.codes b := by unfold strB; simp
theorem sgn_strB (b : Bytes) : sgn (strB b) = b.map fun (c : UInt8) => V.str ⟨#[c.toNat]⟩ := by
  unfold sgn
  rw [strB_cps]
  unfold Ma.codes
  rw [List.map_map]; rfl
section
variable {w : World} {K : PySem.W.Frag} {mg : Str → Option Value} {base : Heap} {CN : Addr}
def wonS (b : Bytes) : Str := if b ∈ WORDS then strB b else "name"
def spWon (K : PySem.W.Frag) : Sp := fun vs H Q _ => ∃ (G : Hp) (a : V) (b : Bytes), vs = [a] ∧ Same G H ∧ Bs K G a b ∧ ∀ G' H', Ext [] G H G' H' → Q (.str (wonS b)) H'
theorem sc_won : FnScope ["piece", "word", "sign"] ["piece"] (defScope s_word_or_name) := ⟨rfl, rfl, rfl, by decide +kernel, rfl, by decide +kernel, by decide +kernel⟩
theorem ok_won {f : Addr} {fd : FuncData} (F : Fun K "word_or_name" "word_or_name" s_word_or_name f fd) (T : Tl K mg CN) : FnOk prog w K mg base (cxX prog w) 1 f fd ["piece"] (spWon K) := by
  refine F.okX sc_won (fun vs H Q E h => ?_) (fun cdv A outer s H vs Q E hr h => ?_)
  · obtain ⟨G, a, b, rfl, _⟩ := h; rfl
  · obtain ⟨G, _, b, rfl, sm, ⟨a, rfl, ha⟩, k⟩ := h
    have hu := hr.units
    obtain ⟨aW, hmW, hW⟩ := T.words_
    refine ⟨_, pss_cons (ps_for own_cx rfl (pi_tup (pe_glob (v := .ref aW) rfl hmW rfl)) (pg_name (i := 1) sc_won.nd rfl (Or.inl rfl)) (pss_one (ps_if (pt_cmpR (op_eqL hu) (pv 0)
      (pe_lc (own := [("sign", 2)]) rfl sc_won.nd (pi_str (pv 1)) (blkOk_by (show blkC ["piece", "word", "sign"] (defScope s_word_or_name) _ _ = true by decide +kernel)) (fun _ _ _ _ _ => pg_name (i := 2) sc_won.nd rfl (Or.inl rfl)) (fun _ _ _ _ _ => pts_nil) (fun _ _ _ _ _ => pe_callB call_ord (by rfl) T.ord_ boot_ord (pa_cons (pv 2) pa_nil))) (nomark _))
      (pss_one (ps_ret (pv 1))) pss_nil))) (pss_one (ps_ret pe_str)), ?_⟩
    refine ⟨aW, rfl, ⟨_, hW _⟩, for_tup (K := K) (a := aW) (xs := WS.map fun s => V.str (Str.ofString s)) (fun i σ H' => ∃ (G' : Hp) (r1 r2 : Option V), σ = [some (.ref a), r1, r2] ∧ Ext [] G H G' H' ∧ b ∉ (WORDS.take i)) ⟨G, none, none, rfl, Ext.refl sm, by simp⟩ (fun i σ H' _ _ => hW _) ?_ ?_⟩
    · rintro i y σ H' hy ⟨G', r1, r2, rfl, e0, hn⟩
      rw [List.getElem?_map] at hy
      obtain ⟨x, hx, rfl⟩ : ∃ x, WS[i]? = some x ∧ y = V.str (Str.ofString x) := by
        cases q : WS[i]? with
        | none => rw [q] at hy; cases hy
        | some x => rw [q] at hy; exact ⟨x, rfl, (Option.some.inj hy).symm⟩
      have hm : x ∈ WS := List.mem_of_getElem? hx
      have hc := ws_codes x hm
      have hsmall := ws_small x hm
      rw [hc]
      generalize hz : Ln.ascii x = z at hsmall
      refine ⟨_, rfl, _, rfl, _, rfl, fun D hD => ?_⟩
      refine lc_str (x := strB z) (fun i Hc => Hc = upd H' D (.lst ((intsOf (z.take i)).map V.int))) rfl ?_ ?_
      · rintro j v Hc hv rfl
        rw [sgn_strB, List.getElem?_map] at hv
        obtain ⟨c, hcc, rfl⟩ : ∃ c, z[j]? = some c ∧ v = V.str ⟨#[c.toNat]⟩ := by
          cases q : z[j]? with
          | none => rw [q] at hv; cases hv
          | some x => rw [q] at hv; exact ⟨x, rfl, (Option.some.inj hv).symm⟩
        obtain ⟨hj, hjc⟩ := List.getElem?_eq_some_iff.mp hcc
        refine ⟨rfl, _, rfl, _, rfl, rfl, _, upd_same, ?_, ?_⟩
        · rw [List.length_map]
          have : (intsOf (z.take j)).length ≤ 32 := by unfold intsOf; rw [List.length_map, List.length_take]; omega
          exact Nat.lt_of_le_of_lt this (by decide)
        · rw [upd_upd, take_snoc' hj, hjc]
          unfold intsOf
          rw [List.map_append, List.map_append]; rfl
      · rintro Hc rfl
        have e1 : z.take (sgn (strB z)).length = z := by rw [sgn_strB, List.length_map]; exact List.take_length
        rw [e1]
        have E1 := e0.lend hD (o := .lst ((intsOf z).map V.int))
        refine ⟨a, D, intsOf b, intsOf z, rfl, rfl, (by have q := E1.sub.seq (E1.grow.seq ha); rw [bytesV_eq b] at q; exact q), .of upd_same, _, rfl, if_dec (fun h1 => ?_) (fun h1 => ?_)⟩
        · have hbz : b = z := ints_inj h1
          refine ⟨_, rfl, ?_⟩
          have kk := k _ _ E1
          have : b ∈ WORDS := by rw [hbz, ← hz, words_eq]; exact List.mem_map.mpr ⟨x, hm, rfl⟩
          unfold wonS at kk
          rw [if_pos this, hbz] at kk
          exact kk
        · refine ⟨G', _, _, rfl, E1, ?_⟩
          have ht : WORDS.take (i + 1) = WORDS.take i ++ [z] := by
            rw [List.take_add_one, words_eq, List.getElem?_map, hx]
            show _ ++ [Ln.ascii x] = _
            rw [hz]
          rw [ht]
          intro hmem
          rcases List.mem_append.mp hmem with q | q
          · exact hn q
          · exact h1 (by rw [List.mem_singleton.mp q])
    · rintro σ H' ⟨G', r1, r2, rfl, e0, hn⟩
      have kk := k _ _ e0
      unfold wonS at kk
      have hl : WORDS.take (WS.map fun s => V.str (Str.ofString s)).length = WORDS := by rw [List.length_map]; exact List.take_of_length_le (by rw [words_eq, List.length_map]; exact Nat.le_refl _)
      rw [hl] at hn
      rw [if_neg hn] at kk
      exact kk
end
end Th
set_option maxHeartbeats 2000000
namespace Th
open PySem PySem.Spec PyProof.Rows L2
open Ln (Bytes)
open Ln.Text (isDigit natural isLetter isMark Tok tokenIn numberIn WORDS NAME)
def kdS : Ln.Text.Tok → Str
  | .word w => strB w
  | .name _ => "name"
  | .num _ _ false => "whole"
  | .num _ _ true => "pointed"
  | .mark c => ⟨#[c.toNat]⟩
  | .end_ => "end"
  | .broken => "none"
def TkV (K : PySem.W.Frag) (G : Hp) (v : V) (k : Str) (s e : Nat) : Prop := ∃ p, v = .ref p ∧ SqT K G p [.str k, .int (s : Int), .int (e : Int)]
def twg (b : Bytes) : Nat := (b.takeWhile goesOn).length
theorem twg_pos {b : List UInt8} {i : Nat} (h : i < b.length) (hd : goesOn b[i] = true) : i + 1 + twg (b.drop (i + 1)) = i + twg (b.drop i) := by
  rw [drop_cons h]
  unfold twg
  rw [List.takeWhile_cons, hd, if_pos rfl, List.length_cons]
  rw [Nat.add_assoc, Nat.add_comm 1]
theorem twg_stop {b : List UInt8} {i : Nat} (h : i < b.length) (hd : goesOn b[i] = false) : twg (b.drop i) = 0 := by
  rw [drop_cons h]
  unfold twg
  rw [List.takeWhile_cons, hd, if_neg (by decide)]; rfl
theorem tok_letter {c : Bytes} {x : UInt8} {r : Bytes} (hc : c = x :: r) (h : isLetter x = true) : tokenIn c = if 32 < twg c then (.broken, 0) else if WORDS.contains (c.takeWhile goesOn) = true then (.word (c.takeWhile goesOn), twg c) else (.name (c.takeWhile goesOn), twg c) := by
  subst hc
  simp only [tokenIn, h, if_true]
  rfl
section
variable {w : World} {K : PySem.W.Frag} {mg : Str → Option Value} {base : Heap} {CN : Addr}
def spTokAt (K : PySem.W.Frag) (C : UInt8 → Prop) : Sp := fun vs H Q _ => ∃ (G : Hp) (a : V) (b : Bytes) (s : Nat) (hs : s < b.length), vs = [a, .int (s : Int)] ∧ Same G H ∧ Bs K G a b ∧ C b[s] ∧ ∀ v G' H', Ext [] G H G' H' → TkV K G' v (kdS (tokenIn (b.drop s)).1) s (s + (tokenIn (b.drop s)).2) → Q v H'
theorem sc_ntok : FnScope ["text", "start", "end"] ["text", "start"] (defScope s_name_token) := ⟨rfl, rfl, rfl, by decide +kernel, rfl, by decide +kernel, by decide +kernel⟩
theorem ok_ntok {f : Addr} {fd : FuncData} (F : Fun K "name_token" "name_token" s_name_token f fd) (T : Tl K mg CN) (Dg : Def prog w K mg base 2 "goes_on_name" ["byte"] spGoes) (Dw : Def prog w K mg base 1 "word_or_name" ["piece"] (spWon K)) : FnOk prog w K mg base (cxX prog w) 3 f fd ["text", "start"] (spTokAt K fun c => isLetter c = true) := by
  refine F.okX sc_ntok (fun vs H Q E h => ?_) (fun cdv A outer s H vs Q E hr h => ?_)
  · obtain ⟨G, a, b, p, _, rfl, _⟩ := h; rfl
  · obtain ⟨G, _, b, p, hp, rfl, sm, ⟨a, rfl, ha⟩, hc, k⟩ := h
    have hr1 := hr.mono (show 1 ≤ 2 by decide)
    refine ⟨_, pss_cons (ps_set (i := 2) sc_ntok.nd rfl (Or.inl rfl) (pv 1)) (pss_cons (ps_while own_cx (pw_and (pt_cmpR op_lt (pv 2) (pe_callB call_len_seq (by rfl) T.len_ boot_len (pa_cons (pv 0) pa_nil)) (nomark _)) (pw_and1 (pt_val (pe_def Dg hr pass_cx (pa_cons (pe_ix ix_list (pv 0) (pv 2) (fun _ _ => rfl)) pa_nil))))).pt
      (pss_one (ps_aug (i := 2) sc_ntok.nd rfl (Or.inl rfl) pe_int ip_add)))
      (pss_cons (ps_if (pt_cmpR op_gt (pe_op op_sub (pv 2) (pv 1)) (pgi T.mname_) (nomark _)) (pss_one (ps_ret (pe_tup (pa_cons pe_str (pa_cons (pv 1) (pa_cons (pv 1) pa_nil)))))) pss_nil)
      (pss_one (ps_ret (pe_tup (pa_cons (pe_def Dw hr1 pass_cx (pa_cons (pe_slice sl_list (pv 0) (po_some (pv 1)) (po_some (pv 2))) pa_nil)) (pa_cons (pv 1) (pa_cons (pv 2) pa_nil)))))))), ?_⟩
    refine ⟨_, rfl, ?_⟩
    rw [tok_letter (drop_cons hp) hc] at k
    have hle : p + twg (b.drop p) ≤ b.length := by
      have : ((b.drop p).takeWhile goesOn).length ≤ (b.drop p).length := (List.takeWhile_prefix _).length_le
      rw [List.length_drop] at this
      unfold twg; omega
    have fin : tIfS (tTest (tOp (rI0 fun i j => .bl (decide (i > j))) (tOp (rI0 fun i j => .int (i - j)) (tVar 2) (tVar 1)) (tC (.int 32)))) (tRet (tTup (tCons (tC (.str "none")) (tCons (tVar 1) (tCons (tVar 1) tNil))))) tNext
        { nx := (tRet (tTup (tCons (tCall (spWon K) [] E (tCons (tSl (rSlL K) (tVar 0) (tPart (tVar 1)) (tPart (tVar 2))) tNil)) (tCons (tVar 1) (tCons (tVar 2) tNil))))) { nx := fun _ H' => Q .non H', rt := Q }, rt := Q } [some (.ref a), some (.int (p : Int)), some (.int ((p + twg (b.drop p) : Nat) : Int))] H := by
      refine ⟨_, rfl, _, rfl, _, _, rfl, rfl, _, _, rfl, rfl, _, rfl, if_dec (fun h1 => ?_) (fun h1 => ?_)⟩
      · have h1' : 32 < twg (b.drop p) := by omega
        rw [if_pos h1'] at k
        refine ⟨_, rfl, _, rfl, (by show 3 ≤ sizeLine; decide), fun l hl => ?_⟩
        exact k _ _ _ ((Ext.refl sm).lay hl) ⟨l, rfl, .of upd_same⟩
      · have h1' : ¬ 32 < twg (b.drop p) := by omega
        rw [if_neg h1'] at k
        refine ⟨_, rfl, _, rfl, _, rfl, _, rfl, _, rfl, a, _, rfl, sm.seq ha, fun q hq => ?_⟩
        have ec : cutV (bytesV b) (some (p : Int)) (some ((p + twg (b.drop p) : Nat) : Int)) = bytesV ((b.drop p).takeWhile goesOn) := by
          rw [cut_bytes b p _ (Nat.le_of_lt hp) hle, Nat.add_sub_cancel_left]
          unfold twg
          rw [Ma.take_tw]
        rw [ec]
        have E1 := (Ext.refl (M := []) sm).lay hq (o := .lst (bytesV ((b.drop p).takeWhile goesOn)))
        refine ⟨_, _, _, rfl, E1.sub, ⟨q, rfl, .of upd_same⟩, fun G2 H2 E2 => ?_⟩
        refine ⟨_, rfl, _, rfl, (by show 3 ≤ sizeLine; decide), fun l hl => ?_⟩
        have E3 := (E1.trans E2).lay hl (o := .tup [.str (wonS ((b.drop p).takeWhile goesOn)), .int (p : Int), .int ((p + twg (b.drop p) : Nat) : Int)])
        have kk := k (.ref l) _ _ E3
        by_cases hw : (b.drop p).takeWhile goesOn ∈ WORDS
        · rw [if_pos (List.contains_iff_mem.mpr hw)] at kk
          refine kk ⟨l, rfl, .of ?_⟩
          rw [upd_same]
          unfold wonS
          rw [if_pos hw]; rfl
        · rw [if_neg (fun z => hw (List.contains_iff_mem.mp z))] at kk
          refine kk ⟨l, rfl, .of ?_⟩
          rw [upd_same]
          unfold wonS
          rw [if_neg hw]; rfl
    refine while_by (fun σ H' => H' = H ∧ ∃ i : Nat, σ = [some (.ref a), some (.int (p : Int)), some (.int (i : Int))] ∧ i + twg (b.drop i) = p + twg (b.drop p)) (fun σ _ => b.length - slotN 2 σ) ⟨rfl, p, rfl, rfl⟩ ?_ ?_
    · rintro σ H' ⟨rfl, i, rfl, e⟩
      refine ⟨_, rfl, _, rfl, a, _, rfl, .inl (sm.seq ha), _, _, rfl, rfl, _, rfl, if_dec (fun h1 => ?_) (fun h1 => ?_)⟩
      · have hi : i < b.length := by rw [bytesV_length] at h1; omega
        refine ⟨_, rfl, _, rfl, a, _, _, _, rfl, rfl, sm.seq ha, at_byte hi, b[i], rfl, _, rfl, if_bl (fun h2 => ?_) (fun h2 => ?_)⟩
        · refine ⟨_, rfl, _, _, rfl, rfl, ⟨rfl, i + 1, rfl, ?_⟩, ?_⟩
          · rw [twg_pos hi h2]; exact e
          · show b.length - ((i : Int) + 1).toNat < b.length - ((i : Int)).toNat
            omega
        · rw [twg_stop hi h2] at e
          have e' : i = p + twg (b.drop p) := e
          subst e'
          exact fin
      · refine iteF ?_
        have hi : b.length ≤ i := by rw [bytesV_length] at h1; omega
        rw [List.drop_eq_nil_of_le hi] at e
        have e' : i = p + twg (b.drop p) := e
        subst e'
        exact fin
    · rintro σ H Q Q' hq ⟨x, e, y, e2, p, ys, e3, h3, i, j, e4, e5, z, e6, h⟩
      refine ⟨x, e, y, e2, p, ys, e3, h3, i, j, e4, e5, z, e6, ?_⟩
      cases z with
      | false => rw [if_neg (by decide)] at h ⊢; exact hq _ _ h
      | true =>
        rw [if_pos rfl] at h ⊢
        obtain ⟨x1, f1, x2, f2, g1, g2, g3, g4, f3, f4, f5, f6, c, f7, u, f8, h⟩ := h
        exact ⟨x1, f1, x2, f2, g1, g2, g3, g4, f3, f4, f5, f6, c, f7, u, f8, hq _ _ h⟩
end
end Th
set_option maxHeartbeats 2000000
namespace Th
open PySem PySem.Spec PyProof.Rows L2
open Ln (Bytes)
open Ln.Text (isDigit natural isLetter isMark tokenIn numberIn WORDS NAME)
section
variable {w : World} {K : PySem.W.Frag} {mg : Str → Option Value} {base : Heap} {CN : Addr}
def bars (b : Bytes) (p : Nat) : Bool := (b.drop p).head?.any fun c => goesOn c || c == 46
def spBars (K : PySem.W.Frag) : Sp := fun vs H Q _ => ∃ (G : Hp) (a : V) (b : Bytes) (p : Nat), vs = [a, .int (p : Int)] ∧ Same G H ∧ Bs K G a b ∧ Q (.bl (bars b p)) H
theorem sc_bars : FnScope ["text", "place"] ["text", "place"] (defScope s_bars_number) := ⟨rfl, rfl, rfl, by decide +kernel, rfl, by decide +kernel, by decide +kernel⟩
theorem bars_at {b : Bytes} {p : Nat} (h : p < b.length) : bars b p = (goesOn b[p] || b[p] == 46) := by
  unfold bars
  rw [drop_cons h]; rfl
theorem bars_end {b : Bytes} {p : Nat} (h : b.length ≤ p) : bars b p = false := by
  unfold bars
  rw [List.drop_eq_nil_of_le h]; rfl
theorem ok_bars {f : Addr} {fd : FuncData} (F : Fun K "bars_number" "bars_number" s_bars_number f fd) (T : Tl K mg CN) (Dg : Def prog w K mg base 2 "goes_on_name" ["byte"] spGoes) : FnOk prog w K mg base (cxX prog w) 3 f fd ["text", "place"] (spBars K) := by
  refine F.okX sc_bars (fun vs H Q E h => ?_) (fun cdv A outer s H vs Q E hr h => ?_)
  · obtain ⟨G, a, b, p, rfl, _⟩ := h; rfl
  · obtain ⟨G, _, b, p, rfl, sm, ⟨a, rfl, ha⟩, k⟩ := h
    refine ⟨_, pss_one (ps_ret (pe_and (pe_cmpR op_lt (pv 1) (pe_callB call_len_seq (by rfl) T.len_ boot_len (pa_cons (pv 0) pa_nil)) (nomark _)) (pe_one (pe_or (pe_def Dg hr pass_cx (pa_cons (pe_ix ix_list (pv 0) (pv 1) (fun _ _ => rfl)) pa_nil)) (pe_one (pe_cmpR op_eq (pe_ix ix_list (pv 0) (pv 1) (fun _ _ => rfl)) (pgi T.point_) (nomark _))))))), ?_⟩
    refine ⟨_, rfl, _, rfl, a, _, rfl, .inl (sm.seq ha), _, _, rfl, rfl, _, rfl, if_dec (fun h1 => ?_) (fun h1 => ?_)⟩
    · have hp : p < b.length := by rw [bytesV_length] at h1; omega
      rw [bars_at hp] at k
      refine ⟨_, rfl, _, rfl, a, _, _, _, rfl, rfl, sm.seq ha, at_byte hp, b[p], rfl, _, rfl, if_bl (fun h2 => ?_) (fun h2 => ?_)⟩
      · rw [h2] at k; exact k
      · rw [h2, Bool.false_or] at k
        refine ⟨_, rfl, _, rfl, a, _, _, _, rfl, rfl, sm.seq ha, at_byte hp, rfl, ?_⟩
        have e : decide (V.int ((b[p].toNat : Nat) : Int) = V.int 46) = (b[p] == 46) := by
          by_cases h : b[p] = 46
          · rw [h]; rfl
          · have : ¬ V.int ((b[p].toNat : Nat) : Int) = V.int 46 := fun z => h ((byte_eq (n := 46) rfl).mp (V.int.inj z))
            rw [decide_eq_false this, beq_eq_false_iff_ne.mpr h]
        rw [e]; exact k
    · rw [bars_end (by rw [bytesV_length] at h1; omega)] at k
      exact k
theorem sc_numt : FnScope ["text", "start", "middle", "kind", "end", "count"] ["text", "start"] (defScope s_number_token) := ⟨rfl, rfl, rfl, by decide +kernel, rfl, by decide +kernel, by decide +kernel⟩
theorem behind_digits {c : Bytes} : ∀ x, (c.drop (c.takeWhile isDigit).length).head? = some x → isDigit x = false := by
  induction c with
  | nil => intro x h; cases h
  | cons a c ih =>
    intro x h
    cases hd : isDigit a with
    | true =>
      rw [List.takeWhile_cons, hd, if_pos rfl, List.length_cons, List.drop_succ_cons] at h
      exact ih x h
    | false =>
      rw [List.takeWhile_cons, hd, if_neg (by decide)] at h
      cases h; exact hd
theorem any_goes {o : Option UInt8} (h : ∀ x, o = some x → isDigit x = false) : (o.any fun c => goesOn c || c == 46) = o.any fun (c : UInt8) => isLetter c || c == 46 := by
  cases o with
  | none => rfl
  | some x =>
    show (goesOn x || x == 46) = (isLetter x || x == 46)
    unfold goesOn
    rw [h x rfl, Bool.or_false]
theorem cut1 (b : Bytes) (m : Nat) (h : m ≤ b.length) : cutV (bytesV b) (some (m : Int)) (some ((m : Int) + 1)) = bytesV ((b.drop m).take 1) := by
  by_cases h1 : m + 1 ≤ b.length
  · have := cut_bytes b m (m + 1) h h1
    rw [Nat.add_sub_cancel_left] at this
    exact this
  · rw [List.drop_eq_nil_of_le (by omega : b.length ≤ m)]
    unfold cutV
    rw [bytesV_length, HT.sIx_nat, Nat.min_eq_left h, List.drop_eq_nil_of_le (by rw [bytesV_length]; omega)]
    simp [bytesV]
theorem tok_dig {c : Bytes} {x : UInt8} {r : Bytes} (hc : c = x :: r) (h0 : isLetter x = false) (h : isDigit x = true) : tokenIn c = numberIn c := by
  subst hc
  simp only [tokenIn, h0, h, if_true]; rfl
theorem ok_numt {f : Addr} {fd : FuncData} (F : Fun K "number_token" "number_token" s_number_token f fd) (T : Tl K mg CN) (De : Def prog w K mg base 2 "digits_end" ["text", "place"] (spDigEnd K)) (Db : Def prog w K mg base 3 "bars_number" ["text", "place"] (spBars K)) : FnOk prog w K mg base (cxX prog w) 4 f fd ["text", "start"] (spTokAt K fun c => isLetter c = false ∧ isDigit c = true) := by
  refine F.okX sc_numt (fun vs H Q E h => ?_) (fun cdv A outer s H vs Q E hr h => ?_)
  · obtain ⟨G, a, b, p, _, rfl, _⟩ := h; rfl
  · obtain ⟨G, _, b, p, hp, rfl, sm, ⟨a, rfl, ha⟩, ⟨hc0, hc⟩, k⟩ := h
    have hr2 := hr.mono (show 2 ≤ 3 by decide)
    have hu := hr.units
    refine ⟨_, pss_cons (ps_set (i := 2) sc_numt.nd rfl (Or.inl rfl) (pe_def De hr2 pass_cx (pa_cons (pv 0) (pa_cons (pv 1) pa_nil))))
      (pss_cons (ps_set (i := 3) sc_numt.nd rfl (Or.inl rfl) pe_str) (pss_cons (ps_set (i := 4) sc_numt.nd rfl (Or.inl rfl) (pv 2)) (pss_cons (ps_set (i := 5) sc_numt.nd rfl (Or.inl rfl) (pe_op op_sub (pv 2) (pv 1)))
      (pss_mid (ps_if (pt_cmpR (op_eqL hu) (pe_slice sl_list (pv 0) (po_some (pv 2)) (po_some (pe_op op_add (pv 2) pe_int))) (pe_lst (pa_cons (pgi T.point_) pa_nil)) (nomark _))
        (pss_cons (ps_set (i := 3) sc_numt.nd rfl (Or.inl rfl) pe_str) (pss_cons (ps_set (i := 4) sc_numt.nd rfl (Or.inl rfl) (pe_def De hr2 pass_cx (pa_cons (pv 0) (pa_cons (pe_op op_add (pv 2) pe_int) pa_nil)))) (pss_one (ps_set (i := 5) sc_numt.nd rfl (Or.inl rfl) (pe_op op_sub (pe_op op_sub (pv 4) (pv 1)) pe_int))))) pss_nil)
      (pss_cons (ps_if (pw_or (pt_cmpR op_eq (pv 4) (pe_op op_add (pv 2) pe_int) (nomark _)) (pw_or (pt_cmpR op_gt (pv 5) (pgi T.mdig_) (nomark _)) (pw_or1 (pt_val (pe_def Db hr pass_cx (pa_cons (pv 0) (pa_cons (pv 4) pa_nil))))))).pt
        (pss_one (ps_ret (pe_tup (pa_cons pe_str (pa_cons (pv 1) (pa_cons (pv 1) pa_nil)))))) pss_nil)
      (pss_one (ps_ret (pe_tup (pa_cons (pv 3) (pa_cons (pv 1) (pa_cons (pv 4) pa_nil))))))))))), ?_⟩
    rw [tok_dig (drop_cons hp) hc0 hc, Ma.numberIn_eq] at k
    have hA : twd (b.drop p) = (Ma.nA (b.drop p)).length := rfl
    have hle : p + (Ma.nA (b.drop p)).length ≤ b.length := by
      have : ((b.drop p).takeWhile isDigit).length ≤ (b.drop p).length := (List.takeWhile_prefix _).length_le
      rw [List.length_drop] at this
      have q : (Ma.nA (b.drop p)).length = ((b.drop p).takeWhile isDigit).length := rfl
      omega
    have hR : b.drop (p + (Ma.nA (b.drop p)).length) = Ma.nR (b.drop p) := by
      show _ = (b.drop p).drop _
      rw [List.drop_drop]
    refine ⟨_, rfl, _, rfl, G, _, b, p, rfl, sm, ⟨a, rfl, ha⟩, ?_⟩
    rw [hA]
    refine ⟨_, rfl, _, rfl, _, rfl, _, _, rfl, rfl, ?_⟩
    refine ⟨fun σ' H' => ∃ G', Ext [] G H G' H' ∧ σ' = [some (.ref a), some (.int (p : Int)), some (.int ((p + (Ma.nA (b.drop p)).length : Nat) : Int)), some (.str (if Ma.nP (b.drop p) = true then "pointed" else "whole")), some (.int ((p + Ma.nN (b.drop p) : Nat) : Int)), some (.int (((Ma.nA (b.drop p)).length + (Ma.nZ (b.drop p)).length : Nat) : Int))], ?_, ?_⟩
    · refine ⟨_, rfl, _, rfl, _, rfl, _, rfl, _, _, rfl, rfl, _, rfl, a, _, rfl, sm.seq ha, fun q hq => ?_⟩
      have ec : cutV (bytesV b) (some ((p + (Ma.nA (b.drop p)).length : Nat) : Int)) (some (((p + (Ma.nA (b.drop p)).length : Nat) : Int) + 1)) = bytesV ((Ma.nR (b.drop p)).take 1) := by
        rw [← hR]
        exact cut1 b _ hle
      rw [ec]
      have E1 := (Ext.refl (M := []) sm).lay hq (o := .lst (bytesV ((Ma.nR (b.drop p)).take 1)))
      refine ⟨(by show 1 ≤ sizeLine; decide), fun l hl => ?_⟩
      have E2 := E1.lay hl (o := .lst [.int 46])
      have hql : q ≠ l := ne_of_none (upd_same (H := H) (a := q)) hl
      refine ⟨q, l, intsOf ((Ma.nR (b.drop p)).take 1), [46], rfl, rfl, by rw [← bytesV_eq]; exact .of (by rw [upd_ne hql, upd_same]), .of upd_same, _, rfl, if_dec (fun h1 => ?_) (fun h1 => ?_)⟩
      · have h1' : (Ma.nR (b.drop p)).take 1 = [46] := ints_inj (show intsOf ((Ma.nR (b.drop p)).take 1) = intsOf [46] from h1)
        obtain ⟨r, hr'⟩ : ∃ r, Ma.nR (b.drop p) = 46 :: r := by
          cases z : Ma.nR (b.drop p) with
          | nil => rw [z] at h1'; cases h1'
          | cons x r => rw [z] at h1'; cases h1'; exact ⟨r, rfl⟩
        have hP : Ma.nP (b.drop p) = true := by
          show ((Ma.nR (b.drop p)).head? == some 46) = true
          rw [hr']; rfl
        have hZ : Ma.nZ (b.drop p) = r.takeWhile isDigit := by
          have : Ma.nZ (b.drop p) = if Ma.nP (b.drop p) = true then ((Ma.nR (b.drop p)).drop 1).takeWhile isDigit else [] := rfl
          rw [this, if_pos hP, hr']; rfl
        have hd1 : b.drop (p + (Ma.nA (b.drop p)).length + 1) = r := by
          have : b.drop (p + (Ma.nA (b.drop p)).length + 1) = (b.drop (p + (Ma.nA (b.drop p)).length)).drop 1 := by rw [List.drop_drop]
          rw [this, hR, hr']; rfl
        have hN : Ma.nN (b.drop p) = (Ma.nA (b.drop p)).length + (1 + (Ma.nZ (b.drop p)).length) := by
          have : Ma.nN (b.drop p) = (Ma.nA (b.drop p)).length + (if Ma.nP (b.drop p) = true then 1 + (Ma.nZ (b.drop p)).length else 0) := rfl
          rw [this, if_pos hP]
        refine ⟨_, rfl, _, rfl, _, _, rfl, rfl, _, _, b, p + (Ma.nA (b.drop p)).length + 1, rfl, E2.sub, ⟨a, rfl, E2.grow.seq ha⟩, ?_⟩
        rw [hd1]
        have hE : p + (Ma.nA (b.drop p)).length + 1 + twd r = p + Ma.nN (b.drop p) := by
          rw [hN, hZ]; unfold twd; omega
        rw [hE]
        refine ⟨_, rfl, _, rfl, _, _, rfl, rfl, _, _, rfl, rfl, _, E2, ?_⟩
        rw [if_pos hP]
        have hC : ((p + Ma.nN (b.drop p) : Nat) : Int) - (p : Int) - 1 = (((Ma.nA (b.drop p)).length + (Ma.nZ (b.drop p)).length : Nat) : Int) := by rw [hN]; omega
        rw [← hC]; rfl
      · have hP : Ma.nP (b.drop p) = false := by
          cases z : Ma.nP (b.drop p) with
          | false => rfl
          | true =>
            exfalso
            have q : (Ma.nR (b.drop p)).head? = some 46 := eq_of_beq z
            apply h1
            cases z2 : Ma.nR (b.drop p) with
            | nil => rw [z2] at q; cases q
            | cons x r => rw [z2] at q; cases q; rfl
        have hZ : Ma.nZ (b.drop p) = [] := by
          have : Ma.nZ (b.drop p) = if Ma.nP (b.drop p) = true then ((Ma.nR (b.drop p)).drop 1).takeWhile isDigit else [] := rfl
          rw [this, if_neg (by rw [hP]; decide)]
        have hN : Ma.nN (b.drop p) = (Ma.nA (b.drop p)).length := by
          have : Ma.nN (b.drop p) = (Ma.nA (b.drop p)).length + (if Ma.nP (b.drop p) = true then 1 + (Ma.nZ (b.drop p)).length else 0) := rfl
          rw [this, if_neg (by rw [hP]; decide)]; rfl
        refine ⟨_, E2, ?_⟩
        rw [if_neg (by rw [hP]; decide), hN, hZ]
        have hC : ((p + (Ma.nA (b.drop p)).length : Nat) : Int) - (p : Int) = (((Ma.nA (b.drop p)).length + ([] : Bytes).length : Nat) : Int) := by
          rw [List.length_nil]; omega
        rw [← hC]; rfl
    · rintro σ' H' ⟨G', e0, rfl⟩
      have hNn : p + Ma.nN (b.drop p) ≤ b.length := by
        have := Ma.nN_le (b.drop p)
        rw [List.length_drop] at this; omega
      have hbar : bars b (p + Ma.nN (b.drop p)) = (((b.drop p).drop (Ma.nN (b.drop p))).head?.any fun (c : UInt8) => isLetter c || c == 46) := by
        unfold bars
        rw [List.drop_drop]
        refine any_goes fun x hx => ?_
        rw [← List.drop_drop] at hx
        cases hP : Ma.nP (b.drop p) with
        | false =>
          have hN : Ma.nN (b.drop p) = ((b.drop p).takeWhile isDigit).length := by
            have : Ma.nN (b.drop p) = (Ma.nA (b.drop p)).length + (if Ma.nP (b.drop p) = true then 1 + (Ma.nZ (b.drop p)).length else 0) := rfl
            rw [this, if_neg (by rw [hP]; decide)]; rfl
          rw [hN] at hx
          exact behind_digits x hx
        | true =>
          have hZ : Ma.nZ (b.drop p) = ((Ma.nR (b.drop p)).drop 1).takeWhile isDigit := by
            have : Ma.nZ (b.drop p) = if Ma.nP (b.drop p) = true then ((Ma.nR (b.drop p)).drop 1).takeWhile isDigit else [] := rfl
            rw [this, if_pos hP]
          have hN : Ma.nN (b.drop p) = (Ma.nA (b.drop p)).length + (1 + (Ma.nZ (b.drop p)).length) := by
            have : Ma.nN (b.drop p) = (Ma.nA (b.drop p)).length + (if Ma.nP (b.drop p) = true then 1 + (Ma.nZ (b.drop p)).length else 0) := rfl
            rw [this, if_pos hP]
          rw [hN, ← List.drop_drop, ← List.drop_drop, hZ] at hx
          exact behind_digits x hx
      have bad : ∀ H2 G2, Ext [] G H G2 H2 → ¬ Ma.nOk (b.drop p) → tRet (tTup (tCons (tC (.str "none")) (tCons (tVar 1) (tCons (tVar 1) tNil)))) { nx := (tRet (tTup (tCons (tVar 3) (tCons (tVar 1) (tCons (tVar 4) tNil))))) { nx := fun _ H' => Q .non H', rt := Q }, rt := Q } [some (.ref a), some (.int (p : Int)), some (.int ((p + (Ma.nA (b.drop p)).length : Nat) : Int)), some (.str (if Ma.nP (b.drop p) = true then "pointed" else "whole")), some (.int ((p + Ma.nN (b.drop p) : Nat) : Int)), some (.int (((Ma.nA (b.drop p)).length + (Ma.nZ (b.drop p)).length : Nat) : Int))] H2 := by
        intro H2 G2 e2 hn
        rw [if_neg hn] at k
        refine ⟨_, rfl, _, rfl, (by show 3 ≤ sizeLine; decide), fun l hl => ?_⟩
        exact k _ _ _ (e2.lay hl) ⟨l, rfl, .of upd_same⟩
      refine ⟨_, rfl, _, rfl, _, _, rfl, rfl, rfl, _, rfl, if_eqI (fun h1 => ?_) (fun h1 => ?_)⟩
      · refine iteT (bad _ _ e0 fun ho => ?_)
        have : Ma.nN (b.drop p) = (Ma.nA (b.drop p)).length + (if Ma.nP (b.drop p) = true then 1 + (Ma.nZ (b.drop p)).length else 0) := rfl
        rcases ho.2.2 with z | z
        · rw [if_neg (by rw [z]; decide)] at this; omega
        · cases hP : Ma.nP (b.drop p) with
          | false => rw [if_neg (by rw [hP]; decide)] at this; omega
          | true =>
            rw [if_pos hP] at this
            exact z (List.length_eq_zero_iff.mp (by omega))
      · refine ⟨_, rfl, _, _, rfl, rfl, _, rfl, if_dec (fun h2 => ?_) (fun h2 => ?_)⟩
        · refine iteT (bad _ _ e0 fun ho => ?_)
          have := ho.2.1
          unfold Ln.Text.DIGITS at this
          omega
        · refine ⟨_, rfl, _, rfl, G', _, b, _, rfl, e0.sub, ⟨a, rfl, e0.grow.seq ha⟩, _, rfl, if_bl (fun h3 => ?_) (fun h3 => ?_)⟩
          · refine bad _ _ e0 fun ho => ?_
            have := ho.1
            rw [hbar] at h3
            rw [h3] at this; cases this
          · have ho : Ma.nOk (b.drop p) := by
              refine ⟨?_, ?_, ?_⟩
              · rw [hbar] at h3; rw [h3]; rfl
              · unfold Ln.Text.DIGITS; omega
              · cases hP : Ma.nP (b.drop p) with
                | false => exact .inl rfl
                | true =>
                  refine .inr fun z => h1 ?_
                  have : Ma.nN (b.drop p) = (Ma.nA (b.drop p)).length + (if Ma.nP (b.drop p) = true then 1 + (Ma.nZ (b.drop p)).length else 0) := rfl
                  rw [if_pos hP, z, List.length_nil] at this
                  rw [this]; omega
            rw [if_pos ho] at k
            refine ⟨_, rfl, _, rfl, _, rfl, (by show 3 ≤ sizeLine; decide), fun l hl => ?_⟩
            refine k _ _ _ (e0.lay hl) ⟨l, rfl, .of ?_⟩
            rw [upd_same]
            cases Ma.nP (b.drop p) <;> rfl
end
end Th
set_option maxHeartbeats 2000000
namespace Th
open PySem PySem.Spec PyProof.Rows L2
open Ln (Bytes)
open Ln.Text (isDigit natural isLetter isMark tokenIn numberIn WORDS NAME)
def markB : Bytes := [58, 44, 59, 47, 45]
theorem mark_str : (Str.ofString ":,;/-") = strB markB := by decide +kernel
theorem mark_is (c : UInt8) : isMark c = true ↔ c ∈ markB := by
  have : Ln.ascii ":,;/-" = markB := by decide +kernel
  unfold isMark
  rw [this]
  exact List.contains_iff_mem
section
variable {w : World} {K : PySem.W.Frag} {mg : Str → Option Value} {base : Heap} {CN : Addr}
def spTokFrom (K : PySem.W.Frag) : Sp := fun vs H Q _ => ∃ (G : Hp) (a : V) (b : Bytes) (p : Nat), vs = [a, .int (p : Int)] ∧ Same G H ∧ Bs K G a b ∧ p ≤ b.length ∧ ∀ v G' H', Ext [] G H G' H' → TkV K G' v (kdS (Ma.tokX b p).1) (Ma.tokS b p) (Ma.tokS b p + (Ma.tokX b p).2) → Q v H'
theorem sc_tokf : FnScope ["text", "place", "start", "mark"] ["text", "place"] (defScope s_token_from) := ⟨rfl, rfl, rfl, by decide +kernel, rfl, by decide +kernel, by decide +kernel⟩
theorem tokS_le {b : Bytes} {p : Nat} (h : p ≤ b.length) : Ma.tokS b p ≤ b.length := by
  unfold Ma.tokS
  have := Ma.skip_le false (b.drop p)
  rw [List.length_drop] at this
  omega
theorem tok_other {c : Bytes} {x : UInt8} {r : Bytes} (hc : c = x :: r) (h0 : isLetter x = false) (h : isDigit x = false) : tokenIn c = if isMark x = true then (.mark x, 1) else (.broken, 0) := by
  subst hc
  simp only [tokenIn, h0, h]
  rfl
theorem ok_tokf {f : Addr} {fd : FuncData} (F : Fun K "token_from" "token_from" s_token_from f fd) (T : Tl K mg CN) (Db : Def prog w K mg base 1 "blanks_end" ["text", "place"] (spBlanks K)) (Dl : Def prog w K mg base 1 "begins_name" ["byte"] spBegins) (Dd : Def prog w K mg base 1 "is_digit" ["byte"] spIsDig)
    (Dn : Def prog w K mg base 3 "name_token" ["text", "start"] (spTokAt K fun c => isLetter c = true)) (Du : Def prog w K mg base 4 "number_token" ["text", "start"] (spTokAt K fun c => isLetter c = false ∧ isDigit c = true)) : FnOk prog w K mg base (cxX prog w) 5 f fd ["text", "place"] (spTokFrom K) := by
  refine F.okX sc_tokf (fun vs H Q E h => ?_) (fun cdv A outer s H vs Q E hr h => ?_)
  · obtain ⟨G, a, b, p, rfl, _⟩ := h; rfl
  · obtain ⟨G, _, b, p, rfl, sm, ⟨a, rfl, ha⟩, hp, k⟩ := h
    have hr1 := hr.mono (show 1 ≤ 4 by decide)
    have hr3 := hr.mono (show 3 ≤ 4 by decide)
    refine ⟨_, pss_cons (ps_set (i := 2) sc_tokf.nd rfl (Or.inl rfl) (pe_def Db hr1 pass_cx (pa_cons (pv 0) (pa_cons (pv 1) pa_nil))))
      (pss_cons (ps_if (pt_cmpR op_eq (pv 2) (pe_callB call_len_seq (by rfl) T.len_ boot_len (pa_cons (pv 0) pa_nil)) (nomark _)) (pss_one (ps_ret (pe_tup (pa_cons pe_str (pa_cons (pv 2) (pa_cons (pv 2) pa_nil)))))) pss_nil)
      (pss_cons (ps_if (pt_val (pe_def Dl hr1 pass_cx (pa_cons (pe_ix ix_list (pv 0) (pv 2) (fun _ _ => rfl)) pa_nil))) (pss_one (ps_ret (pe_def Dn hr3 pass_cx (pa_cons (pv 0) (pa_cons (pv 2) pa_nil))))) pss_nil)
      (pss_cons (ps_if (pt_val (pe_def Dd hr1 pass_cx (pa_cons (pe_ix ix_list (pv 0) (pv 2) (fun _ _ => rfl)) pa_nil))) (pss_one (ps_ret (pe_def Du hr pass_cx (pa_cons (pv 0) (pa_cons (pv 2) pa_nil))))) pss_nil)
      (pss_cons (ps_for own_cx rfl (pi_str (pgs T.marks_)) (pg_name (i := 3) sc_tokf.nd rfl (Or.inl rfl)) (pss_one (ps_if (pt_cmpR op_eq (pe_ix ix_list (pv 0) (pv 2) (fun _ _ => rfl)) (pe_callB call_ord (by rfl) T.ord_ boot_ord (pa_cons (pv 3) pa_nil)) (nomark _))
        (pss_one (ps_ret (pe_tup (pa_cons (pv 3) (pa_cons (pv 2) (pa_cons (pe_op op_add (pv 2) pe_int) pa_nil)))))) pss_nil)))
      (pss_one (ps_ret (pe_tup (pa_cons pe_str (pa_cons (pv 2) (pa_cons (pv 2) pa_nil)))))))))), ?_⟩
    have hS := tokS_le hp
    have eX : Ma.tokX b p = tokenIn (b.drop (Ma.tokS b p)) := rfl
    rw [eX] at k
    refine ⟨_, rfl, _, rfl, G, _, b, p, rfl, sm, ⟨a, rfl, ha⟩, hp, fun G1 H1 e1 => ?_⟩
    generalize Ma.tokS b p = S at k hS
    have hT : SqL K H1 a (bytesV b) := e1.sub.seq (e1.grow.seq ha)
    refine ⟨_, rfl, _, rfl, a, _, rfl, .inl hT, rfl, _, rfl, if_eqI (fun h1 => ?_) (fun h1 => ?_)⟩
    · rw [bytesV_length] at h1
      rw [List.drop_eq_nil_of_le (by omega)] at k
      refine ⟨_, rfl, _, rfl, (by show 3 ≤ sizeLine; decide), fun l hl => ?_⟩
      exact k _ _ _ (e1.lay hl) ⟨l, rfl, .of upd_same⟩
    have hlt : S < b.length := by rw [bytesV_length] at h1; omega
    refine ⟨_, rfl, _, rfl, a, _, _, _, rfl, rfl, hT, at_byte hlt, b[S], rfl, _, rfl, if_bl (fun h2 => ?_) (fun h2 => ?_)⟩
    · exact ⟨_, rfl, _, rfl, G1, _, b, S, hlt, rfl, e1.sub, ⟨a, rfl, e1.grow.seq ha⟩, h2, fun v G2 H2 e2 t => k v G2 H2 (e1.trans e2) t⟩
    refine ⟨_, rfl, _, rfl, a, _, _, _, rfl, rfl, hT, at_byte hlt, b[S], rfl, _, rfl, if_bl (fun h3 => ?_) (fun h3 => ?_)⟩
    · exact ⟨_, rfl, _, rfl, G1, _, b, S, hlt, rfl, e1.sub, ⟨a, rfl, e1.grow.seq ha⟩, ⟨h2, h3⟩, fun v G2 H2 e2 t => k v G2 H2 (e1.trans e2) t⟩
    rw [tok_other (drop_cons hlt) h2 h3] at k
    refine ⟨_, rfl, for_str (x := Str.ofString ":,;/-") (fun i σ H' => ∃ r, σ = [some (.ref a), some (.int (p : Int)), some (.int (S : Int)), r] ∧ H' = H1 ∧ b[S] ∉ markB.take i) ⟨none, rfl, rfl, by simp⟩ ?_ ?_⟩
    · rintro i y σ H' hy ⟨r, rfl, rfl, hn⟩
      rw [mark_str, sgn_strB, List.getElem?_map] at hy
      obtain ⟨c, hc, rfl⟩ : ∃ c, markB[i]? = some c ∧ y = V.str ⟨#[c.toNat]⟩ := by
        cases q : markB[i]? with
        | none => rw [q] at hy; cases hy
        | some x => rw [q] at hy; exact ⟨x, rfl, (Option.some.inj hy).symm⟩
      obtain ⟨hi, hic⟩ := List.getElem?_eq_some_iff.mp hc
      refine ⟨_, rfl, _, rfl, a, _, _, _, rfl, rfl, hT, at_byte hlt, _, rfl, _, rfl, rfl, rfl, _, rfl, if_eqI (fun h4 => ?_) (fun h4 => ?_)⟩
      · have hbc : b[S] = c := UInt8.toNat_inj.mp (by
          have : ((b[S].toNat : Nat) : Int) = ((c.toNat : Nat) : Int) := h4
          omega)
        have hm : isMark b[S] = true := (mark_is _).mpr (by rw [hbc]; exact List.mem_of_getElem? hc)
        rw [if_pos hm] at k
        refine ⟨_, rfl, _, rfl, _, rfl, _, _, rfl, rfl, (by show 3 ≤ sizeLine; decide), fun l hl => ?_⟩
        refine k _ _ _ (e1.lay hl) ⟨l, rfl, .of ?_⟩
        rw [upd_same, hbc]; rfl
      · refine ⟨_, rfl, rfl, ?_⟩
        rw [take_snoc' hi, hic]
        intro hmem
        rcases List.mem_append.mp hmem with q | q
        · exact hn q
        · exact h4 (by rw [List.mem_singleton.mp q]; rfl)
    · rintro σ H' ⟨r, rfl, rfl, hn⟩
      have hl5 : markB.take (sgn (Str.ofString ":,;/-")).length = markB := by rw [mark_str, sgn_strB, List.length_map]; exact List.take_length
      rw [hl5] at hn
      rw [if_neg (fun z => hn ((mark_is _).mp z))] at k
      refine ⟨_, rfl, _, rfl, (by show 3 ≤ sizeLine; decide), fun l hl => ?_⟩
      exact k _ _ _ (e1.lay hl) ⟨l, rfl, .of upd_same⟩
end
end Th
set_option maxHeartbeats 2000000
namespace Th
open PySem PySem.Spec PyProof.Rows L2
open Ln (Bytes)
open Ln.Text (isDigit natural isLetter isMark tokenIn numberIn WORDS NAME P Lex)
open Ma (isK TokOk tokS tokX Lx over_)
def strK : Ma.K → Str
  | .w s => Str.ofString s
  | .m c => ⟨#[c.toNat]⟩
  | .name => "name"
  | .whole => "whole"
  | .pointed => "pointed"
  | .fin => "end"
  | .none => "none"
def allK : List Ma.K := WS.map Ma.K.w ++ markB.map Ma.K.m ++ [.name, .whole, .pointed, .fin, .none]
theorem kd_word : ∀ w ∈ WORDS, ∀ k ∈ allK, decide (kdS (.word w) = strK k) = isK k (.word w) := by decide +kernel
theorem kd_mark : ∀ c ∈ markB, ∀ k ∈ allK, decide (kdS (.mark c) = strK k) = isK k (.mark c) := by decide +kernel
theorem kd_end : ∀ k ∈ allK, decide (kdS .end_ = strK k) = isK k .end_ := by decide +kernel
theorem kd_broken : ∀ k ∈ allK, decide (kdS .broken = strK k) = isK k .broken := by decide +kernel
theorem kd_name0 : ∀ k ∈ allK, decide (kdS (.name []) = strK k) = isK k (.name []) := by decide +kernel
theorem kd_whole0 : ∀ k ∈ allK, decide (kdS (.num 0 0 false) = strK k) = isK k (.num 0 0 false) := by decide +kernel
theorem kd_pointed0 : ∀ k ∈ allK, decide (kdS (.num 0 0 true) = strK k) = isK k (.num 0 0 true) := by decide +kernel
theorem isK_name (k : Ma.K) (b : Bytes) : isK k (.name b) = isK k (.name []) := by
  cases k with
  | name => rfl
  | w s => rfl
  | m c => rfl
  | _ => rfl
theorem isK_num (k : Ma.K) (n z : Nat) (p : Bool) : isK k (.num n z p) = isK k (.num 0 0 p) := by
  cases p <;> cases k <;> rfl
theorem kd_iff {t : Ln.Text.Tok} (ht : TokOk t) {k : Ma.K} (hk : k ∈ allK) : decide (kdS t = strK k) = isK k t := by
  cases t with
  | word w => exact kd_word w ht k hk
  | mark c => exact kd_mark c ((mark_is c).mp ht) k hk
  | name b => rw [isK_name]; exact kd_name0 k hk
  | num n z p =>
    rw [isK_num]
    cases p with
    | true => exact kd_pointed0 k hk
    | false => exact kd_whole0 k hk
  | end_ => exact kd_end k hk
  | broken => exact kd_broken k hk
theorem tokX_ok (b : Bytes) (p : Nat) : TokOk (tokX b p).1 := Ma.tok_ok _
def ff (p k : Int) : List (Str × V) := putF "kind" (.int k) (putF "place" (.int p) [])
def FaultX (H : Hp) (d : Addr) (place kind : Nat) : Prop := H d = some (xdO d (ff (place : Int) (kind : Int)))
structure MDef (P : Program) (w : World) (K : PySem.W.Frag) (mg : Str → Option Value) (base : Heap) (k : Nat) (C : Addr) (m : Str) (ps : List Str) (sp : Sp) : Prop where
  ex : ∃ f fd, FnOk P w K mg base (cxX P w) k f fd ps sp ∧ Meth K C m f ∧ Binds K fd ps []
section
variable {X : Cx} {k : Nat} {C : Addr} {m : Str} {ps : List Str} {sp : Sp} {E : XK} {apos pos : Pos} {o e : Expr} {es : List Expr} {ta : TE} {t : TA}
theorem pe_mdef {pl : Sem Bool} (D : MDef X.prog X.w X.K X.mg X.base k C m ps sp) (c : Cls X.K C) (hr : Room k X.A) (hx : Passes (cxX X.prog X.w) X E) (he : PE X o ta) (ha : PA X (e :: es) t)
    (hst : starEach (e :: es) X.env = (false, eval e X.env) :: starEach es X.env := by rfl) (hpl : (backTo pos (starEach es X.env)).any (·.1) = false := by rfl)
    (ht : eval (.Call (.Attribute o m apos) (e :: es) [] pos) X.env = (do
      let ov ← eval o X.env
      standAt apos.atName
      let (f, first) ← holding [ov] (getMethod ov m pl)
      callWith pos f first (backTo pos (starEach (e :: es) X.env)) (backToKw pos (keywordEach [] X.env))) := by rfl) :
    PE X (.Call (.Attribute o m apos) (e :: es) [] pos) (tMeth C m sp [] E ta t) := by
  obtain ⟨f, fd, F, hm, hb⟩ := D.ex
  exact pe_meth he c hm F hr hb .nil hx ha hst hpl ht
theorem pe_mdef0 {pl : Sem Bool} (D : MDef X.prog X.w X.K X.mg X.base k C m ps sp) (c : Cls X.K C) (hr : Room k X.A) (hx : Passes (cxX X.prog X.w) X E) (he : PE X o ta)
    (ht : eval (.Call (.Attribute o m apos) [] [] pos) X.env = (do
      let ov ← eval o X.env
      standAt apos.atName
      let (f, first) ← holding [ov] (getMethod ov m pl)
      callWith pos f first (backTo pos (starEach [] X.env)) (backToKw pos (keywordEach [] X.env))) := by rfl) :
    PE X (.Call (.Attribute o m apos) [] [] pos) (tMeth C m sp [] E ta tNil) := by
  obtain ⟨f, fd, F, hm, hb⟩ := D.ex
  exact pe_meth0 he c hm F hr hb .nil hx ht
end
def rf (t tk : Addr) : List (Str × V) := putF "token" (.ref tk) (putF "text" (.ref t) [])
theorem rf_text (t tk : Addr) : (rf t tk).lookup ("text" : Str) = some (.ref t) := rfl
theorem rf_token (t tk : Addr) : (rf t tk).lookup ("token" : Str) = some (.ref tk) := rfl
theorem rf_put (t tk u : Addr) : putF "token" (.ref u) (rf t tk) = rf t u := rfl
def methR : List Str := ["sees", "piece", "refuse", "expect", "step", "take"]
theorem rf_no (t tk : Addr) : ∀ m ∈ methR, (rf t tk).lookup m = none := by
  have key : ∀ m ∈ methR, (m == ("text" : Str)) = false ∧ (m == ("token" : Str)) = false := by decide +kernel
  intro m hm
  obtain ⟨h1, h2⟩ := key m hm
  show List.lookup m [(("text" : Str), V.ref t), (("token" : Str), V.ref tk)] = none
  rw [List.lookup_cons, h1, List.lookup_cons, h2]; rfl
structure RdAt (K : PySem.W.Frag) (CR : Addr) (G H : Hp) (r : Addr) (b : Bytes) (p : Nat) : Prop where
  le : p ≤ b.length
  ex : ∃ dx t tk, Own G H r (.ins CR dx (rf t tk)) ∧ SqL K G t (bytesV b) ∧ SqT K G tk [.str (kdS (tokX b p).1), .int ((tokS b p : Nat) : Int), .int ((tokS b p + (tokX b p).2 : Nat) : Int)]
theorem RdAt.ext {K : PySem.W.Frag} {CR : Addr} {M : List Addr} {G H G1 H1 : Hp} {r : Addr} {b : Bytes} {p : Nat} (h : RdAt K CR G H r b p) (e : Ext M G H G1 H1) (hr : r ∉ M) : RdAt K CR G1 H1 r b p := by
  obtain ⟨le, dx, t, tk, h1, h2, h3⟩ := h
  exact ⟨le, dx, t, tk, h1.ext e hr, e.grow.seq h2, e.grow.seqT h3⟩
structure Tr (K : PySem.W.Frag) (mg : Str → Option Value) (CN CF CR : Addr) : Prop extends Tl K mg CN where
  cl : Cls K CR
  nText : NoAttr K CR "text"
  nToken : NoAttr K CR "token"
  fm : mg "Fault" = some (.ref CF)
  fk : PySem.W.keepIn K (.ref CF) = true
  most64_ : GI mg "MOST" 64
  k1 : GI mg "NO_TOKEN" 1
  k2 : GI mg "CANNOT_STAND" 2
  k3 : GI mg "NAME_TAKEN" 3
  k4 : GI mg "NO_SUCH_GLASS" 4
  k5 : GI mg "TOO_MANY" 5
  k6 : GI mg "BAD_NUMBER" 6
section
variable {w : World} {K : PySem.W.Frag} {mg : Str → Option Value} {base : Heap} {CN CF CR : Addr}
def spFI (CF : Addr) : Sp := fun vs H Q _ => ∃ (x : Addr) (p k : Int), vs = [.ref x, .int p, .int k] ∧ H x = some (xoO x CF none) ∧ ∀ H2 d, H2 x = some (xoO x CF (some d)) → d ≠ x → H2 d = some (xdO d (ff p k)) → Q .non H2
theorem sc_fi : FnScope ["self", "place", "kind"] ["self", "place", "kind"] (defScope s_Fault_init) := ⟨rfl, rfl, rfl, by decide +kernel, rfl, by decide +kernel, by decide +kernel⟩
theorem tl_place : typeLookup (.type "Exception") "place" = pure none := by rfl
theorem tl_kind : typeLookup (.type "Exception") "kind" = pure none := by rfl
theorem ok_fi {f fI : Addr} {fd : FuncData} {names : List Str} (F : Fun K "__init__" "Fault.__init__" s_Fault_init f fd) (xc : XIni K CF fI names) (h1 : ("place" : Str) ∈ names) (h2 : ("kind" : Str) ∈ names) : FnOk prog w K mg base (cxX prog w) 1 f fd ["self", "place", "kind"] (spFI CF) := by
  refine F.okX sc_fi (fun vs H Q E h => ?_) (fun cdv A outer s H vs Q E hr h => ?_)
  · obtain ⟨x, p, k, rfl, _⟩ := h; rfl
  · obtain ⟨x, p, k, rfl, hx, kk⟩ := h
    refine ⟨_, pss_cons (ps_fldX xc h1 tl_place (pv 0) (pv 1) rfl) (pss_one (ps_fldX xc h2 tl_kind (pv 0) (pv 2) rfl)), ?_⟩
    refine ⟨_, rfl, _, rfl, x, none, [], rfl, hx, .inl ⟨rfl, rfl⟩, (by show 0 < 1000; decide), fun d hd ne => ?_⟩
    refine ⟨_, rfl, _, rfl, x, some d, _, rfl, upd_same, .inr ⟨d, rfl, ne, by rw [upd_ne ne, upd_same]⟩, (by show 1 < 1000; decide), fun d' hd' ne' => ?_⟩
    rcases hd' with ⟨z, _⟩ | z
    · cases z
    · cases z
      exact kk _ d upd_same ne (by rw [upd_ne ne, upd_same]; rfl)
def spSees (K : PySem.W.Frag) (CR : Addr) : Sp := fun vs H Q _ => ∃ (G : Hp) (r : Addr) (b : Bytes) (p : Nat) (k : Ma.K), vs = [.ref r, .str (strK k)] ∧ k ∈ allK ∧ Same G H ∧ RdAt K CR G H r b p ∧ Q (.bl (isK k (tokX b p).1)) H
theorem sc_sees : FnScope ["self", "kind"] ["self", "kind"] (defScope s_Reader_sees) := ⟨rfl, rfl, rfl, by decide +kernel, rfl, by decide +kernel, by decide +kernel⟩
theorem ok_sees {f : Addr} {fd : FuncData} (F : Fun K "sees" "Reader.sees" s_Reader_sees f fd) (T : Tr K mg CN CF CR) : FnOk prog w K mg base (cxX prog w) 1 f fd ["self", "kind"] (spSees K CR) := by
  refine F.okX sc_sees (fun vs H Q E h => ?_) (fun cdv A outer s H vs Q E hr h => ?_)
  · obtain ⟨G, r, b, p, k, rfl, _⟩ := h; rfl
  · obtain ⟨G, r, b, p, k, rfl, hka, sm, ⟨_, dx, t, tk, ho, ht, hk⟩, kk⟩ := h
    refine ⟨_, pss_one (ps_ret (pe_cmpR op_eq (pe_ix ix_tup (pe_fld (pv 0) rfl) pe_int (fun _ _ => rfl)) (pv 1) (nomark _))), ?_⟩
    refine ⟨_, rfl, r, CR, dx, _, _, rfl, ho.at_, T.cl, T.nToken, rf_token _ _, tk, _, _, _, rfl, rfl, sm.seqT hk, rfl, _, rfl, rfl, ?_⟩
    have e : decide (V.str (kdS (tokX b p).1) = V.str (strK k)) = decide (kdS (tokX b p).1 = strK k) := decide_eq_decide.mpr ⟨fun z => V.str.inj z, fun z => by rw [z]⟩
    rw [e, kd_iff (tokX_ok b p) hka]; exact kk
def pcAt (b : Bytes) (p : Nat) : Bytes := (b.drop (tokS b p)).take (tokX b p).2
theorem tok_end_le {b : Bytes} {p : Nat} (h : p ≤ b.length) : tokS b p + (tokX b p).2 ≤ b.length := by
  have h1 := tokS_le h
  cases z : over_ (tokX b p).1 with
  | false =>
    have := (Ma.tok_pos _ z).2
    rw [List.length_drop] at this
    show tokS b p + (tokenIn (b.drop (tokS b p))).2 ≤ _
    omega
  | true =>
    have key : ∀ c : Bytes, over_ (tokenIn c).1 = true → (tokenIn c).2 = 0 := by
      intro c hc
      cases c with
      | nil => rfl
      | cons x r =>
        cases h1 : isLetter x with
        | true =>
          rw [tok_letter rfl h1] at hc ⊢
          split at hc
          · rename_i hz; rw [if_pos hz]
          · split at hc <;> cases hc
        | false =>
          cases h2 : isDigit x with
          | true =>
            rw [tok_dig rfl h1 h2, Ma.numberIn_eq] at hc ⊢
            split at hc
            · cases hc
            · rename_i hz; rw [if_neg hz]
          | false =>
            rw [tok_other rfl h1 h2] at hc ⊢
            split at hc
            · cases hc
            · rename_i hz; rw [if_neg hz]
    have : (tokX b p).2 = 0 := key _ z
    omega
def spPiece (K : PySem.W.Frag) (CR : Addr) : Sp := fun vs H Q _ => ∃ (G : Hp) (r : Addr) (b : Bytes) (p : Nat), vs = [.ref r] ∧ Same G H ∧ RdAt K CR G H r b p ∧ ∀ v G' H', Ext [] G H G' H' → Bl G' v (pcAt b p) → Q v H'
theorem sc_piece : FnScope ["self"] ["self"] (defScope s_Reader_piece) := ⟨rfl, rfl, rfl, by decide +kernel, rfl, by decide +kernel, by decide +kernel⟩
theorem ok_piece {f : Addr} {fd : FuncData} (F : Fun K "piece" "Reader.piece" s_Reader_piece f fd) (T : Tr K mg CN CF CR) : FnOk prog w K mg base (cxX prog w) 1 f fd ["self"] (spPiece K CR) := by
  refine F.okX sc_piece (fun vs H Q E h => ?_) (fun cdv A outer s H vs Q E hr h => ?_)
  · obtain ⟨G, r, b, p, rfl, _⟩ := h; rfl
  · obtain ⟨G, r, b, p, rfl, sm, ⟨hle, dx, t, tk, ho, ht, hk⟩, kk⟩ := h
    refine ⟨_, pss_one (ps_ret (pe_slice sl_list (pe_fld (pv 0) rfl) (po_some (pe_ix ix_tup (pe_fld (pv 0) rfl) pe_int (fun _ _ => rfl))) (po_some (pe_ix ix_tup (pe_fld (pv 0) rfl) pe_int (fun _ _ => rfl))))), ?_⟩
    refine ⟨_, rfl, r, CR, dx, _, _, rfl, ho.at_, T.cl, T.nText, rf_text _ _, _, rfl, r, CR, dx, _, _, rfl, ho.at_, T.cl, T.nToken, rf_token _ _, tk, _, _, _, rfl, rfl, sm.seqT hk, rfl, _, rfl, _, rfl, r, CR, dx, _, _, rfl, ho.at_, T.cl, T.nToken, rf_token _ _, tk, _, _, _, rfl, rfl, sm.seqT hk, rfl, _, rfl,
      t, _, rfl, sm.seq ht, fun l hl => ?_⟩
    rw [cut_bytes b _ _ (tokS_le hle) (tok_end_le hle), Nat.add_sub_cancel_left]
    exact kk _ _ _ ((Ext.refl sm).lay hl) ⟨l, rfl, upd_same⟩
end
end Th
set_option maxHeartbeats 2000000
namespace Th
open PySem PySem.Spec PyProof.Rows L2
open Ln (Bytes)
open Ln.Text (isDigit natural isLetter isMark tokenIn numberIn WORDS NAME P Lex)
open Ma (isK TokOk tokS tokX Lx over_)
section
variable {w : World} {K : PySem.W.Frag} {mg : Str → Option Value} {base : Heap} {CN CF CR : Addr}
structure FI (w : World) (K : PySem.W.Frag) (mg : Str → Option Value) (base : Heap) (CF : Addr) : Prop where
  ex : ∃ fI fd names, XIni K CF fI names ∧ FnOk prog w K mg base (cxX prog w) 1 fI fd ["self", "place", "kind"] (spFI CF) ∧ Binds K fd ["self", "place", "kind"] []
def Errs (CF : Addr) (E : XK) (e : Nat × Nat) : Prop := ∀ H' d, FaultX H' d e.2 e.1 → E (.ref CF) (some d) H'
def spRefuse (K : PySem.W.Frag) (CR CF : Addr) : Sp := fun vs H _ E => ∃ (G : Hp) (r : Addr) (b : Bytes) (p k : Nat), vs = [.ref r, .int (k : Int)] ∧ Same G H ∧ RdAt K CR G H r b p ∧ Errs CF E (k, tokS b p)
theorem sc_refuse : FnScope ["self", "kind"] ["self", "kind"] (defScope s_Reader_refuse) := ⟨rfl, rfl, rfl, by decide +kernel, rfl, by decide +kernel, by decide +kernel⟩
theorem ok_refuse {f : Addr} {fd : FuncData} (F : Fun K "refuse" "Reader.refuse" s_Reader_refuse f fd) (T : Tr K mg CN CF CR) (X : FI w K mg base CF) : FnOk prog w K mg base (cxX prog w) 3 f fd ["self", "kind"] (spRefuse K CR CF) := by
  obtain ⟨fI, fdI, names, xc, FF, hb⟩ := X.ex
  refine F.okX sc_refuse (fun vs H Q E h => ?_) (fun cdv A outer s H vs Q E hr h => ?_)
  · obtain ⟨G, r, b, p, k, rfl, _⟩ := h; rfl
  · obtain ⟨G, r, b, p, k, rfl, sm, ⟨_, dx, t, tk, ho, ht, hk⟩, kk⟩ := h
    refine ⟨_, pss_one (ps_raiseI thr_cx rfl rfl (by rfl) T.fm T.fk xc FF hr hb (pa_cons (pe_ix ix_tup (pe_fld (pv 0) rfl) pe_int (fun _ _ => rfl)) (pa_cons (pv 1) pa_nil))), ?_⟩
    refine ⟨_, rfl, r, CR, dx, _, _, rfl, ho.at_, T.cl, T.nToken, rf_token _ _, tk, _, _, _, rfl, rfl, sm.seqT hk, rfl, _, rfl, (by show 2 ≤ sizeLine; decide), fun x hx => ?_⟩
    refine ⟨x, _, _, rfl, upd_same, fun H2 d h1 ne h2 => ⟨rfl, some d, h1, kk _ d ?_⟩⟩
    show del H2 x d = _
    rw [del_ne ne]; exact h2
theorem expect_at (ks : List Ma.K) (b : Bytes) (p : Nat) : Ma.expect ks (Lx b p) = if (tokX b p).1 = .broken then .error (1, tokS b p) else if (ks.any fun k => isK k (tokX b p).1) = true then .ok ((), Lx b p) else .error (2, tokS b p) := by
  rw [Ma.Lx_eq, Ma.expect_cons]
theorem inV_K {ks : List Ma.K} (h : ∀ k ∈ ks, k ∈ allK) {t : Ln.Text.Tok} (ht : TokOk t) : inV (.str (kdS t)) (ks.map fun k => V.str (strK k)) = ks.any fun k => isK k t := by
  induction ks with
  | nil => rfl
  | cons k ks ih =>
    show (strK k == kdS t || inV (.str (kdS t)) (ks.map fun k => V.str (strK k))) = (isK k t || ks.any fun k => isK k t)
    rw [ih fun q hq => h q (List.mem_cons_of_mem _ hq), ← kd_iff ht (h k (List.mem_cons_self ..))]
    congr 1
    by_cases q : kdS t = strK k
    · rw [q]; simp
    · rw [decide_eq_false q]; exact beq_eq_false_iff_ne.mpr fun z => q z.symm
theorem flat_K (ks : List Ma.K) : (ks.map fun k => V.str (strK k)).all flatV = true := by
  induction ks with
  | nil => rfl
  | cons k ks ih => exact ih
def spExpect (K : PySem.W.Frag) (CR CF : Addr) : Sp := fun vs H Q E => ∃ (G : Hp) (r : Addr) (b : Bytes) (p : Nat) (kp : Addr) (ks : List Ma.K), vs = [.ref r, .ref kp] ∧ Same G H ∧ RdAt K CR G H r b p ∧ SqT K H kp (ks.map fun k => V.str (strK k)) ∧ (∀ k ∈ ks, k ∈ allK) ∧
  match Ma.expect ks (Lx b p) with
  | .ok _ => Q .non H
  | .error e => Errs CF E e
theorem sc_expect : FnScope ["self", "kinds"] ["self", "kinds"] (defScope s_Reader_expect) := ⟨rfl, rfl, rfl, by decide +kernel, rfl, by decide +kernel, by decide +kernel⟩
theorem ok_expect {f : Addr} {fd : FuncData} (F : Fun K "expect" "Reader.expect" s_Reader_expect f fd) (T : Tr K mg CN CF CR) (Ds : MDef prog w K mg base 1 CR "sees" ["self", "kind"] (spSees K CR)) (Dr : MDef prog w K mg base 3 CR "refuse" ["self", "kind"] (spRefuse K CR CF)) : FnOk prog w K mg base (cxX prog w) 4 f fd ["self", "kinds"] (spExpect K CR CF) := by
  refine F.okX sc_expect (fun vs H Q E h => ?_) (fun cdv A outer s H vs Q E hr h => ?_)
  · obtain ⟨G, r, b, p, kp, ks, rfl, _⟩ := h; rfl
  · obtain ⟨G, r, b, p, kp, ks, rfl, sm, hR, hks, hall, kk⟩ := h
    have hr1 := hr.mono (show 1 ≤ 3 by decide)
    obtain ⟨_, dx, t, tk, ho, ht, hk⟩ := id hR
    refine ⟨_, pss_cons (ps_if (pt_val (pe_mdef Ds T.cl hr1 pass_cx (pv 0) (pa_cons pe_str pa_nil))) (pss_one (ps_expr (pe_mdef Dr T.cl hr pass_cx (pv 0) (pa_cons (pgi T.k1) pa_nil)))) pss_nil)
      (pss_one (ps_if (pt_cmpR op_notIn_seq (pe_ix ix_tup (pe_fld (pv 0) rfl) pe_int (fun _ _ => rfl)) (pv 1) rfl) (pss_one (ps_expr (pe_mdef Dr T.cl hr pass_cx (pv 0) (pa_cons (pgi T.k2) pa_nil)))) pss_nil)), ?_⟩
    have hno := rf_no t tk
    rw [expect_at] at kk
    refine ⟨_, rfl, r, dx, _, rfl, ho.at_, hno _ (by decide +kernel), G, r, b, p, .none, rfl, (by decide +kernel), sm, hR, _, rfl, if_bl (fun h1 => ?_) (fun h1 => ?_)⟩
    · have hb : (tokX b p).1 = .broken := eq_of_beq h1
      rw [if_pos hb] at kk
      exact ⟨_, rfl, r, dx, _, rfl, ho.at_, hno _ (by decide +kernel), G, r, b, p, 1, rfl, sm, hR, kk⟩
    · have hb : ¬ (tokX b p).1 = .broken := fun z => by rw [z] at h1; cases h1
      rw [if_neg hb] at kk
      refine ⟨_, rfl, r, CR, dx, _, _, rfl, ho.at_, T.cl, T.nToken, rf_token _ _, tk, _, _, _, rfl, rfl, sm.seqT hk, rfl, _, rfl, kp, _, rfl, .inr hks, rfl, flat_K ks, _, rfl, ?_⟩
      show if (!inV (.str (kdS (tokX b p).1)) (ks.map fun k => V.str (strK k))) = true then _ else _
      rw [inV_K hall (tokX_ok b p)]
      cases hz : ks.any fun k => isK k (tokX b p).1 with
      | true =>
        rw [hz, if_pos rfl] at kk
        exact iteF kk
      | false =>
        rw [hz, if_neg (by decide)] at kk
        exact iteT ⟨_, rfl, r, dx, _, rfl, ho.at_, hno _ (by decide +kernel), G, r, b, p, 2, rfl, sm, hR, kk⟩
def spStep (K : PySem.W.Frag) (CR : Addr) : Sp := fun vs H Q _ => ∃ (G : Hp) (r : Addr) (b : Bytes) (p : Nat), vs = [.ref r] ∧ Same G H ∧ RdAt K CR G H r b p ∧ ∀ G' H', Ext [r] G H G' H' → RdAt K CR G' H' r b (tokS b p + (tokX b p).2) → Q .non H'
theorem sc_step : FnScope ["self"] ["self"] (defScope s_Reader_step) := ⟨rfl, rfl, rfl, by decide +kernel, rfl, by decide +kernel, by decide +kernel⟩
theorem ok_step {f : Addr} {fd : FuncData} (F : Fun K "step" "Reader.step" s_Reader_step f fd) (T : Tr K mg CN CF CR) (Dt : Def prog w K mg base 5 "token_from" ["text", "place"] (spTokFrom K)) : FnOk prog w K mg base (cxX prog w) 6 f fd ["self"] (spStep K CR) := by
  refine F.okX sc_step (fun vs H Q E h => ?_) (fun cdv A outer s H vs Q E hr h => ?_)
  · obtain ⟨G, r, b, p, rfl, _⟩ := h; rfl
  · obtain ⟨G, r, b, p, rfl, sm, ⟨hle, dx, t, tk, ho, ht, hk⟩, kk⟩ := h
    refine ⟨_, pss_one (ps_fld (pv 0) (pe_def Dt hr pass_cx (pa_cons (pe_fld (pv 0) rfl) (pa_cons (pe_ix ix_tup (pe_fld (pv 0) rfl) pe_int (fun _ _ => rfl)) pa_nil))) rfl), ?_⟩
    refine ⟨_, rfl, r, CR, dx, _, _, rfl, ho.at_, T.cl, T.nText, rf_text _ _, _, rfl, r, CR, dx, _, _, rfl, ho.at_, T.cl, T.nToken, rf_token _ _, tk, _, _, _, rfl, rfl, sm.seqT hk, rfl, G, _, b, tokS b p + (tokX b p).2, rfl, sm, ⟨t, rfl, ht⟩, tok_end_le hle, fun v G1 H1 e1 tv => ?_⟩
    obtain ⟨u, rfl, hu⟩ := tv
    have ho1 := ho.ext e1 (by simp)
    refine ⟨_, rfl, r, CR, dx, _, rfl, ho1.at_, T.cl, T.nToken, (by show 2 < 1000; decide), ?_⟩
    rw [rf_put]
    have e2 : Ext [r] G H G1 (upd H1 r (.ins CR dx (rf t u))) := (e1.up (M := [r])).put (.inr (by simp)) ho1.fr
    exact kk _ _ e2 ⟨tok_end_le hle, dx, t, u, ⟨upd_same, ho1.fr⟩, e1.grow.seq ht, hu⟩
theorem takeK_at (k : Ma.K) (b : Bytes) (p : Nat) (hn : over_ (tokX b p).1 = true → isK k (tokX b p).1 = false) : Ma.takeK k (Lx b p) = if (tokX b p).1 = .broken then .error (1, tokS b p) else if isK k (tokX b p).1 = true then .ok ((tokX b p).1, Lx b (tokS b p + (tokX b p).2)) else .error (2, tokS b p) := by
  rw [Ma.Lx_eq b p, Ma.takeK_cons]
  dsimp only
  cases z : isK k (tokX b p).1 with
  | false => rfl
  | true =>
    have : ¬ over_ (tokX b p).1 = true := fun q => by rw [hn q] at z; cases z
    rw [if_neg this]
def takeKs : List Ma.K := WS.map Ma.K.w ++ markB.map Ma.K.m ++ [.name, .whole, .pointed]
theorem take_all : ∀ k ∈ takeKs, k ∈ allK := by decide +kernel
theorem take_end : ∀ k ∈ takeKs, isK k .end_ = false ∧ isK k .broken = false := by decide +kernel
theorem take_over {k : Ma.K} (hk : k ∈ takeKs) {t : Ln.Text.Tok} (h : over_ t = true) : isK k t = false := by
  cases t with
  | end_ => exact (take_end k hk).1
  | broken => exact (take_end k hk).2
  | _ => cases h
def spTake (K : PySem.W.Frag) (CR CF : Addr) : Sp := fun vs H Q E => ∃ (G : Hp) (r : Addr) (b : Bytes) (p : Nat) (k : Ma.K), vs = [.ref r, .str (strK k)] ∧ Same G H ∧ RdAt K CR G H r b p ∧ k ∈ takeKs ∧
  match Ma.takeK k (Lx b p) with
  | .ok _ => ∀ v G' H', Ext [r] G H G' H' → RdAt K CR G' H' r b (tokS b p + (tokX b p).2) → Bl G' v (pcAt b p) → Q v H'
  | .error e => Errs CF E e
theorem sc_take : FnScope ["self", "kind", "piece"] ["self", "kind"] (defScope s_Reader_take) := ⟨rfl, rfl, rfl, by decide +kernel, rfl, by decide +kernel, by decide +kernel⟩
theorem ok_take {f : Addr} {fd : FuncData} (F : Fun K "take" "Reader.take" s_Reader_take f fd) (T : Tr K mg CN CF CR) (De : MDef prog w K mg base 4 CR "expect" ["self", "kinds"] (spExpect K CR CF)) (Dp : MDef prog w K mg base 1 CR "piece" ["self"] (spPiece K CR)) (Ds : MDef prog w K mg base 6 CR "step" ["self"] (spStep K CR)) : FnOk prog w K mg base (cxX prog w) 7 f fd ["self", "kind"] (spTake K CR CF) := by
  refine F.okX sc_take (fun vs H Q E h => ?_) (fun cdv A outer s H vs Q E hr h => ?_)
  · obtain ⟨G, r, b, p, k, rfl, _⟩ := h; rfl
  · obtain ⟨G, r, b, p, k, rfl, sm, hR, hk, kk⟩ := h
    have hr1 := hr.mono (show 1 ≤ 6 by decide)
    have hr4 := hr.mono (show 4 ≤ 6 by decide)
    refine ⟨_, pss_cons (ps_expr (pe_mdef De T.cl hr4 pass_cx (pv 0) (pa_cons (pe_tup (pa_cons (pv 1) pa_nil)) pa_nil)))
      (pss_cons (ps_set (i := 2) sc_take.nd rfl (Or.inl rfl) (pe_mdef0 Dp T.cl hr1 pass_cx (pv 0)))
      (pss_cons (ps_expr (pe_mdef0 Ds T.cl hr pass_cx (pv 0))) (pss_one (ps_ret (pv 2))))), ?_⟩
    obtain ⟨hle, dx, t, tk, ho, ht, hkk⟩ := id hR
    refine ⟨_, rfl, r, dx, _, rfl, ho.at_, rf_no t tk _ (by decide +kernel), _, rfl, (by show 1 ≤ sizeLine; decide), fun q hq => ?_⟩
    have e1 : Ext [] G H _ _ := (Ext.refl sm).lay hq (o := .tup [.str (strK k)])
    have hR1 := hR.ext e1 (by simp)
    refine ⟨_, r, b, p, q, [k], rfl, e1.sub, hR1, .of upd_same, (fun z hz => by rw [List.mem_singleton.mp hz]; exact take_all k hk), ?_⟩
    rw [takeK_at k b p (take_over hk)] at kk
    rw [expect_at]
    by_cases hb : (tokX b p).1 = .broken
    · rw [if_pos hb] at kk ⊢; exact kk
    · rw [if_neg hb] at kk ⊢
      have ea : ([k].any fun k => isK k (tokX b p).1) = isK k (tokX b p).1 := by simp
      rw [ea]
      cases hz : isK k (tokX b p).1 with
      | false => rw [hz, if_neg (by decide)] at kk; rw [if_neg (by decide)]; exact kk
      | true =>
        rw [hz, if_pos rfl] at kk
        rw [if_pos rfl]
        obtain ⟨_, dx1, t1, tk1, ho1, _, _⟩ := id hR1
        refine ⟨_, rfl, r, dx1, _, rfl, ho1.at_, rf_no t1 tk1 _ (by decide +kernel), _, r, b, p, rfl, e1.sub, hR1, fun v G2 H2 e2 hv => ?_⟩
        have e12 := e1.trans e2
        have hR2 := hR1.ext e2 (by simp)
        obtain ⟨_, dx2, t2, tk2, ho2, _, _⟩ := id hR2
        refine ⟨_, rfl, r, dx2, _, rfl, ho2.at_, rf_no t2 tk2 _ (by decide +kernel), G2, r, b, p, rfl, e12.sub, hR2, fun G3 H3 e3 hR3 => ⟨_, rfl, kk _ _ _ ((e12.up (M := [r])).trans e3) hR3 (Bl.mono _ _ _ _ e3.grow hv)⟩⟩
def spRI (K : PySem.W.Frag) (CR : Addr) : Sp := fun vs H Q _ => ∃ (G : Hp) (x dx : Addr) (a : V) (b : Bytes), vs = [.ref x, a] ∧ Same G H ∧ Own G H x (.ins CR dx []) ∧ Bs K G a b ∧ ∀ G' H', Ext [x] G H G' H' → RdAt K CR G' H' x b 0 → Q .non H'
theorem sc_ri : FnScope ["self", "text"] ["self", "text"] (defScope s_Reader_init) := ⟨rfl, rfl, rfl, by decide +kernel, rfl, by decide +kernel, by decide +kernel⟩
theorem ok_ri {f : Addr} {fd : FuncData} (F : Fun K "__init__" "Reader.__init__" s_Reader_init f fd) (T : Tr K mg CN CF CR) (Dt : Def prog w K mg base 5 "token_from" ["text", "place"] (spTokFrom K)) : FnOk prog w K mg base (cxX prog w) 6 f fd ["self", "text"] (spRI K CR) := by
  refine F.okX sc_ri (fun vs H Q E h => ?_) (fun cdv A outer s H vs Q E hr h => ?_)
  · obtain ⟨G, x, dx, a, b, rfl, _⟩ := h; rfl
  · obtain ⟨G, x, dx, _, b, rfl, sm, ho, ⟨t, rfl, ht⟩, kk⟩ := h
    refine ⟨_, pss_cons (ps_fld (pv 0) (pv 1) rfl) (pss_one (ps_fld (pv 0) (pe_def Dt hr pass_cx (pa_cons (pv 1) (pa_cons pe_int pa_nil))) rfl)), ?_⟩
    refine ⟨_, rfl, _, rfl, x, CR, dx, _, rfl, ho.at_, T.cl, T.nText, (by show 0 < 1000; decide), ?_⟩
    have e0 : Ext [x] G H G (upd H x (.ins CR dx (putF "text" (.ref t) []))) := (Ext.refl sm).put (.inr (by simp)) ho.fr
    refine ⟨_, rfl, G, _, b, 0, rfl, e0.sub, ⟨t, rfl, ht⟩, Nat.zero_le _, fun v G1 H1 e1 tv => ?_⟩
    obtain ⟨u, rfl, hu⟩ := tv
    have ho1 : Own G1 H1 x (.ins CR dx (putF "text" (.ref t) [])) := Own.ext ⟨upd_same, ho.fr⟩ e1 (by simp)
    refine ⟨_, rfl, x, CR, dx, _, rfl, ho1.at_, T.cl, T.nToken, (by show 1 < 1000; decide), ?_⟩
    have e2 : Ext [x] G H G1 (upd H1 x (.ins CR dx (rf t u))) := (e0.tr0 e1).put (.inr (by simp)) ho1.fr
    exact kk _ _ e2 ⟨Nat.zero_le _, dx, t, u, ⟨upd_same, ho1.fr⟩, e1.grow.seq ht, hu⟩
end
end Th
set_option maxHeartbeats 2000000
namespace Th
open PySem PySem.Spec PyProof.Rows L2
open Ln (Bytes)
open Ln.Text (isDigit natural isLetter isMark tokenIn numberIn WORDS NAME P Lex)
open Ma (isK TokOk tokS tokX Lx over_)
section
variable {K : PySem.W.Frag} {CR CF : Addr} {α β : Type} {R : Hp → V → β → Prop} {G H : Hp} {r : Addr} {b : Bytes} {p : Nat} {Q : VK} {E : XK}
def PQ (K : PySem.W.Frag) (CR CF : Addr) (m : P α) (R : Hp → V → α → Prop) (G H : Hp) (r : Addr) (b : Bytes) (p : Nat) (Q : VK) (E : XK) : Prop := match m (Lx b p) with
  | .ok (a, l') => ∀ v G' H' p', l' = Lx b p' → Ext [r] G H G' H' → RdAt K CR G' H' r b p' → R G' v a → Q v H'
  | .error e => Errs CF E e
theorem PQ.later {m : P β} {G1 H1 : Hp} {p1 : Nat} {k : P β} (h : PQ K CR CF m R G H r b p Q E) (hm : m (Lx b p) = k (Lx b p1)) (e : Ext [r] G H G1 H1) : PQ K CR CF k R G1 H1 r b p1 Q E := by
  unfold PQ at h ⊢
  rw [hm] at h
  cases z : k (Lx b p1) with
  | error e => rw [z] at h; exact h
  | ok x =>
    rw [z] at h
    exact fun v G' H' p' hl e' hR hr => h v G' H' p' hl (e.trans e') hR hr
theorem PQ.bind {m : P α} {k : α → P β} {R1 : Hp → V → α → Prop} {Q1 : VK} (h : PQ K CR CF (m >>= k) R G H r b p Q E)
    (cont : ∀ a v G1 H1 p1, m (Lx b p) = .ok (a, Lx b p1) → Ext [r] G H G1 H1 → RdAt K CR G1 H1 r b p1 → R1 G1 v a → PQ K CR CF (k a) R G1 H1 r b p1 Q E → Q1 v H1) : PQ K CR CF m R1 G H r b p Q1 E := by
  have hb := Ma.bind_run m k (Lx b p)
  unfold PQ
  cases z : m (Lx b p) with
  | error e =>
    rw [z] at hb
    unfold PQ at h
    rw [hb] at h; exact h
  | ok x =>
    obtain ⟨a, l'⟩ := x
    rw [z] at hb
    intro v G' H' p' hl e hR hr
    have hl' : l' = Lx b p' := hl
    subst hl'
    exact cont a v G' H' p' z e hR hr (h.later hb e)
theorem PQ.done {a : β} {v : V} (sm : Same G H) (hR : RdAt K CR G H r b p) (h : PQ K CR CF (pure a) R G H r b p Q E) (hv : R G v a) : Q v H := h v G H p rfl (Ext.refl sm) hR hv
theorem PQ.sees {k : Ma.K} {f : Bool → P β} (h : PQ K CR CF (Ma.sees k >>= f) R G H r b p Q E) : PQ K CR CF (f (isK k (tokX b p).1)) R G H r b p Q E := by
  unfold PQ at h ⊢
  have e : (Ma.sees k >>= f) (Lx b p) = f (isK k (tokX b p).1) (Lx b p) := by
    rw [Ma.bind_run]
    conv => lhs; rw [Ma.Lx_eq]
    rw [Ma.sees_cons]
    dsimp only
    rw [← Ma.Lx_eq]
  rw [e] at h; exact h
theorem PQ.hd {f : Lex → P β} (h : PQ K CR CF (Ma.hd >>= f) R G H r b p Q E) : PQ K CR CF (f ⟨tokS b p, (tokX b p).1⟩) R G H r b p Q E := by
  unfold PQ at h ⊢
  have e : (Ma.hd >>= f) (Lx b p) = f ⟨tokS b p, (tokX b p).1⟩ (Lx b p) := by
    rw [Ma.bind_run]
    conv => lhs; rw [Ma.Lx_eq]
    rw [Ma.hd_cons]
    dsimp only
    rw [← Ma.Lx_eq]
  rw [e] at h; exact h
theorem PQ.expect {ks : List Ma.K} {f : Unit → P β} {Q1 : Prop} (h : PQ K CR CF (Ma.expect ks >>= f) R G H r b p Q E)
    (cont : (tokX b p).1 ≠ .broken → (ks.any fun k => isK k (tokX b p).1) = true → PQ K CR CF (f ()) R G H r b p Q E → Q1) : match Ma.expect ks (Lx b p) with
      | .ok _ => Q1
      | .error e => Errs CF E e := by
  have hb := Ma.bind_run (Ma.expect ks) f (Lx b p)
  have ha := expect_at ks b p
  unfold PQ at h
  by_cases h1 : (tokX b p).1 = .broken
  · rw [if_pos h1] at ha
    rw [ha] at hb ⊢
    rw [hb] at h; exact h
  · rw [if_neg h1] at ha
    by_cases h2 : (ks.any fun k => isK k (tokX b p).1) = true
    · rw [if_pos h2] at ha
      rw [ha] at hb ⊢
      exact cont h1 h2 (by unfold PQ; rw [hb] at h; exact h)
    · rw [if_neg h2] at ha
      rw [ha] at hb ⊢
      rw [hb] at h; exact h
theorem PQ.take {k : Ma.K} {f : Ln.Text.Tok → P β} {Q1 : VK} (hk : k ∈ takeKs) (h : PQ K CR CF (Ma.takeK k >>= f) R G H r b p Q E)
    (cont : ∀ v G1 H1, isK k (tokX b p).1 = true → Ext [r] G H G1 H1 → RdAt K CR G1 H1 r b (tokS b p + (tokX b p).2) → Bl G1 v (pcAt b p) → PQ K CR CF (f (tokX b p).1) R G1 H1 r b (tokS b p + (tokX b p).2) Q E → Q1 v H1) : match Ma.takeK k (Lx b p) with
      | .ok _ => ∀ v G' H', Ext [r] G H G' H' → RdAt K CR G' H' r b (tokS b p + (tokX b p).2) → Bl G' v (pcAt b p) → Q1 v H'
      | .error e => Errs CF E e := by
  have hb := Ma.bind_run (Ma.takeK k) f (Lx b p)
  have ha := takeK_at k b p (take_over hk)
  by_cases h1 : (tokX b p).1 = .broken
  · rw [if_pos h1] at ha
    rw [ha] at hb ⊢
    unfold PQ at h
    rw [hb] at h; exact h
  · rw [if_neg h1] at ha
    by_cases h2 : isK k (tokX b p).1 = true
    · rw [if_pos h2] at ha
      rw [ha] at hb ⊢
      exact fun v G' H' e hR hv => cont v G' H' h2 e hR hv (h.later hb e)
    · rw [if_neg h2] at ha
      rw [ha] at hb ⊢
      unfold PQ at h
      rw [hb] at h; exact h
theorem PQ.pass {f : Unit → P β} {G1 H1 : Hp} (hn : over_ (tokX b p).1 = false) (h : PQ K CR CF (Ln.Text.pass >>= f) R G H r b p Q E) (e : Ext [r] G H G1 H1) : PQ K CR CF (f ()) R G1 H1 r b (tokS b p + (tokX b p).2) Q E := by
  refine h.later ?_ e
  rw [Ma.bind_run, Ma.pass_run]
  dsimp only
  rw [Ma.Lx_eq b p, hn, if_neg (by decide)]; rfl
theorem PQ.refuse {n : Nat} (h : PQ K CR CF (Ma.refuse n : P β) R G H r b p Q E) : Errs CF E (n, tokS b p) := by
  unfold PQ at h
  have e : (Ma.refuse n : P β) (Lx b p) = .error (n, tokS b p) := by rw [Ma.Lx_eq]; rfl
  rw [e] at h; exact h
theorem over_of {k : Ma.K} (hk : k ∈ takeKs) (h : isK k (tokX b p).1 = true) : over_ (tokX b p).1 = false := by
  cases z : over_ (tokX b p).1 with
  | false => rfl
  | true => rw [take_over hk z] at h; cases h
end
section
variable {w : World} {K : PySem.W.Frag} {mg : Str → Option Value} {base : Heap} {CN CF CR : Addr}
def spM (K : PySem.W.Frag) (CR CF : Addr) {α : Type} (m : P α) (R : Hp → V → α → Prop) : Sp := fun vs H Q E => ∃ (G : Hp) (r : Addr) (b : Bytes) (p : Nat), vs = [.ref r] ∧ Same G H ∧ RdAt K CR G H r b p ∧ PQ K CR CF m R G H r b p Q E
def Rq (K : PySem.W.Frag) : Hp → V → Rat → Prop := fun G v q => Fr K G v q ∧ Ma.Sz 60 q
structure Rdr (w : World) (K : PySem.W.Frag) (mg : Str → Option Value) (base : Heap) (CR CF : Addr) : Prop where
  sees : MDef prog w K mg base 1 CR "sees" ["self", "kind"] (spSees K CR)
  piece : MDef prog w K mg base 1 CR "piece" ["self"] (spPiece K CR)
  refuse : MDef prog w K mg base 3 CR "refuse" ["self", "kind"] (spRefuse K CR CF)
  expect : MDef prog w K mg base 4 CR "expect" ["self", "kinds"] (spExpect K CR CF)
  step : MDef prog w K mg base 6 CR "step" ["self"] (spStep K CR)
  take : MDef prog w K mg base 7 CR "take" ["self", "kind"] (spTake K CR CF)
theorem pc_eq {b : Bytes} {p : Nat} : pcAt b p = (b.drop (tokS b p)).take (tokenIn (b.drop (tokS b p))).2 := rfl
theorem isK_pointed {t : Ln.Text.Tok} (h : isK .pointed t = true) : ∃ n k, t = .num n k true := by
  cases t with
  | num n k pt => cases pt with
    | true => exact ⟨n, k, rfl⟩
    | false => cases h
  | _ => cases h
theorem isK_whole {t : Ln.Text.Tok} (h : isK .whole t = true) : ∃ n k, t = .num n k false := by
  cases t with
  | num n k pt => cases pt with
    | false => exact ⟨n, k, rfl⟩
    | true => cases h
  | _ => cases h
theorem sc_rpt : FnScope ["reader", "piece", "point"] ["reader"] (defScope s_read_pointed) := ⟨rfl, rfl, rfl, by decide +kernel, rfl, by decide +kernel, by decide +kernel⟩
theorem no46 {a : Bytes} (h : a.all isDigit = true) {m : Nat} (hm : m < a.length) : ((a[m].toNat : Nat) : Int) ≠ 46 := by
  have := dig_ge (all_get h hm)
  omega
theorem ok_rpt {f : Addr} {fd : FuncData} (F : Fun K "read_pointed" "read_pointed" s_read_pointed f fd) (T : Tr K mg CN CF CR) (D : Rdr w K mg base CR CF) (Dp : Def prog w K mg base 3 "pointed_value" ["front", "back"] (spPointed K)) : FnOk prog w K mg base (cxX prog w) 8 f fd ["reader"] (spM K CR CF Ma.rPointed (Rq K)) := by
  refine F.okX sc_rpt (fun vs H Q E h => ?_) (fun cdv A outer s H vs Q E hr h => ?_)
  · obtain ⟨G, r, b, p, rfl, _⟩ := h; rfl
  · obtain ⟨G, r, b, p, rfl, sm, hR, kk⟩ := h
    have hr3 := hr.mono (show 3 ≤ 7 by decide)
    refine ⟨_, pss_cons (ps_set (i := 1) sc_rpt.nd rfl (Or.inl rfl) (pe_mdef D.take T.cl hr pass_cx (pv 0) (pa_cons pe_str pa_nil)))
      (pss_cons (ps_set (i := 2) sc_rpt.nd rfl (Or.inl rfl) (pe_bm PySem.F.plainAttrs_list PySem.F.slot_list_index PySem.F.type_list_index mt_index (pv 1) (pa_cons (pgi T.point_) pa_nil)))
      (pss_one (ps_ret (pe_def Dp hr3 pass_cx (pa_cons (pe_slice sl_list (pv 1) po_none (po_some (pv 2))) (pa_cons (pe_slice sl_list (pv 1) (po_some (pe_op op_add (pv 2) pe_int)) po_none) pa_nil)))))), ?_⟩
    obtain ⟨_, dx, t, tk, ho, _, _⟩ := id hR
    have hk : Ma.K.pointed ∈ takeKs := by decide +kernel
    refine ⟨_, rfl, r, dx, _, rfl, ho.at_, rf_no t tk _ (by decide +kernel), G, r, b, p, .pointed, rfl, sm, hR, hk, PQ.take hk kk fun v G1 H1 h1 e1 hR1 hv k1 => ?_⟩
    obtain ⟨u, rfl, hu⟩ := hv
    obtain ⟨n, k, ht⟩ := isK_pointed h1
    obtain ⟨x, y, hpc, hx, hy, hn, hz, hl⟩ := Ma.piece_pointed (c := b.drop (tokS b p)) ht
    rw [pc_eq, hpc] at hu
    have hu1 := e1.sub _ _ hu
    have hlen : (x ++ 46 :: y).length = x.length + 1 + y.length := by simp; omega
    have hat : (bytesV (x ++ 46 :: y))[x.length]? = some (.int 46) := by
      have hlt : x.length < (x ++ 46 :: y).length := by rw [hlen]; omega
      rw [bytesV_get hlt]
      rw [List.getElem_append_right (Nat.le_refl _)]
      simp
    refine ⟨_, rfl, .inl ⟨rfl, _, SqL.of hu1⟩, u, _, .int 46, x.length, .int 46, rfl, rfl, SqL.of hu1, rfl, ?_, hat, rfl, ?_, ?_⟩
    · unfold bytesV; rw [List.all_map]; exact List.all_eq_true.mpr fun _ _ => rfl
    · intro m z' hm hz'
      have hlt : m < (x ++ 46 :: y).length := by rw [hlen]; omega
      rw [bytesV_get hlt, List.getElem_append_left hm] at hz'
      have := Option.some.inj hz'
      subst this
      exact beq_eq_false_iff_ne.mpr (no46 hx hm)
    · refine ⟨_, rfl, _, rfl, _, rfl, u, _, rfl, SqL.of hu1, fun l hl1 => ?_⟩
      have hx1 : cutV (bytesV (x ++ 46 :: y)) none (some ((x.length : Nat) : Int)) = bytesV x := by
        rw [cut_to _ _ (by rw [hlen]; omega)]
        rw [List.take_append_of_le_length (Nat.le_refl _), List.take_length]
      rw [hx1]
      have e2 := e1.lay hl1 (o := .lst (bytesV x))
      have hu2 := e2.sub _ _ (show upd G1 l _ u = _ by rw [upd_ne (ne_of_none hu1 hl1)]; exact hu)
      refine ⟨_, rfl, _, rfl, _, _, rfl, rfl, _, rfl, u, _, rfl, SqL.of hu2, fun l2 hl2 => ?_⟩
      have hy1 : cutV (bytesV (x ++ 46 :: y)) (some (((x.length : Nat) : Int) + 1)) none = bytesV y := by
        have := cut_from (x ++ 46 :: y) (x.length + 1)
        have hd : (x ++ 46 :: y).drop (x.length + 1) = y := by
          rw [← List.drop_drop, List.drop_left]; rfl
        rw [hd] at this
        exact this
      rw [hy1]
      have e3 := e2.lay hl2 (o := .lst (bytesV y))
      have ne : l ≠ l2 := ne_of_none (upd_same (H := H1) (a := l)) hl2
      refine ⟨_, _, _, x, y, rfl, e3.sub, ⟨l, rfl, by rw [upd_ne ne, upd_same]⟩, ⟨l2, rfl, upd_same⟩, ?_, by omega, fun v G4 H4 e4 f4 => ?_⟩
      · rw [List.all_append, hx, hy]; rfl
      · have e34 : Ext [r] G1 H1 G4 H4 := (((Ext.refl e1.sub).lay hl1).lay hl2).trans e4.up
        have hR4 := (hR1.ext (((Ext.refl e1.sub).lay hl1).lay hl2 : Ext [] G1 H1 _ _) (by simp)).ext e4 (by simp)
        have k4 := k1.later (k := pure ((Ma.numN (tokX b p).1 : Rat) / (10 ^ Ma.numP (tokX b p).1 : Nat))) (p1 := tokS b p + (tokX b p).2) rfl e34
        have ht' : (tokX b p).1 = .num n k true := ht
        rw [ht'] at k4
        refine PQ.done e4.sub hR4 k4 ⟨?_, ?_⟩
        · rw [hn, hz] at f4; exact f4
        · refine Ma.sz_div ?_ ?_ ?_
          · have := Ma.natural_B (l := x ++ y) (by rw [List.all_append, hx, hy]; rfl) (by rw [List.length_append]; exact hl)
            show n < _
            rw [hn] at this; exact this
          · show 10 ^ k < 2 ^ 60
            exact Nat.lt_of_le_of_lt (Nat.pow_le_pow_right (by decide) (by omega : k ≤ 18)) (by decide)
          · exact Nat.ne_of_gt (Nat.pow_pos (by decide))
end
end Th
set_option maxHeartbeats 2000000
namespace Th
open PySem PySem.Spec PyProof.Rows L2
open Ln (Bytes)
open Ln.Text (isDigit natural isLetter isMark tokenIn numberIn WORDS NAME P Lex)
open Ma (isK TokOk tokS tokX Lx over_)
def tRd (C : Addr) (m : Str) (sp : Sp) (E : XK) (i : Nat) (t : TA) : TE := fun σ H Q => ∃ r, σ[i]? = some (some (.ref r)) ∧ (∃ dx fs, H r = some (.ins C dx fs) ∧ fs.lookup m = none) ∧ t σ H fun vs H2 => sp (.ref r :: vs) H2 Q E
theorem RdAt.m {K : PySem.W.Frag} {CR : Addr} {G H : Hp} {r : Addr} {b : Bytes} {p : Nat} (h : RdAt K CR G H r b p) {m : Str} (hm : m ∈ methR) : ∃ dx fs, H r = some (.ins CR dx fs) ∧ fs.lookup m = none := by
  obtain ⟨_, dx, t, tk, ho, _, _⟩ := h
  exact ⟨dx, _, ho.at_, rf_no t tk m hm⟩
theorem m1 : ("sees" : Str) ∈ methR := by decide +kernel
theorem m2 : ("piece" : Str) ∈ methR := by decide +kernel
theorem m3 : ("refuse" : Str) ∈ methR := by decide +kernel
theorem m4 : ("expect" : Str) ∈ methR := by decide +kernel
theorem m5 : ("step" : Str) ∈ methR := by decide +kernel
theorem m6 : ("take" : Str) ∈ methR := by decide +kernel
section
variable {X : Cx} {k : Nat} {C : Addr} {m x : Str} {ps : List Str} {sp : Sp} {E : XK} {p1 apos pos : Pos} {e : Expr} {es : List Expr} {t : TA} {i : Nat}
theorem pmr {pl : Sem Bool} (D : MDef X.prog X.w X.K X.mg X.base k C m ps sp) (c : Cls X.K C) (hr : Room k X.A) (hx : Passes (cxX X.prog X.w) X E) (he : PE X (.Name x p1) (tVar i)) (ha : PA X (e :: es) t)
    (hst : starEach (e :: es) X.env = (false, eval e X.env) :: starEach es X.env := by rfl) (hpl : (backTo pos (starEach es X.env)).any (·.1) = false := by rfl)
    (ht : eval (.Call (.Attribute (.Name x p1) m apos) (e :: es) [] pos) X.env = (do
      let ov ← eval (.Name x p1) X.env
      standAt apos.atName
      let (f, first) ← holding [ov] (getMethod ov m pl)
      callWith pos f first (backTo pos (starEach (e :: es) X.env)) (backToKw pos (keywordEach [] X.env))) := by rfl) :
    PE X (.Call (.Attribute (.Name x p1) m apos) (e :: es) [] pos) (tRd C m sp E i t) := by
  intro pins s σ H Q I ⟨r, e1, ⟨dx, fs, e2, e3⟩, h⟩
  refine pe_mdef D c hr hx he ha hst hpl ht pins s σ H Q I ⟨_, e1, r, dx, fs, rfl, e2, e3, ?_⟩
  simp only [List.append_nil]
  exact h
theorem pmr0 {pl : Sem Bool} (D : MDef X.prog X.w X.K X.mg X.base k C m ps sp) (c : Cls X.K C) (hr : Room k X.A) (hx : Passes (cxX X.prog X.w) X E) (he : PE X (.Name x p1) (tVar i))
    (ht : eval (.Call (.Attribute (.Name x p1) m apos) [] [] pos) X.env = (do
      let ov ← eval (.Name x p1) X.env
      standAt apos.atName
      let (f, first) ← holding [ov] (getMethod ov m pl)
      callWith pos f first (backTo pos (starEach [] X.env)) (backToKw pos (keywordEach [] X.env))) := by rfl) :
    PE X (.Call (.Attribute (.Name x p1) m apos) [] [] pos) (tRd C m sp E i tNil) := by
  intro pins s σ H Q I ⟨r, e1, ⟨dx, fs, e2, e3⟩, h⟩
  exact pe_mdef0 D c hr hx he ht pins s σ H Q I ⟨_, e1, r, dx, fs, rfl, e2, e3, h⟩
end
theorem fr_nat {K : PySem.W.Frag} {G : Hp} {l : Addr} (n : Nat) (h : G l = some (.tup [.int (n : Int), .int 1])) : Fr K G (.ref l) (n : Rat) := by
  refine ⟨l, rfl, .of ?_⟩
  rw [Rat.num_natCast, Rat.den_natCast]; exact h
section
variable {w : World} {K : PySem.W.Frag} {mg : Str → Option Value} {base : Heap} {CN CF CR : Addr}
theorem sc_rnum : FnScope ["reader", "top", "bottom"] ["reader"] (defScope s_read_number) := ⟨rfl, rfl, rfl, by decide +kernel, rfl, by decide +kernel, by decide +kernel⟩
theorem ks_wp : ∀ k ∈ [Ma.K.whole, Ma.K.pointed], k ∈ allK := by decide +kernel
theorem ks_w : ∀ k ∈ [Ma.K.whole], k ∈ allK := by decide +kernel
theorem tk_whole : Ma.K.whole ∈ takeKs := by decide +kernel
theorem tk_slash : Ma.K.m 47 ∈ takeKs := by decide +kernel
theorem whole_pc {b : Bytes} {p : Nat} (h : isK .whole (tokX b p).1 = true) : (pcAt b p).all isDigit = true ∧ natural (pcAt b p) = Ma.numN (tokX b p).1 ∧ natural (pcAt b p) < 2 ^ 60 := by
  obtain ⟨n, k, ht⟩ := isK_whole h
  obtain ⟨h1, h2, h3⟩ := Ma.piece_whole (c := b.drop (tokS b p)) ht
  refine ⟨h1, ?_, Ma.natural_B h1 h3⟩
  have : (tokX b p).1 = .num n k false := ht
  rw [this]; exact h2
theorem ok_rnum {f : Addr} {fd : FuncData} (F : Fun K "read_number" "read_number" s_read_number f fd) (T : Tr K mg CN CF CR) (D : Rdr w K mg base CR CF) (Dp : Def prog w K mg base 8 "read_pointed" ["reader"] (spM K CR CF Ma.rPointed (Rq K))) (Dw : Def prog w K mg base 1 "whole_value" ["digits"] (spWhole K)) (Do : Def prog w K mg base 3 "over" ["x", "y"] (sp2 K BigQ fun p q => p / q)) :
    FnOk prog w K mg base (cxX prog w) 9 f fd ["reader"] (spM K CR CF Ma.rNumber (Rq K)) := by
  refine F.okX sc_rnum (fun vs H Q E h => ?_) (fun cdv A outer s H vs Q E hr h => ?_)
  · obtain ⟨G, r, b, p, rfl, _⟩ := h; rfl
  · obtain ⟨G, r, b, p, rfl, sm, hR, kk⟩ := h
    have hr1 := hr.mono (show 1 ≤ 8 by decide)
    have hr3 := hr.mono (show 3 ≤ 8 by decide)
    have hr4 := hr.mono (show 4 ≤ 8 by decide)
    have hr6 := hr.mono (show 6 ≤ 8 by decide)
    have hr7 := hr.mono (show 7 ≤ 8 by decide)
    refine ⟨_, pss_cons (ps_expr (pmr D.expect T.cl hr4 pass_cx (pv 0) (pa_cons (pe_tup (pa_cons pe_str (pa_cons pe_str pa_nil))) pa_nil)))
      (pss_cons (ps_if (pt_val (pmr D.sees T.cl hr1 pass_cx (pv 0) (pa_cons pe_str pa_nil))) (pss_one (ps_ret (pe_def Dp hr pass_cx (pa_cons (pv 0) pa_nil)))) pss_nil)
      (pss_cons (ps_set (i := 1) sc_rnum.nd rfl (Or.inl rfl) (pe_def Dw hr1 pass_cx (pa_cons (pmr D.take T.cl hr7 pass_cx (pv 0) (pa_cons pe_str pa_nil)) pa_nil)))
      (pss_cons (ps_if (pt_not (pt_val (pmr D.sees T.cl hr1 pass_cx (pv 0) (pa_cons pe_str pa_nil)))) (pss_one (ps_ret (pe_tup (pa_cons (pv 1) (pa_cons pe_int pa_nil))))) pss_nil)
      (pss_cons (ps_expr (pmr0 D.step T.cl hr6 pass_cx (pv 0)))
      (pss_cons (ps_expr (pmr D.expect T.cl hr4 pass_cx (pv 0) (pa_cons (pe_tup (pa_cons pe_str pa_nil)) pa_nil)))
      (pss_cons (ps_set (i := 2) sc_rnum.nd rfl (Or.inl rfl) (pe_def Dw hr1 pass_cx (pa_cons (pmr0 D.piece T.cl hr1 pass_cx (pv 0)) pa_nil)))
      (pss_cons (ps_if (pt_cmpR op_eq (pv 2) pe_int (nomark _)) (pss_one (ps_expr (pmr D.refuse T.cl hr3 pass_cx (pv 0) (pa_cons (pgi T.k6) pa_nil)))) pss_nil)
      (pss_cons (ps_expr (pmr0 D.step T.cl hr6 pass_cx (pv 0)))
      (pss_one (ps_ret (pe_def Do hr3 pass_cx (pa_cons (pe_tup (pa_cons (pv 1) (pa_cons pe_int pa_nil))) (pa_cons (pe_tup (pa_cons (pv 2) (pa_cons pe_int pa_nil))) pa_nil))))))))))))), ?_⟩
    refine ⟨r, rfl, hR.m m4, (by show 2 ≤ sizeLine; decide), fun q hq => ?_⟩
    have e1 : Ext [] G H _ _ := (Ext.refl sm).lay hq (o := .tup [.str "whole", .str "pointed"])
    have hR1 := hR.ext e1 (by simp)
    replace kk := kk.later (k := Ma.rNumber) (p1 := p) rfl (e1.up (M := [r]))
    unfold Ma.rNumber at kk
    refine ⟨_, r, b, p, q, [.whole, .pointed], rfl, e1.sub, hR1, .of upd_same, ks_wp, kk.expect fun hb1 hany k1 => ?_⟩
    replace k1 := k1.sees
    generalize upd G q (.tup [.str "whole", .str "pointed"]) = G1 at e1 hR1 k1
    generalize upd H q (.tup [.str "whole", .str "pointed"]) = H1 at e1 hR1 k1
    refine ⟨r, rfl, hR1.m m1, G1, r, b, p, .pointed, rfl, (by decide +kernel), e1.sub, hR1, _, rfl, if_bl (fun hp => ?_) (fun hp => ?_)⟩
    · rw [hp, if_pos rfl] at k1
      exact ⟨_, rfl, G1, r, b, p, rfl, e1.sub, hR1, k1⟩
    rw [hp, if_neg (by decide)] at k1
    refine ⟨r, rfl, hR1.m m6, G1, r, b, p, .whole, rfl, e1.sub, hR1, tk_whole, k1.take tk_whole fun v G2 H2 hw e2 hR2 hv k2 => ?_⟩
    obtain ⟨w1, w2, w3⟩ := whole_pc hw
    refine ⟨G2, _, _, rfl, e2.sub, hv.bs, w1, ?_⟩
    rw [w2] at w3 ⊢
    generalize Ma.numN (tokX b p).1 = n at w3 k2
    generalize tokS b p + (tokX b p).2 = p2 at hR2 k2
    replace k2 := k2.sees
    refine ⟨r, rfl, hR2.m m1, G2, r, b, p2, .m 47, rfl, (by decide +kernel), e2.sub, hR2, _, rfl, ?_⟩
    cases hs : isK (.m 47) (tokX b p2).1 with
    | false =>
      rw [hs, if_pos rfl] at k2
      refine iteT ⟨_, rfl, (by show 2 ≤ sizeLine; decide), fun l hl => ?_⟩
      have e3 : Ext [] G2 H2 _ _ := (Ext.refl e2.sub).lay hl (o := .tup [.int (n : Int), .int 1])
      exact PQ.done e3.sub (hR2.ext e3 (by simp)) (k2.later rfl e3.up) ⟨fr_nat n upd_same, Ma.sz_nat w3⟩
    | true =>
    rw [hs, if_neg (by decide)] at k2
    refine iteF ?_
    refine ⟨r, rfl, hR2.m m5, G2, r, b, p2, rfl, e2.sub, hR2, fun G3 H3 e3 hR3 => ?_⟩
    have k3 := k2.pass (over_of tk_slash hs) e3
    generalize tokS b p2 + (tokX b p2).2 = p3 at hR3 k3
    refine ⟨r, rfl, hR3.m m4, (by show 1 ≤ sizeLine; decide), fun q2 hq2 => ?_⟩
    have e4 : Ext [] G3 H3 _ _ := (Ext.refl e3.sub).lay hq2 (o := .tup [.str "whole"])
    have hR4 := hR3.ext e4 (by simp)
    have k4 := k3.later (p1 := p3) rfl (e4.up (M := [r]))
    refine ⟨_, r, b, p3, q2, [.whole], rfl, e4.sub, hR4, .of upd_same, ks_w, k4.expect fun hb4 hany4 k5 => ?_⟩
    have hw4 : isK .whole (tokX b p3).1 = true := by simpa using hany4
    replace k5 := k5.hd
    generalize upd G3 q2 (.tup [.str "whole"]) = G4 at e4 hR4 k5
    generalize upd H3 q2 (.tup [.str "whole"]) = H4 at e4 hR4 k5
    refine ⟨r, rfl, hR4.m m2, G4, r, b, p3, rfl, e4.sub, hR4, fun v5 G5 H5 e5 hv5 => ?_⟩
    obtain ⟨x1, x2, x3⟩ := whole_pc hw4
    have hR5 := hR4.ext e5 (by simp)
    refine ⟨G5, _, _, rfl, e5.sub, hv5.bs, x1, ?_⟩
    rw [x2] at x3 ⊢
    have k6 := k5.later (p1 := p3) rfl (e5.up (M := [r]))
    dsimp only at k6
    refine ⟨_, rfl, rfl, _, rfl, if_eqI (fun h0 => ?_) (fun h0 => ?_)⟩
    · rw [if_pos (show Ma.numN (tokX b p3).1 = 0 by omega)] at k6
      exact ⟨r, rfl, hR5.m m3, G5, r, b, p3, 6, rfl, e5.sub, hR5, k6.refuse⟩
    have h0' : Ma.numN (tokX b p3).1 ≠ 0 := by omega
    rw [if_neg h0'] at k6
    generalize Ma.numN (tokX b p3).1 = m at x3 k6 h0 h0'
    refine ⟨r, rfl, hR5.m m5, G5, r, b, p3, rfl, e5.sub, hR5, fun G6 H6 e6 hR6 => ?_⟩
    have k7 := k6.pass (over_of tk_whole hw4) e6
    refine ⟨_, rfl, (by show 2 ≤ sizeLine; decide), fun l1 hl1 => ?_⟩
    have e7 : Ext [] G6 H6 _ _ := (Ext.refl e6.sub).lay hl1 (o := .tup [.int (n : Int), .int 1])
    refine ⟨_, rfl, (by show 2 ≤ sizeLine; decide), fun l2 hl2 => ?_⟩
    have e8 := e7.lay hl2 (o := .tup [.int (m : Int), .int 1])
    have ne : l1 ≠ l2 := ne_of_none (upd_same (H := H6) (a := l1)) hl2
    refine ⟨_, _, _, (n : Rat), (m : Rat), rfl, e8.sub, fr_nat n (by rw [upd_ne ne, upd_same]), fr_nat m upd_same, ⟨(Ma.sz_nat w3).mono (by decide), (Ma.sz_nat x3).mono (by decide), ?_⟩, fun v9 G9 H9 e9 f9 => ?_⟩
    · intro z
      exact h0' (by exact_mod_cast z)
    · have e10 : Ext [] G6 H6 G9 H9 := e8.trans e9
      exact PQ.done e9.sub (hR6.ext e10 (by simp)) (k7.later rfl e10.up) ⟨f9, Ma.sz_div w3 x3 h0'⟩
end
end Th
set_option maxHeartbeats 2000000
namespace Th
open PySem PySem.Spec PyProof.Rows L2
open Ln (Bytes)
open Ln.Text (isDigit natural isLetter isMark tokenIn numberIn WORDS NAME P Lex)
open Ma (isK TokOk tokS tokX Lx over_)
theorem before_at (bad : Bool) (ks : List Ma.K) (b : Bytes) (p : Nat) : Ma.rBefore bad ks (Lx b p) = if (tokX b p).1 = .broken then .error (1, tokS b p) else if (ks.any fun k => isK k (tokX b p).1) = true then (if bad = true then .error (6, tokS b p) else .ok ((), Lx b p)) else .error (2, tokS b p) := by
  rw [Ma.Lx_eq, Ma.before_any]
theorem PQ.before {K : PySem.W.Frag} {CR CF : Addr} {β : Type} {R : Hp → V → β → Prop} {G H : Hp} {r : Addr} {b : Bytes} {p : Nat} {Q : VK} {E : XK} {bad : Bool} {ks : List Ma.K} {f : Unit → P β} {Q1 : Prop} (h : PQ K CR CF (Ma.rBefore bad ks >>= f) R G H r b p Q E)
    (cont : (tokX b p).1 ≠ .broken → (ks.any fun k => isK k (tokX b p).1) = true → bad = false → PQ K CR CF (f ()) R G H r b p Q E → Q1) : match Ma.rBefore bad ks (Lx b p) with
      | .ok _ => Q1
      | .error e => Errs CF E e := by
  have hb := Ma.bind_run (Ma.rBefore bad ks) f (Lx b p)
  have ha := before_at bad ks b p
  unfold PQ at h
  by_cases h1 : (tokX b p).1 = .broken
  · rw [if_pos h1] at ha
    rw [ha] at hb ⊢
    rw [hb] at h; exact h
  · rw [if_neg h1] at ha
    by_cases h2 : (ks.any fun k => isK k (tokX b p).1) = true
    · rw [if_pos h2] at ha
      cases bad with
      | true =>
        rw [if_pos rfl] at ha
        rw [ha] at hb ⊢
        rw [hb] at h; exact h
      | false =>
        rw [if_neg (by decide)] at ha
        rw [ha] at hb ⊢
        exact cont h1 h2 rfl (by unfold PQ; rw [hb] at h; exact h)
    · rw [if_neg h2] at ha
      rw [ha] at hb ⊢
      rw [hb] at h; exact h
theorem sz_inv {n : Nat} {r : Rat} (h : Ma.Sz n r) (h0 : r ≠ 0) : Ma.Sz n (1 / r) := by
  rw [Ma.div_eq 1 r h0]
  refine Ma.Sz.div ?_ ?_ ?_
  · show ((1 : Rat).num * (r.den : Int)).natAbs < _
    rw [show (1 : Rat).num = 1 from rfl, Int.one_mul]; exact h.2
  · show (((1 : Rat).den : Int) * r.num).natAbs < _
    rw [show (((1 : Rat).den : Nat) : Int) = 1 from rfl, Int.one_mul]; exact h.1
  · rw [show (((1 : Rat).den : Nat) : Int) = 1 from rfl, Int.one_mul]
    exact fun z => h0 (Rat.num_eq_zero.mp z)
theorem lt_one (q : Rat) : decide (q.num < (q.den : Int)) = decide (q < 1) := decide_eq_decide.mpr (by
  rw [Rat.lt_iff]
  show _ ↔ q.num * (1 : Int) < 1 * (q.den : Int)
  rw [Int.mul_one, Int.one_mul])
theorem eq_zero (q : Rat) : decide (V.int q.num = V.int 0) = decide (q = 0) := decide_eq_decide.mpr ⟨fun h => Rat.num_eq_zero.mp (V.int.inj h), fun h => by rw [h]; rfl⟩
section
variable {w : World} {K : PySem.W.Frag} {mg : Str → Option Value} {base : Heap} {CN CF CR : Addr}
theorem sc_rval : FnScope ["reader"] ["reader"] (defScope s_read_value) := ⟨rfl, rfl, rfl, by decide +kernel, rfl, by decide +kernel, by decide +kernel⟩
theorem ok_rval {f : Addr} {fd : FuncData} (F : Fun K "read_value" "read_value" s_read_value f fd) (T : Tr K mg CN CF CR) (D : Rdr w K mg base CR CF) (Dn : Def prog w K mg base 9 "read_number" ["reader"] (spM K CR CF Ma.rNumber (Rq K))) (Dg : Def prog w K mg base 1 "negative" ["x"] (sp1 K (fun _ => True) fun p => -p)) :
    FnOk prog w K mg base (cxX prog w) 10 f fd ["reader"] (spM K CR CF Ma.rValue (Rq K)) := by
  refine F.okX sc_rval (fun vs H Q E h => ?_) (fun cdv A outer s H vs Q E hr h => ?_)
  · obtain ⟨G, r, b, p, rfl, _⟩ := h; rfl
  · obtain ⟨G, r, b, p, rfl, sm, hR, kk⟩ := h
    have hr1 := hr.mono (show 1 ≤ 9 by decide)
    have hr6 := hr.mono (show 6 ≤ 9 by decide)
    refine ⟨_, pss_cons (ps_if (pt_not (pt_val (pmr D.sees T.cl hr1 pass_cx (pv 0) (pa_cons pe_str pa_nil)))) (pss_one (ps_ret (pe_def Dn hr pass_cx (pa_cons (pv 0) pa_nil)))) pss_nil)
      (pss_cons (ps_expr (pmr0 D.step T.cl hr6 pass_cx (pv 0))) (pss_one (ps_ret (pe_def Dg hr1 pass_cx (pa_cons (pe_def Dn hr pass_cx (pa_cons (pv 0) pa_nil)) pa_nil))))), ?_⟩
    unfold Ma.rValue at kk
    replace kk := kk.sees
    refine ⟨r, rfl, hR.m m1, G, r, b, p, .m 45, rfl, (by decide +kernel), sm, hR, _, rfl, ?_⟩
    cases hs : isK (.m 45) (tokX b p).1 with
    | false =>
      rw [hs, if_pos rfl] at kk
      exact iteT ⟨_, rfl, G, r, b, p, rfl, sm, hR, kk⟩
    | true =>
      rw [hs, if_neg (by decide)] at kk
      refine iteF ⟨r, rfl, hR.m m5, G, r, b, p, rfl, sm, hR, fun G1 H1 e1 hR1 => ?_⟩
      have k1 := kk.pass (over_of (k := .m 45) (by decide +kernel) hs) e1
      refine ⟨_, rfl, G1, r, b, _, rfl, e1.sub, hR1, k1.bind fun q v G2 H2 p2 _ e2 hR2 hv k2 => ?_⟩
      refine ⟨G2, _, q, rfl, e2.sub, hv.1, trivial, fun v3 G3 H3 e3 f3 => ?_⟩
      exact PQ.done e3.sub (hR2.ext e3 (by simp)) (k2.later rfl e3.up) ⟨f3, hv.2.neg⟩
def spBefore (K : PySem.W.Frag) (CR CF : Addr) : Sp := fun vs H Q E => ∃ (G : Hp) (r : Addr) (b : Bytes) (p : Nat) (bad : Bool) (kp : Addr) (ks : List Ma.K), vs = [.ref r, .bl bad, .ref kp] ∧ Same G H ∧ RdAt K CR G H r b p ∧ SqT K H kp (ks.map fun k => V.str (strK k)) ∧ (∀ k ∈ ks, k ∈ allK) ∧
  match Ma.rBefore bad ks (Lx b p) with
  | .ok _ => Q .non H
  | .error e => Errs CF E e
theorem sc_bef : FnScope ["reader", "refused", "behind"] ["reader", "refused", "behind"] (defScope s_refuse_number_before) := ⟨rfl, rfl, rfl, by decide +kernel, rfl, by decide +kernel, by decide +kernel⟩
theorem ok_bef {f : Addr} {fd : FuncData} (F : Fun K "refuse_number_before" "refuse_number_before" s_refuse_number_before f fd) (T : Tr K mg CN CF CR) (D : Rdr w K mg base CR CF) : FnOk prog w K mg base (cxX prog w) 5 f fd ["reader", "refused", "behind"] (spBefore K CR CF) := by
  refine F.okX sc_bef (fun vs H Q E h => ?_) (fun cdv A outer s H vs Q E hr h => ?_)
  · obtain ⟨G, r, b, p, bad, kp, ks, rfl, _⟩ := h; rfl
  · obtain ⟨G, r, b, p, bad, kp, ks, rfl, sm, hR, hks, hall, kk⟩ := h
    have hr3 := hr.mono (show 3 ≤ 4 by decide)
    refine ⟨_, pss_cons (ps_expr (pmr D.expect T.cl hr pass_cx (pv 0) (pa_cons (pv 2) pa_nil))) (pss_one (ps_if (pt_val (pv 1)) (pss_one (ps_expr (pmr D.refuse T.cl hr3 pass_cx (pv 0) (pa_cons (pgi T.k6) pa_nil)))) pss_nil)), ?_⟩
    refine ⟨r, rfl, hR.m m4, _, rfl, G, r, b, p, kp, ks, rfl, sm, hR, hks, hall, ?_⟩
    rw [before_at] at kk
    rw [expect_at]
    by_cases h1 : (tokX b p).1 = .broken
    · rw [if_pos h1] at kk ⊢; exact kk
    · rw [if_neg h1] at kk ⊢
      by_cases h2 : (ks.any fun k => isK k (tokX b p).1) = true
      · rw [if_pos h2] at kk ⊢
        refine ⟨_, rfl, _, rfl, if_bl (fun h3 => ?_) (fun h3 => ?_)⟩
        · subst h3
          exact ⟨r, rfl, hR.m m3, G, r, b, p, 6, rfl, sm, hR, kk⟩
        · subst h3
          exact kk
      · rw [if_neg h2] at kk ⊢; exact kk
def RqI (K : PySem.W.Frag) : Hp → V → Rat → Prop := fun G v q => Rq K G v q ∧ 1 ≤ q
def spIndex (K : PySem.W.Frag) (CR CF : Addr) : Sp := fun vs H Q E => ∃ (G : Hp) (r : Addr) (b : Bytes) (p : Nat) (c : UInt8), vs = [.ref r, .str (strK (.m c))] ∧ c ∈ markB ∧ Same G H ∧ RdAt K CR G H r b p ∧ PQ K CR CF (Ma.rIndex c) (RqI K) G H r b p Q E
theorem mark_all : ∀ c ∈ markB, Ma.K.m c ∈ allK ∧ Ma.K.m c ∈ takeKs := by decide +kernel
theorem sc_ridx : FnScope ["reader", "mark", "index"] ["reader", "mark"] (defScope s_read_index) := ⟨rfl, rfl, rfl, by decide +kernel, rfl, by decide +kernel, by decide +kernel⟩
theorem ok_ridx {f : Addr} {fd : FuncData} (F : Fun K "read_index" "read_index" s_read_index f fd) (T : Tr K mg CN CF CR) (D : Rdr w K mg base CR CF) (Dn : Def prog w K mg base 9 "read_number" ["reader"] (spM K CR CF Ma.rNumber (Rq K))) (Db : Def prog w K mg base 5 "refuse_number_before" ["reader", "refused", "behind"] (spBefore K CR CF)) :
    FnOk prog w K mg base (cxX prog w) 10 f fd ["reader", "mark"] (spIndex K CR CF) := by
  refine F.okX sc_ridx (fun vs H Q E h => ?_) (fun cdv A outer s H vs Q E hr h => ?_)
  · obtain ⟨G, r, b, p, c, rfl, _⟩ := h; rfl
  · obtain ⟨G, r, b, p, c, rfl, hc, sm, hR, kk⟩ := h
    have hr5 := hr.mono (show 5 ≤ 9 by decide)
    have hr6 := hr.mono (show 6 ≤ 9 by decide)
    refine ⟨_, pss_cons (ps_set (i := 2) sc_ridx.nd rfl (Or.inl rfl) (pe_def Dn hr pass_cx (pa_cons (pv 0) pa_nil)))
      (pss_cons (ps_expr (pe_def Db hr5 pass_cx (pa_cons (pv 0) (pa_cons (pe_cmpR op_lt (px 2 (pv 2)) (px 2 (pv 2)) (nomark _)) (pa_cons (pe_tup (pa_cons (pv 1) pa_nil)) pa_nil)))))
      (pss_cons (ps_expr (pmr0 D.step T.cl hr6 pass_cx (pv 0))) (pss_one (ps_ret (pv 2))))), ?_⟩
    unfold Ma.rIndex at kk
    refine ⟨_, rfl, G, r, b, p, rfl, sm, hR, kk.bind fun q v G1 H1 p1 _ e1 hR1 hv k1 => ?_⟩
    obtain ⟨⟨u, rfl, hu⟩, hsz⟩ := hv
    refine ⟨_, rfl, u, _, _, rfl, e1.sub.seqT hu, rfl, u, _, _, rfl, e1.sub.seqT hu, rfl, _, _, rfl, rfl, _, rfl, (by show 1 ≤ sizeLine; decide), fun l hl => ?_⟩
    have e2 : Ext [] G1 H1 _ _ := (Ext.refl e1.sub).lay hl (o := .tup [.str (strK (.m c))])
    have hR2 := hR1.ext e2 (by simp)
    have k2 := k1.later (p1 := p1) rfl (e2.up (M := [r]))
    refine ⟨_, r, b, p1, decide (q < 1), l, [.m c], (by rw [← lt_one]; rfl), e2.sub, hR2, .of upd_same, (fun z hz => by rw [List.mem_singleton.mp hz]; exact (mark_all c hc).1), k2.before fun _ hany hbad k3 => ?_⟩
    have hm : isK (.m c) (tokX b p1).1 = true := by simpa using hany
    refine ⟨r, rfl, hR2.m m5, _, r, b, p1, rfl, e2.sub, hR2, fun G3 H3 e3 hR3 => ⟨_, rfl, ?_⟩⟩
    have k4 := k3.pass (over_of (mark_all c hc).2 hm) e3
    refine PQ.done e3.sub hR3 k4 ⟨⟨⟨u, rfl, e3.grow.seqT (e2.grow.seqT hu)⟩, hsz⟩, ?_⟩
    exact Rat.not_lt.mp (of_decide_eq_false hbad)
end
end Th
set_option maxHeartbeats 2000000
namespace Th
open PySem PySem.Spec PyProof.Rows L2
open Ln (Bytes)
open Ln.Text (isDigit natural isLetter isMark tokenIn numberIn WORDS NAME P Lex)
open Ma (isK TokOk tokS tokX Lx over_)
structure Tq (K : PySem.W.Frag) (mg : Str → Option Value) : Prop where
  zero_ : GT K mg "ZERO" [.int 0, .int 1]
  one_ : GT K mg "ONE" [.int 1, .int 1]
theorem sz0 : Ma.Sz 60 0 := ⟨by decide, by decide⟩
theorem sz1 : Ma.Sz 60 1 := ⟨by decide, by decide⟩
section
variable {w : World} {K : PySem.W.Frag} {mg : Str → Option Value} {base : Heap} {CN CF CR : Addr}
theorem sc_rcur : FnScope ["reader", "radius"] ["reader"] (defScope s_read_curve) := ⟨rfl, rfl, rfl, by decide +kernel, rfl, by decide +kernel, by decide +kernel⟩
theorem ok_rcur {f : Addr} {fd : FuncData} (F : Fun K "read_curve" "read_curve" s_read_curve f fd) (T : Tr K mg CN CF CR) (Z : Tq K mg) (D : Rdr w K mg base CR CF) (Dv : Def prog w K mg base 10 "read_value" ["reader"] (spM K CR CF Ma.rValue (Rq K))) (Db : Def prog w K mg base 5 "refuse_number_before" ["reader", "refused", "behind"] (spBefore K CR CF)) (Do : Def prog w K mg base 3 "over" ["x", "y"] (sp2 K BigQ fun p q => p / q)) :
    FnOk prog w K mg base (cxX prog w) 11 f fd ["reader"] (spM K CR CF Ma.rCurve (Rq K)) := by
  refine F.okX sc_rcur (fun vs H Q E h => ?_) (fun cdv A outer s H vs Q E hr h => ?_)
  · obtain ⟨G, r, b, p, rfl, _⟩ := h; rfl
  · obtain ⟨G, r, b, p, rfl, sm, hR, kk⟩ := h
    have hr1 := hr.mono (show 1 ≤ 10 by decide)
    have hr3 := hr.mono (show 3 ≤ 10 by decide)
    have hr4 := hr.mono (show 4 ≤ 10 by decide)
    have hr5 := hr.mono (show 5 ≤ 10 by decide)
    have hr6 := hr.mono (show 6 ≤ 10 by decide)
    obtain ⟨aZ, mZ, hZ⟩ := Z.zero_
    obtain ⟨aO, mO, hO⟩ := Z.one_
    refine ⟨_, pss_cons (ps_expr (pmr D.expect T.cl hr4 pass_cx (pv 0) (pa_cons (pe_tup (pa_cons pe_str (pa_cons pe_str (pa_cons pe_str pa_nil)))) pa_nil)))
      (pss_cons (ps_if (pt_val (pmr D.sees T.cl hr1 pass_cx (pv 0) (pa_cons pe_str pa_nil))) (pss_cons (ps_expr (pmr0 D.step T.cl hr6 pass_cx (pv 0))) (pss_one (ps_ret (pe_glob (v := .ref aZ) (by rfl) mZ rfl)))) pss_nil)
      (pss_cons (ps_if (pt_val (pmr D.sees T.cl hr1 pass_cx (pv 0) (pa_cons pe_str pa_nil))) (pss_cons (ps_expr (pmr0 D.step T.cl hr6 pass_cx (pv 0))) (pss_one (ps_ret (pe_def Dv hr pass_cx (pa_cons (pv 0) pa_nil))))) pss_nil)
      (pss_cons (ps_expr (pmr0 D.step T.cl hr6 pass_cx (pv 0)))
      (pss_cons (ps_set (i := 1) sc_rcur.nd rfl (Or.inl rfl) (pe_def Dv hr pass_cx (pa_cons (pv 0) pa_nil)))
      (pss_cons (ps_expr (pe_def Db hr5 pass_cx (pa_cons (pv 0) (pa_cons (pe_cmpR op_eq (px 1 (pv 1)) pe_int (nomark _)) (pa_cons (pe_tup (pa_cons pe_str (pa_cons pe_str (pa_cons pe_str pa_nil)))) pa_nil)))))
      (pss_one (ps_ret (pe_def Do hr3 pass_cx (pa_cons (pe_glob (v := .ref aO) (by rfl) mO rfl) (pa_cons (pv 1) pa_nil)))))))))), ?_⟩
    refine ⟨r, rfl, hR.m m4, (by show 3 ≤ sizeLine; decide), fun q hq => ?_⟩
    have e1 : Ext [] G H _ _ := (Ext.refl sm).lay hq (o := .tup [.str "flat", .str "curve", .str "radius"])
    have hR1 := hR.ext e1 (by simp)
    replace kk := kk.later (k := Ma.rCurve) (p1 := p) rfl (e1.up (M := [r]))
    unfold Ma.rCurve at kk
    refine ⟨_, r, b, p, q, [.w "flat", .w "curve", .w "radius"], rfl, e1.sub, hR1, .of upd_same, (by decide +kernel), kk.expect fun hb1 hany k1 => ?_⟩
    replace k1 := k1.sees
    generalize upd G q (.tup [.str "flat", .str "curve", .str "radius"]) = G1 at e1 hR1 k1
    generalize upd H q (.tup [.str "flat", .str "curve", .str "radius"]) = H1 at e1 hR1 k1
    refine ⟨r, rfl, hR1.m m1, G1, r, b, p, .w "flat", rfl, (by decide +kernel), e1.sub, hR1, _, rfl, if_bl (fun hf => ?_) (fun hf => ?_)⟩
    · rw [hf, if_pos rfl] at k1
      refine ⟨r, rfl, hR1.m m5, G1, r, b, p, rfl, e1.sub, hR1, fun G2 H2 e2 hR2 => ?_⟩
      have k2 := k1.pass (over_of (k := .w "flat") (by decide +kernel) hf) e2
      exact PQ.done (v := .ref aZ) e2.sub hR2 k2 ⟨⟨aZ, rfl, hZ _⟩, sz0⟩
    rw [hf, if_neg (by decide)] at k1
    replace k1 := k1.sees
    refine ⟨r, rfl, hR1.m m1, G1, r, b, p, .w "curve", rfl, (by decide +kernel), e1.sub, hR1, _, rfl, if_bl (fun hc => ?_) (fun hc => ?_)⟩
    · rw [hc, if_pos rfl] at k1
      refine ⟨r, rfl, hR1.m m5, G1, r, b, p, rfl, e1.sub, hR1, fun G2 H2 e2 hR2 => ?_⟩
      have k2 := k1.pass (over_of (k := .w "curve") (by decide +kernel) hc) e2
      exact ⟨_, rfl, G2, r, b, _, rfl, e2.sub, hR2, k2⟩
    rw [hc, if_neg (by decide)] at k1
    have hrad : isK (.w "radius") (tokX b p).1 = true := by
      simp only [List.any_cons, List.any_nil, hf, hc, Bool.false_or, Bool.or_false] at hany
      exact hany
    refine ⟨r, rfl, hR1.m m5, G1, r, b, p, rfl, e1.sub, hR1, fun G2 H2 e2 hR2 => ?_⟩
    have k2 := k1.pass (over_of (k := .w "radius") (by decide +kernel) hrad) e2
    refine ⟨_, rfl, G2, r, b, _, rfl, e2.sub, hR2, k2.bind fun ρ v G3 H3 p3 _ e3 hR3 hv k3 => ?_⟩
    obtain ⟨⟨u, rfl, hu⟩, hsz⟩ := hv
    refine ⟨_, rfl, u, _, _, rfl, e3.sub.seqT hu, rfl, rfl, (by show 3 ≤ sizeLine; decide), fun l hl => ?_⟩
    have e4 : Ext [] G3 H3 _ _ := (Ext.refl e3.sub).lay hl (o := .tup [.str "conic", .str "clear", .str ";"])
    have hR4 := hR3.ext e4 (by simp)
    have k4 := k3.later (p1 := p3) rfl (e4.up (M := [r]))
    refine ⟨_, r, b, p3, decide (ρ = 0), l, [.w "conic", .w "clear", .m 59], (by rw [← eq_zero]; rfl), e4.sub, hR4, .of upd_same, (by decide +kernel), k4.before fun _ _ hbad k5 => ?_⟩
    have h0 : ρ ≠ 0 := of_decide_eq_false hbad
    refine ⟨_, rfl, _, _, _, 1, ρ, rfl, e4.sub, ⟨aO, rfl, hO _⟩, ⟨u, rfl, e4.grow.seqT hu⟩, ⟨sz1.mono (by decide), hsz.mono (by decide), h0⟩, fun v6 G6 H6 e6 f6 => ?_⟩
    exact PQ.done e6.sub (hR4.ext e6 (by simp)) (k5.later rfl e6.up) ⟨f6, sz_inv hsz h0⟩
theorem sc_rcon : FnScope ["reader"] ["reader"] (defScope s_read_conic) := ⟨rfl, rfl, rfl, by decide +kernel, rfl, by decide +kernel, by decide +kernel⟩
theorem ok_rcon {f : Addr} {fd : FuncData} (F : Fun K "read_conic" "read_conic" s_read_conic f fd) (T : Tr K mg CN CF CR) (Z : Tq K mg) (D : Rdr w K mg base CR CF) (Dv : Def prog w K mg base 10 "read_value" ["reader"] (spM K CR CF Ma.rValue (Rq K))) :
    FnOk prog w K mg base (cxX prog w) 11 f fd ["reader"] (spM K CR CF Ma.rConic (Rq K)) := by
  refine F.okX sc_rcon (fun vs H Q E h => ?_) (fun cdv A outer s H vs Q E hr h => ?_)
  · obtain ⟨G, r, b, p, rfl, _⟩ := h; rfl
  · obtain ⟨G, r, b, p, rfl, sm, hR, kk⟩ := h
    have hr1 := hr.mono (show 1 ≤ 10 by decide)
    have hr6 := hr.mono (show 6 ≤ 10 by decide)
    obtain ⟨aZ, mZ, hZ⟩ := Z.zero_
    refine ⟨_, pss_cons (ps_if (pt_not (pt_val (pmr D.sees T.cl hr1 pass_cx (pv 0) (pa_cons pe_str pa_nil)))) (pss_one (ps_ret (pe_glob (v := .ref aZ) (by rfl) mZ rfl))) pss_nil)
      (pss_cons (ps_expr (pmr0 D.step T.cl hr6 pass_cx (pv 0))) (pss_one (ps_ret (pe_def Dv hr pass_cx (pa_cons (pv 0) pa_nil))))), ?_⟩
    unfold Ma.rConic at kk
    replace kk := kk.sees
    refine ⟨r, rfl, hR.m m1, G, r, b, p, .w "conic", rfl, (by decide +kernel), sm, hR, _, rfl, ?_⟩
    cases hs : isK (.w "conic") (tokX b p).1 with
    | false =>
      rw [hs, if_pos rfl] at kk
      exact iteT (PQ.done (v := .ref aZ) sm hR kk ⟨⟨aZ, rfl, hZ _⟩, sz0⟩)
    | true =>
      rw [hs, if_neg (by decide)] at kk
      refine iteF ⟨r, rfl, hR.m m5, G, r, b, p, rfl, sm, hR, fun G1 H1 e1 hR1 => ?_⟩
      have k1 := kk.pass (over_of (k := .w "conic") (by decide +kernel) hs) e1
      exact ⟨_, rfl, G1, r, b, _, rfl, e1.sub, hR1, k1⟩
theorem sc_pclr : FnScope ["reader", "clear"] ["reader"] (defScope s_pass_clear) := ⟨rfl, rfl, rfl, by decide +kernel, rfl, by decide +kernel, by decide +kernel⟩
theorem ok_pclr {f : Addr} {fd : FuncData} (F : Fun K "pass_clear" "pass_clear" s_pass_clear f fd) (T : Tr K mg CN CF CR) (D : Rdr w K mg base CR CF) (Dn : Def prog w K mg base 9 "read_number" ["reader"] (spM K CR CF Ma.rNumber (Rq K))) (Db : Def prog w K mg base 5 "refuse_number_before" ["reader", "refused", "behind"] (spBefore K CR CF)) :
    FnOk prog w K mg base (cxX prog w) 10 f fd ["reader"] (spM K CR CF Ma.rClearO (fun _ v _ => v = .non)) := by
  refine F.okX sc_pclr (fun vs H Q E h => ?_) (fun cdv A outer s H vs Q E hr h => ?_)
  · obtain ⟨G, r, b, p, rfl, _⟩ := h; rfl
  · obtain ⟨G, r, b, p, rfl, sm, hR, kk⟩ := h
    have hr1 := hr.mono (show 1 ≤ 9 by decide)
    have hr5 := hr.mono (show 5 ≤ 9 by decide)
    have hr6 := hr.mono (show 6 ≤ 9 by decide)
    refine ⟨_, pss_one (ps_if (pt_val (pmr D.sees T.cl hr1 pass_cx (pv 0) (pa_cons pe_str pa_nil)))
      (pss_cons (ps_expr (pmr0 D.step T.cl hr6 pass_cx (pv 0))) (pss_cons (ps_set (i := 1) sc_pclr.nd rfl (Or.inl rfl) (pe_def Dn hr pass_cx (pa_cons (pv 0) pa_nil)))
      (pss_one (ps_expr (pe_def Db hr5 pass_cx (pa_cons (pv 0) (pa_cons (pe_cmpR op_eq (px 1 (pv 1)) pe_int (nomark _)) (pa_cons (pe_tup (pa_cons pe_str pa_nil)) pa_nil)))))))) pss_nil), ?_⟩
    unfold Ma.rClearO at kk
    replace kk := kk.sees
    refine ⟨r, rfl, hR.m m1, G, r, b, p, .w "clear", rfl, (by decide +kernel), sm, hR, _, rfl, if_bl (fun hs => ?_) (fun hs => ?_)⟩
    · rw [hs, if_pos rfl] at kk
      refine ⟨r, rfl, hR.m m5, G, r, b, p, rfl, sm, hR, fun G1 H1 e1 hR1 => ?_⟩
      have k1 := kk.pass (over_of (k := .w "clear") (by decide +kernel) hs) e1
      refine ⟨_, rfl, G1, r, b, _, rfl, e1.sub, hR1, k1.bind fun ρ v G3 H3 p3 _ e3 hR3 hv k3 => ?_⟩
      obtain ⟨⟨u, rfl, hu⟩, hsz⟩ := hv
      refine ⟨_, rfl, u, _, _, rfl, e3.sub.seqT hu, rfl, rfl, (by show 1 ≤ sizeLine; decide), fun l hl => ?_⟩
      have e4 : Ext [] G3 H3 _ _ := (Ext.refl e3.sub).lay hl (o := .tup [.str ";"])
      have hR4 := hR3.ext e4 (by simp)
      have k4 := k3.later (p1 := p3) rfl (e4.up (M := [r]))
      exact ⟨_, r, b, p3, decide (ρ = 0), l, [.m 59], (by rw [← eq_zero]; rfl), e4.sub, hR4, .of upd_same, (by decide +kernel), k4.before fun _ _ _ k5 => PQ.done e4.sub hR4 k5 rfl⟩
    · rw [hs, if_neg (by decide)] at kk
      exact PQ.done sm hR kk rfl
end
end Th
set_option maxHeartbeats 2000000
namespace Th
open PySem PySem.Spec PyProof.Rows L2
open Ln (Bytes Glass Elem System_ Kind)
open Ln.Text (isDigit natural isLetter isMark tokenIn numberIn WORDS NAME P Lex)
open Ma (isK TokOk tokS tokX Lx over_)
def key (b : Bytes) : List Key := (intsOf b).map Sum.inl
theorem key_V (b : Bytes) : (key b).map kV = bytesV b := by
  unfold key
  rw [List.map_map, bytesV_eq]; rfl
theorem key_inj {a b : Bytes} (h : key a = key b) : a = b := by
  refine ints_inj ?_
  have := congrArg (List.map kV) h
  rw [key_V, key_V, bytesV_eq, bytesV_eq] at this
  have key2 : ∀ {l m : List Int}, l.map V.int = m.map V.int → l = m := by
    intro l
    induction l with
    | nil => intro m h; cases m with
      | nil => rfl
      | cons => cases h
    | cons a l ih => intro m h; cases m with
      | nil => cases h
      | cons c m =>
        have := List.cons.inj h
        rw [V.int.inj this.1, ih this.2]
  exact key2 this
def Keys (kvs : List (List Key × V)) (ns : List Bytes) : Prop := kvs.map (·.1) = ns.map key
theorem Keys.some_iff : ∀ {kvs : List (List Key × V)} {ns : List Bytes}, Keys kvs ns → ∀ b : Bytes, (valV kvs (key b)).isSome = ns.any fun n => n == b
  | [], [], _, b => rfl
  | [], _ :: _, h, b => by cases h
  | _ :: _, [], h, b => by cases h
  | kv :: kvs, n :: ns, h, b => by
    have h' := List.cons.inj (show kv.1 :: kvs.map (·.1) = key n :: ns.map key from h)
    have ih := Keys.some_iff (kvs := kvs) (ns := ns) h'.2 b
    show (valV (kv :: kvs) (key b)).isSome = (n == b || ns.any fun n => n == b)
    by_cases e : n = b
    · rw [valV_pos (by rw [h'.1, e])]; simp [e]
    · rw [valV_neg (fun z => e (key_inj (h'.1.symm.trans z))), ih]; simp [e]
def Tri (K : PySem.W.Frag) (G : Hp) (v : V) (l : List Rat) : Prop := Tp K (Fr K) G v l
theorem Tri.mono {K : PySem.W.Frag} {G G' : Hp} {v : V} {l : List Rat} (s : Same G G') (h : Tri K G v l) : Tri K G' v l := Tp.mono Fr.mono _ _ _ _ s h
def GlAt (K : PySem.W.Frag) (G : Hp) (kvs : List (List Key × V)) (gl : List Glass) : Prop := Paired (fun (kv : List Key × V) (g : Glass) => kv.1 = key g.name ∧ Tri K G kv.2 g.index) kvs gl
theorem GlAt.mono {K : PySem.W.Frag} {G G' : Hp} {kvs : List (List Key × V)} {gl : List Glass} (s : Same G G') (h : GlAt K G kvs gl) : GlAt K G' kvs gl := Paired.map' (fun _ _ q => ⟨q.1, q.2.mono s⟩) h
theorem GlAt.keys {K : PySem.W.Frag} {G : Hp} : ∀ {kvs : List (List Key × V)} {gl : List Glass}, GlAt K G kvs gl → Keys kvs (gl.map (·.name))
  | _, _, .nil => rfl
  | kv :: kvs, g :: gl, .cons h t => by
    have ih : kvs.map (·.1) = (gl.map (·.name)).map key := GlAt.keys t
    show kv.1 :: kvs.map (·.1) = key g.name :: (gl.map (·.name)).map key
    rw [h.1, ih]
theorem GlAt.len {K : PySem.W.Frag} {G : Hp} {kvs : List (List Key × V)} {gl : List Glass} (h : GlAt K G kvs gl) : kvs.length = gl.length := Paired.length h
theorem GlAt.find {K : PySem.W.Frag} {G : Hp} : ∀ {kvs : List (List Key × V)} {gl : List Glass}, GlAt K G kvs gl → ∀ b : Bytes, match (gl.map fun (g : Glass) => g.name).idxOf? b with
    | some i => ∃ v, valV kvs (key b) = some v ∧ Tri K G v ((gl.map fun (g : Glass) => g.index).getD i [])
    | none => valV kvs (key b) = none
  | _, _, .nil, b => rfl
  | kv :: kvs, g :: gl, .cons h t, b => by
    have ih := GlAt.find t b
    rw [List.map_cons, List.idxOf?_cons]
    by_cases e : g.name = b
    · rw [if_pos (by simpa using e)]
      refine ⟨kv.2, valV_pos (by rw [h.1, e]), h.2⟩
    · rw [if_neg (by simpa using e)]
      have hv : valV (kv :: kvs) (key b) = valV kvs (key b) := valV_neg fun z => e (key_inj (h.1.symm.trans z))
      rw [hv]
      cases z : (gl.map fun (g : Glass) => g.name).idxOf? b with
      | none => rw [z] at ih; exact ih
      | some i => rw [z] at ih; exact ih
theorem newName_at (taken : Bytes → Bool) (b : Bytes) (p : Nat) : Ma.rNewName taken (Lx b p) = if (tokX b p).1 = .broken then .error (1, tokS b p) else match (tokX b p).1 with
    | .name nb => if taken nb = true then .error (3, tokS b p) else .ok (nb, Lx b (tokS b p + (tokX b p).2))
    | _ => .error (2, tokS b p) := by
  rw [Ma.Lx_eq b p]
  unfold Ma.rNewName
  dsimp only
  cases z : (tokX b p).1 with
  | name nb =>
    have : ¬ over_ (Ln.Text.Tok.name nb) = true := by intro q; cases q
    rw [if_neg this]
  | _ => rfl
theorem named_at (gl : List Glass) (b : Bytes) (p : Nat) : Ln.Text.glassNamed gl (Lx b p) = if (tokX b p).1 = .broken then .error (1, tokS b p) else match (tokX b p).1 with
    | .name nb => (match (gl.map fun (g : Glass) => g.name).idxOf? nb with
      | some i => .ok (i, Lx b (tokS b p + (tokX b p).2))
      | none => .error (4, tokS b p))
    | _ => .error (2, tokS b p) := by
  unfold Ln.Text.glassNamed
  rw [Ma.bind_run]
  conv => lhs; rw [Ma.Lx_eq b p, Ma.name_cons]
  dsimp only
  cases z : (tokX b p).1 with
  | name nb =>
    have : ¬ over_ (Ln.Text.Tok.name nb) = true := by intro q; cases q
    have h2 : ¬ Ln.Text.Tok.name nb = .broken := by intro q; cases q
    rw [if_neg h2, if_neg this, if_neg h2]
    dsimp only
    cases (gl.map fun (g : Glass) => g.name).idxOf? nb <;> rfl
  | broken => rfl
  | _ => rfl
theorem name_pc {b : Bytes} {p : Nat} {nb : Bytes} (h : (tokX b p).1 = .name nb) : pcAt b p = nb := (Ma.piece_name (c := b.drop (tokS b p)) h).1
theorem isK_name' {t : Ln.Text.Tok} (h : isK .name t = true) : ∃ nb, t = .name nb := by
  cases t with
  | name nb => exact ⟨nb, rfl⟩
  | num n k p => cases p <;> cases h
  | _ => cases h
structure Tn (K : PySem.W.Frag) (mg : Str → Option Value) (CN CF CR : Addr) : Prop extends Tr K mg CN CF CR where
  tuple_ : mg "tuple" = none
section
variable {w : World} {K : PySem.W.Frag} {mg : Str → Option Value} {base : Heap} {CN CF CR : Addr}
def Bt (G : Hp) (v : V) (b : Bytes) : Prop := ∃ t, v = .ref t ∧ G t = some (.tup (bytesV b))
theorem Own.ne {G H : Hp} {p q : Addr} {o u : HO} (a : Own G H p o) (b : Own G H q u) (h : o ≠ u) : p ≠ q := ne_of a.at_ b.at_ h
theorem RdAt.nd {G H : Hp} {r d : Addr} {b : Bytes} {p : Nat} {kvs : List (List Key × V)} (h : RdAt K CR G H r b p) (o : Own G H d (.dT kvs)) : d ≠ r := by
  obtain ⟨_, dx, t, tk, ho, _, _⟩ := h
  exact Own.ne o ho (by intro z; cases z)
def spNewName (K : PySem.W.Frag) (CR CF : Addr) : Sp := fun vs H Q E => ∃ (G : Hp) (r : Addr) (b : Bytes) (p : Nat) (d : Addr) (kvs : List (List Key × V)) (ns : List Bytes), vs = [.ref r, .ref d] ∧ Same G H ∧ RdAt K CR G H r b p ∧ Own G H d (.dT kvs) ∧ Keys kvs ns ∧ PQ K CR CF (Ma.rNewName fun b => ns.any fun n => n == b) Bt G H r b p Q E
theorem sc_rnn : FnScope ["reader", "names"] ["reader", "names"] (defScope s_read_new_name) := ⟨rfl, rfl, rfl, by decide +kernel, rfl, by decide +kernel, by decide +kernel⟩
theorem ok_rnn {f : Addr} {fd : FuncData} (F : Fun K "read_new_name" "read_new_name" s_read_new_name f fd) (T : Tn K mg CN CF CR) (D : Rdr w K mg base CR CF) : FnOk prog w K mg base (cxX prog w) 8 f fd ["reader", "names"] (spNewName K CR CF) := by
  refine F.okX sc_rnn (fun vs H Q E h => ?_) (fun cdv A outer s H vs Q E hr h => ?_)
  · obtain ⟨G, r, b, p, d, kvs, ns, rfl, _⟩ := h; rfl
  · obtain ⟨G, r, b, p, d, kvs, ns, rfl, sm, hR, ho, hk, kk⟩ := h
    have hr1 := hr.mono (show 1 ≤ 7 by decide)
    have hr3 := hr.mono (show 3 ≤ 7 by decide)
    have hr4 := hr.mono (show 4 ≤ 7 by decide)
    have hu := hu_of hr
    refine ⟨_, pss_cons (ps_expr (pmr D.expect T.cl hr4 pass_cx (pv 0) (pa_cons (pe_tup (pa_cons pe_str pa_nil)) pa_nil)))
      (pss_cons (ps_if (pt_cmp (pc_din hu (pe_callTy call_tuple_of (by rfl) T.tuple_ boot_tuple (pa_cons (pmr0 D.piece T.cl hr1 pass_cx (pv 0)) pa_nil)) (pv 1))) (pss_one (ps_expr (pmr D.refuse T.cl hr3 pass_cx (pv 0) (pa_cons (pgi T.k3) pa_nil)))) pss_nil)
      (pss_one (ps_ret (pe_callTy call_tuple_of (by rfl) T.tuple_ boot_tuple (pa_cons (pmr D.take T.cl hr pass_cx (pv 0) (pa_cons pe_str pa_nil)) pa_nil))))), ?_⟩
    refine ⟨r, rfl, hR.m m4, (by show 1 ≤ sizeLine; decide), fun q hq => ?_⟩
    have e1 : Ext [] G H _ _ := (Ext.refl sm).lay hq (o := .tup [.str "name"])
    have hR1 := hR.ext e1 (by simp)
    have ho1 := ho.ext e1 (by simp)
    replace kk := kk.later (k := Ma.rNewName fun b => ns.any fun n => n == b) (p1 := p) rfl (e1.up (M := [r]))
    refine ⟨_, r, b, p, q, [.name], rfl, e1.sub, hR1, .of upd_same, (by decide +kernel), ?_⟩
    generalize upd G q (.tup [.str "name"]) = G1 at e1 hR1 ho1 kk
    generalize upd H q (.tup [.str "name"]) = H1 at e1 hR1 ho1 kk
    unfold PQ at kk
    rw [newName_at] at kk
    rw [expect_at]
    by_cases hb : (tokX b p).1 = .broken
    · rw [if_pos hb] at kk ⊢; exact kk
    rw [if_neg hb] at kk ⊢
    have ea : ([Ma.K.name].any fun k => isK k (tokX b p).1) = isK .name (tokX b p).1 := by simp
    rw [ea]
    cases hz : isK .name (tokX b p).1 with
    | false =>
      rw [if_neg (by decide)]
      cases ht : (tokX b p).1 with
      | name nb => rw [ht] at hz; cases hz
      | _ => rw [ht] at kk; exact kk
    | true =>
    rw [if_pos rfl]
    obtain ⟨nb, ht⟩ := isK_name' hz
    rw [ht] at kk
    dsimp only at kk
    have hpc := name_pc ht
    refine ⟨r, rfl, hR1.m m2, G1, r, b, p, rfl, e1.sub, hR1, fun v G2 H2 e2 hv => ?_⟩
    rw [hpc] at hv
    obtain ⟨u, rfl, hu2⟩ := hv
    refine ⟨u, _, rfl, .inl ⟨SqL.of (e2.sub _ _ hu2), fun l hl => ?_⟩⟩
    have e3 := e2.lay hl (o := .tup (bytesV nb))
    have hR3 := hR1.ext e3 (by simp)
    have ho3 := ho1.ext e3 (by simp)
    refine ⟨_, rfl, d, _, rfl, DGet.t (k := key nb) ho3.at_ (by rw [key_V]; exact upd_same), _, rfl, ?_⟩
    rw [hk.some_iff nb]
    refine if_bl (fun hin => ?_) (fun hin => ?_)
    · rw [hin, if_pos rfl] at kk
      exact ⟨r, rfl, hR3.m m3, _, r, b, p, 3, rfl, e3.sub, hR3, kk⟩
    · rw [hin, if_neg (by decide)] at kk
      refine ⟨r, rfl, hR3.m m6, _, r, b, p, .name, rfl, e3.sub, hR3, (by decide +kernel), ?_⟩
      rw [takeK_at .name b p (take_over (by decide +kernel)), if_neg hb, hz, if_pos rfl]
      intro v4 G4 H4 e4 hR4 hv4
      rw [hpc] at hv4
      obtain ⟨u4, rfl, hu4⟩ := hv4
      refine ⟨u4, _, rfl, .inl ⟨SqL.of (e4.sub _ _ hu4), fun l5 hl5 => ?_⟩⟩
      have e5 := e4.lay hl5 (o := .tup (bytesV nb))
      have e15 : Ext [r] G1 H1 _ _ := (e3.up (M := [r])).trans e5
      have e45 : Ext [] G4 H4 _ _ := (Ext.refl e4.sub).lay hl5 (o := .tup (bytesV nb))
      exact kk _ _ _ _ rfl e15 (hR4.ext e45 (by simp)) ⟨l5, rfl, upd_same⟩
def spKnown (K : PySem.W.Frag) (CR CF : Addr) : Sp := fun vs H Q E => ∃ (G : Hp) (r : Addr) (b : Bytes) (p : Nat) (d : Addr) (kvs : List (List Key × V)) (gl : List Glass), vs = [.ref r, .ref d] ∧ Same G H ∧ RdAt K CR G H r b p ∧ Own G H d (.dT kvs) ∧ GlAt K G kvs gl ∧ PQ K CR CF (Ln.Text.glassNamed gl) (fun G v m => Tri K G v ((gl.map fun (g : Glass) => g.index).getD m [])) G H r b p Q E
theorem sc_rkg : FnScope ["reader", "glasses"] ["reader", "glasses"] (defScope s_read_known_glass) := ⟨rfl, rfl, rfl, by decide +kernel, rfl, by decide +kernel, by decide +kernel⟩
theorem ok_rkg {f : Addr} {fd : FuncData} (F : Fun K "read_known_glass" "read_known_glass" s_read_known_glass f fd) (T : Tn K mg CN CF CR) (D : Rdr w K mg base CR CF) : FnOk prog w K mg base (cxX prog w) 8 f fd ["reader", "glasses"] (spKnown K CR CF) := by
  refine F.okX sc_rkg (fun vs H Q E h => ?_) (fun cdv A outer s H vs Q E hr h => ?_)
  · obtain ⟨G, r, b, p, d, kvs, ns, rfl, _⟩ := h; rfl
  · obtain ⟨G, r, b, p, d, kvs, gl, rfl, sm, hR, ho, hk, kk⟩ := h
    have hr1 := hr.mono (show 1 ≤ 7 by decide)
    have hr3 := hr.mono (show 3 ≤ 7 by decide)
    have hr4 := hr.mono (show 4 ≤ 7 by decide)
    have hu := hu_of hr
    refine ⟨_, pss_cons (ps_expr (pmr D.expect T.cl hr4 pass_cx (pv 0) (pa_cons (pe_tup (pa_cons pe_str pa_nil)) pa_nil)))
      (pss_cons (ps_if (pt_cmp (pc_dnotin hu (pe_callTy call_tuple_of (by rfl) T.tuple_ boot_tuple (pa_cons (pmr0 D.piece T.cl hr1 pass_cx (pv 0)) pa_nil)) (pv 1))) (pss_one (ps_expr (pmr D.refuse T.cl hr3 pass_cx (pv 0) (pa_cons (pgi T.k4) pa_nil)))) pss_nil)
      (pss_one (ps_ret (pe_dget hu (pv 1) (pe_callTy call_tuple_of (by rfl) T.tuple_ boot_tuple (pa_cons (pmr D.take T.cl hr pass_cx (pv 0) (pa_cons pe_str pa_nil)) pa_nil)) (fun _ _ => rfl))))), ?_⟩
    refine ⟨r, rfl, hR.m m4, (by show 1 ≤ sizeLine; decide), fun q hq => ?_⟩
    have e1 : Ext [] G H _ _ := (Ext.refl sm).lay hq (o := .tup [.str "name"])
    have hR1 := hR.ext e1 (by simp)
    have ho1 := ho.ext e1 (by simp)
    have hk1 := hk.mono e1.grow
    replace kk := kk.later (k := Ln.Text.glassNamed gl) (p1 := p) rfl (e1.up (M := [r]))
    refine ⟨_, r, b, p, q, [.name], rfl, e1.sub, hR1, .of upd_same, (by decide +kernel), ?_⟩
    generalize upd G q (.tup [.str "name"]) = G1 at e1 hR1 ho1 hk1 kk
    generalize upd H q (.tup [.str "name"]) = H1 at e1 hR1 ho1 kk
    unfold PQ at kk
    rw [named_at] at kk
    rw [expect_at]
    by_cases hb : (tokX b p).1 = .broken
    · rw [if_pos hb] at kk ⊢; exact kk
    rw [if_neg hb] at kk ⊢
    have ea : ([Ma.K.name].any fun k => isK k (tokX b p).1) = isK .name (tokX b p).1 := by simp
    rw [ea]
    cases hz : isK .name (tokX b p).1 with
    | false =>
      rw [if_neg (by decide)]
      cases ht : (tokX b p).1 with
      | name nb => rw [ht] at hz; cases hz
      | _ => rw [ht] at kk; exact kk
    | true =>
    rw [if_pos rfl]
    obtain ⟨nb, ht⟩ := isK_name' hz
    rw [ht] at kk
    dsimp only at kk
    have hpc := name_pc ht
    have hfind := hk1.find nb
    refine ⟨r, rfl, hR1.m m2, G1, r, b, p, rfl, e1.sub, hR1, fun v G2 H2 e2 hv => ?_⟩
    rw [hpc] at hv
    obtain ⟨u, rfl, hu2⟩ := hv
    refine ⟨u, _, rfl, .inl ⟨SqL.of (e2.sub _ _ hu2), fun l hl => ?_⟩⟩
    have e3 := e2.lay hl (o := .tup (bytesV nb))
    have hR3 := hR1.ext e3 (by simp)
    have ho3 := ho1.ext e3 (by simp)
    refine ⟨_, rfl, d, _, rfl, DGet.t (k := key nb) ho3.at_ (by rw [key_V]; exact upd_same), _, rfl, ?_⟩
    cases hx : (gl.map fun (g : Glass) => g.name).idxOf? nb with
    | none =>
      rw [hx] at hfind kk
      dsimp only at hfind kk
      rw [hfind]
      exact iteT ⟨r, rfl, hR3.m m3, _, r, b, p, 4, rfl, e3.sub, hR3, kk⟩
    | some i =>
      rw [hx] at hfind kk
      dsimp only at hfind kk
      obtain ⟨val, hval, htri⟩ := hfind
      rw [hval]
      refine iteF ⟨_, rfl, r, rfl, hR3.m m6, _, r, b, p, .name, rfl, e3.sub, hR3, (by decide +kernel), ?_⟩
      rw [takeK_at .name b p (take_over (by decide +kernel)), if_neg hb, hz, if_pos rfl]
      intro v4 G4 H4 e4 hR4 hv4
      rw [hpc] at hv4
      obtain ⟨u4, rfl, hu4⟩ := hv4
      refine ⟨u4, _, rfl, .inl ⟨SqL.of (e4.sub _ _ hu4), fun l5 hl5 => ?_⟩⟩
      have e5 := e4.lay hl5 (o := .tup (bytesV nb))
      have e15 : Ext [r] G1 H1 _ _ := (e3.up (M := [r])).trans e5
      have e45 : Ext [] G4 H4 _ _ := (Ext.refl e4.sub).lay hl5 (o := .tup (bytesV nb))
      have ndr : d ∉ [r] := by simpa using hR1.nd ho1
      have ho5 := ho1.ext e15 ndr
      refine ⟨d, val, rfl, ?_, kk _ _ _ _ rfl e15 (hR4.ext e45 (by simp)) (htri.mono e15.grow)⟩
      have := DGet.t (k := key nb) ho5.at_ (b := l5) (by rw [key_V]; exact upd_same)
      rw [hval] at this
      exact this
end
end Th
set_option maxHeartbeats 2000000
namespace Th
open PySem PySem.Spec PyProof.Rows L2
open Ln (Bytes Glass Elem System_ Kind)
open Ln.Text (isDigit natural isLetter isMark tokenIn numberIn WORDS NAME P Lex)
open Ma (isK TokOk tokS tokX Lx over_ GlOk)
section
variable {K : PySem.W.Frag} {CR CF : Addr} {α β : Type} {G H : Hp} {r : Addr} {b : Bytes} {p : Nat} {E : XK} {C : β → Nat → Prop}
def PK (CF : Addr) (m : P β) (C : β → Nat → Prop) (b : Bytes) (p : Nat) (E : XK) : Prop := match m (Lx b p) with
  | .ok (a, l') => ∀ p', l' = Lx b p' → C a p'
  | .error e => Errs CF E e
theorem PK.later {m k : P β} {p1 : Nat} (h : PK CF m C b p E) (hm : m (Lx b p) = k (Lx b p1)) : PK CF k C b p1 E := by
  unfold PK at h ⊢
  rw [hm] at h; exact h
theorem PK.call {m : P α} {k : α → P β} {R1 : Hp → V → α → Prop} {Q1 : VK} (h : PK CF (m >>= k) C b p E)
    (cont : ∀ a v G1 H1 p1, m (Lx b p) = .ok (a, Lx b p1) → Ext [r] G H G1 H1 → RdAt K CR G1 H1 r b p1 → R1 G1 v a → PK CF (k a) C b p1 E → Q1 v H1) : PQ K CR CF m R1 G H r b p Q1 E := by
  have hb := Ma.bind_run m k (Lx b p)
  unfold PQ
  cases z : m (Lx b p) with
  | error e =>
    rw [z] at hb
    unfold PK at h
    rw [hb] at h; exact h
  | ok x =>
    obtain ⟨a, l'⟩ := x
    rw [z] at hb
    intro v G' H' p' hl e hR hr
    have hl' : l' = Lx b p' := hl
    subst hl'
    exact cont a v G' H' p' z e hR hr (h.later hb)
theorem PK.done {a : β} (h : PK CF (pure a) C b p E) : C a p := h p rfl
theorem PK.take {k : Ma.K} {f : Ln.Text.Tok → P β} {Q1 : VK} (hk : k ∈ takeKs) (h : PK CF (Ma.takeK k >>= f) C b p E)
    (cont : ∀ v G1 H1, isK k (tokX b p).1 = true → Ext [r] G H G1 H1 → RdAt K CR G1 H1 r b (tokS b p + (tokX b p).2) → Bl G1 v (pcAt b p) → PK CF (f (tokX b p).1) C b (tokS b p + (tokX b p).2) E → Q1 v H1) : match Ma.takeK k (Lx b p) with
      | .ok _ => ∀ v G' H', Ext [r] G H G' H' → RdAt K CR G' H' r b (tokS b p + (tokX b p).2) → Bl G' v (pcAt b p) → Q1 v H'
      | .error e => Errs CF E e := by
  have hb := Ma.bind_run (Ma.takeK k) f (Lx b p)
  have ha := takeK_at k b p (take_over hk)
  by_cases h1 : (tokX b p).1 = .broken
  · rw [if_pos h1] at ha
    rw [ha] at hb ⊢
    unfold PK at h
    rw [hb] at h; exact h
  · rw [if_neg h1] at ha
    by_cases h2 : isK k (tokX b p).1 = true
    · rw [if_pos h2] at ha
      rw [ha] at hb ⊢
      exact fun v G' H' e hR hv => cont v G' H' h2 e hR hv (h.later hb)
    · rw [if_neg h2] at ha
      rw [ha] at hb ⊢
      unfold PK at h
      rw [hb] at h; exact h
theorem PK.pass {f : Unit → P β} (hn : over_ (tokX b p).1 = false) (h : PK CF (Ln.Text.pass >>= f) C b p E) : PK CF (f ()) C b (tokS b p + (tokX b p).2) E := by
  refine h.later ?_
  rw [Ma.bind_run, Ma.pass_run]
  dsimp only
  rw [Ma.Lx_eq b p, hn, if_neg (by decide)]; rfl
theorem PK.refuse {n : Nat} (h : PK CF (Ma.refuse n : P β) C b p E) : Errs CF E (n, tokS b p) := by
  unfold PK at h
  have e : (Ma.refuse n : P β) (Lx b p) = .error (n, tokS b p) := by rw [Ma.Lx_eq]; rfl
  rw [e] at h; exact h
end
theorem newName_ok {taken : Bytes → Bool} {l l' : List Lex} {nb : Bytes} (h : Ma.rNewName taken l = .ok (nb, l')) : taken nb = false := by
  unfold Ma.rNewName at h
  split at h
  · split at h
    · cases h
    · split at h
      · split at h
        · cases h
        · rename_i hf
          cases h
          simpa using hf
      · cases h
  · cases h
def idx (n : Bytes) : List UInt8 → List Rat → P Glass
  | [], acc => pure ⟨n, acc⟩
  | m :: ms, acc => Ma.rIndex m >>= fun q => idx n ms (acc ++ [q])
def gmarks : List UInt8 := [44, 44, 59]
theorem gm_all : ∀ c ∈ gmarks, c ∈ markB := by decide +kernel
theorem rGlass_idx (l : List Glass) (hl : l.length ≠ 64) : Ma.rGlass l = (Ln.Text.pass >>= fun _ => Ma.rNewName (Ma.takenG l) >>= fun n => Ma.takeK (.m 58) >>= fun _ => idx n gmarks []) := by
  unfold Ma.rGlass
  rw [if_neg hl]; rfl
theorem takenG_eq (gl : List Glass) : Ma.takenG gl = fun b => (gl.map (·.name)).any fun n => n == b := by
  funext b
  unfold Ma.takenG
  rw [List.any_map]; rfl
section
variable {w : World} {K : PySem.W.Frag} {mg : Str → Option Value} {base : Heap} {CN CF CR : Addr}
def spGlass (K : PySem.W.Frag) (CR CF : Addr) : Sp := fun vs H Q E => ∃ (G : Hp) (r : Addr) (b : Bytes) (p : Nat) (d : Addr) (kvs : List (List Key × V)) (gl : List Glass), vs = [.ref r, .ref d] ∧ Same G H ∧ RdAt K CR G H r b p ∧ Own G H d (.dT kvs) ∧ GlAt K G kvs gl ∧ GlOk gl ∧ gl.length ≤ 64 ∧ isK (.w "glass") (tokX b p).1 = true ∧
  PK CF (Ma.rGlass gl) (fun g p' => gl.length < 64 → ∀ G' H' kvs', Ext [r, d] G H G' H' → RdAt K CR G' H' r b p' → Own G' H' d (.dT kvs') → GlAt K G' kvs' (gl ++ [g]) → GlOk (gl ++ [g]) → Q .non H') b p E
theorem sc_rgl : FnScope ["reader", "glasses", "name", "indices", "mark"] ["reader", "glasses"] (defScope s_read_glass) := ⟨rfl, rfl, rfl, by decide +kernel, rfl, by decide +kernel, by decide +kernel⟩
theorem Ext.two {r d : Addr} {G H G1 H1 : Hp} (e : Ext [r] G H G1 H1) : Ext [r, d] G H G1 H1 := e.mono fun b hb => by rw [List.mem_singleton.mp hb]; simp
theorem ok_rgl {f : Addr} {fd : FuncData} (F : Fun K "read_glass" "read_glass" s_read_glass f fd) (T : Tn K mg CN CF CR) (D : Rdr w K mg base CR CF) (Dn : Def prog w K mg base 8 "read_new_name" ["reader", "names"] (spNewName K CR CF)) (Di : Def prog w K mg base 10 "read_index" ["reader", "mark"] (spIndex K CR CF)) :
    FnOk prog w K mg base (cxX prog w) 11 f fd ["reader", "glasses"] (spGlass K CR CF) := by
  refine F.okX sc_rgl (fun vs H Q E h => ?_) (fun cdv A outer s H vs Q E hr h => ?_)
  · obtain ⟨G, r, b, p, d, kvs, gl, rfl, _⟩ := h; rfl
  · obtain ⟨G, r, b, p, d, kvs, gl, rfl, sm, hR, ho, hg, hok, hle, hgl, kk⟩ := h
    have hr3 := hr.mono (show 3 ≤ 10 by decide)
    have hr6 := hr.mono (show 6 ≤ 10 by decide)
    have hr7 := hr.mono (show 7 ≤ 10 by decide)
    have hr8 := hr.mono (show 8 ≤ 10 by decide)
    have hu := hu_of hr
    refine ⟨_, pss_cons (ps_if (pt_cmpR op_eq (pe_callB call_lenT (by rfl) T.len_ boot_len (pa_cons (pv 1) pa_nil)) (pgi T.most64_) (nomark _)) (pss_one (ps_expr (pmr D.refuse T.cl hr3 pass_cx (pv 0) (pa_cons (pgi T.k5) pa_nil)))) pss_nil)
      (pss_cons (ps_expr (pmr0 D.step T.cl hr6 pass_cx (pv 0)))
      (pss_cons (ps_set (i := 2) sc_rgl.nd rfl (Or.inl rfl) (pe_def Dn hr8 pass_cx (pa_cons (pv 0) (pa_cons (pv 1) pa_nil))))
      (pss_cons (ps_expr (pmr D.take T.cl hr7 pass_cx (pv 0) (pa_cons pe_str pa_nil)))
      (pss_cons (ps_set (i := 3) sc_rgl.nd rfl (Or.inl rfl) (pe_lst pa_nil))
      (pss_cons (ps_for own_cx rfl (pi_tup (pe_tup (pa_cons pe_str (pa_cons pe_str (pa_cons pe_str pa_nil))))) (pg_name (i := 4) sc_rgl.nd rfl (Or.inl rfl)) (pss_one (ps_expr (pe_bm PySem.F.plainAttrs_list PySem.F.slot_list_append PySem.F.type_list_append mt_append (pv 3) (pa_cons (pe_def Di hr pass_cx (pa_cons (pv 0) (pa_cons (pv 4) pa_nil))) pa_nil)))))
      (pss_one (ps_dput hu (pv 1) (pv 2) (pe_callTy call_tuple_of (by rfl) T.tuple_ boot_tuple (pa_cons (pv 3) pa_nil)) rfl))))))), ?_⟩
    have ndr : d ≠ r := hR.nd ho
    refine ⟨_, rfl, d, _, rfl, ho.at_, rfl, _, rfl, if_eqI (fun h1 => ?_) (fun h1 => ?_)⟩
    · rw [hg.len] at h1
      unfold Ma.rGlass at kk
      rw [if_pos (by omega)] at kk
      exact ⟨r, rfl, hR.m m3, G, r, b, p, 5, rfl, sm, hR, kk.refuse⟩
    have h1' : gl.length ≠ 64 := by rw [hg.len] at h1; omega
    rw [rGlass_idx gl h1'] at kk
    refine ⟨r, rfl, hR.m m5, G, r, b, p, rfl, sm, hR, fun G1 H1 e1 hR1 => ?_⟩
    have k1 := kk.pass (over_of (k := .w "glass") (by decide +kernel) hgl)
    have ho1 := ho.ext e1 (by simpa using ndr)
    have hg1 := hg.mono e1.grow
    rw [takenG_eq] at k1
    refine ⟨_, rfl, _, rfl, G1, r, b, _, d, kvs, gl.map (·.name), rfl, e1.sub, hR1, ho1, hg1.keys, k1.call fun nb v G2 H2 p2 hm2 e2 hR2 hv k2 => ?_⟩
    obtain ⟨tn, rfl, htn⟩ := hv
    have e12 := e1.trans e2
    have ho2 := ho.ext e12 (by simpa using ndr)
    refine ⟨r, rfl, hR2.m m6, G2, r, b, p2, .m 58, rfl, e2.sub, hR2, (by decide +kernel), k2.take (by decide +kernel) fun v3 G3 H3 _ e3 hR3 _ k3 => ?_⟩
    have e13 := e12.trans e3
    refine ⟨(by show 0 ≤ sizeLine; decide), fun L hL => ?_⟩
    have hL0 : H L = none := e13.none_of hL
    have e4 := e13.lend hL (o := .lst [])
    have e34 : Ext [] G3 H3 G3 (upd H3 L (.lst [])) := (Ext.refl e3.sub).lend hL
    have hR4 := hR3.ext e34 (by simp)
    have oL : Own G3 (upd H3 L (.lst [])) L (.lst []) := Own.new e3.sub hL
    refine ⟨(by show 3 ≤ sizeLine; decide), fun t0 ht0 => ?_⟩
    have e5 := e4.lay ht0 (o := .tup [.str ",", .str ",", .str ";"])
    have e45 : Ext [] G3 (upd H3 L (.lst [])) _ _ := (Ext.refl e34.sub).lay ht0 (o := .tup [.str ",", .str ",", .str ";"])
    have hR5 := hR4.ext e45 (by simp)
    have oL5 := oL.ext e45 (by simp)
    have hT0 : upd G3 t0 (.tup [.str ",", .str ",", .str ";"]) t0 = some (.tup [.str ",", .str ",", .str ";"]) := upd_same
    have htn5 : upd G3 t0 (.tup [.str ",", .str ",", .str ";"]) tn = some (.tup (bytesV nb)) := e45.grow _ _ (e3.grow _ _ htn)
    generalize upd G3 t0 (.tup [.str ",", .str ",", .str ";"]) = G5 at e5 e45 hR5 oL5 hT0 htn5
    generalize upd (upd H3 L (.lst [])) t0 (.tup [.str ",", .str ",", .str ";"]) = H5 at e5 e45 hR5 oL5
    have xs3 : (gmarks.map fun c => V.str (strK (.m c))) = [.str ",", .str ",", .str ";"] := by rfl
    refine ⟨t0, rfl, ⟨_, SqT.of (e5.sub _ _ hT0)⟩, for_tup (K := K) (a := t0) (xs := gmarks.map fun c => V.str (strK (.m c)))
      (fun i σ H' => ∃ (G' : Hp) (p' : Nat) (r4 : Option V) (vs : List V) (qs : List Rat), σ = [some (.ref r), some (.ref d), some (.ref tn), some (.ref L), r4] ∧ Ext [r] G H G' H' ∧ Same G5 G' ∧ RdAt K CR G' H' r b p' ∧ Own G' H' L (.lst vs) ∧ Paired (Fr K G') vs qs ∧ (∀ q ∈ qs, 1 ≤ q ∧ Ma.Sz 60 q) ∧ qs.length = i ∧ PK CF (idx nb (gmarks.drop i) qs) (fun g p' => gl.length < 64 → ∀ G' H' kvs', Ext [r, d] G H G' H' → RdAt K CR G' H' r b p' → Own G' H' d (.dT kvs') → GlAt K G' kvs' (gl ++ [g]) → GlOk (gl ++ [g]) → Q .non H') b p' E)
      ⟨G5, _, none, [], [], rfl, e5, Same.refl _, hR5, oL5, .nil, (by simp), rfl, k3⟩ (fun i σ H' _ ⟨G', _, _, _, _, _, e, s5, _⟩ => SqT.of (e.sub _ _ (s5 _ _ (by rw [xs3]; exact hT0)))) ?_ ?_⟩
    · rintro i x σ H' hx ⟨G', p', r4, vs, qs, rfl, e6, s5, hR6, oL6, hp6, hq6, hl6, k6⟩
      rw [List.getElem?_map] at hx
      obtain ⟨c, hc, rfl⟩ : ∃ c, gmarks[i]? = some c ∧ x = V.str (strK (.m c)) := by
        cases q : gmarks[i]? with
        | none => rw [q] at hx; cases hx
        | some x => rw [q] at hx; exact ⟨x, rfl, (Option.some.inj hx).symm⟩
      have hcm : c ∈ markB := gm_all c (List.mem_of_getElem? hc)
      have hdr : gmarks.drop i = c :: gmarks.drop (i + 1) := by
        obtain ⟨hi, hic⟩ := List.getElem?_eq_some_iff.mp hc
        rw [List.drop_eq_getElem_cons hi, hic]
      rw [hdr] at k6
      have hir : L ≠ r := fun z => by
        obtain ⟨_, dx, t, tk, ho', _, _⟩ := hR6
        rw [z] at oL6
        have := oL6.at_.symm.trans ho'.at_
        cases this
      refine ⟨_, rfl, .inl ⟨rfl, _, SqL.of oL6.at_⟩, _, rfl, _, rfl, G', r, b, p', c, rfl, hcm, e6.sub, hR6, PK.call (C := _) k6 fun q v G7 H7 p7 _ e7 hR7 hv k7 => ?_⟩
      have oL7 := oL6.ext e7 (by simpa using hir)
      have hll : vs.length ≤ 3 := by
        have h1 := Paired.length hp6
        have : i < gmarks.length := (List.getElem?_eq_some_iff.mp hc).1
        have h3 : gmarks.length = 3 := rfl
        omega
      refine ⟨L, _, _, rfl, rfl, oL7.at_, Nat.lt_of_le_of_lt hll (by decide), ?_⟩
      have e67 := e6.trans e7
      have e8 := e67.put (.inl hL0) oL7.fr (o := .lst (vs ++ [v]))
      have e78 : Ext [L] G7 H7 G7 (upd H7 L (.lst (vs ++ [v]))) := (Ext.refl e7.sub).put (.inr (by simp)) oL7.fr
      refine ⟨G7, p7, _, vs ++ [v], qs ++ [q], rfl, e8, s5.trans e7.grow, hR7.ext e78 (by simpa using fun z => hir z.symm), oL7.put, Paired.snoc (Paired.map' (fun _ _ z => Fr.mono _ _ _ _ e7.grow z) hp6) hv.1.1, ?_, ?_, k7⟩
      · intro q' hq'
        rcases List.mem_append.mp hq' with z | z
        · exact hq6 q' z
        · rw [List.mem_singleton.mp z]; exact ⟨hv.2, hv.1.2⟩
      · rw [List.length_append, hl6]; rfl
    · rintro σ H' ⟨G', p', r4, vs, qs, rfl, e6, s5, hR6, oL6, hp6, hq6, hl6, k6⟩
      have hl3 : qs.length = 3 := hl6
      have k7 := (show PK CF (pure (⟨nb, qs⟩ : Glass)) _ b p' E from k6).done
      refine ⟨_, rfl, L, vs, rfl, .inl ⟨SqL.of oL6.at_, fun l hl => ?_⟩⟩
      have e7 := e6.lay hl (o := .tup vs)
      have e67 : Ext [] G' H' _ _ := (Ext.refl e6.sub).lay hl (o := .tup vs)
      have hR7 := hR6.ext e67 (by simp)
      have ho7 := ho.ext e7 (by simpa using ndr)
      have htn7 : upd H' l (.tup vs) tn = some (.tup ((key nb).map kV)) := by rw [key_V]; exact e7.sub _ _ (e67.grow _ _ (s5 _ _ htn5))
      have hnt : valV kvs (key nb) = none := by
        have h2 := newName_ok hm2
        have h3 := (hg.keys).some_iff nb
        rw [h2] at h3
        cases z : valV kvs (key nb) with
        | none => rfl
        | some x => rw [z] at h3; cases h3
      have hlt : gl.length < 64 := by omega
      refine ⟨_, rfl, _, rfl, d, _, rfl, DPut.t (k := key nb) ho7.at_ htn7 ?_, ?_⟩
      · rw [hg.len]; exact Nat.lt_of_lt_of_le hlt (by decide)
      · rw [putK_new _ hnt]
        have e8 : Ext [r, d] G H _ (upd (upd H' l (.tup vs)) d (.dT (kvs ++ [(key nb, .ref l)]))) := (Ext.two e7).put (.inr (by simp)) ho7.fr
        have hR8 := hR7.ext (M := [d]) ((Ext.refl e67.sub).put (.inr (by simp)) ho7.fr (o := .dT (kvs ++ [(key nb, .ref l)]))) (by simpa using fun z => ndr z.symm)
        refine k7 hlt _ _ _ e8 hR8 ⟨upd_same, ho7.fr⟩ (Paired.snoc ((hg.mono e7.grow)) ⟨rfl, l, vs, rfl, .of upd_same, Paired.map' (fun _ _ z => Fr.mono _ _ _ _ e67.grow z) hp6⟩) ?_
        intro g hgm
        rcases List.mem_append.mp hgm with z | z
        · exact hok g z
        · rw [List.mem_singleton.mp z]; exact ⟨hl3, hq6⟩
end
end Th
set_option maxHeartbeats 2000000
namespace Th
open PySem PySem.Spec PyProof.Rows L2
open Ln (Bytes Glass Elem System_ Kind)
open Ln.Text (isDigit natural isLetter isMark tokenIn numberIn WORDS NAME P Lex FUEL)
open Ma (isK TokOk tokS tokX Lx over_ GlOk)
section
variable {β : Type} {CF : Addr} {b : Bytes} {p : Nat} {E : XK} {C : β → Nat → Prop}
theorem glasses_first (hg : isK (.w "glass") (tokX b p).1 = true) : (Ln.Text.glass [] >>= fun g => Ln.Text.glasses FUEL [g]) (Lx b p) = Ln.Text.glasses (FUEL + 1) [] (Lx b p) := by
  have hb : ¬ (tokX b p).1 = .broken := fun z => by rw [z] at hg; cases hg
  conv => rhs; rw [Ma.Lx_eq b p, Ma.glasses_step _ _ _ _ hb, if_pos hg, ← Ma.Lx_eq b p]
  rfl
theorem glasses_go {f : Nat} {gl : List Glass} {k : List Glass → P β} (hl : gl.length ≤ 64) (hg : isK (.w "glass") (tokX b p).1 = true) (h : PK CF (Ln.Text.glasses (f + 1) gl >>= k) C b p E) : PK CF (Ma.rGlass gl >>= fun g => Ln.Text.glasses f (gl ++ [g]) >>= k) C b p E := by
  have hb : ¬ (tokX b p).1 = .broken := fun z => by rw [z] at hg; cases hg
  refine h.later ?_
  rw [Ma.bind_run, Ma.bind_run]
  conv => lhs; rw [Ma.Lx_eq b p, Ma.glasses_step _ _ _ _ hb, if_pos hg, Ma.bind_run]
  conv => rhs; rw [Ma.Lx_eq b p, Ma.glass_eq gl hl _ _ hg]
  cases Ln.Text.glass gl (⟨tokS b p, (tokX b p).1⟩ :: (if over_ (tokX b p).1 = true then [] else Lx b (tokS b p + (tokX b p).2))) with
  | error e => rfl
  | ok x => exact (Ma.bind_run _ _ _).symm
theorem glasses_end {f : Nat} {gl : List Glass} {k : List Glass → P β} (hb : ¬ (tokX b p).1 = .broken) (hg : isK (.w "glass") (tokX b p).1 = false) (h : PK CF (Ln.Text.glasses (f + 1) gl >>= k) C b p E) : PK CF (k gl) C b p E := by
  refine h.later ?_
  rw [Ma.bind_run]
  conv => lhs; rw [Ma.Lx_eq b p, Ma.glasses_step _ _ _ _ hb, hg, if_neg (by decide), ← Ma.Lx_eq b p]
theorem glasses_expect {f : Nat} {gl : List Glass} {k : List Glass → P β} {Q1 : Prop} (h : PK CF (Ln.Text.glasses (f + 1) gl >>= fun l => Ma.takeK (.w "start") >>= fun _ => k l) C b p E)
    (cont : (tokX b p).1 ≠ .broken → ([Ma.K.w "glass", Ma.K.w "start"].any fun k => isK k (tokX b p).1) = true → Q1) : match Ma.expect [.w "glass", .w "start"] (Lx b p) with
      | .ok _ => Q1
      | .error e => Errs CF E e := by
  rw [expect_at]
  by_cases hb : (tokX b p).1 = .broken
  · rw [if_pos hb]
    unfold PK at h
    have e : (Ln.Text.glasses (f + 1) gl >>= fun l => Ma.takeK (.w "start") >>= fun _ => k l) (Lx b p) = .error (1, tokS b p) := by
      rw [Ma.bind_run, Ma.Lx_eq b p]
      have : Ln.Text.glasses (f + 1) gl (⟨tokS b p, (tokX b p).1⟩ :: (if over_ (tokX b p).1 = true then [] else Lx b (tokS b p + (tokX b p).2))) = .error (1, tokS b p) := by
        show (Ln.Text.isWordNext "glass" >>= _) _ = _
        rw [Ma.bind_run, Ma.isWordNext_cons, if_pos hb]
      rw [this]
    rw [e] at h; exact h
  · rw [if_neg hb]
    cases hz : [Ma.K.w "glass", Ma.K.w "start"].any fun k => isK k (tokX b p).1 with
    | true => rw [if_pos rfl]; exact cont hb hz
    | false =>
      rw [if_neg (by decide)]
      simp only [List.any_cons, List.any_nil, Bool.or_false, Bool.or_eq_false_iff] at hz
      have h2 := glasses_end hb hz.1 h
      unfold PK at h2
      rw [Ma.bind_run, takeK_at _ _ _ (take_over (by decide +kernel)), if_neg hb, hz.2, if_neg (by decide)] at h2
      exact h2
end
section
variable {w : World} {K : PySem.W.Frag} {mg : Str → Option Value} {base : Heap} {CN CF CR : Addr}
def spGlasses (K : PySem.W.Frag) (CR CF : Addr) : Sp := fun vs H Q E => ∃ (β : Type) (G : Hp) (r : Addr) (b : Bytes) (p : Nat) (k : List Glass → P β) (C : β → Nat → Prop), vs = [.ref r] ∧ Same G H ∧ RdAt K CR G H r b p ∧
  PK CF ((Ln.Text.glass [] >>= fun g => Ln.Text.glasses FUEL [g]) >>= fun l => Ma.takeK (.w "start") >>= fun _ => k l) C b p E ∧
  ∀ d G' H' p' kvs gl, Ext [r] G H G' H' → RdAt K CR G' H' r b p' → Own G' H' d (.dT kvs) → GlAt K G' kvs gl → GlOk gl → PK CF (Ma.takeK (.w "start") >>= fun _ => k gl) C b p' E → Q (.ref d) H'
theorem sc_rgs : FnScope ["reader", "glasses"] ["reader"] (defScope s_read_glasses) := ⟨rfl, rfl, rfl, by decide +kernel, rfl, by decide +kernel, by decide +kernel⟩
theorem ok_rgs {f : Addr} {fd : FuncData} (F : Fun K "read_glasses" "read_glasses" s_read_glasses f fd) (T : Tn K mg CN CF CR) (D : Rdr w K mg base CR CF) (Dg : Def prog w K mg base 11 "read_glass" ["reader", "glasses"] (spGlass K CR CF)) :
    FnOk prog w K mg base (cxX prog w) 12 f fd ["reader"] (spGlasses K CR CF) := by
  refine F.okX sc_rgs (fun vs H Q E h => ?_) (fun cdv A outer s H vs Q E hr h => ?_)
  · obtain ⟨β, G, r, b, p, k, C, rfl, _⟩ := h; rfl
  · obtain ⟨β, G, r, b, p, k, C, rfl, sm, hR, kk, kq⟩ := h
    have hr1 := hr.mono (show 1 ≤ 11 by decide)
    have hr4 := hr.mono (show 4 ≤ 11 by decide)
    refine ⟨_, pss_cons (ps_set (i := 1) sc_rgs.nd rfl (Or.inl rfl) pe_dnewT) (pss_cons (ps_expr (pmr D.expect T.cl hr4 pass_cx (pv 0) (pa_cons (pe_tup (pa_cons pe_str pa_nil)) pa_nil)))
      (pss_cons (ps_while own_cx (pt_val (pmr D.sees T.cl hr1 pass_cx (pv 0) (pa_cons pe_str pa_nil)))
        (pss_cons (ps_expr (pe_def Dg hr pass_cx (pa_cons (pv 0) (pa_cons (pv 1) pa_nil)))) (pss_one (ps_expr (pmr D.expect T.cl hr4 pass_cx (pv 0) (pa_cons (pe_tup (pa_cons pe_str (pa_cons pe_str pa_nil))) pa_nil))))))
      (pss_one (ps_ret (pv 1))))), ?_⟩
    intro d hd
    have e0 : Ext [r] G H G (upd H d (.dT [])) := (Ext.refl sm).lend hd
    have hR0 := hR.ext (M := []) ((Ext.refl sm).lend hd (o := .dT [])) (by simp)
    have o0 : Own G (upd H d (.dT [])) d (.dT []) := Own.new sm hd
    refine ⟨r, rfl, hR0.m m4, (by show 1 ≤ sizeLine; decide), fun t0 ht0 => ?_⟩
    have e1 := e0.lay ht0 (o := .tup [.str "glass"])
    have e01 : Ext [] G (upd H d (.dT [])) _ _ := (Ext.refl e0.sub).lay ht0 (o := .tup [.str "glass"])
    have hR1 := hR0.ext e01 (by simp)
    have o1 := o0.ext e01 (by simp)
    refine ⟨_, r, b, p, t0, [.w "glass"], rfl, e1.sub, hR1, .of upd_same, (by decide +kernel), ?_⟩
    generalize upd G t0 (.tup [.str "glass"]) = G1 at e1 hR1 o1
    generalize upd (upd H d (.dT [])) t0 (.tup [.str "glass"]) = H1 at e1 hR1 o1
    rw [expect_at]
    by_cases hb : (tokX b p).1 = .broken
    · rw [if_pos hb]
      unfold PK at kk
      have e : ((Ln.Text.glass [] >>= fun g => Ln.Text.glasses FUEL [g]) >>= fun l => Ma.takeK (.w "start") >>= fun _ => k l) (Lx b p) = .error (1, tokS b p) := by
        rw [Ma.bind_run, Ma.bind_run, Ma.Lx_eq b p]
        unfold Ln.Text.glass
        rw [Ma.bind_run, Ma.word_cons, if_pos hb]
      rw [e] at kk; exact kk
    rw [if_neg hb]
    have ea : ([Ma.K.w "glass"].any fun k => isK k (tokX b p).1) = isK (.w "glass") (tokX b p).1 := by simp
    rw [ea]
    cases hg : isK (.w "glass") (tokX b p).1 with
    | false =>
      rw [if_neg (by decide)]
      unfold PK at kk
      have e : ((Ln.Text.glass [] >>= fun g => Ln.Text.glasses FUEL [g]) >>= fun l => Ma.takeK (.w "start") >>= fun _ => k l) (Lx b p) = .error (2, tokS b p) := by
        rw [Ma.bind_run, Ma.bind_run, Ma.Lx_eq b p]
        unfold Ln.Text.glass
        rw [Ma.bind_run, Ma.word_cons, if_neg hb, hg, if_neg (by decide)]
      rw [e] at kk; exact kk
    | true =>
    rw [if_pos rfl]
    have k1 : PK CF (Ln.Text.glasses (FUEL + 1) [] >>= fun l => Ma.takeK (.w "start") >>= fun _ => k l) C b p E := by
      refine kk.later ?_
      rw [Ma.bind_run, glasses_first hg, ← Ma.bind_run]
    refine while_by (fun σ H' => σ = [some (.ref r), some (.ref d)] ∧ ∃ (G' : Hp) (p' : Nat) (kvs : List (List Key × V)) (gl : List Glass) (fu : Nat), Ext [r] G H G' H' ∧ RdAt K CR G' H' r b p' ∧ Own G' H' d (.dT kvs) ∧ GlAt K G' kvs gl ∧ GlOk gl ∧ gl.length ≤ 64 ∧ gl.length = slotN 0 [some (.int (gl.length : Int))] ∧ fu + gl.length = FUEL ∧ (tokX b p').1 ≠ .broken ∧ ([Ma.K.w "glass", Ma.K.w "start"].any fun k => isK k (tokX b p').1) = true ∧
        PK CF (Ln.Text.glasses (fu + 1) gl >>= fun l => Ma.takeK (.w "start") >>= fun _ => k l) C b p' E) (fun _ H' => match H' d with
          | some (.dT kvs) => 64 - kvs.length
          | _ => 0) ⟨rfl, G1, p, [], [], FUEL, e1, hR1, o1, .nil, (by intro g hg; cases hg), (by decide), rfl, rfl, hb, (by rw [List.any_cons, hg]; rfl), k1⟩ ?_ (fun σ H Q Q' hq ⟨a1, a2, a3, a4, a5, a6, a7, a8, a9, a10, a11, a12, a13, a14, a15⟩ => ⟨a1, a2, a3, a4, a5, a6, a7, a8, a9, a10, a11, a12, a13, a14, hq _ _ a15⟩)
    rintro σ H' ⟨rfl, G', p', kvs, gl, fu, e2, hR2, o2, hgl, hok, hle, _, hfu, hb2, hany, k2⟩
    refine ⟨r, rfl, hR2.m m1, G', r, b, p', .w "glass", rfl, (by decide +kernel), e2.sub, hR2, _, rfl, if_bl (fun hz => ?_) (fun hz => ?_)⟩
    · -- read_glass
      have hmu : (match H' d with
          | some (.dT kvs) => 64 - kvs.length
          | _ => 0) = 64 - gl.length := by rw [o2.at_]; show 64 - kvs.length = _; rw [hgl.len]
      have hfu1 : ∃ f', fu = f' + 1 := ⟨fu - 1, by
        have : FUEL = 65538 := rfl
        omega⟩
      obtain ⟨f', rfl⟩ := hfu1
      have k3 := glasses_go hle hz k2
      refine ⟨_, rfl, _, rfl, G', r, b, p', d, kvs, gl, rfl, e2.sub, hR2, o2, hgl, hok, hle, hz, ?_⟩
      unfold PK
      have hbr := Ma.bind_run (Ma.rGlass gl) (fun g => Ln.Text.glasses (f' + 1) (gl ++ [g]) >>= fun l => Ma.takeK (.w "start") >>= fun _ => k l) (Lx b p')
      unfold PK at k3
      cases hx : Ma.rGlass gl (Lx b p') with
      | error e => rw [hx] at hbr; rw [hbr] at k3; exact k3
      | ok x =>
        obtain ⟨g, l'⟩ := x
        rw [hx] at hbr
        rw [hbr] at k3
        intro p3 hl3 hlt G3 H3 kvs3 e3 hR3 o3 hgl3 hok3
        have hl3' : l' = Lx b p3 := hl3
        subst hl3'
        have k4 : PK CF (Ln.Text.glasses (f' + 1) (gl ++ [g]) >>= fun l => Ma.takeK (.w "start") >>= fun _ => k l) C b p3 E := k3
        refine ⟨r, rfl, hR3.m m4, (by show 2 ≤ sizeLine; decide), fun t3 ht3 => ?_⟩
        have e34 : Ext [] G3 H3 _ _ := (Ext.refl e3.sub).lay ht3 (o := .tup [.str "glass", .str "start"])
        have hR4 := hR3.ext e34 (by simp)
        have o4 := o3.ext e34 (by simp)
        have e24 : Ext [r] G H (upd G3 t3 (.tup [.str "glass", .str "start"])) (upd H3 t3 (.tup [.str "glass", .str "start"])) := by
          have hdn : H d = none := hd
          have e23 : Ext [r, d] G H G3 H3 := (Ext.two e2).trans e3
          have e25 := e23.tr0 e34
          exact ⟨e25.sub0, e25.sub, e25.grow, fun c o hc hcr => e25.keep c o hc (fun hm => by
            rcases List.mem_cons.mp hm with z | z
            · exact hcr (by rw [z]; simp)
            · rw [List.mem_singleton.mp z, hdn] at hc; cases hc), e25.there, e25.fresh⟩
        refine ⟨_, r, b, p3, t3, [.w "glass", .w "start"], rfl, e34.sub, hR4, .of upd_same, (by decide +kernel), glasses_expect k4 fun hb4 hany4 => ⟨⟨rfl, _, p3, kvs3, gl ++ [g], f', e24, hR4, o4, hgl3.mono e34.grow, hok3, ?_, rfl, ?_, hb4, hany4, k4⟩, ?_⟩⟩
        · rw [List.length_append]; show gl.length + 1 ≤ 64; omega
        · rw [List.length_append]; show f' + (gl.length + 1) = FUEL; omega
        · rw [hmu, o4.at_]
          show 64 - kvs3.length < _
          rw [hgl3.len, List.length_append]
          show 64 - (gl.length + 1) < _
          omega
    · -- start
      refine ⟨_, rfl, kq d G' H' p' kvs gl e2 hR2 o2 hgl hok (glasses_end hb2 hz k2)⟩
end
end Th
set_option maxHeartbeats 2000000
namespace Th
open PySem PySem.Spec PyProof.Rows L2
open Ln (Bytes Glass Elem System_ Kind)
open Ln.Text (isDigit natural isLetter isMark tokenIn numberIn WORDS NAME P Lex FUEL)
open Ma (isK TokOk tokS tokX Lx over_ GlOk)
def wordOf : Ln.Kind → Str
  | .surface _ => "surface"
  | .mirror => "mirror"
  | .halt_ => "stop"
def ef (w g l c k : V) : List (Str × V) := putF "conic" k (putF "curve" c (putF "glass" l (putF "gap" g (putF "word" w []))))
structure ElAt (K : PySem.W.Frag) (CE : Addr) (G : Hp) (v : V) (e : Elem) (gl : List Glass) : Prop where
  ex : ∃ x dx vg vl vc vk, v = .ref x ∧ G x = some (.ins CE dx (ef (.str (wordOf e.kind)) vg vl vc vk)) ∧ Fr K G vg e.gap ∧ Fr K G vc e.curve ∧ Fr K G vk e.conic ∧ (match e.kind with
    | .surface m => Tri K G vl ((gl.map fun (g : Glass) => g.index).getD m []) ∧ m < gl.length
    | _ => vl = .non)
  sg : Ma.Sz 60 e.gap
  sc : Ma.Sz 60 e.curve
  sk : Ma.Sz 60 e.conic
theorem ElAt.mono {K : PySem.W.Frag} {CE : Addr} {G G' : Hp} {v : V} {e : Elem} {gl : List Glass} (s : Same G G') (h : ElAt K CE G v e gl) : ElAt K CE G' v e gl := by
  obtain ⟨⟨x, dx, vg, vl, vc, vk, h1, h2, h3, h4, h5, h6⟩, a, b, c⟩ := h
  refine ⟨⟨x, dx, vg, vl, vc, vk, h1, s _ _ h2, Fr.mono _ _ _ _ s h3, Fr.mono _ _ _ _ s h4, Fr.mono _ _ _ _ s h5, ?_⟩, a, b, c⟩
  cases hk : e.kind with
  | surface m => rw [hk] at h6; exact ⟨h6.1.mono s, h6.2⟩
  | mirror => rw [hk] at h6; exact h6
  | halt_ => rw [hk] at h6; exact h6
structure Mdl (P : Program) (w : World) (K : PySem.W.Frag) (mg : Str → Option Value) (base : Heap) (k : Nat) (C : Addr) (x : Str) (ps : List Str) (sp : Sp) : Prop where
  cl : Cls K C
  m : mg x = some (.ref C)
  ex : ∃ f fd, Mk K C f ∧ FnOk P w K mg base (cxX P w) k f fd ps sp ∧ Binds K fd ps []
section
variable {w : World} {K : PySem.W.Frag} {mg : Str → Option Value} {base : Heap} {CE : Addr}
structure Te (K : PySem.W.Frag) (CE : Addr) : Prop where
  cl : Cls K CE
  n1 : NoAttr K CE "word"
  n2 : NoAttr K CE "gap"
  n3 : NoAttr K CE "glass"
  n4 : NoAttr K CE "curve"
  n5 : NoAttr K CE "conic"
def spEI (CE : Addr) : Sp := fun vs H Q _ => ∃ (x dx : Addr) (a1 a2 a3 a4 a5 : V), vs = [.ref x, a1, a2, a3, a4, a5] ∧ H x = some (.ins CE dx []) ∧ Q .non (upd H x (.ins CE dx (ef a1 a2 a3 a4 a5)))
theorem sc_ei : FnScope ["self", "word", "gap", "glass", "curve", "conic"] ["self", "word", "gap", "glass", "curve", "conic"] (defScope s_Element_init) := ⟨rfl, rfl, rfl, by decide +kernel, rfl, by decide +kernel, by decide +kernel⟩
theorem ok_ei {f : Addr} {fd : FuncData} (F : Fun K "__init__" "Element.__init__" s_Element_init f fd) (T : Te K CE) : FnOk prog w K mg base (cxX prog w) 1 f fd ["self", "word", "gap", "glass", "curve", "conic"] (spEI CE) := by
  refine F.okX sc_ei (fun vs H Q E h => ?_) (fun cdv A outer s H vs Q E hr h => ?_)
  · obtain ⟨x, dx, a1, a2, a3, a4, a5, rfl, _⟩ := h; rfl
  · obtain ⟨x, dx, a1, a2, a3, a4, a5, rfl, hx, k⟩ := h
    refine ⟨_, pss_cons (ps_fld (pv 0) (pv 1) rfl) (pss_cons (ps_fld (pv 0) (pv 2) rfl) (pss_cons (ps_fld (pv 0) (pv 3) rfl) (pss_cons (ps_fld (pv 0) (pv 4) rfl) (pss_one (ps_fld (pv 0) (pv 5) rfl))))), ?_⟩
    refine ⟨_, rfl, _, rfl, x, CE, dx, _, rfl, hx, T.cl, T.n1, (by show 0 < 1000; decide), ?_⟩
    refine ⟨_, rfl, _, rfl, x, CE, dx, _, rfl, upd_same, T.cl, T.n2, (by show 1 < 1000; decide), ?_⟩
    rw [upd_upd]
    refine ⟨_, rfl, _, rfl, x, CE, dx, _, rfl, upd_same, T.cl, T.n3, (by show 2 < 1000; decide), ?_⟩
    rw [upd_upd]
    refine ⟨_, rfl, _, rfl, x, CE, dx, _, rfl, upd_same, T.cl, T.n4, (by show 3 < 1000; decide), ?_⟩
    rw [upd_upd]
    refine ⟨_, rfl, _, rfl, x, CE, dx, _, rfl, upd_same, T.cl, T.n5, (by show 4 < 1000; decide), ?_⟩
    rw [upd_upd]
    exact k
end
section
variable {X : Cx} {k : Nat} {C : Addr} {x : Str} {ps : List Str} {sp : Sp} {E : XK} {p pos : Pos} {e : Expr} {es : List Expr} {t : TA}
theorem pe_new (D : Mdl X.prog X.w X.K X.mg X.base k C x ps sp) (hr : Room (k + 1) X.A) (hx : Passes (cxX X.prog X.w) X E) (ha : PA X (e :: es) t) (hg : Gl X x := by rfl) (hdb : (x == ("__debug__" : Str)) = false := by decide)
    (he : starEach (e :: es) X.env = (false, eval e X.env) :: starEach es X.env := by rfl) (hpl : (backTo pos (starEach es X.env)).any (·.1) = false := by rfl) :
    PE X (.Call (.Name x p) (e :: es) [] pos) (tMake C sp [] E t) := by
  obtain ⟨f, fd, M, F, hb⟩ := D.ex
  exact pe_make M F hr hg D.m hb .nil hx ha hdb he hpl
end
section
variable {w : World} {K : PySem.W.Frag} {mg : Str → Option Value} {base : Heap} {CN CF CR CE : Addr}
theorem isK_word {s : String} {t : Ln.Text.Tok} (h : isK (.w s) t = true) : t = .word (Ln.ascii s) := eq_of_beq h
def three (t : Ln.Text.Tok) : Prop := isK (.w "surface") t = true ∨ isK (.w "mirror") t = true ∨ isK (.w "stop") t = true
def spElem (K : PySem.W.Frag) (CR CF CE : Addr) : Sp := fun vs H Q E => ∃ (G : Hp) (r : Addr) (b : Bytes) (p : Nat) (d : Addr) (kvs : List (List Key × V)) (gl : List Glass) (dn : Addr) (kn : List (List Key × V)) (others : List Elem), vs = [.ref r, .ref d, .ref dn] ∧ Same G H ∧ RdAt K CR G H r b p ∧ Own G H d (.dT kvs) ∧ GlAt K G kvs gl ∧ Own G H dn (.dT kn) ∧ Keys kn (others.map (·.name)) ∧ kn.length = others.length ∧ d ≠ dn ∧ others.length ≤ 64 ∧ three (tokX b p).1 ∧
  PK CF (Ma.rElem gl others (tokX b p).1) (fun e p' => others.length < 64 → ∀ v G' H' kn', Ext [r, dn] G H G' H' → RdAt K CR G' H' r b p' → Own G' H' dn (.dT kn') → Keys kn' ((others ++ [e]).map (·.name)) → kn'.length = others.length + 1 → ElAt K CE G' v e gl → Q v H') b p E
theorem takenE_eq (l : List Elem) : Ma.takenE l = fun b => (l.map (·.name)).any fun n => n == b := by
  funext b
  unfold Ma.takenE
  rw [List.any_map]; rfl
def tailP (n : Bytes) (g : Rat) (kd : Ln.Kind) (c k : Rat) : P Elem := Ma.rClearO >>= fun o => Ma.takeK (.m 59) >>= fun _ => pure ⟨n, g, kd, c, k, o⟩
theorem named_lt {gl : List Glass} {l l' : List Lex} {i : Nat} (h : Ln.Text.glassNamed gl l = .ok (i, l')) : i < gl.length := by
  unfold Ln.Text.glassNamed at h
  rw [Ma.bind_run] at h
  cases hx : Ln.Text.name l with
  | error e => rw [hx] at h; cases h
  | ok x =>
    rw [hx] at h
    dsimp only at h
    cases hj : (gl.map fun (g : Glass) => g.name).idxOf? x.1.2 with
    | none => rw [hj] at h; cases h
    | some j =>
      rw [hj] at h
      cases h
      obtain ⟨hlt, _⟩ := List.findIdx?_eq_some_iff_getElem.mp hj
      rw [List.length_map] at hlt; exact hlt
theorem sc_rel : FnScope ["reader", "glasses", "names", "word", "gap", "glass", "curve", "conic"] ["reader", "glasses", "names"] (defScope s_read_element) := ⟨rfl, rfl, rfl, by decide +kernel, rfl, by decide +kernel, by decide +kernel⟩
theorem if_eqS {x y : Str} {A B : Prop} (h1 : x = y → A) (h2 : x ≠ y → B) : if (decide (V.str x = V.str y)) = true then A else B := by
  by_cases h : x = y
  · rw [if_pos (by simp [h])]; exact h1 h
  · rw [if_neg (by simp [h])]; exact h2 h
theorem if_neS {x y : Str} {A B : Prop} (h1 : x ≠ y → A) (h2 : x = y → B) : if (!decide (V.str x = V.str y)) = true then A else B := by
  by_cases h : x = y
  · rw [if_neg (by simp [h])]; exact h2 h
  · rw [if_pos (by simp [h])]; exact h1 h
theorem kd_sur {t : Ln.Text.Tok} (h : isK (.w "surface") t = true) : kdS t = "surface" := by rw [isK_word h]; decide +kernel
theorem kd_mir {t : Ln.Text.Tok} (h : isK (.w "mirror") t = true) : kdS t = "mirror" := by rw [isK_word h]; decide +kernel
theorem kd_sto {t : Ln.Text.Tok} (h : isK (.w "stop") t = true) : kdS t = "stop" := by rw [isK_word h]; decide +kernel
theorem ne_sm : ("mirror" : Str) ≠ "surface" := by decide +kernel
theorem ne_ss : ("stop" : Str) ≠ "surface" := by decide +kernel
theorem ne_sp : ("surface" : Str) ≠ "stop" := by decide +kernel
theorem ne_mp : ("mirror" : Str) ≠ "stop" := by decide +kernel
theorem w_isK {s s' : String} {t : Ln.Text.Tok} (h : isK (.w s) t = true) (ne : Ln.ascii s ≠ Ln.ascii s') : isK (.w s') t = false := by
  rw [isK_word h]
  exact beq_eq_false_iff_ne.mpr fun z => ne (Ln.Text.Tok.word.inj z)
theorem ok_rel {f : Addr} {fd : FuncData} (F : Fun K "read_element" "read_element" s_read_element f fd) (T : Tn K mg CN CF CR) (Z : Tq K mg) (D : Rdr w K mg base CR CF) (DE : Mdl prog w K mg base 1 CE "Element" ["self", "word", "gap", "glass", "curve", "conic"] (spEI CE)) (Dn : Def prog w K mg base 8 "read_new_name" ["reader", "names"] (spNewName K CR CF))
    (Du : Def prog w K mg base 9 "read_number" ["reader"] (spM K CR CF Ma.rNumber (Rq K))) (Dk : Def prog w K mg base 8 "read_known_glass" ["reader", "glasses"] (spKnown K CR CF)) (Dc : Def prog w K mg base 11 "read_curve" ["reader"] (spM K CR CF Ma.rCurve (Rq K)))
    (Do : Def prog w K mg base 11 "read_conic" ["reader"] (spM K CR CF Ma.rConic (Rq K))) (Dp : Def prog w K mg base 10 "pass_clear" ["reader"] (spM K CR CF Ma.rClearO (fun _ v _ => v = .non))) : FnOk prog w K mg base (cxX prog w) 12 f fd ["reader", "glasses", "names"] (spElem K CR CF CE) := by
  refine F.okX sc_rel (fun vs H Q E h => ?_) (fun cdv A outer s H vs Q E hr h => ?_)
  · obtain ⟨G, r, b, p, d, kvs, gl, dn, kn, others, rfl, _⟩ := h; rfl
  · obtain ⟨G, r, b, p, d, kvs, gl, dn, kn, others, rfl, sm, hR, ho, hg, hn, hkn, hln, hdd, hle, ht3, kk⟩ := h
    have hr2 := hr.mono (show 2 ≤ 11 by decide)
    have hr3 := hr.mono (show 3 ≤ 11 by decide)
    have hr6 := hr.mono (show 6 ≤ 11 by decide)
    have hr7 := hr.mono (show 7 ≤ 11 by decide)
    have hr8 := hr.mono (show 8 ≤ 11 by decide)
    have hr9 := hr.mono (show 9 ≤ 11 by decide)
    have hr10 := hr.mono (show 10 ≤ 11 by decide)
    have hu := hu_of hr
    obtain ⟨aZ, mZ, hZ⟩ := Z.zero_
    refine ⟨_, pss_cons (ps_if (pt_cmpR op_eq (pe_callB call_lenT (by rfl) T.len_ boot_len (pa_cons (pv 2) pa_nil)) (pgi T.most64_) (nomark _)) (pss_one (ps_expr (pmr D.refuse T.cl hr3 pass_cx (pv 0) (pa_cons (pgi T.k5) pa_nil)))) pss_nil)
      (pss_cons (ps_set (i := 3) sc_rel.nd rfl (Or.inl rfl) (pe_ix ix_tup (pe_fld (pv 0) rfl) pe_int (fun _ _ => rfl)))
      (pss_cons (ps_expr (pmr0 D.step T.cl hr6 pass_cx (pv 0)))
      (pss_cons (ps_dput hu (pv 2) (pe_def Dn hr8 pass_cx (pa_cons (pv 0) (pa_cons (pv 2) pa_nil))) pe_bl rfl)
      (pss_cons (ps_expr (pmr D.take T.cl hr7 pass_cx (pv 0) (pa_cons pe_str pa_nil)))
      (pss_cons (ps_set (i := 4) sc_rel.nd rfl (Or.inl rfl) (pe_def Du hr9 pass_cx (pa_cons (pv 0) pa_nil)))
      (pss_cons (ps_set (i := 5) sc_rel.nd rfl (Or.inl rfl) pe_non)
      (pss_cons (ps_set (i := 6) sc_rel.nd rfl (Or.inl rfl) (pe_glob (v := .ref aZ) (by rfl) mZ rfl))
      (pss_cons (ps_set (i := 7) sc_rel.nd rfl (Or.inl rfl) (pe_glob (v := .ref aZ) (by rfl) mZ rfl))
      (pss_mid (ps_if (pt_cmpR op_eq (pv 3) pe_str (nomark _)) (pss_cons (ps_expr (pmr D.take T.cl hr7 pass_cx (pv 0) (pa_cons pe_str pa_nil))) (pss_one (ps_set (i := 5) sc_rel.nd rfl (Or.inl rfl) (pe_def Dk hr8 pass_cx (pa_cons (pv 0) (pa_cons (pv 1) pa_nil)))))) pss_nil)
      (pss_mid (ps_if (pt_cmpR op_ne (pv 3) pe_str (nomark _)) (pss_cons (ps_set (i := 6) sc_rel.nd rfl (Or.inl rfl) (pe_def Dc hr pass_cx (pa_cons (pv 0) pa_nil))) (pss_one (ps_set (i := 7) sc_rel.nd rfl (Or.inl rfl) (pe_def Do hr pass_cx (pa_cons (pv 0) pa_nil))))) pss_nil)
      (pss_cons (ps_expr (pe_def Dp hr10 pass_cx (pa_cons (pv 0) pa_nil)))
      (pss_cons (ps_expr (pmr D.take T.cl hr7 pass_cx (pv 0) (pa_cons pe_str pa_nil)))
      (pss_one (ps_ret (pe_new DE hr2 pass_cx (pa_cons (pv 3) (pa_cons (pv 4) (pa_cons (pv 5) (pa_cons (pv 6) (pa_cons (pv 7) pa_nil)))))))))))))))))))), ?_⟩
    have ndr : d ≠ r := hR.nd ho
    have nnr : dn ≠ r := hR.nd hn
    obtain ⟨hpl, dx, tt, tk, hro, _, htk⟩ := id hR
    have hover : over_ (tokX b p).1 = false := by
      rcases ht3 with z | z | z
      · exact over_of (k := .w "surface") (by decide +kernel) z
      · exact over_of (k := .w "mirror") (by decide +kernel) z
      · exact over_of (k := .w "stop") (by decide +kernel) z
    refine ⟨_, rfl, dn, _, rfl, hn.at_, rfl, _, rfl, if_eqI (fun h1 => ?_) (fun h1 => ?_)⟩
    · rw [hln] at h1
      unfold Ma.rElem at kk
      rw [if_pos (by omega)] at kk
      exact ⟨r, rfl, hR.m m3, G, r, b, p, 5, rfl, sm, hR, kk.refuse⟩
    have h1' : others.length ≠ 64 := by rw [hln] at h1; omega
    have hlt : others.length < 64 := by omega
    unfold Ma.rElem at kk
    rw [if_neg h1'] at kk
    refine ⟨_, rfl, r, CR, dx, _, _, rfl, hro.at_, T.cl, T.nToken, rf_token _ _, tk, _, _, _, rfl, rfl, sm.seqT htk, rfl, ?_⟩
    refine ⟨r, rfl, hR.m m5, G, r, b, p, rfl, sm, hR, fun G1 H1 e1 hR1 => ?_⟩
    have k1 := kk.pass hover
    rw [takenE_eq] at k1
    have hn1 := hn.ext e1 (by simpa using nnr)
    refine ⟨_, rfl, _, rfl, _, rfl, G1, r, b, _, dn, kn, others.map (·.name), rfl, e1.sub, hR1, hn1, hkn, k1.call fun nb v G2 H2 p2 hm2 e2 hR2 hv k2 => ?_⟩
    obtain ⟨tn, rfl, htn⟩ := hv
    have e12 := e1.trans e2
    have hn2 := hn.ext e12 (by simpa using nnr)
    have hnt : valV kn (key nb) = none := by
      have h2 := newName_ok hm2
      have h3 := hkn.some_iff nb
      rw [h2] at h3
      cases z : valV kn (key nb) with
      | none => rfl
      | some x => rw [z] at h3; cases h3
    refine ⟨dn, _, rfl, DPut.t (k := key nb) hn2.at_ (by rw [key_V]; exact e12.sub _ _ htn) (by rw [hln]; exact Nat.lt_of_lt_of_le hlt (by decide)), ?_⟩
    rw [putK_new _ hnt]
    have e3 : Ext [r, dn] G H G2 (upd H2 dn (.dT (kn ++ [(key nb, .bl true)]))) := (Ext.two e12).put (.inr (by simp)) hn2.fr
    have hR3 : RdAt K CR G2 (upd H2 dn (.dT (kn ++ [(key nb, .bl true)]))) r b p2 := hR2.ext (M := [dn]) ((Ext.refl e12.sub).put (.inr (by simp)) hn2.fr) (by simpa using fun z => nnr z.symm)
    have hn3 : Own G2 (upd H2 dn (.dT (kn ++ [(key nb, .bl true)]))) dn (.dT (kn ++ [(key nb, .bl true)])) := ⟨upd_same, hn2.fr⟩
    have hkn3 : Keys (kn ++ [(key nb, .bl true)]) (others.map (·.name) ++ [nb]) := by
      unfold Keys at hkn ⊢
      rw [List.map_append, List.map_append, hkn]; rfl
    generalize upd H2 dn (.dT (kn ++ [(key nb, .bl true)])) = H3 at e3 hR3 hn3
    refine ⟨r, rfl, hR3.m m6, G2, r, b, p2, .w "after", rfl, e3.sub, hR3, (by decide +kernel), k2.take (by decide +kernel) fun v4 G4 H4 _ e4 hR4 _ k4 => ?_⟩
    refine ⟨_, rfl, G4, r, b, _, rfl, e4.sub, hR4, k4.call fun g v5 G5 H5 p5 _ e5 hR5 hv5 k5 => ?_⟩
    have e35 := e4.trans e5
    have e05 : Ext [r, dn] G H G5 H5 := e3.trans (Ext.two e35)
    have hn5 := hn3.ext e35 (by simpa using nnr)
    have ho5 := ho.ext e05 (by simp [ndr, hdd])
    have hg5 := hg.mono e05.grow
    refine ⟨fun σ' H' => ∃ (G' : Hp) (p' : Nat) (kd : Ln.Kind) (vl : V), σ' = [some (.ref r), some (.ref d), some (.ref dn), some (.str (kdS (tokX b p).1)), some v5, some vl, some (.ref aZ), some (.ref aZ)] ∧ kdS (tokX b p).1 = wordOf kd ∧ Ext [r] G5 H5 G' H' ∧ RdAt K CR G' H' r b p' ∧ (match kd with
        | .surface m => Tri K G' vl ((gl.map fun (g : Glass) => g.index).getD m []) ∧ m < gl.length
        | _ => vl = .non) ∧ PK CF (Ma.elemTail nb g kd (decide (kd = .halt_))) (fun e p' => others.length < 64 → ∀ v G' H' kn', Ext [r, dn] G H G' H' → RdAt K CR G' H' r b p' → Own G' H' dn (.dT kn') → Keys kn' ((others ++ [e]).map (·.name)) → kn'.length = others.length + 1 → ElAt K CE G' v e gl → Q v H') b p' E, ?_, ?_⟩
    · refine ⟨_, rfl, rfl, _, rfl, if_eqS (fun hs => ?_) (fun hs => ?_)⟩
      · have hsur : isK (.w "surface") (tokX b p).1 = true := by
          rcases ht3 with z | z | z
          · exact z
          · rw [kd_mir z] at hs; exact absurd hs ne_sm
          · rw [kd_sto z] at hs; exact absurd hs ne_ss
        rw [if_pos hsur] at k5
        refine ⟨r, rfl, hR5.m m6, G5, r, b, p5, .w "into", rfl, e5.sub, hR5, (by decide +kernel), k5.take (by decide +kernel) fun v6 G6 H6 _ e6 hR6 _ k6 => ?_⟩
        have ho6 := ho5.ext e6 (by simpa using ndr)
        refine ⟨_, rfl, _, rfl, G6, r, b, _, d, kvs, gl, rfl, e6.sub, hR6, ho6, hg5.mono e6.grow, k6.call fun m v7 G7 H7 p7 hm7 e7 hR7 hv7 k7 => ?_⟩
        exact ⟨G7, p7, .surface m, v7, rfl, hs, e6.trans e7, hR7, ⟨hv7, named_lt hm7⟩, k7⟩
      · rcases ht3 with z | z | z
        · exact absurd (kd_sur z) hs
        · rw [if_neg (by rw [w_isK z (by decide +kernel)]; decide), if_pos (w_isK z (by decide +kernel))] at k5
          exact ⟨G5, p5, .mirror, .non, rfl, kd_mir z, Ext.refl e5.sub, hR5, rfl, k5⟩
        · rw [if_neg (by rw [w_isK z (by decide +kernel)]; decide), if_neg (by rw [z]; decide)] at k5
          exact ⟨G5, p5, .halt_, .non, rfl, kd_sto z, Ext.refl e5.sub, hR5, rfl, k5⟩
    rintro σ' H6 ⟨G6, p6, kd, vl, rfl, hkd, e6, hR6, hvl, k6⟩
    refine ⟨fun σ' H' => ∃ (G' : Hp) (p' : Nat) (vc vk : V) (c k : Rat), σ' = [some (.ref r), some (.ref d), some (.ref dn), some (.str (kdS (tokX b p).1)), some v5, some vl, some vc, some vk] ∧ Ext [r] G6 H6 G' H' ∧ RdAt K CR G' H' r b p' ∧ Rq K G' vc c ∧ Rq K G' vk k ∧ PK CF (tailP nb g kd c k) (fun e p' => others.length < 64 → ∀ v G' H' kn', Ext [r, dn] G H G' H' → RdAt K CR G' H' r b p' → Own G' H' dn (.dT kn') → Keys kn' ((others ++ [e]).map (·.name)) → kn'.length = others.length + 1 → ElAt K CE G' v e gl → Q v H') b p' E, ?_, ?_⟩
    · refine ⟨_, rfl, rfl, _, rfl, if_neS (fun hs => ?_) (fun hs => ?_)⟩
      · have hnh : kd ≠ .halt_ := fun z => hs (by rw [hkd, z]; rfl)
        rw [decide_eq_false hnh] at k6
        refine ⟨_, rfl, G6, r, b, p6, rfl, e6.sub, hR6, PK.call (C := _) k6 fun c v7 G7 H7 p7 _ e7 hR7 hv7 k7 => ?_⟩
        refine ⟨_, rfl, G7, r, b, p7, rfl, e7.sub, hR7, PK.call (C := _) k7 fun z v8 G8 H8 p8 _ e8 hR8 hv8 k8 => ?_⟩
        exact ⟨G8, p8, v7, v8, c, z, rfl, e7.trans e8, hR8, ⟨Fr.mono _ _ _ _ e8.grow hv7.1, hv7.2⟩, hv8, k8⟩
      · have hh : kd = .halt_ := by
          cases kd with
          | halt_ => rfl
          | mirror => rw [hkd] at hs; exact absurd hs ne_mp
          | surface m => rw [hkd] at hs; exact absurd hs ne_sp
        rw [decide_eq_true hh] at k6
        exact ⟨G6, p6, .ref aZ, .ref aZ, 0, 0, rfl, Ext.refl e6.sub, hR6, ⟨⟨aZ, rfl, hZ _⟩, sz0⟩, ⟨⟨aZ, rfl, hZ _⟩, sz0⟩, k6⟩
    rintro σ' H7 ⟨G7, p7, vc, vk, c, kc, rfl, e7, hR7, hvc, hvk, k7⟩
    refine ⟨_, rfl, G7, r, b, p7, rfl, e7.sub, hR7, PK.call (C := _) k7 fun o v8 G8 H8 p8 _ e8 hR8 _ k8 => ?_⟩
    refine ⟨r, rfl, hR8.m m6, G8, r, b, p8, .m 59, rfl, e8.sub, hR8, (by decide +kernel), k8.take (by decide +kernel) fun v9 G9 H9 _ e9 hR9 _ k9 => ?_⟩
    have e59 : Ext [r] G5 H5 G9 H9 := ((e6.trans e7).trans e8).trans e9
    have e09 : Ext [r, dn] G H G9 H9 := e05.trans (Ext.two e59)
    have hn9 := hn5.ext e59 (by simpa using nnr)
    refine ⟨_, rfl, _, rfl, _, rfl, _, rfl, _, rfl, fun x dx' hx hdx hne => ?_⟩
    have eA : Ext [r, dn] G H G9 (upd H9 dx' (.own x)) := e09.lend hdx
    have hx1 : upd H9 dx' (.own x) x = none := by rw [upd_ne (fun z => hne z.symm)]; exact hx
    have eB := eA.lend hx1 (o := .ins CE dx' [])
    refine ⟨x, dx', _, _, _, _, _, rfl, upd_same, rfl, ?_⟩
    rw [upd_upd]
    have eC := eA.lay hx1 (o := .ins CE dx' (ef (.str (kdS (tokX b p).1)) v5 vl vc vk))
    have eD : Ext [] G9 H9 (upd G9 x (.ins CE dx' (ef (.str (kdS (tokX b p).1)) v5 vl vc vk))) (upd (upd H9 dx' (.own x)) x (.ins CE dx' (ef (.str (kdS (tokX b p).1)) v5 vl vc vk))) := ((Ext.refl e9.sub).lend hdx).lay hx1
    have g57 : Same G5 G9 := e59.grow
    have gD : Same G9 (upd G9 x (.ins CE dx' (ef (.str (kdS (tokX b p).1)) v5 vl vc vk))) := eD.grow
    refine (PK.done k9) hlt _ _ _ _ eC (hR9.ext eD (by simp)) (hn9.ext eD (by simp)) ?_ ?_ ⟨⟨x, dx', v5, vl, vc, vk, rfl, ?_, ?_, ?_, ?_, ?_⟩, hv5.2, hvc.2, hvk.2⟩
    · rw [List.map_append]; exact hkn3
    · rw [List.length_append, hln]; rfl
    · rw [upd_same, hkd]
    · exact Fr.mono _ _ _ _ (g57.trans gD) hv5.1
    · exact Fr.mono _ _ _ _ ((e8.grow.trans e9.grow).trans gD) hvc.1
    · exact Fr.mono _ _ _ _ ((e8.grow.trans e9.grow).trans gD) hvk.1
    · cases kd with
      | surface m => exact ⟨hvl.1.mono (((e7.grow.trans e8.grow).trans e9.grow).trans gD), hvl.2⟩
      | mirror => exact hvl
      | halt_ => exact hvl
end
end Th
set_option maxHeartbeats 2000000
namespace Th
open PySem PySem.Spec PyProof.Rows L2
open Ln (Bytes Glass Elem System_)
open Ln.Text (isDigit natural isLetter isMark tokenIn numberIn WORDS NAME P Lex FUEL)
open Ma (isK TokOk tokS tokX Lx over_ GlOk)
def four : List Ma.K := [.w "surface", .w "mirror", .w "stop", .fin]
section
variable {β : Type} {CF : Addr} {b : Bytes} {p : Nat} {E : XK} {gl : List Glass} {C : List Elem → Nat → Prop}
theorem elems_go {f : Nat} {l : List Elem} (hl : l.length ≤ 64) (ht : three (tokX b p).1) (h : PK CF (Ln.Text.elems gl (f + 1) l) C b p E) : PK CF (Ma.rElem gl l (tokX b p).1 >>= fun e => Ln.Text.elems gl f (l ++ [e])) C b p E := by
  have hb : ¬ (tokX b p).1 = .broken := fun z => by rw [z] at ht; rcases ht with q | q | q <;> cases q
  have hf : isK .fin (tokX b p).1 = false := by
    rcases ht with q | q | q <;> (rw [isK_word q]; rfl)
  refine h.later ?_
  conv => lhs; rw [Ma.Lx_eq b p, Ma.elems_step _ _ _ _ _ hb, hf, if_neg (by decide), Ma.bind_run]
  conv => rhs; rw [Ma.bind_run, Ma.Lx_eq b p]
  have := Ma.elem_eq gl l hl ⟨tokS b p, (tokX b p).1⟩ (if over_ (tokX b p).1 = true then [] else Lx b (tokS b p + (tokX b p).2)) ht
  rw [← this]
theorem elems_end {f : Nat} {l : List Elem} (hf : isK .fin (tokX b p).1 = true) (h : PK CF (Ln.Text.elems gl (f + 1) l) C b p E) : C l p := by
  have hb : ¬ (tokX b p).1 = .broken := fun z => by rw [z] at hf; cases hf
  unfold PK at h
  have e : Ln.Text.elems gl (f + 1) l (Lx b p) = .ok (l, Lx b p) := by
    conv => lhs; rw [Ma.Lx_eq b p, Ma.elems_step _ _ _ _ _ hb, if_pos hf, ← Ma.Lx_eq b p]
  rw [e] at h
  exact h p rfl
theorem elems_expect {f : Nat} {l : List Elem} {Q1 : Prop} (h : PK CF (Ln.Text.elems gl (f + 1) l) C b p E)
    (cont : (tokX b p).1 ≠ .broken → (four.any fun k => isK k (tokX b p).1) = true → Q1) : match Ma.expect four (Lx b p) with
      | .ok _ => Q1
      | .error e => Errs CF E e := by
  rw [expect_at]
  by_cases hb : (tokX b p).1 = .broken
  · rw [if_pos hb]
    unfold PK at h
    have e : Ln.Text.elems gl (f + 1) l (Lx b p) = .error (1, tokS b p) := by
      rw [Ma.Lx_eq b p]
      show (Ln.Text.peek >>= _) _ = _
      rw [Ma.bind_run, Ma.peek_cons, if_pos hb]
    rw [e] at h; exact h
  · rw [if_neg hb]
    cases hz : four.any fun k => isK k (tokX b p).1 with
    | true => rw [if_pos rfl]; exact cont hb hz
    | false =>
      rw [if_neg (by decide)]
      unfold PK at h
      have e : Ln.Text.elems gl (f + 1) l (Lx b p) = .error (2, tokS b p) := by
        rw [Ma.Lx_eq b p]
        exact Ma.elems_bad gl f l _ _ hb hz
      rw [e] at h; exact h
end
theorem three_of {t : Ln.Text.Tok} (h : (four.any fun k => isK k t) = true) (hf : isK .fin t = false) : three t := by
  simp only [four, List.any_cons, List.any_nil, Bool.or_false, Bool.or_eq_true, hf] at h
  rcases h with h | h | h
  · exact .inl h
  · exact .inr (.inl h)
  · exact .inr (.inr (by simpa using h))
def PathAt (K : PySem.W.Frag) (CE : Addr) (G : Hp) (v : V) (es : List Elem) (gl : List Glass) : Prop := ∃ L vs, v = .ref L ∧ G L = some (.lst vs) ∧ Paired (fun v e => ElAt K CE G v e gl) vs es
theorem PathAt.mono {K : PySem.W.Frag} {CE : Addr} {G G' : Hp} {v : V} {es : List Elem} {gl : List Glass} (s : Same G G') (h : PathAt K CE G v es gl) : PathAt K CE G' v es gl := by
  obtain ⟨L, vs, h1, h2, h3⟩ := h
  exact ⟨L, vs, h1, s _ _ h2, Paired.map' (fun _ _ z => z.mono s) h3⟩
theorem Ext.drop {M : List Addr} {x : Addr} {G H G1 H1 : Hp} (hx : H x = none) (e : Ext (x :: M) G H G1 H1) : Ext M G H G1 H1 :=
  ⟨e.sub0, e.sub, e.grow, fun c o hc hm => e.keep c o hc fun z => by
    rcases List.mem_cons.mp z with q | q
    · rw [q, hx] at hc; cases hc
    · exact hm q, e.there, e.fresh⟩
theorem Ext.swap {x y : Addr} {G H G1 H1 : Hp} (e : Ext [x, y] G H G1 H1) : Ext [y, x] G H G1 H1 := e.mono fun b hb => by simp at hb ⊢; exact hb.symm
section
variable {w : World} {K : PySem.W.Frag} {mg : Str → Option Value} {base : Heap} {CN CF CR CE CS : Addr}
def spPath (K : PySem.W.Frag) (CR CF CE : Addr) : Sp := fun vs H Q E => ∃ (G : Hp) (r : Addr) (b : Bytes) (p : Nat) (d : Addr) (kvs : List (List Key × V)) (gl : List Glass), vs = [.ref r, .ref d] ∧ Same G H ∧ RdAt K CR G H r b p ∧ Own G H d (.dT kvs) ∧ GlAt K G kvs gl ∧
  PK CF (Ln.Text.elems gl FUEL []) (fun es p' => ∀ v G' H', Ext [r] G H G' H' → RdAt K CR G' H' r b p' → PathAt K CE G' v es gl → es.length ≤ 64 → Q v H') b p E
theorem sc_rpa : FnScope ["reader", "glasses", "names", "path"] ["reader", "glasses"] (defScope s_read_path) := ⟨rfl, rfl, rfl, by decide +kernel, rfl, by decide +kernel, by decide +kernel⟩
theorem ok_rpa {f : Addr} {fd : FuncData} (F : Fun K "read_path" "read_path" s_read_path f fd) (T : Tn K mg CN CF CR) (D : Rdr w K mg base CR CF) (De : Def prog w K mg base 12 "read_element" ["reader", "glasses", "names"] (spElem K CR CF CE)) :
    FnOk prog w K mg base (cxX prog w) 13 f fd ["reader", "glasses"] (spPath K CR CF CE) := by
  refine F.okX sc_rpa (fun vs H Q E h => ?_) (fun cdv A outer s H vs Q E hr h => ?_)
  · obtain ⟨G, r, b, p, d, kvs, gl, rfl, _⟩ := h; rfl
  · obtain ⟨G, r, b, p, d, kvs, gl, rfl, sm, hR, ho, hg, kk⟩ := h
    have hr1 := hr.mono (show 1 ≤ 12 by decide)
    have hr4 := hr.mono (show 4 ≤ 12 by decide)
    refine ⟨_, pss_cons (ps_set (i := 2) sc_rpa.nd rfl (Or.inl rfl) pe_dnewT) (pss_cons (ps_set (i := 3) sc_rpa.nd rfl (Or.inl rfl) (pe_lst pa_nil))
      (pss_cons (ps_expr (pmr D.expect T.cl hr4 pass_cx (pv 0) (pa_cons (pe_tup (pa_cons pe_str (pa_cons pe_str (pa_cons pe_str (pa_cons pe_str pa_nil))))) pa_nil)))
      (pss_cons (ps_while own_cx (pt_not (pt_val (pmr D.sees T.cl hr1 pass_cx (pv 0) (pa_cons pe_str pa_nil))))
        (pss_cons (ps_expr (pe_bm PySem.F.plainAttrs_list PySem.F.slot_list_append PySem.F.type_list_append mt_append (pv 3) (pa_cons (pe_def De hr pass_cx (pa_cons (pv 0) (pa_cons (pv 1) (pa_cons (pv 2) pa_nil)))) pa_nil)))
        (pss_one (ps_expr (pmr D.expect T.cl hr4 pass_cx (pv 0) (pa_cons (pe_tup (pa_cons pe_str (pa_cons pe_str (pa_cons pe_str (pa_cons pe_str pa_nil))))) pa_nil))))))
      (pss_one (ps_ret (pv 3)))))), ?_⟩
    have ndr : d ≠ r := hR.nd ho
    intro dn hdn
    have e0 : Ext [] G H G (upd H dn (.dT [])) := (Ext.refl sm).lend hdn
    refine ⟨(by show 0 ≤ sizeLine; decide), fun L hL => ?_⟩
    have e1 := e0.lend hL (o := .lst [])
    have hLd : L ≠ dn := fun z => by rw [z, upd_same] at hL; cases hL
    have hL0 : H L = none := e0.none_of hL
    have hR1 := hR.ext e1 (by simp)
    have on1 : Own G (upd (upd H dn (.dT [])) L (.lst [])) dn (.dT []) := ⟨by rw [upd_ne (fun z => hLd z.symm), upd_same], sm.free hdn⟩
    have oL1 : Own G (upd (upd H dn (.dT [])) L (.lst [])) L (.lst []) := ⟨upd_same, e0.sub.free hL⟩
    refine ⟨r, rfl, hR1.m m4, (by show 4 ≤ sizeLine; decide), fun t0 ht0 => ?_⟩
    have e2 := e1.lay ht0 (o := .tup [.str "surface", .str "mirror", .str "stop", .str "end"])
    have e12 : Ext [] G (upd (upd H dn (.dT [])) L (.lst [])) _ _ := (Ext.refl e1.sub).lay ht0 (o := .tup [.str "surface", .str "mirror", .str "stop", .str "end"])
    have hR2 := hR1.ext e12 (by simp)
    have on2 := on1.ext e12 (by simp)
    have oL2 := oL1.ext e12 (by simp)
    refine ⟨_, r, b, p, t0, four, rfl, e2.sub, hR2, .of upd_same, (by decide +kernel), elems_expect (f := FUEL - 1) kk fun hb hany => ?_⟩
    generalize upd G t0 (.tup [.str "surface", .str "mirror", .str "stop", .str "end"]) = G2 at e2 hR2 on2 oL2
    generalize upd (upd (upd H dn (.dT [])) L (.lst [])) t0 (.tup [.str "surface", .str "mirror", .str "stop", .str "end"]) = H2 at e2 hR2 on2 oL2
    refine while_by (fun σ H' => σ = [some (.ref r), some (.ref d), some (.ref dn), some (.ref L)] ∧ ∃ (G' : Hp) (p' : Nat) (kn : List (List Key × V)) (vs : List V) (es : List Elem) (fu : Nat), Ext [r] G H G' H' ∧ RdAt K CR G' H' r b p' ∧ Own G' H' dn (.dT kn) ∧ Own G' H' L (.lst vs) ∧ Keys kn (es.map (·.name)) ∧ kn.length = es.length ∧ Paired (fun v e => ElAt K CE G' v e gl) vs es ∧ es.length ≤ 64 ∧ fu + 1 + es.length = FUEL ∧ (four.any fun k => isK k (tokX b p').1) = true ∧
        PK CF (Ln.Text.elems gl (fu + 1) es) (fun es p' => ∀ v G' H', Ext [r] G H G' H' → RdAt K CR G' H' r b p' → PathAt K CE G' v es gl → es.length ≤ 64 → Q v H') b p' E) (fun _ H' => match H' dn with
          | some (.dT kn) => 64 - kn.length
          | _ => 0) ⟨rfl, G2, p, [], [], [], FUEL - 1, e2.up, hR2, on2, oL2, rfl, rfl, .nil, (by decide), rfl, hany, kk⟩ ?_ (fun σ H Q Q' hq ⟨a1, a2, a3, a4, a5, a6, a7, a8, a9, a10, a11, a12, a13, a14, a15⟩ => ⟨a1, a2, a3, a4, a5, a6, a7, a8, a9, a10, a11, a12, a13, a14, hq _ _ a15⟩)
    rintro σ H3 ⟨rfl, G3, p3, kn, vs, es, fu, e3, hR3, on3, oL3, hkn, hln, hpd, hle, hfu, hany3, k3⟩
    refine ⟨r, rfl, hR3.m m1, G3, r, b, p3, .fin, rfl, (by decide +kernel), e3.sub, hR3, _, rfl, ?_⟩
    cases hf : isK .fin (tokX b p3).1 with
    | true =>
      refine iteF ⟨_, rfl, ?_⟩
      have eF := e3.freeze oL3.at_ hL0
      have eG : Ext [] G3 H3 G3 H3 := Ext.refl e3.sub
      have sG : Same G3 (upd G3 L (.lst vs)) := fun c o hc => by
        have : c ≠ L := fun z => by rw [z, oL3.fr] at hc; cases hc
        rw [upd_ne this]; exact hc
      refine elems_end hf k3 _ _ _ eF ?_ ⟨L, vs, rfl, upd_same, Paired.map' (fun _ _ z => z.mono sG) hpd⟩ hle
      obtain ⟨h1, dx, t, tk, h2, h3, h4⟩ := hR3
      refine ⟨h1, dx, t, tk, ⟨h2.at_, ?_⟩, sG.seq h3, sG.seqT h4⟩
      have : r ≠ L := fun z => by
        have := h2.at_
        rw [z, oL3.at_] at this; cases this
      rw [upd_ne this]; exact h2.fr
    | false =>
      have ht := three_of hany3 hf
      have hmu : (match H3 dn with
          | some (.dT kn) => 64 - kn.length
          | _ => 0) = 64 - es.length := by rw [on3.at_]; show 64 - kn.length = _; rw [hln]
      have hfu1 : ∃ f', fu = f' + 1 := ⟨fu - 1, by
        have : FUEL = 65538 := rfl
        omega⟩
      obtain ⟨f', rfl⟩ := hfu1
      have k4 := elems_go hle ht k3
      have ho3 := ho.ext e3 (by simpa using ndr)
      have hdd : d ≠ dn := fun z => by have := ho.at_; rw [z, hdn] at this; cases this
      have hLr : L ≠ r := fun z => by
        obtain ⟨_, dx, t, tk, h2, _, _⟩ := hR3
        have := h2.at_
        rw [← z, oL3.at_] at this; cases this
      refine iteT ⟨_, rfl, .inl ⟨rfl, _, SqL.of oL3.at_⟩, _, rfl, _, rfl, _, rfl, G3, r, b, p3, d, kvs, gl, dn, kn, es, rfl, e3.sub, hR3, ho3, hg.mono e3.grow, on3, hkn, hln, hdd, hle, ht, ?_⟩
      unfold PK
      have hbr := Ma.bind_run (Ma.rElem gl es (tokX b p3).1) (fun e => Ln.Text.elems gl (f' + 1) (es ++ [e])) (Lx b p3)
      unfold PK at k4
      cases hx : Ma.rElem gl es (tokX b p3).1 (Lx b p3) with
      | error e => rw [hx] at hbr; rw [hbr] at k4; exact k4
      | ok x =>
        obtain ⟨e, l'⟩ := x
        rw [hx] at hbr
        rw [hbr] at k4
        intro p5 hl5 hlt v5 G5 H5 kn5 e5 hR5 on5 hkn5 hln5 hel
        have hl5' : l' = Lx b p5 := hl5
        subst hl5'
        have k5 : PK CF (Ln.Text.elems gl (f' + 1) (es ++ [e])) (fun es p' => ∀ v G' H', Ext [r] G H G' H' → RdAt K CR G' H' r b p' → PathAt K CE G' v es gl → es.length ≤ 64 → Q v H') b p5 E := k4
        have oL5 := oL3.ext e5 (by simp [hLr, hLd])
        have hvl := Paired.length hpd
        refine ⟨L, _, _, rfl, rfl, oL5.at_, Nat.lt_of_le_of_lt (show vs.length ≤ 64 by omega) (by decide), ?_⟩
        have e35 : Ext [r] G H G5 H5 := Ext.drop hdn (Ext.swap ((Ext.two e3).trans e5))
        have e6 := e35.put (.inl hL0) oL5.fr (o := .lst (vs ++ [v5]))
        have e56 : Ext [L] G5 H5 G5 (upd H5 L (.lst (vs ++ [v5]))) := (Ext.refl e5.sub).put (.inr (by simp)) oL5.fr
        have hR6 := hR5.ext e56 (by simpa using fun z => hLr z.symm)
        have on6 := on5.ext e56 (by simpa using fun z => hLd z.symm)
        have oL6 : Own G5 (upd H5 L (.lst (vs ++ [v5]))) L (.lst (vs ++ [v5])) := ⟨upd_same, oL5.fr⟩
        generalize upd H5 L (.lst (vs ++ [v5])) = H6 at e6 e56 hR6 on6 oL6
        refine ⟨r, rfl, hR6.m m4, (by show 4 ≤ sizeLine; decide), fun t7 ht7 => ?_⟩
        have e7 := e6.lay ht7 (o := .tup [.str "surface", .str "mirror", .str "stop", .str "end"])
        have e67 : Ext [] G5 H6 _ _ := (Ext.refl e6.sub).lay ht7 (o := .tup [.str "surface", .str "mirror", .str "stop", .str "end"])
        have on7 := on6.ext e67 (by simp)
        refine ⟨_, r, b, p5, t7, four, rfl, e7.sub, hR6.ext e67 (by simp), .of upd_same, (by decide +kernel), elems_expect k5 fun hb7 hany7 => ⟨⟨rfl, _, p5, kn5, vs ++ [v5], es ++ [e], f', e7, hR6.ext e67 (by simp), on7, oL6.ext e67 (by simp), hkn5, ?_, ?_, ?_, ?_, hany7, k5⟩, ?_⟩⟩
        · rw [List.length_append]; exact hln5
        · exact Paired.snoc (Paired.map' (fun _ _ z => (z.mono e5.grow).mono e67.grow) hpd) (hel.mono e67.grow)
        · rw [List.length_append]; show es.length + 1 ≤ 64; omega
        · rw [List.length_append]; show f' + 1 + (es.length + 1) = FUEL; omega
        · rw [hmu, on7.at_]
          show 64 - kn5.length < _
          rw [hln5]; omega
def sf (m p : V) : List (Str × V) := putF "path" p (putF "medium" m [])
structure Ts (K : PySem.W.Frag) (CS : Addr) : Prop where
  cl : Cls K CS
  n1 : NoAttr K CS "medium"
  n2 : NoAttr K CS "path"
def spSI (CS : Addr) : Sp := fun vs H Q _ => ∃ (x dx : Addr) (a1 a2 : V), vs = [.ref x, a1, a2] ∧ H x = some (.ins CS dx []) ∧ Q .non (upd H x (.ins CS dx (sf a1 a2)))
theorem sc_si : FnScope ["self", "medium", "path"] ["self", "medium", "path"] (defScope s_System_init) := ⟨rfl, rfl, rfl, by decide +kernel, rfl, by decide +kernel, by decide +kernel⟩
theorem ok_si {f : Addr} {fd : FuncData} (F : Fun K "__init__" "System.__init__" s_System_init f fd) (T : Ts K CS) : FnOk prog w K mg base (cxX prog w) 1 f fd ["self", "medium", "path"] (spSI CS) := by
  refine F.okX sc_si (fun vs H Q E h => ?_) (fun cdv A outer s H vs Q E hr h => ?_)
  · obtain ⟨x, dx, a1, a2, rfl, _⟩ := h; rfl
  · obtain ⟨x, dx, a1, a2, rfl, hx, k⟩ := h
    refine ⟨_, pss_cons (ps_fld (pv 0) (pv 1) rfl) (pss_one (ps_fld (pv 0) (pv 2) rfl)), ?_⟩
    refine ⟨_, rfl, _, rfl, x, CS, dx, _, rfl, hx, T.cl, T.n1, (by show 0 < 1000; decide), ?_⟩
    refine ⟨_, rfl, _, rfl, x, CS, dx, _, rfl, upd_same, T.cl, T.n2, (by show 1 < 1000; decide), ?_⟩
    rw [upd_upd]
    exact k
structure SysAt (K : PySem.W.Frag) (CS CE : Addr) (G : Hp) (v : V) (s : System_) : Prop where
  ex : ∃ x dx vm vp, v = .ref x ∧ G x = some (.ins CS dx (sf vm vp)) ∧ Tri K G vm (Ma.triple s s.start) ∧ PathAt K CE G vp s.elems s.glasses
  ok : GlOk s.glasses
  st : s.start < s.glasses.length
  le : s.elems.length ≤ 64
def sysP : P System_ := (Ln.Text.glass [] >>= fun g => Ln.Text.glasses FUEL [g]) >>= fun l => Ma.takeK (.w "start") >>= fun _ => Ln.Text.glassNamed l >>= fun m => Ma.takeK (.m 59) >>= fun _ => Ln.Text.elems l FUEL [] >>= fun es => pure ⟨l, m, es⟩
theorem sys_eq : Ln.Text.system = sysP := by
  unfold sysP
  rw [Ma.bind_assoc']
  show (Ln.Text.glass [] >>= fun g => Ln.Text.glasses FUEL [g] >>= fun l => Ln.Text.word "start" >>= fun _ => Ln.Text.glassNamed l >>= fun m => Ln.Text.mark 59 >>= fun _ => Ln.Text.elems l FUEL [] >>= fun es => (pure ⟨l, m, es⟩ : P System_)) = _
  refine Ma.bind_congr' fun g => Ma.bind_congr' fun l => ?_
  rw [Ma.take_word]
  refine Ma.bind_congr' fun _ => Ma.bind_congr' fun m => ?_
  rw [Ma.take_mark]
def OutS (K : PySem.W.Frag) (CS CE CF : Addr) (G H : Hp) (b : Bytes) (Q : VK) (E : XK) : Prop := match Ln.Text.read b with
  | .ok s => ∀ v G' H', Ext [] G H G' H' → SysAt K CS CE G' v s → Q v H'
  | .error e => Errs CF E e
def spSys (K : PySem.W.Frag) (CS CE CF : Addr) : Sp := fun vs H Q E => ∃ (G : Hp) (a : V) (b : Bytes), vs = [a] ∧ Same G H ∧ Bs K G a b ∧ OutS K CS CE CF G H b Q E
theorem sc_rsy : FnScope ["text", "reader", "glasses", "medium"] ["text"] (defScope s_read_system) := ⟨rfl, rfl, rfl, by decide +kernel, rfl, by decide +kernel, by decide +kernel⟩
theorem ok_rsy {f : Addr} {fd : FuncData} (F : Fun K "read_system" "read_system" s_read_system f fd) (T : Tn K mg CN CF CR) (D : Rdr w K mg base CR CF) (DR : Mdl prog w K mg base 6 CR "Reader" ["self", "text"] (spRI K CR)) (DS : Mdl prog w K mg base 1 CS "System" ["self", "medium", "path"] (spSI CS))
    (Dg : Def prog w K mg base 12 "read_glasses" ["reader"] (spGlasses K CR CF)) (Dk : Def prog w K mg base 8 "read_known_glass" ["reader", "glasses"] (spKnown K CR CF)) (Dp : Def prog w K mg base 13 "read_path" ["reader", "glasses"] (spPath K CR CF CE)) :
    FnOk prog w K mg base (cxX prog w) 14 f fd ["text"] (spSys K CS CE CF) := by
  refine F.okX sc_rsy (fun vs H Q E h => ?_) (fun cdv A outer s H vs Q E hr h => ?_)
  · obtain ⟨G, a, b, rfl, _⟩ := h; rfl
  · obtain ⟨G, a, b, rfl, sm, ha, kk⟩ := h
    have hr2 := hr.mono (show 2 ≤ 13 by decide)
    have hr7 := hr.mono (show 7 ≤ 13 by decide)
    have hr8 := hr.mono (show 8 ≤ 13 by decide)
    have hr12 := hr.mono (show 12 ≤ 13 by decide)
    refine ⟨_, pss_cons (ps_set (i := 1) sc_rsy.nd rfl (Or.inl rfl) (pe_new DR hr7 pass_cx (pa_cons (pv 0) pa_nil)))
      (pss_cons (ps_set (i := 2) sc_rsy.nd rfl (Or.inl rfl) (pe_def Dg hr12 pass_cx (pa_cons (pv 1) pa_nil)))
      (pss_cons (ps_expr (pmr D.take T.cl hr7 pass_cx (pv 1) (pa_cons pe_str pa_nil)))
      (pss_cons (ps_set (i := 3) sc_rsy.nd rfl (Or.inl rfl) (pe_def Dk hr8 pass_cx (pa_cons (pv 1) (pa_cons (pv 2) pa_nil))))
      (pss_cons (ps_expr (pmr D.take T.cl hr7 pass_cx (pv 1) (pa_cons pe_str pa_nil)))
      (pss_one (ps_ret (pe_new DS hr2 pass_cx (pa_cons (pv 3) (pa_cons (pe_def Dp hr pass_cx (pa_cons (pv 1) (pa_cons (pv 2) pa_nil))) pa_nil))))))))), ?_⟩
    refine ⟨_, rfl, fun r dx hrn hdn hne => ?_⟩
    have e0 : Ext [] G H G (upd H dx (.own r)) := (Ext.refl sm).lend hdn
    have hr1 : upd H dx (.own r) r = none := by rw [upd_ne (fun z => hne z.symm)]; exact hrn
    have e1 := e0.lend hr1 (o := .ins CR dx [])
    refine ⟨G, r, dx, a, b, rfl, e1.sub, ⟨upd_same, sm.free hrn⟩, ha, fun G2 H2 e2 hR2 => ⟨rfl, ?_⟩⟩
    have e02 : Ext [r] G H G2 H2 := e1.up.trans e2
    have k0 : PK CF sysP (fun s _ => ∀ v G' H', Ext [] G H G' H' → SysAt K CS CE G' v s → Q v H') b 0 E := by
      unfold PK
      unfold OutS at kk
      have er : Ln.Text.read b = (sysP (Lx b 0)).map fun x => x.1 := by
        unfold Ln.Text.read
        rw [sys_eq, Ma.tokens_Lx]; rfl
      rw [er] at kk
      cases hx : sysP (Lx b 0) with
      | error e => rw [hx] at kk; exact kk
      | ok x => rw [hx] at kk; exact fun _ _ => kk
    refine ⟨_, rfl, System_, G2, r, b, 0, _, _, rfl, e2.sub, hR2, k0, fun d G3 H3 p3 kvs gl e3 hR3 o3 hg3 hok3 k3 => ?_⟩
    refine ⟨r, rfl, hR3.m m6, G3, r, b, p3, .w "start", rfl, e3.sub, hR3, (by decide +kernel), k3.take (by decide +kernel) fun v4 G4 H4 _ e4 hR4 _ k4 => ?_⟩
    have ndr : d ≠ r := hR3.nd o3
    have o4 := o3.ext e4 (by simpa using ndr)
    have hg4 := hg3.mono e4.grow
    refine ⟨_, rfl, _, rfl, G4, r, b, _, d, kvs, gl, rfl, e4.sub, hR4, o4, hg4, k4.call fun m v5 G5 H5 p5 hm5 e5 hR5 hv5 k5 => ?_⟩
    have o5 := o4.ext e5 (by simpa using ndr)
    refine ⟨r, rfl, hR5.m m6, G5, r, b, p5, .m 59, rfl, e5.sub, hR5, (by decide +kernel), k5.take (by decide +kernel) fun v6 G6 H6 _ e6 hR6 _ k6 => ?_⟩
    have o6 := o5.ext e6 (by simpa using ndr)
    have e06 : Ext [r] G H G6 H6 := (((e02.trans e3).trans e4).trans e5).trans e6
    refine ⟨_, rfl, _, rfl, _, rfl, G6, r, b, _, d, kvs, gl, rfl, e6.sub, hR6, o6, (hg4.mono e5.grow).mono e6.grow, ?_⟩
    unfold PK
    have hbr := Ma.bind_run (Ln.Text.elems gl FUEL []) (fun es => (pure ⟨gl, m, es⟩ : P System_)) (Lx b (tokS b p5 + (tokX b p5).2))
    unfold PK at k6
    cases hx : Ln.Text.elems gl FUEL [] (Lx b (tokS b p5 + (tokX b p5).2)) with
    | error e => rw [hx] at hbr; rw [hbr] at k6; exact k6
    | ok x =>
      obtain ⟨es, l'⟩ := x
      rw [hx] at hbr
      rw [hbr] at k6
      intro p7 hl7 v7 G7 H7 e7 hR7 hpath hle7
      have e07 : Ext [] G H G7 H7 := Ext.drop hrn (e06.trans e7)
      refine fun x dx' hx hdx hne' => ?_
      have eA : Ext [] G H G7 (upd H7 dx' (.own x)) := e07.lend hdx
      have hx1 : upd H7 dx' (.own x) x = none := by rw [upd_ne (fun z => hne' z.symm)]; exact hx
      refine ⟨x, dx', _, _, rfl, upd_same, rfl, ?_⟩
      rw [upd_upd]
      have eC := eA.lay hx1 (o := .ins CS dx' (sf v5 v7))
      have gC : Same G7 (upd G7 x (.ins CS dx' (sf v5 v7))) := ((Ext.refl (M := []) eA.sub).lay hx1 (o := .ins CS dx' (sf v5 v7))).grow
      exact k6 p7 hl7 _ _ _ eC ⟨⟨x, dx', v5, v7, rfl, upd_same, hv5.mono ((e6.grow.trans e7.grow).trans gC), hpath.mono gC⟩, hok3, named_lt hm5, hle7⟩
end
end Th
set_option maxHeartbeats 2000000
namespace Th
open PySem PySem.Spec PyProof.Rows L2
open Ln (Bytes Glass Elem System_)
open Ma (GlOk Stn StnOk)
def stf (a w b c d e f g : V) : List (Str × V) := putF "colour" g (putF "conic" f (putF "bend" e (putF "square" d (putF "behind" c (putF "before" b (putF "walk" w (putF "stop" a [])))))))
structure StAt (K : PySem.W.Frag) (CT : Addr) (G : Hp) (v : V) (t : Stn) : Prop where
  ex : ∃ x dx vw vb vh vs vd vc vl, v = .ref x ∧ G x = some (.ins CT dx (stf (.bl t.stop) vw vb vh vs vd vc vl)) ∧ Fr K G vw t.walk ∧ Fr K G vb t.before ∧ Fr K G vh t.behind ∧ Fr K G vs t.square ∧ Fr K G vd t.bend ∧ Fr K G vc t.conic ∧ Fr K G vl t.colour
  ok : StnOk t
theorem StAt.mono {K : PySem.W.Frag} {CT : Addr} {G G' : Hp} {v : V} {t : Stn} (s : Same G G') (h : StAt K CT G v t) : StAt K CT G' v t := by
  obtain ⟨⟨x, dx, vw, vb, vh, vs, vd, vc, vl, h1, h2, a1, a2, a3, a4, a5, a6, a7⟩, ok⟩ := h
  exact ⟨⟨x, dx, vw, vb, vh, vs, vd, vc, vl, h1, s _ _ h2, Fr.mono _ _ _ _ s a1, Fr.mono _ _ _ _ s a2, Fr.mono _ _ _ _ s a3, Fr.mono _ _ _ _ s a4, Fr.mono _ _ _ _ s a5, Fr.mono _ _ _ _ s a6, Fr.mono _ _ _ _ s a7⟩, ok⟩
theorem tri_at {K : PySem.W.Frag} {G : Hp} {v : V} {l : List Rat} (h : Tri K G v l) {j : Nat} {q : Rat} (hj : l[j]? = some q) : ∃ p xs u, v = .ref p ∧ SqT K G p xs ∧ atI xs (j : Int) = some u ∧ Fr K G u q := by
  obtain ⟨p, xs, e, hs, hp⟩ := h
  have key : ∀ {xs : List V} {l : List Rat}, Paired (Fr K G) xs l → ∀ {j : Nat} {q : Rat}, l[j]? = some q → ∃ u, xs[j]? = some u ∧ Fr K G u q := by
    intro xs l hp
    induction hp with
    | nil => intro j q h; cases h
    | @cons a b xs l h t ih =>
      intro j q hj
      cases j with
      | zero => cases hj; exact ⟨a, rfl, h⟩
      | succ j => exact ih (j := j) hj
  obtain ⟨u, hu, hf⟩ := key hp hj
  exact ⟨p, xs, u, e, hs, atI_nat hu, hf⟩
structure Tt (K : PySem.W.Frag) (CT : Addr) : Prop where
  cl : Cls K CT
  n1 : NoAttr K CT "stop"
  n2 : NoAttr K CT "walk"
  n3 : NoAttr K CT "before"
  n4 : NoAttr K CT "behind"
  n5 : NoAttr K CT "square"
  n6 : NoAttr K CT "bend"
  n7 : NoAttr K CT "conic"
  n8 : NoAttr K CT "colour"
section
variable {w : World} {K : PySem.W.Frag} {mg : Str → Option Value} {base : Heap} {CE CS CT : Addr}
def spTI (K : PySem.W.Frag) (CT : Addr) : Sp := fun vs H Q _ => ∃ (x dx : Addr) (a1 a2 : V), vs = [.ref x, a1, a2] ∧ H x = some (.ins CT dx []) ∧ ∀ z, (∀ G, Fr K G z 0) → Q .non (upd H x (.ins CT dx (stf a1 a2 z z z z z z)))
theorem sc_ti : FnScope ["self", "stop", "walk"] ["self", "stop", "walk"] (defScope s_Station_init) := ⟨rfl, rfl, rfl, by decide +kernel, rfl, by decide +kernel, by decide +kernel⟩
theorem ok_ti {f : Addr} {fd : FuncData} (F : Fun K "__init__" "Station.__init__" s_Station_init f fd) (T : Tt K CT) (Z : Tq K mg) : FnOk prog w K mg base (cxX prog w) 1 f fd ["self", "stop", "walk"] (spTI K CT) := by
  refine F.okX sc_ti (fun vs H Q E h => ?_) (fun cdv A outer s H vs Q E hr h => ?_)
  · obtain ⟨x, dx, a1, a2, rfl, _⟩ := h; rfl
  · obtain ⟨x, dx, a1, a2, rfl, hx, k⟩ := h
    obtain ⟨aZ, mZ, hZ⟩ := Z.zero_
    refine ⟨_, pss_cons (ps_fld (pv 0) (pv 1) rfl) (pss_cons (ps_fld (pv 0) (pv 2) rfl) (pss_cons (ps_fld (pv 0) (pe_glob (v := .ref aZ) (by rfl) mZ rfl) rfl) (pss_cons (ps_fld (pv 0) (pe_glob (v := .ref aZ) (by rfl) mZ rfl) rfl) (pss_cons (ps_fld (pv 0) (pe_glob (v := .ref aZ) (by rfl) mZ rfl) rfl) (pss_cons (ps_fld (pv 0) (pe_glob (v := .ref aZ) (by rfl) mZ rfl) rfl) (pss_cons (ps_fld (pv 0) (pe_glob (v := .ref aZ) (by rfl) mZ rfl) rfl) (pss_one (ps_fld (pv 0) (pe_glob (v := .ref aZ) (by rfl) mZ rfl) rfl)))))))), ?_⟩
    refine ⟨_, rfl, _, rfl, x, CT, dx, _, rfl, hx, T.cl, T.n1, (by show 0 < 1000; decide), ?_⟩
    refine ⟨_, rfl, _, rfl, x, CT, dx, _, rfl, upd_same, T.cl, T.n2, (by show 1 < 1000; decide), ?_⟩
    rw [upd_upd]
    refine ⟨_, rfl, x, CT, dx, _, rfl, upd_same, T.cl, T.n3, (by show 2 < 1000; decide), ?_⟩
    rw [upd_upd]
    refine ⟨_, rfl, x, CT, dx, _, rfl, upd_same, T.cl, T.n4, (by show 3 < 1000; decide), ?_⟩
    rw [upd_upd]
    refine ⟨_, rfl, x, CT, dx, _, rfl, upd_same, T.cl, T.n5, (by show 4 < 1000; decide), ?_⟩
    rw [upd_upd]
    refine ⟨_, rfl, x, CT, dx, _, rfl, upd_same, T.cl, T.n6, (by show 5 < 1000; decide), ?_⟩
    rw [upd_upd]
    refine ⟨_, rfl, x, CT, dx, _, rfl, upd_same, T.cl, T.n7, (by show 6 < 1000; decide), ?_⟩
    rw [upd_upd]
    refine ⟨_, rfl, x, CT, dx, _, rfl, upd_same, T.cl, T.n8, (by show 7 < 1000; decide), ?_⟩
    rw [upd_upd]
    exact k (.ref aZ) fun G => ⟨aZ, rfl, hZ _⟩
def Idx3 (l : List Rat) : Prop := l.length = 3 ∧ ∀ q ∈ l, 1 ≤ q ∧ Ma.Sz 60 q
theorem Idx3.get {l : List Rat} (h : Idx3 l) {j : Nat} (hj : j < 3) : l[j]? = some (l.getD j 1) ∧ 1 ≤ l.getD j 1 ∧ Ma.Sz 60 (l.getD j 1) ∧ l.getD j 1 ≠ 0 := by
  have hlt : j < l.length := by rw [h.1]; exact hj
  have e : l[j]? = some (l.getD j 1) := by rw [List.getD_eq_getElem?_getD, List.getElem?_eq_getElem hlt]; rfl
  have m := h.2 _ (List.mem_of_getElem? e)
  refine ⟨e, m.1, m.2, fun z => ?_⟩
  rw [z] at m
  exact absurd m.1 (by decide)
def spSpread (K : PySem.W.Frag) : Sp := fun vs H Q _ => ∃ (G : Hp) (a : V) (l : List Rat) (line : Nat), vs = [a, .int (line : Int)] ∧ Same G H ∧ Tri K G a l ∧ Idx3 l ∧ line < 3 ∧ ∀ v G' H', Ext [] G H G' H' → Fr K G' v ((l.getD 1 1 - l.getD 2 1) / l.getD line 1) → Q v H'
theorem sc_spr : FnScope ["medium", "line"] ["medium", "line"] (defScope s_spread) := ⟨rfl, rfl, rfl, by decide +kernel, rfl, by decide +kernel, by decide +kernel⟩
theorem ok_spr {f : Addr} {fd : FuncData} (F : Fun K "spread" "spread" s_spread f fd) (Do : Def prog w K mg base 3 "over" ["x", "y"] (sp2 K BigQ fun p q => p / q)) (Dm : Def prog w K mg base 4 "minus" ["x", "y"] (sp2 K Big2 fun p q => p - q)) : FnOk prog w K mg base (cxX prog w) 5 f fd ["medium", "line"] (spSpread K) := by
  refine F.okX sc_spr (fun vs H Q E h => ?_) (fun cdv A outer s H vs Q E hr h => ?_)
  · obtain ⟨G, a, l, line, rfl, _⟩ := h; rfl
  · obtain ⟨G, a, l, line, rfl, sm, ha, h3, hl, k⟩ := h
    have hr3 := hr.mono (show 3 ≤ 4 by decide)
    refine ⟨_, pss_one (ps_ret (pe_def Do hr3 pass_cx (pa_cons (pe_def Dm hr pass_cx (pa_cons (px 0 (pv 0)) (pa_cons (px 0 (pv 0)) pa_nil))) (pa_cons (pe_ix ix_tup (pv 0) (pv 1) (fun _ _ => rfl)) pa_nil)))), ?_⟩
    obtain ⟨g1, _, s1, _⟩ := h3.get (j := 1) (by decide)
    obtain ⟨g2, _, s2, _⟩ := h3.get (j := 2) (by decide)
    obtain ⟨g3, _, s3, n3⟩ := h3.get hl
    obtain ⟨p, xs, u1, rfl, q1, a1, f1⟩ := tri_at ha g1
    obtain ⟨p', xs', u2, e2, q2, a2, f2⟩ := tri_at ha g2
    cases e2
    obtain ⟨p', xs3, u3, e3, q3, a3, f3⟩ := tri_at ha g3
    cases e3
    refine ⟨p, _, _, rfl, sm.seqT q1, a1, p, _, _, rfl, sm.seqT q2, a2, G, _, _, _, _, rfl, sm, f1, f2, ⟨s1.mono (by decide), s2.mono (by decide)⟩, fun v G1 H1 e1 hv => ?_⟩
    refine ⟨_, rfl, _, rfl, p, _, _, _, rfl, rfl, e1.sub.seqT (e1.grow.seqT q3), a3, G1, _, _, _, _, rfl, e1.sub, hv, Fr.mono _ _ _ _ e1.grow f3, ⟨(s1.sub s2).mono (by decide), s3.mono (by decide), n3⟩, fun v2 G2 H2 e2 h2 => k v2 G2 H2 (e1.trans e2) h2⟩
theorem sc_sqd : FnScope ["x"] ["x"] (defScope s_squared) := ⟨rfl, rfl, rfl, by decide +kernel, rfl, by decide +kernel, by decide +kernel⟩
theorem ok_sqd {f : Addr} {fd : FuncData} (F : Fun K "squared" "squared" s_squared f fd) (Dt : Def prog w K mg base 3 "times" ["x", "y"] (sp2 K Big2 fun p q => p * q)) : FnOk prog w K mg base (cxX prog w) 4 f fd ["x"] (sp1 K Szb fun p => p * p) := by
  refine F.okX sc_sqd (fun vs H Q E h => ?_) (fun cdv A outer s H vs Q E hr h => ?_)
  · obtain ⟨G, a, p, rfl, _⟩ := h; rfl
  · obtain ⟨G, a, p, rfl, sm, ha, hs, k⟩ := h
    refine ⟨_, pss_one (ps_ret (pe_def Dt hr pass_cx (pa_cons (pv 0) (pa_cons (pv 0) pa_nil)))), ?_⟩
    exact ⟨_, rfl, _, rfl, G, _, _, p, p, rfl, sm, ha, ha, ⟨hs, hs⟩, k⟩
end
end Th
set_option maxHeartbeats 2000000
namespace Th
open PySem PySem.Spec PyProof.Rows L2
open Ln (Bytes Glass Elem System_)
open Ma (GlOk Stn StnOk Sz)
theorem stf_before (a w b c d e f g v : V) : putF "before" v (stf a w b c d e f g) = stf a w v c d e f g := rfl
theorem stf_behind (a w b c d e f g v : V) : putF "behind" v (stf a w b c d e f g) = stf a w b v d e f g := rfl
theorem stf_square (a w b c d e f g v : V) : putF "square" v (stf a w b c d e f g) = stf a w b c v e f g := rfl
theorem stf_bend (a w b c d e f g v : V) : putF "bend" v (stf a w b c d e f g) = stf a w b c d v f g := rfl
theorem stf_conic (a w b c d e f g v : V) : putF "conic" v (stf a w b c d e f g) = stf a w b c d e v g := rfl
theorem stf_colour (a w b c d e f g v : V) : putF "colour" v (stf a w b c d e f g) = stf a w b c d e f v := rfl
theorem ef_word (a b c d e : V) : (ef a b c d e).lookup ("word" : Str) = some a := rfl
theorem ef_gap (a b c d e : V) : (ef a b c d e).lookup ("gap" : Str) = some b := rfl
theorem ef_glass (a b c d e : V) : (ef a b c d e).lookup ("glass" : Str) = some c := rfl
theorem ef_curve (a b c d e : V) : (ef a b c d e).lookup ("curve" : Str) = some d := rfl
theorem ef_conic (a b c d e : V) : (ef a b c d e).lookup ("conic" : Str) = some e := rfl
section
variable {w : World} {K : PySem.W.Frag} {mg : Str → Option Value} {base : Heap} {CE CS CT : Addr}
structure Arith (w : World) (K : PySem.W.Frag) (mg : Str → Option Value) (base : Heap) : Prop where
  neg : Def prog w K mg base 1 "negative" ["x"] (sp1 K (fun _ => True) fun p => -p)
  plus : Def prog w K mg base 3 "plus" ["x", "y"] (sp2 K Big2 fun p q => p + q)
  minus : Def prog w K mg base 4 "minus" ["x", "y"] (sp2 K Big2 fun p q => p - q)
  times : Def prog w K mg base 3 "times" ["x", "y"] (sp2 K Big2 fun p q => p * q)
  over : Def prog w K mg base 3 "over" ["x", "y"] (sp2 K BigQ fun p q => p / q)
def spShape (K : PySem.W.Frag) (CE CT : Addr) : Sp := fun vs H Q _ => ∃ (G : Hp) (x dx : Addr) (ve vn vm : V) (a1 a2 a3 a4 a5 a6 a7 a8 : V) (el : Elem) (gl : List Glass) (n m : Rat), vs = [.ref x, ve, vn, vm] ∧ Same G H ∧ Own G H x (.ins CT dx (stf a1 a2 a3 a4 a5 a6 a7 a8)) ∧ ElAt K CE G ve el gl ∧ Fr K G vn n ∧ Fr K G vm m ∧ Sz 60 n ∧ Sz 60 m ∧ n ≠ 0 ∧ m ≠ 0 ∧
  ∀ G' H' vb vh vs vd vc, Ext [x] G H G' H' → Own G' H' x (.ins CT dx (stf a1 a2 vb vh vs vd vc a8)) → Fr K G' vb (n * el.curve) → Fr K G' vh (m * el.curve) → Fr K G' vs (1 / (m * m) - 1 / (n * n)) → Fr K G' vd (el.curve * (1 / m - 1 / n)) → Fr K G' vc (el.conic * (el.curve * (el.curve * el.curve)) * (m - n)) → Q .non H'
theorem sc_shp : FnScope ["station", "element", "n", "m", "curve"] ["station", "element", "n", "m"] (defScope s_shape_station) := ⟨rfl, rfl, rfl, by decide +kernel, rfl, by decide +kernel, by decide +kernel⟩
theorem ok_shp {f : Addr} {fd : FuncData} (F : Fun K "shape_station" "shape_station" s_shape_station f fd) (T : Tt K CT) (TE : Te K CE) (Z : Tq K mg) (D : Arith w K mg base) (Ds : Def prog w K mg base 4 "squared" ["x"] (sp1 K Szb fun p => p * p)) : FnOk prog w K mg base (cxX prog w) 5 f fd ["station", "element", "n", "m"] (spShape K CE CT) := by
  refine F.okX sc_shp (fun vs H Q E h => ?_) (fun cdv A outer s H vs Q E hr h => ?_)
  · obtain ⟨G, x, dx, ve, vn, vm, a1, a2, a3, a4, a5, a6, a7, a8, el, gl, n, m, rfl, _⟩ := h; rfl
  · obtain ⟨G, x, dx, ve, vn, vm, a1, a2, a3, a4, a5, a6, a7, a8, el, gl, n, m, rfl, sm, ho, hel, hn, hm, sn, sm', n0, m0, k⟩ := h
    have hr3 := hr.mono (show 3 ≤ 4 by decide)
    obtain ⟨aO, mO, hO⟩ := Z.one_
    have one : ∀ G, Fr K G (.ref aO) 1 := fun G => ⟨aO, rfl, hO _⟩
    obtain ⟨⟨xe, dxe, vg, vl, vc, vk, rfl, hxe, _, hc, hk, _⟩, _, sc, sk⟩ := hel
    refine ⟨_, pss_cons (ps_set (i := 4) sc_shp.nd rfl (Or.inl rfl) (pe_fld (pv 1) rfl))
      (pss_cons (ps_fld (pv 0) (pe_def D.times hr3 pass_cx (pa_cons (pv 2) (pa_cons (pv 4) pa_nil))) rfl)
      (pss_cons (ps_fld (pv 0) (pe_def D.times hr3 pass_cx (pa_cons (pv 3) (pa_cons (pv 4) pa_nil))) rfl)
      (pss_cons (ps_fld (pv 0) (pe_def D.minus hr pass_cx (pa_cons (pe_def D.over hr3 pass_cx (pa_cons (pe_glob (v := .ref aO) (by rfl) mO rfl) (pa_cons (pe_def Ds hr pass_cx (pa_cons (pv 3) pa_nil)) pa_nil))) (pa_cons (pe_def D.over hr3 pass_cx (pa_cons (pe_glob (v := .ref aO) (by rfl) mO rfl) (pa_cons (pe_def Ds hr pass_cx (pa_cons (pv 2) pa_nil)) pa_nil))) pa_nil))) rfl)
      (pss_cons (ps_fld (pv 0) (pe_def D.times hr3 pass_cx (pa_cons (pv 4) (pa_cons (pe_def D.minus hr pass_cx (pa_cons (pe_def D.over hr3 pass_cx (pa_cons (pe_glob (v := .ref aO) (by rfl) mO rfl) (pa_cons (pv 3) pa_nil))) (pa_cons (pe_def D.over hr3 pass_cx (pa_cons (pe_glob (v := .ref aO) (by rfl) mO rfl) (pa_cons (pv 2) pa_nil))) pa_nil))) pa_nil))) rfl)
      (pss_one (ps_fld (pv 0) (pe_def D.times hr3 pass_cx (pa_cons (pe_def D.times hr3 pass_cx (pa_cons (pe_fld (pv 1) rfl) (pa_cons (pe_def D.times hr3 pass_cx (pa_cons (pv 4) (pa_cons (pe_def Ds hr pass_cx (pa_cons (pv 4) pa_nil)) pa_nil))) pa_nil))) (pa_cons (pe_def D.minus hr pass_cx (pa_cons (pv 3) (pa_cons (pv 2) pa_nil))) pa_nil))) rfl)))))), ?_⟩
    have big : ∀ {j : Nat} {q : Rat}, Sz j q → j ≤ 30000000 → Szb q := fun h le => h.mono le
    have hmm : m * m ≠ 0 := Ma.mul_ne m0 m0
    have hnn : n * n ≠ 0 := Ma.mul_ne n0 n0
    refine ⟨_, rfl, xe, CE, dxe, _, _, rfl, sm _ _ hxe, TE.cl, TE.n4, ef_curve _ _ _ _ _, ?_⟩
    refine ⟨_, rfl, _, rfl, G, _, _, n, el.curve, rfl, sm, hn, hc, ⟨big sn (by decide), big sc (by decide)⟩, fun vb G1 H1 e1 f1 => ?_⟩
    have o1 := ho.ext e1 (by simp)
    refine ⟨_, rfl, x, CT, dx, _, rfl, o1.at_, T.cl, T.n3, (by show 8 < 1000; decide), ?_⟩
    rw [stf_before]
    have E1 : Ext [x] G H G1 (upd H1 x (.ins CT dx (stf a1 a2 vb a4 a5 a6 a7 a8))) := e1.up.put (.inr (by simp)) o1.fr
    have p1 : Own G1 (upd H1 x (.ins CT dx (stf a1 a2 vb a4 a5 a6 a7 a8))) x (.ins CT dx (stf a1 a2 vb a4 a5 a6 a7 a8)) := ⟨upd_same, o1.fr⟩
    generalize upd H1 x (.ins CT dx (stf a1 a2 vb a4 a5 a6 a7 a8)) = J1 at E1 p1
    refine ⟨_, rfl, _, rfl, G1, _, _, m, el.curve, rfl, E1.sub, Fr.mono _ _ _ _ E1.grow hm, Fr.mono _ _ _ _ E1.grow hc, ⟨big sm' (by decide), big sc (by decide)⟩, fun vh G2 H2 e2 f2 => ?_⟩
    have o2 := p1.ext e2 (by simp)
    refine ⟨_, rfl, x, CT, dx, _, rfl, o2.at_, T.cl, T.n4, (by show 8 < 1000; decide), ?_⟩
    rw [stf_behind]
    have E2 : Ext [x] G H G2 (upd H2 x (.ins CT dx (stf a1 a2 vb vh a5 a6 a7 a8))) := (E1.tr0 e2).put (.inr (by simp)) o2.fr
    have p2 : Own G2 (upd H2 x (.ins CT dx (stf a1 a2 vb vh a5 a6 a7 a8))) x (.ins CT dx (stf a1 a2 vb vh a5 a6 a7 a8)) := ⟨upd_same, o2.fr⟩
    generalize upd H2 x (.ins CT dx (stf a1 a2 vb vh a5 a6 a7 a8)) = J2 at E2 p2
    refine ⟨_, rfl, G2, _, m, rfl, E2.sub, Fr.mono _ _ _ _ E2.grow hm, big sm' (by decide), fun v3 G3 H3 e3 f3 => ?_⟩
    refine ⟨G3, _, _, 1, m * m, rfl, e3.sub, one _, f3, ⟨big sz1 (by decide), big (sm'.mul sm') (by decide), hmm⟩, fun v4 G4 H4 e4 f4 => ?_⟩
    refine ⟨_, rfl, G4, _, n, rfl, e4.sub, Fr.mono _ _ _ _ ((E2.grow.trans e3.grow).trans e4.grow) hn, big sn (by decide), fun v5 G5 H5 e5 f5 => ?_⟩
    refine ⟨G5, _, _, 1, n * n, rfl, e5.sub, one _, f5, ⟨big sz1 (by decide), big (sn.mul sn) (by decide), hnn⟩, fun v6 G6 H6 e6 f6 => ?_⟩
    refine ⟨G6, _, _, 1 / (m * m), 1 / (n * n), rfl, e6.sub, Fr.mono _ _ _ _ (e5.grow.trans e6.grow) f4, f6, ⟨big (sz_inv (sm'.mul sm') hmm) (by decide), big (sz_inv (sn.mul sn) hnn) (by decide)⟩, fun vs7 G7 H7 e7 f7 => ?_⟩
    have e27 : Ext [] G2 J2 G7 H7 := (((e3.trans e4).trans e5).trans e6).trans e7
    have o7 := p2.ext e27 (by simp)
    refine ⟨_, rfl, x, CT, dx, _, rfl, o7.at_, T.cl, T.n5, (by show 8 < 1000; decide), ?_⟩
    rw [stf_square]
    have E7 : Ext [x] G H G7 (upd H7 x (.ins CT dx (stf a1 a2 vb vh vs7 a6 a7 a8))) := (E2.tr0 e27).put (.inr (by simp)) o7.fr
    have p7 : Own G7 (upd H7 x (.ins CT dx (stf a1 a2 vb vh vs7 a6 a7 a8))) x (.ins CT dx (stf a1 a2 vb vh vs7 a6 a7 a8)) := ⟨upd_same, o7.fr⟩
    generalize upd H7 x (.ins CT dx (stf a1 a2 vb vh vs7 a6 a7 a8)) = J7 at E7 p7
    refine ⟨_, rfl, _, rfl, G7, _, _, 1, m, rfl, E7.sub, one _, Fr.mono _ _ _ _ E7.grow hm, ⟨big sz1 (by decide), big sm' (by decide), m0⟩, fun v8 G8 H8 e8 f8 => ?_⟩
    refine ⟨_, rfl, G8, _, _, 1, n, rfl, e8.sub, one _, Fr.mono _ _ _ _ (E7.grow.trans e8.grow) hn, ⟨big sz1 (by decide), big sn (by decide), n0⟩, fun v9 G9 H9 e9 f9 => ?_⟩
    refine ⟨G9, _, _, 1 / m, 1 / n, rfl, e9.sub, Fr.mono _ _ _ _ e9.grow f8, f9, ⟨big (sz_inv sm' m0) (by decide), big (sz_inv sn n0) (by decide)⟩, fun v10 G10 H10 e10 f10 => ?_⟩
    have e710 : Ext [] G7 J7 G10 H10 := (e8.trans e9).trans e10
    refine ⟨G10, _, _, el.curve, 1 / m - 1 / n, rfl, e10.sub, Fr.mono _ _ _ _ (E7.grow.trans e710.grow) hc, f10, ⟨big sc (by decide), big ((sz_inv sm' m0).sub (sz_inv sn n0)) (by decide)⟩, fun vd G11 H11 e11 f11 => ?_⟩
    have e711 : Ext [] G7 J7 G11 H11 := e710.trans e11
    have o11 := p7.ext e711 (by simp)
    refine ⟨_, rfl, x, CT, dx, _, rfl, o11.at_, T.cl, T.n6, (by show 8 < 1000; decide), ?_⟩
    rw [stf_bend]
    have E11 : Ext [x] G H G11 (upd H11 x (.ins CT dx (stf a1 a2 vb vh vs7 vd a7 a8))) := (E7.tr0 e711).put (.inr (by simp)) o11.fr
    have p11 : Own G11 (upd H11 x (.ins CT dx (stf a1 a2 vb vh vs7 vd a7 a8))) x (.ins CT dx (stf a1 a2 vb vh vs7 vd a7 a8)) := ⟨upd_same, o11.fr⟩
    generalize upd H11 x (.ins CT dx (stf a1 a2 vb vh vs7 vd a7 a8)) = J11 at E11 p11
    refine ⟨_, rfl, xe, CE, dxe, _, _, rfl, E11.sub _ _ (E11.grow _ _ hxe), TE.cl, TE.n5, ef_conic _ _ _ _ _, ?_⟩
    refine ⟨_, rfl, _, rfl, G11, _, el.curve, rfl, E11.sub, Fr.mono _ _ _ _ E11.grow hc, big sc (by decide), fun v12 G12 H12 e12 f12 => ?_⟩
    refine ⟨G12, _, _, el.curve, el.curve * el.curve, rfl, e12.sub, Fr.mono _ _ _ _ (E11.grow.trans e12.grow) hc, f12, ⟨big sc (by decide), big (sc.mul sc) (by decide)⟩, fun v13 G13 H13 e13 f13 => ?_⟩
    refine ⟨G13, _, _, el.conic, el.curve * (el.curve * el.curve), rfl, e13.sub, Fr.mono _ _ _ _ ((E11.grow.trans e12.grow).trans e13.grow) hk, f13, ⟨big sk (by decide), big (sc.mul (sc.mul sc)) (by decide)⟩, fun v14 G14 H14 e14 f14 => ?_⟩
    have e1114 : Ext [] G11 J11 G14 H14 := (e12.trans e13).trans e14
    refine ⟨_, rfl, _, rfl, G14, _, _, m, n, rfl, e14.sub, Fr.mono _ _ _ _ (E11.grow.trans e1114.grow) hm, Fr.mono _ _ _ _ (E11.grow.trans e1114.grow) hn, ⟨big sm' (by decide), big sn (by decide)⟩, fun v15 G15 H15 e15 f15 => ?_⟩
    refine ⟨G15, _, _, el.conic * (el.curve * (el.curve * el.curve)), m - n, rfl, e15.sub, Fr.mono _ _ _ _ e15.grow f14, f15, ⟨big (sk.mul (sc.mul (sc.mul sc))) (by decide), big (sm'.sub sn) (by decide)⟩, fun vc16 G16 H16 e16 f16 => ?_⟩
    have e1116 : Ext [] G11 J11 G16 H16 := (e1114.trans e15).trans e16
    have o16 := p11.ext e1116 (by simp)
    refine ⟨_, rfl, x, CT, dx, _, rfl, o16.at_, T.cl, T.n7, (by show 8 < 1000; decide), ?_⟩
    rw [stf_conic]
    have E16 : Ext [x] G H G16 (upd H16 x (.ins CT dx (stf a1 a2 vb vh vs7 vd vc16 a8))) := (E11.tr0 e1116).put (.inr (by simp)) o16.fr
    refine k _ _ _ _ _ _ _ E16 ⟨upd_same, o16.fr⟩ ?_ ?_ ?_ ?_ f16
    · exact Fr.mono _ _ _ _ (((e2.grow.trans e27.grow).trans e711.grow).trans e1116.grow) f1
    · exact Fr.mono _ _ _ _ ((e27.grow.trans e711.grow).trans e1116.grow) f2
    · exact Fr.mono _ _ _ _ (e711.grow.trans e1116.grow) f7
    · exact Fr.mono _ _ _ _ e1116.grow f11
end
end Th
set_option maxHeartbeats 4000000
namespace Th
open PySem PySem.Spec PyProof.Rows L2
open Ln (Bytes Glass Elem System_)
open Ma (GlOk Stn StnOk Sz)
structure SysOk (s : System_) : Prop where
  gl : GlOk s.glasses
  st : s.start < s.glasses.length
  el : ∀ i m, (s.elem i).kind = .surface m → m < s.glasses.length
  sz : ∀ i, Sz 60 (s.elem i).gap ∧ Sz 60 (s.elem i).curve ∧ Sz 60 (s.elem i).conic
theorem SysOk.med {s : System_} (h : SysOk s) : ∀ i, s.medium i < s.glasses.length
  | 0 => h.st
  | i + 1 => by
    rw [Ma.medium_succ]
    cases hk : (s.elem i).kind with
    | surface m => exact h.el i m hk
    | mirror => exact h.med i
    | halt_ => exact h.med i
theorem SysOk.tri {s : System_} (h : SysOk s) {g : Nat} (hg : g < s.glasses.length) : Idx3 (Ma.triple s g) := by
  rcases Ma.triple_mem h.gl g with z | z
  · exfalso
    have : (s.glasses.map fun (x : Glass) => x.index)[g]? = some (s.glasses[g]).index := by rw [List.getElem?_map, List.getElem?_eq_getElem hg]; rfl
    have e : Ma.triple s g = (s.glasses[g]).index := by
      unfold Ma.triple
      rw [List.getD_eq_getElem?_getD, this]; rfl
    have := (h.gl _ (List.getElem_mem hg)).1
    rw [← e, z] at this
    cases this
  · exact z
def gi (s : System_) (line i : Nat) : Rat := (Ma.triple s (s.medium i)).getD line 1
theorem gi_eq (s : System_) (line i : Nat) : s.glassIndex (s.medium i) line = gi s line i := rfl
theorem SysOk.gi {s : System_} (h : SysOk s) {line : Nat} (hl : line < 3) (i : Nat) : Sz 60 (gi s line i) ∧ gi s line i ≠ 0 := by
  have := (h.tri (h.med i)).get hl
  exact ⟨this.2.2.1, this.2.2.2⟩
theorem SysOk.ix {s : System_} (h : SysOk s) {line : Nat} (hl : line < 3) (i : Nat) : Sz 60 (s.index line i) ∧ s.index line i ≠ 0 := by
  obtain ⟨h1, h2⟩ := h.gi hl i
  refine ⟨?_, Ma.index_ne h.gl line i⟩
  rw [Ma.index_back, gi_eq]
  split
  · exact h1.neg
  · exact h1
theorem SysOk.spr {s : System_} (h : SysOk s) {line : Nat} (hl : line < 3) (i : Nat) : Sz 181 (Ln.spreads s line i) := by
  rw [Ma.spreads_eq s line i (h.gi hl i).2]
  exact (((h.gi (line := 1) (by decide) i).1.sub (h.gi (line := 2) (by decide) i).1).quo (h.gi hl i).1 (h.gi hl i).2).mono (by decide)
theorem SysOk.stn {s : System_} (h : SysOk s) {line : Nat} (hl : line < 3) (i : Nat) : StnOk (Ma.stnOf s line i) := by
  obtain ⟨sg, sc, sk⟩ := h.sz i
  obtain ⟨n1, n2⟩ := h.ix hl i
  obtain ⟨m1, m2⟩ := h.ix hl (i + 1)
  have hw : Sz 130 (s.gap i / s.index line i) := by
    rw [Ma.walk_eq s line i (h.gi hl i).2]
    exact (sg.quo (h.gi hl i).1 (h.gi hl i).2).mono (by decide)
  have z : Sz 130 0 := sz0.mono (by decide)
  have z4 : Sz 400 0 := sz0.mono (by decide)
  have full : StnOk ⟨false, s.gap i / s.index line i, s.index line i * (s.elem i).curve, s.index line (i + 1) * (s.elem i).curve, 1 / (s.index line (i + 1) * s.index line (i + 1)) - 1 / (s.index line i * s.index line i), (s.elem i).curve * (1 / s.index line (i + 1) - 1 / s.index line i), (s.elem i).conic * ((s.elem i).curve * ((s.elem i).curve * (s.elem i).curve)) * (s.index line (i + 1) - s.index line i), Ln.spreads s line (i + 1) - Ln.spreads s line i⟩ :=
    ⟨hw, (n1.mul sc).mono (by decide), (m1.mul sc).mono (by decide), ((sz_inv (m1.mul m1) (Ma.mul_ne m2 m2)).sub (sz_inv (n1.mul n1) (Ma.mul_ne n2 n2))).mono (by decide), (sc.mul ((sz_inv m1 m2).sub (sz_inv n1 n2))).mono (by decide), ((sk.mul (sc.mul (sc.mul sc))).mul (m1.sub n1)).mono (by decide), ((h.spr hl (i + 1)).sub (h.spr hl i)).mono (by decide)⟩
  unfold Ma.stnOf
  cases (s.elem i).kind with
  | halt_ => exact ⟨hw, z, z, z4, z4, z4, z4⟩
  | mirror => exact full
  | surface m => exact full
theorem elem_at {s : System_} {i : Nat} {e : Elem} (h : s.elems[i]? = some e) : s.elem i = e := by
  unfold System_.elem
  rw [List.getD_eq_getElem?_getD, h]; rfl
section
variable {w : World} {K : PySem.W.Frag} {mg : Str → Option Value} {base : Heap} {CE CS CT : Addr}
theorem paired_at {α β : Type} {R : α → β → Prop} {xs : List α} {ys : List β} (h : Paired R xs ys) : ∀ {i : Nat} {x : α}, xs[i]? = some x → ∃ y, ys[i]? = some y ∧ R x y := by
  induction h with
  | nil => intro i x e; cases e
  | @cons a b l m h t ih =>
    intro i x e
    cases i with
    | zero => cases e; exact ⟨b, rfl, h⟩
    | succ i => exact ih (i := i) e
theorem elem_out {s : System_} {i : Nat} (h : s.elems[i]? = none) : s.elem i = Ln.noElem := by
  unfold System_.elem
  rw [List.getD_eq_getElem?_getD, h]; rfl
theorem SysAt.sok {G : Hp} {v : V} {s : System_} (h : SysAt K CS CE G v s) : SysOk s := by
  obtain ⟨⟨x, dx, vm, vp, _, _, _, L, vs, _, _, hp⟩, ok, st, le⟩ := h
  have key : ∀ (i : Nat) (e : Elem), s.elems[i]? = some e → ∃ v, ElAt K CE G v e s.glasses := by
    intro i e he
    have : ∀ {xs : List V} {ys : List Elem}, Paired (fun v e => ElAt K CE G v e s.glasses) xs ys → ∀ {i : Nat} {y : Elem}, ys[i]? = some y → ∃ v, ElAt K CE G v y s.glasses := by
      intro xs ys hp
      induction hp with
      | nil => intro i y e; cases e
      | @cons a b l m h t ih =>
        intro i y e
        cases i with
        | zero => cases e; exact ⟨a, h⟩
        | succ i => exact ih (i := i) e
    exact this hp he
  refine ⟨ok, st, fun i m hk => ?_, fun i => ?_⟩
  · cases he : s.elems[i]? with
    | none => rw [elem_out he] at hk; cases hk
    | some e =>
      obtain ⟨v, ⟨_, _, _, _, _, _, _, _, _, _, _, h6⟩, _, _, _⟩ := key i e he
      rw [elem_at he] at hk
      rw [hk] at h6
      exact h6.2
  · cases he : s.elems[i]? with
    | none => rw [elem_out he]; exact ⟨sz0, sz0, sz0⟩
    | some e =>
      obtain ⟨v, _, h1, h2, h3⟩ := key i e he
      rw [elem_at he]
      exact ⟨h1, h2, h3⟩
def StsAt (K : PySem.W.Frag) (CT : Addr) (G : Hp) (v : V) (ts : List Stn) : Prop := ∃ L vs, v = .ref L ∧ G L = some (.lst vs) ∧ Paired (StAt K CT G) vs ts
def spStations (K : PySem.W.Frag) (CS CE CT : Addr) : Sp := fun vs H Q _ => ∃ (G : Hp) (a : V) (s : System_) (line : Nat), vs = [a, .int (line : Int)] ∧ Same G H ∧ SysAt K CS CE G a s ∧ line < 3 ∧ ∀ v G' H', Ext [] G H G' H' → StsAt K CT G' v (Ma.stns s line) → Q v H'
theorem sc_sts : FnScope ["system", "line", "stations", "medium", "back", "element", "n", "station", "m"] ["system", "line"] (defScope s_stations_of) := ⟨rfl, rfl, rfl, by decide +kernel, rfl, by decide +kernel, by decide +kernel⟩
theorem stns_take (s : System_) (line i : Nat) : (Ma.stnsFrom s line 0 (i + 1)) = Ma.stnsFrom s line 0 i ++ [Ma.stnOf s line i] := by
  unfold Ma.stnsFrom
  rw [List.range'_1_concat, List.map_append, Nat.zero_add]; rfl
theorem sf_medium (m p : V) : (sf m p).lookup ("medium" : Str) = some m := rfl
theorem sf_path (m p : V) : (sf m p).lookup ("path" : Str) = some p := rfl
theorem ne_str {a b : Str} (h : a ≠ b) : decide (V.str a = V.str b) = false := decide_eq_false fun z => h (V.str.inj z)
theorem w_stop (k : Ln.Kind) : decide (V.str (wordOf k) = V.str "stop") = decide (k = .halt_) := by
  cases k with
  | surface m => rw [decide_eq_false (fun z : Ln.Kind.surface m = .halt_ => nomatch z)]; exact ne_str ne_sp
  | mirror => exact ne_str ne_mp
  | halt_ => rfl
theorem ne_hm : ("stop" : Str) ≠ "mirror" := by decide +kernel
theorem ne_um : ("surface" : Str) ≠ "mirror" := by decide +kernel
theorem Fr.m {G G' : Hp} {v : V} {q : Rat} (s : Same G G') (h : Fr K G v q) : Fr K G' v q := L2.Fr.mono _ _ _ _ s h
theorem ok_sts {f : Addr} {fd : FuncData} (F : Fun K "stations_of" "stations_of" s_stations_of f fd) (T : Tt K CT) (TE : Te K CE) (TS : Ts K CS) (D : Arith w K mg base) (DT : Mdl prog w K mg base 1 CT "Station" ["self", "stop", "walk"] (spTI K CT)) (Dh : Def prog w K mg base 5 "shape_station" ["station", "element", "n", "m"] (spShape K CE CT)) (Dp : Def prog w K mg base 5 "spread" ["medium", "line"] (spSpread K)) :
    FnOk prog w K mg base (cxX prog w) 6 f fd ["system", "line"] (spStations K CS CE CT) := by
  refine F.okX sc_sts (fun vs H Q E h => ?_) (fun cdv A outer s H vs Q E hr h => ?_)
  · obtain ⟨G, a, s, line, rfl, _⟩ := h; rfl
  · obtain ⟨G, a, y, line, rfl, sm, hsys, hl, k⟩ := h
    have hr1 := hr.mono (show 1 ≤ 5 by decide)
    have hr2 := hr.mono (show 2 ≤ 5 by decide)
    have hr3 := hr.mono (show 3 ≤ 5 by decide)
    have hr4 := hr.mono (show 4 ≤ 5 by decide)
    have ok := hsys.sok
    have hcnt : y.count ≤ 64 := hsys.le
    obtain ⟨⟨xS, dxS, vm, vp, rfl, hxS, htri, LP, ps, rfl, hLP, hpair⟩, _, _, _⟩ := hsys
    refine ⟨_, pss_cons (ps_set (i := 2) sc_sts.nd rfl (Or.inl rfl) (pe_lst pa_nil)) (pss_cons (ps_set (i := 3) sc_sts.nd rfl (Or.inl rfl) (pe_fld (pv 0) rfl)) (pss_cons (ps_set (i := 4) sc_sts.nd rfl (Or.inl rfl) pe_bl)
      (pss_cons (ps_for own_cx rfl (pi_list (pe_fld (pv 0) rfl)) (pg_name (i := 5) sc_sts.nd rfl (Or.inl rfl))
        (pss_mid (ps_set (i := 6) sc_sts.nd rfl (Or.inl rfl) (pe_ifExp (pt_val (pv 4)) (pe_def D.neg hr1 pass_cx (pa_cons (pe_ix ix_tup (pv 3) (pv 1) (fun _ _ => rfl)) pa_nil)) (pe_ix ix_tup (pv 3) (pv 1) (fun _ _ => rfl))))
        (pss_cons (ps_set (i := 7) sc_sts.nd rfl (Or.inl rfl) (pe_new DT hr2 pass_cx (pa_cons (pe_cmpR op_eq (pe_fld (pv 5) rfl) pe_str (nomark _)) (pa_cons (pe_def D.over hr3 pass_cx (pa_cons (pe_fld (pv 5) rfl) (pa_cons (pe_ix ix_tup (pv 3) (pv 1) (fun _ _ => rfl)) pa_nil))) pa_nil))))
        (pss_cons (ps_if (pt_cmpR op_eq (pe_fld (pv 5) rfl) pe_str (nomark _)) (pss_cons (ps_set (i := 4) sc_sts.nd rfl (Or.inl rfl) (pe_not (pv 4))) (pss_one (ps_expr (pe_def Dh hr pass_cx (pa_cons (pv 7) (pa_cons (pv 5) (pa_cons (pv 6) (pa_cons (pe_def D.neg hr1 pass_cx (pa_cons (pv 6) pa_nil)) pa_nil)))))))) pss_nil)
        (pss_mid (ps_if (pt_cmpR op_eq (pe_fld (pv 5) rfl) pe_str (nomark _))
          (pss_mid (ps_set (i := 8) sc_sts.nd rfl (Or.inl rfl) (pe_ifExp (pt_val (pv 4)) (pe_def D.neg hr1 pass_cx (pa_cons (pe_ix ix_tup (pe_fld (pv 5) rfl) (pv 1) (fun _ _ => rfl)) pa_nil)) (pe_ix ix_tup (pe_fld (pv 5) rfl) (pv 1) (fun _ _ => rfl))))
          (pss_cons (ps_expr (pe_def Dh hr pass_cx (pa_cons (pv 7) (pa_cons (pv 5) (pa_cons (pv 6) (pa_cons (pv 8) pa_nil))))))
          (pss_cons (ps_fld (pv 7) (pe_def D.minus hr4 pass_cx (pa_cons (pe_def Dp hr pass_cx (pa_cons (pe_fld (pv 5) rfl) (pa_cons (pv 1) pa_nil))) (pa_cons (pe_def Dp hr pass_cx (pa_cons (pv 3) (pa_cons (pv 1) pa_nil))) pa_nil))) rfl)
          (pss_one (ps_set (i := 3) sc_sts.nd rfl (Or.inl rfl) (pe_fld (pv 5) rfl)))))) pss_nil)
        (pss_one (ps_expr (pe_bm PySem.F.plainAttrs_list PySem.F.slot_list_append PySem.F.type_list_append mt_append (pv 2) (pa_cons (pv 7) pa_nil)))))))))
      (pss_one (ps_ret (pv 2)))))), ?_⟩
    refine ⟨(by show 0 ≤ sizeLine; decide), fun L hL => ?_⟩
    have e0 : Ext [] G H G (upd H L (.lst [])) := (Ext.refl sm).lend hL
    have oL0 : Own G (upd H L (.lst [])) L (.lst []) := ⟨upd_same, sm.free hL⟩
    refine ⟨_, rfl, xS, CS, dxS, _, _, rfl, e0.sub _ _ hxS, TS.cl, TS.n1, sf_medium _ _, ?_⟩
    refine ⟨_, rfl, xS, CS, dxS, _, _, rfl, e0.sub _ _ hxS, TS.cl, TS.n2, sf_path _ _, LP, rfl, ⟨_, SqL.of (e0.sub _ _ hLP)⟩, ?_⟩
    refine for_list (K := K) (a := LP) (xs := ps) (fun i σ H' => ∃ (G' : Hp) (vmed : V) (vs : List V) (r5 r6 r7 r8 : Option V), σ = [some (.ref xS), some (.int (line : Int)), some (.ref L), some vmed, some (.bl (Ma.back y i)), r5, r6, r7, r8] ∧ Ext [] G H G' H' ∧ Own G' H' L (.lst vs) ∧ Tri K G' vmed (Ma.triple y (y.medium i)) ∧ Paired (StAt K CT G') vs (Ma.stnsFrom y line 0 i))
      ⟨G, vm, [], none, none, none, none, rfl, e0, oL0, htri, .nil⟩ (fun i σ H' _ ⟨G', _, _, _, _, _, _, _, e, _⟩ => SqL.of (e.sub _ _ (e.grow _ _ hLP))) ?_ ?_
    · rintro i ve σ H1 hve ⟨G1, vmed, vs, r5, r6, r7, r8, rfl, e1, oL1, ht1, hp1⟩
      obtain ⟨el, hel, hE⟩ := paired_at hpair hve
      have hie : y.elem i = el := elem_at hel
      have hic : i < y.count := (List.getElem?_eq_some_iff.mp hel).1
      have g3 := ok.tri (ok.med i)
      obtain ⟨ga, gb, gc, gd⟩ := g3.get hl
      obtain ⟨nS, n0⟩ := ok.ix hl i
      have hix := Ma.index_back y line i
      rw [gi_eq] at hix
      refine ⟨fun σ' H' => ∃ (G' : Hp) (vn : V), σ' = [some (.ref xS), some (.int (line : Int)), some (.ref L), some vmed, some (.bl (Ma.back y i)), some ve, some vn, r7, r8] ∧ Ext [] G1 H1 G' H' ∧ Fr K G' vn (y.index line i), ?_, ?_⟩
      · obtain ⟨pm, xsm, um, rfl, qm, am, fm⟩ := tri_at ht1 ga
        refine ⟨_, rfl, _, rfl, if_bl (fun hb => ?_) (fun hb => ?_)⟩
        · refine ⟨_, rfl, _, rfl, pm, _, _, _, rfl, rfl, e1.sub.seqT qm, am, G1, _, _, rfl, e1.sub, fm, trivial, fun v G2 H2 e2 f2 => ⟨G2, v, rfl, e2, ?_⟩⟩
          rw [hix, if_pos hb]; exact f2
        · refine ⟨_, rfl, _, rfl, pm, _, _, _, rfl, rfl, e1.sub.seqT qm, am, ⟨G1, um, rfl, Ext.refl e1.sub, ?_⟩⟩
          rw [hix, if_neg (by rw [hb]; decide)]; exact fm
      rintro σ' H2 ⟨G2, vn, rfl, e2, fn⟩
      have E2 := e1.trans e2
      have oL2 := oL1.ext e2 (by simp)
      have ht2 := ht1.mono e2.grow
      have hE2 := hE.mono E2.grow
      have hE2' := hE2
      obtain ⟨⟨xe, dxe, vg, vl, vc, vk, rfl, hxe, hgap, _, _, hgl⟩, sg, sc, sk⟩ := hE2'
      have nL : ∀ z, H z = none → True := fun _ _ => trivial
      obtain ⟨pm, xsm, um, rfl, qm, am, fm⟩ := tri_at ht2 ga
      refine ⟨_, rfl, xe, CE, dxe, _, _, rfl, E2.sub _ _ hxe, TE.cl, TE.n1, ef_word _ _ _ _ _, rfl, _, rfl, xe, CE, dxe, _, _, rfl, E2.sub _ _ hxe, TE.cl, TE.n2, ef_gap _ _ _ _ _, _, rfl, _, rfl, pm, _, _, _, rfl, rfl, E2.sub.seqT qm, am, G2, _, _, el.gap, _, rfl, E2.sub, hgap, fm, ⟨sg.mono (by decide), gc.mono (by decide), gd⟩, fun vw G3 H3 e3 f3 => ?_⟩
      have E3 := E2.trans e3
      refine fun x dx hx hdx hne => ?_
      have hx1 : upd H3 dx (.own x) x = none := by rw [upd_ne (fun z => hne z.symm)]; exact hx
      have e4 : Ext [] G3 H3 G3 (upd (upd H3 dx (.own x)) x (.ins CT dx [])) := ((Ext.refl e3.sub).lend hdx).lend hx1
      have hxH : H x = none := E3.none_of hx
      refine ⟨x, dx, _, _, rfl, upd_same, fun z hz => ⟨rfl, ?_⟩⟩
      rw [upd_upd, w_stop]
      have E4 : Ext [] G H G3 (upd (upd H3 dx (.own x)) x (.ins CT dx (stf (.bl (decide (el.kind = .halt_))) vw z z z z z z))) := (E3.lend hdx).lend hx1
      have e34 : Ext [] G3 H3 G3 (upd (upd H3 dx (.own x)) x (.ins CT dx (stf (.bl (decide (el.kind = .halt_))) vw z z z z z z))) := ((Ext.refl e3.sub).lend hdx).lend hx1
      have ox : Own G3 (upd (upd H3 dx (.own x)) x (.ins CT dx (stf (.bl (decide (el.kind = .halt_))) vw z z z z z z))) x (.ins CT dx (stf (.bl (decide (el.kind = .halt_))) vw z z z z z z)) := ⟨upd_same, e3.sub.free hx⟩
      have oL4 := (oL2.ext e3 (by simp)).ext e34 (by simp)
      have nLx : L ≠ x := ne_of_none ((oL2.ext e3 (by simp)).at_) hx
      generalize upd (upd H3 dx (.own x)) x (.ins CT dx (stf (.bl (decide (el.kind = .halt_))) vw z z z z z z)) = H4 at E4 e34 ox oL4
      have g13 : Same G1 G3 := e2.grow.trans e3.grow
      have hE4 := hE2.mono e3.grow
      have hxe4 : G3 xe = some (.ins CE dxe (ef (.str (wordOf el.kind)) vg vl vc vk)) := e3.grow _ _ hxe
      have fn4 := Fr.m e3.grow fn
      have hwalk : y.gap i / y.index line i = el.gap / (Ma.triple y (y.medium i)).getD line 1 := by
        rw [Ma.walk_eq y line i gd, hie]; rfl
      have f3' : Fr K G3 vw (y.gap i / y.index line i) := by rw [hwalk]; exact f3
      let Fin : L2.St → Hp → Prop := fun σ' H' => ∃ (G' : Hp) (vmed' : V) (r8' : Option V) (vb vh vq vd vc' vl' : V), σ' = [some (.ref xS), some (.int (line : Int)), some (.ref L), some vmed', some (.bl (Ma.back y (i + 1))), some (.ref xe), some vn, some (.ref x), r8'] ∧ Ext [] G H G' H' ∧ Own G' H' L (.lst vs) ∧ Same G3 G' ∧ Tri K G' vmed' (Ma.triple y (y.medium (i + 1))) ∧ Own G' H' x (.ins CT dx (stf (.bl (Ma.stnOf y line i).stop) vw vb vh vq vd vc' vl')) ∧ Fr K G' vw (Ma.stnOf y line i).walk ∧ Fr K G' vb (Ma.stnOf y line i).before ∧ Fr K G' vh (Ma.stnOf y line i).behind ∧ Fr K G' vq (Ma.stnOf y line i).square ∧ Fr K G' vd (Ma.stnOf y line i).bend ∧ Fr K G' vc' (Ma.stnOf y line i).conic ∧ Fr K G' vl' (Ma.stnOf y line i).colour
      have hbs := Ma.back_succ y i hic
      have hms := Ma.medium_succ y i
      rw [hie] at hbs hms
      have fin : ∀ σ' H', Fin σ' H' → tDrop (tBM K "list" rAppend (tVar 2) (tCons (tVar 7) tNil)) { nx := fun σ H' => ∃ (G' : Hp) (vmed : V) (vs : List V) (r5 r6 r7 r8 : Option V), σ = [some (.ref xS), some (.int (line : Int)), some (.ref L), some vmed, some (.bl (Ma.back y (i + 1))), r5, r6, r7, r8] ∧ Ext [] G H G' H' ∧ Own G' H' L (.lst vs) ∧ Tri K G' vmed (Ma.triple y (y.medium (i + 1))) ∧ Paired (StAt K CT G') vs (Ma.stnsFrom y line 0 (i + 1)), rt := Q } σ' H' := by
        rintro σ' H5 ⟨G5, vmed', r8', vb, vh, vq, vd, vc', vl', rfl, E5, oL5, s35, ht5, ox5, b1, b2, b3, b4, b5, b6, b7⟩
        have hvl := Paired.length hp1
        have hvl2 : (Ma.stnsFrom y line 0 i).length = i := by unfold Ma.stnsFrom; rw [List.length_map, List.length_range']
        refine ⟨_, rfl, .inl ⟨rfl, _, SqL.of oL5.at_⟩, _, rfl, L, _, _, rfl, rfl, oL5.at_, Nat.lt_of_le_of_lt (show vs.length ≤ 64 by omega) (by decide), ?_⟩
        have E6 := E5.freeze ox5.at_ hxH
        have sG : Same G5 (upd G5 x (.ins CT dx (stf (.bl (Ma.stnOf y line i).stop) vw vb vh vq vd vc' vl'))) := fun c o hc => by
          have : c ≠ x := fun z => by rw [z, ox5.fr] at hc; cases hc
          rw [upd_ne this]; exact hc
        have fL : upd G5 x (.ins CT dx (stf (.bl (Ma.stnOf y line i).stop) vw vb vh vq vd vc' vl')) L = none := by rw [upd_ne nLx]; exact oL5.fr
        have E7 := E6.put (.inl hL) fL (o := .lst (vs ++ [.ref x]))
        refine ⟨_, vmed', vs ++ [.ref x], _, _, _, _, rfl, E7, ⟨upd_same, fL⟩, ht5.mono sG, ?_⟩
        rw [stns_take]
        refine Paired.snoc (Paired.map' (fun _ _ z => ((z.mono g13).mono s35).mono sG) hp1) ⟨⟨x, dx, vw, vb, vh, vq, vd, vc', vl', rfl, upd_same, Fr.m sG b1, Fr.m sG b2, Fr.m sG b3, Fr.m sG b4, Fr.m sG b5, Fr.m sG b6, Fr.m sG b7⟩, ok.stn hl i⟩
      refine ⟨_, rfl, xe, CE, dxe, _, _, rfl, E4.sub _ _ hxe4, TE.cl, TE.n1, ef_word _ _ _ _ _, rfl, _, rfl, ?_⟩
      have ht3 := ht2.mono e3.grow
      have hkc : el.kind = .halt_ ∨ el.kind = .mirror ∨ ∃ g, el.kind = .surface g := by
        cases el.kind with
        | halt_ => exact .inl rfl
        | mirror => exact .inr (.inl rfl)
        | surface g => exact .inr (.inr ⟨g, rfl⟩)
      obtain ⟨mS, m0⟩ := ok.ix hl (i + 1)
      have hix1 := Ma.index_back y line (i + 1)
      rw [gi_eq] at hix1
      rcases hkc with hk | hk | ⟨g, hk⟩
      · -- a stop
        rw [hk] at hbs hms
        have hb : Ma.back y (i + 1) = Ma.back y i := hbs
        have hm : y.medium (i + 1) = y.medium i := hms
        have hst : Ma.stnOf y line i = ⟨true, y.gap i / y.index line i, 0, 0, 0, 0, 0, 0⟩ := by unfold Ma.stnOf; rw [hie, hk]
        refine if_eqS (fun q => absurd (by rw [hk] at q; exact q) ne_hm) (fun _ => ?_)
        refine ⟨Fin, ?_, fin⟩
        refine ⟨_, rfl, xe, CE, dxe, _, _, rfl, E4.sub _ _ hxe4, TE.cl, TE.n1, ef_word _ _ _ _ _, rfl, _, rfl, if_eqS (fun q => absurd (by rw [hk] at q; exact q) ne_ss) (fun _ => ?_)⟩
        refine ⟨G3, .ref pm, r8, z, z, z, z, z, z, by rw [hb]; rfl, E4, oL4, Same.refl _, by rw [hm]; exact ht3, ?_, ?_⟩
        · rw [hst]
          rw [decide_eq_true hk] at ox
          exact ox
        · rw [hst]; exact ⟨f3', hz _, hz _, hz _, hz _, hz _, hz _⟩
      · -- a mirror
        rw [hk] at hbs hms
        have hb : Ma.back y (i + 1) = !Ma.back y i := hbs
        have hm : y.medium (i + 1) = y.medium i := hms
        have hneg : y.index line (i + 1) = -y.index line i := by
          rw [hix1, hix, hb]
          show (if (!Ma.back y i) = true then -(Ma.triple y (y.medium (i + 1))).getD line 1 else (Ma.triple y (y.medium (i + 1))).getD line 1) = -(if Ma.back y i = true then -(Ma.triple y (y.medium i)).getD line 1 else (Ma.triple y (y.medium i)).getD line 1)
          rw [hm]
          cases Ma.back y i
          · rw [if_pos (by rfl), if_neg (by decide)]
          · rw [if_neg (by decide), if_pos rfl, Rat.neg_neg]
        have hcol : Ln.spreads y line (i + 1) - Ln.spreads y line i = 0 := by
          rw [Ma.spreads_eq y line (i + 1) (ok.gi hl (i + 1)).2, Ma.spreads_eq y line i (ok.gi hl i).2, hm]
          exact Rat.sub_self
        have hst : Ma.stnOf y line i = ⟨false, y.gap i / y.index line i, y.index line i * el.curve, y.index line (i + 1) * el.curve, 1 / (y.index line (i + 1) * y.index line (i + 1)) - 1 / (y.index line i * y.index line i), el.curve * (1 / y.index line (i + 1) - 1 / y.index line i), el.conic * (el.curve * (el.curve * el.curve)) * (y.index line (i + 1) - y.index line i), Ln.spreads y line (i + 1) - Ln.spreads y line i⟩ := by unfold Ma.stnOf; rw [hie, hk]
        refine if_eqS (fun _ => ?_) (fun q => absurd (by rw [hk]; rfl) q)
        refine ⟨_, rfl, _, rfl, ?_⟩
        refine ⟨_, rfl, _, rfl, _, rfl, _, rfl, G3, _, _, rfl, E4.sub, fn4, trivial, fun v5 G5 H5 e5 f5 => ?_⟩
        refine ⟨G5, x, dx, .ref xe, vn, v5, _, _, _, _, _, _, _, _, el, y.glasses, y.index line i, y.index line (i + 1), rfl, e5.sub, ox.ext e5 (by simp), hE4.mono e5.grow, Fr.m e5.grow fn4, ?_, nS, mS, n0, m0, fun G6 H6 vb vh vq vd vc' e6 o6 b2 b3 b4 b5 b6 => ?_⟩
        · rw [hneg]; exact f5
        have e46 : Ext [x] G3 H4 G6 H6 := e5.up.trans e6
        have E6 : Ext [] G H G6 H6 := Ext.drop hxH (E4.up.trans e46)
        refine ⟨Fin, ?_, fin⟩
        refine ⟨_, rfl, xe, CE, dxe, _, _, rfl, E6.sub _ _ (e46.grow _ _ hxe4), TE.cl, TE.n1, ef_word _ _ _ _ _, rfl, _, rfl, if_eqS (fun q => absurd (by rw [hk] at q; exact q) ne_sm) (fun _ => ?_)⟩
        refine ⟨G6, .ref pm, r8, vb, vh, vq, vd, vc', z, by rw [hb]; rfl, E6, oL4.ext e46 (by simpa using nLx), e46.grow, by rw [hm]; exact ht3.mono e46.grow, ?_, ?_⟩
        · rw [hst]
          rw [decide_eq_false (by rw [hk]; intro q; cases q)] at o6
          exact o6
        · rw [hst]
          refine ⟨Fr.m e46.grow f3', b2, b3, b4, b5, b6, ?_⟩
          show Fr K G6 z (Ln.spreads y line (i + 1) - Ln.spreads y line i)
          rw [hcol]; exact hz _
      · -- a surface
        rw [hk] at hbs hms
        have hb : Ma.back y (i + 1) = Ma.back y i := by rw [hbs, if_neg (by intro q; cases q)]
        have hm : y.medium (i + 1) = g := hms
        rw [hk] at hgl
        have hgl4 : Tri K G3 vl (Ma.triple y (y.medium (i + 1))) := by rw [hm]; exact hgl.1.mono e3.grow
        have g31 := ok.tri (ok.med (i + 1))
        obtain ⟨ga1, gb1, gc1, gd1⟩ := g31.get hl
        have hst : Ma.stnOf y line i = ⟨false, y.gap i / y.index line i, y.index line i * el.curve, y.index line (i + 1) * el.curve, 1 / (y.index line (i + 1) * y.index line (i + 1)) - 1 / (y.index line i * y.index line i), el.curve * (1 / y.index line (i + 1) - 1 / y.index line i), el.conic * (el.curve * (el.curve * el.curve)) * (y.index line (i + 1) - y.index line i), Ln.spreads y line (i + 1) - Ln.spreads y line i⟩ := by unfold Ma.stnOf; rw [hie, hk]
        refine if_eqS (fun q => absurd (by rw [hk] at q; exact q) ne_um) (fun _ => ?_)
        refine ⟨Fin, ?_, fin⟩
        refine ⟨_, rfl, xe, CE, dxe, _, _, rfl, E4.sub _ _ hxe4, TE.cl, TE.n1, ef_word _ _ _ _ _, rfl, _, rfl, if_eqS (fun _ => ?_) (fun q => absurd (by rw [hk]; rfl) q)⟩
        refine ⟨fun σ' H' => ∃ (G' : Hp) (v5 : V), σ' = [some (.ref xS), some (.int (line : Int)), some (.ref L), some (.ref pm), some (.bl (Ma.back y i)), some (.ref xe), some vn, some (.ref x), some v5] ∧ Ext [] G3 H4 G' H' ∧ Fr K G' v5 (y.index line (i + 1)), ?_, ?_⟩
        · obtain ⟨pg, xsg, ug, rfl, qg, ag, fg⟩ := tri_at hgl4 ga1
          refine ⟨_, rfl, _, rfl, if_bl (fun hbb => ?_) (fun hbb => ?_)⟩
          · refine ⟨_, rfl, xe, CE, dxe, _, _, rfl, E4.sub _ _ hxe4, TE.cl, TE.n3, ef_glass _ _ _ _ _, _, rfl, pg, _, _, _, rfl, rfl, E4.sub.seqT qg, ag, G3, _, _, rfl, E4.sub, fg, trivial, fun v G5 H5 e5 f5 => ⟨G5, v, rfl, e5, ?_⟩⟩
            rw [hix1, hb, if_pos hbb]; exact f5
          · refine ⟨_, rfl, xe, CE, dxe, _, _, rfl, E4.sub _ _ hxe4, TE.cl, TE.n3, ef_glass _ _ _ _ _, _, rfl, pg, _, _, _, rfl, rfl, E4.sub.seqT qg, ag, ⟨G3, ug, rfl, Ext.refl E4.sub, ?_⟩⟩
            rw [hix1, hb, if_neg (by rw [hbb]; decide)]; exact fg
        rintro σ' H5 ⟨G5, v5, rfl, e5, f5⟩
        refine ⟨_, rfl, _, rfl, _, rfl, _, rfl, G5, x, dx, .ref xe, vn, v5, _, _, _, _, _, _, _, _, el, y.glasses, y.index line i, y.index line (i + 1), rfl, e5.sub, ox.ext e5 (by simp), hE4.mono e5.grow, Fr.m e5.grow fn4, f5, nS, mS, n0, m0, fun G6 H6 vb vh vq vd vc' e6 o6 b2 b3 b4 b5 b6 => ?_⟩
        have e46 : Ext [x] G3 H4 G6 H6 := e5.up.trans e6
        refine ⟨_, rfl, xe, CE, dxe, _, _, rfl, e6.sub _ _ (e46.grow _ _ hxe4), TE.cl, TE.n3, ef_glass _ _ _ _ _, _, rfl, G6, _, _, line, rfl, e6.sub, hgl4.mono e46.grow, g31, hl, fun v7 G7 H7 e7 f7 => ?_⟩
        refine ⟨_, rfl, _, rfl, G7, _, _, line, rfl, e7.sub, ht3.mono (e46.grow.trans e7.grow), g3, hl, fun v8 G8 H8 e8 f8 => ?_⟩
        have s1 := ok.spr hl (i + 1)
        have s0 := ok.spr hl i
        rw [Ma.spreads_eq y line (i + 1) (ok.gi hl (i + 1)).2] at s1
        rw [Ma.spreads_eq y line i (ok.gi hl i).2] at s0
        refine ⟨G8, _, _, _, _, rfl, e8.sub, Fr.m e8.grow f7, f8, ⟨s1.mono (by decide), s0.mono (by decide)⟩, fun v9 G9 H9 e9 f9 => ?_⟩
        have e69 : Ext [] G6 H6 G9 H9 := (e7.trans e8).trans e9
        have o9 := o6.ext e69 (by simp)
        refine ⟨_, rfl, x, CT, dx, _, rfl, o9.at_, T.cl, T.n8, (by show 8 < 1000; decide), ?_⟩
        rw [stf_colour]
        have e49 : Ext [x] G3 H4 G9 H9 := e46.tr0 e69
        have e410 : Ext [x] G3 H4 G9 (upd H9 x (.ins CT dx (stf (.bl (decide (el.kind = .halt_))) vw vb vh vq vd vc' v9))) := e49.put (.inr (by simp)) o9.fr
        have E10 := Ext.drop hxH (E4.up.trans e410)
        refine ⟨_, rfl, xe, CE, dxe, _, _, rfl, E10.sub _ _ (e410.grow _ _ hxe4), TE.cl, TE.n3, ef_glass _ _ _ _ _, ?_⟩
        refine ⟨G9, vl, some v5, vb, vh, vq, vd, vc', v9, by rw [hb]; rfl, E10, oL4.ext e410 (by simpa using nLx), e410.grow, hgl4.mono e410.grow, ?_, ?_⟩
        · rw [hst]
          refine ⟨?_, o9.fr⟩
          rw [upd_same, decide_eq_false (by rw [hk]; intro q; cases q)]
        · rw [hst]
          refine ⟨Fr.m e410.grow f3', Fr.m e69.grow b2, Fr.m e69.grow b3, Fr.m e69.grow b4, Fr.m e69.grow b5, Fr.m e69.grow b6, ?_⟩
          show Fr K G9 v9 (Ln.spreads y line (i + 1) - Ln.spreads y line i)
          rw [Ma.spreads_eq y line (i + 1) (ok.gi hl (i + 1)).2, Ma.spreads_eq y line i (ok.gi hl i).2]
          exact f9
    · rintro σ H' ⟨G', vmed, vs, r5, r6, r7, r8, rfl, e1, oL1, ht1, hp1⟩
      refine ⟨_, rfl, ?_⟩
      have hlen : ps.length = y.count := Paired.length hpair
      rw [hlen] at hp1
      have E6 := e1.freeze oL1.at_ hL
      have sG : Same G' (upd G' L (.lst vs)) := fun c o hc => by
        have : c ≠ L := fun z => by rw [z, oL1.fr] at hc; cases hc
        rw [upd_ne this]; exact hc
      exact k _ _ _ E6 ⟨L, vs, rfl, upd_same, Paired.map' (fun _ _ z => z.mono sG) hp1⟩
end
end Th
set_option maxHeartbeats 2000000
namespace Th
open PySem PySem.Spec PyProof.Rows L2 TL
open Ln.Num (tellable)
theorem pow_big : (2 : Nat) ^ 4096 ≤ 10 ^ 4300 := Nat.le_trans (Nat.pow_le_pow_left (by decide) 4096) (Nat.pow_le_pow_right (by decide) (by decide))
theorem pow_10 : (2 : Nat) ^ 4096 ≤ 10 ^ 4096 := Nat.pow_le_pow_left (by decide) 4096
theorem bits_iff (i : Int) : Builtin.Int.intBits i ≤ 4096 ↔ i.natAbs < 2 ^ 4096 := by
  unfold Builtin.Int.intBits
  by_cases h0 : i = 0
  · subst h0
    exact ⟨fun _ => Nat.pow_pos (by decide), fun _ => Nat.zero_le _⟩
  · rw [if_neg (by simpa using h0)]
    have hn : i.natAbs ≠ 0 := by omega
    exact Nat.log2_lt hn
theorem digL_len {n : Nat} (h : n < 2 ^ 4096) : (Ma.digL n).length ≤ 4096 := numL_len (by decide) (Nat.lt_of_lt_of_le h pow_10)
theorem intL_len {i : Int} (h : i.natAbs < 2 ^ 4096) : (Ma.intL i).length ≤ 4097 := by
  unfold Ma.intL
  have := digL_len h
  rw [List.length_append]
  by_cases h : i < 0
  · rw [if_pos h]; simp; omega
  · rw [if_neg h]; simp; omega
theorem tell_iff (q : Rat) : tellable q = true ↔ q.num.natAbs < 2 ^ 4096 ∧ q.den < 2 ^ 4096 := by
  unfold tellable
  rw [Bool.and_eq_true, decide_eq_true_eq, decide_eq_true_eq]
theorem fracL_len {q : Rat} (h : tellable q = true) : (Ma.fracL q).length ≤ 8194 := by
  obtain ⟨h1, h2⟩ := (tell_iff q).mp h
  have a := intL_len h1
  have b := digL_len h2
  unfold Ma.fracL
  split
  · omega
  · rw [List.length_append, List.length_cons]; omega
theorem str_len (i : Int) : (Str.ofString (toString i)).length = (Ma.intL i).length := by rw [len_tl, tl_int]
theorem intL_nat (n : Nat) : Ma.intL (n : Int) = Ma.digL n := by
  unfold Ma.intL
  rw [if_neg (by omega)]; rfl
section
variable {w : World} {K : PySem.W.Frag} {mg : Str → Option Value} {base : Heap} {CL : Addr}
structure Tm (K : PySem.W.Frag) (mg : Str → Option Value) (CL : Addr) : Prop where
  bits_ : GI mg "MOST_BITS" 4096
  tl_ : XC K mg "TooLarge" CL
  str_ : mg "str" = none
  ord_ : mg "ord" = none
  len_ : mg "len" = none
def spExact (CL : Addr) : Sp := fun vs H Q E => ∃ q : Rat, vs = [.int q.num, .int (q.den : Int)] ∧ (tellable q = true → ∀ x : Str, tl x = Ma.fracL q → Q (.str x) H) ∧ (tellable q = false → ∀ H', E (.ref CL) none H')
theorem sc_ext : FnScope ["top", "bottom"] ["top", "bottom"] (defScope s_exact_text) := ⟨rfl, rfl, rfl, by decide +kernel, rfl, by decide +kernel, by decide +kernel⟩
theorem ok_ext {f : Addr} {fd : FuncData} (F : Fun K "exact_text" "exact_text" s_exact_text f fd) (T : Tm K mg CL) : FnOk prog w K mg base (cxX prog w) 1 f fd ["top", "bottom"] (spExact CL) := by
  refine F.okX sc_ext (fun vs H Q E h => ?_) (fun cdv A outer s H vs Q E hr h => ?_)
  · obtain ⟨q, rfl, _⟩ := h; rfl
  · obtain ⟨q, rfl, k1, k2⟩ := h
    refine ⟨_, pss_cons (ps_if (pw_or (pt_cmpR op_gt (pe_bm0 PySem.F.plainAttrs_int PySem.F.slot_int_bit_length PySem.F.type_int_bit_length mt_bitlen (pv 0)) (pgi T.bits_) (nomark _)) (pw_or1 (pt_cmpR op_gt (pe_bm0 PySem.F.plainAttrs_int PySem.F.slot_int_bit_length PySem.F.type_int_bit_length mt_bitlen (pv 1)) (pgi T.bits_) (nomark _)))).pt (pss_one (ps_raise0 thr_cx rfl (by rfl) T.tl_.m T.tl_.c)) pss_nil)
      (pss_cons (ps_if (pt_cmpR op_eq (pv 1) pe_int (nomark _)) (pss_one (ps_ret (pe_callTy (call_strB rfl) (by rfl) T.str_ boot_str (pa_cons (pv 0) pa_nil)))) pss_nil)
      (pss_one (ps_ret (pe_fs rfl (pv 0) (pv 1))))), ?_⟩
    refine ⟨_, rfl, rfl, _, rfl, rfl, _, _, rfl, rfl, _, rfl, if_dec (fun h1 => ?_) (fun h1 => ?_)⟩
    · refine iteT (k2 ?_ _)
      cases z : tellable q with
      | false => rfl
      | true =>
        have := (bits_iff q.num).mpr ((tell_iff q).mp z).1
        omega
    refine ⟨_, rfl, rfl, _, rfl, rfl, _, _, rfl, rfl, _, rfl, if_dec (fun h2 => ?_) (fun h2 => ?_)⟩
    · refine k2 ?_ _
      cases z : tellable q with
      | false => rfl
      | true =>
        have := (bits_iff (q.den : Int)).mpr ((tell_iff q).mp z).2
        omega
    have t1 : q.num.natAbs < 2 ^ 4096 := (bits_iff q.num).mp (by omega)
    have t2 : q.den < 2 ^ 4096 := (bits_iff (q.den : Int)).mp (by omega)
    have ht : tellable q = true := (tell_iff q).mpr ⟨t1, t2⟩
    have kk := k1 ht
    refine ⟨_, rfl, rfl, _, rfl, if_eqI (fun h3 => ?_) (fun h3 => ?_)⟩
    · refine ⟨_, rfl, _, rfl, Nat.lt_of_lt_of_le t1 pow_big, kk _ ?_⟩
      unfold Ma.fracL
      rw [if_pos (by omega), tl_int]
    · have l1 := intL_len t1
      have l2 := digL_len t2
      refine ⟨_, rfl, _, rfl, Nat.lt_of_lt_of_le t1 pow_big, ?_, _, rfl, _, rfl, Nat.lt_of_lt_of_le t2 pow_big, ?_, kk _ ?_⟩
      · rw [str_len]
        show _ + 1 ≤ _
        exact Nat.le_trans (show _ ≤ 10000 by omega) (by decide)
      · rw [str_len, str_len, intL_nat]
        show _ + 1 + _ ≤ _
        exact Nat.le_trans (show _ ≤ 10000 by omega) (by decide)
      · unfold Ma.fracL
        rw [if_neg (by omega), tl_append, tl_append, tl_int, tl_int, intL_nat, List.append_assoc]; rfl
def PrAt (K : PySem.W.Frag) (G : Hp) (v : V) (prs : List (Int × Int)) : Prop := ∃ L vs, v = .ref L ∧ SqL K G L vs ∧ Paired (fun v (pr : Int × Int) => ∃ t, v = .ref t ∧ SqT K G t [.int pr.1, .int pr.2]) vs prs
theorem joinB_L : ∀ l : List (List Nat), joinL [32] l = Ma.joinB l
  | [] => rfl
  | [_] => rfl
  | x :: y :: r => by
    show x ++ ([32] ++ joinL [32] (y :: r)) = x ++ 32 :: Ma.joinB (y :: r)
    rw [joinB_L (y :: r)]; rfl
theorem joinB_len : ∀ l : List (List Nat), (∀ x ∈ l, x.length ≤ 8194) → (Ma.joinB l).length ≤ 8195 * l.length
  | [], _ => Nat.zero_le _
  | [x], h => by
    have := h x (by simp)
    show x.length ≤ _
    simp; omega
  | x :: y :: r, h => by
    have h1 := h x (by simp)
    have h2 := joinB_len (y :: r) fun z hz => h z (List.mem_cons_of_mem _ hz)
    show (x ++ 32 :: Ma.joinB (y :: r)).length ≤ _
    rw [List.length_append, List.length_cons]
    simp only [List.length_cons] at h2 ⊢
    omega
def spTold (K : PySem.W.Frag) (CL : Addr) : Sp := fun vs H Q E => ∃ (G : Hp) (a : V) (prs : List (Int × Int)), vs = [a] ∧ Same G H ∧ PrAt K G a prs ∧ (∀ pr ∈ prs, pr.2 ≠ 0) ∧ prs.length ≤ 100 ∧
  ((Ma.quots prs).all tellable = false → ∀ H', E (.ref CL) none H') ∧ ((Ma.quots prs).all tellable = true → ∀ v G' H', Ext [] G H G' H' → (∃ l, v = .ref l ∧ G' l = some (.lst ((Ma.tellsI (Ma.quots prs)).map V.int))) → Q v H')
theorem sc_told : FnScope ["pairs", "texts", "top", "bottom", "least", "signs", "sign"] ["pairs"] (defScope s_told) := ⟨rfl, rfl, rfl, by decide +kernel, rfl, by decide +kernel, by decide +kernel⟩
theorem quots_get {prs : List (Int × Int)} {i : Nat} {pr : Int × Int} (h : prs[i]? = some pr) : (Ma.quots prs)[i]? = some ((pr.1 : Rat) / (pr.2 : Rat)) := by
  unfold Ma.quots
  rw [List.getElem?_map, h]; rfl
theorem all_false_of {α : Type} {p : α → Bool} {l : List α} {i : Nat} {x : α} (h : l[i]? = some x) (hp : p x = false) : l.all p = false := by
  rw [List.all_eq_false]
  exact ⟨x, List.mem_of_getElem? h, by rw [hp]; decide⟩
theorem ok_told {f : Addr} {fd : FuncData} (F : Fun K "told" "told" s_told f fd) (T : Tm K mg CL) (Df : Def prog w K mg base 2 "fraction" ["top", "bottom"] (spFrac K)) (De : Def prog w K mg base 1 "exact_text" ["top", "bottom"] (spExact CL)) : FnOk prog w K mg base (cxX prog w) 3 f fd ["pairs"] (spTold K CL) := by
  refine F.okX sc_told (fun vs H Q E h => ?_) (fun cdv A outer s H vs Q E hr h => ?_)
  · obtain ⟨G, a, prs, rfl, _⟩ := h; rfl
  · obtain ⟨G, _, prs, rfl, sm, ⟨LP, ps, rfl, hLP, hpair⟩, hnz, hlen, k2, k1⟩ := h
    have hr1 := hr.mono (show 1 ≤ 2 by decide)
    refine ⟨_, pss_cons (ps_set (i := 1) sc_told.nd rfl (Or.inl rfl) (pe_lst pa_nil))
      (pss_cons (ps_for own_cx rfl (pi_list (pv 0)) (pg_tup rfl (pgs_cons (pg_name (i := 2) sc_told.nd rfl (Or.inl rfl)) (pgs_cons (pg_name (i := 3) sc_told.nd rfl (Or.inl rfl)) pgs_nil)))
        (pss_cons (ps_set (i := 4) sc_told.nd rfl (Or.inl rfl) (pe_def Df hr pass_cx (pa_cons (pv 2) (pa_cons (pv 3) pa_nil))))
        (pss_one (ps_expr (pe_bm PySem.F.plainAttrs_list PySem.F.slot_list_append PySem.F.type_list_append mt_append (pv 1) (pa_cons (pe_def De hr1 pass_cx (pa_cons (px 4 (pv 4)) (pa_cons (px 4 (pv 4)) pa_nil))) pa_nil))))))
      (pss_cons (ps_setLc (i := 5) (own := [("sign", 6)]) rfl sc_told.nd rfl rfl (sw_true rfl rfl rfl rfl) (pi_str (pe_join pe_str (pv 1))) (blkOk_by (show blkC ["pairs", "texts", "top", "bottom", "least", "signs", "sign"] (defScope s_told) _ _ = true by decide +kernel)) (fun _ _ _ _ _ => pg_name (i := 6) sc_told.nd rfl (Or.inl rfl)) (fun _ _ _ _ _ => pts_nil) (fun _ _ _ _ _ => pe_callB call_ord (by rfl) T.ord_ boot_ord (pa_cons (pv 6) pa_nil)))
      (pss_one (ps_ret (pe_op op_cat (pe_lst (pa_cons (pe_callB call_len_seq (by rfl) T.len_ boot_len (pa_cons (pv 5) pa_nil)) pa_nil)) (pv 5)))))), ?_⟩
    refine ⟨(by show 0 ≤ sizeLine; decide), fun L hL => ?_⟩
    have e0 : Ext [] G H G (upd H L (.lst [])) := (Ext.refl sm).lend hL
    have oL0 : Own G (upd H L (.lst [])) L (.lst []) := ⟨upd_same, sm.free hL⟩
    have hpl : ps.length = prs.length := Paired.length hpair
    refine ⟨_, rfl, LP, rfl, ⟨_, e0.sub.seq hLP⟩, for_list (K := K) (a := LP) (xs := ps) (fun i σ H' => ∃ (G' : Hp) (xs : List Str) (r2 r3 r4 r5 r6 : Option V), σ = [some (.ref LP), some (.ref L), r2, r3, r4, r5, r6] ∧ Ext [] G H G' H' ∧ Own G' H' L (.lst (xs.map V.str)) ∧ xs.map tl = ((Ma.quots prs).take i).map Ma.fracL ∧ ((Ma.quots prs).take i).all tellable = true)
      ⟨G, [], none, none, none, none, none, rfl, e0, oL0, rfl, rfl⟩ (fun i σ H' _ ⟨G', _, _, _, _, _, _, _, e, _⟩ => e.sub.seq (e.grow.seq hLP)) ?_ ?_⟩
    · rintro i u σ H1 hu ⟨G1, xs, r2, r3, r4, r5, r6, rfl, e1, oL1, hx1, ha1⟩
      obtain ⟨pr, hpr, t, rfl, ht⟩ := paired_at hpair hu
      have hq := quots_get hpr
      refine ⟨t, _, rfl, e1.sub.seqT (e1.grow.seqT ht), rfl, _, _, rfl, _, _, rfl, rfl, ?_⟩
      refine ⟨_, rfl, _, rfl, G1, _, _, rfl, hnz pr (List.mem_of_getElem? hpr), e1.sub, fun v G2 H2 e2 hv => ?_⟩
      obtain ⟨p, rfl, hp⟩ := hv
      have oL2 := oL1.ext e2 (by simp)
      refine ⟨_, rfl, .inl ⟨rfl, _, SqL.of oL2.at_⟩, p, _, _, rfl, e2.sub.seqT hp, rfl, p, _, _, rfl, e2.sub.seqT hp, rfl, _, rfl, fun ht2 x hx => ?_, fun ht2 => k2 (all_false_of hq ht2)⟩
      have hxl : xs.length = ((Ma.quots prs).take i).length := by have := congrArg List.length hx1; simpa using this
      have hxl2 : xs.length ≤ 100 := by rw [hxl, List.length_take]; unfold Ma.quots; rw [List.length_map]; omega
      refine ⟨L, _, _, rfl, rfl, oL2.at_, ?_, ?_⟩
      · rw [List.length_map]; exact Nat.lt_of_le_of_lt hxl2 (by decide)
      have e3 := (e1.trans e2).put (.inl hL) oL2.fr (o := .lst (xs.map V.str ++ [.str x]))
      have htk : (Ma.quots prs).take (i + 1) = (Ma.quots prs).take i ++ [(pr.1 : Rat) / (pr.2 : Rat)] := by rw [List.take_add_one, hq]; rfl
      refine ⟨G2, xs ++ [x], _, _, _, _, _, rfl, e3, ?_, ?_, ?_⟩
      · rw [List.map_append]; exact ⟨upd_same, oL2.fr⟩
      · rw [htk, List.map_append, List.map_append, hx1]
        show _ ++ [tl x] = _
        rw [hx]; rfl
      · rw [htk, List.all_append, ha1]
        show (true && (tellable _ && true)) = true
        rw [ht2]; rfl
    · rintro σ H1 ⟨G1, xs, r2, r3, r4, r5, r6, rfl, e1, oL1, hx1, ha1⟩
      have htl : (Ma.quots prs).take ps.length = Ma.quots prs := by rw [hpl]; exact List.take_of_length_le (by unfold Ma.quots; rw [List.length_map]; exact Nat.le_refl _)
      rw [htl] at hx1 ha1
      have kk := k1 ha1
      have hxl : xs.length = prs.length := by
        have := congrArg List.length hx1
        simp only [List.length_map] at this
        rw [this]; unfold Ma.quots; rw [List.length_map]
      have hsmall : ∀ y ∈ xs, y.length ≤ 8194 := fun y hy => by
        rw [len_tl]
        have : tl y ∈ (Ma.quots prs).map Ma.fracL := by rw [← hx1]; exact List.mem_map.mpr ⟨y, hy, rfl⟩
        obtain ⟨q, hq, e⟩ := List.mem_map.mp this
        rw [← e]
        exact fracL_len (List.all_eq_true.mp ha1 q hq)
      have hsum : ∀ l : List Str, (∀ y ∈ l, y.length ≤ 8194) → (l.map (·.length)).sum ≤ 8194 * l.length := by
        intro l
        induction l with
        | nil => intro _; exact Nat.le_refl _
        | cons a l ih =>
          intro h
          have h1 := h a (List.mem_cons_self ..)
          have h2 := ih fun y hy => h y (List.mem_cons_of_mem _ hy)
          simp only [List.map_cons, List.sum_cons, List.length_cons]
          omega
      have hsb := hsum xs hsmall
      have hcod : tl (Txt.join " " xs) = Ma.joinB ((Ma.quots prs).map Ma.fracL) := by
        rw [join_eq, tl_join, hx1]
        show joinL [32] _ = _
        exact joinB_L _
      have hjl : (Ma.joinB ((Ma.quots prs).map Ma.fracL)).length ≤ 819500 := by
        have := joinB_len ((Ma.quots prs).map Ma.fracL) fun x hx => by
          obtain ⟨q, hq, rfl⟩ := List.mem_map.mp hx
          exact fracL_len (List.all_eq_true.mp ha1 q hq)
        rw [List.length_map] at this
        have h3 : (Ma.quots prs).length = prs.length := by unfold Ma.quots; rw [List.length_map]
        omega
      refine ⟨⟨_, rfl⟩, _, rfl, _, L, xs, rfl, rfl, .inl (SqL.of oL1.at_), ?_, _, rfl, fun D hD => ?_⟩
      · show _ + _ * 1 ≤ _
        omega
      generalize Txt.join (Str.ofString " ") xs = X at hcod
      have hsg : sgn X = (Ma.joinB ((Ma.quots prs).map Ma.fracL)).map fun c => V.str ⟨#[c]⟩ := by
        unfold sgn
        rw [show X.cps.toList = tl X from rfl, hcod]
      generalize hJ : Ma.joinB ((Ma.quots prs).map Ma.fracL) = J at hcod hjl hsg
      refine lc_str (x := X) (fun i Hc => Hc = upd H1 D (.lst ((J.take i).map fun (c : Nat) => V.int (c : Int)))) rfl ?_ ?_
      · rintro j v Hc hv rfl
        rw [hsg, List.getElem?_map] at hv
        obtain ⟨c, hcc, rfl⟩ : ∃ c, J[j]? = some c ∧ v = V.str ⟨#[c]⟩ := by
          cases q : J[j]? with
          | none => rw [q] at hv; cases hv
          | some x => rw [q] at hv; exact ⟨x, rfl, (Option.some.inj hv).symm⟩
        refine ⟨rfl, _, rfl, _, rfl, rfl, _, upd_same, ?_, ?_⟩
        · rw [List.length_map, List.length_take]
          exact Nat.lt_of_le_of_lt (Nat.le_trans (Nat.min_le_right _ _) hjl) (by decide)
        · rw [upd_upd, List.take_add_one, hcc, List.map_append]; rfl
      · rintro Hc rfl
        have hlX : (sgn X).length = J.length := by rw [hsg, List.length_map]
        rw [hlX, List.take_length]
        have e2 := e1.lay hD (o := .lst (J.map fun (c : Nat) => V.int (c : Int)))
        refine ⟨_, rfl, D, _, rfl, .inl (.of upd_same), (by show 1 ≤ sizeLine; decide), fun l1 hl1 => ?_⟩
        have ne1 : D ≠ l1 := ne_of_none (upd_same (H := H1) (a := D)) hl1
        refine ⟨_, rfl, l1, D, _, _, rfl, rfl, upd_same, by rw [upd_ne ne1, upd_same], ?_, fun l2 hl2 => ?_⟩
        · rw [List.length_map]
          show 1 + J.length ≤ sizeLine
          exact Nat.le_trans (show _ ≤ 1000000 by omega) (by decide)
        have e3 := e2.lay hl1 (o := .lst [.int ((J.map fun (c : Nat) => V.int (c : Int)).length : Nat)])
        have e4 := e3.lay hl2 (o := .lst ([.int ((J.map fun (c : Nat) => V.int (c : Int)).length : Nat)] ++ J.map fun (c : Nat) => V.int (c : Int)))
        refine kk _ _ _ e4 ⟨l2, rfl, ?_⟩
        rw [upd_same]
        unfold Ma.tellsI
        rw [ha1, if_neg (by decide), hJ, List.map_cons, List.map_map, List.length_map]
        rfl
end
end Th
set_option maxHeartbeats 2000000
namespace Th
open PySem PySem.Spec PyProof.Rows L2
open Ma (Stn StnOk Sz B)
def StsL (K : PySem.W.Frag) (CT : Addr) (G : Hp) (v : V) (ts : List Stn) : Prop := ∃ L vs, v = .ref L ∧ SqL K G L vs ∧ Paired (StAt K CT G) vs ts
theorem StsAt.l {K : PySem.W.Frag} {CT : Addr} {G : Hp} {v : V} {ts : List Stn} (h : StsAt K CT G v ts) : StsL K CT G v ts := by
  obtain ⟨L, vs, e, h1, h2⟩ := h
  exact ⟨L, vs, e, .of h1, h2⟩
end Th
set_option maxHeartbeats 2000000
namespace Th
open PySem PySem.Spec PyProof.Rows L2
open Ln (Bytes System_)
open Ma (Stn StnOk Sz B)
open Ln.Num (tellable)
structure XH (K : PySem.W.Frag) (mg : Str → Option Value) (x : Str) (C : Addr) : Prop where
  m : mg x = some (.ref C)
  c : xcIn K C = true
structure Ta (K : PySem.W.Frag) (mg : Str → Option Value) (CN CF CO CP CL : Addr) : Prop where
  last_ : GI mg "LAST_LINE" 2
  most_ : GI mg "MOST_TEXT_BYTES" 65536
  len_ : mg "len" = none
  nt : XC K mg "NotTaken" CN
  hN : XH K mg "NotTaken" CN
  hF : XH K mg "Fault" CF
  hO : XH K mg "NoElement" CO
  hP : XH K mg "NotThere" CP
  hL : XH K mg "TooLarge" CL
  fx : ∃ fI names, XIni K CF fI names ∧ ("place" : Str) ∈ names ∧ ("kind" : Str) ∈ names
  nFO : CF ≠ CO
  nFP : CF ≠ CP
  nFL : CF ≠ CL
  nNF : CN ≠ CF
  nNO : CN ≠ CO
  nNP : CN ≠ CP
  nNL : CN ≠ CL
  nOP : CO ≠ CP
  nOL : CO ≠ CL
  nPL : CP ≠ CL
section
variable {w : World} {K : PySem.W.Frag} {mg : Str → Option Value} {base : Heap} {CN CF CO CP CL CS CE CT : Addr}
def spSizes (K : PySem.W.Frag) (CN : Addr) : Sp := fun vs H Q E => ∃ (G : Hp) (line : Nat) (a : V) (b : Bytes), vs = [.int (line : Int), a] ∧ Same G H ∧ Bs K G a b ∧ (2 < line ∨ 65536 < b.length → ∀ H', E (.ref CN) none H') ∧ (line ≤ 2 → b.length ≤ 65536 → Q .non H)
theorem sc_siz : FnScope ["line", "t"] ["line", "t"] (defScope s_refuse_sizes) := ⟨rfl, rfl, rfl, by decide +kernel, rfl, by decide +kernel, by decide +kernel⟩
theorem ok_siz {f : Addr} {fd : FuncData} (F : Fun K "refuse_sizes" "refuse_sizes" s_refuse_sizes f fd) (T : Ta K mg CN CF CO CP CL) : FnOk prog w K mg base (cxX prog w) 1 f fd ["line", "t"] (spSizes K CN) := by
  refine F.okX sc_siz (fun vs H Q E h => ?_) (fun cdv A outer s H vs Q E hr h => ?_)
  · obtain ⟨G, line, a, b, rfl, _⟩ := h; rfl
  · obtain ⟨G, line, _, b, rfl, sm, ⟨p, rfl, hb⟩, k1, k2⟩ := h
    refine ⟨_, pss_one (ps_if (pw_or (pt_cmpR op_gt (pv 0) (pgi T.last_) (nomark _)) (pw_or1 (pt_cmpR op_gt (pe_callB call_len_seq (by rfl) T.len_ boot_len (pa_cons (pv 1) pa_nil)) (pgi T.most_) (nomark _)))).pt (pss_one (ps_raise0 thr_cx rfl (by rfl) T.nt.m T.nt.c)) pss_nil), ?_⟩
    have hlen : (bytesV b).length = b.length := bytesV_length b
    refine ⟨_, rfl, _, _, rfl, rfl, _, rfl, if_dec (fun h1 => ?_) (fun h1 => ?_)⟩
    · exact iteT (k1 (.inl (by omega)) _)
    refine ⟨_, rfl, p, _, rfl, .inl (sm.seq hb), _, _, rfl, rfl, _, rfl, if_dec (fun h2 => ?_) (fun h2 => ?_)⟩
    · exact k1 (.inr (by rw [hlen] at h2; omega)) _
    · exact k2 (by omega) (by rw [hlen] at h2; omega)
theorem no_place : typeLookup (.type "Exception") "place" = pure none := by rw [typeLookup_type, builtinLookup_eq_fast]; kernel_rfl
theorem no_kind : typeLookup (.type "Exception") "kind" = pure none := by rw [typeLookup_type, builtinLookup_eq_fast]; kernel_rfl
theorem paired_len {α β : Type} {R : α → β → Prop} : ∀ {xs : List α} {ys : List β}, Paired R xs ys → xs.length = ys.length
  | _, _, .nil => rfl
  | _, _, .cons _ h => congrArg (· + 1) (paired_len h)
theorem same_upd {G : Hp} {p : Addr} {o : HO} (h : G p = none) : Same G (upd G p o) := fun b u e => by
  have ne : b ≠ p := fun z => by rw [z, h] at e; cases e
  rw [upd_ne ne]; exact e
def allQ : List Bytes → Option (List Rat)
  | [] => some []
  | b :: bs => match Ma.handedV b with
    | none => none
    | some q => match allQ bs with
      | none => none
      | some qs => some (q :: qs)
theorem allQ_snoc : ∀ {l : List Bytes} {qs : List Rat} {b : Bytes} {q : Rat}, allQ l = some qs → Ma.handedV b = some q → allQ (l ++ [b]) = some (qs ++ [q])
  | [], qs, b, q, h, hq => by cases h; show allQ [b] = _; unfold allQ; rw [hq]; rfl
  | c :: l, qs, b, q, h, hq => by
    show allQ (c :: (l ++ [b])) = _
    unfold allQ at h ⊢
    cases hc : Ma.handedV c with
    | none => rw [hc] at h; cases h
    | some p =>
      rw [hc] at h
      cases hl : allQ l with
      | none => rw [hl] at h; cases h
      | some ps =>
        rw [hl] at h; cases h
        rw [allQ_snoc hl hq]; rfl
theorem allQ_none : ∀ {l : List Bytes} {b : Bytes}, b ∈ l → Ma.handedV b = none → allQ l = none
  | c :: l, b, h, hq => by
    unfold allQ
    rcases List.mem_cons.mp h with e | e
    · subst e; rw [hq]
    · cases hc : Ma.handedV c with
      | none => rfl
      | some p => rw [allQ_none e hq]
theorem handed_sz {b : Bytes} {q : Rat} (h : Ma.handedV b = some q) : Sz 60 q := by
  have key : ∀ r : Option Rat, (match r with | some q => if Ln.Num.fits q = true then some q else none | none => none) = some q → Ln.Num.fits q = true := by
    intro r hr
    cases r with
    | none => cases hr
    | some p =>
      have hr : (if Ln.Num.fits p = true then some p else none) = some q := hr
      by_cases hf : Ln.Num.fits p = true
      · rw [if_pos hf] at hr; cases hr; exact hf
      · rw [if_neg hf] at hr; cases hr
  unfold Ma.handedV at h
  by_cases hl : 512 < b.length
  · rw [if_pos hl] at h; cases h
  · rw [if_neg hl] at h
    have hf := key _ h
    unfold Ln.Num.fits at hf
    simp only [Bool.and_eq_true, decide_eq_true_eq] at hf
    refine ⟨?_, ?_⟩
    · exact Nat.lt_of_lt_of_le hf.1 (by decide)
    · exact Nat.lt_of_lt_of_le hf.2 (by decide)
theorem allQ_sz : ∀ {l : List Bytes} {qs : List Rat}, allQ l = some qs → qs.length = l.length ∧ ∀ q ∈ qs, Sz 60 q
  | [], qs, h => by cases h; exact ⟨rfl, fun q z => nomatch z⟩
  | b :: l, qs, h => by
    unfold allQ at h
    cases hb : Ma.handedV b with
    | none => rw [hb] at h; cases h
    | some p =>
      rw [hb] at h
      cases hl : allQ l with
      | none => rw [hl] at h; cases h
      | some ps =>
        rw [hl] at h; cases h
        obtain ⟨e1, e2⟩ := allQ_sz hl
        refine ⟨by rw [List.length_cons, List.length_cons, e1], fun q hq => ?_⟩
        rcases List.mem_cons.mp hq with z | z
        · rw [z]; exact handed_sz hb
        · exact e2 q z
def ansI (line : Nat) (b : Bytes) (texts : List Bytes) (rk : List Stn → List Rat → Except Bool (List (Int × Int))) : List Int :=
  if 2 < line ∨ 65536 < b.length then [-1] else
  match allQ texts with
  | none => [-1]
  | some qs => match Ln.Text.read b with
    | .error e => [-3, (e.2 : Int), (e.1 : Int)]
    | .ok s => match rk (Ma.stns s line) qs with
      | .error true => [-2]
      | .error false => [-5]
      | .ok prs => if (Ma.quots prs).all tellable then Ma.tellsI (Ma.quots prs) else [-6]
def spRk (K : PySem.W.Frag) (CT CO CP : Addr) (n : Nat) (rk : List Stn → List Rat → Except Bool (List (Int × Int))) : Sp := fun vs H Q E => ∃ (G : Hp) (a r : V) (ts : List Stn) (qs : List Rat), vs = [a, r] ∧ Same G H ∧ StsAt K CT G a ts ∧ Ls K (Fr K) G r qs ∧ ts.length ≤ 64 ∧ qs.length = n ∧ (∀ q ∈ qs, Sz 60 q) ∧
  match rk ts qs with
  | .ok prs => ∀ v G' H', Ext [] G H G' H' → PrAt K G' v prs → Q v H'
  | .error true => ∀ H', E (.ref CO) none H'
  | .error false => ∀ H', E (.ref CP) none H'
def spAns (w : World) (K : PySem.W.Frag) (mg : Str → Option Value) (base : Heap) (k : Nat) (CT CO CP : Addr) : Sp := fun vs H Q E => ∃ (G : Hp) (line : Nat) (a x : V) (b : Bytes) (texts : List Bytes) (f : Addr) (Φ : Hp → Prop) (rk : List Stn → List Rat → Except Bool (List (Int × Int))) (out : List Int), vs = [.int (line : Int), a, x, .ref f] ∧ Same G H ∧ Bs K G a b ∧ Ls K (Bs K) G x texts ∧ texts.length ≤ 10 ∧
  Cal prog w K mg base k f Φ (spRk K CT CO CP texts.length rk) ∧ (∀ G' H', Ext [] G H G' H' → Φ H') ∧ (∀ ts qs prs, rk ts qs = .ok prs → (∀ pr ∈ prs, pr.2 ≠ 0) ∧ prs.length ≤ 100) ∧ ((∀ s, line ≤ 2 → b.length ≤ 65536 → allQ texts ≠ none → Ln.Text.read b = .ok s → Ma.GlOk s.glasses) → ansI line b texts rk = out) ∧ ∀ v H', (∃ l, v = .ref l ∧ H' l = some (.lst (out.map V.int))) → Q v H'
theorem sc_ans : FnScope ["line", "t", "texts", "reckon", "numbers", "stations", "fault", "text"] ["line", "t", "texts", "reckon"] (defScope s_answered) := ⟨rfl, rfl, rfl, by decide +kernel, rfl, by decide +kernel, by decide +kernel⟩
theorem ok_ans {f : Addr} {fd : FuncData} (F : Fun K "answered" "answered" s_answered f fd) (T : Ta K mg CN CF CO CP CL) (Ds : Def prog w K mg base 1 "refuse_sizes" ["line", "t"] (spSizes K CN)) (Dh : Def prog w K mg base 5 "handed_over" ["text"] (spHanded K CN))
    (Dr : Def prog w K mg base 14 "read_system" ["text"] (spSys K CS CE CF)) (Dt : Def prog w K mg base 6 "stations_of" ["system", "line"] (spStations K CS CE CT)) (Dl : Def prog w K mg base 3 "told" ["pairs"] (spTold K CL)) :
    FnOk prog w K mg base (cxX prog w) 15 f fd ["line", "t", "texts", "reckon"] (spAns w K mg base 14 CT CO CP) := by
  refine F.okX sc_ans (fun vs H Q E h => ?_) (fun cdv A outer s H vs Q E hr h => ?_)
  · obtain ⟨G, line, a, x, b, texts, f, Φ, rk, out, rfl, _⟩ := h; rfl
  · obtain ⟨G, line, a, x, b, texts, fr, Φ, rk, out, rfl, sm, hb, hx, hn, C, hΦ, hrk, hout, kk0⟩ := h
    have kk : (∀ s, line ≤ 2 → b.length ≤ 65536 → allQ texts ≠ none → Ln.Text.read b = .ok s → Ma.GlOk s.glasses) → ∀ v H', (∃ l, v = .ref l ∧ H' l = some (.lst ((ansI line b texts rk).map V.int))) → Q v H' := fun hg v H' h => kk0 v H' (by rw [← hout hg]; exact h)
    obtain ⟨fI, names, xc, m1, m2⟩ := T.fx
    have hr1 := hr.mono (show 1 ≤ 14 by decide)
    have hr3 := hr.mono (show 3 ≤ 14 by decide)
    have hr4 := hr.mono (show 5 ≤ 14 by decide)
    have hr6 := hr.mono (show 6 ≤ 14 by decide)
    refine ⟨_, pss_one (ps_try rfl rfl rfl (hand_plain rfl (by rfl) T.hN.m T.hN.c (hand_as (ts := fun x od => tRet (tLst (tCons (tUn (rU fun i => .int (-i)) (tC (.int 3))) (tCons (tXfld x od (tVar 6) "place") (tCons (tXfld x od (tVar 6) "kind") tNil))))) (i := 6) rfl rfl sc_ans.nd rfl rfl (by rfl) T.hF.m T.hF.c
        (hand_plain rfl (by rfl) T.hO.m T.hO.c (hand_plain rfl (by rfl) T.hP.m T.hP.c (hand_plain rfl (by rfl) T.hL.m T.hL.c hand_nil (fun x => pss_one (ps_ret (pe_lst (pa_cons (pe_un un_neg pe_int) pa_nil)))))
          (fun x => pss_one (ps_ret (pe_lst (pa_cons (pe_un un_neg pe_int) pa_nil))))) (fun x => pss_one (ps_ret (pe_lst (pa_cons (pe_un un_neg pe_int) pa_nil)))))
        (fun x oe vs h1 h2 => pss_one (ps_ret (pe_lst (pa_cons (pe_un un_neg pe_int) (pa_cons (pe_xfld (x := x) (oe := oe) (List.mem_append_left _ (List.mem_singleton.mpr rfl)) h1 h2 xc m1 no_place (pv 6) rfl) (pa_cons (pe_xfld (x := x) (oe := oe) (List.mem_append_left _ (List.mem_singleton.mpr rfl)) h1 h2 xc m2 no_kind (pv 6) rfl) pa_nil)))))))
        (fun x => pss_one (ps_ret (pe_lst (pa_cons (pe_un un_neg pe_int) pa_nil)))))
      (fun xe pn E' ht hp => pss_cons (ps_expr (pe_def Ds hr1 ht.pass (pa_cons (pv 0) (pa_cons (pv 1) pa_nil))))
        (pss_cons (ps_setLcX (wi := iList K (tVar 2)) (i := 4) (own := [("text", 7)]) ht rfl rfl rfl rfl sc_ans.nd rfl rfl (sw_true rfl rfl rfl rfl) (pi_list (pv 2)) (blkOk_by (show blkC ["line", "t", "texts", "reckon", "numbers", "stations", "fault", "text"] (defScope s_answered) _ _ = true by decide +kernel)) (fun _ _ _ _ _ => pg_name (i := 7) sc_ans.nd rfl (Or.inl rfl)) (fun _ _ _ _ _ => pts_nil) (fun _ _ _ _ _ xe' pn' hp' => pe_def Dh hr4 hp' (pa_cons (pv 7) pa_nil)))
        (pss_cons (ps_set (i := 5) sc_ans.nd rfl (Or.inl rfl) (pe_def Dt hr6 ht.pass (pa_cons (pe_def Dr hr ht.pass (pa_cons (pv 1) pa_nil)) (pa_cons (pv 0) pa_nil))))
        (pss_one (ps_ret (pe_def Dl hr3 ht.pass (pa_cons (show PE _ _ (tCallV prog w K mg base 14 3 E' (tCons (tVar 5) (tCons (tVar 4) tNil))) from pe_callv (i := 3) rfl (Or.inl rfl) hr ht.pass (pa_cons (pv 5) (pa_cons (pv 4) pa_nil))) pa_nil)))))))), ?_⟩
    obtain ⟨px, vx, rfl, hxs, hxp⟩ := hx
    have out1 : (∀ s, line ≤ 2 → b.length ≤ 65536 → allQ texts ≠ none → Ln.Text.read b = .ok s → Ma.GlOk s.glasses) → ∀ {l : Addr} {H' : Hp} {n : Int}, ansI line b texts rk = [n] → Q (.ref l) (upd H' l (.lst [.int n])) := fun hg {l H' n} e => kk hg _ _ ⟨l, rfl, by rw [upd_same, e]; rfl⟩
    refine ⟨_, rfl, _, rfl, G, line, a, b, rfl, sm, hb, fun hbad H' => ?_, fun h1 h2 => ?_⟩
    · refine ⟨CN, rfl, T.hN.c, ?_⟩
      rw [if_pos rfl]
      intro σ
      refine ⟨_, rfl, (by show 1 ≤ sizeLine; decide), fun l hl => out1 (fun s h1 h2 _ _ => absurd hbad (by omega)) ?_⟩
      unfold ansI; rw [if_pos hbad]
    have hne : ¬ (2 < line ∨ 65536 < b.length) := by omega
    refine ⟨_, rfl, px, rfl, ⟨_, sm.seq hxs⟩, fun D hD => lc_list (K := K) (a := px) (xs := vx) (fun i Hc => ∃ (G1 : Hp) (qs : List Rat) (ys : List V), Ext [] G H G1 Hc ∧ Own G1 Hc D (.lst ys) ∧ Paired (Fr K G1) ys qs ∧ ys.length = i ∧ allQ (texts.take i) = some qs)
      ⟨G, [], [], (Ext.refl sm).lend hD, ⟨upd_same, sm.free hD⟩, .nil, rfl, rfl⟩ (fun i Hc _ ⟨G1, _, _, e, _⟩ => e.sub.seq (e.grow.seq hxs)) ?_ ?_⟩
    · rintro i v Hc hv ⟨G1, qs, ys, e1, oD, hp, hl, hq⟩
      obtain ⟨c, hc, hcb⟩ := paired_at hxp hv
      refine ⟨rfl, _, rfl, G1, v, c, rfl, e1.sub, Bs.mono _ _ _ _ e1.grow hcb, ?_⟩
      unfold OutQ
      cases z : Ma.handedV c with
      | none =>
        intro H'
        refine ⟨CN, rfl, T.hN.c, ?_⟩
        rw [if_pos rfl]
        intro σ
        refine ⟨_, rfl, (by show 1 ≤ sizeLine; decide), fun l hl => out1 (fun s _ _ h _ => absurd (allQ_none (List.mem_of_getElem? hc) z) h) ?_⟩
        unfold ansI
        rw [if_neg hne, allQ_none (List.mem_of_getElem? hc) z]
      | some q =>
        intro v' G2 H2 e2 hf
        have oD2 := oD.ext e2 (by simp)
        have hi : i < texts.length := (List.getElem?_eq_some_iff.mp hc).1
        refine ⟨ys, oD2.at_, ?_, G2, qs ++ [q], ys ++ [v'], (e1.tr0 e2).put (.inl hD) oD2.fr, ⟨upd_same, oD2.fr⟩, Paired.snoc (Paired.map' (fun _ _ z => Fr.mono _ _ _ _ e2.grow z) hp) hf, by rw [List.length_append, hl]; rfl, ?_⟩
        · rw [hl]; exact Nat.lt_of_lt_of_le (Nat.lt_of_lt_of_le hi hn) (by decide)
        · rw [List.take_add_one, hc]; exact allQ_snoc hq z
    · rintro Hc ⟨G1, qs, ys, e1, oD, hp, hl, hq⟩
      have hvl : vx.length = texts.length := paired_len hxp
      rw [hvl, List.take_length] at hq
      have hDn : H D = none := hD
      have e2 := e1.freeze oD.at_ hDn
      generalize hG2 : upd G1 D (.lst ys) = G2 at e2
      have gD : G2 D = some (.lst ys) := by rw [← hG2]; exact upd_same
      have g12 : Same G1 G2 := by rw [← hG2]; exact same_upd oD.fr
      obtain ⟨hql, hqs⟩ := allQ_sz hq
      have a1 : ∀ {X : List Int}, (match allQ texts with | none => [-1] | some qs => match Ln.Text.read b with | .error e => [-3, (e.2 : Int), (e.1 : Int)] | .ok s => match rk (Ma.stns s line) qs with | .error true => [-2] | .error false => [-5] | .ok prs => if (Ma.quots prs).all tellable then Ma.tellsI (Ma.quots prs) else [-6]) = X → ansI line b texts rk = X := fun {X} h => by
        unfold ansI; rw [if_neg hne]; exact h
      rw [hq] at a1
      refine ⟨_, rfl, G2, a, b, rfl, e2.sub, Bs.mono _ _ _ _ e2.grow hb, ?_⟩
      unfold OutS
      cases hrd : Ln.Text.read b with
      | error er =>
        intro H' d hd
        refine ⟨CF, rfl, T.hF.c, ?_⟩
        rw [if_neg (fun z => T.nNF (Value.ref.inj z).symm), if_pos rfl]
        intro σ x hσ
        refine ⟨_, rfl, _, hσ, rfl, d, _, _, rfl, hd, rfl, _, hσ, rfl, d, _, _, rfl, hd, rfl, (by show 3 ≤ sizeLine; decide), fun l hl => kk (fun s _ _ _ h => by rw [hrd] at h; cases h) _ _ ⟨l, rfl, ?_⟩⟩
        rw [upd_same, a1 (by rw [hrd])]; rfl
      | ok sy =>
        intro v3 G3 H3 e3 hsys
        have hg : ∀ s, line ≤ 2 → b.length ≤ 65536 → allQ texts ≠ none → Ln.Text.read b = .ok s → Ma.GlOk s.glasses := fun s _ _ _ h => by rw [hrd] at h; cases h; exact hsys.ok
        refine ⟨_, rfl, G3, v3, sy, line, rfl, e3.sub, hsys, (by omega), fun v4 G4 H4 e4 hst => ?_⟩
        have e24 := e3.trans e4
        have e04 : Ext [] G H G4 H4 := e2.trans e24
        refine ⟨fr, Φ, _, rfl, C, _, rfl, _, rfl, hΦ _ _ e04, G4, v4, .ref D, Ma.stns sy line, qs, rfl, e4.sub, hst, ⟨D, ys, rfl, .of (e24.grow _ _ gD), Paired.map' (fun _ _ z => Fr.mono _ _ _ _ (g12.trans e24.grow) z) hp⟩, ?_, hql, hqs, ?_⟩
        · show (Ma.stnsFrom sy line 0 sy.count).length ≤ 64
          unfold Ma.stnsFrom
          rw [List.length_map, List.length_range']
          exact hsys.le
        · cases hk : rk (Ma.stns sy line) qs with
          | error eb =>
            cases eb with
            | true =>
              intro H'
              refine ⟨CO, rfl, T.hO.c, ?_⟩
              rw [if_neg (fun z => T.nNO (Value.ref.inj z).symm), if_neg (fun z => T.nFO (Value.ref.inj z).symm), if_pos rfl]
              intro σ
              refine ⟨_, rfl, (by show 1 ≤ sizeLine; decide), fun l hl => out1 hg (a1 ?_)⟩
              rw [hrd]
              show (match rk (Ma.stns sy line) qs with | .error true => [-2] | .error false => [-5] | .ok prs => if (Ma.quots prs).all tellable then Ma.tellsI (Ma.quots prs) else [-6]) = _
              rw [hk]
            | false =>
              intro H'
              refine ⟨CP, rfl, T.hP.c, ?_⟩
              rw [if_neg (fun z => T.nNP (Value.ref.inj z).symm), if_neg (fun z => T.nFP (Value.ref.inj z).symm), if_neg (fun z => T.nOP (Value.ref.inj z).symm), if_pos rfl]
              intro σ
              refine ⟨_, rfl, (by show 1 ≤ sizeLine; decide), fun l hl => out1 hg (a1 ?_)⟩
              rw [hrd]
              show (match rk (Ma.stns sy line) qs with | .error true => [-2] | .error false => [-5] | .ok prs => if (Ma.quots prs).all tellable then Ma.tellsI (Ma.quots prs) else [-6]) = _
              rw [hk]
          | ok prs =>
            intro v5 G5 H5 e5 hpr
            obtain ⟨z1, z2⟩ := hrk _ _ _ hk
            refine ⟨G5, v5, prs, rfl, e5.sub, hpr, z1, z2, fun ha H' => ?_, fun ha v6 G6 H6 e6 hv6 => ?_⟩
            · refine ⟨CL, rfl, T.hL.c, ?_⟩
              rw [if_neg (fun z => T.nNL (Value.ref.inj z).symm), if_neg (fun z => T.nFL (Value.ref.inj z).symm), if_neg (fun z => T.nOL (Value.ref.inj z).symm), if_neg (fun z => T.nPL (Value.ref.inj z).symm), if_pos rfl]
              intro σ
              refine ⟨_, rfl, (by show 1 ≤ sizeLine; decide), fun l hl => out1 hg (a1 ?_)⟩
              rw [hrd]
              show (match rk (Ma.stns sy line) qs with | .error true => [-2] | .error false => [-5] | .ok prs => if (Ma.quots prs).all tellable then Ma.tellsI (Ma.quots prs) else [-6]) = _
              rw [hk]
              show (if (Ma.quots prs).all tellable then Ma.tellsI (Ma.quots prs) else [-6]) = _
              rw [if_neg (by rw [ha]; decide)]
            · obtain ⟨l, rfl, hl⟩ := hv6
              refine kk hg _ _ ⟨l, rfl, ?_⟩
              rw [e6.sub _ _ hl, a1]
              rw [hrd]
              show (match rk (Ma.stns sy line) qs with | .error true => [-2] | .error false => [-5] | .ok prs => if (Ma.quots prs).all tellable then Ma.tellsI (Ma.quots prs) else [-6]) = _
              rw [hk]
              show (if (Ma.quots prs).all tellable then Ma.tellsI (Ma.quots prs) else [-6]) = _
              rw [if_pos ha]
end
end Th
set_option maxHeartbeats 1000000
namespace Th
open PySem PySem.Spec PyProof.Rows L2
open Ln (Bytes System_)
open Ma (Stn StnOk Sz B)
def sumB (ts : List Stn) : Rat := ts.foldl (fun a t => a + t.bend) 0
theorem sumB_snoc (ts : List Stn) (t : Stn) : sumB (ts ++ [t]) = sumB ts + t.bend := by
  unfold sumB; rw [List.foldl_append]; rfl
theorem sz_zero : Sz 1 0 := ⟨by decide, by decide⟩
theorem sumB_sz (ts : List Stn) (h : ∀ t ∈ ts, StnOk t) : ∀ i, i ≤ ts.length → Sz (1 + 401 * i) (sumB (ts.take i))
  | 0, _ => sz_zero
  | i + 1, hi => by
    have hlt : i < ts.length := hi
    rw [List.take_add_one, List.getElem?_eq_getElem hlt]
    show Sz _ (sumB (ts.take i ++ [ts[i]]))
    rw [sumB_snoc]
    exact ((sumB_sz ts h i (Nat.le_of_lt hlt)).add (h _ (List.getElem_mem hlt)).bend).mono (by omega)
section
variable {w : World} {K : PySem.W.Frag} {mg : Str → Option Value} {base : Heap} {CT : Addr}
def spPzs (K : PySem.W.Frag) (CT : Addr) : Sp := fun vs H Q _ => ∃ (G : Hp) (a : V) (ts : List Stn), vs = [a] ∧ Same G H ∧ StsL K CT G a ts ∧ ts.length ≤ 64 ∧ ∀ v G' H', Ext [] G H G' H' → Fr K G' v (sumB ts) → Q v H'
theorem pz_ok {G : Hp} : ∀ {xs : List V} {ys : List Stn}, Paired (StAt K CT G) xs ys → ∀ y ∈ ys, StnOk y
  | _, _, .nil, y, hy => nomatch hy
  | _, _, .cons h t, y, hy => by
    rcases List.mem_cons.mp hy with e | e
    · rw [e]; exact h.ok
    · exact pz_ok t y e
theorem sc_pzs : FnScope ["stations", "total", "station"] ["stations"] (defScope s_petzval_sum) := ⟨rfl, rfl, rfl, by decide +kernel, rfl, by decide +kernel, by decide +kernel⟩
theorem ok_pzs {f : Addr} {fd : FuncData} (F : Fun K "petzval_sum" "petzval_sum" s_petzval_sum f fd) (T : Tt K CT) (Z : Tq K mg) (Dp : Def prog w K mg base 3 "plus" ["x", "y"] (sp2 K Big2 fun p q => p + q)) :
    FnOk prog w K mg base (cxX prog w) 4 f fd ["stations"] (spPzs K CT) := by
  refine F.okX sc_pzs (fun vs H Q E h => ?_) (fun cdv A outer s H vs Q E hr h => ?_)
  · obtain ⟨G, a, ts, rfl, _⟩ := h; rfl
  · obtain ⟨G, _, ts, rfl, sm, ⟨LS, ss, rfl, hLS, hpS⟩, hlen, kk⟩ := h
    obtain ⟨aZ, mZ, hZ⟩ := Z.zero_
    refine ⟨_, pss_cons (ps_set (i := 1) sc_pzs.nd rfl (Or.inl rfl) (pe_glob (v := .ref aZ) (by rfl) mZ rfl))
      (pss_cons (ps_for own_cx rfl (pi_list (pv 0)) (pg_name (i := 2) sc_pzs.nd rfl (Or.inl rfl)) (pss_one (ps_set (i := 1) sc_pzs.nd rfl (Or.inl rfl) (pe_def Dp hr pass_cx (pa_cons (pv 1) (pa_cons (pe_fld (pv 2) rfl) pa_nil))))))
      (pss_one (ps_ret (pv 1)))), ?_⟩
    have hok := pz_ok hpS
    have hlS : ss.length = ts.length := Paired.length hpS
    refine ⟨_, rfl, LS, rfl, ⟨_, sm.seq hLS⟩, for_list (K := K) (a := LS) (xs := ss) (fun i σ H' => ∃ G' v r2, Ext [] G H G' H' ∧ σ = [some (.ref LS), some v, r2] ∧ Fr K G' v (sumB (ts.take i)))
      ⟨G, .ref aZ, none, Ext.refl sm, rfl, aZ, rfl, hZ G⟩ (fun i σ H' _ ⟨G', _, _, e, _⟩ => e.same.seq (sm.seq hLS)) ?_ ?_⟩
    · rintro i x σ H' hx ⟨G', v, r2, e, rfl, hv⟩
      obtain ⟨t, ht, hst⟩ := paired_at hpS hx
      have hi : i < ts.length := (List.getElem?_eq_some_iff.mp ht).1
      obtain ⟨⟨y, dy, vw, vb, vh, vs, vd, vc, vl, rfl, hy, _, _, _, _, fd_, _⟩, ok⟩ := hst
      have hy' := e.sub _ _ (e.grow _ _ hy)
      have htk : ts.take (i + 1) = ts.take i ++ [t] := by rw [List.take_add_one, ht]; rfl
      refine ⟨_, rfl, _, rfl, y, CT, dy, _, _, rfl, hy', T.cl, T.n6, rfl, G', v, _, _, _, rfl, e.sub, hv, Fr.mono _ _ _ _ e.grow fd_, ⟨(sumB_sz ts hok i (Nat.le_of_lt hi)).mono (by omega), ok.bend.mono (by decide)⟩, fun v2 G2 H2 e2 hv2 => ?_⟩
      exact ⟨G2, v2, some (.ref y), e.trans e2, rfl, by rw [htk, sumB_snoc]; exact hv2⟩
    · rintro σ H' ⟨G', v, r2, e, rfl, hv⟩
      rw [hlS, List.take_length] at hv
      exact ⟨_, rfl, kk _ _ _ e hv⟩
end
theorem petz_eq (s : System_) (line : Nat) : LensD.petzvalOf s line = sumB (Ma.stns s line) := by
  have key : ∀ i, (match (s.elem i).kind with | .halt_ => (0 : Rat) | _ => (s.elem i).curve * (1 / s.index line (i + 1) - 1 / s.index line i)) = (Ma.stnOf s line i).bend := by
    intro i
    unfold Ma.stnOf
    cases (s.elem i).kind <;> rfl
  unfold LensD.petzvalOf sumB Ma.stns Ma.stnsFrom
  rw [List.range_eq_range', List.foldl_map, List.foldl_map]
  congr 1
  funext a i
  rw [← key i]
  rfl
end Th
set_option maxHeartbeats 2000000
namespace Th
open PySem PySem.Spec PySem.W PyProof.Rows L2
open Ln (Bytes System_)
open Ln.Num (tellable)
open Ma (Stn StnOk Sz B)
def rkP (ts : List Stn) (_ : List Rat) : Except Bool (List (Int × Int)) := .ok [((sumB ts).num, ((sumB ts).den : Int))]
theorem rkP_ok (ts : List Stn) (qs : List Rat) (prs : List (Int × Int)) (h : rkP ts qs = .ok prs) : (∀ pr ∈ prs, pr.2 ≠ 0) ∧ prs.length ≤ 100 := by
  unfold rkP at h
  cases h
  refine ⟨fun pr hpr => ?_, by show 1 ≤ 100; decide⟩
  rw [List.mem_singleton.mp hpr]
  have := (sumB ts).den_nz
  show ((sumB ts).den : Int) ≠ 0
  omega
section
variable {w : World} {K : PySem.W.Frag} {mg : Str → Option Value} {base : Heap} {CT CP CO : Addr}
def spPetz (Pt : Addr) (K : PySem.W.Frag) : Sp := fun vs H Q _ => ∃ (G : Hp) (line : Nat) (a : V) (b : Bytes) (out : List Int), vs = [.int (line : Int), a] ∧ H Pt = some (.tbl #[]) ∧ G Pt = none ∧ Same G H ∧ Bs K G a b ∧
  ((∀ s, line ≤ 2 → b.length ≤ 65536 → allQ [] ≠ none → Ln.Text.read b = .ok s → Ma.GlOk s.glasses) → ansI line b [] rkP = out) ∧ ∀ x H', (∃ l, x = .ref l ∧ H' l = some (.lst (out.map V.int))) → Q x H'
theorem sc_petl : FnScope ["stations", "given"] ["stations", "given"] (lamScope s_petzval) := ⟨rfl, rfl, rfl, by decide +kernel, rfl, by decide +kernel, by decide +kernel⟩
theorem sc_pet : FnScope ["line", "t"] ["line", "t"] (defScope s_petzval) := ⟨rfl, rfl, rfl, by decide +kernel, rfl, by decide +kernel, by decide +kernel⟩
theorem cal_pet {fl cl : Addr} {qual : Str} {pm ctv : Value} (Dz : Def prog w K mg base 4 "petzval_sum" ["stations"] (spPzs K CT)) : Cal prog w K mg base 14 fl (fun H => H fl = some (fnO fl (PySem.W.kla_obj "<lambda>" qual (lamArgs s_petzval) (lamBody s_petzval) (lamScope s_petzval) [] pm cl ctv)) ∧ H cl = some (cdO cl qual)) (spRk K CT CO CP 0 rkP) := by
  refine (cal_lam (k := 4) sc_petl (fun vs H Q E h => ?_) (fun us hl => match us, hl with | [_, _], _ => rfl) (fun A outer s H vs Q E hr h => ?_)).mono (by decide)
  · obtain ⟨G, a, r, ts, qs, rfl, _⟩ := h; rfl
  · obtain ⟨G, a, r, ts, qs, rfl, sm, hst, _, hl, _, _, kk⟩ := h
    refine ⟨_, pe_lst (pa_cons (pe_def Dz hr pass_cx (pa_cons (pv 0) pa_nil)) pa_nil), ?_⟩
    refine ⟨_, rfl, G, a, ts, rfl, sm, hst.l, hl, fun v G2 H2 e2 hv => ?_⟩
    refine ⟨(by show 1 ≤ sizeLine; decide), fun l2 hl2 => ?_⟩
    have e3 := e2.lay hl2 (o := .lst [v])
    obtain ⟨p, rfl, hp⟩ := hv
    exact kk _ _ _ e3 ⟨l2, [.ref p], rfl, .of upd_same, .cons ⟨p, rfl, (same_upd (e2.sub.free hl2)).seqT hp⟩ .nil⟩
theorem ok_pet {f cm Pt : Addr} {fd : FuncData} (F : FunC K "petzval" "petzval" s_petzval f fd cm) (hC : hdIn K cm Pt = true) (Da : Def prog w K mg base 15 "answered" ["line", "t", "texts", "reckon"] (spAns w K mg base 14 CT CO CP)) (Dz : Def prog w K mg base 4 "petzval_sum" ["stations"] (spPzs K CT)) :
    FnOk prog w K mg base (cxX prog w) 16 f fd ["line", "t"] (spPetz Pt K) := by
  refine F.okX sc_pet (fun vs H Q E h => ?_) (fun A outer s H vs Q E hr h => ?_)
  · obtain ⟨G, line, a, b, out, rfl, _⟩ := h; rfl
  · obtain ⟨G, line, a, b, out, rfl, hT, hG, sm, ha, ho, kk⟩ := h
    refine ⟨_, pss_one (ps_ret (pe_def Da hr pass_cx (pa_cons (pv 0) (pa_cons (pv 1) (pa_cons (pe_lst pa_nil) (pa_cons (pe_lam (clos := []) rfl rfl rfl hC) pa_nil)))))), ?_⟩
    refine ⟨_, rfl, _, rfl, (Nat.zero_le _), fun l hl => ?_⟩
    have nlP : Pt ≠ l := ne_of_none hT hl
    refine ⟨#[], by rw [upd_ne nlP]; exact hT, trivial, rfl, fun fl cl pm ctv hf hc nfc => ?_⟩
    have e1 : Ext [] G H (upd G l (.lst [])) (upd H l (.lst [])) := (Ext.refl sm).lay hl (o := .lst [])
    have g1 := e1.grow
    have s1 := e1.sub
    have h1P : (upd G l (.lst [])) Pt = none := by rw [upd_ne nlP]; exact hG
    have h1l : (upd G l (.lst [])) l = some (.lst []) := upd_same
    have h2P : (upd H l (.lst [])) Pt = some (.tbl #[]) := by rw [upd_ne nlP]; exact hT
    generalize upd G l (.lst []) = G1 at *
    generalize upd H l (.lst []) = H1 at *
    have nPf : Pt ≠ fl := ne_of_none h2P hf
    have nPc : Pt ≠ cl := ne_of_none h2P hc
    refine ⟨G1, line, a, .ref l, b, [], fl, _, rkP, out, rfl, fun p o e => ?_, Bs.mono _ _ _ _ g1 ha, ⟨l, [], rfl, .of h1l, .nil⟩, Nat.zero_le _, cal_pet (qual := ("petzval" : Str) ++ ".<locals>." ++ "<lambda>") (pm := pm) (ctv := ctv) (cl := cl) Dz, fun G' H' e => ⟨e.same _ _ ?_, e.same _ _ ?_⟩, rkP_ok, ho, kk⟩
    · have nP : p ≠ Pt := fun z => by rw [z, h1P] at e; cases e
      have e2 := s1 _ _ e
      rw [upd_ne (ne_of_none e2 hf), upd_ne (ne_of_none e2 hc), upd_ne nP]
      exact e2
    · exact upd_same
    · rw [upd_ne (fun z => nfc z.symm)]; exact upd_same
end
theorem tells_if (l : List Rat) : (if l.all tellable then Ma.tellsI l else [-6]) = Ma.tellsI l := by
  cases h : l.all tellable with
  | true => rfl
  | false => unfold Ma.tellsI; rw [h]; rfl
theorem quot_self (q : Rat) : (q.num : Rat) / ((q.den : Int) : Rat) = q := (Ma.rat_eq q).symm
theorem petz_ans {line : Nat} {t : Bytes} : ansI line t [] rkP = LensDNeutral.shown (LensD.answer (.petzval t line)) := by
  show _ = LensDNeutral.shown (if Ln.LINES ≤ line then LensD.number (-1) else LensD.withSystem t fun s => LensD.gives [LensD.petzvalOf s line])
  unfold ansI
  rw [show allQ [] = some [] from rfl]
  by_cases hl : Ln.LINES ≤ line
  · rw [if_pos hl, if_pos (Or.inl (show 2 < line from hl))]; rfl
  · rw [if_neg hl]
    have hl2 : line ≤ 2 := by have : ¬ 3 ≤ line := hl; omega
    unfold LensD.withSystem
    by_cases ht : 65536 < t.length
    · rw [if_pos (Or.inr ht), if_pos (show LensD.BYTES < t.length from ht)]; rfl
    · rw [if_neg (show ¬ LensD.BYTES < t.length from ht), if_neg (by omega)]
      cases hrd : Ln.Text.read t with
      | error er => rfl
      | ok sy =>
        dsimp only
        unfold rkP
        dsimp only
        have hq : Ma.quots [((sumB (Ma.stns sy line)).num, ((sumB (Ma.stns sy line)).den : Int))] = [LensD.petzvalOf sy line] := by
          rw [petz_eq]
          show [(((sumB (Ma.stns sy line)).num : Rat) / (((sumB (Ma.stns sy line)).den : Int) : Rat))] = _
          rw [quot_self]
        show (if (Ma.quots [((sumB (Ma.stns sy line)).num, ((sumB (Ma.stns sy line)).den : Int))]).all tellable then Ma.tellsI (Ma.quots [((sumB (Ma.stns sy line)).num, ((sumB (Ma.stns sy line)).den : Int))]) else [-6]) = LensDNeutral.shown (LensD.gives [LensD.petzvalOf sy line])
        rw [hq, Ma.gives_eq, tells_if]
theorem dw_list {K : PySem.W.Frag} {H : Hp} {x : V} {l : List Int} (h : Dw K H x (.list (l.map WData.int))) : ∃ p, x = .ref p ∧ SqL K H p (l.map V.int) := by
  cases h with
  | lst hs hd =>
    rw [ints_dw l _ hd] at hs
    exact ⟨_, rfl, hs⟩
theorem text_ints : ∀ {l : List Int}, (∀ z ∈ l, 0 ≤ z ∧ z ≤ 255) → bytesV (LensDNeutral.text l) = l.map V.int
  | [], _ => rfl
  | z :: l, h => by
    have h1 := h z List.mem_cons_self
    have := text_ints fun x hx => h x (List.mem_cons_of_mem z hx)
    show V.int (((UInt8.ofNat z.toNat).toNat : Nat) : Int) :: bytesV (LensDNeutral.text l) = V.int z :: l.map V.int
    rw [this]
    have e : (UInt8.ofNat z.toNat).toNat = z.toNat := by
      show z.toNat % 256 = z.toNat
      exact Nat.mod_eq_of_lt (by omega)
    rw [e, Int.toNat_of_nonneg h1.1]
theorem dw_textT {K : PySem.W.Frag} {H : Hp} {Pt : Addr} {x : V} {l : List Int} (hP : H Pt = some (.tbl #[])) (hl : ∀ z ∈ l, 0 ≤ z ∧ z ≤ 255) (h : Dw K H x (.list (l.map WData.int))) : Bs K (off1 H Pt) x (LensDNeutral.text l) := by
  obtain ⟨p, e, h⟩ := dw_list h
  exact ⟨p, e, by rw [text_ints hl]; exact off1_seq hP h⟩
theorem in_bytes {m : Nat} {l : List Int} (h : (Codec.list 0 m (Codec.int (Int.ofNat 0) (Int.ofNat 255))).within l = true) : ∀ z ∈ l, 0 ≤ z ∧ z ≤ 255 := by
  intro z hz
  have h : Codec.inList 0 m (Codec.inInt (Int.ofNat 0) (Int.ofNat 255)) l = true := h
  simp only [Codec.inList, Codec.inInt, Bool.and_eq_true, List.all_eq_true, decide_eq_true_eq] at h
  have := h.2 z hz
  exact ⟨by simpa using this.1, by simpa using this.2⟩
theorem s_case {Pt : Addr} {K : PySem.W.Frag} {H : Hp} {xs : List V} {E : XK} (a : Codec.denoteAll PySem.Challenge.rw_thirdsums_s05_petzval.args) (hP : H Pt = some (.tbl #[])) (hwi : Codec.withinAll PySem.Challenge.rw_thirdsums_s05_petzval.args a = true)
    (hx : DwAll K H xs (Codec.encAll PySem.Challenge.rw_thirdsums_s05_petzval.args a)) :
    spPetz Pt K xs H (fun v H' => Dw K H' v (PySem.Challenge.rw_thirdsums_s05_petzval.ret.enc (Codec.app PySem.Challenge.rw_thirdsums_s05_petzval.args PySem.Challenge.rw_thirdsums_s05_petzval.f a))) E := by
  obtain ⟨line, t, _⟩ := a
  have hw : (Codec.inPair (Codec.int (Int.ofNat 0) (Int.ofNat 4294967295)).within (Codec.inPair (Codec.list 0 70000 (Codec.int (Int.ofNat 0) (Int.ofNat 255))).within (fun _ => true))) (line, t, ()) = true := hwi
  simp only [Codec.inPair, Bool.and_eq_true] at hw
  obtain ⟨w0, w1, _⟩ := hw
  have hx : DwAll K H xs [WData.int line, WData.list (t.map WData.int)] := hx
  have hl0 : 0 ≤ line := by
    have w0 : Codec.inInt (Int.ofNat 0) (Int.ofNat 4294967295) line = true := w0
    simp only [Codec.inInt, Bool.and_eq_true, decide_eq_true_eq] at w0
    simpa using w0.1
  cases hx with
  | cons h0 hx =>
  cases hx with
  | cons h1 hx =>
  cases hx
  cases h0
  refine ⟨off1 H Pt, line.toNat, _, LensDNeutral.text t, PyWqbbbo.petzval line t, ?_, hP, off1_at, off1_same, dw_textT hP (in_bytes w1) h1, fun _ => petz_ans.trans ?_, ?_⟩
  · rw [Int.toNat_of_nonneg hl0]
  · rfl
  · rintro x H' ⟨l, rfl, hl⟩
    show Dw K H' (.ref l) (.list ((PyWqbbbo.petzval line t).map WData.int))
    exact .lst (.of hl) (dw_ints _)
end Th
set_option maxHeartbeats 2000000
namespace Th
open PySem PySem.Spec PySem.W PyProof.Rows L2
open Ln (Bytes System_)
theorem no_cx {P : Program} : ∀ (w : World) (H : Hp) (s : Shared) (e : Value) (s' : Shared), cxX P w [] H s (fun _ _ _ => False) e s' → False := fun _ _ _ _ _ ⟨_, _, _, _, _, _, _, _, _, _, h⟩ => h
section
variable {w : World} {K : PySem.W.Frag} {mg : Str → Option Value} {base h : Heap}
def Fn (K : PySem.W.Frag) (mg : Str → Option Value) (x : Str) (st : Stmt) : Prop := ∃ f fd, Fun K x x st f fd ∧ mg x = some (.ref f)
theorem fn_in {x : Str} {st : Stmt} {f : Addr} {oc : Value} {od an : Option Addr} {osl : Array (Option Value)} {kV doc pm cdv ct : Value} (X : K.In h) (G : h.Ns mainGlobals mg) (a : PySem.W.nsIn K mainGlobals x = some (some (.ref f)))
    (l : K.lookup f = some ⟨oc, od, .func (PySem.W.fnOf x x (defArgs st) (defBody st) (defScope st) .none kV doc pm an cdv ct), osl⟩) (c : PySem.W.codeIn K cdv x = true) (k : PySem.W.keepIn K (.ref f) = true) : Fn K mg x st :=
  ⟨f, _, fun_mk l c k, PySem.W.mg_of X G a⟩
theorem gi_in {x : Str} {i : Int} {t : Tok} (X : K.In h) (G : h.Ns mainGlobals mg) (a : PySem.W.nsIn K mainGlobals x = some (some (.int i t))) : GI mg x i := ⟨t, PySem.W.mg_of X G a⟩
theorem gs_in {x y : Str} {t : Tok} (X : K.In h) (G : h.Ns mainGlobals mg) (a : PySem.W.nsIn K mainGlobals x = some (some (.str y t))) : GS mg x y := ⟨t, PySem.W.mg_of X G a⟩
theorem vals_abs : ∀ {us : List Value} {xs : List V}, us.map absV = xs.map some → Vals xs us
  | [], [], _ => .nil
  | [], _ :: _, e => nomatch e
  | _ :: _, [], e => nomatch e
  | u :: us, x :: xs, e => by
    injection e with e1 e2
    refine .cons ?_ (vals_abs e2)
    cases u <;> cases e1 <;> first | rfl | exact ⟨_, rfl⟩
theorem gt_in {x : Str} {xs : List V} {a : Addr} {od : Option Addr} {its : Array Value} {n : Nat} {sl : Array (Option Value)} (X : K.In h) (G : h.Ns mainGlobals mg) (m : PySem.W.nsIn K mainGlobals x = some (some (.ref a))) (l : K.lookup a = some ⟨.type "tuple", od, .seq its n, sl⟩)
    (e : its.toList.map absV = xs.map some) (hz : its.toList.length ≤ sizeLine) : GT K mg x xs :=
  ⟨a, PySem.W.mg_of X G m, fun H => .inr ⟨_, its, n, l, rfl, rfl, by simpa using hz, vals_abs e⟩⟩
structure ClsIn (K : PySem.W.Frag) (mg : Str → Option Value) (x : Str) (C : Addr) : Prop where
  m : mg x = some (.ref C)
  cl : Cls K C
  mks : PySem.W.makesIn K C = true
  kp : PySem.W.keepIn K (.ref C) = true
theorem cls_in {x : Str} {C : Addr} (X : K.In h) (G : h.Ns mainGlobals mg) (a : PySem.W.nsIn K mainGlobals x = some (some (.ref C))) (pg : PySem.W.plainGet K C Str.empty = true) (hd : PySem.W.hasDictIn K C = true) (po : PySem.W.plainOver K C = true)
    (sa : PySem.W.findIn K (.ref C) "__setattr__" = some (some (.builtin "object.__setattr__"))) (mk : PySem.W.makesIn K C = true) (kp : PySem.W.keepIn K (.ref C) = true) : ClsIn K mg x C := ⟨PySem.W.mg_of X G a, ⟨pg, hd, po, sa⟩, mk, kp⟩
def Mth (K : PySem.W.Frag) (C : Addr) (m qual : Str) (st : Stmt) : Prop := ∃ f fd, Fun K m qual st f fd ∧ Meth K C m f
theorem mth_in {C : Addr} {m qual : Str} {st : Stmt} {f : Addr} {oc : Value} {od an : Option Addr} {osl : Array (Option Value)} {kV doc pm cdv ct : Value} (a : PySem.W.findIn K (.ref C) m = some (some (.ref f))) (i : PySem.W.isFn K (.ref f) = true)
    (l : K.lookup f = some ⟨oc, od, .func (PySem.W.fnOf m qual (defArgs st) (defBody st) (defScope st) .none kV doc pm an cdv ct), osl⟩) (c : PySem.W.codeIn K cdv qual = true) (k : PySem.W.keepIn K (.ref f) = true) : Mth K C m qual st :=
  ⟨f, _, fun_mk l c k, ⟨a, i, k⟩⟩
structure ErrIn (K : PySem.W.Frag) (mg : Str → Option Value) (x : Str) (C : Addr) : Prop where
  m : mg x = some (.ref C)
  e : PySem.W.excIn K C [.type "Exception", .type "BaseException", .type "object"] "Exception.__new__" = true
  c : xcIn K C = true
theorem err_in {x : Str} {C : Addr} (X : K.In h) (G : h.Ns mainGlobals mg) (a : PySem.W.nsIn K mainGlobals x = some (some (.ref C))) (e : PySem.W.excIn K C [.type "Exception", .type "BaseException", .type "object"] "Exception.__new__" = true) (c : xcIn K C = true) : ErrIn K mg x C := ⟨PySem.W.mg_of X G a, e, c⟩
theorem ErrIn.xc {x : Str} {C : Addr} (h : ErrIn K mg x C) : XC K mg x C := ⟨h.m, ⟨h.e⟩⟩
theorem ErrIn.xh {x : Str} {C : Addr} (h : ErrIn K mg x C) : XH K mg x C := ⟨h.m, h.c⟩
def xNames : List Str := ["__setattr__", "__getattribute__", "__getattr__", "place", "kind"]
structure FltIn (K : PySem.W.Frag) (mg : Str → Option Value) (C : Addr) : Prop where
  m : mg "Fault" = some (.ref C)
  kp : PySem.W.keepIn K (.ref C) = true
  c : xcIn K C = true
  ex : ∃ f fd, Fun K "__init__" "Fault.__init__" s_Fault_init f fd ∧ XIni K C f xNames
theorem flt_in {C f : Addr} {oc : Value} {od an : Option Addr} {osl : Array (Option Value)} {kV doc pm cdv ct : Value} (X : K.In h) (G : h.Ns mainGlobals mg) (a : PySem.W.nsIn K mainGlobals "Fault" = some (some (.ref C))) (kp : PySem.W.keepIn K (.ref C) = true) (i : PySem.W.findIn K (.ref C) "__init__" = some (some (.ref f))) (j : PySem.W.isFn K (.ref f) = true)
    (l : K.lookup f = some ⟨oc, od, .func (PySem.W.fnOf "__init__" "Fault.__init__" (defArgs s_Fault_init) (defBody s_Fault_init) (defScope s_Fault_init) .none kV doc pm an cdv ct), osl⟩) (cc : PySem.W.codeIn K cdv "Fault.__init__" = true) (k : PySem.W.keepIn K (.ref f) = true)
    (c : xcIn K C = true) (z : xInit K C f xNames = true) : FltIn K mg C :=
  ⟨PySem.W.mg_of X G a, kp, c, f, _, fun_mk l cc k, ⟨z, by decide +kernel, by decide +kernel, by decide +kernel, j⟩⟩
def ExB (K : PySem.W.Frag) (mg : Str → Option Value) : Prop := ∃ CN CF CO CP CL : Addr, ErrIn K mg "NotTaken" CN ∧ FltIn K mg CF ∧ ErrIn K mg "NoElement" CO ∧ ErrIn K mg "NotThere" CP ∧ ErrIn K mg "TooLarge" CL ∧ [CN, CF, CO, CP, CL].Nodup
def RdB (K : PySem.W.Frag) (mg : Str → Option Value) : Prop := ∃ C : Addr, ClsIn K mg "Reader" C ∧ NoAttr K C "text" ∧ NoAttr K C "token" ∧ Mth K C "__init__" "Reader.__init__" s_Reader_init ∧ Mth K C "sees" "Reader.sees" s_Reader_sees ∧ Mth K C "piece" "Reader.piece" s_Reader_piece ∧
  Mth K C "refuse" "Reader.refuse" s_Reader_refuse ∧ Mth K C "expect" "Reader.expect" s_Reader_expect ∧ Mth K C "step" "Reader.step" s_Reader_step ∧ Mth K C "take" "Reader.take" s_Reader_take
def ElB (K : PySem.W.Frag) (mg : Str → Option Value) : Prop := ∃ C : Addr, ClsIn K mg "Element" C ∧ Mth K C "__init__" "Element.__init__" s_Element_init ∧ NoAttr K C "word" ∧ NoAttr K C "gap" ∧ NoAttr K C "glass" ∧ NoAttr K C "curve" ∧ NoAttr K C "conic"
def SyB (K : PySem.W.Frag) (mg : Str → Option Value) : Prop := ∃ C : Addr, ClsIn K mg "System" C ∧ Mth K C "__init__" "System.__init__" s_System_init ∧ NoAttr K C "medium" ∧ NoAttr K C "path"
def StB (K : PySem.W.Frag) (mg : Str → Option Value) : Prop := ∃ C : Addr, ClsIn K mg "Station" C ∧ Mth K C "__init__" "Station.__init__" s_Station_init ∧ NoAttr K C "stop" ∧ NoAttr K C "walk" ∧ NoAttr K C "before" ∧ NoAttr K C "behind" ∧ NoAttr K C "square" ∧ NoAttr K C "bend" ∧ NoAttr K C "conic" ∧ NoAttr K C "colour"
theorem arg1 {P : List Value → Prop} (hp : ∀ x0, P [x0]) : ∀ us : List Value, us.length = 1 → P us := fun us hl => match us, hl with | [x0], _ => hp x0
theorem arg2 {P : List Value → Prop} (hp : ∀ x0 x1, P [x0, x1]) : ∀ us : List Value, us.length = 2 → P us := fun us hl => match us, hl with | [x0, x1], _ => hp x0 x1
theorem arg3 {P : List Value → Prop} (hp : ∀ x0 x1 x2, P [x0, x1, x2]) : ∀ us : List Value, us.length = 3 → P us := fun us hl => match us, hl with | [x0, x1, x2], _ => hp x0 x1 x2
theorem arg4 {P : List Value → Prop} (hp : ∀ x0 x1 x2 x3, P [x0, x1, x2, x3]) : ∀ us : List Value, us.length = 4 → P us := fun us hl => match us, hl with | [x0, x1, x2, x3], _ => hp x0 x1 x2 x3
theorem arg6 {P : List Value → Prop} (hp : ∀ x0 x1 x2 x3 x4 x5, P [x0, x1, x2, x3, x4, x5]) : ∀ us : List Value, us.length = 6 → P us := fun us hl => match us, hl with | [x0, x1, x2, x3, x4, x5], _ => hp x0 x1 x2 x3 x4 x5
theorem Fn.def_ {x : Str} {st : Stmt} {k : Nat} {ps : List Str} {sp : Sp} (F : Fn K mg x st) (ok : ∀ f fd, Fun K x x st f fd → FnOk prog w K mg base (cxX prog w) k f fd ps sp)
    (b : ∀ (kV doc pm : Value) (an : Option Addr) (cdv ct : Value) (us : List Value), us.length = ps.length → bindArgs (PySem.W.fnOf x x (defArgs st) (defBody st) (defScope st) .none kV doc pm an cdv ct) ⟨us, []⟩ = pure (ps.zip us)) : Def prog w K mg base k x ps sp :=
  let ⟨f, fd, F, m⟩ := F; ⟨f, fd, ok f fd F, m, F.kp, F.binds b⟩
theorem Mth.def_ {C : Addr} {m qual : Str} {st : Stmt} {k : Nat} {ps : List Str} {sp : Sp} (F : Mth K C m qual st) (ok : ∀ f fd, Fun K m qual st f fd → FnOk prog w K mg base (cxX prog w) k f fd ps sp)
    (b : ∀ (kV doc pm : Value) (an : Option Addr) (cdv ct : Value) (us : List Value), us.length = ps.length → bindArgs (PySem.W.fnOf m qual (defArgs st) (defBody st) (defScope st) .none kV doc pm an cdv ct) ⟨us, []⟩ = pure (ps.zip us)) : MDef prog w K mg base k C m ps sp :=
  let ⟨f, fd, F, m⟩ := F; ⟨f, fd, ok f fd F, m, F.binds b⟩
theorem Mth.mdl {C : Addr} {x qual : Str} {st : Stmt} {k : Nat} {ps : List Str} {sp : Sp} (F : Mth K C "__init__" qual st) (c : ClsIn K mg x C) (ok : ∀ f fd, Fun K "__init__" qual st f fd → FnOk prog w K mg base (cxX prog w) k f fd ps sp)
    (b : ∀ (kV doc pm : Value) (an : Option Addr) (cdv ct : Value) (us : List Value), us.length = ps.length → bindArgs (PySem.W.fnOf "__init__" qual (defArgs st) (defBody st) (defScope st) .none kV doc pm an cdv ct) ⟨us, []⟩ = pure (ps.zip us)) : Mdl prog w K mg base k C x ps sp :=
  let ⟨f, fd, F, m⟩ := F; ⟨c.cl, c.m, f, fd, ⟨c.mks, m.at_, m.fn, c.kp⟩, ok f fd F, F.binds b⟩
structure MainT (K : PySem.W.Frag) (mg : Str → Option Value) (x : Str) (st : Stmt) (cm Pt f : Addr) (fd : FuncData) : Prop where
  m : mg x = some (.ref f)
  hd : hdIn K cm Pt = true
  pn : K.lookup Pt = none
  lk : ∃ oc od sl, K.lookup f = some ⟨oc, od, .func fd, sl⟩ ∧ fd.code = .ref cm
  fn : FunC K x x st f fd cm
theorem main_inT {x : Str} {st : Stmt} {f cm Pt : Addr} {oc : Value} {od an ocd : Option Addr} {osl csl : Array (Option Value)} {kV doc pm ct : Value} {vs : Array Value} (X : K.In h) (G : h.Ns mainGlobals mg) (a : PySem.W.nsIn K mainGlobals x = some (some (.ref f)))
    (l : K.lookup f = some ⟨oc, od, .func (PySem.W.fnOf x x (defArgs st) (defBody st) (defScope st) .none kV doc pm an (.ref cm) ct), osl⟩) (c : PySem.W.codeIn K (.ref cm) x = true) (lc : K.lookup cm = some ⟨.type "code", ocd, .fields vs, csl⟩) (hv : vs[11]? = some (.ref Pt)) (pn : K.lookup Pt = none) (hd : hdIn K cm Pt = true) :
    ∃ fd, MainT K mg x st cm Pt f fd :=
  ⟨_, PySem.W.mg_of X G a, hd, pn, ⟨oc, od, osl, l, rfl⟩, ⟨oc, od, kV, doc, pm, an, ct, osl, rfl, l, c⟩⟩
end
end Th
set_option maxHeartbeats 2000000
namespace Th
open PySem PySem.Spec PySem.W PyProof.Rows L2
open Ln (Bytes System_)
structure Glb (K : PySem.W.Frag) (mg : Str → Option Value) : Prop where
  i_MINUS : GI mg "MINUS" 45
  i_POINT : GI mg "POINT" 46
  i_SLASH : GI mg "SLASH" 47
  i_MOST_BYTES : GI mg "MOST_BYTES" 512
  i_TOO_GREAT : GI mg "TOO_GREAT" 1000000000000000000
  i_HASH : GI mg "HASH" 35
  i_LINE_END : GI mg "LINE_END" 10
  i_MOST_NAME_BYTES : GI mg "MOST_NAME_BYTES" 32
  i_MOST_DIGITS : GI mg "MOST_DIGITS" 18
  i_MOST : GI mg "MOST" 64
  i_NO_TOKEN : GI mg "NO_TOKEN" 1
  i_CANNOT_STAND : GI mg "CANNOT_STAND" 2
  i_NAME_TAKEN : GI mg "NAME_TAKEN" 3
  i_NO_SUCH_GLASS : GI mg "NO_SUCH_GLASS" 4
  i_TOO_MANY : GI mg "TOO_MANY" 5
  i_BAD_NUMBER : GI mg "BAD_NUMBER" 6
  i_MOST_BITS : GI mg "MOST_BITS" 4096
  i_LAST_LINE : GI mg "LAST_LINE" 2
  i_MOST_TEXT_BYTES : GI mg "MOST_TEXT_BYTES" 65536
  n_abs : mg "abs" = none
  n_len : mg "len" = none
  n_ord : mg "ord" = none
  n_tuple : mg "tuple" = none
  n_str : mg "str" = none
  n_list : mg "list" = none
  n_zip : mg "zip" = none
  t_WORDS : GT K mg "WORDS" (WS.map fun s => V.str (Str.ofString s))
  t_ZERO : GT K mg "ZERO" [.int 0, .int 1]
  t_ONE : GT K mg "ONE" [.int 1, .int 1]
  s_MARKS : GS mg "MARKS" ":,;/-"
structure Fns (K : PySem.W.Frag) (mg : Str → Option Value) : Prop where
  f_common_divisor : Fn K mg "common_divisor" s_common_divisor
  f_fraction : Fn K mg "fraction" s_fraction
  f_negative : Fn K mg "negative" s_negative
  f_plus : Fn K mg "plus" s_plus
  f_minus : Fn K mg "minus" s_minus
  f_times : Fn K mg "times" s_times
  f_over : Fn K mg "over" s_over
  f_is_digit : Fn K mg "is_digit" s_is_digit
  f_digits_end : Fn K mg "digits_end" s_digits_end
  f_whole_value : Fn K mg "whole_value" s_whole_value
  f_pointed_value : Fn K mg "pointed_value" s_pointed_value
  f_unsigned_value : Fn K mg "unsigned_value" s_unsigned_value
  f_handed_over : Fn K mg "handed_over" s_handed_over
  f_begins_name : Fn K mg "begins_name" s_begins_name
  f_goes_on_name : Fn K mg "goes_on_name" s_goes_on_name
  f_blanks_end : Fn K mg "blanks_end" s_blanks_end
  f_word_or_name : Fn K mg "word_or_name" s_word_or_name
  f_name_token : Fn K mg "name_token" s_name_token
  f_bars_number : Fn K mg "bars_number" s_bars_number
  f_number_token : Fn K mg "number_token" s_number_token
  f_token_from : Fn K mg "token_from" s_token_from
  f_read_pointed : Fn K mg "read_pointed" s_read_pointed
  f_read_number : Fn K mg "read_number" s_read_number
  f_read_value : Fn K mg "read_value" s_read_value
  f_refuse_number_before : Fn K mg "refuse_number_before" s_refuse_number_before
  f_read_index : Fn K mg "read_index" s_read_index
  f_read_new_name : Fn K mg "read_new_name" s_read_new_name
  f_read_known_glass : Fn K mg "read_known_glass" s_read_known_glass
  f_read_glass : Fn K mg "read_glass" s_read_glass
  f_read_glasses : Fn K mg "read_glasses" s_read_glasses
  f_read_curve : Fn K mg "read_curve" s_read_curve
  f_read_conic : Fn K mg "read_conic" s_read_conic
  f_pass_clear : Fn K mg "pass_clear" s_pass_clear
  f_read_element : Fn K mg "read_element" s_read_element
  f_read_path : Fn K mg "read_path" s_read_path
  f_read_system : Fn K mg "read_system" s_read_system
  f_spread : Fn K mg "spread" s_spread
  f_squared : Fn K mg "squared" s_squared
  f_shape_station : Fn K mg "shape_station" s_shape_station
  f_stations_of : Fn K mg "stations_of" s_stations_of
  f_exact_text : Fn K mg "exact_text" s_exact_text
  f_told : Fn K mg "told" s_told
  f_refuse_sizes : Fn K mg "refuse_sizes" s_refuse_sizes
  f_answered : Fn K mg "answered" s_answered
  f_petzval_sum : Fn K mg "petzval_sum" s_petzval_sum
section
variable {w : World} {K : PySem.W.Frag} {mg : Str → Option Value} {base h : Heap}
theorem whole_ok {cm Pt f fa : Addr} {fd : FuncData} (hfa : mg "petzval" = some (.ref fa)) (M : MainT K mg "petzval" s_petzval cm Pt f fd) (G : Glb K mg) (F : Fns K mg) (X : ExB K mg) (R : RdB K mg) (El : ElB K mg) (Sy : SyB K mg) (St : StB K mg) :
    ∃ (cm Pt : Addr) (fd : FuncData), hdIn K cm Pt = true ∧ K.lookup Pt = none ∧ (∃ oc od sl, K.lookup fa = some ⟨oc, od, .func fd, sl⟩ ∧ fd.code = .ref cm) ∧ (∀ (s : Shared) (us : List Value), us.length = (["line", "t"] : List Str).length → BindsTo s fd ⟨us, []⟩ ((["line", "t"] : List Str).zip us)) ∧ ∀ base : Heap, K.In base → base.Ns mainGlobals mg → FnOk prog w K mg base (cxX prog w) 16 fa fd ["line", "t"] (spPetz Pt K) := by
  obtain ⟨CN, CF, CO, CP, CL, xN, xF, xO, xP, xL, nd⟩ := X
  obtain ⟨CR, cR, nR1, nR2, iR, mR1, mR2, mR3, mR4, mR5, mR6⟩ := R
  obtain ⟨CE, cE, iE, nE1, nE2, nE3, nE4, nE5⟩ := El
  obtain ⟨CS, cS, iS, nS1, nS2⟩ := Sy
  obtain ⟨CT, cT, iT, nT1, nT2, nT3, nT4, nT5, nT6, nT7, nT8⟩ := St
  have e := hfa.symm.trans M.m
  cases e
  refine ⟨cm, Pt, fd, M.hd, M.pn, M.lk, fun s us hu => ?_, fun base _ _ => ?_⟩
  · obtain ⟨oc, od, kV, doc, pm, an, ct, osl, rfl, lk, hcd⟩ := M.fn.ex
    exact match us, hu with | [_, _], _ => .of_eq rfl
  have tx : Tx K mg := ⟨G.n_abs, G.n_len⟩
  have td : Td K mg CN := ⟨tx, G.i_MINUS, G.i_POINT, G.i_SLASH, G.i_MOST_BYTES, G.i_TOO_GREAT, xN.xc⟩
  have tk : Tk K mg CN := ⟨td, G.i_HASH, G.i_LINE_END, G.i_MOST_NAME_BYTES, G.i_MOST_DIGITS, G.n_ord⟩
  have tl : Tl K mg CN := ⟨tk, G.t_WORDS, G.s_MARKS⟩
  have tr : Tr K mg CN CF CR := ⟨tl, cR.cl, nR1, nR2, xF.m, xF.kp, G.i_MOST, G.i_NO_TOKEN, G.i_CANNOT_STAND, G.i_NAME_TAKEN, G.i_NO_SUCH_GLASS, G.i_TOO_MANY, G.i_BAD_NUMBER⟩
  have tn : Tn K mg CN CF CR := ⟨tr, G.n_tuple⟩
  have tq : Tq K mg := ⟨G.t_ZERO, G.t_ONE⟩
  have te : Te K CE := ⟨cE.cl, nE1, nE2, nE3, nE4, nE5⟩
  have ts : Ts K CS := ⟨cS.cl, nS1, nS2⟩
  have tt : Tt K CT := ⟨cT.cl, nT1, nT2, nT3, nT4, nT5, nT6, nT7, nT8⟩
  have tm : Tm K mg CL := ⟨G.i_MOST_BITS, xL.xc, G.n_str, G.n_ord, G.n_len⟩
  simp only [List.nodup_cons, List.mem_cons, List.not_mem_nil, or_false, not_or] at nd
  obtain ⟨⟨a1, a2, a3, a4⟩, ⟨b1, b2, b3⟩, ⟨c1, c2⟩, d1, _⟩ := nd
  obtain ⟨fI, fdI, FI_, xi⟩ := xF.ex
  have p1 : ("place" : Str) ∈ xNames := by decide +kernel
  have p2 : ("kind" : Str) ∈ xNames := by decide +kernel
  have ta : Ta K mg CN CF CO CP CL := ⟨G.i_LAST_LINE, G.i_MOST_TEXT_BYTES, G.n_len, xN.xc, xN.xh, ⟨xF.m, xF.c⟩, xO.xh, xP.xh, xL.xh, ⟨fI, xNames, xi, p1, p2⟩, b1, b2, b3, a1, a2, a3, a4, c1, c2, d1⟩
  have fi : FI w K mg base CF := ⟨fI, fdI, xNames, xi, ok_fi FI_ xi p1 p2, FI_.binds (fun _ _ _ _ _ _ => arg3 fun _ _ _ => rfl)⟩
  have dcommon_divisor := F.f_common_divisor.def_ (w := w) (base := base) (fun _ _ F => ok_gcd F) (fun _ _ _ _ _ _ => arg2 fun _ _ => rfl)
  have dfraction := F.f_fraction.def_ (w := w) (base := base) (fun _ _ F => ok_frac F tx dcommon_divisor) (fun _ _ _ _ _ _ => arg2 fun _ _ => rfl)
  have dnegative := F.f_negative.def_ (w := w) (base := base) (fun _ _ F => ok_neg F) (fun _ _ _ _ _ _ => arg1 fun _ => rfl)
  have dplus := F.f_plus.def_ (w := w) (base := base) (fun _ _ F => ok_plus F dfraction) (fun _ _ _ _ _ _ => arg2 fun _ _ => rfl)
  have dminus := F.f_minus.def_ (w := w) (base := base) (fun _ _ F => ok_minus F dnegative dplus) (fun _ _ _ _ _ _ => arg2 fun _ _ => rfl)
  have dtimes := F.f_times.def_ (w := w) (base := base) (fun _ _ F => ok_times F dfraction) (fun _ _ _ _ _ _ => arg2 fun _ _ => rfl)
  have dover := F.f_over.def_ (w := w) (base := base) (fun _ _ F => ok_over F dfraction) (fun _ _ _ _ _ _ => arg2 fun _ _ => rfl)
  have dis_digit := F.f_is_digit.def_ (w := w) (base := base) (fun _ _ F => ok_isdig F) (fun _ _ _ _ _ _ => arg1 fun _ => rfl)
  have ddigits_end := F.f_digits_end.def_ (w := w) (base := base) (fun _ _ F => ok_digend F td dis_digit) (fun _ _ _ _ _ _ => arg2 fun _ _ => rfl)
  have dwhole_value := F.f_whole_value.def_ (w := w) (base := base) (fun _ _ F => ok_whole F) (fun _ _ _ _ _ _ => arg1 fun _ => rfl)
  have dpointed_value := F.f_pointed_value.def_ (w := w) (base := base) (fun _ _ F => ok_pointed F dfraction dwhole_value) (fun _ _ _ _ _ _ => arg2 fun _ _ => rfl)
  have dunsigned_value := F.f_unsigned_value.def_ (w := w) (base := base) (fun _ _ F => ok_uns F td ddigits_end dfraction dwhole_value dpointed_value) (fun _ _ _ _ _ _ => arg1 fun _ => rfl)
  have dhanded_over := F.f_handed_over.def_ (w := w) (base := base) (fun _ _ F => ok_handed F td dnegative dunsigned_value) (fun _ _ _ _ _ _ => arg1 fun _ => rfl)
  have dbegins_name := F.f_begins_name.def_ (w := w) (base := base) (fun _ _ F => ok_begins F) (fun _ _ _ _ _ _ => arg1 fun _ => rfl)
  have dgoes_on_name := F.f_goes_on_name.def_ (w := w) (base := base) (fun _ _ F => ok_goes F dbegins_name dis_digit) (fun _ _ _ _ _ _ => arg1 fun _ => rfl)
  have dblanks_end := F.f_blanks_end.def_ (w := w) (base := base) (fun _ _ F => ok_blanks F tk) (fun _ _ _ _ _ _ => arg2 fun _ _ => rfl)
  have dword_or_name := F.f_word_or_name.def_ (w := w) (base := base) (fun _ _ F => ok_won F tl) (fun _ _ _ _ _ _ => arg1 fun _ => rfl)
  have dname_token := F.f_name_token.def_ (w := w) (base := base) (fun _ _ F => ok_ntok F tl dgoes_on_name dword_or_name) (fun _ _ _ _ _ _ => arg2 fun _ _ => rfl)
  have dbars_number := F.f_bars_number.def_ (w := w) (base := base) (fun _ _ F => ok_bars F tl dgoes_on_name) (fun _ _ _ _ _ _ => arg2 fun _ _ => rfl)
  have dnumber_token := F.f_number_token.def_ (w := w) (base := base) (fun _ _ F => ok_numt F tl ddigits_end dbars_number) (fun _ _ _ _ _ _ => arg2 fun _ _ => rfl)
  have dtoken_from := F.f_token_from.def_ (w := w) (base := base) (fun _ _ F => ok_tokf F tl dblanks_end dbegins_name dis_digit dname_token dnumber_token) (fun _ _ _ _ _ _ => arg2 fun _ _ => rfl)
  have rsees := mR1.def_ (w := w) (mg := mg) (base := base) (fun _ _ F => ok_sees F tr) (fun _ _ _ _ _ _ => arg2 fun _ _ => rfl)
  have rpiece := mR2.def_ (w := w) (mg := mg) (base := base) (fun _ _ F => ok_piece F tr) (fun _ _ _ _ _ _ => arg1 fun _ => rfl)
  have rrefuse := mR3.def_ (w := w) (mg := mg) (base := base) (fun _ _ F => ok_refuse F tr fi) (fun _ _ _ _ _ _ => arg2 fun _ _ => rfl)
  have rexpect := mR4.def_ (w := w) (mg := mg) (base := base) (fun _ _ F => ok_expect F tr rsees rrefuse) (fun _ _ _ _ _ _ => arg2 fun _ _ => rfl)
  have rstep := mR5.def_ (w := w) (mg := mg) (base := base) (fun _ _ F => ok_step F tr dtoken_from) (fun _ _ _ _ _ _ => arg1 fun _ => rfl)
  have rtake := mR6.def_ (w := w) (mg := mg) (base := base) (fun _ _ F => ok_take F tr rexpect rpiece rstep) (fun _ _ _ _ _ _ => arg2 fun _ _ => rfl)
  have rd : Rdr w K mg base CR CF := ⟨rsees, rpiece, rrefuse, rexpect, rstep, rtake⟩
  have mR := iR.mdl (w := w) (base := base) cR (fun _ _ F => ok_ri F tr dtoken_from) (fun _ _ _ _ _ _ => arg2 fun _ _ => rfl)
  have dread_pointed := F.f_read_pointed.def_ (w := w) (base := base) (fun _ _ F => ok_rpt F tr rd dpointed_value) (fun _ _ _ _ _ _ => arg1 fun _ => rfl)
  have dread_number := F.f_read_number.def_ (w := w) (base := base) (fun _ _ F => ok_rnum F tr rd dread_pointed dwhole_value dover) (fun _ _ _ _ _ _ => arg1 fun _ => rfl)
  have dread_value := F.f_read_value.def_ (w := w) (base := base) (fun _ _ F => ok_rval F tr rd dread_number dnegative) (fun _ _ _ _ _ _ => arg1 fun _ => rfl)
  have drefuse_number_before := F.f_refuse_number_before.def_ (w := w) (base := base) (fun _ _ F => ok_bef F tr rd) (fun _ _ _ _ _ _ => arg3 fun _ _ _ => rfl)
  have dread_index := F.f_read_index.def_ (w := w) (base := base) (fun _ _ F => ok_ridx F tr rd dread_number drefuse_number_before) (fun _ _ _ _ _ _ => arg2 fun _ _ => rfl)
  have dread_new_name := F.f_read_new_name.def_ (w := w) (base := base) (fun _ _ F => ok_rnn F tn rd) (fun _ _ _ _ _ _ => arg2 fun _ _ => rfl)
  have dread_known_glass := F.f_read_known_glass.def_ (w := w) (base := base) (fun _ _ F => ok_rkg F tn rd) (fun _ _ _ _ _ _ => arg2 fun _ _ => rfl)
  have dread_glass := F.f_read_glass.def_ (w := w) (base := base) (fun _ _ F => ok_rgl F tn rd dread_new_name dread_index) (fun _ _ _ _ _ _ => arg2 fun _ _ => rfl)
  have dread_glasses := F.f_read_glasses.def_ (w := w) (base := base) (fun _ _ F => ok_rgs F tn rd dread_glass) (fun _ _ _ _ _ _ => arg1 fun _ => rfl)
  have dread_curve := F.f_read_curve.def_ (w := w) (base := base) (fun _ _ F => ok_rcur F tr tq rd dread_value drefuse_number_before dover) (fun _ _ _ _ _ _ => arg1 fun _ => rfl)
  have dread_conic := F.f_read_conic.def_ (w := w) (base := base) (fun _ _ F => ok_rcon F tr tq rd dread_value) (fun _ _ _ _ _ _ => arg1 fun _ => rfl)
  have dpass_clear := F.f_pass_clear.def_ (w := w) (base := base) (fun _ _ F => ok_pclr F tr rd dread_number drefuse_number_before) (fun _ _ _ _ _ _ => arg1 fun _ => rfl)
  have mE := iE.mdl (w := w) (base := base) cE (fun _ _ F => ok_ei F te) (fun _ _ _ _ _ _ => arg6 fun _ _ _ _ _ _ => rfl)
  have mS := iS.mdl (w := w) (base := base) cS (fun _ _ F => ok_si F ts) (fun _ _ _ _ _ _ => arg3 fun _ _ _ => rfl)
  have dread_element := F.f_read_element.def_ (w := w) (base := base) (fun _ _ F => ok_rel F tn tq rd mE dread_new_name dread_number dread_known_glass dread_curve dread_conic dpass_clear) (fun _ _ _ _ _ _ => arg3 fun _ _ _ => rfl)
  have dread_path := F.f_read_path.def_ (w := w) (base := base) (fun _ _ F => ok_rpa F tn rd dread_element) (fun _ _ _ _ _ _ => arg2 fun _ _ => rfl)
  have dread_system := F.f_read_system.def_ (w := w) (base := base) (fun _ _ F => ok_rsy F tn rd mR mS dread_glasses dread_known_glass dread_path) (fun _ _ _ _ _ _ => arg1 fun _ => rfl)
  have mT := iT.mdl (w := w) (base := base) cT (fun _ _ F => ok_ti F tt tq) (fun _ _ _ _ _ _ => arg3 fun _ _ _ => rfl)
  have ar : Arith w K mg base := ⟨dnegative, dplus, dminus, dtimes, dover⟩
  have dspread := F.f_spread.def_ (w := w) (base := base) (fun _ _ F => ok_spr F dover dminus) (fun _ _ _ _ _ _ => arg2 fun _ _ => rfl)
  have dsquared := F.f_squared.def_ (w := w) (base := base) (fun _ _ F => ok_sqd F dtimes) (fun _ _ _ _ _ _ => arg1 fun _ => rfl)
  have dshape_station := F.f_shape_station.def_ (w := w) (base := base) (fun _ _ F => ok_shp F tt te tq ar dsquared) (fun _ _ _ _ _ _ => arg4 fun _ _ _ _ => rfl)
  have dstations_of := F.f_stations_of.def_ (w := w) (base := base) (fun _ _ F => ok_sts F tt te ts ar mT dshape_station dspread) (fun _ _ _ _ _ _ => arg2 fun _ _ => rfl)
  have dexact_text := F.f_exact_text.def_ (w := w) (base := base) (fun _ _ F => ok_ext F tm) (fun _ _ _ _ _ _ => arg2 fun _ _ => rfl)
  have dtold := F.f_told.def_ (w := w) (base := base) (fun _ _ F => ok_told F tm dfraction dexact_text) (fun _ _ _ _ _ _ => arg1 fun _ => rfl)
  have drefuse_sizes := F.f_refuse_sizes.def_ (w := w) (base := base) (fun _ _ F => ok_siz F ta) (fun _ _ _ _ _ _ => arg2 fun _ _ => rfl)
  have danswered := F.f_answered.def_ (w := w) (base := base) (fun _ _ F => ok_ans F ta drefuse_sizes dhanded_over dread_system dstations_of dtold) (fun _ _ _ _ _ _ => arg4 fun _ _ _ _ => rfl)
  have dpetzval_sum := F.f_petzval_sum.def_ (w := w) (base := base) (fun _ _ F => ok_pzs F tt tq dplus) (fun _ _ _ _ _ _ => arg1 fun _ => rfl)
  exact ok_pet M.fn M.hd danswered dpetzval_sum
end
end Th

open PySem PySem.W PyProof.Rows
set_option maxRecDepth 100000 in
set_option maxHeartbeats 0 in
theorem PySem.Challenge.cw_thirdsums_s05_petzval_holds : PySem.Challenge.rw_thirdsums_s05_petzval.Holds := by
  w_on
  refine holds_os (q := Th.vw) (loose := []) (Xt := fun s => xlAt Th.vw [] s && recOk [] s) (XP := XL Th.vw []) (Yf := Hook.obs (kHook Th.dummy.heap_1 Th.as Th.as_eq)) (Ya := Hook.val (kHook Th.dummy.heap_1 Th.as Th.as_eq)) (YP := Hook.says (kHook Th.dummy.heap_1 Th.as Th.as_eq)) (N := 7774) Th.left_o (Hook.of (kHook Th.dummy.heap_1 Th.as Th.as_eq)) (Hook.keeps (kHook Th.dummy.heap_1 Th.as Th.as_eq)) (fun s e => xl_of s (Bool.and_eq_true_iff.mp e).1) XL.keeps (by rfl) (by rfl) (by rfl) (fun s e => recFacts_of (Bool.and_eq_true_iff.mp e).2) os_shapes (by decide +kernel) (by decide +kernel) ⟨rfl, rfl, rfl, rfl, rfl, by decide +kernel⟩ ?hw ?hc
  case hw => exact ⟨[.int 0, .list []], by decide +kernel, by decide +kernel⟩
  case hc =>
    k_fillS
    refine L2.walk_specT (r := PySem.Challenge.rw_thirdsums_s05_petzval) (k := 16) (CX := fun w => L2.cxX Th.prog w) (ps := ["line", "t"]) (sp := Th.spPetz) (by decide +kernel) (by decide +kernel) (by kernel_rfl) rfl rfl ⟨rfl, by decide, by decide⟩ (fun w h Y => PySem.W.kIn_of Y) ?F (fun Pt K H xs a hP hw _ hx => Th.s_case a hP hw hx) Th.no_cx
    case F =>
      intro w mg fa h Y KX G hmg
      refine' Exists.elim (Th.main_inT (x := "petzval") (st := Th.s_petzval) KX G ?ma ?ml ?mc ?mlc ?mv ?mt ?mh) ?go
      (case ma => k_is); (case ml => k_is); (case mc => k_is); (case mlc => k_is)
      (case mv => exact rfl)
      (case mt => kernel_rfl); (case mh => kernel_rfl)
      case go =>
      intro fd M
      refine Th.whole_ok (w := w) hmg M ?gG ?gF ?gX ?gR ?gE ?gY ?gT
      case gG =>
        constructor
        all_goals first | (refine' Th.gi_in KX G ?a; (case a => k_is); done) | (refine' PySem.W.mg_none_of KX G ?a; (case a => k_is); done) | (refine' Th.gt_in KX G ?m ?l ?e ?z; (case m => k_is); (case l => k_is); (case e => kernel_rfl); (case z => decide); done) | (refine' Th.gs_in KX G ?a; (case a => k_is))
      case gF =>
        constructor
        all_goals (refine' Th.fn_in KX G ?a ?l ?c ?k; (case a => k_is); (case l => k_is); (case c => k_is); (case k => k_is))
      case gX =>
        refine' ⟨_, _, _, _, _, Th.err_in KX G ?a1 ?e1 ?c1, Th.flt_in KX G ?a2 ?k2 ?i2 ?j2 ?l2 ?d2 ?q2 ?c2 ?z2, Th.err_in KX G ?a3 ?e3 ?c3, Th.err_in KX G ?a4 ?e4 ?c4, Th.err_in KX G ?a5 ?e5 ?c5, ?nd⟩
        (case a1 => k_is); (case e1 => kernel_rfl); (case c1 => kernel_rfl)
        (case a3 => k_is); (case e3 => kernel_rfl); (case c3 => kernel_rfl)
        (case a4 => k_is); (case e4 => kernel_rfl); (case c4 => kernel_rfl)
        (case a5 => k_is); (case e5 => kernel_rfl); (case c5 => kernel_rfl)
        (case a2 => k_is); (case k2 => k_is); (case i2 => k_is); (case j2 => k_is); (case l2 => k_is); (case d2 => k_is); (case q2 => k_is); (case c2 => kernel_rfl); (case z2 => kernel_rfl); (case nd => decide)
      case gR =>
        refine' ⟨_, ?c, ?n1, ?n2, ?m0, ?m1, ?m2, ?m3, ?m4, ?m5, ?m6⟩
        (case c => refine' Th.cls_in KX G ?a ?p1 ?p2 ?p3 ?p4 ?p5 ?p6; (case a => k_is); (case p1 => k_is); (case p2 => k_is); (case p3 => k_is); (case p4 => k_is); (case p5 => k_is); (case p6 => k_is))
        (case n1 => (show PySem.W.findIn _ _ _ = some none; k_is))
        (case n2 => (show PySem.W.findIn _ _ _ = some none; k_is))
        (case m0 => refine' Th.mth_in ?a ?i ?l ?c ?k; (case a => k_is); (case i => k_is); (case l => k_is); (case c => k_is); (case k => k_is))
        (case m1 => refine' Th.mth_in ?a ?i ?l ?c ?k; (case a => k_is); (case i => k_is); (case l => k_is); (case c => k_is); (case k => k_is))
        (case m2 => refine' Th.mth_in ?a ?i ?l ?c ?k; (case a => k_is); (case i => k_is); (case l => k_is); (case c => k_is); (case k => k_is))
        (case m3 => refine' Th.mth_in ?a ?i ?l ?c ?k; (case a => k_is); (case i => k_is); (case l => k_is); (case c => k_is); (case k => k_is))
        (case m4 => refine' Th.mth_in ?a ?i ?l ?c ?k; (case a => k_is); (case i => k_is); (case l => k_is); (case c => k_is); (case k => k_is))
        (case m5 => refine' Th.mth_in ?a ?i ?l ?c ?k; (case a => k_is); (case i => k_is); (case l => k_is); (case c => k_is); (case k => k_is))
        (case m6 => refine' Th.mth_in ?a ?i ?l ?c ?k; (case a => k_is); (case i => k_is); (case l => k_is); (case c => k_is); (case k => k_is))
      case gE =>
        refine' ⟨_, ?c, ?m, ?n1, ?n2, ?n3, ?n4, ?n5⟩
        (case c => refine' Th.cls_in KX G ?a ?p1 ?p2 ?p3 ?p4 ?p5 ?p6; (case a => k_is); (case p1 => k_is); (case p2 => k_is); (case p3 => k_is); (case p4 => k_is); (case p5 => k_is); (case p6 => k_is))
        (case m => refine' Th.mth_in ?a ?i ?l ?c ?k; (case a => k_is); (case i => k_is); (case l => k_is); (case c => k_is); (case k => k_is))
        (case n1 => (show PySem.W.findIn _ _ _ = some none; k_is))
        (case n2 => (show PySem.W.findIn _ _ _ = some none; k_is))
        (case n3 => (show PySem.W.findIn _ _ _ = some none; k_is))
        (case n4 => (show PySem.W.findIn _ _ _ = some none; k_is))
        (case n5 => (show PySem.W.findIn _ _ _ = some none; k_is))
      case gY =>
        refine' ⟨_, ?c, ?m, ?n1, ?n2⟩
        (case c => refine' Th.cls_in KX G ?a ?p1 ?p2 ?p3 ?p4 ?p5 ?p6; (case a => k_is); (case p1 => k_is); (case p2 => k_is); (case p3 => k_is); (case p4 => k_is); (case p5 => k_is); (case p6 => k_is))
        (case m => refine' Th.mth_in ?a ?i ?l ?c ?k; (case a => k_is); (case i => k_is); (case l => k_is); (case c => k_is); (case k => k_is))
        (case n1 => (show PySem.W.findIn _ _ _ = some none; k_is))
        (case n2 => (show PySem.W.findIn _ _ _ = some none; k_is))
      case gT =>
        refine' ⟨_, ?c, ?m, ?n1, ?n2, ?n3, ?n4, ?n5, ?n6, ?n7, ?n8⟩
        (case c => refine' Th.cls_in KX G ?a ?p1 ?p2 ?p3 ?p4 ?p5 ?p6; (case a => k_is); (case p1 => k_is); (case p2 => k_is); (case p3 => k_is); (case p4 => k_is); (case p5 => k_is); (case p6 => k_is))
        (case m => refine' Th.mth_in ?a ?i ?l ?c ?k; (case a => k_is); (case i => k_is); (case l => k_is); (case c => k_is); (case k => k_is))
        (case n1 => (show PySem.W.findIn _ _ _ = some none; k_is))
        (case n2 => (show PySem.W.findIn _ _ _ = some none; k_is))
        (case n3 => (show PySem.W.findIn _ _ _ = some none; k_is))
        (case n4 => (show PySem.W.findIn _ _ _ = some none; k_is))
        (case n5 => (show PySem.W.findIn _ _ _ = some none; k_is))
        (case n6 => (show PySem.W.findIn _ _ _ = some none; k_is))
        (case n7 => (show PySem.W.findIn _ _ _ = some none; k_is))
        (case n8 => (show PySem.W.findIn _ _ _ = some none; k_is))
