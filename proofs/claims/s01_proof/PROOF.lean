import PyProof.Rows.All
import Wide.All
import OpenK.AllK
import Wide.FinOn
import PyProof.EqAt
import PyProof.EqKinds
import PyProof.TupleCall
import PyProof.ListRange
import KE.BitLaws
import Open.SpecLaws
import KE.OsHead
import KE.OsGo
import PyFlatLaws
import PySem.Challenge.RW_daycounts_s01_answers
section
set_option Elab.async false
set_option linter.all false
set_option maxRecDepth 100000
/-! The top's run at once, over a tree of objects. -/
namespace Dc
open PySem PySem.Spec PySem.W PySem.Calls PyProof PyProof.Rows
def topRunT (tb : String → Option Builtin) (p : Program) (w : World) (n₀ : Nat) (ann : Option Value) : Nat → SharedT → Thread → Option SharedT
  | 0, _, _ => none
  | n + 1, s, t => match through t with
    | true => some s
    | false => match stepOk n₀ ann t with
      | false => none
      | true => match stepT (denote tb) p w s t with
        | some (s', t') => topRunT tb p w n₀ ann n s' t'
        | none => none
theorem topRunT_of {tb : String → Option Builtin} {p : Program} {w : World} {n₀ : Nat} {ann : Option Value} : ∀ {n : Nat} {s s' : SharedT} {t : Thread}, topRunT tb p w n₀ ann n s t = some s' → topRun tb p w n₀ ann n s.abs t = some s'.abs
  | 0, _, _, _, h => by cases h
  | n + 1, s, s', t, h => by
    unfold topRunT at h
    unfold topRun
    cases he : through t with
    | true => rw [he] at h; cases h; rfl
    | false =>
      rw [he] at h
      cases hk : stepOk n₀ ann t with
      | false => rw [hk] at h; cases h
      | true =>
        rw [hk] at h
        cases hs : stepT (denote tb) p w s t with
        | none => rw [hs] at h; cases h
        | some r =>
          obtain ⟨s₂, t₂⟩ := r
          rw [hs] at h
          rw [stepT_spec hs]
          exact topRunT_of h
/-- a tree of a list's objects -/
def buildT : List Obj → Nat → BT → Option BT
  | [], _, t => some t
  | o :: l, n, t => match ((t.ins n o).get n).isSome with
    | true => buildT l (n + 1) (t.ins n o)
    | false => none
theorem buildT_of {life : Life} : ∀ {l : List Obj} {n : Nat} {t t' : BT}, buildT l n t = some t' → (absHeap t' (n + l.length) life).objs.toList = (absHeap t n life).objs.toList ++ l
  | [], n, t, t', h => by
    cases h
    simp
  | o :: l, n, t, t', h => by
    unfold buildT at h
    cases e : ((t.ins n o).get n).isSome with
    | false => rw [e] at h; cases h
    | true =>
      rw [e] at h
      have ih := buildT_of (life := life) h
      rw [show n + (o :: l).length = n + 1 + l.length by rw [List.length_cons]; omega, ih, absHeap_ins e]
      simp [Heap.push]
def toT (s : Shared) : Option SharedT := match buildT s.heap.objs.toList 0 .nil with
  | some t => some ⟨t, s.heap.objs.size, s.heap.life, s.gens, s.drawn, s.toks, s.os⟩
  | none => none
theorem toT_abs {s : Shared} {t : SharedT} (h : toT s = some t) : t.abs = s := by
  unfold toT at h
  cases e : buildT s.heap.objs.toList 0 .nil with
  | none => rw [e] at h; cases h
  | some b =>
    rw [e] at h
    cases h
    have q := buildT_of (life := s.heap.life) e
    obtain ⟨heap, gens, drawn, toks, os⟩ := s
    obtain ⟨objs, life⟩ := heap
    show (⟨absHeap b objs.size life, gens, drawn, toks, os⟩ : Shared) = _
    congr 1
    have q : (absHeap b (0 + objs.toList.length) life).objs.toList = objs.toList := by
      rw [q]
      rfl
    rw [Nat.zero_add, Array.length_toList] at q
    have q2 : (absHeap b objs.size life).objs = objs := Array.toList_inj.mp q
    have q3 : (absHeap b objs.size life).life = life := rfl
    cases hh : absHeap b objs.size life with
    | mk o l =>
      rw [hh] at q2 q3
      cases q2
      cases q3
      rfl
def topFromT (tb : String → Option Builtin) (p : Program) (w : World) (N : Nat) (s₀ : Shared) : Option SharedT :=
  match s₀.heap.isNs mainGlobals && s₀.gens.size == 0 with
  | true => match toT s₀ with
    | some t => topRunT tb p w s₀.heap.objs.size (s₀.heap.nsMap mainGlobals "__annotations__") N t (topStub p)
    | none => none
  | false => none
/-- what a look sees behind the run -/
def runT {β : Type} (p : Program) (w : World) (N : Nat) (f : Shared → Shared → β) : Option β := (fencedOpening treeTable p w N).bind fun s₀ => (topFromT treeTable p w N s₀).map fun t => f s₀ t.abs
theorem runT_in {β : Type} {p : Program} {w : World} {N : Nat} {f : Shared → Shared → β} {b : β} {s₀ : Shared} {t : SharedT} (h : runT p w N f = some b) (e0 : fencedOpening treeTable p w N = some s₀) (e1 : topFromT treeTable p w N s₀ = some t) : f s₀ t.abs = b := by
  unfold runT at h
  rw [e0] at h
  have h : ((topFromT treeTable p w N s₀).map fun t => f s₀ t.abs) = some b := h
  rw [e1] at h
  exact Option.some.inj h
theorem leftO_of {p q : Program} {loose : List Str} {Xt : Shared → Bool} {α : Type} {Yf : Shared → α} {Ya : World → α} {N : Nat}
    (h0 : ∀ w, runT p w N (fun s₀ s => staticsOk (importedModules p.main.body) s₀.heap s.heap && namesBound p s.heap && gensDone s && laidKept s₀.heap s.heap) = some true)
    (h1 : ∀ w, runT p w N (fun _ s => seen ((recsOf q).map (·.name)) (ownsOf q) [] { s with gens := #[] }) = some (expectedOf q))
    (h2 : ∀ w, runT p w N (fun _ s => s.heap.bltView) = some bltViewBooted)
    (h3 : ∀ w, runT p w N (fun _ s => s.heap.keysOk (looseW q loose) ((recsOf q).map (·.name)) ((litsOf q).map (·.1)) ((clssOf q (looseW q loose)).map (·.name))) = some true)
    (h3b : ∀ w, runT p w N (fun _ s => s.heap.accountedOkI (importedModules p.main.body) && s.heap.isNs mainGlobals && s.heap.isNs builtinsNs && tablesOk q s.heap) = some true)
    (h3c : ∀ w, runT p w N (fun _ s => Xt s && (s.gens.size == 0)) = some true)
    (h4 : ∀ w, runT p w N (fun _ s => tabsOk q s) = some true)
    (h4b : ∀ w, runT p w N (fun _ s => (pinSeenD q (drecsOf q) s, plainSeenE q (looseW q loose) s)) = some (pinGoodD (drecsOf q), plainGoodE q (looseW q loose)))
    (h5 : ∀ w, runT p w N (fun _ s => (plainSeenD q loose s, wideSeen q s, clsSeenW q loose s)) = some (plainGoodD q loose, wideGood q, clsGoodW q loose))
    (h6 : ∀ w, runT p w N (fun _ s => Yf s) = some (Ya w)) : LeftO p q loose Xt Yf Ya N := fun w => by
  have a0 := h0 w
  obtain ⟨s₀, e0, b0⟩ := Option.bind_eq_some_iff.mp a0
  obtain ⟨t, e1, b1⟩ := Option.map_eq_some_iff.mp b0
  have c1 := runT_in (h1 w) e0 e1
  have c2 := runT_in (h2 w) e0 e1
  have c3a := runT_in (h3 w) e0 e1
  have c3b := runT_in (h3b w) e0 e1
  have c3c := runT_in (h3c w) e0 e1
  have c4 := runT_in (h4 w) e0 e1
  have c4b := runT_in (h4b w) e0 e1
  have c5 := runT_in (h5 w) e0 e1
  have c6 := runT_in (h6 w) e0 e1
  have e2 : topFrom treeTable p w N s₀ = some t.abs := by
    unfold topFromT at e1
    unfold topFrom
    cases g : (s₀.heap.isNs mainGlobals && s₀.gens.size == 0) with
    | false => rw [g] at e1; cases e1
    | true =>
      rw [g] at e1
      cases gt : toT s₀ with
      | none => rw [gt] at e1; cases e1
      | some t₀ =>
        rw [gt] at e1
        have r := topRunT_of e1
        rw [toT_abs gt] at r
        dsimp only
        rw [r]
        show (match staticsOk (importedModules p.main.body) s₀.heap t.abs.heap && namesBound p t.abs.heap && gensDone t.abs && laidKept s₀.heap t.abs.heap with
          | true => some t.abs
          | false => none) = some t.abs
        have b2 : (staticsOk (importedModules p.main.body) s₀.heap t.abs.heap && namesBound p t.abs.heap && gensDone t.abs && laidKept s₀.heap t.abs.heap) = true := b1
        rw [b2]
  have e3 : openEnds treeTable p w N = some t.abs := by
    unfold openEnds
    rw [e0]
    exact e2
  rw [e3]
  show some (openSeen q loose (importedModules p.main.body) Xt true t.abs, Yf t.abs) = _
  rw [c6]
  congr 2
  unfold openSeen openGood
  rw [c1, c2]
  have d4 := Prod.mk.inj c4b
  have d5 := Prod.mk.inj c5
  have d52 := Prod.mk.inj d5.2
  rw [c4, d4.1, d4.2, d5.1, d52.1, d52.2]
  simp only [Bool.and_eq_true] at c3b c3c
  obtain ⟨⟨⟨x1, x2⟩, x3⟩, x4⟩ := c3b
  obtain ⟨x5, x6⟩ := c3c
  rw [c3a, x1, x2, x3, x4, x5, if_pos rfl, x6]
  rfl
def viewP : Program := { PySem.Challenge.pw_daycounts_s01_answers with main := { PySem.Challenge.pw_daycounts_s01_answers.main with body := [PySem.Challenge.pw_daycounts_s01_answers.main.body.getD 1 (.Pass ⟨0, 0, 0, 0⟩), PySem.Challenge.pw_daycounts_s01_answers.main.body.getD 2 (.Pass ⟨0, 0, 0, 0⟩), PySem.Challenge.pw_daycounts_s01_answers.main.body.getD 3 (.Pass ⟨0, 0, 0, 0⟩), PySem.Challenge.pw_daycounts_s01_answers.main.body.getD 4 (.Pass ⟨0, 0, 0, 0⟩), PySem.Challenge.pw_daycounts_s01_answers.main.body.getD 5 (.Pass ⟨0, 0, 0, 0⟩), PySem.Challenge.pw_daycounts_s01_answers.main.body.getD 6 (.Pass ⟨0, 0, 0, 0⟩), PySem.Challenge.pw_daycounts_s01_answers.main.body.getD 7 (.Pass ⟨0, 0, 0, 0⟩), PySem.Challenge.pw_daycounts_s01_answers.main.body.getD 8 (.Pass ⟨0, 0, 0, 0⟩), PySem.Challenge.pw_daycounts_s01_answers.main.body.getD 9 (.Pass ⟨0, 0, 0, 0⟩), PySem.Challenge.pw_daycounts_s01_answers.main.body.getD 10 (.Pass ⟨0, 0, 0, 0⟩), PySem.Challenge.pw_daycounts_s01_answers.main.body.getD 11 (.Pass ⟨0, 0, 0, 0⟩), PySem.Challenge.pw_daycounts_s01_answers.main.body.getD 12 (.Pass ⟨0, 0, 0, 0⟩), PySem.Challenge.pw_daycounts_s01_answers.main.body.getD 13 (.Pass ⟨0, 0, 0, 0⟩), PySem.Challenge.pw_daycounts_s01_answers.main.body.getD 14 (.Pass ⟨0, 0, 0, 0⟩), PySem.Challenge.pw_daycounts_s01_answers.main.body.getD 15 (.Pass ⟨0, 0, 0, 0⟩), PySem.Challenge.pw_daycounts_s01_answers.main.body.getD 16 (.Pass ⟨0, 0, 0, 0⟩), PySem.Challenge.pw_daycounts_s01_answers.main.body.getD 17 (.Pass ⟨0, 0, 0, 0⟩), PySem.Challenge.pw_daycounts_s01_answers.main.body.getD 18 (.Pass ⟨0, 0, 0, 0⟩), PySem.Challenge.pw_daycounts_s01_answers.main.body.getD 19 (.Pass ⟨0, 0, 0, 0⟩), PySem.Challenge.pw_daycounts_s01_answers.main.body.getD 20 (.Pass ⟨0, 0, 0, 0⟩), PySem.Challenge.pw_daycounts_s01_answers.main.body.getD 21 (.Pass ⟨0, 0, 0, 0⟩), PySem.Challenge.pw_daycounts_s01_answers.main.body.getD 22 (.Pass ⟨0, 0, 0, 0⟩), PySem.Challenge.pw_daycounts_s01_answers.main.body.getD 23 (.Pass ⟨0, 0, 0, 0⟩), PySem.Challenge.pw_daycounts_s01_answers.main.body.getD 24 (.Pass ⟨0, 0, 0, 0⟩), PySem.Challenge.pw_daycounts_s01_answers.main.body.getD 26 (.Pass ⟨0, 0, 0, 0⟩), PySem.Challenge.pw_daycounts_s01_answers.main.body.getD 28 (.Pass ⟨0, 0, 0, 0⟩), PySem.Challenge.pw_daycounts_s01_answers.main.body.getD 30 (.Pass ⟨0, 0, 0, 0⟩), PySem.Challenge.pw_daycounts_s01_answers.main.body.getD 31 (.Pass ⟨0, 0, 0, 0⟩), PySem.Challenge.pw_daycounts_s01_answers.main.body.getD 32 (.Pass ⟨0, 0, 0, 0⟩), PySem.Challenge.pw_daycounts_s01_answers.main.body.getD 33 (.Pass ⟨0, 0, 0, 0⟩), PySem.Challenge.pw_daycounts_s01_answers.main.body.getD 34 (.Pass ⟨0, 0, 0, 0⟩), PySem.Challenge.pw_daycounts_s01_answers.main.body.getD 35 (.Pass ⟨0, 0, 0, 0⟩), PySem.Challenge.pw_daycounts_s01_answers.main.body.getD 36 (.Pass ⟨0, 0, 0, 0⟩), PySem.Challenge.pw_daycounts_s01_answers.main.body.getD 37 (.Pass ⟨0, 0, 0, 0⟩), PySem.Challenge.pw_daycounts_s01_answers.main.body.getD 38 (.Pass ⟨0, 0, 0, 0⟩), PySem.Challenge.pw_daycounts_s01_answers.main.body.getD 39 (.Pass ⟨0, 0, 0, 0⟩), PySem.Challenge.pw_daycounts_s01_answers.main.body.getD 40 (.Pass ⟨0, 0, 0, 0⟩), PySem.Challenge.pw_daycounts_s01_answers.main.body.getD 41 (.Pass ⟨0, 0, 0, 0⟩), PySem.Challenge.pw_daycounts_s01_answers.main.body.getD 42 (.Pass ⟨0, 0, 0, 0⟩), PySem.Challenge.pw_daycounts_s01_answers.main.body.getD 43 (.Pass ⟨0, 0, 0, 0⟩), PySem.Challenge.pw_daycounts_s01_answers.main.body.getD 44 (.Pass ⟨0, 0, 0, 0⟩), PySem.Challenge.pw_daycounts_s01_answers.main.body.getD 45 (.Pass ⟨0, 0, 0, 0⟩), PySem.Challenge.pw_daycounts_s01_answers.main.body.getD 46 (.Pass ⟨0, 0, 0, 0⟩), PySem.Challenge.pw_daycounts_s01_answers.main.body.getD 47 (.Pass ⟨0, 0, 0, 0⟩), PySem.Challenge.pw_daycounts_s01_answers.main.body.getD 48 (.Pass ⟨0, 0, 0, 0⟩), PySem.Challenge.pw_daycounts_s01_answers.main.body.getD 49 (.Pass ⟨0, 0, 0, 0⟩), PySem.Challenge.pw_daycounts_s01_answers.main.body.getD 50 (.Pass ⟨0, 0, 0, 0⟩), PySem.Challenge.pw_daycounts_s01_answers.main.body.getD 51 (.Pass ⟨0, 0, 0, 0⟩), PySem.Challenge.pw_daycounts_s01_answers.main.body.getD 52 (.Pass ⟨0, 0, 0, 0⟩), PySem.Challenge.pw_daycounts_s01_answers.main.body.getD 53 (.Pass ⟨0, 0, 0, 0⟩), PySem.Challenge.pw_daycounts_s01_answers.main.body.getD 55 (.Pass ⟨0, 0, 0, 0⟩), PySem.Challenge.pw_daycounts_s01_answers.main.body.getD 56 (.Pass ⟨0, 0, 0, 0⟩), PySem.Challenge.pw_daycounts_s01_answers.main.body.getD 57 (.Pass ⟨0, 0, 0, 0⟩), PySem.Challenge.pw_daycounts_s01_answers.main.body.getD 58 (.Pass ⟨0, 0, 0, 0⟩), PySem.Challenge.pw_daycounts_s01_answers.main.body.getD 59 (.Pass ⟨0, 0, 0, 0⟩), PySem.Challenge.pw_daycounts_s01_answers.main.body.getD 60 (.Pass ⟨0, 0, 0, 0⟩), PySem.Challenge.pw_daycounts_s01_answers.main.body.getD 61 (.Pass ⟨0, 0, 0, 0⟩), PySem.Challenge.pw_daycounts_s01_answers.main.body.getD 62 (.Pass ⟨0, 0, 0, 0⟩), PySem.Challenge.pw_daycounts_s01_answers.main.body.getD 63 (.Pass ⟨0, 0, 0, 0⟩), PySem.Challenge.pw_daycounts_s01_answers.main.body.getD 64 (.Pass ⟨0, 0, 0, 0⟩), PySem.Challenge.pw_daycounts_s01_answers.main.body.getD 65 (.Pass ⟨0, 0, 0, 0⟩), PySem.Challenge.pw_daycounts_s01_answers.main.body.getD 66 (.Pass ⟨0, 0, 0, 0⟩), PySem.Challenge.pw_daycounts_s01_answers.main.body.getD 67 (.Pass ⟨0, 0, 0, 0⟩), PySem.Challenge.pw_daycounts_s01_answers.main.body.getD 68 (.Pass ⟨0, 0, 0, 0⟩), PySem.Challenge.pw_daycounts_s01_answers.main.body.getD 69 (.Pass ⟨0, 0, 0, 0⟩), PySem.Challenge.pw_daycounts_s01_answers.main.body.getD 70 (.Pass ⟨0, 0, 0, 0⟩), PySem.Challenge.pw_daycounts_s01_answers.main.body.getD 71 (.Pass ⟨0, 0, 0, 0⟩), PySem.Challenge.pw_daycounts_s01_answers.main.body.getD 72 (.Pass ⟨0, 0, 0, 0⟩), PySem.Challenge.pw_daycounts_s01_answers.main.body.getD 73 (.Pass ⟨0, 0, 0, 0⟩), PySem.Challenge.pw_daycounts_s01_answers.main.body.getD 74 (.Pass ⟨0, 0, 0, 0⟩), PySem.Challenge.pw_daycounts_s01_answers.main.body.getD 75 (.Pass ⟨0, 0, 0, 0⟩), PySem.Challenge.pw_daycounts_s01_answers.main.body.getD 76 (.Pass ⟨0, 0, 0, 0⟩), PySem.Challenge.pw_daycounts_s01_answers.main.body.getD 77 (.Pass ⟨0, 0, 0, 0⟩), PySem.Challenge.pw_daycounts_s01_answers.main.body.getD 78 (.Pass ⟨0, 0, 0, 0⟩), PySem.Challenge.pw_daycounts_s01_answers.main.body.getD 79 (.Pass ⟨0, 0, 0, 0⟩), PySem.Challenge.pw_daycounts_s01_answers.main.body.getD 80 (.Pass ⟨0, 0, 0, 0⟩), PySem.Challenge.pw_daycounts_s01_answers.main.body.getD 81 (.Pass ⟨0, 0, 0, 0⟩), PySem.Challenge.pw_daycounts_s01_answers.main.body.getD 82 (.Pass ⟨0, 0, 0, 0⟩), PySem.Challenge.pw_daycounts_s01_answers.main.body.getD 83 (.Pass ⟨0, 0, 0, 0⟩), PySem.Challenge.pw_daycounts_s01_answers.main.body.getD 84 (.Pass ⟨0, 0, 0, 0⟩), PySem.Challenge.pw_daycounts_s01_answers.main.body.getD 85 (.Pass ⟨0, 0, 0, 0⟩), PySem.Challenge.pw_daycounts_s01_answers.main.body.getD 86 (.Pass ⟨0, 0, 0, 0⟩), PySem.Challenge.pw_daycounts_s01_answers.main.body.getD 87 (.Pass ⟨0, 0, 0, 0⟩), PySem.Challenge.pw_daycounts_s01_answers.main.body.getD 88 (.Pass ⟨0, 0, 0, 0⟩), PySem.Challenge.pw_daycounts_s01_answers.main.body.getD 89 (.Pass ⟨0, 0, 0, 0⟩), PySem.Challenge.pw_daycounts_s01_answers.main.body.getD 90 (.Pass ⟨0, 0, 0, 0⟩), PySem.Challenge.pw_daycounts_s01_answers.main.body.getD 91 (.Pass ⟨0, 0, 0, 0⟩), PySem.Challenge.pw_daycounts_s01_answers.main.body.getD 92 (.Pass ⟨0, 0, 0, 0⟩), PySem.Challenge.pw_daycounts_s01_answers.main.body.getD 93 (.Pass ⟨0, 0, 0, 0⟩), PySem.Challenge.pw_daycounts_s01_answers.main.body.getD 94 (.Pass ⟨0, 0, 0, 0⟩), PySem.Challenge.pw_daycounts_s01_answers.main.body.getD 95 (.Pass ⟨0, 0, 0, 0⟩), PySem.Challenge.pw_daycounts_s01_answers.main.body.getD 96 (.Pass ⟨0, 0, 0, 0⟩), PySem.Challenge.pw_daycounts_s01_answers.main.body.getD 97 (.Pass ⟨0, 0, 0, 0⟩), PySem.Challenge.pw_daycounts_s01_answers.main.body.getD 98 (.Pass ⟨0, 0, 0, 0⟩), PySem.Challenge.pw_daycounts_s01_answers.main.body.getD 99 (.Pass ⟨0, 0, 0, 0⟩)] } }
end Dc
end
section
set_option Elab.async false
set_option linter.all false
set_option maxRecDepth 100000
set_option maxHeartbeats 0
namespace Dc
open PySem PySem.Spec PySem.W PySem.Calls PyProof PyProof.Rows
theorem hd0 : ∀ w, runT PySem.Challenge.pw_daycounts_s01_answers w 6280 (fun s₀ s => staticsOk (importedModules PySem.Challenge.pw_daycounts_s01_answers.main.body) s₀.heap s.heap && namesBound PySem.Challenge.pw_daycounts_s01_answers s.heap && gensDone s && laidKept s₀.heap s.heap) = some true := fun w => by kernel_rfl
theorem hd1 : ∀ w, runT PySem.Challenge.pw_daycounts_s01_answers w 6280 (fun s₀ s => seen ((recsOf Dc.viewP).map (·.name)) (ownsOf Dc.viewP) [] { s with gens := #[] }) = some (expectedOf Dc.viewP) := fun w => by kernel_rfl
theorem hd2 : ∀ w, runT PySem.Challenge.pw_daycounts_s01_answers w 6280 (fun s₀ s => s.heap.bltView) = some bltViewBooted := fun w => by kernel_rfl
theorem hd3 : ∀ w, runT PySem.Challenge.pw_daycounts_s01_answers w 6280 (fun s₀ s => s.heap.keysOk (looseW Dc.viewP ([PySem.Str.ofString "HANDLERS"])) ((recsOf Dc.viewP).map (·.name)) ((litsOf Dc.viewP).map (·.1)) ((clssOf Dc.viewP (looseW Dc.viewP ([PySem.Str.ofString "HANDLERS"]))).map (·.name))) = some true := fun w => by kernel_rfl
theorem hd3b : ∀ w, runT PySem.Challenge.pw_daycounts_s01_answers w 6280 (fun s₀ s => s.heap.accountedOkI (importedModules PySem.Challenge.pw_daycounts_s01_answers.main.body) && s.heap.isNs mainGlobals && s.heap.isNs builtinsNs && tablesOk Dc.viewP s.heap) = some true := fun w => by kernel_rfl
theorem hd3c : ∀ w, runT PySem.Challenge.pw_daycounts_s01_answers w 6280 (fun s₀ s => (fun s => xlAt Dc.viewP [] s && recOk [] s) s && (s.gens.size == 0)) = some true := fun w => by kernel_rfl
theorem hd4 : ∀ w, runT PySem.Challenge.pw_daycounts_s01_answers w 6280 (fun s₀ s => tabsOk Dc.viewP s) = some true := fun w => by kernel_rfl
theorem hd4b : ∀ w, runT PySem.Challenge.pw_daycounts_s01_answers w 6280 (fun s₀ s => (pinSeenD Dc.viewP (drecsOf Dc.viewP) s, plainSeenE Dc.viewP (looseW Dc.viewP ([PySem.Str.ofString "HANDLERS"])) s)) = some (pinGoodD (drecsOf Dc.viewP), plainGoodE Dc.viewP (looseW Dc.viewP ([PySem.Str.ofString "HANDLERS"]))) := fun w => by kernel_rfl
theorem hd5 : ∀ w, runT PySem.Challenge.pw_daycounts_s01_answers w 6280 (fun s₀ s => (plainSeenD Dc.viewP ([PySem.Str.ofString "HANDLERS"]) s, wideSeen Dc.viewP s, clsSeenW Dc.viewP ([PySem.Str.ofString "HANDLERS"]) s)) = some (plainGoodD Dc.viewP ([PySem.Str.ofString "HANDLERS"]), wideGood Dc.viewP, clsGoodW Dc.viewP ([PySem.Str.ofString "HANDLERS"])) := fun w => by kernel_rfl
end Dc
end
section
set_option Elab.async false
set_option linter.all false
set_option maxRecDepth 100000
set_option maxHeartbeats 0
open PySem PySem.W PyProof.Rows
local macro_rules | `(tactic| o_headS $H) => `(tactic| refine holds_os (q := Dc.viewP) (loose := [PySem.Str.ofString "HANDLERS"]) (Xt := fun s => xlAt Dc.viewP [] s && recOk [] s) (XP := XL Dc.viewP []) (Yf := Hook.obs $H) (Ya := Hook.val $H) (YP := Hook.says $H) (N := 6280) ?hl (Hook.of $H) (Hook.keeps $H) (fun s e => xl_of s (Bool.and_eq_true_iff.mp e).1) XL.keeps (by rfl) (by rfl) (by rfl) (fun s e => recFacts_of (Bool.and_eq_true_iff.mp e).2) os_shapes (by first | assumption | decide +kernel) (by decide +kernel) ⟨rfl, rfl, rfl, rfl, rfl, by decide +kernel⟩ ?hw ?hc)
local macro_rules | `(tactic| o_law) => `(tactic| skip)
local macro_rules | `(tactic| k_head) => `(tactic| (k_headS; (case hl => exact Dc.leftO_of Dc.hd0 Dc.hd1 Dc.hd2 Dc.hd3 Dc.hd3b Dc.hd3c Dc.hd4 Dc.hd4b Dc.hd5 (fun w => by kernel_rfl))))
local macro_rules | `(tactic| w_witness2) => `(tactic| exact ⟨[.list [.int 0]], by decide +kernel, by decide +kernel⟩)
open_top Dc.headT for PySem.Challenge.rw_daycounts_s01_answers
end
section
set_option Elab.async false
set_option linter.all false
set_option maxRecDepth 100000
namespace L2
open PySem PySem.Spec PyProof.Rows
abbrev Key := Sum Int Str
def keyIs : Key → Value → Bool
  | .inl k, v => Value.isInt k v
  | .inr x, v => Value.isStrOf x v
def keyH (w : World) : Key → Int
  | .inl k => hashInt k
  | .inr x => hashStr w x
theorem keyIs_shape : ∀ {k : Key} {v : Value}, keyIs k v = true → (∃ i t, k = Sum.inl i ∧ v = Value.int i t) ∨ (∃ x t, k = Sum.inr x ∧ v = Value.str x t)
  | .inl i, v, h => by
    obtain ⟨t, e⟩ := Value.isInt_shape (k := i) (v := v) h
    exact .inl ⟨i, t, rfl, e⟩
  | .inr x, v, h => by
    obtain ⟨t, e⟩ := Value.isStrOf_shape (x := x) (v := v) h
    exact .inr ⟨x, t, rfl, e⟩
theorem keyIs_int (i : Int) (t : Tok) : keyIs (.inl i) (.int i t) = true := by simp [keyIs, Value.isInt]
theorem keyIs_str (x : Str) (t : Tok) : keyIs (.inr x) (.str x t) = true := by simp [keyIs, Value.isStrOf]
theorem key_ll (a b : Int) : decide ((Sum.inl a : Key) = Sum.inl b) = (a == b) := by
  by_cases e : a = b
  · subst e; simp
  · have h : ¬ (Sum.inl a : Key) = Sum.inl b := fun q => e (Sum.inl.inj q)
    rw [decide_eq_false h]
    exact (beq_eq_false_iff_ne.mpr e).symm
theorem key_rr (a b : Str) : decide ((Sum.inr a : Key) = Sum.inr b) = decide (a = b) := by
  by_cases e : a = b
  · subst e; simp
  · have h : ¬ (Sum.inr a : Key) = Sum.inr b := fun q => e (Sum.inr.inj q)
    rw [decide_eq_false h, decide_eq_false e]
theorem key_lr (a : Int) (b : Str) : decide ((Sum.inl a : Key) = Sum.inr b) = false := decide_eq_false (fun q => nomatch q)
theorem key_rl (a : Str) (b : Int) : decide ((Sum.inr a : Key) = Sum.inl b) = false := decide_eq_false (fun q => nomatch q)
def mixKind (prog : Program) (w : World) : PySem.KeyKind prog w Key where
  is := keyIs
  hash := keyH w
  inj := fun v a b ha hb => by
    rcases keyIs_shape ha with ⟨i, t, rfl, rfl⟩ | ⟨x, t, rfl, rfl⟩
    · rcases keyIs_shape hb with ⟨j, u, rfl, e⟩ | ⟨y, u, rfl, e⟩
      · injection e with e1 _; rw [e1]
      · exact nomatch e
    · rcases keyIs_shape hb with ⟨j, u, rfl, e⟩ | ⟨y, u, rfl, e⟩
      · exact nomatch e
      · injection e with e1 _; rw [e1]
  byValue := fun k v h => by
    rcases keyIs_shape h with ⟨i, t, rfl, rfl⟩ | ⟨x, t, rfl, rfl⟩ <;> rfl
  pyHash := fun hv h => by
    rcases keyIs_shape hv with ⟨i, t, rfl, rfl⟩ | ⟨x, t, rfl, rfl⟩
    · exact wpAny_pyHash_int h
    · exact wpAny_pyHash_str h
  eqBool := fun hu hv h => by
    rcases keyIs_shape hu with ⟨i, t, rfl, rfl⟩ | ⟨x, t, rfl, rfl⟩
    · rcases keyIs_shape hv with ⟨j, u, rfl, rfl⟩ | ⟨y, u, rfl, rfl⟩
      · rw [key_ll] at h; exact wpAny_eqBool_int h
      · rw [key_lr] at h; exact SeqAt.EqAt.int_str i t y u _ _ _ _ h
    · rcases keyIs_shape hv with ⟨j, u, rfl, rfl⟩ | ⟨y, u, rfl, rfl⟩
      · rw [key_rl] at h; exact SeqAt.EqAt.str_int x t j u _ _ _ _ h
      · rw [key_rr] at h; exact wpAny_eqBool_str h
  «strs» := fun k x t v h => by
    rcases keyIs_shape h with ⟨i, u, rfl, e⟩ | ⟨y, u, rfl, e⟩
    · exact nomatch e
    · injection e with e1 _
      subst e1
      cases v <;> rfl
theorem mixKind_int (prog : Program) (w : World) (i : Int) (t : Tok) : (mixKind prog w).is (.inl i) (.int i t) = true := keyIs_int i t
theorem mixKind_str (prog : Program) (w : World) (x : Str) (t : Tok) : (mixKind prog w).is (.inr x) (.str x t) = true := keyIs_str x t
end L2
namespace L2
open PySem PySem.Spec PyProof.Rows
inductive V where
  | non | bl (b : Bool) | int (i : Int) | str (x : Str) | byt (b : Array UInt8) | flt (b : UInt64) | ref (a : Addr) | ty (n : String)
  deriving DecidableEq
def RelV : V → Value → Prop
  | .non, u => u = Value.none
  | .bl b, u => u = Value.bool b
  | .int i, u => ∃ t, u = Value.int i t
  | .str x, u => ∃ t, u = Value.str x t
  | .byt b, u => ∃ t, u = Value.bytes b t
  | .flt b, u => ∃ t, u = Value.float b t
  | .ref a, u => u = Value.ref a
  | .ty n, u => u = Value.type n
abbrev Vals : List V → List Value → Prop := Paired RelV
theorem Vals.length {xs : List V} {us : List Value} (r : Vals xs us) : xs.length = us.length := Paired.length r
theorem Vals.get : ∀ {xs : List V} {us : List Value} {i : Nat} {x : V}, Vals xs us → xs[i]? = some x → ∃ u, us[i]? = some u ∧ RelV x u
  | _, _, _, _, .nil, e => by simp at e
  | _, _, 0, _, .cons r _, e => by simp at e; subst e; exact ⟨_, rfl, r⟩
  | _, _, i + 1, x, .cons _ t, e => by
    obtain ⟨u, h1, h2⟩ := Vals.get (i := i) (x := x) t (by simpa using e)
    exact ⟨u, by simpa using h1, h2⟩
theorem Vals.set {x : V} {u : Value} (r : RelV x u) : ∀ {xs : List V} {us : List Value} (i : Nat), Vals xs us → Vals (xs.set i x) (us.set i u)
  | _, _, _, .nil => .nil
  | _, _, 0, .cons _ t => .cons r t
  | _, _, i + 1, .cons q t => .cons q (Vals.set r i t)
theorem Vals.append : ∀ {xs ys : List V} {us ws : List Value}, Vals xs us → Vals ys ws → Vals (xs ++ ys) (us ++ ws)
  | _, _, _, _, .nil, s => s
  | _, _, _, _, .cons r t, s => .cons r (Vals.append t s)
theorem Vals.take : ∀ {xs : List V} {us : List Value} (n : Nat), Vals xs us → Vals (xs.take n) (us.take n)
  | _, _, 0, _ => .nil
  | _, _, _ + 1, .nil => .nil
  | _, _, n + 1, .cons r t => .cons r (Vals.take n t)
theorem Vals.drop : ∀ {xs : List V} {us : List Value} (n : Nat), Vals xs us → Vals (xs.drop n) (us.drop n)
  | _, _, 0, r => r
  | _, _, _ + 1, .nil => .nil
  | _, _, n + 1, .cons _ t => Vals.drop n t
def RelO : Option V → Option Value → Prop
  | some v, some u => RelV v u
  | none, none => True
  | _, _ => False
def KV {κ : Type} : List (κ × V) → List (κ × Value) → Prop := Paired fun (p : κ × V) (q : κ × Value) => p.1 = q.1 ∧ RelV p.2 q.2
def kV : Key → V
  | .inl i => .int i
  | .inr x => .str x
inductive HO where
  /-- a list -/
  | lst (xs : List V)
  /-- a tuple (never changes) -/
  | tup (xs : List V)
  /-- a dict whose keys are ints and texts; one whose keys are tuples of ints and texts (the empty one is both) -/
  | dK (kvs : List (Key × V)) | dT (kvs : List (List Key × V))
  /-- a set of ints: its members, its size -/
  | set (S : Int → Bool) (n : Nat)
  /-- an instance of the class at C, its dict at dx, its attributes -/
  | ins (C dx : Addr) (fs : List (Str × V))
  /-- the dict of the instance at x -/
  | own (x : Addr)
  /-- the dict of an exception -/
  | xd (fs : List (Str × V))
  /-- a bound method, f of x -/
  | met (f x : Addr)
  /-- a range object lo, lo + 1, .. below hi -/
  | rng (lo hi : Int)
  /-- a thing that is known to the object (the script; a dict while a loop walks it): read, never written while it is so -/
  | frz (o : Obj) (u : HO)
  /-- a code object's table -/
  | tbl (ps : Array Value)
  /-- any other thing, by what is true of its one object (a def of one's own: SetO a S n := HO.ext fun h => ..) -/
  | ext (φ : Heap → Prop)
abbrev Hp := Addr → Option HO
def upd (H : Hp) (a : Addr) (o : HO) : Hp := fun b => if b = a then some o else H b
theorem upd_same {H : Hp} {a : Addr} {o : HO} : upd H a o a = some o := by unfold upd; rw [if_pos rfl]
theorem upd_ne {H : Hp} {a b : Addr} {o : HO} (h : b ≠ a) : upd H a o b = H b := by unfold upd; rw [if_neg h]
theorem ne_of {H : Hp} {a b : Addr} {o u : HO} (h : H a = some o) (h' : H b = some u) (d : o ≠ u) : a ≠ b := by
  intro e; subst e; rw [h] at h'; exact d (Option.some.inj h')
theorem ne_of_none {H : Hp} {a b : Addr} {o : HO} (h : H a = some o) (h' : H b = none) : a ≠ b := by
  intro e; subst e; rw [h] at h'; cases h'
section
variable (P : Program) (w : World)
def ObjOk (H : Hp) (h : Heap) (a : Addr) : HO → Prop
  | .lst xs => xs.length ≤ sizeLine ∧ ∃ (its : List Value) (n : Nat), Vals xs its ∧ h.get? a = some { cls := .type "list", data := .seq its.toArray n }
  | .tup xs => xs.length ≤ sizeLine ∧ ∃ its : List Value, Vals xs its ∧ IsTup h a its.toArray
  | .dK kvs => kvs.length ≤ sizeLine ∧ (a == sysModules) = false ∧ ∃ vs, KV kvs vs ∧ h.DictOf (mixKind P w) a vs
  | .dT kvs => kvs.length ≤ sizeLine ∧ (a == sysModules) = false ∧ ∃ xs : List (List Key × Addr × Value),
      Paired (fun (p : List Key × V) (q : List Key × Addr × Value) => p.1 = q.1 ∧ H q.2.1 = some (.tup (p.1.map kV)) ∧ RelV p.2 q.2.2) kvs xs ∧
      ∃ o es ep, h.get? a = some o ∧ o.ExactDict ∧ o.data = .dict es ep ∧ es.toList = xs.map (entryOfKey (tupleKind (mixKind P w))) ∧ (xs.map (·.1)).Nodup
  | .set S n => h.SetOf (intKind P w) a S n
  | .ins C dx fs => H dx = some (.own a) ∧ fs.length ≤ 1000 ∧ dx ≠ a ∧ h.get? a = some (PySem.W.instObj C dx) ∧
      ∃ mA, h.Ns1 dx mA ∧ (∀ f, RelO (fs.lookup f) (mA f)) ∧ PySem.Within mA (fs.map (·.1))
  | .own _ => ∃ o, h.get? a = some o
  | .xd fs => ∃ mA, h.Ns1 a mA ∧ ∀ f, RelO (fs.lookup f) (mA f)
  | .rng lo hi => ∃ t u v, h.get? a = some { cls := .type "range", data := .fields #[.int lo t, .int hi u, .int 1 v] }
  | .frz o u => h.get? a = some o ∧ ObjOk H h a u
  | .tbl ps => h.get? a = some { cls := .none, data := .fields ps }
  | .met f x => h.get? a = some (PySem.W.methodObj (.ref f) (.ref x))
  | .ext φ => φ h ∧ (∃ o, h.get? a = some o) ∧ ∀ h1 h2 : Heap, φ h1 → (∀ o, h1.get? a = some o → h2.get? a = some o) → φ h2
def HOk (H : Hp) (h : Heap) : Prop := ∀ a o, H a = some o → ObjOk P w H h a o
end
section
variable {P : Program} {w : World} {H H' : Hp} {h h' : Heap} {a : Addr} {o : HO}
theorem ObjOk.lt (x : ObjOk P w H h a o) : a < h.objs.size := by
  cases o with
  | lst xs => obtain ⟨_, _, _, _, e⟩ := x; exact Heap.lt_size e
  | tup xs => obtain ⟨_, _, _, p⟩ := x; exact p.lt
  | dK kvs => obtain ⟨_, _, _, _, o, _, _, e, _⟩ := x; exact Heap.lt_size e
  | dT kvs => obtain ⟨_, _, _, _, o, _, _, e, _⟩ := x; exact Heap.lt_size e
  | set S n => obtain ⟨o, _, _, _, e, _⟩ := x; exact Heap.lt_size e
  | ins C dx fs => obtain ⟨_, _, _, e, _⟩ := x; exact Heap.lt_size e
  | own y => obtain ⟨_, e⟩ := x; exact Heap.lt_size e
  | xd fs => obtain ⟨_, ⟨_, _, _, e, _⟩, _⟩ := x; exact Heap.lt_size e
  | rng lo hi => obtain ⟨_, _, _, e⟩ := x; exact Heap.lt_size e
  | frz ob u => obtain ⟨e, _⟩ := x; exact Heap.lt_size e
  | tbl ps => exact Heap.lt_size (show h.get? a = some _ from x)
  | met f y => exact Heap.lt_size (show h.get? a = some _ from x)
  | ext φ => obtain ⟨_, ⟨_, e⟩, _⟩ := x; exact Heap.lt_size e
theorem Paired.mapP {α β : Type} {F G : α → β → Prop} : ∀ {l₁ : List α} {l₂ : List β}, Paired F l₁ l₂ → (∀ a b, F a b → G a b) → Paired G l₁ l₂
  | _, _, .nil, _ => .nil
  | _, _, .cons r t, f => .cons (f _ _ r) (Paired.mapP t f)
theorem ObjOk.stay (x : ObjOk P w H h a o) (k : ∀ b u, (b = a ∨ H b = some (.own a)) → h.get? b = some u → h'.get? b = some u)
    (ho : ∀ b, H b = some (.own a) → H' b = some (.own a)) (ht : ∀ b xs, H b = some (.tup xs) → H' b = some (.tup xs)) : ObjOk P w H' h' a o := by
  induction o with
  | lst xs => obtain ⟨z, its, n, r, e⟩ := x; exact ⟨z, its, n, r, k _ _ (.inl rfl) e⟩
  | tup xs => obtain ⟨z, its, r, ob, e, c⟩ := x; exact ⟨z, its, r, ob, k _ _ (.inl rfl) e, c⟩
  | dK kvs => obtain ⟨z, y, vs, r, ob, es, ep, e, c⟩ := x; exact ⟨z, y, vs, r, ob, es, ep, k _ _ (.inl rfl) e, c⟩
  | dT kvs =>
    obtain ⟨z, y, xs, r, ob, es, ep, e, c⟩ := x
    exact ⟨z, y, xs, Paired.mapP r fun p q z => ⟨z.1, ht _ _ z.2.1, z.2.2⟩, ob, es, ep, k _ _ (.inl rfl) e, c⟩
  | set S n => obtain ⟨ob, es, ep, t, e, c⟩ := x; exact ⟨ob, es, ep, t, k _ _ (.inl rfl) e, c⟩
  | ins C dx fs =>
    obtain ⟨d, z, ne, e, mA, ⟨od, es, ep, e2, c⟩, r⟩ := x
    exact ⟨ho _ d, z, ne, k _ _ (.inl rfl) e, mA, ⟨od, es, ep, k _ _ (.inr d) e2, c⟩, r⟩
  | own y => obtain ⟨ob, e⟩ := x; exact ⟨ob, k _ _ (.inl rfl) e⟩
  | xd fs => obtain ⟨mA, ⟨od, es, ep, e, c⟩, r⟩ := x; exact ⟨mA, ⟨od, es, ep, k _ _ (.inl rfl) e, c⟩, r⟩
  | rng lo hi => obtain ⟨t, u, v, e⟩ := x; exact ⟨t, u, v, k _ _ (.inl rfl) e⟩
  | frz ob u ih => obtain ⟨e, q⟩ := x; exact ⟨k _ _ (.inl rfl) e, ih q⟩
  | tbl ps =>
    have e : h.get? a = some { cls := .none, data := .fields ps } := x
    show h'.get? a = some { cls := .none, data := .fields ps }
    exact k a _ (.inl rfl) e
  | met f y =>
    have e : h.get? a = some (PySem.W.methodObj (.ref f) (.ref y)) := x
    show h'.get? a = some (PySem.W.methodObj (.ref f) (.ref y))
    exact k a _ (.inl rfl) e
  | ext φ => obtain ⟨p, ⟨o, e⟩, st⟩ := x; exact ⟨st _ _ p fun o q => k _ _ (.inl rfl) q, ⟨o, k _ _ (.inl rfl) e⟩, st⟩
theorem HOk.lt (x : HOk P w H h) (e : H a = some o) : a < h.objs.size := (x a o e).lt
theorem HOk.fresh (x : HOk P w H h) (e : h.objs.size ≤ a) : H a = none := by
  cases q : H a with
  | none => rfl
  | some u => exact absurd (Nat.lt_of_lt_of_le (x.lt q) e) (Nat.lt_irrefl _)
theorem HOk.kept (x : HOk P w H h) (k : ∀ b u, h.get? b = some u → h'.get? b = some u) : HOk P w H h' := fun a o e =>
  (x a o e).stay (fun b u _ q => k b u q) (fun _ q => q) fun _ _ q => q
theorem HOk.laid (x : HOk P w H h) (k : ∀ b u, h.get? b = some u → h'.get? b = some u) (hp : h.objs.size ≤ a) (new : ObjOk P w (upd H a o) h' a o) : HOk P w (upd H a o) h' := fun b u e => by
  have hn := x.fresh hp
  by_cases hb : b = a
  · subst hb; rw [upd_same] at e; cases e; exact new
  · rw [upd_ne hb] at e
    exact (x b u e).stay (fun c v _ q => k c v q) (fun c q => by rw [upd_ne (ne_of_none q hn)]; exact q) fun c xs q => by rw [upd_ne (ne_of_none q hn)]; exact q
end
def Rd (H : Hp) (a : Addr) (u : HO) : Prop := H a = some u ∨ ∃ o, H a = some (.frz o u)
theorem Rd.ok {P : Program} {w : World} {H : Hp} {h : Heap} {a : Addr} {u : HO} (r : Rd H a u) (x : HOk P w H h) : ObjOk P w H h a u := by
  rcases r with r | ⟨o, r⟩
  · exact x a u r
  · obtain ⟨_, q⟩ := x a _ r
    exact q
def Mut : Option HO → Prop
  | some (.lst _) => True
  | some (.dK _) => True
  | some (.dT _) => True
  | some (.set _ _) => True
  | some (.ins _ _ _) => True
  | some (.ext _) => True
  | _ => False
section
variable {P : Program} {w : World} {H : Hp} {h h' : Heap} {x e : Addr} {o' : HO}
theorem HOk.write (ok : HOk P w H h) (mu : Mut (H x)) (he : e = x ∨ H e = some (.own x)) (k : ∀ b u, b ≠ e → h.get? b = some u → h'.get? b = some u) (heo : ∃ u, h'.get? e = some u)
    (new : ObjOk P w (upd H x o') h' x o') : HOk P w (upd H x o') h' := fun b u q => by
  have nown : ∀ c y, H c = some (.own y) → c ≠ x := fun c y r z => by subst z; rw [r] at mu; exact mu
  have ntup : ∀ c xs, H c = some (.tup xs) → c ≠ x := fun c xs r z => by subst z; rw [r] at mu; exact mu
  by_cases hb : b = x
  · subst hb; rw [upd_same] at q; cases q; exact new
  · rw [upd_ne hb] at q
    by_cases hbe : b = e
    · have q' : H b = some (.own x) := by
        rcases he with z | z
        · exact absurd (hbe.trans z) hb
        · rw [hbe]; exact z
      rw [q] at q'; cases q'
      obtain ⟨v, hv⟩ := heo
      exact ⟨v, by rw [hbe]; exact hv⟩
    · refine (ok b u q).stay (fun c v hc r => k c v ?_ r) (fun c r => by rw [upd_ne (nown c b r)]; exact r) fun c xs r => by rw [upd_ne (ntup c xs r)]; exact r
      rcases hc with rfl | hc
      · exact hbe
      · rintro rfl
        rcases he with z | z
        · exact nown c b hc z
        · rw [hc] at z; cases z; exact hb rfl
end
structure Un (fs ex : List Addr) (H H' : Hp) (h h' : Heap) : Prop where
  keep : ∀ b o, h.get? b = some o → H b = none → b ∉ fs → b ∉ ex → h'.get? b = some o
  slot : ∀ b o, h.get? b = some o → H b = none → b ∈ fs → b ∉ ex → ∃ sl, h'.get? b = some { o with slots := sl }
  free : ∀ b o, h.get? b = some o → H b = none → b ∉ ex → H' b = none
  there : ∀ b o, h.get? b = some o → b ∉ ex → ∃ o', h'.get? b = some o'
  tups : ∀ b xs, H b = some (.tup xs) → H' b = some (.tup xs)
  frzs : ∀ b o u, H b = some (.frz o u) → H' b = some (.frz o u)
  tbls : ∀ b ps, H b = some (.tbl ps) → ∃ more, H' b = some (.tbl (ps ++ more))
section
variable {fs fs' ex ex' : List Addr} {H H1 H2 : Hp} {h h1 h2 h' : Heap} {a x e : Addr} {o : HO}
theorem Un.any (u : Un fs ex H H1 h h1) {b : Addr} {ob : Obj} (q : h.get? b = some ob) (n : H b = none) (hx : b ∉ ex) : ∃ sl, h1.get? b = some { ob with slots := sl } := by
  by_cases hb : b ∈ fs
  · exact u.slot b ob q n hb hx
  · exact ⟨ob.slots, u.keep b ob q n hb hx⟩
theorem Un.kept (k : ∀ b u, h.get? b = some u → h'.get? b = some u) : Un fs ex H H h h' :=
  ⟨fun b ob q _ _ _ => k b ob q, fun b ob q _ _ _ => ⟨ob.slots, k b ob q⟩, fun _ _ _ n _ => n, fun b ob q _ => ⟨ob, k b ob q⟩, fun _ _ q => q, fun _ _ _ q => q, fun _ ps q => ⟨#[], by rw [q]; simp⟩⟩
theorem Un.refl : Un fs ex H H h h := Un.kept fun _ _ q => q
theorem Un.laid (k : ∀ b u, h.get? b = some u → h'.get? b = some u) (hp : h.objs.size ≤ a) (hn : H a = none) : Un fs ex H (upd H a o) h h' where
  keep := fun b u q _ _ _ => k b u q
  slot := fun b u q _ _ _ => ⟨u.slots, k b u q⟩
  free := fun b u q n _ => by rw [upd_ne (Nat.ne_of_lt (Nat.lt_of_lt_of_le (Heap.lt_size q) hp))]; exact n
  there := fun b u q _ => ⟨u, k b u q⟩
  tups := fun b xs q => by rw [upd_ne (ne_of_none q hn)]; exact q
  frzs := fun b u xs q => by rw [upd_ne (ne_of_none q hn)]; exact q
  tbls := fun b ps q => ⟨#[], by rw [upd_ne (ne_of_none q hn), q]; simp⟩
theorem Un.write (mu : Mut (H x)) (he : e = x ∨ H e = some (.own x)) (k : ∀ b u, b ≠ e → h.get? b = some u → h'.get? b = some u) (heo : ∃ u, h'.get? e = some u) : Un fs ex H (upd H x o) h h' := by
  have hx : ∀ b, H b = none → b ≠ x := fun b n z => by subst z; rw [n] at mu; exact mu
  have hb : ∀ b, H b = none → b ≠ e := fun b n z => by
    subst z
    rcases he with r | r
    · exact hx b n r
    · rw [n] at r; cases r
  have hm : ∀ b u, H b = some u → ¬ Mut (some u) → b ≠ x := fun b u q nm z => by subst z; rw [q] at mu; exact nm mu
  refine ⟨fun b u q n _ _ => k b u (hb b n) q, fun b u q n _ _ => ⟨u.slots, k b u (hb b n) q⟩, fun b u q n _ => by rw [upd_ne (hx b n)]; exact n, fun b u q _ => ?_,
    fun b xs q => by rw [upd_ne (hm b _ q fun z => z)]; exact q, fun b u xs q => by rw [upd_ne (hm b _ q fun z => z)]; exact q, fun b ps q => ⟨#[], by rw [upd_ne (hm b _ q fun z => z), q]; simp⟩⟩
  by_cases hbe : b = e
  · subst hbe; exact heo
  · exact ⟨u, k b u hbe q⟩
end
def trk (h : Heap) (H : Hp) : List Addr := (List.range h.objs.size).filter fun a => (H a).isSome
def hidT (h : Heap) (H : Hp) : Heap := PySem.W.hideAll h (trk h H)
theorem hidT_size (h : Heap) (H : Hp) : (hidT h H).objs.size = h.objs.size := PySem.W.hideAll_size _ _
theorem hidT_get {h : Heap} {H : Hp} {b : Addr} {o : Obj} (e : h.get? b = some o) (n : H b = none) : (hidT h H).get? b = some o :=
  PySem.W.hideAll_get _ e fun hm => by
    have q : (H b).isSome = true := (List.mem_filter.mp hm).2
    rw [n] at q; simp at q
theorem of_hidT {h : Heap} {H : Hp} {b : Addr} {o : Obj} (e : (hidT h H).get? b = some o) : h.get? b = some o ∧ H b = none := by
  have e' : h.get? b = some o := PySem.W.of_hideAll (trk h H) e
  refine ⟨e', ?_⟩
  cases q : H b with
  | none => rfl
  | some x =>
    have hm : b ∈ trk h H := List.mem_filter.mpr ⟨List.mem_range.mpr (Heap.lt_size e'), by simp [q]⟩
    have z : (hidT h H).get? b = none := PySem.W.hideAll_none (trk h H) hm
    rw [z] at e; cases e
end L2
namespace L2
open PySem PySem.Spec PyProof.Rows
structure Mod (K : PySem.W.Frag) (mg : Str → Option Value) (base : Heap) : Prop where
  kin : K.In base
  glob : base.Ns mainGlobals mg
  blt : ∃ mb, base.Ns builtinsNs mb ∧ ∀ x : Str, x ≠ "__name__" → mb x = bootBuiltins x
  nolimit : base.NoLimit
structure Cx where
  prog : Program
  w : World
  K : PySem.W.Frag
  mg : Str → Option Value
  base : Heap
  A : Around
  N : List Str
  s_0 : Shared
  H_0 : Hp
  env : Env
  outer : List Env
  stack : List Env
  ex : List Addr
  fn : Str → Bool
  calm : Bool
  pn : List (Addr × Obj)
  xe : Value → Shared → Prop
def frs (l : List Env) : List Addr := l.filterMap (·.frame)
abbrev Cx.fs (X : Cx) : List Addr := frs X.outer
def Vis (sc : Scope) (x : Str) : Prop := sc.names.lookup x = some .local ∨ sc.names.lookup x = some .cell ∨ sc.names.lookup x = some .free
def Loc (sc : Scope) (x : Str) : Prop := sc.names.lookup x = some .local ∨ sc.names.lookup x = some .cell
def Look (env : Env) (h : Heap) (m : Str → Option Value) (x : Str) (u : Value) : Prop :=
  (env.kindOf x = some .local ∧ m x = some u) ∨ ((env.kindOf x = some .cell ∨ env.kindOf x = some .free) ∧ ∃ c, env.cells.lookup x = some c ∧ h.IsCell c (some u))
structure Cx.Ok (X : Cx) : Prop where
  mod : Mod X.K X.mg X.base
  kind : X.env.scope.kind = .function
  glob : X.env.globals = mainGlobals
  blt : X.env.builtins = builtinsNs
  above : X.s_0.heap.objs.size ≤ X.env.locals
  inj : ∀ x y c, X.env.cells.lookup x = some c → X.env.cells.lookup y = some c → x = y
  has : ∀ x, (X.env.kindOf x = some .cell ∨ X.env.kindOf x = some .free) → ∃ c, X.env.cells.lookup x = some c
  cab : ∀ x c, X.fn x = true → X.env.cells.lookup x = some c → X.s_0.heap.objs.size ≤ c
  hd : X.calm = true → X.A.handled = none
  frames : X.A.frames = some X.stack
  stk : X.stack = X.outer ∨ (X.stack = X.env :: X.outer ∧ X.env.frame = some X.env.locals)
  exf : ∀ b ∈ X.ex, b ≠ X.env.locals ∧ ∀ x c, X.env.cells.lookup x = some c → c ≠ b
  bs : ∀ b o, X.base.get? b = some o → X.s_0.heap.get? b = some o ∧ X.H_0 b = none
  bsz : X.base.objs.size ≤ X.s_0.heap.objs.size
  noex : ∀ b o, X.base.get? b = some o → b ∉ X.ex
  exfs : ∀ b ∈ X.ex, b ∉ X.fs
  funs : X.s_0.heap.FunFrames X.base X.outer
  frf : ∀ b ∈ X.fs, X.H_0 b = none
structure Inv (X : Cx) (pins : List (Addr × Obj)) (σ : List (Option V)) (H : Hp) (s : Shared) : Prop where
  ok : X.Ok
  os : s.os = X.s_0.os
  bare : AllBare s.gens
  base : Un X.fs X.ex X.H_0 H X.s_0.heap s.heap
  loc : ∃ m, s.heap.Ns X.env.locals m ∧ ∀ (i : Nat) (x : Str) (v : V), X.N[i]? = some x → σ[i]? = some (some v) → Vis X.env.scope x → ∃ u, RelV v u ∧ Look X.env s.heap m x u
  cell : ∀ x c, X.env.cells.lookup x = some c → ∃ v, s.heap.IsCell c v
  free : H X.env.locals = none
  freeC : ∀ x c, X.env.cells.lookup x = some c → H c = none
  pin : ∀ p ∈ X.pn ++ pins, s.heap.get? p.1 = some p.2 ∧ H p.1 = none ∧ p.1 ≠ X.env.locals ∧ p.1 ∉ X.fs ∧ ∀ v, p.2.data ≠ .cell v
  hok : HOk X.prog X.w H s.heap
  len : σ.length = X.N.length
section
variable {X : Cx} {pins : List (Addr × Obj)} {σ : List (Option V)} {H H' : Hp} {s : Shared} {h' : Heap}
theorem Cx.Ok.nofr (ok : X.Ok) {b : Addr} {o : Obj} (e : X.base.get? b = some o) : b ∉ X.fs := fun hb => by
  have := (ok.funs.mem hb).1
  rw [e] at this; cases this
theorem Inv.bs (I : Inv X pins σ H s) : ∀ b o, X.base.get? b = some o → s.heap.get? b = some o ∧ H b = none := fun b o e =>
  ⟨I.base.keep b o (I.ok.bs b o e).1 (I.ok.bs b o e).2 (I.ok.nofr e) (I.ok.noex b o e), I.base.free b o (I.ok.bs b o e).1 (I.ok.bs b o e).2 (I.ok.noex b o e)⟩
theorem Inv.bk (I : Inv X pins σ H s) : ∀ b o, X.base.get? b = some o → s.heap.get? b = some o := fun b o e => (I.bs b o e).1
theorem Inv.mod (I : Inv X pins σ H s) : Mod X.K X.mg X.base := I.ok.mod
theorem Inv.kIn (I : Inv X pins σ H s) : X.K.In s.heap := I.ok.mod.kin.keeps I.bk
theorem Inv.fr (I : Inv X pins σ H s) : ∃ m, Fr X.base X.env.locals s.heap m :=
  let ⟨m, hn, _⟩ := I.loc
  ⟨m, hn, I.bk, Nat.le_trans I.ok.bsz I.ok.above⟩
theorem Inv.lt (I : Inv X pins σ H s) : X.env.locals < s.heap.objs.size := let ⟨_, hn, _⟩ := I.loc; hn.lt
theorem Inv.sz (I : Inv X pins σ H s) : X.s_0.heap.objs.size ≤ s.heap.objs.size := Nat.le_trans I.ok.above (Nat.le_of_lt I.lt)
theorem Inv.nofs (I : Inv X pins σ H s) {a : Addr} (h : s.heap.objs.size ≤ a) : a ∉ X.fs := fun hb => by
  obtain ⟨_, o, ho, _⟩ := I.ok.funs.mem hb
  exact absurd (Nat.lt_of_lt_of_le (Heap.lt_size ho) (Nat.le_trans I.sz h)) (Nat.lt_irrefl _)
theorem Inv.cne (I : Inv X pins σ H s) : ∀ x c, X.env.cells.lookup x = some c → c ≠ X.env.locals := fun x c e z => by
  obtain ⟨v, o, ho, hd⟩ := I.cell x c e
  obtain ⟨m, ⟨o', es, ep, ho', hd', _⟩, _⟩ := I.loc
  rw [z, ho'] at ho; cases ho; rw [hd'] at hd; cases hd
theorem Inv.funs (I : Inv X pins σ H s) : s.heap.FunFrames X.base X.outer := by
  have all : ∀ (l : List Env), (∀ b ∈ frs l, b ∈ X.fs) → X.s_0.heap.FunFrames X.base l → s.heap.FunFrames X.base l := by
    intro l
    induction l with
    | nil => intro _ _; trivial
    | cons env r ih =>
      intro hs hl
      obtain ⟨hk, ⟨L, o, hf, hn, ho, hd⟩, hr⟩ := hl
      have hL : L ∈ X.fs := hs L (by unfold frs; rw [List.filterMap_cons, hf]; exact List.mem_cons_self)
      obtain ⟨sl, e⟩ := I.base.slot L o ho (I.ok.frf L hL) hL fun z => I.ok.exfs L z hL
      exact ⟨hk, ⟨L, _, hf, hn, e, hd⟩, ih (fun b hb => hs b (by unfold frs; rw [List.filterMap_cons, hf]; exact List.mem_cons_of_mem _ hb)) hr⟩
  exact all X.outer (fun _ hb => hb) I.ok.funs
theorem Inv.stack (I : Inv X pins σ H s) : s.heap.FunFrames X.base X.stack := by
  rcases I.ok.stk with e | ⟨e, hf⟩
  · rw [e]; exact I.funs
  · rw [e]
    obtain ⟨m, hn, _⟩ := I.loc
    refine .cons (by rw [I.ok.kind]; decide) hf hn ?_ I.funs
    exact Heap.get?_none_of_le (Nat.le_trans I.ok.bsz I.ok.above)
theorem Inv.stkSub (I : Inv X pins σ H s) : ∀ b ∈ frs X.stack, b ∈ X.env.locals :: X.fs := fun b hb => by
  rcases I.ok.stk with e | ⟨e, hf⟩
  · rw [e] at hb; exact List.mem_cons_of_mem _ hb
  · rw [e] at hb
    unfold frs at hb
    rw [List.filterMap_cons, hf] at hb
    exact hb
theorem Inv.stkFree (I : Inv X pins σ H s) : ∀ b ∈ frs X.stack, H b = none := fun b hb => by
  rcases List.mem_cons.mp (I.stkSub b hb) with e | hb
  · rw [e]; exact I.free
  · obtain ⟨_, o, ho, _⟩ := I.ok.funs.mem hb
    exact I.base.free b o ho (I.ok.frf b hb) fun z => I.ok.exfs b z hb
theorem Inv.step {g' : Array GenState} {t' : Nat} {d' : Drawn} {ch : List Addr} (I : Inv X pins σ H s)
    (hch : ∀ b ∈ ch, (b ∈ X.ex ∨ X.s_0.heap.objs.size ≤ b) ∧ b ≠ X.env.locals ∧ (∀ x c, X.env.cells.lookup x = some c → c ≠ b) ∧ ∀ p ∈ X.pn ++ pins, p.1 ≠ b)
    (keep : ∀ b o, b ≠ X.env.locals → b ∉ X.fs → b ∉ ch → s.heap.get? b = some o → H b = none → h'.get? b = some o)
    (slot : ∀ b o, b ≠ X.env.locals → b ∈ X.fs → b ∉ ch → s.heap.get? b = some o → H b = none → ∃ sl, h'.get? b = some { o with slots := sl }) (free : ∀ b o, b ∉ ch → s.heap.get? b = some o → H b = none → H' b = none)
    (there : ∀ b o, b ∉ ch → s.heap.get? b = some o → ∃ o', h'.get? b = some o')
    (tups : ∀ b xs, H b = some (.tup xs) → H' b = some (.tup xs)) (frzs : ∀ b o u, H b = some (.frz o u) → H' b = some (.frz o u)) (tbls : ∀ b ps, H b = some (.tbl ps) → ∃ more, H' b = some (.tbl (ps ++ more)))
    (ns : ∀ m, s.heap.Ns X.env.locals m → h'.Ns X.env.locals m) (hok : HOk X.prog X.w H' h') (hg : AllBare g') :
    Inv X pins σ H' { s with heap := h', gens := g', drawn := d', toks := t' } := by
  have neL : ∀ b o, X.s_0.heap.get? b = some o → b ≠ X.env.locals := fun b o e => Nat.ne_of_lt (Nat.lt_of_lt_of_le (Heap.lt_size e) I.ok.above)
  have neC : ∀ b o, X.s_0.heap.get? b = some o → b ∉ X.ex → b ∉ ch := fun b o e hx hb => by
    rcases (hch b hb).1 with z | z
    · exact hx z
    · exact absurd (Nat.lt_of_lt_of_le (Heap.lt_size e) z) (Nat.lt_irrefl _)
  have cellK : ∀ x c, X.env.cells.lookup x = some c → ∀ v, s.heap.IsCell c v → h'.IsCell c v := fun x c e v ⟨o, ho, hd⟩ => by
    have nch : c ∉ ch := fun z => (hch c z).2.2.1 x c e rfl
    by_cases hc : c ∈ X.fs
    · obtain ⟨sl, q⟩ := slot c o (I.cne x c e) hc nch ho (I.freeC x c e)
      exact ⟨_, q, hd⟩
    · exact ⟨o, keep c o (I.cne x c e) hc nch ho (I.freeC x c e), hd⟩
  refine ⟨I.ok, I.os, hg, ⟨fun b o e n hb hx => ?_, fun b o e n hb hx => ?_, fun b o e n hx => ?_, fun b o e hx => ?_, fun b xs e => tups b xs (I.base.tups b xs e), fun b o xs e => frzs b o xs (I.base.frzs b o xs e), fun b ps e => ?_⟩, ?_, fun x c e => ?_, ?_, fun x c e => ?_, fun p hp => ?_, hok, I.len⟩
  · exact keep b o (neL b o e) hb (neC b o e hx) (I.base.keep b o e n hb hx) (I.base.free b o e n hx)
  · obtain ⟨sl, e1⟩ := I.base.slot b o e n hb hx
    obtain ⟨sl', e2⟩ := slot b _ (neL b o e) hb (neC b o e hx) e1 (I.base.free b o e n hx)
    exact ⟨sl', e2⟩
  · obtain ⟨o', e1⟩ := I.base.there b o e hx
    exact free b o' (neC b o e hx) e1 (I.base.free b o e n hx)
  · obtain ⟨o', e1⟩ := I.base.there b o e hx
    exact there b o' (neC b o e hx) e1
  · obtain ⟨m1, e1⟩ := I.base.tbls b ps e
    obtain ⟨m2, e2⟩ := tbls b _ e1
    exact ⟨m1 ++ m2, by rw [e2, Array.append_assoc]⟩
  · obtain ⟨m, hn, hl⟩ := I.loc
    refine ⟨m, ns m hn, fun i x v e1 e2 e3 => ?_⟩
    obtain ⟨u, r, l⟩ := hl i x v e1 e2 e3
    refine ⟨u, r, ?_⟩
    rcases l with l | ⟨k, c, e, z⟩
    · exact .inl l
    · exact .inr ⟨k, c, e, cellK x c e _ z⟩
  · obtain ⟨v, z⟩ := I.cell x c e
    exact ⟨v, cellK x c e v z⟩
  · obtain ⟨m, ⟨o, _, _, ho, _⟩, _⟩ := I.loc
    exact free _ o (fun z => (hch _ z).2.1 rfl) ho I.free
  · obtain ⟨v, o, ho, hd⟩ := I.cell x c e
    exact free c o (fun z => (hch c z).2.2.1 x c e rfl) ho (I.freeC x c e)
  · obtain ⟨e, n, ne, nf, d⟩ := I.pin p hp
    have nch : p.1 ∉ ch := fun z => (hch p.1 z).2.2.2 p hp rfl
    exact ⟨keep p.1 p.2 ne nf nch e n, free p.1 p.2 nch e n, ne, nf, d⟩
theorem Inv.un {t' : Nat} (I : Inv X pins σ H s) (u : Un X.fs [] H H' s.heap h') (hok : HOk X.prog X.w H' h') : Inv X pins σ H' { s with heap := h', toks := t' } := by
  obtain ⟨m, ⟨o, es, ep, ho, r⟩, _⟩ := id I.loc
  obtain ⟨sl, hL⟩ := u.any ho I.free (by simp)
  exact I.step (g' := s.gens) (d' := s.drawn) (ch := []) (fun _ z => nomatch z) (fun b o _ hb _ e n => u.keep b o e n hb (by simp)) (fun b o _ hb _ e n => u.slot b o e n hb (by simp)) (fun b o _ e n => u.free b o e n (by simp)) (fun b o _ e => u.there b o e (by simp)) u.tups u.frzs u.tbls (fun m' hm => by
    obtain ⟨o', es', ep', ho', r'⟩ := hm
    rw [ho] at ho'; cases ho'
    exact ⟨_, es', ep', hL, r'⟩) hok I.bare
theorem Inv.call {g' : Array GenState} {t' : Nat} {d' : Drawn} {ch : List Addr} (I : Inv X pins σ H s) (u : Un (frs X.stack) ch H H' s.heap h') (hok : HOk X.prog X.w H' h') (hg : AllBare g')
    (hch : ∀ b ∈ ch, (b ∈ X.ex ∨ X.s_0.heap.objs.size ≤ b) ∧ b ≠ X.env.locals ∧ (∀ x c, X.env.cells.lookup x = some c → c ≠ b) ∧ ∀ p ∈ X.pn ++ pins, p.1 ≠ b) :
    Inv X pins σ H' { s with heap := h', gens := g', drawn := d', toks := t' } := by
  obtain ⟨m, ⟨o, es, ep, ho, r⟩, _⟩ := id I.loc
  obtain ⟨sl, hL⟩ := u.any ho I.free fun z => (hch _ z).2.1 rfl
  exact I.step (ch := ch) hch (fun b o hL hb hc e n => u.keep b o e n (fun z => (List.mem_cons.mp (I.stkSub b z)).elim hL hb) hc) (fun b o _ _ hc e n => u.any e n hc) (fun b o hc e n => u.free b o e n hc) (fun b o hc e => u.there b o e hc) u.tups u.frzs u.tbls (fun m' hm => by
    obtain ⟨o', es', ep', ho', r'⟩ := hm
    rw [ho] at ho'; cases ho'
    exact ⟨_, es', ep', hL, r'⟩) hok hg
theorem Inv.turned {t' : Nat} {it : Addr} (I : Inv X pins σ H s) (k : ∀ b o, b ≠ it → s.heap.get? b = some o → h'.get? b = some o) (hn : H it = none) (hL : it ≠ X.env.locals)
    (h1 : it ∈ X.ex ∨ X.s_0.heap.objs.size ≤ it) (h2 : ∀ x c, X.env.cells.lookup x = some c → c ≠ it) (h3 : ∀ p ∈ X.pn ++ pins, p.1 ≠ it) : Inv X pins σ H { s with heap := h', toks := t' } := by
  have nit : ∀ b u, H b = some u → b ≠ it := fun b u e z => by rw [z, hn] at e; cases e
  refine I.step (g' := s.gens) (d' := s.drawn) (ch := [it]) (fun b hb => ?_) (fun b o _ _ hc e _ => k b o (fun z => hc (by simp [z])) e) (fun b o _ _ hc e _ => ⟨o.slots, k b o (fun z => hc (by simp [z])) e⟩) (fun _ _ _ _ n => n)
    (fun b o hc e => ⟨o, k b o (fun z => hc (by simp [z])) e⟩) (fun _ _ e => e) (fun _ _ _ e => e) (fun b ps e => ⟨#[], by rw [e]; simp⟩) (fun m hm => ?_) (fun b u e => ?_) I.bare
  · have e : b = it := by simpa using hb
    subst e
    exact ⟨h1, hL, h2, h3⟩
  · obtain ⟨o, es, ep, ho, r⟩ := hm
    exact ⟨o, es, ep, k _ o (Ne.symm hL) ho, r⟩
  · refine (I.hok b u e).stay (fun c v hc q => k c v ?_ q) (fun _ q => q) fun _ _ q => q
    rcases hc with z | z
    · rw [z]; exact nit b u e
    · exact nit c _ z
theorem Inv.tok (I : Inv X pins σ H s) (t : Nat) : Inv X pins σ H { s with toks := t } := I.un (h' := s.heap) (t' := t) Un.refl I.hok
theorem Inv.kept {t' : Nat} (I : Inv X pins σ H s) (k : ∀ b u, s.heap.get? b = some u → h'.get? b = some u) : Inv X pins σ H { s with heap := h', toks := t' } := I.un (Un.kept k) (I.hok.kept k)
theorem Inv.laid {a : Addr} {o : HO} {t' : Nat} (I : Inv X pins σ H s) (k : ∀ b u, s.heap.get? b = some u → h'.get? b = some u) (hp : s.heap.objs.size ≤ a) (new : ObjOk X.prog X.w (upd H a o) h' a o) :
    Inv X pins σ (upd H a o) { s with heap := h', toks := t' } := I.un (Un.laid k hp (I.hok.fresh hp)) (I.hok.laid k hp new)
theorem Inv.write {x e : Addr} {o : HO} {t' : Nat} (I : Inv X pins σ H s) (mu : Mut (H x)) (he : e = x ∨ H e = some (.own x)) (k : ∀ b u, b ≠ e → s.heap.get? b = some u → h'.get? b = some u) (heo : ∃ u, h'.get? e = some u)
    (new : ObjOk X.prog X.w (upd H x o) h' x o) : Inv X pins σ (upd H x o) { s with heap := h', toks := t' } := I.un (Un.write mu he k heo) (I.hok.write mu he k heo new)
theorem Inv.weak {σ' : List (Option V)} (I : Inv X pins σ H s) (hl : σ'.length = σ.length) (w : ∀ (i : Nat) v, σ'[i]? = some (some v) → σ[i]? = some (some v)) : Inv X pins σ' H s :=
  ⟨I.ok, I.os, I.bare, I.base, let ⟨m, hn, hl'⟩ := I.loc; ⟨m, hn, fun i x v e1 e2 e3 => hl' i x v e1 (w i v e2) e3⟩, I.cell, I.free, I.freeC, I.pin, I.hok, hl.trans I.len⟩
theorem Inv.pins_of {pins' : List (Addr × Obj)} (I : Inv X pins σ H s) (h : ∀ p ∈ pins', s.heap.get? p.1 = some p.2 ∧ H p.1 = none ∧ p.1 ≠ X.env.locals ∧ p.1 ∉ X.fs ∧ ∀ v, p.2.data ≠ .cell v) : Inv X pins' σ H s :=
  ⟨I.ok, I.os, I.bare, I.base, I.loc, I.cell, I.free, I.freeC, fun p hp => (List.mem_append.mp hp).elim (fun z => I.pin p (List.mem_append_left _ z)) (h p), I.hok, I.len⟩
theorem nodup_ix {N : List Str} (hN : N.Nodup) {i j : Nat} {x : Str} (a : N[i]? = some x) (b : N[j]? = some x) : i = j := by
  obtain ⟨h1, e1⟩ := List.getElem?_eq_some_iff.mp a
  obtain ⟨h2, e2⟩ := List.getElem?_eq_some_iff.mp b
  exact (List.getElem_inj hN).mp (e1.trans e2.symm)
theorem store_ok2 {M : Model} {A : Around} {E : Value → Shared → Prop} {i : Nat} {x : Str} {v : V} {u : Value} {Q : Unit → Shared → Prop} (I : Inv X pins σ H s) (hN : X.N.Nodup) (hi : X.N[i]? = some x) (hx : Loc X.env.scope x) (r : RelV v u)
    (h : ∀ s', Inv X pins (σ.set i (some v)) H s' → (∃ a, Heap.SameBut a s.heap s'.heap ∧ (a = X.env.locals ∨ X.env.cells.lookup x = some a)) → Q () s') (hf : X.fn x = true ∨ X.env.scope.names.lookup x = some .local := by first | exact .inl rfl | exact .inr rfl | assumption) : wpAny M A (storeName X.env x u) Q E s := by
  obtain ⟨m, hn, hl⟩ := id I.loc
  have hcls : (X.env.scope.kind == .class || (X.env.scope.kind == .module && X.env.locals != X.env.globals)) = false := by rw [I.ok.kind]; rfl
  have hiσ : i < σ.length := by rw [I.len]; exact (List.getElem?_eq_some_iff.mp hi).1
  have cne := I.cne
  have tracked : ∀ {a : Addr} {h' : Heap}, (∃ o, s.heap.get? a = some o ∧ H a = none) → Heap.SameBut a s.heap h' → HOk X.prog X.w H h' := fun {a h'} ha hs b ob e => by
    obtain ⟨_, _, hfree⟩ := ha
    refine (I.hok b ob e).stay (fun c w' hc q => (hs.2 c ?_).trans q) (fun _ q => q) fun _ _ q => q
    rintro rfl
    rcases hc with rfl | hc
    · rw [hfree] at e; cases e
    · rw [hfree] at hc; cases hc
  rcases hx with hk | hk
  · refine wpAny_storeName_local hk hn (fun h' hn' hs => ?_) hcls
    obtain ⟨oL, _, _, hoL, _⟩ := id hn
    refine h _ ⟨I.ok, I.os, I.bare, ⟨fun b o e n hb hx => ?_, fun b o e n hb hx => ?_, I.base.free, fun b o e hx => ?_, I.base.tups, I.base.frzs, I.base.tbls⟩, ⟨_, hn', fun j y v' e1 e2 e3 => ?_⟩, fun y c e => ?_, I.free, I.freeC, fun p hp => ?_, tracked ⟨oL, hoL, I.free⟩ hs, by simpa using I.len⟩ ⟨_, hs, .inl rfl⟩
    · exact (hs.2 b (Nat.ne_of_lt (Nat.lt_of_lt_of_le (Heap.lt_size e) I.ok.above))).trans (I.base.keep b o e n hb hx)
    · obtain ⟨sl, e1⟩ := I.base.slot b o e n hb hx
      exact ⟨sl, (hs.2 b (Nat.ne_of_lt (Nat.lt_of_lt_of_le (Heap.lt_size e) I.ok.above))).trans e1⟩
    · obtain ⟨o', e1⟩ := I.base.there b o e hx
      exact ⟨o', (hs.2 b (Nat.ne_of_lt (Nat.lt_of_lt_of_le (Heap.lt_size e) I.ok.above))).trans e1⟩
    · by_cases hj : j = i
      · subst hj
        rw [hi] at e1; cases e1
        rw [List.getElem?_set_self hiσ] at e2
        cases e2
        exact ⟨u, r, .inl ⟨hk, by simp⟩⟩
      · rw [List.getElem?_set_ne (Ne.symm hj)] at e2
        obtain ⟨u', r', q⟩ := hl j y v' e1 e2 e3
        refine ⟨u', r', ?_⟩
        rcases q with ⟨k, e⟩ | ⟨k, c, e, z⟩
        · refine .inl ⟨k, ?_⟩
          have : y ≠ x := fun e => hj (nodup_ix hN e1 (e ▸ hi))
          simp [this, e]
        · exact .inr ⟨k, c, e, z.sameBut hs (cne y c e)⟩
    · obtain ⟨w', z⟩ := I.cell y c e
      exact ⟨w', z.sameBut hs (cne y c e)⟩
    · obtain ⟨e, n, ne, nf, d⟩ := I.pin p hp
      exact ⟨(hs.2 p.1 ne).trans e, n, ne, nf, d⟩
  · have hfn : X.fn x = true := by
      rcases hf with z | z
      · exact z
      · rw [z] at hk; cases hk
    obtain ⟨c, hc⟩ := I.ok.has x (.inl hk)
    obtain ⟨w', z⟩ := I.cell x c hc
    refine wpAny_storeName_cell I.ok.kind hk hc z (fun h' hc' hs => ?_)
    obtain ⟨oc, hoc, hocd⟩ := id z
    refine h { s with heap := h' } ⟨I.ok, I.os, I.bare, ⟨fun b o e n hb hx => ?_, fun b o e n hb hx => ?_, I.base.free, fun b o e hx => ?_, I.base.tups, I.base.frzs, I.base.tbls⟩, ⟨m, hn.sameBut hs (Ne.symm (cne x c hc)), fun j y v' e1 e2 e3 => ?_⟩, fun y c' e => ?_, I.free, I.freeC, fun p hp => ?_, tracked ⟨oc, hoc, I.freeC x c hc⟩ hs, by simpa using I.len⟩ ⟨c, hs, .inr hc⟩
    · exact (hs.2 b (Nat.ne_of_lt (Nat.lt_of_lt_of_le (Heap.lt_size e) (I.ok.cab x c hfn hc)))).trans (I.base.keep b o e n hb hx)
    · obtain ⟨sl, e1⟩ := I.base.slot b o e n hb hx
      exact ⟨sl, (hs.2 b (Nat.ne_of_lt (Nat.lt_of_lt_of_le (Heap.lt_size e) (I.ok.cab x c hfn hc)))).trans e1⟩
    · obtain ⟨o', e1⟩ := I.base.there b o e hx
      exact ⟨o', (hs.2 b (Nat.ne_of_lt (Nat.lt_of_lt_of_le (Heap.lt_size e) (I.ok.cab x c hfn hc)))).trans e1⟩
    · by_cases hj : j = i
      · subst hj
        rw [hi] at e1; cases e1
        rw [List.getElem?_set_self hiσ] at e2
        cases e2
        exact ⟨u, r, .inr ⟨.inl hk, c, hc, hc'⟩⟩
      · rw [List.getElem?_set_ne (Ne.symm hj)] at e2
        obtain ⟨u', r', q⟩ := hl j y v' e1 e2 e3
        refine ⟨u', r', ?_⟩
        rcases q with q | ⟨k, c', e, z'⟩
        · exact .inl q
        · refine .inr ⟨k, c', e, z'.sameBut hs ?_⟩
          rintro rfl
          exact hj (nodup_ix hN e1 (I.ok.inj _ _ _ e hc ▸ hi))
    · by_cases hcc : c' = c
      · subst hcc; exact ⟨_, hc'⟩
      · obtain ⟨w2, z2⟩ := I.cell y c' e
        exact ⟨w2, z2.sameBut hs hcc⟩
    · obtain ⟨e, n, ne, nf, d⟩ := I.pin p hp
      refine ⟨(hs.2 p.1 ?_).trans e, n, ne, nf, d⟩
      intro q
      rw [q, hoc] at e
      have q' : oc = p.2 := Option.some.inj e
      exact d w' (by rw [← q']; exact hocd)
theorem store_ok {M : Model} {A : Around} {E : Value → Shared → Prop} {i : Nat} {x : Str} {v : V} {u : Value} {Q : Unit → Shared → Prop} (I : Inv X pins σ H s) (hN : X.N.Nodup) (hi : X.N[i]? = some x) (hx : Loc X.env.scope x) (r : RelV v u)
    (h : ∀ s', Inv X pins (σ.set i (some v)) H s' → Q () s') (hf : X.fn x = true ∨ X.env.scope.names.lookup x = some .local := by first | exact .inl rfl | exact .inr rfl | assumption) : wpAny M A (storeName X.env x u) Q E s :=
  store_ok2 I hN hi hx r (fun s' I' _ => h s' I') hf
theorem Inv.call' {s' : Shared} {ch : List Addr} (I : Inv X pins σ H s) (ho : s'.os = s.os) (u : Un (frs X.stack) ch H H' s.heap s'.heap) (hok : HOk X.prog X.w H' s'.heap) (hg : AllBare s'.gens)
    (hch : ∀ b ∈ ch, (b ∈ X.ex ∨ X.s_0.heap.objs.size ≤ b) ∧ b ≠ X.env.locals ∧ (∀ x c, X.env.cells.lookup x = some c → c ≠ b) ∧ ∀ p ∈ X.pn ++ pins, p.1 ≠ b) : Inv X pins σ H' s' := by
  obtain ⟨h', g', d', t', o'⟩ := s'
  have e : o' = s.os := ho
  subst e
  exact I.call (g' := g') (t' := t') (d' := d') u hok hg hch
end
abbrev XK := Value → Option Addr → Hp → Prop
abbrev St := List (Option V)
abbrev VK := V → Hp → Prop
abbrev TE := St → Hp → VK → Prop
abbrev TT := St → Hp → (Bool → Hp → Prop) → Prop
abbrev TA := St → Hp → (List V → Hp → Prop) → Prop
structure Ends where
  nx : St → Hp → Prop
  rt : VK
  bk : St → Hp → Prop := fun _ _ => False
  ct : St → Hp → Prop := fun _ _ => False
abbrev TS := Ends → St → Hp → Prop
def EP (X : Cx) (pins : List (Addr × Obj)) (σ : St) (Q : VK) (u : Value) (s' : Shared) : Prop := ∃ v H', Inv X pins σ H' s' ∧ RelV v u ∧ Q v H'
def TP (X : Cx) (pins : List (Addr × Obj)) (σ : St) (Q : Bool → Hp → Prop) (b : Bool) (s' : Shared) : Prop := ∃ H', Inv X pins σ H' s' ∧ Q b H'
def AP (X : Cx) (pins : List (Addr × Obj)) (σ : St) (Q : List V → Hp → Prop) (us : List Value) (s' : Shared) : Prop := ∃ vs H', Inv X pins σ H' s' ∧ Vals vs us ∧ Q vs H'
def SP (X : Cx) (pins : List (Addr × Obj)) (D : Ends) (f : Flow) (s' : Shared) : Prop :=
  match f with
  | .next => ∃ σ' H', Inv X pins σ' H' s' ∧ D.nx σ' H'
  | .brk => ∃ σ' H', Inv X pins σ' H' s' ∧ D.bk σ' H'
  | .cont => ∃ σ' H', Inv X pins σ' H' s' ∧ D.ct σ' H'
  | .ret u => ∃ v σ' H', Inv X pins σ' H' s' ∧ RelV v u ∧ D.rt v H'
def PE (X : Cx) (e : Expr) (t : TE) : Prop :=
  ∀ (pins : List (Addr × Obj)) (s : Shared) (σ : St) (H : Hp) (Q : VK), Inv X pins σ H s → t σ H Q → wpAny (model X.prog X.w) X.A (eval e X.env) (EP X pins σ Q) X.xe s
def PT (X : Cx) (e : Expr) (t : TT) : Prop :=
  ∀ (pins : List (Addr × Obj)) (s : Shared) (σ : St) (H : Hp) (Q : Bool → Hp → Prop), Inv X pins σ H s → t σ H Q → wpAny (model X.prog X.w) X.A (isTrue e X.env (eval e X.env)) (TP X pins σ Q) X.xe s
def PW (X : Cx) (e : Expr) (t : TT) : Prop :=
  ∀ (whole : Sem Value) (pins : List (Addr × Obj)) (s : Shared) (σ : St) (H : Hp) (Q : Bool → Hp → Prop), Inv X pins σ H s → t σ H Q → wpAny (model X.prog X.w) X.A (isTrue e X.env whole) (TP X pins σ Q) X.xe s
theorem PW.pt {X : Cx} {e : Expr} {t : TT} (h : PW X e t) : PT X e t := h _
def PA (X : Cx) (es : List Expr) (t : TA) : Prop :=
  ∀ (pos : Pos) (pins : List (Addr × Obj)) (s : Shared) (σ : St) (H : Hp) (Q : List V → Hp → Prop), Inv X pins σ H s → t σ H Q → wpAny (model X.prog X.w) X.A (spliced (backTo pos (starEach es X.env))) (AP X pins σ Q) X.xe s
def PS (X : Cx) (st : Stmt) (t : TS) : Prop :=
  ∀ (pins : List (Addr × Obj)) (s : Shared) (σ : St) (H : Hp) (D : Ends), Inv X pins σ H s → t D σ H → wpAny (model X.prog X.w) X.A (exec st X.env) (SP X pins D) X.xe s
def PSs (X : Cx) (st : List Stmt) (t : TS) : Prop :=
  ∀ (pins : List (Addr × Obj)) (s : Shared) (σ : St) (H : Hp) (D : Ends), Inv X pins σ H s → t D σ H → wpAny (model X.prog X.w) X.A (execs st X.env) (SP X pins D) X.xe s
theorem thn {α : Type} {t : Sem α} {Q Q' : α → Shared → Prop} {M : Model} {A : Around} {E : Value → Shared → Prop} {s : Shared} (h : wpAny M A t Q E s) (hQ : ∀ a s, Q a s → Q' a s) : wpAny M A t Q' E s := wpAny_mono h hQ fun _ _ x => x
end L2
namespace L2
open PySem PySem.Spec PyProof.Rows
section
variable {X : Cx}
theorem bin {a b : Expr} {ta tb : TE} (ha : PE X a ta) (hb : PE X b tb) {pins : List (Addr × Obj)} {s : Shared} {σ : St} {H : Hp} {R : V → V → Hp → Prop} (I : Inv X pins σ H s) (h : ta σ H fun x H1 => tb σ H1 fun y H2 => R x y H2)
    {α : Type} {Q : α → Shared → Prop} {f : Value → Value → Sem α}
    (hf : ∀ v u s2 x y H2, Inv X pins σ H2 s2 → RelV x v → RelV y u → R x y H2 → wpAny (model X.prog X.w) X.A (f v u) Q X.xe s2) :
    wpAny (model X.prog X.w) X.A (eval a X.env) (fun v s₁ => wpAny (model X.prog X.w) X.A (eval b X.env) (fun u s₂ => wpAny (model X.prog X.w) X.A (f v u) Q X.xe s₂) X.xe s₁) X.xe s := by
  refine thn (ha pins s σ H _ I h) fun v s1 ⟨x, H1, I1, r1, q1⟩ => ?_
  refine thn (hb pins s1 σ H1 _ I1 q1) fun u s2 ⟨y, H2, I2, r2, q2⟩ => ?_
  exact hf v u s2 x y H2 I2 r1 r2 q2
def tVar (i : Nat) : TE := fun σ H Q => ∃ v, σ[i]? = some (some v) ∧ Q v H
def tC (v : V) : TE := fun _ H Q => Q v H
theorem pe_var {i : Nat} {x : Str} {pos : Pos} (hN : X.N[i]? = some x) (hv : Vis X.env.scope x) (hd : (x == ("__debug__" : Str)) = false := by decide) (hcd : (x == ("__classdict__" : Str)) = false := by decide) : PE X (.Name x pos) (tVar i) := by
  intro pins s σ H Q I h
  obtain ⟨v, e, h⟩ := h
  obtain ⟨m, hn, hl⟩ := I.loc
  obtain ⟨u, r, l⟩ := hl i x v hN e hv
  have fin : EP X pins σ Q u s := ⟨v, H, I, r, h⟩
  rcases l with ⟨hk, hm⟩ | ⟨hk, c, hc, hcell⟩
  · exact wpAny_Name (wpAny_loadName_local I.ok.kind hk hn hm fin) hd
  · rcases hk with hk | hk
    · exact wpAny_Name (wpAny_loadName_cell I.ok.kind hk hc hcell fin) hd
    · exact wpAny_Name (wpAny_loadName_free I.ok.kind hk hc hcell fin hcd) hd
theorem pe_int {i j pos} : PE X (.Constant (.int i) j pos) (tC (.int i)) := fun _ _ _ H _ I h => wpAny_Constant_int ⟨.int i, H, I.tok _, ⟨_, rfl⟩, h⟩
theorem pe_bl {b j pos} : PE X (.Constant (.bool b) j pos) (tC (.bl b)) := fun _ _ _ H _ I h => Constant_bool ⟨.bl b, H, I, rfl, h⟩
theorem pe_non {j pos} : PE X (.Constant .none j pos) (tC .non) := fun _ _ _ H _ I h => Constant_none ⟨.non, H, I, rfl, h⟩
def Gl (X : Cx) (x : Str) : Prop := X.env.kindOf x = some .globalImplicit
theorem ld_glob {E : Value → Shared → Prop} {pins : List (Addr × Obj)} {s : Shared} {σ : St} {H : Hp} {x : Str} {u : Value} {pos : Pos} {Q : Value → Shared → Prop} (I : Inv X pins σ H s) (hg : Gl X x) (hm : X.mg x = some u) (h : Q u s)
    (hd : (x == ("__debug__" : Str)) = false := by decide) : wpAny (model X.prog X.w) X.A (eval (.Name x pos) X.env) Q E s :=
  Calls.Name_function_global I.ok.kind hg (Calls.loadGlobal_global (by rw [I.ok.glob]; exact I.mod.glob.keeps I.bk) hm h) hd
theorem ld_blt {E : Value → Shared → Prop} {pins : List (Addr × Obj)} {s : Shared} {σ : St} {H : Hp} {x : Str} {u : Value} {pos : Pos} {Q : Value → Shared → Prop} (I : Inv X pins σ H s) (hg : Gl X x) (hm : X.mg x = none) (hv : bootBuiltins x = some u) (h : Q u s)
    (hn : x ≠ "__name__" := by decide) (hd : (x == ("__debug__" : Str)) = false := by decide) : wpAny (model X.prog X.w) X.A (eval (.Name x pos) X.env) Q E s := by
  obtain ⟨mb, h1, h2⟩ := I.mod.blt
  exact Calls.Name_function_global I.ok.kind hg (Calls.loadGlobal_builtin (by rw [I.ok.glob]; exact I.mod.glob.keeps I.bk) hm (by rw [I.ok.blt]; exact h1.keeps I.bk) ((h2 x hn).trans hv) h) hd
theorem pe_glob {x : Str} {v : V} {u : Value} {pos : Pos} (hg : Gl X x) (hm : X.mg x = some u) (r : RelV v u) (hd : (x == ("__debug__" : Str)) = false := by decide) : PE X (.Name x pos) (tC v) :=
  fun _ _ _ H _ I h => ld_glob I hg hm ⟨v, H, I, r, h⟩ hd
def t2I (ta tb : TE) (k : Int → Int → Hp → Prop) : St → Hp → Prop := fun σ H => ta σ H fun x H1 => tb σ H1 fun y H2 => ∃ i j, x = .int i ∧ y = .int j ∧ k i j H2
def tAdd (ta tb : TE) : TE := fun σ H Q => t2I ta tb (fun i j H2 => Q (.int (i + j)) H2) σ H
def tSub (ta tb : TE) : TE := fun σ H Q => t2I ta tb (fun i j H2 => Q (.int (i - j)) H2) σ H
def tMul (ta tb : TE) : TE := fun σ H Q => t2I ta tb (fun i j H2 => (-(2 ^ 64) < i ∧ i < 2 ^ 64) ∧ Q (.int (i * j)) H2) σ H
variable {a b : Expr} {ta tb : TE} {pos : Pos}
theorem pe_add (ha : PE X a ta) (hb : PE X b tb) : PE X (.BinOp a .Add b pos) (tAdd ta tb) := by
  intro pins s σ H Q I h
  refine wpAny_BinOp (bin ha hb I h fun v u s2 x y H2 I2 rx ry q => ?_)
  obtain ⟨i, j, rfl, rfl, q⟩ := q
  obtain ⟨t, rfl⟩ := rx
  obtain ⟨t', rfl⟩ := ry
  exact add_int ⟨.int _, H2, I2.tok _, ⟨_, rfl⟩, q⟩
theorem pe_sub (ha : PE X a ta) (hb : PE X b tb) : PE X (.BinOp a .Sub b pos) (tSub ta tb) := by
  intro pins s σ H Q I h
  refine wpAny_BinOp (bin ha hb I h fun v u s2 x y H2 I2 rx ry q => ?_)
  obtain ⟨i, j, rfl, rfl, q⟩ := q
  obtain ⟨t, rfl⟩ := rx
  obtain ⟨t', rfl⟩ := ry
  exact sub_int ⟨.int _, H2, I2.tok _, ⟨_, rfl⟩, q⟩
theorem pe_mul (ha : PE X a ta) (hb : PE X b tb) : PE X (.BinOp a .Mult b pos) (tMul ta tb) := by
  intro pins s σ H Q I h
  refine wpAny_BinOp (bin ha hb I h fun v u s2 x y H2 I2 rx ry q => ?_)
  obtain ⟨i, j, rfl, rfl, ⟨q1, q2⟩, q⟩ := q
  obtain ⟨t, rfl⟩ := rx
  obtain ⟨t', rfl⟩ := ry
  exact mul_int ⟨.int _, H2, I2.tok _, ⟨_, rfl⟩, q⟩ (.of_left (intBits_le_64 q1 q2))
def PC (X : Cx) (op : CmpOp) (a b : Expr) (t : TE) : Prop :=
  ∀ (pins : List (Addr × Obj)) (s : Shared) (σ : St) (H : Hp) (Q : VK), Inv X pins σ H s → t σ H Q →
    wpAny (model X.prog X.w) X.A (eval a X.env) (fun v s₁ => wpAny (model X.prog X.w) X.A (eval b X.env) (fun u s₂ => wpAny (model X.prog X.w) X.A (compareOp op v u) (EP X pins σ Q) X.xe s₂) X.xe s₁) X.xe s
theorem nobehind (b : Expr) {op : CmpOp} (h : op ≠ .In) (h2 : op ≠ .NotIn) : behindInMarks op b = false := by
  have e1 : (op == CmpOp.In) = false := by cases op <;> first | rfl | exact absurd rfl h
  have e2 : (op == CmpOp.NotIn) = false := by cases op <;> first | rfl | exact absurd rfl h2
  cases b <;> simp [behindInMarks, e1, e2]
def tCmp (p : Int → Int → Bool) (ta tb : TE) : TE := fun σ H Q => t2I ta tb (fun i j H2 => Q (.bl (p i j)) H2) σ H
abbrev tLt : TE → TE → TE := tCmp fun i j => decide (i < j)
abbrev tLe : TE → TE → TE := tCmp fun i j => decide (i ≤ j)
abbrev tGt : TE → TE → TE := tCmp fun i j => decide (j < i)
abbrev tGe : TE → TE → TE := tCmp fun i j => decide (j ≤ i)
abbrev tEqI : TE → TE → TE := tCmp fun i j => decide (i = j)
abbrev tNeI : TE → TE → TE := tCmp fun i j => !decide (i = j)
theorem pc_int {op : CmpOp} {p : Int → Int → Bool} (ha : PE X a ta) (hb : PE X b tb)
    (rule : ∀ (i j : Int) (t u : Tok) (Q : Value → Shared → Prop) (s : Shared), Q (.bool (p i j)) s → wpAny (model X.prog X.w) X.A (compareOp op (.int i t) (.int j u)) Q X.xe s) : PC X op a b (tCmp p ta tb) := by
  intro pins s σ H Q I h
  refine bin ha hb I h fun v u s2 x y H2 I2 rx ry q => ?_
  obtain ⟨i, j, rfl, rfl, q⟩ := q
  obtain ⟨t, rfl⟩ := rx
  obtain ⟨t', rfl⟩ := ry
  exact rule i j t t' _ s2 ⟨.bl _, H2, I2, rfl, q⟩
theorem pc_lt (ha : PE X a ta) (hb : PE X b tb) : PC X .Lt a b (tLt ta tb) := pc_int ha hb fun _ _ _ _ _ _ h => lt_int h
theorem pc_le (ha : PE X a ta) (hb : PE X b tb) : PC X .LtE a b (tLe ta tb) := pc_int ha hb fun _ _ _ _ _ _ h => le_int h
theorem pc_gt (ha : PE X a ta) (hb : PE X b tb) : PC X .Gt a b (tGt ta tb) := pc_int ha hb fun _ _ _ _ _ _ h => gt_int h
theorem pc_ge (ha : PE X a ta) (hb : PE X b tb) : PC X .GtE a b (tGe ta tb) := pc_int ha hb fun _ _ _ _ _ _ h => ge_int h
theorem pc_eqI (ha : PE X a ta) (hb : PE X b tb) : PC X .Eq a b (tEqI ta tb) := pc_int ha hb fun _ _ _ _ _ _ h => eq_int (by rw [Bool.beq_eq_decide_eq]; exact h)
theorem pc_neI (ha : PE X a ta) (hb : PE X b tb) : PC X .NotEq a b (tNeI ta tb) := pc_int ha hb fun _ _ _ _ _ _ h => ne_int (by rw [bne, Bool.beq_eq_decide_eq]; exact h)
def tIsN (ta : TE) : TE := fun σ H Q => ta σ H fun x H1 => Q (.bl (decide (x = .non))) H1
def tNotN (ta : TE) : TE := fun σ H Q => ta σ H fun x H1 => Q (.bl (!decide (x = .non))) H1
theorem RelV.none_iff {x : V} {v : Value} (r : RelV x v) : (v == Value.none) = decide (x = .non) := by
  cases x with
  | non => cases r; rfl
  | bl _ => cases r; rfl
  | int _ => obtain ⟨t, rfl⟩ := r; rfl
  | str _ => obtain ⟨t, rfl⟩ := r; rfl
  | byt _ => obtain ⟨t, rfl⟩ := r; rfl
  | flt _ => obtain ⟨t, rfl⟩ := r; rfl
  | ref _ => cases r; rfl
  | ty _ => cases r; rfl
theorem pc_isN {j pos'} (ha : PE X a ta) : PC X .Is a (.Constant .none j pos') (tIsN ta) := by
  intro pins s σ H Q I h
  refine thn (ha pins s σ H _ I h) fun v s1 ⟨x, H1, I1, r1, q1⟩ => ?_
  exact Constant_none (is_none_gen ⟨.bl _, H1, I1, by rw [r1.none_iff]; rfl, q1⟩)
theorem pc_notN {j pos'} (ha : PE X a ta) : PC X .IsNot a (.Constant .none j pos') (tNotN ta) := by
  intro pins s σ H Q I h
  refine thn (ha pins s σ H _ I h) fun v s1 ⟨x, H1, I1, r1, q1⟩ => ?_
  exact Constant_none (isnot_none_gen ⟨.bl _, H1, I1, by rw [r1.none_iff]; rfl, q1⟩)
def tB (t : TE) : TT := fun σ H Q => t σ H fun x H1 => ∃ c, x = .bl c ∧ Q c H1
theorem pe_cmp {op : CmpOp} {t : TE} (h : PC X op a b t) (h1 : behindInMarks op b = false := by first | exact nobehind _ (by decide) (by decide) | rfl) : PE X (.Compare a [op] [b] pos) t := fun pins s σ H Q I hw => wpAny_Compare1 (h pins s σ H Q I hw) h1
theorem pt_cmp {op : CmpOp} {t : TE} (h : PC X op a b t) (h1 : behindInMarks op b = false := by first | exact nobehind _ (by decide) (by decide) | rfl) : PT X (.Compare a [op] [b] pos) (tB t) := by
  intro pins s σ H Q I hw
  refine wpAny_isTrue_Compare1 (thn (h pins s σ H _ I hw) fun v s1 h1 => thn h1 fun u s2 h2 => thn h2 fun c s3 ⟨x, H1, I1, r1, q1⟩ => ?_) h1
  obtain ⟨d, rfl, q⟩ := q1
  cases r1
  exact wpAny_truthy_bool ⟨H1, I1, q⟩
theorem pt_val {e : Expr} {t : TE} (h : PE X e t) (he : ∀ whole, isTrue e X.env whole = (do let v ← whole; standAt e.pos; holding [v] (truthy v)) := by intro _; rfl) : PT X e (tB t) := by
  intro pins s σ H Q I hw
  refine isTrue_plain (thn (h pins s σ H _ I hw) fun v s1 ⟨x, H1, I1, r1, q1⟩ => ?_) (he _)
  obtain ⟨d, rfl, q⟩ := q1
  cases r1
  exact wpAny_truthy_bool ⟨H1, I1, q⟩
variable {tA tB' : TT} {rest : List Expr}
def tAnd (t u : TT) : TT := fun σ H Q => t σ H fun c H1 => if c = true then u σ H1 Q else Q false H1
def tOr (t u : TT) : TT := fun σ H Q => t σ H fun c H1 => if c = true then Q true H1 else u σ H1 Q
def tNot (t : TT) : TT := fun σ H Q => t σ H fun c H1 => Q (!c) H1
theorem pw_and1 (ha : PT X a tA) : PW X (.BoolOp .And [a] pos) tA := by
  intro wh pins s σ H Q I h
  refine isTrue_and (thn (ha pins s σ H Q I h) fun c s1 e => ?_)
  cases c with
  | true => exact isTrue_and_nil e
  | false => exact e
theorem pw_or1 (ha : PT X a tA) : PW X (.BoolOp .Or [a] pos) tA := by
  intro wh pins s σ H Q I h
  refine isTrue_or (thn (ha pins s σ H Q I h) fun c s1 e => ?_)
  cases c with
  | false => exact isTrue_or_nil e
  | true => exact e
theorem pw_and (ha : PT X a tA) (hb : PW X (.BoolOp .And (b :: rest) pos) tB') : PW X (.BoolOp .And (a :: b :: rest) pos) (tAnd tA tB') := by
  intro wh pins s σ H Q I h
  refine isTrue_and (thn (ha pins s σ H _ I h) fun c s1 ⟨H1, I1, q1⟩ => ?_)
  cases c with
  | true => exact hb wh pins s1 σ H1 Q I1 q1
  | false => exact ⟨H1, I1, q1⟩
theorem pw_or (ha : PT X a tA) (hb : PW X (.BoolOp .Or (b :: rest) pos) tB') : PW X (.BoolOp .Or (a :: b :: rest) pos) (tOr tA tB') := by
  intro wh pins s σ H Q I h
  refine isTrue_or (thn (ha pins s σ H _ I h) fun c s1 ⟨H1, I1, q1⟩ => ?_)
  cases c with
  | true => exact ⟨H1, I1, q1⟩
  | false => exact hb wh pins s1 σ H1 Q I1 q1
theorem pt_not (ha : PT X a tA) : PT X (.UnaryOp .Not a pos) (tNot tA) := by
  intro pins s σ H Q I h
  exact isTrue_not (ha pins s σ H (fun c H1 => Q (!c) H1) I h)
def tAndV (ta tb : TE) : TE := fun σ H Q => ta σ H fun x H1 => ∃ c, x = .bl c ∧ if c = true then tb σ H1 Q else Q (.bl false) H1
def tOrV (ta tb : TE) : TE := fun σ H Q => ta σ H fun x H1 => ∃ c, x = .bl c ∧ if c = true then Q (.bl true) H1 else tb σ H1 Q
def tNotV (ta : TE) : TE := fun σ H Q => ta σ H fun x H1 => ∃ c, x = .bl c ∧ Q (.bl (!c)) H1
theorem pe_one {op} {t : TE} (h : PE X a t) : PE X (.BoolOp op [a] pos) t := fun pins s σ H Q I hw => BoolOp_one (h pins s σ H Q I hw)
theorem pe_and (ha : PE X a ta) (hb : PE X (.BoolOp .And (b :: rest) pos) tb) : PE X (.BoolOp .And (a :: b :: rest) pos) (tAndV ta tb) := by
  intro pins s σ H Q I h
  refine BoolOp_and (thn (ha pins s σ H _ I h) fun v s1 ⟨x, H1, I1, r1, q1⟩ => ?_)
  obtain ⟨c, rfl, q1⟩ := q1
  cases r1
  refine wpAny_truthy_bool ?_
  cases c with
  | true => exact hb pins s1 σ H1 Q I1 q1
  | false => exact ⟨.bl false, H1, I1, rfl, q1⟩
theorem pe_or (ha : PE X a ta) (hb : PE X (.BoolOp .Or (b :: rest) pos) tb) : PE X (.BoolOp .Or (a :: b :: rest) pos) (tOrV ta tb) := by
  intro pins s σ H Q I h
  refine BoolOp_or (thn (ha pins s σ H _ I h) fun v s1 ⟨x, H1, I1, r1, q1⟩ => ?_)
  obtain ⟨c, rfl, q1⟩ := q1
  cases r1
  refine wpAny_truthy_bool ?_
  cases c with
  | false => exact hb pins s1 σ H1 Q I1 q1
  | true => exact ⟨.bl true, H1, I1, rfl, q1⟩
def tIf (t : TT) (ta tb : TE) : TE := fun σ H Q => t σ H fun c H1 => if c = true then ta σ H1 Q else tb σ H1 Q
theorem pe_ifExp {c : Expr} (hc : PT X c tA) (ha : PE X a ta) (hb : PE X b tb) : PE X (.IfExp c a b pos) (tIf tA ta tb) := by
  intro pins s σ H Q I h
  refine wpAny_IfExp (thn (hc pins s σ H _ I h) fun d s1 ⟨H1, I1, q1⟩ => ?_)
  cases d with
  | true => exact ha pins s1 σ H1 Q I1 q1
  | false => exact hb pins s1 σ H1 Q I1 q1
end
end L2
namespace L2
open PySem PySem.Spec PyProof.Rows
def SqL (K : PySem.W.Frag) (H : Hp) (a : Addr) (xs : List V) : Prop :=
  Rd H a (.lst xs) ∨
    ∃ (o : Obj) (its : Array Value) (n : Nat), K.lookup a = some o ∧ o.cls = .type "list" ∧ o.dict = none ∧ o.data = .seq its n ∧ its.size ≤ sizeLine ∧ Vals xs its.toList
def SqT (K : PySem.W.Frag) (H : Hp) (a : Addr) (xs : List V) : Prop :=
  Rd H a (.tup xs) ∨
    ∃ (o : Obj) (its : Array Value) (n : Nat), K.lookup a = some o ∧ o.cls = .type "tuple" ∧ o.data = .seq its n ∧ its.size ≤ sizeLine ∧ Vals xs its.toList
def absV : Value → Option V
  | .none => some .non
  | .bool b => some (.bl b)
  | .int i _ => some (.int i)
  | .str x _ => some (.str x)
  | .bytes b _ => some (.byt b)
  | .float b _ => some (.flt b)
  | .ref a => some (.ref a)
  | .type n => some (.ty n)
  | _ => none
theorem RelV.abs {x : V} {u : Value} (r : RelV x u) : absV u = some x := by
  cases x with
  | non => cases r; rfl
  | bl _ => cases r; rfl
  | int _ => obtain ⟨t, rfl⟩ := r; rfl
  | str _ => obtain ⟨t, rfl⟩ := r; rfl
  | byt _ => obtain ⟨t, rfl⟩ := r; rfl
  | flt _ => obtain ⟨t, rfl⟩ := r; rfl
  | ref _ => cases r; rfl
  | ty _ => cases r; rfl
theorem RelV.inj {x y : V} {u : Value} (r : RelV x u) (q : RelV y u) : x = y := Option.some.inj (r.abs.symm.trans q.abs)
theorem Vals.inj : ∀ {xs ys : List V} {us : List Value}, Vals xs us → Vals ys us → xs = ys
  | _, _, _, .nil, .nil => rfl
  | _, _, _, .cons r t, .cons r' t' => by rw [r.inj r', Vals.inj t t']
section
variable {X : Cx} {pins : List (Addr × Obj)} {σ : St} {H : Hp} {s : Shared} {a : Addr} {xs ys : List V}
theorem SqL.of {K : PySem.W.Frag} (h : H a = some (.lst xs)) : SqL K H a xs := .inl (.inl h)
theorem SqT.of {K : PySem.W.Frag} (h : H a = some (.tup xs)) : SqT K H a xs := .inl (.inl h)
theorem Inv.list (I : Inv X pins σ H s) (h : SqL X.K H a xs) : ∃ its : List Value, Vals xs its ∧ PlainL s.heap a its.toArray ∧ xs.length ≤ sizeLine := by
  rcases h with h | ⟨o, its, n, hk, hc, hd, hs, hz, r⟩
  · obtain ⟨z, its, n, r, e⟩ := h.ok I.hok
    exact ⟨its, r, ⟨_, n, e, rfl, rfl, rfl⟩, z⟩
  · refine ⟨its.toList, r, ⟨o, n, I.kIn a o hk, hc, hd, by simpa using hs⟩, ?_⟩
    have e := r.length
    simp only [Array.length_toList] at e
    omega
theorem Inv.tuple (I : Inv X pins σ H s) (h : SqT X.K H a xs) : ∃ its : List Value, Vals xs its ∧ IsTup s.heap a its.toArray ∧ xs.length ≤ sizeLine := by
  rcases h with h | ⟨o, its, n, hk, hc, hs, hz, r⟩
  · obtain ⟨z, its, r, p⟩ := h.ok I.hok
    exact ⟨its, r, p, z⟩
  · refine ⟨its.toList, r, ⟨o, I.kIn a o hk, hc, n, by simpa using hs⟩, ?_⟩
    have e := r.length
    simp only [Array.length_toList] at e
    omega
theorem Inv.list_inj (I : Inv X pins σ H s) (h : SqL X.K H a xs) (h' : SqL X.K H a ys) : xs = ys := by
  obtain ⟨its, r, ⟨o, n, e, _, _, d⟩, _⟩ := I.list h
  obtain ⟨its', r', ⟨o', n', e', _, _, d'⟩, _⟩ := I.list h'
  rw [e] at e'; cases e'
  rw [d] at d'
  injection d' with d1 _
  have : its = its' := by simpa using congrArg Array.toList d1
  subst this
  exact r.inj r'
end
abbrev Cx.wish (X : Cx) (E : Value → Shared → Prop) : Cx := { X with xe := E }
abbrev Cx.nox (X : Cx) : Cx := X.wish fun _ _ => False
theorem Cx.Ok.wish {X : Cx} (ok : X.Ok) (E : Value → Shared → Prop) : (X.wish E).Ok :=
  ⟨ok.mod, ok.kind, ok.glob, ok.blt, ok.above, ok.inj, ok.has, ok.cab, ok.hd, ok.frames, ok.stk, ok.exf, ok.bs, ok.bsz, ok.noex, ok.exfs, ok.funs, ok.frf⟩
theorem Cx.Ok.unwish {X : Cx} {E : Value → Shared → Prop} (ok : (X.wish E).Ok) : X.Ok :=
  ⟨ok.mod, ok.kind, ok.glob, ok.blt, ok.above, ok.inj, ok.has, ok.cab, ok.hd, ok.frames, ok.stk, ok.exf, ok.bs, ok.bsz, ok.noex, ok.exfs, ok.funs, ok.frf⟩
section
variable {X : Cx} {pins : List (Addr × Obj)} {σ : St} {H : Hp} {s : Shared} {E : Value → Shared → Prop}
theorem Inv.wish (I : Inv X pins σ H s) (E : Value → Shared → Prop) : Inv (X.wish E) pins σ H s := ⟨I.ok.wish E, I.os, I.bare, I.base, I.loc, I.cell, I.free, I.freeC, I.pin, I.hok, I.len⟩
theorem Inv.unwish (I : Inv (X.wish E) pins σ H s) : Inv X pins σ H s := ⟨I.ok.unwish, I.os, I.bare, I.base, I.loc, I.cell, I.free, I.freeC, I.pin, I.hok, I.len⟩
theorem SP.unwish {D : Ends} {f : Flow} {s' : Shared} (h : SP (X.wish E) pins D f s') : SP X pins D f s' := by
  cases f with
  | next => obtain ⟨σ', H', I, q⟩ := h; exact ⟨σ', H', I.unwish, q⟩
  | brk => obtain ⟨σ', H', I, q⟩ := h; exact ⟨σ', H', I.unwish, q⟩
  | cont => obtain ⟨σ', H', I, q⟩ := h; exact ⟨σ', H', I.unwish, q⟩
  | ret u => obtain ⟨v, σ', H', I, r, q⟩ := h; exact ⟨v, σ', H', I.unwish, r, q⟩
theorem PSs.nox {st : List Stmt} {t : TS} (h : PSs X.nox st t) : PSs X st t := fun pins s σ H D I hw =>
  wpAny_mono (h pins s σ H D (I.wish _) hw) (fun _ _ q => q.unwish) fun _ _ z => False.elim z
end
section
variable {X : Cx} {st : Stmt} {rest : List Stmt} {t u : TS} {e : Expr} {te : TE} {pos : Pos}
def tNext : TS := fun D σ H => D.nx σ H
def tSeq (t u : TS) : TS := fun D σ H => t { D with nx := u D } σ H
theorem pss_nil : PSs X [] tNext := fun _ _ σ H _ I h => wpAny_execs_nil ⟨σ, H, I, h⟩
theorem pss_cons (h1 : PS X st t) (h2 : PSs X rest u) : PSs X (st :: rest) (tSeq t u) := by
  intro pins s σ H D I h
  refine wpAny_execs_cons (thn (h1 pins s σ H { D with nx := u D } I h) fun f s1 q => ?_)
  cases f with
  | next =>
    obtain ⟨σ', H', I', q⟩ := q
    exact h2 pins s1 σ' H' D I' q
  | ret v => exact q
  | brk => exact q
  | cont => exact q
theorem pss_one (h1 : PS X st t) : PSs X [st] t := by
  intro pins s σ H D I h
  refine wpAny_execs_cons (thn (h1 pins s σ H D I h) fun f s1 q => ?_)
  cases f with
  | next => exact wpAny_execs_nil q
  | ret v => exact q
  | brk => exact q
  | cont => exact q
theorem Inv.quiet {pins : List (Addr × Obj)} {σ : St} {H : Hp} {s : Shared} (I : Inv X pins σ H s) : interactive X.env = false := by simp [interactive, I.ok.kind]
def tDrop (te : TE) : TS := fun D σ H => te σ H fun _ H1 => D.nx σ H1
theorem ps_expr (he : PE X e te) (hs : swapsWith e none pos.line X.env = pure false := by rfl) : PS X (.Expr e pos) (tDrop te) := by
  intro pins s σ H D I h
  exact wpAny_Expr_any (thn (he pins s σ H _ I h) fun v s1 ⟨x, H1, I1, r1, q1⟩ => ⟨σ, H1, I1, q1⟩) I.quiet hs
def tRet (te : TE) : TS := fun D σ H => te σ H D.rt
theorem ps_ret (he : PE X e te) : PS X (.Return (some e) pos) (tRet te) := by
  intro pins s σ H D I h
  exact wpAny_Return_some (thn (he pins s σ H _ I h) fun v s1 ⟨x, H1, I1, r1, q1⟩ => ⟨x, σ, H1, I1, r1, q1⟩)
def tIfS (c : TT) (t u : TS) : TS := fun D σ H => c σ H fun b H1 => if b = true then t D σ H1 else u D σ H1
theorem ps_if {c : Expr} {a b : List Stmt} {tc : TT} (hc : PT X c tc) (ha : PSs X a t) (hb : PSs X b u) : PS X (.If c a b pos) (tIfS tc t u) := by
  intro pins s σ H D I h
  refine wpAny_If (thn (hc pins s σ H _ I h) fun d s1 ⟨H1, I1, q1⟩ => ?_)
  cases d with
  | true => exact ha pins s1 σ H1 D I1 q1
  | false => exact hb pins s1 σ H1 D I1 q1
end
abbrev TG := V → St → Hp → (St → Hp → Prop) → Prop
def PG (X : Cx) (target : Expr) (t : TG) : Prop :=
  ∀ (pins : List (Addr × Obj)) (s : Shared) (σ : St) (H : Hp) (v : V) (u : Value) (Q : St → Hp → Prop), Inv X pins σ H s → RelV v u → t v σ H Q →
    wpAny (model X.prog X.w) X.A (assign target X.env u) (fun _ s' => ∃ σ' H', Inv X pins σ' H' s' ∧ Q σ' H') X.xe s
abbrev TSet := V → V → V → Hp → (Hp → Prop) → Prop
def PSet (X : Cx) (t : TSet) : Prop :=
  ∀ (pins : List (Addr × Obj)) (s : Shared) (σ : St) (H : Hp) (o i v : V) (ov iv u : Value) (Q : Hp → Prop), Inv X pins σ H s → RelV o ov → RelV i iv → RelV v u → t o i v H Q →
    wpAny (model X.prog X.w) X.A (setItem ov iv u) (fun _ s' => ∃ H', Inv X pins σ H' s' ∧ Q H') X.xe s
abbrev TIp := V → V → Hp → VK → Prop
def PIp (X : Cx) (op : Operator) (t : TIp) : Prop :=
  ∀ (pins : List (Addr × Obj)) (s : Shared) (σ : St) (H : Hp) (x y : V) (v u : Value) (Q : VK), Inv X pins σ H s → RelV x v → RelV y u → t x y H Q →
    wpAny (model X.prog X.w) X.A (inplaceOp op v u) (EP X pins σ Q) X.xe s
section
variable {X : Cx} {pos : Pos}
def gName (i : Nat) : TG := fun v σ H Q => Q (σ.set i (some v)) H
theorem pg_name {i : Nat} {x : Str} (hN : X.N.Nodup) (hi : X.N[i]? = some x) (hx : Loc X.env.scope x) (hf : X.fn x = true ∨ X.env.scope.names.lookup x = some .local := by first | exact .inl rfl | exact .inr rfl | assumption) : PG X (.Name x pos) (gName i) := by
  intro pins s σ H v u Q I r h
  exact wpAny_assign_Name (store_ok I hN hi hx r (fun s' I' => ⟨_, H, I', h⟩) hf)
def gSub (to ti : TE) (t : TSet) : TG := fun v σ H Q => to σ H fun o H1 => ti σ H1 fun i H2 => t o i v H2 fun H3 => Q σ H3
theorem pg_sub {o i : Expr} {to ti : TE} {t : TSet} (ho : PE X o to) (hi : PE X i ti) (hs : PSet X t)
    (ha : ∀ v, assign (.Subscript o i pos) X.env v = (do
      let ov ← holding [v] (eval o X.env)
      let iv ← holding [v, ov] (eval i X.env)
      standAt pos
      holding [v, ov, iv] (setItem ov iv v)
      release [v, ov, iv] []) := by intro _; rfl) : PG X (.Subscript o i pos) (gSub to ti t) := by
  intro pins s σ H v u Q I r h
  rw [ha]
  refine wpAny_bind (wpAny_holding (thn (ho pins s σ H _ I h) fun ov s1 ⟨x, H1, I1, r1, q1⟩ => ?_))
  refine wpAny_bind (wpAny_holding (thn (hi pins s1 σ H1 _ I1 q1) fun iv s2 ⟨y, H2, I2, r2, q2⟩ => ?_))
  refine wpAny_bind (wpAny_standAt (wpAny_bind (wpAny_holding (thn (hs pins s2 σ H2 x y v ov iv u _ I2 r1 r2 r q2) fun _ s3 ⟨H3, I3, q3⟩ => ?_))))
  exact wpAny_release ⟨σ, H3, I3, q3⟩
def tAsg (te : TE) (g : TG) : TS := fun D σ H => te σ H fun x H1 => g x σ H1 D.nx
theorem ps_asg {tg e : Expr} {te : TE} {g : TG} (he : PE X e te) (hg : PG X tg g) (hs : swapsWithSole [tg] e pos.line X.env = pure false := by rfl) (hw : swappedStores [tg] e X.env = pure none := by rfl)
    (h1 : (assignEach [tg] X.env).map (·.2) = [assign tg X.env] := by rfl) : PS X (.Assign [tg] e pos) (tAsg te g) := by
  intro pins s σ H D I h
  refine wpAny_Assign_stores (thn (he pins s σ H _ I h) fun v s1 ⟨x, H1, I1, r1, q1⟩ => ?_) hs hw
  rw [h1]
  exact thn (hg pins s1 σ H1 x v _ I1 r1 q1) fun _ s2 q => q
theorem ps_set {i : Nat} {x : Str} {e : Expr} {te : TE} {pos' : Pos} (hN : X.N.Nodup) (hi : X.N[i]? = some x) (hx : Loc X.env.scope x) (he : PE X e te) (hs : swapsWith e (some (.Name x pos')) pos.line X.env = pure false := by rfl) (hf : X.fn x = true ∨ X.env.scope.names.lookup x = some .local := by first | exact .inl rfl | exact .inr rfl | assumption) :
    PS X (.Assign [.Name x pos'] e pos) (tAsg te (gName i)) := by
  intro pins s σ H D I h
  refine wpAny_Assign_Name (thn (he pins s σ H _ I h) fun v s1 ⟨y, H1, I1, r1, q1⟩ => ?_) hs
  exact store_ok I1 hN hi hx r1 (fun s2 I2 => ⟨_, H1, I2, q1⟩) hf
def tAug (i : Nat) (te : TE) (ti : TIp) : TS := fun D σ H => ∃ x, σ[i]? = some (some x) ∧ te σ H fun y H1 => ti x y H1 fun z H2 => D.nx (σ.set i (some z)) H2
theorem ps_aug {i : Nat} {x : Str} {e : Expr} {te : TE} {op : Operator} {ti : TIp} {pos' : Pos} (hN : X.N.Nodup) (hi : X.N[i]? = some x) (hx : Loc X.env.scope x) (he : PE X e te) (ho : PIp X op ti) (hf : X.fn x = true ∨ X.env.scope.names.lookup x = some .local := by first | exact .inl rfl | exact .inr rfl | assumption) :
    PS X (.AugAssign (.Name x pos') op e pos) (tAug i te ti) := by
  intro pins s σ H D I h
  obtain ⟨v, e1, h⟩ := h
  obtain ⟨m, hn, hl⟩ := I.loc
  have vis : Vis X.env.scope x := by rcases hx with k | k; exact .inl k; exact .inr (.inl k)
  obtain ⟨u, r, l⟩ := hl i x v hi e1 vis
  refine wpAny_AugAssign_Name ?_
  have go : wpAny (model X.prog X.w) X.A (eval e X.env) (fun w s₂ => wpAny (model X.prog X.w) X.A (inplaceOp op u w) (fun r s₃ => wpAny (model X.prog X.w) X.A (storeName X.env x r) (fun _ => SP X pins D .next) X.xe s₃) X.xe s₂) X.xe s := by
    refine thn (he pins s σ H _ I h) fun w s1 ⟨y, H1, I1, r1, q1⟩ => ?_
    refine thn (ho pins s1 σ H1 v y u w _ I1 r r1 q1) fun z s2 ⟨zv, H2, I2, r2, q2⟩ => ?_
    exact store_ok I2 hN hi hx r2 (fun s3 I3 => ⟨_, H2, I3, q2⟩) hf
  rcases l with ⟨hk, hm⟩ | ⟨hk, c, hc, hcell⟩
  · exact wpAny_loadName_local I.ok.kind hk hn hm go
  · rcases hk with hk | hk
    · exact wpAny_loadName_cell I.ok.kind hk hc hcell go
    · rcases hx with k | k
      · have : X.env.scope.names.lookup x = some .free := hk
        rw [k] at this; cases this
      · have : X.env.scope.names.lookup x = some .free := hk
        rw [k] at this; cases this
def ipI (f : Int → Int → Int) : TIp := fun x y H Q => ∃ i j, x = .int i ∧ y = .int j ∧ Q (.int (f i j)) H
theorem ip_add : PIp X .Add (ipI fun i j => i + j) := by
  intro pins s σ H x y v u Q I r1 r2 h
  obtain ⟨i, j, e1, e2, q⟩ := h
  subst e1; subst e2
  obtain ⟨t, rfl⟩ := r1
  obtain ⟨t', rfl⟩ := r2
  exact iadd_int ⟨.int _, H, I.tok _, ⟨_, rfl⟩, q⟩
theorem ip_sub : PIp X .Sub (ipI fun i j => i - j) := by
  intro pins s σ H x y v u Q I r1 r2 h
  obtain ⟨i, j, e1, e2, q⟩ := h
  subst e1; subst e2
  obtain ⟨t, rfl⟩ := r1
  obtain ⟨t', rfl⟩ := r2
  exact isub_int ⟨.int _, H, I.tok _, ⟨_, rfl⟩, q⟩
end
section
variable {X : Cx} {pos : Pos}
def tWhile (c : TT) (tb : TS) : TS := fun D σ H => ∃ W : Nat → St → Hp → Prop, (∃ m, W m σ H) ∧ ∀ m σ H, W m σ H →
  c σ H fun b H1 => if b = true then ∃ N : St → Hp → Prop, (∀ σ' H', N σ' H' → ∃ m', m' < m ∧ W m' σ' H') ∧ tb { D with nx := N, ct := N, bk := D.nx } σ H1 else D.nx σ H1
theorem ps_while {c : Expr} {body : List Stmt} {tc : TT} {tb : TS} (hp : PassesOwn (model X.prog X.w) X.A X.env X.xe) (hc : PT X c tc) (hb : PSs X body tb) : PS X (.While c body [] pos) (tWhile tc tb) := by
  intro pins s σ H D I h
  obtain ⟨W, ⟨m0, w0⟩, turn⟩ := h
  refine wpAny_While (codeAny_whileLoop (fun n s' => ∃ σ' H', Inv X pins σ' H' s' ∧ W n σ' H') ?_ m0 ⟨σ, H, I, w0⟩)
  rintro n s1 ⟨σ1, H1, I1, w1⟩
  refine wpAny_passesOwn hp (thn (hc pins s1 σ1 H1 _ I1 (turn n σ1 H1 w1)) fun b s2 ⟨H2, I2, q2⟩ => ?_)
  cases b with
  | true =>
    obtain ⟨N, hN, q2⟩ := q2
    rw [if_pos rfl]
    refine wpAny_passesOwn hp (thn (hb pins s2 σ1 H2 _ I2 q2) fun f s3 q3 => ?_)
    cases f with
    | next =>
      obtain ⟨σ3, H3, I3, n3⟩ := q3
      obtain ⟨m', hm, w3⟩ := hN σ3 H3 n3
      exact ⟨m', hm, σ3, H3, I3, w3⟩
    | cont =>
      obtain ⟨σ3, H3, I3, n3⟩ := q3
      obtain ⟨m', hm, w3⟩ := hN σ3 H3 n3
      exact ⟨m', hm, σ3, H3, I3, w3⟩
    | brk => exact q3
    | ret v => exact q3
  | false =>
    rw [if_neg Bool.false_ne_true]
    exact wpAny_execs_nil ⟨σ1, H2, I2, q2⟩
end
structure It where
  go : Nat → Hp → Prop
  yld : Nat → Hp → V → Hp → Prop
  stop : Nat → Hp → Prop
def FpOk (X : Cx) (pins : List (Addr × Obj)) (H : Hp) (b : Addr) : Prop :=
  H b = none ∧ b ≠ X.env.locals ∧ b ∉ X.fs ∧ (b ∈ X.ex ∨ X.s_0.heap.objs.size ≤ b) ∧ (∀ x c, X.env.cells.lookup x = some c → c ≠ b) ∧ ∀ p ∈ X.pn ++ pins, p.1 ≠ b
theorem Inv.fpOk {X : Cx} {pins : List (Addr × Obj)} {σ : St} {H H' : Hp} {s : Shared} {b : Addr} (I : Inv X pins σ H s) (hb : s.heap.objs.size ≤ b) (hn : H' b = none) : FpOk X pins H' b := by
  refine ⟨hn, Nat.ne_of_gt (Nat.lt_of_lt_of_le I.lt hb), I.nofs hb, .inr (Nat.le_trans I.sz hb), fun x c e z => ?_, fun p hp z => ?_⟩
  · obtain ⟨v, q⟩ := I.cell x c e
    exact absurd (Nat.lt_of_lt_of_le q.lt (by rw [z]; exact hb)) (Nat.lt_irrefl _)
  · exact absurd (Nat.lt_of_lt_of_le (Heap.lt_size (I.pin p hp).1) (by rw [z]; exact hb)) (Nat.lt_irrefl _)
structure Turn (P : Program) (w : World) (K : PySem.W.Frag) (tg : Expr) (J : It) (fp : List Addr) (it : Addr) (tn : Nat → Heap → Prop) : Prop where
  mem : it ∈ fp
  obj : ∀ i h, tn i h → ∀ b ∈ fp, ∃ o, h.get? b = some o ∧ ∀ v, o.data ≠ .cell v
  keep : ∀ i h h', tn i h → (∀ b ∈ fp, ∀ o, h.get? b = some o → h'.get? b = some o) → tn i h'
  item : ∀ (X : Cx), X.prog = P → X.w = w → X.K = K → X.calm = true → ∀ (i : Nat) (pins : List (Addr × Obj)) (s : Shared) (σ : St) (H : Hp) (E : Value → Shared → Prop), Inv X pins σ H s → (∀ b ∈ fp, FpOk X pins H b) → tn i s.heap → J.go i H →
    wpAny (model P w) X.A (pyNext (.ref it)) (fun r s1 => ∃ u, r = some u ∧
      wpAny (model P w) X.A (letOwnedTupleGo tg (.ref it) u) (fun _ s2 => ∃ x H', Inv X pins σ H' s2 ∧ RelV x u ∧ J.yld i H x H' ∧ tn (i + 1) s2.heap ∧ ∀ b ∈ fp, H' b = none) E s1) E s
  done : ∀ (X : Cx), X.prog = P → X.w = w → X.K = K → X.calm = true → ∀ (i : Nat) (pins : List (Addr × Obj)) (s : Shared) (σ : St) (H : Hp) (E : Value → Shared → Prop), Inv X pins σ H s → (∀ b ∈ fp, FpOk X pins H b) → tn i s.heap → J.stop i H →
    wpAny (model P w) X.A (pyNext (.ref it)) (fun r s1 => r = none ∧ Inv X pins σ H s1) E s
  self : ∀ (A : Around) (i : Nat) (s : Shared) (Q : Value → Shared → Prop) (E : Value → Shared → Prop), tn i s.heap → Q (.ref it) s → wpAny (model P w) A (pyIter (.ref it)) Q E s
abbrev TI := St → Hp → (It → Hp → Prop) → Prop
def PIE (X : Cx) (pins : List (Addr × Obj)) (σ : St) (tg : Expr) (R : It → Hp → Prop) (itv : Value) (s2 : Shared) : Prop :=
  ∃ (it : Addr) (fp : List Addr) (tn : Nat → Heap → Prop) (J : It) (H' : Hp), itv = .ref it ∧ Inv X pins σ H' s2 ∧ Turn X.prog X.w X.K tg J fp it tn ∧ tn 0 s2.heap ∧ (∀ b ∈ fp, FpOk X pins H' b) ∧ R J H'
def PI (X : Cx) (tg iter : Expr) (wi : TI) : Prop :=
  ∀ (pins : List (Addr × Obj)) (s : Shared) (σ : St) (H : Hp) (R : It → Hp → Prop), Inv X pins σ H s → wi σ H R →
    wpAny (model X.prog X.w) X.A (eval iter X.env) (fun v s1 => wpAny (model X.prog X.w) X.A (pyIter v) (PIE X pins σ tg R) X.xe s1) X.xe s
theorem go_of {M : Model} {A : Around} {E : Value → Shared → Prop} {s : Shared} {tg : Expr} {it : Addr} {u : Value} {o : Obj} {n : String} {vs : Array Value} {Q : Unit → Shared → Prop} (ho : s.heap.get? it = some o) (hc : o.cls = .type n) (hd : o.data = .fields vs)
    (hn : ["enumerate", "zip", "dict_itemiterator", "dict_reverseitemiterator", "odict_iterator", "itertools.zip_longest", "itertools.pairwise"].contains n = false) (hQ : Q () s) : wpAny M A (letOwnedTupleGo tg (.ref it) u) Q E s := by
  unfold letOwnedTupleGo
  cases tg <;> first
    | exact wpAny_pure hQ
    | (cases u <;> first
        | exact wpAny_pure hQ
        | (refine wpAny_bind (wpAny_load ho ?_)
           rw [hc, hd]
           show wpAny M A (if (["enumerate", "zip", "dict_itemiterator", "dict_reverseitemiterator", "odict_iterator", "itertools.zip_longest", "itertools.pairwise"].contains n && vs[0]? == some (rawInt _)) = true then _ else _) Q E s
           rw [if_neg (by intro h; rw [hn, Bool.false_and] at h; cases h)]
           exact wpAny_pure hQ))
def Itl (K : PySem.W.Frag) (a : Addr) : It :=
  ⟨fun i H => ∃ xs x, SqL K H a xs ∧ xs[i]? = some x, fun i H x H' => H' = H ∧ ∀ xs, SqL K H a xs → xs[i]? = some x, fun i H => ∃ xs, SqL K H a xs ∧ xs.length ≤ i⟩
def Itr (lo : Int) (n : Nat) : It := ⟨fun i _ => i < n, fun i H x H' => H' = H ∧ x = .int (lo + i), fun i _ => n ≤ i⟩
theorem turn_list {P : Program} {w : World} {K : PySem.W.Frag} {tg : Expr} (a it : Addr) : Turn P w K tg (Itl K a) [it] it (fun i h => h.IsListIter it a i) where
  mem := by simp
  obj := fun i h st b hb => by
    have e : b = it := by simpa using hb
    subst e
    obtain ⟨o, e, c, d⟩ := st
    exact ⟨o, e, fun v z => by rw [d] at z; cases z⟩
  keep := fun i h h' st k => st.at fun o e => k it (by simp) o e
  item := by
    intro X hP hw hK hc i pins s σ H E I hf st hg
    subst hP hw hK
    obtain ⟨xs, x, hq, hx⟩ := hg
    obtain ⟨its, rv, p, hz⟩ := I.list hq
    obtain ⟨u, hu, ru⟩ := rv.get hx
    obtain ⟨f0, f1, f2, f3, f4, f5⟩ := hf it (by simp)
    refine wpAny_pyNext_list_item st p.isList (x := u) (by simpa using hu) fun h' st' sb => ?_
    have I1 : Inv X pins σ H { s with heap := h' } := I.turned (t' := s.toks) (fun b o hb e => (sb.2 b hb).trans e) f0 f1 f3 f4 f5
    obtain ⟨o, e, c, d⟩ := id st'
    exact ⟨u, rfl, go_of (s := { s with heap := h' }) e c d (by decide) ⟨x, H, I1, ru, ⟨rfl, fun ys hy => by rw [I.list_inj hy hq]; exact hx⟩, st', fun b hb => (hf b hb).1⟩⟩
  done := by
    intro X hP hw hK hc i pins s σ H E I hf st hg
    subst hP hw hK
    obtain ⟨xs, hq, hx⟩ := hg
    obtain ⟨its, rv, p, hz⟩ := I.list hq
    obtain ⟨f0, f1, f2, f3, f4, f5⟩ := hf it (by simp)
    have hl := rv.length
    exact wpAny_pyNext_list_end (I.ok.hd hc) st p.isList (by simp; omega) fun h' eb => ⟨rfl, I.turned (t' := s.toks) (fun b o hb e => eb b o hb e) f0 f1 f3 f4 f5⟩
  self := fun _ _ _ _ _ st h => wpAny_pyIter_listiter st h
theorem turn_range {P : Program} {w : World} {K : PySem.W.Frag} {tg : Expr} (it : Addr) (lo : Int) (n : Nat) : Turn P w K tg (Itr lo n) [it] it (fun i h => IsRangeIter h it (lo + (i : Nat) * 1) ((n : Int) - (i : Nat)) 1) where
  mem := by simp
  obj := fun i h st b hb => by
    have e : b = it := by simpa using hb
    subst e
    exact ⟨_, st, fun v z => by
      have z' : Data.fields _ = Data.cell v := z
      cases z'⟩
  keep := fun i h h' st k => k it (by simp) _ st
  item := by
    intro X hP hw hK hc i pins s σ H E I hf st hg
    subst hP hw hK
    obtain ⟨f0, f1, f2, f3, f4, f5⟩ := hf it (by simp)
    have W := Walks.range (prog := X.prog) (w := X.w) (I.ok.hd hc) it lo 1 n
    refine W.item i s _ _ hg st fun v h' tk hv st' kk => ?_
    obtain ⟨t, rfl⟩ := hv
    have I1 : Inv X pins σ H { s with heap := h', toks := tk } := I.turned (fun b o hb e => kk b o (by simpa using hb) e) f0 f1 f3 f4 f5
    refine ⟨_, rfl, go_of (s := { s with heap := h', toks := tk }) (n := "range_iterator") st' rfl rfl (by decide) ⟨.int (lo + i), H, I1, ⟨t, ?_⟩, ⟨rfl, rfl⟩, st', fun b hb => (hf b hb).1⟩⟩
    rw [Int.mul_one]
  done := by
    intro X hP hw hK hc i pins s σ H E I hf st hg
    subst hP hw hK
    obtain ⟨f0, f1, f2, f3, f4, f5⟩ := hf it (by simp)
    exact wpAny_pyNext_range_end (I.ok.hd hc) st (by have : n ≤ i := hg; omega) fun h' eb => ⟨rfl, I.turned (t' := s.toks) (fun b o hb e => eb b o hb e) f0 f1 f3 f4 f5⟩
  self := fun _ _ _ _ _ st h => wpAny_pyIter_rangeiter st h
end L2
namespace L2
open PySem PySem.Spec PyProof.Rows
section
variable {X : Cx} {tg : Expr}
def iList (K : PySem.W.Frag) (tl : TE) : TI := fun σ H R => tl σ H fun x H1 => ∃ a, x = .ref a ∧ (∃ xs, SqL K H1 a xs) ∧ R (Itl K a) H1
theorem pi_list {l : Expr} {tl : TE} (hl : PE X l tl) : PI X tg l (iList X.K tl) := by
  intro pins s σ H R I h
  refine thn (hl pins s σ H _ I h) fun v s1 ⟨x, H1, I1, r1, q1⟩ => ?_
  obtain ⟨a, e, ⟨xs, hq⟩, q⟩ := q1
  subst e
  cases r1
  obtain ⟨its, rv, p, hz⟩ := I1.list hq
  refine wpAny_pyIter_list p.isList ?_
  refine ⟨s1.heap.objs.size, [s1.heap.objs.size], _, _, H1, rfl, I1.kept (t' := s1.toks) fun b o e => Heap.get?_push_of_some _ e, turn_list a _, ⟨_, Heap.get?_push_size _ rfl, rfl, rfl⟩, fun b hb => ?_, q⟩
  have e : b = s1.heap.objs.size := by simpa using hb
  subst e
  exact I1.fpOk (Nat.le_refl _) (I1.hok.fresh (Nat.le_refl _))
theorem range_it {pins : List (Addr × Obj)} {σ : St} {H : Hp} {s : Shared} {R : It → Hp → Prop} {E : Value → Shared → Prop} {lo hi : Int} {t u v : Tok} {tk : Nat} (I : Inv X pins σ H s) (h1 : -(2 ^ 62) ≤ lo) (h2 : lo < 2 ^ 62) (h3 : -(2 ^ 62) ≤ hi) (h4 : hi < 2 ^ 62)
    (q : R (Itr lo (hi - lo).toNat) H) : wpAny (model X.prog X.w) X.A (pyIter (.ref s.heap.objs.size)) (PIE X pins σ tg R) E { s with heap := s.heap.push { cls := .type "range", data := .fields #[.int lo t, .int hi u, .int 1 v] }, toks := tk } := by
  refine wpAny_pyIter_range (IsRange.new ..) (small_one h1 h2 h3 h4) ?_
  have I1 : Inv X pins σ H { s with heap := s.heap.push { cls := .type "range", data := .fields #[.int lo t, .int hi u, .int 1 v] }, toks := tk } := I.kept fun b o e => Heap.get?_push_of_some _ e
  refine ⟨(s.heap.push { cls := .type "range", data := .fields #[.int lo t, .int hi u, .int 1 v] }).objs.size, [(s.heap.push { cls := .type "range", data := .fields #[.int lo t, .int hi u, .int 1 v] }).objs.size], _, _, H, rfl,
    I1.kept (t' := tk) fun b o e => Heap.get?_push_of_some _ e, turn_range _ lo (hi - lo).toNat, ?_, fun b hb => ?_, q⟩
  · have e1 : lo + ((0 : Nat) : Int) * 1 = lo := by simp
    have e2 : (((hi - lo).toNat : Nat) : Int) - ((0 : Nat) : Int) = Builtin.Range.rangeSize lo hi 1 := by rw [rangeSize_one]; split <;> omega
    show IsRangeIter _ _ (lo + ((0 : Nat) : Int) * 1) ((((hi - lo).toNat : Nat) : Int) - ((0 : Nat) : Int)) 1
    rw [e1, e2]
    exact Heap.get?_push_size _ rfl
  · have e : b = (s.heap.push { cls := .type "range", data := .fields #[.int lo t, .int hi u, .int 1 v] }).objs.size := by simpa using hb
    subst e
    exact I1.fpOk (Nat.le_refl _) (I1.hok.fresh (Nat.le_refl _))
def iRng1 (ta : TA) : TI := fun σ H R => ta σ H fun vs H1 => ∃ j : Int, vs = [.int j] ∧ -(2 ^ 62) ≤ j ∧ j < 2 ^ 62 ∧ R (Itr 0 j.toNat) H1
def iRng2 (ta : TA) : TI := fun σ H R => ta σ H fun vs H1 => ∃ i j : Int, vs = [.int i, .int j] ∧ (-(2 ^ 62) ≤ i ∧ i < 2 ^ 62 ∧ -(2 ^ 62) ≤ j ∧ j < 2 ^ 62) ∧ R (Itr i (j - i).toNat) H1
theorem pi_range1 {a : Expr} {ta : TA} {p pos : Pos} (hg : Gl X "range") (hm : X.mg "range" = none) (ha : PA X [a] ta) (hs : starEach [a] X.env = [(false, eval a X.env)] := by rfl) : PI X tg (.Call (.Name "range" p) [a] [] pos) (iRng1 ta) := by
  intro pins s σ H R I h
  refine Call_ (ld_blt I hg hm boot_range (PyProof.Rows.callWith_type1 (thn (ha pos pins s σ H _ I h) fun us s1 ⟨vs, H1, I1, r1, q1⟩ => ?_) hs rfl))
  obtain ⟨j, e, q1, q2, q⟩ := q1
  subst e
  cases r1 with
  | cons r rr =>
    cases rr
    obtain ⟨t, rfl⟩ := r
    exact call_range_1 (range_it I1 (by omega) (by omega) q1 q2 (by simpa using q))
theorem pi_range2 {a b : Expr} {ta : TA} {p pos : Pos} (hg : Gl X "range") (hm : X.mg "range" = none) (ha : PA X [a, b] ta) (hs : starEach [a, b] X.env = [(false, eval a X.env), (false, eval b X.env)] := by rfl) (hs2 : starEach [b] X.env = [(false, eval b X.env)] := by rfl) :
    PI X tg (.Call (.Name "range" p) [a, b] [] pos) (iRng2 ta) := by
  intro pins s σ H R I h
  refine Call_ (ld_blt I hg hm boot_range (PyProof.Rows.callWith_type1 (thn (ha pos pins s σ H _ I h) fun us s1 ⟨vs, H1, I1, r1, q1⟩ => ?_) (by rw [hs, hs2]) (by rw [hs2]; rfl)))
  obtain ⟨i, j, e, ⟨q1, q2, q3, q4⟩, q⟩ := q1
  subst e
  cases r1 with
  | cons r rr =>
    cases rr with
    | cons r' rr =>
      cases rr
      obtain ⟨t, rfl⟩ := r
      obtain ⟨t', rfl⟩ := r'
      exact call_range_2 (range_it I1 q1 q2 q3 q4 q)
def tFor (wi : TI) (g : TG) (tb : TS) : TS := fun D σ H => wi σ H fun J H1 => ∃ W : Nat → Nat → St → Hp → Prop, (∃ m, W 0 m σ H1) ∧ ∀ i m σ H, W i m σ H →
  (J.stop i H ∧ D.nx σ H) ∨ (J.go i H ∧ ∃ N : St → Hp → Prop, (∀ σ' H', N σ' H' → ∃ m', m' < m ∧ W (i + 1) m' σ' H') ∧ ∀ x H', J.yld i H x H' → g x σ H' fun σ2 H2 => tb { D with nx := N, ct := N, bk := D.nx } σ2 H2)
def pinsAt (fp : List Addr) (h : Heap) : List (Addr × Obj) := fp.filterMap fun b => (h.get? b).map fun o => (b, o)
theorem mem_pinsAt {fp : List Addr} {h : Heap} {b : Addr} {o : Obj} (hb : b ∈ fp) (e : h.get? b = some o) : (b, o) ∈ pinsAt fp h := List.mem_filterMap.mpr ⟨b, hb, by rw [e]; rfl⟩
theorem of_pinsAt {fp : List Addr} {h : Heap} {p : Addr × Obj} (hp : p ∈ pinsAt fp h) : p.1 ∈ fp ∧ h.get? p.1 = some p.2 := by
  obtain ⟨b, hb, e⟩ := List.mem_filterMap.mp hp
  cases q : h.get? b with
  | none => rw [q] at e; cases e
  | some o =>
    rw [q] at e
    have e' : (b, o) = p := Option.some.inj e
    subst e'
    exact ⟨hb, q⟩
theorem Inv.pinned {pins : List (Addr × Obj)} {σ : St} {H : Hp} {s : Shared} {fp : List Addr} (I : Inv X pins σ H s) (hf : ∀ b ∈ fp, FpOk X pins H b) (ho : ∀ b ∈ fp, ∃ o, s.heap.get? b = some o ∧ ∀ v, o.data ≠ .cell v) : Inv X (pins ++ pinsAt fp s.heap) σ H s :=
  I.pins_of fun p hp => (List.mem_append.mp hp).elim (fun z => I.pin p (List.mem_append_right _ z)) fun z => by
    obtain ⟨hb, e⟩ := of_pinsAt z
    obtain ⟨f0, f1, f2, _⟩ := hf p.1 hb
    obtain ⟨o, e', d⟩ := ho p.1 hb
    rw [e] at e'; cases e'
    exact ⟨e, f0, f1, f2, d⟩
theorem Inv.unpinned {pins pl : List (Addr × Obj)} {σ : St} {H : Hp} {s : Shared} (I : Inv X (pins ++ pl) σ H s) : Inv X pins σ H s := I.pins_of fun p hp => I.pin p (List.mem_append_right _ (List.mem_append_left _ hp))
theorem ps_for {iter : Expr} {body : List Stmt} {wi : TI} {g : TG} {tb : TS} {pos : Pos} (hp : PassesOwn (model X.prog X.w) X.A X.env X.xe) (hc : X.calm = true) (hi : PI X tg iter wi) (hg : PG X tg g) (hb : PSs X body tb)
    (hs : ∀ x, foldedSetIterable iter X.env x = pure x := by intro _; rfl) : PS X (.For tg iter body [] pos) (tFor wi g tb) := by
  intro pins s σ H D I h
  refine wpAny_For (thn (hi pins s σ H _ I h) fun v s1 h1 => thn h1 fun itv s2 h2 => ?_) hs
  obtain ⟨it, fp, tn, J, H2, e, I2, T, st2, f2, W, ⟨m0, w0⟩, turn⟩ := h2
  subst e
  -- what stays true of the iterator's objects through the loop
  have stat : ∀ {H' : Hp}, (∀ b ∈ fp, H' b = none) → ∀ b ∈ fp, FpOk X pins H' b := fun hn b hb => ⟨hn b hb, (f2 b hb).2⟩
  refine codeAny_forLoop_any (fun n s' => ∃ i σ' H', Inv X pins σ' H' s' ∧ tn i s'.heap ∧ (∀ b ∈ fp, H' b = none) ∧ W i n σ' H') ?_ m0 ⟨0, σ, H2, I2, st2, fun b hb => (f2 b hb).1, w0⟩
  rintro n s3 ⟨i, σ3, H3, I3, st3, fr3, w3⟩
  rcases turn i n σ3 H3 w3 with ⟨stop, qn⟩ | ⟨go, N, hN, step⟩
  · refine wpAny_passesOwn hp (thn (T.done X rfl rfl rfl hc i pins s3 σ3 H3 X.xe I3 (stat fr3) st3 stop) fun r s4 ⟨hr, I4⟩ => ?_)
    subst hr
    exact wpAny_execs_nil ⟨σ3, H3, I4, qn⟩
  · refine wpAny_passesOwn hp (thn (T.item X rfl rfl rfl hc i pins s3 σ3 H3 X.xe I3 (stat fr3) st3 go) fun r s4 ⟨u, hr, h4⟩ => ?_)
    subst hr
    refine wpAny_passesOwn hp (thn h4 fun _ s5 ⟨x, H5, I5, r5, y5, st5, fr5⟩ => ?_)
    have I5' := I5.pinned (stat fr5) (T.obj _ _ st5)
    refine wpAny_passesOwn hp (thn (hg _ s5 σ3 H5 x u _ I5' r5 (step x H5 y5)) fun _ s6 ⟨σ6, H6, I6, q6⟩ => ?_)
    refine wpAny_passesOwn hp (thn (hb _ s6 σ6 H6 _ I6 q6) fun f s7 q7 => ?_)
    have again : ∀ {σ7 : St} {H7 : Hp}, Inv X (pins ++ pinsAt fp s5.heap) σ7 H7 s7 → N σ7 H7 → ∃ m, m < n ∧ ∃ i σ' H', Inv X pins σ' H' s7 ∧ tn i s7.heap ∧ (∀ b ∈ fp, H' b = none) ∧ W i m σ' H' := fun {σ7 H7} I7 n7 => by
      obtain ⟨m', hm, w7⟩ := hN σ7 H7 n7
      refine ⟨m', hm, i + 1, σ7, H7, I7.unpinned, T.keep _ _ _ st5 fun b hb o e => (I7.pin (b, o) (List.mem_append_right _ (List.mem_append_right _ (mem_pinsAt hb e)))).1, fun b hb => ?_, w7⟩
      obtain ⟨o, e, d⟩ := T.obj _ _ st5 b hb
      exact (I7.pin (b, o) (List.mem_append_right _ (List.mem_append_right _ (mem_pinsAt hb e)))).2.1
    cases f with
    | next => obtain ⟨σ7, H7, I7, n7⟩ := q7; exact again I7 n7
    | cont => obtain ⟨σ7, H7, I7, n7⟩ := q7; exact again I7 n7
    | brk => obtain ⟨σ7, H7, I7, q7⟩ := q7; exact ⟨σ7, H7, I7.unpinned, q7⟩
    | ret v => obtain ⟨x7, σ7, H7, I7, r7, q7⟩ := q7; exact ⟨x7, σ7, H7, I7.unpinned, r7, q7⟩
end
theorem for_list {K : PySem.W.Frag} {a : Addr} {xs : List V} {g : TG} {tb : TS} {D : Ends} {σ : St} {H : Hp} (Pv : Nat → St → Hp → Prop) (h0 : Pv 0 σ H) (hl : ∀ i σ H, i ≤ xs.length → Pv i σ H → SqL K H a xs)
    (hs : ∀ i x σ H, xs[i]? = some x → Pv i σ H → g x σ H fun σ2 H2 => tb { D with nx := Pv (i + 1), ct := Pv (i + 1), bk := D.nx } σ2 H2) (hd : ∀ σ H, Pv xs.length σ H → D.nx σ H) :
    ∃ W : Nat → Nat → St → Hp → Prop, (∃ m, W 0 m σ H) ∧ ∀ i m σ H, W i m σ H →
      ((Itl K a).stop i H ∧ D.nx σ H) ∨ ((Itl K a).go i H ∧ ∃ N : St → Hp → Prop, (∀ σ' H', N σ' H' → ∃ m', m' < m ∧ W (i + 1) m' σ' H') ∧ ∀ x H', (Itl K a).yld i H x H' → g x σ H' fun σ2 H2 => tb { D with nx := N, ct := N, bk := D.nx } σ2 H2) := by
  refine ⟨fun i m σ H => m = xs.length - i ∧ i ≤ xs.length ∧ Pv i σ H, ⟨xs.length, by simp, Nat.zero_le _, h0⟩, ?_⟩
  rintro i m σ H ⟨rfl, hi, p⟩
  have q := hl i σ H hi p
  by_cases hlt : i < xs.length
  · refine .inr ⟨⟨xs, xs[i], q, by simp [hlt]⟩, Pv (i + 1), fun σ' H' p' => ⟨xs.length - (i + 1), by omega, rfl, hlt, p'⟩, fun x H' y => ?_⟩
    obtain ⟨e, y⟩ := y
    subst e
    exact hs i x σ _ (y xs q) p
  · have e : i = xs.length := by omega
    subst e
    exact .inl ⟨⟨xs, q, Nat.le_refl _⟩, hd σ H p⟩
theorem for_range {lo : Int} {n : Nat} {g : TG} {tb : TS} {D : Ends} {σ : St} {H : Hp} (Pv : Nat → St → Hp → Prop) (h0 : Pv 0 σ H)
    (hs : ∀ i σ H, i < n → Pv i σ H → g (.int (lo + i)) σ H fun σ2 H2 => tb { D with nx := Pv (i + 1), ct := Pv (i + 1), bk := D.nx } σ2 H2) (hd : ∀ σ H, Pv n σ H → D.nx σ H) :
    ∃ W : Nat → Nat → St → Hp → Prop, (∃ m, W 0 m σ H) ∧ ∀ i m σ H, W i m σ H →
      ((Itr lo n).stop i H ∧ D.nx σ H) ∨ ((Itr lo n).go i H ∧ ∃ N : St → Hp → Prop, (∀ σ' H', N σ' H' → ∃ m', m' < m ∧ W (i + 1) m' σ' H') ∧ ∀ x H', (Itr lo n).yld i H x H' → g x σ H' fun σ2 H2 => tb { D with nx := N, ct := N, bk := D.nx } σ2 H2) := by
  refine ⟨fun i m σ H => m = n - i ∧ i ≤ n ∧ Pv i σ H, ⟨n, by simp, Nat.zero_le _, h0⟩, ?_⟩
  rintro i m σ H ⟨rfl, hi, p⟩
  by_cases hlt : i < n
  · refine .inr ⟨hlt, Pv (i + 1), fun σ' H' p' => ⟨n - (i + 1), by omega, rfl, hlt, p'⟩, fun x H' y => ?_⟩
    obtain ⟨e, y⟩ := y
    subst e y
    exact hs i σ _ hlt p
  · have e : i = n := by omega
    subst e
    exact .inl ⟨Nat.le_refl _, hd σ H p⟩
end L2
namespace L2
open PySem PySem.Spec PyProof.Rows
abbrev R2 := V → V → Hp → VK → Prop
def OpR (X : Cx) (f : Value → Value → Sem Value) (r : R2) : Prop :=
  ∀ (pins : List (Addr × Obj)) (s : Shared) (σ : St) (H : Hp) (x y : V) (v u : Value) (Q : VK), Inv X pins σ H s → RelV x v → RelV y u → r x y H Q →
    wpAny (model X.prog X.w) X.A (f v u) (EP X pins σ Q) X.xe s
def UnR (X : Cx) (f : Value → Sem Value) (r : V → Hp → VK → Prop) : Prop :=
  ∀ (pins : List (Addr × Obj)) (s : Shared) (σ : St) (H : Hp) (x : V) (v : Value) (Q : VK), Inv X pins σ H s → RelV x v → r x H Q →
    wpAny (model X.prog X.w) X.A (f v) (EP X pins σ Q) X.xe s
def CallR (X : Cx) (f : Value) (r : List V → Hp → VK → Prop) : Prop :=
  ∀ (pins : List (Addr × Obj)) (s : Shared) (σ : St) (H : Hp) (xs : List V) (us : List Value) (Q : VK), Inv X pins σ H s → Vals xs us → r xs H Q →
    wpAny (model X.prog X.w) X.A (call f us) (EP X pins σ Q) X.xe s
def tOp (r : R2) (ta tb : TE) : TE := fun σ H Q => ta σ H fun x H1 => tb σ H1 fun y H2 => r x y H2 Q
def tUn (r : V → Hp → VK → Prop) (ta : TE) : TE := fun σ H Q => ta σ H fun x H1 => r x H1 Q
def rI (C : Int → Int → Prop) (g : Int → Int → V) : R2 := fun x y H Q => ∃ i j, x = .int i ∧ y = .int j ∧ C i j ∧ Q (g i j) H
def rI0 (g : Int → Int → V) : R2 := fun x y H Q => ∃ i j, x = .int i ∧ y = .int j ∧ Q (g i j) H
def rU (g : Int → V) : V → Hp → VK → Prop := fun x H Q => ∃ i, x = .int i ∧ Q (g i) H
section
variable {X : Cx} {a b c : Expr} {ta tb tc : TE} {pos : Pos}
theorem binT (ha : PE X a ta) (hb : PE X b tb) {pins : List (Addr × Obj)} {s : Shared} {σ : St} {H : Hp} {R : V → V → Hp → Prop} (I : Inv X pins σ H s)
    (h : ta σ H fun x H1 => tb σ H1 fun y H2 => R x y H2) {Q : Value → Shared → Prop} {f : Value → Value → Sem Value}
    (hf : ∀ v u s2 x y H2, Inv X pins σ H2 s2 → RelV x v → RelV y u → R x y H2 → wpAny (model X.prog X.w) X.A (f v u) Q X.xe s2) :
    wpAny (model X.prog X.w) X.A (eval a X.env) (fun v s₁ => wpAny (model X.prog X.w) X.A (eval b X.env) (fun u s₂ => wpAny (model X.prog X.w) X.A (f v u) Q X.xe s₂) X.xe s₁) X.xe s := by
  refine thn (ha pins s σ H _ I h) fun v s1 ⟨x, H1, I1, r1, q1⟩ => ?_
  refine thn (hb pins s1 σ H1 _ I1 q1) fun u s2 ⟨y, H2, I2, r2, q2⟩ => ?_
  exact hf v u s2 x y H2 I2 r1 r2 q2
theorem pe_op {op : Operator} {r : R2} (ho : OpR X (binaryOp op) r) (ha : PE X a ta) (hb : PE X b tb) : PE X (.BinOp a op b pos) (tOp r ta tb) := by
  intro pins s σ H Q I h
  exact wpAny_BinOp (binT ha hb I h fun v u s2 x y H2 I2 rx ry q => ho pins s2 σ H2 x y v u Q I2 rx ry q)
theorem pe_un {op : UnaryOp} {r : V → Hp → VK → Prop} (ho : UnR X (unaryOp op) r) (ha : PE X a ta) : PE X (.UnaryOp op a pos) (tUn r ta) := by
  intro pins s σ H Q I h
  exact UnaryOp_ (thn (ha pins s σ H _ I h) fun v s1 ⟨x, H1, I1, r1, q1⟩ => ho pins s1 σ H1 x v Q I1 r1 q1)
theorem opI {f : Value → Value → Sem Value} {C : Int → Int → Prop} {g : Int → Int → Int}
    (rule : ∀ (i j : Int) (t u : Tok) (s : Shared) (Q : Value → Shared → Prop) (E : Value → Shared → Prop), C i j → Q (.int (g i j) s.toks) { s with toks := s.toks + 1 } → wpAny (model X.prog X.w) X.A (f (.int i t) (.int j u)) Q E s) :
    OpR X f (rI C fun i j => .int (g i j)) := by
  intro pins s σ H x y v u Q I rx ry h
  obtain ⟨i, j, rfl, rfl, hc, q⟩ := h
  obtain ⟨t, rfl⟩ := rx
  obtain ⟨t', rfl⟩ := ry
  exact rule i j t t' s _ _ hc ⟨.int (g i j), H, I.tok _, ⟨_, rfl⟩, q⟩
theorem opB0 {f : Value → Value → Sem Value} {g : Int → Int → Bool}
    (rule : ∀ (i j : Int) (t u : Tok) (s : Shared) (Q : Value → Shared → Prop) (E : Value → Shared → Prop), Q (.bool (g i j)) s → wpAny (model X.prog X.w) X.A (f (.int i t) (.int j u)) Q E s) :
    OpR X f (rI0 fun i j => .bl (g i j)) := by
  intro pins s σ H x y v u Q I rx ry h
  obtain ⟨i, j, rfl, rfl, q⟩ := h
  obtain ⟨t, rfl⟩ := rx
  obtain ⟨t', rfl⟩ := ry
  exact rule i j t t' s _ _ ⟨.bl (g i j), H, I, rfl, q⟩
def CDiv (i j : Int) : Prop := 0 < j ∧ j < 1073741824
def CMul (i j : Int) : Prop := (-(2 ^ 64) < i ∧ i < 2 ^ 64) ∨ (-(2 ^ 64) < j ∧ j < 2 ^ 64)
theorem CMul.ok {i j : Int} (h : CMul i j) : IntMulOk i j := by
  rcases h with ⟨h1, h2⟩ | ⟨h1, h2⟩
  · exact .of_left (intBits_le_64 h1 h2)
  · exact .of_right (intBits_le_64 h1 h2)
theorem op_mul : OpR X (binaryOp .Mult) (rI CMul fun i j => .int (i * j)) := opI fun _ _ _ _ _ _ _ hc q => mul_int q hc.ok
theorem op_fdiv : OpR X (binaryOp .FloorDiv) (rI CDiv fun i j => .int (i / j)) := opI fun i j _ _ _ _ _ hc q => by
  have h1 : (0 : Int) < j := hc.1
  have h2 : j < 1073741824 := hc.2
  exact floordiv_int (by omega) (by rw [Int.fdiv_eq_ediv_of_nonneg i (by omega)]; exact q) (.inl (PyProof.noPylong_small (by omega)))
theorem op_mod : OpR X (binaryOp .Mod) (rI (fun _ j => 0 < j) fun i j => .int (i % j)) := opI fun i j _ _ _ _ _ hc q => by
  have h1 : (0 : Int) < j := hc
  exact mod_int' (by omega) (by rw [Int.fmod_eq_emod_of_nonneg i (by omega)]; exact q)
theorem unI {f : Value → Sem Value} {g : Int → Int}
    (rule : ∀ (i : Int) (t : Tok) (s : Shared) (Q : Value → Shared → Prop) (E : Value → Shared → Prop), Q (.int (g i) s.toks) { s with toks := s.toks + 1 } → wpAny (model X.prog X.w) X.A (f (.int i t)) Q E s) :
    UnR X f (rU fun i => .int (g i)) := by
  intro pins s σ H x v Q I rx h
  obtain ⟨i, rfl, q⟩ := h
  obtain ⟨t, rfl⟩ := rx
  exact rule i t s _ _ ⟨.int (g i), H, I.tok _, ⟨_, rfl⟩, q⟩
theorem un_neg : UnR X (unaryOp .USub) (rU fun i => .int (-i)) := unI fun _ _ _ _ _ q => neg_int q
end
section
variable {X : Cx} {a b c : Expr} {ta tb tc : TE} {pos : Pos}
theorem op_lt : OpR X (compareOp .Lt) (rI0 fun i j => .bl (decide (i < j))) := opB0 fun _ _ _ _ _ _ _ q => lt_int q
theorem op_le : OpR X (compareOp .LtE) (rI0 fun i j => .bl (decide (i ≤ j))) := opB0 fun _ _ _ _ _ _ _ q => le_int q
theorem pe_cmpR {op : CmpOp} {r : R2} (ho : OpR X (compareOp op) r) (ha : PE X a ta) (hb : PE X b tb) (hm : behindInMarks op b = false) : PE X (.Compare a [op] [b] pos) (tOp r ta tb) := by
  intro pins s σ H Q I h
  exact wpAny_Compare1 (binT ha hb I h fun v u s2 x y H2 I2 rx ry q => ho pins s2 σ H2 x y v u Q I2 rx ry q) hm
def tTest (t : TE) : TT := fun σ H Q => t σ H fun x H' => ∃ k, x = .bl k ∧ Q k H'
theorem pt_cmpR {op : CmpOp} {r : R2} (ho : OpR X (compareOp op) r) (ha : PE X a ta) (hb : PE X b tb) (hm : behindInMarks op b = false) : PT X (.Compare a [op] [b] pos) (tTest (tOp r ta tb)) := by
  intro pins s σ H Q I h
  refine wpAny_isTrue_Compare1 (thn (ha pins s σ H _ I h) fun v s1 ⟨x, H1, I1, r1, q1⟩ => thn (hb pins s1 σ H1 _ I1 q1) fun u s2 ⟨y, H2, I2, r2, q2⟩ =>
    thn (ho pins s2 σ H2 x y v u _ I2 r1 r2 q2) fun c s3 ⟨z, H3, I3, r3, k, e, q3⟩ => ?_) hm
  subst e
  cases r3
  exact wpAny_truthy_bool ⟨H3, I3, q3⟩
def tChain (r r' : R2) (ta tb tc : TE) : TE := fun σ H Q => ta σ H fun x H1 => tb σ H1 fun y H2 => r x y H2 fun z H3 => ∃ k, z = .bl k ∧
  (if k = true then tc σ H3 fun w' H4 => r' y w' H4 Q else Q (.bl false) H3)
theorem pe_chain {op op' : CmpOp} {r r' : R2} (ho : OpR X (compareOp op) r) (ho' : OpR X (compareOp op') r') (ha : PE X a ta) (hb : PE X b tb) (hc : PE X c tc)
    (hm : lastMarks [op, op'] [b, c] = false := by with_unfolding_all rfl) : PE X (.Compare a [op, op'] [b, c] pos) (tChain r r' ta tb tc) := by
  intro pins s σ H Q I h
  refine Compare_chain (thn (ha pins s σ H _ I h) fun v s1 ⟨x, H1, I1, r1, q1⟩ => chain_link (thn (hb pins s1 σ H1 _ I1 q1) fun u s2 ⟨y, H2, I2, r2, q2⟩ =>
    thn (ho pins s2 σ H2 x y v u _ I2 r1 r2 q2) fun d s3 ⟨z, H3, I3, r3, k, e, q3⟩ => ?_)) hm
  subst e
  cases r3
  refine wpAny_truthy_bool ?_
  cases k with
  | false => exact ite_ff ⟨.bl false, H3, I3, rfl, q3⟩
  | true => exact ite_tt (chain_last (thn (hc pins s3 σ H3 _ I3 q3) fun w' s4 ⟨z', H4, I4, r4, q4⟩ => ho' pins s4 σ H4 y z' u w' Q I4 r2 r4 q4))
theorem pt_chain {op op' : CmpOp} {r r' : R2} (ho : OpR X (compareOp op) r) (ho' : OpR X (compareOp op') r') (ha : PE X a ta) (hb : PE X b tb) (hc : PE X c tc)
    (hm : lastMarks [op, op'] [b, c] = false := by with_unfolding_all rfl) : PT X (.Compare a [op, op'] [b, c] pos) (tTest (tChain r r' ta tb tc)) := by
  intro pins s σ H Q I h
  refine isTrue_chain (thn (ha pins s σ H _ I h) fun v s1 ⟨x, H1, I1, r1, q1⟩ => test_link (thn (hb pins s1 σ H1 _ I1 q1) fun u s2 ⟨y, H2, I2, r2, q2⟩ =>
    thn (ho pins s2 σ H2 x y v u _ I2 r1 r2 q2) fun d s3 ⟨z, H3, I3, r3, k, e, q3⟩ => ?_)) hm
  subst e
  cases r3
  refine wpAny_truthy_bool ?_
  cases k with
  | false =>
    obtain ⟨k', e', q'⟩ := q3
    cases e'
    exact ite_ff ⟨H3, I3, q'⟩
  | true =>
    refine ite_tt (test_last (thn (hc pins s3 σ H3 _ I3 q3) fun w' s4 ⟨z', H4, I4, r4, q4⟩ => thn (ho' pins s4 σ H4 y z' u w' _ I4 r2 r4 q4) fun d' s5 ⟨z2, H5, I5, r5, k2, e2, q5⟩ => ?_))
    subst e2
    cases r5
    exact wpAny_truthy_bool ⟨H5, I5, q5⟩
theorem line63 : (sizeLine : Nat) < 2 ^ 63 := by rw [sizeLine_eq]; decide
theorem vals1 {x : V} {us : List Value} (r : Vals [x] us) : ∃ u, us = [u] ∧ RelV x u := by
  cases r with
  | cons r1 r2 => cases r2; exact ⟨_, rfl, r1⟩
theorem vals2 {x y : V} {us : List Value} (r : Vals [x, y] us) : ∃ u w', us = [u, w'] ∧ RelV x u ∧ RelV y w' := by
  cases r with
  | cons r1 r2 =>
    cases r2 with
    | cons r3 r4 => cases r4; exact ⟨_, _, rfl, r1, r3⟩
theorem call_abs : CallR X (.builtin "abs") (fun xs H Q => ∃ i, xs = [.int i] ∧ Q (.int (if i < 0 then -i else i)) H) := by
  intro pins s σ H xs us Q I r h
  obtain ⟨i, rfl, q⟩ := h
  obtain ⟨u, rfl, t, rfl⟩ := vals1 r
  exact call_abs_int fun u tk => ⟨.int (if i < 0 then -i else i), H, I.tok _, ⟨_, rfl⟩, q⟩
theorem call_max2 (hc : X.calm = true) : CallR X (.builtin "max") (fun xs H Q => ∃ i j, xs = [.int i, .int j] ∧ Q (.int (if j > i then j else i)) H) := by
  intro pins s σ H xs us Q I r h
  obtain ⟨i, j, rfl, q⟩ := h
  obtain ⟨u, w', rfl, ⟨t, rfl⟩, ⟨t', rfl⟩⟩ := vals2 r
  refine max_two_ints (I.ok.hd hc) fun h' tk k => ⟨_, H, I.kept k, ?_, q⟩
  by_cases hj : j > i
  · rw [if_pos hj, if_pos hj]; exact ⟨_, rfl⟩
  · rw [if_neg hj, if_neg hj]; exact ⟨_, rfl⟩
theorem call_min2 (hc : X.calm = true) : CallR X (.builtin "min") (fun xs H Q => ∃ i j, xs = [.int i, .int j] ∧ Q (.int (if j < i then j else i)) H) := by
  intro pins s σ H xs us Q I r h
  obtain ⟨i, j, rfl, q⟩ := h
  obtain ⟨u, w', rfl, ⟨t, rfl⟩, ⟨t', rfl⟩⟩ := vals2 r
  refine min_two_ints (I.ok.hd hc) fun h' tk k => ⟨_, H, I.kept k, ?_, q⟩
  by_cases hj : j < i
  · rw [if_pos hj, if_pos hj]; exact ⟨_, rfl⟩
  · rw [if_neg hj, if_neg hj]; exact ⟨_, rfl⟩
end
end L2
namespace L2
open PySem PySem.Spec PyProof.Rows
structure ObjM (h : Heap) (x dx C : Addr) (mA : Str → Option Value) : Prop where
  obj : h.get? x = some (PySem.W.instObj C dx)
  ns : h.Ns1 dx mA
  ne : dx ≠ x
theorem lookIn_ns {h : Heap} {dx : Addr} {mA : Str → Option Value} (n : h.Ns1 dx mA) : ∃ od, h.get? dx = some od ∧ ∀ name, PySem.W.lookIn name od = some (mA name) := by
  obtain ⟨o, es, ep, ho, hd, hk, _, hm⟩ := n
  refine ⟨o, ho, fun name => ?_⟩
  have e := hm name
  unfold nsFind findBy at e
  rw [← Array.find?_toList] at e
  unfold PySem.W.lookIn
  rw [hd]
  dsimp only
  split
  · rename_i y q
    rw [q] at e
    exact congrArg some e
  · rename_i q
    rw [q] at e
    have a : es.toList.any (·.refKey) = false := by
      rw [List.any_eq_false]
      intro y hy
      obtain ⟨z, t, hkey⟩ := hk y (Array.mem_toList_iff.mp hy)
      simp [DictEntry.refKey, hkey]
    have a' : ¬ es.toList.any (·.refKey) = true := by rw [a]; exact Bool.false_ne_true
    rw [if_neg a']
    exact congrArg some e
theorem ObjM.look {h : Heap} {x dx C : Addr} {mA : Str → Option Value} (I : ObjM h x dx C mA) : ∃ od, PySem.W.InstAt h x (PySem.W.instObj C dx) C (some od) ∧ ∀ name, PySem.W.lookIn name od = some (mA name) :=
  let ⟨od, ho, hl⟩ := lookIn_ns I.ns
  ⟨od, ⟨I.obj, rfl, rfl, ho⟩, hl⟩
section
variable {prog : Program} {w : World} {A : Around} {E : Value → Shared → Prop} {s : Shared} {K : PySem.W.Frag} {x dx C f : Addr} {mA : Str → Option Value} {name : Str} {v : Value}
theorem get_map {expr : Bool} {Q : Value → Shared → Prop} (X : K.In s.heap) (I : ObjM s.heap x dx C mA) (hg : PySem.W.plainGet K C name = true) (hh : PySem.W.hasDictIn K C = true)
    (ha : PySem.W.findIn K (.ref C) name = some none) (hv : mA name = some v) (hv' : PySem.W.handedIn v = true) (h : Q v { s with toks := s.toks + 1 }) :
    wpAny (model prog w) A (getAttr (.ref x) name expr) Q E s := by
  obtain ⟨od, J, hl⟩ := I.look
  exact PySem.W.get_value X J (PySem.W.plainGet_of hg).1 (PySem.W.findObj_own hh ha rfl (by rw [hl, hv])) hv' h
theorem get_meth {pl : Sem Bool} {Q : Value × List Value → Shared → Prop} (X : K.In s.heap) (I : ObjM s.heap x dx C mA) (hg : PySem.W.plainGet K C name = true)
    (hf : PySem.W.findIn K (.ref C) name = some (some (.ref f))) (ht : PySem.W.isFn K (.ref f) = true) (hv : mA name = none) (h : Q (.ref f, [.ref x]) s) :
    wpAny (model prog w) A (getMethod (.ref x) name pl) Q E s := by
  obtain ⟨od, J, hl⟩ := I.look
  exact PySem.W.method_fn X J (PySem.W.plainGet_of hg).1 (PySem.W.plainGet_of hg).2 hf (beq_iff_eq.mp ht) (by show (PySem.W.lookIn name od).map (·.isSome) = some false; rw [hl, hv]; rfl) h
theorem set_map {ns : List Str} {Q : Unit → Shared → Prop} (X : K.In s.heap) (I : ObjM s.heap x dx C mA)
    (hs : PySem.W.findIn K (.ref C) "__setattr__" = some (some (.builtin "object.__setattr__"))) (hp : PySem.W.plainOver K C = true) (ht : PySem.W.takerIn K C name = some none) (hh : PySem.W.hasDictIn K C = true)
    (hw : PySem.Within mA ns) (hsz : ns.length ≤ sizeLine)
    (h : ∀ h', ObjM h' x dx C (fun y => if y = name then some v else mA y) → Heap.SameBut dx s.heap h' → Q () { s with heap := h', toks := s.toks + 2 }) :
    wpAny (model prog w) A (setAttr (.ref x) name v) Q E s := by
  obtain ⟨od, J, hl⟩ := I.look
  refine PySem.W.set_plain X J hs (PySem.W.osa_open (s := { s with toks := s.toks + 1 }) (r := none) X J hp ht fun b => ?_)
  obtain ⟨cd, hc, hd'⟩ := PySem.W.any_some hh
  have hx : s.heap.get? x = some ⟨.ref C, some dx, .plain, #[]⟩ := I.obj
  refine wpAny_bind (wpAny_pure (wpAny_bind (wpAny_bind (wpAny_loadPart hx (wpAny_bind (PySem.W.Looks.here (s := { s with toks := s.toks + 1 }) (PySem.W.looks_clsIn X hc) ?_))))))
  rw [hd']
  refine wpAny_pure (a := some dx) (wpAny_bind (wpAny_pure (wpAny_bind ?_)))
  refine wpAny_nsSet1 (s := { s with toks := s.toks + 1 }) I.ns fun h' hn2 hs2 => ?_
  obtain ⟨oD, esD, epD, hoD, hdD, hcD⟩ := hn2.count (PySem.Within.cons name v hw)
  refine wpAny_bind (wpAny_lookBehind hoD (by rw [hdD]; exact pastItsLine_dict (Nat.le_trans hcD (by rw [List.length_cons]; omega))) ?_)
  exact wpAny_pure (h _ ⟨(hs2.2 _ (Ne.symm I.ne)).trans I.obj, hn2, I.ne⟩ hs2)
theorem make_map {R : Result → Shared → Prop} {vs : List Value} {kw : List (Str × Value)} (X : K.In s.heap) (hm : PySem.W.makesIn K C = true)
    (hi : PySem.W.findIn K (.ref C) "__init__" = some (some (.ref f))) (hf : PySem.W.typeIn K (.ref f) = some (.type "function"))
    (h : codeAny (model prog w) (A.under (.builtin "type.__call__" ⟨.ref C :: vs, kw⟩)) (.call (.ref f) ⟨.ref (s.heap.objs.size + 1) :: vs, kw⟩) (PySem.W.InitBack (s.heap.objs.size + 1) R)
      { s with heap := (s.heap.push PySem.W.emptyDict).push (PySem.W.instObj C s.heap.objs.size) }) :
    codeAny (model prog w) A (.call (.ref C) ⟨vs, kw⟩) R s := by
  obtain ⟨hh, g, d, t, os⟩ := s
  exact PySem.W.make_core (PySem.W.makes_of X hm) (PySem.W.looks_findIn X hi) (fun self => PySem.W.bind_fn X self hf) (.inl rfl) h
end
def putF (f : Str) (v : V) : List (Str × V) → List (Str × V)
  | [] => [(f, v)]
  | (g, x) :: r => if g = f then (g, v) :: r else (g, x) :: putF f v r
theorem lookup_putF (f g : Str) (v : V) : ∀ fs : List (Str × V), (putF f v fs).lookup g = if g = f then some v else fs.lookup g
  | [] => by
    show List.lookup g [(f, v)] = _
    by_cases h : g = f
    · have hb : (g == f) = true := beq_iff_eq.mpr h
      simp only [List.lookup, hb, if_pos h]
    · have hb : (g == f) = false := beq_eq_false_iff_ne.mpr h
      simp only [List.lookup, hb, if_neg h]
  | (k, x) :: r => by
    have ih := lookup_putF f g v r
    rw [show putF f v ((k, x) :: r) = (if k = f then (k, v) :: r else (k, x) :: putF f v r) from rfl]
    by_cases hk : k = f
    · rw [if_pos hk]
      by_cases h : g = k
      · have hb : (g == k) = true := beq_iff_eq.mpr h
        simp only [List.lookup, hb, if_pos (h.trans hk)]
      · have hb : (g == k) = false := beq_eq_false_iff_ne.mpr h
        simp only [List.lookup, hb, if_neg (fun e : g = f => h (e.trans hk.symm))]
    · rw [if_neg hk]
      by_cases h : g = k
      · have hb : (g == k) = true := beq_iff_eq.mpr h
        simp only [List.lookup, hb, if_neg (fun e : g = f => hk (h.symm.trans e))]
      · have hb : (g == k) = false := beq_eq_false_iff_ne.mpr h
        simp only [List.lookup, hb]
        exact ih
theorem keys_putF (f : Str) (v : V) : ∀ fs : List (Str × V), f ∈ (putF f v fs).map (·.1) ∧ ∀ g, g ∈ fs.map (·.1) → g ∈ (putF f v fs).map (·.1)
  | [] => ⟨by simp [putF], fun g h => by simp at h⟩
  | (k, x) :: r => by
    obtain ⟨i1, i2⟩ := keys_putF f v r
    rw [show putF f v ((k, x) :: r) = (if k = f then (k, v) :: r else (k, x) :: putF f v r) from rfl]
    by_cases hk : k = f
    · rw [if_pos hk]
      subst hk
      exact ⟨by simp, fun g h => by simpa using h⟩
    · rw [if_neg hk]
      refine ⟨?_, fun g h => ?_⟩
      · rw [List.map_cons]
        exact List.mem_cons_of_mem _ i1
      · rw [List.map_cons] at h ⊢
        rcases List.mem_cons.mp h with e | e
        · exact List.mem_cons.mpr (.inl e)
        · exact List.mem_cons_of_mem _ (i2 g e)
theorem length_putF (f : Str) (v : V) : ∀ fs : List (Str × V), (putF f v fs).length ≤ fs.length + 1
  | [] => by simp [putF]
  | (k, x) :: r => by
    have ih := length_putF f v r
    rw [show putF f v ((k, x) :: r) = (if k = f then (k, v) :: r else (k, x) :: putF f v r) from rfl]
    by_cases hk : k = f
    · rw [if_pos hk, List.length_cons, List.length_cons]; omega
    · rw [if_neg hk, List.length_cons, List.length_cons]; omega
theorem RelO.some_of {v : V} {o : Option Value} (r : RelO (some v) o) : ∃ u, o = some u ∧ RelV v u := by
  cases o with
  | none => exact (show False from r).elim
  | some u => exact ⟨u, rfl, r⟩
theorem RelO.none_of {o : Option Value} (r : RelO none o) : o = none := by
  cases o with
  | none => rfl
  | some u => exact (show False from r).elim
theorem handed_of {v : V} {u : Value} (r : RelV v u) : PySem.W.handedIn u = true := by
  cases v with
  | non => cases (show u = Value.none from r); rfl
  | bl b => cases (show u = Value.bool b from r); rfl
  | int i => obtain ⟨t, e⟩ := (show ∃ t, u = Value.int i t from r); cases e; rfl
  | str x => obtain ⟨t, e⟩ := (show ∃ t, u = Value.str x t from r); cases e; rfl
  | byt b => obtain ⟨t, e⟩ := (show ∃ t, u = Value.bytes b t from r); cases e; rfl
  | flt b => obtain ⟨t, e⟩ := (show ∃ t, u = Value.float b t from r); cases e; rfl
  | ref a => cases (show u = Value.ref a from r); rfl
  | ty n => cases (show u = Value.type n from r); rfl
section
variable {P : Program} {w : World} {H H' : Hp} {h h' : Heap} {a C dx : Addr} {fs fs' : List (Str × V)}
theorem ins_get (hok : HOk P w H h) (e : H a = some (.ins C dx fs)) : ∃ mA, ObjM h a dx C mA ∧ (∀ f, RelO (fs.lookup f) (mA f)) ∧ PySem.Within mA (fs.map (·.1)) ∧ fs.length ≤ 1000 ∧ H dx = some (.own a) := by
  obtain ⟨d, z, ne, ob, mA, n, r, q⟩ := (show ObjOk P w H h a (.ins C dx fs) from hok a _ e)
  exact ⟨mA, ⟨ob, n, ne⟩, r, q, z, d⟩
end
structure Cls (K : PySem.W.Frag) (C : Addr) : Prop where
  pg : PySem.W.plainGet K C Str.empty = true
  hd : PySem.W.hasDictIn K C = true
  po : PySem.W.plainOver K C = true
  sa : PySem.W.findIn K (.ref C) "__setattr__" = some (some (.builtin "object.__setattr__"))
theorem Cls.get {K : PySem.W.Frag} {C : Addr} (c : Cls K C) (f : Str) : PySem.W.plainGet K C f = true := c.pg
def NoAttr (K : PySem.W.Frag) (C : Addr) (f : Str) : Prop := PySem.W.findIn K (.ref C) f = some none
theorem NoAttr.taker {K : PySem.W.Frag} {C : Addr} {f : Str} (n : NoAttr K C f) : PySem.W.takerIn K C f = some none := by
  unfold PySem.W.takerIn
  rw [show PySem.W.findIn K (.ref C) f = some none from n]
  rfl
structure Meth (K : PySem.W.Frag) (C : Addr) (m : Str) (f : Addr) : Prop where
  at_ : PySem.W.findIn K (.ref C) m = some (some (.ref f))
  fn : PySem.W.isFn K (.ref f) = true
  kp : PySem.W.keepIn K (.ref f) = true
section
variable {X : Cx} {pins : List (Addr × Obj)} {σ : St} {H : Hp} {s : Shared} {a C dx : Addr} {fs : List (Str × V)} {f : Str} {v : V} {A : Around} {E : Value → Shared → Prop}
theorem getattr_ok {b : Bool} {Q : Value → Shared → Prop} (I : Inv X pins σ H s) (e : H a = some (.ins C dx fs)) (c : Cls X.K C) (n : NoAttr X.K C f) (l : fs.lookup f = some v)
    (h : ∀ u s', Inv X pins σ H s' → RelV v u → Q u s') : wpAny (model X.prog X.w) A (getAttr (.ref a) f b) Q E s := by
  obtain ⟨mA, O, r, _, _, _⟩ := ins_get I.hok e
  obtain ⟨u, hu, ru⟩ := RelO.some_of (v := v) (o := mA f) (by rw [← l]; exact r f)
  exact get_map I.kIn O (c.get f) c.hd n hu (handed_of ru) (h u _ (I.tok _) ru)
theorem getmeth_ok {m : Str} {g : Addr} {pl : Sem Bool} {Q : Value × List Value → Shared → Prop} (I : Inv X pins σ H s) (e : H a = some (.ins C dx fs)) (c : Cls X.K C) (k : Meth X.K C m g) (l : fs.lookup m = none)
    (h : Q (.ref g, [.ref a]) s) : wpAny (model X.prog X.w) A (getMethod (.ref a) m pl) Q E s := by
  obtain ⟨mA, O, r, _, _, _⟩ := ins_get I.hok e
  have hn : mA m = none := RelO.none_of (by rw [← l]; exact r m)
  exact get_meth I.kIn O (c.get m) k.at_ k.fn hn h
theorem setattr_ok {y : V} {u : Value} {Q : Unit → Shared → Prop} (I : Inv X pins σ H s) (e : H a = some (.ins C dx fs)) (c : Cls X.K C) (n : NoAttr X.K C f) (hl : fs.length < 1000) (ry : RelV y u)
    (h : ∀ s', Inv X pins σ (upd H a (.ins C dx (putF f y fs))) s' → Q () s') : wpAny (model X.prog X.w) A (setAttr (.ref a) f u) Q E s := by
  obtain ⟨mA, O, r, wi, _, ho⟩ := ins_get I.hok e
  have hz : (fs.map (·.1)).length ≤ sizeLine := by rw [List.length_map, sizeLine_eq]; omega
  refine set_map I.kIn O c.sa c.po n.taker c.hd wi hz fun h' O' sb => h _ ?_
  have hd : ∃ o, h'.get? dx = some o := let ⟨o, _, _, e', _⟩ := O'.ns; ⟨o, e'⟩
  refine I.write (x := a) (e := dx) (by rw [e]; exact True.intro) (.inr ho) (fun b q hb z => (sb.2 b hb).trans z) hd ?_
  refine ⟨by rw [upd_ne O.ne]; exact ho, ?_, O.ne, O'.obj, _, O'.ns, fun g => ?_, fun g hg => ?_⟩
  · have := length_putF f y fs; omega
  · show RelO ((putF f y fs).lookup g) (if g = f then some u else mA g)
    rw [lookup_putF]
    by_cases q : g = f
    · rw [if_pos q, if_pos q]; exact ry
    · rw [if_neg q, if_neg q]; exact r g
  · by_cases q : g = f
    · rw [q]; exact (keys_putF f y fs).1
    · refine (keys_putF f y fs).2 g (wi g fun z => hg ?_)
      show (if g = f then some u else mA g) = none
      rw [if_neg q]; exact z
theorem Inv.made (I : Inv X pins σ H s) : Inv X pins σ (upd (upd H s.heap.objs.size (.own (s.heap.objs.size + 1))) (s.heap.objs.size + 1) (.ins C s.heap.objs.size []))
    { s with heap := (s.heap.push PySem.W.emptyDict).push (PySem.W.instObj C s.heap.objs.size) } := by
  have e1 : (s.heap.push PySem.W.emptyDict).get? s.heap.objs.size = some PySem.W.emptyDict := Heap.get?_push_size s.heap rfl
  have e2 : ((s.heap.push PySem.W.emptyDict).push (PySem.W.instObj C s.heap.objs.size)).get? (s.heap.objs.size + 1) = some (PySem.W.instObj C s.heap.objs.size) := by
    have := Heap.get?_push_size (s.heap.push PySem.W.emptyDict) (o := PySem.W.instObj C s.heap.objs.size) rfl
    rwa [Heap.size_push] at this
  have e3 : (s.heap.push PySem.W.emptyDict).Ns s.heap.objs.size (fun _ => none) := ⟨PySem.W.emptyDict, #[], _, e1, rfl, (fun e he => absurd he (by simp)), fun _ => rfl⟩
  have I1 := I.laid (a := s.heap.objs.size) (o := .own (s.heap.objs.size + 1)) (h' := s.heap.push PySem.W.emptyDict) (t' := s.toks) (fun b u q => Heap.get?_push_of_some _ q) (Nat.le_refl _) ⟨_, e1⟩
  refine I1.laid (a := s.heap.objs.size + 1) (o := .ins C s.heap.objs.size []) (t' := s.toks) (fun b u q => Heap.get?_push_of_some _ q) (Nat.le_of_eq (Heap.size_push _ _)) ?_
  have ne : s.heap.objs.size ≠ s.heap.objs.size + 1 := Nat.ne_of_lt (Nat.lt_succ_self _)
  refine ⟨by rw [upd_ne ne, upd_same], Nat.zero_le _, ne, e2, fun _ => none, (Heap.Ns1.of_empty e3).at fun o q => Heap.get?_push_of_some _ q, fun _ => True.intro, fun y hy => absurd rfl hy⟩
theorem attr_of {prog : Program} {w : World} {env : Env} {e : Expr} {f : Str} {pos : Pos} {s : Shared} {Q : Value → Shared → Prop} (hb : attributeBase e f env (eval e env) = eval e env)
    (h : wpAny (model prog w) A (eval e env) (fun o s₁ => wpAny (model prog w) A (getAttr o f true) Q E s₁) E s) : wpAny (model prog w) A (eval (.Attribute e f pos) env) Q E s :=
  Attribute_any_ h (by rw [arm_eval_Attribute, hb])
end
def tFld (K : PySem.W.Frag) (ta : TE) (f : Str) : TE := fun σ H Q => ta σ H fun x H1 => ∃ a C dx fs v, x = .ref a ∧ H1 a = some (.ins C dx fs) ∧ Cls K C ∧ NoAttr K C f ∧ fs.lookup f = some v ∧ Q v H1
def sFld (K : PySem.W.Frag) (ta tv : TE) (f : Str) : TS := fun D σ H => tv σ H fun y H1 => ta σ H1 fun x H2 => ∃ a C dx fs, x = .ref a ∧ H2 a = some (.ins C dx fs) ∧ Cls K C ∧ NoAttr K C f ∧ fs.length < 1000 ∧
  D.nx σ (upd H2 a (.ins C dx (putF f y fs)))
section
variable {X : Cx} {o e value : Expr} {f : Str} {pos pos' tpos : Pos} {ta tv : TE}
theorem pe_fld (he : PE X e ta) (hb : attributeBase e f X.env (eval e X.env) = eval e X.env) : PE X (.Attribute e f pos) (tFld X.K ta f) := by
  intro pins s σ H Q I h
  refine attr_of hb (thn (he pins s σ H _ I h) fun u s1 ⟨x, H1, I1, rx, a, C, dx, fs, v, ex, ea, c, n, l, q⟩ => ?_)
  subst ex
  obtain rfl : u = Value.ref a := rx
  exact getattr_ok I1 ea c n l fun u' s2 I2 ru => ⟨v, H1, I2, ru, q⟩
theorem ps_fld (ha : PE X o ta) (hv : PE X value tv) (hs : swapsWith value (some (.Attribute o f pos')) pos.line X.env = pure false) : PS X (.Assign [.Attribute o f pos'] value pos) (sFld X.K ta tv f) := by
  intro pins s σ H D I h
  refine plainObj_wpAny_Assign_Attribute (thn (hv pins s σ H _ I h) fun u s1 ⟨y, H1, I1, ry, q⟩ => thn (ha pins s1 σ H1 _ I1 q) fun ov s2 ⟨x, H2, I2, rx, a, C, dx, fs, ex, ea, c, n, l, q2⟩ => ?_) hs
  subst ex
  obtain rfl : ov = Value.ref a := rx
  exact setattr_ok I2 ea c n l ry fun s3 I3 => ⟨σ, _, I3, q2⟩
theorem methcall_of {pl : Sem Bool} {m : Str} {apos : Pos} {args : List Expr} {pins : List (Addr × Obj)} {s : Shared} {σ : St} {H : Hp} {Q : Value → Shared → Prop} {te : TE} (he : PE X e te) (I : Inv X pins σ H s)
    (h : te σ H fun x H1 => ∃ a C dx fs g, x = .ref a ∧ H1 a = some (.ins C dx fs) ∧ Cls X.K C ∧ Meth X.K C m g ∧ fs.lookup m = none ∧
      ∀ s1, Inv X pins σ H1 s1 → wpAny (model X.prog X.w) X.A (callWith pos (.ref g) [.ref a] (backTo pos (starEach args X.env)) (backToKw pos (keywordEach [] X.env))) Q X.xe s1)
    (ht : eval (.Call (.Attribute e m apos) args [] pos) X.env = (do
      let ov ← eval e X.env
      standAt apos.atName
      let (f, first) ← holding [ov] (getMethod ov m pl)
      callWith pos f first (backTo pos (starEach args X.env)) (backToKw pos (keywordEach [] X.env)))) :
    wpAny (model X.prog X.w) X.A (eval (.Call (.Attribute e m apos) args [] pos) X.env) Q X.xe s := by
  refine PySem.W.methodCall_KW (pl := pl) (thn (he pins s σ H _ I h) fun u s1 ⟨x, H1, I1, rx, a, C, dx, fs, g, ex, ea, c, k, l, q⟩ => ?_) ht
  subst ex
  obtain rfl : u = Value.ref a := rx
  exact getmeth_ok I1 ea c k l (q s1 I1)
end
section
variable {X : Cx} {pins : List (Addr × Obj)} {σ : St} {H : Hp} {s : Shared} {A : Around} {E : Value → Shared → Prop} {Q : Value → Shared → Prop} {c : Value} {b : Bool}
end
end L2
namespace L2
open PySem PySem.Spec PyProof.Rows
structure Room (k : Nat) (A : Around) : Prop where
  hd : A.handled = none
  dp : A.depth + 3 * k + 5 < recursionLimit
  un : A.units + 16 * k + 200 < cLine
theorem Room.mono {j k : Nat} {A : Around} (r : Room k A) (h : j ≤ k) : Room j A := ⟨r.hd, by have := r.dp; omega, by have := r.un; omega⟩
theorem Room.deeper {k : Nat} {A : Around} (r : Room (k + 1) A) (env : Env) : Room k (A.deeper env) :=
  ⟨r.hd, by have := r.dp; show A.depth + 1 + 3 * k + 5 < _; omega, by have := r.un; show A.units + 3 + 16 * k + 200 < _; omega⟩
theorem make_depth {A : Around} {C : Addr} {us : List Value} {kw : List (Str × Value)} : (A.under (.builtin "type.__call__" ⟨.ref C :: us, kw⟩)).depth = A.depth + 1 := by
  first | rfl | simp [Around.under, Code.weight, Code.isCreation, Code.isGuard, Code.isCaller, Code.frames, Code.isFrame, guardIds]
theorem make_units {A : Around} {C : Addr} {us : List Value} {kw : List (Str × Value)} : (A.under (.builtin "type.__call__" ⟨.ref C :: us, kw⟩)).units = A.units + 1 := by
  first | rfl | simp [Around.under, Code.cUnits, Code.frames, Code.isFrame]
theorem Room.make {k : Nat} {A : Around} (r : Room (k + 1) A) (C : Addr) (us : List Value) (kw : List (Str × Value)) : Room k (A.under (.builtin "type.__call__" ⟨.ref C :: us, kw⟩)) :=
  ⟨r.hd, by have := r.dp; rw [make_depth]; omega, by have := r.un; rw [make_units]; omega⟩
theorem Room.depth {k : Nat} {A : Around} (r : Room k A) : A.depth < recursionLimit := by have := r.dp; omega
theorem Room.units {k : Nat} {A : Around} (r : Room k A) : A.units + 64 < cLine := by have := r.un; omega
def tNil : TA := fun _ H Q => Q [] H
def tCons (ta : TE) (tr : TA) : TA := fun σ H Q => ta σ H fun x H1 => tr σ H1 fun xs H2 => Q (x :: xs) H2
section
variable {X : Cx} {e : Expr} {es : List Expr} {te : TE} {t : TA} {pos : Pos}
theorem pa_nil : PA X [] tNil := fun _ _ _ _ H Q I h => Calls.spliced_nil ⟨[], H, I, .nil, h⟩
theorem pa_cons (ha : PE X e te) (hr : PA X es t) (hs : starEach (e :: es) X.env = (false, eval e X.env) :: starEach es X.env := by rfl) : PA X (e :: es) (tCons te t) := by
  intro pos pins s σ H Q I h
  rw [hs]
  show wpAny _ _ (spliced ((false, eval e X.env) :: backTo pos (starEach es X.env))) _ _ s
  refine Calls.spliced_cons (thn (ha pins s σ H _ I h) fun u s1 ⟨x, H1, I1, r1, q1⟩ => ?_)
  exact thn (hr pos pins s1 σ H1 _ I1 q1) fun us s2 ⟨xs, H2, I2, r2, q2⟩ => ⟨x :: xs, H2, I2, .cons r1 r2, q2⟩
def tTup (t : TA) : TE := fun σ H Q => t σ H fun xs H1 => xs.length ≤ sizeLine ∧ ∀ p, H1 p = none → Q (.ref p) (upd H1 p (.tup xs))
def tLst (t : TA) : TE := fun σ H Q => t σ H fun xs H1 => xs.length ≤ sizeLine ∧ ∀ p, H1 p = none → Q (.ref p) (upd H1 p (.lst xs))
theorem pe_tup {x1} (h : PA X es t) : PE X (.Tuple es x1 pos) (tTup t) := by
  intro pins s σ H Q I hq
  refine wpAny_Tuple_spliced (thn (h pos pins s σ H _ I hq) fun us s1 ⟨xs, H1, I1, r, z, q⟩ => ⟨by rw [← r.length]; exact z, ?_⟩)
  have hf : H1 s1.heap.objs.size = none := I1.hok.fresh (Nat.le_refl _)
  refine ⟨.ref s1.heap.objs.size, upd H1 s1.heap.objs.size (.tup xs), I1.laid (t' := s1.toks) (fun b u e => Heap.get?_push_of_some _ e) (Nat.le_refl _) ?_, rfl, q _ hf⟩
  exact ⟨z, us, r, ⟨_, Heap.get?_push_size _ rfl, rfl, _, rfl⟩⟩
theorem pe_lst (h : PA X es t) : PE X (.List es pos) (tLst t) := by
  intro pins s σ H Q I hq
  refine wpAny_List_spliced (thn (h pos pins s σ H _ I hq) fun us s1 ⟨xs, H1, I1, r, z, q⟩ => ⟨by rw [← r.length]; exact z, ?_⟩)
  have hf : H1 s1.heap.objs.size = none := I1.hok.fresh (Nat.le_refl _)
  refine ⟨.ref s1.heap.objs.size, upd H1 s1.heap.objs.size (.lst xs), I1.laid (t' := s1.toks) (fun b u e => Heap.get?_push_of_some _ e) (Nat.le_refl _) ?_, rfl, q _ hf⟩
  exact ⟨z, us, 0, r, Heap.get?_push_size _ rfl⟩
end
abbrev Sp := List V → Hp → VK → XK → Prop
abbrev CXT := List Env → Hp → Shared → XK → Value → Shared → Prop
structure Env0 (P : Program) (w : World) (K : PySem.W.Frag) (mg : Str → Option Value) (base : Heap) (A : Around) (outer : List Env) (s : Shared) (H : Hp) : Prop where
  frames : A.frames = some outer
  mod : Mod K mg base
  bs : ∀ b o, base.get? b = some o → s.heap.get? b = some o ∧ H b = none
  bsz : base.objs.size ≤ s.heap.objs.size
  funs : s.heap.FunFrames base outer
  frf : ∀ b ∈ frs outer, H b = none
  hok : HOk P w H s.heap
  bare : AllBare s.gens
def CE (outer : List Env) (P : Program) (w : World) (H : Hp) (s : Shared) (Q : VK) (u : Value) (s' : Shared) : Prop :=
  ∃ v H', s'.os = s.os ∧ AllBare s'.gens ∧ Un (frs outer) [] H H' s.heap s'.heap ∧ HOk P w H' s'.heap ∧ RelV v u ∧ Q v H'
def CR (CX : CXT) (outer : List Env) (P : Program) (w : World) (H : Hp) (s : Shared) (Q : VK) (E : XK) (r : Result) (s' : Shared) : Prop :=
  match r with
  | .ok (.ret u) => CE outer P w H s Q u s'
  | .ok _ => False
  | .error e => CX outer H s E e s'
structure FnOk (P : Program) (w : World) (K : PySem.W.Frag) (mg : Str → Option Value) (base : Heap) (CX : CXT) (k : Nat) (f : Addr) (fd : FuncData) (ps : List Str) (sp : Sp) : Prop where
  len : ∀ vs H Q E, sp vs H Q E → vs.length = ps.length
  run : ∀ (A : Around) (outer : List Env) (s : Shared) (H : Hp) (args : Args) (us : List Value) (vs : List V) (Q : VK) (E : XK), Room k A → Env0 P w K mg base A outer s H → BindsTo s fd args (ps.zip us) → Vals vs us → sp vs H Q E →
    codeAny (model P w) A (.call (.ref f) args) (CR CX outer P w H s Q E) s
theorem Env0.make {P : Program} {w : World} {K : PySem.W.Frag} {mg : Str → Option Value} {base : Heap} {A : Around} {outer : List Env} {s : Shared} {H : Hp} (e : Env0 P w K mg base A outer s H) (C : Addr) (us : List Value) (kw : List (Str × Value)) :
    Env0 P w K mg base (A.under (.builtin "type.__call__" ⟨.ref C :: us, kw⟩)) outer s H := ⟨by first | exact e.frames | (simpa [Around.under, Code.envs, Code.isFrame, pushEnvs] using e.frames), e.mod, e.bs, e.bsz, e.funs, e.frf, e.hok, e.bare⟩
section
variable {X : Cx} {pins : List (Addr × Obj)} {σ : St} {H : Hp} {s s' : Shared}
theorem Inv.env0 (I : Inv X pins σ H s) : Env0 X.prog X.w X.K X.mg X.base X.A X.stack s H :=
  ⟨I.ok.frames, I.ok.mod, I.bs, Nat.le_trans I.ok.bsz I.sz, I.stack, I.stkFree, I.hok, I.bare⟩
theorem Inv.after {Q : VK} {u : Value} (I : Inv X pins σ H s) (h : CE X.stack X.prog X.w H s Q u s') : EP X pins σ Q u s' := by
  obtain ⟨v, H', os, bare, un, hok, r, q⟩ := h
  obtain ⟨hh, g, d, t, os'⟩ := s'
  obtain rfl : os' = s.os := os
  exact ⟨v, H', I.call (h' := hh) (g' := g) (d' := d) (t' := t) (ch := []) un hok bare (fun b z => absurd z (by simp)), r, q⟩
end
def tCall (sp : Sp) (dvs : List V) (E : XK) (t : TA) : TE := fun σ H Q => t σ H fun vs H1 => sp (vs ++ dvs) H1 Q E
def tMeth (C : Addr) (m : Str) (sp : Sp) (dvs : List V) (E : XK) (ta : TE) (t : TA) : TE := fun σ H Q => ta σ H fun x H1 => ∃ a dx fs, x = .ref a ∧ H1 a = some (.ins C dx fs) ∧ fs.lookup m = none ∧
  t σ H1 fun vs H2 => sp (x :: (vs ++ dvs)) H2 Q E
def tMake (C : Addr) (sp : Sp) (dvs : List V) (E : XK) (t : TA) : TE := fun σ H Q => t σ H fun vs H1 => ∀ x dx, H1 x = none → H1 dx = none → dx ≠ x →
  sp (.ref x :: (vs ++ dvs)) (upd (upd H1 dx (.own x)) x (.ins C dx [])) (fun v H2 => v = .non ∧ Q (.ref x) H2) E
def Binds (K : PySem.W.Frag) (fd : FuncData) (ps : List Str) (ds : List Value) : Prop :=
  ∀ (s : Shared) (us : List Value), K.In s.heap → (us ++ ds).length = ps.length → BindsTo s fd ⟨us, []⟩ (ps.zip (us ++ ds))
theorem Binds.all {K : PySem.W.Frag} {fd : FuncData} {ps : List Str} (h : ∀ us : List Value, us.length = ps.length → bindArgs fd ⟨us, []⟩ = pure (ps.zip us)) : Binds K fd ps [] := fun s us _ hl => by
  rw [List.append_nil] at hl ⊢
  exact .of_eq (h us hl)
def Passes (CX : CXT) (X : Cx) (E : XK) : Prop := ∀ (pins : List (Addr × Obj)) (σ : St) (H : Hp) (s : Shared) (e : Value) (s' : Shared), Inv X pins σ H s → CX X.stack H s E e s' → X.xe e s'
section
variable {X : Cx} {CX : CXT} {k : Nat} {f C : Addr} {fd : FuncData} {ps : List Str} {sp : Sp} {dvs : List V} {ds : List Value} {E : XK} {x m : Str} {p pos apos : Pos} {e o : Expr} {es : List Expr} {ta : TE} {t : TA}
theorem run_fn {pins : List (Addr × Obj)} {σ : St} {H : Hp} {s : Shared} {Q : VK} {us : List Value} {vs : List V} (F : FnOk X.prog X.w X.K X.mg X.base CX k f fd ps sp) (hr : Room k X.A) (hb : Binds X.K fd ps ds) (hd : Vals dvs ds) (hx : Passes CX X E)
    (I : Inv X pins σ H s) (r : Vals vs us) (h : sp (vs ++ dvs) H Q E) : wpAny (model X.prog X.w) X.A (call (.ref f) us) (EP X pins σ Q) X.xe s := by
  have r2 : Vals (vs ++ dvs) (us ++ ds) := r.append hd
  have hl : (us ++ ds).length = ps.length := by rw [← r2.length]; exact F.len _ _ _ _ h
  refine wpAny_call (codeAny_mono (F.run X.A X.stack s H ⟨us, []⟩ (us ++ ds) (vs ++ dvs) Q E hr I.env0 (hb s us I.kIn hl) r2 h) fun r s' hq => ?_)
  cases r with
  | error e => exact hx pins σ H s e s' I hq
  | ok fl =>
    cases fl with
    | ret u => exact I.after hq
    | next => exact False.elim hq
    | brk => exact False.elim hq
    | cont => exact False.elim hq
theorem pe_call (F : FnOk X.prog X.w X.K X.mg X.base CX k f fd ps sp) (hr : Room k X.A) (hg : Gl X x) (hm : X.mg x = some (.ref f)) (hk : PySem.W.keepIn X.K (.ref f) = true) (hb : Binds X.K fd ps ds) (hd : Vals dvs ds) (hx : Passes CX X E)
    (ha : PA X (e :: es) t) (hdb : (x == ("__debug__" : Str)) = false := by decide) (he : starEach (e :: es) X.env = (false, eval e X.env) :: starEach es X.env := by rfl) (hpl : (backTo pos (starEach es X.env)).any (·.1) = false := by rfl) :
    PE X (.Call (.Name x p) (e :: es) [] pos) (tCall sp dvs E t) := by
  intro pins s σ H Q I h
  refine wpAny_Call_Name_kw (ld_glob I hg hm ?_ hdb)
  refine PySem.W.callWith_K (h₀ := X.base) I.ok.mod.kin hk (thn (ha pos pins s σ H _ I h) fun us s1 ⟨vs, H1, I1, r, q⟩ => ⟨I1.kIn, ?_⟩) he hpl
  exact run_fn F hr hb hd hx I1 r q
theorem pe_meth {pl : Sem Bool} (he : PE X o ta) (c : Cls X.K C) (hm : Meth X.K C m f) (F : FnOk X.prog X.w X.K X.mg X.base CX k f fd ps sp) (hr : Room k X.A) (hb : Binds X.K fd ps ds) (hd : Vals dvs ds) (hx : Passes CX X E) (ha : PA X (e :: es) t)
    (hst : starEach (e :: es) X.env = (false, eval e X.env) :: starEach es X.env := by rfl) (hpl : (backTo pos (starEach es X.env)).any (·.1) = false := by rfl)
    (ht : eval (.Call (.Attribute o m apos) (e :: es) [] pos) X.env = (do
      let ov ← eval o X.env
      standAt apos.atName
      let (f, first) ← holding [ov] (getMethod ov m pl)
      callWith pos f first (backTo pos (starEach (e :: es) X.env)) (backToKw pos (keywordEach [] X.env))) := by rfl) :
    PE X (.Call (.Attribute o m apos) (e :: es) [] pos) (tMeth C m sp dvs E ta t) := by
  intro pins s σ H Q I h
  refine PySem.W.methodCall_KW (pl := pl) (thn (he pins s σ H _ I h) fun u s1 ⟨x, H1, I1, rx, a, dx, fs, ex, ea, l, q⟩ => ?_) ht
  subst ex
  obtain rfl : u = Value.ref a := rx
  refine getmeth_ok I1 ea c hm l ?_
  refine PySem.W.callWith_K (first := [.ref a]) (h₀ := X.base) I.ok.mod.kin hm.kp (thn (ha pos pins s1 σ H1 _ I1 q) fun us s2 ⟨vs, H2, I2, r, q2⟩ => ⟨I2.kIn, ?_⟩) hst hpl
  exact run_fn (us := .ref a :: us) (vs := .ref a :: vs) F hr hb hd hx I2 (.cons rfl r) q2
theorem pe_meth0 {pl : Sem Bool} (he : PE X o ta) (c : Cls X.K C) (hm : Meth X.K C m f) (F : FnOk X.prog X.w X.K X.mg X.base CX k f fd ps sp) (hr : Room k X.A) (hb : Binds X.K fd ps ds) (hd : Vals dvs ds) (hx : Passes CX X E)
    (ht : eval (.Call (.Attribute o m apos) [] [] pos) X.env = (do
      let ov ← eval o X.env
      standAt apos.atName
      let (f, first) ← holding [ov] (getMethod ov m pl)
      callWith pos f first (backTo pos (starEach [] X.env)) (backToKw pos (keywordEach [] X.env))) := by rfl) :
    PE X (.Call (.Attribute o m apos) [] [] pos) (tMeth C m sp dvs E ta tNil) := by
  intro pins s σ H Q I h
  refine PySem.W.methodCall_KW (pl := pl) (thn (he pins s σ H _ I h) fun u s1 ⟨x, H1, I1, rx, a, dx, fs, ex, ea, l, q⟩ => ?_) ht
  subst ex
  obtain rfl : u = Value.ref a := rx
  refine getmeth_ok I1 ea c hm l ?_
  exact PySem.W.callWith_K0 (first := [.ref a]) I1.kIn hm.kp (run_fn (us := [.ref a]) (vs := [.ref a]) F hr hb hd hx I1 (.cons rfl .nil) q)
structure Mk (K : PySem.W.Frag) (C f : Addr) : Prop where
  makes : PySem.W.makesIn K C = true
  init : PySem.W.findIn K (.ref C) "__init__" = some (some (.ref f))
  fn : PySem.W.isFn K (.ref f) = true
  kp : PySem.W.keepIn K (.ref C) = true
theorem run_make {pins : List (Addr × Obj)} {σ : St} {H : Hp} {s : Shared} {Q : VK} {us : List Value} {vs : List V} (M : Mk X.K C f) (F : FnOk X.prog X.w X.K X.mg X.base CX k f fd ps sp) (hr : Room (k + 1) X.A) (hb : Binds X.K fd ps ds) (hd : Vals dvs ds)
    (hx : Passes CX X E) (I : Inv X pins σ H s) (r : Vals vs us)
    (h : ∀ x dx, H x = none → H dx = none → dx ≠ x → sp (.ref x :: (vs ++ dvs)) (upd (upd H dx (.own x)) x (.ins C dx [])) (fun v H2 => v = .non ∧ Q (.ref x) H2) E) :
    wpAny (model X.prog X.w) X.A (call (.ref C) us) (EP X pins σ Q) X.xe s := by
  have hq := h (s.heap.objs.size + 1) s.heap.objs.size (I.hok.fresh (Nat.le_succ _)) (I.hok.fresh (Nat.le_refl _)) (Nat.ne_of_lt (Nat.lt_succ_self _))
  have I2 := Inv.made (C := C) I
  have r2 : Vals (V.ref (s.heap.objs.size + 1) :: (vs ++ dvs)) (Value.ref (s.heap.objs.size + 1) :: (us ++ ds)) := .cons rfl (r.append hd)
  have hl : (Value.ref (s.heap.objs.size + 1) :: us ++ ds).length = ps.length := by
    have e := r2.length
    rw [F.len _ _ _ _ hq] at e
    exact e.symm
  refine wpAny_call (make_map (f := f) I.kIn M.makes M.init (beq_iff_eq.mp M.fn) (codeAny_mono (F.run _ X.stack _ _ ⟨Value.ref (s.heap.objs.size + 1) :: us, []⟩ (Value.ref (s.heap.objs.size + 1) :: (us ++ ds)) _ _ E (hr.make C us [])
    (I2.env0.make C us []) (hb _ (Value.ref (s.heap.objs.size + 1) :: us) I2.kIn hl) r2 hq) fun r s' hq' => ?_))
  cases r with
  | error e => exact hx pins σ _ _ e s' I2 hq'
  | ok fl =>
    cases fl with
    | ret u =>
      obtain ⟨v, H', I3, rv, ev, q3⟩ := I2.after hq'
      subst ev
      exact ⟨rv, ⟨V.ref (s.heap.objs.size + 1), H', I3, rfl, q3⟩⟩
    | next => exact False.elim hq'
    | brk => exact False.elim hq'
    | cont => exact False.elim hq'
theorem pe_make (M : Mk X.K C f) (F : FnOk X.prog X.w X.K X.mg X.base CX k f fd ps sp) (hr : Room (k + 1) X.A) (hg : Gl X x) (hm : X.mg x = some (.ref C)) (hb : Binds X.K fd ps ds) (hd : Vals dvs ds) (hx : Passes CX X E)
    (ha : PA X (e :: es) t) (hdb : (x == ("__debug__" : Str)) = false := by decide) (he : starEach (e :: es) X.env = (false, eval e X.env) :: starEach es X.env := by rfl) (hpl : (backTo pos (starEach es X.env)).any (·.1) = false := by rfl) :
    PE X (.Call (.Name x p) (e :: es) [] pos) (tMake C sp dvs E t) := by
  intro pins s σ H Q I h
  refine wpAny_Call_Name_kw (ld_glob I hg hm ?_ hdb)
  refine PySem.W.callWith_K (h₀ := X.base) I.ok.mod.kin M.kp (thn (ha pos pins s σ H _ I h) fun us s1 ⟨vs, H1, I1, r, q⟩ => ⟨I1.kIn, ?_⟩) he hpl
  exact run_make M F hr hb hd hx I1 r q
theorem pe_make0 (M : Mk X.K C f) (F : FnOk X.prog X.w X.K X.mg X.base CX k f fd ps sp) (hr : Room (k + 1) X.A) (hg : Gl X x) (hm : X.mg x = some (.ref C)) (hb : Binds X.K fd ps ds) (hd : Vals dvs ds) (hx : Passes CX X E)
    (hdb : (x == ("__debug__" : Str)) = false := by decide) : PE X (.Call (.Name x p) [] [] pos) (tMake C sp dvs E tNil) := by
  intro pins s σ H Q I h
  refine wpAny_Call_Name_kw (ld_glob I hg hm ?_ hdb)
  exact PySem.W.callWith_K0 I.kIn M.kp (run_make (us := []) M F hr hb hd hx I .nil h)
end
section
variable {X : Cx} {CX : CXT} {k : Nat} {f C : Addr} {fd : FuncData} {ps ks : List Str} {sp : Sp} {E : XK} {x m : Str} {p pos apos kpos : Pos} {e o : Expr} {es : List Expr} {kws : List Keyword} {te ta : TE} {t tk : TA} {nm : Option Str}
variable {g : List Value → List Value → List Value} {gV : List V → List V → List V}
end
structure FnScope (N P : List Str) (sc : Scope) : Prop where
  kind : sc.kind = .function
  co : sc.isCoroutine = false
  gen : sc.isGenerator = false
  nd : N.Nodup
  pre : N.take P.length = P
  par : ∀ x ∈ P, sc.names.lookup x = some .local ∨ sc.names.lookup x = some .cell
  nofree : ∀ y ∈ sc.names, y.2 ≠ .free
theorem bindL_out {kindOf : Str → Option NameKind} {x : Str} : ∀ {binds : List (Str × Value)} {m : Str → Option Value}, (∀ v, (x, v) ∉ binds) → bindL kindOf binds m x = m x
  | [], _, _ => rfl
  | (n, v) :: r, m, h => by
    unfold bindL
    rw [bindL_out fun w hw => h w (List.mem_cons_of_mem _ hw)]
    split
    · have : x ≠ n := by rintro rfl; exact h v List.mem_cons_self
      simp [this]
    · rfl
theorem bindC_out {kindOf : Str → Option NameKind} {x : Str} : ∀ {binds : List (Str × Value)} {m : Str → Option Value}, (∀ v, (x, v) ∉ binds) → bindC kindOf binds m x = m x
  | [], _, _ => rfl
  | (n, v) :: r, m, h => by
    unfold bindC
    rw [bindC_out fun w hw => h w (List.mem_cons_of_mem _ hw)]
    split
    · rfl
    · have : x ≠ n := by rintro rfl; exact h v List.mem_cons_self
      simp [this]
theorem bindL_get {kindOf : Str → Option NameKind} {x : Str} {v : Value} : ∀ {P : List Str} {vs : List Value} {i : Nat} {m : Str → Option Value}, P.Nodup → P[i]? = some x → vs[i]? = some v → kindOf x = some .local →
    bindL kindOf (P.zip vs) m x = some v
  | [], _, _, _, _, h, _, _ => by simp at h
  | _ :: _, [], _, _, _, _, h, _ => by simp at h
  | p :: P, w :: vs, 0, m, nd, h1, h2, hk => by
    simp at h1 h2; subst h1; subst h2
    show bindL kindOf ((p, w) :: P.zip vs) m p = _
    unfold bindL
    rw [bindL_out fun v hv => (List.nodup_cons.mp nd).1 (List.of_mem_zip hv).1, if_pos hk]
    simp
  | p :: P, w :: vs, i + 1, m, nd, h1, h2, hk => by
    show bindL kindOf ((p, w) :: P.zip vs) m x = _
    unfold bindL
    exact bindL_get (i := i) (List.nodup_cons.mp nd).2 (by simpa using h1) (by simpa using h2) hk
theorem bindC_get {kindOf : Str → Option NameKind} {x : Str} {v : Value} : ∀ {P : List Str} {vs : List Value} {i : Nat} {m : Str → Option Value}, P.Nodup → P[i]? = some x → vs[i]? = some v → kindOf x ≠ some .local →
    bindC kindOf (P.zip vs) m x = some v
  | [], _, _, _, _, h, _, _ => by simp at h
  | _ :: _, [], _, _, _, _, h, _ => by simp at h
  | p :: P, w :: vs, 0, m, nd, h1, h2, hk => by
    simp at h1 h2; subst h1; subst h2
    show bindC kindOf ((p, w) :: P.zip vs) m p = _
    unfold bindC
    rw [bindC_out fun v hv => (List.nodup_cons.mp nd).1 (List.of_mem_zip hv).1, if_neg hk]
    simp
  | p :: P, w :: vs, i + 1, m, nd, h1, h2, hk => by
    show bindC kindOf ((p, w) :: P.zip vs) m x = _
    unfold bindC
    exact bindC_get (i := i) (List.nodup_cons.mp nd).2 (by simpa using h1) (by simpa using h2) hk
def start (N : List Str) (vs : List V) : St := vs.map some ++ List.replicate (N.length - vs.length) none
def cxOf (CX : CXT) (P : Program) (w : World) (K : PySem.W.Frag) (mg : Str → Option Value) (base : Heap) (N : List Str) (qual : Str) (scope : Scope) (f : Addr) (cd : Value) (A : Around) (outer : List Env) (s : Shared) (H : Hp) (E : XK) : Cx where
  prog := P
  w := w
  K := K
  mg := mg
  base := base
  A := A.deeper (envOfC qual scope s.heap.objs.size f cd)
  N := N
  s_0 := s
  H_0 := H
  env := envOfC qual scope s.heap.objs.size f cd
  outer := outer
  stack := envOfC qual scope s.heap.objs.size f cd :: outer
  ex := []
  calm := true
  fn := fun _ => true
  pn := []
  xe := fun e s' => wpAny (model P w) (A.deeper (envOfC qual scope s.heap.objs.size f cd)) (leaving (envOfC qual scope s.heap.objs.size f cd) e) (fun _ s'' => CX outer H s E e s'') (fun e' s'' => CX outer H s E e' s'') s'
theorem cell_has {sc : Scope} {n : Nat} {x : Str} (h : sc.names.lookup x = some .cell) : ∃ c, (cellsFrom n sc.names []).lookup x = some c := by
  have q := PySem.W.cellsFrom_some sc.names n [] (.inl h)
  exact Option.isSome_iff_exists.mp q
theorem inv_start {CX : CXT} {P : Program} {w : World} {K : PySem.W.Frag} {mg : Str → Option Value} {base : Heap} {N ps : List Str} {qual : Str} {scope : Scope} {f : Addr} {cd : Value} {A : Around} {outer : List Env} {s s1 : Shared} {H : Hp} {E : XK} {us : List Value} {vs : List V}
    (S : FnScope N ps scope) (hd : A.handled = none) (e0 : Env0 P w K mg base A outer s H) (hl : vs.length = ps.length) (r : Vals vs us)
    (x : InCallC s s.heap.objs.size (bindL (envOfC qual scope s.heap.objs.size f cd).kindOf (ps.zip us) fun _ => none) (cellsFrom (s.heap.objs.size + 1) scope.names []) (bindC (envOfC qual scope s.heap.objs.size f cd).kindOf (ps.zip us) fun _ => none) s1) :
    Inv (cxOf CX P w K mg base N qual scope f cd A outer s H E) [] (start N vs) H s1 := by
  have hpl : ps.length ≤ N.length := by have := congrArg List.length S.pre; rw [List.length_take] at this; omega
  obtain ⟨h1, tk, rfl, hk⟩ := x.done
  have noA : ∀ b : Addr, b ∉ (cxOf CX P w K mg base N qual scope f cd A outer s H E).ex := fun b z => absurd (show b ∈ ([] : List Addr) from z) (by simp)
  refine ⟨⟨e0.mod, S.kind, rfl, rfl, Nat.le_refl _, fun y z c h1 h2 => ?_, fun y hy => ?_, fun y c _ h => ?_, fun _ => hd, Around.frames_deeper e0.frames, .inr ⟨rfl, rfl⟩, fun b z => absurd z (noA b), e0.bs, e0.bsz, fun b _ _ => noA b, fun b z => absurd z (noA b), e0.funs, e0.frf⟩,
    rfl, e0.bare, Un.kept hk, ⟨_, x.toInCall.ns, fun i y v h1 h2 h3 => ?_⟩, fun y c h => ⟨_, x.cell y c h⟩, e0.hok.fresh (Nat.le_refl _), fun y c h => ?_, fun p hp => absurd (show p ∈ ([] : List (Addr × Obj)) from hp) (by simp), e0.hok.kept hk, ?_⟩
  · exact name_of_addr x.apart (PySem.mem_of_lookup h1) (PySem.mem_of_lookup h2)
  · have hy : scope.names.lookup y = some .cell ∨ scope.names.lookup y = some .free := hy
    rcases hy with hy | hy
    · exact cell_has hy
    · exact absurd rfl (S.nofree _ (PySem.mem_of_lookup hy))
  · exact Nat.le_of_lt (x.above y c (PySem.mem_of_lookup h))
  · have hi : i < vs.length := by
      unfold start at h2
      by_cases hi : i < vs.length
      · exact hi
      · rw [List.getElem?_append_right (by simpa using hi)] at h2
        rw [List.getElem?_replicate] at h2
        split at h2 <;> cases h2
    have ha : vs[i]? = some v := by
      unfold start at h2
      rw [List.getElem?_append_left (by simpa using hi), List.getElem?_map] at h2
      cases e : vs[i]? with
      | none => rw [e] at h2; cases h2
      | some a => rw [e] at h2; cases h2; rfl
    obtain ⟨u, hu, rv⟩ := r.get ha
    have hp : ps[i]? = some y := by
      rw [← S.pre, List.getElem?_take_of_lt (by omega)]; exact h1
    have ndP : ps.Nodup := by rw [← S.pre]; exact S.nd.sublist (List.take_sublist _ _)
    refine ⟨u, rv, ?_⟩
    rcases S.par y (List.mem_of_getElem? hp) with k | k
    · exact .inl ⟨k, bindL_get ndP hp hu k⟩
    · obtain ⟨c, e⟩ := cell_has (n := s.heap.objs.size + 1) k
      refine .inr ⟨.inl k, c, e, ?_⟩
      have q := x.cell y c e
      rw [bindC_get ndP hp hu (by show scope.names.lookup y ≠ _; rw [k]; decide)] at q
      exact q
  · exact e0.hok.fresh (Nat.le_of_lt (x.above y c (PySem.mem_of_lookup h)))
  · unfold start
    show _ = N.length
    rw [List.length_append, List.length_map, List.length_replicate]
    omega
theorem fn_of {CX : CXT} {P : Program} {w : World} {K : PySem.W.Frag} {mg : Str → Option Value} {base : Heap} {k : Nat} {f : Addr} {name qual : Str} {params : Arguments} {body : List Stmt} {scope : Scope} {dV kV doc pm cdv ct oc : Value} {an od : Option Addr}
    {osl : Array (Option Value)} {N ps : List Str} {sp : Sp} (lk : K.lookup f = some ⟨oc, od, .func (PySem.W.fnOf name qual params body scope dV kV doc pm an cdv ct), osl⟩) (hcd : PySem.W.codeIn K cdv qual = true) (S : FnScope N ps scope)
    (len : ∀ vs H Q E, sp vs H Q E → vs.length = ps.length)
    (hbody : ∀ (A : Around) (outer : List Env) (s : Shared) (H : Hp) (vs : List V) (Q : VK) (E : XK), Room k (A.deeper (envOfC qual scope s.heap.objs.size f cdv)) → sp vs H Q E →
      ∃ t, PSs (cxOf CX P w K mg base N qual scope f cdv A outer s H E) body t ∧ t { nx := fun _ H' => Q .non H', rt := Q } (start N vs) H) :
    FnOk P w K mg base CX (k + 1) f (PySem.W.fnOf name qual params body scope dV kV doc pm an cdv ct) ps sp := by
  refine ⟨len, fun A outer s H args us vs Q E hr e0 hb r hsp => ?_⟩
  have hl := len _ _ _ _ hsp
  have KX : K.In s.heap := e0.mod.kin.keeps fun b o e => (e0.bs b o e).1
  have lim : s.heap.NoLimit := e0.mod.nolimit.keeps fun b o e => (e0.bs b o e).1
  have hkind : ∀ y ∈ ps.zip us, scope.names.lookup y.1 = some .local ∨ (scope.names.lookup y.1 = some .cell ∧ ((cellsFrom (s.heap.objs.size + 1) scope.names []).lookup y.1).isSome = true) := fun ⟨n, v⟩ hy => by
    rcases S.par n (List.of_mem_zip hy).1 with q | q
    · exact .inl q
    · exact .inr ⟨q, PySem.W.cellsFrom_some _ _ _ (.inl q)⟩
  refine codeAny_call_function hr.depth (KX _ _ lk) rfl S.co S.gen rfl (PySem.W.codeRec_of KX hcd) (hb _ _ _ _ ?_)
  refine wpAny_newFunctionEnv_cells S.kind hkind fun env he s1 x => ?_
  subst he
  refine ⟨lim.keeps x.toInCall.keep, codeAny_func ?_⟩
  obtain ⟨t, ht, hq⟩ := hbody A outer s H vs Q E (hr.deeper _) hsp
  have I : Inv (cxOf CX P w K mg base N qual scope f cdv A outer s H E) [] (start N vs) H s1 := inv_start S hr.hd e0 hl r x
  refine wpAny_mono (ht [] s1 (start N vs) H _ I hq) (fun fl s' hs => ?_) fun e s' hs => hs
  have fin : ∀ {σ' : St} {H' : Hp} {v : V} {u : Value}, Inv (cxOf CX P w K mg base N qual scope f cdv A outer s H E) [] σ' H' s' → RelV v u → Q v H' → CE outer P w H s Q u s' :=
    fun {σ' H' v u} J rv q => ⟨v, H', J.os, J.bare, J.base, J.hok, rv, q⟩
  cases fl with
  | ret u =>
    obtain ⟨v, σ', H', J, rv, q⟩ := hs
    exact fin J rv q
  | next =>
    obtain ⟨σ', H', J, q⟩ := hs
    exact fin (v := V.non) (u := Value.none) J rfl q
  | brk =>
    obtain ⟨_, _, _, q⟩ := hs
    exact False.elim q
  | cont =>
    obtain ⟨_, _, _, q⟩ := hs
    exact False.elim q
end L2
namespace L2
open PySem PySem.Spec PyProof.Rows
section
variable {X : Cx} {x : Str} {p pos : Pos} {e : Expr} {es : List Expr} {t : TA} {id T : String} {r : List V → Hp → VK → Prop}
def tCB (r : List V → Hp → VK → Prop) (t : TA) : TE := fun σ H Q => t σ H fun vs H1 => r vs H1 Q
theorem pe_callB (hc : CallR X (.builtin id) r) (hg : Gl X x) (hm : X.mg x = none) (hv : bootBuiltins x = some (.builtin id)) (ha : PA X (e :: es) t) (hn : x ≠ "__name__" := by decide) (hdb : (x == ("__debug__" : Str)) = false := by decide)
    (he : starEach (e :: es) X.env = (false, eval e X.env) :: starEach es X.env := by rfl) (hpl : (backTo pos (starEach es X.env)).any (·.1) = false := by rfl) : PE X (.Call (.Name x p) (e :: es) [] pos) (tCB r t) := by
  intro pins s σ H Q I h
  refine wpAny_Call_Name_kw (ld_blt I hg hm hv ?_ hn hdb)
  exact PyProof.Rows.callWith_builtin1 (thn (ha pos pins s σ H _ I h) fun us s1 ⟨vs, H1, I1, r1, q1⟩ => hc pins s1 σ H1 vs us Q I1 r1 q1) he hpl
theorem pe_callTy (hc : CallR X (.type T) r) (hg : Gl X x) (hm : X.mg x = none) (hv : bootBuiltins x = some (.type T)) (ha : PA X (e :: es) t) (hn : x ≠ "__name__" := by decide) (hdb : (x == ("__debug__" : Str)) = false := by decide)
    (he : starEach (e :: es) X.env = (false, eval e X.env) :: starEach es X.env := by rfl) (hpl : (backTo pos (starEach es X.env)).any (·.1) = false := by rfl) : PE X (.Call (.Name x p) (e :: es) [] pos) (tCB r t) := by
  intro pins s σ H Q I h
  refine wpAny_Call_Name_kw (ld_blt I hg hm hv ?_ hn hdb)
  exact PyProof.Rows.callWith_type1 (thn (ha pos pins s σ H _ I h) fun us s1 ⟨vs, H1, I1, r1, q1⟩ => hc pins s1 σ H1 vs us Q I1 r1 q1) he hpl
end
end L2
namespace HT
open PySem PyProof.Rows
section
open PySem.SeqAt
open PySem.AutoSeq1 (wpAny_loadPart')
open PySem.MeetsSeq PySem.MeetsSeq2 PySem.MeetsSeq3
end
section
variable {prog : Program} {w : World} {A : Around} {E : Value → Shared → Prop} {s : Shared}
def sIx (n d : Nat) : Option Int → Nat
  | none => d
  | some v => if v < 0 then (v + (n : Int)).toNat else min v.toNat n
end
end HT
namespace L2
open PySem PySem.Spec PyProof.Rows
abbrev TO := St → Hp → (Option Int → Hp → Prop) → Prop
def PO (X : Cx) (e : Option Expr) (t : TO) : Prop :=
  ∀ (pins : List (Addr × Obj)) (s : Shared) (σ : St) (H : Hp) (Q : Option Int → Hp → Prop), Inv X pins σ H s → t σ H Q →
    wpAny (model X.prog X.w) X.A (evalPart e X.env) (fun u s' => ∃ o H', Inv X pins σ H' s' ∧ IsPart u o ∧ Q o H') X.xe s
def tNoPart : TO := fun _ H Q => Q none H
def tPart (t : TE) : TO := fun σ H Q => t σ H fun x H1 => ∃ i, x = .int i ∧ Q (some i) H1
section
variable {X : Cx} {e : Expr} {te : TE} {lo hi : Option Expr} {tl th : TO} {pos p2 : Pos}
theorem po_none : PO X none tNoPart := by
  intro pins s σ H Q I h
  rw [evalPart_none]
  exact wpAny_pure ⟨none, H, I, .none, h⟩
theorem po_some (h : PE X e te) : PO X (some e) (tPart te) := by
  intro pins s σ H Q I hw
  rw [evalPart_some]
  refine thn (h pins s σ H _ I hw) fun u s1 ⟨x, H1, I1, r1, q1⟩ => ?_
  obtain ⟨i, rfl, q⟩ := q1
  obtain ⟨t, rfl⟩ := r1
  exact ⟨some i, H1, I1, .int i t, q⟩
def SlR (X : Cx) (r : V → Option Int → Option Int → Hp → VK → Prop) : Prop :=
  ∀ (pins : List (Addr × Obj)) (s : Shared) (σ : St) (H : Hp) (x : V) (v vl vu : Value) (lo hi : Option Int) (sl : Addr) (Q : VK), Inv X pins σ H s → RelV x v → s.heap.IsSliceOf sl vl vu .none → IsPart vl lo → IsPart vu hi → r x lo hi H Q →
    ∃ T id, typeLookup (.type T) "__getitem__" = pure (some (.builtin id)) ∧ s.TypeIs v T ∧ wpAny (model X.prog X.w) X.A (getItem v (.ref sl)) (EP X pins σ Q) X.xe s
def tSl (r : V → Option Int → Option Int → Hp → VK → Prop) (te : TE) (tl th : TO) : TE := fun σ H Q => te σ H fun x H1 => tl σ H1 fun l H2 => th σ H2 fun u H3 => r x l u H3 Q
theorem pe_slice {r : V → Option Int → Option Int → Hp → VK → Prop} (hr : SlR X r) (he : PE X e te) (hl : PO X lo tl) (hu : PO X hi th) : PE X (.Subscript e (.Slice lo hi none p2) pos) (tSl r te tl th) := by
  intro pins s σ H Q I h
  refine Subscript_ (thn (he pins s σ H _ I h) fun v s1 ⟨x, H1, I1, r1, q1⟩ => ?_)
  refine wpAny_Slice (thn (hl pins s1 σ H1 _ I1 q1) fun vl s2 ⟨l, H2, I2, pl, q2⟩ => thn (hu pins s2 σ H2 _ I2 q2) fun vu s3 ⟨u, H3, I3, pu, q3⟩ => ?_)
  rw [evalPart_none]
  refine wpAny_pure ?_
  have I4 : Inv X pins σ H3 { s3 with heap := s3.heap.push { cls := .type "slice", data := .fields #[vl, vu, .none] } } := I3.kept (t' := s3.toks) fun b ob q => Heap.get?_push_of_some _ q
  obtain ⟨T, id, hT, ht, hg⟩ := hr pins { s3 with heap := s3.heap.push { cls := .type "slice", data := .fields #[vl, vu, .none] } } σ H3 x v vl vu l u s3.heap.objs.size Q I4 r1 (Heap.IsSliceOf.new ..) pl pu q3
  show wpAny (model X.prog X.w) X.A (subscriptTail e (.Slice lo hi none p2) v (.ref s3.heap.objs.size)) (EP X pins σ Q) X.xe { s3 with heap := s3.heap.push { cls := .type "slice", data := .fields #[vl, vu, .none] } }
  exact tail_any (ops := [.ref s3.heap.objs.size, v]) ht hT hg (by with_unfolding_all rfl)
def cutV (xs : List V) (lo hi : Option Int) : List V := (xs.drop (HT.sIx xs.length 0 lo)).take (HT.sIx xs.length xs.length hi - HT.sIx xs.length 0 lo)
theorem cutV_length (xs : List V) (lo hi : Option Int) : (cutV xs lo hi).length ≤ xs.length := by
  unfold cutV
  rw [List.length_take, List.length_drop]
  omega
end
end L2
namespace L2
open PySem PySem.Spec PyProof.Rows
def ixN (n : Nat) (i : Int) : Option Nat := if 0 ≤ i then (if i < n then some i.toNat else none) else if -(n : Int) ≤ i then some (i + n).toNat else none
def atI {α : Type} (xs : List α) (i : Int) : Option α := (ixN xs.length i).bind fun j => xs[j]?
theorem ixN_seq {n : Nat} {i : Int} {j : Nat} (h : ixN n i = some j) : seqIndex? i n = some j ∧ j < n ∧ -(n : Int) ≤ i ∧ i < n := by
  unfold ixN at h
  by_cases h0 : 0 ≤ i
  · rw [if_pos h0] at h
    by_cases h1 : i < n
    · rw [if_pos h1] at h
      have e : i.toNat = j := Option.some.inj h
      exact ⟨by rw [seqIndex_of h0 h1, e], by omega, by omega, h1⟩
    · rw [if_neg h1] at h; cases h
  · rw [if_neg h0] at h
    by_cases h1 : -(n : Int) ≤ i
    · rw [if_pos h1] at h
      have e : (i + n).toNat = j := Option.some.inj h
      exact ⟨by rw [seqIndex_neg (by omega) h1, e], by omega, h1, by omega⟩
    · rw [if_neg h1] at h; cases h
theorem atI_get {α : Type} {xs : List α} {i : Int} {v : α} (h : atI xs i = some v) : ∃ j, seqIndex? i xs.length = some j ∧ xs[j]? = some v ∧ j < xs.length ∧ -(xs.length : Int) ≤ i ∧ i < xs.length := by
  unfold atI at h
  cases e : ixN xs.length i with
  | none => rw [e] at h; cases h
  | some j =>
    rw [e] at h
    obtain ⟨h1, h2, h3, h4⟩ := ixN_seq e
    exact ⟨j, h1, h, h2, h3, h4⟩
theorem atI_nat {α : Type} {xs : List α} {j : Nat} {v : α} (h : xs[j]? = some v) : atI xs (j : Int) = some v := by
  have hj : j < xs.length := (List.getElem?_eq_some_iff.mp h).1
  have e : ixN xs.length (j : Int) = some j := by
    unfold ixN
    rw [if_pos (by omega), if_pos (by omega)]; simp
  unfold atI; rw [e]; exact h
def PlainIx (b : Expr) : Prop := ∀ o i, subscripted b false o i = operate [o, i] (getItem o i)
def IxR (X : Cx) (r : R2) : Prop :=
  ∀ (value slice : Expr) (pins : List (Addr × Obj)) (s : Shared) (σ : St) (H : Hp) (x y : V) (v u : Value) (Q : VK), Inv X pins σ H s → RelV x v → RelV y u → r x y H Q →
    subscripted slice false v u = operate [v, u] (getItem v u) → wpAny (model X.prog X.w) X.A (subscriptTail value slice v u) (EP X pins σ Q) X.xe s
def MtR (X : Cx) (id : String) (r : V → List V → Hp → VK → Prop) : Prop :=
  ∀ (pins : List (Addr × Obj)) (s : Shared) (σ : St) (H : Hp) (x : V) (xs : List V) (v : Value) (us : List Value) (Q : VK), Inv X pins σ H s → RelV x v → Vals xs us → r x xs H Q →
    wpAny (model X.prog X.w) X.A (call (.builtin id) (v :: us)) (EP X pins σ Q) X.xe s
section
variable {X : Cx} {a b : Expr} {ta tb : TE} {pos : Pos}
theorem pe_ix {r : R2} (hr : IxR X r) (ha : PE X a ta) (hb : PE X b tb) (hs : PlainIx b) : PE X (.Subscript a b pos) (tOp r ta tb) := by
  intro pins s σ H Q I h
  exact Subscript_ (binT ha hb I h fun v u s2 x y H2 I2 rx ry q => hr a b pins s2 σ H2 x y v u Q I2 rx ry q (hs _ _))
def rIxL (K : PySem.W.Frag) : R2 := fun x y H Q => ∃ p xs i v, x = .ref p ∧ y = .int i ∧ SqL K H p xs ∧ atI xs i = some v ∧ Q v H
def rIxT (K : PySem.W.Frag) : R2 := fun x y H Q => ∃ p xs i v, x = .ref p ∧ y = .int i ∧ SqT K H p xs ∧ atI xs i = some v ∧ Q v H
theorem ix_list : IxR X (rIxL X.K) := by
  intro value slice pins s σ H x y v u Q I rx ry h hs
  obtain ⟨p, xs, i, z, rfl, rfl, hq, he, q⟩ := h
  cases rx
  obtain ⟨t, rfl⟩ := ry
  obtain ⟨its, r, pl, hz⟩ := I.list hq
  obtain ⟨j, h1, h2, h3, h4, h5⟩ := atI_get he
  obtain ⟨w, ew, rw'⟩ := r.get h2
  have hl := r.length
  have hn := line63
  have fin : EP X pins σ Q w s := ⟨z, H, I, rw', q⟩
  by_cases h0 : 0 ≤ i
  · have hj : i.toNat = j := by
      rw [seqIndex_of h0 h5] at h1
      exact Option.some.inj h1
    exact item_listR pl.isList h0 (by omega) (by rw [hj]; simpa using ew) fin hs
  · have hj : (i + (its.toArray.size : Int)).toNat = j := by
      rw [seqIndex_neg (by omega) h4] at h1
      rw [List.size_toArray, ← hl]
      exact Option.some.inj h1
    exact subscriptTail_builtinR (x := w) pl.isList.typeIs slot_list_getitem.lookup
      (wpAny_getItem_list_neg (Q := fun r s' => r = w ∧ EP X pins σ Q r s') pl.isList (by omega) (by rw [List.size_toArray] <;> omega) (by omega) (by rw [hj]; simpa using ew) ⟨rfl, fin⟩) hs
theorem ix_tup : IxR X (rIxT X.K) := by
  intro value slice pins s σ H x y v u Q I rx ry h hs
  obtain ⟨p, xs, i, z, rfl, rfl, hq, he, q⟩ := h
  cases rx
  obtain ⟨t, rfl⟩ := ry
  obtain ⟨its, r, pl, hz⟩ := I.tuple hq
  obtain ⟨j, h1, h2, h3, h4, h5⟩ := atI_get he
  obtain ⟨w, ew, rw'⟩ := r.get h2
  have hl := r.length
  have hn := line63
  have fin : EP X pins σ Q w s := ⟨z, H, I, rw', q⟩
  exact subscriptTail_builtinR (x := w) pl.typeIs slot_tuple_getitem.lookup
    (getItem_tuple (j := j) (Q := fun r s' => r = w ∧ EP X pins σ Q r s') pl (by omega) (by omega) (by rw [List.size_toArray, ← hl]; exact h1) (by simpa using ew) ⟨rfl, fin⟩) hs
theorem mapSeq_set (its : List Value) (n j : Nat) (u : Value) : Obj.mapSeq (·.setIfInBounds j u) { cls := .type "list", data := .seq its.toArray n } = { cls := .type "list", data := .seq (its.set j u).toArray n } := by
  simp [Obj.mapSeq]
theorem Inv.lst {pins : List (Addr × Obj)} {σ : St} {H : Hp} {s : Shared} {p : Addr} {xs : List V} (I : Inv X pins σ H s) (h : H p = some (.lst xs)) :
    ∃ (its : List Value) (n : Nat), Vals xs its ∧ s.heap.get? p = some { cls := .type "list", data := .seq its.toArray n } ∧ xs.length ≤ sizeLine := by
  obtain ⟨z, its, n, r, e⟩ := I.hok p _ h
  exact ⟨its, n, r, e, z⟩
theorem Inv.lstUpd {pins : List (Addr × Obj)} {σ : St} {H : Hp} {s : Shared} {p : Addr} {xs ys : List V} {its its' : List Value} {n n' : Nat} {f : Obj → Obj} (I : Inv X pins σ H s) (h : H p = some (.lst xs))
    (ho : s.heap.get? p = some { cls := .type "list", data := .seq its.toArray n }) (hf : f { cls := .type "list", data := .seq its.toArray n } = { cls := .type "list", data := .seq its'.toArray n' }) (r : Vals ys its') (hz : ys.length ≤ sizeLine) (t : Nat) :
    Inv X pins σ (upd H p (.lst ys)) { s with heap := s.heap.update p f, toks := t } := by
  have e : (s.heap.update p f).get? p = some { cls := .type "list", data := .seq its'.toArray n' } := by
    rw [Heap.get?_update_self f ho (by rw [hf] <;> rfl), hf]
  refine I.write (x := p) (e := p) (by rw [h]; trivial) (.inl rfl) (fun b u hb q => (Heap.get?_update_other _ _ (Ne.symm hb)).trans q) ⟨_, e⟩ ?_
  exact ⟨hz, its', n', r, e⟩
def rSetL : V → V → V → Hp → (Hp → Prop) → Prop := fun o i v H Q => ∃ p xs k j, o = .ref p ∧ i = .int k ∧ H p = some (.lst xs) ∧ ixN xs.length k = some j ∧ Q (upd H p (.lst (xs.set j v)))
theorem set_list : PSet X rSetL := by
  intro pins s σ H o i v ov iv u Q I ro ri rv h
  obtain ⟨p, xs, k, j, rfl, rfl, hp, hj, q⟩ := h
  cases ro
  obtain ⟨t, rfl⟩ := ri
  obtain ⟨its, n, r, ho, hz⟩ := I.lst hp
  obtain ⟨h1, h2, h3, h4⟩ := ixN_seq hj
  have hl := r.length
  have hn := line63
  have I' : Inv X pins σ (upd H p (.lst (xs.set j v))) { s with heap := s.heap.update p (Obj.mapSeq (·.setIfInBounds j u)) } :=
    I.lstUpd hp ho (mapSeq_set its n j u) (r.set rv j) (by rw [List.length_set]; exact hz) s.toks
  by_cases h0 : 0 ≤ k
  · have hk : k.toNat = j := by
      rw [seqIndex_of h0 h4] at h1
      exact Option.some.inj h1
    exact PySem.W.ki_setAt ho h0 (by omega) (by rw [List.size_toArray, ← hl]; exact h4) (by rw [hk]; exact ⟨_, I', q⟩)
  · have hk : (k + (its.toArray.size : Int)).toNat = j := by
      rw [seqIndex_neg (by omega) h3] at h1
      rw [List.size_toArray, ← hl]
      exact Option.some.inj h1
    exact PySem.W.ki_setBack ho (by omega) (by rw [List.size_toArray, ← hl]; exact h3) (by omega) (by rw [hk]; exact ⟨_, I', q⟩)
theorem slice_bounds (lo hi : Option Int) (n : Nat) : (sliceBounds lo hi none n).1 = ((HT.sIx n 0 lo : Nat) : Int) ∧ (sliceBounds lo hi none n).2.1 = ((HT.sIx n n hi : Nat) : Int) ∧ (sliceBounds lo hi none n).2.2 = 1 := by
  refine ⟨?_, ?_, rfl⟩
  · cases lo with
    | none => simp [sliceBounds, HT.sIx]
    | some i =>
      simp only [sliceBounds, HT.sIx, Option.getD_none, show (1 : Int) > 0 by decide, if_true]
      by_cases h : i < 0
      · simp only [h, if_true] <;> omega
      · simp only [h, if_false] <;> omega
  · cases hi with
    | none => simp [sliceBounds, HT.sIx]
    | some i =>
      simp only [sliceBounds, HT.sIx, Option.getD_none, show (1 : Int) > 0 by decide, if_true]
      by_cases h : i < 0
      · simp only [h, if_true] <;> omega
      · simp only [h, if_false] <;> omega
theorem slicePick_cut (its : List Value) (lo hi : Option Int) : slicePick its.toArray lo hi none = ((its.drop (HT.sIx its.length 0 lo)).take (HT.sIx its.length its.length hi - HT.sIx its.length 0 lo)).toArray := by
  obtain ⟨h1, h2, h3⟩ := slice_bounds lo hi its.toArray.size
  unfold slicePick
  rw [h1, h2, h3]
  simp only [sliceRange_one, pick_run, List.size_toArray] <;> rfl
def rSlL (K : PySem.W.Frag) : V → Option Int → Option Int → Hp → VK → Prop := fun x lo hi H Q => ∃ a xs, x = .ref a ∧ SqL K H a xs ∧ ∀ p, H p = none → Q (.ref p) (upd H p (.lst (cutV xs lo hi)))
theorem sl_list : SlR X (rSlL X.K) := by
  intro pins s σ H x v vl vu lo hi sl Q I rx hs pl pu h
  obtain ⟨a, xs, rfl, hx, q⟩ := h
  cases rx
  obtain ⟨its, r, ht, hz⟩ := I.list hx
  have hlen := r.length
  refine ⟨"list", _, slot_list_getitem.lookup, ht.isList.typeIs, ?_⟩
  refine wpAny_getItem_list_slice ht.isList hs pl pu .none (by simp) ?_ (by rw [List.size_toArray] <;> omega)
  rw [slicePick_cut, ← hlen]
  refine ⟨.ref s.heap.objs.size, _, I.laid (t' := s.toks) (o := .lst (cutV xs lo hi)) (fun b ob q => Heap.get?_push_of_some _ q) (Nat.le_refl _) ?_, rfl, q _ (I.hok.fresh (Nat.le_refl _))⟩
  exact ⟨Nat.le_trans (cutV_length xs lo hi) hz, _, 0, (r.drop (HT.sIx xs.length 0 lo)).take (HT.sIx xs.length xs.length hi - HT.sIx xs.length 0 lo), Heap.get?_push_size _ rfl⟩
def flatV : V → Bool
  | .non => true
  | .bl _ => true
  | .int _ => true
  | .str _ => true
  | _ => false
def eqV : V → V → Bool
  | .non, .non => true
  | .bl a, .bl b => a == b
  | .bl a, .int b => (if a then 1 else 0) == b
  | .int a, .bl b => a == (if b then 1 else 0)
  | .int a, .int b => a == b
  | .str a, .str b => a == b
  | _, _ => false
theorem eqAt_V {A : Around} {s : Shared} {y x : V} {u v : Value} (ry : RelV y u) (rx : RelV x v) (fy : flatV y = true) (fx : flatV x = true) : SeqAt.EqAt A s u v (eqV y x) := by
  cases y with
  | non =>
    cases ry
    cases x with
    | non => cases rx; exact SeqAt.EqAt.same _
    | bl b => cases rx; exact SeqAt.EqAt.none_bool b
    | int b => obtain ⟨t, rfl⟩ := rx; exact SeqAt.EqAt.none_int b t
    | str b => obtain ⟨t, rfl⟩ := rx; exact SeqAt.EqAt.none_str b t
    | _ => exact absurd (show false = true from fx) Bool.false_ne_true
  | bl a =>
    cases ry
    cases x with
    | non => cases rx; exact SeqAt.EqAt.bool_none a
    | bl b => cases rx; exact SeqAt.EqAt.bool_bool a b
    | int b => obtain ⟨t, rfl⟩ := rx; exact SeqAt.EqAt.bool_int a b t
    | str b => obtain ⟨t, rfl⟩ := rx; exact SeqAt.EqAt.bool_str a b t
    | _ => exact absurd (show false = true from fx) Bool.false_ne_true
  | int a =>
    obtain ⟨t', rfl⟩ := ry
    cases x with
    | non => cases rx; exact SeqAt.EqAt.int_none a t'
    | bl b => cases rx; exact SeqAt.EqAt.int_bool a t' b
    | int b => obtain ⟨t, rfl⟩ := rx; exact SeqAt.EqAt.int_int a t' b t
    | str b => obtain ⟨t, rfl⟩ := rx; exact SeqAt.EqAt.int_str a t' b t
    | _ => exact absurd (show false = true from fx) Bool.false_ne_true
  | str a =>
    obtain ⟨t', rfl⟩ := ry
    cases x with
    | non => cases rx; exact SeqAt.EqAt.str_none a t'
    | bl b => cases rx; exact SeqAt.EqAt.str_bool a t' b
    | int b => obtain ⟨t, rfl⟩ := rx; exact SeqAt.EqAt.str_int a t' b t
    | str b => obtain ⟨t, rfl⟩ := rx; exact SeqAt.EqAt.str_str a t' b t
    | _ => exact absurd (show false = true from fx) Bool.false_ne_true
  | _ => exact absurd (show false = true from fy) Bool.false_ne_true
def eqU (x : V) (u : Value) : Bool := match u with
  | .none => eqV .non x
  | .bool b => eqV (.bl b) x
  | .int i _ => eqV (.int i) x
  | .str z _ => eqV (.str z) x
  | _ => false
theorem eqU_of {x y : V} {u : Value} (r : RelV y u) (f : flatV y = true) : eqU x u = eqV y x := by
  cases y with
  | non => cases r; rfl
  | bl b => cases r; rfl
  | int i => obtain ⟨t, rfl⟩ := r; rfl
  | str z => obtain ⟨t, rfl⟩ := r; rfl
  | _ => exact absurd (show false = true from f) Bool.false_ne_true
theorem any_eqU {x : V} : ∀ {xs : List V} {us : List Value}, Vals xs us → xs.all flatV = true → us.any (eqU x) = xs.any fun y => eqV y x
  | _, _, .nil, _ => rfl
  | y :: xs, u :: us, .cons r t, f => by
    rw [List.all_cons, Bool.and_eq_true] at f
    rw [List.any_cons, List.any_cons, eqU_of r f.1, any_eqU t f.2]
theorem mem_eqAt {A : Around} {s : Shared} {x : V} {v : Value} (rx : RelV x v) (fx : flatV x = true) : ∀ {xs : List V} {us : List Value}, Vals xs us → xs.all flatV = true → ∀ u ∈ us, SeqAt.EqAt A s u v (eqU x u)
  | _, _, .nil, _ => fun u hu => by cases hu
  | y :: xs, u :: us, .cons r t, f => fun u' hu => by
    rw [List.all_cons, Bool.and_eq_true] at f
    rcases List.mem_cons.mp hu with rfl | hu
    · rw [eqU_of r f.1]; exact eqAt_V r rx f.1 fx
    · exact mem_eqAt rx fx t f.2 u' hu
def inV (x : V) (xs : List V) : Bool := xs.any fun y => eqV y x
def rIn (K : PySem.W.Frag) (neg : Bool) : R2 := fun x y H Q => ∃ p xs, y = .ref p ∧ (SqL K H p xs ∨ SqT K H p xs) ∧ flatV x = true ∧ xs.all flatV = true ∧ Q (.bl (if neg then !inV x xs else inV x xs)) H
theorem op_in_seq : OpR X (compareOp .In) (rIn X.K false) := by
  intro pins s σ H x y v u Q I rx ry h
  obtain ⟨p, xs, rfl, hq, fx, fs, q⟩ := h
  cases ry
  rcases hq with hq | hq
  · obtain ⟨its, r, pl, hz⟩ := I.list hq
    refine SeqAt.in_listAt (eqU x) pl.isList (fun w hw => mem_eqAt rx fx r fs w (by simpa using hw)) ⟨.bl _, H, I, rfl, ?_⟩
    rw [show its.toArray.any (eqU x) = its.any (eqU x) by simp, any_eqU r fs]
    exact q
  · obtain ⟨its, r, pl, hz⟩ := I.tuple hq
    refine SeqAt.in_tupleAt (eqU x) pl (fun w hw => mem_eqAt rx fx r fs w (by simpa using hw)) ⟨.bl _, H, I, rfl, ?_⟩
    rw [show its.toArray.any (eqU x) = its.any (eqU x) by simp, any_eqU r fs]
    exact q
theorem call_len_seq : CallR X (.builtin "len") (fun xs H Q => ∃ p ys, xs = [.ref p] ∧ (SqL X.K H p ys ∨ SqT X.K H p ys) ∧ Q (.int ys.length) H) := by
  intro pins s σ H xs us Q I r h
  obtain ⟨p, ys, rfl, hq, q⟩ := h
  obtain ⟨u, rfl, rx⟩ := vals1 r
  cases rx
  have hn := line63
  rcases hq with hq | hq
  · obtain ⟨its, r', pl, hz⟩ := I.list hq
    have hlen := r'.length
    exact Calls.call_len_list pl.isList (by simp only [List.size_toArray] <;> omega) ⟨.int ys.length, H, I.tok _, ⟨s.toks + 1, by rw [List.size_toArray, hlen]⟩, q⟩
  · obtain ⟨its, r', pl, hz⟩ := I.tuple hq
    have hlen := r'.length
    exact len_tuple pl (by simp only [List.size_toArray] <;> omega) ⟨.int ys.length, H, I.tok _, ⟨s.toks + 1, by rw [List.size_toArray, hlen]⟩, q⟩
theorem call_list_of : CallR X (.type "list") (fun xs H Q => ∃ p ys, xs = [.ref p] ∧ (SqL X.K H p ys ∨ SqT X.K H p ys) ∧ ∀ l, H l = none → Q (.ref l) (upd H l (.lst ys))) := by
  intro pins s σ H xs us Q I r h
  obtain ⟨p, ys, rfl, hq, q⟩ := h
  obtain ⟨u, rfl, rx⟩ := vals1 r
  cases rx
  have fin : ∀ (its : List Value), Vals ys its → ys.length ≤ sizeLine → ∀ (h' : Heap) (c' : Nat), (∀ b o', s.heap.get? b = some o' → h'.get? b = some o') →
      h'.get? s.heap.objs.size = some { cls := .type "list", dict := none, data := .seq its.toArray c', slots := #[] } → EP X pins σ Q (.ref s.heap.objs.size) { s with heap := h' } := fun its r' hz h' c' kp e =>
    ⟨.ref s.heap.objs.size, _, I.laid (t' := s.toks) kp (Nat.le_refl _) (show ObjOk X.prog X.w _ h' _ (.lst ys) from ⟨hz, its, c', r', e⟩), rfl, q _ (I.hok.fresh (Nat.le_refl _))⟩
  rcases hq with hq | hq
  · obtain ⟨its, r', pl, hz⟩ := I.list hq
    have hlen := r'.length
    obtain ⟨o, ho, hc, n, hd⟩ := pl.isList
    exact call_list_seq p (.inl rfl) ho hc hd (fun h' c' kp e => fin its r' hz h' c' kp e) (by simp only [List.size_toArray] <;> omega)
  · obtain ⟨its, r', pl, hz⟩ := I.tuple hq
    have hlen := r'.length
    obtain ⟨o, ho, hc, n, hd⟩ := pl
    exact call_list_seq p (.inr rfl) ho hc hd (fun h' c' kp e => fin its r' hz h' c' kp e) (by simp only [List.size_toArray] <;> omega)
def tyV (K : PySem.W.Frag) (T : String) (x : V) (H : Hp) : Prop := match x with
  | .str _ => T = "str"
  | .int _ => T = "int"
  | .ref p => (T = "list" ∧ ∃ xs, SqL K H p xs) ∨ (T = "tuple" ∧ ∃ o, K.lookup p = some o ∧ o.cls = .type "tuple" ∧ o.dict = none) ∨
      (T = "dict" ∧ ((∃ kvs, H p = some (.dK kvs)) ∨ ∃ kvs, H p = some (.dT kvs))) ∨ (T = "set" ∧ ∃ S n, H p = some (.set S n))
  | _ => False
theorem tyV_is {pins : List (Addr × Obj)} {σ : St} {H : Hp} {s : Shared} {T : String} {x : V} {v : Value} (I : Inv X pins σ H s) (r : RelV x v) (ty : tyV X.K T x H) :
    s.TypeIs v T ∧ ∀ a, v = .ref a → ∃ ob, s.heap.get? a = some ob ∧ ob.dict = none := by
  cases x with
  | str z =>
    obtain ⟨t, rfl⟩ := r
    cases (show T = "str" from ty)
    exact ⟨typeIs_str s z t, fun _ e => nomatch e⟩
  | int i =>
    obtain ⟨t, rfl⟩ := r
    cases (show T = "int" from ty)
    exact ⟨typeIs_int s i t, fun _ e => nomatch e⟩
  | ref p =>
    cases r
    rcases ty with ⟨rfl, xs, hq⟩ | ⟨rfl, o, hk, hc, hd⟩ | ⟨rfl, hk⟩ | ⟨rfl, S, n, hk⟩
    · obtain ⟨its, _, pl, _⟩ := I.list hq
      refine ⟨pl.isList.typeIs, fun a e => ?_⟩
      cases e
      obtain ⟨o, n, e, c, hd, _⟩ := pl
      exact ⟨o, e, hd⟩
    · refine ⟨⟨o, I.kIn p o hk, hc⟩, fun a e => ?_⟩
      cases e
      exact ⟨o, I.kIn _ o hk, hd⟩
    · have z : ∃ o, s.heap.get? p = some o ∧ o.ExactDict := by
        rcases hk with ⟨kvs, hk⟩ | ⟨kvs, hk⟩
        · obtain ⟨_, _, _, _, o, _, _, e, ex, _⟩ := I.hok p _ hk
          exact ⟨o, e, ex⟩
        · obtain ⟨_, _, _, _, o, _, _, e, ex, _⟩ := I.hok p _ hk
          exact ⟨o, e, ex⟩
      obtain ⟨o, e, ex⟩ := z
      refine ⟨⟨o, e, ex.1⟩, fun a e2 => ?_⟩
      cases e2
      exact ⟨o, e, ex.2.1⟩
    · obtain ⟨o, _, _, _, e, ex, _⟩ := I.hok p _ hk
      refine ⟨⟨o, e, ex.1⟩, fun a e2 => ?_⟩
      cases e2
      exact ⟨o, e, ex.2.1⟩
  | _ => exact False.elim ty
def tBM (K : PySem.W.Frag) (T : String) (r : V → List V → Hp → VK → Prop) (to : TE) (t : TA) : TE := fun σ H Q => to σ H fun x H1 => tyV K T x H1 ∧ t σ H1 fun xs H2 => r x xs H2 Q
variable {o e : Expr} {es : List Expr} {to : TE} {t : TA} {name : Str} {apos cpos : Pos} {T id : String} {r : V → List V → Hp → VK → Prop}
theorem pe_bm (pa : PlainAttrs T) (slot : Slot T name id) (hty : typeOf (.builtin id) = pure (.type "method_descriptor")) (hm : MtR X id r) (ho : PE X o to) (ha : PA X (e :: es) t)
    (hbase : attributeBase o name X.env (eval o X.env) = eval o X.env := by rfl)
    (hfew : ((backTo cpos (starEach (e :: es) X.env)).all (fun x => !x.1) && (backToKw cpos (keywordEach [] X.env)).all (fun x => x.1.isSome)
      && decide ((e :: es).length + ([] : List Keyword).length + (if ([] : List Keyword).isEmpty then 0 else 1) < 30)) = true := by rfl)
    (hline : (apos.endLine == cpos.line) = true := by rfl) (hs : starEach (e :: es) X.env = (false, eval e X.env) :: starEach es X.env := by rfl) (hplain : (backTo cpos (starEach es X.env)).any (·.1) = false := by rfl) :
    PE X (.Call (.Attribute o name apos) (e :: es) [] cpos) (tBM X.K T r to t) := by
  intro pins s σ H Q I h
  refine wpAny_Call_method_late hbase hfew hline rfl (thn (ho pins s σ H _ I h) fun v s1 ⟨x, H1, I1, r1, ty, q1⟩ => ?_)
  obtain ⟨h1, h2⟩ := tyV_is I1 r1 ty
  refine ⟨T, id, pa, slot, hty, h1, h2, ?_⟩
  have hA := ha cpos pins s1 σ H1 _ I1 q1
  rw [hs] at hA ⊢
  refine Calls.callWith_builtin (by show (false || (backTo cpos (starEach es X.env)).any (·.1)) = false; rw [hplain] <;> rfl) (Calls.evalArgs_plain ?_)
  exact thn hA fun us s2 ⟨vs, H2, I2, r2, q2⟩ => hm pins s2 σ H2 x vs v us Q I2 r1 r2 q2
end
end L2
namespace L2
open PySem PySem.Spec PyProof.Rows
def MtM (X : Cx) (id : String) (r : V → List V → Hp → VK → Prop) : Prop :=
  ∀ (pins : List (Addr × Obj)) (s : Shared) (σ : St) (H : Hp) (x : V) (xs : List V) (v : Value) (us : List Value) (Q : VK), Inv X pins σ H s → RelV x v → Vals xs us → r x xs H Q →
    wpAny (model X.prog X.w) X.A (call (.builtin id) (v :: us)) (EP X pins σ Q) X.xe s
theorem Vals.one : ∀ {x : V} {us : List Value}, Vals [x] us → ∃ u, us = [u] ∧ RelV x u
  | _, _, .cons r .nil => ⟨_, rfl, r⟩
section
variable {X : Cx} {pins : List (Addr × Obj)} {σ : St} {H : Hp} {s : Shared} {l b : Addr} {xs ys zs : List V}
theorem Inv.lset {its its' : List Value} {n : Nat} {f : Array Value → Array Value} {t' : Nat} (I : Inv X pins σ H s) (hH : H l = some (.lst xs))
    (e : s.heap.get? l = some { cls := .type "list", data := .seq its.toArray n }) (hf : f its.toArray = its'.toArray) (hv : Vals ys its') (hz : ys.length ≤ sizeLine) :
    Inv X pins σ (upd H l (.lst ys)) { s with heap := s.heap.update l (Obj.mapSeq f), toks := t' } := by
  have q := PySem.IsL.update e f
  rw [hf] at q
  refine I.write (x := l) (e := l) (by rw [hH]; exact trivial) (.inl rfl) (fun b' u hb hu => (Heap.get?_update_other s.heap (Obj.mapSeq f) (Ne.symm hb)).trans hu) ⟨_, q⟩ ?_
  exact ⟨hz, its', _, hv, q⟩
theorem Inv.lnew {its : List Value} {t' : Nat} (I : Inv X pins σ H s) (hv : Vals ys its) (hz : ys.length ≤ sizeLine) :
    Inv X pins σ (upd H s.heap.objs.size (.lst ys)) { s with heap := s.heap.push { cls := .type "list", data := .seq its.toArray }, toks := t' } :=
  I.laid (fun _ _ q => Heap.get?_push_of_some _ q) (Nat.le_refl _) ⟨hz, its, 0, hv, Heap.get?_push_size _ rfl⟩
theorem Inv.fresh (I : Inv X pins σ H s) : H s.heap.objs.size = none := I.hok.fresh (Nat.le_refl _)
theorem Inv.lstM (I : Inv X pins σ H s) (hH : H l = some (.lst xs)) : xs.length ≤ sizeLine ∧ ∃ (its : List Value) (n : Nat), Vals xs its ∧ xs.length = its.length ∧ s.heap.get? l = some { cls := .type "list", data := .seq its.toArray n } := by
  obtain ⟨z, its, n, r, e⟩ := I.hok l _ hH
  exact ⟨z, its, n, r, r.length, e⟩
theorem notLongL {n : Nat} (h : n ≤ sizeLine) : Builtin.List.listTooLong n = false := by
  unfold Builtin.List.listTooLong
  exact decide_eq_false (by omega)
end
section
variable {X : Cx}
def rAppend : V → List V → Hp → VK → Prop := fun x vs H Q => ∃ l xs y, x = .ref l ∧ vs = [y] ∧ H l = some (.lst xs) ∧ xs.length < sizeLine ∧ Q .non (upd H l (.lst (xs ++ [y])))
theorem mt_append : MtM X "list.append" rAppend := by
  intro pins s σ H x vs v us Q I rx rv h
  obtain ⟨l, xs, y, rfl, rfl, hH, hz, q⟩ := h
  cases rx
  obtain ⟨u, rfl, ru⟩ := rv.one
  obtain ⟨z, its, n, r, hl, e⟩ := I.lstM hH
  refine call_meets F.slot_list_append ⟨_, e, rfl⟩ F.entry_list_append (F.args_list_append_2 _ _) (PySem.list_append l its.toArray n u (by rw [List.size_toArray]; omega)) ⟨e, ?_⟩
  refine ⟨.non, _, I.lset (its' := its ++ [u]) hH e (by simp) (r.append (.cons ru .nil)) ?_, rfl, q⟩
  rw [List.length_append, List.length_singleton]
  omega
def rExtend : V → List V → Hp → VK → Prop := fun x vs H Q => ∃ l b xs zs, x = .ref l ∧ vs = [.ref b] ∧ H l = some (.lst xs) ∧ H b = some (.lst zs) ∧ xs.length + zs.length ≤ sizeLine ∧ Q .non (upd H l (.lst (xs ++ zs)))
theorem mt_extend : MtM X "list.extend" rExtend := by
  intro pins s σ H x vs v us Q I rx rv h
  obtain ⟨l, b, xs, zs, rfl, rfl, hH, hB, hz, q⟩ := h
  cases rx
  obtain ⟨u, rfl, ru⟩ := rv.one
  cases ru
  obtain ⟨z, its, n, r, hl, e⟩ := I.lstM hH
  obtain ⟨z2, its2, n2, r2, hl2, e2⟩ := I.lstM hB
  have hsz : its.toArray.size + its2.toArray.size ≤ sizeLine := by rw [List.size_toArray, List.size_toArray]; omega
  have hlong : ¬ (!its.toArray.isEmpty && Builtin.List.listTooLong (its.toArray.size + its2.toArray.size)) = true := by
    rw [notLongL hsz, Bool.and_false]
    exact Bool.false_ne_true
  refine call_meets F.slot_list_extend ⟨_, e, rfl⟩ F.entry_list_extend (F.args_list_extend_2 _ _)
    (AutoSeq1.list_extend_list_list_0 l its.toArray n b its2.toArray n2 hlong (by rw [List.size_toArray]; omega) (by omega)) ⟨e, e2, ?_⟩
  refine ⟨.non, _, I.lset (its' := its ++ its2) hH e (by simp) (r.append r2) ?_, rfl, q⟩
  rw [List.length_append]
  omega
def rCat : R2 := fun x y H Q => ∃ l b xs zs, x = .ref l ∧ y = .ref b ∧ H l = some (.lst xs) ∧ H b = some (.lst zs) ∧ xs.length + zs.length ≤ sizeLine ∧ ∀ p, H p = none → Q (.ref p) (upd H p (.lst (xs ++ zs)))
theorem op_cat : OpR X (binaryOp .Add) rCat := by
  intro pins s σ H x y v u Q I rx ry h
  obtain ⟨l, b, xs, zs, rfl, rfl, hH, hB, hz, q⟩ := h
  cases rx
  cases ry
  obtain ⟨z, its, n, r, hl, e⟩ := I.lstM hH
  obtain ⟨z2, its2, n2, r2, hl2, e2⟩ := I.lstM hB
  refine PySem.P.add_list e e2 ?_ (by rw [List.size_toArray, List.size_toArray]; omega)
  have ea : its.toArray ++ its2.toArray = (its ++ its2).toArray := by simp
  rw [ea]
  exact ⟨.ref _, _, I.lnew (t' := s.toks) (r.append r2) (by rw [List.length_append]; omega), rfl, q _ I.fresh⟩
end
section
variable {prog : Program} {w : World} {A : Around} {E : Value → Shared → Prop} {s : Shared}
set_option maxRecDepth 100000 in
end
section
variable {X : Cx}
end
end L2
namespace L2
open PySem PySem.Spec PyProof.Rows
theorem Vals.ints : ∀ {ns : List Int} {us : List Value}, Vals (ns.map V.int) us → IntsAre us ns
  | [], us, h => by
    rw [List.map_nil] at h
    cases h
    exact IntsAre.nil
  | n :: ns, us, h => by
    rw [List.map_cons] at h
    cases h with
    | cons r t =>
      obtain ⟨k, rfl⟩ := r
      exact IntsAre.cons n k (Vals.ints t)
theorem Vals.ref1 {a : Addr} {us : List Value} (r : Vals [V.ref a] us) : us = [Value.ref a] := by
  cases r with
  | cons r t =>
    cases t
    cases r
    rfl
section
variable {prog : Program} {w : World} {A : Around} {E : Value → Shared → Prop} {s : Shared} {l : Addr} {its : List Value} {ns : List Int} {Q : Value → Shared → Prop}
theorem sum_raw (hh : A.handled = none) (hl : s.heap.IsList l its.toArray) (hi : IntsAre its ns)
    (h : ∀ h' tk t', (∀ b o, s.heap.get? b = some o → h'.get? b = some o) → Q (.int ns.sum t') { s with heap := h', toks := tk }) : wpAny (model prog w) A (call (.builtin "sum") [.ref l]) Q E s := by
  obtain ⟨xs, e⟩ := hi.allInts.items
  have hn : numsOf (intItems xs).toList = ns := by rw [← e]; exact hi.numsOf
  rw [nums_intItems] at hn
  rw [e] at hl
  refine PySem.sum_intListG hh hl fun h' tk t' hk => ?_
  have := h h' tk t' hk
  rw [preSum_eq, List.take_of_length_le (by simp), hn]; exact this
end
section
variable {X : Cx}
def rSum (K : PySem.W.Frag) : List V → Hp → VK → Prop := fun vs H Q => ∃ (a : Addr) (ns : List Int), vs = [V.ref a] ∧ SqL K H a (ns.map V.int) ∧ Q (.int ns.sum) H
theorem cr_sum (hc : X.calm = true) : CallR X (.builtin "sum") (rSum X.K) := by
  intro pins s σ H vs us Q I r h
  obtain ⟨a, ns, rfl, hs, q⟩ := h
  obtain ⟨its, rv, hl, _⟩ := I.list hs
  rw [Vals.ref1 r]
  exact sum_raw (I.ok.hd hc) hl.isList rv.ints fun h' tk t' hk => ⟨.int _, H, I.kept hk, ⟨_, rfl⟩, q⟩
end
section
variable {X : Cx}
end
section
variable {X : Cx}
end
section
variable {X : Cx}
end
section
variable {X : Cx} {pins : List (Addr × Obj)} {σ : St} {H : Hp} {s : Shared}
end
section
variable {X : Cx}
end
end L2
namespace L2
open PySem PySem.Spec PyProof.Rows
abbrev CellAt (h : Heap) (c : Addr) (v : Option Value) : Prop := h.IsCell c v
def relS (scope sc : Scope) : Scope :=
  { scope with names := scope.names.map fun (n, k) => if (k == .free && sc.kind == .function && sc.names.lookup n == some .cell) then (n, .cell) else (n, k) }
def cloFrom (cells : List (Str × Addr)) : List (Str × NameKind) → List (Str × Addr) → List (Str × Addr)
  | [], acc => acc
  | (n, k) :: r, acc => if k == .free then cloFrom cells r ((n, (cells.lookup n).getD 0) :: acc) else cloFrom cells r acc
theorem closure_loop (env : Env) (f : Str × NameKind → List (Str × Addr) → Sem (ForInStep (List (Str × Addr))))
    (hf : ∀ n k c, f (n, k) c = if k == .free then (do let a ← cellOf env n; pure (.yield ((n, a) :: c))) else pure (.yield c)) :
    ∀ (names : List (Str × NameKind)) (acc : List (Str × Addr)), (∀ y ∈ names, y.2 = .free → ∃ c, env.cells.lookup y.1 = some c) → forIn names acc f = pure (cloFrom env.cells names acc)
  | [], acc, _ => by rw [List.forIn_nil]; rfl
  | (n, k) :: r, acc, h => by
    rw [List.forIn_cons, hf]
    have ih := fun acc => closure_loop env f hf r acc fun y hy => h y (List.mem_cons_of_mem _ hy)
    unfold cloFrom
    by_cases hk : (k == NameKind.free) = true
    · rw [if_pos hk, if_pos hk]
      obtain ⟨c, hc⟩ := h (n, k) List.mem_cons_self (by simpa using hk)
      have e : cellOf env n = pure c := by unfold cellOf; rw [hc]
      rw [e]
      have e2 : (env.cells.lookup n).getD 0 = c := by rw [hc]; rfl
      rw [e2]
      exact ih _
    · rw [if_neg hk, if_neg hk]
      exact ih _
theorem closure_ok {scope : Scope} {env : Env} (h : ∀ y ∈ scope.names, y.2 = .free → ∃ c, env.cells.lookup y.1 = some c) : closureFor scope env = pure (cloFrom env.cells scope.names []) := by
  simp only [closureFor]
  rw [closure_loop env _ (fun n k c => rfl) scope.names [] h]
  rfl
theorem mem_lookup {α : Type} : ∀ {l : List (Str × α)} {n : Str} {c : α}, (n, c) ∈ l → ∃ c', l.lookup n = some c'
  | (k, v) :: r, n, c, h => by
    rw [List.lookup_cons]
    cases hb : n == k with
    | true => exact ⟨_, rfl⟩
    | false =>
      rcases List.mem_cons.mp h with e | h
      · cases e; simp at hb
      · exact mem_lookup h
theorem cloFrom_mem {cells : List (Str × Addr)} : ∀ {names : List (Str × NameKind)} {acc : List (Str × Addr)} {n : Str} {c : Addr}, (n, c) ∈ cloFrom cells names acc → (n, c) ∈ acc ∨ ((n, .free) ∈ names ∧ c = (cells.lookup n).getD 0)
  | [], _, _, _, h => .inl h
  | (m, k) :: r, acc, n, c, h => by
    unfold cloFrom at h
    split at h
    · rename_i hk
      have hk : k = .free := by simpa using hk
      rcases cloFrom_mem h with h | ⟨h1, h2⟩
      · rcases List.mem_cons.mp h with e | h
        · cases e; exact .inr ⟨hk ▸ List.mem_cons_self, rfl⟩
        · exact .inl h
      · exact .inr ⟨List.mem_cons_of_mem _ h1, h2⟩
    · rcases cloFrom_mem h with h | ⟨h1, h2⟩
      · exact .inl h
      · exact .inr ⟨List.mem_cons_of_mem _ h1, h2⟩
theorem cloFrom_acc {cells : List (Str × Addr)} : ∀ {names : List (Str × NameKind)} {acc : List (Str × Addr)} {p : Str × Addr}, p ∈ acc → p ∈ cloFrom cells names acc
  | [], _, _, h => h
  | (m, k) :: r, acc, p, h => by
    unfold cloFrom
    split
    · exact cloFrom_acc (List.mem_cons_of_mem _ h)
    · exact cloFrom_acc h
theorem cloFrom_has {cells : List (Str × Addr)} : ∀ {names : List (Str × NameKind)} {acc : List (Str × Addr)} {n : Str}, (n, .free) ∈ names → (n, (cells.lookup n).getD 0) ∈ cloFrom cells names acc
  | (m, k) :: r, acc, n, h => by
    unfold cloFrom
    rcases List.mem_cons.mp h with e | h
    · cases e
      exact cloFrom_acc List.mem_cons_self
    · split
      · exact cloFrom_has h
      · exact cloFrom_has h
theorem cells_mem : ∀ {names : List (Str × NameKind)} {h : Heap} {acc : List (Str × Addr)} {x : Str} {c : Addr}, (x, c) ∈ cellsFrom h.objs.size names acc →
    (x, c) ∈ acc ∨ ((x, .cell) ∈ names ∧ h.objs.size ≤ c ∧ CellAt (pushCells h names) c none)
  | [], _, _, _, _, h => .inl h
  | (n, k) :: r, h, acc, x, c, hm => by
    unfold cellsFrom at hm
    unfold pushCells
    split at hm
    · rename_i hk
      rw [if_pos hk]
      have hk : k = .cell := by simpa using hk
      rw [← Heap.size_push h { cls := .type "cell", data := .cell none }] at hm
      rcases cells_mem hm with hm | ⟨h1, h2, h3⟩
      · rcases List.mem_cons.mp hm with e | hm
        · cases e
          exact .inr ⟨hk ▸ List.mem_cons_self, Nat.le_refl _, _, pushCells_keeps r _ _ _ (Heap.get?_push_size _ rfl), rfl⟩
        · exact .inl hm
      · rw [Heap.size_push] at h2
        exact .inr ⟨List.mem_cons_of_mem _ h1, Nat.le_of_succ_le h2, h3⟩
    · rename_i hk
      rw [if_neg hk]
      rcases cells_mem hm with hm | ⟨h1, h2, h3⟩
      · exact .inl hm
      · exact .inr ⟨List.mem_cons_of_mem _ h1, h2, h3⟩
theorem cells_acc : ∀ {names : List (Str × NameKind)} {n : Nat} {acc : List (Str × Addr)} {p : Str × Addr}, p ∈ acc → p ∈ cellsFrom n names acc
  | [], _, _, _, h => h
  | (m, k) :: r, n, acc, p, h => by
    unfold cellsFrom
    split
    · exact cells_acc (List.mem_cons_of_mem _ h)
    · exact cells_acc h
theorem cells_has : ∀ {names : List (Str × NameKind)} {n : Nat} {acc : List (Str × Addr)} {x : Str}, (x, .cell) ∈ names → ∃ c, (x, c) ∈ cellsFrom n names acc
  | (m, k) :: r, n, acc, x, h => by
    unfold cellsFrom
    rcases List.mem_cons.mp h with e | h
    · cases e
      exact ⟨n, cells_acc List.mem_cons_self⟩
    · split
      · exact cells_has h
      · exact cells_has h
theorem cells_inj : ∀ {names : List (Str × NameKind)} {h : Heap} {acc : List (Str × Addr)} {x y : Str} {c : Addr}, (∀ p ∈ acc, p.2 < h.objs.size) → (∀ x y c, (x, c) ∈ acc → (y, c) ∈ acc → x = y) →
    (x, c) ∈ cellsFrom h.objs.size names acc → (y, c) ∈ cellsFrom h.objs.size names acc → x = y
  | [], _, _, _, _, _, _, hi, h1, h2 => hi _ _ _ h1 h2
  | (n, k) :: r, h, acc, x, y, c, hl, hi, h1, h2 => by
    unfold cellsFrom at h1 h2
    split at h1
    · rename_i hk
      rw [if_pos hk] at h2
      rw [← Heap.size_push h { cls := .type "cell", data := .cell none }] at h1 h2
      refine cells_inj (h := h.push _) (fun p hp => ?_) (fun x y c a b => ?_) h1 h2
      · rw [Heap.size_push]
        rcases List.mem_cons.mp hp with rfl | hp
        · exact Nat.lt_succ_self _
        · exact Nat.lt_succ_of_lt (hl p hp)
      · rcases List.mem_cons.mp a with e | a <;> rcases List.mem_cons.mp b with e' | b
        · cases e; cases e'; rfl
        · cases e; exact absurd (hl _ b) (Nat.lt_irrefl _)
        · cases e'; exact absurd (hl _ a) (Nat.lt_irrefl _)
        · exact hi _ _ _ a b
    · rename_i hk
      rw [if_neg hk] at h2
      exact cells_inj hl hi h1 h2
theorem newEnv_comp {M : Model} {A : Around} {E : Value → Shared → Prop} {s : Shared} {scope : Scope} {globals : Addr} {closure : List (Str × Addr)} {qual : Str} {func : Option Addr} {code : Value} {around : Env} {builtins : Addr} {Q : Env → Shared → Prop}
    (h : Q (newEnv scope s.heap.objs.size globals (cellsFrom (s.heap.objs.size + 1) scope.names closure) qual func code (some around) builtins)
      { s with heap := pushCells (s.heap.push { cls := .type "dict", data := .dict #[] }) scope.names }) :
    wpAny M A (newFunctionEnv scope globals closure [] qual func code (some around) builtins) Q E s := by
  simp only [newFunctionEnv, Option.isSome_some, if_true]
  refine wpAny_bind (wpAny_alloc ?_)
  refine wpAny_bind (wpAny_layCells _ (fun n k c => rfl) scope.names closure _ _ ?_)
  rw [show ({ s with heap := s.heap.push { cls := .type "dict", data := .dict #[] } } : Shared).heap.objs.size = s.heap.objs.size + 1 from Heap.size_push ..]
  rw [List.forIn_nil]
  exact wpAny_bind (wpAny_pure (wpAny_pure h))
theorem lookup_relS {sc : Scope} : ∀ {names : List (Str × NameKind)} {x : Str} {k : NameKind},
    (names.map fun (n, k) => if (k == NameKind.free && sc.kind == .function && sc.names.lookup n == some .cell) then (n, NameKind.cell) else (n, k)).lookup x = some k →
    ∃ k', names.lookup x = some k' ∧ (k = k' ∨ (k' = .free ∧ k = .cell))
  | [], _, _, h => by simp at h
  | (n, k₀) :: r, x, k, h => by
    have ih := @lookup_relS sc r x k
    have h' : List.lookup x ((if (k₀ == NameKind.free && sc.kind == .function && sc.names.lookup n == some .cell) = true then (n, NameKind.cell) else (n, k₀)) :: (r.map _)) = some k := h
    cases hx : x == n with
    | true =>
      simp only [List.lookup_cons, hx]
      by_cases hc : (k₀ == NameKind.free && sc.kind == .function && sc.names.lookup n == some .cell) = true
      · rw [if_pos hc] at h'
        simp only [List.lookup_cons, hx] at h'
        cases h'
        simp only [Bool.and_eq_true, beq_iff_eq] at hc
        exact ⟨k₀, rfl, .inr ⟨hc.1.1, rfl⟩⟩
      · rw [if_neg hc] at h'
        simp only [List.lookup_cons, hx] at h'
        cases h'
        exact ⟨_, rfl, .inl rfl⟩
    | false =>
      simp only [List.lookup_cons, hx]
      by_cases hc : (k₀ == NameKind.free && sc.kind == .function && sc.names.lookup n == some .cell) = true
      · rw [if_pos hc] at h'
        simp only [List.lookup_cons, hx] at h'
        exact ih h'
      · rw [if_neg hc] at h'
        simp only [List.lookup_cons, hx] at h'
        exact ih h'
structure BlkOk (N : List Str) (sc scope : Scope) (own : List (Str × Nat)) : Prop where
  kind : scope.kind = .function
  uniq : ∀ y ∈ scope.names, scope.names.lookup y.1 = some y.2
  ix : ∀ p ∈ own, N[p.2]? = some p.1
  free : ∀ y ∈ scope.names, y.2 = .free → sc.names.lookup y.1 = some .cell ∨ sc.names.lookup y.1 = some .free
  own : ∀ y ∈ scope.names, y.2 = .local ∨ y.2 = .cell → y.1 ∈ own.map (·.1) ∨ y.1 ∉ N
def wipe (σ : St) : List Nat → St
  | [] => σ
  | v :: vs => (wipe σ vs).set v none
theorem wipe_length (σ : St) : ∀ vs : List Nat, (wipe σ vs).length = σ.length
  | [] => rfl
  | v :: vs => by unfold wipe; rw [List.length_set, wipe_length σ vs]
theorem wipe_some {σ : St} {i : Nat} {x : V} : ∀ {vs : List Nat}, (wipe σ vs)[i]? = some (some x) → σ[i]? = some (some x) ∧ i ∉ vs
  | [], h => ⟨h, by simp⟩
  | v :: vs, h => by
    unfold wipe at h
    by_cases hi : v = i
    · subst hi
      by_cases hv : v < (wipe σ vs).length
      · rw [List.getElem?_set_self hv] at h; cases h
      · rw [List.getElem?_eq_none (by simpa using hv)] at h; cases h
    · rw [List.getElem?_set_ne hi] at h
      obtain ⟨h1, h2⟩ := wipe_some h
      exact ⟨h1, by simp only [List.mem_cons, not_or]; exact ⟨fun e => hi e.symm, h2⟩⟩
abbrev Cx.blk (X : Cx) (s : Shared) (H : Hp) (scope : Scope) (cenv : Env) (fp : List Addr) : Cx := { X with s_0 := s, H_0 := H, env := cenv, outer := X.stack, ex := fp, fn := fun x => scope.names.lookup x == some .cell, pn := [], xe := fun _ _ => False }
section
variable {X : Cx} {pins : List (Addr × Obj)} {σ : St} {H : Hp} {s : Shared}
theorem block_start {scope : Scope} {own : List (Str × Nat)} {fp : List Addr} (I : Inv X pins σ H s) (ok : BlkOk X.N X.env.scope scope own) (hN : X.N.Nodup) (hfp : ∀ b ∈ fp, FpOk X pins H b ∧ b < s.heap.objs.size) :
    Inv (X.blk s H scope (compEnvC scope (cellsFrom (s.heap.objs.size + 1) scope.names (cloFrom X.env.cells scope.names [])) s.heap.objs.size X.env) fp) [] (wipe σ (own.map (·.2))) H { s with heap := pushCells (s.heap.push { cls := .type "dict", data := .dict #[] }) scope.names } := by
  have hfree : ∀ y ∈ scope.names, y.2 = .free → ∃ c, X.env.cells.lookup y.1 = some c := fun y hy e => by
    rcases ok.free y hy e with k | k
    · exact I.ok.has _ (.inl k)
    · exact I.ok.has _ (.inr k)
  generalize hcenv : compEnvC scope (cellsFrom (s.heap.objs.size + 1) scope.names (cloFrom X.env.cells scope.names [])) s.heap.objs.size X.env = cenv
  have kp : ∀ b o, s.heap.get? b = some o → (pushCells (s.heap.push { cls := .type "dict", data := .dict #[] }) scope.names).get? b = some o := fun b o e => pushCells_keeps _ _ _ _ (Heap.get?_push_of_some _ e)
  have hL : cenv.locals = s.heap.objs.size := by rw [← hcenv]; rfl
  have hcl : cenv.cells = cellsFrom (s.heap.objs.size + 1) scope.names (cloFrom X.env.cells scope.names []) := by rw [← hcenv]; rfl
  have hsc : cenv.scope = relS scope X.env.scope := by rw [← hcenv]; rfl
  rw [← Heap.size_push s.heap { cls := .type "dict", data := .dict #[] }] at hcl
  have cm : ∀ {y c}, (y, c) ∈ cloFrom X.env.cells scope.names [] → X.env.cells.lookup y = some c ∧ c < s.heap.objs.size := fun {y c} hm => by
    rcases cloFrom_mem hm with hm | ⟨h1, rfl⟩
    · cases hm
    · obtain ⟨c, hc⟩ := hfree _ h1 rfl
      rw [hc]
      obtain ⟨w, z⟩ := I.cell _ _ hc
      exact ⟨rfl, z.lt⟩
  have mem : ∀ {y c}, cenv.cells.lookup y = some c → (X.env.cells.lookup y = some c ∧ c < s.heap.objs.size) ∨ (s.heap.objs.size + 1 ≤ c ∧ CellAt (pushCells (s.heap.push { cls := .type "dict", data := .dict #[] }) scope.names) c none) := fun {y c} e => by
    rw [hcl] at e
    rcases cells_mem (PySem.mem_of_lookup e) with hm | ⟨_, h2, h3⟩
    · exact .inl (cm hm)
    · rw [Heap.size_push] at h2; exact .inr ⟨h2, h3⟩
  have look : ∀ {y}, scope.names.lookup y = some .free → ∃ c, cenv.cells.lookup y = some c ∧ X.env.cells.lookup y = some c := fun {y} hl => by
    have hy : (y, NameKind.free) ∈ scope.names := PySem.mem_of_lookup hl
    obtain ⟨c', e'⟩ := mem_lookup (cells_acc (names := scope.names) (n := (s.heap.push { cls := .type "dict", data := .dict #[] }).objs.size) (cloFrom_has (cells := X.env.cells) (acc := []) hy))
    rw [← hcl] at e'
    refine ⟨c', e', ?_⟩
    rw [hcl] at e'
    rcases cells_mem (PySem.mem_of_lookup e') with hm | ⟨h1, _, _⟩
    · exact (cm hm).1
    · have := ok.uniq _ h1
      rw [hl] at this; cases this
  have okB : (X.blk s H scope cenv fp).Ok := by
    refine ⟨I.ok.mod, by show cenv.scope.kind = _; rw [hsc]; exact ok.kind, by show cenv.globals = _; rw [← hcenv]; exact I.ok.glob, by show cenv.builtins = _; rw [← hcenv]; exact I.ok.blt, by show s.heap.objs.size ≤ cenv.locals; rw [hL]; exact Nat.le_refl _,
      fun y z c e1 e2 => ?_, fun y hy => ?_, fun y c z e => ?_, I.ok.hd, I.ok.frames, .inl rfl, fun b hb => ⟨?_, fun y c e z => ?_⟩, I.bs, Nat.le_trans I.ok.bsz I.sz, fun b o e hb => ?_, fun b hb z => ?_, I.stack, I.stkFree⟩
    · have e1 : cenv.cells.lookup y = some c := e1
      have e2 : cenv.cells.lookup z = some c := e2
      rw [hcl] at e1 e2
      refine cells_inj (fun p hp => ?_) (fun y z c a b => I.ok.inj y z c (cm a).1 (cm b).1) (PySem.mem_of_lookup e1) (PySem.mem_of_lookup e2)
      rw [Heap.size_push]
      exact Nat.lt_succ_of_lt (cm (y := p.1) (c := p.2) hp).2
    · show ∃ c, cenv.cells.lookup y = some c
      have key : ∀ k, cenv.kindOf y = some k → (k = .cell ∨ k = .free) → ∃ c, cenv.cells.lookup y = some c := fun k hk hk' => by
        unfold Env.kindOf at hk
        rw [hsc] at hk
        obtain ⟨k', e, r⟩ := lookup_relS hk
        have : k' = .cell ∨ k' = .free := by
          rcases r with rfl | ⟨rfl, _⟩
          · exact hk'
          · exact .inr rfl
        rcases this with rfl | rfl
        · obtain ⟨c, hm⟩ := cells_has (n := (s.heap.push { cls := .type "dict", data := .dict #[] }).objs.size) (acc := cloFrom X.env.cells scope.names []) (PySem.mem_of_lookup e)
          obtain ⟨c', e'⟩ := mem_lookup hm
          exact ⟨c', by rw [hcl]; exact e'⟩
        · obtain ⟨c, h1, _⟩ := look e
          exact ⟨c, h1⟩
      rcases hy with hy | hy
      · exact key _ hy (.inl rfl)
      · exact key _ hy (.inr rfl)
    · have z : (scope.names.lookup y == some NameKind.cell) = true := z
      have z : scope.names.lookup y = some .cell := by simpa using z
      have e : cenv.cells.lookup y = some c := e
      rw [hcl] at e
      rcases cells_mem (PySem.mem_of_lookup e) with hm | ⟨_, h2, _⟩
      · rcases cloFrom_mem hm with hm | ⟨h1, _⟩
        · cases hm
        · have q := ok.uniq _ h1
          rw [z] at q; cases q
      · rw [Heap.size_push] at h2
        exact Nat.le_of_succ_le h2
    · show b ≠ cenv.locals
      rw [hL]; exact Nat.ne_of_lt (hfp b hb).2
    · have e : cenv.cells.lookup y = some c := e
      rcases mem e with ⟨h1, _⟩ | ⟨h1, _⟩
      · exact (hfp b hb).1.2.2.2.2.1 y c h1 z
      · have h2 : s.heap.objs.size + 1 ≤ b := by rw [← z]; exact h1
        exact absurd (Nat.lt_of_lt_of_le (hfp b hb).2 (Nat.le_of_succ_le h2)) (Nat.lt_irrefl _)
    · rcases (hfp b hb).1.2.2.2.1 with z | z
      · exact I.ok.noex b o e z
      · exact absurd (Nat.lt_of_lt_of_le (Heap.lt_size e) (Nat.le_trans I.ok.bsz z)) (Nat.lt_irrefl _)
    · rcases List.mem_cons.mp (I.stkSub b z) with z | z
      · exact (hfp b hb).1.2.1 z
      · exact (hfp b hb).1.2.2.1 z
  refine ⟨okB, rfl, I.bare, Un.kept kp, ⟨fun _ => none, ?_, fun i y av e1 e2 e3 => ?_⟩, fun y c e => ?_, ?_, fun y c e => ?_, fun p hp => ?_, I.hok.kept kp, by rw [wipe_length]; exact I.len⟩
  · show Heap.Ns _ cenv.locals _
    rw [hL]
    exact Heap.Ns.keeps (Heap.Ns.new ..) fun b o e => pushCells_keeps _ _ _ _ e
  · obtain ⟨e2, hne⟩ := wipe_some e2
    have hfr : scope.names.lookup y = some .free ∧ (cenv.kindOf y = some .cell ∨ cenv.kindOf y = some .free) := by
      have key : ∀ k, cenv.scope.names.lookup y = some k → k = .local ∨ k = .cell ∨ k = .free → scope.names.lookup y = some .free ∧ (cenv.kindOf y = some .cell ∨ cenv.kindOf y = some .free) := fun k hk hk' => by
        have hk0 := hk
        rw [hsc] at hk
        obtain ⟨k', e, r⟩ := lookup_relS hk
        have no : ¬ (k' = .local ∨ k' = .cell) := fun hh => by
          rcases ok.own _ (PySem.mem_of_lookup e) hh with e' | e'
          · obtain ⟨p, hp, hpy⟩ := List.mem_map.mp e'
            have e3 := ok.ix p hp
            have : p.1 = y := hpy
            rw [this] at e3
            exact hne (List.mem_map.mpr ⟨p, hp, nodup_ix hN e3 e1⟩)
          · exact e' (List.mem_of_getElem? e1)
        rcases r with rfl | ⟨rfl, rfl⟩
        · rcases hk' with rfl | rfl | rfl
          · exact absurd (.inl rfl) no
          · exact absurd (.inr rfl) no
          · exact ⟨e, .inr hk0⟩
        · exact ⟨e, .inl hk0⟩
      have e3 : Vis cenv.scope y := e3
      rcases e3 with e3 | e3 | e3
      · exact key _ e3 (.inl rfl)
      · exact key _ e3 (.inr (.inl rfl))
      · exact key _ e3 (.inr (.inr rfl))
    obtain ⟨m, hn, hl⟩ := I.loc
    have hvis : Vis X.env.scope y := (ok.free _ (PySem.mem_of_lookup hfr.1) rfl).elim (fun k => .inr (.inl k)) (fun k => .inr (.inr k))
    obtain ⟨w, r, q⟩ := hl i y av e1 e2 hvis
    refine ⟨w, r, .inr ⟨hfr.2, ?_⟩⟩
    obtain ⟨c, h1, h2⟩ := look hfr.1
    rcases q with ⟨k, _⟩ | ⟨_, c', e', z⟩
    · have k : X.env.scope.names.lookup y = some .local := k
      rcases ok.free _ (PySem.mem_of_lookup hfr.1) rfl with k' | k' <;> rw [show X.env.scope.names.lookup y = _ from k'] at k <;> cases k
    · rw [h2] at e'; cases e'
      exact ⟨c, h1, z.keeps kp⟩
  · have e : cenv.cells.lookup y = some c := e
    rcases mem e with ⟨h1, _⟩ | ⟨_, z⟩
    · obtain ⟨w, z⟩ := I.cell y c h1
      exact ⟨w, z.keeps kp⟩
    · exact ⟨_, z⟩
  · show H cenv.locals = none
    rw [hL]; exact I.hok.fresh (Nat.le_refl _)
  · have e : cenv.cells.lookup y = some c := e
    rcases mem e with ⟨h1, _⟩ | ⟨h1, _⟩
    · exact I.freeC y c h1
    · exact I.hok.fresh (Nat.le_of_succ_le h1)
  · exact absurd (show p ∈ ([] : List (Addr × Obj)) ++ [] from hp) (by simp)
theorem app_ok {E : Value → Shared → Prop} {D : Addr} {xs : List V} {y : V} {v : Value} {Q : Value → Shared → Prop} (I : Inv X pins σ H s) (hD : H D = some (.lst xs)) (hz : xs.length < sizeLine) (r : RelV y v)
    (h : ∀ s', Inv X pins σ (upd H D (.lst (xs ++ [y]))) s' → Q .none s') : wpAny (model X.prog X.w) X.A (call (.builtin "list.append") [.ref D, v]) Q E s := by
  obtain ⟨hz', its, n, ri, e⟩ := I.hok D _ hD
  have hl := ri.length
  refine append_at (hsz := by rw [List.size_toArray]; omega) e fun h' sb ho' => ?_
  refine h { s with heap := h' } (I.write (t' := s.toks) (by rw [hD]; trivial) (.inl rfl) (fun b u hb q => (sb.2 b hb).trans q) ⟨_, ho'⟩ ⟨by rw [List.length_append]; exact hz, its ++ [v], n + 1, ri.append (.cons r .nil), ?_⟩)
  rw [ho']
  simp
def PTs (X : Cx) (ifs : List Expr) (t : TT) : Prop :=
  ∀ (pins : List (Addr × Obj)) (s : Shared) (σ : St) (H : Hp) (Q : Bool → Hp → Prop), Inv X pins σ H s → t σ H Q →
    wpAny (model X.prog X.w) X.A (forIn ifs true fun c r => if r = true then do let ok ← isTrue c X.env (eval c X.env); pure (ForInStep.yield ok) else pure (ForInStep.yield r)) (TP X pins σ Q) X.xe s
def tYes : TT := fun _ H Q => Q true H
theorem pts_nil : PTs X [] tYes := fun _ _ _ H _ I h => wpAny_tests_nil ⟨H, I, h⟩
theorem pts_one {c : Expr} {t : TT} (h : PT X c t) : PTs X [c] t := fun pins s σ H Q I hw => wpAny_tests_one (h pins s σ H Q I hw)
end
theorem thnF {α : Type} {t : Sem α} {Q Q' : α → Shared → Prop} {M : Model} {A : Around} {E : Value → Shared → Prop} {s : Shared} (h : wpAny M A t Q (fun _ _ => False) s) (hQ : ∀ a s, Q a s → Q' a s) : wpAny M A t Q' E s := wpAny_mono h hQ fun _ _ z => False.elim z
theorem compLoop_any {prog : Program} {w : World} {A : Around} {R : Result → Shared → Prop} {s : Shared} {elt target iter : Expr} {ifs : List Expr} {scope : Scope} {pos : Pos} {it acc : Value} {env : Env} (I : Nat → Shared → Prop)
    (turn : ∀ n s, I n s → wpAny (model prog w) A (pyNext it) (fun r s₁ => match r with
      | none => R (.ok .next) s₁
      | some v => wpAny (model prog w) A (letOwnedTupleGo target it v) (fun _ s₁' => wpAny (model prog w) A (assign target env v) (fun _ s₂ =>
          wpAny (model prog w) A (forIn ifs true fun c r => if r = true then do let ok ← isTrue c env (eval c env); pure (ForInStep.yield ok) else pure (ForInStep.yield r)) (fun ok s₃ =>
            if ok = true then wpAny (model prog w) A (eval elt env) (fun x s₄ =>
              wpAny (model prog w) A (call (.builtin "list.append") [acc, x]) (fun _ s₅ => ∃ m, m < n ∧ I m s₅) (notedBy (model prog w) A env fun e s' => R (.error e) s') s₄) (notedBy (model prog w) A env fun e s' => R (.error e) s') s₃
            else ∃ m, m < n ∧ I m s₃) (notedBy (model prog w) A env fun e s' => R (.error e) s') s₂) (notedBy (model prog w) A env fun e s' => R (.error e) s') s₁') (notedBy (model prog w) A env fun e s' => R (.error e) s') s₁) (notedBy (model prog w) A env fun e s' => R (.error e) s') s)
    (n : Nat) (h : I n s) :
    codeAny (model prog w) A (.compLoop (.ListComp elt [⟨target, iter, ifs, 0⟩] scope pos) 0 it acc env) R s := by
  refine codeAny_loop rfl I (fun n s hI => ?_) n h
  show wpAny _ A ((compTurn (.ListComp elt [⟨target, iter, ifs, 0⟩] scope pos) 0 it acc env).onRaise (fun x => do noteFrame x env; theTreesLotGoes x)) _ _ s
  refine wpAny_noted ?_
  rw [compTurn_list]
  refine wpAny_bind (wpAny_standAt (wpAny_bind (wpAny_mono (turn n s hI) (fun r s₁ h₁ => ?_) fun _ _ h' => h')))
  cases r with
  | none => exact wpAny_pure h₁
  | some v =>
    refine wpAny_bind (wpAny_mono h₁ (fun _ s₁' h₁' => ?_) fun _ _ h' => h')
    refine wpAny_bind (wpAny_mono h₁' (fun _ s₂ h₂ => wpAny_bind (wpAny_mono h₂ (fun ok s₃ h₃ => ?_) fun _ _ h' => h')) fun _ _ h' => h')
    cases ok with
    | false => exact wpAny_pure ⟨rfl, h₃⟩
    | true =>
      exact wpAny_bind (wpAny_bind (wpAny_mono h₃ (fun x s₄ h₄ => wpAny_bind (wpAny_mono h₄ (fun _ s₅ h₅ => wpAny_pure (wpAny_pure ⟨rfl, h₅⟩)) fun _ _ h' => h')) fun _ _ h' => h'))
section
variable {X : Cx}
def tLc (wi : TI) (g : TG) (tt : TT) (te : TE) (vs : List Nat) : TE := fun σ H Q => wi σ H fun J H1 => ∀ D, H1 D = none → ∃ W : Nat → Nat → Hp → Prop, (∃ m, W 0 m (upd H1 D (.lst []))) ∧ ∀ i m H, W i m H →
  (J.stop i H ∧ Q (.ref D) H) ∨ (J.go i H ∧ ∃ Nx : Hp → Prop, (∀ H', Nx H' → ∃ m', m' < m ∧ W (i + 1) m' H') ∧ ∀ x H', J.yld i H x H' → g x (wipe σ vs) H' fun σ2 H2 => wipe σ2 vs = wipe σ vs ∧ tt σ2 H2 fun b H3 =>
    if b = true then te σ2 H3 fun y H4 => ∃ acc, H4 D = some (.lst acc) ∧ acc.length < sizeLine ∧ Nx (upd H4 D (.lst (acc ++ [y]))) else Nx H3)
theorem lc_core {pins : List (Addr × Obj)} {s : Shared} {σ : St} {H : Hp} {Q : VK} {elt tg iter : Expr} {ifs : List Expr} {scope : Scope} {own : List (Str × Nat)} {pos pos' : Pos} {wi : TI} {g : TG} {tt : TT} {te : TE} {use : Option (Value → Sem Unit)} {Qf : Value → Shared → Prop}
    (hc : X.calm = true) (hN : X.N.Nodup) (I : Inv X pins σ H s) (hi : PI X tg iter wi) (ok : BlkOk X.N X.env.scope scope own)
    (hg : ∀ (s : Shared) (H : Hp) (C : Addr) (cl : List (Str × Addr)) (fp : List Addr), PG (X.blk s H scope (compEnvC scope cl C X.env) fp) tg g) (ht : ∀ (s : Shared) (H : Hp) (C : Addr) (cl : List (Str × Addr)) (fp : List Addr), PTs (X.blk s H scope (compEnvC scope cl C X.env) fp) ifs tt)
    (he : ∀ (s : Shared) (H : Hp) (C : Addr) (cl : List (Str × Addr)) (fp : List Addr), PE (X.blk s H scope (compEnvC scope cl C X.env) fp) elt te) (hs : ∀ x, foldedSetIterable iter X.env x = pure x)
    (h : tLc wi g tt te (own.map (·.2)) σ H Q)
    (hRR : ∀ D C s' m H', Inv X pins σ H' s' → Q (.ref D) H' → s'.heap.Ns C m → FpOk X pins H' C → compPost (model X.prog X.w) X.A X.xe use Qf (.ref D) C (.ok .next) s') :
    wpAny (model X.prog X.w) X.A (comprehension (.ListComp elt [⟨tg, iter, ifs, 0⟩] scope pos) scope X.env pos' (newList []) false (eval iter X.env) use) Qf X.xe s := by
  have hfree : ∀ y ∈ scope.names, y.2 = .free → ∃ c, X.env.cells.lookup y.1 = some c := fun y hy e => by
    rcases ok.free y hy e with k | k
    · exact I.ok.has _ (.inl k)
    · exact I.ok.has _ (.inr k)
  refine wpAny_comprehension_free (use := use) rfl hs (closure_ok hfree) ok.kind (fun y hy e => by rw [ok.uniq y hy, e])
    (thn (hi pins s σ H _ I h) fun xv s1 hx => thn hx fun itv s2 h2 => ?_)
  obtain ⟨it, fp, tn, J, H2, e, I2, T, st2, f2, q⟩ := h2
  subst e
  refine wpAny_newObj_type (newEnv_comp ?_) (by show 0 ≤ sizeLine; decide)
  generalize hD : s2.heap.objs.size = D
  have hDn : H2 D = none := I2.hok.fresh (Nat.le_of_eq hD)
  obtain ⟨W, ⟨m0, w0⟩, turn⟩ := q D hDn
  -- the new list
  generalize hs3 : ({ s2 with heap := s2.heap.push { cls := .type "list", data := .seq ([] : List Value).toArray } } : Shared) = s3
  have I3 : Inv X pins σ (upd H2 D (.lst [])) s3 := by
    rw [← hs3]
    refine I2.laid (t' := s2.toks) (fun b o e => Heap.get?_push_of_some _ e) (Nat.le_of_eq hD) ⟨Nat.zero_le _, [], 0, .nil, ?_⟩
    rw [← hD]
    exact Heap.get?_push_size _ rfl
  have h3 : s3.heap = s2.heap.push { cls := .type "list", data := .seq ([] : List Value).toArray } := by rw [← hs3]
  have sz : ∀ b ∈ fp, b < s2.heap.objs.size := fun b hb => by
    obtain ⟨o, e, _⟩ := T.obj _ _ st2 b hb
    exact Heap.lt_size e
  have f3 : ∀ b ∈ fp, FpOk X pins (upd H2 D (.lst [])) b ∧ b < s3.heap.objs.size := fun b hb => by
    have hlt := sz b hb
    refine ⟨⟨?_, (f2 b hb).2⟩, by rw [h3, Heap.size_push]; exact Nat.lt_succ_of_lt hlt⟩
    rw [upd_ne (by rw [← hD]; exact Nat.ne_of_lt hlt)]
    exact (f2 b hb).1
  have st3 : tn 0 s3.heap := T.keep _ _ _ st2 fun b _ o e => by rw [h3]; exact Heap.get?_push_of_some _ e
  have I4 := block_start I3 ok hN f3
  have pg := hg s3 (upd H2 D (.lst [])) s3.heap.objs.size (cellsFrom (s3.heap.objs.size + 1) scope.names (cloFrom X.env.cells scope.names [])) fp
  have pt := ht s3 (upd H2 D (.lst [])) s3.heap.objs.size (cellsFrom (s3.heap.objs.size + 1) scope.names (cloFrom X.env.cells scope.names [])) fp
  have pe := he s3 (upd H2 D (.lst [])) s3.heap.objs.size (cellsFrom (s3.heap.objs.size + 1) scope.names (cloFrom X.env.cells scope.names [])) fp
  show codeAny _ _ (.compStart (.ListComp elt [⟨tg, iter, ifs, 0⟩] scope pos) 0 (.ref it) (.ref D) (compEnvC scope (cellsFrom (s3.heap.objs.size + 1) scope.names (cloFrom X.env.cells scope.names [])) s3.heap.objs.size X.env)) (compPost (model X.prog X.w) X.A X.xe use Qf (.ref D) s3.heap.objs.size) { s3 with heap := pushCells (s3.heap.push { cls := .type "dict", data := .dict #[] }) scope.names }
  have nfp : ∀ b ∈ fp, (upd H2 D (.lst [])) b = none := fun b hb => (f3 b hb).1.1
  generalize hce : compEnvC scope (cellsFrom (s3.heap.objs.size + 1) scope.names (cloFrom X.env.cells scope.names [])) s3.heap.objs.size X.env = ce at I4 pg pt pe ⊢
  have cL : ce.locals = s3.heap.objs.size := by subst hce; rfl
  generalize hH3 : upd H2 D (.lst []) = H3 at I3 I4 pg pt pe w0 nfp f3
  generalize hs4 : ({ s3 with heap := pushCells (s3.heap.push { cls := .type "dict", data := .dict #[] }) scope.names } : Shared) = s4 at I4 ⊢
  have st4 : tn 0 s4.heap := T.keep _ _ _ st3 fun b _ o e => by rw [← hs4]; exact pushCells_keeps _ _ _ _ (Heap.get?_push_of_some _ e)
  have stat : ∀ {σ' : St} {H' : Hp} {s' : Shared}, Inv (X.blk s3 H3 scope ce fp) [] σ' H' s' → (∀ b ∈ fp, H' b = none) → ∀ b ∈ fp, FpOk (X.blk s3 H3 scope ce fp) [] H' b := fun {σ' H' s'} I' hn b hb =>
    ⟨hn b hb, (I'.ok.exf b hb).1, I'.ok.exfs b hb, .inl hb, fun x c e => (I'.ok.exf b hb).2 x c e, fun p hp => absurd (show p ∈ ([] : List (Addr × Obj)) ++ [] from hp) (by simp)⟩
  have loop : codeAny (model X.prog X.w) X.A (.compLoop (.ListComp elt [⟨tg, iter, ifs, 0⟩] scope pos) 0 (.ref it) (.ref D) ce) (compPost (model X.prog X.w) X.A X.xe use Qf (.ref D) s3.heap.objs.size) s4 := by
    refine compLoop_any (fun n s' => ∃ i H', Inv (X.blk s3 H3 scope ce fp) [] (wipe σ (own.map (·.2))) H' s' ∧ tn i s'.heap ∧ (∀ b ∈ fp, H' b = none) ∧ W i n H') ?_ m0 ⟨0, H3, I4, st4, nfp, w0⟩
    rintro n s5 ⟨i, H5, I5, st5, n5, w5⟩
    rcases turn i n H5 w5 with ⟨stop, qq⟩ | ⟨go, Nx, hNx, step⟩
    · have td := T.done (X.blk s3 H3 scope ce fp) rfl rfl rfl hc i [] s5 _ H5 (fun _ _ => False) I5 (stat I5 n5) st5 stop
      refine thnF td fun r s6 ⟨hr, I6⟩ => ?_
      subst hr
      -- back in the def's context
      have I7 : Inv X pins σ H5 s6 := I3.call' (ch := fp) I6.os I6.base I6.hok I6.bare fun b hb => ⟨(f3 b hb).1.2.2.2.1, (f3 b hb).1.2.1, (f3 b hb).1.2.2.2.2.1, (f3 b hb).1.2.2.2.2.2⟩
      have nC : H5 s3.heap.objs.size = none := by
        have z : H5 ce.locals = none := I6.free
        rw [cL] at z
        exact z
      obtain ⟨m, hn, _⟩ := I6.loc
      have hn : s6.heap.Ns ce.locals m := hn
      rw [cL] at hn
      exact hRR D s3.heap.objs.size s6 m H5 I7 qq hn (I3.fpOk (Nat.le_refl _) nC)
    · have ti := T.item (X.blk s3 H3 scope ce fp) rfl rfl rfl hc i [] s5 _ H5 (fun _ _ => False) I5 (stat I5 n5) st5 go
      refine thnF ti fun r s6 ⟨u, hr, h6⟩ => ?_
      subst hr
      refine thnF h6 fun _ s7 ⟨x, H7, I7, r7, y7, st7, n7⟩ => ?_
      have I7' := I7.pinned (stat I7 n7) (T.obj _ _ st7)
      refine thnF (pg _ s7 _ H7 x u _ I7' r7 (step x H7 y7)) fun _ s8 ⟨σ8, H8, I8, hw8, q8⟩ => ?_
      refine thnF (pt _ s8 σ8 H8 _ I8 q8) fun b s9 ⟨H9, I9, q9⟩ => ?_
      -- the turn's end
      have fin : ∀ {s' : Shared} {H' : Hp}, Inv (X.blk s3 H3 scope ce fp) ([] ++ pinsAt fp s7.heap) σ8 H' s' → Nx H' → ∃ m, m < n ∧ ∃ i H', Inv (X.blk s3 H3 scope ce fp) [] (wipe σ (own.map (·.2))) H' s' ∧ tn i s'.heap ∧ (∀ b ∈ fp, H' b = none) ∧ W i m H' := fun {s' H'} I' nx => by
        obtain ⟨m', hm, w'⟩ := hNx H' nx
        have pin' : ∀ b ∈ fp, ∀ o, s7.heap.get? b = some o → s'.heap.get? b = some o ∧ H' b = none := fun b hb o e =>
          let z := I'.pin (b, o) (List.mem_append_right _ (List.mem_append_right _ (mem_pinsAt hb e)))
          ⟨z.1, z.2.1⟩
        have hl : (wipe σ (own.map (·.2))).length = σ8.length := by rw [← hw8, wipe_length]
        refine ⟨m', hm, i + 1, H', (I'.unpinned (pins := [])).weak hl (fun j v e => ?_), T.keep _ _ _ st7 fun b hb o e => (pin' b hb o e).1, fun b hb => ?_, w'⟩
        · rw [← hw8] at e
          exact (wipe_some e).1
        · obtain ⟨o, e, _⟩ := T.obj _ _ st7 b hb
          exact (pin' b hb o e).2
      cases b with
      | false =>
        simp only [Bool.false_eq_true, if_false] at q9 ⊢
        exact fin I9 q9
      | true =>
        simp only [if_true] at q9 ⊢
        refine thnF (pe _ s9 σ8 H9 _ I9 q9) fun z s10 ⟨yv, H10, I10, r10, acc, hD10, hz10, nx⟩ => ?_
        exact app_ok (X := X.blk s3 H3 scope ce fp) I10 hD10 hz10 r10 fun s11 I11 => fin I11 nx
  exact codeAny_compStart_list loop (T.self X.A 0 _ _ _ st4 loop)
theorem pe_lc {elt tg iter : Expr} {ifs : List Expr} {scope : Scope} {own : List (Str × Nat)} {pos : Pos} {wi : TI} {g : TG} {tt : TT} {te : TE} (hc : X.calm = true) (hN : X.N.Nodup) (hi : PI X tg iter wi) (ok : BlkOk X.N X.env.scope scope own)
    (hg : ∀ (s : Shared) (H : Hp) (C : Addr) (cl : List (Str × Addr)) (fp : List Addr), PG (X.blk s H scope (compEnvC scope cl C X.env) fp) tg g) (ht : ∀ (s : Shared) (H : Hp) (C : Addr) (cl : List (Str × Addr)) (fp : List Addr), PTs (X.blk s H scope (compEnvC scope cl C X.env) fp) ifs tt)
    (he : ∀ (s : Shared) (H : Hp) (C : Addr) (cl : List (Str × Addr)) (fp : List Addr), PE (X.blk s H scope (compEnvC scope cl C X.env) fp) elt te) (hs : ∀ x, foldedSetIterable iter X.env x = pure x := by intro _; rfl) :
    PE X (.ListComp elt [⟨tg, iter, ifs, 0⟩] scope pos) (tLc wi g tt te (own.map (·.2))) := by
  intro pins s σ H Q I h
  rw [eval_ListComp]
  refine lc_core hc hN I hi ok hg ht he hs h fun D C s' m H' I' q hn f => ⟨m, hn, fun h'' sb => ?_⟩
  obtain ⟨f0, f1, f2, f3, f4, f5⟩ := f
  exact ⟨.ref D, H', I'.turned (t' := s'.toks) (fun b o hb e => (sb.2 b hb).trans e) f0 f1 f3 f4 f5, rfl, q⟩
theorem ps_setLc {i : Nat} {y : Str} {py : Pos} {elt tg iter : Expr} {ifs : List Expr} {scope : Scope} {own : List (Str × Nat)} {pos spos : Pos} {wi : TI} {g : TG} {tt : TT} {te : TE} (hc : X.calm = true) (hN : X.N.Nodup) (hy : X.N[i]? = some y) (hyl : X.env.scope.names.lookup y = some .local)
    (hsw : swapsWith (.ListComp elt [⟨tg, iter, ifs, 0⟩] scope pos) (some (.Name y py)) spos.line X.env = pure true) (hi : PI X tg iter wi) (ok : BlkOk X.N X.env.scope scope own)
    (hg : ∀ (s : Shared) (H : Hp) (C : Addr) (cl : List (Str × Addr)) (fp : List Addr), PG (X.blk s H scope (compEnvC scope cl C X.env) fp) tg g) (ht : ∀ (s : Shared) (H : Hp) (C : Addr) (cl : List (Str × Addr)) (fp : List Addr), PTs (X.blk s H scope (compEnvC scope cl C X.env) fp) ifs tt)
    (he : ∀ (s : Shared) (H : Hp) (C : Addr) (cl : List (Str × Addr)) (fp : List Addr), PE (X.blk s H scope (compEnvC scope cl C X.env) fp) elt te) (hs : ∀ x, foldedSetIterable iter X.env x = pure x := by intro _; rfl) :
    PS X (.Assign [.Name y py] (.ListComp elt [⟨tg, iter, ifs, 0⟩] scope pos) spos) (tAsg (tLc wi g tt te (own.map (·.2))) (gName i)) := by
  intro pins s σ H D I h
  rw [exec_Assign_Name_used _ _ _ _ hsw]
  refine wpAny_bind (wpAny_standAt (wpAny_bind ?_))
  show wpAny _ X.A (do let _ ← comprehension (.ListComp elt [⟨tg, iter, ifs, 0⟩] scope pos) scope X.env (firstIterPos [⟨tg, iter, ifs, 0⟩] pos) (newList []) false (eval iter X.env) (some (assign (.Name y py) X.env))) _ _ s
  have h : tLc wi g tt te (own.map (·.2)) σ H (fun x H1 => gName i x σ H1 D.nx) := h
  refine wpAny_bind (thn (lc_core (Qf := fun _ s' => SP X pins D .next s') hc hN I hi ok hg ht he hs h fun L C s' m H' I' q hn f => ?_) fun _ s' hq => wpAny_pure (wpAny_pure hq))
  show wpAny _ _ (assign (.Name y py) X.env (.ref L)) _ _ _
  refine wpAny_assign_Name (store_ok2 (v := V.ref L) I' hN hy (.inl hyl) rfl (fun s2 I2 ⟨a, sb, ha⟩ => ?_) (.inr hyl))
  obtain ⟨f0, f1, f2, f3, f4, f5⟩ := f
  have haC : C ≠ a := by
    rcases ha with z | z
    · rw [z]; exact f1
    · exact fun e => f4 y a z e.symm
  refine ⟨m, hn.sameBut sb haC, fun h3 sb3 => ?_⟩
  exact ⟨_, H', I2.turned (t' := s2.toks) (fun b o hb e => (sb3.2 b hb).trans e) f0 f1 f3 f4 f5, q⟩
theorem sw_true {elt : Expr} {gs : List Comprehension} {scope : Scope} {pos py : Pos} {y : Str} {l : Nat} {env : Env} (hk : env.scope.kind = .function) (hy : env.scope.names.lookup y = some .local) (hl : (py.line == pos.line) = true)
    (ha : (scope.names.any fun (n, k) => n == y && (k == .local || k == .cell)) = false) : swapsWith (.ListComp elt gs scope pos) (some (.Name y py)) l env = pure true := by
  have ky : env.kindOf y = some .local := hy
  have hb : env.blockKind = .function := by unfold Env.blockKind; rw [hk]; rfl
  unfold swapsWith
  simp only [hb, ky, ha, Expr.pos, hl]
  rfl
end
theorem lc_range {lo : Int} {n : Nat} {g : TG} {tt : TT} {te : TE} {vs : List Nat} {σ : St} {H1 : Hp} {D : Addr} {Qd : Hp → Prop} (Pv : Nat → Hp → Prop) (h0 : Pv 0 (upd H1 D (.lst [])))
    (hs : ∀ i H, i < n → Pv i H → g (.int (lo + i)) (wipe σ vs) H fun σ2 H2 => wipe σ2 vs = wipe σ vs ∧ tt σ2 H2 fun b H3 =>
      if b = true then te σ2 H3 fun y H4 => ∃ acc, H4 D = some (.lst acc) ∧ acc.length < sizeLine ∧ Pv (i + 1) (upd H4 D (.lst (acc ++ [y]))) else Pv (i + 1) H3) (hd : ∀ H, Pv n H → Qd H) :
    ∃ W : Nat → Nat → Hp → Prop, (∃ m, W 0 m (upd H1 D (.lst []))) ∧ ∀ i m H, W i m H →
      ((Itr lo n).stop i H ∧ Qd H) ∨ ((Itr lo n).go i H ∧ ∃ Nx : Hp → Prop, (∀ H', Nx H' → ∃ m', m' < m ∧ W (i + 1) m' H') ∧ ∀ x H', (Itr lo n).yld i H x H' → g x (wipe σ vs) H' fun σ2 H2 => wipe σ2 vs = wipe σ vs ∧ tt σ2 H2 fun b H3 =>
        if b = true then te σ2 H3 fun y H4 => ∃ acc, H4 D = some (.lst acc) ∧ acc.length < sizeLine ∧ Nx (upd H4 D (.lst (acc ++ [y]))) else Nx H3) := by
  refine ⟨fun i m H => m = n - i ∧ i ≤ n ∧ Pv i H, ⟨n, by simp, Nat.zero_le _, h0⟩, ?_⟩
  rintro i m H ⟨rfl, hi, p⟩
  by_cases hlt : i < n
  · refine .inr ⟨hlt, Pv (i + 1), fun H' p' => ⟨n - (i + 1), by omega, rfl, hlt, p'⟩, fun x H' y => ?_⟩
    obtain ⟨e, y⟩ := y
    subst e y
    exact hs i _ hlt p
  · have e : i = n := by omega
    subst e
    exact .inl ⟨Nat.le_refl _, hd H p⟩
theorem lc_list {K : PySem.W.Frag} {a : Addr} {xs : List V} {g : TG} {tt : TT} {te : TE} {vs : List Nat} {σ : St} {H1 : Hp} {D : Addr} {Qd : Hp → Prop} (Pv : Nat → Hp → Prop) (h0 : Pv 0 (upd H1 D (.lst []))) (hl : ∀ i H, i ≤ xs.length → Pv i H → SqL K H a xs)
    (hs : ∀ i x H, xs[i]? = some x → Pv i H → g x (wipe σ vs) H fun σ2 H2 => wipe σ2 vs = wipe σ vs ∧ tt σ2 H2 fun b H3 =>
      if b = true then te σ2 H3 fun y H4 => ∃ acc, H4 D = some (.lst acc) ∧ acc.length < sizeLine ∧ Pv (i + 1) (upd H4 D (.lst (acc ++ [y]))) else Pv (i + 1) H3) (hd : ∀ H, Pv xs.length H → Qd H) :
    ∃ W : Nat → Nat → Hp → Prop, (∃ m, W 0 m (upd H1 D (.lst []))) ∧ ∀ i m H, W i m H →
      ((Itl K a).stop i H ∧ Qd H) ∨ ((Itl K a).go i H ∧ ∃ Nx : Hp → Prop, (∀ H', Nx H' → ∃ m', m' < m ∧ W (i + 1) m' H') ∧ ∀ x H', (Itl K a).yld i H x H' → g x (wipe σ vs) H' fun σ2 H2 => wipe σ2 vs = wipe σ vs ∧ tt σ2 H2 fun b H3 =>
        if b = true then te σ2 H3 fun y H4 => ∃ acc, H4 D = some (.lst acc) ∧ acc.length < sizeLine ∧ Nx (upd H4 D (.lst (acc ++ [y]))) else Nx H3) := by
  refine ⟨fun i m H => m = xs.length - i ∧ i ≤ xs.length ∧ Pv i H, ⟨xs.length, by simp, Nat.zero_le _, h0⟩, ?_⟩
  rintro i m H ⟨rfl, hi, p⟩
  have q := hl i H hi p
  by_cases hlt : i < xs.length
  · refine .inr ⟨⟨xs, xs[i], q, by simp [hlt]⟩, Pv (i + 1), fun H' p' => ⟨xs.length - (i + 1), by omega, rfl, hlt, p'⟩, fun x H' y => ?_⟩
    obtain ⟨e, y⟩ := y
    subst e
    exact hs i x _ (y xs q) p
  · have e : i = xs.length := by omega
    subst e
    exact .inl ⟨⟨xs, q, Nat.le_refl _⟩, hd H p⟩
def blkC (N : List Str) (sc scope : Scope) (own : List (Str × Nat)) : Bool :=
  (match scope.kind with | .function => true | _ => false) && (scope.names.all fun y => decide (scope.names.lookup y.1 = some y.2)) && (own.all fun p => decide (N[p.2]? = some p.1)) &&
    (scope.names.all fun y => match y.2 with
      | .free => (match sc.names.lookup y.1 with | some .cell => true | some .free => true | _ => false)
      | .local => decide (y.1 ∈ own.map (·.1)) || decide (y.1 ∉ N)
      | .cell => decide (y.1 ∈ own.map (·.1)) || decide (y.1 ∉ N)
      | _ => true)
theorem blkOk_by {N : List Str} {sc scope : Scope} {own : List (Str × Nat)} (h : blkC N sc scope own = true) : BlkOk N sc scope own := by
  unfold blkC at h
  simp only [Bool.and_eq_true, List.all_eq_true, decide_eq_true_eq] at h
  obtain ⟨⟨⟨h1, h2⟩, h3⟩, h4⟩ := h
  refine ⟨?_, h2, h3, fun y hy e => ?_, fun y hy e => ?_⟩
  · split at h1
    · assumption
    · cases h1
  · have q := h4 y hy
    simp only [e] at q
    split at q <;> first | exact .inl (by assumption) | exact .inr (by assumption) | cases q
  · have q := h4 y hy
    rcases e with e | e <;> (simp only [e, Bool.or_eq_true, decide_eq_true_eq] at q; exact q)
end L2
namespace L2
open PySem PySem.Spec PyProof.Rows
section
variable {prog : Program} {w : World} {A : Around} {R : Result → Shared → Prop} {s : Shared} {elt t0 i0 t1 i1 : Expr} {ifs0 ifs1 : List Expr} {scope : Scope} {pos : Pos} {it acc : Value} {env : Env}
end
section
variable {X : Cx}
end
end L2
namespace L2
open PySem PySem.Spec PyProof.Rows
section
variable {κ : Type} [DecidableEq κ]
def valV (kvs : List (κ × V)) (k : κ) : Option V := (kvs.find? fun kv => decide (kv.1 = k)).map (·.2)
def putK (kvs : List (κ × V)) (k : κ) (v : V) : List (κ × V) :=
  if (kvs.any fun kv => decide (kv.1 = k)) = true then kvs.map (fun kv => if kv.1 = k then (kv.1, v) else kv) else kvs ++ [(k, v)]
theorem valV_pos {p : κ × V} {r : List (κ × V)} {k : κ} (e : p.1 = k) : valV (p :: r) k = some p.2 := by simp [valV, List.find?_cons, e]
theorem valV_neg {p : κ × V} {r : List (κ × V)} {k : κ} (e : ¬ p.1 = k) : valV (p :: r) k = valV r k := by simp [valV, List.find?_cons, e]
theorem valV_any (k : κ) : ∀ kvs : List (κ × V), (kvs.any fun kv => decide (kv.1 = k)) = (valV kvs k).isSome
  | [] => rfl
  | p :: r => by
    rw [List.any_cons]
    by_cases e : p.1 = k
    · simp only [valV_pos e, decide_eq_true e, Bool.true_or, Option.isSome_some]
    · rw [valV_neg e, decide_eq_false e, Bool.false_or]; exact valV_any k r
theorem valV_map (k j : κ) (y : V) : ∀ kvs : List (κ × V), valV (kvs.map fun kv => if kv.1 = k then (kv.1, y) else kv) j = (valV kvs j).map fun x => if j = k then y else x
  | [] => rfl
  | p :: r => by
    have ih := valV_map k j y r
    rw [List.map_cons]
    by_cases h : p.1 = k
    · rw [if_pos h]
      by_cases e : p.1 = j
      · rw [valV_pos (p := (p.1, y)) e, valV_pos e, Option.map_some, if_pos (e.symm.trans h)]
      · rw [valV_neg (p := (p.1, y)) e, valV_neg e, ih]
    · rw [if_neg h]
      by_cases e : p.1 = j
      · rw [valV_pos (p := p) e, valV_pos e, Option.map_some, if_neg (fun z => h (e.trans z))]
      · rw [valV_neg (p := p) e, valV_neg e, ih]
theorem valV_snoc (k j : κ) (y : V) : ∀ kvs : List (κ × V), valV kvs k = none → valV (kvs ++ [(k, y)]) j = if j = k then some y else valV kvs j
  | [], _ => by
    by_cases e : k = j
    · rw [if_pos e.symm]; exact valV_pos (p := (k, y)) e
    · rw [if_neg (fun z => e z.symm)]; exact valV_neg (p := (k, y)) e
  | p :: r, hn => by
    rw [List.cons_append]
    have hk : ¬ p.1 = k := fun z => by rw [valV_pos z] at hn; cases hn
    rw [valV_neg hk] at hn
    have ih := valV_snoc k j y r hn
    by_cases e : p.1 = j
    · rw [valV_pos e, valV_pos e, if_neg (fun z => hk (e.trans z))]
    · rw [valV_neg e, valV_neg e, ih]
theorem valV_put (kvs : List (κ × V)) (k j : κ) (y : V) : valV (putK kvs k y) j = if j = k then some y else valV kvs j := by
  unfold putK
  by_cases a : (kvs.any fun kv => decide (kv.1 = k)) = true
  · rw [if_pos a, valV_map]
    rw [valV_any] at a
    by_cases e : j = k
    · obtain ⟨x, hx⟩ := Option.isSome_iff_exists.mp a
      rw [if_pos e, e, hx, Option.map_some, if_pos rfl]
    · rw [if_neg e]
      cases valV kvs j with
      | none => rfl
      | some x => rw [Option.map_some, if_neg e]
  · rw [if_neg a]
    refine valV_snoc k j y kvs ?_
    rw [valV_any] at a
    cases q : valV kvs k with
    | none => rfl
    | some x => rw [q] at a; exact (a rfl).elim
theorem length_putK (kvs : List (κ × V)) (k : κ) (v : V) : (putK kvs k v).length ≤ kvs.length + 1 := by
  unfold putK
  split
  · rw [List.length_map]; omega
  · rw [List.length_append, List.length_cons, List.length_nil]; omega
theorem putK_new {kvs : List (κ × V)} {k : κ} (v : V) (h : valV kvs k = none) : putK kvs k v = kvs ++ [(k, v)] := by
  unfold putK
  rw [valV_any, h]
  exact if_neg (by decide)
theorem RelO.isSome_eq {o : Option V} {u : Option Value} (r : RelO o u) : o.isSome = u.isSome := by
  cases o with
  | none => cases u with
    | none => rfl
    | some _ => exact (show False from r).elim
  | some _ => cases u with
    | none => exact (show False from r).elim
    | some _ => rfl
theorem KV.val {kvs : List (κ × V)} {vs : List (κ × Value)} (r : KV kvs vs) (k : κ) : RelO (valV kvs k) (valueAt vs k) := by
  unfold KV at r
  induction r with
  | nil => exact True.intro
  | @cons p q ps qs h t ih =>
    obtain ⟨h1, h2⟩ := h
    by_cases e : p.1 = k
    · have e' : q.1 = k := h1.symm.trans e
      have b : valueAt (q :: qs) k = some q.2 := by simp [valueAt, List.find?_cons, e']
      rw [valV_pos e, b]; exact h2
    · have e' : ¬ q.1 = k := fun z => e (h1.trans z)
      have b : valueAt (q :: qs) k = valueAt qs k := by simp [valueAt, List.find?_cons, e']
      rw [valV_neg e, b]; exact ih
theorem KV.any {kvs : List (κ × V)} {vs : List (κ × Value)} (r : KV kvs vs) (k : κ) : (kvs.any fun kv => decide (kv.1 = k)) = vs.any fun kv => decide (kv.1 = k) := by
  unfold KV at r
  induction r with
  | nil => rfl
  | cons h t ih => rw [List.any_cons, List.any_cons, ih, h.1]
theorem KV.repl {kvs : List (κ × V)} {vs : List (κ × Value)} (r : KV kvs vs) (k : κ) {y : V} {u : Value} (ry : RelV y u) :
    KV (kvs.map fun kv => if kv.1 = k then (kv.1, y) else kv) (vs.map fun kv => if kv.1 = k then (kv.1, u) else kv) := by
  unfold KV at r ⊢
  induction r with
  | nil => exact .nil
  | @cons p q ps qs h t ih =>
    rw [List.map_cons, List.map_cons]
    refine .cons ?_ ih
    obtain ⟨h1, h2⟩ := h
    by_cases e : p.1 = k
    · rw [if_pos e, if_pos (h1.symm.trans e)]; exact ⟨h1, ry⟩
    · rw [if_neg e, if_neg (fun z => e (h1.trans z))]; exact ⟨h1, h2⟩
theorem KV.put {kvs : List (κ × V)} {vs : List (κ × Value)} (r : KV kvs vs) (k : κ) {y : V} {u : Value} (ry : RelV y u) : KV (putK kvs k y) (stored vs k u) := by
  unfold putK stored
  rw [r.any k]
  by_cases e : (vs.any fun kv => decide (kv.1 = k)) = true
  · rw [if_pos e, if_pos e]; exact r.repl k ry
  · rw [if_neg e, if_neg e]; exact Paired.snoc r ⟨rfl, ry⟩
theorem KV.length {kvs : List (κ × V)} {vs : List (κ × Value)} (r : KV kvs vs) : kvs.length = vs.length := Paired.length r
end
theorem kV_is {P : Program} {w : World} {k : Key} {u : Value} (r : RelV (kV k) u) : (mixKind P w).is k u = true := by
  cases k with
  | inl i => obtain ⟨t, e⟩ := (show ∃ t, u = Value.int i t from r); subst e; exact mixKind_int P w i t
  | inr x => obtain ⟨t, e⟩ := (show ∃ t, u = Value.str x t from r); subst e; exact mixKind_str P w x t
theorem items_are {P : Program} {w : World} : ∀ {ks : List Key} {us : List Value}, Vals (ks.map kV) us → ItemsAre (mixKind P w) ks us
  | [], _, r => by rw [List.map_nil] at r; cases r; exact .nil
  | k :: ks, _, r => by
    rw [List.map_cons] at r
    cases r with
    | cons h t => exact .cons (kV_is h) (items_are t)
abbrev KT (H : Hp) : List (List Key × V) → List (List Key × Addr × Value) → Prop := Paired fun p q => p.1 = q.1 ∧ H q.2.1 = some (.tup (p.1.map kV)) ∧ RelV p.2 q.2.2
theorem KT.val {H : Hp} {kvs : List (List Key × V)} {xs : List (List Key × Addr × Value)} (r : KT H kvs xs) (k : List Key) : RelO (valV kvs k) ((atKey xs k).map (·.2)) := by
  induction r with
  | nil => exact True.intro
  | @cons p q ps qs h t ih =>
    obtain ⟨h1, _, h2⟩ := h
    by_cases e : p.1 = k
    · have e' : q.1 = k := h1.symm.trans e
      have b : atKey (q :: qs) k = some q.2 := by simp [atKey, List.find?_cons, e']
      rw [valV_pos e, b]; exact h2
    · have e' : ¬ q.1 = k := fun z => e (h1.trans z)
      have b : atKey (q :: qs) k = atKey qs k := by simp [atKey, List.find?_cons, e']
      rw [valV_neg e, b]; exact ih
theorem KT.repl {H : Hp} {kvs : List (List Key × V)} {xs : List (List Key × Addr × Value)} (r : KT H kvs xs) (k : List Key) {y : V} {u : Value} (ry : RelV y u) :
    KT H (kvs.map fun kv => if kv.1 = k then (kv.1, y) else kv) (xs.map (putAt k u)) := by
  induction r with
  | nil => exact .nil
  | @cons p q ps qs h t ih =>
    rw [List.map_cons, List.map_cons]
    refine .cons ?_ ih
    obtain ⟨h1, h2, h3⟩ := h
    unfold putAt
    by_cases e : p.1 = k
    · rw [if_pos e, if_pos (h1.symm.trans e)]; exact ⟨h1, h2, ry⟩
    · rw [if_neg e, if_neg (fun z => e (h1.trans z))]; exact ⟨h1, h2, h3⟩
theorem KT.put {H : Hp} {kvs : List (List Key × V)} {xs : List (List Key × Addr × Value)} (r : KT H kvs xs) (k : List Key) {b : Addr} {y : V} {u : Value} (hb : H b = some (.tup (k.map kV))) (ry : RelV y u) :
    KT H (putK kvs k y) (storedH xs k b u) := by
  have e : (kvs.any fun kv => decide (kv.1 = k)) = (atKey xs k).isSome := by
    rw [valV_any, (r.val k).isSome_eq, Option.isSome_map]
  unfold putK storedH
  rw [e]
  by_cases q : (atKey xs k).isSome = true
  · rw [if_pos q, if_pos q]; exact r.repl k ry
  · rw [if_neg q, if_neg q]; exact Paired.snoc r ⟨rfl, hb, ry⟩
theorem KT.keeps {H H' : Hp} {kvs : List (List Key × V)} {xs : List (List Key × Addr × Value)} (r : KT H kvs xs) (ht : ∀ b ys, H b = some (.tup ys) → H' b = some (.tup ys)) : KT H' kvs xs :=
  Paired.mapP r fun _ _ z => ⟨z.1, ht _ _ z.2.1, z.2.2⟩
section
variable {P : Program} {w : World} {H : Hp} {h : Heap} {a : Addr}
theorem rd_of {u : HO} (ok : HOk P w H h) (e : Rd H a u) : ObjOk P w H h a u := e.ok ok
theorem dk_rd {kvs : List (Key × V)} (ok : HOk P w H h) (e : Rd H a (.dK kvs)) : kvs.length ≤ sizeLine ∧ (a == sysModules) = false ∧ ∃ vs, KV kvs vs ∧ h.DictOf (mixKind P w) a vs :=
  show ObjOk P w H h a (.dK kvs) from rd_of ok e
theorem dk_of {kvs : List (Key × V)} (ok : HOk P w H h) (e : H a = some (.dK kvs)) : kvs.length ≤ sizeLine ∧ (a == sysModules) = false ∧ ∃ vs, KV kvs vs ∧ h.DictOf (mixKind P w) a vs := dk_rd ok (.inl e)
theorem key_of {ks : List Key} (ok : HOk P w H h) (e : H a = some (.tup (ks.map kV))) : (tupleKind (mixKind P w)).is h ks a := by
  obtain ⟨_, its, r, o, h1, h2, n, h3⟩ := (show ObjOk P w H h a (.tup (ks.map kV)) from ok a _ e)
  exact ⟨o, its.toArray, n, h1, h2, h3, by simpa using items_are r⟩
theorem dt_rd {kvs : List (List Key × V)} (ok : HOk P w H h) (e : Rd H a (.dT kvs)) : kvs.length ≤ sizeLine ∧ (a == sysModules) = false ∧
    ∃ xs, KT H kvs xs ∧ h.DictOfH (tupleKind (mixKind P w)) a xs := by
  obtain ⟨z, y, xs, r, o, es, ep, h1, h2, h3, h4, h5⟩ := (show ObjOk P w H h a (.dT kvs) from rd_of ok e)
  refine ⟨z, y, xs, r, o, es, ep, h1, h2, h3, h4, fun x hx => ?_, h5⟩
  have all : ∀ {l : List (List Key × V)} {m : List (List Key × Addr × Value)}, KT H l m → ∀ x ∈ m, (tupleKind (mixKind P w)).is h x.1 x.2.1 := by
    intro l m q
    induction q with
    | nil => intro x hx; exact nomatch hx
    | @cons p q ps qs hq t ih =>
      intro x hx
      rcases List.mem_cons.mp hx with e | hx
      · subst e
        exact key_of ok (by rw [← hq.1]; exact hq.2.1)
      · exact ih x hx
  exact all r x hx
theorem dt_of {kvs : List (List Key × V)} (ok : HOk P w H h) (e : H a = some (.dT kvs)) : kvs.length ≤ sizeLine ∧ (a == sysModules) = false ∧
    ∃ xs, KT H kvs xs ∧ h.DictOfH (tupleKind (mixKind P w)) a xs := dt_rd ok (.inl e)
end
def DGet (H : Hp) (a : Addr) (y : V) (r : Option V) : Prop :=
  (∃ kvs k, Rd H a (.dK kvs) ∧ y = kV k ∧ r = valV kvs k) ∨ ∃ kvs k b, Rd H a (.dT kvs) ∧ y = .ref b ∧ H b = some (.tup (k.map kV)) ∧ r = valV kvs k
def DPut (H : Hp) (a : Addr) (y v : V) (H' : Hp) : Prop :=
  (∃ kvs k, H a = some (.dK kvs) ∧ y = kV k ∧ kvs.length < sizeLine ∧ H' = upd H a (.dK (putK kvs k v))) ∨
  ∃ kvs k b, H a = some (.dT kvs) ∧ y = .ref b ∧ H b = some (.tup (k.map kV)) ∧ kvs.length < sizeLine ∧ H' = upd H a (.dT (putK kvs k v))
theorem DGet.k {H : Hp} {a : Addr} {kvs : List (Key × V)} {k : Key} (e : H a = some (.dK kvs)) : DGet H a (kV k) (valV kvs k) := .inl ⟨kvs, k, .inl e, rfl, rfl⟩
theorem DPut.k {H : Hp} {a : Addr} {kvs : List (Key × V)} {k : Key} {v : V} (e : H a = some (.dK kvs)) (hl : kvs.length < sizeLine) : DPut H a (kV k) v (upd H a (.dK (putK kvs k v))) := .inl ⟨kvs, k, e, rfl, hl, rfl⟩
section
variable {X : Cx} {pins : List (Addr × Obj)} {σ : St} {H : Hp} {s : Shared} {a : Addr} {y v : V} {u r : Value} {o : Option V} {A : Around} {E : Value → Shared → Prop}
theorem Inv.big (I : Inv X pins σ H s) : sysModules < s.heap.objs.size := by
  have h : mainGlobals < s.heap.objs.size := (I.mod.glob.keeps I.bk).lt
  exact Nat.lt_trans (by decide) h
theorem d_getItem {Q : Value → Shared → Prop} (hu : A.units + 1 < cLine) (I : Inv X pins σ H s) (g : DGet H a y (some v)) (ry : RelV y u) (h : ∀ w' s', Inv X pins σ H s' → RelV v w' → Q w' s') :
    wpAny (model X.prog X.w) A (getItem (.ref a) u) Q E s := by
  rcases g with ⟨kvs, k, e, ey, l⟩ | ⟨kvs, k, b, e, ey, eb, l⟩
  · subst ey
    obtain ⟨z, hd, vs, rel, dd⟩ := dk_rd I.hok e
    obtain ⟨w', hw, rw'⟩ := RelO.some_of (v := v) (o := valueAt vs k) (by rw [l]; exact rel.val k)
    exact wpAny_getItem_of (kV_is ry) dd.mapOf hw (h w' _ (I.tok _) rw')
  · subst ey
    cases (show u = Value.ref b from ry)
    obtain ⟨z, hd, xs, rel, dd⟩ := dt_rd I.hok e
    obtain ⟨w', hw, rw'⟩ := RelO.some_of (v := v) (o := (atKey xs k).map (·.2)) (by rw [l]; exact rel.val k)
    obtain ⟨p, hp, hp2⟩ := Option.map_eq_some_iff.mp hw
    refine wpAny_getItem_heap (tupleKind_room_in1 hu) (key_of I.hok eb) dd hp ?_
    rw [hp2]
    exact h w' _ (I.tok _) rw'
theorem d_notIn {Q : Value → Shared → Prop} (hu : A.units + 1 < cLine) (I : Inv X pins σ H s) (g : DGet H a y o) (ry : RelV y u) (h : ∀ s', Inv X pins σ H s' → Q (.bool (!o.isSome)) s') :
    wpAny (model X.prog X.w) A (compareOp .NotIn u (.ref a)) Q E s := by
  rcases g with ⟨kvs, k, e, ey, l⟩ | ⟨kvs, k, b, e, ey, eb, l⟩
  · subst ey
    obtain ⟨z, hd, vs, rel, dd⟩ := dk_rd I.hok e
    refine wpAny_notIn_of (kV_is ry) hd dd.mapOf ?_
    rw [← (rel.val k).isSome_eq, ← l]
    exact h _ (I.tok _)
  · subst ey
    cases (show u = Value.ref b from ry)
    obtain ⟨z, hd, xs, rel, dd⟩ := dt_rd I.hok e
    refine wpAny_notIn_heap (tupleKind_room_in1 hu) (key_of I.hok eb) hd dd ?_
    have q := (rel.val k).isSome_eq
    rw [Option.isSome_map] at q
    rw [← q, ← l]
    exact h _ (I.tok _)
theorem d_write {h' : Heap} {t' : Nat} {ob : HO} (I : Inv X pins σ H s) (mu : Mut (H a)) (hs : Heap.SameBut a s.heap h') (he : ∃ q, h'.get? a = some q) (new : ObjOk X.prog X.w (upd H a ob) h' a ob) :
    Inv X pins σ (upd H a ob) { s with heap := h', toks := t' } :=
  I.write (x := a) (e := a) mu (.inl rfl) (fun b q hb z => (hs.2 b hb).trans z) he new
theorem dk_new {P : Program} {w : World} {H' : Hp} {h' : Heap} {kvs : List (Key × V)} {vs : List (Key × Value)} (z : kvs.length ≤ sizeLine) (hd : (a == sysModules) = false) (rel : KV kvs vs) (dd : h'.DictOf (mixKind P w) a vs) :
    ObjOk P w H' h' a (.dK kvs) := ⟨z, hd, vs, rel, dd⟩
theorem d_setItem {H' : Hp} {Q : Unit → Shared → Prop} (hu : A.units + 1 < cLine) (I : Inv X pins σ H s) (g : DPut H a y v H') (ry : RelV y u) (rv : RelV v r) (h : ∀ s', Inv X pins σ H' s' → Q () s') :
    wpAny (model X.prog X.w) A (setItem (.ref a) u r) Q E s := by
  rcases g with ⟨kvs, k, e, ey, l, eH⟩ | ⟨kvs, k, b, e, ey, eb, l, eH⟩
  · subst ey eH
    obtain ⟨z, hd, vs, rel, dd⟩ := dk_of I.hok e
    have hz : vs.length ≤ sizeLine := by rw [← rel.length]; exact z
    have hl : (putK kvs k v).length ≤ sizeLine := by have := length_putK kvs k v; omega
    refine wpAny_setItem_pairs (hsz := hz) (kV_is ry) dd fun h' dd' hs => h _ ?_
    have he : ∃ q, h'.get? a = some q := let ⟨q, _, _, hq, _⟩ := dd'; ⟨q, hq⟩
    exact d_write I (by rw [e]; exact True.intro) hs he (dk_new hl hd (rel.put k rv) dd')
  · subst ey eH
    cases (show u = Value.ref b from ry)
    obtain ⟨z, hd, xs, rel, dd⟩ := dt_of I.hok e
    have hz : xs.length ≤ sizeLine := by rw [← Paired.length rel]; exact z
    have hl : (putK kvs k v).length ≤ sizeLine := by have := length_putK kvs k v; omega
    refine wpAny_setItem_heap (hsz := hz) (tupleKind_room_in1 hu) (key_of I.hok eb) dd fun h' dd' hs => h _ ?_
    obtain ⟨q, es, ep, hq, h2, h3, h4, _, h5⟩ := dd'
    refine d_write I (by rw [e]; exact True.intro) hs ⟨q, hq⟩ ⟨hl, hd, _, (rel.put k eb rv).keeps fun c ys ec => ?_, q, es, ep, hq, h2, h3, h4, h5⟩
    rw [upd_ne (ne_of ec e (fun z => nomatch z))]
    exact ec
end
section
variable {X : Cx} {pins : List (Addr × Obj)} {σ : St} {H : Hp} {s : Shared} {a : Addr} {kvs : List (Key × V)} {k : Key} {u : Value} {A : Around} {E : Value → Shared → Prop}
end
def NoSl (i : Expr) : Prop := ∀ ov iv, subscripted i false ov iv = operate [ov, iv] (getItem ov iv)
theorem subD_of {prog : Program} {w : World} {A : Around} {E : Value → Shared → Prop} {s : Shared} {env : Env} {value slice : Expr} {pos : Pos} {T id : String} {Q : Value → Shared → Prop}
    (hl : typeLookup (.type T) "__getitem__" = pure (some (.builtin id))) (hs : NoSl slice)
    (h : wpAny (model prog w) A (eval value env) (fun o s₁ => wpAny (model prog w) A (eval slice env) (fun i s₂ => s₂.TypeIs o T ∧ wpAny (model prog w) A (getItem o i) Q E s₂) E s₁) E s) :
    wpAny (model prog w) A (eval (.Subscript value slice pos) env) Q E s := by
  refine Subscript_ (wpAny_mono h (fun o s₁ h₁ => wpAny_mono h₁ (fun i s₂ h₂ => ?_) fun _ _ x => x) fun _ _ x => x)
  obtain ⟨hT, h₂⟩ := h₂
  unfold subscriptTail
  refine wpAny_bind ?_
  rw [getitemInPython_of_ne hT.not_modules]
  refine wpAny_bind (wpAny_specialOf hT hl ?_)
  have fin : wpAny (model prog w) A (subscripted slice false o i) (fun r s₃ => wpAny (model prog w) A (letTemporaryGo value o r >>= fun _ => pure r) Q E s₃) E s₂ := by
    rw [hs o i]
    exact wpAny_operating (wpAny_mono h₂ (fun r s₃ h₃ => wpAny_bind (wpAny_letTemporaryGo (wpAny_pure h₃))) fun _ _ x => x)
  first
    | exact wpAny_pure (wpAny_bind fin)
    | exact wpAny_bind (wpAny_pure (wpAny_bind fin))
    | exact wpAny_bind fin
theorem dict_typeIs {X : Cx} {pins : List (Addr × Obj)} {σ : St} {H : Hp} {s : Shared} {a : Addr} {y : V} {o : Option V} (I : Inv X pins σ H s) (g : DGet H a y o) : s.TypeIs (.ref a) "dict" := by
  rcases g with ⟨kvs, k, e, _, _⟩ | ⟨kvs, k, b, e, _, _, _⟩
  · obtain ⟨_, _, vs, _, dd⟩ := dk_rd I.hok e
    exact dd.typeIs
  · obtain ⟨_, _, xs, _, dd⟩ := dt_rd I.hok e
    exact dd.typeIs
def tDGet (td ty : TE) : TE := fun σ H Q => td σ H fun x H1 => ty σ H1 fun y H2 => ∃ a v, x = .ref a ∧ DGet H2 a y (some v) ∧ Q v H2
def tDNotIn (ty td : TE) : TE := fun σ H Q => ty σ H fun y H1 => td σ H1 fun x H2 => ∃ a o, x = .ref a ∧ DGet H2 a y o ∧ Q (.bl (!o.isSome)) H2
def sDPut (td ty tv : TE) : TS := fun D σ H => tv σ H fun v H1 => td σ H1 fun x H2 => ty σ H2 fun y H3 => ∃ a H4, x = .ref a ∧ DPut H3 a y v H4 ∧ D.nx σ H4
section
variable {X : Cx} {o i e value : Expr} {pos pos' tpos : Pos} {td ty tv : TE}
theorem pe_dget (hu : X.A.units + 1 < cLine) (ho : PE X o td) (hi : PE X i ty) (hs : NoSl i) : PE X (.Subscript o i pos) (tDGet td ty) := by
  intro pins s σ H Q I h
  refine subD_of PySem.F.slot_dict_getitem.lookup hs (thn (ho pins s σ H _ I h) fun u s1 ⟨x, H1, I1, rx, q1⟩ => thn (hi pins s1 σ H1 _ I1 q1) fun iv s2 ⟨y, H2, I2, ry, a, v, ex, g, q2⟩ => ?_)
  subst ex
  obtain rfl : u = Value.ref a := rx
  exact ⟨dict_typeIs I2 g, d_getItem hu I2 g ry fun w' s3 I3 rw' => ⟨v, H2, I3, rw', q2⟩⟩
theorem pc_dnotin (hu : X.A.units + 1 < cLine) (hi : PE X i ty) (ho : PE X o td) : PC X .NotIn i o (tDNotIn ty td) := by
  intro pins s σ H Q I h
  refine thn (hi pins s σ H _ I h) fun iv s1 ⟨y, H1, I1, ry, q1⟩ => thn (ho pins s1 σ H1 _ I1 q1) fun u s2 ⟨x, H2, I2, rx, a, ov, ex, g, q2⟩ => ?_
  subst ex
  obtain rfl : u = Value.ref a := rx
  exact d_notIn hu I2 g ry fun s3 I3 => ⟨.bl (!ov.isSome), H2, I3, rfl, q2⟩
theorem ps_dput (hu : X.A.units + 1 < cLine) (ho : PE X o td) (hi : PE X i ty) (hv : PE X value tv) (hs : swapsWith value (some (.Subscript o i pos')) pos.line X.env = pure false) :
    PS X (.Assign [.Subscript o i pos'] value pos) (sDPut td ty tv) := by
  intro pins s σ H D I h
  refine wpAny_Assign_Subscript (thn (hv pins s σ H _ I h) fun r s1 ⟨v, H1, I1, rv, q1⟩ => thn (ho pins s1 σ H1 _ I1 q1) fun u s2 ⟨x, H2, I2, rx, q2⟩ => thn (hi pins s2 σ H2 _ I2 q2) fun iv s3 ⟨y, H3, I3, ry, a, H4, ex, g, q3⟩ => ?_) hs
  subst ex
  obtain rfl : u = Value.ref a := rx
  exact d_setItem hu I3 g ry rv fun s4 I4 => ⟨σ, H4, I4, q3⟩
end
theorem dk_empty {P : Program} {w : World} {H : Hp} (h : Heap) (hb : sysModules < h.objs.size) : ObjOk P w H (h.push { cls := .type "dict", data := .dict #[] }) h.objs.size (.dK []) :=
  ⟨Nat.zero_le _, beq_eq_false_iff_ne.mpr (Ne.symm (Nat.ne_of_lt hb)), [], .nil, Heap.DictOf.new h⟩
def tDNewK : TE := fun _ H Q => ∀ p, H p = none → Q (.ref p) (upd H p (.dK []))
section
variable {X : Cx} {pos : Pos}
theorem pe_dnewK : PE X (.Dict [] [] pos) tDNewK := fun pins s σ H Q I h =>
  wpAny_Dict_empty ⟨.ref s.heap.objs.size, _, I.laid (a := s.heap.objs.size) (o := .dK []) (t' := s.toks) (fun _ _ q => Heap.get?_push_of_some _ q) (Nat.le_refl _) (dk_empty s.heap I.big), rfl, h _ (I.hok.fresh (Nat.le_refl _))⟩
end
section
variable {X : Cx} {pins : List (Addr × Obj)} {σ : St} {H : Hp} {s : Shared} {a : Addr} {y d : V} {u r : Value} {o : Option V} {A : Around} {E : Value → Shared → Prop}
end
section
variable {X : Cx} {o e f : Expr} {apos cpos : Pos} {td ty tx : TE}
end
section
variable {X : Cx} {pins : List (Addr × Obj)} {σ : St} {H : Hp} {s : Shared} {a : Addr} {kvs : List (Key × V)} {A : Around} {E : Value → Shared → Prop}
end
section
variable {X : Cx} {pins : List (Addr × Obj)} {σ : St} {H : Hp} {s : Shared} {a : Addr} {y : V} {u : Value} {A : Around} {E : Value → Shared → Prop}
end
end L2
namespace L2
open PySem PySem.Spec PyProof.Rows
section
variable {prog : Program} {w : World} {A : Around} {E : Value → Shared → Prop}
end
section
variable {X : Cx}
end
end L2
namespace L2
open PySem PySem.Spec PyProof.Rows
section
variable {X : Cx} {pins : List (Addr × Obj)} {σ : St} {H : Hp} {s : Shared} {h' : Heap}
end
section
variable {X : Cx}
theorem pi_one {tg : Expr} {pins : List (Addr × Obj)} {σ : St} {H : Hp} {s : Shared} {R : It → Hp → Prop} {J : It} {tn : Nat → Heap → Prop} {tk : Nat} (I : Inv X pins σ H s) (o : Obj)
    (T : Turn X.prog X.w X.K tg J [s.heap.objs.size] s.heap.objs.size tn) (st : tn 0 (s.heap.push o)) (q : R J H) : PIE X pins σ tg R (.ref s.heap.objs.size) { s with heap := s.heap.push o, toks := tk } := by
  refine ⟨s.heap.objs.size, [s.heap.objs.size], tn, J, H, rfl, I.kept fun b ob e => Heap.get?_push_of_some _ e, T, st, fun b hb => ?_, q⟩
  have e : b = s.heap.objs.size := by simpa using hb
  subst e
  exact I.fpOk (Nat.le_refl _) (I.hok.fresh (Nat.le_refl _))
end
def Itc (lo c : Int) (n : Nat) : It := ⟨fun i _ => i < n, fun i H x H' => H' = H ∧ x = .int (lo + (i : Nat) * c), fun i _ => n ≤ i⟩
theorem turn_rangeC {P : Program} {w : World} {K : PySem.W.Frag} {tg : Expr} (it : Addr) (lo c : Int) (n : Nat) : Turn P w K tg (Itc lo c n) [it] it (fun i h => IsRangeIter h it (lo + (i : Nat) * c) ((n : Int) - (i : Nat)) c) where
  mem := by simp
  obj := fun i h st b hb => by
    have e : b = it := by simpa using hb
    subst e
    exact ⟨_, st, fun v z => nomatch z⟩
  keep := fun i h h' st k => k it (by simp) _ st
  item := by
    intro X hP hw hK hc i pins s σ H E I hf st hg
    subst hP hw hK
    obtain ⟨f0, f1, f2, f3, f4, f5⟩ := hf it (by simp)
    have W := Walks.range (prog := X.prog) (w := X.w) (I.ok.hd hc) it lo c n
    refine W.item i s _ _ hg st fun v h' tk hv st' kk => ?_
    obtain ⟨t, rfl⟩ := hv
    have I1 : Inv X pins σ H { s with heap := h', toks := tk } := I.turned (fun b o hb e => kk b o (by simpa using hb) e) f0 f1 f3 f4 f5
    exact ⟨_, rfl, go_of (s := { s with heap := h', toks := tk }) (n := "range_iterator") st' rfl rfl (by decide) ⟨.int (lo + (i : Nat) * c), H, I1, ⟨t, rfl⟩, ⟨rfl, rfl⟩, st', fun b hb => (hf b hb).1⟩⟩
  done := by
    intro X hP hw hK hc i pins s σ H E I hf st hg
    subst hP hw hK
    obtain ⟨f0, f1, f2, f3, f4, f5⟩ := hf it (by simp)
    exact wpAny_pyNext_range_end (I.ok.hd hc) st (by have : n ≤ i := hg; omega) fun h' eb => ⟨rfl, I.turned (t' := s.toks) (fun b o hb e => eb b o hb e) f0 f1 f3 f4 f5⟩
  self := fun A i s Q E st h => wpAny_pyIter_rangeiter st h
def RgC (i j c : Int) (n : Nat) : Prop := c ≠ 0 ∧ c.natAbs < 1073741824 ∧ Builtin.Range.small i j c = true ∧ Builtin.Range.rangeSize i j c = n
theorem RgC.neg {i j : Int} (ha : -(2 ^ 62) ≤ i) (ha' : i < 2 ^ 62) (hb : -(2 ^ 62) ≤ j) (hb' : j < 2 ^ 62) : RgC i j (-1) (i - j).toNat :=
  ⟨by decide, by decide, PySem.W.small_down ha ha' hb hb', PySem.W.rangeSize_downNat i j⟩
def iRng3 (ta : TA) : TI := fun σ H R => ta σ H fun vs H1 => ∃ (i j c : Int) (n : Nat), vs = [.int i, .int j, .int c] ∧ RgC i j c n ∧ R (Itc i c n) H1
section
variable {X : Cx} {tg : Expr}
theorem pi_range3 {a b c : Expr} {ta : TA} {p pos : Pos} (hg : Gl X "range") (hm : X.mg "range" = none) (ha : PA X [a, b, c] ta)
    (hs : starEach [a, b, c] X.env = (false, eval a X.env) :: starEach [b, c] X.env := by rfl) (hpl : (backTo pos (starEach [b, c] X.env)).any (·.1) = false := by rfl) :
    PI X tg (.Call (.Name "range" p) [a, b, c] [] pos) (iRng3 ta) := by
  intro pins s σ H R I h
  refine Call_ (ld_blt I hg hm boot_range (PyProof.Rows.callWith_type1 (thn (ha pos pins s σ H _ I h) fun us s1 ⟨vs, H1, I1, r1, q1⟩ => ?_) hs hpl))
  obtain ⟨i, j, k, n, e, ⟨c0, c1, c2, c3⟩, q⟩ := q1
  subst e
  cases r1 with
  | cons r rr =>
    cases rr with
    | cons r' rr =>
      cases rr with
      | cons r'' rr =>
        cases rr
        obtain ⟨t, rfl⟩ := r
        obtain ⟨t', rfl⟩ := r'
        obtain ⟨t'', rfl⟩ := r''
        refine call_range_3 c0 ?_ (.inl (PyProof.noPylong_small c1))
        refine wpAny_pyIter_range (IsRange.new ..) c2 ?_
        have I2 : Inv X pins σ H1 { s1 with heap := s1.heap.push { cls := .type "range", data := .fields #[.int i t, .int j t', .int k t''] } } := I1.kept (t' := s1.toks) fun b o e => Heap.get?_push_of_some _ e
        refine pi_one (tk := s1.toks) I2 _ (turn_rangeC _ i k n) ?_ q
        have e1 : i + ((0 : Nat) : Int) * k = i := by simp
        have e2 : (n : Int) - ((0 : Nat) : Int) = Builtin.Range.rangeSize i j k := by rw [c3]; simp
        show IsRangeIter _ _ (i + ((0 : Nat) : Int) * k) ((n : Int) - ((0 : Nat) : Int)) k
        rw [e1, e2]
        exact Heap.get?_push_size _ rfl
end
theorem for_rangeC {lo c : Int} {n : Nat} {g : TG} {tb : TS} {D : Ends} {σ : St} {H : Hp} (Pv : Nat → St → Hp → Prop) (h0 : Pv 0 σ H)
    (hs : ∀ i σ H, i < n → Pv i σ H → g (.int (lo + (i : Nat) * c)) σ H fun σ2 H2 => tb { D with nx := Pv (i + 1), ct := Pv (i + 1), bk := D.nx } σ2 H2) (hd : ∀ σ H, Pv n σ H → D.nx σ H) :
    ∃ W : Nat → Nat → St → Hp → Prop, (∃ m, W 0 m σ H) ∧ ∀ i m σ H, W i m σ H →
      ((Itc lo c n).stop i H ∧ D.nx σ H) ∨ ((Itc lo c n).go i H ∧ ∃ N : St → Hp → Prop, (∀ σ' H', N σ' H' → ∃ m', m' < m ∧ W (i + 1) m' σ' H') ∧ ∀ x H', (Itc lo c n).yld i H x H' → g x σ H' fun σ2 H2 => tb { D with nx := N, ct := N, bk := D.nx } σ2 H2) := by
  refine ⟨fun i m σ H => m = n - i ∧ i ≤ n ∧ Pv i σ H, ⟨n, by simp, Nat.zero_le _, h0⟩, ?_⟩
  rintro i m σ H ⟨rfl, hi, p⟩
  by_cases hlt : i < n
  · refine .inr ⟨hlt, Pv (i + 1), fun σ' H' p' => ⟨n - (i + 1), by omega, rfl, hlt, p'⟩, fun x H' y => ?_⟩
    obtain ⟨e, y⟩ := y
    subst e y
    exact hs i σ _ hlt p
  · have e : i = n := by omega
    subst e
    exact .inl ⟨Nat.le_refl _, hd σ H p⟩
section
variable {X : Cx} {tg : Expr}
end
section
variable {prog : Program} {w : World} {A : Around} {E : Value → Shared → Prop} {s : Shared}
end
section
variable {X : Cx} {pins : List (Addr × Obj)} {σ : St} {H : Hp} {s : Shared} {d : Addr} {o : Obj}
end
section
variable {P : Program} {w : World} {K : PySem.W.Frag} {tg : Expr} {d : Addr} {o : Obj} {es : Array DictEntry} {ep : Nat}
end
section
variable {X : Cx} {tg e : Expr} {td : TE} {apos cpos : Pos}
end
end L2
section 
namespace Bits
open PySem PyProof.Rows
end Bits
end 
section 
namespace TL
open PySem PySem.Builtin PySem.Builtin.Str PySem.StrLaws
end TL
end 
namespace L2
open PySem PySem.Spec PyProof.Rows
section
variable {X : Cx} {pins : List (Addr × Obj)} {σ : St} {H : Hp} {s : Shared} {Q : VK}
end
section
variable {X : Cx}
end
section
variable {X : Cx} {o e : Expr} {to te : TE}
end
end L2
namespace L2
open PySem PySem.Spec PyProof.Rows
section
variable {X : Cx}
end
end L2
namespace Att
open PySem PySem.W PySem.Calls PyProof.Rows
section
variable {prog : Program} {w : World} {A : Around} {E : Value → Shared → Prop} {s : Shared} {K : Frag}
end
end Att
namespace L2
open PySem PySem.Spec PyProof.Rows
end L2
namespace L2
open PySem PySem.Spec PyProof.Rows
end L2
namespace L2
open PySem PySem.Spec PyProof.Rows
def inClass (s : Stmt) (j : Nat) : Stmt := match s with
  | .ClassDef _ _ _ body _ _ _ _ _ _ _ => body.getD j (.Pass ⟨0, 0, 0, 0⟩)
  | _ => .Pass ⟨0, 0, 0, 0⟩
def defArgs (s : Stmt) : Arguments := match s with
  | .FunctionDef _ a _ _ _ _ _ _ _ _ => a
  | _ => { posonlyargs := [], args := [], vararg := none, kwonlyargs := [], kw_defaults := [], kwarg := none, defaults := [] }
def defBody (s : Stmt) : List Stmt := match s with
  | .FunctionDef _ _ b _ _ _ _ _ _ _ => b
  | _ => []
def defScope (s : Stmt) : Scope := match s with
  | .FunctionDef _ _ _ _ _ _ sc _ _ _ => sc
  | _ => { kind := .function, names := [], isGenerator := false, isCoroutine := false }
abbrev CX0 : CXT := fun _ _ _ _ _ _ => False
abbrev E0 : XK := fun _ _ _ => False
theorem pass0 {X : Cx} : Passes CX0 X E0 := fun _ _ _ _ _ _ _ h => h.elim
structure Fun (K : PySem.W.Frag) (x qual : Str) (st : Stmt) (f : Addr) (fd : FuncData) : Prop where
  ex : ∃ (oc : Value) (od : Option Addr) (kV doc pm : Value) (an : Option Addr) (cdv ct : Value) (osl : Array (Option Value)),
    fd = PySem.W.fnOf x qual (defArgs st) (defBody st) (defScope st) .none kV doc pm an cdv ct ∧ K.lookup f = some ⟨oc, od, .func fd, osl⟩ ∧ PySem.W.codeIn K cdv qual = true
  kp : PySem.W.keepIn K (.ref f) = true
section
variable {P : Program} {w : World} {K : PySem.W.Frag} {mg : Str → Option Value} {base : Heap}
theorem Fun.ok {x qual : Str} {st : Stmt} {f : Addr} {fd : FuncData} {N ps : List Str} {k : Nat} {sp : Sp} (F : Fun K x qual st f fd) (S : FnScope N ps (defScope st)) (len : ∀ vs H Q E, sp vs H Q E → vs.length = ps.length)
    (hbody : ∀ (cdv : Value) (A : Around) (outer : List Env) (s : Shared) (H : Hp) (vs : List V) (Q : VK) (E : XK), Room k (A.deeper (envOfC qual (defScope st) s.heap.objs.size f cdv)) → sp vs H Q E →
      ∃ t, PSs (cxOf CX0 P w K mg base N qual (defScope st) f cdv A outer s H E).nox (defBody st) t ∧ t { nx := fun _ H' => Q .non H', rt := Q } (start N vs) H) : FnOk P w K mg base CX0 (k + 1) f fd ps sp := by
  obtain ⟨oc, od, kV, doc, pm, an, cdv, ct, osl, rfl, lk, hcd⟩ := F.ex
  refine fn_of lk hcd S len fun A outer s H vs Q E hr hsp => ?_
  obtain ⟨t, h, q⟩ := hbody cdv A outer s H vs Q E hr hsp
  exact ⟨t, h.nox, q⟩
theorem Fun.binds {x qual : Str} {st : Stmt} {f : Addr} {fd : FuncData} {ps : List Str} (F : Fun K x qual st f fd)
    (h : ∀ (kV doc pm : Value) (an : Option Addr) (cdv ct : Value) (us : List Value), us.length = ps.length → bindArgs (PySem.W.fnOf x qual (defArgs st) (defBody st) (defScope st) .none kV doc pm an cdv ct) ⟨us, []⟩ = pure (ps.zip us)) : Binds K fd ps [] := by
  obtain ⟨oc, od, kV, doc, pm, an, cdv, ct, osl, rfl, lk, hcd⟩ := F.ex
  exact .all (h kV doc pm an cdv ct)
theorem fun_mk {x qual : Str} {st : Stmt} {f : Addr} {oc : Value} {od an : Option Addr} {osl : Array (Option Value)} {kV doc pm cdv ct : Value} (l : K.lookup f = some ⟨oc, od, .func (PySem.W.fnOf x qual (defArgs st) (defBody st) (defScope st) .none kV doc pm an cdv ct), osl⟩)
    (c : PySem.W.codeIn K cdv qual = true) (k : PySem.W.keepIn K (.ref f) = true) : Fun K x qual st f (PySem.W.fnOf x qual (defArgs st) (defBody st) (defScope st) .none kV doc pm an cdv ct) := ⟨⟨oc, od, kV, doc, pm, an, cdv, ct, osl, rfl, l, c⟩, k⟩
end
theorem hu_of {A : Around} {k : Nat} (hr : Room k A) : A.units + 1 < cLine := Nat.lt_of_le_of_lt (Nat.add_le_add_left (by decide : 1 ≤ 64) _) hr.units
section
variable {X : Cx}
theorem pv (i : Nat) {x : Str} {pos : Pos} (hN : X.N[i]? = some x := by rfl) (hv : Vis X.env.scope x := by first | exact Or.inl rfl | exact Or.inr (Or.inl rfl) | exact Or.inr (Or.inr rfl)) (hd : (x == ("__debug__" : Str)) = false := by decide)
    (hcd : (x == ("__classdict__" : Str)) = false := by decide) : PE X (.Name x pos) (tVar i) := pe_var hN hv hd hcd
end
theorem iteF {A B : Prop} (h : B) : if false = true then A else B := by
  rw [if_neg Bool.false_ne_true]
  exact h
theorem iteT {A B : Prop} (h : A) : if true = true then A else B := by
  rw [if_pos rfl]
  exact h
theorem ite2 {c A B : Prop} [Decidable c] (h1 : c → A) (h2 : ¬ c → B) : if c then A else B := by
  by_cases h : c
  · rw [if_pos h]
    exact h1 h
  · rw [if_neg h]
    exact h2 h
def Same (H H' : Hp) : Prop := ∀ b o, H b = some o → H' b = some o
theorem Same.refl (H : Hp) : Same H H := fun _ _ h => h
theorem Same.trans {H H1 H2 : Hp} (a : Same H H1) (b : Same H1 H2) : Same H H2 := fun c o h => b c o (a c o h)
theorem Same.free {H H' : Hp} (e : Same H H') {l : Addr} (h : H' l = Option.none) : H l = Option.none := by
  cases q : H l with
  | none => rfl
  | some o =>
    rw [e l o q] at h
    cases h
theorem Same.seq {K : PySem.W.Frag} {H H' : Hp} {a : Addr} {xs : List V} (e : Same H H') (h : SqL K H a xs) : SqL K H' a xs := by
  rcases h with (h | ⟨o, h⟩) | h
  · exact .inl (.inl (e _ _ h))
  · exact .inl (.inr ⟨o, e _ _ h⟩)
  · exact .inr h
section
variable {κ : Type} [DecidableEq κ]
theorem valV_not {kvs : List (κ × V)} {k : κ} (h : valV kvs k = none) : ¬ k ∈ kvs.map (·.1) := by
  intro m
  obtain ⟨p, hp, e⟩ := List.mem_map.mp m
  have q : (kvs.any fun kv => decide (kv.1 = k)) = true := List.any_eq_true.mpr ⟨p, hp, decide_eq_true e⟩
  rw [valV_any, h] at q
  exact absurd q (by simp)
end
theorem Same.made {H H1 : Hp} {x dx C : Addr} (nx : H x = Option.none) (nd : H dx = Option.none) (k : ∀ b o, (upd (upd H dx (.own x)) x (.ins C dx [])) b = some o → b ≠ x → H1 b = some o) : Same H H1 := fun b o e =>
  k b o (by rw [upd_ne (ne_of_none e nx), upd_ne (ne_of_none e nd)]; exact e) (ne_of_none e nx)
end L2
end
section
section
set_option Elab.async false
set_option linter.all false
set_option maxRecDepth 100000
set_option maxHeartbeats 2000000
namespace L2
open PySem PySem.Spec PyProof.Rows
open PySem.W (WData Codec OpenSpec Well WellAll ReadsW ReadsAllW)
mutual
/-- x stands for the datum d, lists and tuples all the way -/
inductive Dw (K : PySem.W.Frag) (H : Hp) : V → WData → Prop
  | non : Dw K H .non .none
  | bl (b : Bool) : Dw K H (.bl b) (.bool b)
  | int (i : Int) : Dw K H (.int i) (.int i)
  | str (x : Str) : Dw K H (.str x) (.str x)
  | byt (b : Array UInt8) : Dw K H (.byt b) (.bytes b.toList)
  | lst {a : Addr} {xs : List V} {ds : List WData} : SqL K H a xs → DwAll K H xs ds → Dw K H (.ref a) (.list ds)
  | tup {a : Addr} {xs : List V} {ds : List WData} : SqT K H a xs → DwAll K H xs ds → Dw K H (.ref a) (.tuple ds)
inductive DwAll (K : PySem.W.Frag) (H : Hp) : List V → List WData → Prop
  | nil : DwAll K H [] []
  | cons {v : V} {vs : List V} {d : WData} {ds : List WData} : Dw K H v d → DwAll K H vs ds → DwAll K H (v :: vs) (d :: ds)
end
theorem dw_ints {K : PySem.W.Frag} {H : Hp} : ∀ ns : List Int, DwAll K H (ns.map V.int) (ns.map WData.int)
  | [] => .nil
  | n :: r => .cons (.int n) (dw_ints r)
theorem ints_dw {K : PySem.W.Frag} {H : Hp} : ∀ (ns : List Int) (xs : List V), DwAll K H xs (ns.map WData.int) → xs = ns.map V.int
  | [], xs, h => by
    cases h
    rfl
  | n :: r, xs, h => by
    cases h with
    | cons h1 h2 =>
      cases h1
      rw [ints_dw r _ h2] <;> rfl
section
variable {P : Program} {w : World} {K : PySem.W.Frag} {H : Hp} {h : Heap} {R : PySem.W.WRecords} {cl : Str → Option Addr}
theorem sqL_at {a : Addr} {xs : List V} (hok : HOk P w H h) (KX : K.In h) (q : SqL K H a xs) : ∃ (its : List Value) (o : Obj) (n : Nat), Vals xs its ∧ h.get? a = some o ∧ o.cls = .type "list" ∧ o.data = .seq its.toArray n := by
  rcases q with q | ⟨o, its, n, e, hc, _, hd, _, hv⟩
  · obtain ⟨_, its, n, hv, e⟩ := (show ObjOk P w H h a (.lst xs) from q.ok hok)
    exact ⟨its, _, n, hv, e, rfl, rfl⟩
  · exact ⟨its.toList, o, n, hv, KX _ _ e, hc, by simp [hd]⟩
theorem sqT_at {a : Addr} {xs : List V} (hok : HOk P w H h) (KX : K.In h) (q : SqT K H a xs) : ∃ (its : List Value) (o : Obj) (n : Nat), Vals xs its ∧ h.get? a = some o ∧ o.cls = .type "tuple" ∧ o.data = .seq its.toArray n := by
  rcases q with q | ⟨o, its, n, e, hc, hd, _, hv⟩
  · obtain ⟨_, its, hv, o, e, hc, n, hd⟩ := (show ObjOk P w H h a (.tup xs) from q.ok hok)
    exact ⟨its, o, n, hv, e, hc, hd⟩
  · exact ⟨its.toList, o, n, hv, KX _ _ e, hc, by simp [hd]⟩
mutual
theorem Dw.reads (hok : HOk P w H h) (KX : K.In h) : ∀ (d : WData) (v : V) (u : Value), Dw K H v d → RelV v u → ∃ as, ReadsW R cl h u d as
  | .none, _, _, x, r => by
    cases x
    cases r
    exact ⟨_, ReadsW.none⟩
  | .bool b, _, _, x, r => by
    cases x
    cases r
    exact ⟨_, ReadsW.bool b⟩
  | .int i, _, _, x, r => by
    cases x
    obtain ⟨t, rfl⟩ := r
    exact ⟨_, ReadsW.int i t⟩
  | .str s, _, _, x, r => by
    cases x
    obtain ⟨t, rfl⟩ := r
    exact ⟨_, ReadsW.str s t⟩
  | .bytes b, _, _, x, r => by
    cases x
    obtain ⟨t, rfl⟩ := r
    exact ⟨_, ReadsW.bytes _ t⟩
  | .list ds, _, _, x, r => by
    cases x with
    | lst hs ha =>
      cases r
      obtain ⟨its, o, n, rv, ho, hc, hd⟩ := sqL_at hok KX hs
      obtain ⟨as, hr⟩ := Dw.readsAll hok KX ds _ its ha rv
      exact ⟨_, ReadsW.list ho hc hd hr⟩
  | .tuple ds, _, _, x, r => by
    cases x with
    | tup hs ha =>
      cases r
      obtain ⟨its, o, n, rv, ho, hc, hd⟩ := sqT_at hok KX hs
      obtain ⟨as, hr⟩ := Dw.readsAll hok KX ds _ its ha rv
      exact ⟨_, ReadsW.tuple ho hc hd hr⟩
  | .float _, _, _, x, _ => by cases x
  | .dict _, _, _, x, _ => by cases x
  | .bytearray _, _, _, x, _ => by cases x
  | .set _, _, _, x, _ => by cases x
  | .frozenset _, _, _, x, _ => by cases x
  | .obj _ _, _, _, x, _ => by cases x
theorem Dw.readsAll (hok : HOk P w H h) (KX : K.In h) : ∀ (ds : List WData) (vs : List V) (us : List Value), DwAll K H vs ds → Vals vs us → ∃ as, ReadsAllW R cl h us ds as
  | [], _, _, x, r => by
    cases x
    cases r
    exact ⟨_, ReadsAllW.nil⟩
  | d :: ds, _, _, x, r => by
    cases x with
    | cons h1 h2 =>
      cases r with
      | cons r1 r2 =>
        obtain ⟨as, q1⟩ := Dw.reads hok KX d _ _ h1 r1
        obtain ⟨bs, q2⟩ := Dw.readsAll hok KX ds _ _ h2 r2
        exact ⟨_, ReadsAllW.cons q1 q2⟩
end
end
mutual
/-- data that a codec tells -/
def plW : WData → Bool
  | .none => true
  | .bool _ => true
  | .int _ => true
  | .str _ => true
  | .bytes _ => true
  | .list xs => plWs xs
  | .tuple xs => plWs xs
  | _ => false
def plWs : List WData → Bool
  | [] => true
  | x :: r => plW x && plWs r
end
theorem plWs_map {α : Type} {f : α → WData} (h : ∀ a, plW (f a) = true) : ∀ l : List α, plWs (l.map f) = true
  | [] => rfl
  | x :: r => by
    show (plW (f x) && plWs (r.map f)) = true
    rw [h x, plWs_map h r] <;> rfl
theorem pl_enc : ∀ (c : Codec) (a : c.denote), plW (c.enc a) = true
  | .unit, _ => rfl
  | .bool, _ => rfl
  | .int _ _, _ => rfl
  | .nat _ _, _ => rfl
  | .u8, _ => rfl
  | .bytes _ _, _ => rfl
  | .text _ _ _ _, _ => rfl
  | .list _ _ c, a => plWs_map (fun x => pl_enc c x) a
  | .pair c d, a => by
    show (plW (c.enc a.1) && (plW (d.enc a.2) && true)) = true
    rw [pl_enc c a.1, pl_enc d a.2] <;> rfl
  | .triple c d e, a => by
    show (plW (c.enc a.1) && (plW (d.enc a.2.1) && (plW (e.enc a.2.2) && true))) = true
    rw [pl_enc c a.1, pl_enc d a.2.1, pl_enc e a.2.2] <;> rfl
  | .option c, none => rfl
  | .option c, some x => pl_enc c x
theorem pl_encAll : ∀ (cs : List Codec) (a : Codec.denoteAll cs), plWs (Codec.encAll cs a) = true
  | [], _ => rfl
  | c :: cs, a => by
    show (plW (c.enc a.1) && plWs (Codec.encAll cs a.2)) = true
    rw [pl_enc c a.1, pl_encAll cs a.2] <;> rfl
theorem weight_mem : ∀ {xs : List WData} {d : WData}, d ∈ xs → d.weight ≤ WData.weightAll xs
  | [], d, h => absurd h (by simp)
  | x :: r, d, h => by
    show d.weight ≤ x.weight + 1 + WData.weightAll r
    rcases List.mem_cons.mp h with e | m
    · rw [e]
      omega
    · have z := weight_mem m
      omega
def toV : Value → V
  | .none => .non
  | .bool b => .bl b
  | .int i _ => .int i
  | .str x _ => .str x
  | .bytes b _ => .byt b
  | .ref a => .ref a
  | _ => .non
def OkU (A : List Addr) : Value → Prop
  | .none => True
  | .bool _ => True
  | .int _ _ => True
  | .str _ _ => True
  | .bytes _ _ => True
  | .ref a => a ∈ A
  | _ => False
theorem OkU.mono {A B : List Addr} (h : ∀ a ∈ A, a ∈ B) : ∀ {u : Value}, OkU A u → OkU B u := fun {u} x => by
  cases u with
  | ref a => exact h a x
  | none => trivial
  | bool b => trivial
  | int i t => trivial
  | str s t => trivial
  | bytes b t => trivial
  | _ => exact False.elim x
theorem relV_toV {A : List Addr} {u : Value} (x : OkU A u) : RelV (toV u) u := by
  cases u with
  | ref a => rfl
  | none => rfl
  | bool b => rfl
  | int i t => exact ⟨t, rfl⟩
  | str s t => exact ⟨t, rfl⟩
  | bytes b t => exact ⟨t, rfl⟩
  | _ => exact False.elim x
theorem vals_toV {A : List Addr} : ∀ {vs : List Value}, (∀ u ∈ vs, OkU A u) → Vals (vs.map toV) vs
  | [], _ => .nil
  | u :: r, h => .cons (relV_toV (h u (List.mem_cons_self ..))) (vals_toV fun x hx => h x (List.mem_cons_of_mem _ hx))
def ArgOb (h : Heap) (A : List Addr) (a : Addr) : Prop := ∃ vs : List Value, vs.length ≤ sizeLine ∧ (∀ u ∈ vs, OkU A u) ∧
  (h.get? a = some { cls := .type "list", data := .seq vs.toArray } ∨ h.get? a = some { cls := .type "tuple", data := .seq vs.toArray })
theorem ArgOb.mono {h : Heap} {A B : List Addr} {a : Addr} (k : ∀ a ∈ A, a ∈ B) (x : ArgOb h A a) : ArgOb h B a := by
  obtain ⟨vs, h1, h2, h3⟩ := x
  exact ⟨vs, h1, fun u hu => (h2 u hu).mono k, h3⟩
theorem wellAll_len {P : Params} {h : Heap} : ∀ {vs : List Value} {ds : List WData}, WellAll P h vs ds → vs.length = ds.length
  | _, _, .nil => rfl
  | _, _, .cons _ b => by
    show _ + 1 = _ + 1
    rw [wellAll_len b]
theorem well_list {P : Params} {h : Heap} {v : Value} {ds : List WData} (x : Well P h v (.list ds)) : ∃ (a : Addr) (vs : List Value), v = .ref a ∧ h.get? a = some { cls := .type "list", data := .seq vs.toArray } ∧ WellAll P h vs ds := by
  cases x with
  | list ho hall => exact ⟨_, _, rfl, ho, hall⟩
theorem well_tuple {P : Params} {h : Heap} {v : Value} {ds : List WData} (x : Well P h v (.tuple ds)) : ∃ (a : Addr) (vs : List Value), v = .ref a ∧ h.get? a = some { cls := .type "tuple", data := .seq vs.toArray } ∧ WellAll P h vs ds := by
  cases x with
  | tuple ho hall => exact ⟨_, _, rfl, ho, hall⟩
theorem well_cons {P : Params} {h : Heap} {us : List Value} {d : WData} {ds : List WData} (x : WellAll P h us (d :: ds)) : ∃ (v : Value) (vs : List Value), us = v :: vs ∧ Well P h v d ∧ WellAll P h vs ds := by
  cases x with
  | cons a b => exact ⟨_, _, rfl, a, b⟩
theorem line_of {n : Nat} (h : n ≤ 1048576) : n ≤ sizeLine := Nat.le_trans h (by decide)
section
variable {P : Params} {h : Heap}
mutual
theorem area_one : ∀ (d : WData) (v : Value), Well P h v d → plW d = true → d.weight ≤ 1048576 → ∃ A : List Addr, OkU A v ∧ ∀ a ∈ A, ArgOb h A a
  | .none, _, x, _, _ => by
    cases x
    exact ⟨[], trivial, fun a m => absurd m (by simp)⟩
  | .bool b, _, x, _, _ => by
    cases x
    exact ⟨[], trivial, fun a m => absurd m (by simp)⟩
  | .int i, _, x, _, _ => by
    cases x
    exact ⟨[], trivial, fun a m => absurd m (by simp)⟩
  | .str s, _, x, _, _ => by
    cases x
    exact ⟨[], trivial, fun a m => absurd m (by simp)⟩
  | .bytes b, _, x, _, _ => by
    cases x
    exact ⟨[], trivial, fun a m => absurd m (by simp)⟩
  | .list ds, _, x, p, z => by
    obtain ⟨a, vs, rfl, ho, hall⟩ := well_list x
    have z2 : WData.weightAll ds ≤ 1048576 := z
    obtain ⟨A, h1, h2⟩ := area_all ds _ hall p fun d hd => Nat.le_trans (weight_mem hd) z2
    have k : ∀ b ∈ A, b ∈ a :: A := fun b hb => List.mem_cons_of_mem _ hb
    refine ⟨a :: A, List.mem_cons_self .., fun b hb => ?_⟩
    rcases List.mem_cons.mp hb with e | m
    · rw [e]
      exact ⟨vs, line_of (by rw [wellAll_len hall]; exact Nat.le_trans (PySem.W.length_le_weightAllW ds) z2), fun u hu => (h1 u hu).mono k, .inl ho⟩
    · exact (h2 b m).mono k
  | .tuple ds, _, x, p, z => by
    obtain ⟨a, vs, rfl, ho, hall⟩ := well_tuple x
    have z2 : WData.weightAll ds ≤ 1048576 := z
    obtain ⟨A, h1, h2⟩ := area_all ds _ hall p fun d hd => Nat.le_trans (weight_mem hd) z2
    have k : ∀ b ∈ A, b ∈ a :: A := fun b hb => List.mem_cons_of_mem _ hb
    refine ⟨a :: A, List.mem_cons_self .., fun b hb => ?_⟩
    rcases List.mem_cons.mp hb with e | m
    · rw [e]
      exact ⟨vs, line_of (by rw [wellAll_len hall]; exact Nat.le_trans (PySem.W.length_le_weightAllW ds) z2), fun u hu => (h1 u hu).mono k, .inr ho⟩
    · exact (h2 b m).mono k
  | .float _, _, _, p, _ => Bool.noConfusion (show false = true from p)
  | .dict _, _, _, p, _ => Bool.noConfusion (show false = true from p)
  | .bytearray _, _, _, p, _ => Bool.noConfusion (show false = true from p)
  | .set _, _, _, p, _ => Bool.noConfusion (show false = true from p)
  | .frozenset _, _, _, p, _ => Bool.noConfusion (show false = true from p)
  | .obj _ _, _, _, p, _ => Bool.noConfusion (show false = true from p)
theorem area_all : ∀ (ds : List WData) (vs : List Value), WellAll P h vs ds → plWs ds = true → (∀ d ∈ ds, d.weight ≤ 1048576) → ∃ A : List Addr, (∀ u ∈ vs, OkU A u) ∧ ∀ a ∈ A, ArgOb h A a
  | [], _, x, _, _ => by
    cases x
    exact ⟨[], fun u m => absurd m (by simp), fun a m => absurd m (by simp)⟩
  | d :: ds, _, x, p, z => by
    obtain ⟨v, vs, rfl, x1, x2⟩ := well_cons x
    have q : plW d = true ∧ plWs ds = true := Bool.and_eq_true_iff.mp p
    obtain ⟨A, a1, a2⟩ := area_one d v x1 q.1 (z d (List.mem_cons_self ..))
    obtain ⟨B, b1, b2⟩ := area_all ds vs x2 q.2 fun e he => z e (List.mem_cons_of_mem _ he)
    have kA : ∀ b ∈ A, b ∈ A ++ B := fun b hb => List.mem_append.mpr (.inl hb)
    have kB : ∀ b ∈ B, b ∈ A ++ B := fun b hb => List.mem_append.mpr (.inr hb)
    refine ⟨A ++ B, fun u hu => ?_, fun b hb => ?_⟩
    · rcases List.mem_cons.mp hu with e | m
      · rw [e]
        exact a1.mono kA
      · exact (b1 u m).mono kB
    · rcases List.mem_append.mp hb with m | m
      · exact (a2 b m).mono kA
      · exact (b2 b m).mono kB
end
end
def hoOf (o : Obj) : Option HO := match o.data with
  | .seq vs _ => if (o.cls == Value.type "list") = true then some (.frz o (.lst (vs.toList.map toV))) else some (.frz o (.tup (vs.toList.map toV)))
  | _ => none
def argH (K : PySem.W.Frag) (h : Heap) (A : List Addr) : Hp := fun b => if b ∈ A then (if (K.lookup b).isNone = true then (h.get? b).bind hoOf else none) else none
def OnlyF (H : Hp) : Prop := ∀ b, H b = none ∨ ∃ o u, H b = some (.frz o u)
theorem hoOf_lst (vs : List Value) : hoOf { cls := .type "list", data := .seq vs.toArray } = some (.frz { cls := .type "list", data := .seq vs.toArray } (.lst (vs.map toV))) := by
  show (if (Value.type "list" == Value.type "list") = true then some (HO.frz { cls := .type "list", data := .seq vs.toArray } (.lst (vs.toArray.toList.map toV))) else some (HO.frz { cls := .type "list", data := .seq vs.toArray } (.tup (vs.toArray.toList.map toV)))) = _
  rw [if_pos (beq_self_eq_true _)]
theorem hoOf_tup (vs : List Value) : hoOf { cls := .type "tuple", data := .seq vs.toArray } = some (.frz { cls := .type "tuple", data := .seq vs.toArray } (.tup (vs.map toV))) := by
  show (if (Value.type "tuple" == Value.type "list") = true then some (HO.frz { cls := .type "tuple", data := .seq vs.toArray } (.lst (vs.toArray.toList.map toV))) else some (HO.frz { cls := .type "tuple", data := .seq vs.toArray } (.tup (vs.toArray.toList.map toV)))) = _
  rw [if_neg (by decide)]
section
variable {P : Program} {w : World} {K : PySem.W.Frag} {h : Heap} {A : List Addr}
theorem argH_at {b : Addr} {o : Obj} (hb : b ∈ A) (hk : K.lookup b = none) (e : h.get? b = some o) : argH K h A b = hoOf o := by
  unfold argH
  rw [if_pos hb, hk, if_pos (show (none : Option Obj).isNone = true from rfl), e] <;> rfl
theorem of_argH {b : Addr} {u : HO} (q : argH K h A b = some u) : b ∈ A ∧ K.lookup b = none := by
  unfold argH at q
  by_cases hb : b ∈ A
  · rw [if_pos hb] at q
    cases hk : K.lookup b with
    | none => exact ⟨hb, rfl⟩
    | some o =>
      rw [hk, if_neg (by simp)] at q
      cases q
  · rw [if_neg hb] at q
    cases q
theorem argH_is (ar : ∀ a ∈ A, ArgOb h A a) {b : Addr} {u : HO} (q : argH K h A b = some u) : K.lookup b = none ∧ ∃ vs : List Value, vs.length ≤ sizeLine ∧ (∀ u ∈ vs, OkU A u) ∧
    ((h.get? b = some { cls := .type "list", data := .seq vs.toArray } ∧ u = .frz { cls := .type "list", data := .seq vs.toArray } (.lst (vs.map toV))) ∨
     (h.get? b = some { cls := .type "tuple", data := .seq vs.toArray } ∧ u = .frz { cls := .type "tuple", data := .seq vs.toArray } (.tup (vs.map toV)))) := by
  obtain ⟨hb, hk⟩ := of_argH q
  obtain ⟨vs, h1, h2, h3⟩ := ar b hb
  refine ⟨hk, vs, h1, h2, ?_⟩
  rcases h3 with e | e
  · rw [argH_at hb hk e, hoOf_lst] at q
    exact .inl ⟨e, (Option.some.inj q).symm⟩
  · rw [argH_at hb hk e, hoOf_tup] at q
    exact .inr ⟨e, (Option.some.inj q).symm⟩
theorem argH_only (ar : ∀ a ∈ A, ArgOb h A a) : OnlyF (argH K h A) := fun b => by
  cases q : argH K h A b with
  | none => exact .inl rfl
  | some u =>
    obtain ⟨_, vs, _, _, ⟨_, e⟩ | ⟨_, e⟩⟩ := argH_is ar q
    · exact .inr ⟨_, _, by rw [e]⟩
    · exact .inr ⟨_, _, by rw [e]⟩
theorem argH_ok (ar : ∀ a ∈ A, ArgOb h A a) : HOk P w (argH K h A) h := fun b u q => by
  obtain ⟨_, vs, h1, h2, ⟨e, rfl⟩ | ⟨e, rfl⟩⟩ := argH_is ar q
  · exact ⟨e, by rw [List.length_map]; exact h1, vs, _, vals_toV h2, e⟩
  · exact ⟨e, by rw [List.length_map]; exact h1, vs, vals_toV h2, _, e, rfl, _, rfl⟩
theorem seq_inj {c c' : Value} {vs us : List Value} (e : (some { cls := c, data := .seq vs.toArray } : Option Obj) = some { cls := c', data := .seq us.toArray }) : c = c' ∧ vs = us := by
  have e1 := Option.some.inj e
  have e2 : c = c' := congrArg Obj.cls e1
  have e3 : Data.seq vs.toArray = Data.seq us.toArray := congrArg Obj.data e1
  injection e3 with e4
  refine ⟨e2, ?_⟩
  have e5 := congrArg Array.toList e4
  simpa using e5
theorem argL (KX : K.In h) (ar : ∀ a ∈ A, ArgOb h A a) {a : Addr} {vs : List Value} (ha : a ∈ A) (e : h.get? a = some { cls := .type "list", data := .seq vs.toArray }) : (∀ u ∈ vs, OkU A u) ∧ SqL K (argH K h A) a (vs.map toV) := by
  obtain ⟨us, h1, h2, h3⟩ := ar a ha
  have hu : us = vs := by
    rcases h3 with q | q
    · rw [e] at q
      exact (seq_inj q).2.symm
    · rw [e] at q
      exact absurd (Value.type.inj (seq_inj q).1) (by decide)
  subst hu
  refine ⟨h2, ?_⟩
  cases hk : K.lookup a with
  | none => exact .inl (.inr ⟨_, by rw [argH_at ha hk e, hoOf_lst]⟩)
  | some o =>
    have e2 := KX a o hk
    rw [e] at e2
    obtain rfl := Option.some.inj e2
    exact .inr ⟨_, us.toArray, _, hk, rfl, rfl, rfl, by rw [List.size_toArray]; exact h1, by simpa using vals_toV h2⟩
theorem argT (KX : K.In h) (ar : ∀ a ∈ A, ArgOb h A a) {a : Addr} {vs : List Value} (ha : a ∈ A) (e : h.get? a = some { cls := .type "tuple", data := .seq vs.toArray }) : (∀ u ∈ vs, OkU A u) ∧ SqT K (argH K h A) a (vs.map toV) := by
  obtain ⟨us, h1, h2, h3⟩ := ar a ha
  have hu : us = vs := by
    rcases h3 with q | q
    · rw [e] at q
      exact absurd (Value.type.inj (seq_inj q).1) (by decide)
    · rw [e] at q
      exact (seq_inj q).2.symm
  subst hu
  refine ⟨h2, ?_⟩
  cases hk : K.lookup a with
  | none => exact .inl (.inr ⟨_, by rw [argH_at ha hk e, hoOf_tup]⟩)
  | some o =>
    have e2 := KX a o hk
    rw [e] at e2
    obtain rfl := Option.some.inj e2
    exact .inr ⟨_, us.toArray, _, hk, rfl, rfl, by rw [List.size_toArray]; exact h1, by simpa using vals_toV h2⟩
mutual
theorem dw_one {Pm : Params} (KX : K.In h) (ar : ∀ a ∈ A, ArgOb h A a) : ∀ (d : WData) (v : Value), Well Pm h v d → plW d = true → OkU A v → Dw K (argH K h A) (toV v) d
  | .none, _, x, _, _ => by
    cases x
    exact .non
  | .bool b, _, x, _, _ => by
    cases x
    exact .bl b
  | .int i, _, x, _, _ => by
    cases x
    exact .int i
  | .str s, _, x, _, _ => by
    cases x
    exact .str s
  | .bytes b, _, x, _, _ => by
    cases x
    have z := Dw.byt (K := K) (H := argH K h A) b.toArray
    exact z
  | .list ds, _, x, p, hu => by
    obtain ⟨a, vs, rfl, ho, hall⟩ := well_list x
    obtain ⟨h2, hs⟩ := argL KX ar hu ho
    exact .lst hs (dw_all KX ar ds _ hall p h2)
  | .tuple ds, _, x, p, hu => by
    obtain ⟨a, vs, rfl, ho, hall⟩ := well_tuple x
    obtain ⟨h2, hs⟩ := argT KX ar hu ho
    exact .tup hs (dw_all KX ar ds _ hall p h2)
  | .float _, _, _, p, _ => Bool.noConfusion (show false = true from p)
  | .dict _, _, _, p, _ => Bool.noConfusion (show false = true from p)
  | .bytearray _, _, _, p, _ => Bool.noConfusion (show false = true from p)
  | .set _, _, _, p, _ => Bool.noConfusion (show false = true from p)
  | .frozenset _, _, _, p, _ => Bool.noConfusion (show false = true from p)
  | .obj _ _, _, _, p, _ => Bool.noConfusion (show false = true from p)
theorem dw_all {Pm : Params} (KX : K.In h) (ar : ∀ a ∈ A, ArgOb h A a) : ∀ (ds : List WData) (vs : List Value), WellAll Pm h vs ds → plWs ds = true → (∀ u ∈ vs, OkU A u) → DwAll K (argH K h A) (vs.map toV) ds
  | [], _, x, _, _ => by
    cases x
    exact .nil
  | d :: ds, _, x, p, hu => by
    obtain ⟨v, vs, rfl, x1, x2⟩ := well_cons x
    have q : plW d = true ∧ plWs ds = true := Bool.and_eq_true_iff.mp p
    exact .cons (dw_one KX ar d v x1 q.1 (hu _ (List.mem_cons_self ..))) (dw_all KX ar ds vs x2 q.2 fun u m => hu u (List.mem_cons_of_mem _ m))
end
end
theorem spec_call {P : Program} {w : World} {K : PySem.W.Frag} {mg mb : Str → Option Value} {CX : CXT} {k : Nat} {fa : Addr} {fd : FuncData} {ps : List Str} {sp : Sp} {s₁ : Shared} {vals : List Value} {ds : List WData} {R : PySem.W.WRecords} {cl : Str → Option Addr} {d0 : WData}
    (KX : K.In s₁.heap) (hns : s₁.heap.Ns mainGlobals mg) (hb : s₁.heap.Ns builtinsNs mb) (hbb : ∀ x : Str, x ≠ "__name__" → mb x = bootBuiltins x) (hlim : s₁.heap.NoLimit) (hg : s₁.gens = #[])
    (hwl : WellAll w.params s₁.heap vals ds) (hpl : plWs ds = true) (hwt : ∀ d ∈ ds, d.weight ≤ 1048576) (hr : Room k callerA)
    (F : ∀ base : Heap, K.In base → base.Ns mainGlobals mg → FnOk P w K mg base CX k fa fd ps sp) (hbind : ∀ (s : Shared) (us : List Value), us.length = ps.length → BindsTo s fd ⟨us, []⟩ (ps.zip us)) (hlen : ds.length = ps.length)
    (hsp : ∀ (H : Hp) (xs : List V), OnlyF H → DwAll K H xs ds → sp xs H (fun v H' => Dw K H' v d0) fun _ _ _ => False)
    (hCX : ∀ H e s', CX [] H s₁ (fun _ _ _ => False) e s' → False) :
    codeAny (model P w) callerA (.call (.ref fa) ⟨vals, []⟩) (fun r s' => ∃ u as, r = .ok (.ret u) ∧ ReadsW R cl s'.heap u d0 as ∧ OldK s₁.heap s'.heap ∧ s'.os = s₁.os ∧ AllBare s'.gens) s₁ := by
  obtain ⟨A, ho, ar⟩ := area_all ds vals hwl hpl hwt
  have hO : OnlyF (argH K s₁.heap A) := argH_only ar
  have hok : HOk P w (argH K s₁.heap A) s₁.heap := argH_ok ar
  have hS := dw_all KX ar ds vals hwl hpl ho
  have hV := vals_toV ho
  have hK : ∀ b u, argH K s₁.heap A b = some u → K.lookup b = none := fun b u q => (argH_is ar q).1
  have noA : ∀ {b : Addr} {o : Obj} {es : Array DictEntry} {ep : Nat}, s₁.heap.get? b = some o → o.data = .dict es ep → argH K s₁.heap A b = none := fun {b o es ep} e d => by
    cases q : argH K s₁.heap A b with
    | none => rfl
    | some u =>
      obtain ⟨_, vs, _, _, ⟨e2, _⟩ | ⟨e2, _⟩⟩ := argH_is ar q
      · rw [e2] at e
        cases e
        have d' : Data.seq vs.toArray _ = Data.dict es ep := d
        cases d'
      · rw [e2] at e
        cases e
        have d' : Data.seq vs.toArray _ = Data.dict es ep := d
        cases d'
  generalize argH K s₁.heap A = H at hO hok hS hK noA
  have base_of : ∀ {b : Addr} {o : Obj}, s₁.heap.get? b = some o → H b = none → (hidT s₁.heap H).get? b = some o := fun e n => hidT_get e n
  have nsK : ∀ {b : Addr} {m : Str → Option Value}, s₁.heap.Ns b m → (hidT s₁.heap H).Ns b m := fun {b m} ⟨o, es, ep, e, d, r⟩ => ⟨o, es, ep, base_of e (noA e d), d, r⟩
  have nK : ∀ b o, K.lookup b = some o → H b = none := fun b o e => by
    cases q : H b with
    | none => rfl
    | some u =>
      rw [hK b u q] at e
      cases e
  have hKb : K.In (hidT s₁.heap H) := fun b o e => base_of (KX b o e) (nK b o e)
  have hM : Mod K mg (hidT s₁.heap H) := ⟨hKb, nsK hns, ⟨mb, nsK hb, hbb⟩, let ⟨mc, h1, h2⟩ := hlim; ⟨mc, nsK h1, h2⟩⟩
  have e0 : Env0 P w K mg (hidT s₁.heap H) callerA [] s₁ H := ⟨rfl, hM, fun b o e => of_hidT e, Nat.le_of_eq (hidT_size _ _), trivial, fun b hb => absurd (show b ∈ ([] : List Addr) from hb) (by simp), hok, .of_eq hg⟩
  have hl : vals.length = ps.length := by rw [wellAll_len hwl]; exact hlen
  refine codeAny_mono ((F _ hKb (nsK hns)).run callerA [] s₁ H ⟨vals, []⟩ vals (vals.map toV) _ _ hr e0 (hbind s₁ vals hl) hV (hsp H _ hO hS)) fun r s' x => ?_
  cases r with
  | error e => exact (hCX H e s' x).elim
  | ok fl =>
    cases fl with
    | next => exact False.elim x
    | brk => exact False.elim x
    | cont => exact False.elim x
    | ret u =>
      obtain ⟨v, H', os, bare, un, hok', r', q⟩ := x
      have kept : ∀ b o, s₁.heap.get? b = some o → s'.heap.get? b = some o := fun b o e => by
        cases q2 : H b with
        | none => exact un.keep b o e q2 (by intro z; exact absurd (show b ∈ ([] : List Addr) from z) (by simp)) (by simp)
        | some u2 =>
          rcases hO b with z | ⟨ob, u3, z⟩
          · rw [q2] at z
            cases z
          · have z2 := un.frzs b ob _ z
            obtain ⟨e1, _⟩ := hok b _ z
            obtain ⟨e2, _⟩ := hok' b _ z2
            rw [e] at e1
            cases e1
            exact e2
      have KX' : K.In s'.heap := fun b o e => kept b o (KX b o e)
      obtain ⟨as, hrd⟩ := Dw.reads (R := R) (cl := cl) hok' KX' d0 v u q r'
      exact ⟨u, as, rfl, hrd, OldK.of_keep kept, os, bare⟩
theorem layable_weight {ds : List WData} (h : WData.layableAll ds = true) : ∀ d ∈ ds, d.weight ≤ 1048576 := fun d hd =>
  (PySem.W.layableW_iff.mp (List.all_eq_true.mp h d hd)).2.2
theorem encAll_len : ∀ (cs : List Codec) (a : Codec.denoteAll cs), (Codec.encAll cs a).length = cs.length
  | [], _ => rfl
  | c :: cs, a => by
    show (Codec.encAll cs a.2).length + 1 = cs.length + 1
    rw [encAll_len cs a.2]
theorem walk_spec {r : OpenSpec} {k : Nat} {q : Program} {loose : List Str} {XP : (Str → Option Value) → Heap → Prop} {YP : World → Heap → Prop} {d : DefRec} {K : Params → PySem.W.Frag} {CX : World → CXT} {ps : List Str} {sp : World → Sp}
    (hwell : r.wellSaid = true) (hdf : d.params.defaults = []) (hlen : r.args.length = ps.length) (hr : Room k callerA)
    (hY : ∀ (w : World) (h : Heap), YP w h → (K w.params).In h)
    (F : ∀ (w : World) (mg : Str → Option Value) (fa : Addr) (h : Heap), YP w h → (K w.params).In h → h.Ns mainGlobals mg → mg d.name = some (.ref fa) →
      ∃ fd : FuncData, (∀ (s : Shared) (us : List Value), us.length = ps.length → BindsTo s fd ⟨us, []⟩ (ps.zip us)) ∧
        ∀ base : Heap, (K w.params).In base → base.Ns mainGlobals mg → FnOk r.prog w (K w.params) mg base (CX w) k fa fd ps (sp w))
    (hsp : ∀ (w : World) (H : Hp) (xs : List V) (a : Codec.denoteAll r.args), OnlyF H → Codec.withinAll r.args a = true → Codec.app r.args r.asked a = true → DwAll (K w.params) H xs (Codec.encAll r.args a) →
      sp w xs H (fun v H' => Dw (K w.params) H' v (r.ret.enc (Codec.app r.args r.f a))) fun _ _ _ => False)
    (hCX : ∀ (w : World) (H : Hp) (s : Shared) (e : Value) (s' : Shared), CX w [] H s (fun _ _ _ => False) e s' → False) :
    PySem.W.WalkOS q loose XP YP r d [] (fun f vs => PySem.call f vs) := by
  intro w s_0 s₁ mg mb G Y fa o pm cd doc dV kV ho hd hcd hD hmg hg args vals as hpre hlay hrd hwl hlo
  obtain ⟨a, e1, e2⟩ := PySem.W.os_pre_some hpre
  obtain ⟨e3, hwi⟩ := Codec.encAll_of_decAll r.args args a e1
  subst e3
  have KX := hY w _ Y
  obtain ⟨fd, hb, hF⟩ := F w mg fa _ Y KX G.T.g hmg
  refine PySem.W.enter_call (codeAny_mono (spec_call (R := []) (cl := classAt s_0.heap) (d0 := r.ret.enc (Codec.app r.args r.f a)) KX G.T.g G.T.b G.T.builtins G.T.nolimit hg hwl (pl_encAll _ _) (layable_weight hlay) hr hF hb (by rw [encAll_len]; exact hlen)
    (fun H xs hO hS => hsp w H xs a hO hwi e2 hS) fun H e s' => hCX w H s₁ e s') fun r' s' hq => ?_)
  obtain ⟨u, as', rfl, h1, h2, h3, h4⟩ := hq
  exact ⟨.inl ⟨u, _, as', rfl, fun _ => rfl, h1, (OpenSpec.post_iff hwell hwi _ _).mpr rfl, fun z => Bool.noConfusion (show false = true from z)⟩, h2, h3, h4⟩
theorem walk_specK {r : OpenSpec} {k : Nat} {q : Program} {loose : List Str} {XP : (Str → Option Value) → Heap → Prop} {YP : World → Heap → Prop} {d : DefRec} {K : Params → PySem.W.Frag} {CX : CXT} {ps : List Str} {sp : PySem.W.Frag → Sp}
    (hwell : r.wellSaid = true) (hdf : d.params.defaults = []) (hlen : r.args.length = ps.length) (hr : Room k callerA)
    (hY : ∀ (w : World) (h : Heap), YP w h → (K w.params).In h)
    (F : ∀ (w : World) (mg : Str → Option Value) (fa : Addr) (h : Heap), YP w h → (K w.params).In h → h.Ns mainGlobals mg → mg d.name = some (.ref fa) →
      ∃ fd : FuncData, (∀ (s : Shared) (us : List Value), us.length = ps.length → BindsTo s fd ⟨us, []⟩ (ps.zip us)) ∧
        ∀ base : Heap, (K w.params).In base → base.Ns mainGlobals mg → FnOk r.prog w (K w.params) mg base CX k fa fd ps (sp (K w.params)))
    (hsp : ∀ (K : PySem.W.Frag) (H : Hp) (xs : List V) (a : Codec.denoteAll r.args), OnlyF H → Codec.withinAll r.args a = true → Codec.app r.args r.asked a = true → DwAll K H xs (Codec.encAll r.args a) →
      sp K xs H (fun v H' => Dw K H' v (r.ret.enc (Codec.app r.args r.f a))) fun _ _ _ => False)
    (hCX : ∀ (H : Hp) (s : Shared) (e : Value) (s' : Shared), CX [] H s (fun _ _ _ => False) e s' → False) :
    PySem.W.WalkOS q loose XP YP r d [] (fun f vs => PySem.call f vs) :=
  walk_spec (K := K) (CX := fun _ => CX) (sp := fun w => sp (K w.params)) hwell hdf hlen hr hY F (fun w H xs a h1 h2 h3 h4 => hsp (K w.params) H xs a h1 h2 h3 h4) fun _ H s e s' => hCX H s e s'
end L2
end
end
section
set_option Elab.async false
set_option linter.all false
set_option maxRecDepth 100000
/-! Rules of my own over the hand layer: a module's int, an item of a list or a tuple, a callee that is reckoned, a pair of ints in a list of such. -/
namespace Dc
open PySem PySem.Spec PyProof.Rows L2
section
variable {X : Cx} {a b : Expr} {ta tb : TE} {pos : Pos}
theorem pe_globI {x : Str} {i : Int} {pos : Pos} (hg : Gl X x) (hm : ∃ t, X.mg x = some (.int i t)) (hd : (x == ("__debug__" : Str)) = false := by decide) : PE X (.Name x pos) (tC (.int i)) := by
  obtain ⟨t, hm⟩ := hm
  exact pe_glob hg hm ⟨t, rfl⟩ hd
/-- a list or a tuple that is read -/
def Sq (K : PySem.W.Frag) (H : Hp) (p : Addr) (xs : List V) : Prop := SqL K H p xs ∨ SqT K H p xs
def rIxQ (K : PySem.W.Frag) : R2 := fun x y H Q => ∃ p xs i v, x = .ref p ∧ y = .int i ∧ Sq K H p xs ∧ atI xs i = some v ∧ Q v H
theorem ix_sq : IxR X (rIxQ X.K) := by
  intro value slice pins s σ H x y v u Q I rx ry h hs
  obtain ⟨p, xs, i, z, e1, e2, hq | hq, he, q⟩ := h
  · exact ix_list value slice pins s σ H x y v u Q I rx ry ⟨p, xs, i, z, e1, e2, hq, he, q⟩ hs
  · exact ix_tup value slice pins s σ H x y v u Q I rx ry ⟨p, xs, i, z, e1, e2, hq, he, q⟩ hs
def tIx (K : PySem.W.Frag) (ta tb : TE) : TE := fun σ H Q => ta σ H fun x H1 => tb σ H1 fun y H2 => ∃ p xs i v, x = .ref p ∧ y = .int i ∧ Sq K H2 p xs ∧ atI xs i = some v ∧ Q v H2
theorem pe_item (ha : PE X a ta) (hb : PE X b tb) (hs : PlainIx b := by intro _ _; rfl) : PE X (.Subscript a b pos) (tIx X.K ta tb) := pe_ix ix_sq ha hb hs
/-- len of a list or a tuple -/
def tLen (K : PySem.W.Frag) (ta : TE) : TE := fun σ H Q => ta σ H fun x H1 => ∃ p ys, x = .ref p ∧ Sq K H1 p ys ∧ Q (.int ys.length) H1
theorem pe_len {p : Pos} (ha : PE X a ta) (hg : Gl X "len") (hm : X.mg "len" = none) (hst : starEach [a] X.env = (false, eval a X.env) :: starEach [] X.env := by rfl) (hpl : (backTo pos (starEach [] X.env)).any (·.1) = false := by rfl) :
    PE X (.Call (.Name "len" p) [a] [] pos) (tLen X.K ta) := by
  have he : PE X (.Call (.Name "len" p) [a] [] pos) (tCB (fun xs H Q => ∃ p ys, xs = [V.ref p] ∧ (SqL X.K H p ys ∨ SqT X.K H p ys) ∧ Q (.int ys.length) H) (tCons ta tNil)) := pe_callB call_len_seq hg hm PySem.boot_len (pa_cons ha pa_nil hst) (by decide) (by decide) hst hpl
  intro pins s σ H Q I h
  refine he pins s σ H Q I ?_
  show ta σ H fun x H1 => _
  have h2 : ta σ H fun x H1 => ∃ p ys, x = .ref p ∧ Sq X.K H1 p ys ∧ Q (.int ys.length) H1 := h
  have e : (fun (x : V) (H1 : Hp) => ∃ p ys, x = V.ref p ∧ Sq X.K H1 p ys ∧ Q (.int ys.length) H1) = fun x H1 => tNil σ H1 fun xs H2 => ∃ p ys, x :: xs = [V.ref p] ∧ (SqL X.K H2 p ys ∨ SqT X.K H2 p ys) ∧ Q (.int ys.length) H2 := by
    funext x H1
    apply propext
    constructor
    · rintro ⟨p, ys, rfl, h1, h2⟩
      exact ⟨p, ys, rfl, h1, h2⟩
    · rintro ⟨p, ys, e, h1, h2⟩
      exact ⟨p, ys, (List.cons.inj e).1, h1, h2⟩
  rw [e] at h2
  exact h2
/-- f(e, ..), f an expression: its value is a def that keeps a promise -/
def tCallE (X : Cx) (te : TE) (t : TA) : TE := fun σ H Q => te σ H fun x H1 => ∃ (f : Addr) (fd : FuncData) (ps : List Str) (sp : Sp) (k : Nat), x = .ref f ∧ FnOk X.prog X.w X.K X.mg X.base CX0 k f fd ps sp ∧ Room k X.A ∧ PySem.W.keepIn X.K (.ref f) = true ∧ Binds X.K fd ps [] ∧
  t σ H1 fun vs H2 => sp vs H2 Q E0
theorem pe_callE {e f : Expr} {es : List Expr} {te : TE} {t : TA} (hf : PE X f te) (ha : PA X (e :: es) t) (hst : starEach (e :: es) X.env = (false, eval e X.env) :: starEach es X.env := by rfl) (hpl : (backTo pos (starEach es X.env)).any (·.1) = false := by rfl)
    (he : eval (.Call f (e :: es) [] pos) X.env = (do callWith pos (← eval f X.env) [] (backTo pos (starEach (e :: es) X.env)) (backToKw pos (keywordEach [] X.env))) := by rfl) :
    PE X (.Call f (e :: es) [] pos) (tCallE X te t) := by
  intro pins s σ H Q I h
  refine Call_ (thn (hf pins s σ H _ I h) fun u s1 ⟨x, H1, I1, rx, fa, fd, ps, sp, k, ex, F, hr, hk, hb, q⟩ => ?_) he
  subst ex
  obtain rfl : u = Value.ref fa := rx
  refine PySem.W.callWith_K (h₀ := X.base) I.ok.mod.kin hk (thn (ha pos pins s1 σ H1 _ I1 q) fun us s2 ⟨vs, H2, I2, r, q2⟩ => ⟨I2.kIn, ?_⟩) hst hpl
  exact run_fn F hr hb .nil pass0 I2 r (by rw [List.append_nil]; exact q2)
/-! ### a tuple of ints in a list of such -/
/-- tuples of ints stand at these places -/
abbrev Tups (H : Hp) : List Addr → List (List Int) → Prop := Paired fun a ys => H a = some (.tup (ys.map V.int))
def tupEq (H : Hp) (zs : List Int) (u : Value) : Bool := match u with
  | .ref a => match H a with
    | some (.tup ys) => decide (ys = zs.map V.int)
    | _ => false
  | _ => false
theorem ints_inj : ∀ {a b : List Int}, a.map V.int = b.map V.int → a = b
  | [], [], _ => rfl
  | [], _ :: _, h => by cases h
  | _ :: _, [], h => by cases h
  | x :: a, y :: b, h => by
    have h1 := (List.cons.inj h).1
    have h2 := ints_inj (List.cons.inj h).2
    cases h1
    rw [h2]
theorem any_tupEq {H : Hp} {zs : List Int} : ∀ {as : List Addr} {us : List Value} {yss : List (List Int)}, Vals (as.map V.ref) us → Tups H as yss → us.any (tupEq H zs) = yss.contains zs
  | [], [], [], _, _ => rfl
  | a :: as, u :: us, ys :: yss, .cons r t, .cons h q => by
    have e : u = Value.ref a := r
    subst e
    rw [List.any_cons, List.contains_cons, any_tupEq t q]
    congr 1
    show (match H a with | some (.tup ys) => decide (ys = zs.map V.int) | _ => false) = _
    rw [h]
    show decide (ys.map V.int = zs.map V.int) = (zs == ys)
    by_cases e : ys = zs
    · subst e
      simp
    · rw [decide_eq_false fun q => e (ints_inj q)]
      exact (beq_eq_false_iff_ne.mpr fun q => e q.symm).symm
theorem all_range_eq {ys zs : List Int} (f : Nat → Bool) (h : ∀ j (h1 : j < ys.length) (h2 : j < zs.length), f j = (ys[j] == zs[j])) : ((List.range (min ys.length zs.length)).all f && ys.length == zs.length) = decide (ys = zs) := by
  by_cases e : ys.length = zs.length
  · by_cases e2 : ys = zs
    · subst e2
      rw [decide_eq_true rfl]
      simp only [Nat.min_self, Bool.and_eq_true, beq_self_eq_true, and_true]
      rw [List.all_eq_true]
      intro j hj
      have hj := List.mem_range.mp hj
      rw [h j hj hj]
      exact beq_self_eq_true _
    · rw [decide_eq_false e2]
      cases q : ((List.range (min ys.length zs.length)).all f && ys.length == zs.length) with
      | false => rfl
      | true =>
        rw [Bool.and_eq_true, List.all_eq_true] at q
        exfalso
        apply e2
        refine List.ext_getElem e fun j h1 h2 => ?_
        have := q.1 j (List.mem_range.mpr (by omega))
        rw [h j h1 h2] at this
        exact eq_of_beq this
  · rw [decide_eq_false fun q => e (congrArg List.length q), beq_eq_false_iff_ne.mpr e, Bool.and_false]
theorem eqAt_tup {A : Around} {s : Shared} {l b : Addr} {ys zs : List Int} {us vs : List Value} (hl : s.heap.IsTuple l us.toArray) (hb : s.heap.IsTuple b vs.toArray) (ru : Vals (ys.map V.int) us) (rv : Vals (zs.map V.int) vs) (hu : A.units < cLine) (hne : l ≠ b) :
    SeqAt.EqAt A s (.ref l) (.ref b) (decide (ys = zs)) := by
  have lu : ys.length = us.length := by have := ru.length; rw [List.length_map] at this; exact this
  have lv : zs.length = vs.length := by have := rv.length; rw [List.length_map] at this; exact this
  have key := SeqAt.RcAt.tuples (A := A) (s := s) (e := fun j => ys.getD j 0 == zs.getD j 0) hl hb hu (fun j h1 h2 => by
    have h1' : j < us.length := by simpa using h1
    have h2' : j < vs.length := by simpa using h2
    obtain ⟨u, eu, r1⟩ := ru.get (i := j) (x := V.int (ys[j]'(by omega))) (by rw [List.getElem?_map, List.getElem?_eq_getElem (by omega)] <;> rfl)
    obtain ⟨v, ev, r2⟩ := rv.get (i := j) (x := V.int (zs[j]'(by omega))) (by rw [List.getElem?_map, List.getElem?_eq_getElem (by omega)] <;> rfl)
    obtain ⟨t1, q1⟩ := r1
    obtain ⟨t2, q2⟩ := r2
    have e1 : us.toArray[j] = Value.int (ys[j]'(by omega)) t1 := by
      rw [List.getElem?_eq_getElem h1'] at eu
      rw [← q1, ← Option.some.inj eu]
      simp
    have e2 : vs.toArray[j] = Value.int (zs[j]'(by omega)) t2 := by
      rw [List.getElem?_eq_getElem h2'] at ev
      rw [← q2, ← Option.some.inj ev]
      simp
    rw [e1, e2]
    have e3 : (ys.getD j 0 == zs.getD j 0) = (ys[j]'(by omega) == zs[j]'(by omega)) := by
      rw [List.getD_eq_getElem?_getD, List.getD_eq_getElem?_getD, List.getElem?_eq_getElem (show j < ys.length by omega), List.getElem?_eq_getElem (show j < zs.length by omega)] <;> rfl
    show SeqAt.EqAt _ _ _ _ (ys.getD j 0 == zs.getD j 0)
    rw [e3]
    exact SeqAt.EqAt.int_int _ _ _ _)
  have e4 : ((List.range (min us.toArray.size vs.toArray.size)).all (fun j => ys.getD j 0 == zs.getD j 0) && us.toArray.size == vs.toArray.size) = decide (ys = zs) := by
    rw [List.size_toArray, List.size_toArray, ← lu, ← lv]
    refine all_range_eq _ fun j h1 h2 => ?_
    rw [List.getD_eq_getElem?_getD, List.getD_eq_getElem?_getD, List.getElem?_eq_getElem h1, List.getElem?_eq_getElem h2] <;> rfl
  rw [e4] at key
  exact SeqAt.EqAt.of_refs hne key
def rInT (K : PySem.W.Frag) (neg : Bool) : R2 := fun x y H Q => ∃ q zs p as yss, x = .ref q ∧ y = .ref p ∧ H q = some (.tup (zs.map V.int)) ∧ SqL K H p (as.map V.ref) ∧ Tups H as yss ∧ q ∉ as ∧ Q (.bl (if neg then !yss.contains zs else yss.contains zs)) H
theorem tups_mem {H : Hp} : ∀ {as : List Addr} {yss : List (List Int)} {a : Addr}, Tups H as yss → a ∈ as → ∃ ys : List Int, H a = some (.tup (ys.map V.int))
  | _, _, _, .nil, h => by cases h
  | a :: as, ys :: yss, b, .cons h t, m => by
    rcases List.mem_cons.mp m with rfl | m
    · exact ⟨ys, h⟩
    · exact tups_mem t m
theorem refs_mem : ∀ {as : List Addr} {us : List Value} {u : Value}, Vals (as.map V.ref) us → u ∈ us → ∃ a ∈ as, u = .ref a
  | [], [], u, _, m => by cases m
  | a :: as, v :: us, u, .cons r t, m => by
    rcases List.mem_cons.mp m with rfl | m
    · exact ⟨a, List.mem_cons_self .., r⟩
    · obtain ⟨b, hb, e⟩ := refs_mem t m
      exact ⟨b, List.mem_cons_of_mem _ hb, e⟩
theorem op_in_tup (hu : X.A.units + 64 < cLine) : OpR X (compareOp .In) (rInT X.K false) := by
  intro pins s σ H x y v u Q I rx ry h
  obtain ⟨q, zs, p, as, yss, rfl, rfl, hq, hp, ht, hn, k⟩ := h
  cases rx
  cases ry
  obtain ⟨its, r, pl, hz⟩ := I.list hp
  obtain ⟨vs, rv, pv, _⟩ := I.tuple (SqT.of hq)
  refine SeqAt.in_listAt (tupEq H zs) pl.isList (fun w hw => ?_) ⟨.bl _, H, I, rfl, ?_⟩
  · obtain ⟨a, ha, rfl⟩ := refs_mem r (by simpa using hw)
    obtain ⟨ys, hy⟩ := tups_mem ht ha
    obtain ⟨us, ru, pu, _⟩ := I.tuple (SqT.of (K := X.K) hy)
    have e : tupEq H zs (.ref a) = decide (ys = zs) := by
      show (match H a with | some (.tup ys) => decide (ys = zs.map V.int) | _ => false) = _
      rw [hy]
      show decide (ys.map V.int = zs.map V.int) = _
      by_cases e : ys = zs
      · subst e; simp
      · rw [decide_eq_false e, decide_eq_false fun q => e (ints_inj q)]
    rw [e]
    exact eqAt_tup pu pv ru rv (by show X.A.units + 1 < cLine; omega) fun e => hn (e ▸ ha)
  · rw [show its.toArray.any (tupEq H zs) = its.any (tupEq H zs) by simp, any_tupEq r ht]
    exact k
end
/-! ### what the top has written: a def, a method, a class, a tuple -/
structure Df (K : PySem.W.Frag) (mg : Str → Option Value) (x qual : Str) (st : Stmt) (ps : List Str) where
  a : Addr
  fd : FuncData
  F : Fun K x qual st a fd
  b : Binds K fd ps []
  m : mg x = some (.ref a)
structure Mt (K : PySem.W.Frag) (C : Addr) (x qual : Str) (st : Stmt) (ps : List Str) where
  a : Addr
  fd : FuncData
  F : Fun K x qual st a fd
  b : Binds K fd ps []
  m : Meth K C x a
structure Kl (K : PySem.W.Frag) (mg : Str → Option Value) (x : Str) (fs : List Str) where
  a : Addr
  m : mg x = some (.ref a)
  cl : Cls K a
  na : ∀ f ∈ fs, NoAttr K a f
structure Gt (K : PySem.W.Frag) (mg : Str → Option Value) (x : Str) (vs : List V) where
  a : Addr
  m : mg x = some (.ref a)
  sq : ∃ (o : Obj) (its : Array Value) (n : Nat), K.lookup a = some o ∧ o.cls = .type "tuple" ∧ o.data = .seq its n ∧ its.size ≤ sizeLine ∧ Vals vs its.toList
theorem Gt.at {K : PySem.W.Frag} {mg : Str → Option Value} {x : Str} {vs : List V} (g : Gt K mg x vs) (H : Hp) : Sq K H g.a vs := .inr (.inr g.sq)
end Dc
end
section
set_option Elab.async false
set_option linter.all false
set_option maxRecDepth 100000
/-! More rules of my own: a range as a value, list(range(..)), a comprehension over a range with a step. -/
namespace Dc
open PySem PySem.Spec PyProof.Rows L2
section
variable {X : Cx}
/-- range(i, j) as a value -/
def rRngV : List V → Hp → VK → Prop := fun vs H Q => ∃ i j : Int, vs = [.int i, .int j] ∧ ∀ p, H p = none → Q (.ref p) (upd H p (.rng i j))
theorem call_rangeV : CallR X (.type "range") rRngV := by
  intro pins s σ H vs us Q I r h
  obtain ⟨i, j, rfl, q⟩ := h
  cases r with
  | cons r rr =>
    cases rr with
    | cons r' rr =>
      cases rr
      obtain ⟨t, rfl⟩ := r
      obtain ⟨t', rfl⟩ := r'
      refine call_range_2 ⟨.ref s.heap.objs.size, _, I.laid (t' := s.toks + 1) (fun b o e => Heap.get?_push_of_some _ e) (Nat.le_refl _) ?_, rfl, q _ (I.hok.fresh (Nat.le_refl _))⟩
      exact ⟨_, _, _, Heap.get?_push_size _ rfl⟩
theorem vals_of_get : ∀ {xs : List V} {us : List Value}, xs.length = us.length → (∀ (j : Nat) (x : V) (u : Value), xs[j]? = some x → us[j]? = some u → RelV x u) → Vals xs us
  | [], [], _, _ => .nil
  | [], _ :: _, h, _ => by cases h
  | _ :: _, [], h, _ => by cases h
  | x :: xs, u :: us, h, k => .cons (k 0 x u rfl rfl) (vals_of_get (by simpa using h) fun j y v e1 e2 => k (j + 1) y v e1 e2)
/-- the ints of a range -/
def intsFrom (lo : Int) (n : Nat) : List V := (List.range n).map fun k => V.int (lo + (k : Nat))
def rListR : List V → Hp → VK → Prop := fun vs H Q => ∃ (p : Addr) (i j : Int), vs = [.ref p] ∧ H p = some (.rng i j) ∧ (-(2 ^ 62) ≤ i ∧ i < 2 ^ 62 ∧ -(2 ^ 62) ≤ j ∧ j < 2 ^ 62) ∧ (j - i).toNat ≤ 100000 ∧ ∀ l, H l = none → Q (.ref l) (upd H l (.lst (intsFrom i (j - i).toNat)))
theorem call_list_rng (hc : X.calm = true) : CallR X (.type "list") rListR := by
  intro pins s σ H vs us Q I r h
  obtain ⟨p, i, j, rfl, hp, ⟨b1, b2, b3, b4⟩, hn, q⟩ := h
  obtain ⟨u, rfl, rx⟩ := vals1 r
  cases rx
  obtain ⟨t, u, v, e⟩ := I.hok p _ hp
  refine call_list_range (n := (j - i).toNat) (I.ok.hd hc) e (small_one b1 b2 b3 b4) ?_ (Nat.le_trans hn (by decide)) fun h' tk acc' c' kp eS ha => ?_
  · rw [rangeSize_one]
    split <;> omega
  · refine ⟨.ref s.heap.objs.size, _, I.laid kp (Nat.le_refl _) ?_, rfl, q _ (I.hok.fresh (Nat.le_refl _))⟩
    refine ⟨?_, acc'.toList, c', ?_, by simpa using eS⟩
    · unfold intsFrom
      rw [List.length_map, List.length_range]
      exact Nat.le_trans hn (by decide)
    · refine vals_of_get ?_ fun k x u e1 e2 => ?_
      · unfold intsFrom
        rw [List.length_map, List.length_range, Array.length_toList, ha.1]
      · have e2 : acc'[k]? = some u := by simpa using e2
        obtain ⟨t, rfl⟩ := ha.2 k u e2
        unfold intsFrom at e1
        rw [List.getElem?_map] at e1
        cases q : (List.range (j - i).toNat)[k]? with
        | none => rw [q] at e1; cases e1
        | some z =>
          rw [q] at e1
          have e1 := Option.some.inj e1
          subst e1
          obtain ⟨h1, h2⟩ := List.getElem?_eq_some_iff.mp q
          rw [List.getElem_range] at h2
          subst h2
          exact ⟨t, by rw [Int.mul_one]⟩
/-- a comprehension over a range with a step -/
theorem lc_rangeC {lo c : Int} {n : Nat} {g : TG} {tt : TT} {te : TE} {vs : List Nat} {σ : L2.St} {H1 : Hp} {D : Addr} {Qd : Hp → Prop} (Pv : Nat → Hp → Prop) (h0 : Pv 0 (upd H1 D (.lst [])))
    (hs : ∀ i H, i < n → Pv i H → g (.int (lo + (i : Nat) * c)) (wipe σ vs) H fun σ2 H2 => wipe σ2 vs = wipe σ vs ∧ tt σ2 H2 fun b H3 =>
      if b = true then te σ2 H3 fun y H4 => ∃ acc, H4 D = some (.lst acc) ∧ acc.length < sizeLine ∧ Pv (i + 1) (upd H4 D (.lst (acc ++ [y]))) else Pv (i + 1) H3) (hd : ∀ H, Pv n H → Qd H) :
    ∃ W : Nat → Nat → Hp → Prop, (∃ m, W 0 m (upd H1 D (.lst []))) ∧ ∀ i m H, W i m H →
      ((Itc lo c n).stop i H ∧ Qd H) ∨ ((Itc lo c n).go i H ∧ ∃ Nx : Hp → Prop, (∀ H', Nx H' → ∃ m', m' < m ∧ W (i + 1) m' H') ∧ ∀ x H', (Itc lo c n).yld i H x H' → g x (wipe σ vs) H' fun σ2 H2 => wipe σ2 vs = wipe σ vs ∧ tt σ2 H2 fun b H3 =>
        if b = true then te σ2 H3 fun y H4 => ∃ acc, H4 D = some (.lst acc) ∧ acc.length < sizeLine ∧ Nx (upd H4 D (.lst (acc ++ [y]))) else Nx H3) := by
  refine ⟨fun i m H => m = n - i ∧ i ≤ n ∧ Pv i H, ⟨n, by simp, Nat.zero_le _, h0⟩, ?_⟩
  rintro i m H ⟨rfl, hi, p⟩
  by_cases hlt : i < n
  · refine .inr ⟨hlt, Pv (i + 1), fun H' p' => ⟨n - (i + 1), by omega, rfl, hlt, p'⟩, fun x H' y => ?_⟩
    obtain ⟨e, y⟩ := y
    subst e y
    exact hs i _ hlt p
  · have e : i = n := by omega
    subst e
    exact .inl ⟨Nat.le_refl _, hd H p⟩
/-! ### the rules within a comprehension: the same, with K by its name -/
variable {K : PySem.W.Frag} {e : Expr} {a b : Expr} {ta tb : TE} {f : Str} {pos : Pos}
theorem pe_fldK (hK : X.K = K) (he : PE X e ta) (hb : attributeBase e f X.env (eval e X.env) = eval e X.env) : PE X (.Attribute e f pos) (tFld K ta f) := by
  subst hK
  exact pe_fld he hb
theorem pe_itemK (hK : X.K = K) (ha : PE X a ta) (hb : PE X b tb) (hs : PlainIx b := by intro _ _; rfl) : PE X (.Subscript a b pos) (tIx K ta tb) := by
  subst hK
  exact pe_item ha hb hs
theorem pe_lenK {p : Pos} (hK : X.K = K) (ha : PE X a ta) (hg : Gl X "len") (hm : X.mg "len" = none) (hst : starEach [a] X.env = (false, eval a X.env) :: starEach [] X.env := by rfl) (hpl : (backTo pos (starEach [] X.env)).any (·.1) = false := by rfl) :
    PE X (.Call (.Name "len" p) [a] [] pos) (tLen K ta) := by
  subst hK
  exact pe_len ha hg hm hst hpl
theorem op_inK (hK : X.K = K) : OpR X (compareOp .In) (rIn K false) := by
  subst hK
  exact op_in_seq
theorem sl_listK (hK : X.K = K) : SlR X (rSlL K) := by
  subst hK
  exact sl_list
end
end Dc
end
section
set_option Elab.async false
set_option maxRecDepth 100000
/-! The calendar's mathematics over the specification: years, months, dates and their numbers. -/
namespace Cal
open Sx57
/-! ### a first place in a range -/
theorem find_map {A : Type} {f : Nat → A} {p : A → Bool} : ∀ (l : List Nat), (l.map f).find? p = (l.find? fun k => p (f k)).map f
  | [] => rfl
  | x :: l => by
    rw [List.map_cons, List.find?_cons, List.find?_cons]
    cases p (f x) with
    | true => rfl
    | false => exact find_map l
theorem find_range_some {p : Nat → Bool} {N k : Nat} (hk : k < N) (hp : p k = true) (hn : ∀ j, j < k → p j = false) : (List.range N).find? p = some k := by
  rw [List.find?_range_eq_some]
  exact ⟨hp, List.mem_range.mpr hk, fun j hj => by rw [hn j hj]; rfl⟩
theorem find_range_none {p : Nat → Bool} {N : Nat} (hn : ∀ j, j < N → p j = false) : (List.range N).find? p = none := by
  rw [List.find?_eq_none]
  intro x hx
  rw [hn x (List.mem_range.mp hx)]
  exact Bool.false_ne_true
/-! ### years -/
theorem leap_iff (y : Nat) : leap y = true ↔ y % 4 = 0 ∧ (y % 100 ≠ 0 ∨ y % 400 = 0) := by
  unfold leap
  simp
theorem leap_not (y : Nat) : leap y = false ↔ ¬ (y % 4 = 0 ∧ (y % 100 ≠ 0 ∨ y % 400 = 0)) := by
  rw [← leap_iff]
  cases leap y <;> simp
/-- a year's days -/
def yearDays (y : Nat) : Nat := if leap y = true then 366 else 365
theorem yearStart_succ {y : Nat} (h : 1600 ≤ y) : yearStart (y + 1) = yearStart y + yearDays y := by
  unfold yearStart yearDays FIRST leaps
  by_cases e : leap y = true
  · rw [if_pos e]
    have := (leap_iff y).mp e
    omega
  · rw [if_neg e]
    have : ¬ (y % 4 = 0 ∧ (y % 100 ≠ 0 ∨ y % 400 = 0)) := fun q => e ((leap_iff y).mpr q)
    omega
theorem yearDays_le (y : Nat) : 365 ≤ yearDays y ∧ yearDays y ≤ 366 := by
  unfold yearDays
  split <;> omega
theorem yearStart_mono {a b : Nat} (_h : 1600 ≤ a) (k : a ≤ b) : yearStart a ≤ yearStart b := by
  unfold yearStart FIRST leaps
  omega
theorem yearStart_lt {a b : Nat} (h : 1600 ≤ a) (k : a < b) : yearStart a + 365 ≤ yearStart b := by
  unfold yearStart FIRST leaps
  omega
theorem yearStart_ge {y : Nat} (h : 1600 ≤ y) : 365 * (y - 1600) ≤ yearStart y := by
  unfold yearStart FIRST leaps
  omega
theorem yearStart_le {y : Nat} (h : 1600 ≤ y) : yearStart y ≤ 366 * (y - 1600) := by
  unfold yearStart FIRST leaps
  omega
theorem DAYS_eq : DAYS = 511340 := by decide
theorem yearStart_1600 : yearStart 1600 = 0 := by decide
/-! ### months -/
theorem monthStart_succ {y m : Nat} (h : 1 ≤ m) : monthStart y (m + 1) = monthStart y m + monthDays y m := by
  unfold monthStart
  obtain ⟨k, rfl⟩ : ∃ k, m = k + 1 := ⟨m - 1, by omega⟩
  rw [show k + 1 + 1 - 1 = k + 1 from rfl, show k + 1 - 1 = k from rfl, List.range_succ, List.map_append, List.sum_append]
  simp
theorem monthStart_one (y : Nat) : monthStart y 1 = 0 := rfl
theorem monthDays_ge (y m : Nat) : 28 ≤ monthDays y m ∧ monthDays y m ≤ 31 := by
  unfold monthDays
  split
  · split <;> omega
  · split <;> omega
theorem monthStart_mono {y a : Nat} (ha : 1 ≤ a) : ∀ {b : Nat}, a ≤ b → monthStart y a ≤ monthStart y b
  | 0, h => by omega
  | b + 1, h => by
    by_cases e : a = b + 1
    · rw [e]; exact Nat.le_refl _
    · have := monthStart_mono (y := y) ha (b := b) (by omega)
      rw [monthStart_succ (y := y) (m := b) (by omega)]
      omega
theorem monthStart_13 (y : Nat) : monthStart y 13 = yearDays y := by
  unfold monthStart yearDays
  cases e : leap y with
  | true =>
    simp [List.range_succ, monthDays, e]
  | false =>
    simp [List.range_succ, monthDays, e]
/-- a date, whatever its year from the first one on -/
structure Good (x : Date) : Prop where
  y : 1600 ≤ x.year
  m1 : 1 ≤ x.month
  m2 : x.month ≤ 12
  d1 : 1 ≤ x.day
  d2 : x.day ≤ monthDays x.year x.month
theorem good_of {x : Date} (h : dateOk x = true) : Good x ∧ x.year ≤ 2999 := by
  unfold dateOk FIRST LAST at h
  simp only [Bool.and_eq_true, decide_eq_true_eq] at h
  obtain ⟨h1, h2, h3, h4, h5, h6⟩ := h
  exact ⟨⟨h1, h3, h4, h5, h6⟩, h2⟩
theorem dateOk_of {x : Date} (h : Good x) (k : x.year ≤ 2999) : dateOk x = true := by
  unfold dateOk FIRST LAST
  simp only [Bool.and_eq_true, decide_eq_true_eq]
  exact ⟨h.y, k, h.m1, h.m2, h.d1, h.d2⟩
theorem day_in_month {x : Date} (h : Good x) : monthStart x.year x.month + (x.day - 1) < monthStart x.year (x.month + 1) := by
  rw [monthStart_succ h.m1]
  have := h.d1
  have := h.d2
  omega
theorem day_in_year {x : Date} (h : Good x) : yearStart x.year ≤ dayOf x ∧ dayOf x < yearStart (x.year + 1) := by
  have a := day_in_month h
  have b := monthStart_mono (y := x.year) (a := x.month + 1) (by omega) (b := 13) (by have := h.m2; omega)
  rw [monthStart_13] at b
  rw [yearStart_succ h.y]
  unfold dayOf
  omega
theorem dateOf_dayOf {x : Date} (h : Good x) (k : x.year ≤ 4000) : dateOf (dayOf x) = x := by
  obtain ⟨a, b⟩ := day_in_year h
  have hy := h.y
  have hm := h.m1
  have hm2 := h.m2
  have le1 := yearStart_le (y := x.year + 1) (by omega)
  have c1 : dayOf x / 366 ≤ x.year - 1600 := by omega
  have c2 : x.year - 1600 ≤ dayOf x / 366 + 5 := by
    have : 365 * (x.year - 1600) + ((x.year - 1) / 4 - (x.year - 1) / 100 + (x.year - 1) / 400 - 387) ≤ dayOf x := a
    omega
  have fy : (((List.range 6).map fun k => FIRST + dayOf x / 366 + k).find? fun y => decide (dayOf x < yearStart (y + 1))) = some x.year := by
    rw [find_map, find_range_some (k := x.year - 1600 - dayOf x / 366) (by omega)]
    · show some (1600 + dayOf x / 366 + (x.year - 1600 - dayOf x / 366)) = some x.year
      congr 1
      omega
    · show decide (dayOf x < yearStart (1600 + dayOf x / 366 + (x.year - 1600 - dayOf x / 366) + 1)) = true
      rw [show 1600 + dayOf x / 366 + (x.year - 1600 - dayOf x / 366) + 1 = x.year + 1 by omega]
      exact decide_eq_true b
    · intro j hj
      show decide (dayOf x < yearStart (1600 + dayOf x / 366 + j + 1)) = false
      have := yearStart_mono (a := 1600 + dayOf x / 366 + j + 1) (b := x.year) (by omega) (by omega)
      exact decide_eq_false (by omega)
  have er : dayOf x - yearStart x.year = monthStart x.year x.month + (x.day - 1) := by
    unfold dayOf
    omega
  have fm : (((List.range 12).map fun k => k + 1).find? fun m => decide (dayOf x - yearStart x.year < monthStart x.year (m + 1))) = some x.month := by
    rw [find_map, find_range_some (k := x.month - 1) (by omega)]
    · show some (x.month - 1 + 1) = some x.month
      congr 1
      omega
    · show decide (dayOf x - yearStart x.year < monthStart x.year (x.month - 1 + 1 + 1)) = true
      rw [show x.month - 1 + 1 + 1 = x.month + 1 by omega, er]
      exact decide_eq_true (day_in_month h)
    · intro j hj
      show decide (dayOf x - yearStart x.year < monthStart x.year (j + 1 + 1)) = false
      have := monthStart_mono (y := x.year) (a := j + 1 + 1) (b := x.month) (by omega) (by omega)
      exact decide_eq_false (by omega)
  show (let y := (((List.range 6).map fun k => FIRST + dayOf x / 366 + k).find? fun y => decide (dayOf x < yearStart (y + 1))).getD LAST
    let r := dayOf x - yearStart y
    let m := (((List.range 12).map fun k => k + 1).find? fun m => decide (r < monthStart y (m + 1))).getD 12
    (⟨y, m, r - monthStart y m + 1⟩ : Date)) = x
  rw [fy]
  show (let r := dayOf x - yearStart x.year
    let m := (((List.range 12).map fun k => k + 1).find? fun m => decide (r < monthStart x.year (m + 1))).getD 12
    (⟨x.year, m, r - monthStart x.year m + 1⟩ : Date)) = x
  show (⟨x.year, (((List.range 12).map fun k => k + 1).find? fun m => decide (dayOf x - yearStart x.year < monthStart x.year (m + 1))).getD 12, dayOf x - yearStart x.year - monthStart x.year ((((List.range 12).map fun k => k + 1).find? fun m => decide (dayOf x - yearStart x.year < monthStart x.year (m + 1))).getD 12) + 1⟩ : Date) = x
  rw [fm, er]
  obtain ⟨yy, mm, dd⟩ := x
  show (⟨yy, mm, monthStart yy mm + (dd - 1) - monthStart yy mm + 1⟩ : Date) = ⟨yy, mm, dd⟩
  have hd := h.d1
  congr 1
  show monthStart yy mm + (dd - 1) - monthStart yy mm + 1 = dd
  have hd : 1 ≤ dd := hd
  omega
/-- each number is a date's -/
theorem has_year : ∀ n : Nat, ∃ y, 1600 ≤ y ∧ yearStart y ≤ n ∧ n < yearStart (y + 1)
  | 0 => ⟨1600, by omega, by decide, by decide⟩
  | n + 1 => by
    obtain ⟨y, h1, h2, h3⟩ := has_year n
    by_cases e : n + 1 < yearStart (y + 1)
    · exact ⟨y, h1, by omega, e⟩
    · have := yearStart_succ (y := y + 1) (by omega)
      have := yearDays_le (y + 1)
      exact ⟨y + 1, by omega, by omega, by omega⟩
theorem has_month {y : Nat} : ∀ r : Nat, r < monthStart y 13 → ∃ m, 1 ≤ m ∧ m ≤ 12 ∧ monthStart y m ≤ r ∧ r < monthStart y (m + 1)
  | 0, h => ⟨1, by omega, by omega, by rw [monthStart_one]; omega, by rw [monthStart_succ (by omega), monthStart_one]; have := monthDays_ge y 1; omega⟩
  | r + 1, h => by
    obtain ⟨m, h1, h2, h3, h4⟩ := has_month (y := y) r (by omega)
    by_cases e : r + 1 < monthStart y (m + 1)
    · exact ⟨m, h1, h2, by omega, e⟩
    · have h5 : m + 1 ≤ 12 := by
        by_cases q : m = 12
        · subst q
          have e2 : ¬ r + 1 < monthStart y 13 := e
          omega
        · omega
      have := monthStart_succ (y := y) (m := m + 1) (by omega)
      have := monthDays_ge y (m + 1)
      exact ⟨m + 1, by omega, h5, by omega, by omega⟩
theorem has_date (n : Nat) : ∃ x, Good x ∧ dayOf x = n := by
  obtain ⟨y, h1, h2, h3⟩ := has_year n
  rw [yearStart_succ h1, ← monthStart_13] at h3
  obtain ⟨m, m1, m2, m3, m4⟩ := has_month (y := y) (n - yearStart y) (by omega)
  rw [monthStart_succ m1] at m4
  refine ⟨⟨y, m, n - yearStart y - monthStart y m + 1⟩, ⟨h1, m1, m2, by show 1 ≤ _ + 1; omega, by show _ + 1 ≤ monthDays y m; omega⟩, ?_⟩
  show yearStart y + monthStart y m + (n - yearStart y - monthStart y m + 1 - 1) = n
  omega
/-- numbers that are reckoned with at all -/
def FARTHEST : Nat := 800000
theorem year_lt {x : Date} (h : Good x) (k : dayOf x < FARTHEST) : x.year ≤ 4000 := by
  have := (day_in_year h).1
  have := yearStart_ge h.y
  unfold FARTHEST at k
  omega
theorem dateOf_good {n : Nat} (k : n < FARTHEST) : Good (dateOf n) ∧ dayOf (dateOf n) = n := by
  obtain ⟨x, hx, e⟩ := has_date n
  have q := dateOf_dayOf hx (year_lt hx (by rw [e]; exact k))
  rw [e] at q
  rw [q]
  exact ⟨hx, e⟩
theorem dayOf_inj {x z : Date} (hx : Good x) (hz : Good z) (kx : x.year ≤ 4000) (kz : z.year ≤ 4000) (e : dayOf x = dayOf z) : x = z := by
  rw [← dateOf_dayOf hx kx, ← dateOf_dayOf hz kz, e]
/-- a day is told before the last year's end iff its date is -/
theorem day_lt_DAYS {x : Date} (h : Good x) : dayOf x < DAYS ↔ x.year ≤ 2999 := by
  obtain ⟨a, b⟩ := day_in_year h
  unfold DAYS LAST
  constructor
  · intro q
    by_cases e : x.year ≤ 2999
    · exact e
    · have := yearStart_mono (a := 2999 + 1) (b := x.year) (by omega) (by omega)
      omega
  · intro q
    have := yearStart_mono (a := x.year + 1) (b := 2999 + 1) (by have := h.y; omega) (by omega)
    omega
end Cal
end
section
set_option Elab.async false
set_option linter.all false
set_option maxRecDepth 100000
/-! More of the calendar: the order of dates, the day behind a date, months behind, how far one counts. -/
namespace Cal
open Sx57
/-! ### the order of dates -/
theorem day_lt_of_month {x z : Date} (hx : Good x) (hz : Good z) (h : x.year * 12 + x.month < z.year * 12 + z.month) : dayOf x < dayOf z := by
  obtain ⟨a1, a2⟩ := day_in_year hx
  obtain ⟨b1, b2⟩ := day_in_year hz
  have := hx.m1
  have := hx.m2
  have := hz.m1
  have := hz.m2
  have := hx.y
  by_cases e : x.year < z.year
  · have := yearStart_mono (a := x.year + 1) (b := z.year) (by omega) (by omega)
    omega
  · have ey : x.year = z.year := by omega
    have em : x.month + 1 ≤ z.month := by omega
    have c := day_in_month hx
    have d := monthStart_mono (y := x.year) (a := x.month + 1) (by omega) em
    unfold dayOf
    rw [← ey]
    omega
theorem day_lt_of_day {y m d e : Nat} (h1 : 1 ≤ d) (h : d < e) : dayOf ⟨y, m, d⟩ < dayOf ⟨y, m, e⟩ := by
  show yearStart y + monthStart y m + (d - 1) < yearStart y + monthStart y m + (e - 1)
  omega
/-- earlier as dates, earlier as numbers -/
theorem day_lt_iff {x z : Date} (hx : Good x) (hz : Good z) : dayOf x < dayOf z ↔ (x.year < z.year ∨ (x.year = z.year ∧ (x.month < z.month ∨ (x.month = z.month ∧ x.day < z.day)))) := by
  have := hx.m1
  have := hx.m2
  have := hz.m1
  have := hz.m2
  have key : ∀ {a b : Date}, Good a → Good b → (a.year < b.year ∨ (a.year = b.year ∧ (a.month < b.month ∨ (a.month = b.month ∧ a.day < b.day)))) → dayOf a < dayOf b := by
    intro a b ha hb h
    have := ha.m1
    have := ha.m2
    have := hb.m1
    have := hb.m2
    by_cases q : a.year * 12 + a.month < b.year * 12 + b.month
    · exact day_lt_of_month ha hb q
    · obtain ⟨y, m, d⟩ := a
      obtain ⟨y2, m2, d2⟩ := b
      dsimp only at *
      have e1 : y = y2 := by omega
      have e2 : m = m2 := by omega
      subst e1 e2
      exact day_lt_of_day ha.d1 (by omega)
  constructor
  · intro h
    by_cases q : x.year < z.year ∨ (x.year = z.year ∧ (x.month < z.month ∨ (x.month = z.month ∧ x.day < z.day)))
    · exact q
    · exfalso
      by_cases e : x = z
      · rw [e] at h
        omega
      · have ne : ¬ (x.year = z.year ∧ x.month = z.month ∧ x.day = z.day) := by
          rintro ⟨e1, e2, e3⟩
          apply e
          obtain ⟨y, m, d⟩ := x
          obtain ⟨y2, m2, d2⟩ := z
          dsimp only at e1 e2 e3
          subst e1 e2 e3
          rfl
        have := key hz hx (by omega)
        omega
  · exact key hx hz
/-! ### the day behind a date -/
theorem next_in_month {y m d : Nat} (h : Good ⟨y, m, d⟩) (k : d < monthDays y m) : Good ⟨y, m, d + 1⟩ ∧ dayOf ⟨y, m, d + 1⟩ = dayOf ⟨y, m, d⟩ + 1 := by
  refine ⟨⟨h.y, h.m1, h.m2, by show 1 ≤ d + 1; omega, k⟩, ?_⟩
  show yearStart y + monthStart y m + (d + 1 - 1) = yearStart y + monthStart y m + (d - 1) + 1
  have : 1 ≤ d := h.d1
  omega
theorem next_month {y m : Nat} (h : Good ⟨y, m, monthDays y m⟩) (k : m < 12) : Good ⟨y, m + 1, 1⟩ ∧ dayOf ⟨y, m + 1, 1⟩ = dayOf ⟨y, m, monthDays y m⟩ + 1 := by
  have q := monthDays_ge y (m + 1)
  have q2 := monthDays_ge y m
  have m1 : 1 ≤ m := h.m1
  refine ⟨⟨h.y, by show 1 ≤ m + 1; omega, by show m + 1 ≤ 12; omega, Nat.le_refl _, by show 1 ≤ monthDays y (m + 1); omega⟩, ?_⟩
  show yearStart y + monthStart y (m + 1) + (1 - 1) = yearStart y + monthStart y m + (monthDays y m - 1) + 1
  rw [monthStart_succ m1]
  omega
theorem next_year {y : Nat} (h : Good ⟨y, 12, monthDays y 12⟩) : Good ⟨y + 1, 1, 1⟩ ∧ dayOf ⟨y + 1, 1, 1⟩ = dayOf ⟨y, 12, monthDays y 12⟩ + 1 := by
  have hy : 1600 ≤ y := h.y
  have q2 := monthDays_ge y 12
  refine ⟨⟨by show 1600 ≤ y + 1; omega, Nat.le_refl _, by show 1 ≤ 12; omega, Nat.le_refl _, by show 1 ≤ monthDays (y + 1) 1; have := monthDays_ge (y + 1) 1; omega⟩, ?_⟩
  show yearStart (y + 1) + monthStart (y + 1) 1 + (1 - 1) = yearStart y + monthStart y 12 + (monthDays y 12 - 1) + 1
  rw [monthStart_one, yearStart_succ hy, ← monthStart_13, monthStart_succ (show 1 ≤ 12 by omega)]
  omega
/-! ### months behind a day -/
/-- the date so many months behind x, by the way's rule -/
theorem later_of {w : Way} {x : Date} (h : Good x) (hy : x.year ≤ 4000) (k : Nat) : later w (dayOf x) k =
    (if w.month = 2 ∧ x.day = monthDays x.year x.month then dayOf ⟨x.year + (x.month - 1 + k) / 12, (x.month - 1 + k) % 12 + 1, monthDays (x.year + (x.month - 1 + k) / 12) ((x.month - 1 + k) % 12 + 1)⟩
     else if x.day ≤ monthDays (x.year + (x.month - 1 + k) / 12) ((x.month - 1 + k) % 12 + 1) then dayOf ⟨x.year + (x.month - 1 + k) / 12, (x.month - 1 + k) % 12 + 1, x.day⟩
     else dayOf ⟨x.year + (x.month - 1 + k) / 12, (x.month - 1 + k) % 12 + 1, monthDays (x.year + (x.month - 1 + k) / 12) ((x.month - 1 + k) % 12 + 1)⟩ + (if w.month = 1 then 1 else 0)) := by
  unfold later
  rw [dateOf_dayOf h hy]
theorem good_month {y z : Nat} (hy : 1600 ≤ y) {d : Nat} (d1 : 1 ≤ d) (d2 : d ≤ monthDays y (z % 12 + 1)) : Good ⟨y, z % 12 + 1, d⟩ :=
  ⟨hy, by show 1 ≤ z % 12 + 1; omega, by show z % 12 + 1 ≤ 12; omega, d1, d2⟩
/-- so many months on lies ahead, and not too far -/
theorem later_bounds {w : Way} {n k : Nat} (hn : n < DAYS) (hk : k ≤ 1200) : later w n k ≤ n + 37500 ∧ (1 ≤ k → n < later w n k) := by
  have hd := DAYS_eq
  obtain ⟨g, e⟩ := dateOf_good (n := n) (by unfold FARTHEST; omega)
  have hy : (dateOf n).year ≤ 2999 := (day_lt_DAYS g).mp (by rw [e]; exact hn)
  have key := later_of (w := w) g (by omega) k
  rw [e] at key
  rw [key]
  generalize dateOf n = x at g e hy key
  have m1 := g.m1
  have m2 := g.m2
  have y1 := g.y
  have a := day_in_year g
  rw [e] at a
  have mm := monthDays_ge (x.year + (x.month - 1 + k) / 12) ((x.month - 1 + k) % 12 + 1)
  have up : ∀ d, 1 ≤ d → d ≤ monthDays (x.year + (x.month - 1 + k) / 12) ((x.month - 1 + k) % 12 + 1) → dayOf ⟨x.year + (x.month - 1 + k) / 12, (x.month - 1 + k) % 12 + 1, d⟩ + 1 ≤ n + 37500 ∧ (1 ≤ k → n < dayOf ⟨x.year + (x.month - 1 + k) / 12, (x.month - 1 + k) % 12 + 1, d⟩) := by
    intro d d1 d2
    have g2 := good_month (y := x.year + (x.month - 1 + k) / 12) (z := x.month - 1 + k) (by omega) d1 d2
    have b := day_in_year g2
    refine ⟨?_, fun hk1 => ?_⟩
    · have c1 : yearStart (x.year + (x.month - 1 + k) / 12 + 1) ≤ yearStart x.year + 366 * ((x.month - 1 + k) / 12 + 1) := by
        unfold yearStart FIRST leaps
        omega
      have b2 : dayOf ⟨x.year + (x.month - 1 + k) / 12, (x.month - 1 + k) % 12 + 1, d⟩ < yearStart (x.year + (x.month - 1 + k) / 12 + 1) := b.2
      omega
    · rw [← e]
      refine day_lt_of_month g g2 ?_
      show x.year * 12 + x.month < (x.year + (x.month - 1 + k) / 12) * 12 + ((x.month - 1 + k) % 12 + 1)
      omega
  have d1 := g.d1
  split
  · have := up _ (by omega) (Nat.le_refl _)
    exact ⟨by omega, this.2⟩
  · split
    · rename_i q
      have := up _ d1 q
      exact ⟨by omega, this.2⟩
    · have := up _ (show 1 ≤ monthDays (x.year + (x.month - 1 + k) / 12) ((x.month - 1 + k) % 12 + 1) by omega) (Nat.le_refl _)
      refine ⟨?_, fun hk1 => ?_⟩
      · split <;> omega
      · have := this.2 hk1
        omega
/-! ### spans -/
theorem spanOk_iff {u k : Nat} : spanOk u k = true ↔ 1 ≤ k ∧ ((u = 0 ∧ k ≤ 9999) ∨ (u = 1 ∧ k ≤ 999) ∨ (u = 2 ∧ k ≤ 999) ∨ (u = 3 ∧ k ≤ 99) ∨ (u = 4 ∧ k ≤ 999)) := by
  unfold spanOk
  simp only [Bool.and_eq_true, decide_eq_true_eq]
  constructor
  · rintro ⟨h1, h2, h3⟩
    have : u = 0 ∨ u = 1 ∨ u = 2 ∨ u = 3 ∨ u = 4 := by omega
    rcases this with rfl | rfl | rfl | rfl | rfl
    · have h3 : k ≤ 9999 := h3
      omega
    · have h3 : k ≤ 999 := h3
      omega
    · have h3 : k ≤ 999 := h3
      omega
    · have h3 : k ≤ 99 := h3
      omega
    · have h3 : k ≤ 999 := h3
      omega
  · rintro ⟨h1, h2⟩
    rcases h2 with ⟨rfl, h⟩ | ⟨rfl, h⟩ | ⟨rfl, h⟩ | ⟨rfl, h⟩ | ⟨rfl, h⟩
    · exact ⟨by omega, h1, h⟩
    · exact ⟨by omega, h1, h⟩
    · exact ⟨by omega, h1, h⟩
    · exact ⟨by omega, h1, h⟩
    · exact ⟨by omega, h1, h⟩
/-- the plain end: from the first day on, not too far -/
theorem plainEnd_bounds {w : Way} {n u k : Nat} (hn : n < DAYS) (hs : spanOk u k = true) (hu : u ≠ 4) : firstOf w n ≤ plainEnd w n u k ∧ plainEnd w n u k ≤ n + 37500 := by
  have hs := spanOk_iff.mp hs
  have fin : ∀ m : Nat, n < m → m ≤ n + 37500 → (if w.counts = true then n else n + 1) ≤ m - (if w.counts = true then 1 else 0) ∧ m - (if w.counts = true then 1 else 0) ≤ n + 37500 := by
    intro m h1 h2
    cases w.counts
    · show n + 1 ≤ m - 0 ∧ m - 0 ≤ n + 37500
      omega
    · show n ≤ m - 1 ∧ m - 1 ≤ n + 37500
      omega
  rcases hs.2 with ⟨rfl, h⟩ | ⟨rfl, h⟩ | ⟨rfl, h⟩ | ⟨rfl, h⟩ | ⟨rfl, h⟩
  · exact fin (n + k) (by omega) (by omega)
  · exact fin (n + 7 * k) (by omega) (by omega)
  · obtain ⟨b1, b2⟩ := later_bounds (w := w) hn (show k ≤ 1200 by omega)
    exact fin (later w n k) (b2 hs.1) b1
  · obtain ⟨b1, b2⟩ := later_bounds (w := w) hn (show 12 * k ≤ 1200 by omega)
    exact fin (later w n (12 * k)) (b2 (by omega)) b1
  · exact absurd rfl hu
/-- what stops put off, no further than all days -/
theorem putOff_bound {first D : Nat} : ∀ (s : Stops) (e lo : Nat), (∀ x ∈ s, x.1 ≤ x.2 ∧ x.2 < D) → (s.Pairwise fun x z => x.2 < z.1) → (∀ x ∈ s, lo ≤ max x.1 first) → lo ≤ D → e ≤ putOff first e s ∧ putOff first e s ≤ e + (D - lo)
  | [], e, lo, _, _, _, _ => by
    show e ≤ e ∧ e ≤ e + _
    omega
  | x :: s, e, lo, h1, h2, h3, h4 => by
    have hp := List.pairwise_cons.mp h2
    have hx := h1 x (List.mem_cons_self ..)
    have hl := h3 x (List.mem_cons_self ..)
    show e ≤ (if x.2 < first ∨ e < max x.1 first then putOff first e s else putOff first (e + (x.2 + 1 - max x.1 first)) s) ∧ (if x.2 < first ∨ e < max x.1 first then putOff first e s else putOff first (e + (x.2 + 1 - max x.1 first)) s) ≤ e + (D - lo)
    split
    · exact putOff_bound s e lo (fun z hz => h1 z (List.mem_cons_of_mem _ hz)) hp.2 (fun z hz => h3 z (List.mem_cons_of_mem _ hz)) h4
    · rename_i q
      have ih := putOff_bound (first := first) (D := D) s (e + (x.2 + 1 - max x.1 first)) (x.2 + 1) (fun z hz => h1 z (List.mem_cons_of_mem _ hz)) hp.2 (fun z hz => by have := hp.1 z hz; omega) (by omega)
      omega
/-- no end lies beyond what one counts with -/
theorem putOff_far {w : Way} {n u k : Nat} {s : Stops} (hn : n < DAYS) (hs : spanOk u k = true) (hu : u ≠ 4) (h1 : ∀ x ∈ s, x.1 ≤ x.2 ∧ x.2 < DAYS) (h2 : s.Pairwise fun x z => x.2 < z.1) : putOff (firstOf w n) (plainEnd w n u k) s ≤ DAYS + 37500 := by
  obtain ⟨a, b⟩ := plainEnd_bounds (w := w) hn hs hu
  have hf : firstOf w n = n ∨ firstOf w n = n + 1 := by
    unfold firstOf
    split
    · exact .inl rfl
    · exact .inr rfl
  have c := (putOff_bound (first := firstOf w n) (D := DAYS) s (plainEnd w n u k) (firstOf w n) h1 h2 (fun x _ => by omega) (by omega)).2
  omega
end Cal
end
section
set_option Elab.async false
set_option linter.all false
set_option maxRecDepth 100000
/-! The calendar for spans: the guess of a year, months behind, working days as lists. -/
namespace Cal
open Sx57
theorem year_uniq {n y z : Nat} (hy : 1600 ≤ y) (hz : 1600 ≤ z) (a : yearStart y ≤ n) (b : n < yearStart (y + 1)) (c : yearStart z ≤ n) (d : n < yearStart (z + 1)) : y = z := by
  by_cases h : y < z
  · have := yearStart_mono (a := y + 1) (b := z) (by omega) (by omega)
    omega
  · by_cases h2 : z < y
    · have := yearStart_mono (a := z + 1) (b := y) (by omega) (by omega)
      omega
    · omega
/-- a number's year: between its year's first day and the next one's -/
theorem year_is {n y : Nat} (k : n < FARTHEST) (hy : 1600 ≤ y) (a : yearStart y ≤ n) (b : n < yearStart (y + 1)) : (dateOf n).year = y := by
  obtain ⟨g, e⟩ := dateOf_good k
  obtain ⟨c, d⟩ := day_in_year g
  rw [e] at c d
  exact (year_uniq hy g.y a b c d).symm
theorem year_of_range {n : Nat} (k : n < FARTHEST) : 1600 ≤ (dateOf n).year ∧ (dateOf n).year ≤ 3800 ∧ yearStart (dateOf n).year ≤ n ∧ n < yearStart ((dateOf n).year + 1) := by
  obtain ⟨g, e⟩ := dateOf_good k
  obtain ⟨c, d⟩ := day_in_year g
  rw [e] at c d
  have := g.y
  have q := yearStart_ge (y := (dateOf n).year) g.y
  unfold FARTHEST at k
  exact ⟨g.y, by omega, c, d⟩
theorem yearStart_near (p : Nat) : 146097 * p ≤ 400 * yearStart (1600 + p) + 396 ∧ 400 * yearStart (1600 + p) ≤ 146097 * p + 699 := by
  have e : yearStart (1600 + p) = 365 * p + ((1599 + p) / 4 - (1599 + p) / 100 + (1599 + p) / 400 - 387) := by
    unfold yearStart FIRST leaps
    rw [show 1600 + p - 1600 = p by omega, show 1600 + p - 1 = 1599 + p by omega]
  rw [e]
  have a1 : 4 * ((1599 + p) / 4) ≤ 1599 + p ∧ 1599 + p ≤ 4 * ((1599 + p) / 4) + 3 := by omega
  have b1 : 100 * ((1599 + p) / 100) ≤ 1599 + p ∧ 1599 + p ≤ 100 * ((1599 + p) / 100) + 99 := by omega
  have c1 : 400 * ((1599 + p) / 400) ≤ 1599 + p ∧ 1599 + p ≤ 400 * ((1599 + p) / 400) + 399 := by omega
  clear e
  generalize (1599 + p) / 4 = A at *
  generalize (1599 + p) / 100 = B at *
  generalize (1599 + p) / 400 = C at *
  obtain ⟨a1, a2⟩ := a1
  obtain ⟨b1, b2⟩ := b1
  obtain ⟨c1, c2⟩ := c1
  omega
/-- the guess is a year off at the most -/
theorem guess {n g : Nat} (hg : g = 1600 + n * 400 / 146097) : (n < yearStart g → 1601 ≤ g ∧ yearStart (g - 1) ≤ n) ∧ (yearStart (g + 1) ≤ n → n < yearStart (g + 2)) := by
  have h1 : 146097 * (n * 400 / 146097) ≤ n * 400 ∧ n * 400 < 146097 * (n * 400 / 146097) + 146097 := by omega
  generalize n * 400 / 146097 = p at *
  subst hg
  refine ⟨fun h => ?_, fun h => ?_⟩
  · have hp : 1 ≤ p := by
      by_cases q : p = 0
      · subst q
        rw [yearStart_1600] at h
        omega
      · omega
    have k := (yearStart_near (p - 1)).2
    rw [show 1600 + p - 1 = 1600 + (p - 1) by omega]
    generalize yearStart (1600 + (p - 1)) = z at *
    exact ⟨by omega, by omega⟩
  · have k := (yearStart_near (p + 2)).1
    rw [show 1600 + p + 2 = 1600 + (p + 2) by omega]
    generalize yearStart (1600 + (p + 2)) = z at *
    omega
/-- a number's date, found by its parts -/
theorem date_is {n y m d : Nat} (k : n < FARTHEST) (hy : 1600 ≤ y) (m1 : 1 ≤ m) (m2 : m ≤ 12) (d1 : 1 ≤ d) (d2 : d ≤ monthDays y m) (e : n = yearStart y + monthStart y m + (d - 1)) : dateOf n = ⟨y, m, d⟩ := by
  have g : Good ⟨y, m, d⟩ := ⟨hy, m1, m2, d1, d2⟩
  have e2 : dayOf ⟨y, m, d⟩ = n := e.symm
  rw [← e2]
  exact dateOf_dayOf g (year_lt g (by rw [e2]; exact k))
/-! ### months by their numbers -/
def mon (x : Date) : Nat := x.year * 12 + (x.month - 1)
/-- the first day of a month -/
def mFirst (z : Nat) : Nat := dayOf ⟨z / 12, z % 12 + 1, 1⟩
theorem mFirst_succ {z : Nat} (h : 19200 ≤ z) : mFirst (z + 1) = mFirst z + monthDays (z / 12) (z % 12 + 1) := by
  unfold mFirst
  have md := monthDays_ge (z / 12) (z % 12 + 1)
  have g : Good ⟨z / 12, z % 12 + 1, monthDays (z / 12) (z % 12 + 1)⟩ := good_month (z := z) (by omega) (by omega) (Nat.le_refl _)
  have e : dayOf ⟨z / 12, z % 12 + 1, monthDays (z / 12) (z % 12 + 1)⟩ + 1 = dayOf ⟨z / 12, z % 12 + 1, 1⟩ + monthDays (z / 12) (z % 12 + 1) := by
    show yearStart (z / 12) + monthStart (z / 12) (z % 12 + 1) + (monthDays (z / 12) (z % 12 + 1) - 1) + 1 = yearStart (z / 12) + monthStart (z / 12) (z % 12 + 1) + (1 - 1) + monthDays (z / 12) (z % 12 + 1)
    omega
  by_cases q : z % 12 = 11
  · have e1 : (z + 1) / 12 = z / 12 + 1 := by omega
    have e2 : (z + 1) % 12 + 1 = 1 := by omega
    have e3 : z % 12 + 1 = 12 := by omega
    rw [e1, e2]
    rw [e3] at g e ⊢
    rw [(next_year g).2]
    exact e
  · have e1 : (z + 1) / 12 = z / 12 := by omega
    have e2 : (z + 1) % 12 + 1 = z % 12 + 1 + 1 := by omega
    rw [e1, e2, (next_month g (by omega)).2]
    exact e
theorem mFirst_mono {a : Nat} (ha : 19200 ≤ a) : ∀ {b : Nat}, a ≤ b → mFirst a ≤ mFirst b
  | 0, h => by omega
  | b + 1, h => by
    by_cases e : a = b + 1
    · rw [e]; exact Nat.le_refl _
    · have := mFirst_mono ha (b := b) (by omega)
      rw [mFirst_succ (z := b) (by omega)]
      omega
theorem day_in_mon {x : Date} (g : Good x) : 19200 ≤ mon x ∧ mFirst (mon x) ≤ dayOf x ∧ dayOf x < mFirst (mon x + 1) := by
  have m1 := g.m1
  have m2 := g.m2
  have y1 := g.y
  have d1 := g.d1
  have d2 := g.d2
  have hz : 19200 ≤ mon x := by unfold mon; omega
  have e1 : mon x / 12 = x.year := by unfold mon; omega
  have e2 : mon x % 12 + 1 = x.month := by unfold mon; omega
  rw [mFirst_succ hz]
  unfold mFirst
  rw [e1, e2]
  show _ ∧ yearStart x.year + monthStart x.year x.month + (1 - 1) ≤ yearStart x.year + monthStart x.year x.month + (x.day - 1) ∧ yearStart x.year + monthStart x.year x.month + (x.day - 1) < yearStart x.year + monthStart x.year x.month + (1 - 1) + monthDays x.year x.month
  omega
theorem mon_lt {x z : Date} (hx : Good x) (hz : Good z) (h : dayOf x ≤ dayOf z) : mon x ≤ mon z := by
  obtain ⟨a1, a2, a3⟩ := day_in_mon hx
  obtain ⟨b1, b2, b3⟩ := day_in_mon hz
  by_cases q : mon x ≤ mon z
  · exact q
  · have := mFirst_mono (a := mon z + 1) (by omega) (b := mon x) (by omega)
    omega
/-- so many months behind lies in that month, or is the next one's first day -/
theorem later_in {w : Way} {n k : Nat} (hn : n < FARTHEST) : mFirst (mon (dateOf n) + k) ≤ later w n k ∧ later w n k ≤ mFirst (mon (dateOf n) + k + 1) := by
  obtain ⟨g, e⟩ := dateOf_good hn
  have hy := year_lt g (by rw [e]; exact hn)
  have key := later_of (w := w) g hy k
  rw [e] at key
  rw [key]
  generalize dateOf n = x at g e hy key ⊢
  clear key
  have m1 := g.m1
  have m2 := g.m2
  have y1 := g.y
  have d1 := g.d1
  have hz : 19200 ≤ mon x := (day_in_mon g).1
  rw [mFirst_succ (by omega)]
  unfold mFirst
  have e1 : (mon x + k) / 12 = x.year + (x.month - 1 + k) / 12 := by unfold mon; omega
  have e2 : (mon x + k) % 12 = (x.month - 1 + k) % 12 := by unfold mon; omega
  rw [e1, e2]
  generalize x.year + (x.month - 1 + k) / 12 = y
  generalize (x.month - 1 + k) % 12 + 1 = m
  have md := monthDays_ge y m
  have key : ∀ d, 1 ≤ d → d ≤ monthDays y m → dayOf ⟨y, m, 1⟩ ≤ dayOf ⟨y, m, d⟩ ∧ dayOf ⟨y, m, d⟩ + 1 ≤ dayOf ⟨y, m, 1⟩ + monthDays y m := by
    intro d h1 h2
    show yearStart y + monthStart y m + (1 - 1) ≤ yearStart y + monthStart y m + (d - 1) ∧ yearStart y + monthStart y m + (d - 1) + 1 ≤ yearStart y + monthStart y m + (1 - 1) + monthDays y m
    omega
  split
  · have := key _ (by omega) (Nat.le_refl (monthDays y m))
    omega
  · split
    · rename_i q
      have := key _ d1 q
      omega
    · have := key _ (by omega) (Nat.le_refl (monthDays y m))
      split <;> omega
theorem later_mono {w : Way} {n : Nat} (hn : n < FARTHEST) {j : Nat} : ∀ {k : Nat}, j ≤ k → later w n j ≤ later w n k
  | 0, h => by
    have : j = 0 := by omega
    rw [this]
    exact Nat.le_refl _
  | k + 1, h => by
    by_cases e : j = k + 1
    · rw [e]; exact Nat.le_refl _
    · have a := later_mono (w := w) hn (j := j) (k := k) (by omega)
      have b := (later_in (w := w) (k := k) hn).2
      have c := (later_in (w := w) (k := k + 1) hn).1
      rw [← Nat.add_assoc] at c
      omega
theorem later_zero {w : Way} {n : Nat} (hn : n < FARTHEST) : later w n 0 = n := by
  obtain ⟨g, e⟩ := dateOf_good hn
  have hy := year_lt g (by rw [e]; exact hn)
  have key := later_of (w := w) g hy 0
  rw [e] at key
  rw [key]
  generalize dateOf n = x at g e hy key ⊢
  have m1 := g.m1
  have m2 := g.m2
  rw [show x.year + (x.month - 1 + 0) / 12 = x.year by omega, show (x.month - 1 + 0) % 12 + 1 = x.month by omega]
  split
  · rename_i q
    rw [← q.2]
    exact e
  · rw [if_pos g.d2]
    exact e
theorem later_beyond {w : Way} {a b k : Nat} (ha : a < FARTHEST) (hb : b < FARTHEST) (h : mon (dateOf b) < mon (dateOf a) + k) : b < later w a k := by
  obtain ⟨g, e⟩ := dateOf_good hb
  obtain ⟨g1, _⟩ := dateOf_good ha
  obtain ⟨c1, c2, c3⟩ := day_in_mon g
  rw [e] at c3
  have d := mFirst_mono (a := mon (dateOf b) + 1) (by omega) (b := mon (dateOf a) + k) (by omega)
  have f := (later_in (w := w) (k := k) ha).1
  omega
theorem takeWhile_len {p : Nat → Bool} {N c : Nat} (hc : c ≤ N) (h1 : ∀ k, k < c → p k = true) (h2 : c = N ∨ p c = false) : ((List.range N).takeWhile p).length = c := by
  have e : List.range N = List.range c ++ (List.range (N - c)).map (c + ·) := by
    rw [← List.range_add]
    congr 1
    omega
  rw [e, List.takeWhile_append_of_pos (fun k hk => h1 k (List.mem_range.mp hk)), List.length_append, List.length_range]
  have : ((List.range (N - c)).map (c + ·)).takeWhile p = [] := by
    cases q : N - c with
    | zero => rfl
    | succ n =>
      rw [List.range_succ_eq_map, List.map_cons, List.takeWhile_cons]
      rcases h2 with h2 | h2
      · omega
      · rw [show c + 0 = c from rfl, h2]
        rfl
  rw [this]
  rfl
theorem between_eq {w : Way} {a b k : Nat} (hb : b < DAYS) (hab : a ≤ b) (h1 : later w a k ≤ b) (h2 : b < later w a (k + 1)) : between w a b = (k / 12, k % 12, b - later w a k) := by
  have hd := DAYS_eq
  have ha : a < FARTHEST := by unfold FARTHEST; omega
  have hb' : b < FARTHEST := by unfold FARTHEST; omega
  obtain ⟨ga, ea⟩ := dateOf_good ha
  obtain ⟨gb, eb⟩ := dateOf_good hb'
  have yb : (dateOf b).year ≤ 2999 := (day_lt_DAYS gb).mp (by rw [eb]; exact hb)
  have hk : k < 16800 := by
    by_cases q : k < 16800
    · exact q
    · exfalso
      have ma := (day_in_mon ga).1
      have m2 := gb.m2
      have := later_beyond (w := w) (k := k) ha hb' (by show (dateOf b).year * 12 + ((dateOf b).month - 1) < _; omega)
      omega
  have up : ∀ j, j ≤ k → later w a j ≤ b := fun j hj => Nat.le_trans (later_mono ha hj) h1
  have dn : ∀ j, k + 1 ≤ j → ¬ later w a j ≤ b := fun j hj => by
    have := later_mono (w := w) ha hj
    omega
  have ey : years w a b = k / 12 := by
    unfold years LAST FIRST
    refine takeWhile_len (by omega) (fun j hj => decide_eq_true (up _ (by omega))) (.inr (decide_eq_false (dn _ (by omega))))
  have em : months w a b = k % 12 := by
    unfold months
    rw [ey]
    refine takeWhile_len (by omega) (fun j hj => decide_eq_true (up _ (by omega))) (.inr (decide_eq_false (dn _ (by omega))))
  unfold between
  rw [ey, em]
  show (k / 12, k % 12, b - later w a (12 * (k / 12) + k % 12)) = _
  rw [show 12 * (k / 12) + k % 12 = k by omega]
end Cal
end
section
set_option Elab.async false
set_option linter.all false
set_option maxRecDepth 100000
set_option maxHeartbeats 2000000
/-! The list of calls, call by call: what the specification reads, and what each call's numbers are. -/
namespace Dc
open Sx57 (Call Date Way)
def LIM : Nat := 4294967296
def nI (n : Nat) : Int := n
/-- what stands behind the number of a call, and the specification's call -/
def Arg : Nat → List Int → Call → Prop
  | 0, xs, c => xs = [] ∧ c = .begins
  | 1, xs, c => ∃ l : List Nat, xs = nI l.length :: l.map nI ∧ l.length ≤ 20 ∧ (∀ d ∈ l, d < LIM) ∧ c = .week l
  | 2, xs, c => ∃ m d : Nat, xs = [nI m, nI d] ∧ (m < LIM ∧ d < LIM) ∧ c = .yearly m d
  | 3, xs, c => ∃ k : Int, xs = [k] ∧ (-2147483648 ≤ k ∧ k ≤ 2147483647) ∧ c = .easters k
  | 4, xs, c => ∃ y m d : Nat, xs = [nI y, nI m, nI d] ∧ (y < LIM ∧ m < LIM ∧ d < LIM) ∧ c = .closed ⟨y, m, d⟩
  | 5, xs, c => ∃ (f : Bool) (r m : Nat), xs = [nI (Sx57.bit f), nI r, nI m] ∧ (r < LIM ∧ m < LIM) ∧ c = .way ⟨f, r, m⟩
  | 6, xs, c => ∃ y m d z n e : Nat, xs = [nI y, nI m, nI d, nI z, nI n, nI e] ∧ (y < LIM ∧ m < LIM ∧ d < LIM ∧ z < LIM ∧ n < LIM ∧ e < LIM) ∧ c = .halt_ ⟨y, m, d⟩ ⟨z, n, e⟩
  | 7, xs, c => ∃ y m d : Nat, xs = [nI y, nI m, nI d] ∧ (y < LIM ∧ m < LIM ∧ d < LIM) ∧ c = .rest ⟨y, m, d⟩
  | 8, xs, c => ∃ w y m d u k : Nat, xs = [nI w, nI y, nI m, nI d, nI u, nI k] ∧ (w < LIM ∧ y < LIM ∧ m < LIM ∧ d < LIM ∧ u < LIM ∧ k < LIM) ∧ c = .last w ⟨y, m, d⟩ u k
  | 9, xs, c => ∃ (w y m d u k : Nat) (l : List Date), xs = [nI w, nI y, nI m, nI d, nI u, nI k] ++ nI (3 * l.length) :: l.flatMap (fun x => [nI x.year, nI x.month, nI x.day]) ∧ (w < LIM ∧ y < LIM ∧ m < LIM ∧ d < LIM ∧ u < LIM ∧ k < LIM) ∧ l.length ≤ 20 ∧ (∀ x ∈ l, x.year < LIM ∧ x.month < LIM ∧ x.day < LIM) ∧ c = .anew w ⟨y, m, d⟩ u k l
  | 10, xs, c => ∃ w y m d u k : Nat, xs = [nI w, nI y, nI m, nI d, nI u, nI k] ∧ (w < LIM ∧ y < LIM ∧ m < LIM ∧ d < LIM ∧ u < LIM ∧ k < LIM) ∧ c = .latest w ⟨y, m, d⟩ u k
  | 11, xs, c => ∃ y m d z n e u k : Nat, xs = [nI y, nI m, nI d, nI z, nI n, nI e, nI u, nI k] ∧ (y < LIM ∧ m < LIM ∧ d < LIM ∧ z < LIM ∧ n < LIM ∧ e < LIM ∧ u < LIM ∧ k < LIM) ∧ c = .inTime ⟨y, m, d⟩ ⟨z, n, e⟩ u k
  | 12, xs, c => ∃ w y m d z n e : Nat, xs = [nI w, nI y, nI m, nI d, nI z, nI n, nI e] ∧ (w < LIM ∧ y < LIM ∧ m < LIM ∧ d < LIM ∧ z < LIM ∧ n < LIM ∧ e < LIM) ∧ c = .between w ⟨y, m, d⟩ ⟨z, n, e⟩
  | 13, xs, c => ∃ y m d z n e : Nat, xs = [nI y, nI m, nI d, nI z, nI n, nI e] ∧ (y < LIM ∧ m < LIM ∧ d < LIM ∧ z < LIM ∧ n < LIM ∧ e < LIM) ∧ c = .working ⟨y, m, d⟩ ⟨z, n, e⟩
  | 14, xs, c => ∃ y : Nat, xs = [nI y] ∧ y < LIM ∧ c = .easter y
  | _, _, _ => False
theorem small_iff {z : Int} : Sx57Neutral.small z = true ↔ 0 ≤ z ∧ z < 4294967296 := by
  unfold Sx57Neutral.small
  rw [Bool.and_eq_true, decide_eq_true_eq, decide_eq_true_eq]
theorem small_nat {z : Int} (h : Sx57Neutral.small z = true) : z = nI z.toNat ∧ z.toNat < LIM := by
  have := small_iff.mp h
  unfold nI LIM
  omega
theorem all_small {l : List Int} (h : l.all Sx57Neutral.small = true) : l = (Sx57Neutral.nats l).map nI ∧ ∀ d ∈ Sx57Neutral.nats l, d < LIM := by
  induction l with
  | nil => exact ⟨rfl, fun d hd => by cases hd⟩
  | cons x l ih =>
    rw [List.all_cons, Bool.and_eq_true] at h
    obtain ⟨e, b⟩ := ih h.2
    obtain ⟨e1, b1⟩ := small_nat h.1
    refine ⟨?_, fun d hd => ?_⟩
    · show x :: l = nI x.toNat :: (Sx57Neutral.nats l).map nI
      rw [← e1, ← e]
    · rcases List.mem_cons.mp hd with rfl | hd
      · exact b1
      · exact b d hd
theorem datesIn_flat : ∀ {l : List Int} {ds : List Date}, Sx57Neutral.datesIn l = some ds → l.all Sx57Neutral.small = true → l = ds.flatMap (fun x => [nI x.year, nI x.month, nI x.day]) ∧ l.length = 3 * ds.length ∧ ∀ x ∈ ds, x.year < LIM ∧ x.month < LIM ∧ x.day < LIM
  | [], ds, h, _ => by
    have e : [] = ds := Option.some.inj h
    subst e
    exact ⟨rfl, rfl, fun x hx => by cases hx⟩
  | [_], _, h, _ => by cases h
  | [_, _], _, h, _ => by cases h
  | y :: m :: d :: l, ds, h, hs => by
    have h : (Sx57Neutral.datesIn l).map (fun t => Sx57Neutral.date y m d :: t) = some ds := h
    cases e : Sx57Neutral.datesIn l with
    | none => rw [e] at h; cases h
    | some t =>
      rw [e] at h
      have h := Option.some.inj h
      subst h
      simp only [List.all_cons, Bool.and_eq_true] at hs
      obtain ⟨h1, h2, h3, h4⟩ := hs
      obtain ⟨i1, i2, i3⟩ := datesIn_flat e h4
      obtain ⟨y1, y2⟩ := small_nat h1
      obtain ⟨m1, m2⟩ := small_nat h2
      obtain ⟨d1, d2⟩ := small_nat h3
      refine ⟨?_, ?_, fun x hx => ?_⟩
      · show y :: m :: d :: l = nI y.toNat :: nI m.toNat :: nI d.toNat :: t.flatMap _
        rw [← y1, ← m1, ← d1, ← i1]
      · show l.length + 1 + 1 + 1 = 3 * (t.length + 1)
        omega
      · rcases List.mem_cons.mp hx with rfl | hx
        · exact ⟨y2, m2, d2⟩
        · exact i3 x hx
/-- the shape of a place -/
theorem shape_cases {p : Int} {n k : Nat} (h : PySx57.shape p = some (n, k)) : ∃ i : Nat, p = nI i ∧ i < 15 ∧ PySx57.shape (nI i) = some (n, k) := by
  unfold PySx57.shape at h
  by_cases q : 0 ≤ p ∧ p < 15
  · refine ⟨p.toNat, by unfold nI; omega, by omega, ?_⟩
    unfold PySx57.shape
    rw [show nI p.toNat = p by unfold nI; omega]
    exact h
  · exfalso
    rw [if_neg (show ¬ p = 0 by omega), if_neg (show ¬ p = 1 by omega), if_neg (show ¬ p = 2 by omega), if_neg (show ¬ p = 3 by omega), if_neg (show ¬ p = 4 by omega), if_neg (show ¬ p = 5 by omega), if_neg (show ¬ p = 6 by omega), if_neg (show ¬ p = 7 by omega),
      if_neg (show ¬ p = 8 by omega), if_neg (show ¬ p = 9 by omega), if_neg (show ¬ p = 10 by omega), if_neg (show ¬ p = 11 by omega), if_neg (show ¬ p = 12 by omega), if_neg (show ¬ p = 13 by omega), if_neg (show ¬ p = 14 by omega)] at h
    cases h
/-- how many whole numbers, how many rows -/
def nums : List Nat := [0, 0, 2, 1, 3, 3, 6, 3, 6, 6, 6, 8, 7, 6, 1]
theorem len0 {A : Type} {l : List A} (h : l.length = 0) : l = [] := List.eq_nil_of_length_eq_zero h
theorem len_succ {A : Type} {l : List A} {n : Nat} (h : l.length = n + 1) : ∃ x t, l = x :: t ∧ t.length = n := by
  cases l with
  | nil => cases h
  | cons x t => exact ⟨x, t, rfl, by simpa using h⟩
open Sx57Neutral (callOf asked1 small)
/-- **each call that may be asked**: its number, what stands behind it, the specification's call -/
theorem call_cases {c : List (List Int)} (h : PyFlat.okCall PySx57.shape c) (hk : asked1 ((PySx57.whole c).headD []) = true) :
    ∃ (i : Nat) (xs : List Int) (x : Call), PyFlat.put1 c = nI i :: xs ∧ i < 15 ∧ callOf ((PySx57.whole c).headD []) = some x ∧ Arg i xs x := by
  obtain ⟨p, a, rows, rfl, hs⟩ := h
  obtain ⟨i, rfl, hi, hs⟩ := shape_cases hs
  have pick : ∀ {n k : Nat}, PySx57.shape (nI i) = some (n, k) → a.length = n ∧ rows.length = k := fun e => by
    rw [hs] at e
    have e := Option.some.inj e
    exact ⟨congrArg Prod.fst e, congrArg Prod.snd e⟩
  match i, hi with
  | 0, _ =>
    obtain ⟨la, lr⟩ := pick (n := 0) (k := 0) rfl
    obtain rfl := len0 la
    obtain rfl := len0 lr
    exact ⟨0, [], .begins, rfl, by decide, rfl, rfl, rfl⟩
  | 1, _ =>
    obtain ⟨la, lr⟩ := pick (n := 0) (k := 1) rfl
    obtain rfl := len0 la
    obtain ⟨r, t, rfl, lr0⟩ := len_succ lr
    obtain rfl := len0 lr0
    have hk : (true && (r.all small && decide (r.length ≤ 20))) = true := hk
    simp only [Bool.true_and, Bool.and_eq_true, decide_eq_true_eq] at hk
    obtain ⟨e, b⟩ := all_small hk.1
    refine ⟨1, (r.length : Int) :: r, .week (Sx57Neutral.nats r), ?_, by decide, rfl, Sx57Neutral.nats r, ?_, ?_, b, rfl⟩
    · show nI 1 :: ([] ++ ((r.length : Int) :: r ++ [])) = _
      simp
    · rw [← e]
      show _ = (((r.map fun z => z.toNat).length : Nat) : Int) :: r
      rw [List.length_map]
    · show (r.map fun z => z.toNat).length ≤ 20
      rw [List.length_map]
      exact hk.2
  | 2, _ =>
    obtain ⟨la, lr⟩ := pick (n := 2) (k := 0) rfl
    obtain ⟨x0, a, rfl, la0⟩ := len_succ la
    obtain ⟨x1, a, rfl, la1⟩ := len_succ la0
    obtain rfl := len0 la1
    obtain rfl := len0 lr
    have hk : (true && (small 2 && (small x0 && (small x1 && true)))) = true := hk
    simp only [Bool.true_and, Bool.and_true, Bool.and_eq_true] at hk
    obtain ⟨e0, b0⟩ := small_nat hk.2.1
    obtain ⟨e1, b1⟩ := small_nat hk.2.2
    exact ⟨2, [x0, x1], .yearly x0.toNat x1.toNat, rfl, by decide, rfl, _, _, by rw [← e0, ← e1], ⟨b0, b1⟩, rfl⟩
  | 3, _ =>
    obtain ⟨la, lr⟩ := pick (n := 1) (k := 0) rfl
    obtain ⟨x0, a, rfl, la0⟩ := len_succ la
    obtain rfl := len0 la0
    obtain rfl := len0 lr
    have hk : (true && (decide (-2147483648 ≤ x0) && decide (x0 ≤ 2147483647))) = true := hk
    simp only [Bool.true_and, Bool.and_true, Bool.and_eq_true, decide_eq_true_eq] at hk
    exact ⟨3, [x0], .easters x0, rfl, by decide, rfl, x0, rfl, hk, rfl⟩
  | 4, _ =>
    obtain ⟨la, lr⟩ := pick (n := 3) (k := 0) rfl
    obtain ⟨x0, a, rfl, la0⟩ := len_succ la
    obtain ⟨x1, a, rfl, la1⟩ := len_succ la0
    obtain ⟨x2, a, rfl, la2⟩ := len_succ la1
    obtain rfl := len0 la2
    obtain rfl := len0 lr
    have hk : (true && (small 4 && (small x0 && (small x1 && (small x2 && true))))) = true := hk
    simp only [Bool.true_and, Bool.and_true, Bool.and_eq_true] at hk
    obtain ⟨e0, b0⟩ := small_nat hk.2.1
    obtain ⟨e1, b1⟩ := small_nat hk.2.2.1
    obtain ⟨e2, b2⟩ := small_nat hk.2.2.2
    exact ⟨4, [x0, x1, x2], .closed ⟨x0.toNat, x1.toNat, x2.toNat⟩, rfl, by decide, rfl, _, _, _, by rw [← e0, ← e1, ← e2], ⟨b0, b1, b2⟩, rfl⟩
  | 5, _ =>
    obtain ⟨la, lr⟩ := pick (n := 3) (k := 0) rfl
    obtain ⟨x0, a, rfl, la0⟩ := len_succ la
    obtain ⟨x1, a, rfl, la1⟩ := len_succ la0
    obtain ⟨x2, a, rfl, la2⟩ := len_succ la1
    obtain rfl := len0 la2
    obtain rfl := len0 lr
    have hk : (true && (small x0 && (decide (x0 ≤ 1) && (small x1 && small x2)))) = true := hk
    simp only [Bool.true_and, Bool.and_true, Bool.and_eq_true, decide_eq_true_eq] at hk
    obtain ⟨e0, b0⟩ := small_nat hk.1
    obtain ⟨e1, b1⟩ := small_nat hk.2.2.1
    obtain ⟨e2, b2⟩ := small_nat hk.2.2.2
    refine ⟨5, [x0, x1, x2], .way ⟨Sx57Neutral.yes x0, x1.toNat, x2.toNat⟩, rfl, by decide, rfl, _, _, _, ?_, ⟨b1, b2⟩, rfl⟩
    rw [← e1, ← e2]
    have := small_iff.mp hk.1
    have : x0 = 0 ∨ x0 = 1 := by omega
    rcases this with rfl | rfl <;> rfl
  | 6, _ =>
    obtain ⟨la, lr⟩ := pick (n := 6) (k := 0) rfl
    obtain ⟨x0, a, rfl, la0⟩ := len_succ la
    obtain ⟨x1, a, rfl, la1⟩ := len_succ la0
    obtain ⟨x2, a, rfl, la2⟩ := len_succ la1
    obtain ⟨x3, a, rfl, la3⟩ := len_succ la2
    obtain ⟨x4, a, rfl, la4⟩ := len_succ la3
    obtain ⟨x5, a, rfl, la5⟩ := len_succ la4
    obtain rfl := len0 la5
    obtain rfl := len0 lr
    have hk : (true && (small 6 && (small x0 && (small x1 && (small x2 && (small x3 && (small x4 && (small x5 && true)))))))) = true := hk
    simp only [Bool.true_and, Bool.and_true, Bool.and_eq_true] at hk
    obtain ⟨_, k0, k1, k2, k3, k4, k5⟩ := hk
    obtain ⟨e0, b0⟩ := small_nat k0
    obtain ⟨e1, b1⟩ := small_nat k1
    obtain ⟨e2, b2⟩ := small_nat k2
    obtain ⟨e3, b3⟩ := small_nat k3
    obtain ⟨e4, b4⟩ := small_nat k4
    obtain ⟨e5, b5⟩ := small_nat k5
    exact ⟨6, [x0, x1, x2, x3, x4, x5], .halt_ ⟨x0.toNat, x1.toNat, x2.toNat⟩ ⟨x3.toNat, x4.toNat, x5.toNat⟩, rfl, by decide, rfl, _, _, _, _, _, _, by rw [← e0, ← e1, ← e2, ← e3, ← e4, ← e5], ⟨b0, b1, b2, b3, b4, b5⟩, rfl⟩
  | 7, _ =>
    obtain ⟨la, lr⟩ := pick (n := 3) (k := 0) rfl
    obtain ⟨x0, a, rfl, la0⟩ := len_succ la
    obtain ⟨x1, a, rfl, la1⟩ := len_succ la0
    obtain ⟨x2, a, rfl, la2⟩ := len_succ la1
    obtain rfl := len0 la2
    obtain rfl := len0 lr
    have hk : (true && (small 7 && (small x0 && (small x1 && (small x2 && true))))) = true := hk
    simp only [Bool.true_and, Bool.and_true, Bool.and_eq_true] at hk
    obtain ⟨e0, b0⟩ := small_nat hk.2.1
    obtain ⟨e1, b1⟩ := small_nat hk.2.2.1
    obtain ⟨e2, b2⟩ := small_nat hk.2.2.2
    exact ⟨7, [x0, x1, x2], .rest ⟨x0.toNat, x1.toNat, x2.toNat⟩, rfl, by decide, rfl, _, _, _, by rw [← e0, ← e1, ← e2], ⟨b0, b1, b2⟩, rfl⟩
  | 8, _ =>
    obtain ⟨la, lr⟩ := pick (n := 6) (k := 0) rfl
    obtain ⟨x0, a, rfl, la0⟩ := len_succ la
    obtain ⟨x1, a, rfl, la1⟩ := len_succ la0
    obtain ⟨x2, a, rfl, la2⟩ := len_succ la1
    obtain ⟨x3, a, rfl, la3⟩ := len_succ la2
    obtain ⟨x4, a, rfl, la4⟩ := len_succ la3
    obtain ⟨x5, a, rfl, la5⟩ := len_succ la4
    obtain rfl := len0 la5
    obtain rfl := len0 lr
    have hk : (true && (small 8 && (small x0 && (small x1 && (small x2 && (small x3 && (small x4 && (small x5 && true)))))))) = true := hk
    simp only [Bool.true_and, Bool.and_true, Bool.and_eq_true] at hk
    obtain ⟨_, k0, k1, k2, k3, k4, k5⟩ := hk
    obtain ⟨e0, b0⟩ := small_nat k0
    obtain ⟨e1, b1⟩ := small_nat k1
    obtain ⟨e2, b2⟩ := small_nat k2
    obtain ⟨e3, b3⟩ := small_nat k3
    obtain ⟨e4, b4⟩ := small_nat k4
    obtain ⟨e5, b5⟩ := small_nat k5
    exact ⟨8, [x0, x1, x2, x3, x4, x5], .last x0.toNat ⟨x1.toNat, x2.toNat, x3.toNat⟩ x4.toNat x5.toNat, rfl, by decide, rfl, _, _, _, _, _, _, by rw [← e0, ← e1, ← e2, ← e3, ← e4, ← e5], ⟨b0, b1, b2, b3, b4, b5⟩, rfl⟩
  | 9, _ =>
    obtain ⟨la, lr⟩ := pick (n := 6) (k := 1) rfl
    obtain ⟨x0, a, rfl, la0⟩ := len_succ la
    obtain ⟨x1, a, rfl, la1⟩ := len_succ la0
    obtain ⟨x2, a, rfl, la2⟩ := len_succ la1
    obtain ⟨x3, a, rfl, la3⟩ := len_succ la2
    obtain ⟨x4, a, rfl, la4⟩ := len_succ la3
    obtain ⟨x5, a, rfl, la5⟩ := len_succ la4
    obtain rfl := len0 la5
    obtain ⟨r, t, rfl, lr0⟩ := len_succ lr
    obtain rfl := len0 lr0
    have hk : (((Sx57Neutral.datesIn r).map (Call.anew x0.toNat (Sx57Neutral.date x1 x2 x3) x4.toNat x5.toNat)).isSome && ((small x0 && (small x1 && (small x2 && (small x3 && (small x4 && (small x5 && r.all small)))))) && decide ((x0 :: x1 :: x2 :: x3 :: x4 :: x5 :: r).length ≤ 66))) = true := hk
    simp only [Bool.and_eq_true, decide_eq_true_eq] at hk
    obtain ⟨hd, ⟨k0, k1, k2, k3, k4, k5, kr⟩, kl⟩ := hk
    obtain ⟨e0, b0⟩ := small_nat k0
    obtain ⟨e1, b1⟩ := small_nat k1
    obtain ⟨e2, b2⟩ := small_nat k2
    obtain ⟨e3, b3⟩ := small_nat k3
    obtain ⟨e4, b4⟩ := small_nat k4
    obtain ⟨e5, b5⟩ := small_nat k5
    cases ed : Sx57Neutral.datesIn r with
    | none =>
      rw [ed] at hd
      cases hd
    | some ds =>
      obtain ⟨f1, f2, f3⟩ := datesIn_flat ed kr
      have kl : r.length + 1 + 1 + 1 + 1 + 1 + 1 ≤ 66 := kl
      refine ⟨9, [x0, x1, x2, x3, x4, x5] ++ (r.length : Int) :: r, .anew x0.toNat ⟨x1.toNat, x2.toNat, x3.toNat⟩ x4.toNat x5.toNat ds, ?_, by decide, ?_, _, _, _, _, _, _, ds, ?_, ⟨b0, b1, b2, b3, b4, b5⟩, by omega, f3, rfl⟩
      · show nI 9 :: ([x0, x1, x2, x3, x4, x5] ++ ((r.length : Int) :: r ++ [])) = _
        simp
      · show (Sx57Neutral.datesIn r).map _ = _
        rw [ed]
        rfl
      · rw [← e0, ← e1, ← e2, ← e3, ← e4, ← e5, ← f1, f2]
        rfl
  | 10, _ =>
    obtain ⟨la, lr⟩ := pick (n := 6) (k := 0) rfl
    obtain ⟨x0, a, rfl, la0⟩ := len_succ la
    obtain ⟨x1, a, rfl, la1⟩ := len_succ la0
    obtain ⟨x2, a, rfl, la2⟩ := len_succ la1
    obtain ⟨x3, a, rfl, la3⟩ := len_succ la2
    obtain ⟨x4, a, rfl, la4⟩ := len_succ la3
    obtain ⟨x5, a, rfl, la5⟩ := len_succ la4
    obtain rfl := len0 la5
    obtain rfl := len0 lr
    have hk : (true && (small 10 && (small x0 && (small x1 && (small x2 && (small x3 && (small x4 && (small x5 && true)))))))) = true := hk
    simp only [Bool.true_and, Bool.and_true, Bool.and_eq_true] at hk
    obtain ⟨_, k0, k1, k2, k3, k4, k5⟩ := hk
    obtain ⟨e0, b0⟩ := small_nat k0
    obtain ⟨e1, b1⟩ := small_nat k1
    obtain ⟨e2, b2⟩ := small_nat k2
    obtain ⟨e3, b3⟩ := small_nat k3
    obtain ⟨e4, b4⟩ := small_nat k4
    obtain ⟨e5, b5⟩ := small_nat k5
    exact ⟨10, [x0, x1, x2, x3, x4, x5], .latest x0.toNat ⟨x1.toNat, x2.toNat, x3.toNat⟩ x4.toNat x5.toNat, rfl, by decide, rfl, _, _, _, _, _, _, by rw [← e0, ← e1, ← e2, ← e3, ← e4, ← e5], ⟨b0, b1, b2, b3, b4, b5⟩, rfl⟩
  | 11, _ =>
    obtain ⟨la, lr⟩ := pick (n := 8) (k := 0) rfl
    obtain ⟨x0, a, rfl, la0⟩ := len_succ la
    obtain ⟨x1, a, rfl, la1⟩ := len_succ la0
    obtain ⟨x2, a, rfl, la2⟩ := len_succ la1
    obtain ⟨x3, a, rfl, la3⟩ := len_succ la2
    obtain ⟨x4, a, rfl, la4⟩ := len_succ la3
    obtain ⟨x5, a, rfl, la5⟩ := len_succ la4
    obtain ⟨x6, a, rfl, la6⟩ := len_succ la5
    obtain ⟨x7, a, rfl, la7⟩ := len_succ la6
    obtain rfl := len0 la7
    obtain rfl := len0 lr
    have hk : (true && (small 11 && (small x0 && (small x1 && (small x2 && (small x3 && (small x4 && (small x5 && (small x6 && (small x7 && true)))))))))) = true := hk
    simp only [Bool.true_and, Bool.and_true, Bool.and_eq_true] at hk
    obtain ⟨_, k0, k1, k2, k3, k4, k5, k6, k7⟩ := hk
    obtain ⟨e0, b0⟩ := small_nat k0
    obtain ⟨e1, b1⟩ := small_nat k1
    obtain ⟨e2, b2⟩ := small_nat k2
    obtain ⟨e3, b3⟩ := small_nat k3
    obtain ⟨e4, b4⟩ := small_nat k4
    obtain ⟨e5, b5⟩ := small_nat k5
    obtain ⟨e6, b6⟩ := small_nat k6
    obtain ⟨e7, b7⟩ := small_nat k7
    exact ⟨11, [x0, x1, x2, x3, x4, x5, x6, x7], .inTime ⟨x0.toNat, x1.toNat, x2.toNat⟩ ⟨x3.toNat, x4.toNat, x5.toNat⟩ x6.toNat x7.toNat, rfl, by decide, rfl, _, _, _, _, _, _, _, _, by rw [← e0, ← e1, ← e2, ← e3, ← e4, ← e5, ← e6, ← e7], ⟨b0, b1, b2, b3, b4, b5, b6, b7⟩, rfl⟩
  | 12, _ =>
    obtain ⟨la, lr⟩ := pick (n := 7) (k := 0) rfl
    obtain ⟨x0, a, rfl, la0⟩ := len_succ la
    obtain ⟨x1, a, rfl, la1⟩ := len_succ la0
    obtain ⟨x2, a, rfl, la2⟩ := len_succ la1
    obtain ⟨x3, a, rfl, la3⟩ := len_succ la2
    obtain ⟨x4, a, rfl, la4⟩ := len_succ la3
    obtain ⟨x5, a, rfl, la5⟩ := len_succ la4
    obtain ⟨x6, a, rfl, la6⟩ := len_succ la5
    obtain rfl := len0 la6
    obtain rfl := len0 lr
    have hk : (true && (small 12 && (small x0 && (small x1 && (small x2 && (small x3 && (small x4 && (small x5 && (small x6 && true))))))))) = true := hk
    simp only [Bool.true_and, Bool.and_true, Bool.and_eq_true] at hk
    obtain ⟨_, k0, k1, k2, k3, k4, k5, k6⟩ := hk
    obtain ⟨e0, b0⟩ := small_nat k0
    obtain ⟨e1, b1⟩ := small_nat k1
    obtain ⟨e2, b2⟩ := small_nat k2
    obtain ⟨e3, b3⟩ := small_nat k3
    obtain ⟨e4, b4⟩ := small_nat k4
    obtain ⟨e5, b5⟩ := small_nat k5
    obtain ⟨e6, b6⟩ := small_nat k6
    exact ⟨12, [x0, x1, x2, x3, x4, x5, x6], .between x0.toNat ⟨x1.toNat, x2.toNat, x3.toNat⟩ ⟨x4.toNat, x5.toNat, x6.toNat⟩, rfl, by decide, rfl, _, _, _, _, _, _, _, by rw [← e0, ← e1, ← e2, ← e3, ← e4, ← e5, ← e6], ⟨b0, b1, b2, b3, b4, b5, b6⟩, rfl⟩
  | 13, _ =>
    obtain ⟨la, lr⟩ := pick (n := 6) (k := 0) rfl
    obtain ⟨x0, a, rfl, la0⟩ := len_succ la
    obtain ⟨x1, a, rfl, la1⟩ := len_succ la0
    obtain ⟨x2, a, rfl, la2⟩ := len_succ la1
    obtain ⟨x3, a, rfl, la3⟩ := len_succ la2
    obtain ⟨x4, a, rfl, la4⟩ := len_succ la3
    obtain ⟨x5, a, rfl, la5⟩ := len_succ la4
    obtain rfl := len0 la5
    obtain rfl := len0 lr
    have hk : (true && (small 13 && (small x0 && (small x1 && (small x2 && (small x3 && (small x4 && (small x5 && true)))))))) = true := hk
    simp only [Bool.true_and, Bool.and_true, Bool.and_eq_true] at hk
    obtain ⟨_, k0, k1, k2, k3, k4, k5⟩ := hk
    obtain ⟨e0, b0⟩ := small_nat k0
    obtain ⟨e1, b1⟩ := small_nat k1
    obtain ⟨e2, b2⟩ := small_nat k2
    obtain ⟨e3, b3⟩ := small_nat k3
    obtain ⟨e4, b4⟩ := small_nat k4
    obtain ⟨e5, b5⟩ := small_nat k5
    exact ⟨13, [x0, x1, x2, x3, x4, x5], .working ⟨x0.toNat, x1.toNat, x2.toNat⟩ ⟨x3.toNat, x4.toNat, x5.toNat⟩, rfl, by decide, rfl, _, _, _, _, _, _, by rw [← e0, ← e1, ← e2, ← e3, ← e4, ← e5], ⟨b0, b1, b2, b3, b4, b5⟩, rfl⟩
  | 14, _ =>
    obtain ⟨la, lr⟩ := pick (n := 1) (k := 0) rfl
    obtain ⟨x0, a, rfl, la0⟩ := len_succ la
    obtain rfl := len0 la0
    obtain rfl := len0 lr
    have hk : (true && (small 14 && (small x0 && true))) = true := hk
    simp only [Bool.true_and, Bool.and_true, Bool.and_eq_true] at hk
    obtain ⟨e0, b0⟩ := small_nat hk.2
    exact ⟨14, [x0], .easter x0.toNat, rfl, by decide, rfl, _, by rw [← e0], b0, rfl⟩
end Dc
end
section
set_option Elab.async false
set_option linter.all false
set_option maxRecDepth 100000
set_option maxHeartbeats 2000000
/-! The calls one behind another: the specification's answers grow by one call's. -/
namespace Dc
open Sx57 (Call Date Way)
/-- what holds of every calendar that calls have made -/
structure Okst (st : Sx57.St) : Prop where
  wl : st.rests.week.length ≤ 6
  yl : st.rests.years.length ≤ 40
  el : st.rests.easters.length ≤ 40
  dl : st.rests.days.length ≤ 40
  al : st.ways.length ≤ 8
  sl : st.stops.length ≤ 20
  so : ∀ x ∈ st.stops, x.1 ≤ x.2 ∧ x.2 < Sx57.DAYS
  rise : st.stops.Pairwise fun x z => x.2 < z.1
  wr : ∀ w ∈ st.ways, w.rest ≤ 3 ∧ w.month ≤ 2
  er : ∀ k ∈ st.rests.easters, -60 ≤ k ∧ k ≤ 60
theorem okst_init : Okst Sx57.init := ⟨by decide, by decide, by decide, by decide, by decide, by decide, fun x h => (by cases h), .nil, fun x h => (by cases h), fun x h => (by cases h)⟩
theorem mem_snoc {A : Type} {l : List A} {x z : A} (h : z ∈ l ++ [x]) : z ∈ l ∨ z = x := by
  rcases List.mem_append.mp h with h | h
  · exact .inl h
  · exact .inr (List.mem_singleton.mp h)
theorem okst_step {st : Sx57.St} (O : Okst st) (c : Call) : Okst (Sx57.step st c).1 := by
  cases c with
  | begins => exact okst_init
  | week l =>
    show Okst (if _ = false then (st, _) else (_, _)).1
    split
    · exact O
    · rename_i h
      simp only [Bool.not_eq_false, Bool.and_eq_true, decide_eq_true_eq] at h
      exact ⟨h.2.1, O.yl, O.el, O.dl, O.al, O.sl, O.so, O.rise, O.wr, O.er⟩
  | yearly m d =>
    show Okst (if _ then (st, _) else if Sx57.RESTS ≤ _ then (st, _) else (_, _)).1
    split
    · exact O
    · split
      · exact O
      · rename_i h
        have h : ¬ 40 ≤ st.rests.years.length := h
        exact ⟨O.wl, by show (st.rests.years ++ [(m, d)]).length ≤ 40; rw [List.length_append]; show _ + 1 ≤ 40; omega, O.el, O.dl, O.al, O.sl, O.so, O.rise, O.wr, O.er⟩
  | easters k =>
    show Okst (if _ then (st, _) else if Sx57.RESTS ≤ _ then (st, _) else (_, _)).1
    split
    · exact O
    · split
      · exact O
      · rename_i h0 h
        have h : ¬ 40 ≤ st.rests.easters.length := h
        refine ⟨O.wl, O.yl, by show (st.rests.easters ++ [k]).length ≤ 40; rw [List.length_append]; show _ + 1 ≤ 40; omega, O.dl, O.al, O.sl, O.so, O.rise, O.wr, fun z hz => ?_⟩
        rcases mem_snoc hz with hz | rfl
        · exact O.er z hz
        · omega
  | closed x =>
    show Okst (if _ = false then (st, _) else if Sx57.RESTS ≤ _ then (st, _) else (_, _)).1
    split
    · exact O
    · split
      · exact O
      · rename_i h
        have h : ¬ 40 ≤ st.rests.days.length := h
        exact ⟨O.wl, O.yl, O.el, by show (st.rests.days ++ [Sx57.dayOf x]).length ≤ 40; rw [List.length_append]; show _ + 1 ≤ 40; omega, O.al, O.sl, O.so, O.rise, O.wr, O.er⟩
  | way w =>
    show Okst (if _ then (st, _) else if Sx57.WAYS ≤ _ then (st, _) else (_, _)).1
    split
    · exact O
    · split
      · exact O
      · rename_i h1 h
        have h : ¬ 8 ≤ st.ways.length := h
        refine ⟨O.wl, O.yl, O.el, O.dl, by show (st.ways ++ [w]).length ≤ 8; rw [List.length_append]; show _ + 1 ≤ 8; omega, O.sl, O.so, O.rise, fun z hz => ?_, O.er⟩
        rcases mem_snoc hz with hz | rfl
        · exact O.wr z hz
        · omega
  | halt_ a b =>
    show Okst (if _ = false then (st, _) else if _ then (st, _) else if Sx57.STOPS ≤ _ then (st, _) else (_, _)).1
    split
    · exact O
    · rename_i h0
      split
      · exact O
      · split
        · exact O
        · rename_i h1 h
          have h : ¬ 20 ≤ st.stops.length := h
          simp only [Bool.not_eq_false, Bool.and_eq_true] at h0
          obtain ⟨g2, y2⟩ := Cal.good_of h0.2
          refine ⟨O.wl, O.yl, O.el, O.dl, O.al, by show (st.stops ++ [(Sx57.dayOf a, Sx57.dayOf b)]).length ≤ 20; rw [List.length_append]; show _ + 1 ≤ 20; omega, fun z hz => ?_, ?_, O.wr, O.er⟩
          · rcases mem_snoc hz with hz | rfl
            · exact O.so z hz
            · exact ⟨by omega, (Cal.day_lt_DAYS g2).mpr y2⟩
          · show (st.stops ++ [(Sx57.dayOf a, Sx57.dayOf b)]).Pairwise fun x z => x.2 < z.1
            rw [List.pairwise_append]
            refine ⟨O.rise, by simp, fun x hx z hz => ?_⟩
            have ez := List.mem_singleton.mp hz
            subst ez
            show x.2 < Sx57.dayOf a
            by_cases q : Sx57.dayOf a ≤ x.2
            · exfalso
              exact h1 (.inr (List.any_eq_true.mpr ⟨x, hx, decide_eq_true q⟩))
            · omega
  | rest x => exact O
  | last w x u k => exact O
  | anew w x u k l => exact O
  | latest w x u k => exact O
  | inTime x y u k => exact O
  | between w x y => exact O
  | working x y => exact O
  | easter y => exact O
/-! ### played, told -/
abbrev CL := List (List Int)
def ran (s : Sx57.St) : List CL → Sx57.St
  | [] => s
  | c :: r => ran (Sx57Neutral.step s c).1 r
theorem ran_snoc (c : CL) : ∀ (l : List CL) (s : Sx57.St), ran s (l ++ [c]) = (Sx57Neutral.step (ran s l) c).1
  | [], s => rfl
  | x :: l, s => ran_snoc c l _
theorem played_snoc (c : CL) : ∀ (l : List CL) (s : Sx57.St), PyFlat.played Sx57Neutral.step s (l ++ [c]) = PyFlat.played Sx57Neutral.step s l ++ [(Sx57Neutral.step (ran s l) c).2]
  | [], s => rfl
  | x :: l, s => by
    show _ :: PyFlat.played Sx57Neutral.step _ (l ++ [c]) = _ :: (PyFlat.played Sx57Neutral.step _ l ++ _)
    rw [played_snoc c l]
    rfl
theorem told_append (a b : List (List Int)) : PyFlat.told (a ++ b) = PyFlat.told a ++ PyFlat.told b := by
  unfold PyFlat.told
  rw [List.flatMap_append]
theorem told_one (a : List Int) : PyFlat.told [a] = (a.length : Int) :: a := by
  show ((a.length : Int) :: a) ++ [] = _
  rw [List.append_nil]
theorem told_len : ∀ l : List (List Int), (PyFlat.told l).length = (l.map fun a => a.length).sum + l.length
  | [] => rfl
  | a :: l => by
    show (((a.length : Int) :: a) ++ PyFlat.told l).length = _
    rw [List.length_append, told_len l, List.map_cons, List.sum_cons, List.length_cons, List.length_cons]
    omega
theorem answers_played : ∀ (l : List CL) (s : Sx57.St), Sx57Neutral.answers s l = PyFlat.played Sx57Neutral.step s l
  | [], s => rfl
  | c :: l, s => by
    show (Sx57Neutral.step s c).2 :: Sx57Neutral.answers _ l = (Sx57Neutral.step s c).2 :: PyFlat.played Sx57Neutral.step _ l
    rw [answers_played l]
theorem played_len : ∀ (l : List CL) (s : Sx57.St), (PyFlat.played Sx57Neutral.step s l).length = l.length
  | [], s => rfl
  | c :: l, s => by
    show (PyFlat.played Sx57Neutral.step _ l).length + 1 = l.length + 1
    rw [played_len l]
/-- the answers so far -/
def soFar (cs : List CL) : List Int := PyFlat.told (PyFlat.played Sx57Neutral.step Sx57Neutral.start (cs.map PySx57.whole))
def stateOf (cs : List CL) : Sx57.St := ran Sx57Neutral.start (cs.map PySx57.whole)
theorem soFar_nil : soFar [] = [] := rfl
theorem stateOf_nil : stateOf [] = Sx57.init := rfl
theorem step_call {s : Sx57.St} {c : CL} {x : Call} (h : Sx57Neutral.callOf (c.headD []) = some x) : Sx57Neutral.step s c = ((Sx57.step s x).1, (Sx57.step s x).2.v :: (Sx57.step s x).2.l) := by
  unfold Sx57Neutral.step
  rw [h]
theorem stateOf_snoc {cs : List CL} {c : CL} {x : Call} (h : Sx57Neutral.callOf ((PySx57.whole c).headD []) = some x) : stateOf (cs ++ [c]) = (Sx57.step (stateOf cs) x).1 := by
  unfold stateOf
  rw [List.map_append, List.map_singleton, ran_snoc, step_call h]
theorem soFar_snoc {cs : List CL} {c : CL} {x : Call} (h : Sx57Neutral.callOf ((PySx57.whole c).headD []) = some x) :
    soFar (cs ++ [c]) = soFar cs ++ (((Sx57.step (stateOf cs) x).2.l.length + 1 : Nat) : Int) :: (Sx57.step (stateOf cs) x).2.v :: (Sx57.step (stateOf cs) x).2.l := by
  unfold soFar stateOf
  rw [List.map_append, List.map_singleton, played_snoc, told_append, told_one, step_call h]
  rfl
theorem put_append : ∀ a b : List CL, PyFlat.put (a ++ b) = PyFlat.put a ++ PyFlat.put b
  | [], b => rfl
  | c :: a, b => by
    show PyFlat.put1 c ++ PyFlat.put (a ++ b) = (PyFlat.put1 c ++ PyFlat.put a) ++ PyFlat.put b
    rw [put_append a b, List.append_assoc]
theorem soFar_mono (a b : List CL) : (soFar a).length ≤ (soFar (a ++ b)).length := by
  have key : ∀ (x y : List CL) (s : Sx57.St), (PyFlat.told (PyFlat.played Sx57Neutral.step s x)).length ≤ (PyFlat.told (PyFlat.played Sx57Neutral.step s (x ++ y))).length := by
    intro x
    induction x with
    | nil => intro y s; exact Nat.zero_le _
    | cons c x ih =>
      intro y s
      show (((Sx57Neutral.step s c).2.length : Int) :: (Sx57Neutral.step s c).2 ++ PyFlat.told (PyFlat.played Sx57Neutral.step _ x)).length ≤ (((Sx57Neutral.step s c).2.length : Int) :: (Sx57Neutral.step s c).2 ++ PyFlat.told (PyFlat.played Sx57Neutral.step _ (x ++ y))).length
      rw [List.length_append, List.length_append]
      have := ih y (Sx57Neutral.step s c).1
      omega
  unfold soFar
  rw [List.map_append]
  exact key _ _ _
/-- **what may be asked, call by call** -/
theorem asked_calls {l : List Int} (h : PySx57.answers_asked l = true) : ∃ cs : List CL, l = PyFlat.put cs ∧ (∀ c ∈ cs, PyFlat.okCall PySx57.shape c ∧ Sx57Neutral.asked1 ((PySx57.whole c).headD []) = true) ∧ PySx57.answers l = soFar cs ∧ (soFar cs).length ≤ 1000100 := by
  unfold PySx57.answers_asked at h
  unfold PySx57.answers
  unfold PySx57.calls at h ⊢
  cases e : PyFlat.calls PySx57.shape l.length l with
  | none => rw [e] at h; cases h
  | some cs =>
    rw [e] at h
    have h : (PyFlat.atMost 100 (cs.map PySx57.whole) && Sx57Neutral.asked (cs.map PySx57.whole)) = true := h
    rw [Bool.and_eq_true] at h
    obtain ⟨h1, h2⟩ := h
    have h1 : (cs.map PySx57.whole).length ≤ 100 := of_decide_eq_true h1
    unfold Sx57Neutral.asked at h2
    simp only [Bool.and_eq_true, decide_eq_true_eq] at h2
    obtain ⟨_, _, h3, h4⟩ := h2
    obtain ⟨e1, e2⟩ := PyFlat.put_calls _ _ _ e
    refine ⟨cs, e1, fun c hc => ⟨e2 c hc, ?_⟩, rfl, ?_⟩
    · have := List.all_eq_true.mp h3 (PySx57.whole c) (List.mem_map_of_mem hc)
      rw [Bool.and_eq_true] at this
      exact this.2
    · unfold soFar
      rw [told_len, played_len]
      rw [answers_played] at h4
      omega
end Dc
end
section
set_option Elab.async false
set_option linter.all false
set_option maxRecDepth 100000
set_option maxHeartbeats 2000000
namespace Dc
open PySem PySem.Spec PyProof.Rows L2
def top (i : Nat) : Stmt := PySem.Challenge.pw_daycounts_s01_answers.main.body.getD i (.Pass ⟨0, 0, 0, 0⟩)
abbrev s_is_leap : Stmt := top 11
abbrev s_month_length : Stmt := top 12
abbrev s_has_day : Stmt := top 13
abbrev s_is_year : Stmt := top 14
abbrev s_is_date : Stmt := top 15
abbrev s_days_before_year : Stmt := top 16
abbrev s_day_number : Stmt := top 17
abbrev s_year_of : Stmt := top 18
abbrev s_date_of : Stmt := top 19
abbrev s_months_of : Stmt := top 20
abbrev s_months_behind : Stmt := top 21
abbrev s_whole_months : Stmt := top 22
abbrev s_weekday : Stmt := top 23
abbrev s_easter : Stmt := top 24
abbrev s_Almanac_init : Stmt := inClass (top 26) 0
abbrev s_Almanac_rest_flags : Stmt := inClass (top 26) 1
abbrev s_Almanac_find_rest_flags : Stmt := inClass (top 26) 2
abbrev s_Almanac_rests : Stmt := inClass (top 26) 3
abbrev s_Almanac_working_days : Stmt := inClass (top 26) 4
abbrev s_Book_init : Stmt := inClass (top 28) 0
abbrev s_Book_forget_all : Stmt := inClass (top 28) 1
abbrev s_Book_is_behind_stops : Stmt := inClass (top 28) 2
abbrev s_Span_init : Stmt := inClass (top 42) 0
abbrev s_Span_first_day : Stmt := inClass (top 42) 1
abbrev s_Span_plain_end : Stmt := inClass (top 42) 2
abbrev s_Span_least_length : Stmt := inClass (top 42) 3
abbrev s_put_off : Stmt := top 43
abbrev s_next_open : Stmt := top 44
abbrev s_last_open : Stmt := top 45
abbrev s_moved_off_rest : Stmt := top 46
abbrev s_years_from : Stmt := top 47
abbrev s_last_working_day : Stmt := top 48
abbrev s_count_working_days : Stmt := top 49
abbrev s_last_day : Stmt := top 50
abbrev s_last_day_anew : Stmt := top 51
abbrev s_latest_event : Stmt := top 52
abbrev s_is_in_time : Stmt := top 53
abbrev s_begins : Stmt := top 71
abbrev s_are_weekdays : Stmt := top 72
abbrev s_week : Stmt := top 73
abbrev s_add_day : Stmt := top 74
abbrev s_yearly : Stmt := top 75
abbrev s_easters : Stmt := top 76
abbrev s_closed : Stmt := top 77
abbrev s_way : Stmt := top 78
abbrev s_stop : Stmt := top 79
abbrev s_rest : Stmt := top 80
abbrev s_is_span : Stmt := top 81
abbrev s_refused_span : Stmt := top 82
abbrev s_span_of : Stmt := top 83
abbrev s_told_day : Stmt := top 84
abbrev s_last : Stmt := top 85
abbrev s_in_dates : Stmt := top 86
abbrev s_are_dates : Stmt := top 87
abbrev s_do_rise : Stmt := top 88
abbrev s_anew : Stmt := top 89
abbrev s_latest : Stmt := top 90
abbrev s_in_time : Stmt := top 91
abbrev s_between : Stmt := top 92
abbrev s_working : Stmt := top 93
abbrev s_easter_date : Stmt := top 94
abbrev s_end_of_call : Stmt := top 98
abbrev s_answers : Stmt := top 99
theorem sc_is_leap : FnScope ["year"] ["year"] (defScope s_is_leap) := ⟨rfl, rfl, rfl, by decide +kernel, rfl, by decide +kernel, by decide +kernel⟩
theorem sc_month_length : FnScope ["year", "month"] ["year", "month"] (defScope s_month_length) := ⟨rfl, rfl, rfl, by decide +kernel, rfl, by decide +kernel, by decide +kernel⟩
theorem sc_has_day : FnScope ["year", "month", "day"] ["year", "month", "day"] (defScope s_has_day) := ⟨rfl, rfl, rfl, by decide +kernel, rfl, by decide +kernel, by decide +kernel⟩
theorem sc_is_year : FnScope ["year"] ["year"] (defScope s_is_year) := ⟨rfl, rfl, rfl, by decide +kernel, rfl, by decide +kernel, by decide +kernel⟩
theorem sc_is_date : FnScope ["date"] ["date"] (defScope s_is_date) := ⟨rfl, rfl, rfl, by decide +kernel, rfl, by decide +kernel, by decide +kernel⟩
theorem sc_days_before_year : FnScope ["year", "past", "leaps"] ["year"] (defScope s_days_before_year) := ⟨rfl, rfl, rfl, by decide +kernel, rfl, by decide +kernel, by decide +kernel⟩
theorem sc_day_number : FnScope ["date", "number", "month"] ["date"] (defScope s_day_number) := ⟨rfl, rfl, rfl, by decide +kernel, rfl, by decide +kernel, by decide +kernel⟩
theorem sc_year_of : FnScope ["number", "year"] ["number"] (defScope s_year_of) := ⟨rfl, rfl, rfl, by decide +kernel, rfl, by decide +kernel, by decide +kernel⟩
theorem sc_date_of : FnScope ["number", "year", "month", "day"] ["number"] (defScope s_date_of) := ⟨rfl, rfl, rfl, by decide +kernel, rfl, by decide +kernel, by decide +kernel⟩
theorem sc_months_of : FnScope ["date"] ["date"] (defScope s_months_of) := ⟨rfl, rfl, rfl, by decide +kernel, rfl, by decide +kernel, by decide +kernel⟩
theorem sc_months_behind : FnScope ["number", "months", "rule", "date", "past", "year", "month", "final"] ["number", "months", "rule"] (defScope s_months_behind) := ⟨rfl, rfl, rfl, by decide +kernel, rfl, by decide +kernel, by decide +kernel⟩
theorem sc_whole_months : FnScope ["first", "second", "rule", "months"] ["first", "second", "rule"] (defScope s_whole_months) := ⟨rfl, rfl, rfl, by decide +kernel, rfl, by decide +kernel, by decide +kernel⟩
theorem sc_weekday : FnScope ["number"] ["number"] (defScope s_weekday) := ⟨rfl, rfl, rfl, by decide +kernel, rfl, by decide +kernel, by decide +kernel⟩
theorem sc_easter : FnScope ["year", "a", "b", "c", "h", "l", "m", "n"] ["year"] (defScope s_easter) := ⟨rfl, rfl, rfl, by decide +kernel, rfl, by decide +kernel, by decide +kernel⟩
theorem sc_Almanac_init : FnScope ["self", "book", "stops"] ["self", "book", "stops"] (defScope s_Almanac_init) := ⟨rfl, rfl, rfl, by decide +kernel, rfl, by decide +kernel, by decide +kernel⟩
theorem sc_Almanac_rest_flags : FnScope ["self", "year"] ["self", "year"] (defScope s_Almanac_rest_flags) := ⟨rfl, rfl, rfl, by decide +kernel, rfl, by decide +kernel, by decide +kernel⟩
theorem sc_Almanac_find_rest_flags : FnScope ["self", "year", "start", "behind", "number", "flags", "told", "feast", "days"] ["self", "year"] (defScope s_Almanac_find_rest_flags) := ⟨rfl, rfl, rfl, by decide +kernel, rfl, by decide +kernel, by decide +kernel⟩
theorem sc_Almanac_rests : FnScope ["self", "number", "year"] ["self", "number"] (defScope s_Almanac_rests) := ⟨rfl, rfl, rfl, by decide +kernel, rfl, by decide +kernel, by decide +kernel⟩
theorem sc_Almanac_working_days : FnScope ["self", "year", "first", "final", "start", "idle", "told", "number", "place"] ["self", "year", "first", "final"] (defScope s_Almanac_working_days) := ⟨rfl, rfl, rfl, by decide +kernel, rfl, by decide +kernel, by decide +kernel⟩
theorem sc_Book_init : FnScope ["self"] ["self"] (defScope s_Book_init) := ⟨rfl, rfl, rfl, by decide +kernel, rfl, by decide +kernel, by decide +kernel⟩
theorem sc_Book_forget_all : FnScope ["self"] ["self"] (defScope s_Book_forget_all) := ⟨rfl, rfl, rfl, by decide +kernel, rfl, by decide +kernel, by decide +kernel⟩
theorem sc_Book_is_behind_stops : FnScope ["self", "number"] ["self", "number"] (defScope s_Book_is_behind_stops) := ⟨rfl, rfl, rfl, by decide +kernel, rfl, by decide +kernel, by decide +kernel⟩
theorem sc_Span_init : FnScope ["self", "way", "unit", "number"] ["self", "way", "unit", "number"] (defScope s_Span_init) := ⟨rfl, rfl, rfl, by decide +kernel, rfl, by decide +kernel, by decide +kernel⟩
theorem sc_Span_first_day : FnScope ["self", "event"] ["self", "event"] (defScope s_Span_first_day) := ⟨rfl, rfl, rfl, by decide +kernel, rfl, by decide +kernel, by decide +kernel⟩
theorem sc_Span_plain_end : FnScope ["self", "event", "months"] ["self", "event"] (defScope s_Span_plain_end) := ⟨rfl, rfl, rfl, by decide +kernel, rfl, by decide +kernel, by decide +kernel⟩
theorem sc_Span_least_length : FnScope ["self"] ["self"] (defScope s_Span_least_length) := ⟨rfl, rfl, rfl, by decide +kernel, rfl, by decide +kernel, by decide +kernel⟩
theorem sc_put_off : FnScope ["stops", "first", "plain", "end", "told"] ["stops", "first", "plain"] (defScope s_put_off) := ⟨rfl, rfl, rfl, by decide +kernel, rfl, by decide +kernel, by decide +kernel⟩
theorem sc_next_open : FnScope ["almanac", "number", "day"] ["almanac", "number"] (defScope s_next_open) := ⟨rfl, rfl, rfl, by decide +kernel, rfl, by decide +kernel, by decide +kernel⟩
theorem sc_last_open : FnScope ["almanac", "number", "day"] ["almanac", "number"] (defScope s_last_open) := ⟨rfl, rfl, rfl, by decide +kernel, rfl, by decide +kernel, by decide +kernel⟩
theorem sc_moved_off_rest : FnScope ["almanac", "end", "rule", "found"] ["almanac", "end", "rule"] (defScope s_moved_off_rest) := ⟨rfl, rfl, rfl, by decide +kernel, rfl, by decide +kernel, by decide +kernel⟩
theorem sc_years_from : FnScope ["first", "final"] ["first", "final"] (defScope s_years_from) := ⟨rfl, rfl, rfl, by decide +kernel, rfl, by decide +kernel, by decide +kernel⟩
theorem sc_last_working_day : FnScope ["almanac", "first", "number", "final", "left", "year", "days"] ["almanac", "first", "number"] (defScope s_last_working_day) := ⟨rfl, rfl, rfl, by decide +kernel, rfl, by decide +kernel, by decide +kernel⟩
theorem sc_count_working_days : FnScope ["almanac", "first", "final", "year"] ["almanac", "first", "final"] (defScope s_count_working_days) := ⟨rfl, rfl, rfl, by decide +kernel, rfl, by decide +kernel, by decide +kernel⟩
theorem sc_last_day : FnScope ["almanac", "span", "event", "first", "end"] ["almanac", "span", "event"] (defScope s_last_day) := ⟨rfl, rfl, rfl, by decide +kernel, rfl, by decide +kernel, by decide +kernel⟩
theorem sc_last_day_anew : FnScope ["almanac", "span", "event", "days", "newest", "end", "day"] ["almanac", "span", "event", "days"] (defScope s_last_day_anew) := ⟨rfl, rfl, rfl, by decide +kernel, rfl, by decide +kernel, by decide +kernel⟩
theorem sc_latest_event : FnScope ["almanac", "span", "date", "start", "event", "end"] ["almanac", "span", "date"] (defScope s_latest_event) := ⟨rfl, rfl, rfl, by decide +kernel, rfl, by decide +kernel, by decide +kernel⟩
theorem sc_is_in_time : FnScope ["almanac", "span", "event", "act", "end"] ["almanac", "span", "event", "act"] (defScope s_is_in_time) := ⟨rfl, rfl, rfl, by decide +kernel, rfl, by decide +kernel, by decide +kernel⟩
theorem sc_begins : FnScope ["book", "numbers"] ["book", "numbers"] (defScope s_begins) := ⟨rfl, rfl, rfl, by decide +kernel, rfl, by decide +kernel, by decide +kernel⟩
theorem sc_are_weekdays : FnScope ["days", "before", "day"] ["days"] (defScope s_are_weekdays) := ⟨rfl, rfl, rfl, by decide +kernel, rfl, by decide +kernel, by decide +kernel⟩
theorem sc_week : FnScope ["book", "numbers", "days"] ["book", "numbers"] (defScope s_week) := ⟨rfl, rfl, rfl, by decide +kernel, rfl, by decide +kernel, by decide +kernel⟩
theorem sc_add_day : FnScope ["days", "day"] ["days", "day"] (defScope s_add_day) := ⟨rfl, rfl, rfl, by decide +kernel, rfl, by decide +kernel, by decide +kernel⟩
theorem sc_yearly : FnScope ["book", "numbers"] ["book", "numbers"] (defScope s_yearly) := ⟨rfl, rfl, rfl, by decide +kernel, rfl, by decide +kernel, by decide +kernel⟩
theorem sc_easters : FnScope ["book", "numbers"] ["book", "numbers"] (defScope s_easters) := ⟨rfl, rfl, rfl, by decide +kernel, rfl, by decide +kernel, by decide +kernel⟩
theorem sc_closed : FnScope ["book", "numbers"] ["book", "numbers"] (defScope s_closed) := ⟨rfl, rfl, rfl, by decide +kernel, rfl, by decide +kernel, by decide +kernel⟩
theorem sc_way : FnScope ["book", "numbers"] ["book", "numbers"] (defScope s_way) := ⟨rfl, rfl, rfl, by decide +kernel, rfl, by decide +kernel, by decide +kernel⟩
theorem sc_stop : FnScope ["book", "numbers", "first", "final"] ["book", "numbers"] (defScope s_stop) := ⟨rfl, rfl, rfl, by decide +kernel, rfl, by decide +kernel, by decide +kernel⟩
theorem sc_rest : FnScope ["book", "numbers", "number", "resting"] ["book", "numbers"] (defScope s_rest) := ⟨rfl, rfl, rfl, by decide +kernel, rfl, by decide +kernel, by decide +kernel⟩
theorem sc_is_span : FnScope ["unit", "number"] ["unit", "number"] (defScope s_is_span) := ⟨rfl, rfl, rfl, by decide +kernel, rfl, by decide +kernel, by decide +kernel⟩
theorem sc_refused_span : FnScope ["book", "numbers"] ["book", "numbers"] (defScope s_refused_span) := ⟨rfl, rfl, rfl, by decide +kernel, rfl, by decide +kernel, by decide +kernel⟩
theorem sc_span_of : FnScope ["book", "numbers"] ["book", "numbers"] (defScope s_span_of) := ⟨rfl, rfl, rfl, by decide +kernel, rfl, by decide +kernel, by decide +kernel⟩
theorem sc_told_day : FnScope ["number", "date"] ["number"] (defScope s_told_day) := ⟨rfl, rfl, rfl, by decide +kernel, rfl, by decide +kernel, by decide +kernel⟩
theorem sc_last : FnScope ["book", "numbers", "refused", "almanac"] ["book", "numbers"] (defScope s_last) := ⟨rfl, rfl, rfl, by decide +kernel, rfl, by decide +kernel, by decide +kernel⟩
theorem sc_in_dates : FnScope ["row", "place"] ["row"] (defScope s_in_dates) := ⟨rfl, rfl, rfl, by decide +kernel, rfl, by decide +kernel, by decide +kernel⟩
theorem sc_are_dates : FnScope ["dates", "date"] ["dates"] (defScope s_are_dates) := ⟨rfl, rfl, rfl, by decide +kernel, rfl, by decide +kernel, by decide +kernel⟩
theorem sc_do_rise : FnScope ["days", "place"] ["days"] (defScope s_do_rise) := ⟨rfl, rfl, rfl, by decide +kernel, rfl, by decide +kernel, by decide +kernel⟩
theorem sc_anew : FnScope ["book", "numbers", "dates", "refused", "days", "almanac", "date"] ["book", "numbers"] (defScope s_anew) := ⟨rfl, rfl, rfl, by decide +kernel, rfl, by decide +kernel, by decide +kernel⟩
theorem sc_latest : FnScope ["book", "numbers", "refused", "almanac"] ["book", "numbers"] (defScope s_latest) := ⟨rfl, rfl, rfl, by decide +kernel, rfl, by decide +kernel, by decide +kernel⟩
theorem sc_in_time : FnScope ["book", "numbers", "event", "act", "almanac", "found", "place", "span"] ["book", "numbers"] (defScope s_in_time) := ⟨rfl, rfl, rfl, by decide +kernel, rfl, by decide +kernel, by decide +kernel⟩
theorem sc_between : FnScope ["book", "numbers", "first", "second", "rule", "months", "left"] ["book", "numbers"] (defScope s_between) := ⟨rfl, rfl, rfl, by decide +kernel, rfl, by decide +kernel, by decide +kernel⟩
theorem sc_working : FnScope ["book", "numbers", "first", "second"] ["book", "numbers"] (defScope s_working) := ⟨rfl, rfl, rfl, by decide +kernel, rfl, by decide +kernel, by decide +kernel⟩
theorem sc_easter_date : FnScope ["book", "numbers"] ["book", "numbers"] (defScope s_easter_date) := ⟨rfl, rfl, rfl, by decide +kernel, rfl, by decide +kernel, by decide +kernel⟩
theorem sc_end_of_call : FnScope ["calls", "start", "end"] ["calls", "start"] (defScope s_end_of_call) := ⟨rfl, rfl, rfl, by decide +kernel, rfl, by decide +kernel, by decide +kernel⟩
theorem sc_answers : FnScope ["calls", "book", "answered", "start", "end", "found"] ["calls"] (defScope s_answers) := ⟨rfl, rfl, rfl, by decide +kernel, rfl, by decide +kernel, by decide +kernel⟩
/-- what the top has written -/
structure Txt (K : PySem.W.Frag) (mg : Str → Option Value) where
  g_FIRST_YEAR : ∃ t, mg "FIRST_YEAR" = some (.int (1600) t)
  g_LAST_YEAR : ∃ t, mg "LAST_YEAR" = some (.int (2999) t)
  g_LEAP_YEAR : ∃ t, mg "LEAP_YEAR" = some (.int (2000) t)
  g_MONTHS_OF_YEAR : ∃ t, mg "MONTHS_OF_YEAR" = some (.int (12) t)
  g_DAYS_OF_400_YEARS : ∃ t, mg "DAYS_OF_400_YEARS" = some (.int (146097) t)
  g_FEBRUARY : ∃ t, mg "FEBRUARY" = some (.int (2) t)
  g_SATURDAY : ∃ t, mg "SATURDAY" = some (.int (5) t)
  g_FIRST_OF_NEXT_MONTH : ∃ t, mg "FIRST_OF_NEXT_MONTH" = some (.int (1) t)
  g_END_TO_END : ∃ t, mg "END_TO_END" = some (.int (2) t)
  g_DAYS : ∃ t, mg "DAYS" = some (.int (0) t)
  g_WEEKS : ∃ t, mg "WEEKS" = some (.int (1) t)
  g_MONTHS : ∃ t, mg "MONTHS" = some (.int (2) t)
  g_WORKING_DAYS : ∃ t, mg "WORKING_DAYS" = some (.int (4) t)
  g_STAY : ∃ t, mg "STAY" = some (.int (0) t)
  g_NEXT : ∃ t, mg "NEXT" = some (.int (1) t)
  g_BEFORE : ∃ t, mg "BEFORE" = some (.int (2) t)
  g_FARTHEST_FROM_REST : ∃ t, mg "FARTHEST_FROM_REST" = some (.int (399) t)
  g_MOST_LOOKED_FOR_WORK : ∃ t, mg "MOST_LOOKED_FOR_WORK" = some (.int (12000) t)
  g_MOST_LOOKED_FOR_EVENT : ∃ t, mg "MOST_LOOKED_FOR_EVENT" = some (.int (4000) t)
  g_LENGTH_LOOKED_AT_WHOLE : ∃ t, mg "LENGTH_LOOKED_AT_WHOLE" = some (.int (401) t)
  g_WRONG : ∃ t, mg "WRONG" = some (.int (-1) t)
  g_NO_WAY : ∃ t, mg "NO_WAY" = some (.int (-2) t)
  g_OUT_OF_ORDER : ∃ t, mg "OUT_OF_ORDER" = some (.int (-3) t)
  g_FULL : ∃ t, mg "FULL" = some (.int (-5) t)
  g_BEYOND : ∃ t, mg "BEYOND" = some (.int (-6) t)
  g_NO_END : ∃ t, mg "NO_END" = some (.int (-7) t)
  g_LAST_WEEKDAY : ∃ t, mg "LAST_WEEKDAY" = some (.int (6) t)
  g_MOST_WEEKDAYS : ∃ t, mg "MOST_WEEKDAYS" = some (.int (6) t)
  g_FARTHEST_FROM_EASTER : ∃ t, mg "FARTHEST_FROM_EASTER" = some (.int (60) t)
  g_LAST_REST_RULE : ∃ t, mg "LAST_REST_RULE" = some (.int (3) t)
  g_LAST_MONTHS_RULE : ∃ t, mg "LAST_MONTHS_RULE" = some (.int (2) t)
  g_MOST_DAYS : ∃ t, mg "MOST_DAYS" = some (.int (40) t)
  g_MOST_WAYS : ∃ t, mg "MOST_WAYS" = some (.int (8) t)
  g_MOST_STOPS : ∃ t, mg "MOST_STOPS" = some (.int (20) t)
  g_MOST_DAYS_LATER : ∃ t, mg "MOST_DAYS_LATER" = some (.int (4000) t)
  g_MONTH_LENGTHS : Gt K mg "MONTH_LENGTHS" (([31, 28, 31, 30, 31, 30, 31, 31, 30, 31, 30, 31] : List Int).map V.int)
  g_LEAST_LENGTHS : Gt K mg "LEAST_LENGTHS" (([1, 7, 28, 365] : List Int).map V.int)
  g_MOST_OF_UNIT : Gt K mg "MOST_OF_UNIT" (([9999, 999, 999, 99, 999] : List Int).map V.int)
  g_WHOLE_NUMBERS : Gt K mg "WHOLE_NUMBERS" (([0, 0, 2, 1, 3, 3, 6, 3, 6, 6, 6, 8, 7, 6, 1] : List Int).map V.int)
  g_ROWS : Gt K mg "ROWS" (([0, 1, 0, 0, 0, 0, 0, 0, 0, 1, 0, 0, 0, 0, 0] : List Int).map V.int)
  n_range : mg "range" = none
  n_list : mg "list" = none
  n_max : mg "max" = none
  n_min : mg "min" = none
  n_len : mg "len" = none
  n_sum : mg "sum" = none
  n_abs : mg "abs" = none
  Almanac : Kl K mg "Almanac" ["book", "stops", "years"]
  Almanac_init : Mt K Almanac.a "__init__" "Almanac.__init__" s_Almanac_init ["self", "book", "stops"]
  Almanac_rest_flags : Mt K Almanac.a "rest_flags" "Almanac.rest_flags" s_Almanac_rest_flags ["self", "year"]
  Almanac_find_rest_flags : Mt K Almanac.a "find_rest_flags" "Almanac.find_rest_flags" s_Almanac_find_rest_flags ["self", "year"]
  Almanac_rests : Mt K Almanac.a "rests" "Almanac.rests" s_Almanac_rests ["self", "number"]
  Almanac_working_days : Mt K Almanac.a "working_days" "Almanac.working_days" s_Almanac_working_days ["self", "year", "first", "final"]
  mk_Almanac : Mk K Almanac.a Almanac_init.a
  Book : Kl K mg "Book" ["closed_days", "easter_days", "stops", "ways", "week_days", "yearly_days"]
  Book_init : Mt K Book.a "__init__" "Book.__init__" s_Book_init ["self"]
  Book_forget_all : Mt K Book.a "forget_all" "Book.forget_all" s_Book_forget_all ["self"]
  Book_is_behind_stops : Mt K Book.a "is_behind_stops" "Book.is_behind_stops" s_Book_is_behind_stops ["self", "number"]
  mk_Book : Mk K Book.a Book_init.a
  Span : Kl K mg "Span" ["counts", "months_rule", "number", "rest_rule", "unit"]
  Span_init : Mt K Span.a "__init__" "Span.__init__" s_Span_init ["self", "way", "unit", "number"]
  Span_first_day : Mt K Span.a "first_day" "Span.first_day" s_Span_first_day ["self", "event"]
  Span_plain_end : Mt K Span.a "plain_end" "Span.plain_end" s_Span_plain_end ["self", "event"]
  Span_least_length : Mt K Span.a "least_length" "Span.least_length" s_Span_least_length ["self"]
  mk_Span : Mk K Span.a Span_init.a
  is_leap : Df K mg "is_leap" "is_leap" s_is_leap ["year"]
  month_length : Df K mg "month_length" "month_length" s_month_length ["year", "month"]
  has_day : Df K mg "has_day" "has_day" s_has_day ["year", "month", "day"]
  is_year : Df K mg "is_year" "is_year" s_is_year ["year"]
  is_date : Df K mg "is_date" "is_date" s_is_date ["date"]
  days_before_year : Df K mg "days_before_year" "days_before_year" s_days_before_year ["year"]
  day_number : Df K mg "day_number" "day_number" s_day_number ["date"]
  year_of : Df K mg "year_of" "year_of" s_year_of ["number"]
  date_of : Df K mg "date_of" "date_of" s_date_of ["number"]
  months_of : Df K mg "months_of" "months_of" s_months_of ["date"]
  months_behind : Df K mg "months_behind" "months_behind" s_months_behind ["number", "months", "rule"]
  whole_months : Df K mg "whole_months" "whole_months" s_whole_months ["first", "second", "rule"]
  weekday : Df K mg "weekday" "weekday" s_weekday ["number"]
  easter : Df K mg "easter" "easter" s_easter ["year"]
  put_off : Df K mg "put_off" "put_off" s_put_off ["stops", "first", "plain"]
  next_open : Df K mg "next_open" "next_open" s_next_open ["almanac", "number"]
  last_open : Df K mg "last_open" "last_open" s_last_open ["almanac", "number"]
  moved_off_rest : Df K mg "moved_off_rest" "moved_off_rest" s_moved_off_rest ["almanac", "end", "rule"]
  years_from : Df K mg "years_from" "years_from" s_years_from ["first", "final"]
  last_working_day : Df K mg "last_working_day" "last_working_day" s_last_working_day ["almanac", "first", "number"]
  count_working_days : Df K mg "count_working_days" "count_working_days" s_count_working_days ["almanac", "first", "final"]
  last_day : Df K mg "last_day" "last_day" s_last_day ["almanac", "span", "event"]
  last_day_anew : Df K mg "last_day_anew" "last_day_anew" s_last_day_anew ["almanac", "span", "event", "days"]
  latest_event : Df K mg "latest_event" "latest_event" s_latest_event ["almanac", "span", "date"]
  is_in_time : Df K mg "is_in_time" "is_in_time" s_is_in_time ["almanac", "span", "event", "act"]
  begins : Df K mg "begins" "begins" s_begins ["book", "numbers"]
  are_weekdays : Df K mg "are_weekdays" "are_weekdays" s_are_weekdays ["days"]
  week : Df K mg "week" "week" s_week ["book", "numbers"]
  add_day : Df K mg "add_day" "add_day" s_add_day ["days", "day"]
  yearly : Df K mg "yearly" "yearly" s_yearly ["book", "numbers"]
  easters : Df K mg "easters" "easters" s_easters ["book", "numbers"]
  closed : Df K mg "closed" "closed" s_closed ["book", "numbers"]
  way : Df K mg "way" "way" s_way ["book", "numbers"]
  stop : Df K mg "stop" "stop" s_stop ["book", "numbers"]
  rest : Df K mg "rest" "rest" s_rest ["book", "numbers"]
  is_span : Df K mg "is_span" "is_span" s_is_span ["unit", "number"]
  refused_span : Df K mg "refused_span" "refused_span" s_refused_span ["book", "numbers"]
  span_of : Df K mg "span_of" "span_of" s_span_of ["book", "numbers"]
  told_day : Df K mg "told_day" "told_day" s_told_day ["number"]
  last : Df K mg "last" "last" s_last ["book", "numbers"]
  in_dates : Df K mg "in_dates" "in_dates" s_in_dates ["row"]
  are_dates : Df K mg "are_dates" "are_dates" s_are_dates ["dates"]
  do_rise : Df K mg "do_rise" "do_rise" s_do_rise ["days"]
  anew : Df K mg "anew" "anew" s_anew ["book", "numbers"]
  latest : Df K mg "latest" "latest" s_latest ["book", "numbers"]
  in_time : Df K mg "in_time" "in_time" s_in_time ["book", "numbers"]
  between : Df K mg "between" "between" s_between ["book", "numbers"]
  working : Df K mg "working" "working" s_working ["book", "numbers"]
  easter_date : Df K mg "easter_date" "easter_date" s_easter_date ["book", "numbers"]
  end_of_call : Df K mg "end_of_call" "end_of_call" s_end_of_call ["calls", "start"]
  answers : Df K mg "answers" "answers" s_answers ["calls"]
  g_HANDLERS : Gt K mg "HANDLERS" ([V.ref begins.a, V.ref week.a, V.ref yearly.a, V.ref easters.a, V.ref closed.a, V.ref way.a, V.ref stop.a, V.ref rest.a, V.ref last.a, V.ref anew.a, V.ref latest.a, V.ref in_time.a, V.ref between.a, V.ref working.a, V.ref easter_date.a])
end Dc
end
section
set_option Elab.async false
set_option linter.all false
set_option maxRecDepth 100000
set_option maxHeartbeats 2000000
namespace Dc
open PySem PySem.Spec PyProof.Rows L2
open Sx57 (leap monthDays dayOf dateOk yearStart monthStart)
theorem cxK {CX : CXT} {P : Program} {w : World} {K : PySem.W.Frag} {mg : Str → Option Value} {base : Heap} {N : List Str} {qual : Str} {scope : Scope} {f : Addr} {cd : Value} {A : Around} {outer : List Env} {s : Shared} {H : Hp} {E : XK} :
  (cxOf CX P w K mg base N qual scope f cd A outer s H E).K = K := rfl
local macro_rules | `(tactic| walk_at "rd") => `(tactic| simp only [tRet, tSeq, wipe, tYes, gSub, rSetL, tMake, tNotN, rIn, sFld, tIfS, tAndV, tOrV, tNotV, tAnd, tOr, tNot, tB, tTest, tCmp, t2I, tAdd, tSub, tMul, tOp, rI, rI0, tUn, rU, tVar, tC, tCall, tCons, tNil, tIx, tLen, tAsg, gName, tAug, ipI, tIf, tNext, tDrop, tChain, tTup, tLst, tFld, tMeth, tIsN, tCB, tBM, tSl, rSlL, tPart, tNoPart, CDiv, cxK, L2.start, List.length_cons, List.length_nil, List.replicate, List.map_cons, List.map_nil, List.cons_append, List.nil_append, List.append_nil, List.getElem?_cons_zero, List.getElem?_cons_succ, List.set_cons_zero, List.set_cons_succ, List.cons.injEq, and_true, true_and, Option.some.injEq, exists_eq_left', exists_eq_left, V.int.injEq, V.bl.injEq, V.ref.injEq, exists_and_left, decide_eq_true_eq, Nat.reduceAdd, Nat.reduceSub, Int.reduceLT, Int.reducePow, Int.reduceNeg, Bool.not_eq_true', decide_eq_false_iff_not, Bool.false_eq_true, ↓reduceIte, Bool.not_true, Bool.not_false])
section
variable {P : Program} {w : World} {K : PySem.W.Frag} {mg : Str → Option Value} {base : Heap}
theorem tSeq_to {t u : TS} {D : Ends} {σ σ1 : L2.St} {H H1 : Hp} (h : ∀ R : L2.St → Hp → Prop, R σ1 H1 → t { D with nx := R } σ H) (k : u D σ1 H1) : tSeq t u D σ H := h (u D) k
theorem at0 {x : V} {l : List V} : atI (x :: l) (0 : Int) = some x := atI_nat (j := 0) rfl
theorem at1 {x y : V} {l : List V} : atI (x :: y :: l) (1 : Int) = some y := atI_nat (j := 1) rfl
theorem at2 {x y z : V} {l : List V} : atI (x :: y :: z :: l) (2 : Int) = some z := atI_nat (j := 2) rfl
/-! ### is_leap -/
def sp_is_leap : Sp := fun vs H Q _ => ∃ y : Nat, vs = [.int y] ∧ Q (.bl (leap y)) H
theorem ok_is_leap (T : Txt K mg) : FnOk P w K mg base CX0 1 T.is_leap.a T.is_leap.fd ["year"] sp_is_leap := by
  refine T.is_leap.F.ok sc_is_leap (fun vs H Q E h => ?_) (fun cdv A outer s H vs Q E hr h => ?_)
  · obtain ⟨y, rfl, _⟩ := h
    rfl
  · obtain ⟨y, rfl, k⟩ := h
    refine ⟨_, (pss_one (ps_ret (pe_and (pe_cmp (pc_eqI (pe_op op_mod (pv 0) pe_int) pe_int)) (pe_one (pe_or (pe_cmp (pc_neI (pe_op op_mod (pv 0) pe_int) pe_int)) (pe_one (pe_cmp (pc_eqI (pe_op op_mod (pv 0) pe_int) pe_int)))))))), ?_⟩
    walk_at "rd"
    cases e : leap y with
    | true =>
      rw [e] at k
      have := (Cal.leap_iff y).mp e
      rw [if_pos (by omega)]
      by_cases c : ¬ (y : Int) % 100 = 0
      · rw [if_pos c]
        exact k
      · rw [if_neg c, decide_eq_true (by omega)]
        exact k
    | false =>
      rw [e] at k
      have := (Cal.leap_not y).mp e
      by_cases a : (y : Int) % 4 = 0
      · rw [if_pos a]
        rw [if_neg (by omega), decide_eq_false (by omega)]
        exact k
      · rw [if_neg a]
        exact k
/-! ### month_length -/
def sp_month_length : Sp := fun vs H Q _ => ∃ y m : Nat, vs = [.int y, .int m] ∧ 1 ≤ m ∧ m ≤ 12 ∧ Q (.int (monthDays y m : Nat)) H
theorem mlen_at {m : Nat} (y : Nat) (h1 : 1 ≤ m) (h2 : m ≤ 12) (h3 : ¬ (m = 2 ∧ leap y = true)) : atI (([31, 28, 31, 30, 31, 30, 31, 31, 30, 31, 30, 31] : List Int).map V.int) ((m : Int) - 1) = some (.int (monthDays y m : Nat)) := by
  have : m = 1 ∨ m = 2 ∨ m = 3 ∨ m = 4 ∨ m = 5 ∨ m = 6 ∨ m = 7 ∨ m = 8 ∨ m = 9 ∨ m = 10 ∨ m = 11 ∨ m = 12 := by omega
  rcases this with rfl | rfl | rfl | rfl | rfl | rfl | rfl | rfl | rfl | rfl | rfl | rfl
  · rfl
  · have : leap y = false := by
      cases e : leap y with
      | false => rfl
      | true => exact absurd ⟨rfl, e⟩ h3
    show some (V.int 28) = some (V.int (monthDays y 2 : Nat))
    unfold monthDays
    rw [this]
    rfl
  all_goals rfl
theorem ok_month_length (T : Txt K mg) : FnOk P w K mg base CX0 2 T.month_length.a T.month_length.fd ["year", "month"] sp_month_length := by
  refine T.month_length.F.ok sc_month_length (fun vs H Q E h => ?_) (fun cdv A outer s H vs Q E hr h => ?_)
  · obtain ⟨y, m, rfl, _⟩ := h
    rfl
  · obtain ⟨y, m, rfl, h1, h2, k⟩ := h
    refine ⟨_, (pss_cons (ps_if (PW.pt (pw_and (pt_cmp (pc_eqI (pv 1) (pe_globI rfl T.g_FEBRUARY))) (pw_and1 (pt_val (pe_call (ok_is_leap T) (hr.mono (by decide : 1 ≤ 1)) rfl T.is_leap.m T.is_leap.F.kp T.is_leap.b .nil pass0 (pa_cons (pv 0) pa_nil)))))) (pss_one (ps_ret pe_int)) pss_nil)
      (pss_one (ps_ret (pe_item (pe_glob (v := .ref T.g_MONTH_LENGTHS.a) rfl T.g_MONTH_LENGTHS.m rfl) (pe_sub (pv 1) pe_int))))), ?_⟩
    walk_at "rd"
    refine ite2 (fun c => ⟨y, rfl, _, rfl, ?_⟩) fun c => ?_
    · cases e : leap y with
      | true =>
        refine iteT ?_
        have e2 : monthDays y m = 29 := by
          unfold monthDays
          rw [if_pos (by omega), e]
          rfl
        rw [e2] at k
        exact k
      | false => exact iteF ⟨_, T.g_MONTH_LENGTHS.at H, _, mlen_at y h1 h2 (by rw [e]; simp), k⟩
    · exact ⟨_, T.g_MONTH_LENGTHS.at H, _, mlen_at y h1 h2 (by omega), k⟩
/-! ### has_day -/
def dayIn (y m d : Nat) : Bool := decide (1 ≤ m) && (decide (m ≤ 12) && (decide (1 ≤ d) && decide (d ≤ monthDays y m)))
def sp_has_day : Sp := fun vs H Q _ => ∃ y m d : Nat, vs = [.int y, .int m, .int d] ∧ Q (.bl (dayIn y m d)) H
theorem ok_has_day (T : Txt K mg) : FnOk P w K mg base CX0 3 T.has_day.a T.has_day.fd ["year", "month", "day"] sp_has_day := by
  refine T.has_day.F.ok sc_has_day (fun vs H Q E h => ?_) (fun cdv A outer s H vs Q E hr h => ?_)
  · obtain ⟨y, m, d, rfl, _⟩ := h
    rfl
  · obtain ⟨y, m, d, rfl, k⟩ := h
    refine ⟨_, (pss_cons (ps_if (PW.pt (pw_or (pt_cmp (pc_lt (pv 1) pe_int)) (pw_or1 (pt_cmp (pc_gt (pv 1) (pe_globI rfl T.g_MONTHS_OF_YEAR)))))) (pss_one (ps_ret pe_bl)) pss_nil)
      (pss_one (ps_ret (pe_chain op_le op_le pe_int (pv 2) (pe_call (ok_month_length T) (hr.mono (by decide : 2 ≤ 2)) rfl T.month_length.m T.month_length.F.kp T.month_length.b .nil pass0 (pa_cons (pv 0) (pa_cons (pv 1) pa_nil))))))), ?_⟩
    walk_at "rd"
    unfold dayIn at k
    refine ite2 (fun c => ?_) fun c => ite2 (fun c2 => ?_) fun c2 => ite2 (fun c3 => ⟨y, m, rfl, by omega, by omega, ?_⟩) fun c3 => ?_
    · rw [decide_eq_false (show ¬ 1 ≤ m by omega)] at k
      exact k
    · rw [decide_eq_false (show ¬ m ≤ 12 by omega), Bool.false_and, Bool.and_false] at k
      exact k
    · rw [decide_eq_true (show 1 ≤ m by omega), decide_eq_true (show m ≤ 12 by omega), decide_eq_true (show 1 ≤ d by omega)] at k
      refine ⟨_, rfl, ?_⟩
      rw [show decide ((d : Int) ≤ (monthDays y m : Nat)) = decide (d ≤ monthDays y m) from decide_eq_decide.mpr (by omega)]
      exact k
    · rw [decide_eq_false (show ¬ 1 ≤ d by omega), Bool.false_and, Bool.and_false, Bool.and_false] at k
      exact k
/-! ### a date at a place -/
def DateAt (K : PySem.W.Frag) (H : Hp) (v : V) (y m d : Nat) : Prop := ∃ a, v = .ref a ∧ Sq K H a [.int y, .int m, .int d]
/-! ### is_year -/
def sp_is_year : Sp := fun vs H Q _ => ∃ y : Nat, vs = [.int y] ∧ Q (.bl (decide (1600 ≤ y) && decide (y ≤ 2999))) H
theorem ok_is_year (T : Txt K mg) : FnOk P w K mg base CX0 1 T.is_year.a T.is_year.fd ["year"] sp_is_year := by
  refine T.is_year.F.ok sc_is_year (fun vs H Q E h => ?_) (fun cdv A outer s H vs Q E hr h => ?_)
  · obtain ⟨y, rfl, _⟩ := h
    rfl
  · obtain ⟨y, rfl, k⟩ := h
    refine ⟨_, (pss_one (ps_ret (pe_chain op_le op_le (pe_globI rfl T.g_FIRST_YEAR) (pv 0) (pe_globI rfl T.g_LAST_YEAR)))), ?_⟩
    walk_at "rd"
    refine ite2 (fun c => ?_) fun c => ?_
    · rw [decide_eq_true (show 1600 ≤ y by omega)] at k
      rw [show decide ((y : Int) ≤ 2999) = decide (y ≤ 2999) from decide_eq_decide.mpr (by omega)]
      exact k
    · rw [decide_eq_false (show ¬ 1600 ≤ y by omega)] at k
      exact k
/-! ### is_date -/
def sp_is_date (K : PySem.W.Frag) : Sp := fun vs H Q _ => ∃ (v : V) (y m d : Nat), vs = [v] ∧ DateAt K H v y m d ∧ Q (.bl (dateOk ⟨y, m, d⟩)) H
theorem ok_is_date (T : Txt K mg) : FnOk P w K mg base CX0 4 T.is_date.a T.is_date.fd ["date"] (sp_is_date K) := by
  refine T.is_date.F.ok sc_is_date (fun vs H Q E h => ?_) (fun cdv A outer s H vs Q E hr h => ?_)
  · obtain ⟨v, y, m, d, rfl, _⟩ := h
    rfl
  · obtain ⟨v, y, m, d, rfl, ⟨a, rfl, hA⟩, k⟩ := h
    refine ⟨_, (pss_one (ps_ret (pe_and (pe_call (ok_is_year T) (hr.mono (by decide : 1 ≤ 3)) rfl T.is_year.m T.is_year.F.kp T.is_year.b .nil pass0 (pa_cons (pe_item (pv 0) pe_int) pa_nil)) (pe_one (pe_call (ok_has_day T) (hr.mono (by decide : 3 ≤ 3)) rfl T.has_day.m T.has_day.F.kp T.has_day.b .nil pass0 (pa_cons (pe_item (pv 0) pe_int) (pa_cons (pe_item (pv 0) pe_int) (pa_cons (pe_item (pv 0) pe_int) pa_nil)))))))), ?_⟩
    walk_at "rd"
    have e : dateOk ⟨y, m, d⟩ = (decide (1600 ≤ y) && (decide (y ≤ 2999) && dayIn y m d)) := rfl
    rw [e, ← Bool.and_assoc] at k
    refine ⟨_, hA, _, at0, y, rfl, _, rfl, ?_⟩
    cases c : (decide (1600 ≤ y) && decide (y ≤ 2999)) with
    | false =>
      rw [c] at k
      exact k
    | true =>
      rw [c] at k
      exact ⟨_, hA, _, at0, _, hA, _, at1, _, hA, _, at2, y, m, d, rfl, k⟩
/-! ### days_before_year -/
def sp_days_before_year : Sp := fun vs H Q _ => ∃ y : Nat, vs = [.int y] ∧ 1600 ≤ y ∧ y ≤ 1000000 ∧ Q (.int (yearStart y : Nat)) H
theorem ok_days_before_year (T : Txt K mg) : FnOk P w K mg base CX0 1 T.days_before_year.a T.days_before_year.fd ["year"] sp_days_before_year := by
  refine T.days_before_year.F.ok sc_days_before_year (fun vs H Q E h => ?_) (fun cdv A outer s H vs Q E hr h => ?_)
  · obtain ⟨y, rfl, _⟩ := h
    rfl
  · obtain ⟨y, rfl, h1, h2, k⟩ := h
    refine ⟨_, (pss_cons (ps_set (i := 1) sc_days_before_year.nd rfl (Or.inl rfl) (pe_sub (pv 0) (pe_globI rfl T.g_FIRST_YEAR)))
      (pss_cons (ps_set (i := 2) sc_days_before_year.nd rfl (Or.inl rfl) (pe_add (pe_sub (pe_op op_fdiv (pe_add (pv 1) pe_int) pe_int) (pe_op op_fdiv (pe_add (pv 1) pe_int) pe_int)) (pe_op op_fdiv (pe_add (pv 1) pe_int) pe_int)))
      (pss_one (ps_ret (pe_add (pe_mul pe_int (pv 1)) (pv 2)))))), ?_⟩
    walk_at "rd"
    have e : 365 * ((y : Int) - 1600) + (((y : Int) - 1600 + 3) / 4 - ((y : Int) - 1600 + 99) / 100 + ((y : Int) - 1600 + 399) / 400) = (yearStart y : Nat) := by
      unfold Sx57.yearStart Sx57.FIRST Sx57.leaps
      omega
    rw [e]
    exact k
/-! ### weekday -/
def sp_weekday : Sp := fun vs H Q _ => ∃ n : Nat, vs = [.int n] ∧ Q (.int (Sx57.weekday n : Nat)) H
theorem ok_weekday (T : Txt K mg) : FnOk P w K mg base CX0 1 T.weekday.a T.weekday.fd ["number"] sp_weekday := by
  refine T.weekday.F.ok sc_weekday (fun vs H Q E h => ?_) (fun cdv A outer s H vs Q E hr h => ?_)
  · obtain ⟨y, rfl, _⟩ := h
    rfl
  · obtain ⟨n, rfl, k⟩ := h
    refine ⟨_, (pss_one (ps_ret (pe_op op_mod (pe_add (pv 0) (pe_globI rfl T.g_SATURDAY)) pe_int))), ?_⟩
    walk_at "rd"
    exact k
/-! ### day_number -/
def sp_day_number (K : PySem.W.Frag) : Sp := fun vs H Q _ => ∃ (v : V) (y m d : Nat), vs = [v] ∧ DateAt K H v y m d ∧ 1600 ≤ y ∧ y ≤ 1000000 ∧ 1 ≤ m ∧ m ≤ 12 ∧ 1 ≤ d ∧ Q (.int (dayOf ⟨y, m, d⟩ : Nat)) H
theorem ok_day_number (T : Txt K mg) : FnOk P w K mg base CX0 3 T.day_number.a T.day_number.fd ["date"] (sp_day_number K) := by
  refine T.day_number.F.ok sc_day_number (fun vs H Q E h => ?_) (fun cdv A outer s H vs Q E hr h => ?_)
  · obtain ⟨v, y, m, d, rfl, _⟩ := h
    rfl
  · obtain ⟨v, y, m, d, rfl, ⟨a, rfl, hA⟩, h1, h2, h3, h4, h5, k⟩ := h
    refine ⟨_, (pss_cons (ps_set (i := 1) sc_day_number.nd rfl (Or.inl rfl) (pe_sub (pe_add (pe_call (ok_days_before_year T) (hr.mono (by decide : 1 ≤ 2)) rfl T.days_before_year.m T.days_before_year.F.kp T.days_before_year.b .nil pass0 (pa_cons (pe_item (pv 0) pe_int) pa_nil)) (pe_item (pv 0) pe_int)) pe_int))
      (pss_cons (ps_for PassesOwn.never rfl (pi_range2 rfl T.n_range (pa_cons pe_int (pa_cons (pe_item (pv 0) pe_int) pa_nil))) (pg_name (i := 2) sc_day_number.nd rfl (Or.inl rfl))
      (pss_one (ps_aug (i := 1) sc_day_number.nd rfl (Or.inl rfl) (pe_call (ok_month_length T) (hr.mono (by decide : 2 ≤ 2)) rfl T.month_length.m T.month_length.F.kp T.month_length.b .nil pass0 (pa_cons (pe_item (pv 0) pe_int) (pa_cons (pv 2) pa_nil))) ip_add)))
      (pss_one (ps_ret (pv 1))))), ?_⟩
    refine tSeq_to (σ1 := [some (.ref a), some (.int ((yearStart y + monthStart y 1 + (d - 1) : Nat) : Int)), none]) (H1 := H) (fun R r => ?_) ?_
    · walk_at "rd"
      refine ⟨_, hA, _, at0, y, rfl, h1, h2, _, hA, _, at2, _, rfl, _, rfl, ?_⟩
      rw [Cal.monthStart_one] at r
      rw [show (((yearStart y : Nat) : Int) + (d : Nat) - 1) = ((yearStart y + 0 + (d - 1) : Nat) : Int) by omega]
      exact r
    refine ⟨_, rfl, _, _, _, _, rfl, rfl, hA, at1, _, _, rfl, ⟨by decide, by decide, by omega, by omega⟩, for_range (fun i σ H' => H' = H ∧ ∃ v, σ = [some (.ref a), some (.int ((yearStart y + monthStart y (i + 1) + (d - 1) : Nat) : Int)), v]) ⟨rfl, none, rfl⟩ ?_ ?_⟩
    · rintro i σ H' hi ⟨rfl, v, rfl⟩
      show tAug 1 _ _ _ _ _
      walk_at "rd"
      refine ⟨_, hA, _, at0, y, i + 1, by rw [show (1 + (i : Int)) = ((i + 1 : Nat) : Int) by omega], by omega, by omega, _, rfl, rfl, ?_, _, rfl⟩
      rw [Cal.monthStart_succ (show 1 ≤ i + 1 by omega)]
      omega
    · rintro σ H' ⟨rfl, v, rfl⟩
      have e : ((m : Int) - 1).toNat + 1 = m := by omega
      rw [e]
      walk_at "rd"
      exact k
/-! ### easter -/
/-- the document's letters -/
def eaN (y : Nat) : Nat :=
  let a := y % 19
  let b := y / 100
  let c := y % 100
  let h := (19 * a + b - b / 4 - (b - (b + 8) / 25 + 1) / 3 + 15) % 30
  let l := (32 + 2 * (b % 4) + 2 * (c / 4) - h - c % 4) % 7
  let m := (a + 11 * h + 22 * l) / 451
  h + l + 114 - 7 * m
theorem ea_h (a b : Nat) : (19 * (a : Int) + b - b / 4 - (b - (b + 8) / 25 + 1) / 3 + 15) % 30 = ((19 * a + b - b / 4 - (b - (b + 8) / 25 + 1) / 3 + 15) % 30 : Nat) := by
  have e1 : ((b : Int) + 8) / 25 = ((b + 8) / 25 : Nat) := by omega
  have l1 : (b + 8) / 25 ≤ b := by omega
  rw [e1]
  generalize (b + 8) / 25 = e at l1 ⊢
  have e2 : ((b : Int) - e + 1) / 3 = ((b - e + 1) / 3 : Nat) := by omega
  have l2 : (b - e + 1) / 3 + b / 4 ≤ b := by omega
  rw [e2]
  generalize (b - e + 1) / 3 = f at l2 ⊢
  omega
def sp_easter : Sp := fun vs H Q _ => ∃ y : Nat, vs = [.int y] ∧ y ≤ 1000000 ∧ ∀ p, H p = none → Q (.ref p) (upd H p (.tup [.int y, .int (eaN y / 31 : Nat), .int (eaN y % 31 + 1 : Nat)]))
theorem ok_easter (T : Txt K mg) : FnOk P w K mg base CX0 1 T.easter.a T.easter.fd ["year"] sp_easter := by
  refine T.easter.F.ok sc_easter (fun vs H Q E h => ?_) (fun cdv A outer s H vs Q E hr h => ?_)
  · obtain ⟨y, rfl, _⟩ := h
    rfl
  · obtain ⟨y, rfl, h1, k⟩ := h
    refine ⟨_, (pss_cons (ps_set (i := 1) sc_easter.nd rfl (Or.inl rfl) (pe_op op_mod (pv 0) pe_int))
      (pss_cons (ps_set (i := 2) sc_easter.nd rfl (Or.inl rfl) (pe_op op_fdiv (pv 0) pe_int))
      (pss_cons (ps_set (i := 3) sc_easter.nd rfl (Or.inl rfl) (pe_op op_mod (pv 0) pe_int))
      (pss_cons (ps_set (i := 4) sc_easter.nd rfl (Or.inl rfl) (pe_op op_mod (pe_add (pe_sub (pe_sub (pe_add (pe_mul pe_int (pv 1)) (pv 2)) (pe_op op_fdiv (pv 2) pe_int)) (pe_op op_fdiv (pe_add (pe_sub (pv 2) (pe_op op_fdiv (pe_add (pv 2) pe_int) pe_int)) pe_int) pe_int)) pe_int) pe_int))
      (pss_cons (ps_set (i := 5) sc_easter.nd rfl (Or.inl rfl) (pe_op op_mod (pe_sub (pe_sub (pe_add (pe_add pe_int (pe_mul pe_int (pe_op op_mod (pv 2) pe_int))) (pe_mul pe_int (pe_op op_fdiv (pv 3) pe_int))) (pv 4)) (pe_op op_mod (pv 3) pe_int)) pe_int))
      (pss_cons (ps_set (i := 6) sc_easter.nd rfl (Or.inl rfl) (pe_op op_fdiv (pe_add (pe_add (pv 1) (pe_mul pe_int (pv 4))) (pe_mul pe_int (pv 5))) pe_int))
      (pss_cons (ps_set (i := 7) sc_easter.nd rfl (Or.inl rfl) (pe_sub (pe_add (pe_add (pv 4) (pv 5)) pe_int) (pe_mul pe_int (pv 6))))
      (pss_one (ps_ret (pe_tup (pa_cons (pv 0) (pa_cons (pe_op op_fdiv (pv 7) pe_int) (pa_cons (pe_add (pe_op op_mod (pv 7) pe_int) pe_int) pa_nil))))))))))))), ?_⟩
    refine tSeq_to (σ1 := [some (.int y), some (.int (y % 19 : Nat)), none, none, none, none, none, none]) (H1 := H) (fun R r => ?_) ?_
    · walk_at "rd"
      exact r
    refine tSeq_to (σ1 := [some (.int y), some (.int (y % 19 : Nat)), some (.int (y / 100 : Nat)), none, none, none, none, none]) (H1 := H) (fun R r => ?_) ?_
    · walk_at "rd"
      exact r
    refine tSeq_to (σ1 := [some (.int y), some (.int (y % 19 : Nat)), some (.int (y / 100 : Nat)), some (.int (y % 100 : Nat)), none, none, none, none]) (H1 := H) (fun R r => ?_) ?_
    · walk_at "rd"
      exact r
    dsimp only [eaN] at k
    have ha : y % 19 < 19 := Nat.mod_lt _ (by decide)
    have hb : y / 100 ≤ 10000 := by omega
    have hc : y % 100 < 100 := Nat.mod_lt _ (by decide)
    generalize y % 19 = a at k ha ⊢
    generalize y / 100 = b at k hb ⊢
    generalize y % 100 = c at k hc ⊢
    refine tSeq_to (σ1 := [some (.int y), some (.int a), some (.int b), some (.int c), some (.int ((19 * a + b - b / 4 - (b - (b + 8) / 25 + 1) / 3 + 15) % 30 : Nat)), none, none, none]) (H1 := H) (fun R r => ?_) ?_
    · walk_at "rd"
      rw [ea_h a b]
      exact r
    have hh : (19 * a + b - b / 4 - (b - (b + 8) / 25 + 1) / 3 + 15) % 30 < 30 := Nat.mod_lt _ (by decide)
    generalize (19 * a + b - b / 4 - (b - (b + 8) / 25 + 1) / 3 + 15) % 30 = h at k hh ⊢
    refine tSeq_to (σ1 := [some (.int y), some (.int a), some (.int b), some (.int c), some (.int h), some (.int ((32 + 2 * (b % 4) + 2 * (c / 4) - h - c % 4) % 7 : Nat)), none, none]) (H1 := H) (fun R r => ?_) ?_
    · walk_at "rd"
      rw [show (32 + 2 * ((b : Int) % 4) + 2 * ((c : Int) / 4) - h - (c : Int) % 4) % 7 = ((32 + 2 * (b % 4) + 2 * (c / 4) - h - c % 4) % 7 : Nat) by omega]
      exact r
    have hl : (32 + 2 * (b % 4) + 2 * (c / 4) - h - c % 4) % 7 < 7 := Nat.mod_lt _ (by decide)
    generalize (32 + 2 * (b % 4) + 2 * (c / 4) - h - c % 4) % 7 = l at k hl ⊢
    refine tSeq_to (σ1 := [some (.int y), some (.int a), some (.int b), some (.int c), some (.int h), some (.int l), some (.int ((a + 11 * h + 22 * l) / 451 : Nat)), none]) (H1 := H) (fun R r => ?_) ?_
    · walk_at "rd"
      exact r
    have hm : (a + 11 * h + 22 * l) / 451 ≤ 1 := by omega
    generalize (a + 11 * h + 22 * l) / 451 = m at k hm ⊢
    refine tSeq_to (σ1 := [some (.int y), some (.int a), some (.int b), some (.int c), some (.int h), some (.int l), some (.int m), some (.int (h + l + 114 - 7 * m : Nat))]) (H1 := H) (fun R r => ?_) ?_
    · walk_at "rd"
      rw [show (h : Int) + l + 114 - 7 * m = (h + l + 114 - 7 * m : Nat) by omega]
      exact r
    have k2 : ∀ p, H p = none → Q (.ref p) (upd H p (.tup [.int y, .int ((h + l + 114 - 7 * m) / 31 : Nat), .int ((h + l + 114 - 7 * m) % 31 + 1 : Nat)])) := k
    generalize h + l + 114 - 7 * m = n at k2 ⊢
    walk_at "rd"
    exact ⟨by decide, k2⟩
end
end Dc
end
section
set_option Elab.async false
set_option linter.all false
set_option maxRecDepth 100000
set_option maxHeartbeats 2000000
namespace Dc
open PySem PySem.Spec PyProof.Rows L2
open Sx57 (leap monthDays dayOf dateOf dateOk yearStart monthStart)
local macro_rules | `(tactic| walk_at "rd") => `(tactic| simp only [tRet, tSeq, wipe, tYes, gSub, rSetL, tMake, tNotN, rIn, sFld, tIfS, tAndV, tOrV, tNotV, tAnd, tOr, tNot, tB, tTest, tCmp, t2I, tAdd, tSub, tMul, tOp, rI, rI0, tUn, rU, tVar, tC, tCall, tCons, tNil, tIx, tLen, tAsg, gName, tAug, ipI, tIf, tNext, tDrop, tChain, tTup, tLst, tFld, tMeth, tIsN, tCB, tBM, tSl, rSlL, tPart, tNoPart, CDiv, cxK, L2.start, List.length_cons, List.length_nil, List.replicate, List.map_cons, List.map_nil, List.cons_append, List.nil_append, List.append_nil, List.getElem?_cons_zero, List.getElem?_cons_succ, List.set_cons_zero, List.set_cons_succ, List.cons.injEq, and_true, true_and, Option.some.injEq, exists_eq_left', exists_eq_left, V.int.injEq, V.bl.injEq, V.ref.injEq, exists_and_left, decide_eq_true_eq, Nat.reduceAdd, Nat.reduceSub, Int.reduceLT, Int.reducePow, Int.reduceNeg, Bool.not_eq_true', decide_eq_false_iff_not, Bool.false_eq_true, ↓reduceIte, Bool.not_true, Bool.not_false])
section
variable {P : Program} {w : World} {K : PySem.W.Frag} {mg : Str → Option Value} {base : Heap}
/-! ### year_of -/
def sp_year_of : Sp := fun vs H Q _ => ∃ n : Nat, vs = [.int n] ∧ n < Cal.FARTHEST ∧ Q (.int ((dateOf n).year : Nat)) H
theorem ok_year_of (T : Txt K mg) : FnOk P w K mg base CX0 2 T.year_of.a T.year_of.fd ["number"] sp_year_of := by
  refine T.year_of.F.ok sc_year_of (fun vs H Q E h => ?_) (fun cdv A outer s H vs Q E hr h => ?_)
  · obtain ⟨y, rfl, _⟩ := h
    rfl
  · obtain ⟨n, rfl, hn, k⟩ := h
    refine ⟨_, (pss_cons (ps_set (i := 1) sc_year_of.nd rfl (Or.inl rfl) (pe_add (pe_globI rfl T.g_FIRST_YEAR) (pe_op op_fdiv (pe_op op_mul (pv 0) pe_int) (pe_globI rfl T.g_DAYS_OF_400_YEARS))))
      (pss_cons (ps_if (pt_cmp (pc_gt (pe_call (ok_days_before_year T) (hr.mono (by decide : 1 ≤ 1)) rfl T.days_before_year.m T.days_before_year.F.kp T.days_before_year.b .nil pass0 (pa_cons (pv 1) pa_nil)) (pv 0))) (pss_one (ps_ret (pe_sub (pv 1) pe_int))) pss_nil)
      (pss_cons (ps_if (pt_cmp (pc_le (pe_call (ok_days_before_year T) (hr.mono (by decide : 1 ≤ 1)) rfl T.days_before_year.m T.days_before_year.F.kp T.days_before_year.b .nil pass0 (pa_cons (pe_add (pv 1) pe_int) pa_nil)) (pv 0))) (pss_one (ps_ret (pe_add (pv 1) pe_int))) pss_nil)
      (pss_one (ps_ret (pv 1)))))), ?_⟩
    walk_at "rd"
    obtain ⟨b1, b2, b3, b4⟩ := Cal.year_of_range hn
    have eg : (1600 + (n : Int) * 400 / 146097) = ((1600 + n * 400 / 146097 : Nat) : Int) := by omega
    have hg := Cal.guess (n := n) (g := 1600 + n * 400 / 146097) rfl
    have hb : 1600 + n * 400 / 146097 ≤ 10000 := by unfold Cal.FARTHEST at hn; omega
    have hb2 : 1600 ≤ 1600 + n * 400 / 146097 := by omega
    rw [eg]
    generalize 1600 + n * 400 / 146097 = g at hg hb hb2 ⊢
    refine ⟨.inr ⟨by decide, by decide⟩, g, rfl, hb2, by omega, _, rfl, ite2 (fun c => ?_) fun c => ⟨g + 1, by rw [show ((g : Int) + 1) = ((g + 1 : Nat) : Int) by omega], by omega, by omega, _, rfl, ite2 (fun c2 => ?_) fun c2 => ?_⟩⟩
    · obtain ⟨q1, q2⟩ := hg.1 (by omega)
      have e := Cal.year_is (y := g - 1) hn (by omega) q2 (by rw [show g - 1 + 1 = g by omega]; omega)
      rw [e] at k
      rw [show ((g : Int) - 1) = ((g - 1 : Nat) : Int) by omega]
      exact k
    · have q := hg.2 (by omega)
      have e := Cal.year_is (y := g + 1) hn (by omega) (by omega) q
      rw [e] at k
      exact k
    · have e := Cal.year_is (y := g) hn (by omega) (by omega) (by omega)
      rw [e] at k
      exact k
/-! ### date_of -/
def dateV (x : Sx57.Date) : List V := [.int (x.year : Nat), .int (x.month : Nat), .int (x.day : Nat)]
def sp_date_of : Sp := fun vs H Q _ => ∃ n : Nat, vs = [.int n] ∧ n < Cal.FARTHEST ∧ ∀ p, H p = none → Q (.ref p) (upd H p (.tup (dateV (dateOf n))))
theorem ok_date_of (T : Txt K mg) : FnOk P w K mg base CX0 3 T.date_of.a T.date_of.fd ["number"] sp_date_of := by
  refine T.date_of.F.ok sc_date_of (fun vs H Q E h => ?_) (fun cdv A outer s H vs Q E hr h => ?_)
  · obtain ⟨y, rfl, _⟩ := h
    rfl
  · obtain ⟨n, rfl, hn, k⟩ := h
    refine ⟨_, (pss_cons (ps_set (i := 1) sc_date_of.nd rfl (Or.inl rfl) (pe_call (ok_year_of T) (hr.mono (by decide : 2 ≤ 2)) rfl T.year_of.m T.year_of.F.kp T.year_of.b .nil pass0 (pa_cons (pv 0) pa_nil)))
      (pss_cons (ps_set (i := 2) sc_date_of.nd rfl (Or.inl rfl) pe_int)
      (pss_cons (ps_set (i := 3) sc_date_of.nd rfl (Or.inl rfl) (pe_add (pe_sub (pv 0) (pe_call (ok_days_before_year T) (hr.mono (by decide : 1 ≤ 2)) rfl T.days_before_year.m T.days_before_year.F.kp T.days_before_year.b .nil pass0 (pa_cons (pv 1) pa_nil))) pe_int))
      (pss_cons (ps_while PassesOwn.never (pt_cmp (pc_gt (pv 3) (pe_call (ok_month_length T) (hr.mono (by decide : 2 ≤ 2)) rfl T.month_length.m T.month_length.F.kp T.month_length.b .nil pass0 (pa_cons (pv 1) (pa_cons (pv 2) pa_nil)))))
      (pss_cons (ps_aug (i := 3) sc_date_of.nd rfl (Or.inl rfl) (pe_call (ok_month_length T) (hr.mono (by decide : 2 ≤ 2)) rfl T.month_length.m T.month_length.F.kp T.month_length.b .nil pass0 (pa_cons (pv 1) (pa_cons (pv 2) pa_nil))) ip_sub)
      (pss_one (ps_aug (i := 2) sc_date_of.nd rfl (Or.inl rfl) pe_int ip_add))))
      (pss_one (ps_ret (pe_tup (pa_cons (pv 1) (pa_cons (pv 2) (pa_cons (pv 3) pa_nil)))))))))), ?_⟩
    obtain ⟨b1, b2, b3, b4⟩ := Cal.year_of_range hn
    walk_at "rd"
    refine ⟨n, rfl, hn, (dateOf n).year, rfl, b1, by omega, _, rfl, ?_⟩
    have hd : ∀ m d : Nat, 1 ≤ m → m ≤ 12 → 1 ≤ d → d ≤ monthDays (dateOf n).year m → n = yearStart (dateOf n).year + monthStart (dateOf n).year m + (d - 1) → dateOf n = ⟨(dateOf n).year, m, d⟩ := fun m d h1 h2 h3 h4 h5 => Cal.date_is hn b1 h1 h2 h3 h4 h5
    generalize (dateOf n).year = y at b1 b2 b3 b4 hd ⊢
    have h13 := Cal.monthStart_13 y
    rw [Cal.yearStart_succ b1] at b4
    refine ⟨fun j σ H' => H' = H ∧ ∃ m : Nat, 1 ≤ m ∧ m ≤ 12 ∧ monthStart y m ≤ n - yearStart y ∧ j = 12 - m ∧ σ = [some (.int (n : Nat)), some (.int (y : Nat)), some (.int (m : Nat)), some (.int ((n - yearStart y - monthStart y m + 1 : Nat) : Int))], ⟨11, rfl, 1, by omega, by omega, by rw [Cal.monthStart_one]; omega, rfl, ?_⟩, ?_⟩
    · rw [Cal.monthStart_one, show ((n : Int) - (yearStart y : Nat) + 1) = ((n - yearStart y - 0 + 1 : Nat) : Int) by omega]
      rfl
    rintro j σ H' ⟨rfl, m, m1, m2, m3, rfl, rfl⟩
    walk_at "rd"
    refine ⟨y, m, rfl, m1, m2, _, rfl, ite2 (fun c => ?_) fun c => ?_⟩
    · have hm : m + 1 ≤ 12 := by
        by_cases q : m = 12
        · subst q
          have : monthStart y 13 = monthStart y 12 + monthDays y 12 := Cal.monthStart_succ (y := y) (m := 12) (by omega)
          omega
        · omega
      have hs := Cal.monthStart_succ (y := y) (m := m) m1
      refine ⟨fun σ' H'' => H'' = H' ∧ σ' = [some (.int (n : Nat)), some (.int (y : Nat)), some (.int ((m + 1 : Nat) : Int)), some (.int ((n - yearStart y - monthStart y (m + 1) + 1 : Nat) : Int))], fun σ' H'' h => ?_, ?_⟩
      · exact ⟨12 - (m + 1), by omega, h.1, m + 1, by omega, hm, by omega, rfl, h.2⟩
      · refine ⟨y, m, rfl, m1, m2, _, rfl, rfl, ?_⟩
        rw [show ((n - yearStart y - monthStart y (m + 1) + 1 : Nat) : Int) = ((n - yearStart y - monthStart y m + 1 : Nat) : Int) - (monthDays y m : Nat) by omega]
        rfl
    · have e := hd m (n - yearStart y - monthStart y m + 1) m1 m2 (by omega) (by omega) (by omega)
      refine ⟨by show 3 ≤ sizeLine; decide, fun p hp => ?_⟩
      have := k p hp
      rw [e] at this
      exact this
/-! ### months_of -/
def sp_months_of (K : PySem.W.Frag) : Sp := fun vs H Q _ => ∃ (v : V) (y m d : Nat), vs = [v] ∧ DateAt K H v y m d ∧ y ≤ 1000000 ∧ 1 ≤ m ∧ Q (.int (y * 12 + (m - 1) : Nat)) H
theorem ok_months_of (T : Txt K mg) : FnOk P w K mg base CX0 1 T.months_of.a T.months_of.fd ["date"] (sp_months_of K) := by
  refine T.months_of.F.ok sc_months_of (fun vs H Q E h => ?_) (fun cdv A outer s H vs Q E hr h => ?_)
  · obtain ⟨v, y, m, d, rfl, _⟩ := h
    rfl
  · obtain ⟨v, y, m, d, rfl, ⟨a, rfl, hA⟩, h1, h2, k⟩ := h
    refine ⟨_, (pss_one (ps_ret (pe_sub (pe_add (pe_op op_mul (pe_item (pv 0) pe_int) (pe_globI rfl T.g_MONTHS_OF_YEAR)) (pe_item (pv 0) pe_int)) pe_int))), ?_⟩
    walk_at "rd"
    refine ⟨_, hA, _, at0, _, rfl, .inr ⟨by decide, by decide⟩, _, hA, _, at1, _, rfl, ?_⟩
    rw [show ((y : Int) * 12 + (m : Int) - 1) = ((y * 12 + (m - 1) : Nat) : Int) by omega]
    exact k
/-! ### months_behind -/
def sp_months_behind : Sp := fun vs H Q _ => ∃ (n k : Nat) (ww : Sx57.Way), vs = [.int n, .int k, .int (ww.month : Nat)] ∧ n < Cal.FARTHEST ∧ k ≤ 100000 ∧ ∀ H' : Hp, Same H H' → Q (.int (Sx57.later ww n k : Nat)) H'
theorem Same.upd {H : Hp} {p : Addr} {o : HO} (h : H p = none) : Same H (upd H p o) := fun b u e => by
  rw [upd_ne (ne_of_none e h)]
  exact e
theorem ok_months_behind (T : Txt K mg) : FnOk P w K mg base CX0 4 T.months_behind.a T.months_behind.fd ["number", "months", "rule"] sp_months_behind := by
  refine T.months_behind.F.ok sc_months_behind (fun vs H Q E h => ?_) (fun cdv A outer s H vs Q E hr h => ?_)
  · obtain ⟨_, _, _, rfl, _⟩ := h
    rfl
  · obtain ⟨n, k, ww, rfl, hn, hk, kk⟩ := h
    refine ⟨_, (pss_cons (ps_set (i := 3) sc_months_behind.nd rfl (Or.inl rfl) (pe_call (ok_date_of T) (hr.mono (by decide : 3 ≤ 3)) rfl T.date_of.m T.date_of.F.kp T.date_of.b .nil pass0 (pa_cons (pv 0) pa_nil)))
      (pss_cons (ps_set (i := 4) sc_months_behind.nd rfl (Or.inl rfl) (pe_add (pe_call (ok_months_of T) (hr.mono (by decide : 1 ≤ 3)) rfl T.months_of.m T.months_of.F.kp T.months_of.b .nil pass0 (pa_cons (pv 3) pa_nil)) (pv 1)))
      (pss_cons (ps_set (i := 5) sc_months_behind.nd rfl (Or.inl rfl) (pe_op op_fdiv (pv 4) (pe_globI rfl T.g_MONTHS_OF_YEAR)))
      (pss_cons (ps_set (i := 6) sc_months_behind.nd rfl (Or.inl rfl) (pe_add (pe_op op_mod (pv 4) (pe_globI rfl T.g_MONTHS_OF_YEAR)) pe_int))
      (pss_cons (ps_set (i := 7) sc_months_behind.nd rfl (Or.inl rfl) (pe_call (ok_month_length T) (hr.mono (by decide : 2 ≤ 3)) rfl T.month_length.m T.month_length.F.kp T.month_length.b .nil pass0 (pa_cons (pv 5) (pa_cons (pv 6) pa_nil))))
      (pss_cons (ps_if (PW.pt (pw_and (pt_cmp (pc_eqI (pv 2) (pe_globI rfl T.g_END_TO_END))) (pw_and1 (pt_cmp (pc_eqI (pe_item (pv 3) pe_int) (pe_call (ok_month_length T) (hr.mono (by decide : 2 ≤ 3)) rfl T.month_length.m T.month_length.F.kp T.month_length.b .nil pass0 (pa_cons (pe_item (pv 3) pe_int) (pa_cons (pe_item (pv 3) pe_int) pa_nil)))))))) (pss_one (ps_ret (pe_call (ok_day_number T) (hr.mono (by decide : 3 ≤ 3)) rfl T.day_number.m T.day_number.F.kp T.day_number.b .nil pass0 (pa_cons (pe_tup (pa_cons (pv 5) (pa_cons (pv 6) (pa_cons (pv 7) pa_nil)))) pa_nil)))) pss_nil)
      (pss_cons (ps_if (pt_cmp (pc_le (pe_item (pv 3) pe_int) (pv 7))) (pss_one (ps_ret (pe_call (ok_day_number T) (hr.mono (by decide : 3 ≤ 3)) rfl T.day_number.m T.day_number.F.kp T.day_number.b .nil pass0 (pa_cons (pe_tup (pa_cons (pv 5) (pa_cons (pv 6) (pa_cons (pe_item (pv 3) pe_int) pa_nil)))) pa_nil)))) pss_nil)
      (pss_cons (ps_if (pt_cmp (pc_eqI (pv 2) (pe_globI rfl T.g_FIRST_OF_NEXT_MONTH))) (pss_one (ps_ret (pe_add (pe_call (ok_day_number T) (hr.mono (by decide : 3 ≤ 3)) rfl T.day_number.m T.day_number.F.kp T.day_number.b .nil pass0 (pa_cons (pe_tup (pa_cons (pv 5) (pa_cons (pv 6) (pa_cons (pv 7) pa_nil)))) pa_nil)) pe_int))) pss_nil)
      (pss_one (ps_ret (pe_call (ok_day_number T) (hr.mono (by decide : 3 ≤ 3)) rfl T.day_number.m T.day_number.F.kp T.day_number.b .nil pass0 (pa_cons (pe_tup (pa_cons (pv 5) (pa_cons (pv 6) (pa_cons (pv 7) pa_nil)))) pa_nil)))))))))))), ?_⟩
    obtain ⟨g, e⟩ := Cal.dateOf_good hn
    have hy := Cal.year_lt g (by rw [e]; exact hn)
    have key := Cal.later_of (w := ww) g hy k
    rw [e] at key
    rw [key] at kk
    have m1 := g.m1
    have m2 := g.m2
    have y1 := g.y
    have d1 := g.d1
    walk_at "rd"
    refine ⟨n, rfl, hn, fun p hp => ?_⟩
    generalize dateOf n = x at g e hy key kk m1 m2 y1 d1 ⊢
    have s1 : Same H (upd H p (.tup (dateV x))) := Same.upd hp
    have q1 : upd H p (.tup (dateV x)) p = some (.tup (dateV x)) := upd_same
    generalize upd H p (.tup (dateV x)) = H1 at s1 q1 ⊢
    have hA : Sq K H1 p (dateV x) := .inr (SqT.of q1)
    have D1 : DateAt K H1 (.ref p) x.year x.month x.day := ⟨p, rfl, hA⟩
    refine ⟨_, _, _, _, rfl, D1, by omega, m1, _, rfl, ?_⟩
    rw [show ((x.year * 12 + (x.month - 1) : Nat) + (k : Int)) / 12 = ((x.year + (x.month - 1 + k) / 12 : Nat) : Int) by omega, show ((x.year * 12 + (x.month - 1) : Nat) + (k : Int)) % 12 + 1 = (((x.month - 1 + k) % 12 + 1 : Nat) : Int) by omega]
    have hY : 1600 ≤ x.year + (x.month - 1 + k) / 12 ∧ x.year + (x.month - 1 + k) / 12 ≤ 1000000 := by omega
    have hM : 1 ≤ (x.month - 1 + k) % 12 + 1 ∧ (x.month - 1 + k) % 12 + 1 ≤ 12 := by omega
    clear key
    generalize x.year + (x.month - 1 + k) / 12 = Y at hY kk ⊢
    generalize (x.month - 1 + k) % 12 + 1 = M at hM kk ⊢
    have hL := Cal.monthDays_ge Y M
    refine ⟨Y, M, rfl, hM.1, hM.2, ?_⟩
    generalize monthDays Y M = L at hL kk ⊢
    have fin : ∀ (d : Nat) (R : V → Hp → Prop), 1 ≤ d → (∀ H', Same H H' → R (.int (dayOf ⟨Y, M, d⟩ : Nat)) H') → 3 ≤ sizeLine ∧ ∀ p2, H1 p2 = none → sp_day_number K [.ref p2] (L2.upd H1 p2 (.tup [.int (Y : Nat), .int (M : Nat), .int (d : Nat)])) R E0 := fun d R hd r =>
      ⟨by decide, fun p2 hp2 => ⟨_, Y, M, d, rfl, ⟨p2, rfl, .inr (SqT.of upd_same)⟩, hY.1, hY.2, hM.1, hM.2, hd, r _ (s1.trans (Same.upd hp2))⟩⟩
    refine ite2 (fun c => ?_) fun c => ?_
    · refine ⟨p, rfl, _, hA, _, at2, p, rfl, _, hA, _, at0, p, rfl, _, hA, _, at1, _, _, rfl, m1, m2, _, rfl, _, rfl, ite2 (fun c2 => ?_) fun c2 => ?_⟩
      · rw [if_pos ⟨by omega, by omega⟩] at kk
        exact fin L Q (by omega) kk
      · rw [if_neg (show ¬ (ww.month = 2 ∧ x.day = monthDays x.year x.month) by omega)] at kk
        refine ⟨p, rfl, _, hA, _, at2, _, rfl, _, rfl, ite2 (fun c2 => ?_) fun c2 => ite2 (fun c3 => ?_) fun c3 => ?_⟩
        · rw [if_pos (by omega)] at kk
          exact ⟨p, rfl, _, hA, _, at2, fin x.day Q d1 kk⟩
        · rw [if_neg (by omega), if_pos (by omega)] at kk
          exact fin L _ (by omega) fun H' s => ⟨_, rfl, by have := kk H' s; exact this⟩
        · rw [if_neg (by omega), if_neg (by omega)] at kk
          exact fin L Q (by omega) kk
    · rw [if_neg (show ¬ (ww.month = 2 ∧ x.day = monthDays x.year x.month) by omega)] at kk
      refine ⟨p, rfl, _, hA, _, at2, _, rfl, _, rfl, ite2 (fun c2 => ?_) fun c2 => ite2 (fun c3 => ?_) fun c3 => ?_⟩
      · rw [if_pos (by omega)] at kk
        exact ⟨p, rfl, _, hA, _, at2, fin x.day Q d1 kk⟩
      · rw [if_neg (by omega), if_pos (by omega)] at kk
        exact fin L _ (by omega) fun H' s => ⟨_, rfl, by have := kk H' s; exact this⟩
      · rw [if_neg (by omega), if_neg (by omega)] at kk
        exact fin L Q (by omega) kk
/-! ### whole_months -/
def sp_whole_months : Sp := fun vs H Q _ => ∃ (a b : Nat) (ww : Sx57.Way), vs = [.int a, .int b, .int (ww.month : Nat)] ∧ a ≤ b ∧ b < Sx57.DAYS ∧ ∀ (H' : Hp) (k : Nat), Same H H' → Sx57.later ww a k ≤ b → b < Sx57.later ww a (k + 1) → k ≤ 100000 → Q (.int k) H'
theorem ok_whole_months (T : Txt K mg) : FnOk P w K mg base CX0 5 T.whole_months.a T.whole_months.fd ["first", "second", "rule"] sp_whole_months := by
  refine T.whole_months.F.ok sc_whole_months (fun vs H Q E h => ?_) (fun cdv A outer s H vs Q E hr h => ?_)
  · obtain ⟨_, _, _, rfl, _⟩ := h
    rfl
  · obtain ⟨a, b, ww, rfl, hab, hb, kk⟩ := h
    refine ⟨_, (pss_cons (ps_set (i := 3) sc_whole_months.nd rfl (Or.inl rfl) (pe_sub (pe_call (ok_months_of T) (hr.mono (by decide : 1 ≤ 4)) rfl T.months_of.m T.months_of.F.kp T.months_of.b .nil pass0 (pa_cons (pe_call (ok_date_of T) (hr.mono (by decide : 3 ≤ 4)) rfl T.date_of.m T.date_of.F.kp T.date_of.b .nil pass0 (pa_cons (pv 1) pa_nil)) pa_nil)) (pe_call (ok_months_of T) (hr.mono (by decide : 1 ≤ 4)) rfl T.months_of.m T.months_of.F.kp T.months_of.b .nil pass0 (pa_cons (pe_call (ok_date_of T) (hr.mono (by decide : 3 ≤ 4)) rfl T.date_of.m T.date_of.F.kp T.date_of.b .nil pass0 (pa_cons (pv 0) pa_nil)) pa_nil))))
      (pss_cons (ps_while PassesOwn.never (pt_cmp (pc_gt (pe_call (ok_months_behind T) (hr.mono (by decide : 4 ≤ 4)) rfl T.months_behind.m T.months_behind.F.kp T.months_behind.b .nil pass0 (pa_cons (pv 0) (pa_cons (pv 3) (pa_cons (pv 2) pa_nil)))) (pv 1)))
      (pss_one (ps_aug (i := 3) sc_whole_months.nd rfl (Or.inl rfl) pe_int ip_sub)))
      (pss_one (ps_ret (pv 3))))), ?_⟩
    have hd := Cal.DAYS_eq
    have ha' : a < Cal.FARTHEST := by unfold Cal.FARTHEST; omega
    have hb' : b < Cal.FARTHEST := by unfold Cal.FARTHEST; omega
    obtain ⟨ga, ea⟩ := Cal.dateOf_good ha'
    obtain ⟨gb, eb⟩ := Cal.dateOf_good hb'
    have ya := Cal.year_lt ga (by rw [ea]; exact ha')
    have yb := Cal.year_lt gb (by rw [eb]; exact hb')
    walk_at "rd"
    refine ⟨b, rfl, hb', fun p hp => ?_⟩
    have s1 : Same H (L2.upd H p (.tup (dateV (dateOf b)))) := Same.upd hp
    have q1 : L2.upd H p (.tup (dateV (dateOf b))) p = some (.tup (dateV (dateOf b))) := upd_same
    generalize L2.upd H p (.tup (dateV (dateOf b))) = H1 at s1 q1 ⊢
    refine ⟨_, _, _, _, rfl, ⟨p, rfl, .inr (SqT.of q1)⟩, by omega, gb.m1, a, rfl, ha', fun p2 hp2 => ?_⟩
    have s2 : Same H1 (L2.upd H1 p2 (.tup (dateV (dateOf a)))) := Same.upd hp2
    have q2 : L2.upd H1 p2 (.tup (dateV (dateOf a))) p2 = some (.tup (dateV (dateOf a))) := upd_same
    generalize L2.upd H1 p2 (.tup (dateV (dateOf a))) = H2 at s2 q2 ⊢
    refine ⟨_, _, _, _, rfl, ⟨p2, rfl, .inr (SqT.of q2)⟩, by omega, ga.m1, _, rfl, _, rfl, ?_⟩
    have hm := Cal.mon_lt ga gb (by rw [ea, eb]; exact hab)
    have m2b := gb.m2
    have m2a := ga.m2
    have e0 : (((dateOf b).year * 12 + ((dateOf b).month - 1) : Nat) : Int) - ((dateOf a).year * 12 + ((dateOf a).month - 1) : Nat) = ((Cal.mon (dateOf b) - Cal.mon (dateOf a) : Nat) : Int) := by
      unfold Cal.mon at hm ⊢
      omega
    rw [e0]
    refine ⟨fun j σ H' => Same H H' ∧ j ≤ 100000 ∧ b < Sx57.later ww a (j + 1) ∧ σ = [some (.int (a : Nat)), some (.int (b : Nat)), some (.int (ww.month : Nat)), some (.int (j : Nat))], ⟨Cal.mon (dateOf b) - Cal.mon (dateOf a), s1.trans s2, ?_, Cal.later_beyond ha' hb' (by omega), rfl⟩, ?_⟩
    · unfold Cal.mon
      omega
    rintro j σ H' ⟨sj, hj, hlt, rfl⟩
    walk_at "rd"
    refine ⟨a, j, ww, rfl, ha', hj, fun H3 s3 => ⟨_, rfl, ite2 (fun c => ?_) fun c => ?_⟩⟩
    · have hj1 : 1 ≤ j := by
        by_cases q : j = 0
        · subst q
          rw [Cal.later_zero ha'] at c
          omega
        · omega
      refine ⟨fun σ' H'' => Same H H'' ∧ σ' = [some (.int (a : Nat)), some (.int (b : Nat)), some (.int (ww.month : Nat)), some (.int ((j - 1 : Nat) : Int))], fun σ' H'' h => ⟨j - 1, by omega, h.1, by omega, by rw [show j - 1 + 1 = j by omega]; omega, h.2⟩, sj.trans s3, ?_⟩
      rw [show ((j : Int) - 1) = ((j - 1 : Nat) : Int) by omega]
    · exact kk H3 j (sj.trans s3) (by omega) hlt hj
end
end Dc
end
section
set_option Elab.async false
set_option linter.all false
set_option maxRecDepth 100000
set_option maxHeartbeats 2000000
namespace Dc
open PySem PySem.Spec PyProof.Rows L2
open Sx57 (leap monthDays dayOf dateOk yearStart monthStart)
local macro_rules | `(tactic| walk_at "rd") => `(tactic| simp only [tRet, tSeq, wipe, tYes, gSub, rSetL, tMake, tNotN, rIn, sFld, tIfS, tAndV, tOrV, tNotV, tAnd, tOr, tNot, tB, tTest, tCmp, t2I, tAdd, tSub, tMul, tOp, rI, rI0, tUn, rU, tVar, tC, tCall, tCons, tNil, tIx, tLen, tAsg, gName, tAug, ipI, tIf, tNext, tDrop, tChain, tTup, tLst, tFld, tMeth, tIsN, tCB, tBM, tSl, rSlL, tPart, tNoPart, CDiv, cxK, L2.start, List.length_cons, List.length_nil, List.replicate, List.map_cons, List.map_nil, List.cons_append, List.nil_append, List.append_nil, List.getElem?_cons_zero, List.getElem?_cons_succ, List.set_cons_zero, List.set_cons_succ, List.cons.injEq, and_true, true_and, Option.some.injEq, exists_eq_left', exists_eq_left, V.int.injEq, V.bl.injEq, V.ref.injEq, exists_and_left, decide_eq_true_eq, Nat.reduceAdd, Nat.reduceSub, Int.reduceLT, Int.reducePow, Int.reduceNeg, Bool.not_eq_true', decide_eq_false_iff_not, Bool.false_eq_true, ↓reduceIte, Bool.not_true, Bool.not_false])
/-! ### the book: its object, its lists -/
def natV (n : Nat) : V := .int n
def bookFs (a1 a2 a3 a4 a5 a6 : Addr) : List (Str × V) := [("week_days", .ref a1), ("yearly_days", .ref a2), ("easter_days", .ref a3), ("closed_days", .ref a4), ("ways", .ref a5), ("stops", .ref a6)]
def pairI (p : Nat × Nat) : List Int := [(p.1 : Int), (p.2 : Int)]
def wayI (w : Sx57.Way) : List Int := [(Sx57.bit w.counts : Nat), (w.rest : Int), (w.month : Int)]
structure Bk (H : Hp) (C b : Addr) (st : Sx57.St) (dx a1 a2 a3 a4 a5 a6 : Addr) (ps ws ss : List Addr) : Prop where
  ob : H b = some (.ins C dx (bookFs a1 a2 a3 a4 a5 a6))
  wk : H a1 = some (.lst (st.rests.week.map natV))
  yr : H a2 = some (.lst (ps.map V.ref))
  ea : H a3 = some (.lst (st.rests.easters.map V.int))
  cl : H a4 = some (.lst (st.rests.days.map natV))
  wy : H a5 = some (.lst (ws.map V.ref))
  sp : H a6 = some (.lst (ss.map V.ref))
  yrs : Tups H ps (st.rests.years.map pairI)
  wys : Tups H ws (st.ways.map wayI)
  sps : Tups H ss (st.stops.map pairI)
  nd : [a1, a2, a3, a4, a5, a6].Nodup
/-- the book at b stands for st; own: the objects that a call may change -/
def BookIs (H : Hp) (C b : Addr) (st : Sx57.St) (own : List Addr) : Prop := ∃ dx a1 a2 a3 a4 a5 a6 ps ws ss, own = [b, a1, a2, a3, a4, a5, a6] ∧ Bk H C b st dx a1 a2 a3 a4 a5 a6 ps ws ss
/-- what is not the book's is as it was -/
def Fr (own : List Addr) (H H' : Hp) : Prop := ∀ a o, H a = some o → a ∉ own → H' a = some o
theorem Tups.mono {H H' : Hp} (e : ∀ a o, H a = some (.tup o) → H' a = some (.tup o)) : ∀ {as : List Addr} {yss : List (List Int)}, Tups H as yss → Tups H' as yss
  | _, _, .nil => .nil
  | _, _, .cons h t => .cons (e _ _ h) (Tups.mono e t)
theorem upd_none {H : Hp} {a p : Addr} {o : HO} (h : upd H a o p = none) : p ≠ a ∧ H p = none := by
  by_cases e : p = a
  · subst e
    rw [upd_same] at h
    cases h
  · rw [upd_ne e] at h
    exact ⟨e, h⟩
/-- all that was tracked stands: the book does -/
theorem Bk.same {H H' : Hp} {C b : Addr} {st : Sx57.St} {dx a1 a2 a3 a4 a5 a6 : Addr} {ps ws ss : List Addr} (B : Bk H C b st dx a1 a2 a3 a4 a5 a6 ps ws ss) (e : Same H H') : Bk H' C b st dx a1 a2 a3 a4 a5 a6 ps ws ss :=
  ⟨e _ _ B.ob, e _ _ B.wk, e _ _ B.yr, e _ _ B.ea, e _ _ B.cl, e _ _ B.wy, e _ _ B.sp, B.yrs.mono fun a o h => e _ _ h, B.wys.mono fun a o h => e _ _ h, B.sps.mono fun a o h => e _ _ h, B.nd⟩
theorem BookIs.same {H H' : Hp} {C b : Addr} {st : Sx57.St} {own : List Addr} (B : BookIs H C b st own) (e : Same H H') : BookIs H' C b st own := by
  obtain ⟨dx, a1, a2, a3, a4, a5, a6, ps, ws, ss, eo, B⟩ := B
  exact ⟨dx, a1, a2, a3, a4, a5, a6, ps, ws, ss, eo, B.same e⟩
section
variable {P : Program} {w : World} {K : PySem.W.Frag} {mg : Str → Option Value} {base : Heap}
theorem Txt.na (T : Txt K mg) {f : Str} (h : f ∈ (["closed_days", "easter_days", "stops", "ways", "week_days", "yearly_days"] : List Str) := by decide +kernel) : NoAttr K T.Book.a f := T.Book.na f h
/-- only the object at b has changed, new ones have come -/
def Up (b : Addr) (H H2 : Hp) : Prop := (∀ a o, H a = some o → a ≠ b → H2 a = some o) ∧ ∀ a, H2 a = none → H a = none
theorem Up.trans {b : Addr} {H H1 H2 : Hp} (x : Up b H H1) (z : Up b H1 H2) : Up b H H2 := ⟨fun a o h n => z.1 a o (x.1 a o h n) n, fun a h => x.2 a (z.2 a h)⟩
/-- self.f = [] -/
theorem fld_new {C b dx : Addr} {fs : List (Str × V)} {f : Str} {D : Ends} {σ : L2.St} {H : Hp} (hs : σ[0]? = some (some (.ref b))) (hb : H b = some (.ins C dx fs)) (c : Cls K C) (n : NoAttr K C f) (l : fs.length < 1000)
    (k : ∀ p, H p = none → ∀ H2 : Hp, H2 b = some (.ins C dx (putF f (.ref p) fs)) → H2 p = some (.lst []) → Up b H H2 → D.nx σ H2) : sFld K (tVar 0) (tLst tNil) f D σ H := by
  refine ⟨Nat.zero_le _, fun p e => ⟨_, hs, b, C, dx, fs, rfl, ?_, c, n, l, ?_⟩⟩
  · rw [upd_ne (ne_of_none hb e)]
    exact hb
  · refine k p e _ upd_same ?_ ⟨fun a o h q => ?_, fun a h => ?_⟩
    · rw [upd_ne (ne_of_none hb e).symm, upd_same]
    · rw [upd_ne q, upd_ne (ne_of_none h e)]
      exact h
    · exact (upd_none (upd_none h).2).2
/-! ### Book.forget_all -/
def sp_forget (C : Addr) : Sp := fun vs H Q _ => ∃ (b dx : Addr) (fs : List (Str × V)), vs = [.ref b] ∧ H b = some (.ins C dx fs) ∧ (fs = [] ∨ ∃ a1 a2 a3 a4 a5 a6, fs = bookFs a1 a2 a3 a4 a5 a6) ∧
  ∀ (H' : Hp) (own' : List Addr), BookIs H' C b Sx57.init own' → (∀ a o, H a = some o → a ≠ b → H' a = some o) → (∀ a ∈ own', a = b ∨ H a = none) → Q .non H'
theorem forget_fs {fs : List (Str × V)} (h : fs = [] ∨ ∃ a1 a2 a3 a4 a5 a6, fs = bookFs a1 a2 a3 a4 a5 a6) (p1 p2 p3 p4 p5 p6 : Addr) :
    putF "stops" (.ref p6) (putF "ways" (.ref p5) (putF "closed_days" (.ref p4) (putF "easter_days" (.ref p3) (putF "yearly_days" (.ref p2) (putF "week_days" (.ref p1) fs))))) = bookFs p1 p2 p3 p4 p5 p6 := by
  rcases h with rfl | ⟨a1, a2, a3, a4, a5, a6, rfl⟩ <;> rfl
theorem forget_len {fs : List (Str × V)} (h : fs = [] ∨ ∃ a1 a2 a3 a4 a5 a6, fs = bookFs a1 a2 a3 a4 a5 a6) : fs.length ≤ 6 := by
  rcases h with rfl | ⟨a1, a2, a3, a4, a5, a6, rfl⟩
  · exact Nat.zero_le _
  · exact Nat.le_refl _
theorem putF_len {f : Str} {v : V} : ∀ {fs : List (Str × V)} {n : Nat}, fs.length ≤ n → (putF f v fs).length ≤ n + 1
  | [], _, _ => by show 1 ≤ _; omega
  | (g, x) :: r, n, h => by
    have h : r.length + 1 ≤ n := h
    show (if g = f then (g, v) :: r else (g, x) :: putF f v r).length ≤ n + 1
    split
    · show r.length + 1 ≤ _
      omega
    · show (putF f v r).length + 1 ≤ _
      have := putF_len (f := f) (v := v) (fs := r) (n := n - 1) (by omega)
      omega
theorem ok_Book_forget_all (T : Txt K mg) : FnOk P w K mg base CX0 1 T.Book_forget_all.a T.Book_forget_all.fd ["self"] (sp_forget T.Book.a) := by
  refine T.Book_forget_all.F.ok sc_Book_forget_all (fun vs H Q E h => ?_) (fun cdv A outer s H vs Q E hr h => ?_)
  · obtain ⟨y, _, _, rfl, _⟩ := h
    rfl
  · obtain ⟨b, dx, fs, rfl, hb, hfs, k⟩ := h
    refine ⟨_, (pss_cons (ps_fld (pv 0) (pe_lst pa_nil) rfl)
      (pss_cons (ps_fld (pv 0) (pe_lst pa_nil) rfl)
      (pss_cons (ps_fld (pv 0) (pe_lst pa_nil) rfl)
      (pss_cons (ps_fld (pv 0) (pe_lst pa_nil) rfl)
      (pss_cons (ps_fld (pv 0) (pe_lst pa_nil) rfl)
      (pss_one (ps_fld (pv 0) (pe_lst pa_nil) rfl))))))), ?_⟩
    have l0 := forget_len hfs
    refine fld_new (C := T.Book.a) (b := b) rfl hb T.Book.cl T.na (by omega) fun p1 e1 H1 b1 q1 u1 => ?_
    have l1 := putF_len (f := "week_days") (v := .ref p1) l0
    refine fld_new (C := T.Book.a) (b := b) rfl b1 T.Book.cl T.na (by omega) fun p2 e2 H2 b2 q2 u2 => ?_
    have l2 := putF_len (f := "yearly_days") (v := .ref p2) l1
    refine fld_new (C := T.Book.a) (b := b) rfl b2 T.Book.cl T.na (by omega) fun p3 e3 H3 b3 q3 u3 => ?_
    have l3 := putF_len (f := "easter_days") (v := .ref p3) l2
    refine fld_new (C := T.Book.a) (b := b) rfl b3 T.Book.cl T.na (by omega) fun p4 e4 H4 b4 q4 u4 => ?_
    have l4 := putF_len (f := "closed_days") (v := .ref p4) l3
    refine fld_new (C := T.Book.a) (b := b) rfl b4 T.Book.cl T.na (by omega) fun p5 e5 H5 b5 q5 u5 => ?_
    have l5 := putF_len (f := "ways") (v := .ref p5) l4
    refine fld_new (C := T.Book.a) (b := b) rfl b5 T.Book.cl T.na (by omega) fun p6 e6 H6 b6 q6 u6 => ?_
    rw [forget_fs hfs] at b6
    have u56 := u6
    have u46 := u5.trans u6
    have u36 := u4.trans u46
    have u26 := u3.trans u36
    have u16 := u2.trans u26
    have u06 := u1.trans u16
    have nb : ∀ {p : Addr} {Hx : Hp}, Hx p = some (.lst []) → (∃ fs, Hx b = some (.ins T.Book.a dx fs)) → p ≠ b := fun h ⟨fs, h2⟩ => ne_of h h2 (by intro q; cases q)
    have n1 := nb q1 ⟨_, b1⟩
    have n2 := nb q2 ⟨_, b2⟩
    have n3 := nb q3 ⟨_, b3⟩
    have n4 := nb q4 ⟨_, b4⟩
    have n5 := nb q5 ⟨_, b5⟩
    have n6 := nb q6 ⟨_, b6⟩
    have z1 := u16.1 _ _ q1 n1
    have z2 := u26.1 _ _ q2 n2
    have z3 := u36.1 _ _ q3 n3
    have z4 := u46.1 _ _ q4 n4
    have z5 := u56.1 _ _ q5 n5
    have w2 := u1.2 _ e2
    have w3 := u1.2 _ (u2.2 _ e3)
    have w4 := u1.2 _ (u2.2 _ (u3.2 _ e4))
    have w5 := u1.2 _ (u2.2 _ (u3.2 _ (u4.2 _ e5)))
    have w6 := u1.2 _ (u2.2 _ (u3.2 _ (u4.2 _ (u5.2 _ e6))))
    have d12 : p1 ≠ p2 := ne_of_none q1 e2
    have d13 : p1 ≠ p3 := ne_of_none q1 (u2.2 _ e3)
    have d14 : p1 ≠ p4 := ne_of_none q1 (u2.2 _ (u3.2 _ e4))
    have d15 : p1 ≠ p5 := ne_of_none q1 (u2.2 _ (u3.2 _ (u4.2 _ e5)))
    have d16 : p1 ≠ p6 := ne_of_none q1 (u2.2 _ (u3.2 _ (u4.2 _ (u5.2 _ e6))))
    have d23 : p2 ≠ p3 := ne_of_none q2 e3
    have d24 : p2 ≠ p4 := ne_of_none q2 (u3.2 _ e4)
    have d25 : p2 ≠ p5 := ne_of_none q2 (u3.2 _ (u4.2 _ e5))
    have d26 : p2 ≠ p6 := ne_of_none q2 (u3.2 _ (u4.2 _ (u5.2 _ e6)))
    have d34 : p3 ≠ p4 := ne_of_none q3 e4
    have d35 : p3 ≠ p5 := ne_of_none q3 (u4.2 _ e5)
    have d36 : p3 ≠ p6 := ne_of_none q3 (u4.2 _ (u5.2 _ e6))
    have d45 : p4 ≠ p5 := ne_of_none q4 e5
    have d46 : p4 ≠ p6 := ne_of_none q4 (u5.2 _ e6)
    have d56 : p5 ≠ p6 := ne_of_none q5 e6
    refine k H6 [b, p1, p2, p3, p4, p5, p6] ⟨dx, p1, p2, p3, p4, p5, p6, [], [], [], rfl, b6, z1, z2, z3, z4, z5, q6, .nil, .nil, .nil, ?_⟩ u06.1 ?_
    · simp [d12, d13, d14, d15, d16, d23, d24, d25, d26, d34, d35, d36, d45, d46, d56]
    · intro a ha
      simp only [List.mem_cons, List.not_mem_nil, or_false] at ha
      rcases ha with rfl | rfl | rfl | rfl | rfl | rfl | rfl
      · exact .inl rfl
      all_goals (right; assumption)
/-! ### Book.__init__ -/
theorem ok_Book_init (T : Txt K mg) : FnOk P w K mg base CX0 2 T.Book_init.a T.Book_init.fd ["self"] (sp_forget T.Book.a) := by
  refine T.Book_init.F.ok sc_Book_init (fun vs H Q E h => ?_) (fun cdv A outer s H vs Q E hr h => ?_)
  · obtain ⟨y, _, _, rfl, _⟩ := h
    rfl
  · obtain ⟨b, dx, fs, rfl, hb, hfs, k⟩ := h
    refine ⟨_, (pss_one (ps_expr (pe_meth0 (pv 0) T.Book.cl T.Book_forget_all.m (ok_Book_forget_all T) (hr.mono (by decide : 1 ≤ 1)) T.Book_forget_all.b .nil pass0))), ?_⟩
    refine ⟨_, rfl, b, dx, fs, rfl, hb, ?_, b, dx, fs, rfl, hb, hfs, k⟩
    rcases hfs with rfl | ⟨a1, a2, a3, a4, a5, a6, rfl⟩ <;> rfl
theorem DateAt.same {H H' : Hp} {v : V} {y m d : Nat} (h : DateAt K H v y m d) (e : Same H H') : DateAt K H' v y m d := by
  obtain ⟨a, rfl, h | h⟩ := h
  · exact ⟨a, rfl, .inl (e.seq h)⟩
  · refine ⟨a, rfl, .inr ?_⟩
    rcases h with (h | ⟨o, h⟩) | h
    · exact .inl (.inl (e _ _ h))
    · exact .inl (.inr ⟨o, e _ _ h⟩)
    · exact .inr h
theorem flat_nat (l : List Nat) : (l.map natV).all flatV = true := by
  rw [List.all_map]
  exact List.all_eq_true.mpr fun _ _ => rfl
theorem flat_int (l : List Int) : (l.map V.int).all flatV = true := by
  rw [List.all_map]
  exact List.all_eq_true.mpr fun _ _ => rfl
theorem inV_nat (n : Nat) : ∀ l : List Nat, inV (.int n) (l.map natV) = l.contains n
  | [] => rfl
  | x :: l => by
    have ih := inV_nat n l
    show ((x : Int) == (n : Int) || inV (.int n) (l.map natV)) = _
    rw [ih, List.contains_cons]
    congr 1
    by_cases e : x = n
    · subst e
      simp
    · rw [beq_eq_false_iff_ne.mpr (show (x : Int) ≠ n by omega), beq_eq_false_iff_ne.mpr (fun q => e q.symm)]
theorem inV_int (n : Int) : ∀ l : List Int, inV (.int n) (l.map V.int) = l.contains n
  | [] => rfl
  | x :: l => by
    have ih := inV_int n l
    show (x == n || inV (.int n) (l.map V.int)) = _
    rw [ih, List.contains_cons]
    congr 1
    by_cases e : x = n
    · subst e
      simp
    · rw [beq_eq_false_iff_ne.mpr e, beq_eq_false_iff_ne.mpr (fun q => e q.symm)]
theorem contains_pair (m d : Nat) : ∀ l : List (Nat × Nat), (l.map pairI).contains [(m : Int), (d : Int)] = l.contains (m, d)
  | [] => rfl
  | x :: l => by
    rw [List.map_cons, List.contains_cons, List.contains_cons, contains_pair m d l]
    congr 1
    obtain ⟨a, b⟩ := x
    by_cases e : (m, d) = (a, b)
    · cases e
      simp [pairI]
    · rw [beq_eq_false_iff_ne.mpr e]
      refine beq_eq_false_iff_ne.mpr fun q => e ?_
      have q : [(m : Int), (d : Int)] = [(a : Int), (b : Int)] := q
      have q1 := (List.cons.inj q).1
      have q2 := (List.cons.inj (List.cons.inj q).2).1
      congr 1
      · omega
      · omega
theorem easter_eq (y : Nat) : Sx57.easter y = dayOf ⟨y, eaN y / 31, eaN y % 31 + 1⟩ := rfl
theorem eaN_ok (y : Nat) : 1 ≤ eaN y / 31 ∧ eaN y / 31 ≤ 12 := by
  dsimp only [eaN]
  have hh : (19 * (y % 19) + y / 100 - y / 100 / 4 - (y / 100 - (y / 100 + 8) / 25 + 1) / 3 + 15) % 30 < 30 := Nat.mod_lt _ (by decide)
  generalize (19 * (y % 19) + y / 100 - y / 100 / 4 - (y / 100 - (y / 100 + 8) / 25 + 1) / 3 + 15) % 30 = h at hh ⊢
  have hl : (32 + 2 * (y / 100 % 4) + 2 * (y % 100 / 4) - h - y % 100 % 4) % 7 < 7 := Nat.mod_lt _ (by decide)
  generalize (32 + 2 * (y / 100 % 4) + 2 * (y % 100 / 4) - h - y % 100 % 4) % 7 = l at hl ⊢
  have ha : y % 19 < 19 := Nat.mod_lt _ (by decide)
  generalize y % 19 = a at ha ⊢
  omega
theorem on_eq (r : Sx57.Rests) {x : Sx57.Date} (h : Cal.Good x) (hy : x.year ≤ 4000) : r.on (dayOf x) = (r.week.contains (Sx57.weekday (dayOf x)) || (r.years.contains (x.month, x.day) || (r.days.contains (dayOf x) || r.easters.contains ((dayOf x : Int) - (Sx57.easter x.year : Nat))))) := by
  unfold Sx57.Rests.on
  rw [Cal.dateOf_dayOf h hy]
  cases r.easters with
  | nil => rfl
  | cons a l => rfl
theorem tups_get {H : Hp} : ∀ {as : List Addr} {yss : List (List Int)} {j : Nat} {a : Addr} {ys : List Int}, Tups H as yss → as[j]? = some a → yss[j]? = some ys → H a = some (.tup (ys.map V.int))
  | _, _, _, _, _, .nil, h, _ => by simp at h
  | _, _, 0, _, _, .cons h _, e1, e2 => by
    have e1 := Option.some.inj e1
    have e2 := Option.some.inj e2
    subst e1 e2
    exact h
  | _, _, j + 1, _, _, .cons _ t, e1, e2 => tups_get (j := j) t e1 e2
theorem at_last {xs : List V} {v : V} (h : xs[xs.length - 1]? = some v) : atI xs (-1 : Int) = some v := by
  have hl : xs.length - 1 < xs.length := (List.getElem?_eq_some_iff.mp h).1
  unfold atI ixN
  rw [if_neg (by decide), if_pos (by omega)]
  show xs[((-1 : Int) + xs.length).toNat]? = some v
  rw [show ((-1 : Int) + xs.length).toNat = xs.length - 1 by omega]
  exact h
/-! ### Book.is_behind_stops -/
def sp_behind (C : Addr) : Sp := fun vs H Q _ => ∃ (b : Addr) (own : List Addr) (st : Sx57.St) (n : Nat), vs = [.ref b, .int n] ∧ BookIs H C b st own ∧ Okst st ∧ Q (.bl (!(st.stops.any fun x => decide (n ≤ x.2)))) H
theorem any_last {n : Nat} : ∀ {l : List (Nat × Nat)}, (∀ x ∈ l, x.1 ≤ x.2) → (l.Pairwise fun x z => x.2 < z.1) → ∀ {e : Nat × Nat}, l[l.length - 1]? = some e → (l.any fun x => decide (n ≤ x.2)) = decide (n ≤ e.2)
  | [], _, _, e, h => by simp at h
  | [x], _, _, e, h => by
    have h : x = e := Option.some.inj h
    subst h
    simp
  | x :: z :: l, ho, hp, e, h => by
    have hp' := List.pairwise_cons.mp hp
    have ih := any_last (n := n) (l := z :: l) (fun q hq => ho q (List.mem_cons_of_mem _ hq)) hp'.2 (e := e) h
    rw [List.any_cons, ih]
    have me : e ∈ z :: l := List.mem_of_getElem? h
    have l1 := hp'.1 e me
    have l2 := ho e (List.mem_cons_of_mem _ me)
    by_cases c : n ≤ x.2
    · rw [decide_eq_true c, decide_eq_true (show n ≤ e.2 by omega)]
      rfl
    · rw [decide_eq_false c]
      rfl
theorem ok_Book_is_behind_stops (T : Txt K mg) : FnOk P w K mg base CX0 1 T.Book_is_behind_stops.a T.Book_is_behind_stops.fd ["self", "number"] (sp_behind T.Book.a) := by
  refine T.Book_is_behind_stops.F.ok sc_Book_is_behind_stops (fun vs H Q E h => ?_) (fun cdv A outer s H vs Q E hr h => ?_)
  · obtain ⟨b, _, _, _, rfl, _⟩ := h
    rfl
  · obtain ⟨b, own, st, n, rfl, ⟨dx, a1, a2, a3, a4, a5, a6, ps, ws, ss, eo, B⟩, O, k⟩ := h
    refine ⟨_, (pss_one (ps_ret (pe_or (pe_cmp (pc_eqI (pe_len (pe_fld (pv 0) rfl) rfl T.n_len) pe_int)) (pe_one (pe_cmp (pc_gt (pv 1) (pe_item (pe_item (pe_fld (pv 0) rfl) (pe_un un_neg pe_int)) pe_int))))))), ?_⟩
    walk_at "rd"
    have hl : ss.length = st.stops.length := by
      have := Paired.length B.sps
      rw [List.length_map] at this
      exact this
    refine ⟨_, dx, _, B.ob, T.Book.cl, T.na, _, rfl, a6, rfl, _, .inl (SqL.of B.sp), ite2 (fun c => ?_) fun c => ⟨_, dx, _, B.ob, T.Book.cl, T.na, _, rfl, a6, rfl, _, .inl (SqL.of B.sp), ?_⟩⟩
    · have e : st.stops = [] := by
        rw [List.length_map] at c
        exact List.eq_nil_of_length_eq_zero (by omega)
      rw [e] at k
      exact k
    · rw [List.length_map] at c
      obtain ⟨e, he⟩ : ∃ e, st.stops[st.stops.length - 1]? = some e := ⟨_, List.getElem?_eq_getElem (by omega)⟩
      obtain ⟨p, hp⟩ : ∃ p, ss[ss.length - 1]? = some p := ⟨_, List.getElem?_eq_getElem (by omega)⟩
      have hq := tups_get B.sps hp (show (st.stops.map pairI)[ss.length - 1]? = some (pairI e) by rw [List.getElem?_map, hl, he]; rfl)
      refine ⟨V.ref p, at_last (by rw [List.length_map, List.getElem?_map, hp]; rfl), p, rfl, _, .inr (SqT.of hq), _, at1, _, rfl, ?_⟩
      rw [any_last (fun x hx => (O.so x hx).1) O.rise he] at k
      rw [show decide ((e.2 : Int) < n) = !decide (n ≤ e.2) by
        by_cases c : n ≤ e.2
        · rw [decide_eq_true c, decide_eq_false (by omega)]
          rfl
        · rw [decide_eq_false c, decide_eq_true (by omega)]
          rfl]
      exact k
end
end Dc
end
section
set_option Elab.async false
set_option linter.all false
set_option maxRecDepth 100000
set_option maxHeartbeats 2000000
namespace Dc
open PySem PySem.Spec PyProof.Rows L2
open Sx57 (leap monthDays dayOf dateOk yearStart monthStart)
local macro_rules | `(tactic| walk_at "rd") => `(tactic| simp only [tRet, tSeq, wipe, tYes, gSub, rSetL, tMake, tNotN, rIn, sFld, tIfS, tAndV, tOrV, tNotV, tAnd, tOr, tNot, tB, tTest, tCmp, t2I, tAdd, tSub, tMul, tOp, rI, rI0, tUn, rU, tVar, tC, tCall, tCons, tNil, tIx, tLen, tAsg, gName, tAug, ipI, tIf, tNext, tDrop, tChain, tTup, tLst, tFld, tMeth, tIsN, tCB, tBM, tSl, rSlL, tPart, tNoPart, CDiv, cxK, L2.start, List.length_cons, List.length_nil, List.replicate, List.map_cons, List.map_nil, List.cons_append, List.nil_append, List.append_nil, List.getElem?_cons_zero, List.getElem?_cons_succ, List.set_cons_zero, List.set_cons_succ, List.cons.injEq, and_true, true_and, Option.some.injEq, exists_eq_left', exists_eq_left, V.int.injEq, V.bl.injEq, V.ref.injEq, exists_and_left, decide_eq_true_eq, Nat.reduceAdd, Nat.reduceSub, Int.reduceLT, Int.reducePow, Int.reduceNeg, Bool.not_eq_true', decide_eq_false_iff_not, Bool.false_eq_true, ↓reduceIte, Bool.not_true, Bool.not_false])
/-! ### what a call leaves behind -/
def ansOf (x : Sx57.Ans) : List Int := x.v :: x.l
def After (H : Hp) (C b : Addr) (own : List Addr) (st' : Sx57.St) (ans : List Int) (Q : VK) : Prop := ∀ (H' : Hp) (r : Addr) (own' : List Addr), BookIs H' C b st' own' → H' r = some (.lst (ans.map V.int)) → H r = none → r ∉ own' → Fr own H H' →
  (∀ a ∈ own', a ∈ own ∨ H a = none) → Q (.ref r) H'
def spC (K : PySem.W.Frag) (C : Addr) (A : List V → Sx57.Call → Prop) : Sp := fun vs H Q _ => ∃ (b l : Addr) (xs : List V) (st : Sx57.St) (own : List Addr) (c : Sx57.Call), vs = [.ref b, .ref l] ∧ BookIs H C b st own ∧ Okst st ∧ SqL K H l xs ∧ A xs c ∧
  After H C b own (Sx57.step st c).1 (ansOf (Sx57.step st c).2) Q
theorem BookIs.live {H : Hp} {C b : Addr} {st : Sx57.St} {own : List Addr} (B : BookIs H C b st own) {a : Addr} (h : a ∈ own) : ∃ o, H a = some o := by
  obtain ⟨dx, a1, a2, a3, a4, a5, a6, ps, ws, ss, rfl, B⟩ := B
  simp only [List.mem_cons, List.not_mem_nil, or_false] at h
  rcases h with rfl | rfl | rfl | rfl | rfl | rfl | rfl
  · exact ⟨_, B.ob⟩
  · exact ⟨_, B.wk⟩
  · exact ⟨_, B.yr⟩
  · exact ⟨_, B.ea⟩
  · exact ⟨_, B.cl⟩
  · exact ⟨_, B.wy⟩
  · exact ⟨_, B.sp⟩
/-- nothing but new objects: the answer's list -/
theorem After.plain {H H1 : Hp} {C b : Addr} {own : List Addr} {st : Sx57.St} {ans : List Int} {Q : VK} (k : After H C b own st ans Q) (B : BookIs H C b st own) (s1 : Same H H1) {r : Addr} (hr : H1 r = none) : Q (.ref r) (upd H1 r (.lst (ans.map V.int))) := by
  have s2 : Same H1 (upd H1 r (.lst (ans.map V.int))) := Same.upd hr
  refine k _ r own (B.same (s1.trans s2)) upd_same (s1.free hr) (fun h => ?_) (fun a o h _ => (s1.trans s2) a o h) fun a h => .inl h
  obtain ⟨o, e⟩ := B.live h
  rw [s1.free hr] at e
  cases e
/-- one of the book's objects has changed -/
theorem After.done {H H1 : Hp} {C b : Addr} {own : List Addr} {st' : Sx57.St} {ans : List Int} {Q : VK} (k : After H C b own st' ans Q) {x : Addr} {o : HO} (s1 : Same H H1) (hx : x ∈ own) (B : BookIs (upd H1 x o) C b st' own) {r : Addr} (hr : upd H1 x o r = none) :
    Q (.ref r) (upd (upd H1 x o) r (.lst (ans.map V.int))) := by
  have s2 : Same (upd H1 x o) (upd (upd H1 x o) r (.lst (ans.map V.int))) := Same.upd hr
  refine k _ r own (B.same s2) upd_same (s1.free (upd_none hr).2) (fun h => ?_) (fun a u h n => s2 a u ?_) fun a h => .inl h
  · obtain ⟨u, e⟩ := B.live h
    rw [hr] at e
    cases e
  · rw [upd_ne fun e : a = x => n (by rw [e]; exact hx)]
    exact s1 a u h
/-! ### the book's lists grow -/
section
variable {H : Hp} {C b : Addr} {st : Sx57.St} {dx a1 a2 a3 a4 a5 a6 : Addr} {ps ws ss : List Addr}
theorem keepT {x : Addr} {xs zs : List V} (hx : H x = some (.lst xs)) (a : Addr) (o : List V) (h : H a = some (.tup o)) : upd H x (.lst zs) a = some (.tup o) := by
  rw [upd_ne (ne_of h hx (by intro q; cases q))]
  exact h
theorem Bk.nes (B : Bk H C b st dx a1 a2 a3 a4 a5 a6 ps ws ss) : a1 ≠ a2 ∧ a1 ≠ a3 ∧ a1 ≠ a4 ∧ a1 ≠ a5 ∧ a1 ≠ a6 ∧ a2 ≠ a3 ∧ a2 ≠ a4 ∧ a2 ≠ a5 ∧ a2 ≠ a6 ∧ a3 ≠ a4 ∧ a3 ≠ a5 ∧ a3 ≠ a6 ∧ a4 ≠ a5 ∧ a4 ≠ a6 ∧ a5 ≠ a6 := by
  have h := B.nd
  simp only [List.nodup_cons, List.mem_cons, List.not_mem_nil, or_false, not_or, not_false_eq_true, List.nodup_nil, and_true] at h
  obtain ⟨⟨h1, h2, h3, h4, h5⟩, ⟨h6, h7, h8, h9⟩, ⟨h10, h11, h12⟩, ⟨h13, h14⟩, h15⟩ := h
  exact ⟨h1, h2, h3, h4, h5, h6, h7, h8, h9, h10, h11, h12, h13, h14, h15⟩
theorem bkNe {x : Addr} {xs : List V} {fs : List (Str × V)} (hb : H b = some (.ins C dx fs)) (hx : H x = some (.lst xs)) : b ≠ x := ne_of hb hx (by intro q; cases q)
theorem Bk.addYear (B : Bk H C b st dx a1 a2 a3 a4 a5 a6 ps ws ss) {q : Addr} {m d : Nat} (hq : H q = some (.tup ((pairI (m, d)).map V.int))) :
    Bk (upd H a2 (.lst (ps.map V.ref ++ [.ref q]))) C b { st with rests := { st.rests with years := st.rests.years ++ [(m, d)] } } dx a1 a2 a3 a4 a5 a6 (ps ++ [q]) ws ss := by
  obtain ⟨n12, n13, n14, n15, n16, n23, n24, n25, n26, n34, n35, n36, n45, n46, n56⟩ := B.nes
  refine ⟨by rw [upd_ne (bkNe B.ob B.yr)]; exact B.ob, by rw [upd_ne n12]; exact B.wk, by rw [upd_same, List.map_append]; rfl, by rw [upd_ne n23.symm]; exact B.ea, by rw [upd_ne n24.symm]; exact B.cl, by rw [upd_ne n25.symm]; exact B.wy, by rw [upd_ne n26.symm]; exact B.sp, ?_, B.wys.mono (keepT B.yr), B.sps.mono (keepT B.yr), B.nd⟩
  show Tups _ _ ((st.rests.years ++ [(m, d)]).map pairI)
  rw [List.map_append]
  exact (B.yrs.mono (keepT B.yr)).snoc (keepT B.yr _ _ hq)
theorem Bk.addEaster (B : Bk H C b st dx a1 a2 a3 a4 a5 a6 ps ws ss) (k : Int) :
    Bk (upd H a3 (.lst (st.rests.easters.map V.int ++ [.int k]))) C b { st with rests := { st.rests with easters := st.rests.easters ++ [k] } } dx a1 a2 a3 a4 a5 a6 ps ws ss := by
  obtain ⟨n12, n13, n14, n15, n16, n23, n24, n25, n26, n34, n35, n36, n45, n46, n56⟩ := B.nes
  exact ⟨by rw [upd_ne (bkNe B.ob B.ea)]; exact B.ob, by rw [upd_ne n13]; exact B.wk, by rw [upd_ne n23]; exact B.yr, by rw [upd_same, List.map_append]; rfl, by rw [upd_ne n34.symm]; exact B.cl, by rw [upd_ne n35.symm]; exact B.wy, by rw [upd_ne n36.symm]; exact B.sp, B.yrs.mono (keepT B.ea), B.wys.mono (keepT B.ea), B.sps.mono (keepT B.ea), B.nd⟩
theorem Bk.addDay (B : Bk H C b st dx a1 a2 a3 a4 a5 a6 ps ws ss) (n : Nat) :
    Bk (upd H a4 (.lst (st.rests.days.map natV ++ [.int n]))) C b { st with rests := { st.rests with days := st.rests.days ++ [n] } } dx a1 a2 a3 a4 a5 a6 ps ws ss := by
  obtain ⟨n12, n13, n14, n15, n16, n23, n24, n25, n26, n34, n35, n36, n45, n46, n56⟩ := B.nes
  exact ⟨by rw [upd_ne (bkNe B.ob B.cl)]; exact B.ob, by rw [upd_ne n14]; exact B.wk, by rw [upd_ne n24]; exact B.yr, by rw [upd_ne n34]; exact B.ea, by rw [upd_same, List.map_append]; rfl, by rw [upd_ne n45.symm]; exact B.wy, by rw [upd_ne n46.symm]; exact B.sp, B.yrs.mono (keepT B.cl), B.wys.mono (keepT B.cl), B.sps.mono (keepT B.cl), B.nd⟩
theorem Bk.addWay (B : Bk H C b st dx a1 a2 a3 a4 a5 a6 ps ws ss) {q : Addr} {w : Sx57.Way} (hq : H q = some (.tup ((wayI w).map V.int))) :
    Bk (upd H a5 (.lst (ws.map V.ref ++ [.ref q]))) C b { st with ways := st.ways ++ [w] } dx a1 a2 a3 a4 a5 a6 ps (ws ++ [q]) ss := by
  obtain ⟨n12, n13, n14, n15, n16, n23, n24, n25, n26, n34, n35, n36, n45, n46, n56⟩ := B.nes
  refine ⟨by rw [upd_ne (bkNe B.ob B.wy)]; exact B.ob, by rw [upd_ne n15]; exact B.wk, by rw [upd_ne n25]; exact B.yr, by rw [upd_ne n35]; exact B.ea, by rw [upd_ne n45]; exact B.cl, by rw [upd_same, List.map_append]; rfl, by rw [upd_ne n56.symm]; exact B.sp, B.yrs.mono (keepT B.wy), ?_, B.sps.mono (keepT B.wy), B.nd⟩
  show Tups _ _ ((st.ways ++ [w]).map wayI)
  rw [List.map_append]
  exact (B.wys.mono (keepT B.wy)).snoc (keepT B.wy _ _ hq)
theorem Bk.addStop (B : Bk H C b st dx a1 a2 a3 a4 a5 a6 ps ws ss) {q : Addr} {x : Nat × Nat} (hq : H q = some (.tup ((pairI x).map V.int))) :
    Bk (upd H a6 (.lst (ss.map V.ref ++ [.ref q]))) C b { st with stops := st.stops ++ [x] } dx a1 a2 a3 a4 a5 a6 ps ws (ss ++ [q]) := by
  obtain ⟨n12, n13, n14, n15, n16, n23, n24, n25, n26, n34, n35, n36, n45, n46, n56⟩ := B.nes
  refine ⟨by rw [upd_ne (bkNe B.ob B.sp)]; exact B.ob, by rw [upd_ne n16]; exact B.wk, by rw [upd_ne n26]; exact B.yr, by rw [upd_ne n36]; exact B.ea, by rw [upd_ne n46]; exact B.cl, by rw [upd_ne n56]; exact B.wy, by rw [upd_same, List.map_append]; rfl, B.yrs.mono (keepT B.sp), B.wys.mono (keepT B.sp), ?_, B.nd⟩
  show Tups _ _ ((st.stops ++ [x]).map pairI)
  rw [List.map_append]
  exact (B.sps.mono (keepT B.sp)).snoc (keepT B.sp _ _ hq)
end
section
variable {P : Program} {w : World} {K : PySem.W.Frag} {mg : Str → Option Value} {base : Heap}
theorem nx_to {D : Ends} {σ : L2.St} {H : Hp} (h : D.nx σ H) : tNext D σ H := h
/-! ### begins -/
def A_begins (xs : List V) (c : Sx57.Call) : Prop := c = .begins
theorem ok_begins (T : Txt K mg) : FnOk P w K mg base CX0 2 T.begins.a T.begins.fd ["book", "numbers"] (spC K T.Book.a A_begins) := by
  refine T.begins.F.ok sc_begins (fun vs H Q E h => ?_) (fun cdv A outer s H vs Q E hr h => ?_)
  · obtain ⟨b, l, _, _, _, _, rfl, _⟩ := h
    rfl
  · obtain ⟨b, l, xs, st, own, c, rfl, B0, O, hl, rfl, k⟩ := h
    have BB := B0
    obtain ⟨dx, a1, a2, a3, a4, a5, a6, ps, ws, ss, eo, B⟩ := B0
    refine ⟨_, (pss_cons (ps_expr (pe_meth0 (pv 0) T.Book.cl T.Book_forget_all.m (ok_Book_forget_all T) (hr.mono (by decide : 1 ≤ 1)) T.Book_forget_all.b .nil pass0))
      (pss_one (ps_ret (pe_lst (pa_cons pe_int pa_nil))))), ?_⟩
    refine ⟨_, rfl, b, dx, _, rfl, B.ob, rfl, b, dx, _, rfl, B.ob, .inr ⟨_, _, _, _, _, _, rfl⟩, fun H' own' B' e1 e2 => ?_⟩
    refine ⟨by show 1 ≤ sizeLine; decide, fun p hp => ?_⟩
    have s2 : Same H' (upd H' p (.lst (([0] : List Int).map V.int))) := Same.upd hp
    have hf : H p = none := by
      cases q : H p with
      | none => rfl
      | some o =>
        by_cases ep : p = b
        · subst ep
          obtain ⟨u, e⟩ := B'.live (a := p) (by obtain ⟨_, _, _, _, _, _, _, _, _, _, rfl, _⟩ := B'; exact List.mem_cons_self ..)
          rw [hp] at e
          cases e
        · rw [e1 _ _ q ep] at hp
          cases hp
    refine k _ p own' (B'.same s2) upd_same hf (fun h => ?_) (fun a o h n => s2 a o (e1 a o h fun e => n ?_)) fun a h => ?_
    · obtain ⟨u, e⟩ := B'.live h
      rw [hp] at e
      cases e
    · rw [e, eo]
      exact List.mem_cons_self ..
    · rcases e2 a h with rfl | e
      · left
        rw [eo]
        exact List.mem_cons_self ..
      · exact .inr e
/-! ### are_weekdays -/
def sp_are_weekdays (K : PySem.W.Frag) : Sp := fun vs H Q _ => ∃ (l : Addr) (ds : List Nat), vs = [.ref l] ∧ SqL K H l (ds.map natV) ∧ ds.length ≤ 20 ∧ Q (.bl (Sx57.rising ds && (decide (ds.length ≤ 6) && ds.all fun d => decide (d ≤ 6)))) H
/-- the days so far rise, and are no more than 6 -/
def wkOk : Int → List Nat → Bool
  | _, [] => true
  | p, d :: l => decide (p < d) && (decide (d ≤ 6) && wkOk d l)
theorem wkOk_eq : ∀ (l : List Nat) (p : Nat), wkOk p l = (Sx57.rising (p :: l) && l.all fun d => decide (d ≤ 6))
  | [], p => rfl
  | d :: l, p => by
    show (decide ((p : Int) < d) && (decide (d ≤ 6) && wkOk d l)) = ((decide (p < d) && Sx57.rising (d :: l)) && (decide (d ≤ 6) && l.all fun d => decide (d ≤ 6)))
    rw [wkOk_eq l d, show decide ((p : Int) < d) = decide (p < d) from decide_eq_decide.mpr (by omega)]
    cases decide (p < d) <;> cases decide (d ≤ 6) <;> cases Sx57.rising (d :: l) <;> rfl
theorem wkOk_start (l : List Nat) : wkOk (-1) l = (Sx57.rising l && l.all fun d => decide (d ≤ 6)) := by
  cases l with
  | nil => rfl
  | cons d l =>
    show (decide ((-1 : Int) < d) && (decide (d ≤ 6) && wkOk d l)) = (Sx57.rising (d :: l) && (decide (d ≤ 6) && l.all fun d => decide (d ≤ 6)))
    rw [wkOk_eq l d, decide_eq_true (show (-1 : Int) < d by omega)]
    cases decide (d ≤ 6) <;> cases Sx57.rising (d :: l) <;> rfl
theorem ok_are_weekdays (T : Txt K mg) : FnOk P w K mg base CX0 1 T.are_weekdays.a T.are_weekdays.fd ["days"] (sp_are_weekdays K) := by
  refine T.are_weekdays.F.ok sc_are_weekdays (fun vs H Q E h => ?_) (fun cdv A outer s H vs Q E hr h => ?_)
  · obtain ⟨l, _, rfl, _⟩ := h
    rfl
  · obtain ⟨l, ds, rfl, hl, hn, k⟩ := h
    refine ⟨_, (pss_cons (ps_if (pt_cmp (pc_gt (pe_len (pv 0) rfl T.n_len) (pe_globI rfl T.g_MOST_WEEKDAYS))) (pss_one (ps_ret pe_bl)) pss_nil)
      (pss_cons (ps_set (i := 1) sc_are_weekdays.nd rfl (Or.inl rfl) (pe_un un_neg pe_int))
      (pss_cons (ps_for PassesOwn.never rfl (pi_list (pv 0)) (pg_name (i := 2) sc_are_weekdays.nd rfl (Or.inl rfl))
      (pss_cons (ps_if (PW.pt (pw_or (pt_cmp (pc_le (pv 2) (pv 1))) (pw_or1 (pt_cmp (pc_gt (pv 2) (pe_globI rfl T.g_LAST_WEEKDAY)))))) (pss_one (ps_ret pe_bl)) pss_nil)
      (pss_one (ps_set (i := 1) sc_are_weekdays.nd rfl (Or.inl rfl) (pv 2)))))
      (pss_one (ps_ret pe_bl))))), ?_⟩
    rw [show (Sx57.rising ds && (decide (ds.length ≤ 6) && ds.all fun d => decide (d ≤ 6))) = (decide (ds.length ≤ 6) && wkOk (-1) ds) by
      rw [wkOk_start]
      cases decide (ds.length ≤ 6) <;> cases Sx57.rising ds <;> rfl] at k
    refine ⟨_, rfl, _, _, rfl, .inl hl, _, _, rfl, rfl, _, rfl, ?_⟩
    rw [List.length_map]
    refine ite2 (fun c => ?_) fun c => ?_
    · rw [decide_eq_false (show ¬ ds.length ≤ 6 by have := of_decide_eq_true c; omega)] at k
      exact k
    have c' : ds.length ≤ 6 := by
      have := mt decide_eq_true c
      omega
    rw [decide_eq_true c', Bool.true_and] at k
    refine nx_to ?_
    dsimp only
    refine tSeq_to (σ1 := [some (.ref l), some (.int (-1)), none]) (H1 := H) (fun R r => ?_) ?_
    · walk_at "rd"
      exact r
    refine ⟨_, rfl, l, rfl, ⟨_, hl⟩, for_list (K := K) (a := l) (xs := ds.map natV) (fun i σ H' => H' = H ∧ ∃ (p : Int) (v : Option V), σ = [some (.ref l), some (.int p), v] ∧ wkOk (-1) ds = wkOk p (ds.drop i)) ⟨rfl, -1, none, rfl, rfl⟩ (fun i σ H' _ h => by rw [h.1]; exact hl) ?_ ?_⟩
    · rintro i x σ H' hi ⟨rfl, p, v, rfl, e⟩
      obtain ⟨d, hd, rfl⟩ : ∃ d, ds[i]? = some d ∧ x = natV d := by
        rw [List.getElem?_map] at hi
        cases q : ds[i]? with
        | none => rw [q] at hi; cases hi
        | some d => rw [q] at hi; exact ⟨d, rfl, (Option.some.inj hi).symm⟩
      have ed : ds.drop i = d :: ds.drop (i + 1) := by
        obtain ⟨h1, h2⟩ := List.getElem?_eq_some_iff.mp hd
        rw [← h2, List.drop_eq_getElem_cons h1]
      rw [ed] at e
      have e : wkOk (-1) ds = (decide (p < d) && (decide (d ≤ 6) && wkOk d (ds.drop (i + 1)))) := e
      show tSeq _ _ _ _ _
      simp only [natV]
      walk_at "rd"
      refine ite2 (fun c1 => ?_) fun c1 => ite2 (fun c2 => ?_) fun c2 => ⟨_, _, ⟨rfl, rfl⟩, ?_⟩
      · rw [e, decide_eq_false (show ¬ p < d by omega)] at k
        exact k
      · rw [e, decide_eq_false (show ¬ d ≤ 6 by omega), Bool.false_and, Bool.and_false] at k
        exact k
      · rw [e, decide_eq_true (show p < d by omega), decide_eq_true (show d ≤ 6 by omega)]
        rfl
    · rintro σ H' ⟨rfl, p, v, rfl, e⟩
      rw [List.length_map, List.drop_length] at e
      rw [e] at k
      exact k
/-! ### week -/
def A_week (xs : List V) (c : Sx57.Call) : Prop := ∃ (n : Int) (l : List Nat), xs = .int n :: l.map natV ∧ l.length ≤ 20 ∧ c = .week l
theorem cut_tail (x : V) (l : List V) : cutV (x :: l) (some 1) none = l := by
  unfold cutV HT.sIx
  simp
theorem ok_week (T : Txt K mg) : FnOk P w K mg base CX0 2 T.week.a T.week.fd ["book", "numbers"] (spC K T.Book.a A_week) := by
  refine T.week.F.ok sc_week (fun vs H Q E h => ?_) (fun cdv A outer s H vs Q E hr h => ?_)
  · obtain ⟨b, l, _, _, _, _, rfl, _⟩ := h
    rfl
  · obtain ⟨b, l, xs, st, own, c, rfl, B0, O, hl, ⟨n, ds, rfl, hn, rfl⟩, k⟩ := h
    refine ⟨_, (pss_cons (ps_set (i := 2) sc_week.nd rfl (Or.inl rfl) (pe_slice sl_list (pv 1) (po_some pe_int) po_none))
      (pss_cons (ps_if (pt_not (pt_val (pe_call (ok_are_weekdays T) (hr.mono (by decide : 1 ≤ 1)) rfl T.are_weekdays.m T.are_weekdays.F.kp T.are_weekdays.b .nil pass0 (pa_cons (pv 2) pa_nil)))) (pss_one (ps_ret (pe_lst (pa_cons (pe_globI rfl T.g_WRONG) pa_nil)))) pss_nil)
      (pss_cons (ps_fld (pv 0) (pv 2) rfl)
      (pss_one (ps_ret (pe_lst (pa_cons (pe_len (pv 2) rfl T.n_len) pa_nil))))))), ?_⟩
    refine ⟨_, rfl, _, rfl, _, _, rfl, hl, fun p hp => ?_⟩
    rw [cut_tail]
    have s1 : Same H (upd H p (.lst (ds.map natV))) := Same.upd hp
    have hp1 : upd H p (.lst (ds.map natV)) p = some (.lst (ds.map natV)) := upd_same
    generalize upd H p (.lst (ds.map natV)) = H1 at s1 hp1 ⊢
    refine ⟨_, rfl, p, ds, rfl, SqL.of hp1, hn, _, rfl, ?_⟩
    have es : Sx57.step st (.week ds) = if (Sx57.rising ds && (decide (ds.length ≤ 6) && ds.all fun d => decide (d ≤ 6))) = false then (st, Sx57.ok (-1)) else ({ st with rests := { st.rests with week := ds } }, Sx57.ok (Sx57.num ds.length)) := rfl
    cases ew : (Sx57.rising ds && (decide (ds.length ≤ 6) && ds.all fun d => decide (d ≤ 6))) with
    | false =>
      rw [ew, if_pos rfl] at es
      rw [es] at k
      refine iteT ⟨by show 1 ≤ sizeLine; decide, fun r hr => k.plain B0 s1 hr⟩
    | true =>
      rw [ew, if_neg (by decide)] at es
      rw [es] at k
      refine iteF (nx_to ?_)
      dsimp only
      have BB := B0.same s1
      obtain ⟨dx, a1, a2, a3, a4, a5, a6, ps, ws, ss, eo, B⟩ := BB
      refine ⟨_, rfl, _, rfl, b, _, dx, _, rfl, B.ob, T.Book.cl, T.na, by show 6 < 1000; decide, ?_⟩
      have pb : b ≠ p := bkNe B.ob hp1
      have hf : ∀ a, a ∈ own → a ≠ p := fun a ha e => by
        obtain ⟨o, z⟩ := B0.live ha
        rw [e, hp] at z
        cases z
      generalize hH2 : upd H1 b (.ins T.Book.a dx (putF "week_days" (.ref p) (bookFs a1 a2 a3 a4 a5 a6))) = H2
      have keep : ∀ a o, H1 a = some o → a ≠ b → H2 a = some o := fun a o h n => by rw [← hH2, upd_ne n]; exact h
      have hb2 : H2 b = some (.ins T.Book.a dx (bookFs p a2 a3 a4 a5 a6)) := by rw [← hH2, upd_same]; rfl
      obtain ⟨n12, n13, n14, n15, n16, n23, n24, n25, n26, n34, n35, n36, n45, n46, n56⟩ := B.nes
      have B2 : Bk H2 T.Book.a b { st with rests := { st.rests with week := ds } } dx p a2 a3 a4 a5 a6 ps ws ss := by
        have lk : ∀ {x : Addr} {zs : List V}, H1 x = some (.lst zs) → H2 x = some (.lst zs) := fun h => keep _ _ h (bkNe B.ob h).symm
        have tk : ∀ a o, H1 a = some (.tup o) → H2 a = some (.tup o) := fun a o h => keep _ _ h (ne_of h B.ob (by intro q; cases q))
        refine ⟨hb2, lk hp1, lk B.yr, lk B.ea, lk B.cl, lk B.wy, lk B.sp, B.yrs.mono tk, B.wys.mono tk, B.sps.mono tk, ?_⟩
        have q2 := (hf a2 (by rw [eo]; simp)).symm
        have q3 := (hf a3 (by rw [eo]; simp)).symm
        have q4 := (hf a4 (by rw [eo]; simp)).symm
        have q5 := (hf a5 (by rw [eo]; simp)).symm
        have q6 := (hf a6 (by rw [eo]; simp)).symm
        simp [q2, q3, q4, q5, q6, n23, n24, n25, n26, n34, n35, n36, n45, n46, n56]
      refine ⟨_, rfl, _, _, rfl, .inl (SqL.of (keep _ _ hp1 pb.symm)), ?_⟩
      refine ⟨by show 1 ≤ sizeLine; decide, fun r hr => ?_⟩
      have s3 : Same H2 (upd H2 r (.lst ((ansOf (Sx57.ok (Sx57.num ds.length))).map V.int))) := Same.upd hr
      have B3 : BookIs H2 T.Book.a b { st with rests := { st.rests with week := ds } } [b, p, a2, a3, a4, a5, a6] := ⟨_, _, _, _, _, _, _, _, _, _, rfl, B2⟩
      have hr0 : H r = none := by
        cases q : H r with
        | none => rfl
        | some o =>
          exfalso
          by_cases e : r = b
          · rw [e, hb2] at hr
            cases hr
          · rw [keep _ _ (s1 _ _ q) e] at hr
            cases hr
      have e4 : ((ds.map natV).length : Int) = (Sx57.num ds.length) := by rw [List.length_map]; rfl
      rw [e4]
      refine k _ r _ (B3.same s3) upd_same hr0 (fun h => ?_) (fun a o h n => s3 _ _ (keep _ _ (s1 _ _ h) fun e => n (by rw [e, eo]; simp))) fun a h => ?_
      · obtain ⟨u, e⟩ := B3.live h
        rw [hr] at e
        cases e
      · rw [eo]
        simp only [List.mem_cons, List.not_mem_nil, or_false] at h ⊢
        rcases h with rfl | rfl | h
        · exact .inl (.inl rfl)
        · exact .inr hp
        · exact .inl (.inr (.inr h))
/-! ### add_day -/
def sp_add_day : Sp := fun vs H Q _ => ∃ (l : Addr) (xs : List V) (v : V), vs = [.ref l, v] ∧ H l = some (.lst xs) ∧ xs.length ≤ 40 ∧ (if 40 ≤ xs.length then ∀ p, H p = none → Q (.ref p) (upd H p (.lst [.int (-5)])) else
  ∀ p, upd H l (.lst (xs ++ [v])) p = none → Q (.ref p) (upd (upd H l (.lst (xs ++ [v]))) p (.lst [.int (xs.length + 1 : Nat)])))
theorem ok_add_day (T : Txt K mg) : FnOk P w K mg base CX0 1 T.add_day.a T.add_day.fd ["days", "day"] sp_add_day := by
  refine T.add_day.F.ok sc_add_day (fun vs H Q E h => ?_) (fun cdv A outer s H vs Q E hr h => ?_)
  · obtain ⟨b, l, _, rfl, _⟩ := h
    rfl
  · obtain ⟨l, xs, v, rfl, hl, hn, k⟩ := h
    refine ⟨_, (pss_cons (ps_if (pt_cmp (pc_ge (pe_len (pv 0) rfl T.n_len) (pe_globI rfl T.g_MOST_DAYS))) (pss_one (ps_ret (pe_lst (pa_cons (pe_globI rfl T.g_FULL) pa_nil)))) pss_nil)
      (pss_cons (ps_expr (pe_bm PySem.F.plainAttrs_list PySem.F.slot_list_append PySem.F.type_list_append mt_append (pv 0) (pa_cons (pv 1) pa_nil)))
      (pss_one (ps_ret (pe_lst (pa_cons (pe_len (pv 0) rfl T.n_len) pa_nil)))))), ?_⟩
    refine ⟨_, rfl, _, _, rfl, .inl (SqL.of hl), _, _, rfl, rfl, _, rfl, ite2 (fun c => ?_) fun c => ?_⟩
    · rw [if_pos (by have := of_decide_eq_true c; omega)] at k
      exact ⟨by show 1 ≤ sizeLine; decide, k⟩
    · rw [if_neg (by have := mt decide_eq_true c; omega)] at k
      refine ⟨_, rfl, .inl ⟨rfl, _, SqL.of hl⟩, _, rfl, l, _, _, rfl, rfl, hl, Nat.lt_of_le_of_lt hn (by decide), ?_⟩
      refine ⟨_, rfl, _, _, rfl, .inl (SqL.of upd_same), ?_⟩
      refine ⟨by show 1 ≤ sizeLine; decide, fun p hp => ?_⟩
      have := k p hp
      rw [List.length_append]
      exact this
end
end Dc
end
section
set_option Elab.async false
set_option linter.all false
set_option maxRecDepth 100000
set_option maxHeartbeats 2000000
namespace Dc
open PySem PySem.Spec PyProof.Rows L2
open Sx57 (leap monthDays dayOf dateOk yearStart monthStart)
local macro_rules | `(tactic| walk_at "rd") => `(tactic| simp only [tRet, tSeq, wipe, tYes, gSub, rSetL, tMake, tNotN, rIn, sFld, tIfS, tAndV, tOrV, tNotV, tAnd, tOr, tNot, tB, tTest, tCmp, t2I, tAdd, tSub, tMul, tOp, rI, rI0, tUn, rU, tVar, tC, tCall, tCons, tNil, tIx, tLen, tAsg, gName, tAug, ipI, tIf, tNext, tDrop, tChain, tTup, tLst, tFld, tMeth, tIsN, tCB, tBM, tSl, rSlL, tPart, tNoPart, CDiv, cxK, L2.start, List.length_cons, List.length_nil, List.replicate, List.map_cons, List.map_nil, List.cons_append, List.nil_append, List.append_nil, List.getElem?_cons_zero, List.getElem?_cons_succ, List.set_cons_zero, List.set_cons_succ, List.cons.injEq, and_true, true_and, Option.some.injEq, exists_eq_left', exists_eq_left, V.int.injEq, V.bl.injEq, V.ref.injEq, exists_and_left, decide_eq_true_eq, Nat.reduceAdd, Nat.reduceSub, Int.reduceLT, Int.reducePow, Int.reduceNeg, Bool.not_eq_true', decide_eq_false_iff_not, Bool.false_eq_true, ↓reduceIte, Bool.not_true, Bool.not_false])
section
variable {P : Program} {w : World} {K : PySem.W.Frag} {mg : Str → Option Value} {base : Heap}
theorem one_le : 1 ≤ sizeLine := by decide
/-! ### yearly -/
def A_yearly (xs : List V) (c : Sx57.Call) : Prop := ∃ m d : Nat, xs = [.int m, .int d] ∧ c = .yearly m d
theorem ok_yearly (T : Txt K mg) : FnOk P w K mg base CX0 4 T.yearly.a T.yearly.fd ["book", "numbers"] (spC K T.Book.a A_yearly) := by
  refine T.yearly.F.ok sc_yearly (fun vs H Q E h => ?_) (fun cdv A outer s H vs Q E hr h => ?_)
  · obtain ⟨b, l, _, _, _, _, rfl, _⟩ := h
    rfl
  · obtain ⟨b, l, xs, st, own, c, rfl, B0, O, hl, ⟨m, d, rfl, rfl⟩, k⟩ := h
    refine ⟨_, (pss_cons (ps_if (pt_not (pt_val (pe_call (ok_has_day T) (hr.mono (by decide : 3 ≤ 3)) rfl T.has_day.m T.has_day.F.kp T.has_day.b .nil pass0 (pa_cons (pe_globI rfl T.g_LEAP_YEAR) (pa_cons (pe_item (pv 1) pe_int) (pa_cons (pe_item (pv 1) pe_int) pa_nil)))))) (pss_one (ps_ret (pe_lst (pa_cons (pe_globI rfl T.g_WRONG) pa_nil)))) pss_nil)
      (pss_one (ps_ret (pe_call (ok_add_day T) (hr.mono (by decide : 1 ≤ 3)) rfl T.add_day.m T.add_day.F.kp T.add_day.b .nil pass0 (pa_cons (pe_fld (pv 0) rfl) (pa_cons (pe_tup (pa_cons (pe_item (pv 1) pe_int) (pa_cons (pe_item (pv 1) pe_int) pa_nil))) pa_nil)))))), ?_⟩
    have hq : Sq K H l [.int m, .int d] := .inl hl
    have es : Sx57.step st (.yearly m d) = if m < 1 ∨ 12 < m ∨ d < 1 ∨ monthDays 2000 m < d then (st, Sx57.ok (-1)) else if Sx57.RESTS ≤ st.rests.years.length then (st, Sx57.ok (-5)) else ({ st with rests := { st.rests with years := st.rests.years ++ [(m, d)] } }, Sx57.ok (Sx57.num (st.rests.years.length + 1))) := rfl
    walk_at "rd"
    refine ⟨_, hq, _, at0, _, hq, _, at1, 2000, m, d, rfl, _, rfl, ?_⟩
    unfold dayIn
    refine ite2 (fun c => ?_) fun c => ?_
    · rw [if_pos (by
        simp only [Bool.not_eq_true', Bool.and_eq_false_iff, decide_eq_false_iff_not] at c
        omega)] at es
      rw [es] at k
      exact ⟨one_le, fun r hr => k.plain B0 (Same.refl H) hr⟩
    · rw [if_neg (by
        simp only [Bool.not_eq_true', Bool.and_eq_false_iff, decide_eq_false_iff_not] at c
        omega)] at es
      have BB := B0
      obtain ⟨dx, a1, a2, a3, a4, a5, a6, ps, ws, ss, eo, B⟩ := BB
      have lp : ps.length = st.rests.years.length := by
        have := Paired.length B.yrs
        rw [List.length_map] at this
        exact this
      refine ⟨_, dx, _, B.ob, T.Book.cl, T.na, _, rfl, _, hq, _, at0, _, hq, _, at1, by show 2 ≤ sizeLine; decide, fun p hp => ?_⟩
      have s1 : Same H (upd H p (.tup [.int m, .int d])) := Same.upd hp
      have hp1 : upd H p (.tup [.int m, .int d]) p = some (.tup ((pairI (m, d)).map V.int)) := upd_same
      generalize upd H p (.tup [.int m, .int d]) = H1 at s1 hp1 ⊢
      have B1 := B.same s1
      refine ⟨a2, _, _, rfl, B1.yr, by rw [List.length_map, lp]; exact O.yl, ?_⟩
      rw [List.length_map, lp]
      refine ite2 (fun c2 => fun r hr => ?_) fun c2 => fun r hr => ?_
      · rw [if_pos (show Sx57.RESTS ≤ _ from c2)] at es
        rw [es] at k
        exact k.plain B0 s1 hr
      · rw [if_neg (show ¬ Sx57.RESTS ≤ _ from c2)] at es
        rw [es] at k
        exact k.done s1 (by rw [eo]; simp) ⟨_, _, _, _, _, _, _, _, _, _, eo, B1.addYear hp1⟩ hr
/-! ### easters -/
def A_easters (xs : List V) (c : Sx57.Call) : Prop := ∃ k : Int, xs = [.int k] ∧ c = .easters k
theorem ok_easters (T : Txt K mg) : FnOk P w K mg base CX0 2 T.easters.a T.easters.fd ["book", "numbers"] (spC K T.Book.a A_easters) := by
  refine T.easters.F.ok sc_easters (fun vs H Q E h => ?_) (fun cdv A outer s H vs Q E hr h => ?_)
  · obtain ⟨b, l, _, _, _, _, rfl, _⟩ := h
    rfl
  · obtain ⟨b, l, xs, st, own, c, rfl, B0, O, hl, ⟨z, rfl, rfl⟩, k⟩ := h
    refine ⟨_, (pss_cons (ps_if (pt_cmp (pc_gt (pe_callB call_abs rfl T.n_abs (by rfl) (pa_cons (pe_item (pv 1) pe_int) pa_nil)) (pe_globI rfl T.g_FARTHEST_FROM_EASTER))) (pss_one (ps_ret (pe_lst (pa_cons (pe_globI rfl T.g_WRONG) pa_nil)))) pss_nil)
      (pss_one (ps_ret (pe_call (ok_add_day T) (hr.mono (by decide : 1 ≤ 1)) rfl T.add_day.m T.add_day.F.kp T.add_day.b .nil pass0 (pa_cons (pe_fld (pv 0) rfl) (pa_cons (pe_item (pv 1) pe_int) pa_nil)))))), ?_⟩
    have hq : Sq K H l [.int z] := .inl hl
    have es : Sx57.step st (.easters z) = if z < -60 ∨ 60 < z then (st, Sx57.ok (-1)) else if Sx57.RESTS ≤ st.rests.easters.length then (st, Sx57.ok (-5)) else ({ st with rests := { st.rests with easters := st.rests.easters ++ [z] } }, Sx57.ok (Sx57.num (st.rests.easters.length + 1))) := rfl
    walk_at "rd"
    refine ⟨_, hq, _, at0, z, rfl, ?_⟩
    refine ite2 (fun c => ?_) fun c => ?_
    · rw [if_pos (by split at c <;> omega)] at es
      rw [es] at k
      exact ⟨one_le, fun r hr => k.plain B0 (Same.refl H) hr⟩
    · rw [if_neg (by split at c <;> omega)] at es
      have BB := B0
      obtain ⟨dx, a1, a2, a3, a4, a5, a6, ps, ws, ss, eo, B⟩ := BB
      refine ⟨_, dx, _, B.ob, T.Book.cl, T.na, _, rfl, _, hq, _, at0, a3, _, _, rfl, B.ea, by rw [List.length_map]; exact O.el, ?_⟩
      rw [List.length_map]
      refine ite2 (fun c2 => fun r hr => ?_) fun c2 => fun r hr => ?_
      · rw [if_pos (show Sx57.RESTS ≤ _ from c2)] at es
        rw [es] at k
        exact k.plain B0 (Same.refl H) hr
      · rw [if_neg (show ¬ Sx57.RESTS ≤ _ from c2)] at es
        rw [es] at k
        exact k.done (Same.refl H) (by rw [eo]; simp) ⟨_, _, _, _, _, _, _, _, _, _, eo, B.addEaster z⟩ hr
/-! ### closed -/
def A_closed (xs : List V) (c : Sx57.Call) : Prop := ∃ y m d : Nat, xs = [.int y, .int m, .int d] ∧ c = .closed ⟨y, m, d⟩
theorem ok_closed (T : Txt K mg) : FnOk P w K mg base CX0 5 T.closed.a T.closed.fd ["book", "numbers"] (spC K T.Book.a A_closed) := by
  refine T.closed.F.ok sc_closed (fun vs H Q E h => ?_) (fun cdv A outer s H vs Q E hr h => ?_)
  · obtain ⟨b, l, _, _, _, _, rfl, _⟩ := h
    rfl
  · obtain ⟨b, l, xs, st, own, c, rfl, B0, O, hl, ⟨y, m, d, rfl, rfl⟩, k⟩ := h
    refine ⟨_, (pss_cons (ps_if (pt_not (pt_val (pe_call (ok_is_date T) (hr.mono (by decide : 4 ≤ 4)) rfl T.is_date.m T.is_date.F.kp T.is_date.b .nil pass0 (pa_cons (pv 1) pa_nil)))) (pss_one (ps_ret (pe_lst (pa_cons (pe_globI rfl T.g_WRONG) pa_nil)))) pss_nil)
      (pss_one (ps_ret (pe_call (ok_add_day T) (hr.mono (by decide : 1 ≤ 4)) rfl T.add_day.m T.add_day.F.kp T.add_day.b .nil pass0 (pa_cons (pe_fld (pv 0) rfl) (pa_cons (pe_call (ok_day_number T) (hr.mono (by decide : 3 ≤ 4)) rfl T.day_number.m T.day_number.F.kp T.day_number.b .nil pass0 (pa_cons (pv 1) pa_nil)) pa_nil)))))), ?_⟩
    have D0 : DateAt K H (.ref l) y m d := ⟨l, rfl, .inl hl⟩
    have es : Sx57.step st (.closed ⟨y, m, d⟩) = if dateOk ⟨y, m, d⟩ = false then (st, Sx57.ok (-1)) else if Sx57.RESTS ≤ st.rests.days.length then (st, Sx57.ok (-5)) else ({ st with rests := { st.rests with days := st.rests.days ++ [dayOf ⟨y, m, d⟩] } }, Sx57.ok (Sx57.num (st.rests.days.length + 1))) := rfl
    walk_at "rd"
    refine ⟨_, y, m, d, rfl, D0, _, rfl, ?_⟩
    refine ite2 (fun c => ?_) fun c => ?_
    · rw [if_pos c] at es
      rw [es] at k
      exact ⟨one_le, fun r hr => k.plain B0 (Same.refl H) hr⟩
    · rw [if_neg c] at es
      obtain ⟨hg, hy⟩ := Cal.good_of (show dateOk ⟨y, m, d⟩ = true by simpa using c)
      have BB := B0
      obtain ⟨dx, a1, a2, a3, a4, a5, a6, ps, ws, ss, eo, B⟩ := BB
      refine ⟨_, dx, _, B.ob, T.Book.cl, T.na, _, rfl, _, y, m, d, rfl, D0, hg.y, (by have : y ≤ 2999 := hy; omega), hg.m1, hg.m2, hg.d1, a4, _, _, rfl, B.cl, by rw [List.length_map]; exact O.dl, ?_⟩
      rw [List.length_map]
      refine ite2 (fun c2 => fun r hr => ?_) fun c2 => fun r hr => ?_
      · rw [if_pos (show Sx57.RESTS ≤ _ from c2)] at es
        rw [es] at k
        exact k.plain B0 (Same.refl H) hr
      · rw [if_neg (show ¬ Sx57.RESTS ≤ _ from c2)] at es
        rw [es] at k
        exact k.done (Same.refl H) (by rw [eo]; simp) ⟨_, _, _, _, _, _, _, _, _, _, eo, B.addDay _⟩ hr
/-! ### way -/
def A_way (xs : List V) (c : Sx57.Call) : Prop := ∃ (f : Bool) (r m : Nat), xs = [.int (Sx57.bit f : Nat), .int r, .int m] ∧ c = .way ⟨f, r, m⟩
theorem ok_way (T : Txt K mg) : FnOk P w K mg base CX0 1 T.way.a T.way.fd ["book", "numbers"] (spC K T.Book.a A_way) := by
  refine T.way.F.ok sc_way (fun vs H Q E h => ?_) (fun cdv A outer s H vs Q E hr h => ?_)
  · obtain ⟨b, l, _, _, _, _, rfl, _⟩ := h
    rfl
  · obtain ⟨b, l, xs, st, own, c, rfl, B0, O, hl, ⟨f, x, m, rfl, rfl⟩, k⟩ := h
    refine ⟨_, (pss_cons (ps_if (PW.pt (pw_or (pt_cmp (pc_gt (pe_item (pv 1) pe_int) (pe_globI rfl T.g_LAST_REST_RULE))) (pw_or1 (pt_cmp (pc_gt (pe_item (pv 1) pe_int) (pe_globI rfl T.g_LAST_MONTHS_RULE)))))) (pss_one (ps_ret (pe_lst (pa_cons (pe_globI rfl T.g_WRONG) pa_nil)))) pss_nil)
      (pss_cons (ps_if (pt_cmp (pc_ge (pe_len (pe_fld (pv 0) rfl) rfl T.n_len) (pe_globI rfl T.g_MOST_WAYS))) (pss_one (ps_ret (pe_lst (pa_cons (pe_globI rfl T.g_FULL) pa_nil)))) pss_nil)
      (pss_cons (ps_expr (pe_bm PySem.F.plainAttrs_list PySem.F.slot_list_append PySem.F.type_list_append mt_append (pe_fld (pv 0) rfl) (pa_cons (pe_tup (pa_cons (pe_item (pv 1) pe_int) (pa_cons (pe_item (pv 1) pe_int) (pa_cons (pe_item (pv 1) pe_int) pa_nil)))) pa_nil)))
      (pss_one (ps_ret (pe_lst (pa_cons (pe_sub (pe_len (pe_fld (pv 0) rfl) rfl T.n_len) pe_int) pa_nil))))))), ?_⟩
    have hq : Sq K H l [.int (Sx57.bit f : Nat), .int x, .int m] := .inl hl
    have es : Sx57.step st (.way ⟨f, x, m⟩) = if 3 < x ∨ 2 < m then (st, Sx57.ok (-1)) else if Sx57.WAYS ≤ st.ways.length then (st, Sx57.ok (-5)) else ({ st with ways := st.ways ++ [⟨f, x, m⟩] }, Sx57.ok (Sx57.num st.ways.length)) := rfl
    walk_at "rd"
    refine ⟨_, hq, _, at1, _, rfl, ite2 (fun c => ?_) fun c => ⟨_, hq, _, at2, _, rfl, ite2 (fun c2 => ?_) fun c2 => ?_⟩⟩
    · rw [if_pos (by omega)] at es
      rw [es] at k
      exact ⟨one_le, fun r hr => k.plain B0 (Same.refl H) hr⟩
    · rw [if_pos (by omega)] at es
      rw [es] at k
      exact ⟨one_le, fun r hr => k.plain B0 (Same.refl H) hr⟩
    · rw [if_neg (by omega)] at es
      have BB := B0
      obtain ⟨dx, a1, a2, a3, a4, a5, a6, ps, ws, ss, eo, B⟩ := BB
      have lp : ws.length = st.ways.length := by
        have := Paired.length B.wys
        rw [List.length_map] at this
        exact this
      refine ⟨_, dx, _, B.ob, T.Book.cl, T.na, _, rfl, _, rfl, _, .inl (SqL.of B.wy), ?_⟩
      rw [List.length_map, lp]
      refine ite2 (fun c3 => ⟨one_le, fun r hr => ?_⟩) fun c3 => ?_
      · rw [if_pos (show Sx57.WAYS ≤ _ by show 8 ≤ _; omega)] at es
        rw [es] at k
        exact k.plain B0 (Same.refl H) hr
      · rw [if_neg (show ¬ Sx57.WAYS ≤ _ by show ¬ 8 ≤ _; omega)] at es
        rw [es] at k
        refine ⟨_, dx, _, B.ob, T.Book.cl, T.na, _, rfl, .inl ⟨rfl, _, SqL.of B.wy⟩, _, hq, _, at0, _, hq, _, at1, _, hq, _, at2, by show 3 ≤ sizeLine; decide, fun p hp => ?_⟩
        have s1 : Same H (upd H p (.tup ((wayI ⟨f, x, m⟩).map V.int))) := Same.upd hp
        have hp1 : upd H p (.tup ((wayI ⟨f, x, m⟩).map V.int)) p = some (.tup ((wayI ⟨f, x, m⟩).map V.int)) := upd_same
        show rAppend _ _ (upd H p (.tup ((wayI ⟨f, x, m⟩).map V.int))) _
        generalize upd H p (.tup ((wayI ⟨f, x, m⟩).map V.int)) = H1 at s1 hp1 ⊢
        have B1 := B.same s1
        refine ⟨a5, _, _, rfl, rfl, B1.wy, by rw [List.length_map, lp]; exact Nat.lt_of_le_of_lt O.al (by decide), ?_⟩
        have B2 := B1.addWay hp1
        refine ⟨_, dx, _, B2.ob, T.Book.cl, T.na, _, rfl, a5, rfl, _, .inl (SqL.of B2.wy), one_le, fun r hr => ?_⟩
        have e4 : (((ws ++ [p]).map V.ref).length : Int) - 1 = Sx57.num st.ways.length := by
          rw [List.length_map, List.length_append, lp]
          show ((st.ways.length + 1 : Nat) : Int) - 1 = (st.ways.length : Int)
          omega
        rw [e4]
        exact k.done s1 (by rw [eo]; simp) ⟨_, _, _, _, _, _, _, _, _, _, eo, B2⟩ hr
/-! ### stop -/
def A_stop (xs : List V) (c : Sx57.Call) : Prop := ∃ y m d z n e : Nat, xs = [.int y, .int m, .int d, .int z, .int n, .int e] ∧ c = .halt_ ⟨y, m, d⟩ ⟨z, n, e⟩
theorem cut_03 (a b c d e f : V) : cutV [a, b, c, d, e, f] none (some 3) = [a, b, c] := rfl
theorem cut_36 (a b c d e f : V) : cutV [a, b, c, d, e, f] (some 3) none = [d, e, f] := rfl
theorem ok_stop (T : Txt K mg) : FnOk P w K mg base CX0 5 T.stop.a T.stop.fd ["book", "numbers"] (spC K T.Book.a A_stop) := by
  refine T.stop.F.ok sc_stop (fun vs H Q E h => ?_) (fun cdv A outer s H vs Q E hr h => ?_)
  · obtain ⟨b, l, _, _, _, _, rfl, _⟩ := h
    rfl
  · obtain ⟨b, l, xs, st, own, c, rfl, B0, O, hl, ⟨y, m, d, z, n, e, rfl, rfl⟩, k⟩ := h
    refine ⟨_, (pss_cons (ps_if (PW.pt (pw_or (pt_not (pt_val (pe_call (ok_is_date T) (hr.mono (by decide : 4 ≤ 4)) rfl T.is_date.m T.is_date.F.kp T.is_date.b .nil pass0 (pa_cons (pe_slice sl_list (pv 1) po_none (po_some pe_int)) pa_nil)))) (pw_or1 (pt_not (pt_val (pe_call (ok_is_date T) (hr.mono (by decide : 4 ≤ 4)) rfl T.is_date.m T.is_date.F.kp T.is_date.b .nil pass0 (pa_cons (pe_slice sl_list (pv 1) (po_some pe_int) po_none) pa_nil))))))) (pss_one (ps_ret (pe_lst (pa_cons (pe_globI rfl T.g_WRONG) pa_nil)))) pss_nil)
      (pss_cons (ps_set (i := 2) sc_stop.nd rfl (Or.inl rfl) (pe_call (ok_day_number T) (hr.mono (by decide : 3 ≤ 4)) rfl T.day_number.m T.day_number.F.kp T.day_number.b .nil pass0 (pa_cons (pe_slice sl_list (pv 1) po_none (po_some pe_int)) pa_nil)))
      (pss_cons (ps_set (i := 3) sc_stop.nd rfl (Or.inl rfl) (pe_call (ok_day_number T) (hr.mono (by decide : 3 ≤ 4)) rfl T.day_number.m T.day_number.F.kp T.day_number.b .nil pass0 (pa_cons (pe_slice sl_list (pv 1) (po_some pe_int) po_none) pa_nil)))
      (pss_cons (ps_if (PW.pt (pw_or (pt_cmp (pc_lt (pv 3) (pv 2))) (pw_or1 (pt_not (pt_val (pe_meth (pv 0) T.Book.cl T.Book_is_behind_stops.m (ok_Book_is_behind_stops T) (hr.mono (by decide : 1 ≤ 4)) T.Book_is_behind_stops.b .nil pass0 (pa_cons (pv 2) pa_nil))))))) (pss_one (ps_ret (pe_lst (pa_cons (pe_globI rfl T.g_OUT_OF_ORDER) pa_nil)))) pss_nil)
      (pss_cons (ps_if (pt_cmp (pc_ge (pe_len (pe_fld (pv 0) rfl) rfl T.n_len) (pe_globI rfl T.g_MOST_STOPS))) (pss_one (ps_ret (pe_lst (pa_cons (pe_globI rfl T.g_FULL) pa_nil)))) pss_nil)
      (pss_cons (ps_expr (pe_bm PySem.F.plainAttrs_list PySem.F.slot_list_append PySem.F.type_list_append mt_append (pe_fld (pv 0) rfl) (pa_cons (pe_tup (pa_cons (pv 2) (pa_cons (pv 3) pa_nil))) pa_nil)))
      (pss_one (ps_ret (pe_lst (pa_cons (pe_len (pe_fld (pv 0) rfl) rfl T.n_len) pa_nil)))))))))), ?_⟩
    have es : Sx57.step st (.halt_ ⟨y, m, d⟩ ⟨z, n, e⟩) = if (dateOk ⟨y, m, d⟩ && dateOk ⟨z, n, e⟩) = false then (st, Sx57.ok (-1)) else if dayOf ⟨z, n, e⟩ < dayOf ⟨y, m, d⟩ ∨ (st.stops.any fun x => decide (dayOf ⟨y, m, d⟩ ≤ x.2)) = true then (st, Sx57.ok (-3)) else if Sx57.STOPS ≤ st.stops.length then (st, Sx57.ok (-5)) else ({ st with stops := st.stops ++ [(dayOf ⟨y, m, d⟩, dayOf ⟨z, n, e⟩)] }, Sx57.ok (Sx57.num (st.stops.length + 1))) := rfl
    walk_at "rd"
    have sq : ∀ {H1 : Hp}, Same H H1 → SqL K H1 l [.int y, .int m, .int d, .int z, .int n, .int e] := fun s => s.seq hl
    refine ⟨_, hl, fun p1 e1 => ?_⟩
    rw [cut_03]
    have s1 : Same H (upd H p1 (.lst [.int y, .int m, .int d])) := Same.upd e1
    have q1 : upd H p1 (.lst [.int y, .int m, .int d]) p1 = some (.lst [.int y, .int m, .int d]) := upd_same
    generalize upd H p1 (.lst [.int y, .int m, .int d]) = H1 at s1 q1 ⊢
    refine ⟨_, y, m, d, rfl, ⟨p1, rfl, .inl (SqL.of q1)⟩, _, rfl, ite2 (fun c => ?_) fun c => ?_⟩
    · rw [c, Bool.false_and, if_pos rfl] at es
      rw [es] at k
      exact ⟨one_le, fun r hr => k.plain B0 s1 hr⟩
    have c : dateOk ⟨y, m, d⟩ = true := by simpa using c
    refine ⟨_, sq s1, fun p2 e2 => ?_⟩
    rw [cut_36]
    have s2 : Same H1 (upd H1 p2 (.lst [.int z, .int n, .int e])) := Same.upd e2
    have q2 : upd H1 p2 (.lst [.int z, .int n, .int e]) p2 = some (.lst [.int z, .int n, .int e]) := upd_same
    generalize upd H1 p2 (.lst [.int z, .int n, .int e]) = H2 at s2 q2 ⊢
    have s02 := s1.trans s2
    refine ⟨_, z, n, e, rfl, ⟨p2, rfl, .inl (SqL.of q2)⟩, _, rfl, ite2 (fun c2 => ?_) fun c2 => ?_⟩
    · rw [c2, Bool.and_false, if_pos rfl] at es
      rw [es] at k
      exact ⟨one_le, fun r hr => k.plain B0 s02 hr⟩
    have c2 : dateOk ⟨z, n, e⟩ = true := by simpa using c2
    rw [c, c2, if_neg (by decide)] at es
    obtain ⟨g1, y1⟩ := Cal.good_of c
    obtain ⟨g2, y2⟩ := Cal.good_of c2
    refine ⟨_, sq s02, fun p3 e3 => ?_⟩
    rw [cut_03]
    have s3 : Same H2 (upd H2 p3 (.lst [.int y, .int m, .int d])) := Same.upd e3
    have q3 : upd H2 p3 (.lst [.int y, .int m, .int d]) p3 = some (.lst [.int y, .int m, .int d]) := upd_same
    generalize upd H2 p3 (.lst [.int y, .int m, .int d]) = H3 at s3 q3 ⊢
    have s03 := s02.trans s3
    refine ⟨_, y, m, d, rfl, ⟨p3, rfl, .inl (SqL.of q3)⟩, g1.y, (by have : y ≤ 2999 := y1; omega), g1.m1, g1.m2, g1.d1, ?_⟩
    refine ⟨_, sq s03, fun p4 e4 => ?_⟩
    rw [cut_36]
    have s4 : Same H3 (upd H3 p4 (.lst [.int z, .int n, .int e])) := Same.upd e4
    have q4 : upd H3 p4 (.lst [.int z, .int n, .int e]) p4 = some (.lst [.int z, .int n, .int e]) := upd_same
    generalize upd H3 p4 (.lst [.int z, .int n, .int e]) = H4 at s4 q4 ⊢
    have s04 := s03.trans s4
    refine ⟨_, z, n, e, rfl, ⟨p4, rfl, .inl (SqL.of q4)⟩, g2.y, (by have : z ≤ 2999 := y2; omega), g2.m1, g2.m2, g2.d1, ?_⟩
    have B4 := B0.same s04
    have BB := B4
    obtain ⟨dx, a1, a2, a3, a4, a5, a6, ps, ws, ss, eo, B⟩ := BB
    refine ⟨_, rfl, _, rfl, ite2 (fun c3 => ?_) fun c3 => ⟨dx, _, B.ob, rfl, b, own, st, _, rfl, B4, O, _, rfl, ite2 (fun c4 => ?_) fun c4 => ?_⟩⟩
    · rw [if_pos (.inl (by omega))] at es
      rw [es] at k
      exact ⟨one_le, fun r hr => k.plain B0 s04 hr⟩
    · rw [if_pos (.inr (by simpa using c4))] at es
      rw [es] at k
      exact ⟨one_le, fun r hr => k.plain B0 s04 hr⟩
    rw [if_neg (by
      rintro (q | q)
      · omega
      · exact c4 (by simpa using q))] at es
    have lp : ss.length = st.stops.length := by
      have := Paired.length B.sps
      rw [List.length_map] at this
      exact this
    refine ⟨_, dx, _, B.ob, T.Book.cl, T.na, _, rfl, _, rfl, _, .inl (SqL.of B.sp), ?_⟩
    rw [List.length_map, lp]
    refine ite2 (fun c5 => ⟨one_le, fun r hr => ?_⟩) fun c5 => ?_
    · rw [if_pos (show Sx57.STOPS ≤ _ by show 20 ≤ _; omega)] at es
      rw [es] at k
      exact k.plain B0 s04 hr
    · rw [if_neg (show ¬ Sx57.STOPS ≤ _ by show ¬ 20 ≤ _; omega)] at es
      rw [es] at k
      refine ⟨_, dx, _, B.ob, T.Book.cl, T.na, _, rfl, .inl ⟨rfl, _, SqL.of B.sp⟩, by show 2 ≤ sizeLine; decide, fun p hp => ?_⟩
      have s5 : Same H4 (upd H4 p (.tup ((pairI (dayOf ⟨y, m, d⟩, dayOf ⟨z, n, e⟩)).map V.int))) := Same.upd hp
      have hp1 : upd H4 p (.tup ((pairI (dayOf ⟨y, m, d⟩, dayOf ⟨z, n, e⟩)).map V.int)) p = some (.tup ((pairI (dayOf ⟨y, m, d⟩, dayOf ⟨z, n, e⟩)).map V.int)) := upd_same
      show rAppend _ _ (upd H4 p (.tup ((pairI (dayOf ⟨y, m, d⟩, dayOf ⟨z, n, e⟩)).map V.int))) _
      generalize upd H4 p (.tup ((pairI (dayOf ⟨y, m, d⟩, dayOf ⟨z, n, e⟩)).map V.int)) = H5 at s5 hp1 ⊢
      have B1 := B.same s5
      refine ⟨a6, _, _, rfl, rfl, B1.sp, by rw [List.length_map, lp]; exact Nat.lt_of_le_of_lt O.sl (by decide), ?_⟩
      have B2 := B1.addStop hp1
      refine ⟨_, dx, _, B2.ob, T.Book.cl, T.na, _, rfl, a6, rfl, _, .inl (SqL.of B2.sp), one_le, fun r hr => ?_⟩
      have e4 : (((ss ++ [p]).map V.ref).length : Int) = Sx57.num (st.stops.length + 1) := by
        rw [List.length_map, List.length_append, lp]
        rfl
      rw [e4]
      exact k.done (s04.trans s5) (by rw [eo]; simp) ⟨_, _, _, _, _, _, _, _, _, _, eo, B2⟩ hr
end
end Dc
end
section
set_option Elab.async false
set_option linter.all false
set_option maxRecDepth 100000
set_option maxHeartbeats 2000000
/-! The flags of a year: what the loops have hit so far, and that all of it is the days of rest. -/
namespace Dc
open Sx57 (leap monthDays dayOf dateOf dateOk yearStart monthStart)
open L2 (V)
def flags (r : Sx57.Rests) (y : Nat) : List Bool := (List.range (Cal.yearDays y)).map fun k => r.on (yearStart y + k)
def hitY (y k : Nat) (md : Nat × Nat) : Bool := dayIn y md.1 md.2 && decide (dayOf ⟨y, md.1, md.2⟩ = yearStart y + k)
def hitE (y k : Nat) (e : Int) : Bool := decide ((Sx57.easter y : Int) + e = (yearStart y + k : Nat))
def hitD (y k : Nat) (n : Nat) : Bool := decide (n = yearStart y + k)
def hits (r : Sx57.Rests) (y : Nat) (ys : List (Nat × Nat)) (es : List Int) (ds : List Nat) (k : Nat) : Bool := r.week.contains (Sx57.weekday (yearStart y + k)) || (ys.any (hitY y k) || (es.any (hitE y k) || ds.any (hitD y k)))
def blL (n : Nat) (f : Nat → Bool) : List V := (List.range n).map fun k => V.bl (f k)
theorem blL_length (n : Nat) (f : Nat → Bool) : (blL n f).length = n := by
  unfold blL
  rw [List.length_map, List.length_range]
theorem blL_get {n : Nat} {f : Nat → Bool} {k : Nat} (h : k < (blL n f).length) : (blL n f)[k] = V.bl (f k) := by
  simp [blL]
theorem blL_set {n : Nat} {f : Nat → Bool} {j : Nat} : (blL n f).set j (V.bl true) = blL n fun k => f k || decide (j = k) := by
  refine List.ext_getElem (by rw [List.length_set, blL_length, blL_length]) fun k h1 h2 => ?_
  rw [List.getElem_set, blL_get, blL_get]
  split
  · rename_i h
    rw [decide_eq_true h, Bool.or_true]
  · rename_i h
    rw [decide_eq_false h, Bool.or_false]
theorem blL_succ {n : Nat} {f : Nat → Bool} : blL (n + 1) f = blL n f ++ [V.bl (f n)] := by
  unfold blL
  rw [List.range_succ, List.map_append]
  rfl
theorem blL_congr {n : Nat} {f g : Nat → Bool} (h : ∀ k, k < n → f k = g k) : blL n f = blL n g := by
  unfold blL
  refine List.map_congr_left fun k hk => ?_
  rw [h k (List.mem_range.mp hk)]
theorem dayIn_iff {y m d : Nat} (hy : 1600 ≤ y) : dayIn y m d = true ↔ Cal.Good ⟨y, m, d⟩ := by
  unfold dayIn
  simp only [Bool.and_eq_true, decide_eq_true_eq]
  constructor
  · rintro ⟨a, b, c, d⟩
    exact ⟨hy, a, b, c, d⟩
  · intro g
    exact ⟨g.m1, g.m2, g.d1, g.d2⟩
theorem year_room {y k : Nat} (hy : 1600 ≤ y) (hy2 : y < 4000) (hk : k < Cal.yearDays y) : ∃ x, Cal.Good x ∧ dayOf x = yearStart y + k ∧ x.year = y := by
  obtain ⟨x, g, e⟩ := Cal.has_date (yearStart y + k)
  refine ⟨x, g, e, ?_⟩
  obtain ⟨a, b⟩ := Cal.day_in_year g
  rw [e] at a b
  exact (Cal.year_uniq hy g.y (by omega) (by rw [Cal.yearStart_succ hy]; omega) a b).symm
theorem hits_on (r : Sx57.Rests) {y k : Nat} (hy : 1600 ≤ y) (hy2 : y < 4000) (hk : k < Cal.yearDays y) : hits r y r.years r.easters r.days k = r.on (yearStart y + k) := by
  obtain ⟨x, g, e, ey⟩ := year_room hy hy2 hk
  have on := on_eq r g (by omega)
  rw [e] at on
  rw [on]
  unfold hits
  congr 1
  have e1 : r.years.any (hitY y k) = r.years.contains (x.month, x.day) := by
    rw [List.contains_eq_any_beq]
    congr 1
    funext md
    unfold hitY
    by_cases q : (x.month, x.day) = md
    · subst q
      have g2 : Cal.Good ⟨y, x.month, x.day⟩ := ⟨hy, g.m1, g.m2, g.d1, by have := g.d2; rw [ey] at this; exact this⟩
      rw [(dayIn_iff hy).mpr g2]
      have ex : (⟨y, x.month, x.day⟩ : Sx57.Date) = x := by
        obtain ⟨a, b, c⟩ := x
        have : a = y := ey
        subst this
        rfl
      rw [ex, decide_eq_true e]
      simp
    · rw [beq_eq_false_iff_ne.mpr q]
      cases c : dayIn y md.1 md.2 with
      | false => rfl
      | true =>
        have g2 := (dayIn_iff hy).mp c
        refine decide_eq_false fun h => q ?_
        have := Cal.dayOf_inj g g2 (by omega) (by show y ≤ 4000; omega) (by rw [e, h])
        rw [this]
  have e2 : r.easters.any (hitE y k) = r.easters.contains (((yearStart y + k : Nat) : Int) - (Sx57.easter x.year : Nat)) := by
    rw [List.contains_eq_any_beq, ey]
    congr 1
    funext z
    unfold hitE
    by_cases q : ((yearStart y + k : Nat) : Int) - (Sx57.easter y : Nat) = z
    · subst q
      rw [decide_eq_true (by omega)]
      simp
    · rw [beq_eq_false_iff_ne.mpr q]
      exact decide_eq_false (by omega)
  have e3 : r.days.any (hitD y k) = r.days.contains (yearStart y + k) := by
    rw [List.contains_eq_any_beq]
    congr 1
    funext z
    unfold hitD
    by_cases q : yearStart y + k = z
    · subst q
      simp
    · rw [beq_eq_false_iff_ne.mpr q]
      exact decide_eq_false fun h => q h.symm
  rw [e1, e2, e3]
  cases r.years.contains (x.month, x.day) <;> cases r.days.contains (yearStart y + k) <;> cases r.easters.contains (((yearStart y + k : Nat) : Int) - (Sx57.easter x.year : Nat)) <;> rfl
theorem hits_flags (r : Sx57.Rests) {y : Nat} (hy : 1600 ≤ y) (hy2 : y < 4000) : blL (Cal.yearDays y) (hits r y r.years r.easters r.days) = (flags r y).map V.bl := by
  rw [blL_congr fun k hk => hits_on r hy hy2 hk]
  unfold flags blL
  rw [List.map_map]
  rfl
theorem any_take {A : Type} {l : List A} {i : Nat} {x : A} (h : l[i]? = some x) (p : A → Bool) : (l.take (i + 1)).any p = ((l.take i).any p || p x) := by
  rw [List.take_succ, h, List.any_append]
  simp
theorem hits_year {r : Sx57.Rests} {y : Nat} {l : List (Nat × Nat)} {i : Nat} {md : Nat × Nat} {es : List Int} {ds : List Nat} (h : l[i]? = some md) (k : Nat) : hits r y (l.take (i + 1)) es ds k = (hits r y (l.take i) es ds k || hitY y k md) := by
  unfold hits
  rw [any_take h]
  cases r.week.contains (Sx57.weekday (yearStart y + k)) <;> cases (l.take i).any (hitY y k) <;> cases hitY y k md <;> cases es.any (hitE y k) <;> cases ds.any (hitD y k) <;> rfl
theorem hits_easter {r : Sx57.Rests} {y : Nat} {ys : List (Nat × Nat)} {i : Nat} {e : Int} {l : List Int} {ds : List Nat} (h : l[i]? = some e) (k : Nat) : hits r y ys (l.take (i + 1)) ds k = (hits r y ys (l.take i) ds k || hitE y k e) := by
  unfold hits
  rw [any_take h]
  cases r.week.contains (Sx57.weekday (yearStart y + k)) <;> cases ys.any (hitY y k) <;> cases hitE y k e <;> cases (l.take i).any (hitE y k) <;> cases ds.any (hitD y k) <;> rfl
theorem hits_day {r : Sx57.Rests} {y : Nat} {ys : List (Nat × Nat)} {i : Nat} {n : Nat} {l : List Nat} {es : List Int} (h : l[i]? = some n) (k : Nat) : hits r y ys es (l.take (i + 1)) k = (hits r y ys es (l.take i) k || hitD y k n) := by
  unfold hits
  rw [any_take h]
  cases r.week.contains (Sx57.weekday (yearStart y + k)) <;> cases ys.any (hitY y k) <;> cases es.any (hitE y k) <;> cases (l.take i).any (hitD y k) <;> cases hitD y k n <;> rfl
/-- Easter lies well within its year -/
theorem eaN_in (y : Nat) : 114 ≤ eaN y ∧ eaN y ≤ 149 := by
  dsimp only [eaN]
  have hh : (19 * (y % 19) + y / 100 - y / 100 / 4 - (y / 100 - (y / 100 + 8) / 25 + 1) / 3 + 15) % 30 < 30 := Nat.mod_lt _ (by decide)
  generalize (19 * (y % 19) + y / 100 - y / 100 / 4 - (y / 100 - (y / 100 + 8) / 25 + 1) / 3 + 15) % 30 = h at hh ⊢
  have hl : (32 + 2 * (y / 100 % 4) + 2 * (y % 100 / 4) - h - y % 100 % 4) % 7 < 7 := Nat.mod_lt _ (by decide)
  generalize (32 + 2 * (y / 100 % 4) + 2 * (y % 100 / 4) - h - y % 100 % 4) % 7 = l at hl ⊢
  have ha : y % 19 < 19 := Nat.mod_lt _ (by decide)
  generalize y % 19 = a at ha ⊢
  omega
theorem easter_in (y : Nat) : yearStart y + 60 ≤ Sx57.easter y ∧ Sx57.easter y + 60 < yearStart y + 365 := by
  rw [easter_eq]
  obtain ⟨a, b⟩ := eaN_in y
  generalize eaN y = n at a b ⊢
  have m3 : monthStart y 3 = monthStart y 1 + monthDays y 1 + monthDays y 2 := by rw [← Cal.monthStart_succ (by omega), ← Cal.monthStart_succ (by omega)]
  have m4 : monthStart y 4 = monthStart y 3 + monthDays y 3 := Cal.monthStart_succ (by omega)
  have d1 := Cal.monthDays_ge y 1
  have d2 := Cal.monthDays_ge y 2
  have d3 := Cal.monthDays_ge y 3
  have s1 := Cal.monthStart_one y
  show yearStart y + 60 ≤ yearStart y + monthStart y (n / 31) + (n % 31 + 1 - 1) ∧ yearStart y + monthStart y (n / 31) + (n % 31 + 1 - 1) + 60 < yearStart y + 365
  have : n / 31 = 3 ∨ n / 31 = 4 := by omega
  rcases this with q | q
  · rw [q]
    omega
  · rw [q]
    omega
end Dc
end
section
set_option Elab.async false
set_option linter.all false
set_option maxRecDepth 100000
set_option maxHeartbeats 2000000
namespace Dc
open PySem PySem.Spec PyProof.Rows L2
open Sx57 (leap monthDays dayOf dateOf dateOk yearStart monthStart)
local macro_rules | `(tactic| walk_at "rd") => `(tactic| simp only [tRet, tSeq, wipe, tYes, gSub, rSetL, tMake, tNotN, rIn, sFld, tIfS, tAndV, tOrV, tNotV, tAnd, tOr, tNot, tB, tTest, tCmp, t2I, tAdd, tSub, tMul, tOp, rI, rI0, tUn, rU, tVar, tC, tCall, tCons, tNil, tIx, tLen, tAsg, gName, tAug, ipI, tIf, tNext, tDrop, tChain, tTup, tLst, tFld, tMeth, tIsN, tCB, tBM, tSl, rSlL, tPart, tNoPart, CDiv, cxK, L2.start, List.length_cons, List.length_nil, List.replicate, List.map_cons, List.map_nil, List.cons_append, List.nil_append, List.append_nil, List.getElem?_cons_zero, List.getElem?_cons_succ, List.set_cons_zero, List.set_cons_succ, List.cons.injEq, and_true, true_and, Option.some.injEq, exists_eq_left', exists_eq_left, V.int.injEq, V.bl.injEq, V.ref.injEq, exists_and_left, decide_eq_true_eq, Nat.reduceAdd, Nat.reduceSub, Int.reduceLT, Int.reducePow, Int.reduceNeg, Bool.not_eq_true', decide_eq_false_iff_not, Bool.false_eq_true, ↓reduceIte, Bool.not_true, Bool.not_false])
/-! ### the almanac: its object, its years -/
def almFs (b sp d : Addr) : List (Str × V) := [("book", .ref b), ("stops", .ref sp), ("years", .ref d)]
def YearsOk (H : Hp) (r : Sx57.Rests) (kvs : List (Key × V)) : Prop := (kvs.map (·.1)).Nodup ∧ ∀ kv ∈ kvs, ∃ (y : Nat) (f : Addr), kv = (Sum.inl (y : Int), V.ref f) ∧ y < 4000 ∧ H f = some (.lst ((flags r y).map V.bl))
structure Alm (H : Hp) (CA CB m b sp d : Addr) (st : Sx57.St) (stops : Sx57.Stops) : Prop where
  ob : ∃ dx, H m = some (.ins CA dx (almFs b sp d))
  bk : ∃ own, BookIs H CB b st own
  sps : ∃ ss : List Addr, H sp = some (.lst (ss.map V.ref)) ∧ Tups H ss (stops.map pairI)
  yr : ∃ kvs, H d = some (.dK kvs) ∧ YearsOk H st.rests kvs
  er : ∀ k ∈ st.rests.easters, -60 ≤ k ∧ k ≤ 60
  so : ∀ x ∈ stops, x.1 ≤ x.2 ∧ x.2 < Sx57.DAYS
  rise : stops.Pairwise fun x z => x.2 < z.1
theorem Up.of_same {d : Addr} {H H' : Hp} (s : Same H H') : Up d H H' := ⟨fun a o h _ => s a o h, fun a h => s.free h⟩
theorem Up.refl (d : Addr) (H : Hp) : Up d H H := Up.of_same (Same.refl H)
section
variable {H H' : Hp} {CA CB m b sp d : Addr} {st : Sx57.St} {stops : Sx57.Stops}
theorem BookIs.up {own : List Addr} (B : BookIs H CB b st own) {kvs : List (Key × V)} (hd : H d = some (.dK kvs)) (u : Up d H H') : BookIs H' CB b st own := by
  obtain ⟨dx, a1, a2, a3, a4, a5, a6, ps, ws, ss, eo, B⟩ := B
  have kl : ∀ {a xs}, H a = some (.lst xs) → H' a = some (.lst xs) := fun h => u.1 _ _ h (ne_of h hd (by intro q; cases q))
  have kt : ∀ a xs, H a = some (.tup xs) → H' a = some (.tup xs) := fun a xs h => u.1 _ _ h (ne_of h hd (by intro q; cases q))
  exact ⟨dx, a1, a2, a3, a4, a5, a6, ps, ws, ss, eo, u.1 _ _ B.ob (ne_of B.ob hd (by intro q; cases q)), kl B.wk, kl B.yr, kl B.ea, kl B.cl, kl B.wy, kl B.sp, B.yrs.mono kt, B.wys.mono kt, B.sps.mono kt, B.nd⟩
/-- what is no dict stands -/
theorem Alm.up (A : Alm H CA CB m b sp d st stops) (u : Up d H H') (y : ∃ kvs, H' d = some (.dK kvs) ∧ YearsOk H' st.rests kvs) : Alm H' CA CB m b sp d st stops := by
  obtain ⟨dx, ob⟩ := A.ob
  obtain ⟨own, bk⟩ := A.bk
  obtain ⟨ss, s1, s2⟩ := A.sps
  obtain ⟨kvs, hd, _⟩ := A.yr
  have kt : ∀ a xs, H a = some (.tup xs) → H' a = some (.tup xs) := fun a xs h => u.1 _ _ h (ne_of h hd (by intro q; cases q))
  exact ⟨⟨dx, u.1 _ _ ob (ne_of ob hd (by intro q; cases q))⟩, ⟨own, bk.up hd u⟩, ⟨ss, u.1 _ _ s1 (ne_of s1 hd (by intro q; cases q)), s2.mono kt⟩, y, A.er, A.so, A.rise⟩
theorem YearsOk.same {r : Sx57.Rests} {kvs : List (Key × V)} (y : YearsOk H r kvs) (s : ∀ a xs, H a = some (.lst xs) → H' a = some (.lst xs)) : YearsOk H' r kvs := ⟨y.1, fun kv h => by
  obtain ⟨n, f, e, l, z⟩ := y.2 kv h
  exact ⟨n, f, e, l, s _ _ z⟩⟩
theorem Alm.same (A : Alm H CA CB m b sp d st stops) (s : Same H H') : Alm H' CA CB m b sp d st stops := by
  obtain ⟨kvs, hd, y⟩ := A.yr
  exact A.up (Up.of_same s) ⟨kvs, s _ _ hd, y.same fun a xs h => s _ _ h⟩
/-- only the dict at d has changed, by what is new -/
structure Ua (d : Addr) (H H' : Hp) : Prop where
  up : Up d H H'
  gr : ∀ kvs', H' d = some (.dK kvs') → ∀ kv ∈ kvs', (∃ kvs, H d = some (.dK kvs) ∧ kv ∈ kvs) ∨ ∃ f, kv.2 = V.ref f ∧ H f = none
theorem Ua.refl (d : Addr) (H : Hp) : Ua d H H := ⟨Up.refl d H, fun kvs e kv h => .inl ⟨kvs, e, h⟩⟩
theorem Ua.trans {d : Addr} {H H1 H2 : Hp} (x : Ua d H H1) (z : Ua d H1 H2) : Ua d H H2 := ⟨x.up.trans z.up, fun kvs' e kv h => by
  rcases z.gr kvs' e kv h with ⟨kvs, e1, h1⟩ | ⟨f, ef, hf⟩
  · exact x.gr kvs e1 kv h1
  · exact .inr ⟨f, ef, x.up.2 _ hf⟩⟩
theorem Alm.ofs (A : Alm H CA CB m b sp d st stops) (s : Same H H') : Ua d H H' := ⟨Up.of_same s, fun kvs' e kv h => by
  obtain ⟨kvs, hd, _⟩ := A.yr
  have := s _ _ hd
  rw [e] at this
  cases this
  exact .inl ⟨_, hd, h⟩⟩
theorem Ua.put {D : Addr} {o : HO} {xs : List V} (u : Ua d H H') (h : H D = none) (hD : H' D = some (.lst xs)) {kvs : List (Key × V)} (hd : H' d = some (.dK kvs)) : Ua d H (upd H' D o) := by
  have nd : d ≠ D := ne_of hd hD (by intro q; cases q)
  refine ⟨⟨fun a x e n => ?_, fun a e => u.up.2 a (upd_none e).2⟩, fun kvs' e => ?_⟩
  · rw [upd_ne (ne_of_none e h)]
    exact u.up.1 a x e n
  · rw [upd_ne nd] at e
    exact u.gr kvs' e
/-- the heap without the object at D -/
def rm (D : Addr) (H : Hp) : Hp := fun x => if x = D then none else H x
theorem rm_ne {D x : Addr} {H : Hp} (h : x ≠ D) : rm D H x = H x := if_neg h
theorem rm_at {D : Addr} {H : Hp} : rm D H D = none := if_pos rfl
theorem rm_some {D x : Addr} {H : Hp} {o : HO} (h : rm D H x = some o) : x ≠ D ∧ H x = some o := by
  by_cases e : x = D
  · subst e
    rw [rm_at] at h
    cases h
  · rw [rm_ne e] at h
    exact ⟨e, h⟩
theorem rm_same (D : Addr) (H : Hp) : Same (rm D H) H := fun x o h => (rm_some h).2
theorem rm_upd {D : Addr} {H : Hp} {o : HO} : rm D (upd H D o) = rm D H := by
  funext x
  by_cases e : x = D
  · subst e
    rw [rm_at, rm_at]
  · rw [rm_ne e, rm_ne e, upd_ne e]
theorem rm_new {D : Addr} {H : Hp} (h : H D = none) : rm D H = H := by
  funext x
  by_cases e : x = D
  · subst e
    rw [rm_at, h]
  · rw [rm_ne e]
/-- the almanac has nothing to do with D -/
def AlmOff (D : Addr) (H : Hp) (CA CB m b sp d : Addr) (st : Sx57.St) (stops : Sx57.Stops) : Prop := Alm (rm D H) CA CB m b sp d st stops
theorem AlmOff.on {D : Addr} (A : AlmOff D H CA CB m b sp d st stops) : Alm H CA CB m b sp d st stops := Alm.same A (rm_same D H)
theorem Alm.off {D : Addr} {o : HO} (A : Alm H CA CB m b sp d st stops) (h : H D = none) : AlmOff D (upd H D o) CA CB m b sp d st stops := by
  unfold AlmOff
  rw [rm_upd, rm_new h]
  exact A
theorem AlmOff.put {D : Addr} {o : HO} (A : AlmOff D H CA CB m b sp d st stops) : AlmOff D (upd H D o) CA CB m b sp d st stops := by
  unfold AlmOff
  rw [rm_upd]
  exact A
theorem AlmOff.ua {D : Addr} {xs : List V} (A : AlmOff D H CA CB m b sp d st stops) (hD : H D = some (.lst xs)) (u : Ua d H H') (A' : Alm H' CA CB m b sp d st stops) : AlmOff D H' CA CB m b sp d st stops := by
  obtain ⟨kvs, hd, yk⟩ := Alm.yr A
  obtain ⟨nd, hd0⟩ := rm_some hd
  have u2 : Up d (rm D H) (rm D H') := by
    refine ⟨fun a o h n => ?_, fun a h => ?_⟩
    · obtain ⟨na, ha⟩ := rm_some h
      rw [rm_ne na]
      exact u.up.1 a o ha n
    · by_cases e : a = D
      · subst e
        exact rm_at
      · rw [rm_ne e] at h ⊢
        exact u.up.2 a h
  refine Alm.up A u2 ?_
  obtain ⟨kvs', hd', yk'⟩ := A'.yr
  refine ⟨kvs', by rw [rm_ne nd]; exact hd', yk'.1, fun kv hkv => ?_⟩
  obtain ⟨y, f, e1, e2, e3⟩ := yk'.2 kv hkv
  refine ⟨y, f, e1, e2, ?_⟩
  have nf : f ≠ D := by
    rcases u.gr kvs' hd' kv hkv with ⟨kvs0, h0, h1⟩ | ⟨g, eg, hg⟩
    · rw [hd0] at h0
      cases h0
      obtain ⟨y0, f0, e4, e5, e6⟩ := yk.2 kv h1
      rw [e1] at e4
      have e4 : V.ref f = V.ref f0 := congrArg Prod.snd e4
      cases e4
      exact (rm_some e6).1
    · rw [e1] at eg
      have eg : V.ref f = V.ref g := eg
      cases eg
      intro q
      rw [q, hD] at hg
      cases hg
  rw [rm_ne nf]
  exact e3
end
section
variable {P : Program} {w : World} {K : PySem.W.Frag} {mg : Str → Option Value} {base : Heap}
theorem Txt.naA (T : Txt K mg) {f : Str} (h : f ∈ (["book", "stops", "years"] : List Str) := by decide +kernel) : NoAttr K T.Almanac.a f := T.Almanac.na f h
/-! ### find_rest_flags -/
def sp_find (CA CB : Addr) : Sp := fun vs H Q _ => ∃ (m b sp d : Addr) (st : Sx57.St) (stops : Sx57.Stops) (y : Nat), vs = [.ref m, .int y] ∧ Alm H CA CB m b sp d st stops ∧ 1600 ≤ y ∧ y < 4000 ∧
  ∀ (H' : Hp) (p : Addr), Same H H' → H p = none → H' p = some (.lst ((flags st.rests y).map V.bl)) → Q (.ref p) H'
theorem ok_Almanac_find_rest_flags (T : Txt K mg) : FnOk P w K mg base CX0 4 T.Almanac_find_rest_flags.a T.Almanac_find_rest_flags.fd ["self", "year"] (sp_find T.Almanac.a T.Book.a) := by
  refine T.Almanac_find_rest_flags.F.ok sc_Almanac_find_rest_flags (fun vs H Q E h => ?_) (fun cdv A outer s H vs Q E hr h => ?_)
  · obtain ⟨_, _, _, _, _, _, _, rfl, _⟩ := h
    rfl
  · obtain ⟨m, b, sp, d, st, stops, y, rfl, AL, hy, hy2, k⟩ := h
    refine ⟨_, (pss_cons (ps_set (i := 2) sc_Almanac_find_rest_flags.nd rfl (Or.inl rfl) (pe_call (ok_days_before_year T) (hr.mono (by decide : 1 ≤ 3)) rfl T.days_before_year.m T.days_before_year.F.kp T.days_before_year.b .nil pass0 (pa_cons (pv 1) pa_nil)))
      (pss_cons (ps_set (i := 3) sc_Almanac_find_rest_flags.nd rfl (Or.inl rfl) (pe_call (ok_days_before_year T) (hr.mono (by decide : 1 ≤ 3)) rfl T.days_before_year.m T.days_before_year.F.kp T.days_before_year.b .nil pass0 (pa_cons (pe_add (pv 1) pe_int) pa_nil)))
      (pss_cons (ps_setLc (i := 5) rfl sc_Almanac_find_rest_flags.nd rfl rfl (sw_true rfl rfl rfl (by decide +kernel)) (pi_range2 rfl T.n_range (pa_cons (pv 2) (pa_cons (pv 3) pa_nil))) (blkOk_by (own := [("number", 4)]) (by show blkC ["self", "year", "start", "behind", "number", "flags", "told", "feast", "days"] (defScope s_Almanac_find_rest_flags) _ _ = true; decide +kernel)) (fun _ _ _ _ _ => (pg_name (i := 4) sc_Almanac_find_rest_flags.nd rfl (Or.inl rfl))) (fun _ _ _ _ _ => pts_nil) (fun _ _ _ _ _ => (pe_cmpR (op_inK (K := K) rfl) (pe_call (ok_weekday T) (hr.mono (by decide : 1 ≤ 3)) rfl T.weekday.m T.weekday.F.kp T.weekday.b .nil pass0 (pa_cons (pv 4) pa_nil)) (pe_fldK (K := K) rfl (pe_fldK (K := K) rfl (pv 0) (by rfl)) (by rfl)) (by with_unfolding_all rfl))))
      (pss_cons (ps_for PassesOwn.never rfl (pi_list (pe_fld (pe_fld (pv 0) rfl) rfl)) (pg_name (i := 6) sc_Almanac_find_rest_flags.nd rfl (Or.inl rfl))
      (pss_one (ps_if (pt_val (pe_call (ok_has_day T) (hr.mono (by decide : 3 ≤ 3)) rfl T.has_day.m T.has_day.F.kp T.has_day.b .nil pass0 (pa_cons (pv 1) (pa_cons (pe_item (pv 6) pe_int) (pa_cons (pe_item (pv 6) pe_int) pa_nil))))) (pss_one (ps_asg pe_bl (pg_sub (pv 5) (pe_sub (pe_call (ok_day_number T) (hr.mono (by decide : 3 ≤ 3)) rfl T.day_number.m T.day_number.F.kp T.day_number.b .nil pass0 (pa_cons (pe_tup (pa_cons (pv 1) (pa_cons (pe_item (pv 6) pe_int) (pa_cons (pe_item (pv 6) pe_int) pa_nil)))) pa_nil)) (pv 2)) set_list))) pss_nil)))
      (pss_cons (ps_set (i := 7) sc_Almanac_find_rest_flags.nd rfl (Or.inl rfl) (pe_call (ok_day_number T) (hr.mono (by decide : 3 ≤ 3)) rfl T.day_number.m T.day_number.F.kp T.day_number.b .nil pass0 (pa_cons (pe_call (ok_easter T) (hr.mono (by decide : 1 ≤ 3)) rfl T.easter.m T.easter.F.kp T.easter.b .nil pass0 (pa_cons (pv 1) pa_nil)) pa_nil)))
      (pss_cons (ps_for PassesOwn.never rfl (pi_list (pe_fld (pe_fld (pv 0) rfl) rfl)) (pg_name (i := 8) sc_Almanac_find_rest_flags.nd rfl (Or.inl rfl))
      (pss_one (ps_asg pe_bl (pg_sub (pv 5) (pe_sub (pe_add (pv 7) (pv 8)) (pv 2)) set_list))))
      (pss_cons (ps_for PassesOwn.never rfl (pi_list (pe_fld (pe_fld (pv 0) rfl) rfl)) (pg_name (i := 4) sc_Almanac_find_rest_flags.nd rfl (Or.inl rfl))
      (pss_one (ps_if (pt_chain op_le op_lt (pv 2) (pv 4) (pv 3)) (pss_one (ps_asg pe_bl (pg_sub (pv 5) (pe_sub (pv 4) (pv 2)) set_list))) pss_nil)))
      (pss_one (ps_ret (pv 5)))))))))), ?_⟩
    have hlen := Cal.yearDays_le y
    have hss := Cal.yearStart_succ hy
    have hsle := Cal.yearStart_le (y := y) hy
    obtain ⟨dx, ob⟩ := AL.ob
    obtain ⟨own, bk⟩ := AL.bk
    have BB := bk
    obtain ⟨dx2, a1, a2, a3, a4, a5, a6, ps, ws, ss, eo, B⟩ := BB
    refine tSeq_to (σ1 := [some (.ref m), some (.int y), some (.int (yearStart y : Nat)), none, none, none, none, none, none]) (H1 := H) (fun R r => ?_) ?_
    · walk_at "rd"
      exact ⟨y, rfl, hy, by omega, r⟩
    refine tSeq_to (σ1 := [some (.ref m), some (.int y), some (.int (yearStart y : Nat)), some (.int (yearStart (y + 1) : Nat)), none, none, none, none, none]) (H1 := H) (fun R r => ?_) ?_
    · walk_at "rd"
      exact ⟨y + 1, rfl, by omega, by omega, r⟩
    refine ⟨_, rfl, _, rfl, _, _, rfl, ⟨by omega, by omega, by omega, by omega⟩, fun D hD => lc_range (fun i H' => H' = upd H D (.lst (blL i (hits st.rests y [] [] [])))) rfl ?_ ?_⟩
    · rintro i H' hi rfl
      have s1 : Same H (upd H D (.lst (blL i (hits st.rests y [] [] [])))) := Same.upd hD
      have q1 : upd H D (.lst (blL i (hits st.rests y [] [] []))) D = some (.lst (blL i (hits st.rests y [] [] []))) := upd_same
      have e2 : ∀ o, upd (upd H D (.lst (blL i (hits st.rests y [] [] [])))) D o = upd H D o := fun o => by
        funext z
        by_cases q : z = D
        · subst q
          rw [upd_same, upd_same]
        · rw [upd_ne q, upd_ne q, upd_ne q]
      have B1 := B.same s1
      refine ⟨rfl, ?_⟩
      walk_at "rd"
      refine ⟨yearStart y + i, by rw [Int.natCast_add], _, dx, _, s1 _ _ ob, T.Almanac.cl, T.naA, _, rfl, _, rfl, _, dx2, _, B1.ob, T.Book.cl, T.na, _, rfl, a1, rfl, _, .inl (SqL.of B1.wk), rfl, flat_nat _, _, q1, ?_, ?_⟩
      · rw [blL_length]
        exact Nat.lt_of_lt_of_le (show i < 366 by omega) (by decide)
      · show upd _ D (.lst (_ ++ [V.bl (inV (.int (Sx57.weekday (yearStart y + i) : Nat)) (st.rests.week.map natV))])) = _
        rw [inV_nat, e2, blL_succ]
        congr 3
        unfold hits
        simp
    · rintro H' rfl
      have el : ((yearStart (y + 1) : Int) - (yearStart y : Nat)).toNat = Cal.yearDays y := by omega
      rw [el]
      have s1 : Same H (upd H D (.lst (blL (Cal.yearDays y) (hits st.rests y [] [] [])))) := Same.upd hD
      have q1 : upd H D (.lst (blL (Cal.yearDays y) (hits st.rests y [] [] []))) D = some (.lst (blL (Cal.yearDays y) (hits st.rests y [] [] []))) := upd_same
      generalize upd H D (.lst (blL (Cal.yearDays y) (hits st.rests y [] [] []))) = H1 at s1 q1 ⊢
      have B1 := B.same s1
      have keep : ∀ {H2 : Hp} {o : HO}, Same H H2 → Same H (upd H2 D o) := fun s z o h => by
        rw [upd_ne (ne_of_none h hD)]
        exact s z o h
      have hln : ∀ {j : Nat} {f : Nat → Bool} (z : Int), z = (j : Int) → j < Cal.yearDays y → ixN (blL (Cal.yearDays y) f).length z = some j := fun {j f} z e hj => by
        subst e
        unfold ixN
        rw [blL_length, if_pos (by omega), if_pos (by omega)]
        congr 1
      -- the days of each year
      refine ⟨_, rfl, _, _, dx, _, _, rfl, s1 _ _ ob, T.Almanac.cl, T.naA, rfl, _, _, dx2, _, _, rfl, B1.ob, T.Book.cl, T.na, rfl, a2, rfl, ⟨_, SqL.of B1.yr⟩, for_list (K := K) (a := a2) (xs := ps.map V.ref) (fun i σ H' => Same H H' ∧ H' D = some (.lst (blL (Cal.yearDays y) (hits st.rests y (st.rests.years.take i) [] []))) ∧ ∃ v, σ = [some (.ref m), some (.int y), some (.int (yearStart y : Nat)), some (.int (yearStart (y + 1) : Nat)), none, some (.ref D), v, none, none]) ⟨s1, q1, none, rfl⟩ (fun i σ H' _ h => SqL.of (h.1 _ _ B.yr)) ?_ ?_⟩
      · rintro i x σ H' hi ⟨sH, hDl, v, rfl⟩
        obtain ⟨p, hp, rfl⟩ : ∃ p, ps[i]? = some p ∧ x = V.ref p := by
          rw [List.getElem?_map] at hi
          cases q : ps[i]? with
          | none => rw [q] at hi; cases hi
          | some p => rw [q] at hi; exact ⟨p, rfl, (Option.some.inj hi).symm⟩
        have hlp : ps.length = st.rests.years.length := by
          have := Paired.length B.yrs
          rw [List.length_map] at this
          exact this
        obtain ⟨md, hmd⟩ : ∃ md, st.rests.years[i]? = some md := ⟨_, List.getElem?_eq_getElem (by have := (List.getElem?_eq_some_iff.mp hp).1; omega)⟩
        have ht := tups_get B.yrs hp (show (st.rests.years.map pairI)[i]? = some (pairI md) by rw [List.getElem?_map, hmd]; rfl)
        have hA : Sq K H' p [.int (md.1 : Nat), .int (md.2 : Nat)] := .inr (SqT.of (sH _ _ ht))
        walk_at "rd"
        refine ⟨_, hA, _, at0, _, hA, _, at1, y, md.1, md.2, rfl, ?_⟩
        refine ⟨_, rfl, ?_⟩
        have en : blL (Cal.yearDays y) (hits st.rests y (st.rests.years.take (i + 1)) [] []) = blL (Cal.yearDays y) fun k => hits st.rests y (st.rests.years.take i) [] [] k || hitY y k md := blL_congr fun k _ => hits_year hmd k
        rw [en]
        cases c : dayIn y md.1 md.2 with
        | false =>
          refine iteF ⟨sH, ?_, _, rfl⟩
          rw [hDl]
          congr 2
          refine blL_congr fun k _ => ?_
          unfold hitY
          rw [c, Bool.false_and, Bool.or_false]
        | true =>
          have g := (dayIn_iff hy).mp c
          obtain ⟨c1, c2⟩ := Cal.day_in_year g
          have c1 : yearStart y ≤ dayOf ⟨y, md.1, md.2⟩ := c1
          have c2 : dayOf ⟨y, md.1, md.2⟩ < yearStart (y + 1) := c2
          refine iteT ⟨_, hA, _, at0, _, hA, _, at1, by show 3 ≤ sizeLine; decide, fun p2 hp2 => ?_⟩
          have s2 : Same H' (upd H' p2 (.tup [.int (y : Nat), .int (md.1 : Nat), .int (md.2 : Nat)])) := Same.upd hp2
          refine ⟨_, y, md.1, md.2, rfl, ⟨p2, rfl, .inr (SqT.of upd_same)⟩, hy, by omega, g.m1, g.m2, g.d1, _, rfl, _, s2 _ _ hDl, dayOf ⟨y, md.1, md.2⟩ - yearStart y, hln _ (by omega) (by omega), keep (sH.trans s2), ?_, _, rfl⟩
          rw [upd_same, blL_set]
          congr 2
          refine blL_congr fun k _ => ?_
          unfold hitY
          rw [c, Bool.true_and]
          congr 1
          exact decide_eq_decide.mpr (by omega)
      · rintro σ H2 ⟨sH, hDl, v, rfl⟩
        rw [List.length_map, show ps.length = st.rests.years.length by have := Paired.length B.yrs; rw [List.length_map] at this; exact this, List.take_length] at hDl
        -- Easter
        refine ⟨_, rfl, y, rfl, by omega, fun p3 hp3 => ⟨_, y, eaN y / 31, eaN y % 31 + 1, rfl, ⟨p3, rfl, .inr (SqT.of upd_same)⟩, hy, by omega, (eaN_ok y).1, (eaN_ok y).2, by omega, ?_⟩⟩
        have s3 : Same H2 (upd H2 p3 (.tup [.int (y : Nat), .int (eaN y / 31 : Nat), .int (eaN y % 31 + 1 : Nat)])) := Same.upd hp3
        generalize upd H2 p3 (.tup [.int (y : Nat), .int (eaN y / 31 : Nat), .int (eaN y % 31 + 1 : Nat)]) = H3 at s3 ⊢
        have s03 := sH.trans s3
        have hD3 := s3 _ _ hDl
        have B3 := B.same s03
        obtain ⟨ea1, ea2⟩ := easter_in y
        show tSeq _ _ _ [some (.ref m), some (.int y), some (.int (yearStart y : Nat)), some (.int (yearStart (y + 1) : Nat)), none, some (.ref D), v, some (.int (Sx57.easter y : Nat)), none] H3
        refine ⟨_, rfl, _, _, dx, _, _, rfl, s03 _ _ ob, T.Almanac.cl, T.naA, rfl, _, _, dx2, _, _, rfl, B3.ob, T.Book.cl, T.na, rfl, a3, rfl, ⟨_, SqL.of B3.ea⟩, for_list (K := K) (a := a3) (xs := st.rests.easters.map V.int) (fun i σ H' => Same H H' ∧ H' D = some (.lst (blL (Cal.yearDays y) (hits st.rests y st.rests.years (st.rests.easters.take i) []))) ∧ ∃ v8, σ = [some (.ref m), some (.int y), some (.int (yearStart y : Nat)), some (.int (yearStart (y + 1) : Nat)), none, some (.ref D), v, some (.int (Sx57.easter y : Nat)), v8]) ⟨s03, hD3, none, rfl⟩ (fun i σ H' _ h => SqL.of (h.1 _ _ B.ea)) ?_ ?_⟩
        · rintro i x σ H' hi ⟨sH', hDl', v8, rfl⟩
          obtain ⟨z, hz, rfl⟩ : ∃ z, st.rests.easters[i]? = some z ∧ x = V.int z := by
            rw [List.getElem?_map] at hi
            cases q : st.rests.easters[i]? with
            | none => rw [q] at hi; cases hi
            | some z => rw [q] at hi; exact ⟨z, rfl, (Option.some.inj hi).symm⟩
          have hz2 := AL.er z (List.mem_of_getElem? hz)
          walk_at "rd"
          refine ⟨_, hDl', ((Sx57.easter y : Int) + z - yearStart y).toNat, hln _ (by omega) (by omega), keep sH', ?_, _, rfl⟩
          rw [upd_same, blL_set]
          congr 2
          refine blL_congr fun k hk => ?_
          rw [hits_easter hz k]
          congr 1
          unfold hitE
          exact decide_eq_decide.mpr (by omega)
        · rintro σ H4 ⟨sH4, hDl4, v8, rfl⟩
          rw [List.length_map, List.take_length] at hDl4
          have B4 := B.same sH4
          refine ⟨_, rfl, _, _, dx, _, _, rfl, sH4 _ _ ob, T.Almanac.cl, T.naA, rfl, _, _, dx2, _, _, rfl, B4.ob, T.Book.cl, T.na, rfl, a4, rfl, ⟨_, SqL.of B4.cl⟩, for_list (K := K) (a := a4) (xs := st.rests.days.map natV) (fun i σ H' => Same H H' ∧ H' D = some (.lst (blL (Cal.yearDays y) (hits st.rests y st.rests.years st.rests.easters (st.rests.days.take i)))) ∧ ∃ v4, σ = [some (.ref m), some (.int y), some (.int (yearStart y : Nat)), some (.int (yearStart (y + 1) : Nat)), v4, some (.ref D), v, some (.int (Sx57.easter y : Nat)), v8]) ⟨sH4, hDl4, none, rfl⟩ (fun i σ H' _ h => SqL.of (h.1 _ _ B.cl)) ?_ ?_⟩
          · rintro i x σ H' hi ⟨sH', hDl', v4, rfl⟩
            obtain ⟨z, hz, rfl⟩ : ∃ z, st.rests.days[i]? = some z ∧ x = natV z := by
              rw [List.getElem?_map] at hi
              cases q : st.rests.days[i]? with
              | none => rw [q] at hi; cases hi
              | some z => rw [q] at hi; exact ⟨z, rfl, (Option.some.inj hi).symm⟩
            have en : blL (Cal.yearDays y) (hits st.rests y st.rests.years st.rests.easters (st.rests.days.take (i + 1))) = blL (Cal.yearDays y) fun k => hits st.rests y st.rests.years st.rests.easters (st.rests.days.take i) k || hitD y k z := blL_congr fun k _ => hits_day hz k
            rw [en]
            have no : ¬ (yearStart y ≤ z ∧ z < yearStart (y + 1)) → (blL (Cal.yearDays y) fun k => hits st.rests y st.rests.years st.rests.easters (st.rests.days.take i) k || hitD y k z) = blL (Cal.yearDays y) (hits st.rests y st.rests.years st.rests.easters (st.rests.days.take i)) := fun h => by
              refine blL_congr fun k hk => ?_
              unfold hitD
              rw [decide_eq_false (by omega), Bool.or_false]
            simp only [natV]
            walk_at "rd"
            refine ite2 (fun c1 => ite2 (fun c2 => ?_) fun c2 => ?_) fun c1 => ?_
            · refine ⟨_, hDl', z - yearStart y, hln _ (by omega) (by omega), keep sH', ?_, _, rfl⟩
              rw [upd_same, blL_set]
              congr 2
              refine blL_congr fun k hk => ?_
              congr 1
              unfold hitD
              exact decide_eq_decide.mpr (by omega)
            · refine ⟨sH', ?_, _, rfl⟩
              rw [no (by omega)]
              exact hDl'
            · refine ⟨sH', ?_, _, rfl⟩
              rw [no (by omega)]
              exact hDl'
          · rintro σ H5 ⟨sH5, hDl5, v4, rfl⟩
            rw [List.length_map, List.take_length, hits_flags st.rests hy hy2] at hDl5
            exact ⟨_, rfl, k H5 D sH5 hD hDl5⟩
end
end Dc
end
section
set_option Elab.async false
set_option linter.all false
set_option maxRecDepth 100000
set_option maxHeartbeats 2000000
namespace Dc
open PySem PySem.Spec PyProof.Rows L2
open Sx57 (leap monthDays dayOf dateOf dateOk yearStart monthStart)
local macro_rules | `(tactic| walk_at "rd") => `(tactic| simp only [tRet, tSeq, wipe, tYes, gSub, rSetL, tMake, tNotN, rIn, sFld, tIfS, tAndV, tOrV, tNotV, tAnd, tOr, tNot, tB, tTest, tCmp, t2I, tAdd, tSub, tMul, tOp, rI, rI0, tUn, rU, tVar, tC, tCall, tCons, tNil, tIx, tLen, tAsg, gName, tAug, ipI, tIf, tNext, tDrop, tChain, tTup, tLst, tFld, tMeth, tIsN, tCB, tBM, tSl, rSlL, tPart, tNoPart, CDiv, cxK, L2.start, List.length_cons, List.length_nil, List.replicate, List.map_cons, List.map_nil, List.cons_append, List.nil_append, List.append_nil, List.getElem?_cons_zero, List.getElem?_cons_succ, List.set_cons_zero, List.set_cons_succ, List.cons.injEq, and_true, true_and, Option.some.injEq, exists_eq_left', exists_eq_left, V.int.injEq, V.bl.injEq, V.ref.injEq, exists_and_left, decide_eq_true_eq, Nat.reduceAdd, Nat.reduceSub, Int.reduceLT, Int.reducePow, Int.reduceNeg, Bool.not_eq_true', decide_eq_false_iff_not, Bool.false_eq_true, ↓reduceIte, Bool.not_true, Bool.not_false])
theorem len_filter {a : Key} : ∀ {l : List Key}, l.Nodup → l.length ≤ (l.filter fun k => decide (k ≠ a)).length + 1
  | [], _ => by simp
  | x :: l, nd => by
    obtain ⟨h1, h2⟩ := List.nodup_cons.mp nd
    by_cases e : x = a
    · subst e
      have e2 : (l.filter fun k => decide (k ≠ x)) = l := List.filter_eq_self.mpr fun k hk => decide_eq_true fun q => h1 (q ▸ hk)
      rw [List.filter_cons_of_neg (by simp), e2]
      exact Nat.le_refl _
    · rw [List.filter_cons_of_pos (by simpa using e)]
      have := len_filter (a := a) h2
      simp only [List.length_cons]
      omega
theorem keys_len : ∀ (N : Nat) (l : List Key), l.Nodup → (∀ k ∈ l, ∃ x : Nat, k = Sum.inl (x : Int) ∧ x < N) → l.length ≤ N
  | 0, l, _, h => by
    cases l with
    | nil => exact Nat.le_refl _
    | cons k l =>
      obtain ⟨x, _, hx⟩ := h k (List.mem_cons_self ..)
      omega
  | N + 1, l, nd, h => by
    have ih := keys_len N (l.filter fun k => decide (k ≠ Sum.inl (N : Int))) (nd.filter _) fun k hk => by
      obtain ⟨hm, hne⟩ := List.mem_filter.mp hk
      have hne := of_decide_eq_true hne
      obtain ⟨x, rfl, hx⟩ := h k hm
      refine ⟨x, rfl, ?_⟩
      by_cases q : x = N
      · subst q
        exact absurd rfl hne
      · omega
    have := len_filter (a := Sum.inl (N : Int)) nd
    omega
theorem valV_mem {kvs : List (Key × V)} {k : Key} {v : V} (h : valV kvs k = some v) : (k, v) ∈ kvs := by
  unfold valV at h
  cases q : kvs.find? fun kv => decide (kv.1 = k) with
  | none => rw [q] at h; cases h
  | some kv =>
    rw [q] at h
    have h : kv.2 = v := Option.some.inj h
    have h1 := List.find?_some q
    have h2 := List.mem_of_find?_eq_some q
    have h1 : kv.1 = k := of_decide_eq_true h1
    obtain ⟨a, b⟩ := kv
    dsimp only at h h1
    subst h h1
    exact h2
theorem YearsOk.len {H : Hp} {r : Sx57.Rests} {kvs : List (Key × V)} (y : YearsOk H r kvs) : kvs.length ≤ 4000 := by
  have := keys_len 4000 (kvs.map (·.1)) y.1 fun k hk => by
    obtain ⟨kv, hkv, rfl⟩ := List.mem_map.mp hk
    obtain ⟨n, f, rfl, hn, _⟩ := y.2 kv hkv
    exact ⟨n, rfl, hn⟩
  rw [List.length_map] at this
  exact this
theorem YearsOk.get {H : Hp} {r : Sx57.Rests} {kvs : List (Key × V)} (ok : YearsOk H r kvs) {y : Nat} {v : V} (h : valV kvs (Sum.inl (y : Int)) = some v) : ∃ f, v = .ref f ∧ H f = some (.lst ((flags r y).map V.bl)) := by
  obtain ⟨n, f, e, _, z⟩ := ok.2 _ (valV_mem h)
  have e1 : Sum.inl (y : Int) = Sum.inl (n : Int) := congrArg Prod.fst e
  have e2 : v = .ref f := congrArg Prod.snd e
  have e1 : (y : Int) = n := Sum.inl.inj e1
  have e1 : y = n := by omega
  subst e1
  exact ⟨f, e2, z⟩
section
variable {P : Program} {w : World} {K : PySem.W.Frag} {mg : Str → Option Value} {base : Heap}
/-! ### rest_flags -/
def sp_flags (CA CB : Addr) : Sp := fun vs H Q _ => ∃ (m b sp d : Addr) (st : Sx57.St) (stops : Sx57.Stops) (y : Nat), vs = [.ref m, .int y] ∧ Alm H CA CB m b sp d st stops ∧ 1600 ≤ y ∧ y < 4000 ∧
  ∀ (H' : Hp) (f : Addr), Ua d H H' → Alm H' CA CB m b sp d st stops → H' f = some (.lst ((flags st.rests y).map V.bl)) → Q (.ref f) H'
theorem ok_Almanac_rest_flags (T : Txt K mg) : FnOk P w K mg base CX0 5 T.Almanac_rest_flags.a T.Almanac_rest_flags.fd ["self", "year"] (sp_flags T.Almanac.a T.Book.a) := by
  refine T.Almanac_rest_flags.F.ok sc_Almanac_rest_flags (fun vs H Q E h => ?_) (fun cdv A outer s H vs Q E hr h => ?_)
  · obtain ⟨_, _, _, _, _, _, _, rfl, _⟩ := h
    rfl
  · obtain ⟨m, b, sp, d, st, stops, y, rfl, AL, hy, hy2, k⟩ := h
    refine ⟨_, (pss_cons (ps_if (pt_cmp (pc_dnotin (hu_of hr) (pv 1) (pe_fld (pv 0) rfl))) (pss_one (ps_dput (hu_of hr) (pe_fld (pv 0) rfl) (pv 1) (pe_meth (pv 0) T.Almanac.cl T.Almanac_find_rest_flags.m (ok_Almanac_find_rest_flags T) (hr.mono (by decide : 4 ≤ 4)) T.Almanac_find_rest_flags.b .nil pass0 (pa_cons (pv 1) pa_nil)) rfl)) pss_nil)
      (pss_one (ps_ret (pe_dget (hu_of hr) (pe_fld (pv 0) rfl) (pv 1) (fun _ _ => rfl))))), ?_⟩
    obtain ⟨dx, ob⟩ := AL.ob
    obtain ⟨kvs, hd, yok⟩ := AL.yr
    refine ⟨_, rfl, _, rfl, _, _, dx, _, _, rfl, ob, T.Almanac.cl, T.naA, rfl, d, _, rfl, DGet.k (k := Sum.inl (y : Int)) hd, _, rfl, ?_⟩
    cases e : valV kvs (Sum.inl (y : Int)) with
    | some v =>
      obtain ⟨f, rfl, hf⟩ := yok.get e
      refine iteF (nx_to ?_)
      dsimp only
      have g : DGet H d (kV (Sum.inl (y : Int))) (some (.ref f)) := by rw [← e]; exact DGet.k hd
      exact ⟨_, rfl, _, _, dx, _, _, rfl, ob, T.Almanac.cl, T.naA, rfl, _, rfl, d, _, rfl, g, k H f (Ua.refl d H) AL hf⟩
    | none =>
      refine iteT ?_
      refine ⟨_, rfl, m, dx, _, rfl, ob, rfl, _, rfl, m, b, sp, d, st, stops, y, rfl, AL, hy, hy2, fun H1 p s1 hp hp1 => ?_⟩
      have hd1 := s1 _ _ hd
      have hl := yok.len
      refine ⟨_, rfl, _, _, dx, _, _, rfl, s1 _ _ ob, T.Almanac.cl, T.naA, rfl, _, rfl, d, _, rfl, DPut.k (k := Sum.inl (y : Int)) hd1 (Nat.lt_of_le_of_lt hl (by decide)), ?_⟩
      have ek : putK kvs (Sum.inl (y : Int)) (V.ref p) = kvs ++ [(Sum.inl (y : Int), V.ref p)] := putK_new _ e
      have u : Up d H (upd H1 d (.dK (putK kvs (Sum.inl (y : Int)) (V.ref p)))) := ⟨fun a o h n => by rw [upd_ne n]; exact s1 a o h, fun a h => s1.free (upd_none h).2⟩
      have kl : ∀ a xs, H1 a = some (.lst xs) → upd H1 d (.dK (putK kvs (Sum.inl (y : Int)) (V.ref p))) a = some (.lst xs) := fun a xs h => by
        rw [upd_ne (ne_of h hd1 (by intro q; cases q))]
        exact h
      have hp2 := kl _ _ hp1
      have hd2 : upd H1 d (.dK (putK kvs (Sum.inl (y : Int)) (V.ref p))) d = some (.dK (putK kvs (Sum.inl (y : Int)) (V.ref p))) := upd_same
      have yk : YearsOk (upd H1 d (.dK (putK kvs (Sum.inl (y : Int)) (V.ref p)))) st.rests (putK kvs (Sum.inl (y : Int)) (V.ref p)) := by
        rw [ek] at kl hp2 ⊢
        refine ⟨?_, fun kv h => ?_⟩
        · rw [List.map_append]
          refine List.nodup_append.mpr ⟨yok.1, by simp, fun x hx z hz => ?_⟩
          have ez : z = Sum.inl (y : Int) := by simpa using hz
          subst ez
          intro q
          subst q
          exact valV_not e hx
        · rcases List.mem_append.mp h with h | h
          · obtain ⟨n, f, e1, e2, e3⟩ := yok.2 kv h
            exact ⟨n, f, e1, e2, kl _ _ (s1 _ _ e3)⟩
          · have ez := List.mem_singleton.mp h
            exact ⟨y, p, ez, hy2, hp2⟩
      have ua : Ua d H (upd H1 d (.dK (putK kvs (Sum.inl (y : Int)) (V.ref p)))) := ⟨u, fun kvs' e' kv hkv => by
        rw [hd2] at e'
        cases e'
        rw [ek] at hkv
        rcases List.mem_append.mp hkv with h | h
        · exact .inl ⟨kvs, hd, h⟩
        · exact .inr ⟨p, by rw [List.mem_singleton.mp h], hp⟩⟩
      generalize upd H1 d (.dK (putK kvs (Sum.inl (y : Int)) (V.ref p))) = H2 at u ua hp2 hd2 yk ⊢
      have A2 : Alm H2 T.Almanac.a T.Book.a m b sp d st stops := AL.up u ⟨_, hd2, yk⟩
      have g : DGet H2 d (kV (Sum.inl (y : Int))) (some (.ref p)) := by
        have := DGet.k (k := Sum.inl (y : Int)) hd2
        rw [valV_put, if_pos rfl] at this
        exact this
      obtain ⟨dx2, ob2⟩ := A2.ob
      exact ⟨_, rfl, _, _, dx2, _, _, rfl, ob2, T.Almanac.cl, T.naA, rfl, _, rfl, d, _, rfl, g, k H2 p ua A2 hp2⟩
/-! ### rests -/
def sp_rests (CA CB : Addr) : Sp := fun vs H Q _ => ∃ (m b sp d : Addr) (st : Sx57.St) (stops : Sx57.Stops) (n : Nat), vs = [.ref m, .int n] ∧ Alm H CA CB m b sp d st stops ∧ n < Cal.FARTHEST ∧
  ∀ (H' : Hp), Ua d H H' → Alm H' CA CB m b sp d st stops → Q (.bl (st.rests.on n)) H'
theorem flags_at (r : Sx57.Rests) {n : Nat} (hn : n < Cal.FARTHEST) : atI ((flags r (dateOf n).year).map V.bl) ((n : Int) - (yearStart (dateOf n).year : Nat)) = some (V.bl (r.on n)) := by
  obtain ⟨b1, b2, b3, b4⟩ := Cal.year_of_range hn
  rw [Cal.yearStart_succ b1] at b4
  rw [show (n : Int) - (yearStart (dateOf n).year : Nat) = ((n - yearStart (dateOf n).year : Nat) : Int) by omega]
  refine atI_nat ?_
  unfold flags
  rw [List.map_map, List.getElem?_map, List.getElem?_range (by omega)]
  show some (V.bl (r.on (yearStart (dateOf n).year + (n - yearStart (dateOf n).year)))) = _
  rw [show yearStart (dateOf n).year + (n - yearStart (dateOf n).year) = n by omega]
theorem ok_Almanac_rests (T : Txt K mg) : FnOk P w K mg base CX0 6 T.Almanac_rests.a T.Almanac_rests.fd ["self", "number"] (sp_rests T.Almanac.a T.Book.a) := by
  refine T.Almanac_rests.F.ok sc_Almanac_rests (fun vs H Q E h => ?_) (fun cdv A outer s H vs Q E hr h => ?_)
  · obtain ⟨_, _, _, _, _, _, _, rfl, _⟩ := h
    rfl
  · obtain ⟨m, b, sp, d, st, stops, n, rfl, AL, hn, k⟩ := h
    refine ⟨_, (pss_cons (ps_set (i := 2) sc_Almanac_rests.nd rfl (Or.inl rfl) (pe_call (ok_year_of T) (hr.mono (by decide : 2 ≤ 5)) rfl T.year_of.m T.year_of.F.kp T.year_of.b .nil pass0 (pa_cons (pv 1) pa_nil)))
      (pss_one (ps_ret (pe_item (pe_meth (pv 0) T.Almanac.cl T.Almanac_rest_flags.m (ok_Almanac_rest_flags T) (hr.mono (by decide : 5 ≤ 5)) T.Almanac_rest_flags.b .nil pass0 (pa_cons (pv 2) pa_nil)) (pe_sub (pv 1) (pe_call (ok_days_before_year T) (hr.mono (by decide : 1 ≤ 5)) rfl T.days_before_year.m T.days_before_year.F.kp T.days_before_year.b .nil pass0 (pa_cons (pv 2) pa_nil))))))), ?_⟩
    obtain ⟨dx, ob⟩ := AL.ob
    obtain ⟨b1, b2, b3, b4⟩ := Cal.year_of_range hn
    walk_at "rd"
    refine ⟨n, rfl, hn, dx, _, ob, rfl, m, b, sp, d, st, stops, _, rfl, AL, b1, by omega, fun H1 f u1 A1 hf => ?_⟩
    exact ⟨_, rfl, b1, by omega, _, rfl, f, rfl, _, .inl (SqL.of hf), _, flags_at st.rests hn, k H1 u1 A1⟩
/-! ### Almanac.__init__ -/
def sp_alm (CA : Addr) : Sp := fun vs H Q _ => ∃ (m b sp dx : Addr), vs = [.ref m, .ref b, .ref sp] ∧ H m = some (.ins CA dx []) ∧
  ∀ (H' : Hp) (d : Addr), H d = none → H' m = some (.ins CA dx (almFs b sp d)) → H' d = some (.dK []) → Up m H H' → Q .non H'
theorem ok_Almanac_init (T : Txt K mg) : FnOk P w K mg base CX0 1 T.Almanac_init.a T.Almanac_init.fd ["self", "book", "stops"] (sp_alm T.Almanac.a) := by
  refine T.Almanac_init.F.ok sc_Almanac_init (fun vs H Q E h => ?_) (fun cdv A outer s H vs Q E hr h => ?_)
  · obtain ⟨_, _, _, _, rfl, _⟩ := h
    rfl
  · obtain ⟨m, b, sp, dx, rfl, ob, k⟩ := h
    refine ⟨_, (pss_cons (ps_fld (pv 0) (pv 1) rfl)
      (pss_cons (ps_fld (pv 0) (pv 2) rfl)
      (pss_one (ps_fld (pv 0) pe_dnewK rfl)))), ?_⟩
    refine ⟨_, rfl, _, rfl, m, _, dx, _, rfl, ob, T.Almanac.cl, T.naA, by decide, ?_⟩
    have o1 : upd H m (.ins T.Almanac.a dx (putF "book" (V.ref b) [])) m = some (.ins T.Almanac.a dx (putF "book" (V.ref b) [])) := upd_same
    refine ⟨_, rfl, _, rfl, m, _, dx, _, rfl, o1, T.Almanac.cl, T.naA, by show 1 < 1000; decide, ?_⟩
    intro d hd
    obtain ⟨n1, hd1⟩ := upd_none hd
    obtain ⟨_, hd0⟩ := upd_none hd1
    have o2 : upd (upd (upd H m (.ins T.Almanac.a dx (putF "book" (V.ref b) []))) m (.ins T.Almanac.a dx (putF "stops" (V.ref sp) (putF "book" (V.ref b) [])))) d (.dK []) m = some (.ins T.Almanac.a dx (putF "stops" (V.ref sp) (putF "book" (V.ref b) []))) := by
      rw [upd_ne n1.symm, upd_same]
    refine ⟨_, rfl, m, _, dx, _, rfl, o2, T.Almanac.cl, T.naA, by show 2 < 1000; decide, ?_⟩
    refine k _ d hd0 upd_same (by rw [upd_ne n1, upd_same]) ⟨fun a o h n => ?_, fun a h => ?_⟩
    · rw [upd_ne n, upd_ne (ne_of_none h hd0), upd_ne n, upd_ne n]
      exact h
    · exact (upd_none (upd_none (upd_none (upd_none h).2).2).2).2
/-! ### working_days -/
def workP (r : Sx57.Rests) (s : Sx57.Stops) (n : Nat) : Bool := !(r.on n || Sx57.stopped s n)
/-- the days of a year that are worked on, within bounds -/
def inYear (r : Sx57.Rests) (s : Sx57.Stops) (y first final : Nat) : List Nat := ((List.range (Cal.yearDays y)).map fun k => yearStart y + k).filter fun n => workP r s n && (decide (first ≤ n) && decide (n ≤ final))
def sp_working (CA CB : Addr) : Sp := fun vs H Q _ => ∃ (m b sp d : Addr) (st : Sx57.St) (stops : Sx57.Stops) (y first final : Nat), vs = [.ref m, .int y, .int first, .int final] ∧ Alm H CA CB m b sp d st stops ∧ 1600 ≤ y ∧ y < 4000 ∧
  ∀ (H' : Hp) (p : Addr), Ua d H H' → Alm H' CA CB m b sp d st stops → H' p = some (.lst ((inYear st.rests stops y first final).map natV)) → Q (.ref p) H'
theorem ok_Almanac_working_days (T : Txt K mg) : FnOk P w K mg base CX0 6 T.Almanac_working_days.a T.Almanac_working_days.fd ["self", "year", "first", "final"] (sp_working T.Almanac.a T.Book.a) := by
  refine T.Almanac_working_days.F.ok sc_Almanac_working_days (fun vs H Q E h => ?_) (fun cdv A outer s H vs Q E hr h => ?_)
  · obtain ⟨_, _, _, _, _, _, _, _, _, rfl, _⟩ := h
    rfl
  · obtain ⟨m, b, sp, d, st, stops, y, first, final, rfl, AL, hy, hy2, k⟩ := h
    refine ⟨_, (pss_cons (ps_set (i := 4) sc_Almanac_working_days.nd rfl (Or.inr rfl) (pe_call (ok_days_before_year T) (hr.mono (by decide : 1 ≤ 5)) rfl T.days_before_year.m T.days_before_year.F.kp T.days_before_year.b .nil pass0 (pa_cons (pv 1) pa_nil)))
      (pss_cons (ps_set (i := 5) sc_Almanac_working_days.nd rfl (Or.inr rfl) (pe_callTy call_list_of rfl T.n_list (by rfl) (pa_cons (pe_meth (pv 0) T.Almanac.cl T.Almanac_rest_flags.m (ok_Almanac_rest_flags T) (hr.mono (by decide : 5 ≤ 5)) T.Almanac_rest_flags.b .nil pass0 (pa_cons (pv 1) pa_nil)) pa_nil)))
      (pss_cons (ps_for PassesOwn.never rfl (pi_list (pe_fld (pv 0) rfl)) (pg_name (i := 6) sc_Almanac_working_days.nd rfl (Or.inl rfl))
      (pss_one (ps_for PassesOwn.never rfl (pi_range2 rfl T.n_range (pa_cons (pe_callB (call_max2 rfl) rfl T.n_max (by rfl) (pa_cons (pe_item (pv 6) pe_int) (pa_cons (pv 4) pa_nil))) (pa_cons (pe_callB (call_min2 rfl) rfl T.n_min (by rfl) (pa_cons (pe_add (pe_item (pv 6) pe_int) pe_int) (pa_cons (pe_add (pv 4) (pe_len (pv 5) rfl T.n_len)) pa_nil))) pa_nil))) (pg_name (i := 7) sc_Almanac_working_days.nd rfl (Or.inl rfl))
      (pss_one (ps_asg pe_bl (pg_sub (pv 5) (pe_sub (pv 7) (pv 4)) set_list))))))
      (pss_one (ps_ret (pe_lc rfl sc_Almanac_working_days.nd (pi_range1 rfl T.n_range (pa_cons (pe_len (pv 5) rfl T.n_len) pa_nil)) (blkOk_by (own := [("place", 8)]) (by show blkC ["self", "year", "first", "final", "start", "idle", "told", "number", "place"] (defScope s_Almanac_working_days) _ _ = true; decide +kernel)) (fun _ _ _ _ _ => (pg_name (i := 8) sc_Almanac_working_days.nd rfl (Or.inl rfl))) (fun _ _ _ _ _ => (pts_one (PW.pt (pw_and (pt_not (pt_val (pe_itemK (K := K) rfl (pv 5) (pv 8)))) (pw_and1 (pt_chain op_le op_le (pv 2) (pe_add (pv 4) (pv 8)) (pv 3))))))) (fun _ _ _ _ _ => (pe_add (pv 4) (pv 8))))))))), ?_⟩
    have hlen := Cal.yearDays_le y
    have hss := Cal.yearStart_succ hy
    have hsle := Cal.yearStart_le (y := y) hy
    obtain ⟨dx, ob⟩ := AL.ob
    refine tSeq_to (σ1 := [some (.ref m), some (.int y), some (.int first), some (.int final), some (.int (yearStart y : Nat)), none, none, none, none]) (H1 := H) (fun R r => ?_) ?_
    · walk_at "rd"
      exact ⟨y, rfl, hy, by omega, r⟩
    refine ⟨_, rfl, m, dx, _, rfl, ob, rfl, _, rfl, m, b, sp, d, st, stops, y, rfl, AL, hy, hy2, fun H1 f u1 A1 hf => ⟨f, _, rfl, .inl (SqL.of hf), fun D hD => ?_⟩⟩
    have s1 : Same H1 (upd H1 D (.lst ((flags st.rests y).map V.bl))) := Same.upd hD
    have q1 : upd H1 D (.lst ((flags st.rests y).map V.bl)) D = some (.lst ((flags st.rests y).map V.bl)) := upd_same
    generalize upd H1 D (.lst ((flags st.rests y).map V.bl)) = H2 at s1 q1 ⊢
    dsimp only [gName, List.set]
    have A2 := A1.same s1
    obtain ⟨dx2, ob2⟩ := A2.ob
    obtain ⟨ss, hs1, hs2⟩ := A1.sps
    have e0 : (flags st.rests y).map V.bl = blL (Cal.yearDays y) fun k => st.rests.on (yearStart y + k) || Sx57.stopped (stops.take 0) (yearStart y + k) := by
      unfold flags blL
      rw [List.map_map]
      refine List.map_congr_left fun k _ => ?_
      show V.bl _ = V.bl _
      congr 1
      show _ = (_ || false)
      rw [Bool.or_false]
    rw [e0] at q1
    have keep : ∀ {H3 : Hp} {o : HO}, Same H1 H3 → Same H1 (upd H3 D o) := fun s z o h => by
      rw [upd_ne (ne_of_none h hD)]
      exact s z o h
    have hln : ∀ {j : Nat} {f : Nat → Bool} (z : Int), z = (j : Int) → j < Cal.yearDays y → ixN (blL (Cal.yearDays y) f).length z = some j := fun {j f} z e hj => by
      subst e
      unfold ixN
      rw [blL_length, if_pos (by omega), if_pos (by omega)]
      congr 1
    refine ⟨_, rfl, m, _, dx2, _, _, rfl, ob2, T.Almanac.cl, T.naA, rfl, sp, rfl, ⟨_, SqL.of (s1 _ _ hs1)⟩, for_list (K := K) (a := sp) (xs := ss.map V.ref) (fun i σ H' => Same H1 H' ∧ H' D = some (.lst (blL (Cal.yearDays y) fun k => st.rests.on (yearStart y + k) || Sx57.stopped (stops.take i) (yearStart y + k))) ∧ ∃ v6 v7, σ = [some (.ref m), some (.int y), some (.int first), some (.int final), some (.int (yearStart y : Nat)), some (.ref D), v6, v7, none]) ⟨s1, q1, none, none, rfl⟩ (fun i σ H' _ h => SqL.of (h.1 _ _ hs1)) ?_ ?_⟩
    · rintro i x σ H' hi ⟨sH, hDl, v6, v7, rfl⟩
      obtain ⟨p, hp, rfl⟩ : ∃ p, ss[i]? = some p ∧ x = V.ref p := by
        rw [List.getElem?_map] at hi
        cases q : ss[i]? with
        | none => rw [q] at hi; cases hi
        | some p => rw [q] at hi; exact ⟨p, rfl, (Option.some.inj hi).symm⟩
      have hlp : ss.length = stops.length := by
        have := Paired.length hs2
        rw [List.length_map] at this
        exact this
      obtain ⟨z, hz⟩ : ∃ z, stops[i]? = some z := ⟨_, List.getElem?_eq_getElem (by have := (List.getElem?_eq_some_iff.mp hp).1; omega)⟩
      have ht := tups_get hs2 hp (show (stops.map pairI)[i]? = some (pairI z) by rw [List.getElem?_map, hz]; rfl)
      have hA : Sq K H' p [.int (z.1 : Nat), .int (z.2 : Nat)] := .inr (SqT.of (sH _ _ ht))
      have zb := AL.so z (List.mem_of_getElem? hz)
      have zd := Cal.DAYS_eq
      refine ⟨_, rfl, _, _, _, _, rfl, rfl, hA, at0, _, rfl, _, _, rfl, _, rfl, _, _, _, _, rfl, rfl, hA, at1, _, _, rfl, rfl, _, rfl, _, rfl, _, _, rfl, .inl (SqL.of hDl), _, _, rfl, rfl, _, _, rfl, _, _, rfl, ?_⟩
      rw [blL_length]
      have elo : (if (yearStart y : Int) > (z.1 : Nat) then (yearStart y : Int) else (z.1 : Nat)) = ((max (yearStart y) z.1 : Nat) : Int) := by
        split <;> omega
      have ehi : (if (yearStart y : Int) + (Cal.yearDays y : Nat) < (z.2 : Int) + 1 then (yearStart y : Int) + (Cal.yearDays y : Nat) else (z.2 : Int) + 1) = ((min (yearStart y + Cal.yearDays y) (z.2 + 1) : Nat) : Int) := by
        split <;> omega
      rw [elo, ehi]
      have lo1 : yearStart y ≤ max (yearStart y) z.1 ∧ z.1 ≤ max (yearStart y) z.1 ∧ (max (yearStart y) z.1 = yearStart y ∨ max (yearStart y) z.1 = z.1) := by omega
      have hi1 : min (yearStart y + Cal.yearDays y) (z.2 + 1) ≤ yearStart y + Cal.yearDays y ∧ min (yearStart y + Cal.yearDays y) (z.2 + 1) ≤ z.2 + 1 ∧ (min (yearStart y + Cal.yearDays y) (z.2 + 1) = yearStart y + Cal.yearDays y ∨ min (yearStart y + Cal.yearDays y) (z.2 + 1) = z.2 + 1) := by omega
      generalize max (yearStart y) z.1 = lo at lo1 ⊢
      generalize min (yearStart y + Cal.yearDays y) (z.2 + 1) = hi' at hi1 ⊢
      have en : blL (Cal.yearDays y) (fun k => st.rests.on (yearStart y + k) || Sx57.stopped (stops.take (i + 1)) (yearStart y + k)) = blL (Cal.yearDays y) fun k => (st.rests.on (yearStart y + k) || Sx57.stopped (stops.take i) (yearStart y + k)) || (decide (lo ≤ yearStart y + k) && decide (yearStart y + k < lo + (((hi' : Nat) : Int) - (lo : Nat)).toNat)) := by
        refine blL_congr fun k hk => ?_
        unfold Sx57.stopped
        rw [any_take hz, Bool.or_assoc]
        congr 2
        rw [← Bool.decide_and, ← Bool.decide_and]
        exact decide_eq_decide.mpr (by omega)
      rw [en]
      refine ⟨⟨by omega, by omega, by omega, by omega⟩, for_range (fun j σ H' => Same H1 H' ∧ H' D = some (.lst (blL (Cal.yearDays y) fun k => (st.rests.on (yearStart y + k) || Sx57.stopped (stops.take i) (yearStart y + k)) || (decide (lo ≤ yearStart y + k) && decide (yearStart y + k < lo + j)))) ∧ ∃ v7, σ = [some (.ref m), some (.int y), some (.int first), some (.int final), some (.int (yearStart y : Nat)), some (.ref D), some (.ref p), v7, none]) ⟨sH, ?_, _, rfl⟩ ?_ ?_⟩
      · rw [hDl]
        congr 2
        refine blL_congr fun k hk => ?_
        rw [← Bool.decide_and, decide_eq_false (show ¬ (lo ≤ yearStart y + k ∧ yearStart y + k < lo + 0) by omega), Bool.or_false]
      · rintro j σ H'' hj ⟨sH2, hDl2, v7, rfl⟩
        walk_at "rd"
        refine ⟨_, hDl2, lo + j - yearStart y, hln _ (by omega) (by omega), keep sH2, ?_, _, rfl⟩
        rw [upd_same, blL_set]
        congr 2
        refine blL_congr fun k hk => ?_
        rw [Bool.or_assoc]
        congr 1
        rw [← Bool.decide_and, ← Bool.decide_and, ← Bool.decide_or]
        exact decide_eq_decide.mpr (by omega)
      · rintro σ H'' ⟨sH2, hDl2, v7, rfl⟩
        exact ⟨sH2, hDl2, _, _, rfl⟩
    · rintro σ H3 ⟨sH, hDl, v6, v7, rfl⟩
      rw [List.length_map, show ss.length = stops.length by have := Paired.length hs2; rw [List.length_map] at this; exact this, List.take_length] at hDl
      refine ⟨_, rfl, _, _, rfl, .inl (SqL.of hDl), _, rfl, by omega, ?_, fun D2 hD2 => ?_⟩
      · rw [blL_length]
        omega
      · rw [blL_length]
        have s3 : Same H3 (upd H3 D2 (.lst [])) := Same.upd hD2
        have keep2 : ∀ {H4 : Hp} {o : HO}, Same H3 H4 → Same H3 (upd H4 D2 o) := fun s z o h => by
          rw [upd_ne (ne_of_none h hD2)]
          exact s z o h
        refine lc_range (fun i H' => Same H3 H' ∧ H' D2 = some (.lst ((((List.range i).map fun k => yearStart y + k).filter fun n => workP st.rests stops n && (decide (first ≤ n) && decide (n ≤ final))).map natV))) ⟨s3, upd_same⟩ ?_ ?_
        · rintro i H' hi ⟨sH', hD'⟩
          refine ⟨rfl, ?_⟩
          rw [show (0 + (i : Int)) = ((i : Nat) : Int) by omega]
          have hiy : i < Cal.yearDays y := by omega
          have hat : atI (blL (Cal.yearDays y) fun k => st.rests.on (yearStart y + k) || Sx57.stopped stops (yearStart y + k)) ((i : Nat) : Int) = some (.bl (st.rests.on (yearStart y + i) || Sx57.stopped stops (yearStart y + i))) := atI_nat (by
            unfold blL
            rw [List.getElem?_map, List.getElem?_range hiy]
            rfl)
          have hgo : ∀ q : Bool, (workP st.rests stops (yearStart y + i) && (decide (first ≤ yearStart y + i) && decide (yearStart y + i ≤ final))) = q → ((List.range (i + 1)).map fun k => yearStart y + k).filter (fun n => workP st.rests stops n && (decide (first ≤ n) && decide (n ≤ final))) = ((List.range i).map fun k => yearStart y + k).filter (fun n => workP st.rests stops n && (decide (first ≤ n) && decide (n ≤ final))) ++ (if q = true then [yearStart y + i] else []) := fun q hq => by
            rw [List.range_succ, List.map_append, List.filter_append]
            congr 1
            show List.filter _ [yearStart y + i] = _
            rw [List.filter_cons]
            rw [hq]
            cases q <;> rfl
          have hlenF : (((((List.range i).map fun k => yearStart y + k).filter fun n => workP st.rests stops n && (decide (first ≤ n) && decide (n ≤ final)))).map natV).length < sizeLine := by
            rw [List.length_map]
            refine Nat.lt_of_le_of_lt (List.length_filter_le _ _) ?_
            rw [List.length_map, List.length_range]
            exact Nat.lt_of_lt_of_le (show i < 366 by omega) (by decide)
          have hno : (workP st.rests stops (yearStart y + i) && (decide (first ≤ yearStart y + i) && decide (yearStart y + i ≤ final))) = false → Same H3 H' ∧ H' D2 = some (.lst ((((List.range (i + 1)).map fun k => yearStart y + k).filter fun n => workP st.rests stops n && (decide (first ≤ n) && decide (n ≤ final))).map natV)) := fun hq => by
            rw [hgo false hq]
            refine ⟨sH', ?_⟩
            rw [hD']
            simp
          walk_at "rd"
          refine ⟨_, .inl (SqL.of (sH' _ _ hDl)), _, hat, _, rfl, ?_⟩
          cases c : (st.rests.on (yearStart y + i) || Sx57.stopped stops (yearStart y + i)) with
          | true => exact hno (by unfold workP; rw [c]; rfl)
          | false =>
            simp only [Bool.not_false, ↓reduceIte, Bool.false_eq_true]
            refine ite2 (fun c1 => ite2 (fun c2 => ?_) fun c2 => ?_) fun c1 => ?_
            · refine ⟨_, hD', hlenF, keep2 sH', ?_⟩
              rw [upd_same, hgo true (by unfold workP; rw [c, decide_eq_true (by omega), decide_eq_true (by omega)]; rfl), if_pos rfl, List.map_append]
              rfl
            · exact hno (by rw [decide_eq_false (show ¬ yearStart y + i ≤ final by omega), Bool.and_false, Bool.and_false])
            · exact hno (by rw [decide_eq_false (show ¬ first ≤ yearStart y + i by omega), Bool.false_and, Bool.and_false])
        · rintro H' ⟨sH', hD'⟩
          have s13 := sH.trans sH'
          exact k H' D2 (u1.trans (A1.ofs s13)) (A1.same s13) (by rw [hD']; rfl)
end
end Dc
end
section
set_option Elab.async false
set_option linter.all false
set_option maxRecDepth 100000
set_option maxHeartbeats 2000000
namespace Dc
open PySem PySem.Spec PyProof.Rows L2
open Sx57 (leap monthDays dayOf dateOf dateOk yearStart monthStart)
local macro_rules | `(tactic| walk_at "rd") => `(tactic| simp only [tRet, tSeq, wipe, tYes, gSub, rSetL, tMake, tNotN, rIn, sFld, tIfS, tAndV, tOrV, tNotV, tAnd, tOr, tNot, tB, tTest, tCmp, t2I, tAdd, tSub, tMul, tOp, rI, rI0, tUn, rU, tVar, tC, tCall, tCons, tNil, tIx, tLen, tAsg, gName, tAug, ipI, tIf, tNext, tDrop, tChain, tTup, tLst, tFld, tMeth, tIsN, tCB, tBM, tSl, rSlL, tPart, tNoPart, CDiv, cxK, L2.start, List.length_cons, List.length_nil, List.replicate, List.map_cons, List.map_nil, List.cons_append, List.nil_append, List.append_nil, List.getElem?_cons_zero, List.getElem?_cons_succ, List.set_cons_zero, List.set_cons_succ, List.cons.injEq, and_true, true_and, Option.some.injEq, exists_eq_left', exists_eq_left, V.int.injEq, V.bl.injEq, V.ref.injEq, exists_and_left, decide_eq_true_eq, Nat.reduceAdd, Nat.reduceSub, Int.reduceLT, Int.reducePow, Int.reduceNeg, Bool.not_eq_true', decide_eq_false_iff_not, Bool.false_eq_true, ↓reduceIte, Bool.not_true, Bool.not_false])
section
variable {P : Program} {w : World} {K : PySem.W.Frag} {mg : Str → Option Value} {base : Heap}
theorem Txt.naS (T : Txt K mg) {f : Str} (h : f ∈ (["counts", "months_rule", "number", "rest_rule", "unit"] : List Str) := by decide +kernel) : NoAttr K T.Span.a f := T.Span.na f h
/-! ### the span: its object -/
def spanFs (w : Sx57.Way) (u k : Nat) : List (Str × V) := [("counts", .int (Sx57.bit w.counts : Nat)), ("rest_rule", .int (w.rest : Nat)), ("months_rule", .int (w.month : Nat)), ("unit", .int (u : Nat)), ("number", .int (k : Nat))]
def SpanIs (H : Hp) (CS s : Addr) (w : Sx57.Way) (u k : Nat) : Prop := ∃ dx, H s = some (.ins CS dx (spanFs w u k))
def sp_span (K : PySem.W.Frag) (CS : Addr) : Sp := fun vs H Q _ => ∃ (s dx wa : Addr) (ww : Sx57.Way) (u k : Nat), vs = [.ref s, .ref wa, .int u, .int k] ∧ H s = some (.ins CS dx []) ∧ H wa = some (.tup ((wayI ww).map V.int)) ∧
  ∀ (H' : Hp), H' s = some (.ins CS dx (spanFs ww u k)) → Up s H H' → Q .non H'
theorem Up.put {s : Addr} {H H1 : Hp} (u : Up s H H1) {o : HO} : Up s H (upd H1 s o) := ⟨fun a x h n => by rw [upd_ne n]; exact u.1 a x h n, fun a h => u.2 a (upd_none h).2⟩
theorem ok_Span_init (T : Txt K mg) : FnOk P w K mg base CX0 1 T.Span_init.a T.Span_init.fd ["self", "way", "unit", "number"] (sp_span K T.Span.a) := by
  refine T.Span_init.F.ok sc_Span_init (fun vs H Q E h => ?_) (fun cdv A outer s H vs Q E hr h => ?_)
  · obtain ⟨_, _, _, _, _, _, rfl, _⟩ := h
    rfl
  · obtain ⟨s, dx, wa, ww, u, n, rfl, ob, hw, k⟩ := h
    refine ⟨_, (pss_cons (ps_fld (pv 0) (pe_item (pv 1) pe_int) rfl)
      (pss_cons (ps_fld (pv 0) (pe_item (pv 1) pe_int) rfl)
      (pss_cons (ps_fld (pv 0) (pe_item (pv 1) pe_int) rfl)
      (pss_cons (ps_fld (pv 0) (pv 2) rfl)
      (pss_one (ps_fld (pv 0) (pv 3) rfl)))))), ?_⟩
    have ne : wa ≠ s := ne_of hw ob (by intro q; cases q)
    have hq : ∀ {H' : Hp}, Up s H H' → Sq K H' wa [.int (Sx57.bit ww.counts : Nat), .int (ww.rest : Nat), .int (ww.month : Nat)] := fun u => .inr (SqT.of (u.1 _ _ hw ne))
    have u0 := Up.refl s H
    refine ⟨_, rfl, _, _, _, _, rfl, rfl, hq u0, at0, _, rfl, s, _, dx, _, rfl, ob, T.Span.cl, T.naS, by decide, ?_⟩
    have u1 := u0.put (o := .ins T.Span.a dx (putF "counts" (.int (Sx57.bit ww.counts : Nat)) []))
    have o1 : upd H s (.ins T.Span.a dx (putF "counts" (.int (Sx57.bit ww.counts : Nat)) [])) s = some (.ins T.Span.a dx (putF "counts" (.int (Sx57.bit ww.counts : Nat)) [])) := upd_same
    generalize upd H s (.ins T.Span.a dx (putF "counts" (.int (Sx57.bit ww.counts : Nat)) [])) = H1 at u1 o1 ⊢
    refine ⟨_, rfl, _, _, _, _, rfl, rfl, hq u1, at1, _, rfl, s, _, dx, _, rfl, o1, T.Span.cl, T.naS, by show 1 < 1000; decide, ?_⟩
    have u2 := u1.put (o := .ins T.Span.a dx (putF "rest_rule" (.int (ww.rest : Nat)) (putF "counts" (.int (Sx57.bit ww.counts : Nat)) [])))
    have o2 : upd H1 s (.ins T.Span.a dx (putF "rest_rule" (.int (ww.rest : Nat)) (putF "counts" (.int (Sx57.bit ww.counts : Nat)) []))) s = some (.ins T.Span.a dx (putF "rest_rule" (.int (ww.rest : Nat)) (putF "counts" (.int (Sx57.bit ww.counts : Nat)) []))) := upd_same
    generalize upd H1 s (.ins T.Span.a dx (putF "rest_rule" (.int (ww.rest : Nat)) (putF "counts" (.int (Sx57.bit ww.counts : Nat)) []))) = H2 at u2 o2 ⊢
    refine ⟨_, rfl, _, _, _, _, rfl, rfl, hq u2, at2, _, rfl, s, _, dx, _, rfl, o2, T.Span.cl, T.naS, by show 2 < 1000; decide, ?_⟩
    have u3 := u2.put (o := .ins T.Span.a dx (putF "months_rule" (.int (ww.month : Nat)) (putF "rest_rule" (.int (ww.rest : Nat)) (putF "counts" (.int (Sx57.bit ww.counts : Nat)) []))))
    have o3 : upd H2 s (.ins T.Span.a dx (putF "months_rule" (.int (ww.month : Nat)) (putF "rest_rule" (.int (ww.rest : Nat)) (putF "counts" (.int (Sx57.bit ww.counts : Nat)) [])))) s = some (.ins T.Span.a dx (putF "months_rule" (.int (ww.month : Nat)) (putF "rest_rule" (.int (ww.rest : Nat)) (putF "counts" (.int (Sx57.bit ww.counts : Nat)) [])))) := upd_same
    generalize upd H2 s (.ins T.Span.a dx (putF "months_rule" (.int (ww.month : Nat)) (putF "rest_rule" (.int (ww.rest : Nat)) (putF "counts" (.int (Sx57.bit ww.counts : Nat)) [])))) = H3 at u3 o3 ⊢
    refine ⟨_, rfl, _, rfl, s, _, dx, _, rfl, o3, T.Span.cl, T.naS, by show 3 < 1000; decide, ?_⟩
    refine ⟨_, rfl, _, rfl, s, _, dx, _, rfl, upd_same, T.Span.cl, T.naS, by show 4 < 1000; decide, ?_⟩
    exact k _ upd_same u3.put.put
/-! ### first_day, plain_end, least_length -/
def sp_first (CS : Addr) : Sp := fun vs H Q _ => ∃ (s : Addr) (ww : Sx57.Way) (u k n : Nat), vs = [.ref s, .int n] ∧ SpanIs H CS s ww u k ∧ Q (.int (Sx57.firstOf ww n : Nat)) H
theorem ok_Span_first_day (T : Txt K mg) : FnOk P w K mg base CX0 1 T.Span_first_day.a T.Span_first_day.fd ["self", "event"] (sp_first T.Span.a) := by
  refine T.Span_first_day.F.ok sc_Span_first_day (fun vs H Q E h => ?_) (fun cdv A outer s H vs Q E hr h => ?_)
  · obtain ⟨_, _, _, _, _, rfl, _⟩ := h
    rfl
  · obtain ⟨s, ww, u, m, n, rfl, ⟨dx, ob⟩, k⟩ := h
    refine ⟨_, (pss_one (ps_ret (pe_sub (pe_add (pv 1) pe_int) (pe_fld (pv 0) rfl)))), ?_⟩
    walk_at "rd"
    refine ⟨_, dx, _, ob, T.Span.cl, T.naS, _, rfl, _, rfl, ?_⟩
    have e : ((n : Int) + 1 - (Sx57.bit ww.counts : Nat)) = (Sx57.firstOf ww n : Nat) := by
      unfold Sx57.firstOf Sx57.bit
      split <;> omega
    rw [e]
    exact k
def sp_plain (CS : Addr) : Sp := fun vs H Q _ => ∃ (s : Addr) (ww : Sx57.Way) (u k n : Nat), vs = [.ref s, .int n] ∧ SpanIs H CS s ww u k ∧ n < Sx57.DAYS ∧ Sx57.spanOk u k = true ∧ u ≠ 4 ∧ ∀ H' : Hp, Same H H' → Q (.int (Sx57.plainEnd ww n u k : Nat)) H'
theorem ok_Span_plain_end (T : Txt K mg) : FnOk P w K mg base CX0 5 T.Span_plain_end.a T.Span_plain_end.fd ["self", "event"] (sp_plain T.Span.a) := by
  refine T.Span_plain_end.F.ok sc_Span_plain_end (fun vs H Q E h => ?_) (fun cdv A outer s H vs Q E hr h => ?_)
  · obtain ⟨_, _, _, _, _, rfl, _⟩ := h
    rfl
  · obtain ⟨s, ww, u, m, n, rfl, ⟨dx, ob⟩, hn, hs, hu, k⟩ := h
    refine ⟨_, (pss_cons (ps_if (pt_cmp (pc_eqI (pe_fld (pv 0) rfl) (pe_globI rfl T.g_DAYS))) (pss_one (ps_ret (pe_sub (pe_add (pv 1) (pe_fld (pv 0) rfl)) (pe_fld (pv 0) rfl)))) pss_nil)
      (pss_cons (ps_if (pt_cmp (pc_eqI (pe_fld (pv 0) rfl) (pe_globI rfl T.g_WEEKS))) (pss_one (ps_ret (pe_sub (pe_add (pv 1) (pe_mul pe_int (pe_fld (pv 0) rfl))) (pe_fld (pv 0) rfl)))) pss_nil)
      (pss_cons (ps_set (i := 2) sc_Span_plain_end.nd rfl (Or.inl rfl) (pe_ifExp (pt_cmp (pc_eqI (pe_fld (pv 0) rfl) (pe_globI rfl T.g_MONTHS))) (pe_fld (pv 0) rfl) (pe_mul pe_int (pe_fld (pv 0) rfl))))
      (pss_one (ps_ret (pe_sub (pe_call (ok_months_behind T) (hr.mono (by decide : 4 ≤ 4)) rfl T.months_behind.m T.months_behind.F.kp T.months_behind.b .nil pass0 (pa_cons (pv 1) (pa_cons (pv 2) (pa_cons (pe_fld (pv 0) rfl) pa_nil)))) (pe_fld (pv 0) rfl))))))), ?_⟩
    have hd := Cal.DAYS_eq
    have hs2 := Cal.spanOk_iff.mp hs
    have hc : Sx57.bit ww.counts = if ww.counts = true then 1 else 0 := rfl
    obtain ⟨pb, _⟩ := Cal.plainEnd_bounds (w := ww) hn hs hu
    have hb : Sx57.bit ww.counts ≤ 1 := by rw [hc]; split <;> omega
    have mo : ∀ (j : Nat), j ≤ 1200 → 1 ≤ j → Sx57.plainEnd ww n u m = Sx57.later ww n j - Sx57.bit ww.counts → sp_months_behind [.int n, .int j, .int (ww.month : Nat)] H (fun x H1 => ∃ C dx fs, H1 s = some (HO.ins C dx fs) ∧ Cls K C ∧ NoAttr K C "counts" ∧ ∃ v, List.lookup (Str.ofString "counts") fs = some v ∧ ∃ i, x = V.int i ∧ ∃ c, v = V.int c ∧ Q (V.int (i - c)) H1) E0 := fun j hj hj1 e => by
      refine ⟨n, j, ww, rfl, by unfold Cal.FARTHEST; omega, by omega, fun H1 s1 => ⟨_, dx, _, s1 _ _ ob, T.Span.cl, T.naS, _, rfl, _, rfl, _, rfl, ?_⟩⟩
      have hl := (Cal.later_bounds (w := ww) hn hj).2 hj1
      have := k H1 s1
      rw [e] at this
      rw [show ((Sx57.later ww n j : Nat) : Int) - (Sx57.bit ww.counts : Nat) = ((Sx57.later ww n j - Sx57.bit ww.counts : Nat) : Int) by omega]
      exact this
    walk_at "rd"
    refine ⟨_, dx, _, ob, T.Span.cl, T.naS, _, rfl, _, rfl, ite2 (fun c => ?_) fun c => ⟨_, dx, _, ob, T.Span.cl, T.naS, _, rfl, _, rfl, ite2 (fun c2 => ?_) fun c2 => ⟨_, dx, _, ob, T.Span.cl, T.naS, _, rfl, _, rfl, ite2 (fun c3 => ?_) fun c3 => ?_⟩⟩⟩
    · refine ⟨_, dx, _, ob, T.Span.cl, T.naS, _, rfl, _, rfl, _, dx, _, ob, T.Span.cl, T.naS, _, rfl, _, rfl, ?_⟩
      have e : Sx57.plainEnd ww n u m = n + m - Sx57.bit ww.counts := by
        unfold Sx57.plainEnd
        rw [if_pos (by omega)]
        rfl
      have := k H (Same.refl H)
      rw [e] at this
      rw [show ((n : Int) + (m : Nat) - (Sx57.bit ww.counts : Nat)) = ((n + m - Sx57.bit ww.counts : Nat) : Int) by omega]
      exact this
    · refine ⟨_, dx, _, ob, T.Span.cl, T.naS, _, rfl, _, rfl, _, dx, _, ob, T.Span.cl, T.naS, _, rfl, _, rfl, ?_⟩
      have e : Sx57.plainEnd ww n u m = n + 7 * m - Sx57.bit ww.counts := by
        unfold Sx57.plainEnd
        rw [if_neg (by omega), if_pos (by omega)]
        rfl
      have := k H (Same.refl H)
      rw [e] at this
      rw [show ((n : Int) + 7 * (m : Nat) - (Sx57.bit ww.counts : Nat)) = ((n + 7 * m - Sx57.bit ww.counts : Nat) : Int) by omega]
      exact this
    · refine ⟨_, dx, _, ob, T.Span.cl, T.naS, _, rfl, _, dx, _, ob, T.Span.cl, T.naS, _, rfl, mo m (by omega) (by omega) ?_⟩
      unfold Sx57.plainEnd
      rw [if_neg (by omega), if_neg (by omega), if_pos (by omega)]
      rfl
    · refine ⟨_, dx, _, ob, T.Span.cl, T.naS, _, rfl, _, rfl, _, dx, _, ob, T.Span.cl, T.naS, _, rfl, ?_⟩
      rw [show (12 * (m : Int)) = ((12 * m : Nat) : Int) by omega]
      refine mo (12 * m) (by omega) (by omega) ?_
      unfold Sx57.plainEnd
      rw [if_neg (by omega), if_neg (by omega), if_neg (by omega)]
      rfl
def sp_least (CS : Addr) : Sp := fun vs H Q _ => ∃ (s : Addr) (ww : Sx57.Way) (u k : Nat), vs = [.ref s] ∧ SpanIs H CS s ww u k ∧ u ≤ 3 ∧ k ≤ 100000 ∧ Q (.int (Sx57.least u k : Nat)) H
theorem ok_Span_least_length (T : Txt K mg) : FnOk P w K mg base CX0 1 T.Span_least_length.a T.Span_least_length.fd ["self"] (sp_least T.Span.a) := by
  refine T.Span_least_length.F.ok sc_Span_least_length (fun vs H Q E h => ?_) (fun cdv A outer s H vs Q E hr h => ?_)
  · obtain ⟨_, _, _, _, rfl, _⟩ := h
    rfl
  · obtain ⟨s, ww, u, m, rfl, ⟨dx, ob⟩, hu, hm, k⟩ := h
    refine ⟨_, (pss_one (ps_ret (pe_op op_mul (pe_item (pe_glob (v := .ref T.g_LEAST_LENGTHS.a) rfl T.g_LEAST_LENGTHS.m rfl) (pe_fld (pv 0) rfl)) (pe_fld (pv 0) rfl)))), ?_⟩
    walk_at "rd"
    have key : ∃ z : Int, atI (([1, 7, 28, 365] : List Int).map V.int) ((u : Nat) : Int) = some (.int z) ∧ z * (m : Nat) = (Sx57.least u m : Nat) := by
      have : u = 0 ∨ u = 1 ∨ u = 2 ∨ u = 3 := by omega
      rcases this with rfl | rfl | rfl | rfl
      · exact ⟨1, rfl, by show (1 : Int) * m = (m : Nat); omega⟩
      · exact ⟨7, rfl, by show (7 : Int) * m = (7 * m : Nat); omega⟩
      · exact ⟨28, rfl, by show (28 : Int) * m = (28 * m : Nat); omega⟩
      · exact ⟨365, rfl, by show (365 : Int) * m = (365 * m : Nat); omega⟩
    obtain ⟨z, hz, ez⟩ := key
    refine ⟨_, dx, _, ob, T.Span.cl, T.naS, _, rfl, _, _, rfl, T.g_LEAST_LENGTHS.at H, _, hz, _, dx, _, ob, T.Span.cl, T.naS, _, rfl, _, rfl, _, rfl, .inr ⟨by omega, by omega⟩, ?_⟩
    rw [ez]
    exact k
/-! ### put_off -/
def sp_put_off : Sp := fun vs H Q _ => ∃ (sp : Addr) (ss : List Addr) (stops : Sx57.Stops) (f e : Nat), vs = [.ref sp, .int f, .int e] ∧ H sp = some (.lst (ss.map V.ref)) ∧ Tups H ss (stops.map pairI) ∧ (∀ x ∈ stops, x.1 ≤ x.2) ∧ f ≤ e ∧ Q (.int (Sx57.putOff f e stops : Nat)) H
theorem ok_put_off (T : Txt K mg) : FnOk P w K mg base CX0 1 T.put_off.a T.put_off.fd ["stops", "first", "plain"] sp_put_off := by
  refine T.put_off.F.ok sc_put_off (fun vs H Q E h => ?_) (fun cdv A outer s H vs Q E hr h => ?_)
  · obtain ⟨_, _, _, _, _, rfl, _⟩ := h
    rfl
  · obtain ⟨sp, ss, stops, f, e0, rfl, h1, h2, ho, hf, k⟩ := h
    refine ⟨_, (pss_cons (ps_set (i := 3) sc_put_off.nd rfl (Or.inl rfl) (pv 2))
      (pss_cons (ps_for PassesOwn.never rfl (pi_list (pv 0)) (pg_name (i := 4) sc_put_off.nd rfl (Or.inl rfl))
      (pss_one (ps_if (PW.pt (pw_and (pt_cmp (pc_le (pe_item (pv 4) pe_int) (pv 3))) (pw_and1 (pt_cmp (pc_ge (pe_item (pv 4) pe_int) (pv 1)))))) (pss_one (ps_aug (i := 3) sc_put_off.nd rfl (Or.inl rfl) (pe_add (pe_sub (pe_item (pv 4) pe_int) (pe_callB (call_max2 rfl) rfl T.n_max (by rfl) (pa_cons (pe_item (pv 4) pe_int) (pa_cons (pv 1) pa_nil)))) pe_int) ip_add)) pss_nil)))
      (pss_one (ps_ret (pv 3))))), ?_⟩
    refine ⟨_, rfl, _, rfl, sp, rfl, ⟨_, SqL.of h1⟩, for_list (K := K) (a := sp) (xs := ss.map V.ref) (fun i σ H' => H' = H ∧ ∃ (e : Nat) (v : Option V), f ≤ e ∧ Sx57.putOff f e0 stops = Sx57.putOff f e (stops.drop i) ∧ σ = [some (.ref sp), some (.int f), some (.int e0), some (.int e), v]) ⟨rfl, e0, none, hf, rfl, rfl⟩ (fun i σ H' _ h => by rw [h.1]; exact SqL.of h1) ?_ ?_⟩
    · rintro i x σ H' hi ⟨rfl, e, v, hfe, ep, rfl⟩
      obtain ⟨p, hp, rfl⟩ : ∃ p, ss[i]? = some p ∧ x = V.ref p := by
        rw [List.getElem?_map] at hi
        cases q : ss[i]? with
        | none => rw [q] at hi; cases hi
        | some p => rw [q] at hi; exact ⟨p, rfl, (Option.some.inj hi).symm⟩
      have hlp : ss.length = stops.length := by
        have := Paired.length h2
        rw [List.length_map] at this
        exact this
      obtain ⟨z, hz⟩ : ∃ z, stops[i]? = some z := ⟨_, List.getElem?_eq_getElem (by have := (List.getElem?_eq_some_iff.mp hp).1; omega)⟩
      have ht := tups_get h2 hp (show (stops.map pairI)[i]? = some (pairI z) by rw [List.getElem?_map, hz]; rfl)
      have hA : Sq K H' p [.int (z.1 : Nat), .int (z.2 : Nat)] := .inr (SqT.of ht)
      have ed : stops.drop i = z :: stops.drop (i + 1) := by
        obtain ⟨g1, g2⟩ := List.getElem?_eq_some_iff.mp hz
        rw [← g2, List.drop_eq_getElem_cons g1]
      have zo := ho z (List.mem_of_getElem? hz)
      rw [ed] at ep
      have ep : Sx57.putOff f e0 stops = if z.2 < f ∨ e < max z.1 f then Sx57.putOff f e (stops.drop (i + 1)) else Sx57.putOff f (e + (z.2 + 1 - max z.1 f)) (stops.drop (i + 1)) := ep
      walk_at "rd"
      refine ⟨_, hA, _, at0, _, rfl, ite2 (fun c1 => ⟨_, hA, _, at1, _, rfl, ite2 (fun c2 => ⟨_, hA, _, at1, _, hA, _, at0, _, _, ⟨rfl, rfl⟩, _, rfl, e + (z.2 + 1 - max z.1 f), by omega, ?_, ?_, _, rfl⟩) fun c2 => ?_⟩) fun c1 => ?_⟩
      · rw [if_neg (by omega)] at ep
        exact ep
      · split <;> omega
      · rw [if_pos (by omega)] at ep
        exact ⟨_, hfe, ep, rfl, _, rfl⟩
      · rw [if_pos (by omega)] at ep
        exact ⟨_, hfe, ep, rfl, _, rfl⟩
    · rintro σ H' ⟨rfl, e, v, hfe, ep, rfl⟩
      rw [List.length_map, show ss.length = stops.length by have := Paired.length h2; rw [List.length_map] at this; exact this, List.drop_length] at ep
      rw [ep] at k
      exact ⟨_, rfl, k⟩
end
end Dc
end
section
set_option Elab.async false
set_option linter.all false
set_option maxRecDepth 100000
set_option maxHeartbeats 2000000
/-! What the loops over days find, in the specification's words. -/
namespace Dc
open Sx57 (dayOf dateOf yearStart)
/-- the next day that rests not, behind n; the last one before -/
def nextD (r : Sx57.Rests) (n : Nat) : Option Nat := ((List.range 399).map fun k => n + 1 + k).find? fun m => !r.on m
def lastD (r : Sx57.Rests) (n : Nat) : Option Nat := ((List.range (min n 399)).map fun k => n - 1 - k).find? fun m => !r.on m
theorem next_of (r : Sx57.Rests) (n : Nat) : r.next n = if r.on n = true then nextD r n else some n := by
  unfold Sx57.Rests.next Sx57.FAR nextD
  rw [show (400 : Nat) = 399 + 1 from rfl, List.range_succ_eq_map, List.map_cons, List.find?_cons, List.map_map]
  cases r.on n with
  | false =>
    rfl
  | true =>
    show List.find? _ _ = _
    rw [if_pos rfl]
    congr 2
    funext k
    show n + (k + 1) = n + 1 + k
    omega
theorem before_of (r : Sx57.Rests) (n : Nat) : r.before n = if r.on n = true then lastD r n else some n := by
  unfold Sx57.Rests.before Sx57.FAR lastD
  rw [show (400 : Nat) = 399 + 1 from rfl, List.range_succ_eq_map, List.map_cons, List.find?_cons, List.map_map]
  cases e : r.on n with
  | false => rfl
  | true =>
    rw [if_pos rfl]
    show List.find? (fun m => !r.on m) ((List.range 399).map ((fun k => n - k) ∘ Nat.succ)) = _
    rw [Cal.find_map, Cal.find_map]
    have e1 : (fun k => !r.on (((fun k => n - k) ∘ Nat.succ) k)) = fun k => !r.on (n - 1 - k) := by
      funext k
      show (!r.on (n - (k + 1))) = _
      rw [show n - (k + 1) = n - 1 - k by omega]
    have e2 : ((fun k => n - k) ∘ Nat.succ) = fun k => n - 1 - k := by
      funext k
      show n - (k + 1) = _
      omega
    rw [e1, e2]
    congr 1
    by_cases h : n < 399
    · rw [show min n 399 = n by omega]
      -- the places behind n - 1 are all day 0
      have e3 : List.range 399 = List.range n ++ (List.range (399 - n)).map (n + ·) := by
        rw [← List.range_add]
        congr 1
        omega
      rw [e3, List.find?_append]
      cases q : (List.range n).find? fun k => !r.on (n - 1 - k) with
      | some x => rfl
      | none =>
        rw [Option.none_or, List.find?_eq_none]
        intro x hx
        obtain ⟨j, _, rfl⟩ := List.mem_map.mp hx
        rw [show n - 1 - (n + j) = 0 by omega]
        by_cases h0 : n = 0
        · subst h0
          rw [e]
          decide
        · have := List.find?_eq_none.mp q (n - 1) (List.mem_range.mpr (by omega))
          rw [show n - 1 - (n - 1) = 0 by omega] at this
          exact this
    · rw [show min n 399 = 399 by omega]
theorem settle_of (r : Sx57.Rests) (w : Sx57.Way) (n : Nat) (hw : w.rest ≤ 3) : Sx57.settle r w n = if w.rest = 0 ∨ r.on n = false then some n else if w.rest = 2 then lastD r n else if w.rest = 1 then nextD r n else match nextD r n with
    | none => none
    | some m => if (dateOf m).month = (dateOf n).month ∧ (dateOf m).year = (dateOf n).year then some m else lastD r n := by
  unfold Sx57.settle
  rw [next_of, before_of]
  by_cases h0 : w.rest = 0
  · rw [if_pos h0, if_pos (.inl h0)]
  · rw [if_neg h0]
    cases e : r.on n with
    | false =>
      rw [if_pos (show w.rest = 0 ∨ false = false from .inr rfl), if_neg (show ¬ false = true by decide), if_neg (show ¬ false = true by decide)]
      split
      · rfl
      · split
        · rfl
        · show (if (dateOf n).month = (dateOf n).month ∧ (dateOf n).year = (dateOf n).year then some n else some n) = _
          split <;> rfl
    | true =>
      have hn : ¬ (w.rest = 0 ∨ true = false) := by
        rintro (q | q)
        · exact h0 q
        · cases q
      rw [if_neg hn, if_pos (show true = true from rfl), if_pos (show true = true from rfl)]
      by_cases h1 : w.rest = 1
      · rw [if_pos h1, if_neg (show ¬ w.rest = 2 by omega), if_pos h1]
      · rw [if_neg h1]
        by_cases h2 : w.rest = 2
        · rw [if_pos h2, if_pos h2]
        · rw [if_neg h2, if_neg h2, if_neg h1]
          cases nextD r n <;> rfl
/-! ### working days as one list -/
/-- the days from a on, so many, that p picks -/
def pick (p : Nat → Bool) (a n : Nat) : List Nat := ((List.range n).map fun k => a + k).filter p
theorem pick_add (p : Nat → Bool) (a n m : Nat) : pick p a (n + m) = pick p a n ++ pick p (a + n) m := by
  unfold pick
  rw [List.range_add, List.map_append, List.filter_append, List.map_map]
  congr 3
  funext k
  show a + (n + k) = a + n + k
  omega
theorem pick_one (p : Nat → Bool) (a : Nat) : pick p a 1 = if p a = true then [a] else [] := by
  show ([a + 0].filter p) = _
  rw [Nat.add_zero, List.filter_cons]
  rfl
theorem pick_congr {p q : Nat → Bool} {a n : Nat} (h : ∀ k, k < n → p (a + k) = q (a + k)) : pick p a n = pick q a n := by
  unfold pick
  refine List.filter_congr fun x hx => ?_
  obtain ⟨k, hk, rfl⟩ := List.mem_map.mp hx
  exact h k (List.mem_range.mp hk)
theorem pick_nil {p : Nat → Bool} {a n : Nat} (h : ∀ k, k < n → p (a + k) = false) : pick p a n = [] := by
  unfold pick
  rw [List.filter_eq_nil_iff]
  intro x hx
  obtain ⟨k, hk, rfl⟩ := List.mem_map.mp hx
  rw [h k (List.mem_range.mp hk)]
  decide
theorem workEnd_pick (r : Sx57.Rests) (s : Sx57.Stops) : ∀ (f n k : Nat), 1 ≤ k → Sx57.workEnd r s f n k = (pick (workP r s) n f)[k - 1]?
  | 0, n, k, _ => rfl
  | f + 1, n, k, hk => by
    rw [show f + 1 = 1 + f by omega, pick_add, pick_one]
    rw [show 1 + f = f + 1 by omega]
    show (if (r.on n || Sx57.stopped s n) = true then Sx57.workEnd r s f (n + 1) k else if k ≤ 1 then some n else Sx57.workEnd r s f (n + 1) (k - 1)) = _
    unfold workP
    cases e : (r.on n || Sx57.stopped s n) with
    | true =>
      rw [if_pos rfl, workEnd_pick r s f (n + 1) k hk]
      rfl
    | false =>
      rw [if_neg (by decide)]
      show _ = ([n] ++ _)[k - 1]?
      by_cases h : k ≤ 1
      · rw [if_pos h, show k - 1 = 0 by omega]
        rfl
      · rw [if_neg h, workEnd_pick r s f (n + 1) (k - 1) (by omega), List.getElem?_append_right (by show 1 ≤ k - 1; omega)]
        rfl
/-- a year's days, within bounds -/
def within (p : Nat → Bool) (first final : Nat) (n : Nat) : Bool := p n && (decide (first ≤ n) && decide (n ≤ final))
theorem inYear_pick (r : Sx57.Rests) (s : Sx57.Stops) (y first final : Nat) : inYear r s y first final = pick (within (workP r s) first final) (yearStart y) (Cal.yearDays y) := rfl
/-- all the years from one on, so many -/
theorem years_pick (p : Nat → Bool) {y : Nat} (hy : 1600 ≤ y) (j : Nat) : pick p (yearStart y) (yearStart (y + j + 1) - yearStart y) = pick p (yearStart y) (yearStart (y + j) - yearStart y) ++ pick p (yearStart (y + j)) (Cal.yearDays (y + j)) := by
  have h1 := Cal.yearStart_mono (a := y) (b := y + j) hy (by omega)
  have h2 := Cal.yearStart_succ (y := y + j) (by omega)
  rw [show yearStart (y + j + 1) - yearStart y = (yearStart (y + j) - yearStart y) + Cal.yearDays (y + j) by omega, pick_add, show yearStart y + (yearStart (y + j) - yearStart y) = yearStart (y + j) by omega]
theorem whole_pick (p : Nat → Bool) {a b first final : Nat} (h1 : a ≤ first) (h2 : first ≤ final + 1) (h3 : final < a + b) : pick (within p first final) a b = pick p first (final + 1 - first) := by
  rw [show b = (first - a) + ((final + 1 - first) + (a + b - (final + 1))) by omega, pick_add, pick_add, pick_nil, List.nil_append, show a + (first - a) = first by omega]
  · rw [pick_nil (a := first + (final + 1 - first)), List.append_nil]
    · refine pick_congr fun k hk => ?_
      unfold within
      rw [decide_eq_true (by omega), decide_eq_true (by omega), Bool.and_true, Bool.and_true]
    · intro k hk
      unfold within
      rw [decide_eq_false (show ¬ first + (final + 1 - first) + k ≤ final by omega), Bool.and_false, Bool.and_false]
  · intro k hk
    unfold within
    rw [decide_eq_false (show ¬ first ≤ a + k by omega), Bool.false_and, Bool.and_false]
theorem working_pick (r : Sx57.Rests) (s : Sx57.Stops) (a b : Nat) : Sx57.working r s a b = (pick (workP r s) a (b + 1 - a)).length := by
  unfold Sx57.working pick
  rw [List.filter_map, List.length_map]
  rfl
end Dc
end
section
set_option Elab.async false
set_option linter.all false
set_option maxRecDepth 100000
set_option maxHeartbeats 2000000
namespace Dc
open PySem PySem.Spec PyProof.Rows L2
open Sx57 (leap monthDays dayOf dateOf dateOk yearStart monthStart)
local macro_rules | `(tactic| walk_at "rd") => `(tactic| simp only [tRet, tSeq, wipe, tYes, gSub, rSetL, tMake, tNotN, rIn, sFld, tIfS, tAndV, tOrV, tNotV, tAnd, tOr, tNot, tB, tTest, tCmp, t2I, tAdd, tSub, tMul, tOp, rI, rI0, tUn, rU, tVar, tC, tCall, tCons, tNil, tIx, tLen, tAsg, gName, tAug, ipI, tIf, tNext, tDrop, tChain, tTup, tLst, tFld, tMeth, tIsN, tCB, tBM, tSl, rSlL, tPart, tNoPart, CDiv, cxK, L2.start, List.length_cons, List.length_nil, List.replicate, List.map_cons, List.map_nil, List.cons_append, List.nil_append, List.append_nil, List.getElem?_cons_zero, List.getElem?_cons_succ, List.set_cons_zero, List.set_cons_succ, List.cons.injEq, and_true, true_and, Option.some.injEq, exists_eq_left', exists_eq_left, V.int.injEq, V.bl.injEq, V.ref.injEq, exists_and_left, decide_eq_true_eq, Nat.reduceAdd, Nat.reduceSub, Int.reduceLT, Int.reducePow, Int.reduceNeg, Bool.not_eq_true', decide_eq_false_iff_not, Bool.false_eq_true, ↓reduceIte, Bool.not_true, Bool.not_false])
section
variable {P : Program} {w : World} {K : PySem.W.Frag} {mg : Str → Option Value} {base : Heap}
/-- a day, or none -/
def optV : Option Nat → V
  | none => .non
  | some n => .int (n : Nat)
/-! ### next_open, last_open -/
def sp_open (CA CB : Addr) (F : Sx57.Rests → Nat → Option Nat) : Sp := fun vs H Q _ => ∃ (m b sp d : Addr) (st : Sx57.St) (stops : Sx57.Stops) (n : Nat), vs = [.ref m, .int n] ∧ Alm H CA CB m b sp d st stops ∧ n ≤ 600000 ∧
  ∀ (H' : Hp), Ua d H H' → Alm H' CA CB m b sp d st stops → Q (optV (F st.rests n)) H'
theorem find_end {p : Nat → Bool} {f : Nat → Nat} {N : Nat} (h : ∀ j, j < N → p (f j) = false) : ((List.range N).map f).find? p = none := by
  rw [Cal.find_map, Cal.find_range_none h]
  rfl
theorem find_at {p : Nat → Bool} {f : Nat → Nat} {N i : Nat} (hi : i < N) (h : p (f i) = true) (hn : ∀ j, j < i → p (f j) = false) : ((List.range N).map f).find? p = some (f i) := by
  rw [Cal.find_map, Cal.find_range_some hi h hn]
  rfl
theorem ok_next_open (T : Txt K mg) : FnOk P w K mg base CX0 7 T.next_open.a T.next_open.fd ["almanac", "number"] (sp_open T.Almanac.a T.Book.a nextD) := by
  refine T.next_open.F.ok sc_next_open (fun vs H Q E h => ?_) (fun cdv A outer s H vs Q E hr h => ?_)
  · obtain ⟨_, _, _, _, _, _, _, rfl, _⟩ := h
    rfl
  · obtain ⟨m, b, sp, d, st, stops, n, rfl, AL, hn, k⟩ := h
    refine ⟨_, (pss_cons (ps_for PassesOwn.never rfl (pi_range2 rfl T.n_range (pa_cons (pe_add (pv 1) pe_int) (pa_cons (pe_add (pe_add (pv 1) (pe_globI rfl T.g_FARTHEST_FROM_REST)) pe_int) pa_nil))) (pg_name (i := 2) sc_next_open.nd rfl (Or.inl rfl))
      (pss_one (ps_if (pt_not (pt_val (pe_meth (pv 0) T.Almanac.cl T.Almanac_rests.m (ok_Almanac_rests T) (hr.mono (by decide : 6 ≤ 6)) T.Almanac_rests.b .nil pass0 (pa_cons (pv 2) pa_nil)))) (pss_one (ps_ret (pv 2))) pss_nil)))
      (pss_one (ps_ret pe_non))), ?_⟩
    refine ⟨_, rfl, _, _, rfl, rfl, _, rfl, _, _, rfl, rfl, _, _, rfl, rfl, _, _, rfl, ⟨by omega, by omega, by omega, by omega⟩, for_range (fun i σ H' => Ua d H H' ∧ Alm H' T.Almanac.a T.Book.a m b sp d st stops ∧ (∀ j, j < i → (!st.rests.on (n + 1 + j)) = false) ∧ ∃ v, σ = [some (.ref m), some (.int n), v]) ⟨Ua.refl d H, AL, fun j hj => absurd hj (Nat.not_lt_zero _), none, rfl⟩ ?_ ?_⟩
    · rintro i σ H' hi ⟨u, A1, hall, v, rfl⟩
      obtain ⟨dx, ob⟩ := A1.ob
      have hi : i < 399 := by omega
      rw [show ((n : Int) + 1 + (i : Nat)) = ((n + 1 + i : Nat) : Int) by omega]
      walk_at "rd"
      refine ⟨dx, _, ob, rfl, m, b, sp, d, st, stops, _, rfl, A1, by unfold Cal.FARTHEST; omega, fun H2 u2 A2 => ⟨_, rfl, ?_⟩⟩
      cases e : st.rests.on (n + 1 + i) with
      | false =>
        have := k H2 (u.trans u2) A2
        rw [show nextD st.rests n = some (n + 1 + i) from find_at hi (by rw [e]; rfl) hall] at this
        exact this
      | true =>
        refine ⟨u.trans u2, A2, fun j hj => ?_, _, rfl⟩
        by_cases q : j = i
        · subst q
          rw [e]
          rfl
        · exact hall j (by omega)
    · rintro σ H' ⟨u, A1, hall, v, rfl⟩
      have := k H' u A1
      rw [show nextD st.rests n = none from find_end fun j hj => hall j (by omega)] at this
      exact this
theorem ok_last_open (T : Txt K mg) : FnOk P w K mg base CX0 7 T.last_open.a T.last_open.fd ["almanac", "number"] (sp_open T.Almanac.a T.Book.a lastD) := by
  refine T.last_open.F.ok sc_last_open (fun vs H Q E h => ?_) (fun cdv A outer s H vs Q E hr h => ?_)
  · obtain ⟨_, _, _, _, _, _, _, rfl, _⟩ := h
    rfl
  · obtain ⟨m, b, sp, d, st, stops, n, rfl, AL, hn, k⟩ := h
    refine ⟨_, (pss_cons (ps_for PassesOwn.never rfl (pi_range3 rfl T.n_range (pa_cons (pe_sub (pv 1) pe_int) (pa_cons (pe_sub (pe_callB (call_max2 rfl) rfl T.n_max (by rfl) (pa_cons (pe_sub (pv 1) (pe_globI rfl T.g_FARTHEST_FROM_REST)) (pa_cons pe_int pa_nil))) pe_int) (pa_cons (pe_un un_neg pe_int) pa_nil)))) (pg_name (i := 2) sc_last_open.nd rfl (Or.inl rfl))
      (pss_one (ps_if (pt_not (pt_val (pe_meth (pv 0) T.Almanac.cl T.Almanac_rests.m (ok_Almanac_rests T) (hr.mono (by decide : 6 ≤ 6)) T.Almanac_rests.b .nil pass0 (pa_cons (pv 2) pa_nil)))) (pss_one (ps_ret (pv 2))) pss_nil)))
      (pss_one (ps_ret pe_non))), ?_⟩
    refine ⟨_, rfl, _, _, rfl, rfl, _, rfl, _, _, rfl, rfl, _, _, rfl, _, _, rfl, rfl, _, rfl, _, _, _, _, rfl, RgC.neg (by omega) (by omega) ?_ ?_, ?_⟩
    · split <;> omega
    · split <;> omega
    have en : ((n : Int) - 1 - ((if (0 : Int) > (n : Int) - 399 then 0 else (n : Int) - 399) - 1)).toNat = min n 399 := by
      split <;> omega
    rw [en]
    refine for_rangeC (fun i σ H' => Ua d H H' ∧ Alm H' T.Almanac.a T.Book.a m b sp d st stops ∧ (∀ j, j < i → (!st.rests.on (n - 1 - j)) = false) ∧ ∃ v, σ = [some (.ref m), some (.int n), v]) ⟨Ua.refl d H, AL, fun j hj => absurd hj (Nat.not_lt_zero _), none, rfl⟩ ?_ ?_
    · rintro i σ H' hi ⟨u, A1, hall, v, rfl⟩
      obtain ⟨dx, ob⟩ := A1.ob
      rw [show ((n : Int) - 1 + (i : Nat) * (-1)) = ((n - 1 - i : Nat) : Int) by omega]
      walk_at "rd"
      refine ⟨dx, _, ob, rfl, m, b, sp, d, st, stops, _, rfl, A1, by unfold Cal.FARTHEST; omega, fun H2 u2 A2 => ⟨_, rfl, ?_⟩⟩
      cases e : st.rests.on (n - 1 - i) with
      | false =>
        have := k H2 (u.trans u2) A2
        rw [show lastD st.rests n = some (n - 1 - i) from find_at hi (by rw [e]; rfl) hall] at this
        exact this
      | true =>
        refine ⟨u.trans u2, A2, fun j hj => ?_, _, rfl⟩
        by_cases q : j = i
        · subst q
          rw [e]
          rfl
        · exact hall j (by omega)
    · rintro σ H' ⟨u, A1, hall, v, rfl⟩
      have := k H' u A1
      rw [show lastD st.rests n = none from find_end fun j hj => hall j (by omega)] at this
      exact this
/-! ### moved_off_rest -/
def sp_moved (CA CB : Addr) : Sp := fun vs H Q _ => ∃ (m b sp d : Addr) (st : Sx57.St) (stops : Sx57.Stops) (n : Nat) (ww : Sx57.Way), vs = [.ref m, .int n, .int (ww.rest : Nat)] ∧ Alm H CA CB m b sp d st stops ∧ n ≤ 600000 ∧ ww.rest ≤ 3 ∧
  ∀ (H' : Hp), Ua d H H' → Alm H' CA CB m b sp d st stops → Q (optV (Sx57.settle st.rests ww n)) H'
theorem nextD_le {r : Sx57.Rests} {n e : Nat} (h : nextD r n = some e) : e ≤ n + 399 := by
  unfold nextD at h
  obtain ⟨k, hk, rfl⟩ := List.mem_map.mp (List.mem_of_find?_eq_some h)
  have := List.mem_range.mp hk
  omega
theorem ok_moved_off_rest (T : Txt K mg) : FnOk P w K mg base CX0 8 T.moved_off_rest.a T.moved_off_rest.fd ["almanac", "end", "rule"] (sp_moved T.Almanac.a T.Book.a) := by
  refine T.moved_off_rest.F.ok sc_moved_off_rest (fun vs H Q E h => ?_) (fun cdv A outer s H vs Q E hr h => ?_)
  · obtain ⟨_, _, _, _, _, _, _, _, rfl, _⟩ := h
    rfl
  · obtain ⟨m, b, sp, d, st, stops, n, ww, rfl, AL, hn, hw, k⟩ := h
    refine ⟨_, (pss_cons (ps_if (PW.pt (pw_or (pt_cmp (pc_eqI (pv 2) (pe_globI rfl T.g_STAY))) (pw_or1 (pt_not (pt_val (pe_meth (pv 0) T.Almanac.cl T.Almanac_rests.m (ok_Almanac_rests T) (hr.mono (by decide : 6 ≤ 7)) T.Almanac_rests.b .nil pass0 (pa_cons (pv 1) pa_nil))))))) (pss_one (ps_ret (pv 1))) pss_nil)
      (pss_cons (ps_if (pt_cmp (pc_eqI (pv 2) (pe_globI rfl T.g_BEFORE))) (pss_one (ps_ret (pe_call (ok_last_open T) (hr.mono (by decide : 7 ≤ 7)) rfl T.last_open.m T.last_open.F.kp T.last_open.b .nil pass0 (pa_cons (pv 0) (pa_cons (pv 1) pa_nil))))) pss_nil)
      (pss_cons (ps_set (i := 3) sc_moved_off_rest.nd rfl (Or.inl rfl) (pe_call (ok_next_open T) (hr.mono (by decide : 7 ≤ 7)) rfl T.next_open.m T.next_open.F.kp T.next_open.b .nil pass0 (pa_cons (pv 0) (pa_cons (pv 1) pa_nil))))
      (pss_cons (ps_if (PW.pt (pw_or (pt_cmp (pc_eqI (pv 2) (pe_globI rfl T.g_NEXT))) (pw_or (pt_cmp (pc_isN (pv 3))) (pw_or1 (pt_cmp (pc_eqI (pe_call (ok_months_of T) (hr.mono (by decide : 1 ≤ 7)) rfl T.months_of.m T.months_of.F.kp T.months_of.b .nil pass0 (pa_cons (pe_call (ok_date_of T) (hr.mono (by decide : 3 ≤ 7)) rfl T.date_of.m T.date_of.F.kp T.date_of.b .nil pass0 (pa_cons (pv 3) pa_nil)) pa_nil)) (pe_call (ok_months_of T) (hr.mono (by decide : 1 ≤ 7)) rfl T.months_of.m T.months_of.F.kp T.months_of.b .nil pass0 (pa_cons (pe_call (ok_date_of T) (hr.mono (by decide : 3 ≤ 7)) rfl T.date_of.m T.date_of.F.kp T.date_of.b .nil pass0 (pa_cons (pv 1) pa_nil)) pa_nil)))))))) (pss_one (ps_ret (pv 3))) pss_nil)
      (pss_one (ps_ret (pe_call (ok_last_open T) (hr.mono (by decide : 7 ≤ 7)) rfl T.last_open.m T.last_open.F.kp T.last_open.b .nil pass0 (pa_cons (pv 0) (pa_cons (pv 1) pa_nil))))))))), ?_⟩
    rw [settle_of st.rests ww n hw] at k
    obtain ⟨dx, ob⟩ := AL.ob
    walk_at "rd"
    refine ite2 (fun c => ?_) fun c => ⟨dx, _, ob, rfl, m, b, sp, d, st, stops, n, rfl, AL, by unfold Cal.FARTHEST; omega, fun H1 u1 A1 => ⟨_, rfl, ite2 (fun c2 => ?_) fun c2 => ?_⟩⟩
    · have := k H (Ua.refl d H) AL
      rw [if_pos (.inl (by omega))] at this
      exact this
    · have := k H1 u1 A1
      rw [if_pos (.inr c2)] at this
      exact this
    rw [if_neg (show ¬ (ww.rest = 0 ∨ st.rests.on n = false) by
      rintro (q | q)
      · omega
      · exact c2 q)] at k
    refine ite2 (fun c3 => ?_) fun c3 => ?_
    · rw [if_pos (by omega)] at k
      exact ⟨m, b, sp, d, st, stops, n, rfl, A1, hn, fun H2 u2 A2 => k H2 (u1.trans u2) A2⟩
    rw [if_neg (show ¬ ww.rest = 2 by omega)] at k
    refine ⟨m, b, sp, d, st, stops, n, rfl, A1, hn, fun H2 u2 A2 => ?_⟩
    have u12 := u1.trans u2
    refine ite2 (fun c4 => ?_) fun c4 => ?_
    · rw [if_pos (by omega)] at k
      exact k H2 u12 A2
    rw [if_neg (show ¬ ww.rest = 1 by omega)] at k
    cases en : nextD st.rests n with
    | none =>
      rw [en] at k
      rw [if_pos (show optV none = V.non from rfl)]
      exact k H2 u12 A2
    | some e =>
      rw [en] at k
      have k : ∀ H', Ua d H H' → Alm H' T.Almanac.a T.Book.a m b sp d st stops → Q (optV (if (dateOf e).month = (dateOf n).month ∧ (dateOf e).year = (dateOf n).year then some e else lastD st.rests n)) H' := k
      have hle := nextD_le en
      have he' : e < Cal.FARTHEST := by unfold Cal.FARTHEST; omega
      have hn' : n < Cal.FARTHEST := by unfold Cal.FARTHEST; omega
      obtain ⟨ge, _⟩ := Cal.dateOf_good he'
      obtain ⟨gn, _⟩ := Cal.dateOf_good hn'
      have ye := (Cal.year_of_range he').2.1
      have yn := (Cal.year_of_range hn').2.1
      rw [if_neg (show ¬ optV (some e) = V.non by intro q; cases q)]
      refine ⟨e, rfl, he', fun p1 hp1 => ?_⟩
      have s1 : Same H2 (upd H2 p1 (.tup (dateV (dateOf e)))) := Same.upd hp1
      have q1 : upd H2 p1 (.tup (dateV (dateOf e))) p1 = some (.tup (dateV (dateOf e))) := upd_same
      generalize upd H2 p1 (.tup (dateV (dateOf e))) = H3 at s1 q1 ⊢
      refine ⟨_, _, _, _, rfl, ⟨p1, rfl, .inr (SqT.of q1)⟩, by omega, ge.m1, n, rfl, hn', fun p2 hp2 => ?_⟩
      have s2 : Same H3 (upd H3 p2 (.tup (dateV (dateOf n)))) := Same.upd hp2
      have q2 : upd H3 p2 (.tup (dateV (dateOf n))) p2 = some (.tup (dateV (dateOf n))) := upd_same
      generalize upd H3 p2 (.tup (dateV (dateOf n))) = H4 at s2 q2 ⊢
      have s24 := s1.trans s2
      have u4 := u12.trans (A2.ofs s24)
      have A4 := A2.same s24
      have m1e := ge.m1
      have m2e := ge.m2
      have m1n := gn.m1
      have m2n := gn.m2
      refine ⟨_, _, _, _, rfl, ⟨p2, rfl, .inr (SqT.of q2)⟩, by omega, gn.m1, _, rfl, _, rfl, ite2 (fun c5 => ?_) fun c5 => ?_⟩
      · have := k H4 u4 A4
        rw [if_pos (by omega)] at this
        exact this
      · rw [if_neg (by omega)] at k
        exact ⟨m, b, sp, d, st, stops, n, rfl, A4, hn, fun H5 u5 A5 => k H5 (u4.trans u5) A5⟩
/-! ### years_from -/
def sp_years : Sp := fun vs H Q _ => ∃ (a b : Nat), vs = [.int a, .int b] ∧ a ≤ b ∧ b < Cal.FARTHEST ∧ ∀ (H' : Hp) (p : Addr), Same H H' → H' p = some (.lst ((List.range ((dateOf b).year + 1 - (dateOf a).year)).map fun j => natV ((dateOf a).year + j))) → Q (.ref p) H'
theorem ok_years_from (T : Txt K mg) : FnOk P w K mg base CX0 3 T.years_from.a T.years_from.fd ["first", "final"] sp_years := by
  refine T.years_from.F.ok sc_years_from (fun vs H Q E h => ?_) (fun cdv A outer s H vs Q E hr h => ?_)
  · obtain ⟨_, _, rfl, _⟩ := h
    rfl
  · obtain ⟨a, b, rfl, hab, hb, k⟩ := h
    refine ⟨_, (pss_one (ps_ret (pe_callTy (call_list_rng rfl) rfl T.n_list (by rfl) (pa_cons (pe_callTy call_rangeV rfl T.n_range (by rfl) (pa_cons (pe_call (ok_year_of T) (hr.mono (by decide : 2 ≤ 2)) rfl T.year_of.m T.year_of.F.kp T.year_of.b .nil pass0 (pa_cons (pv 0) pa_nil)) (pa_cons (pe_add (pe_call (ok_year_of T) (hr.mono (by decide : 2 ≤ 2)) rfl T.year_of.m T.year_of.F.kp T.year_of.b .nil pass0 (pa_cons (pv 1) pa_nil)) pe_int) pa_nil))) pa_nil)))), ?_⟩
    have ha : a < Cal.FARTHEST := by omega
    obtain ⟨a1, a2, a3, a4⟩ := Cal.year_of_range ha
    obtain ⟨b1, b2, b3, b4⟩ := Cal.year_of_range hb
    walk_at "rd"
    refine ⟨a, rfl, ha, b, rfl, hb, _, rfl, ?_⟩
    refine ⟨_, _, rfl, fun p1 hp1 => ?_⟩
    have s1 : Same H (upd H p1 (.rng ((dateOf a).year : Nat) (((dateOf b).year : Nat) + 1))) := Same.upd hp1
    refine ⟨p1, _, _, rfl, upd_same, ⟨by omega, by omega, by omega, by omega⟩, by omega, fun l hl => ?_⟩
    have s2 : Same (upd H p1 (.rng ((dateOf a).year : Nat) (((dateOf b).year : Nat) + 1))) (upd (upd H p1 (.rng ((dateOf a).year : Nat) (((dateOf b).year : Nat) + 1))) l (.lst (intsFrom ((dateOf a).year : Nat) ((((dateOf b).year : Nat) + 1 : Int) - ((dateOf a).year : Nat)).toNat))) := Same.upd hl
    refine k _ l (s1.trans s2) ?_
    rw [upd_same]
    unfold intsFrom
    rw [show ((((dateOf b).year : Nat) + 1 : Int) - ((dateOf a).year : Nat)).toNat = (dateOf b).year + 1 - (dateOf a).year by omega]
    congr 2
/-! ### last_working_day -/
def sp_lwd (CA CB : Addr) : Sp := fun vs H Q _ => ∃ (m b sp d : Addr) (st : Sx57.St) (stops : Sx57.Stops) (a n : Nat), vs = [.ref m, .int a, .int n] ∧ Alm H CA CB m b sp d st stops ∧ a ≤ 600000 ∧ 1 ≤ n ∧
  ∀ (H' : Hp), Ua d H H' → Alm H' CA CB m b sp d st stops → Q (optV (Sx57.workEnd st.rests stops Sx57.WORK a n)) H'
theorem ok_last_working_day (T : Txt K mg) : FnOk P w K mg base CX0 7 T.last_working_day.a T.last_working_day.fd ["almanac", "first", "number"] (sp_lwd T.Almanac.a T.Book.a) := by
  refine T.last_working_day.F.ok sc_last_working_day (fun vs H Q E h => ?_) (fun cdv A outer s H vs Q E hr h => ?_)
  · obtain ⟨_, _, _, _, _, _, _, _, rfl, _⟩ := h
    rfl
  · obtain ⟨m, b, sp, d, st, stops, a, n, rfl, AL, ha, hn, k⟩ := h
    refine ⟨_, (pss_cons (ps_set (i := 3) sc_last_working_day.nd rfl (Or.inl rfl) (pe_sub (pe_add (pv 1) (pe_globI rfl T.g_MOST_LOOKED_FOR_WORK)) pe_int))
      (pss_cons (ps_set (i := 4) sc_last_working_day.nd rfl (Or.inl rfl) (pv 2))
      (pss_cons (ps_for PassesOwn.never rfl (pi_list (pe_call (ok_years_from T) (hr.mono (by decide : 3 ≤ 6)) rfl T.years_from.m T.years_from.F.kp T.years_from.b .nil pass0 (pa_cons (pv 1) (pa_cons (pv 3) pa_nil)))) (pg_name (i := 5) sc_last_working_day.nd rfl (Or.inl rfl))
      (pss_cons (ps_set (i := 6) sc_last_working_day.nd rfl (Or.inl rfl) (pe_meth (pv 0) T.Almanac.cl T.Almanac_working_days.m (ok_Almanac_working_days T) (hr.mono (by decide : 6 ≤ 6)) T.Almanac_working_days.b .nil pass0 (pa_cons (pv 5) (pa_cons (pv 1) (pa_cons (pv 3) pa_nil)))))
      (pss_cons (ps_if (pt_cmp (pc_ge (pe_len (pv 6) rfl T.n_len) (pv 4))) (pss_one (ps_ret (pe_item (pv 6) (pe_sub (pv 4) pe_int)))) pss_nil)
      (pss_one (ps_aug (i := 4) sc_last_working_day.nd rfl (Or.inl rfl) (pe_len (pv 6) rfl T.n_len) ip_sub)))))
      (pss_one (ps_ret pe_non))))), ?_⟩
    rw [workEnd_pick _ _ _ _ _ hn] at k
    have hF : a < Cal.FARTHEST := by unfold Cal.FARTHEST; omega
    have hG : a + 11999 < Cal.FARTHEST := by unfold Cal.FARTHEST; omega
    obtain ⟨a1, a2, a3, a4⟩ := Cal.year_of_range hF
    obtain ⟨b1, b2, b3, b4⟩ := Cal.year_of_range hG
    have hyy : (dateOf a).year ≤ (dateOf (a + 11999)).year := by
      by_cases q : (dateOf a).year ≤ (dateOf (a + 11999)).year
      · exact q
      · have := Cal.yearStart_mono (a := (dateOf (a + 11999)).year + 1) (b := (dateOf a).year) (by omega) (by omega)
        omega
    refine tSeq_to (σ1 := [some (.ref m), some (.int a), some (.int n), some (.int (a + 11999 : Nat)), none, none, none]) (H1 := H) (fun R r => ?_) ?_
    · walk_at "rd"
      rw [show ((a : Int) + 12000 - 1) = ((a + 11999 : Nat) : Int) by omega]
      exact r
    refine tSeq_to (σ1 := [some (.ref m), some (.int a), some (.int n), some (.int (a + 11999 : Nat)), some (.int n), none, none]) (H1 := H) (fun R r => ?_) ?_
    · walk_at "rd"
      exact r
    have whole : pick (workP st.rests stops) a Sx57.WORK = pick (within (workP st.rests stops) a (a + 11999)) (yearStart (dateOf a).year) (yearStart ((dateOf (a + 11999)).year + 1) - yearStart (dateOf a).year) := by
      rw [whole_pick _ (first := a) (final := a + 11999) a3 (by omega) (by omega)]
      congr 1
      unfold Sx57.WORK
      omega
    rw [whole] at k
    refine ⟨_, rfl, _, rfl, a, a + 11999, rfl, by omega, hG, fun H1 lp s1 hl => ?_⟩
    generalize (dateOf a).year = y at a1 a2 a3 a4 hyy k whole hl ⊢
    generalize (dateOf (a + 11999)).year = z at b1 b2 b3 b4 hyy k whole hl ⊢
    clear whole
    have A1 := AL.same s1
    have hkeep : ∀ {H' H'' : Hp}, Ua d H' H'' → Alm H' T.Almanac.a T.Book.a m b sp d st stops → H' lp = some (.lst ((List.range (z + 1 - y)).map fun j => natV (y + j))) → H'' lp = some (.lst ((List.range (z + 1 - y)).map fun j => natV (y + j))) := fun u AA h => by
      obtain ⟨kvs, hd, _⟩ := AA.yr
      exact u.up.1 _ _ h (ne_of h hd (by intro q; cases q))
    refine ⟨lp, rfl, ⟨_, SqL.of hl⟩, for_list (K := K) (a := lp) (xs := (List.range (z + 1 - y)).map fun j => natV (y + j)) (fun i σ H' => Ua d H H' ∧ Alm H' T.Almanac.a T.Book.a m b sp d st stops ∧ H' lp = some (.lst ((List.range (z + 1 - y)).map fun j => natV (y + j))) ∧ (pick (within (workP st.rests stops) a (a + 11999)) (yearStart y) (yearStart (y + i) - yearStart y)).length < n ∧ ∃ v5 v6, σ = [some (.ref m), some (.int a), some (.int n), some (.int (a + 11999 : Nat)), some (.int (n - (pick (within (workP st.rests stops) a (a + 11999)) (yearStart y) (yearStart (y + i) - yearStart y)).length : Nat)), v5, v6]) ⟨AL.ofs s1, A1, hl, ?_, none, none, ?_⟩ (fun i σ H' _ h => SqL.of h.2.2.1) ?_ ?_⟩
    · rw [show y + 0 = y from rfl, Nat.sub_self]
      exact hn
    · rw [show y + 0 = y from rfl, Nat.sub_self]
      rfl
    · rintro i x σ H' hi ⟨u, A2, hl2, hlt, v5, v6, rfl⟩
      have hiz : i < z + 1 - y := by
        have := (List.getElem?_eq_some_iff.mp hi).1
        rw [List.length_map, List.length_range] at this
        exact this
      rw [List.getElem?_map, List.getElem?_range hiz] at hi
      have hx : natV (y + i) = x := Option.some.inj hi
      subst hx
      obtain ⟨dx, ob⟩ := A2.ob
      have hyp := years_pick (within (workP st.rests stops) a (a + 11999)) a1 i
      have hm1 := Cal.yearStart_mono (a := y) (b := y + i + 1) a1 (by omega)
      have hm2 := Cal.yearStart_mono (a := y + i + 1) (b := z + 1) (by omega) (by omega)
      simp only [natV]
      walk_at "rd"
      refine ⟨dx, _, ob, rfl, m, b, sp, d, st, stops, y + i, a, a + 11999, rfl, A2, by omega, by omega, fun H3 p u3 A3 hp3 => ?_⟩
      rw [inYear_pick] at hp3
      have hwh : pick (within (workP st.rests stops) a (a + 11999)) (yearStart y) (yearStart (z + 1) - yearStart y) = (pick (within (workP st.rests stops) a (a + 11999)) (yearStart y) (yearStart (y + i) - yearStart y) ++ pick (within (workP st.rests stops) a (a + 11999)) (yearStart (y + i)) (Cal.yearDays (y + i))) ++ pick (within (workP st.rests stops) a (a + 11999)) (yearStart y + (yearStart (y + i + 1) - yearStart y)) (yearStart (z + 1) - yearStart (y + i + 1)) := by
        rw [← hyp, ← pick_add]
        congr 1
        omega
      rw [hwh] at k
      have hl3 : H3 lp = some (.lst ((List.range (z + 1 - y)).map fun j => V.int ((y + j : Nat) : Int))) := hkeep u3 A2 hl2
      rw [← Nat.add_assoc, hyp]
      generalize pick (within (workP st.rests stops) a (a + 11999)) (yearStart y) (yearStart (y + i) - yearStart y) = Pi at hlt k ⊢
      generalize pick (within (workP st.rests stops) a (a + 11999)) (yearStart (y + i)) (Cal.yearDays (y + i)) = L at hp3 k ⊢
      refine ⟨p, rfl, _, .inl (SqL.of hp3), ?_⟩
      rw [List.length_map]
      refine ite2 (fun c => ?_) fun c => ?_
      · have hj : n - Pi.length - 1 < L.length := by omega
        refine ⟨p, rfl, _, .inl (SqL.of hp3), .int (L[n - Pi.length - 1] : Nat), ?_, ?_⟩
        · rw [show (((n - Pi.length : Nat) : Int) - 1) = ((n - Pi.length - 1 : Nat) : Int) by omega]
          refine atI_nat ?_
          rw [List.getElem?_map, List.getElem?_eq_getElem hj]
          rfl
        · have := k H3 (u.trans u3) A3
          rw [List.getElem?_append_left (by rw [List.length_append]; omega), List.getElem?_append_right (by omega), show n - 1 - Pi.length = n - Pi.length - 1 by omega, List.getElem?_eq_getElem hj] at this
          exact this
      · refine ⟨p, rfl, _, .inl (SqL.of hp3), u.trans u3, A3, hl3, ?_, ?_, _, rfl⟩
        · rw [List.length_append]
          omega
        · rw [List.length_map, List.length_append]
          omega
    · rintro σ H' ⟨u, A2, hl2, hlt, v5, v6, rfl⟩
      rw [List.length_map, List.length_range, show y + (z + 1 - y) = z + 1 by omega] at hlt
      have := k H' u A2
      rw [List.getElem?_eq_none (by omega)] at this
      exact this
/-! ### count_working_days -/
def sp_count (CA CB : Addr) : Sp := fun vs H Q _ => ∃ (m b sp d : Addr) (st : Sx57.St) (stops : Sx57.Stops) (x z : Nat), vs = [.ref m, .int x, .int z] ∧ Alm H CA CB m b sp d st stops ∧ x ≤ z ∧ z ≤ 600000 ∧
  ∀ (H' : Hp), Ua d H H' → Alm H' CA CB m b sp d st stops → Q (.int (Sx57.working st.rests stops x z : Nat)) H'
theorem ok_count_working_days (T : Txt K mg) : FnOk P w K mg base CX0 7 T.count_working_days.a T.count_working_days.fd ["almanac", "first", "final"] (sp_count T.Almanac.a T.Book.a) := by
  refine T.count_working_days.F.ok sc_count_working_days (fun vs H Q E h => ?_) (fun cdv A outer s H vs Q E hr h => ?_)
  · obtain ⟨_, _, _, _, _, _, _, _, rfl, _⟩ := h
    rfl
  · obtain ⟨m, b, sp, d, st, stops, a, c, rfl, AL, hac, hc, k⟩ := h
    refine ⟨_, (pss_one (ps_ret (pe_callB (cr_sum rfl) rfl T.n_sum (by rfl) (pa_cons (pe_lc rfl sc_count_working_days.nd (pi_list (pe_call (ok_years_from T) (hr.mono (by decide : 3 ≤ 6)) rfl T.years_from.m T.years_from.F.kp T.years_from.b .nil pass0 (pa_cons (pv 1) (pa_cons (pv 2) pa_nil)))) (blkOk_by (own := [("year", 3)]) (by show blkC ["almanac", "first", "final", "year"] (defScope s_count_working_days) _ _ = true; decide +kernel)) (fun _ _ _ _ _ => (pg_name (i := 3) sc_count_working_days.nd rfl (Or.inl rfl))) (fun _ _ _ _ _ => pts_nil) (fun _ _ _ _ _ => (pe_lenK (K := K) rfl (pe_meth (pv 0) T.Almanac.cl T.Almanac_working_days.m (ok_Almanac_working_days T) (hr.mono (by decide : 6 ≤ 6)) T.Almanac_working_days.b .nil pass0 (pa_cons (pv 3) (pa_cons (pv 1) (pa_cons (pv 2) pa_nil)))) rfl T.n_len))) pa_nil)))), ?_⟩
    have hF : a < Cal.FARTHEST := by unfold Cal.FARTHEST; omega
    have hG : c < Cal.FARTHEST := by unfold Cal.FARTHEST; omega
    obtain ⟨a1, a2, a3, a4⟩ := Cal.year_of_range hF
    obtain ⟨b1, b2, b3, b4⟩ := Cal.year_of_range hG
    have hyy : (dateOf a).year ≤ (dateOf c).year := by
      by_cases q : (dateOf a).year ≤ (dateOf c).year
      · exact q
      · have := Cal.yearStart_mono (a := (dateOf c).year + 1) (b := (dateOf a).year) (by omega) (by omega)
        omega
    have whole : pick (workP st.rests stops) a (c + 1 - a) = pick (within (workP st.rests stops) a c) (yearStart (dateOf a).year) (yearStart ((dateOf c).year + 1) - yearStart (dateOf a).year) := by
      rw [whole_pick _ (first := a) (final := c) a3 (by omega) (by omega)]
    rw [working_pick, whole] at k
    refine ⟨_, rfl, _, rfl, a, c, rfl, hac, hG, fun H1 lp s1 hl => ?_⟩
    generalize (dateOf a).year = y at a1 a2 a3 a4 hyy k whole hl ⊢
    generalize (dateOf c).year = z at b1 b2 b3 b4 hyy k whole hl ⊢
    clear whole
    have A1 := AL.same s1
    refine ⟨lp, rfl, ⟨_, SqL.of hl⟩, fun D hD => ?_⟩
    have hkeep : ∀ {H' H'' : Hp}, Ua d H' H'' → Alm H' T.Almanac.a T.Book.a m b sp d st stops → ∀ (q : Addr) (xs : List V), H' q = some (.lst xs) → H'' q = some (.lst xs) := fun u AA q xs h => by
      obtain ⟨kvs, hd, _⟩ := AA.yr
      exact u.up.1 _ _ h (ne_of h hd (by intro q; cases q))
    have nlp : lp ≠ D := ne_of_none hl hD
    refine lc_list (K := K) (a := lp) (xs := (List.range (z + 1 - y)).map fun j => natV (y + j)) (fun i H' => Ua d H H' ∧ AlmOff D H' T.Almanac.a T.Book.a m b sp d st stops ∧ H' lp = some (.lst ((List.range (z + 1 - y)).map fun j => natV (y + j))) ∧ ∃ ns : List Int, H' D = some (.lst (ns.map V.int)) ∧ ns.length = i ∧ ns.sum = (pick (within (workP st.rests stops) a c) (yearStart y) (yearStart (y + i) - yearStart y)).length) ?_ (fun i H' _ h => SqL.of h.2.2.1) ?_ ?_
    · have s2 := Same.upd (o := .lst []) hD
      refine ⟨AL.ofs (s1.trans s2), A1.off hD, s2 _ _ hl, [], upd_same, rfl, ?_⟩
      rw [show y + 0 = y from rfl, Nat.sub_self]
      rfl
    · rintro i x H' hi ⟨u, AO, hl2, ns, hns, hnl, hsum⟩
      have hiz : i < z + 1 - y := by
        have := (List.getElem?_eq_some_iff.mp hi).1
        rw [List.length_map, List.length_range] at this
        exact this
      rw [List.getElem?_map, List.getElem?_range hiz] at hi
      have hx : natV (y + i) = x := Option.some.inj hi
      subst hx
      have A2 := AO.on
      obtain ⟨dx, ob⟩ := A2.ob
      have hyp := years_pick (within (workP st.rests stops) a c) a1 i
      refine ⟨rfl, ?_⟩
      simp only [natV]
      walk_at "rd"
      refine ⟨dx, _, ob, rfl, m, b, sp, d, st, stops, y + i, a, c, rfl, A2, by omega, by omega, fun H3 p u3 A3 hp3 => ?_⟩
      rw [inYear_pick] at hp3
      have hns3 := hkeep u3 A2 _ _ hns
      have hl3 := hkeep u3 A2 _ _ hl2
      have AO3 := AO.ua hns u3 A3
      obtain ⟨kvs3, hd3, _⟩ := A3.yr
      rw [← Nat.add_assoc, hyp]
      refine ⟨p, rfl, _, .inl (SqL.of hp3), _, hns3, ?_, (u.trans u3).put (s1.free hD) hns3 hd3, AO3.put, ?_, ns ++ [((pick (within (workP st.rests stops) a c) (yearStart (y + i)) (Cal.yearDays (y + i))).length : Int)], ?_, ?_, ?_⟩
      · rw [List.length_map, hnl]
        exact Nat.lt_of_lt_of_le (show i < 4000 by omega) (by decide)
      · rw [upd_ne nlp]
        exact hl3
      · rw [upd_same, List.map_append, List.length_map]
        rfl
      · rw [List.length_append, hnl]
        rfl
      · rw [List.sum_append, hsum, List.length_append]
        simp
    · rintro H' ⟨u, AO, hl2, ns, hns, hnl, hsum⟩
      rw [List.length_map, List.length_range, show y + (z + 1 - y) = z + 1 by omega] at hsum
      have := k H' u AO.on
      rw [← hsum] at this
      exact ⟨D, ns, rfl, SqL.of hns, this⟩
end
end Dc
end
section
set_option Elab.async false
set_option linter.all false
set_option maxRecDepth 100000
set_option maxHeartbeats 2000000
namespace Dc
open PySem PySem.Spec PyProof.Rows L2
open Sx57 (leap monthDays dayOf dateOf dateOk yearStart monthStart)
local macro_rules | `(tactic| walk_at "rd") => `(tactic| simp only [tRet, tSeq, wipe, tYes, gSub, rSetL, tMake, tNotN, rIn, sFld, tIfS, tAndV, tOrV, tNotV, tAnd, tOr, tNot, tB, tTest, tCmp, t2I, tAdd, tSub, tMul, tOp, rI, rI0, tUn, rU, tVar, tC, tCall, tCons, tNil, tIx, tLen, tAsg, gName, tAug, ipI, tIf, tNext, tDrop, tChain, tTup, tLst, tFld, tMeth, tIsN, tCB, tBM, tSl, rSlL, tPart, tNoPart, CDiv, cxK, L2.start, List.length_cons, List.length_nil, List.replicate, List.map_cons, List.map_nil, List.cons_append, List.nil_append, List.append_nil, List.getElem?_cons_zero, List.getElem?_cons_succ, List.set_cons_zero, List.set_cons_succ, List.cons.injEq, and_true, true_and, Option.some.injEq, exists_eq_left', exists_eq_left, V.int.injEq, V.bl.injEq, V.ref.injEq, exists_and_left, decide_eq_true_eq, Nat.reduceAdd, Nat.reduceSub, Int.reduceLT, Int.reducePow, Int.reduceNeg, Bool.not_eq_true', decide_eq_false_iff_not, Bool.false_eq_true, ↓reduceIte, Bool.not_true, Bool.not_false])
section
variable {P : Program} {w : World} {K : PySem.W.Frag} {mg : Str → Option Value} {base : Heap}
theorem SpanIs.ua {H H' : Hp} {CS s : Addr} {ww : Sx57.Way} {u k : Nat} (h : SpanIs H CS s ww u k) {CA CB m b sp d : Addr} {st : Sx57.St} {stops : Sx57.Stops} (A : Alm H CA CB m b sp d st stops) (x : Ua d H H') : SpanIs H' CS s ww u k := by
  obtain ⟨dx, ob⟩ := h
  obtain ⟨kvs, hd, _⟩ := A.yr
  exact ⟨dx, x.up.1 _ _ ob (ne_of ob hd (by intro q; cases q))⟩
theorem SpanIs.same {H H' : Hp} {CS s : Addr} {ww : Sx57.Way} {u k : Nat} (h : SpanIs H CS s ww u k) (x : Same H H') : SpanIs H' CS s ww u k := by
  obtain ⟨dx, ob⟩ := h
  exact ⟨dx, x _ _ ob⟩
/-! ### last_day -/
def sp_last_day (CA CB CS : Addr) : Sp := fun vs H Q _ => ∃ (m b sp d s : Addr) (st : Sx57.St) (stops : Sx57.Stops) (n : Nat) (ww : Sx57.Way) (u k : Nat), vs = [.ref m, .ref s, .int n] ∧ Alm H CA CB m b sp d st stops ∧ SpanIs H CS s ww u k ∧ n < Sx57.DAYS ∧ Sx57.spanOk u k = true ∧ ww.rest ≤ 3 ∧
  ∀ (H' : Hp), Ua d H H' → Alm H' CA CB m b sp d st stops → Q (optV (Sx57.lastDay st.rests stops ww n u k)) H'
theorem ok_last_day (T : Txt K mg) : FnOk P w K mg base CX0 9 T.last_day.a T.last_day.fd ["almanac", "span", "event"] (sp_last_day T.Almanac.a T.Book.a T.Span.a) := by
  refine T.last_day.F.ok sc_last_day (fun vs H Q E h => ?_) (fun cdv A outer s H vs Q E hr h => ?_)
  · obtain ⟨_, _, _, _, _, _, _, _, _, _, _, rfl, _⟩ := h
    rfl
  · obtain ⟨m, b, sp, d, s, st, stops, n, ww, u, j, rfl, AL, S, hn, hs, hw, k⟩ := h
    refine ⟨_, (pss_cons (ps_set (i := 3) sc_last_day.nd rfl (Or.inl rfl) (pe_meth (pv 1) T.Span.cl T.Span_first_day.m (ok_Span_first_day T) (hr.mono (by decide : 1 ≤ 8)) T.Span_first_day.b .nil pass0 (pa_cons (pv 2) pa_nil)))
      (pss_cons (ps_if (pt_cmp (pc_eqI (pe_fld (pv 1) rfl) (pe_globI rfl T.g_WORKING_DAYS))) (pss_one (ps_ret (pe_call (ok_last_working_day T) (hr.mono (by decide : 7 ≤ 8)) rfl T.last_working_day.m T.last_working_day.F.kp T.last_working_day.b .nil pass0 (pa_cons (pv 0) (pa_cons (pv 3) (pa_cons (pe_fld (pv 1) rfl) pa_nil)))))) pss_nil)
      (pss_cons (ps_set (i := 4) sc_last_day.nd rfl (Or.inl rfl) (pe_call (ok_put_off T) (hr.mono (by decide : 1 ≤ 8)) rfl T.put_off.m T.put_off.F.kp T.put_off.b .nil pass0 (pa_cons (pe_fld (pv 0) rfl) (pa_cons (pv 3) (pa_cons (pe_meth (pv 1) T.Span.cl T.Span_plain_end.m (ok_Span_plain_end T) (hr.mono (by decide : 5 ≤ 8)) T.Span_plain_end.b .nil pass0 (pa_cons (pv 2) pa_nil)) pa_nil)))))
      (pss_one (ps_ret (pe_call (ok_moved_off_rest T) (hr.mono (by decide : 8 ≤ 8)) rfl T.moved_off_rest.m T.moved_off_rest.F.kp T.moved_off_rest.b .nil pass0 (pa_cons (pv 0) (pa_cons (pv 4) (pa_cons (pe_fld (pv 1) rfl) pa_nil))))))))), ?_⟩
    have hd := Cal.DAYS_eq
    have hf : Sx57.firstOf ww n ≤ n + 1 := by
      unfold Sx57.firstOf
      split <;> omega
    obtain ⟨dxs, obs⟩ := S
    have S : SpanIs H T.Span.a s ww u j := ⟨dxs, obs⟩
    obtain ⟨dx, ob⟩ := AL.ob
    obtain ⟨ss, hs1, hs2⟩ := AL.sps
    have hs4 := Cal.spanOk_iff.mp hs
    walk_at "rd"
    refine ⟨dxs, _, obs, rfl, s, ww, u, j, n, rfl, S, _, dxs, _, obs, T.Span.cl, T.naS, _, rfl, _, rfl, ite2 (fun c => ?_) fun c => ?_⟩
    · refine ⟨_, dxs, _, obs, T.Span.cl, T.naS, _, rfl, m, b, sp, d, st, stops, _, j, rfl, AL, by omega, hs4.1, fun H1 u1 A1 => ?_⟩
      have := k H1 u1 A1
      rw [show Sx57.lastDay st.rests stops ww n u j = Sx57.workEnd st.rests stops Sx57.WORK (Sx57.firstOf ww n) j from if_pos (by omega)] at this
      exact this
    · have hu : u ≠ 4 := by omega
      obtain ⟨pb1, pb2⟩ := Cal.plainEnd_bounds (w := ww) hn hs hu
      refine ⟨_, dx, _, ob, T.Almanac.cl, T.naA, _, rfl, dxs, _, obs, rfl, s, ww, u, j, n, rfl, S, hn, hs, hu, fun H1 s1 => ?_⟩
      have A1 := AL.same s1
      refine ⟨sp, ss, stops, _, _, rfl, s1 _ _ hs1, hs2.mono fun a o h => s1 _ _ h, fun x hx => (AL.so x hx).1, pb1, ?_⟩
      have far := Cal.putOff_far (w := ww) hn hs hu AL.so AL.rise
      refine ⟨_, dxs, _, s1 _ _ obs, T.Span.cl, T.naS, _, rfl, m, b, sp, d, st, stops, _, ww, rfl, A1, by omega, hw, fun H2 u2 A2 => ?_⟩
      have := k H2 ((AL.ofs s1).trans u2) A2
      rw [show Sx57.lastDay st.rests stops ww n u j = Sx57.settle st.rests ww (Sx57.putOff (Sx57.firstOf ww n) (Sx57.plainEnd ww n u j) stops) from if_neg (by omega)] at this
      exact this
/-! ### last_day_anew -/
def sp_anew (CA CB CS : Addr) : Sp := fun vs H Q _ => ∃ (m b sp d s l : Addr) (st : Sx57.St) (stops : Sx57.Stops) (n : Nat) (ww : Sx57.Way) (u k : Nat) (ds : List Nat), vs = [.ref m, .ref s, .int n, .ref l] ∧ Alm H CA CB m b sp d st stops ∧ SpanIs H CS s ww u k ∧ H l = some (.lst (ds.map natV)) ∧ (∀ x ∈ ds, x < Sx57.DAYS) ∧ n < Sx57.DAYS ∧ Sx57.spanOk u k = true ∧ ww.rest ≤ 3 ∧
  ∀ (H' : Hp), Ua d H H' → Alm H' CA CB m b sp d st stops → Q (optV (Sx57.anew st.rests stops ww u k n ds)) H'
theorem ok_last_day_anew (T : Txt K mg) : FnOk P w K mg base CX0 10 T.last_day_anew.a T.last_day_anew.fd ["almanac", "span", "event", "days"] (sp_anew T.Almanac.a T.Book.a T.Span.a) := by
  refine T.last_day_anew.F.ok sc_last_day_anew (fun vs H Q E h => ?_) (fun cdv A outer s H vs Q E hr h => ?_)
  · obtain ⟨_, _, _, _, _, _, _, _, _, _, _, _, _, rfl, _⟩ := h
    rfl
  · obtain ⟨m, b, sp, d, s, l, st, stops, n, ww, u, j, ds, rfl, AL, S, hl, hds, hn, hs, hw, k⟩ := h
    refine ⟨_, (pss_cons (ps_set (i := 4) sc_last_day_anew.nd rfl (Or.inl rfl) (pv 2))
      (pss_cons (ps_set (i := 5) sc_last_day_anew.nd rfl (Or.inl rfl) (pe_call (ok_last_day T) (hr.mono (by decide : 9 ≤ 9)) rfl T.last_day.m T.last_day.F.kp T.last_day.b .nil pass0 (pa_cons (pv 0) (pa_cons (pv 1) (pa_cons (pv 4) pa_nil)))))
      (pss_cons (ps_for PassesOwn.never rfl (pi_list (pv 3)) (pg_name (i := 6) sc_last_day_anew.nd rfl (Or.inl rfl))
      (pss_one (ps_if (PW.pt (pw_and (pt_cmp (pc_ge (pv 6) (pv 4))) (pw_and1 (PW.pt (pw_or (pt_cmp (pc_isN (pv 5))) (pw_or1 (pt_cmp (pc_le (pv 6) (pv 5))))))))) (pss_cons (ps_set (i := 4) sc_last_day_anew.nd rfl (Or.inl rfl) (pv 6))
      (pss_one (ps_set (i := 5) sc_last_day_anew.nd rfl (Or.inl rfl) (pe_call (ok_last_day T) (hr.mono (by decide : 9 ≤ 9)) rfl T.last_day.m T.last_day.F.kp T.last_day.b .nil pass0 (pa_cons (pv 0) (pa_cons (pv 1) (pa_cons (pv 4) pa_nil))))))) pss_nil)))
      (pss_one (ps_ret (pv 5)))))), ?_⟩
    have hkeep : ∀ {H' H'' : Hp}, Ua d H' H'' → Alm H' T.Almanac.a T.Book.a m b sp d st stops → H' l = some (.lst (ds.map natV)) → H'' l = some (.lst (ds.map natV)) := fun u AA h => by
      obtain ⟨kvs, hd, _⟩ := AA.yr
      exact u.up.1 _ _ h (ne_of h hd (by intro q; cases q))
    refine tSeq_to (σ1 := [some (.ref m), some (.ref s), some (.int n), some (.ref l), some (.int n), none, none]) (H1 := H) (fun R r => ?_) ?_
    · walk_at "rd"
      exact r
    refine ⟨_, rfl, _, rfl, _, rfl, m, b, sp, d, s, st, stops, n, ww, u, j, rfl, AL, S, hn, hs, hw, fun H1 u1 A1 => ?_⟩
    have S1 := S.ua AL u1
    have hl1 := hkeep u1 AL hl
    refine ⟨_, rfl, l, rfl, ⟨_, SqL.of hl1⟩, for_list (K := K) (a := l) (xs := ds.map natV) (fun i σ H' => Ua d H H' ∧ Alm H' T.Almanac.a T.Book.a m b sp d st stops ∧ SpanIs H' T.Span.a s ww u j ∧ H' l = some (.lst (ds.map natV)) ∧ ∃ (n' : Nat) (v : Option V), n' < Sx57.DAYS ∧ Sx57.anew st.rests stops ww u j n ds = Sx57.anew st.rests stops ww u j n' (ds.drop i) ∧ σ = [some (.ref m), some (.ref s), some (.int n), some (.ref l), some (.int n'), some (optV (Sx57.lastDay st.rests stops ww n' u j)), v]) ⟨u1, A1, S1, hl1, n, none, hn, rfl, rfl⟩ (fun i σ H' _ h => SqL.of h.2.2.2.1) ?_ ?_⟩
    · rintro i x σ H' hi ⟨u2, A2, S2, hl2, n', v, hn', ea, rfl⟩
      obtain ⟨z, hz, rfl⟩ : ∃ z, ds[i]? = some z ∧ x = natV z := by
        rw [List.getElem?_map] at hi
        cases q : ds[i]? with
        | none => rw [q] at hi; cases hi
        | some z => rw [q] at hi; exact ⟨z, rfl, (Option.some.inj hi).symm⟩
      have ed : ds.drop i = z :: ds.drop (i + 1) := by
        obtain ⟨h1, h2⟩ := List.getElem?_eq_some_iff.mp hz
        rw [← h2, List.drop_eq_getElem_cons h1]
      have hzd := hds z (List.mem_of_getElem? hz)
      rw [ed] at ea
      have ea : Sx57.anew st.rests stops ww u j n ds = match Sx57.lastDay st.rests stops ww n' u j with
        | none => if n' ≤ z then Sx57.anew st.rests stops ww u j z (ds.drop (i + 1)) else Sx57.anew st.rests stops ww u j n' (ds.drop (i + 1))
        | some e => if n' ≤ z ∧ z ≤ e then Sx57.anew st.rests stops ww u j z (ds.drop (i + 1)) else Sx57.anew st.rests stops ww u j n' (ds.drop (i + 1)) := ea
      have take : ∀ R : V → Hp → Prop, (∀ H3, Ua d H H3 → Alm H3 T.Almanac.a T.Book.a m b sp d st stops → SpanIs H3 T.Span.a s ww u j → H3 l = some (.lst (ds.map natV)) → R (optV (Sx57.lastDay st.rests stops ww z u j)) H3) → sp_last_day T.Almanac.a T.Book.a T.Span.a [.ref m, .ref s, .int z] H' R E0 := fun R r =>
        ⟨m, b, sp, d, s, st, stops, z, ww, u, j, rfl, A2, S2, hzd, hs, hw, fun H3 u3 A3 => r H3 (u2.trans u3) A3 (S2.ua A2 u3) (hkeep u3 A2 hl2)⟩
      simp only [natV] at take hl2 ⊢
      walk_at "rd"
      cases el : Sx57.lastDay st.rests stops ww n' u j with
      | none =>
        rw [el] at ea
        have ea : Sx57.anew st.rests stops ww u j n ds = if n' ≤ z then Sx57.anew st.rests stops ww u j z (ds.drop (i + 1)) else Sx57.anew st.rests stops ww u j n' (ds.drop (i + 1)) := ea
        refine ite2 (fun c => ?_) fun c => ?_
        · rw [if_pos (show optV none = V.non from rfl)]
          rw [if_pos (by omega)] at ea
          exact take _ fun H3 a b c e => ⟨a, b, c, e, z, hzd, ea, rfl, rfl, _, rfl⟩
        · rw [if_neg (by omega)] at ea
          exact ⟨u2, A2, S2, hl2, n', hn', ea, rfl, by rw [el], _, rfl⟩
      | some e =>
        rw [el] at ea
        have ea : Sx57.anew st.rests stops ww u j n ds = if n' ≤ z ∧ z ≤ e then Sx57.anew st.rests stops ww u j z (ds.drop (i + 1)) else Sx57.anew st.rests stops ww u j n' (ds.drop (i + 1)) := ea
        refine ite2 (fun c => ?_) fun c => ?_
        · rw [if_neg (show ¬ optV (some e) = V.non by intro q; cases q)]
          refine ⟨_, rfl, ite2 (fun c2 => ?_) fun c2 => ?_⟩
          · rw [if_pos (by omega)] at ea
            exact take _ fun H3 a b c e => ⟨a, b, c, e, z, hzd, ea, rfl, rfl, _, rfl⟩
          · rw [if_neg (by omega)] at ea
            exact ⟨u2, A2, S2, hl2, n', hn', ea, rfl, by rw [el], _, rfl⟩
        · rw [if_neg (by omega)] at ea
          exact ⟨u2, A2, S2, hl2, n', hn', ea, rfl, by rw [el], _, rfl⟩
    · rintro σ H' ⟨u2, A2, S2, hl2, n', v, hn', ea, rfl⟩
      rw [List.length_map, List.drop_length] at ea
      have := k H' u2 A2
      rw [ea] at this
      exact ⟨_, rfl, this⟩
/-! ### latest_event -/
def sp_latest (CA CB CS : Addr) : Sp := fun vs H Q _ => ∃ (m b sp d s : Addr) (st : Sx57.St) (n : Nat) (ww : Sx57.Way) (u k : Nat), vs = [.ref m, .ref s, .int n] ∧ Alm H CA CB m b sp d st [] ∧ SpanIs H CS s ww u k ∧ n < Sx57.DAYS ∧ Sx57.spanOk u k = true ∧ u ≠ 4 ∧ ww.rest ≤ 3 ∧
  ∀ (H' : Hp), Ua d H H' → Alm H' CA CB m b sp d st [] → Q (optV (Sx57.latest st.rests ww n u k)) H'
/-- an event at m is early enough -/
def early (r : Sx57.Rests) (ww : Sx57.Way) (n u k m : Nat) : Bool := match Sx57.lastDay r [] ww m u k with
  | some e => decide (e ≤ n)
  | none => false
theorem latest_of (r : Sx57.Rests) (ww : Sx57.Way) (n u k : Nat) : Sx57.latest r ww n u k = ((List.range (min (min n (n + 401 - Sx57.least u k) + 1) 4000)).map fun i => min n (n + 401 - Sx57.least u k) - i).find? (early r ww n u k) := rfl
theorem ok_latest_event (T : Txt K mg) : FnOk P w K mg base CX0 10 T.latest_event.a T.latest_event.fd ["almanac", "span", "date"] (sp_latest T.Almanac.a T.Book.a T.Span.a) := by
  refine T.latest_event.F.ok sc_latest_event (fun vs H Q E h => ?_) (fun cdv A outer s H vs Q E hr h => ?_)
  · obtain ⟨_, _, _, _, _, _, _, _, _, _, rfl, _⟩ := h
    rfl
  · obtain ⟨m, b, sp, d, s, st, n, ww, u, j, rfl, AL, S, hn, hs, hu, hw, k⟩ := h
    refine ⟨_, (pss_cons (ps_set (i := 3) sc_latest_event.nd rfl (Or.inl rfl) (pe_callB (call_max2 rfl) rfl T.n_max (by rfl) (pa_cons (pe_sub (pv 2) (pe_callB (call_max2 rfl) rfl T.n_max (by rfl) (pa_cons (pe_sub (pe_meth0 (pv 1) T.Span.cl T.Span_least_length.m (ok_Span_least_length T) (hr.mono (by decide : 1 ≤ 9)) T.Span_least_length.b .nil pass0) (pe_globI rfl T.g_LENGTH_LOOKED_AT_WHOLE)) (pa_cons pe_int pa_nil)))) (pa_cons pe_int pa_nil))))
      (pss_cons (ps_for PassesOwn.never rfl (pi_range3 rfl T.n_range (pa_cons (pv 3) (pa_cons (pe_callB (call_max2 rfl) rfl T.n_max (by rfl) (pa_cons (pe_sub (pv 3) (pe_globI rfl T.g_MOST_LOOKED_FOR_EVENT)) (pa_cons (pe_un un_neg pe_int) pa_nil))) (pa_cons (pe_un un_neg pe_int) pa_nil)))) (pg_name (i := 4) sc_latest_event.nd rfl (Or.inl rfl))
      (pss_cons (ps_set (i := 5) sc_latest_event.nd rfl (Or.inl rfl) (pe_call (ok_last_day T) (hr.mono (by decide : 9 ≤ 9)) rfl T.last_day.m T.last_day.F.kp T.last_day.b .nil pass0 (pa_cons (pv 0) (pa_cons (pv 1) (pa_cons (pv 4) pa_nil)))))
      (pss_one (ps_if (PW.pt (pw_and (pt_cmp (pc_notN (pv 5))) (pw_and1 (pt_cmp (pc_le (pv 5) (pv 2)))))) (pss_one (ps_ret (pv 4))) pss_nil))))
      (pss_one (ps_ret pe_non)))), ?_⟩
    have hd := Cal.DAYS_eq
    have hs4 := Cal.spanOk_iff.mp hs
    rw [latest_of] at k
    obtain ⟨dxs, obs⟩ := S
    have S : SpanIs H T.Span.a s ww u j := ⟨dxs, obs⟩
    refine tSeq_to (σ1 := [some (.ref m), some (.ref s), some (.int n), some (.int (min n (n + 401 - Sx57.least u j) : Nat)), none, none]) (H1 := H) (fun R r => ?_) ?_
    · walk_at "rd"
      refine ⟨dxs, _, obs, rfl, s, ww, u, j, rfl, S, by omega, by omega, _, rfl, _, _, ⟨rfl, rfl⟩, _, _, ⟨rfl, rfl⟩, ?_⟩
      have e : (if (0 : Int) > (n : Int) - (if (0 : Int) > ((Sx57.least u j : Nat) : Int) - 401 then 0 else ((Sx57.least u j : Nat) : Int) - 401) then 0 else (n : Int) - (if (0 : Int) > ((Sx57.least u j : Nat) : Int) - 401 then 0 else ((Sx57.least u j : Nat) : Int) - 401)) = ((min n (n + 401 - Sx57.least u j) : Nat) : Int) := by
        generalize Sx57.least u j = q
        split <;> split <;> omega
      rw [e]
      exact r
    have hg : min n (n + 401 - Sx57.least u j) ≤ n := by omega
    generalize min n (n + 401 - Sx57.least u j) = g at hg k ⊢
    refine ⟨_, rfl, _, rfl, _, _, rfl, rfl, _, rfl, _, _, rfl, _, rfl, _, _, _, _, rfl, RgC.neg (by omega) (by omega) ?_ ?_, ?_⟩
    · split <;> omega
    · split <;> omega
    have en : ((g : Int) - (if (-1 : Int) > (g : Int) - 4000 then -1 else (g : Int) - 4000)).toNat = min (g + 1) 4000 := by
      split <;> omega
    rw [en]
    refine for_rangeC (fun i σ H' => Ua d H H' ∧ Alm H' T.Almanac.a T.Book.a m b sp d st [] ∧ SpanIs H' T.Span.a s ww u j ∧ (∀ q, q < i → early st.rests ww n u j (g - q) = false) ∧ ∃ v4 v5, σ = [some (.ref m), some (.ref s), some (.int n), some (.int g), v4, v5]) ⟨Ua.refl d H, AL, S, fun j hj => absurd hj (Nat.not_lt_zero _), none, none, rfl⟩ ?_ ?_
    · rintro i σ H' hi ⟨u1, A1, S1, hall, v4, v5, rfl⟩
      rw [show ((g : Int) + (i : Nat) * (-1)) = ((g - i : Nat) : Int) by omega]
      walk_at "rd"
      refine ⟨m, b, sp, d, s, st, [], g - i, ww, u, j, rfl, A1, S1, by omega, hs, hw, fun H2 u2 A2 => ?_⟩
      have S2 := S1.ua A1 u2
      have nope : early st.rests ww n u j (g - i) = false → ∀ q, q < i + 1 → early st.rests ww n u j (g - q) = false := fun e q hq => by
        by_cases c : q = i
        · subst c
          exact e
        · exact hall q (by omega)
      dsimp only
      cases el : Sx57.lastDay st.rests [] ww (g - i) u j with
      | none =>
        have ee : early st.rests ww n u j (g - i) = false := by
          unfold early
          rw [el]
        rw [if_neg (show ¬ ¬ optV none = V.non from fun h => h rfl)]
        exact ⟨u1.trans u2, A2, S2, nope ee, _, rfl⟩
      | some e =>
        have ee : early st.rests ww n u j (g - i) = decide (e ≤ n) := by
          unfold early
          rw [el]
        rw [if_pos (show ¬ optV (some e) = V.non by intro q; cases q)]
        refine ⟨_, rfl, ite2 (fun c => ?_) fun c => ?_⟩
        · have := k H2 (u1.trans u2) A2
          rw [find_at hi (by rw [ee]; exact decide_eq_true (by omega)) hall] at this
          exact this
        · exact ⟨u1.trans u2, A2, S2, nope (by rw [ee]; exact decide_eq_false (by omega)), _, rfl⟩
    · rintro σ H' ⟨u1, A1, S1, hall, v4, v5, rfl⟩
      have := k H' u1 A1
      rw [find_end fun q hq => hall q (by omega)] at this
      exact this
/-! ### is_in_time -/
def inT (r : Sx57.Rests) (stops : Sx57.Stops) (ww : Sx57.Way) (x y u k : Nat) : Bool := decide (x ≤ y) && (match Sx57.lastDay r stops ww x u k with
  | some e => decide (y ≤ e)
  | none => true)
def sp_in_time (CA CB CS : Addr) : Sp := fun vs H Q _ => ∃ (m b sp d s : Addr) (st : Sx57.St) (stops : Sx57.Stops) (x y : Nat) (ww : Sx57.Way) (u k : Nat), vs = [.ref m, .ref s, .int x, .int y] ∧ Alm H CA CB m b sp d st stops ∧ SpanIs H CS s ww u k ∧ x < Sx57.DAYS ∧ Sx57.spanOk u k = true ∧ ww.rest ≤ 3 ∧
  ∀ (H' : Hp), Ua d H H' → Alm H' CA CB m b sp d st stops → Q (.bl (inT st.rests stops ww x y u k)) H'
theorem ok_is_in_time (T : Txt K mg) : FnOk P w K mg base CX0 10 T.is_in_time.a T.is_in_time.fd ["almanac", "span", "event", "act"] (sp_in_time T.Almanac.a T.Book.a T.Span.a) := by
  refine T.is_in_time.F.ok sc_is_in_time (fun vs H Q E h => ?_) (fun cdv A outer s H vs Q E hr h => ?_)
  · obtain ⟨_, _, _, _, _, _, _, _, _, _, _, _, rfl, _⟩ := h
    rfl
  · obtain ⟨m, b, sp, d, s, st, stops, x, y, ww, u, j, rfl, AL, S, hx, hs, hw, k⟩ := h
    refine ⟨_, (pss_cons (ps_if (pt_cmp (pc_lt (pv 3) (pv 2))) (pss_one (ps_ret pe_bl)) pss_nil)
      (pss_cons (ps_set (i := 4) sc_is_in_time.nd rfl (Or.inl rfl) (pe_call (ok_last_day T) (hr.mono (by decide : 9 ≤ 9)) rfl T.last_day.m T.last_day.F.kp T.last_day.b .nil pass0 (pa_cons (pv 0) (pa_cons (pv 1) (pa_cons (pv 2) pa_nil)))))
      (pss_one (ps_ret (pe_or (pe_cmp (pc_isN (pv 4))) (pe_one (pe_cmp (pc_le (pv 3) (pv 4))))))))), ?_⟩
    unfold inT at k
    walk_at "rd"
    refine ite2 (fun c => ?_) fun c => ⟨m, b, sp, d, s, st, stops, x, ww, u, j, rfl, AL, S, hx, hs, hw, fun H1 u1 A1 => ?_⟩
    · have := k H (Ua.refl d H) AL
      rw [decide_eq_false (show ¬ x ≤ y by omega)] at this
      exact this
    · have := k H1 u1 A1
      rw [decide_eq_true (show x ≤ y by omega), Bool.true_and] at this
      cases el : Sx57.lastDay st.rests stops ww x u j with
      | none =>
        rw [el] at this
        dsimp only
        rw [if_pos (show optV none = V.non from rfl)]
        exact this
      | some e =>
        rw [el] at this
        dsimp only
        rw [if_neg (show ¬ optV (some e) = V.non by intro q; cases q)]
        refine ⟨_, rfl, ?_⟩
        rw [show decide ((y : Int) ≤ (e : Nat)) = decide (y ≤ e) from decide_eq_decide.mpr (by omega)]
        exact this
end
end Dc
end
section
set_option Elab.async false
set_option linter.all false
set_option maxRecDepth 100000
set_option maxHeartbeats 2000000
namespace Dc
open PySem PySem.Spec PyProof.Rows L2
open Sx57 (leap monthDays dayOf dateOf dateOk yearStart monthStart)
local macro_rules | `(tactic| walk_at "rd") => `(tactic| simp only [tRet, tSeq, wipe, tYes, gSub, rSetL, tMake, tNotN, rIn, sFld, tIfS, tAndV, tOrV, tNotV, tAnd, tOr, tNot, tB, tTest, tCmp, t2I, tAdd, tSub, tMul, tOp, rI, rI0, tUn, rU, tVar, tC, tCall, tCons, tNil, tIx, tLen, tAsg, gName, tAug, ipI, tIf, tNext, tDrop, tChain, tTup, tLst, tFld, tMeth, tIsN, tCB, tBM, tSl, rSlL, tPart, tNoPart, CDiv, cxK, L2.start, List.length_cons, List.length_nil, List.replicate, List.map_cons, List.map_nil, List.cons_append, List.nil_append, List.append_nil, List.getElem?_cons_zero, List.getElem?_cons_succ, List.set_cons_zero, List.set_cons_succ, List.cons.injEq, and_true, true_and, Option.some.injEq, exists_eq_left', exists_eq_left, V.int.injEq, V.bl.injEq, V.ref.injEq, exists_and_left, decide_eq_true_eq, Nat.reduceAdd, Nat.reduceSub, Int.reduceLT, Int.reducePow, Int.reduceNeg, Bool.not_eq_true', decide_eq_false_iff_not, Bool.false_eq_true, ↓reduceIte, Bool.not_true, Bool.not_false])
/-! ### an almanac is made -/
theorem alm_made {H1 H' : Hp} {x dx d CA CB b sp : Addr} {st : Sx57.St} {stops : Sx57.Stops} {own ss : List Addr} (nx : H1 x = none) (ndx : H1 dx = none) (hd : upd (upd H1 dx (.own x)) x (.ins CA dx []) d = none) (hx' : H' x = some (.ins CA dx (almFs b sp d))) (hd' : H' d = some (.dK []))
    (u : Up x (upd (upd H1 dx (.own x)) x (.ins CA dx [])) H') (B : BookIs H1 CB b st own) (O : Okst st) (hsp : H1 sp = some (.lst (ss.map V.ref))) (ht : Tups H1 ss (stops.map pairI)) (so : ∀ x ∈ stops, x.1 ≤ x.2 ∧ x.2 < Sx57.DAYS) (ri : stops.Pairwise fun x z => x.2 < z.1) :
    Same H1 H' ∧ H1 d = none ∧ Alm H' CA CB x b sp d st stops := by
  have s1 : Same H1 H' := fun a o h => u.1 a o (by rw [upd_ne (ne_of_none h nx), upd_ne (ne_of_none h ndx)]; exact h) (ne_of_none h nx)
  exact ⟨s1, (upd_none (upd_none hd).2).2, ⟨dx, hx'⟩, ⟨own, B.same s1⟩, ⟨ss, s1 _ _ hsp, ht.mono fun a o h => s1 _ _ h⟩, ⟨[], hd', by simp, fun kv h => by cases h⟩, O.er, so, ri⟩
theorem Ua.same {d : Addr} {H H1 H2 : Hp} (u : Ua d H1 H2) (s : Same H H1) (hd : H d = none) : Same H H2 := fun a o h => u.up.1 a o (s a o h) (ne_of_none h hd)
/-- the answer's list is new, and all else as it was -/
theorem After.plain2 {H H1 : Hp} {C b : Addr} {own : List Addr} {st : Sx57.St} {ans : List Int} {Q : VK} (k : After H C b own st ans Q) (B : BookIs H C b st own) (s1 : Same H H1) {r : Addr} (hn : H r = none) (hr : H1 r = some (.lst (ans.map V.int))) : Q (.ref r) H1 := by
  refine k _ r own (B.same s1) hr hn (fun h => ?_) (fun a o h _ => s1 a o h) fun a h => .inl h
  obtain ⟨o, e⟩ := B.live h
  rw [hn] at e
  cases e
theorem cut_14 (a b c d : V) (l : List V) : cutV (a :: b :: c :: d :: l) (some 1) (some 4) = [b, c, d] := by
  unfold cutV HT.sIx
  simp
theorem cut_7 (a b c d e f g : V) (l : List V) : cutV (a :: b :: c :: d :: e :: f :: g :: l) (some 7) none = l := by
  unfold cutV HT.sIx
  simp
section
variable {P : Program} {w : World} {K : PySem.W.Frag} {mg : Str → Option Value} {base : Heap}
theorem iteN {c : Prop} [Decidable c] {a b : Prop} (h : ¬ c) (k : b) : if c then a else b := by rw [if_neg h]; exact k
/-! ### rest -/
def A_rest (xs : List V) (c : Sx57.Call) : Prop := ∃ y m d : Nat, xs = [.int y, .int m, .int d] ∧ c = .rest ⟨y, m, d⟩
theorem ok_rest (T : Txt K mg) : FnOk P w K mg base CX0 7 T.rest.a T.rest.fd ["book", "numbers"] (spC K T.Book.a A_rest) := by
  refine T.rest.F.ok sc_rest (fun vs H Q E h => ?_) (fun cdv A outer s H vs Q E hr h => ?_)
  · obtain ⟨b, l, _, _, _, _, rfl, _⟩ := h
    rfl
  · obtain ⟨b, l, xs, st, own, c, rfl, B0, O, hl, ⟨y, m, d, rfl, rfl⟩, k⟩ := h
    refine ⟨_, (pss_cons (ps_if (pt_not (pt_val (pe_call (ok_is_date T) (hr.mono (by decide : 4 ≤ 6)) rfl T.is_date.m T.is_date.F.kp T.is_date.b .nil pass0 (pa_cons (pv 1) pa_nil)))) (pss_one (ps_ret (pe_lst (pa_cons (pe_globI rfl T.g_WRONG) pa_nil)))) pss_nil)
      (pss_cons (ps_set (i := 2) sc_rest.nd rfl (Or.inl rfl) (pe_call (ok_day_number T) (hr.mono (by decide : 3 ≤ 6)) rfl T.day_number.m T.day_number.F.kp T.day_number.b .nil pass0 (pa_cons (pv 1) pa_nil)))
      (pss_cons (ps_set (i := 3) sc_rest.nd rfl (Or.inl rfl) (pe_ifExp (pt_val (pe_meth (pe_make T.mk_Almanac (ok_Almanac_init T) (hr.mono (by decide : 2 ≤ 6)) rfl T.Almanac.m T.Almanac_init.b .nil pass0 (pa_cons (pv 0) (pa_cons (pe_fld (pv 0) rfl) pa_nil))) T.Almanac.cl T.Almanac_rests.m (ok_Almanac_rests T) (hr.mono (by decide : 6 ≤ 6)) T.Almanac_rests.b .nil pass0 (pa_cons (pv 2) pa_nil))) pe_int pe_int))
      (pss_one (ps_ret (pe_lst (pa_cons (pv 3) (pa_cons (pe_call (ok_weekday T) (hr.mono (by decide : 1 ≤ 6)) rfl T.weekday.m T.weekday.F.kp T.weekday.b .nil pass0 (pa_cons (pv 2) pa_nil)) pa_nil)))))))), ?_⟩
    have D0 : DateAt K H (.ref l) y m d := ⟨l, rfl, .inl hl⟩
    have es : Sx57.step st (.rest ⟨y, m, d⟩) = (st, if dateOk ⟨y, m, d⟩ = false then Sx57.ok (-1) else ⟨Sx57.num (Sx57.bit (st.rests.on (dayOf ⟨y, m, d⟩))), [Sx57.num (Sx57.weekday (dayOf ⟨y, m, d⟩))]⟩) := rfl
    walk_at "rd"
    refine ⟨_, y, m, d, rfl, D0, _, rfl, ite2 (fun c => ?_) fun c => ?_⟩
    · rw [if_pos c] at es
      rw [es] at k
      exact ⟨one_le, fun r hr => k.plain B0 (Same.refl H) hr⟩
    rw [if_neg c] at es
    rw [es] at k
    have c : dateOk ⟨y, m, d⟩ = true := by simpa using c
    obtain ⟨g1, y1⟩ := Cal.good_of c
    have hdd := Cal.DAYS_eq
    have hn : dayOf ⟨y, m, d⟩ < Sx57.DAYS := (Cal.day_lt_DAYS g1).mpr y1
    have BB := B0
    obtain ⟨dx, a1, a2, a3, a4, a5, a6, ps, ws, ss, eo, B⟩ := BB
    refine ⟨_, y, m, d, rfl, D0, g1.y, (by have : y ≤ 2999 := y1; omega), g1.m1, g1.m2, g1.d1, _, dx, _, B.ob, T.Book.cl, T.na, _, rfl, fun x dx2 nx ndx ne => ?_⟩
    refine ⟨x, b, a6, dx2, rfl, upd_same, fun H1 d1 hd1 hx1 hd2 u1 => ⟨rfl, ?_⟩⟩
    obtain ⟨s1, fd, A1⟩ := alm_made nx ndx hd1 hx1 hd2 u1 B0 O B.sp B.sps O.so O.rise
    refine ⟨dx2, _, hx1, rfl, x, b, a6, d1, st, st.stops, _, rfl, A1, by unfold Cal.FARTHEST; omega, fun H2 u2 A2 => ⟨_, rfl, ?_⟩⟩
    have s2 := u2.same s1 fd
    have fin : ∀ z : Int, z = Sx57.num (Sx57.bit (st.rests.on (dayOf ⟨y, m, d⟩))) → sp_weekday [.int (dayOf ⟨y, m, d⟩ : Nat)] H2 (fun x H3 => 2 ≤ sizeLine ∧ ∀ p, H3 p = none → Q (.ref p) (upd H3 p (.lst [.int z, x]))) E0 := fun z ez => by
      refine ⟨_, rfl, by show 2 ≤ sizeLine; decide, fun r hr => ?_⟩
      rw [ez]
      exact k.plain B0 s2 hr
    refine ite2 (fun c2 => ?_) fun c2 => ?_
    · exact fin 1 (by rw [c2]; rfl)
    · exact fin 0 (by rw [show st.rests.on (dayOf ⟨y, m, d⟩) = false by simpa using c2]; rfl)
/-! ### is_span -/
def sp_is_span : Sp := fun vs H Q _ => ∃ u k : Nat, vs = [.int u, .int k] ∧ Q (.bl (Sx57.spanOk u k)) H
theorem ok_is_span (T : Txt K mg) : FnOk P w K mg base CX0 1 T.is_span.a T.is_span.fd ["unit", "number"] sp_is_span := by
  refine T.is_span.F.ok sc_is_span (fun vs H Q E h => ?_) (fun cdv A outer s H vs Q E hr h => ?_)
  · obtain ⟨_, _, rfl, _⟩ := h
    rfl
  · obtain ⟨u, n, rfl, k⟩ := h
    refine ⟨_, (pss_one (ps_ret (pe_and (pe_cmp (pc_lt (pv 0) (pe_len (pe_glob (v := .ref T.g_MOST_OF_UNIT.a) rfl T.g_MOST_OF_UNIT.m rfl) rfl T.n_len))) (pe_one (pe_chain op_le op_le pe_int (pv 1) (pe_item (pe_glob (v := .ref T.g_MOST_OF_UNIT.a) rfl T.g_MOST_OF_UNIT.m rfl) (pv 0))))))), ?_⟩
    walk_at "rd"
    refine ⟨_, T.g_MOST_OF_UNIT.at H, ite2 (fun c => ite2 (fun c2 => ?_) fun c2 => ?_) fun c => ?_⟩
    · have c : (u : Int) < 5 := c
      have key : ∃ z : Nat, atI (([9999, 999, 999, 99, 999] : List Int).map V.int) ((u : Nat) : Int) = some (.int (z : Nat)) ∧ Sx57.spanOk u n = decide (n ≤ z) := by
        have c5 : u = 0 ∨ u = 1 ∨ u = 2 ∨ u = 3 ∨ u = 4 := by omega
        have c1 : decide (1 ≤ n) = true := decide_eq_true (by omega)
        rcases c5 with rfl | rfl | rfl | rfl | rfl
        · exact ⟨9999, rfl, by show (true && (decide (1 ≤ n) && decide (n ≤ 9999))) = _; rw [c1]; rfl⟩
        · exact ⟨999, rfl, by show (true && (decide (1 ≤ n) && decide (n ≤ 999))) = _; rw [c1]; rfl⟩
        · exact ⟨999, rfl, by show (true && (decide (1 ≤ n) && decide (n ≤ 999))) = _; rw [c1]; rfl⟩
        · exact ⟨99, rfl, by show (true && (decide (1 ≤ n) && decide (n ≤ 99))) = _; rw [c1]; rfl⟩
        · exact ⟨999, rfl, by show (true && (decide (1 ≤ n) && decide (n ≤ 999))) = _; rw [c1]; rfl⟩
      obtain ⟨z, hz, ez⟩ := key
      rw [ez] at k
      refine ⟨_, T.g_MOST_OF_UNIT.at H, _, hz, _, rfl, ?_⟩
      rw [show decide ((n : Int) ≤ (z : Nat)) = decide (n ≤ z) from decide_eq_decide.mpr (by omega)]
      exact k
    · have e : Sx57.spanOk u n = false := by
        unfold Sx57.spanOk
        rw [decide_eq_false (show ¬ 1 ≤ n by omega), Bool.false_and, Bool.and_false]
      rw [e] at k
      exact k
    · have c : ¬ (u : Int) < 5 := c
      have e : Sx57.spanOk u n = false := by
        unfold Sx57.spanOk
        rw [decide_eq_false (show ¬ u ≤ 4 by omega), Bool.false_and]
      rw [e] at k
      exact k
/-! ### told_day -/
def sp_told : Sp := fun vs H Q _ => ∃ o : Option Nat, vs = [optV o] ∧ (∀ e, o = some e → e < Cal.FARTHEST) ∧ ∀ (H1 : Hp) (r : Addr), Same H H1 → H r = none → H1 r = some (.lst ((ansOf (Sx57.told o)).map V.int)) → Q (.ref r) H1
theorem ok_told_day (T : Txt K mg) : FnOk P w K mg base CX0 4 T.told_day.a T.told_day.fd ["number"] sp_told := by
  refine T.told_day.F.ok sc_told_day (fun vs H Q E h => ?_) (fun cdv A outer s H vs Q E hr h => ?_)
  · obtain ⟨_, rfl, _⟩ := h
    rfl
  · obtain ⟨o, rfl, ho, k⟩ := h
    refine ⟨_, (pss_cons (ps_if (pt_cmp (pc_isN (pv 0))) (pss_one (ps_ret (pe_lst (pa_cons (pe_globI rfl T.g_NO_END) pa_nil)))) pss_nil)
      (pss_cons (ps_set (i := 1) sc_told_day.nd rfl (Or.inl rfl) (pe_call (ok_date_of T) (hr.mono (by decide : 3 ≤ 3)) rfl T.date_of.m T.date_of.F.kp T.date_of.b .nil pass0 (pa_cons (pv 0) pa_nil)))
      (pss_cons (ps_if (pt_cmp (pc_gt (pe_item (pv 1) pe_int) (pe_globI rfl T.g_LAST_YEAR))) (pss_one (ps_ret (pe_lst (pa_cons (pe_globI rfl T.g_BEYOND) pa_nil)))) pss_nil)
      (pss_one (ps_ret (pe_op op_cat (pe_lst (pa_cons (pe_call (ok_weekday T) (hr.mono (by decide : 1 ≤ 3)) rfl T.weekday.m T.weekday.F.kp T.weekday.b .nil pass0 (pa_cons (pv 0) pa_nil)) pa_nil)) (pe_callTy call_list_of rfl T.n_list (by rfl) (pa_cons (pv 1) pa_nil)))))))), ?_⟩
    cases o with
    | none =>
      walk_at "rd"
      rw [if_pos (show optV none = V.non from rfl)]
      exact ⟨one_le, fun r hr => k _ r (Same.upd hr) hr upd_same⟩
    | some e =>
      have he := ho e rfl
      obtain ⟨g, ed⟩ := Cal.dateOf_good he
      have hlt := Cal.day_lt_DAYS g
      rw [ed] at hlt
      have et : Sx57.told (some e) = if Sx57.DAYS ≤ e then Sx57.ok (-6) else ⟨Sx57.num (Sx57.weekday e), Sx57.out (dateOf e)⟩ := rfl
      walk_at "rd"
      rw [if_neg (show ¬ optV (some e) = V.non by intro q; cases q)]
      refine ⟨e, rfl, he, fun p hp => ?_⟩
      have s1 : Same H (upd H p (.tup (dateV (dateOf e)))) := Same.upd hp
      have q1 : upd H p (.tup (dateV (dateOf e))) p = some (.tup (dateV (dateOf e))) := upd_same
      generalize upd H p (.tup (dateV (dateOf e))) = H1 at s1 q1 ⊢
      refine ⟨p, rfl, _, .inr (SqT.of q1), _, at0, _, rfl, ite2 (fun c => ⟨one_le, fun r hr => ?_⟩) fun c => ⟨e, rfl, one_le, fun p2 hp2 => ⟨p, rfl, dateV (dateOf e), .inr (SqT.of ?_), fun l hl => ?_⟩⟩⟩
      · rw [if_pos (by omega)] at et
        refine k _ r (s1.trans (Same.upd hr)) (s1.free hr) ?_
        rw [et]
        exact upd_same
      · exact Same.upd hp2 _ _ q1
      · rw [if_neg (by omega)] at et
        rw [et] at k
        have s2 : Same H1 (upd H1 p2 (.lst [.int (Sx57.weekday e : Nat)])) := Same.upd hp2
        have q2 : upd H1 p2 (.lst [.int (Sx57.weekday e : Nat)]) p2 = some (.lst [.int (Sx57.weekday e : Nat)]) := upd_same
        generalize upd H1 p2 (.lst [.int (Sx57.weekday e : Nat)]) = H2 at s2 q2 hl ⊢
        have s3 : Same H2 (upd H2 l (.lst (dateV (dateOf e)))) := Same.upd hl
        have q3 : upd H2 l (.lst (dateV (dateOf e))) l = some (.lst (dateV (dateOf e))) := upd_same
        generalize upd H2 l (.lst (dateV (dateOf e))) = H3 at s3 q3 ⊢
        have s03 := (s1.trans s2).trans s3
        refine ⟨p2, l, _, _, rfl, rfl, s3 _ _ q2, q3, by show 4 ≤ sizeLine; decide, fun r hr => ?_⟩
        exact k _ r (s03.trans (Same.upd hr)) (s03.free hr) upd_same
/-! ### refused_span, span_of -/
def headL (w y m d u k : Nat) (l : List V) : List V := .int w :: .int y :: .int m :: .int d :: .int u :: .int k :: l
def refusal (st : Sx57.St) (w y m d u k : Nat) : List Int := if (dateOk ⟨y, m, d⟩ && Sx57.spanOk u k) = false then [-1] else if st.ways.length ≤ w then [-2] else []
def sp_refused (K : PySem.W.Frag) (CB : Addr) : Sp := fun vs H Q _ => ∃ (b l : Addr) (st : Sx57.St) (own : List Addr) (w y m d u k : Nat) (xs : List V), vs = [.ref b, .ref l] ∧ BookIs H CB b st own ∧ SqL K H l (headL w y m d u k xs) ∧
  ∀ (H1 : Hp) (r : Addr), Same H H1 → H r = none → H1 r = some (.lst ((refusal st w y m d u k).map V.int)) → Q (.ref r) H1
theorem at3 {a b c d : V} {l : List V} : atI (a :: b :: c :: d :: l) (3 : Int) = some d := atI_nat (j := 3) rfl
theorem at4 {a b c d e : V} {l : List V} : atI (a :: b :: c :: d :: e :: l) (4 : Int) = some e := atI_nat (j := 4) rfl
theorem at5 {a b c d e f : V} {l : List V} : atI (a :: b :: c :: d :: e :: f :: l) (5 : Int) = some f := atI_nat (j := 5) rfl
theorem at6 {a b c d e f g : V} {l : List V} : atI (a :: b :: c :: d :: e :: f :: g :: l) (6 : Int) = some g := atI_nat (j := 6) rfl
theorem at7 {a b c d e f g h : V} {l : List V} : atI (a :: b :: c :: d :: e :: f :: g :: h :: l) (7 : Int) = some h := atI_nat (j := 7) rfl
theorem ok_refused_span (T : Txt K mg) : FnOk P w K mg base CX0 5 T.refused_span.a T.refused_span.fd ["book", "numbers"] (sp_refused K T.Book.a) := by
  refine T.refused_span.F.ok sc_refused_span (fun vs H Q E h => ?_) (fun cdv A outer s H vs Q E hr h => ?_)
  · obtain ⟨_, _, _, _, _, _, _, _, _, _, _, rfl, _⟩ := h
    rfl
  · obtain ⟨b, l, st, own, i, y, m, d, u, n, xs, rfl, B0, hl, k⟩ := h
    refine ⟨_, (pss_cons (ps_if (PW.pt (pw_or (pt_not (pt_val (pe_call (ok_is_date T) (hr.mono (by decide : 4 ≤ 4)) rfl T.is_date.m T.is_date.F.kp T.is_date.b .nil pass0 (pa_cons (pe_slice sl_list (pv 1) (po_some pe_int) (po_some pe_int)) pa_nil)))) (pw_or1 (pt_not (pt_val (pe_call (ok_is_span T) (hr.mono (by decide : 1 ≤ 4)) rfl T.is_span.m T.is_span.F.kp T.is_span.b .nil pass0 (pa_cons (pe_item (pv 1) pe_int) (pa_cons (pe_item (pv 1) pe_int) pa_nil)))))))) (pss_one (ps_ret (pe_lst (pa_cons (pe_globI rfl T.g_WRONG) pa_nil)))) pss_nil)
      (pss_cons (ps_if (pt_cmp (pc_ge (pe_item (pv 1) pe_int) (pe_len (pe_fld (pv 0) rfl) rfl T.n_len))) (pss_one (ps_ret (pe_lst (pa_cons (pe_globI rfl T.g_NO_WAY) pa_nil)))) pss_nil)
      (pss_one (ps_ret (pe_lst pa_nil))))), ?_⟩
    have BB := B0
    obtain ⟨dx, a1, a2, a3, a4, a5, a6, ps, ws, ss, eo, B⟩ := BB
    unfold headL at hl
    have lp : ws.length = st.ways.length := by
      have := Paired.length B.wys
      rw [List.length_map] at this
      exact this
    walk_at "rd"
    refine ⟨_, hl, fun p1 e1 => ?_⟩
    rw [cut_14]
    have s1 : Same H (upd H p1 (.lst [.int y, .int m, .int d])) := Same.upd e1
    have q1 : upd H p1 (.lst [.int y, .int m, .int d]) p1 = some (.lst [.int y, .int m, .int d]) := upd_same
    generalize upd H p1 (.lst [.int y, .int m, .int d]) = H1 at s1 q1 ⊢
    have hq : Sq K H1 l _ := .inl (s1.seq hl)
    refine ⟨_, y, m, d, rfl, ⟨p1, rfl, .inl (SqL.of q1)⟩, _, rfl, ?_⟩
    have B1 := B.same s1
    have out : ∀ (ans : List Int), refusal st i y m d u n = ans → ∀ r, H1 r = none → Q (.ref r) (upd H1 r (.lst (ans.map V.int))) := fun ans ea r hr => by
      refine k _ r (s1.trans (Same.upd hr)) (s1.free hr) ?_
      rw [ea]
      exact upd_same
    refine ite2 (fun c => ⟨one_le, out [-1] ?_⟩) fun c => ⟨_, hq, _, at4, _, hq, _, at5, u, n, rfl, _, rfl, ite2 (fun c2 => ⟨one_le, out [-1] ?_⟩) fun c2 => ⟨_, hq, _, at0, _, dx, _, B1.ob, T.Book.cl, T.na, _, rfl, a5, rfl, _, .inl (SqL.of B1.wy), _, rfl, ?_⟩⟩
    · unfold refusal
      rw [c, Bool.false_and, if_pos rfl]
    · unfold refusal
      rw [c2, Bool.and_false, if_pos rfl]
    have c : dateOk ⟨y, m, d⟩ = true := by simpa using c
    have c2 : Sx57.spanOk u n = true := by simpa using c2
    rw [List.length_map, lp]
    refine ite2 (fun c3 => ⟨one_le, out [-2] ?_⟩) fun c3 => ⟨Nat.zero_le _, out [] ?_⟩
    · unfold refusal
      rw [c, c2, if_neg (by decide), if_pos (by omega)]
    · unfold refusal
      rw [c, c2, if_neg (by decide), if_neg (by omega)]
def sp_span_of (K : PySem.W.Frag) (CB CS : Addr) : Sp := fun vs H Q _ => ∃ (b l : Addr) (st : Sx57.St) (own : List Addr) (w y m d u k : Nat) (xs : List V) (ww : Sx57.Way), vs = [.ref b, .ref l] ∧ BookIs H CB b st own ∧ SqL K H l (headL w y m d u k xs) ∧ st.ways[w]? = some ww ∧
  ∀ (H1 : Hp) (s : Addr), Same H H1 → H s = none → SpanIs H1 CS s ww u k → Q (.ref s) H1
/-- a span is made -/
theorem span_made {H1 H' : Hp} {x dx CS : Addr} {ww : Sx57.Way} {u k : Nat} (nx : H1 x = none) (ndx : H1 dx = none) (hx' : H' x = some (.ins CS dx (spanFs ww u k))) (up : Up x (upd (upd H1 dx (.own x)) x (.ins CS dx [])) H') : Same H1 H' ∧ SpanIs H' CS x ww u k :=
  ⟨fun a o h => up.1 a o (by rw [upd_ne (ne_of_none h nx), upd_ne (ne_of_none h ndx)]; exact h) (ne_of_none h nx), dx, hx'⟩
theorem ok_span_of (T : Txt K mg) : FnOk P w K mg base CX0 3 T.span_of.a T.span_of.fd ["book", "numbers"] (sp_span_of K T.Book.a T.Span.a) := by
  refine T.span_of.F.ok sc_span_of (fun vs H Q E h => ?_) (fun cdv A outer s H vs Q E hr h => ?_)
  · obtain ⟨_, _, _, _, _, _, _, _, _, _, _, _, rfl, _⟩ := h
    rfl
  · obtain ⟨b, l, st, own, i, y, m, d, u, n, xs, ww, rfl, B0, hl, hw, k⟩ := h
    refine ⟨_, (pss_one (ps_ret (pe_make T.mk_Span (ok_Span_init T) (hr.mono (by decide : 2 ≤ 2)) rfl T.Span.m T.Span_init.b .nil pass0 (pa_cons (pe_item (pe_fld (pv 0) rfl) (pe_item (pv 1) pe_int)) (pa_cons (pe_item (pv 1) pe_int) (pa_cons (pe_item (pv 1) pe_int) pa_nil)))))), ?_⟩
    obtain ⟨dx, a1, a2, a3, a4, a5, a6, ps, ws, ss, eo, B⟩ := B0
    unfold headL at hl
    have lp : ws.length = st.ways.length := by
      have := Paired.length B.wys
      rw [List.length_map] at this
      exact this
    have hi := (List.getElem?_eq_some_iff.mp hw).1
    obtain ⟨p, hp⟩ : ∃ p, ws[i]? = some p := ⟨_, List.getElem?_eq_getElem (by omega)⟩
    have ht := tups_get B.wys hp (show (st.ways.map wayI)[i]? = some (wayI ww) by rw [List.getElem?_map, hw]; rfl)
    have hq : Sq K H l _ := .inl hl
    walk_at "rd"
    refine ⟨_, dx, _, B.ob, T.Book.cl, T.na, _, rfl, _, hq, _, at0, a5, rfl, _, _, rfl, .inl (SqL.of B.wy), .ref p, atI_nat (by rw [List.getElem?_map, hp]; rfl), _, hq, _, at4, _, hq, _, at5, fun x dx2 nx ndx ne => ?_⟩
    have np : p ≠ x := ne_of_none ht nx
    have np2 : p ≠ dx2 := ne_of_none ht ndx
    refine ⟨x, dx2, p, ww, u, n, rfl, upd_same, by rw [upd_ne np, upd_ne np2]; exact ht, fun H1 hx1 u1 => ⟨rfl, ?_⟩⟩
    obtain ⟨s1, S1⟩ := span_made nx ndx hx1 u1
    exact k H1 x s1 nx S1
/-! ### last -/
def A_last (xs : List V) (c : Sx57.Call) : Prop := ∃ w y m d u k : Nat, xs = headL w y m d u k [] ∧ c = .last w ⟨y, m, d⟩ u k
theorem lastDay_far {r : Sx57.Rests} {stops : Sx57.Stops} {ww : Sx57.Way} {n u k e : Nat} (hn : n < Sx57.DAYS) (hs : Sx57.spanOk u k = true) (hw : ww.rest ≤ 3) (so : ∀ x ∈ stops, x.1 ≤ x.2 ∧ x.2 < Sx57.DAYS) (ri : stops.Pairwise fun x z => x.2 < z.1) (h : Sx57.lastDay r stops ww n u k = some e) : e < Cal.FARTHEST := by
  have hd := Cal.DAYS_eq
  unfold Cal.FARTHEST
  have hf : Sx57.firstOf ww n ≤ n + 1 := by
    unfold Sx57.firstOf
    split <;> omega
  unfold Sx57.lastDay at h
  split at h
  · rw [workEnd_pick _ _ _ _ _ (Cal.spanOk_iff.mp hs).1] at h
    have := List.mem_of_getElem? h
    unfold pick at this
    obtain ⟨k', hk', rfl⟩ := List.mem_map.mp (List.mem_filter.mp this).1
    have := List.mem_range.mp hk'
    unfold Sx57.WORK at this
    omega
  · rename_i hu
    have far := Cal.putOff_far (w := ww) hn hs hu so ri
    generalize Sx57.putOff (Sx57.firstOf ww n) (Sx57.plainEnd ww n u k) stops = q at far h
    have ld : ∀ {e}, lastD r q = some e → e ≤ q := fun {e} h => by
      unfold lastD at h
      obtain ⟨k', _, rfl⟩ := List.mem_map.mp (List.mem_of_find?_eq_some h)
      omega
    rw [settle_of r ww q hw] at h
    split at h
    · cases h
      omega
    · split at h
      · have := ld h
        omega
      · split at h
        · have := nextD_le h
          omega
        · cases en : nextD r q with
          | none =>
            rw [en] at h
            cases h
          | some z =>
            rw [en] at h
            have h : (if (dateOf z).month = (dateOf q).month ∧ (dateOf z).year = (dateOf q).year then some z else lastD r q) = some e := h
            have := nextD_le en
            split at h
            · cases h
              omega
            · have := ld h
              omega
theorem ok_last (T : Txt K mg) : FnOk P w K mg base CX0 10 T.last.a T.last.fd ["book", "numbers"] (spC K T.Book.a A_last) := by
  refine T.last.F.ok sc_last (fun vs H Q E h => ?_) (fun cdv A outer s H vs Q E hr h => ?_)
  · obtain ⟨b, l, _, _, _, _, rfl, _⟩ := h
    rfl
  · obtain ⟨b, l, xs, st, own, c, rfl, B0, O, hl, ⟨i, y, m, d, u, n, rfl, rfl⟩, k⟩ := h
    refine ⟨_, (pss_cons (ps_set (i := 2) sc_last.nd rfl (Or.inl rfl) (pe_call (ok_refused_span T) (hr.mono (by decide : 5 ≤ 9)) rfl T.refused_span.m T.refused_span.F.kp T.refused_span.b .nil pass0 (pa_cons (pv 0) (pa_cons (pv 1) pa_nil))))
      (pss_cons (ps_if (pt_cmp (pc_gt (pe_len (pv 2) rfl T.n_len) pe_int)) (pss_one (ps_ret (pv 2))) pss_nil)
      (pss_cons (ps_set (i := 3) sc_last.nd rfl (Or.inl rfl) (pe_make T.mk_Almanac (ok_Almanac_init T) (hr.mono (by decide : 2 ≤ 9)) rfl T.Almanac.m T.Almanac_init.b .nil pass0 (pa_cons (pv 0) (pa_cons (pe_fld (pv 0) rfl) pa_nil))))
      (pss_one (ps_ret (pe_call (ok_told_day T) (hr.mono (by decide : 4 ≤ 9)) rfl T.told_day.m T.told_day.F.kp T.told_day.b .nil pass0 (pa_cons (pe_call (ok_last_day T) (hr.mono (by decide : 9 ≤ 9)) rfl T.last_day.m T.last_day.F.kp T.last_day.b .nil pass0 (pa_cons (pv 3) (pa_cons (pe_call (ok_span_of T) (hr.mono (by decide : 3 ≤ 9)) rfl T.span_of.m T.span_of.F.kp T.span_of.b .nil pass0 (pa_cons (pv 0) (pa_cons (pv 1) pa_nil))) (pa_cons (pe_call (ok_day_number T) (hr.mono (by decide : 3 ≤ 9)) rfl T.day_number.m T.day_number.F.kp T.day_number.b .nil pass0 (pa_cons (pe_slice sl_list (pv 1) (po_some pe_int) (po_some pe_int)) pa_nil)) pa_nil)))) pa_nil))))))), ?_⟩
    have es : Sx57.step st (.last i ⟨y, m, d⟩ u n) = (st, if (dateOk ⟨y, m, d⟩ && Sx57.spanOk u n) = false then Sx57.ok (-1) else match st.ways[i]? with
      | none => Sx57.ok (-2)
      | some w => Sx57.told (Sx57.lastDay st.rests st.stops w (dayOf ⟨y, m, d⟩) u n)) := rfl
    walk_at "rd"
    refine ⟨b, l, st, own, i, y, m, d, u, n, [], rfl, B0, hl, fun H1 r s1 fr hr1 => ?_⟩
    dsimp only
    refine ⟨r, rfl, _, .inl (SqL.of hr1), ?_⟩
    rw [List.length_map]
    unfold refusal at hr1 ⊢
    by_cases c : (dateOk ⟨y, m, d⟩ && Sx57.spanOk u n) = false
    · rw [if_pos c] at hr1 es ⊢
      rw [es] at k
      rw [if_pos (by decide)]
      exact k.plain2 B0 s1 fr hr1
    rw [if_neg c] at hr1 es ⊢
    by_cases c2 : st.ways.length ≤ i
    · rw [if_pos c2] at hr1 ⊢
      rw [List.getElem?_eq_none c2] at es
      rw [es] at k
      rw [if_pos (by decide)]
      exact k.plain2 B0 s1 fr hr1
    rw [if_neg c2] at hr1 ⊢
    rw [if_neg (by decide)]
    obtain ⟨ww, hww⟩ : ∃ ww, st.ways[i]? = some ww := ⟨_, List.getElem?_eq_getElem (by omega)⟩
    rw [hww] at es
    rw [es] at k
    have c : (dateOk ⟨y, m, d⟩ && Sx57.spanOk u n) = true := by simpa using c
    rw [Bool.and_eq_true] at c
    obtain ⟨g1, y1⟩ := Cal.good_of c.1
    have hn : dayOf ⟨y, m, d⟩ < Sx57.DAYS := (Cal.day_lt_DAYS g1).mpr y1
    have hw := (O.wr ww (List.mem_of_getElem? hww)).1
    have B1 := B0.same s1
    have BB := B1
    obtain ⟨dx, a1, a2, a3, a4, a5, a6, ps, ws, ss, eo, B⟩ := BB
    refine ⟨_, dx, _, B.ob, T.Book.cl, T.na, _, rfl, fun x dx2 nx ndx ne => ⟨x, b, a6, dx2, rfl, upd_same, fun H2 d1 hd1 hx2 hd2 u2 => ⟨rfl, ?_⟩⟩⟩
    obtain ⟨s2, fd, A2⟩ := alm_made nx ndx hd1 hx2 hd2 u2 B1 O B.sp B.sps O.so O.rise
    have s02 := s1.trans s2
    refine ⟨b, l, st, own, i, y, m, d, u, n, [], ww, rfl, B0.same s02, s02.seq hl, hww, fun H3 sa s3 fs S3 => ⟨_, (s02.trans s3).seq hl, fun p hp => ?_⟩⟩
    rw [show cutV (headL i y m d u n []) (some 1) (some 4) = [.int y, .int m, .int d] from cut_14 _ _ _ _ _]
    have s4 : Same H3 (upd H3 p (.lst [.int y, .int m, .int d])) := Same.upd hp
    have q4 : upd H3 p (.lst [.int y, .int m, .int d]) p = some (.lst [.int y, .int m, .int d]) := upd_same
    generalize upd H3 p (.lst [.int y, .int m, .int d]) = H4 at s4 q4 ⊢
    have s24 := s3.trans s4
    refine ⟨_, y, m, d, rfl, ⟨p, rfl, .inl (SqL.of q4)⟩, g1.y, (by have : y ≤ 2999 := y1; omega), g1.m1, g1.m2, g1.d1, ?_⟩
    refine ⟨x, b, a6, d1, sa, st, st.stops, _, ww, u, n, rfl, A2.same s24, S3.same s4, hn, c.2, hw, fun H5 u5 A5 => ⟨_, rfl, fun e he => lastDay_far hn c.2 hw O.so O.rise he, fun H6 r6 s6 f6 h6 => ?_⟩⟩
    have s05 : Same H H5 := ((A2.ofs s24).trans u5).same s02 (s1.free fd)
    exact k.plain2 B0 (s05.trans s6) (s05.free f6) h6
/-! ### in_dates, are_dates, do_rise -/
def dates3 (ds : List Sx57.Date) : List V := ds.flatMap dateV
abbrev Lsts (H : Hp) : List Addr → List Sx57.Date → Prop := Paired fun a x => H a = some (.lst (dateV x))
theorem Lsts.mono {H H' : Hp} (e : ∀ a o, H a = some (.lst o) → H' a = some (.lst o)) : ∀ {as : List Addr} {ds : List Sx57.Date}, Lsts H as ds → Lsts H' as ds
  | _, _, .nil => .nil
  | _, _, .cons h t => .cons (e _ _ h) (Lsts.mono e t)
theorem dates3_length : ∀ ds : List Sx57.Date, (dates3 ds).length = 3 * ds.length
  | [] => rfl
  | x :: ds => by
    show (dateV x ++ dates3 ds).length = _
    rw [List.length_append, dates3_length ds]
    show 3 + _ = 3 * (_ + 1)
    omega
theorem cut_date : ∀ {ds : List Sx57.Date} {i : Nat} {x : Sx57.Date}, ds[i]? = some x → cutV (dates3 ds) (some (((3 * i : Nat) : Int))) (some ((3 * i : Nat) + 3 : Int)) = dateV x := by
  intro ds i x h
  obtain ⟨h1, h2⟩ := List.getElem?_eq_some_iff.mp h
  have e : ds = ds.take i ++ (x :: ds.drop (i + 1)) := by
    rw [← h2, ← List.drop_eq_getElem_cons h1, List.take_append_drop]
  have e2 : dates3 ds = dates3 (ds.take i) ++ (dateV x ++ dates3 (ds.drop (i + 1))) := by
    conv => lhs; rw [e]
    unfold dates3
    rw [List.flatMap_append, List.flatMap_cons]
  have l1 : (dates3 (ds.take i)).length = 3 * i := by
    rw [dates3_length, List.length_take, Nat.min_eq_left (by omega)]
  have l2 : (dateV x).length = 3 := rfl
  have l3 := dates3_length ds
  rw [e2] at l3 ⊢
  unfold cutV HT.sIx
  dsimp only
  rw [if_neg (by omega), if_neg (by omega)]
  have m1 : min (((3 * i : Nat) : Int)).toNat (dates3 (ds.take i) ++ (dateV x ++ dates3 (ds.drop (i + 1)))).length = (dates3 (ds.take i)).length := by
    rw [List.length_append]
    omega
  have m2 : min (((3 * i : Nat) : Int) + 3).toNat (dates3 (ds.take i) ++ (dateV x ++ dates3 (ds.drop (i + 1)))).length = (dates3 (ds.take i)).length + (dateV x).length := by
    rw [List.length_append, List.length_append]
    omega
  rw [m1, m2, show (dates3 (ds.take i)).length + (dateV x).length - (dates3 (ds.take i)).length = (dateV x).length by omega, List.drop_left, List.take_left]
theorem small3 : ∀ q : Nat, q < 21 → Builtin.Range.small 0 ((3 * q : Nat) : Int) 3 = true := by decide +kernel
def sp_in_dates (K : PySem.W.Frag) : Sp := fun vs H Q _ => ∃ (l : Addr) (ds : List Sx57.Date), vs = [.ref l] ∧ SqL K H l (dates3 ds) ∧ ds.length ≤ 20 ∧ ∀ (H1 : Hp) (r : Addr) (as : List Addr), Same H H1 → H1 r = some (.lst (as.map V.ref)) → Lsts H1 as ds → Q (.ref r) H1
theorem ok_in_dates (T : Txt K mg) : FnOk P w K mg base CX0 1 T.in_dates.a T.in_dates.fd ["row"] (sp_in_dates K) := by
  refine T.in_dates.F.ok sc_in_dates (fun vs H Q E h => ?_) (fun cdv A outer s H vs Q E hr h => ?_)
  · obtain ⟨_, _, rfl, _⟩ := h
    rfl
  · obtain ⟨l, ds, rfl, hl, hds, k⟩ := h
    refine ⟨_, (pss_one (ps_ret (pe_lc rfl sc_in_dates.nd (pi_range3 rfl T.n_range (pa_cons pe_int (pa_cons (pe_len (pv 0) rfl T.n_len) (pa_cons pe_int pa_nil)))) (blkOk_by (own := [("place", 1)]) (by show blkC ["row", "place"] (defScope s_in_dates) _ _ = true; decide +kernel)) (fun _ _ _ _ _ => (pg_name (i := 1) sc_in_dates.nd rfl (Or.inl rfl))) (fun _ _ _ _ _ => pts_nil) (fun _ _ _ _ _ => (pe_slice (sl_listK (K := K) rfl) (pv 0) (po_some (pv 1)) (po_some (pe_add (pv 1) pe_int))))))), ?_⟩
    have hl3 := dates3_length ds
    refine ⟨_, rfl, _, _, rfl, .inl hl, _, _, _, ds.length, rfl, ⟨by decide, by decide, ?_, ?_⟩, fun D hD => ?_⟩
    · rw [hl3]
      exact small3 ds.length (by omega)
    · unfold Builtin.Range.rangeSize
      rw [hl3]
      split
      · split <;> omega
      · omega
    have keep : ∀ {H3 : Hp} {o : HO}, Same H H3 → Same H (upd H3 D o) := fun s z o h => by
      rw [upd_ne (ne_of_none h hD)]
      exact s z o h
    refine lc_rangeC (fun i H' => Same H H' ∧ ∃ as : List Addr, H' D = some (.lst (as.map V.ref)) ∧ Lsts H' as (ds.take i) ∧ D ∉ as) ?_ ?_ ?_
    · exact ⟨Same.upd hD, [], upd_same, .nil, by simp⟩
    · rintro i H' hi ⟨sH, as, hDl, has, hna⟩
      refine ⟨rfl, ?_⟩
      obtain ⟨x, hx⟩ : ∃ x, ds[i]? = some x := ⟨_, List.getElem?_eq_getElem hi⟩
      have hcut := cut_date hx
      have hla : as.length = i := by
        have := Paired.length has
        rw [List.length_take, Nat.min_eq_left (by omega)] at this
        exact this
      walk_at "rd"
      refine ⟨_, sH.seq hl, fun p hp => ?_⟩
      rw [show (0 + (i : Int) * 3) = ((3 * i : Nat) : Int) by omega, hcut]
      have s1 : Same H' (upd H' p (.lst (dateV x))) := Same.upd hp
      have q1 : upd H' p (.lst (dateV x)) p = some (.lst (dateV x)) := upd_same
      generalize upd H' p (.lst (dateV x)) = H2 at s1 q1 ⊢
      have npD : p ≠ D := fun e => by
        rw [e, hDl] at hp
        cases hp
      refine ⟨_, s1 _ _ hDl, ?_, keep (sH.trans s1), as ++ [p], ?_, ?_, ?_⟩
      · rw [List.length_map, hla]
        exact Nat.lt_of_lt_of_le (show i < 20 by omega) (by decide)
      · rw [upd_same, List.map_append]
        rfl
      · have e : ds.take (i + 1) = ds.take i ++ [x] := by
          rw [List.take_succ, hx]
          rfl
        rw [e]
        have up : ∀ {a : Addr} {o : List V}, a ≠ D → H2 a = some (.lst o) → upd H2 D (.lst (as.map V.ref ++ [V.ref p])) a = some (.lst o) := fun n h => by
          rw [upd_ne n]
          exact h
        have l2 : ∀ {bs : List Addr} {es : List Sx57.Date}, Lsts H' bs es → D ∉ bs → Lsts (upd H2 D (.lst (as.map V.ref ++ [V.ref p]))) bs es := by
          intro bs es h
          induction h with
          | nil => exact fun _ => .nil
          | cons h t ih =>
            intro hn
            rw [List.mem_cons, not_or] at hn
            exact .cons (up (fun e => hn.1 e.symm) (s1 _ _ h)) (ih hn.2)
        exact (l2 has hna).snoc (up npD q1)
      · intro h
        rcases List.mem_append.mp h with h | h
        · exact hna h
        · exact npD (List.mem_singleton.mp h).symm
    · rintro H' ⟨sH, as, hDl, has, hna⟩
      rw [List.take_length] at has
      exact k H' D as sH hDl has
def sp_are_dates : Sp := fun vs H Q _ => ∃ (l : Addr) (as : List Addr) (ds : List Sx57.Date), vs = [.ref l] ∧ H l = some (.lst (as.map V.ref)) ∧ Lsts H as ds ∧ Q (.bl (ds.all dateOk)) H
theorem lsts_get {H : Hp} : ∀ {as : List Addr} {ds : List Sx57.Date} {j : Nat} {a : Addr}, Lsts H as ds → as[j]? = some a → ∃ x, ds[j]? = some x ∧ H a = some (.lst (dateV x))
  | _, _, _, _, .nil, h => by simp at h
  | _, _, 0, _, .cons (b := x) h _, e1 => by
    have e1 := Option.some.inj e1
    subst e1
    exact ⟨x, rfl, h⟩
  | _, _, j + 1, _, .cons _ t, e1 => lsts_get (j := j) t e1
theorem ok_are_dates (T : Txt K mg) : FnOk P w K mg base CX0 5 T.are_dates.a T.are_dates.fd ["dates"] sp_are_dates := by
  refine T.are_dates.F.ok sc_are_dates (fun vs H Q E h => ?_) (fun cdv A outer s H vs Q E hr h => ?_)
  · obtain ⟨_, _, _, rfl, _⟩ := h
    rfl
  · obtain ⟨l, as, ds, rfl, hl, has, k⟩ := h
    refine ⟨_, (pss_cons (ps_for PassesOwn.never rfl (pi_list (pv 0)) (pg_name (i := 1) sc_are_dates.nd rfl (Or.inl rfl))
      (pss_one (ps_if (PW.pt (pw_or (pt_cmp (pc_lt (pe_len (pv 1) rfl T.n_len) pe_int)) (pw_or1 (pt_not (pt_val (pe_call (ok_is_date T) (hr.mono (by decide : 4 ≤ 4)) rfl T.is_date.m T.is_date.F.kp T.is_date.b .nil pass0 (pa_cons (pv 1) pa_nil))))))) (pss_one (ps_ret pe_bl)) pss_nil)))
      (pss_one (ps_ret pe_bl))), ?_⟩
    refine ⟨_, rfl, l, rfl, ⟨_, SqL.of hl⟩, for_list (K := K) (a := l) (xs := as.map V.ref) (fun i σ H' => H' = H ∧ ds.all dateOk = (ds.drop i).all dateOk ∧ ∃ v, σ = [some (.ref l), v]) ⟨rfl, rfl, none, rfl⟩ (fun i σ H' _ h => by rw [h.1]; exact SqL.of hl) ?_ ?_⟩
    · rintro i x σ H' hi ⟨rfl, ea, v, rfl⟩
      obtain ⟨p, hp, rfl⟩ : ∃ p, as[i]? = some p ∧ x = V.ref p := by
        rw [List.getElem?_map] at hi
        cases q : as[i]? with
        | none => rw [q] at hi; cases hi
        | some p => rw [q] at hi; exact ⟨p, rfl, (Option.some.inj hi).symm⟩
      obtain ⟨z, hz, hpz⟩ := lsts_get has hp
      have ed : ds.drop i = z :: ds.drop (i + 1) := by
        obtain ⟨h1, h2⟩ := List.getElem?_eq_some_iff.mp hz
        rw [← h2, List.drop_eq_getElem_cons h1]
      rw [ed, List.all_cons] at ea
      have hA : Sq K H' p [.int (z.year : Nat), .int (z.month : Nat), .int (z.day : Nat)] := .inl (SqL.of hpz)
      walk_at "rd"
      refine ⟨_, hA, iteN (by show ¬ (3 : Int) < 3; decide) ⟨_, z.year, z.month, z.day, rfl, ⟨p, rfl, hA⟩, _, rfl, ite2 (fun c => ?_) fun c => ?_⟩⟩
      · have c : dateOk z = false := c
        rw [ea, c] at k
        exact k
      · have c : dateOk z = true := by
          have c : ¬ dateOk z = false := c
          simpa using c
        rw [c, Bool.true_and] at ea
        exact ⟨rfl, ea, _, rfl⟩
    · rintro σ H' ⟨rfl, ea, v, rfl⟩
      rw [List.length_map, show as.length = ds.length from Paired.length has, List.drop_length] at ea
      rw [ea] at k
      exact k
def sp_do_rise : Sp := fun vs H Q _ => ∃ (l : Addr) (ds : List Nat), vs = [.ref l] ∧ H l = some (.lst (ds.map natV)) ∧ ds.length ≤ 1000 ∧ Q (.bl (Sx57.rising ds)) H
theorem ok_do_rise (T : Txt K mg) : FnOk P w K mg base CX0 1 T.do_rise.a T.do_rise.fd ["days"] sp_do_rise := by
  refine T.do_rise.F.ok sc_do_rise (fun vs H Q E h => ?_) (fun cdv A outer s H vs Q E hr h => ?_)
  · obtain ⟨_, _, rfl, _⟩ := h
    rfl
  · obtain ⟨l, ds, rfl, hl, hn, k⟩ := h
    refine ⟨_, (pss_cons (ps_for PassesOwn.never rfl (pi_range2 rfl T.n_range (pa_cons pe_int (pa_cons (pe_len (pv 0) rfl T.n_len) pa_nil))) (pg_name (i := 1) sc_do_rise.nd rfl (Or.inl rfl))
      (pss_one (ps_if (pt_cmp (pc_le (pe_item (pv 0) (pv 1)) (pe_item (pv 0) (pe_sub (pv 1) pe_int)))) (pss_one (ps_ret pe_bl)) pss_nil)))
      (pss_one (ps_ret pe_bl))), ?_⟩
    refine ⟨_, rfl, _, _, rfl, .inl (SqL.of hl), _, _, rfl, ?_, ?_⟩
    · rw [List.length_map]
      exact ⟨by decide, by decide, by omega, by omega⟩
    rw [List.length_map]
    refine for_range (fun i σ H' => H' = H ∧ Sx57.rising ds = Sx57.rising (ds.drop i) ∧ ∃ v, σ = [some (.ref l), v]) ⟨rfl, rfl, none, rfl⟩ ?_ ?_
    · rintro i σ H' hi ⟨rfl, ea, v, rfl⟩
      have hi : i + 1 < ds.length := by omega
      obtain ⟨x, hx⟩ : ∃ x, ds[i]? = some x := ⟨_, List.getElem?_eq_getElem (by omega)⟩
      obtain ⟨z, hz⟩ : ∃ z, ds[i + 1]? = some z := ⟨_, List.getElem?_eq_getElem hi⟩
      have ed : ds.drop i = x :: ds.drop (i + 1) := by
        obtain ⟨h1, h2⟩ := List.getElem?_eq_some_iff.mp hx
        rw [← h2, List.drop_eq_getElem_cons h1]
      have ed2 : ds.drop (i + 1) = z :: ds.drop (i + 1 + 1) := by
        obtain ⟨h1, h2⟩ := List.getElem?_eq_some_iff.mp hz
        rw [← h2, List.drop_eq_getElem_cons h1]
      have er : Sx57.rising (ds.drop i) = (decide (x < z) && Sx57.rising (ds.drop (i + 1))) := by
        rw [ed, ed2]
        rfl
      rw [er] at ea
      have g1 : atI (ds.map natV) ((1 : Int) + i) = some (.int (z : Nat)) := by
        rw [show ((1 : Int) + i) = ((i + 1 : Nat) : Int) by omega]
        exact atI_nat (by rw [List.getElem?_map, hz]; rfl)
      have g2 : atI (ds.map natV) ((1 : Int) + i - 1) = some (.int (x : Nat)) := by
        rw [show ((1 : Int) + i - 1) = ((i : Nat) : Int) by omega]
        exact atI_nat (by rw [List.getElem?_map, hx]; rfl)
      walk_at "rd"
      refine ⟨_, .inl (SqL.of hl), _, g1, _, .inl (SqL.of hl), _, g2, _, rfl, _, rfl, ite2 (fun c => ?_) fun c => ⟨?_, _, rfl⟩⟩
      · rw [ea, decide_eq_false (show ¬ x < z by omega)] at k
        exact k
      · rw [ea, decide_eq_true (show x < z by omega), Bool.true_and]
    · rintro σ H' ⟨rfl, ea, v, rfl⟩
      have e1 : Sx57.rising (ds.drop ((ds.length : Int) - 1).toNat) = true := by
        cases q : ds.drop ((ds.length : Int) - 1).toNat with
        | nil => rfl
        | cons x t =>
          have := congrArg List.length q
          rw [List.length_drop, List.length_cons] at this
          have ht : t = [] := List.eq_nil_of_length_eq_zero (by omega)
          rw [ht]
          rfl
      rw [ea, e1] at k
      exact k
end
end Dc
end
section
set_option Elab.async false
set_option linter.all false
set_option maxRecDepth 100000
set_option maxHeartbeats 2000000
namespace Dc
open PySem PySem.Spec PyProof.Rows L2
open Sx57 (leap monthDays dayOf dateOf dateOk yearStart monthStart)
local macro_rules | `(tactic| walk_at "rd") => `(tactic| simp only [tRet, tSeq, wipe, tYes, gSub, rSetL, tMake, tNotN, rIn, sFld, tIfS, tAndV, tOrV, tNotV, tAnd, tOr, tNot, tB, tTest, tCmp, t2I, tAdd, tSub, tMul, tOp, rI, rI0, tUn, rU, tVar, tC, tCall, tCons, tNil, tIx, tLen, tAsg, gName, tAug, ipI, tIf, tNext, tDrop, tChain, tTup, tLst, tFld, tMeth, tIsN, tCB, tBM, tSl, rSlL, tPart, tNoPart, CDiv, cxK, L2.start, List.length_cons, List.length_nil, List.replicate, List.map_cons, List.map_nil, List.cons_append, List.nil_append, List.append_nil, List.getElem?_cons_zero, List.getElem?_cons_succ, List.set_cons_zero, List.set_cons_succ, List.cons.injEq, and_true, true_and, Option.some.injEq, exists_eq_left', exists_eq_left, V.int.injEq, V.bl.injEq, V.ref.injEq, exists_and_left, decide_eq_true_eq, Nat.reduceAdd, Nat.reduceSub, Int.reduceLT, Int.reducePow, Int.reduceNeg, Bool.not_eq_true', decide_eq_false_iff_not, Bool.false_eq_true, ↓reduceIte, Bool.not_true, Bool.not_false])
section
variable {P : Program} {w : World} {K : PySem.W.Frag} {mg : Str → Option Value} {base : Heap}
/-! ### easter -/
def A_easter (xs : List V) (c : Sx57.Call) : Prop := ∃ y : Nat, xs = [.int y] ∧ c = .easter y
theorem ok_easter_date (T : Txt K mg) : FnOk P w K mg base CX0 2 T.easter_date.a T.easter_date.fd ["book", "numbers"] (spC K T.Book.a A_easter) := by
  refine T.easter_date.F.ok sc_easter_date (fun vs H Q E h => ?_) (fun cdv A outer s H vs Q E hr h => ?_)
  · obtain ⟨b, l, _, _, _, _, rfl, _⟩ := h
    rfl
  · obtain ⟨b, l, xs, st, own, c, rfl, B0, O, hl, ⟨y, rfl, rfl⟩, k⟩ := h
    refine ⟨_, (pss_cons (ps_if (pt_not (pt_val (pe_call (ok_is_year T) (hr.mono (by decide : 1 ≤ 1)) rfl T.is_year.m T.is_year.F.kp T.is_year.b .nil pass0 (pa_cons (pe_item (pv 1) pe_int) pa_nil)))) (pss_one (ps_ret (pe_lst (pa_cons (pe_globI rfl T.g_WRONG) pa_nil)))) pss_nil)
      (pss_one (ps_ret (pe_op op_cat (pe_lst (pa_cons pe_int pa_nil)) (pe_callTy call_list_of rfl T.n_list (by rfl) (pa_cons (pe_call (ok_easter T) (hr.mono (by decide : 1 ≤ 1)) rfl T.easter.m T.easter.F.kp T.easter.b .nil pass0 (pa_cons (pe_item (pv 1) pe_int) pa_nil)) pa_nil)))))), ?_⟩
    have hq : Sq K H l [.int y] := .inl hl
    have es : Sx57.step st (.easter y) = (st, if y < 1600 ∨ 2999 < y then Sx57.ok (-1) else ⟨0, Sx57.out (dateOf (Sx57.easter y))⟩) := rfl
    walk_at "rd"
    refine ⟨_, hq, _, at0, y, rfl, _, rfl, ite2 (fun c => ?_) fun c => ?_⟩
    · rw [if_pos (show y < 1600 ∨ 2999 < y by
        rw [← Bool.decide_and] at c
        have := of_decide_eq_false c
        omega)] at es
      rw [es] at k
      exact ⟨one_le, fun r hr => k.plain B0 (Same.refl H) hr⟩
    have hy : 1600 ≤ y ∧ y ≤ 2999 := by
      rw [← Bool.decide_and] at c
      by_cases q : 1600 ≤ y ∧ y ≤ 2999
      · exact q
      · exact absurd (decide_eq_false q) c
    rw [if_neg (show ¬ (y < 1600 ∨ 2999 < y) by omega)] at es
    rw [es] at k
    have g : Cal.Good ⟨y, eaN y / 31, eaN y % 31 + 1⟩ := by
      obtain ⟨a, b⟩ := eaN_in y
      refine ⟨hy.1, (eaN_ok y).1, (eaN_ok y).2, by show 1 ≤ _ + 1; omega, ?_⟩
      show eaN y % 31 + 1 ≤ monthDays y (eaN y / 31)
      generalize eaN y = n at a b ⊢
      have : n / 31 = 3 ∨ n / 31 = 4 := by omega
      rcases this with q | q
      · rw [q]
        show n % 31 + 1 ≤ 31
        omega
      · rw [q]
        show n % 31 + 1 ≤ 30
        omega
    have ed : dateOf (Sx57.easter y) = ⟨y, eaN y / 31, eaN y % 31 + 1⟩ := by
      rw [easter_eq]
      exact Cal.dateOf_dayOf g (by show y ≤ 4000; omega)
    rw [ed] at k
    refine ⟨one_le, fun p1 hp1 => ?_⟩
    have s1 : Same H (upd H p1 (.lst [.int 0])) := Same.upd hp1
    have q1 : upd H p1 (.lst [.int 0]) p1 = some (.lst [.int 0]) := upd_same
    generalize upd H p1 (.lst [.int 0]) = H1 at s1 q1 ⊢
    refine ⟨_, .inl (s1.seq hl), _, at0, y, rfl, by omega, fun p2 hp2 => ?_⟩
    have s2 : Same H1 (upd H1 p2 (.tup [.int y, .int (eaN y / 31 : Nat), .int (eaN y % 31 + 1 : Nat)])) := Same.upd hp2
    have q2 : upd H1 p2 (.tup [.int y, .int (eaN y / 31 : Nat), .int (eaN y % 31 + 1 : Nat)]) p2 = some (.tup [.int y, .int (eaN y / 31 : Nat), .int (eaN y % 31 + 1 : Nat)]) := upd_same
    generalize upd H1 p2 (.tup [.int y, .int (eaN y / 31 : Nat), .int (eaN y % 31 + 1 : Nat)]) = H2 at s2 q2 ⊢
    refine ⟨p2, rfl, _, .inr (SqT.of q2), fun p3 hp3 => ?_⟩
    have s3 : Same H2 (upd H2 p3 (.lst [.int y, .int (eaN y / 31 : Nat), .int (eaN y % 31 + 1 : Nat)])) := Same.upd hp3
    have q3 : upd H2 p3 (.lst [.int y, .int (eaN y / 31 : Nat), .int (eaN y % 31 + 1 : Nat)]) p3 = some (.lst [.int y, .int (eaN y / 31 : Nat), .int (eaN y % 31 + 1 : Nat)]) := upd_same
    generalize upd H2 p3 (.lst [.int y, .int (eaN y / 31 : Nat), .int (eaN y % 31 + 1 : Nat)]) = H3 at s3 q3 ⊢
    exact ⟨p1, p3, _, _, rfl, rfl, s3 _ _ (s2 _ _ q1), q3, by show 4 ≤ sizeLine; decide, fun r hr => k.plain B0 ((s1.trans s2).trans s3) hr⟩
/-! ### working -/
def A_working (xs : List V) (c : Sx57.Call) : Prop := ∃ y m d z n e : Nat, xs = [.int y, .int m, .int d, .int z, .int n, .int e] ∧ c = .working ⟨y, m, d⟩ ⟨z, n, e⟩
theorem ok_working (T : Txt K mg) : FnOk P w K mg base CX0 8 T.working.a T.working.fd ["book", "numbers"] (spC K T.Book.a A_working) := by
  refine T.working.F.ok sc_working (fun vs H Q E h => ?_) (fun cdv A outer s H vs Q E hr h => ?_)
  · obtain ⟨b, l, _, _, _, _, rfl, _⟩ := h
    rfl
  · obtain ⟨b, l, xs, st, own, c, rfl, B0, O, hl, ⟨y, m, d, z, n, e, rfl, rfl⟩, k⟩ := h
    refine ⟨_, (pss_cons (ps_if (pt_not (pt_val (pe_call (ok_are_dates T) (hr.mono (by decide : 5 ≤ 7)) rfl T.are_dates.m T.are_dates.F.kp T.are_dates.b .nil pass0 (pa_cons (pe_call (ok_in_dates T) (hr.mono (by decide : 1 ≤ 7)) rfl T.in_dates.m T.in_dates.F.kp T.in_dates.b .nil pass0 (pa_cons (pv 1) pa_nil)) pa_nil)))) (pss_one (ps_ret (pe_lst (pa_cons (pe_globI rfl T.g_WRONG) pa_nil)))) pss_nil)
      (pss_cons (ps_set (i := 2) sc_working.nd rfl (Or.inl rfl) (pe_call (ok_day_number T) (hr.mono (by decide : 3 ≤ 7)) rfl T.day_number.m T.day_number.F.kp T.day_number.b .nil pass0 (pa_cons (pe_slice sl_list (pv 1) po_none (po_some pe_int)) pa_nil)))
      (pss_cons (ps_set (i := 3) sc_working.nd rfl (Or.inl rfl) (pe_call (ok_day_number T) (hr.mono (by decide : 3 ≤ 7)) rfl T.day_number.m T.day_number.F.kp T.day_number.b .nil pass0 (pa_cons (pe_slice sl_list (pv 1) (po_some pe_int) po_none) pa_nil)))
      (pss_cons (ps_if (PW.pt (pw_or (pt_cmp (pc_lt (pv 3) (pv 2))) (pw_or1 (pt_cmp (pc_gt (pe_sub (pv 3) (pv 2)) (pe_globI rfl T.g_MOST_DAYS_LATER)))))) (pss_one (ps_ret (pe_lst (pa_cons (pe_globI rfl T.g_OUT_OF_ORDER) pa_nil)))) pss_nil)
      (pss_one (ps_ret (pe_lst (pa_cons (pe_call (ok_count_working_days T) (hr.mono (by decide : 7 ≤ 7)) rfl T.count_working_days.m T.count_working_days.F.kp T.count_working_days.b .nil pass0 (pa_cons (pe_make T.mk_Almanac (ok_Almanac_init T) (hr.mono (by decide : 2 ≤ 7)) rfl T.Almanac.m T.Almanac_init.b .nil pass0 (pa_cons (pv 0) (pa_cons (pe_fld (pv 0) rfl) pa_nil))) (pa_cons (pv 2) (pa_cons (pv 3) pa_nil)))) pa_nil)))))))), ?_⟩
    have es : Sx57.step st (.working ⟨y, m, d⟩ ⟨z, n, e⟩) = (st, if (dateOk ⟨y, m, d⟩ && dateOk ⟨z, n, e⟩) = false then Sx57.ok (-1) else if dayOf ⟨z, n, e⟩ < dayOf ⟨y, m, d⟩ ∨ dayOf ⟨y, m, d⟩ + 4000 < dayOf ⟨z, n, e⟩ then Sx57.ok (-3) else Sx57.ok (Sx57.num (Sx57.working st.rests st.stops (dayOf ⟨y, m, d⟩) (dayOf ⟨z, n, e⟩)))) := rfl
    have hl3 : SqL K H l (dates3 [⟨y, m, d⟩, ⟨z, n, e⟩]) := hl
    walk_at "rd"
    refine ⟨l, [⟨y, m, d⟩, ⟨z, n, e⟩], rfl, hl3, by show 2 ≤ 20; omega, fun H1 r as s1 hr1 has => ⟨r, as, _, rfl, hr1, has, _, rfl, ?_⟩⟩
    have ea : ([⟨y, m, d⟩, ⟨z, n, e⟩] : List Sx57.Date).all dateOk = (dateOk ⟨y, m, d⟩ && dateOk ⟨z, n, e⟩) := by
      show (dateOk ⟨y, m, d⟩ && (dateOk ⟨z, n, e⟩ && true)) = _
      rw [Bool.and_true]
    rw [ea]
    refine ite2 (fun c => ?_) fun c => ?_
    · rw [if_pos c] at es
      rw [es] at k
      exact ⟨one_le, fun r hr => k.plain B0 s1 hr⟩
    rw [if_neg c] at es
    have c : (dateOk ⟨y, m, d⟩ && dateOk ⟨z, n, e⟩) = true := by simpa using c
    rw [Bool.and_eq_true] at c
    obtain ⟨g1, y1⟩ := Cal.good_of c.1
    obtain ⟨g2, y2⟩ := Cal.good_of c.2
    have hn2 : dayOf ⟨z, n, e⟩ < Sx57.DAYS := (Cal.day_lt_DAYS g2).mpr y2
    have hdd := Cal.DAYS_eq
    refine ⟨_, s1.seq hl, fun p3 e3 => ?_⟩
    rw [cut_03]
    have s3 : Same H1 (upd H1 p3 (.lst [.int y, .int m, .int d])) := Same.upd e3
    have q3 : upd H1 p3 (.lst [.int y, .int m, .int d]) p3 = some (.lst [.int y, .int m, .int d]) := upd_same
    generalize upd H1 p3 (.lst [.int y, .int m, .int d]) = H3 at s3 q3 ⊢
    have s03 := s1.trans s3
    refine ⟨_, y, m, d, rfl, ⟨p3, rfl, .inl (SqL.of q3)⟩, g1.y, (by have : y ≤ 2999 := y1; omega), g1.m1, g1.m2, g1.d1, ?_⟩
    refine ⟨_, s03.seq hl, fun p4 e4 => ?_⟩
    rw [cut_36]
    have s4 : Same H3 (upd H3 p4 (.lst [.int z, .int n, .int e])) := Same.upd e4
    have q4 : upd H3 p4 (.lst [.int z, .int n, .int e]) p4 = some (.lst [.int z, .int n, .int e]) := upd_same
    generalize upd H3 p4 (.lst [.int z, .int n, .int e]) = H4 at s4 q4 ⊢
    have s04 := s03.trans s4
    refine ⟨_, z, n, e, rfl, ⟨p4, rfl, .inl (SqL.of q4)⟩, g2.y, (by have : z ≤ 2999 := y2; omega), g2.m1, g2.m2, g2.d1, ?_⟩
    have B4 := B0.same s04
    have BB := B4
    obtain ⟨dx, a1, a2, a3, a4, a5, a6, ps, ws, ss, eo, B⟩ := BB
    refine ⟨_, rfl, _, rfl, ite2 (fun c3 => ⟨one_le, fun r hr => ?_⟩) fun c3 => ⟨_, rfl, _, rfl, ite2 (fun c4 => ⟨one_le, fun r hr => ?_⟩) fun c4 => ⟨_, dx, _, B.ob, T.Book.cl, T.na, _, rfl, fun x dx2 nx ndx ne => ⟨x, b, a6, dx2, rfl, upd_same, fun H5 d1 hd1 hx2 hd2 u2 => ⟨rfl, ?_⟩⟩⟩⟩⟩
    · rw [if_pos (.inl (by omega))] at es
      rw [es] at k
      exact k.plain B0 s04 hr
    · rw [if_pos (.inr (by omega))] at es
      rw [es] at k
      exact k.plain B0 s04 hr
    rw [if_neg (by omega)] at es
    rw [es] at k
    obtain ⟨s5, fd, A5⟩ := alm_made nx ndx hd1 hx2 hd2 u2 B4 O B.sp B.sps O.so O.rise
    refine ⟨x, b, a6, d1, st, st.stops, _, _, rfl, A5, by omega, by omega, fun H6 u6 A6 => ⟨one_le, fun r hr => ?_⟩⟩
    exact k.plain B0 (u6.same (s04.trans s5) (s04.free fd)) hr
/-! ### between -/
def A_between (xs : List V) (c : Sx57.Call) : Prop := ∃ w y m d z n e : Nat, xs = [.int w, .int y, .int m, .int d, .int z, .int n, .int e] ∧ c = .between w ⟨y, m, d⟩ ⟨z, n, e⟩
theorem cut_47 (a b c d e f g : V) : cutV [a, b, c, d, e, f, g] (some 4) none = [e, f, g] := rfl
theorem ok_between (T : Txt K mg) : FnOk P w K mg base CX0 6 T.between.a T.between.fd ["book", "numbers"] (spC K T.Book.a A_between) := by
  refine T.between.F.ok sc_between (fun vs H Q E h => ?_) (fun cdv A outer s H vs Q E hr h => ?_)
  · obtain ⟨b, l, _, _, _, _, rfl, _⟩ := h
    rfl
  · obtain ⟨b, l, xs, st, own, c, rfl, B0, O, hl, ⟨i, y, m, d, z, n, e, rfl, rfl⟩, k⟩ := h
    refine ⟨_, (pss_cons (ps_if (pt_not (pt_val (pe_call (ok_are_dates T) (hr.mono (by decide : 5 ≤ 5)) rfl T.are_dates.m T.are_dates.F.kp T.are_dates.b .nil pass0 (pa_cons (pe_call (ok_in_dates T) (hr.mono (by decide : 1 ≤ 5)) rfl T.in_dates.m T.in_dates.F.kp T.in_dates.b .nil pass0 (pa_cons (pe_slice sl_list (pv 1) (po_some pe_int) po_none) pa_nil)) pa_nil)))) (pss_one (ps_ret (pe_lst (pa_cons (pe_globI rfl T.g_WRONG) pa_nil)))) pss_nil)
      (pss_cons (ps_if (pt_cmp (pc_ge (pe_item (pv 1) pe_int) (pe_len (pe_fld (pv 0) rfl) rfl T.n_len))) (pss_one (ps_ret (pe_lst (pa_cons (pe_globI rfl T.g_NO_WAY) pa_nil)))) pss_nil)
      (pss_cons (ps_set (i := 2) sc_between.nd rfl (Or.inl rfl) (pe_call (ok_day_number T) (hr.mono (by decide : 3 ≤ 5)) rfl T.day_number.m T.day_number.F.kp T.day_number.b .nil pass0 (pa_cons (pe_slice sl_list (pv 1) (po_some pe_int) (po_some pe_int)) pa_nil)))
      (pss_cons (ps_set (i := 3) sc_between.nd rfl (Or.inl rfl) (pe_call (ok_day_number T) (hr.mono (by decide : 3 ≤ 5)) rfl T.day_number.m T.day_number.F.kp T.day_number.b .nil pass0 (pa_cons (pe_slice sl_list (pv 1) (po_some pe_int) po_none) pa_nil)))
      (pss_cons (ps_if (pt_cmp (pc_lt (pv 3) (pv 2))) (pss_one (ps_ret (pe_lst (pa_cons (pe_globI rfl T.g_OUT_OF_ORDER) pa_nil)))) pss_nil)
      (pss_cons (ps_set (i := 4) sc_between.nd rfl (Or.inl rfl) (pe_item (pe_item (pe_fld (pv 0) rfl) (pe_item (pv 1) pe_int)) pe_int))
      (pss_cons (ps_set (i := 5) sc_between.nd rfl (Or.inl rfl) (pe_call (ok_whole_months T) (hr.mono (by decide : 5 ≤ 5)) rfl T.whole_months.m T.whole_months.F.kp T.whole_months.b .nil pass0 (pa_cons (pv 2) (pa_cons (pv 3) (pa_cons (pv 4) pa_nil)))))
      (pss_cons (ps_set (i := 6) sc_between.nd rfl (Or.inl rfl) (pe_sub (pv 3) (pe_call (ok_months_behind T) (hr.mono (by decide : 4 ≤ 5)) rfl T.months_behind.m T.months_behind.F.kp T.months_behind.b .nil pass0 (pa_cons (pv 2) (pa_cons (pv 5) (pa_cons (pv 4) pa_nil))))))
      (pss_one (ps_ret (pe_lst (pa_cons (pe_op op_fdiv (pv 5) (pe_globI rfl T.g_MONTHS_OF_YEAR)) (pa_cons (pe_op op_mod (pv 5) (pe_globI rfl T.g_MONTHS_OF_YEAR)) (pa_cons (pv 6) (pa_cons (pe_sub (pv 3) (pv 2)) pa_nil))))))))))))))), ?_⟩
    have es : Sx57.step st (.between i ⟨y, m, d⟩ ⟨z, n, e⟩) = (st, if (dateOk ⟨y, m, d⟩ && dateOk ⟨z, n, e⟩) = false then Sx57.ok (-1) else match st.ways[i]? with
      | none => Sx57.ok (-2)
      | some w => if dayOf ⟨z, n, e⟩ < dayOf ⟨y, m, d⟩ then Sx57.ok (-3) else
        let b := Sx57.between w (dayOf ⟨y, m, d⟩) (dayOf ⟨z, n, e⟩)
        ⟨Sx57.num b.1, [Sx57.num b.2.1, Sx57.num b.2.2, Sx57.num (dayOf ⟨z, n, e⟩ - dayOf ⟨y, m, d⟩)]⟩) := rfl
    walk_at "rd"
    refine ⟨_, hl, fun p1 hp1 => ?_⟩
    rw [cut_tail]
    have s1 : Same H (upd H p1 (.lst [.int y, .int m, .int d, .int z, .int n, .int e])) := Same.upd hp1
    have q1 : upd H p1 (.lst [.int y, .int m, .int d, .int z, .int n, .int e]) p1 = some (.lst [.int y, .int m, .int d, .int z, .int n, .int e]) := upd_same
    generalize upd H p1 (.lst [.int y, .int m, .int d, .int z, .int n, .int e]) = H1 at s1 q1 ⊢
    have hl3 : SqL K H1 p1 (dates3 [⟨y, m, d⟩, ⟨z, n, e⟩]) := SqL.of q1
    refine ⟨p1, [⟨y, m, d⟩, ⟨z, n, e⟩], rfl, hl3, by show 2 ≤ 20; omega, fun H2 r as s2 hr2 has => ⟨r, as, _, rfl, hr2, has, _, rfl, ?_⟩⟩
    have s02 := s1.trans s2
    have ea : ([⟨y, m, d⟩, ⟨z, n, e⟩] : List Sx57.Date).all dateOk = (dateOk ⟨y, m, d⟩ && dateOk ⟨z, n, e⟩) := by
      show (dateOk ⟨y, m, d⟩ && (dateOk ⟨z, n, e⟩ && true)) = _
      rw [Bool.and_true]
    rw [ea]
    refine ite2 (fun c => ?_) fun c => ?_
    · rw [if_pos c] at es
      rw [es] at k
      exact ⟨one_le, fun r hr => k.plain B0 s02 hr⟩
    rw [if_neg c] at es
    have c : (dateOk ⟨y, m, d⟩ && dateOk ⟨z, n, e⟩) = true := by simpa using c
    rw [Bool.and_eq_true] at c
    obtain ⟨g1, y1⟩ := Cal.good_of c.1
    obtain ⟨g2, y2⟩ := Cal.good_of c.2
    have hn2 : dayOf ⟨z, n, e⟩ < Sx57.DAYS := (Cal.day_lt_DAYS g2).mpr y2
    have hdd := Cal.DAYS_eq
    have B2 := B0.same s02
    have BB := B2
    obtain ⟨dx, a1, a2, a3, a4, a5, a6, ps, ws, ss, eo, B⟩ := BB
    have lp : ws.length = st.ways.length := by
      have := Paired.length B.wys
      rw [List.length_map] at this
      exact this
    refine ⟨_, .inl (s02.seq hl), _, at0, _, dx, _, B.ob, T.Book.cl, T.na, _, rfl, a5, rfl, _, .inl (SqL.of B.wy), _, rfl, ?_⟩
    rw [List.length_map, lp]
    refine ite2 (fun c3 => ⟨one_le, fun r hr => ?_⟩) fun c3 => ?_
    · rw [List.getElem?_eq_none (by omega)] at es
      rw [es] at k
      exact k.plain B0 s02 hr
    obtain ⟨ww, hww⟩ : ∃ ww, st.ways[i]? = some ww := ⟨_, List.getElem?_eq_getElem (by omega)⟩
    rw [hww] at es
    have es : Sx57.step st (.between i ⟨y, m, d⟩ ⟨z, n, e⟩) = (st, if dayOf ⟨z, n, e⟩ < dayOf ⟨y, m, d⟩ then Sx57.ok (-3) else ⟨Sx57.num (Sx57.between ww (dayOf ⟨y, m, d⟩) (dayOf ⟨z, n, e⟩)).1, [Sx57.num (Sx57.between ww (dayOf ⟨y, m, d⟩) (dayOf ⟨z, n, e⟩)).2.1, Sx57.num (Sx57.between ww (dayOf ⟨y, m, d⟩) (dayOf ⟨z, n, e⟩)).2.2, Sx57.num (dayOf ⟨z, n, e⟩ - dayOf ⟨y, m, d⟩)]⟩) := es
    obtain ⟨p, hp⟩ : ∃ p, ws[i]? = some p := ⟨_, List.getElem?_eq_getElem (by omega)⟩
    have ht := tups_get B.wys hp (show (st.ways.map wayI)[i]? = some (wayI ww) by rw [List.getElem?_map, hww]; rfl)
    refine ⟨_, s02.seq hl, fun p3 e3 => ?_⟩
    rw [cut_14]
    have s3 : Same H2 (upd H2 p3 (.lst [.int y, .int m, .int d])) := Same.upd e3
    have q3 : upd H2 p3 (.lst [.int y, .int m, .int d]) p3 = some (.lst [.int y, .int m, .int d]) := upd_same
    generalize upd H2 p3 (.lst [.int y, .int m, .int d]) = H3 at s3 q3 ⊢
    have s03 := s02.trans s3
    refine ⟨_, y, m, d, rfl, ⟨p3, rfl, .inl (SqL.of q3)⟩, g1.y, (by have : y ≤ 2999 := y1; omega), g1.m1, g1.m2, g1.d1, ?_⟩
    refine ⟨_, s03.seq hl, fun p4 e4 => ?_⟩
    rw [cut_47]
    have s4 : Same H3 (upd H3 p4 (.lst [.int z, .int n, .int e])) := Same.upd e4
    have q4 : upd H3 p4 (.lst [.int z, .int n, .int e]) p4 = some (.lst [.int z, .int n, .int e]) := upd_same
    generalize upd H3 p4 (.lst [.int z, .int n, .int e]) = H4 at s4 q4 ⊢
    have s04 := s03.trans s4
    have s24 := s3.trans s4
    refine ⟨_, z, n, e, rfl, ⟨p4, rfl, .inl (SqL.of q4)⟩, g2.y, (by have : z ≤ 2999 := y2; omega), g2.m1, g2.m2, g2.d1, ?_⟩
    have B4 := B.same s24
    refine ⟨_, rfl, _, rfl, ite2 (fun c4 => ⟨one_le, fun r hr => ?_⟩) fun c4 => ⟨_, dx, _, B4.ob, T.Book.cl, T.na, _, rfl, _, .inl (s04.seq hl), _, at0, a5, rfl, _, _, rfl, .inl (SqL.of B4.wy), .ref p, atI_nat (by rw [List.getElem?_map, hp]; rfl), p, rfl, _, .inr (SqT.of (s24 _ _ ht)), _, at2, _, _, ww, rfl, by omega, hn2, fun H5 q s5 h1 h2 hk => ⟨_, q, ww, rfl, by unfold Cal.FARTHEST; omega, hk, fun H6 s6 => ?_⟩⟩⟩
    · rw [if_pos (by omega)] at es
      rw [es] at k
      exact k.plain B0 s04 hr
    rw [if_neg (by omega)] at es
    have hb := Cal.between_eq hn2 (show dayOf ⟨y, m, d⟩ ≤ dayOf ⟨z, n, e⟩ by omega) h1 h2
    rw [hb] at es
    rw [es] at k
    have s06 := (s04.trans s5).trans s6
    refine ⟨_, rfl, _, rfl, ?_⟩
    refine ⟨_, rfl, _, rfl, _, rfl, _, rfl, by show 4 ≤ sizeLine; decide, fun r hr => ?_⟩
    rw [show ((q : Int) / 12) = ((q / 12 : Nat) : Int) by omega, show ((q : Int) % 12) = ((q % 12 : Nat) : Int) by omega, show ((dayOf ⟨z, n, e⟩ : Nat) : Int) - ((Sx57.later ww (dayOf ⟨y, m, d⟩) q : Nat) : Int) = ((dayOf ⟨z, n, e⟩ - Sx57.later ww (dayOf ⟨y, m, d⟩) q : Nat) : Int) by omega, show ((dayOf ⟨z, n, e⟩ : Nat) : Int) - ((dayOf ⟨y, m, d⟩ : Nat) : Int) = ((dayOf ⟨z, n, e⟩ - dayOf ⟨y, m, d⟩ : Nat) : Int) by omega]
    exact k.plain B0 s06 hr
/-! ### latest -/
def A_latest (xs : List V) (c : Sx57.Call) : Prop := ∃ w y m d u k : Nat, xs = headL w y m d u k [] ∧ c = .latest w ⟨y, m, d⟩ u k
theorem latest_far {r : Sx57.Rests} {ww : Sx57.Way} {n u k e : Nat} (h : Sx57.latest r ww n u k = some e) : e ≤ n := by
  rw [latest_of] at h
  obtain ⟨j, _, rfl⟩ := List.mem_map.mp (List.mem_of_find?_eq_some h)
  omega
theorem ok_latest (T : Txt K mg) : FnOk P w K mg base CX0 11 T.latest.a T.latest.fd ["book", "numbers"] (spC K T.Book.a A_latest) := by
  refine T.latest.F.ok sc_latest (fun vs H Q E h => ?_) (fun cdv A outer s H vs Q E hr h => ?_)
  · obtain ⟨b, l, _, _, _, _, rfl, _⟩ := h
    rfl
  · obtain ⟨b, l, xs, st, own, c, rfl, B0, O, hl, ⟨i, y, m, d, u, n, rfl, rfl⟩, k⟩ := h
    refine ⟨_, (pss_cons (ps_if (pt_cmp (pc_eqI (pe_item (pv 1) pe_int) (pe_globI rfl T.g_WORKING_DAYS))) (pss_one (ps_ret (pe_lst (pa_cons (pe_globI rfl T.g_WRONG) pa_nil)))) pss_nil)
      (pss_cons (ps_set (i := 2) sc_latest.nd rfl (Or.inl rfl) (pe_call (ok_refused_span T) (hr.mono (by decide : 5 ≤ 10)) rfl T.refused_span.m T.refused_span.F.kp T.refused_span.b .nil pass0 (pa_cons (pv 0) (pa_cons (pv 1) pa_nil))))
      (pss_cons (ps_if (pt_cmp (pc_gt (pe_len (pv 2) rfl T.n_len) pe_int)) (pss_one (ps_ret (pv 2))) pss_nil)
      (pss_cons (ps_set (i := 3) sc_latest.nd rfl (Or.inl rfl) (pe_make T.mk_Almanac (ok_Almanac_init T) (hr.mono (by decide : 2 ≤ 10)) rfl T.Almanac.m T.Almanac_init.b .nil pass0 (pa_cons (pv 0) (pa_cons (pe_lst pa_nil) pa_nil))))
      (pss_one (ps_ret (pe_call (ok_told_day T) (hr.mono (by decide : 4 ≤ 10)) rfl T.told_day.m T.told_day.F.kp T.told_day.b .nil pass0 (pa_cons (pe_call (ok_latest_event T) (hr.mono (by decide : 10 ≤ 10)) rfl T.latest_event.m T.latest_event.F.kp T.latest_event.b .nil pass0 (pa_cons (pv 3) (pa_cons (pe_call (ok_span_of T) (hr.mono (by decide : 3 ≤ 10)) rfl T.span_of.m T.span_of.F.kp T.span_of.b .nil pass0 (pa_cons (pv 0) (pa_cons (pv 1) pa_nil))) (pa_cons (pe_call (ok_day_number T) (hr.mono (by decide : 3 ≤ 10)) rfl T.day_number.m T.day_number.F.kp T.day_number.b .nil pass0 (pa_cons (pe_slice sl_list (pv 1) (po_some pe_int) (po_some pe_int)) pa_nil)) pa_nil)))) pa_nil)))))))), ?_⟩
    have es : Sx57.step st (.latest i ⟨y, m, d⟩ u n) = (st, if (dateOk ⟨y, m, d⟩ && (Sx57.spanOk u n && u != 4)) = false then Sx57.ok (-1) else match st.ways[i]? with
      | none => Sx57.ok (-2)
      | some w => Sx57.told (Sx57.latest st.rests w (dayOf ⟨y, m, d⟩) u n)) := rfl
    have hh : Sq K H l [.int i, .int y, .int m, .int d, .int u, .int n] := .inl hl
    walk_at "rd"
    refine ⟨_, hh, _, at4, _, rfl, ite2 (fun c4 => ?_) fun c4 => ⟨b, l, st, own, i, y, m, d, u, n, [], rfl, B0, hl, fun H1 r s1 fr hr1 => ?_⟩⟩
    · have e4 : u = 4 := by omega
      rw [if_pos (by rw [e4]; show (_ && (_ && false)) = false; rw [Bool.and_false, Bool.and_false])] at es
      rw [es] at k
      exact ⟨one_le, fun r hr => k.plain B0 (Same.refl H) hr⟩
    have u4 : (u != 4) = true := by
      have : u ≠ 4 := by omega
      simpa using this
    rw [u4, Bool.and_true] at es
    dsimp only
    refine ⟨r, rfl, _, .inl (SqL.of hr1), ?_⟩
    rw [List.length_map]
    unfold refusal at hr1 ⊢
    by_cases c : (dateOk ⟨y, m, d⟩ && Sx57.spanOk u n) = false
    · rw [if_pos c] at hr1 es ⊢
      rw [es] at k
      rw [if_pos (by decide)]
      exact k.plain2 B0 s1 fr hr1
    rw [if_neg c] at hr1 es ⊢
    by_cases c2 : st.ways.length ≤ i
    · rw [if_pos c2] at hr1 ⊢
      rw [List.getElem?_eq_none c2] at es
      rw [es] at k
      rw [if_pos (by decide)]
      exact k.plain2 B0 s1 fr hr1
    rw [if_neg c2] at hr1 ⊢
    rw [if_neg (by decide)]
    obtain ⟨ww, hww⟩ : ∃ ww, st.ways[i]? = some ww := ⟨_, List.getElem?_eq_getElem (by omega)⟩
    rw [hww] at es
    rw [es] at k
    have c : (dateOk ⟨y, m, d⟩ && Sx57.spanOk u n) = true := by simpa using c
    rw [Bool.and_eq_true] at c
    obtain ⟨g1, y1⟩ := Cal.good_of c.1
    have hn : dayOf ⟨y, m, d⟩ < Sx57.DAYS := (Cal.day_lt_DAYS g1).mpr y1
    have hdd := Cal.DAYS_eq
    have hw := (O.wr ww (List.mem_of_getElem? hww)).1
    have B1 := B0.same s1
    have BB := B1
    obtain ⟨dx, a1, a2, a3, a4, a5, a6, ps, ws, ss, eo, B⟩ := BB
    refine ⟨Nat.zero_le _, fun pe hpe x dx2 nx ndx ne => ?_⟩
    have s2 : Same H1 (upd H1 pe (.lst [])) := Same.upd hpe
    have qe : upd H1 pe (.lst []) pe = some (.lst (([] : List Addr).map V.ref)) := upd_same
    generalize upd H1 pe (.lst []) = H2 at s2 qe nx ndx ⊢
    have s02 := s1.trans s2
    refine ⟨x, b, pe, dx2, rfl, upd_same, fun H3 d1 hd1 hx2 hd2 u2 => ⟨rfl, ?_⟩⟩
    obtain ⟨s3, fd, A3⟩ := alm_made (stops := []) nx ndx hd1 hx2 hd2 u2 (B0.same s02) O qe .nil (fun x h => by cases h) .nil
    have s03 := s02.trans s3
    refine ⟨b, l, st, own, i, y, m, d, u, n, [], ww, rfl, B0.same s03, s03.seq hl, hww, fun H4 sa s4 fs S4 => ⟨_, (s03.trans s4).seq hl, fun p hp => ?_⟩⟩
    rw [show cutV (headL i y m d u n []) (some 1) (some 4) = [.int y, .int m, .int d] from cut_14 _ _ _ _ _]
    have s5 : Same H4 (upd H4 p (.lst [.int y, .int m, .int d])) := Same.upd hp
    have q5 : upd H4 p (.lst [.int y, .int m, .int d]) p = some (.lst [.int y, .int m, .int d]) := upd_same
    generalize upd H4 p (.lst [.int y, .int m, .int d]) = H5 at s5 q5 ⊢
    have s35 := s4.trans s5
    refine ⟨_, y, m, d, rfl, ⟨p, rfl, .inl (SqL.of q5)⟩, g1.y, (by have : y ≤ 2999 := y1; omega), g1.m1, g1.m2, g1.d1, ?_⟩
    refine ⟨x, b, pe, d1, sa, st, _, ww, u, n, rfl, A3.same s35, S4.same s5, hn, c.2, by omega, hw, fun H6 u6 A6 => ⟨_, rfl, fun e he => ?_, fun H7 r7 s7 f7 h7 => ?_⟩⟩
    · have := latest_far he
      unfold Cal.FARTHEST
      omega
    have s06 : Same H H6 := ((A3.ofs s35).trans u6).same s03 (s02.free fd)
    exact k.plain2 B0 (s06.trans s7) (s06.free f7) h7
/-! ### anew -/
def A_anew (xs : List V) (c : Sx57.Call) : Prop := ∃ (w y m d u k : Nat) (z : Int) (ds : List Sx57.Date), xs = headL w y m d u k (.int z :: dates3 ds) ∧ ds.length ≤ 20 ∧ c = .anew w ⟨y, m, d⟩ u k ds
theorem anew_far {r : Sx57.Rests} {stops : Sx57.Stops} {ww : Sx57.Way} {u k : Nat} (hs : Sx57.spanOk u k = true) (hw : ww.rest ≤ 3) (so : ∀ x ∈ stops, x.1 ≤ x.2 ∧ x.2 < Sx57.DAYS) (ri : stops.Pairwise fun x z => x.2 < z.1) : ∀ (l : List Nat) (n e : Nat), n < Sx57.DAYS → (∀ x ∈ l, x < Sx57.DAYS) → Sx57.anew r stops ww u k n l = some e → e < Cal.FARTHEST
  | [], n, e, hn, _, h => lastDay_far hn hs hw so ri h
  | x :: l, n, e, hn, hl, h => by
    have hx := hl x (List.mem_cons_self ..)
    have hl2 : ∀ z ∈ l, z < Sx57.DAYS := fun z hz => hl z (List.mem_cons_of_mem _ hz)
    have h : (match Sx57.lastDay r stops ww n u k with
      | none => if n ≤ x then Sx57.anew r stops ww u k x l else Sx57.anew r stops ww u k n l
      | some e => if n ≤ x ∧ x ≤ e then Sx57.anew r stops ww u k x l else Sx57.anew r stops ww u k n l) = some e := h
    cases q : Sx57.lastDay r stops ww n u k with
    | none =>
      rw [q] at h
      dsimp only at h
      split at h
      · exact anew_far hs hw so ri l x e hx hl2 h
      · exact anew_far hs hw so ri l n e hn hl2 h
    | some e2 =>
      rw [q] at h
      dsimp only at h
      split at h
      · exact anew_far hs hw so ri l x e hx hl2 h
      · exact anew_far hs hw so ri l n e hn hl2 h
theorem ok_anew (T : Txt K mg) : FnOk P w K mg base CX0 11 T.anew.a T.anew.fd ["book", "numbers"] (spC K T.Book.a A_anew) := by
  refine T.anew.F.ok sc_anew (fun vs H Q E h => ?_) (fun cdv A outer s H vs Q E hr h => ?_)
  · obtain ⟨b, l, _, _, _, _, rfl, _⟩ := h
    rfl
  · obtain ⟨b, l, xs, st, own, c, rfl, B0, O, hl, ⟨i, y, m, d, u, n, z, ds, rfl, hds, rfl⟩, k⟩ := h
    refine ⟨_, (pss_cons (ps_set (i := 2) sc_anew.nd rfl (Or.inl rfl) (pe_call (ok_in_dates T) (hr.mono (by decide : 1 ≤ 10)) rfl T.in_dates.m T.in_dates.F.kp T.in_dates.b .nil pass0 (pa_cons (pe_slice sl_list (pv 1) (po_some pe_int) po_none) pa_nil)))
      (pss_cons (ps_if (pt_not (pt_val (pe_call (ok_are_dates T) (hr.mono (by decide : 5 ≤ 10)) rfl T.are_dates.m T.are_dates.F.kp T.are_dates.b .nil pass0 (pa_cons (pv 2) pa_nil)))) (pss_one (ps_ret (pe_lst (pa_cons (pe_globI rfl T.g_WRONG) pa_nil)))) pss_nil)
      (pss_cons (ps_set (i := 3) sc_anew.nd rfl (Or.inl rfl) (pe_call (ok_refused_span T) (hr.mono (by decide : 5 ≤ 10)) rfl T.refused_span.m T.refused_span.F.kp T.refused_span.b .nil pass0 (pa_cons (pv 0) (pa_cons (pv 1) pa_nil))))
      (pss_cons (ps_if (pt_cmp (pc_gt (pe_len (pv 3) rfl T.n_len) pe_int)) (pss_one (ps_ret (pv 3))) pss_nil)
      (pss_cons (ps_setLc (i := 4) rfl sc_anew.nd rfl rfl (sw_true rfl rfl rfl (by decide +kernel)) (pi_list (pv 2)) (blkOk_by (own := [("date", 6)]) (by show blkC ["book", "numbers", "dates", "refused", "days", "almanac", "date"] (defScope s_anew) _ _ = true; decide +kernel)) (fun _ _ _ _ _ => (pg_name (i := 6) sc_anew.nd rfl (Or.inl rfl))) (fun _ _ _ _ _ => pts_nil) (fun _ _ _ _ _ => (pe_call (ok_day_number T) (hr.mono (by decide : 3 ≤ 10)) rfl T.day_number.m T.day_number.F.kp T.day_number.b .nil pass0 (pa_cons (pv 6) pa_nil))))
      (pss_cons (ps_if (pt_not (pt_val (pe_call (ok_do_rise T) (hr.mono (by decide : 1 ≤ 10)) rfl T.do_rise.m T.do_rise.F.kp T.do_rise.b .nil pass0 (pa_cons (pv 4) pa_nil)))) (pss_one (ps_ret (pe_lst (pa_cons (pe_globI rfl T.g_OUT_OF_ORDER) pa_nil)))) pss_nil)
      (pss_cons (ps_set (i := 5) sc_anew.nd rfl (Or.inl rfl) (pe_make T.mk_Almanac (ok_Almanac_init T) (hr.mono (by decide : 2 ≤ 10)) rfl T.Almanac.m T.Almanac_init.b .nil pass0 (pa_cons (pv 0) (pa_cons (pe_fld (pv 0) rfl) pa_nil))))
      (pss_one (ps_ret (pe_call (ok_told_day T) (hr.mono (by decide : 4 ≤ 10)) rfl T.told_day.m T.told_day.F.kp T.told_day.b .nil pass0 (pa_cons (pe_call (ok_last_day_anew T) (hr.mono (by decide : 10 ≤ 10)) rfl T.last_day_anew.m T.last_day_anew.F.kp T.last_day_anew.b .nil pass0 (pa_cons (pv 5) (pa_cons (pe_call (ok_span_of T) (hr.mono (by decide : 3 ≤ 10)) rfl T.span_of.m T.span_of.F.kp T.span_of.b .nil pass0 (pa_cons (pv 0) (pa_cons (pv 1) pa_nil))) (pa_cons (pe_call (ok_day_number T) (hr.mono (by decide : 3 ≤ 10)) rfl T.day_number.m T.day_number.F.kp T.day_number.b .nil pass0 (pa_cons (pe_slice sl_list (pv 1) (po_some pe_int) (po_some pe_int)) pa_nil)) (pa_cons (pv 4) pa_nil))))) pa_nil))))))))))), ?_⟩
    have es : Sx57.step st (.anew i ⟨y, m, d⟩ u n ds) = (st, if (dateOk ⟨y, m, d⟩ && (Sx57.spanOk u n && ds.all dateOk)) = false then Sx57.ok (-1) else match st.ways[i]? with
      | none => Sx57.ok (-2)
      | some w => if Sx57.rising (ds.map dayOf) = false then Sx57.ok (-3) else Sx57.told (Sx57.anew st.rests st.stops w u n (dayOf ⟨y, m, d⟩) (ds.map dayOf))) := rfl
    refine ⟨_, rfl, _, rfl, _, _, rfl, hl, fun p1 hp1 => ?_⟩
    rw [show cutV (headL i y m d u n (.int z :: dates3 ds)) (some 7) none = dates3 ds from cut_7 _ _ _ _ _ _ _ _]
    have s1 : Same H (upd H p1 (.lst (dates3 ds))) := Same.upd hp1
    have q1 : upd H p1 (.lst (dates3 ds)) p1 = some (.lst (dates3 ds)) := upd_same
    generalize upd H p1 (.lst (dates3 ds)) = H1 at s1 q1 ⊢
    refine ⟨p1, ds, rfl, SqL.of q1, hds, fun H2 rr as s2 hr2 has => ?_⟩
    have s02 := s1.trans s2
    dsimp only [gName, List.set, L2.start]
    refine ⟨_, rfl, rr, as, ds, rfl, hr2, has, _, rfl, ?_⟩
    cases eall : ds.all dateOk with
    | false =>
      rw [eall, Bool.and_false, Bool.and_false, if_pos rfl] at es
      rw [es] at k
      exact iteT ⟨one_le, fun r hr => k.plain B0 s02 hr⟩
    | true =>
      rw [eall, Bool.and_true] at es
      refine iteF (nx_to ?_)
      walk_at "rd"
      refine ⟨b, l, st, own, i, y, m, d, u, n, _, rfl, B0.same s02, s02.seq hl, fun H3 r s3 fr hr3 => ?_⟩
      have s03 := s02.trans s3
      have fr0 := s02.free fr
      dsimp only
      refine ⟨r, rfl, _, .inl (SqL.of hr3), ?_⟩
      rw [List.length_map]
      unfold refusal at hr3 ⊢
      by_cases c : (dateOk ⟨y, m, d⟩ && Sx57.spanOk u n) = false
      · rw [if_pos c] at hr3 es ⊢
        rw [es] at k
        rw [if_pos (by decide)]
        exact k.plain2 B0 s03 fr0 hr3
      rw [if_neg c] at hr3 es ⊢
      by_cases c2 : st.ways.length ≤ i
      · rw [if_pos c2] at hr3 ⊢
        rw [List.getElem?_eq_none c2] at es
        rw [es] at k
        rw [if_pos (by decide)]
        exact k.plain2 B0 s03 fr0 hr3
      rw [if_neg c2] at hr3 ⊢
      rw [if_neg (by decide)]
      obtain ⟨ww, hww⟩ : ∃ ww, st.ways[i]? = some ww := ⟨_, List.getElem?_eq_getElem (by omega)⟩
      rw [hww] at es
      have es : Sx57.step st (.anew i ⟨y, m, d⟩ u n ds) = (st, if Sx57.rising (ds.map dayOf) = false then Sx57.ok (-3) else Sx57.told (Sx57.anew st.rests st.stops ww u n (dayOf ⟨y, m, d⟩) (ds.map dayOf))) := es
      have c : (dateOk ⟨y, m, d⟩ && Sx57.spanOk u n) = true := by simpa using c
      rw [Bool.and_eq_true] at c
      obtain ⟨g1, y1⟩ := Cal.good_of c.1
      have hn : dayOf ⟨y, m, d⟩ < Sx57.DAYS := (Cal.day_lt_DAYS g1).mpr y1
      have hw := (O.wr ww (List.mem_of_getElem? hww)).1
      have hgood : ∀ x ∈ ds, Cal.Good x ∧ x.year ≤ 2999 := fun x hx => Cal.good_of (List.all_eq_true.mp eall x hx)
      have has3 : Lsts H3 as ds := has.mono fun a o h => s3 _ _ h
      have hr23 := s3 _ _ hr2
      refine ⟨_, rfl, rr, rfl, ⟨_, SqL.of hr23⟩, fun D hD => ?_⟩
      have keep : ∀ {H4 : Hp} {o : HO}, Same H3 H4 → Same H3 (upd H4 D o) := fun s z o h => by
        rw [upd_ne (ne_of_none h hD)]
        exact s z o h
      refine lc_list (K := K) (a := rr) (xs := as.map V.ref) (fun j H' => Same H3 H' ∧ H' D = some (.lst (((ds.take j).map dayOf).map natV))) ⟨Same.upd hD, upd_same⟩ (fun j H' _ h => SqL.of (h.1 _ _ hr23)) ?_ ?_
      · rintro j x H' hj ⟨sH, hDl⟩
        obtain ⟨p, hp, rfl⟩ : ∃ p, as[j]? = some p ∧ x = V.ref p := by
          rw [List.getElem?_map] at hj
          cases q : as[j]? with
          | none => rw [q] at hj; cases hj
          | some p => rw [q] at hj; exact ⟨p, rfl, (Option.some.inj hj).symm⟩
        obtain ⟨x, hx, hpx⟩ := lsts_get has3 hp
        obtain ⟨gx, yx⟩ := hgood x (List.mem_of_getElem? hx)
        refine ⟨rfl, ?_⟩
        walk_at "rd"
        refine ⟨_, x.year, x.month, x.day, rfl, ⟨p, rfl, .inl (SqL.of (sH _ _ hpx))⟩, gx.y, by omega, gx.m1, gx.m2, gx.d1, _, hDl, ?_, keep sH, ?_⟩
        · rw [List.length_map, List.length_map, List.length_take]
          exact Nat.lt_of_le_of_lt (show min j ds.length ≤ 20 by omega) (by decide)
        · rw [upd_same, List.take_succ, hx, List.map_append, List.map_append]
          rfl
      · rintro H4 ⟨s4, hD4⟩
        rw [List.length_map, show as.length = ds.length from Paired.length has, List.take_length] at hD4
        have s04 := s03.trans s4
        have hlen : (ds.map dayOf).length ≤ 1000 := by
          rw [List.length_map]
          omega
        refine ⟨D, _, rfl, hD4, hlen, _, rfl, ite2 (fun cr => ⟨one_le, fun r hr => ?_⟩) fun cr => ?_⟩
        · rw [if_pos cr] at es
          rw [es] at k
          exact k.plain B0 s04 hr
        rw [if_neg cr] at es
        rw [es] at k
        have B4 := B0.same s04
        have BB := B4
        obtain ⟨dx, a1, a2, a3, a4, a5, a6, ps, ws, ss, eo, B⟩ := BB
        refine ⟨_, dx, _, B.ob, T.Book.cl, T.na, _, rfl, fun x dx2 nx ndx ne => ⟨x, b, a6, dx2, rfl, upd_same, fun H5 d1 hd1 hx2 hd2 u2 => ⟨rfl, ?_⟩⟩⟩
        obtain ⟨s5, fd, A5⟩ := alm_made nx ndx hd1 hx2 hd2 u2 B4 O B.sp B.sps O.so O.rise
        have s05 := s04.trans s5
        refine ⟨b, l, st, own, i, y, m, d, u, n, _, ww, rfl, B0.same s05, s05.seq hl, hww, fun H6 sa s6 fs S6 => ⟨_, (s05.trans s6).seq hl, fun p hp => ?_⟩⟩
        rw [show cutV (headL i y m d u n (.int z :: dates3 ds)) (some 1) (some 4) = [.int y, .int m, .int d] from cut_14 _ _ _ _ _]
        have s7 : Same H6 (upd H6 p (.lst [.int y, .int m, .int d])) := Same.upd hp
        have q7 : upd H6 p (.lst [.int y, .int m, .int d]) p = some (.lst [.int y, .int m, .int d]) := upd_same
        generalize upd H6 p (.lst [.int y, .int m, .int d]) = H7 at s7 q7 ⊢
        have s57 := s6.trans s7
        have hdsd : ∀ x ∈ ds.map dayOf, x < Sx57.DAYS := fun x hx => by
          obtain ⟨q, hq, rfl⟩ := List.mem_map.mp hx
          exact (Cal.day_lt_DAYS (hgood q hq).1).mpr (hgood q hq).2
        refine ⟨_, y, m, d, rfl, ⟨p, rfl, .inl (SqL.of q7)⟩, g1.y, (by have : y ≤ 2999 := y1; omega), g1.m1, g1.m2, g1.d1, ?_⟩
        refine ⟨x, b, a6, d1, sa, D, st, st.stops, _, ww, u, n, _, rfl, A5.same s57, S6.same s7, s57 _ _ (s5 _ _ hD4), hdsd, hn, c.2, hw, fun H8 u8 A8 => ⟨_, rfl, fun e he => anew_far c.2 hw O.so O.rise _ _ e hn hdsd he, fun H9 r9 s9 f9 h9 => ?_⟩⟩
        have s08 : Same H H8 := ((A5.ofs s57).trans u8).same s05 (s04.free fd)
        exact k.plain2 B0 (s08.trans s9) (s08.free f9) h9
theorem AlmOff.same {H H' : Hp} {CA CB m b sp d D : Addr} {st : Sx57.St} {stops : Sx57.Stops} (A : AlmOff D H CA CB m b sp d st stops) (s : Same H H') : AlmOff D H' CA CB m b sp d st stops := by
  refine Alm.same (H := rm D H) A fun a o h => ?_
  obtain ⟨n, h⟩ := rm_some h
  rw [rm_ne n]
  exact s a o h
/-- the ways by which it is in time, of the first ones -/
def inTs (st : Sx57.St) (x y u k i : Nat) : List Nat := ((st.ways.take i).zipIdx.filter fun w => inT st.rests st.stops w.1 x y u k).map fun w => w.2
theorem inTs_succ {st : Sx57.St} {x y u k i : Nat} {ww : Sx57.Way} (h : st.ways[i]? = some ww) : inTs st x y u k (i + 1) = inTs st x y u k i ++ (if inT st.rests st.stops ww x y u k = true then [i] else []) := by
  have hi := (List.getElem?_eq_some_iff.mp h).1
  unfold inTs
  rw [List.take_succ, h]
  show (((st.ways.take i) ++ [ww]).zipIdx.filter _).map _ = _
  rw [List.zipIdx_append, List.filter_append, List.map_append]
  congr 1
  rw [List.length_take, Nat.min_eq_left (by omega), Nat.zero_add]
  show (([(ww, i)] : List (Sx57.Way × Nat)).filter _).map _ = _
  rw [List.filter_cons]
  dsimp only
  cases inT st.rests st.stops ww x y u k <;> rfl
theorem inTs_len (st : Sx57.St) (x y u k i : Nat) : (inTs st x y u k i).length ≤ st.ways.length := by
  unfold inTs
  rw [List.length_map]
  refine Nat.le_trans (List.length_filter_le _ _) ?_
  rw [List.length_zipIdx, List.length_take]
  omega
/-! ### in time -/
def A_in_time (xs : List V) (c : Sx57.Call) : Prop := ∃ y m d z n e u k : Nat, xs = [.int y, .int m, .int d, .int z, .int n, .int e, .int u, .int k] ∧ c = .inTime ⟨y, m, d⟩ ⟨z, n, e⟩ u k
theorem cut_8a (a b c d e f g h : V) : cutV [a, b, c, d, e, f, g, h] none (some 6) = [a, b, c, d, e, f] := rfl
theorem cut_8b (a b c d e f g h : V) : cutV [a, b, c, d, e, f, g, h] none (some 3) = [a, b, c] := rfl
theorem cut_8c (a b c d e f g h : V) : cutV [a, b, c, d, e, f, g, h] (some 3) (some 6) = [d, e, f] := rfl
theorem ok_in_time (T : Txt K mg) : FnOk P w K mg base CX0 11 T.in_time.a T.in_time.fd ["book", "numbers"] (spC K T.Book.a A_in_time) := by
  refine T.in_time.F.ok sc_in_time (fun vs H Q E h => ?_) (fun cdv A outer s H vs Q E hr h => ?_)
  · obtain ⟨b, l, _, _, _, _, rfl, _⟩ := h
    rfl
  · obtain ⟨b, l, xs, st, own, c, rfl, B0, O, hl, ⟨y, m, d, z, n, e, u, j, rfl, rfl⟩, k⟩ := h
    refine ⟨_, (pss_cons (ps_if (PW.pt (pw_or (pt_not (pt_val (pe_call (ok_are_dates T) (hr.mono (by decide : 5 ≤ 10)) rfl T.are_dates.m T.are_dates.F.kp T.are_dates.b .nil pass0 (pa_cons (pe_call (ok_in_dates T) (hr.mono (by decide : 1 ≤ 10)) rfl T.in_dates.m T.in_dates.F.kp T.in_dates.b .nil pass0 (pa_cons (pe_slice sl_list (pv 1) po_none (po_some pe_int)) pa_nil)) pa_nil)))) (pw_or1 (pt_not (pt_val (pe_call (ok_is_span T) (hr.mono (by decide : 1 ≤ 10)) rfl T.is_span.m T.is_span.F.kp T.is_span.b .nil pass0 (pa_cons (pe_item (pv 1) pe_int) (pa_cons (pe_item (pv 1) pe_int) pa_nil)))))))) (pss_one (ps_ret (pe_lst (pa_cons (pe_globI rfl T.g_WRONG) pa_nil)))) pss_nil)
      (pss_cons (ps_set (i := 2) sc_in_time.nd rfl (Or.inl rfl) (pe_call (ok_day_number T) (hr.mono (by decide : 3 ≤ 10)) rfl T.day_number.m T.day_number.F.kp T.day_number.b .nil pass0 (pa_cons (pe_slice sl_list (pv 1) po_none (po_some pe_int)) pa_nil)))
      (pss_cons (ps_set (i := 3) sc_in_time.nd rfl (Or.inl rfl) (pe_call (ok_day_number T) (hr.mono (by decide : 3 ≤ 10)) rfl T.day_number.m T.day_number.F.kp T.day_number.b .nil pass0 (pa_cons (pe_slice sl_list (pv 1) (po_some pe_int) (po_some pe_int)) pa_nil)))
      (pss_cons (ps_set (i := 4) sc_in_time.nd rfl (Or.inl rfl) (pe_make T.mk_Almanac (ok_Almanac_init T) (hr.mono (by decide : 2 ≤ 10)) rfl T.Almanac.m T.Almanac_init.b .nil pass0 (pa_cons (pv 0) (pa_cons (pe_fld (pv 0) rfl) pa_nil))))
      (pss_cons (ps_set (i := 5) sc_in_time.nd rfl (Or.inl rfl) (pe_lst pa_nil))
      (pss_cons (ps_for PassesOwn.never rfl (pi_range1 rfl T.n_range (pa_cons (pe_len (pe_fld (pv 0) rfl) rfl T.n_len) pa_nil)) (pg_name (i := 6) sc_in_time.nd rfl (Or.inl rfl))
      (pss_cons (ps_set (i := 7) sc_in_time.nd rfl (Or.inl rfl) (pe_make T.mk_Span (ok_Span_init T) (hr.mono (by decide : 2 ≤ 10)) rfl T.Span.m T.Span_init.b .nil pass0 (pa_cons (pe_item (pe_fld (pv 0) rfl) (pv 6)) (pa_cons (pe_item (pv 1) pe_int) (pa_cons (pe_item (pv 1) pe_int) pa_nil)))))
      (pss_one (ps_if (pt_val (pe_call (ok_is_in_time T) (hr.mono (by decide : 10 ≤ 10)) rfl T.is_in_time.m T.is_in_time.F.kp T.is_in_time.b .nil pass0 (pa_cons (pv 4) (pa_cons (pv 7) (pa_cons (pv 2) (pa_cons (pv 3) pa_nil)))))) (pss_one (ps_expr (pe_bm PySem.F.plainAttrs_list PySem.F.slot_list_append PySem.F.type_list_append mt_append (pv 5) (pa_cons (pv 6) pa_nil)))) pss_nil))))
      (pss_one (ps_ret (pe_op op_cat (pe_lst (pa_cons (pe_len (pv 5) rfl T.n_len) pa_nil)) (pv 5)))))))))), ?_⟩
    have es : Sx57.step st (.inTime ⟨y, m, d⟩ ⟨z, n, e⟩ u j) = (st, if (dateOk ⟨y, m, d⟩ && (dateOk ⟨z, n, e⟩ && Sx57.spanOk u j)) = false then Sx57.ok (-1) else
      ⟨Sx57.num ((st.ways.zipIdx.filter fun w => inT st.rests st.stops w.1 (dayOf ⟨y, m, d⟩) (dayOf ⟨z, n, e⟩) u j).map fun w => w.2).length, ((st.ways.zipIdx.filter fun w => inT st.rests st.stops w.1 (dayOf ⟨y, m, d⟩) (dayOf ⟨z, n, e⟩) u j).map fun w => w.2).map Sx57.num⟩) := rfl
    walk_at "rd"
    refine ⟨_, hl, fun p1 hp1 => ?_⟩
    rw [cut_8a]
    have s1 : Same H (upd H p1 (.lst [.int y, .int m, .int d, .int z, .int n, .int e])) := Same.upd hp1
    have q1 : upd H p1 (.lst [.int y, .int m, .int d, .int z, .int n, .int e]) p1 = some (.lst [.int y, .int m, .int d, .int z, .int n, .int e]) := upd_same
    generalize upd H p1 (.lst [.int y, .int m, .int d, .int z, .int n, .int e]) = H1 at s1 q1 ⊢
    have hl3 : SqL K H1 p1 (dates3 [⟨y, m, d⟩, ⟨z, n, e⟩]) := SqL.of q1
    refine ⟨p1, [⟨y, m, d⟩, ⟨z, n, e⟩], rfl, hl3, by show 2 ≤ 20; omega, fun H2 r as s2 hr2 has => ⟨r, as, _, rfl, hr2, has, _, rfl, ?_⟩⟩
    have s02 := s1.trans s2
    have hq2 : Sq K H2 l [.int y, .int m, .int d, .int z, .int n, .int e, .int u, .int j] := .inl (s02.seq hl)
    have ea : ([⟨y, m, d⟩, ⟨z, n, e⟩] : List Sx57.Date).all dateOk = (dateOk ⟨y, m, d⟩ && dateOk ⟨z, n, e⟩) := by
      show (dateOk ⟨y, m, d⟩ && (dateOk ⟨z, n, e⟩ && true)) = _
      rw [Bool.and_true]
    rw [ea]
    refine ite2 (fun c => ⟨one_le, fun r hr => ?_⟩) fun c => ⟨_, hq2, _, at6, _, hq2, _, at7, u, j, rfl, _, rfl, ite2 (fun c2 => ⟨one_le, fun r hr => ?_⟩) fun c2 => ?_⟩
    · rw [if_pos (by rw [← Bool.and_assoc, c, Bool.false_and])] at es
      rw [es] at k
      exact k.plain B0 s02 hr
    · rw [if_pos (by rw [c2, Bool.and_false, Bool.and_false])] at es
      rw [es] at k
      exact k.plain B0 s02 hr
    have c : (dateOk ⟨y, m, d⟩ && dateOk ⟨z, n, e⟩) = true := by simpa using c
    have c2 : Sx57.spanOk u j = true := by simpa using c2
    rw [if_neg (by rw [← Bool.and_assoc, c, c2]; decide)] at es
    rw [es] at k
    rw [Bool.and_eq_true] at c
    obtain ⟨g1, y1⟩ := Cal.good_of c.1
    obtain ⟨g2, y2⟩ := Cal.good_of c.2
    have hn1 : dayOf ⟨y, m, d⟩ < Sx57.DAYS := (Cal.day_lt_DAYS g1).mpr y1
    refine ⟨_, s02.seq hl, fun p3 e3 => ?_⟩
    rw [cut_8b]
    have s3 : Same H2 (upd H2 p3 (.lst [.int y, .int m, .int d])) := Same.upd e3
    have q3 : upd H2 p3 (.lst [.int y, .int m, .int d]) p3 = some (.lst [.int y, .int m, .int d]) := upd_same
    generalize upd H2 p3 (.lst [.int y, .int m, .int d]) = H3 at s3 q3 ⊢
    have s03 := s02.trans s3
    refine ⟨_, y, m, d, rfl, ⟨p3, rfl, .inl (SqL.of q3)⟩, g1.y, (by have : y ≤ 2999 := y1; omega), g1.m1, g1.m2, g1.d1, ?_⟩
    refine ⟨_, s03.seq hl, fun p4 e4 => ?_⟩
    rw [cut_8c]
    have s4 : Same H3 (upd H3 p4 (.lst [.int z, .int n, .int e])) := Same.upd e4
    have q4 : upd H3 p4 (.lst [.int z, .int n, .int e]) p4 = some (.lst [.int z, .int n, .int e]) := upd_same
    generalize upd H3 p4 (.lst [.int z, .int n, .int e]) = H4 at s4 q4 ⊢
    have s04 := s03.trans s4
    refine ⟨_, z, n, e, rfl, ⟨p4, rfl, .inl (SqL.of q4)⟩, g2.y, (by have : z ≤ 2999 := y2; omega), g2.m1, g2.m2, g2.d1, ?_⟩
    have B4 := B0.same s04
    have BB := B4
    obtain ⟨dx, a1, a2, a3, a4, a5, a6, ps, ws, ss, eo, B⟩ := BB
    refine ⟨_, dx, _, B.ob, T.Book.cl, T.na, _, rfl, fun x dx2 nx ndx ne => ⟨x, b, a6, dx2, rfl, upd_same, fun H5 d1 hd1 hx2 hd2 u2 => ⟨rfl, ?_⟩⟩⟩
    obtain ⟨s5, fd, A5⟩ := alm_made nx ndx hd1 hx2 hd2 u2 B4 O B.sp B.sps O.so O.rise
    have s05 := s04.trans s5
    have lp : ws.length = st.ways.length := by
      have := Paired.length B.wys
      rw [List.length_map] at this
      exact this
    refine ⟨Nat.zero_le _, fun D hD => ?_⟩
    have s6 : Same H5 (upd H5 D (.lst [])) := Same.upd hD
    have B6 := B.same (s5.trans s6)
    have k : After H T.Book.a b own st (Sx57.num (inTs st (dayOf ⟨y, m, d⟩) (dayOf ⟨z, n, e⟩) u j st.ways.length).length :: (inTs st (dayOf ⟨y, m, d⟩) (dayOf ⟨z, n, e⟩) u j st.ways.length).map Sx57.num) Q := by
      unfold inTs
      rw [List.take_length]
      exact k
    refine ⟨_, rfl, _, _, dx, _, _, rfl, B6.ob, T.Book.cl, T.na, rfl, a5, _, rfl, .inl (SqL.of B6.wy), _, rfl, by omega, ?_, ?_⟩
    · rw [List.length_map, lp]
      have := O.al
      omega
    rw [List.length_map, lp]
    refine for_range (fun i σ H' => Ua d1 H5 H' ∧ AlmOff D H' T.Almanac.a T.Book.a x b a6 d1 st st.stops ∧ H' D = some (.lst ((inTs st (dayOf ⟨y, m, d⟩) (dayOf ⟨z, n, e⟩) u j i).map natV)) ∧ ∃ v6 v7, σ = [some (.ref b), some (.ref l), some (.int (dayOf ⟨y, m, d⟩ : Nat)), some (.int (dayOf ⟨z, n, e⟩ : Nat)), some (.ref x), some (.ref D), v6, v7]) ⟨A5.ofs s6, A5.off hD, upd_same, none, none, rfl⟩ ?_ ?_
    · rintro i σ H' hi ⟨u6, AO, hDl, v6, v7, rfl⟩
      have hi : i < st.ways.length := by omega
      have A6 := AO.on
      obtain ⟨own6, bk6⟩ := A6.bk
      obtain ⟨dxb, c1, c2', c3, c4, c5, c6, ps', ws', ss', eo', B'⟩ := bk6
      have lp' : ws'.length = st.ways.length := by
        have := Paired.length B'.wys
        rw [List.length_map] at this
        exact this
      obtain ⟨ww, hww⟩ : ∃ ww, st.ways[i]? = some ww := ⟨_, List.getElem?_eq_getElem hi⟩
      obtain ⟨p, hp⟩ : ∃ p, ws'[i]? = some p := ⟨_, List.getElem?_eq_getElem (by omega)⟩
      have ht := tups_get B'.wys hp (show (st.ways.map wayI)[i]? = some (wayI ww) by rw [List.getElem?_map, hww]; rfl)
      have hw := (O.wr ww (List.mem_of_getElem? hww)).1
      have s06 : Same H H' := u6.same s05 (s04.free fd)
      have hq6 : Sq K H' l [.int y, .int m, .int d, .int z, .int n, .int e, .int u, .int j] := .inl (s06.seq hl)
      have ein := inTs_succ (x := dayOf ⟨y, m, d⟩) (y := dayOf ⟨z, n, e⟩) (u := u) (k := j) hww
      have hlen := inTs_len st (dayOf ⟨y, m, d⟩) (dayOf ⟨z, n, e⟩) u j i
      have hal := O.al
      rw [show (0 + (i : Int)) = ((i : Nat) : Int) by omega]
      walk_at "rd"
      refine ⟨_, dxb, _, B'.ob, T.Book.cl, T.na, _, rfl, c5, rfl, _, .inl (SqL.of B'.wy), .ref p, atI_nat (by rw [List.getElem?_map, hp]; rfl), _, hq6, _, at6, _, hq6, _, at7, fun sx dxs nsx ndxs nes => ?_⟩
      have np : p ≠ sx := ne_of_none ht nsx
      have np2 : p ≠ dxs := ne_of_none ht ndxs
      refine ⟨sx, dxs, p, ww, u, j, rfl, upd_same, by rw [upd_ne np, upd_ne np2]; exact ht, fun H7 hx7 u7 => ⟨rfl, ?_⟩⟩
      obtain ⟨s7, S7⟩ := span_made nsx ndxs hx7 u7
      have AO7 := AO.same s7
      have A7 := AO7.on
      refine ⟨x, b, a6, d1, sx, st, st.stops, _, _, ww, u, j, rfl, A7, S7, hn1, c2, hw, fun H8 u8 A8 => ⟨_, rfl, ?_⟩⟩
      have hD7 := s7 _ _ hDl
      have AO8 := AO7.ua hD7 u8 A8
      obtain ⟨kvs7, hd7, _⟩ := A7.yr
      have hD8 := u8.up.1 _ _ hD7 (ne_of hD7 hd7 (by intro q; cases q))
      obtain ⟨kvs8, hd8, _⟩ := A8.yr
      have u58 := (u6.trans (A6.ofs s7)).trans u8
      rw [ein]
      refine ite2 (fun ci => ?_) fun ci => ?_
      · rw [if_pos ci]
        refine ⟨.inl ⟨rfl, _, SqL.of hD8⟩, D, _, _, rfl, rfl, hD8, ?_, u58.put hD hD8 hd8, AO8.put, ?_, _, rfl⟩
        · rw [List.length_map]
          exact Nat.lt_of_le_of_lt (show _ ≤ 8 by omega) (by decide)
        · rw [upd_same, List.map_append]
          rfl
      · rw [if_neg ci, List.append_nil]
        exact ⟨u58, AO8, hD8, _, rfl⟩
    · rintro σ H' ⟨u6, AO, hDl, v6, v7, rfl⟩
      have s06 : Same H H' := u6.same s05 (s04.free fd)
      have hlen := inTs_len st (dayOf ⟨y, m, d⟩) (dayOf ⟨z, n, e⟩) u j st.ways.length
      have hal := O.al
      rw [Int.toNat_natCast] at hDl
      refine ⟨_, rfl, _, _, rfl, .inl (SqL.of hDl), one_le, fun p7 hp7 => ⟨_, rfl, p7, D, _, _, rfl, rfl, upd_same, Same.upd hp7 _ _ hDl, ?_, fun r hr => ?_⟩⟩
      · rw [List.length_map]
        exact Nat.le_trans (show 1 + _ ≤ 9 by omega) (by decide)
      · have := k.plain B0 (s06.trans (Same.upd (o := .lst [.int ((inTs st (dayOf ⟨y, m, d⟩) (dayOf ⟨z, n, e⟩) u j st.ways.length).length : Nat)]) hp7)) (r := r)
        rw [List.length_map] at hr ⊢
        have := this hr
        rw [List.map_cons, List.map_map] at this
        exact this
end
end Dc
end
section
set_option Elab.async false
set_option linter.all false
set_option maxRecDepth 100000
set_option maxHeartbeats 2000000
namespace Dc
open PySem PySem.Spec PyProof.Rows L2
open Sx57 (leap monthDays dayOf dateOk yearStart monthStart)
local macro_rules | `(tactic| walk_at "rd") => `(tactic| simp only [tRet, tSeq, wipe, tYes, gSub, rSetL, tMake, tNotN, rIn, sFld, tIfS, tAndV, tOrV, tNotV, tAnd, tOr, tNot, tB, tTest, tCmp, t2I, tAdd, tSub, tMul, tOp, rI, rI0, tUn, rU, tVar, tC, tCall, tCons, tNil, tIx, tLen, tAsg, gName, tAug, ipI, tIf, tNext, tDrop, tChain, tTup, tLst, tFld, tMeth, tIsN, tCB, tBM, tSl, rSlL, tPart, tNoPart, CDiv, cxK, L2.start, List.length_cons, List.length_nil, List.replicate, List.map_cons, List.map_nil, List.cons_append, List.nil_append, List.append_nil, List.getElem?_cons_zero, List.getElem?_cons_succ, List.set_cons_zero, List.set_cons_succ, List.cons.injEq, and_true, true_and, Option.some.injEq, exists_eq_left', exists_eq_left, V.int.injEq, V.bl.injEq, V.ref.injEq, exists_and_left, decide_eq_true_eq, Nat.reduceAdd, Nat.reduceSub, Int.reduceLT, Int.reducePow, Int.reduceNeg, Bool.not_eq_true', decide_eq_false_iff_not, Bool.false_eq_true, ↓reduceIte, Bool.not_true, Bool.not_false])
section
variable {P : Program} {w : World} {K : PySem.W.Frag} {mg : Str → Option Value} {base : Heap}
theorem flat_len : ∀ l : List Sx57.Date, (l.flatMap fun x => [nI x.year, nI x.month, nI x.day]).length = 3 * l.length
  | [] => rfl
  | x :: l => by
    rw [List.flatMap_cons, List.length_append, flat_len l]
    show 3 + 3 * l.length = 3 * (l.length + 1)
    omega
/-- how long a call is -/
theorem arg_len : ∀ {i : Nat} {xs : List Int} {c : Sx57.Call}, Arg i xs c → ((i = 1 ∨ i = 9) ∧ ∃ r : Nat, xs[nums.getD i 0]? = some (nI r) ∧ xs.length = nums.getD i 0 + 1 + r) ∨ (¬ (i = 1 ∨ i = 9) ∧ xs.length = nums.getD i 0)
  | 0, xs, c, h => by obtain ⟨rfl, _⟩ := h; exact .inr ⟨by omega, rfl⟩
  | 1, xs, c, h => by
    obtain ⟨l, rfl, _⟩ := h
    exact .inl ⟨.inl rfl, l.length, rfl, by show (l.map nI).length + 1 = 0 + 1 + l.length; rw [List.length_map]; omega⟩
  | 2, xs, c, h => by obtain ⟨_, _, rfl, _⟩ := h; exact .inr ⟨by omega, rfl⟩
  | 3, xs, c, h => by obtain ⟨_, rfl, _⟩ := h; exact .inr ⟨by omega, rfl⟩
  | 4, xs, c, h => by obtain ⟨_, _, _, rfl, _⟩ := h; exact .inr ⟨by omega, rfl⟩
  | 5, xs, c, h => by obtain ⟨_, _, _, rfl, _⟩ := h; exact .inr ⟨by omega, rfl⟩
  | 6, xs, c, h => by obtain ⟨_, _, _, _, _, _, rfl, _⟩ := h; exact .inr ⟨by omega, rfl⟩
  | 7, xs, c, h => by obtain ⟨_, _, _, rfl, _⟩ := h; exact .inr ⟨by omega, rfl⟩
  | 8, xs, c, h => by obtain ⟨_, _, _, _, _, _, rfl, _⟩ := h; exact .inr ⟨by omega, rfl⟩
  | 9, xs, c, h => by
    obtain ⟨_, _, _, _, _, _, l, rfl, _⟩ := h
    refine .inl ⟨.inr rfl, 3 * l.length, rfl, ?_⟩
    show (l.flatMap fun x => [nI x.year, nI x.month, nI x.day]).length + 1 + 1 + 1 + 1 + 1 + 1 + 1 = 6 + 1 + 3 * l.length
    have := flat_len l
    omega
  | 10, xs, c, h => by obtain ⟨_, _, _, _, _, _, rfl, _⟩ := h; exact .inr ⟨by omega, rfl⟩
  | 11, xs, c, h => by obtain ⟨_, _, _, _, _, _, _, _, rfl, _⟩ := h; exact .inr ⟨by omega, rfl⟩
  | 12, xs, c, h => by obtain ⟨_, _, _, _, _, _, _, rfl, _⟩ := h; exact .inr ⟨by omega, rfl⟩
  | 13, xs, c, h => by obtain ⟨_, _, _, _, _, _, rfl, _⟩ := h; exact .inr ⟨by omega, rfl⟩
  | 14, xs, c, h => by obtain ⟨_, rfl, _⟩ := h; exact .inr ⟨by omega, rfl⟩
  | _ + 15, xs, c, h => h.elim
theorem at_int {ns : List Int} {j : Nat} {z : Int} (h : ns[j]? = some z) : atI (ns.map V.int) (j : Int) = some (.int z) := atI_nat (by rw [List.getElem?_map, h]; rfl)
/-! ### end_of_call -/
def MOST : Nat := 15
def sp_end_of_call (K : PySem.W.Frag) : Sp := fun vs H Q _ => ∃ (l : Addr) (pre xs post : List Int) (i : Nat) (c : Sx57.Call), vs = [.ref l, .int pre.length] ∧ SqL K H l ((pre ++ (nI i :: xs ++ post)).map V.int) ∧ Arg i xs c ∧ i < MOST ∧ Q (.int ((pre.length + 1 + xs.length : Nat) : Int)) H
theorem tab_whole {i : Nat} (h : i < MOST) : atI (([0, 0, 2, 1, 3, 3, 6, 3, 6, 6, 6, 8, 7, 6, 1] : List Int).map V.int) (nI i) = some (.int (nums.getD i 0 : Nat)) := by
  unfold MOST at h
  have : i = 0 ∨ i = 1 ∨ i = 2 ∨ i = 3 ∨ i = 4 ∨ i = 5 ∨ i = 6 ∨ i = 7 ∨ i = 8 ∨ i = 9 ∨ i = 10 ∨ i = 11 ∨ i = 12 ∨ i = 13 ∨ i = 14 := by omega
  rcases this with rfl | rfl | rfl | rfl | rfl | rfl | rfl | rfl | rfl | rfl | rfl | rfl | rfl | rfl | rfl <;> rfl
theorem tab_rows {i : Nat} (h : i < MOST) : atI (([0, 1, 0, 0, 0, 0, 0, 0, 0, 1, 0, 0, 0, 0, 0] : List Int).map V.int) (nI i) = some (.int (if i = 1 ∨ i = 9 then 1 else 0)) := by
  unfold MOST at h
  have : i = 0 ∨ i = 1 ∨ i = 2 ∨ i = 3 ∨ i = 4 ∨ i = 5 ∨ i = 6 ∨ i = 7 ∨ i = 8 ∨ i = 9 ∨ i = 10 ∨ i = 11 ∨ i = 12 ∨ i = 13 ∨ i = 14 := by omega
  rcases this with rfl | rfl | rfl | rfl | rfl | rfl | rfl | rfl | rfl | rfl | rfl | rfl | rfl | rfl | rfl <;> rfl
theorem ok_end_of_call (T : Txt K mg) : FnOk P w K mg base CX0 1 T.end_of_call.a T.end_of_call.fd ["calls", "start"] (sp_end_of_call K) := by
  refine T.end_of_call.F.ok sc_end_of_call (fun vs H Q E h => ?_) (fun cdv A outer s H vs Q E hr h => ?_)
  · obtain ⟨_, _, _, _, _, _, rfl, _⟩ := h
    rfl
  · obtain ⟨l, pre, xs, post, i, c, rfl, hl, ha, hi, k⟩ := h
    refine ⟨_, (pss_cons (ps_set (i := 2) sc_end_of_call.nd rfl (Or.inl rfl) (pe_add (pe_add (pv 1) pe_int) (pe_item (pe_glob (v := .ref T.g_WHOLE_NUMBERS.a) rfl T.g_WHOLE_NUMBERS.m rfl) (pe_item (pv 0) (pv 1)))))
      (pss_cons (ps_if (pt_cmp (pc_eqI (pe_item (pe_glob (v := .ref T.g_ROWS.a) rfl T.g_ROWS.m rfl) (pe_item (pv 0) (pv 1))) pe_int)) (pss_one (ps_aug (i := 2) sc_end_of_call.nd rfl (Or.inl rfl) (pe_add pe_int (pe_item (pv 0) (pv 2))) ip_add)) pss_nil)
      (pss_one (ps_ret (pv 2))))), ?_⟩
    have hq : Sq K H l ((pre ++ (nI i :: xs ++ post)).map V.int) := .inl hl
    have h0 : (pre ++ (nI i :: xs ++ post))[pre.length]? = some (nI i) := by
      rw [List.getElem?_append_right (Nat.le_refl _), Nat.sub_self]
      rfl
    walk_at "rd"
    refine ⟨_, hq, _, at_int h0, _, _, rfl, T.g_WHOLE_NUMBERS.at H, _, tab_whole hi, _, rfl, _, hq, _, at_int h0, _, _, rfl, T.g_ROWS.at H, _, tab_rows hi, _, rfl, ?_⟩
    rcases arg_len ha with ⟨hi2, r, hr1, hr2⟩ | ⟨hi2, hlen⟩
    · rw [if_pos hi2]
      refine ite2 (fun _ => ?_) fun q => absurd rfl q
      have h1 : (pre ++ (nI i :: xs ++ post))[pre.length + 1 + nums.getD i 0]? = some (nI r) := by
        rw [List.getElem?_append_right (by omega), show pre.length + 1 + nums.getD i 0 - pre.length = nums.getD i 0 + 1 by omega]
        show (xs ++ post)[nums.getD i 0]? = _
        rw [List.getElem?_append_left (List.getElem?_eq_some_iff.mp hr1).1]
        exact hr1
      refine ⟨_, hq, _, by
        rw [show ((pre.length : Int) + 1 + ((nums.getD i 0 : Nat) : Int)) = ((pre.length + 1 + nums.getD i 0 : Nat) : Int) by omega]
        exact at_int h1, _, rfl, ?_⟩
      rw [show ((pre.length : Int) + 1 + ((nums.getD i 0 : Nat) : Int) + (1 + nI r)) = ((pre.length + 1 + xs.length : Nat) : Int) by unfold nI; omega]
      exact k
    · rw [if_neg hi2]
      refine ite2 (fun q => absurd q (by decide)) fun _ => ?_
      rw [show ((pre.length : Int) + 1 + ((nums.getD i 0 : Nat) : Int)) = ((pre.length + 1 + xs.length : Nat) : Int) by omega]
      exact k
/-! ### answers -/
/-- the list that was handed in: the module's, or another than the book's -/
def Given (K : PySem.W.Frag) (a : Addr) (xs : List V) (own : List Addr) (H : Hp) : Prop := (∀ H2 : Hp, SqL K H2 a xs) ∨ (a ∉ own ∧ ∃ o, H a = some o ∧ ∀ H2 : Hp, H2 a = some o → SqL K H2 a xs)
theorem Given.sq {a : Addr} {xs : List V} {own : List Addr} {H : Hp} (g : Given K a xs own H) : SqL K H a xs := by
  rcases g with g | ⟨_, o, e, g⟩
  · exact g H
  · exact g H e
theorem Given.of {a : Addr} {xs : List V} {H : Hp} (h : SqL K H a xs) : Given K a xs [] H := by
  rcases h with (h | ⟨o, h⟩) | h
  · exact .inr ⟨by simp, _, h, fun H2 e => .inl (.inl e)⟩
  · exact .inr ⟨by simp, _, h, fun H2 e => .inl (.inr ⟨o, e⟩)⟩
  · exact .inl fun H2 => .inr h
theorem Given.step {a : Addr} {xs : List V} {own own' : List Addr} {H H' : Hp} (g : Given K a xs own H) (f : Fr own H H') (n : ∀ x ∈ own', x ∈ own ∨ H x = none) : Given K a xs own' H' := by
  rcases g with g | ⟨h, o, e, g⟩
  · exact .inl g
  · refine .inr ⟨fun q => ?_, o, f a o e h, g⟩
    rcases n a q with q | q
    · exact h q
    · rw [e] at q
      cases q
theorem Given.same {a : Addr} {xs : List V} {own : List Addr} {H H' : Hp} (g : Given K a xs own H) (f : Same H H') : Given K a xs own H' := g.step (fun a o e _ => f a o e) fun x q => .inl q
theorem Fr.trans {own : List Addr} {H H1 H2 : Hp} (a : Fr own H H1) (b : Fr own H1 H2) : Fr own H H2 := fun x o h n => b x o (a x o h n) n
def sp_answers (K : PySem.W.Frag) : Sp := fun vs H Q _ => ∃ (a : Addr) (cs : List CL), vs = [.ref a] ∧ SqL K H a ((PyFlat.put cs).map V.int) ∧ (∀ c ∈ cs, PyFlat.okCall PySx57.shape c ∧ Sx57Neutral.asked1 ((PySx57.whole c).headD []) = true) ∧ (soFar cs).length ≤ 1000100 ∧ (PyFlat.put cs).length ≤ 30000 ∧
  ∀ (H' : Hp) (p : Addr), H' p = some (.lst ((soFar cs).map V.int)) → Q (.ref p) H'
theorem cut_mid (a b c : List V) {lo hi : Int} (h1 : lo = a.length) (h2 : hi = (a ++ b).length) : cutV (a ++ (b ++ c)) (some lo) (some hi) = b := by
  subst h1 h2
  unfold cutV HT.sIx
  dsimp only
  rw [if_neg (by omega), if_neg (by omega)]
  have e1 : min ((a.length : Int)).toNat (a ++ (b ++ c)).length = a.length := by
    rw [List.length_append]
    omega
  have e2 : min (((a ++ b).length : Int)).toNat (a ++ (b ++ c)).length = a.length + b.length := by
    rw [List.length_append, List.length_append, List.length_append]
    omega
  rw [e1, e2, show a.length + b.length - a.length = b.length by omega, List.drop_left, List.take_left]
/-- a list that is not the book's has changed -/
theorem BookIs.off {H H' : Hp} {C b r : Addr} {st : Sx57.St} {own : List Addr} {xs : List V} (B : BookIs H C b st own) (hr : H r = some (.lst xs)) (hn : r ∉ own) (e : ∀ z, z ≠ r → H' z = H z) : BookIs H' C b st own := by
  obtain ⟨dx, a1, a2, a3, a4, a5, a6, ps, ws, ss, eo, BB⟩ := B
  have nin : ∀ z ∈ own, z ≠ r := fun z hz e => hn (e ▸ hz)
  have kk : ∀ {z o}, H z = some o → z ≠ r → H' z = some o := fun h n => by rw [e _ n]; exact h
  have tk : ∀ z o, H z = some (.tup o) → H' z = some (.tup o) := fun z o h => kk h (ne_of h hr (by intro q; cases q))
  exact ⟨dx, a1, a2, a3, a4, a5, a6, ps, ws, ss, eo, kk BB.ob (nin _ (by rw [eo]; simp)), kk BB.wk (nin _ (by rw [eo]; simp)), kk BB.yr (nin _ (by rw [eo]; simp)), kk BB.ea (nin _ (by rw [eo]; simp)), kk BB.cl (nin _ (by rw [eo]; simp)), kk BB.wy (nin _ (by rw [eo]; simp)), kk BB.sp (nin _ (by rw [eo]; simp)), BB.yrs.mono tk, BB.wys.mono tk, BB.sps.mono tk, BB.nd⟩
/-- what stands at the head of a turn -/
def Wd (K : PySem.W.Frag) (C a b r : Addr) (cs : List CL) (m : Nat) (σ : L2.St) (H : Hp) : Prop := ∃ (done rst : List CL) (own : List Addr) (v4 v5 : Option V), cs = done ++ rst ∧ m = rst.length ∧ σ = [some (.ref a), some (.ref b), some (.ref r), some (.int (PyFlat.put done).length), v4, v5] ∧
  BookIs H C b (stateOf done) own ∧ Okst (stateOf done) ∧ H r = some (.lst ((soFar done).map V.int)) ∧ r ∉ own ∧ Given K a ((PyFlat.put cs).map V.int) (r :: own) H
theorem nI_map (l : List Nat) : (l.map nI).map V.int = l.map natV := by
  rw [List.map_map]
  rfl
theorem flat_dates : ∀ l : List Sx57.Date, (l.flatMap fun x => [nI x.year, nI x.month, nI x.day]).map V.int = dates3 l
  | [] => rfl
  | x :: l => by
    rw [List.flatMap_cons, List.map_append, flat_dates l]
    rfl
theorem handler_at (T : Txt K mg) {i : Nat} {xs : List Int} {x : Sx57.Call} (ha : Arg i xs x) (hi : i < MOST) : ∃ (f : Addr) (fd : FuncData) (ps : List Str) (A : List V → Sx57.Call → Prop) (lv : Nat), atI ([V.ref T.begins.a, V.ref T.week.a, V.ref T.yearly.a, V.ref T.easters.a, V.ref T.closed.a, V.ref T.way.a, V.ref T.stop.a, V.ref T.rest.a, V.ref T.last.a, V.ref T.anew.a, V.ref T.latest.a, V.ref T.in_time.a, V.ref T.between.a, V.ref T.working.a, V.ref T.easter_date.a] : List V) (nI i) = some (.ref f) ∧
    FnOk P w K mg base CX0 lv f fd ps (spC K T.Book.a A) ∧ lv ≤ 11 ∧ PySem.W.keepIn K (.ref f) = true ∧ Binds K fd ps [] ∧ A (xs.map V.int) x := by
  unfold MOST at hi
  match i, hi, ha with
  | 0, _, ha => obtain ⟨rfl, rfl⟩ := ha; exact ⟨_, _, _, _, _, rfl, ok_begins T, by decide, T.begins.F.kp, T.begins.b, rfl⟩
  | 1, _, ha =>
    obtain ⟨l, rfl, hl, _, rfl⟩ := ha
    exact ⟨_, _, _, _, _, rfl, ok_week T, by decide, T.week.F.kp, T.week.b, nI l.length, l, by rw [List.map_cons, nI_map], hl, rfl⟩
  | 2, _, ha => obtain ⟨m, d, rfl, _, rfl⟩ := ha; exact ⟨_, _, _, _, _, rfl, ok_yearly T, by decide, T.yearly.F.kp, T.yearly.b, m, d, rfl, rfl⟩
  | 3, _, ha => obtain ⟨z, rfl, _, rfl⟩ := ha; exact ⟨_, _, _, _, _, rfl, ok_easters T, by decide, T.easters.F.kp, T.easters.b, z, rfl, rfl⟩
  | 4, _, ha => obtain ⟨y, m, d, rfl, _, rfl⟩ := ha; exact ⟨_, _, _, _, _, rfl, ok_closed T, by decide, T.closed.F.kp, T.closed.b, y, m, d, rfl, rfl⟩
  | 5, _, ha => obtain ⟨f, r, m, rfl, _, rfl⟩ := ha; exact ⟨_, _, _, _, _, rfl, ok_way T, by decide, T.way.F.kp, T.way.b, f, r, m, rfl, rfl⟩
  | 6, _, ha => obtain ⟨y, m, d, z, n, e, rfl, _, rfl⟩ := ha; exact ⟨_, _, _, _, _, rfl, ok_stop T, by decide, T.stop.F.kp, T.stop.b, y, m, d, z, n, e, rfl, rfl⟩
  | 7, _, ha => obtain ⟨y, m, d, rfl, _, rfl⟩ := ha; exact ⟨_, _, _, _, _, rfl, ok_rest T, by decide, T.rest.F.kp, T.rest.b, y, m, d, rfl, rfl⟩
  | 8, _, ha => obtain ⟨i, y, m, d, u, n, rfl, _, rfl⟩ := ha; exact ⟨_, _, _, _, _, rfl, ok_last T, by decide, T.last.F.kp, T.last.b, i, y, m, d, u, n, rfl, rfl⟩
  | 9, _, ha =>
    obtain ⟨i, y, m, d, u, n, l, rfl, _, hl, _, rfl⟩ := ha
    refine ⟨_, _, _, _, _, rfl, ok_anew T, by decide, T.anew.F.kp, T.anew.b, i, y, m, d, u, n, nI (3 * l.length), l, ?_, hl, rfl⟩
    show headL i y m d u n (.int (nI (3 * l.length)) :: (l.flatMap fun x => [nI x.year, nI x.month, nI x.day]).map V.int) = _
    rw [flat_dates]
  | 10, _, ha => obtain ⟨i, y, m, d, u, n, rfl, _, rfl⟩ := ha; exact ⟨_, _, _, _, _, rfl, ok_latest T, by decide, T.latest.F.kp, T.latest.b, i, y, m, d, u, n, rfl, rfl⟩
  | 11, _, ha => obtain ⟨y, m, d, z, n, e, u, j, rfl, _, rfl⟩ := ha; exact ⟨_, _, _, _, _, rfl, ok_in_time T, by decide, T.in_time.F.kp, T.in_time.b, y, m, d, z, n, e, u, j, rfl, rfl⟩
  | 12, _, ha => obtain ⟨i, y, m, d, z, n, e, rfl, _, rfl⟩ := ha; exact ⟨_, _, _, _, _, rfl, ok_between T, by decide, T.between.F.kp, T.between.b, i, y, m, d, z, n, e, rfl, rfl⟩
  | 13, _, ha => obtain ⟨y, m, d, z, n, e, rfl, _, rfl⟩ := ha; exact ⟨_, _, _, _, _, rfl, ok_working T, by decide, T.working.F.kp, T.working.b, y, m, d, z, n, e, rfl, rfl⟩
  | 14, _, ha => obtain ⟨y, rfl, _, rfl⟩ := ha; exact ⟨_, _, _, _, _, rfl, ok_easter_date T, by decide, T.easter_date.F.kp, T.easter_date.b, y, rfl, rfl⟩
theorem ok_answers (T : Txt K mg) : FnOk P w K mg base CX0 12 T.answers.a T.answers.fd ["calls"] (sp_answers K) := by
  refine T.answers.F.ok sc_answers (fun vs H Q E h => ?_) (fun cdv A outer s H vs Q E hr h => ?_)
  · obtain ⟨_, _, rfl, _⟩ := h
    rfl
  · obtain ⟨a, cs, rfl, hl, hcs, hlen, hlen2, k⟩ := h
    refine ⟨_, (pss_cons (ps_set (i := 1) sc_answers.nd rfl (Or.inl rfl) (pe_make0 T.mk_Book (ok_Book_init T) (hr.mono (by decide : 3 ≤ 11)) rfl T.Book.m T.Book_init.b .nil pass0))
      (pss_cons (ps_set (i := 2) sc_answers.nd rfl (Or.inl rfl) (pe_lst pa_nil))
      (pss_cons (ps_set (i := 3) sc_answers.nd rfl (Or.inl rfl) pe_int)
      (pss_cons (ps_while PassesOwn.never (pt_cmp (pc_lt (pv 3) (pe_len (pv 0) rfl T.n_len)))
      (pss_cons (ps_set (i := 4) sc_answers.nd rfl (Or.inl rfl) (pe_call (ok_end_of_call T) (hr.mono (by decide : 1 ≤ 11)) rfl T.end_of_call.m T.end_of_call.F.kp T.end_of_call.b .nil pass0 (pa_cons (pv 0) (pa_cons (pv 3) pa_nil))))
      (pss_cons (ps_set (i := 5) sc_answers.nd rfl (Or.inl rfl) (pe_callE (pe_item (pe_glob (v := .ref T.g_HANDLERS.a) rfl T.g_HANDLERS.m rfl) (pe_item (pv 0) (pv 3))) (pa_cons (pv 1) (pa_cons (pe_slice sl_list (pv 0) (po_some (pe_add (pv 3) pe_int)) (po_some (pv 4))) pa_nil))))
      (pss_cons (ps_expr (pe_bm PySem.F.plainAttrs_list PySem.F.slot_list_append PySem.F.type_list_append mt_append (pv 2) (pa_cons (pe_len (pv 5) rfl T.n_len) pa_nil)))
      (pss_cons (ps_expr (pe_bm PySem.F.plainAttrs_list PySem.F.slot_list_extend PySem.F.type_list_extend mt_extend (pv 2) (pa_cons (pv 5) pa_nil)))
      (pss_one (ps_set (i := 3) sc_answers.nd rfl (Or.inl rfl) (pv 4))))))))
      (pss_one (ps_ret (pv 2))))))), ?_⟩
    have g0 := Given.of hl
    intro b dx nb ndx ne
    refine ⟨b, dx, [], rfl, upd_same, .inl rfl, fun H1 own1 B1 k1 f1 => ⟨rfl, ?_⟩⟩
    have s1 : Same H H1 := Same.made nb ndx fun x o h n => k1 x o h n
    have o1 : ∀ x ∈ own1, H x = none := fun x hx => by
      rcases f1 x hx with rfl | q
      · exact nb
      · exact (upd_none (upd_none q).2).2
    have g1 : Given K a ((PyFlat.put cs).map V.int) own1 H1 := g0.step (fun x o h _ => s1 x o h) fun x hx => .inr (o1 x hx)
    walk_at "rd"
    refine ⟨Nat.zero_le _, fun r hr2 => ?_⟩
    have s2 : Same H1 (upd H1 r (.lst [])) := Same.upd hr2
    refine ⟨Wd K T.Book.a a b r cs, ⟨cs.length, [], cs, own1, none, none, rfl, rfl, rfl, B1.same s2, okst_init, upd_same, fun q => ?_, g1.step (fun x o h _ => s2 x o h) fun x hx => ?_⟩, ?_⟩
    · obtain ⟨o, e⟩ := B1.live q
      rw [hr2] at e
      cases e
    · rcases List.mem_cons.mp hx with rfl | hx
      · exact .inr hr2
      · exact .inl hx
    clear s2 hr2 g1 o1 s1 f1 k1 B1 H1 own1 g0 nb ndx ne
    rintro m σ H1 ⟨done, rst, own, v4, v5, ec, rfl, rfl, B, O, hrl, hrn, G⟩
    walk_at "rd"
    refine ⟨_, .inl G.sq, ite2 (fun c => ?_) fun c => ?_⟩
    · rw [List.length_map] at c
      cases rst with
      | nil =>
        exfalso
        rw [ec, List.append_nil] at c
        omega
      | cons c0 rst =>
        obtain ⟨hok, hask⟩ := hcs c0 (by rw [ec]; simp)
        obtain ⟨i, xs, x, e1, hi15, e2, harg⟩ := call_cases hok hask
        have hi : i < MOST := hi15
        have ep : PyFlat.put cs = PyFlat.put done ++ (nI i :: xs ++ PyFlat.put rst) := by
          rw [ec, put_append]
          show _ ++ (PyFlat.put1 c0 ++ _) = _
          rw [e1]
        have Gs := G.sq
        rw [ep] at Gs
        refine ⟨Wd K T.Book.a a b r cs rst.length, fun σ' H' h => ⟨_, by show rst.length < (c0 :: rst).length; rw [List.length_cons]; omega, h⟩, ?_⟩
        refine ⟨a, PyFlat.put done, xs, PyFlat.put rst, i, x, rfl, Gs, harg, hi, ?_⟩
        simp only [tCallE]
        walk_at "rd"
        have h0 : (PyFlat.put done ++ (nI i :: xs ++ PyFlat.put rst))[(PyFlat.put done).length]? = some (nI i) := by
          rw [List.getElem?_append_right (Nat.le_refl _), Nat.sub_self]
          rfl
        obtain ⟨f, fd, ps, AA, lv, hat, F, hlv, kp, bd, hAA⟩ := handler_at (P := P) (w := w) (mg := mg) (base := base) T harg hi
        refine ⟨_, .inl Gs, _, at_int h0, _, _, rfl, T.g_HANDLERS.at H1, _, hat, f, rfl, fd, ps, _, lv, F, hr.mono hlv, kp, bd, _, Gs, fun p hp => ?_⟩
        have ecut : cutV ((PyFlat.put done ++ (nI i :: xs ++ PyFlat.put rst)).map V.int) (some ((PyFlat.put done).length + 1)) (some ((PyFlat.put done).length + 1 + xs.length : Nat)) = xs.map V.int := by
          have e3 : (PyFlat.put done ++ (nI i :: xs ++ PyFlat.put rst)).map V.int = (PyFlat.put done ++ [nI i]).map V.int ++ (xs.map V.int ++ (PyFlat.put rst).map V.int) := by
            rw [← List.map_append, ← List.map_append]
            congr 1
            rw [List.append_assoc]
            rfl
          rw [e3]
          refine cut_mid _ _ _ ?_ ?_
          · rw [List.length_map, List.length_append]
            show _ = (((PyFlat.put done).length + 1 : Nat) : Int)
            omega
          · rw [List.length_append, List.length_map, List.length_map, List.length_append]
            show (((PyFlat.put done).length + 1 + xs.length : Nat) : Int) = (((PyFlat.put done).length + 1 + xs.length : Nat) : Int)
            rfl
        rw [ecut]
        have sp1 : Same H1 (upd H1 p (.lst (xs.map V.int))) := Same.upd hp
        have qp1 : upd H1 p (.lst (xs.map V.int)) p = some (.lst (xs.map V.int)) := upd_same
        generalize upd H1 p (.lst (xs.map V.int)) = H2 at sp1 qp1 ⊢
        have B2 := B.same sp1
        have G2 := G.same sp1
        have hr2 := sp1 _ _ hrl
        refine ⟨b, p, _, stateOf done, own, x, rfl, B2, O, SqL.of qp1, hAA, ?_⟩
        intro H3 q own3 B3 hq3 fq nq fr3 on3
        have hr3 := fr3 _ _ hr2 hrn
        have nqr : q ≠ r := fun e => by rw [e, hr2] at fq; cases fq
        have eN : soFar (done ++ [c0]) = soFar done ++ (((Sx57.step (stateOf done) x).2.l.length + 1 : Nat) : Int) :: ansOf (Sx57.step (stateOf done) x).2 := soFar_snoc e2
        have lN : (soFar (done ++ [c0])).length ≤ 1000100 := by
          have := soFar_mono (done ++ [c0]) rst
          rw [List.append_assoc, show [c0] ++ rst = c0 :: rst from rfl, ← ec] at this
          omega
        have lN2 := lN
        rw [eN, List.length_append, List.length_cons] at lN2
        refine ⟨.inl ⟨rfl, _, SqL.of hr3⟩, q, rfl, _, .inl (SqL.of hq3), r, _, _, rfl, rfl, hr3, ?_, .inl ⟨rfl, _, SqL.of upd_same⟩, r, q, _, _, rfl, rfl, upd_same, by rw [upd_ne nqr]; exact hq3, ?_, ?_⟩
        · rw [List.length_map]
          exact Nat.lt_of_le_of_lt (show (soFar done).length ≤ 1000100 by omega) (by decide)
        · rw [List.length_append, List.length_map, List.length_map]
          exact Nat.le_trans (show (soFar done).length + 1 + (ansOf (Sx57.step (stateOf done) x).2).length ≤ 1000100 by omega) (by decide)
        have hrn3 : r ∉ own3 := fun z => by
          rcases on3 r z with z | z
          · exact hrn z
          · rw [hr2] at z
            cases z
        have uu : ∀ (o1 o2 : HO) (z : Addr), z ≠ r → upd (upd H3 r o1) r o2 z = H3 z := fun o1 o2 z n => by rw [upd_ne n, upd_ne n]
        refine ⟨done ++ [c0], rst, own3, some (V.int ((PyFlat.put done).length + 1 + xs.length : Nat)), some (V.ref q), by rw [ec, List.append_assoc]; rfl, rfl, ?_, ?_, ?_, ?_, hrn3, ?_⟩
        · rw [put_append]
          show _ = [_, _, _, some (V.int ((PyFlat.put done ++ (PyFlat.put1 c0 ++ [])).length : Nat)), _, _]
          rw [e1, List.append_nil, List.length_append, List.length_cons]
          rw [show (PyFlat.put done).length + (xs.length + 1) = (PyFlat.put done).length + 1 + xs.length by omega]
        · rw [stateOf_snoc e2]
          exact B3.off hr3 hrn3 (uu _ _)
        · rw [stateOf_snoc e2]
          exact okst_step O x
        · rw [upd_same, eN, List.map_append, List.append_assoc]
          rw [List.length_map]
          rfl
        · have G3 : Given K a ((PyFlat.put cs).map V.int) (r :: own3) H3 := G2.step (fun x o h n => fr3 x o h fun z => n (List.mem_cons_of_mem _ z)) fun x hx => by
            rcases List.mem_cons.mp hx with rfl | hx
            · exact .inl (List.mem_cons_self ..)
            · rcases on3 x hx with z | z
              · exact .inl (List.mem_cons_of_mem _ z)
              · exact .inr z
          exact G3.step (fun x o h n => by rw [uu _ _ x fun e => n (by rw [e]; exact List.mem_cons_self ..)]; exact h) fun x hx => .inl hx
    · have e : rst = [] := by
        cases rst with
        | nil => rfl
        | cons c0 rst =>
          exfalso
          apply c
          obtain ⟨hok, hask⟩ := hcs c0 (by rw [ec]; simp)
          obtain ⟨i, xs, x, e1, _⟩ := call_cases hok hask
          rw [List.length_map, ec, put_append, List.length_append]
          show ((PyFlat.put done).length : Int) < ((PyFlat.put done).length + (PyFlat.put1 c0 ++ PyFlat.put rst).length : Nat)
          rw [e1, List.cons_append, List.length_cons]
          omega
      subst e
      rw [List.append_nil] at ec
      subst ec
      exact k _ _ hrl
end
end Dc
end
section
set_option Elab.async false
set_option linter.all false
set_option maxRecDepth 100000
set_option maxHeartbeats 2000000
namespace Dc
open PySem PySem.Spec PyProof.Rows L2
theorem answers_binds {K : PySem.W.Frag} {mg : Str → Option Value} (T : Txt K mg) (s : Shared) (us : List Value) (hu : us.length = 1) : BindsTo s T.answers.fd ⟨us, []⟩ ((["calls"] : List Str).zip us) := by
  obtain ⟨oc, od, kV, doc, pm, an, cdv, ct, osl, e, _⟩ := T.answers.F.ex
  rw [e]
  match us, hu with
  | [_], _ => exact .of_eq rfl
theorem all_mk {P : Program} {w : World} {K : PySem.W.Frag} {h : Heap} {mg : Str → Option Value} {fa : Addr} (X : K.In h) (G : h.Ns mainGlobals mg) (hfa : mg "answers" = some (.ref fa))
    {t_FIRST_YEAR : Tok} (i_FIRST_YEAR : PySem.W.nsIn K mainGlobals "FIRST_YEAR" = some (some (.int (1600) t_FIRST_YEAR)))
    {t_LAST_YEAR : Tok} (i_LAST_YEAR : PySem.W.nsIn K mainGlobals "LAST_YEAR" = some (some (.int (2999) t_LAST_YEAR)))
    {t_LEAP_YEAR : Tok} (i_LEAP_YEAR : PySem.W.nsIn K mainGlobals "LEAP_YEAR" = some (some (.int (2000) t_LEAP_YEAR)))
    {t_MONTHS_OF_YEAR : Tok} (i_MONTHS_OF_YEAR : PySem.W.nsIn K mainGlobals "MONTHS_OF_YEAR" = some (some (.int (12) t_MONTHS_OF_YEAR)))
    {t_DAYS_OF_400_YEARS : Tok} (i_DAYS_OF_400_YEARS : PySem.W.nsIn K mainGlobals "DAYS_OF_400_YEARS" = some (some (.int (146097) t_DAYS_OF_400_YEARS)))
    {t_FEBRUARY : Tok} (i_FEBRUARY : PySem.W.nsIn K mainGlobals "FEBRUARY" = some (some (.int (2) t_FEBRUARY)))
    {t_SATURDAY : Tok} (i_SATURDAY : PySem.W.nsIn K mainGlobals "SATURDAY" = some (some (.int (5) t_SATURDAY)))
    {t_FIRST_OF_NEXT_MONTH : Tok} (i_FIRST_OF_NEXT_MONTH : PySem.W.nsIn K mainGlobals "FIRST_OF_NEXT_MONTH" = some (some (.int (1) t_FIRST_OF_NEXT_MONTH)))
    {t_END_TO_END : Tok} (i_END_TO_END : PySem.W.nsIn K mainGlobals "END_TO_END" = some (some (.int (2) t_END_TO_END)))
    {t_DAYS : Tok} (i_DAYS : PySem.W.nsIn K mainGlobals "DAYS" = some (some (.int (0) t_DAYS)))
    {t_WEEKS : Tok} (i_WEEKS : PySem.W.nsIn K mainGlobals "WEEKS" = some (some (.int (1) t_WEEKS)))
    {t_MONTHS : Tok} (i_MONTHS : PySem.W.nsIn K mainGlobals "MONTHS" = some (some (.int (2) t_MONTHS)))
    {t_WORKING_DAYS : Tok} (i_WORKING_DAYS : PySem.W.nsIn K mainGlobals "WORKING_DAYS" = some (some (.int (4) t_WORKING_DAYS)))
    {t_STAY : Tok} (i_STAY : PySem.W.nsIn K mainGlobals "STAY" = some (some (.int (0) t_STAY)))
    {t_NEXT : Tok} (i_NEXT : PySem.W.nsIn K mainGlobals "NEXT" = some (some (.int (1) t_NEXT)))
    {t_BEFORE : Tok} (i_BEFORE : PySem.W.nsIn K mainGlobals "BEFORE" = some (some (.int (2) t_BEFORE)))
    {t_FARTHEST_FROM_REST : Tok} (i_FARTHEST_FROM_REST : PySem.W.nsIn K mainGlobals "FARTHEST_FROM_REST" = some (some (.int (399) t_FARTHEST_FROM_REST)))
    {t_MOST_LOOKED_FOR_WORK : Tok} (i_MOST_LOOKED_FOR_WORK : PySem.W.nsIn K mainGlobals "MOST_LOOKED_FOR_WORK" = some (some (.int (12000) t_MOST_LOOKED_FOR_WORK)))
    {t_MOST_LOOKED_FOR_EVENT : Tok} (i_MOST_LOOKED_FOR_EVENT : PySem.W.nsIn K mainGlobals "MOST_LOOKED_FOR_EVENT" = some (some (.int (4000) t_MOST_LOOKED_FOR_EVENT)))
    {t_LENGTH_LOOKED_AT_WHOLE : Tok} (i_LENGTH_LOOKED_AT_WHOLE : PySem.W.nsIn K mainGlobals "LENGTH_LOOKED_AT_WHOLE" = some (some (.int (401) t_LENGTH_LOOKED_AT_WHOLE)))
    {t_WRONG : Tok} (i_WRONG : PySem.W.nsIn K mainGlobals "WRONG" = some (some (.int (-1) t_WRONG)))
    {t_NO_WAY : Tok} (i_NO_WAY : PySem.W.nsIn K mainGlobals "NO_WAY" = some (some (.int (-2) t_NO_WAY)))
    {t_OUT_OF_ORDER : Tok} (i_OUT_OF_ORDER : PySem.W.nsIn K mainGlobals "OUT_OF_ORDER" = some (some (.int (-3) t_OUT_OF_ORDER)))
    {t_FULL : Tok} (i_FULL : PySem.W.nsIn K mainGlobals "FULL" = some (some (.int (-5) t_FULL)))
    {t_BEYOND : Tok} (i_BEYOND : PySem.W.nsIn K mainGlobals "BEYOND" = some (some (.int (-6) t_BEYOND)))
    {t_NO_END : Tok} (i_NO_END : PySem.W.nsIn K mainGlobals "NO_END" = some (some (.int (-7) t_NO_END)))
    {t_LAST_WEEKDAY : Tok} (i_LAST_WEEKDAY : PySem.W.nsIn K mainGlobals "LAST_WEEKDAY" = some (some (.int (6) t_LAST_WEEKDAY)))
    {t_MOST_WEEKDAYS : Tok} (i_MOST_WEEKDAYS : PySem.W.nsIn K mainGlobals "MOST_WEEKDAYS" = some (some (.int (6) t_MOST_WEEKDAYS)))
    {t_FARTHEST_FROM_EASTER : Tok} (i_FARTHEST_FROM_EASTER : PySem.W.nsIn K mainGlobals "FARTHEST_FROM_EASTER" = some (some (.int (60) t_FARTHEST_FROM_EASTER)))
    {t_LAST_REST_RULE : Tok} (i_LAST_REST_RULE : PySem.W.nsIn K mainGlobals "LAST_REST_RULE" = some (some (.int (3) t_LAST_REST_RULE)))
    {t_LAST_MONTHS_RULE : Tok} (i_LAST_MONTHS_RULE : PySem.W.nsIn K mainGlobals "LAST_MONTHS_RULE" = some (some (.int (2) t_LAST_MONTHS_RULE)))
    {t_MOST_DAYS : Tok} (i_MOST_DAYS : PySem.W.nsIn K mainGlobals "MOST_DAYS" = some (some (.int (40) t_MOST_DAYS)))
    {t_MOST_WAYS : Tok} (i_MOST_WAYS : PySem.W.nsIn K mainGlobals "MOST_WAYS" = some (some (.int (8) t_MOST_WAYS)))
    {t_MOST_STOPS : Tok} (i_MOST_STOPS : PySem.W.nsIn K mainGlobals "MOST_STOPS" = some (some (.int (20) t_MOST_STOPS)))
    {t_MOST_DAYS_LATER : Tok} (i_MOST_DAYS_LATER : PySem.W.nsIn K mainGlobals "MOST_DAYS_LATER" = some (some (.int (4000) t_MOST_DAYS_LATER)))
    (n_range : PySem.W.nsIn K mainGlobals "range" = some none)
    (n_list : PySem.W.nsIn K mainGlobals "list" = some none)
    (n_max : PySem.W.nsIn K mainGlobals "max" = some none)
    (n_min : PySem.W.nsIn K mainGlobals "min" = some none)
    (n_len : PySem.W.nsIn K mainGlobals "len" = some none)
    (n_sum : PySem.W.nsIn K mainGlobals "sum" = some none)
    (n_abs : PySem.W.nsIn K mainGlobals "abs" = some none)
    {a_Almanac : Addr} (m_Almanac : PySem.W.nsIn K mainGlobals "Almanac" = some (some (.ref a_Almanac)))
    (pg_Almanac : PySem.W.plainGet K a_Almanac Str.empty = true) (hd_Almanac : PySem.W.hasDictIn K a_Almanac = true) (po_Almanac : PySem.W.plainOver K a_Almanac = true) (sa_Almanac : PySem.W.findIn K (.ref a_Almanac) "__setattr__" = some (some (.builtin "object.__setattr__"))) (mk_Almanac : PySem.W.makesIn K a_Almanac = true) (kc_Almanac : PySem.W.keepIn K (.ref a_Almanac) = true)
    (na_Almanac_book : PySem.W.findIn K (.ref a_Almanac) "book" = some none)
    (na_Almanac_stops : PySem.W.findIn K (.ref a_Almanac) "stops" = some none)
    (na_Almanac_years : PySem.W.findIn K (.ref a_Almanac) "years" = some none)
    {f_Almanac_init : Addr} {od_Almanac_init an_Almanac_init : Option Addr} {sl_Almanac_init : Array (Option Value)} {oc_Almanac_init kV_Almanac_init dc_Almanac_init pm_Almanac_init cd_Almanac_init ct_Almanac_init : Value} (a_Almanac_init : PySem.W.findIn K (.ref a_Almanac) "__init__" = some (some (.ref f_Almanac_init))) (e_Almanac_init : PySem.W.isFn K (.ref f_Almanac_init) = true)
    (l_Almanac_init : K.lookup f_Almanac_init = some ⟨oc_Almanac_init, od_Almanac_init, .func (PySem.W.fnOf "__init__" "Almanac.__init__" (defArgs s_Almanac_init) (defBody s_Almanac_init) (defScope s_Almanac_init) .none kV_Almanac_init dc_Almanac_init pm_Almanac_init an_Almanac_init cd_Almanac_init ct_Almanac_init), sl_Almanac_init⟩) (c_Almanac_init : PySem.W.codeIn K cd_Almanac_init "Almanac.__init__" = true) (k_Almanac_init : PySem.W.keepIn K (.ref f_Almanac_init) = true)
    {f_Almanac_rest_flags : Addr} {od_Almanac_rest_flags an_Almanac_rest_flags : Option Addr} {sl_Almanac_rest_flags : Array (Option Value)} {oc_Almanac_rest_flags kV_Almanac_rest_flags dc_Almanac_rest_flags pm_Almanac_rest_flags cd_Almanac_rest_flags ct_Almanac_rest_flags : Value} (a_Almanac_rest_flags : PySem.W.findIn K (.ref a_Almanac) "rest_flags" = some (some (.ref f_Almanac_rest_flags))) (e_Almanac_rest_flags : PySem.W.isFn K (.ref f_Almanac_rest_flags) = true)
    (l_Almanac_rest_flags : K.lookup f_Almanac_rest_flags = some ⟨oc_Almanac_rest_flags, od_Almanac_rest_flags, .func (PySem.W.fnOf "rest_flags" "Almanac.rest_flags" (defArgs s_Almanac_rest_flags) (defBody s_Almanac_rest_flags) (defScope s_Almanac_rest_flags) .none kV_Almanac_rest_flags dc_Almanac_rest_flags pm_Almanac_rest_flags an_Almanac_rest_flags cd_Almanac_rest_flags ct_Almanac_rest_flags), sl_Almanac_rest_flags⟩) (c_Almanac_rest_flags : PySem.W.codeIn K cd_Almanac_rest_flags "Almanac.rest_flags" = true) (k_Almanac_rest_flags : PySem.W.keepIn K (.ref f_Almanac_rest_flags) = true)
    {f_Almanac_find_rest_flags : Addr} {od_Almanac_find_rest_flags an_Almanac_find_rest_flags : Option Addr} {sl_Almanac_find_rest_flags : Array (Option Value)} {oc_Almanac_find_rest_flags kV_Almanac_find_rest_flags dc_Almanac_find_rest_flags pm_Almanac_find_rest_flags cd_Almanac_find_rest_flags ct_Almanac_find_rest_flags : Value} (a_Almanac_find_rest_flags : PySem.W.findIn K (.ref a_Almanac) "find_rest_flags" = some (some (.ref f_Almanac_find_rest_flags))) (e_Almanac_find_rest_flags : PySem.W.isFn K (.ref f_Almanac_find_rest_flags) = true)
    (l_Almanac_find_rest_flags : K.lookup f_Almanac_find_rest_flags = some ⟨oc_Almanac_find_rest_flags, od_Almanac_find_rest_flags, .func (PySem.W.fnOf "find_rest_flags" "Almanac.find_rest_flags" (defArgs s_Almanac_find_rest_flags) (defBody s_Almanac_find_rest_flags) (defScope s_Almanac_find_rest_flags) .none kV_Almanac_find_rest_flags dc_Almanac_find_rest_flags pm_Almanac_find_rest_flags an_Almanac_find_rest_flags cd_Almanac_find_rest_flags ct_Almanac_find_rest_flags), sl_Almanac_find_rest_flags⟩) (c_Almanac_find_rest_flags : PySem.W.codeIn K cd_Almanac_find_rest_flags "Almanac.find_rest_flags" = true) (k_Almanac_find_rest_flags : PySem.W.keepIn K (.ref f_Almanac_find_rest_flags) = true)
    {f_Almanac_rests : Addr} {od_Almanac_rests an_Almanac_rests : Option Addr} {sl_Almanac_rests : Array (Option Value)} {oc_Almanac_rests kV_Almanac_rests dc_Almanac_rests pm_Almanac_rests cd_Almanac_rests ct_Almanac_rests : Value} (a_Almanac_rests : PySem.W.findIn K (.ref a_Almanac) "rests" = some (some (.ref f_Almanac_rests))) (e_Almanac_rests : PySem.W.isFn K (.ref f_Almanac_rests) = true)
    (l_Almanac_rests : K.lookup f_Almanac_rests = some ⟨oc_Almanac_rests, od_Almanac_rests, .func (PySem.W.fnOf "rests" "Almanac.rests" (defArgs s_Almanac_rests) (defBody s_Almanac_rests) (defScope s_Almanac_rests) .none kV_Almanac_rests dc_Almanac_rests pm_Almanac_rests an_Almanac_rests cd_Almanac_rests ct_Almanac_rests), sl_Almanac_rests⟩) (c_Almanac_rests : PySem.W.codeIn K cd_Almanac_rests "Almanac.rests" = true) (k_Almanac_rests : PySem.W.keepIn K (.ref f_Almanac_rests) = true)
    {f_Almanac_working_days : Addr} {od_Almanac_working_days an_Almanac_working_days : Option Addr} {sl_Almanac_working_days : Array (Option Value)} {oc_Almanac_working_days kV_Almanac_working_days dc_Almanac_working_days pm_Almanac_working_days cd_Almanac_working_days ct_Almanac_working_days : Value} (a_Almanac_working_days : PySem.W.findIn K (.ref a_Almanac) "working_days" = some (some (.ref f_Almanac_working_days))) (e_Almanac_working_days : PySem.W.isFn K (.ref f_Almanac_working_days) = true)
    (l_Almanac_working_days : K.lookup f_Almanac_working_days = some ⟨oc_Almanac_working_days, od_Almanac_working_days, .func (PySem.W.fnOf "working_days" "Almanac.working_days" (defArgs s_Almanac_working_days) (defBody s_Almanac_working_days) (defScope s_Almanac_working_days) .none kV_Almanac_working_days dc_Almanac_working_days pm_Almanac_working_days an_Almanac_working_days cd_Almanac_working_days ct_Almanac_working_days), sl_Almanac_working_days⟩) (c_Almanac_working_days : PySem.W.codeIn K cd_Almanac_working_days "Almanac.working_days" = true) (k_Almanac_working_days : PySem.W.keepIn K (.ref f_Almanac_working_days) = true)
    {a_Book : Addr} (m_Book : PySem.W.nsIn K mainGlobals "Book" = some (some (.ref a_Book)))
    (pg_Book : PySem.W.plainGet K a_Book Str.empty = true) (hd_Book : PySem.W.hasDictIn K a_Book = true) (po_Book : PySem.W.plainOver K a_Book = true) (sa_Book : PySem.W.findIn K (.ref a_Book) "__setattr__" = some (some (.builtin "object.__setattr__"))) (mk_Book : PySem.W.makesIn K a_Book = true) (kc_Book : PySem.W.keepIn K (.ref a_Book) = true)
    (na_Book_closed_days : PySem.W.findIn K (.ref a_Book) "closed_days" = some none)
    (na_Book_easter_days : PySem.W.findIn K (.ref a_Book) "easter_days" = some none)
    (na_Book_stops : PySem.W.findIn K (.ref a_Book) "stops" = some none)
    (na_Book_ways : PySem.W.findIn K (.ref a_Book) "ways" = some none)
    (na_Book_week_days : PySem.W.findIn K (.ref a_Book) "week_days" = some none)
    (na_Book_yearly_days : PySem.W.findIn K (.ref a_Book) "yearly_days" = some none)
    {f_Book_init : Addr} {od_Book_init an_Book_init : Option Addr} {sl_Book_init : Array (Option Value)} {oc_Book_init kV_Book_init dc_Book_init pm_Book_init cd_Book_init ct_Book_init : Value} (a_Book_init : PySem.W.findIn K (.ref a_Book) "__init__" = some (some (.ref f_Book_init))) (e_Book_init : PySem.W.isFn K (.ref f_Book_init) = true)
    (l_Book_init : K.lookup f_Book_init = some ⟨oc_Book_init, od_Book_init, .func (PySem.W.fnOf "__init__" "Book.__init__" (defArgs s_Book_init) (defBody s_Book_init) (defScope s_Book_init) .none kV_Book_init dc_Book_init pm_Book_init an_Book_init cd_Book_init ct_Book_init), sl_Book_init⟩) (c_Book_init : PySem.W.codeIn K cd_Book_init "Book.__init__" = true) (k_Book_init : PySem.W.keepIn K (.ref f_Book_init) = true)
    {f_Book_forget_all : Addr} {od_Book_forget_all an_Book_forget_all : Option Addr} {sl_Book_forget_all : Array (Option Value)} {oc_Book_forget_all kV_Book_forget_all dc_Book_forget_all pm_Book_forget_all cd_Book_forget_all ct_Book_forget_all : Value} (a_Book_forget_all : PySem.W.findIn K (.ref a_Book) "forget_all" = some (some (.ref f_Book_forget_all))) (e_Book_forget_all : PySem.W.isFn K (.ref f_Book_forget_all) = true)
    (l_Book_forget_all : K.lookup f_Book_forget_all = some ⟨oc_Book_forget_all, od_Book_forget_all, .func (PySem.W.fnOf "forget_all" "Book.forget_all" (defArgs s_Book_forget_all) (defBody s_Book_forget_all) (defScope s_Book_forget_all) .none kV_Book_forget_all dc_Book_forget_all pm_Book_forget_all an_Book_forget_all cd_Book_forget_all ct_Book_forget_all), sl_Book_forget_all⟩) (c_Book_forget_all : PySem.W.codeIn K cd_Book_forget_all "Book.forget_all" = true) (k_Book_forget_all : PySem.W.keepIn K (.ref f_Book_forget_all) = true)
    {f_Book_is_behind_stops : Addr} {od_Book_is_behind_stops an_Book_is_behind_stops : Option Addr} {sl_Book_is_behind_stops : Array (Option Value)} {oc_Book_is_behind_stops kV_Book_is_behind_stops dc_Book_is_behind_stops pm_Book_is_behind_stops cd_Book_is_behind_stops ct_Book_is_behind_stops : Value} (a_Book_is_behind_stops : PySem.W.findIn K (.ref a_Book) "is_behind_stops" = some (some (.ref f_Book_is_behind_stops))) (e_Book_is_behind_stops : PySem.W.isFn K (.ref f_Book_is_behind_stops) = true)
    (l_Book_is_behind_stops : K.lookup f_Book_is_behind_stops = some ⟨oc_Book_is_behind_stops, od_Book_is_behind_stops, .func (PySem.W.fnOf "is_behind_stops" "Book.is_behind_stops" (defArgs s_Book_is_behind_stops) (defBody s_Book_is_behind_stops) (defScope s_Book_is_behind_stops) .none kV_Book_is_behind_stops dc_Book_is_behind_stops pm_Book_is_behind_stops an_Book_is_behind_stops cd_Book_is_behind_stops ct_Book_is_behind_stops), sl_Book_is_behind_stops⟩) (c_Book_is_behind_stops : PySem.W.codeIn K cd_Book_is_behind_stops "Book.is_behind_stops" = true) (k_Book_is_behind_stops : PySem.W.keepIn K (.ref f_Book_is_behind_stops) = true)
    {a_Span : Addr} (m_Span : PySem.W.nsIn K mainGlobals "Span" = some (some (.ref a_Span)))
    (pg_Span : PySem.W.plainGet K a_Span Str.empty = true) (hd_Span : PySem.W.hasDictIn K a_Span = true) (po_Span : PySem.W.plainOver K a_Span = true) (sa_Span : PySem.W.findIn K (.ref a_Span) "__setattr__" = some (some (.builtin "object.__setattr__"))) (mk_Span : PySem.W.makesIn K a_Span = true) (kc_Span : PySem.W.keepIn K (.ref a_Span) = true)
    (na_Span_counts : PySem.W.findIn K (.ref a_Span) "counts" = some none)
    (na_Span_months_rule : PySem.W.findIn K (.ref a_Span) "months_rule" = some none)
    (na_Span_number : PySem.W.findIn K (.ref a_Span) "number" = some none)
    (na_Span_rest_rule : PySem.W.findIn K (.ref a_Span) "rest_rule" = some none)
    (na_Span_unit : PySem.W.findIn K (.ref a_Span) "unit" = some none)
    {f_Span_init : Addr} {od_Span_init an_Span_init : Option Addr} {sl_Span_init : Array (Option Value)} {oc_Span_init kV_Span_init dc_Span_init pm_Span_init cd_Span_init ct_Span_init : Value} (a_Span_init : PySem.W.findIn K (.ref a_Span) "__init__" = some (some (.ref f_Span_init))) (e_Span_init : PySem.W.isFn K (.ref f_Span_init) = true)
    (l_Span_init : K.lookup f_Span_init = some ⟨oc_Span_init, od_Span_init, .func (PySem.W.fnOf "__init__" "Span.__init__" (defArgs s_Span_init) (defBody s_Span_init) (defScope s_Span_init) .none kV_Span_init dc_Span_init pm_Span_init an_Span_init cd_Span_init ct_Span_init), sl_Span_init⟩) (c_Span_init : PySem.W.codeIn K cd_Span_init "Span.__init__" = true) (k_Span_init : PySem.W.keepIn K (.ref f_Span_init) = true)
    {f_Span_first_day : Addr} {od_Span_first_day an_Span_first_day : Option Addr} {sl_Span_first_day : Array (Option Value)} {oc_Span_first_day kV_Span_first_day dc_Span_first_day pm_Span_first_day cd_Span_first_day ct_Span_first_day : Value} (a_Span_first_day : PySem.W.findIn K (.ref a_Span) "first_day" = some (some (.ref f_Span_first_day))) (e_Span_first_day : PySem.W.isFn K (.ref f_Span_first_day) = true)
    (l_Span_first_day : K.lookup f_Span_first_day = some ⟨oc_Span_first_day, od_Span_first_day, .func (PySem.W.fnOf "first_day" "Span.first_day" (defArgs s_Span_first_day) (defBody s_Span_first_day) (defScope s_Span_first_day) .none kV_Span_first_day dc_Span_first_day pm_Span_first_day an_Span_first_day cd_Span_first_day ct_Span_first_day), sl_Span_first_day⟩) (c_Span_first_day : PySem.W.codeIn K cd_Span_first_day "Span.first_day" = true) (k_Span_first_day : PySem.W.keepIn K (.ref f_Span_first_day) = true)
    {f_Span_plain_end : Addr} {od_Span_plain_end an_Span_plain_end : Option Addr} {sl_Span_plain_end : Array (Option Value)} {oc_Span_plain_end kV_Span_plain_end dc_Span_plain_end pm_Span_plain_end cd_Span_plain_end ct_Span_plain_end : Value} (a_Span_plain_end : PySem.W.findIn K (.ref a_Span) "plain_end" = some (some (.ref f_Span_plain_end))) (e_Span_plain_end : PySem.W.isFn K (.ref f_Span_plain_end) = true)
    (l_Span_plain_end : K.lookup f_Span_plain_end = some ⟨oc_Span_plain_end, od_Span_plain_end, .func (PySem.W.fnOf "plain_end" "Span.plain_end" (defArgs s_Span_plain_end) (defBody s_Span_plain_end) (defScope s_Span_plain_end) .none kV_Span_plain_end dc_Span_plain_end pm_Span_plain_end an_Span_plain_end cd_Span_plain_end ct_Span_plain_end), sl_Span_plain_end⟩) (c_Span_plain_end : PySem.W.codeIn K cd_Span_plain_end "Span.plain_end" = true) (k_Span_plain_end : PySem.W.keepIn K (.ref f_Span_plain_end) = true)
    {f_Span_least_length : Addr} {od_Span_least_length an_Span_least_length : Option Addr} {sl_Span_least_length : Array (Option Value)} {oc_Span_least_length kV_Span_least_length dc_Span_least_length pm_Span_least_length cd_Span_least_length ct_Span_least_length : Value} (a_Span_least_length : PySem.W.findIn K (.ref a_Span) "least_length" = some (some (.ref f_Span_least_length))) (e_Span_least_length : PySem.W.isFn K (.ref f_Span_least_length) = true)
    (l_Span_least_length : K.lookup f_Span_least_length = some ⟨oc_Span_least_length, od_Span_least_length, .func (PySem.W.fnOf "least_length" "Span.least_length" (defArgs s_Span_least_length) (defBody s_Span_least_length) (defScope s_Span_least_length) .none kV_Span_least_length dc_Span_least_length pm_Span_least_length an_Span_least_length cd_Span_least_length ct_Span_least_length), sl_Span_least_length⟩) (c_Span_least_length : PySem.W.codeIn K cd_Span_least_length "Span.least_length" = true) (k_Span_least_length : PySem.W.keepIn K (.ref f_Span_least_length) = true)
    {f_is_leap : Addr} {od_is_leap an_is_leap : Option Addr} {sl_is_leap : Array (Option Value)} {oc_is_leap kV_is_leap dc_is_leap pm_is_leap cd_is_leap ct_is_leap : Value} (a_is_leap : PySem.W.nsIn K mainGlobals "is_leap" = some (some (.ref f_is_leap)))
    (l_is_leap : K.lookup f_is_leap = some ⟨oc_is_leap, od_is_leap, .func (PySem.W.fnOf "is_leap" "is_leap" (defArgs s_is_leap) (defBody s_is_leap) (defScope s_is_leap) .none kV_is_leap dc_is_leap pm_is_leap an_is_leap cd_is_leap ct_is_leap), sl_is_leap⟩) (c_is_leap : PySem.W.codeIn K cd_is_leap "is_leap" = true) (k_is_leap : PySem.W.keepIn K (.ref f_is_leap) = true)
    {f_month_length : Addr} {od_month_length an_month_length : Option Addr} {sl_month_length : Array (Option Value)} {oc_month_length kV_month_length dc_month_length pm_month_length cd_month_length ct_month_length : Value} (a_month_length : PySem.W.nsIn K mainGlobals "month_length" = some (some (.ref f_month_length)))
    (l_month_length : K.lookup f_month_length = some ⟨oc_month_length, od_month_length, .func (PySem.W.fnOf "month_length" "month_length" (defArgs s_month_length) (defBody s_month_length) (defScope s_month_length) .none kV_month_length dc_month_length pm_month_length an_month_length cd_month_length ct_month_length), sl_month_length⟩) (c_month_length : PySem.W.codeIn K cd_month_length "month_length" = true) (k_month_length : PySem.W.keepIn K (.ref f_month_length) = true)
    {f_has_day : Addr} {od_has_day an_has_day : Option Addr} {sl_has_day : Array (Option Value)} {oc_has_day kV_has_day dc_has_day pm_has_day cd_has_day ct_has_day : Value} (a_has_day : PySem.W.nsIn K mainGlobals "has_day" = some (some (.ref f_has_day)))
    (l_has_day : K.lookup f_has_day = some ⟨oc_has_day, od_has_day, .func (PySem.W.fnOf "has_day" "has_day" (defArgs s_has_day) (defBody s_has_day) (defScope s_has_day) .none kV_has_day dc_has_day pm_has_day an_has_day cd_has_day ct_has_day), sl_has_day⟩) (c_has_day : PySem.W.codeIn K cd_has_day "has_day" = true) (k_has_day : PySem.W.keepIn K (.ref f_has_day) = true)
    {f_is_year : Addr} {od_is_year an_is_year : Option Addr} {sl_is_year : Array (Option Value)} {oc_is_year kV_is_year dc_is_year pm_is_year cd_is_year ct_is_year : Value} (a_is_year : PySem.W.nsIn K mainGlobals "is_year" = some (some (.ref f_is_year)))
    (l_is_year : K.lookup f_is_year = some ⟨oc_is_year, od_is_year, .func (PySem.W.fnOf "is_year" "is_year" (defArgs s_is_year) (defBody s_is_year) (defScope s_is_year) .none kV_is_year dc_is_year pm_is_year an_is_year cd_is_year ct_is_year), sl_is_year⟩) (c_is_year : PySem.W.codeIn K cd_is_year "is_year" = true) (k_is_year : PySem.W.keepIn K (.ref f_is_year) = true)
    {f_is_date : Addr} {od_is_date an_is_date : Option Addr} {sl_is_date : Array (Option Value)} {oc_is_date kV_is_date dc_is_date pm_is_date cd_is_date ct_is_date : Value} (a_is_date : PySem.W.nsIn K mainGlobals "is_date" = some (some (.ref f_is_date)))
    (l_is_date : K.lookup f_is_date = some ⟨oc_is_date, od_is_date, .func (PySem.W.fnOf "is_date" "is_date" (defArgs s_is_date) (defBody s_is_date) (defScope s_is_date) .none kV_is_date dc_is_date pm_is_date an_is_date cd_is_date ct_is_date), sl_is_date⟩) (c_is_date : PySem.W.codeIn K cd_is_date "is_date" = true) (k_is_date : PySem.W.keepIn K (.ref f_is_date) = true)
    {f_days_before_year : Addr} {od_days_before_year an_days_before_year : Option Addr} {sl_days_before_year : Array (Option Value)} {oc_days_before_year kV_days_before_year dc_days_before_year pm_days_before_year cd_days_before_year ct_days_before_year : Value} (a_days_before_year : PySem.W.nsIn K mainGlobals "days_before_year" = some (some (.ref f_days_before_year)))
    (l_days_before_year : K.lookup f_days_before_year = some ⟨oc_days_before_year, od_days_before_year, .func (PySem.W.fnOf "days_before_year" "days_before_year" (defArgs s_days_before_year) (defBody s_days_before_year) (defScope s_days_before_year) .none kV_days_before_year dc_days_before_year pm_days_before_year an_days_before_year cd_days_before_year ct_days_before_year), sl_days_before_year⟩) (c_days_before_year : PySem.W.codeIn K cd_days_before_year "days_before_year" = true) (k_days_before_year : PySem.W.keepIn K (.ref f_days_before_year) = true)
    {f_day_number : Addr} {od_day_number an_day_number : Option Addr} {sl_day_number : Array (Option Value)} {oc_day_number kV_day_number dc_day_number pm_day_number cd_day_number ct_day_number : Value} (a_day_number : PySem.W.nsIn K mainGlobals "day_number" = some (some (.ref f_day_number)))
    (l_day_number : K.lookup f_day_number = some ⟨oc_day_number, od_day_number, .func (PySem.W.fnOf "day_number" "day_number" (defArgs s_day_number) (defBody s_day_number) (defScope s_day_number) .none kV_day_number dc_day_number pm_day_number an_day_number cd_day_number ct_day_number), sl_day_number⟩) (c_day_number : PySem.W.codeIn K cd_day_number "day_number" = true) (k_day_number : PySem.W.keepIn K (.ref f_day_number) = true)
    {f_year_of : Addr} {od_year_of an_year_of : Option Addr} {sl_year_of : Array (Option Value)} {oc_year_of kV_year_of dc_year_of pm_year_of cd_year_of ct_year_of : Value} (a_year_of : PySem.W.nsIn K mainGlobals "year_of" = some (some (.ref f_year_of)))
    (l_year_of : K.lookup f_year_of = some ⟨oc_year_of, od_year_of, .func (PySem.W.fnOf "year_of" "year_of" (defArgs s_year_of) (defBody s_year_of) (defScope s_year_of) .none kV_year_of dc_year_of pm_year_of an_year_of cd_year_of ct_year_of), sl_year_of⟩) (c_year_of : PySem.W.codeIn K cd_year_of "year_of" = true) (k_year_of : PySem.W.keepIn K (.ref f_year_of) = true)
    {f_date_of : Addr} {od_date_of an_date_of : Option Addr} {sl_date_of : Array (Option Value)} {oc_date_of kV_date_of dc_date_of pm_date_of cd_date_of ct_date_of : Value} (a_date_of : PySem.W.nsIn K mainGlobals "date_of" = some (some (.ref f_date_of)))
    (l_date_of : K.lookup f_date_of = some ⟨oc_date_of, od_date_of, .func (PySem.W.fnOf "date_of" "date_of" (defArgs s_date_of) (defBody s_date_of) (defScope s_date_of) .none kV_date_of dc_date_of pm_date_of an_date_of cd_date_of ct_date_of), sl_date_of⟩) (c_date_of : PySem.W.codeIn K cd_date_of "date_of" = true) (k_date_of : PySem.W.keepIn K (.ref f_date_of) = true)
    {f_months_of : Addr} {od_months_of an_months_of : Option Addr} {sl_months_of : Array (Option Value)} {oc_months_of kV_months_of dc_months_of pm_months_of cd_months_of ct_months_of : Value} (a_months_of : PySem.W.nsIn K mainGlobals "months_of" = some (some (.ref f_months_of)))
    (l_months_of : K.lookup f_months_of = some ⟨oc_months_of, od_months_of, .func (PySem.W.fnOf "months_of" "months_of" (defArgs s_months_of) (defBody s_months_of) (defScope s_months_of) .none kV_months_of dc_months_of pm_months_of an_months_of cd_months_of ct_months_of), sl_months_of⟩) (c_months_of : PySem.W.codeIn K cd_months_of "months_of" = true) (k_months_of : PySem.W.keepIn K (.ref f_months_of) = true)
    {f_months_behind : Addr} {od_months_behind an_months_behind : Option Addr} {sl_months_behind : Array (Option Value)} {oc_months_behind kV_months_behind dc_months_behind pm_months_behind cd_months_behind ct_months_behind : Value} (a_months_behind : PySem.W.nsIn K mainGlobals "months_behind" = some (some (.ref f_months_behind)))
    (l_months_behind : K.lookup f_months_behind = some ⟨oc_months_behind, od_months_behind, .func (PySem.W.fnOf "months_behind" "months_behind" (defArgs s_months_behind) (defBody s_months_behind) (defScope s_months_behind) .none kV_months_behind dc_months_behind pm_months_behind an_months_behind cd_months_behind ct_months_behind), sl_months_behind⟩) (c_months_behind : PySem.W.codeIn K cd_months_behind "months_behind" = true) (k_months_behind : PySem.W.keepIn K (.ref f_months_behind) = true)
    {f_whole_months : Addr} {od_whole_months an_whole_months : Option Addr} {sl_whole_months : Array (Option Value)} {oc_whole_months kV_whole_months dc_whole_months pm_whole_months cd_whole_months ct_whole_months : Value} (a_whole_months : PySem.W.nsIn K mainGlobals "whole_months" = some (some (.ref f_whole_months)))
    (l_whole_months : K.lookup f_whole_months = some ⟨oc_whole_months, od_whole_months, .func (PySem.W.fnOf "whole_months" "whole_months" (defArgs s_whole_months) (defBody s_whole_months) (defScope s_whole_months) .none kV_whole_months dc_whole_months pm_whole_months an_whole_months cd_whole_months ct_whole_months), sl_whole_months⟩) (c_whole_months : PySem.W.codeIn K cd_whole_months "whole_months" = true) (k_whole_months : PySem.W.keepIn K (.ref f_whole_months) = true)
    {f_weekday : Addr} {od_weekday an_weekday : Option Addr} {sl_weekday : Array (Option Value)} {oc_weekday kV_weekday dc_weekday pm_weekday cd_weekday ct_weekday : Value} (a_weekday : PySem.W.nsIn K mainGlobals "weekday" = some (some (.ref f_weekday)))
    (l_weekday : K.lookup f_weekday = some ⟨oc_weekday, od_weekday, .func (PySem.W.fnOf "weekday" "weekday" (defArgs s_weekday) (defBody s_weekday) (defScope s_weekday) .none kV_weekday dc_weekday pm_weekday an_weekday cd_weekday ct_weekday), sl_weekday⟩) (c_weekday : PySem.W.codeIn K cd_weekday "weekday" = true) (k_weekday : PySem.W.keepIn K (.ref f_weekday) = true)
    {f_easter : Addr} {od_easter an_easter : Option Addr} {sl_easter : Array (Option Value)} {oc_easter kV_easter dc_easter pm_easter cd_easter ct_easter : Value} (a_easter : PySem.W.nsIn K mainGlobals "easter" = some (some (.ref f_easter)))
    (l_easter : K.lookup f_easter = some ⟨oc_easter, od_easter, .func (PySem.W.fnOf "easter" "easter" (defArgs s_easter) (defBody s_easter) (defScope s_easter) .none kV_easter dc_easter pm_easter an_easter cd_easter ct_easter), sl_easter⟩) (c_easter : PySem.W.codeIn K cd_easter "easter" = true) (k_easter : PySem.W.keepIn K (.ref f_easter) = true)
    {f_put_off : Addr} {od_put_off an_put_off : Option Addr} {sl_put_off : Array (Option Value)} {oc_put_off kV_put_off dc_put_off pm_put_off cd_put_off ct_put_off : Value} (a_put_off : PySem.W.nsIn K mainGlobals "put_off" = some (some (.ref f_put_off)))
    (l_put_off : K.lookup f_put_off = some ⟨oc_put_off, od_put_off, .func (PySem.W.fnOf "put_off" "put_off" (defArgs s_put_off) (defBody s_put_off) (defScope s_put_off) .none kV_put_off dc_put_off pm_put_off an_put_off cd_put_off ct_put_off), sl_put_off⟩) (c_put_off : PySem.W.codeIn K cd_put_off "put_off" = true) (k_put_off : PySem.W.keepIn K (.ref f_put_off) = true)
    {f_next_open : Addr} {od_next_open an_next_open : Option Addr} {sl_next_open : Array (Option Value)} {oc_next_open kV_next_open dc_next_open pm_next_open cd_next_open ct_next_open : Value} (a_next_open : PySem.W.nsIn K mainGlobals "next_open" = some (some (.ref f_next_open)))
    (l_next_open : K.lookup f_next_open = some ⟨oc_next_open, od_next_open, .func (PySem.W.fnOf "next_open" "next_open" (defArgs s_next_open) (defBody s_next_open) (defScope s_next_open) .none kV_next_open dc_next_open pm_next_open an_next_open cd_next_open ct_next_open), sl_next_open⟩) (c_next_open : PySem.W.codeIn K cd_next_open "next_open" = true) (k_next_open : PySem.W.keepIn K (.ref f_next_open) = true)
    {f_last_open : Addr} {od_last_open an_last_open : Option Addr} {sl_last_open : Array (Option Value)} {oc_last_open kV_last_open dc_last_open pm_last_open cd_last_open ct_last_open : Value} (a_last_open : PySem.W.nsIn K mainGlobals "last_open" = some (some (.ref f_last_open)))
    (l_last_open : K.lookup f_last_open = some ⟨oc_last_open, od_last_open, .func (PySem.W.fnOf "last_open" "last_open" (defArgs s_last_open) (defBody s_last_open) (defScope s_last_open) .none kV_last_open dc_last_open pm_last_open an_last_open cd_last_open ct_last_open), sl_last_open⟩) (c_last_open : PySem.W.codeIn K cd_last_open "last_open" = true) (k_last_open : PySem.W.keepIn K (.ref f_last_open) = true)
    {f_moved_off_rest : Addr} {od_moved_off_rest an_moved_off_rest : Option Addr} {sl_moved_off_rest : Array (Option Value)} {oc_moved_off_rest kV_moved_off_rest dc_moved_off_rest pm_moved_off_rest cd_moved_off_rest ct_moved_off_rest : Value} (a_moved_off_rest : PySem.W.nsIn K mainGlobals "moved_off_rest" = some (some (.ref f_moved_off_rest)))
    (l_moved_off_rest : K.lookup f_moved_off_rest = some ⟨oc_moved_off_rest, od_moved_off_rest, .func (PySem.W.fnOf "moved_off_rest" "moved_off_rest" (defArgs s_moved_off_rest) (defBody s_moved_off_rest) (defScope s_moved_off_rest) .none kV_moved_off_rest dc_moved_off_rest pm_moved_off_rest an_moved_off_rest cd_moved_off_rest ct_moved_off_rest), sl_moved_off_rest⟩) (c_moved_off_rest : PySem.W.codeIn K cd_moved_off_rest "moved_off_rest" = true) (k_moved_off_rest : PySem.W.keepIn K (.ref f_moved_off_rest) = true)
    {f_years_from : Addr} {od_years_from an_years_from : Option Addr} {sl_years_from : Array (Option Value)} {oc_years_from kV_years_from dc_years_from pm_years_from cd_years_from ct_years_from : Value} (a_years_from : PySem.W.nsIn K mainGlobals "years_from" = some (some (.ref f_years_from)))
    (l_years_from : K.lookup f_years_from = some ⟨oc_years_from, od_years_from, .func (PySem.W.fnOf "years_from" "years_from" (defArgs s_years_from) (defBody s_years_from) (defScope s_years_from) .none kV_years_from dc_years_from pm_years_from an_years_from cd_years_from ct_years_from), sl_years_from⟩) (c_years_from : PySem.W.codeIn K cd_years_from "years_from" = true) (k_years_from : PySem.W.keepIn K (.ref f_years_from) = true)
    {f_last_working_day : Addr} {od_last_working_day an_last_working_day : Option Addr} {sl_last_working_day : Array (Option Value)} {oc_last_working_day kV_last_working_day dc_last_working_day pm_last_working_day cd_last_working_day ct_last_working_day : Value} (a_last_working_day : PySem.W.nsIn K mainGlobals "last_working_day" = some (some (.ref f_last_working_day)))
    (l_last_working_day : K.lookup f_last_working_day = some ⟨oc_last_working_day, od_last_working_day, .func (PySem.W.fnOf "last_working_day" "last_working_day" (defArgs s_last_working_day) (defBody s_last_working_day) (defScope s_last_working_day) .none kV_last_working_day dc_last_working_day pm_last_working_day an_last_working_day cd_last_working_day ct_last_working_day), sl_last_working_day⟩) (c_last_working_day : PySem.W.codeIn K cd_last_working_day "last_working_day" = true) (k_last_working_day : PySem.W.keepIn K (.ref f_last_working_day) = true)
    {f_count_working_days : Addr} {od_count_working_days an_count_working_days : Option Addr} {sl_count_working_days : Array (Option Value)} {oc_count_working_days kV_count_working_days dc_count_working_days pm_count_working_days cd_count_working_days ct_count_working_days : Value} (a_count_working_days : PySem.W.nsIn K mainGlobals "count_working_days" = some (some (.ref f_count_working_days)))
    (l_count_working_days : K.lookup f_count_working_days = some ⟨oc_count_working_days, od_count_working_days, .func (PySem.W.fnOf "count_working_days" "count_working_days" (defArgs s_count_working_days) (defBody s_count_working_days) (defScope s_count_working_days) .none kV_count_working_days dc_count_working_days pm_count_working_days an_count_working_days cd_count_working_days ct_count_working_days), sl_count_working_days⟩) (c_count_working_days : PySem.W.codeIn K cd_count_working_days "count_working_days" = true) (k_count_working_days : PySem.W.keepIn K (.ref f_count_working_days) = true)
    {f_last_day : Addr} {od_last_day an_last_day : Option Addr} {sl_last_day : Array (Option Value)} {oc_last_day kV_last_day dc_last_day pm_last_day cd_last_day ct_last_day : Value} (a_last_day : PySem.W.nsIn K mainGlobals "last_day" = some (some (.ref f_last_day)))
    (l_last_day : K.lookup f_last_day = some ⟨oc_last_day, od_last_day, .func (PySem.W.fnOf "last_day" "last_day" (defArgs s_last_day) (defBody s_last_day) (defScope s_last_day) .none kV_last_day dc_last_day pm_last_day an_last_day cd_last_day ct_last_day), sl_last_day⟩) (c_last_day : PySem.W.codeIn K cd_last_day "last_day" = true) (k_last_day : PySem.W.keepIn K (.ref f_last_day) = true)
    {f_last_day_anew : Addr} {od_last_day_anew an_last_day_anew : Option Addr} {sl_last_day_anew : Array (Option Value)} {oc_last_day_anew kV_last_day_anew dc_last_day_anew pm_last_day_anew cd_last_day_anew ct_last_day_anew : Value} (a_last_day_anew : PySem.W.nsIn K mainGlobals "last_day_anew" = some (some (.ref f_last_day_anew)))
    (l_last_day_anew : K.lookup f_last_day_anew = some ⟨oc_last_day_anew, od_last_day_anew, .func (PySem.W.fnOf "last_day_anew" "last_day_anew" (defArgs s_last_day_anew) (defBody s_last_day_anew) (defScope s_last_day_anew) .none kV_last_day_anew dc_last_day_anew pm_last_day_anew an_last_day_anew cd_last_day_anew ct_last_day_anew), sl_last_day_anew⟩) (c_last_day_anew : PySem.W.codeIn K cd_last_day_anew "last_day_anew" = true) (k_last_day_anew : PySem.W.keepIn K (.ref f_last_day_anew) = true)
    {f_latest_event : Addr} {od_latest_event an_latest_event : Option Addr} {sl_latest_event : Array (Option Value)} {oc_latest_event kV_latest_event dc_latest_event pm_latest_event cd_latest_event ct_latest_event : Value} (a_latest_event : PySem.W.nsIn K mainGlobals "latest_event" = some (some (.ref f_latest_event)))
    (l_latest_event : K.lookup f_latest_event = some ⟨oc_latest_event, od_latest_event, .func (PySem.W.fnOf "latest_event" "latest_event" (defArgs s_latest_event) (defBody s_latest_event) (defScope s_latest_event) .none kV_latest_event dc_latest_event pm_latest_event an_latest_event cd_latest_event ct_latest_event), sl_latest_event⟩) (c_latest_event : PySem.W.codeIn K cd_latest_event "latest_event" = true) (k_latest_event : PySem.W.keepIn K (.ref f_latest_event) = true)
    {f_is_in_time : Addr} {od_is_in_time an_is_in_time : Option Addr} {sl_is_in_time : Array (Option Value)} {oc_is_in_time kV_is_in_time dc_is_in_time pm_is_in_time cd_is_in_time ct_is_in_time : Value} (a_is_in_time : PySem.W.nsIn K mainGlobals "is_in_time" = some (some (.ref f_is_in_time)))
    (l_is_in_time : K.lookup f_is_in_time = some ⟨oc_is_in_time, od_is_in_time, .func (PySem.W.fnOf "is_in_time" "is_in_time" (defArgs s_is_in_time) (defBody s_is_in_time) (defScope s_is_in_time) .none kV_is_in_time dc_is_in_time pm_is_in_time an_is_in_time cd_is_in_time ct_is_in_time), sl_is_in_time⟩) (c_is_in_time : PySem.W.codeIn K cd_is_in_time "is_in_time" = true) (k_is_in_time : PySem.W.keepIn K (.ref f_is_in_time) = true)
    {f_begins : Addr} {od_begins an_begins : Option Addr} {sl_begins : Array (Option Value)} {oc_begins kV_begins dc_begins pm_begins cd_begins ct_begins : Value} (a_begins : PySem.W.nsIn K mainGlobals "begins" = some (some (.ref f_begins)))
    (l_begins : K.lookup f_begins = some ⟨oc_begins, od_begins, .func (PySem.W.fnOf "begins" "begins" (defArgs s_begins) (defBody s_begins) (defScope s_begins) .none kV_begins dc_begins pm_begins an_begins cd_begins ct_begins), sl_begins⟩) (c_begins : PySem.W.codeIn K cd_begins "begins" = true) (k_begins : PySem.W.keepIn K (.ref f_begins) = true)
    {f_are_weekdays : Addr} {od_are_weekdays an_are_weekdays : Option Addr} {sl_are_weekdays : Array (Option Value)} {oc_are_weekdays kV_are_weekdays dc_are_weekdays pm_are_weekdays cd_are_weekdays ct_are_weekdays : Value} (a_are_weekdays : PySem.W.nsIn K mainGlobals "are_weekdays" = some (some (.ref f_are_weekdays)))
    (l_are_weekdays : K.lookup f_are_weekdays = some ⟨oc_are_weekdays, od_are_weekdays, .func (PySem.W.fnOf "are_weekdays" "are_weekdays" (defArgs s_are_weekdays) (defBody s_are_weekdays) (defScope s_are_weekdays) .none kV_are_weekdays dc_are_weekdays pm_are_weekdays an_are_weekdays cd_are_weekdays ct_are_weekdays), sl_are_weekdays⟩) (c_are_weekdays : PySem.W.codeIn K cd_are_weekdays "are_weekdays" = true) (k_are_weekdays : PySem.W.keepIn K (.ref f_are_weekdays) = true)
    {f_week : Addr} {od_week an_week : Option Addr} {sl_week : Array (Option Value)} {oc_week kV_week dc_week pm_week cd_week ct_week : Value} (a_week : PySem.W.nsIn K mainGlobals "week" = some (some (.ref f_week)))
    (l_week : K.lookup f_week = some ⟨oc_week, od_week, .func (PySem.W.fnOf "week" "week" (defArgs s_week) (defBody s_week) (defScope s_week) .none kV_week dc_week pm_week an_week cd_week ct_week), sl_week⟩) (c_week : PySem.W.codeIn K cd_week "week" = true) (k_week : PySem.W.keepIn K (.ref f_week) = true)
    {f_add_day : Addr} {od_add_day an_add_day : Option Addr} {sl_add_day : Array (Option Value)} {oc_add_day kV_add_day dc_add_day pm_add_day cd_add_day ct_add_day : Value} (a_add_day : PySem.W.nsIn K mainGlobals "add_day" = some (some (.ref f_add_day)))
    (l_add_day : K.lookup f_add_day = some ⟨oc_add_day, od_add_day, .func (PySem.W.fnOf "add_day" "add_day" (defArgs s_add_day) (defBody s_add_day) (defScope s_add_day) .none kV_add_day dc_add_day pm_add_day an_add_day cd_add_day ct_add_day), sl_add_day⟩) (c_add_day : PySem.W.codeIn K cd_add_day "add_day" = true) (k_add_day : PySem.W.keepIn K (.ref f_add_day) = true)
    {f_yearly : Addr} {od_yearly an_yearly : Option Addr} {sl_yearly : Array (Option Value)} {oc_yearly kV_yearly dc_yearly pm_yearly cd_yearly ct_yearly : Value} (a_yearly : PySem.W.nsIn K mainGlobals "yearly" = some (some (.ref f_yearly)))
    (l_yearly : K.lookup f_yearly = some ⟨oc_yearly, od_yearly, .func (PySem.W.fnOf "yearly" "yearly" (defArgs s_yearly) (defBody s_yearly) (defScope s_yearly) .none kV_yearly dc_yearly pm_yearly an_yearly cd_yearly ct_yearly), sl_yearly⟩) (c_yearly : PySem.W.codeIn K cd_yearly "yearly" = true) (k_yearly : PySem.W.keepIn K (.ref f_yearly) = true)
    {f_easters : Addr} {od_easters an_easters : Option Addr} {sl_easters : Array (Option Value)} {oc_easters kV_easters dc_easters pm_easters cd_easters ct_easters : Value} (a_easters : PySem.W.nsIn K mainGlobals "easters" = some (some (.ref f_easters)))
    (l_easters : K.lookup f_easters = some ⟨oc_easters, od_easters, .func (PySem.W.fnOf "easters" "easters" (defArgs s_easters) (defBody s_easters) (defScope s_easters) .none kV_easters dc_easters pm_easters an_easters cd_easters ct_easters), sl_easters⟩) (c_easters : PySem.W.codeIn K cd_easters "easters" = true) (k_easters : PySem.W.keepIn K (.ref f_easters) = true)
    {f_closed : Addr} {od_closed an_closed : Option Addr} {sl_closed : Array (Option Value)} {oc_closed kV_closed dc_closed pm_closed cd_closed ct_closed : Value} (a_closed : PySem.W.nsIn K mainGlobals "closed" = some (some (.ref f_closed)))
    (l_closed : K.lookup f_closed = some ⟨oc_closed, od_closed, .func (PySem.W.fnOf "closed" "closed" (defArgs s_closed) (defBody s_closed) (defScope s_closed) .none kV_closed dc_closed pm_closed an_closed cd_closed ct_closed), sl_closed⟩) (c_closed : PySem.W.codeIn K cd_closed "closed" = true) (k_closed : PySem.W.keepIn K (.ref f_closed) = true)
    {f_way : Addr} {od_way an_way : Option Addr} {sl_way : Array (Option Value)} {oc_way kV_way dc_way pm_way cd_way ct_way : Value} (a_way : PySem.W.nsIn K mainGlobals "way" = some (some (.ref f_way)))
    (l_way : K.lookup f_way = some ⟨oc_way, od_way, .func (PySem.W.fnOf "way" "way" (defArgs s_way) (defBody s_way) (defScope s_way) .none kV_way dc_way pm_way an_way cd_way ct_way), sl_way⟩) (c_way : PySem.W.codeIn K cd_way "way" = true) (k_way : PySem.W.keepIn K (.ref f_way) = true)
    {f_stop : Addr} {od_stop an_stop : Option Addr} {sl_stop : Array (Option Value)} {oc_stop kV_stop dc_stop pm_stop cd_stop ct_stop : Value} (a_stop : PySem.W.nsIn K mainGlobals "stop" = some (some (.ref f_stop)))
    (l_stop : K.lookup f_stop = some ⟨oc_stop, od_stop, .func (PySem.W.fnOf "stop" "stop" (defArgs s_stop) (defBody s_stop) (defScope s_stop) .none kV_stop dc_stop pm_stop an_stop cd_stop ct_stop), sl_stop⟩) (c_stop : PySem.W.codeIn K cd_stop "stop" = true) (k_stop : PySem.W.keepIn K (.ref f_stop) = true)
    {f_rest : Addr} {od_rest an_rest : Option Addr} {sl_rest : Array (Option Value)} {oc_rest kV_rest dc_rest pm_rest cd_rest ct_rest : Value} (a_rest : PySem.W.nsIn K mainGlobals "rest" = some (some (.ref f_rest)))
    (l_rest : K.lookup f_rest = some ⟨oc_rest, od_rest, .func (PySem.W.fnOf "rest" "rest" (defArgs s_rest) (defBody s_rest) (defScope s_rest) .none kV_rest dc_rest pm_rest an_rest cd_rest ct_rest), sl_rest⟩) (c_rest : PySem.W.codeIn K cd_rest "rest" = true) (k_rest : PySem.W.keepIn K (.ref f_rest) = true)
    {f_is_span : Addr} {od_is_span an_is_span : Option Addr} {sl_is_span : Array (Option Value)} {oc_is_span kV_is_span dc_is_span pm_is_span cd_is_span ct_is_span : Value} (a_is_span : PySem.W.nsIn K mainGlobals "is_span" = some (some (.ref f_is_span)))
    (l_is_span : K.lookup f_is_span = some ⟨oc_is_span, od_is_span, .func (PySem.W.fnOf "is_span" "is_span" (defArgs s_is_span) (defBody s_is_span) (defScope s_is_span) .none kV_is_span dc_is_span pm_is_span an_is_span cd_is_span ct_is_span), sl_is_span⟩) (c_is_span : PySem.W.codeIn K cd_is_span "is_span" = true) (k_is_span : PySem.W.keepIn K (.ref f_is_span) = true)
    {f_refused_span : Addr} {od_refused_span an_refused_span : Option Addr} {sl_refused_span : Array (Option Value)} {oc_refused_span kV_refused_span dc_refused_span pm_refused_span cd_refused_span ct_refused_span : Value} (a_refused_span : PySem.W.nsIn K mainGlobals "refused_span" = some (some (.ref f_refused_span)))
    (l_refused_span : K.lookup f_refused_span = some ⟨oc_refused_span, od_refused_span, .func (PySem.W.fnOf "refused_span" "refused_span" (defArgs s_refused_span) (defBody s_refused_span) (defScope s_refused_span) .none kV_refused_span dc_refused_span pm_refused_span an_refused_span cd_refused_span ct_refused_span), sl_refused_span⟩) (c_refused_span : PySem.W.codeIn K cd_refused_span "refused_span" = true) (k_refused_span : PySem.W.keepIn K (.ref f_refused_span) = true)
    {f_span_of : Addr} {od_span_of an_span_of : Option Addr} {sl_span_of : Array (Option Value)} {oc_span_of kV_span_of dc_span_of pm_span_of cd_span_of ct_span_of : Value} (a_span_of : PySem.W.nsIn K mainGlobals "span_of" = some (some (.ref f_span_of)))
    (l_span_of : K.lookup f_span_of = some ⟨oc_span_of, od_span_of, .func (PySem.W.fnOf "span_of" "span_of" (defArgs s_span_of) (defBody s_span_of) (defScope s_span_of) .none kV_span_of dc_span_of pm_span_of an_span_of cd_span_of ct_span_of), sl_span_of⟩) (c_span_of : PySem.W.codeIn K cd_span_of "span_of" = true) (k_span_of : PySem.W.keepIn K (.ref f_span_of) = true)
    {f_told_day : Addr} {od_told_day an_told_day : Option Addr} {sl_told_day : Array (Option Value)} {oc_told_day kV_told_day dc_told_day pm_told_day cd_told_day ct_told_day : Value} (a_told_day : PySem.W.nsIn K mainGlobals "told_day" = some (some (.ref f_told_day)))
    (l_told_day : K.lookup f_told_day = some ⟨oc_told_day, od_told_day, .func (PySem.W.fnOf "told_day" "told_day" (defArgs s_told_day) (defBody s_told_day) (defScope s_told_day) .none kV_told_day dc_told_day pm_told_day an_told_day cd_told_day ct_told_day), sl_told_day⟩) (c_told_day : PySem.W.codeIn K cd_told_day "told_day" = true) (k_told_day : PySem.W.keepIn K (.ref f_told_day) = true)
    {f_last : Addr} {od_last an_last : Option Addr} {sl_last : Array (Option Value)} {oc_last kV_last dc_last pm_last cd_last ct_last : Value} (a_last : PySem.W.nsIn K mainGlobals "last" = some (some (.ref f_last)))
    (l_last : K.lookup f_last = some ⟨oc_last, od_last, .func (PySem.W.fnOf "last" "last" (defArgs s_last) (defBody s_last) (defScope s_last) .none kV_last dc_last pm_last an_last cd_last ct_last), sl_last⟩) (c_last : PySem.W.codeIn K cd_last "last" = true) (k_last : PySem.W.keepIn K (.ref f_last) = true)
    {f_in_dates : Addr} {od_in_dates an_in_dates : Option Addr} {sl_in_dates : Array (Option Value)} {oc_in_dates kV_in_dates dc_in_dates pm_in_dates cd_in_dates ct_in_dates : Value} (a_in_dates : PySem.W.nsIn K mainGlobals "in_dates" = some (some (.ref f_in_dates)))
    (l_in_dates : K.lookup f_in_dates = some ⟨oc_in_dates, od_in_dates, .func (PySem.W.fnOf "in_dates" "in_dates" (defArgs s_in_dates) (defBody s_in_dates) (defScope s_in_dates) .none kV_in_dates dc_in_dates pm_in_dates an_in_dates cd_in_dates ct_in_dates), sl_in_dates⟩) (c_in_dates : PySem.W.codeIn K cd_in_dates "in_dates" = true) (k_in_dates : PySem.W.keepIn K (.ref f_in_dates) = true)
    {f_are_dates : Addr} {od_are_dates an_are_dates : Option Addr} {sl_are_dates : Array (Option Value)} {oc_are_dates kV_are_dates dc_are_dates pm_are_dates cd_are_dates ct_are_dates : Value} (a_are_dates : PySem.W.nsIn K mainGlobals "are_dates" = some (some (.ref f_are_dates)))
    (l_are_dates : K.lookup f_are_dates = some ⟨oc_are_dates, od_are_dates, .func (PySem.W.fnOf "are_dates" "are_dates" (defArgs s_are_dates) (defBody s_are_dates) (defScope s_are_dates) .none kV_are_dates dc_are_dates pm_are_dates an_are_dates cd_are_dates ct_are_dates), sl_are_dates⟩) (c_are_dates : PySem.W.codeIn K cd_are_dates "are_dates" = true) (k_are_dates : PySem.W.keepIn K (.ref f_are_dates) = true)
    {f_do_rise : Addr} {od_do_rise an_do_rise : Option Addr} {sl_do_rise : Array (Option Value)} {oc_do_rise kV_do_rise dc_do_rise pm_do_rise cd_do_rise ct_do_rise : Value} (a_do_rise : PySem.W.nsIn K mainGlobals "do_rise" = some (some (.ref f_do_rise)))
    (l_do_rise : K.lookup f_do_rise = some ⟨oc_do_rise, od_do_rise, .func (PySem.W.fnOf "do_rise" "do_rise" (defArgs s_do_rise) (defBody s_do_rise) (defScope s_do_rise) .none kV_do_rise dc_do_rise pm_do_rise an_do_rise cd_do_rise ct_do_rise), sl_do_rise⟩) (c_do_rise : PySem.W.codeIn K cd_do_rise "do_rise" = true) (k_do_rise : PySem.W.keepIn K (.ref f_do_rise) = true)
    {f_anew : Addr} {od_anew an_anew : Option Addr} {sl_anew : Array (Option Value)} {oc_anew kV_anew dc_anew pm_anew cd_anew ct_anew : Value} (a_anew : PySem.W.nsIn K mainGlobals "anew" = some (some (.ref f_anew)))
    (l_anew : K.lookup f_anew = some ⟨oc_anew, od_anew, .func (PySem.W.fnOf "anew" "anew" (defArgs s_anew) (defBody s_anew) (defScope s_anew) .none kV_anew dc_anew pm_anew an_anew cd_anew ct_anew), sl_anew⟩) (c_anew : PySem.W.codeIn K cd_anew "anew" = true) (k_anew : PySem.W.keepIn K (.ref f_anew) = true)
    {f_latest : Addr} {od_latest an_latest : Option Addr} {sl_latest : Array (Option Value)} {oc_latest kV_latest dc_latest pm_latest cd_latest ct_latest : Value} (a_latest : PySem.W.nsIn K mainGlobals "latest" = some (some (.ref f_latest)))
    (l_latest : K.lookup f_latest = some ⟨oc_latest, od_latest, .func (PySem.W.fnOf "latest" "latest" (defArgs s_latest) (defBody s_latest) (defScope s_latest) .none kV_latest dc_latest pm_latest an_latest cd_latest ct_latest), sl_latest⟩) (c_latest : PySem.W.codeIn K cd_latest "latest" = true) (k_latest : PySem.W.keepIn K (.ref f_latest) = true)
    {f_in_time : Addr} {od_in_time an_in_time : Option Addr} {sl_in_time : Array (Option Value)} {oc_in_time kV_in_time dc_in_time pm_in_time cd_in_time ct_in_time : Value} (a_in_time : PySem.W.nsIn K mainGlobals "in_time" = some (some (.ref f_in_time)))
    (l_in_time : K.lookup f_in_time = some ⟨oc_in_time, od_in_time, .func (PySem.W.fnOf "in_time" "in_time" (defArgs s_in_time) (defBody s_in_time) (defScope s_in_time) .none kV_in_time dc_in_time pm_in_time an_in_time cd_in_time ct_in_time), sl_in_time⟩) (c_in_time : PySem.W.codeIn K cd_in_time "in_time" = true) (k_in_time : PySem.W.keepIn K (.ref f_in_time) = true)
    {f_between : Addr} {od_between an_between : Option Addr} {sl_between : Array (Option Value)} {oc_between kV_between dc_between pm_between cd_between ct_between : Value} (a_between : PySem.W.nsIn K mainGlobals "between" = some (some (.ref f_between)))
    (l_between : K.lookup f_between = some ⟨oc_between, od_between, .func (PySem.W.fnOf "between" "between" (defArgs s_between) (defBody s_between) (defScope s_between) .none kV_between dc_between pm_between an_between cd_between ct_between), sl_between⟩) (c_between : PySem.W.codeIn K cd_between "between" = true) (k_between : PySem.W.keepIn K (.ref f_between) = true)
    {f_working : Addr} {od_working an_working : Option Addr} {sl_working : Array (Option Value)} {oc_working kV_working dc_working pm_working cd_working ct_working : Value} (a_working : PySem.W.nsIn K mainGlobals "working" = some (some (.ref f_working)))
    (l_working : K.lookup f_working = some ⟨oc_working, od_working, .func (PySem.W.fnOf "working" "working" (defArgs s_working) (defBody s_working) (defScope s_working) .none kV_working dc_working pm_working an_working cd_working ct_working), sl_working⟩) (c_working : PySem.W.codeIn K cd_working "working" = true) (k_working : PySem.W.keepIn K (.ref f_working) = true)
    {f_easter_date : Addr} {od_easter_date an_easter_date : Option Addr} {sl_easter_date : Array (Option Value)} {oc_easter_date kV_easter_date dc_easter_date pm_easter_date cd_easter_date ct_easter_date : Value} (a_easter_date : PySem.W.nsIn K mainGlobals "easter_date" = some (some (.ref f_easter_date)))
    (l_easter_date : K.lookup f_easter_date = some ⟨oc_easter_date, od_easter_date, .func (PySem.W.fnOf "easter_date" "easter_date" (defArgs s_easter_date) (defBody s_easter_date) (defScope s_easter_date) .none kV_easter_date dc_easter_date pm_easter_date an_easter_date cd_easter_date ct_easter_date), sl_easter_date⟩) (c_easter_date : PySem.W.codeIn K cd_easter_date "easter_date" = true) (k_easter_date : PySem.W.keepIn K (.ref f_easter_date) = true)
    {f_end_of_call : Addr} {od_end_of_call an_end_of_call : Option Addr} {sl_end_of_call : Array (Option Value)} {oc_end_of_call kV_end_of_call dc_end_of_call pm_end_of_call cd_end_of_call ct_end_of_call : Value} (a_end_of_call : PySem.W.nsIn K mainGlobals "end_of_call" = some (some (.ref f_end_of_call)))
    (l_end_of_call : K.lookup f_end_of_call = some ⟨oc_end_of_call, od_end_of_call, .func (PySem.W.fnOf "end_of_call" "end_of_call" (defArgs s_end_of_call) (defBody s_end_of_call) (defScope s_end_of_call) .none kV_end_of_call dc_end_of_call pm_end_of_call an_end_of_call cd_end_of_call ct_end_of_call), sl_end_of_call⟩) (c_end_of_call : PySem.W.codeIn K cd_end_of_call "end_of_call" = true) (k_end_of_call : PySem.W.keepIn K (.ref f_end_of_call) = true)
    {f_answers : Addr} {od_answers an_answers : Option Addr} {sl_answers : Array (Option Value)} {oc_answers kV_answers dc_answers pm_answers cd_answers ct_answers : Value} (a_answers : PySem.W.nsIn K mainGlobals "answers" = some (some (.ref f_answers)))
    (l_answers : K.lookup f_answers = some ⟨oc_answers, od_answers, .func (PySem.W.fnOf "answers" "answers" (defArgs s_answers) (defBody s_answers) (defScope s_answers) .none kV_answers dc_answers pm_answers an_answers cd_answers ct_answers), sl_answers⟩) (c_answers : PySem.W.codeIn K cd_answers "answers" = true) (k_answers : PySem.W.keepIn K (.ref f_answers) = true)
    {p_MONTH_LENGTHS : Addr} {its_MONTH_LENGTHS : Array Value} {d_MONTH_LENGTHS : Option Addr} {z_MONTH_LENGTHS : Nat} {y_MONTH_LENGTHS : Array (Option Value)} (u_MONTH_LENGTHS : PySem.W.nsIn K mainGlobals "MONTH_LENGTHS" = some (some (.ref p_MONTH_LENGTHS))) (v_MONTH_LENGTHS : K.lookup p_MONTH_LENGTHS = some ⟨.type "tuple", d_MONTH_LENGTHS, .seq its_MONTH_LENGTHS z_MONTH_LENGTHS, y_MONTH_LENGTHS⟩) (w_MONTH_LENGTHS : its_MONTH_LENGTHS.size ≤ sizeLine) (r_MONTH_LENGTHS : Vals (([31, 28, 31, 30, 31, 30, 31, 31, 30, 31, 30, 31] : List Int).map V.int) its_MONTH_LENGTHS.toList)
    {p_LEAST_LENGTHS : Addr} {its_LEAST_LENGTHS : Array Value} {d_LEAST_LENGTHS : Option Addr} {z_LEAST_LENGTHS : Nat} {y_LEAST_LENGTHS : Array (Option Value)} (u_LEAST_LENGTHS : PySem.W.nsIn K mainGlobals "LEAST_LENGTHS" = some (some (.ref p_LEAST_LENGTHS))) (v_LEAST_LENGTHS : K.lookup p_LEAST_LENGTHS = some ⟨.type "tuple", d_LEAST_LENGTHS, .seq its_LEAST_LENGTHS z_LEAST_LENGTHS, y_LEAST_LENGTHS⟩) (w_LEAST_LENGTHS : its_LEAST_LENGTHS.size ≤ sizeLine) (r_LEAST_LENGTHS : Vals (([1, 7, 28, 365] : List Int).map V.int) its_LEAST_LENGTHS.toList)
    {p_MOST_OF_UNIT : Addr} {its_MOST_OF_UNIT : Array Value} {d_MOST_OF_UNIT : Option Addr} {z_MOST_OF_UNIT : Nat} {y_MOST_OF_UNIT : Array (Option Value)} (u_MOST_OF_UNIT : PySem.W.nsIn K mainGlobals "MOST_OF_UNIT" = some (some (.ref p_MOST_OF_UNIT))) (v_MOST_OF_UNIT : K.lookup p_MOST_OF_UNIT = some ⟨.type "tuple", d_MOST_OF_UNIT, .seq its_MOST_OF_UNIT z_MOST_OF_UNIT, y_MOST_OF_UNIT⟩) (w_MOST_OF_UNIT : its_MOST_OF_UNIT.size ≤ sizeLine) (r_MOST_OF_UNIT : Vals (([9999, 999, 999, 99, 999] : List Int).map V.int) its_MOST_OF_UNIT.toList)
    {p_HANDLERS : Addr} {its_HANDLERS : Array Value} {d_HANDLERS : Option Addr} {z_HANDLERS : Nat} {y_HANDLERS : Array (Option Value)} (u_HANDLERS : PySem.W.nsIn K mainGlobals "HANDLERS" = some (some (.ref p_HANDLERS))) (v_HANDLERS : K.lookup p_HANDLERS = some ⟨.type "tuple", d_HANDLERS, .seq its_HANDLERS z_HANDLERS, y_HANDLERS⟩) (w_HANDLERS : its_HANDLERS.size ≤ sizeLine) (r_HANDLERS : Vals ([V.ref f_begins, V.ref f_week, V.ref f_yearly, V.ref f_easters, V.ref f_closed, V.ref f_way, V.ref f_stop, V.ref f_rest, V.ref f_last, V.ref f_anew, V.ref f_latest, V.ref f_in_time, V.ref f_between, V.ref f_working, V.ref f_easter_date]) its_HANDLERS.toList)
    {p_WHOLE_NUMBERS : Addr} {its_WHOLE_NUMBERS : Array Value} {d_WHOLE_NUMBERS : Option Addr} {z_WHOLE_NUMBERS : Nat} {y_WHOLE_NUMBERS : Array (Option Value)} (u_WHOLE_NUMBERS : PySem.W.nsIn K mainGlobals "WHOLE_NUMBERS" = some (some (.ref p_WHOLE_NUMBERS))) (v_WHOLE_NUMBERS : K.lookup p_WHOLE_NUMBERS = some ⟨.type "tuple", d_WHOLE_NUMBERS, .seq its_WHOLE_NUMBERS z_WHOLE_NUMBERS, y_WHOLE_NUMBERS⟩) (w_WHOLE_NUMBERS : its_WHOLE_NUMBERS.size ≤ sizeLine) (r_WHOLE_NUMBERS : Vals (([0, 0, 2, 1, 3, 3, 6, 3, 6, 6, 6, 8, 7, 6, 1] : List Int).map V.int) its_WHOLE_NUMBERS.toList)
    {p_ROWS : Addr} {its_ROWS : Array Value} {d_ROWS : Option Addr} {z_ROWS : Nat} {y_ROWS : Array (Option Value)} (u_ROWS : PySem.W.nsIn K mainGlobals "ROWS" = some (some (.ref p_ROWS))) (v_ROWS : K.lookup p_ROWS = some ⟨.type "tuple", d_ROWS, .seq its_ROWS z_ROWS, y_ROWS⟩) (w_ROWS : its_ROWS.size ≤ sizeLine) (r_ROWS : Vals (([0, 1, 0, 0, 0, 0, 0, 0, 0, 1, 0, 0, 0, 0, 0] : List Int).map V.int) its_ROWS.toList)
    : ∃ fd : FuncData, (∀ (s : Shared) (us : List Value), us.length = (["calls"] : List Str).length → BindsTo s fd ⟨us, []⟩ ((["calls"] : List Str).zip us)) ∧ ∀ base : Heap, K.In base → base.Ns mainGlobals mg → FnOk P w K mg base CX0 12 fa fd ["calls"] (sp_answers K) := by
  have T : Txt K mg := {
    g_FIRST_YEAR := ⟨t_FIRST_YEAR, PySem.W.mg_of X G i_FIRST_YEAR⟩
    g_LAST_YEAR := ⟨t_LAST_YEAR, PySem.W.mg_of X G i_LAST_YEAR⟩
    g_LEAP_YEAR := ⟨t_LEAP_YEAR, PySem.W.mg_of X G i_LEAP_YEAR⟩
    g_MONTHS_OF_YEAR := ⟨t_MONTHS_OF_YEAR, PySem.W.mg_of X G i_MONTHS_OF_YEAR⟩
    g_DAYS_OF_400_YEARS := ⟨t_DAYS_OF_400_YEARS, PySem.W.mg_of X G i_DAYS_OF_400_YEARS⟩
    g_FEBRUARY := ⟨t_FEBRUARY, PySem.W.mg_of X G i_FEBRUARY⟩
    g_SATURDAY := ⟨t_SATURDAY, PySem.W.mg_of X G i_SATURDAY⟩
    g_FIRST_OF_NEXT_MONTH := ⟨t_FIRST_OF_NEXT_MONTH, PySem.W.mg_of X G i_FIRST_OF_NEXT_MONTH⟩
    g_END_TO_END := ⟨t_END_TO_END, PySem.W.mg_of X G i_END_TO_END⟩
    g_DAYS := ⟨t_DAYS, PySem.W.mg_of X G i_DAYS⟩
    g_WEEKS := ⟨t_WEEKS, PySem.W.mg_of X G i_WEEKS⟩
    g_MONTHS := ⟨t_MONTHS, PySem.W.mg_of X G i_MONTHS⟩
    g_WORKING_DAYS := ⟨t_WORKING_DAYS, PySem.W.mg_of X G i_WORKING_DAYS⟩
    g_STAY := ⟨t_STAY, PySem.W.mg_of X G i_STAY⟩
    g_NEXT := ⟨t_NEXT, PySem.W.mg_of X G i_NEXT⟩
    g_BEFORE := ⟨t_BEFORE, PySem.W.mg_of X G i_BEFORE⟩
    g_FARTHEST_FROM_REST := ⟨t_FARTHEST_FROM_REST, PySem.W.mg_of X G i_FARTHEST_FROM_REST⟩
    g_MOST_LOOKED_FOR_WORK := ⟨t_MOST_LOOKED_FOR_WORK, PySem.W.mg_of X G i_MOST_LOOKED_FOR_WORK⟩
    g_MOST_LOOKED_FOR_EVENT := ⟨t_MOST_LOOKED_FOR_EVENT, PySem.W.mg_of X G i_MOST_LOOKED_FOR_EVENT⟩
    g_LENGTH_LOOKED_AT_WHOLE := ⟨t_LENGTH_LOOKED_AT_WHOLE, PySem.W.mg_of X G i_LENGTH_LOOKED_AT_WHOLE⟩
    g_WRONG := ⟨t_WRONG, PySem.W.mg_of X G i_WRONG⟩
    g_NO_WAY := ⟨t_NO_WAY, PySem.W.mg_of X G i_NO_WAY⟩
    g_OUT_OF_ORDER := ⟨t_OUT_OF_ORDER, PySem.W.mg_of X G i_OUT_OF_ORDER⟩
    g_FULL := ⟨t_FULL, PySem.W.mg_of X G i_FULL⟩
    g_BEYOND := ⟨t_BEYOND, PySem.W.mg_of X G i_BEYOND⟩
    g_NO_END := ⟨t_NO_END, PySem.W.mg_of X G i_NO_END⟩
    g_LAST_WEEKDAY := ⟨t_LAST_WEEKDAY, PySem.W.mg_of X G i_LAST_WEEKDAY⟩
    g_MOST_WEEKDAYS := ⟨t_MOST_WEEKDAYS, PySem.W.mg_of X G i_MOST_WEEKDAYS⟩
    g_FARTHEST_FROM_EASTER := ⟨t_FARTHEST_FROM_EASTER, PySem.W.mg_of X G i_FARTHEST_FROM_EASTER⟩
    g_LAST_REST_RULE := ⟨t_LAST_REST_RULE, PySem.W.mg_of X G i_LAST_REST_RULE⟩
    g_LAST_MONTHS_RULE := ⟨t_LAST_MONTHS_RULE, PySem.W.mg_of X G i_LAST_MONTHS_RULE⟩
    g_MOST_DAYS := ⟨t_MOST_DAYS, PySem.W.mg_of X G i_MOST_DAYS⟩
    g_MOST_WAYS := ⟨t_MOST_WAYS, PySem.W.mg_of X G i_MOST_WAYS⟩
    g_MOST_STOPS := ⟨t_MOST_STOPS, PySem.W.mg_of X G i_MOST_STOPS⟩
    g_MOST_DAYS_LATER := ⟨t_MOST_DAYS_LATER, PySem.W.mg_of X G i_MOST_DAYS_LATER⟩
    n_range := PySem.W.mg_none_of X G n_range
    n_list := PySem.W.mg_none_of X G n_list
    n_max := PySem.W.mg_none_of X G n_max
    n_min := PySem.W.mg_none_of X G n_min
    n_len := PySem.W.mg_none_of X G n_len
    n_sum := PySem.W.mg_none_of X G n_sum
    n_abs := PySem.W.mg_none_of X G n_abs
    Almanac := ⟨a_Almanac, PySem.W.mg_of X G m_Almanac, ⟨pg_Almanac, hd_Almanac, po_Almanac, sa_Almanac⟩, fun f hf => by
          rcases List.mem_cons.mp hf with rfl | hf
          · exact na_Almanac_book
          · exact (by
            rcases List.mem_cons.mp hf with rfl | hf
            · exact na_Almanac_stops
            · exact (by
              rcases List.mem_cons.mp hf with rfl | hf
              · exact na_Almanac_years
              · exact (by cases hf)))⟩
    Almanac_init := ⟨f_Almanac_init, _, fun_mk (st := s_Almanac_init) l_Almanac_init c_Almanac_init k_Almanac_init, (fun_mk (st := s_Almanac_init) l_Almanac_init c_Almanac_init k_Almanac_init).binds (ps := ["self", "book", "stops"]) fun _ _ _ _ _ _ us hl => match us, hl with | [_, _, _], _ => rfl, ⟨a_Almanac_init, e_Almanac_init, k_Almanac_init⟩⟩
    Almanac_rest_flags := ⟨f_Almanac_rest_flags, _, fun_mk (st := s_Almanac_rest_flags) l_Almanac_rest_flags c_Almanac_rest_flags k_Almanac_rest_flags, (fun_mk (st := s_Almanac_rest_flags) l_Almanac_rest_flags c_Almanac_rest_flags k_Almanac_rest_flags).binds (ps := ["self", "year"]) fun _ _ _ _ _ _ us hl => match us, hl with | [_, _], _ => rfl, ⟨a_Almanac_rest_flags, e_Almanac_rest_flags, k_Almanac_rest_flags⟩⟩
    Almanac_find_rest_flags := ⟨f_Almanac_find_rest_flags, _, fun_mk (st := s_Almanac_find_rest_flags) l_Almanac_find_rest_flags c_Almanac_find_rest_flags k_Almanac_find_rest_flags, (fun_mk (st := s_Almanac_find_rest_flags) l_Almanac_find_rest_flags c_Almanac_find_rest_flags k_Almanac_find_rest_flags).binds (ps := ["self", "year"]) fun _ _ _ _ _ _ us hl => match us, hl with | [_, _], _ => rfl, ⟨a_Almanac_find_rest_flags, e_Almanac_find_rest_flags, k_Almanac_find_rest_flags⟩⟩
    Almanac_rests := ⟨f_Almanac_rests, _, fun_mk (st := s_Almanac_rests) l_Almanac_rests c_Almanac_rests k_Almanac_rests, (fun_mk (st := s_Almanac_rests) l_Almanac_rests c_Almanac_rests k_Almanac_rests).binds (ps := ["self", "number"]) fun _ _ _ _ _ _ us hl => match us, hl with | [_, _], _ => rfl, ⟨a_Almanac_rests, e_Almanac_rests, k_Almanac_rests⟩⟩
    Almanac_working_days := ⟨f_Almanac_working_days, _, fun_mk (st := s_Almanac_working_days) l_Almanac_working_days c_Almanac_working_days k_Almanac_working_days, (fun_mk (st := s_Almanac_working_days) l_Almanac_working_days c_Almanac_working_days k_Almanac_working_days).binds (ps := ["self", "year", "first", "final"]) fun _ _ _ _ _ _ us hl => match us, hl with | [_, _, _, _], _ => rfl, ⟨a_Almanac_working_days, e_Almanac_working_days, k_Almanac_working_days⟩⟩
    mk_Almanac := ⟨mk_Almanac, a_Almanac_init, e_Almanac_init, kc_Almanac⟩
    Book := ⟨a_Book, PySem.W.mg_of X G m_Book, ⟨pg_Book, hd_Book, po_Book, sa_Book⟩, fun f hf => by
          rcases List.mem_cons.mp hf with rfl | hf
          · exact na_Book_closed_days
          · exact (by
            rcases List.mem_cons.mp hf with rfl | hf
            · exact na_Book_easter_days
            · exact (by
              rcases List.mem_cons.mp hf with rfl | hf
              · exact na_Book_stops
              · exact (by
                rcases List.mem_cons.mp hf with rfl | hf
                · exact na_Book_ways
                · exact (by
                  rcases List.mem_cons.mp hf with rfl | hf
                  · exact na_Book_week_days
                  · exact (by
                    rcases List.mem_cons.mp hf with rfl | hf
                    · exact na_Book_yearly_days
                    · exact (by cases hf))))))⟩
    Book_init := ⟨f_Book_init, _, fun_mk (st := s_Book_init) l_Book_init c_Book_init k_Book_init, (fun_mk (st := s_Book_init) l_Book_init c_Book_init k_Book_init).binds (ps := ["self"]) fun _ _ _ _ _ _ us hl => match us, hl with | [_], _ => rfl, ⟨a_Book_init, e_Book_init, k_Book_init⟩⟩
    Book_forget_all := ⟨f_Book_forget_all, _, fun_mk (st := s_Book_forget_all) l_Book_forget_all c_Book_forget_all k_Book_forget_all, (fun_mk (st := s_Book_forget_all) l_Book_forget_all c_Book_forget_all k_Book_forget_all).binds (ps := ["self"]) fun _ _ _ _ _ _ us hl => match us, hl with | [_], _ => rfl, ⟨a_Book_forget_all, e_Book_forget_all, k_Book_forget_all⟩⟩
    Book_is_behind_stops := ⟨f_Book_is_behind_stops, _, fun_mk (st := s_Book_is_behind_stops) l_Book_is_behind_stops c_Book_is_behind_stops k_Book_is_behind_stops, (fun_mk (st := s_Book_is_behind_stops) l_Book_is_behind_stops c_Book_is_behind_stops k_Book_is_behind_stops).binds (ps := ["self", "number"]) fun _ _ _ _ _ _ us hl => match us, hl with | [_, _], _ => rfl, ⟨a_Book_is_behind_stops, e_Book_is_behind_stops, k_Book_is_behind_stops⟩⟩
    mk_Book := ⟨mk_Book, a_Book_init, e_Book_init, kc_Book⟩
    Span := ⟨a_Span, PySem.W.mg_of X G m_Span, ⟨pg_Span, hd_Span, po_Span, sa_Span⟩, fun f hf => by
          rcases List.mem_cons.mp hf with rfl | hf
          · exact na_Span_counts
          · exact (by
            rcases List.mem_cons.mp hf with rfl | hf
            · exact na_Span_months_rule
            · exact (by
              rcases List.mem_cons.mp hf with rfl | hf
              · exact na_Span_number
              · exact (by
                rcases List.mem_cons.mp hf with rfl | hf
                · exact na_Span_rest_rule
                · exact (by
                  rcases List.mem_cons.mp hf with rfl | hf
                  · exact na_Span_unit
                  · exact (by cases hf)))))⟩
    Span_init := ⟨f_Span_init, _, fun_mk (st := s_Span_init) l_Span_init c_Span_init k_Span_init, (fun_mk (st := s_Span_init) l_Span_init c_Span_init k_Span_init).binds (ps := ["self", "way", "unit", "number"]) fun _ _ _ _ _ _ us hl => match us, hl with | [_, _, _, _], _ => rfl, ⟨a_Span_init, e_Span_init, k_Span_init⟩⟩
    Span_first_day := ⟨f_Span_first_day, _, fun_mk (st := s_Span_first_day) l_Span_first_day c_Span_first_day k_Span_first_day, (fun_mk (st := s_Span_first_day) l_Span_first_day c_Span_first_day k_Span_first_day).binds (ps := ["self", "event"]) fun _ _ _ _ _ _ us hl => match us, hl with | [_, _], _ => rfl, ⟨a_Span_first_day, e_Span_first_day, k_Span_first_day⟩⟩
    Span_plain_end := ⟨f_Span_plain_end, _, fun_mk (st := s_Span_plain_end) l_Span_plain_end c_Span_plain_end k_Span_plain_end, (fun_mk (st := s_Span_plain_end) l_Span_plain_end c_Span_plain_end k_Span_plain_end).binds (ps := ["self", "event"]) fun _ _ _ _ _ _ us hl => match us, hl with | [_, _], _ => rfl, ⟨a_Span_plain_end, e_Span_plain_end, k_Span_plain_end⟩⟩
    Span_least_length := ⟨f_Span_least_length, _, fun_mk (st := s_Span_least_length) l_Span_least_length c_Span_least_length k_Span_least_length, (fun_mk (st := s_Span_least_length) l_Span_least_length c_Span_least_length k_Span_least_length).binds (ps := ["self"]) fun _ _ _ _ _ _ us hl => match us, hl with | [_], _ => rfl, ⟨a_Span_least_length, e_Span_least_length, k_Span_least_length⟩⟩
    mk_Span := ⟨mk_Span, a_Span_init, e_Span_init, kc_Span⟩
    is_leap := ⟨f_is_leap, _, fun_mk (st := s_is_leap) l_is_leap c_is_leap k_is_leap, (fun_mk (st := s_is_leap) l_is_leap c_is_leap k_is_leap).binds (ps := ["year"]) fun _ _ _ _ _ _ us hl => match us, hl with | [_], _ => rfl, PySem.W.mg_of X G a_is_leap⟩
    month_length := ⟨f_month_length, _, fun_mk (st := s_month_length) l_month_length c_month_length k_month_length, (fun_mk (st := s_month_length) l_month_length c_month_length k_month_length).binds (ps := ["year", "month"]) fun _ _ _ _ _ _ us hl => match us, hl with | [_, _], _ => rfl, PySem.W.mg_of X G a_month_length⟩
    has_day := ⟨f_has_day, _, fun_mk (st := s_has_day) l_has_day c_has_day k_has_day, (fun_mk (st := s_has_day) l_has_day c_has_day k_has_day).binds (ps := ["year", "month", "day"]) fun _ _ _ _ _ _ us hl => match us, hl with | [_, _, _], _ => rfl, PySem.W.mg_of X G a_has_day⟩
    is_year := ⟨f_is_year, _, fun_mk (st := s_is_year) l_is_year c_is_year k_is_year, (fun_mk (st := s_is_year) l_is_year c_is_year k_is_year).binds (ps := ["year"]) fun _ _ _ _ _ _ us hl => match us, hl with | [_], _ => rfl, PySem.W.mg_of X G a_is_year⟩
    is_date := ⟨f_is_date, _, fun_mk (st := s_is_date) l_is_date c_is_date k_is_date, (fun_mk (st := s_is_date) l_is_date c_is_date k_is_date).binds (ps := ["date"]) fun _ _ _ _ _ _ us hl => match us, hl with | [_], _ => rfl, PySem.W.mg_of X G a_is_date⟩
    days_before_year := ⟨f_days_before_year, _, fun_mk (st := s_days_before_year) l_days_before_year c_days_before_year k_days_before_year, (fun_mk (st := s_days_before_year) l_days_before_year c_days_before_year k_days_before_year).binds (ps := ["year"]) fun _ _ _ _ _ _ us hl => match us, hl with | [_], _ => rfl, PySem.W.mg_of X G a_days_before_year⟩
    day_number := ⟨f_day_number, _, fun_mk (st := s_day_number) l_day_number c_day_number k_day_number, (fun_mk (st := s_day_number) l_day_number c_day_number k_day_number).binds (ps := ["date"]) fun _ _ _ _ _ _ us hl => match us, hl with | [_], _ => rfl, PySem.W.mg_of X G a_day_number⟩
    year_of := ⟨f_year_of, _, fun_mk (st := s_year_of) l_year_of c_year_of k_year_of, (fun_mk (st := s_year_of) l_year_of c_year_of k_year_of).binds (ps := ["number"]) fun _ _ _ _ _ _ us hl => match us, hl with | [_], _ => rfl, PySem.W.mg_of X G a_year_of⟩
    date_of := ⟨f_date_of, _, fun_mk (st := s_date_of) l_date_of c_date_of k_date_of, (fun_mk (st := s_date_of) l_date_of c_date_of k_date_of).binds (ps := ["number"]) fun _ _ _ _ _ _ us hl => match us, hl with | [_], _ => rfl, PySem.W.mg_of X G a_date_of⟩
    months_of := ⟨f_months_of, _, fun_mk (st := s_months_of) l_months_of c_months_of k_months_of, (fun_mk (st := s_months_of) l_months_of c_months_of k_months_of).binds (ps := ["date"]) fun _ _ _ _ _ _ us hl => match us, hl with | [_], _ => rfl, PySem.W.mg_of X G a_months_of⟩
    months_behind := ⟨f_months_behind, _, fun_mk (st := s_months_behind) l_months_behind c_months_behind k_months_behind, (fun_mk (st := s_months_behind) l_months_behind c_months_behind k_months_behind).binds (ps := ["number", "months", "rule"]) fun _ _ _ _ _ _ us hl => match us, hl with | [_, _, _], _ => rfl, PySem.W.mg_of X G a_months_behind⟩
    whole_months := ⟨f_whole_months, _, fun_mk (st := s_whole_months) l_whole_months c_whole_months k_whole_months, (fun_mk (st := s_whole_months) l_whole_months c_whole_months k_whole_months).binds (ps := ["first", "second", "rule"]) fun _ _ _ _ _ _ us hl => match us, hl with | [_, _, _], _ => rfl, PySem.W.mg_of X G a_whole_months⟩
    weekday := ⟨f_weekday, _, fun_mk (st := s_weekday) l_weekday c_weekday k_weekday, (fun_mk (st := s_weekday) l_weekday c_weekday k_weekday).binds (ps := ["number"]) fun _ _ _ _ _ _ us hl => match us, hl with | [_], _ => rfl, PySem.W.mg_of X G a_weekday⟩
    easter := ⟨f_easter, _, fun_mk (st := s_easter) l_easter c_easter k_easter, (fun_mk (st := s_easter) l_easter c_easter k_easter).binds (ps := ["year"]) fun _ _ _ _ _ _ us hl => match us, hl with | [_], _ => rfl, PySem.W.mg_of X G a_easter⟩
    put_off := ⟨f_put_off, _, fun_mk (st := s_put_off) l_put_off c_put_off k_put_off, (fun_mk (st := s_put_off) l_put_off c_put_off k_put_off).binds (ps := ["stops", "first", "plain"]) fun _ _ _ _ _ _ us hl => match us, hl with | [_, _, _], _ => rfl, PySem.W.mg_of X G a_put_off⟩
    next_open := ⟨f_next_open, _, fun_mk (st := s_next_open) l_next_open c_next_open k_next_open, (fun_mk (st := s_next_open) l_next_open c_next_open k_next_open).binds (ps := ["almanac", "number"]) fun _ _ _ _ _ _ us hl => match us, hl with | [_, _], _ => rfl, PySem.W.mg_of X G a_next_open⟩
    last_open := ⟨f_last_open, _, fun_mk (st := s_last_open) l_last_open c_last_open k_last_open, (fun_mk (st := s_last_open) l_last_open c_last_open k_last_open).binds (ps := ["almanac", "number"]) fun _ _ _ _ _ _ us hl => match us, hl with | [_, _], _ => rfl, PySem.W.mg_of X G a_last_open⟩
    moved_off_rest := ⟨f_moved_off_rest, _, fun_mk (st := s_moved_off_rest) l_moved_off_rest c_moved_off_rest k_moved_off_rest, (fun_mk (st := s_moved_off_rest) l_moved_off_rest c_moved_off_rest k_moved_off_rest).binds (ps := ["almanac", "end", "rule"]) fun _ _ _ _ _ _ us hl => match us, hl with | [_, _, _], _ => rfl, PySem.W.mg_of X G a_moved_off_rest⟩
    years_from := ⟨f_years_from, _, fun_mk (st := s_years_from) l_years_from c_years_from k_years_from, (fun_mk (st := s_years_from) l_years_from c_years_from k_years_from).binds (ps := ["first", "final"]) fun _ _ _ _ _ _ us hl => match us, hl with | [_, _], _ => rfl, PySem.W.mg_of X G a_years_from⟩
    last_working_day := ⟨f_last_working_day, _, fun_mk (st := s_last_working_day) l_last_working_day c_last_working_day k_last_working_day, (fun_mk (st := s_last_working_day) l_last_working_day c_last_working_day k_last_working_day).binds (ps := ["almanac", "first", "number"]) fun _ _ _ _ _ _ us hl => match us, hl with | [_, _, _], _ => rfl, PySem.W.mg_of X G a_last_working_day⟩
    count_working_days := ⟨f_count_working_days, _, fun_mk (st := s_count_working_days) l_count_working_days c_count_working_days k_count_working_days, (fun_mk (st := s_count_working_days) l_count_working_days c_count_working_days k_count_working_days).binds (ps := ["almanac", "first", "final"]) fun _ _ _ _ _ _ us hl => match us, hl with | [_, _, _], _ => rfl, PySem.W.mg_of X G a_count_working_days⟩
    last_day := ⟨f_last_day, _, fun_mk (st := s_last_day) l_last_day c_last_day k_last_day, (fun_mk (st := s_last_day) l_last_day c_last_day k_last_day).binds (ps := ["almanac", "span", "event"]) fun _ _ _ _ _ _ us hl => match us, hl with | [_, _, _], _ => rfl, PySem.W.mg_of X G a_last_day⟩
    last_day_anew := ⟨f_last_day_anew, _, fun_mk (st := s_last_day_anew) l_last_day_anew c_last_day_anew k_last_day_anew, (fun_mk (st := s_last_day_anew) l_last_day_anew c_last_day_anew k_last_day_anew).binds (ps := ["almanac", "span", "event", "days"]) fun _ _ _ _ _ _ us hl => match us, hl with | [_, _, _, _], _ => rfl, PySem.W.mg_of X G a_last_day_anew⟩
    latest_event := ⟨f_latest_event, _, fun_mk (st := s_latest_event) l_latest_event c_latest_event k_latest_event, (fun_mk (st := s_latest_event) l_latest_event c_latest_event k_latest_event).binds (ps := ["almanac", "span", "date"]) fun _ _ _ _ _ _ us hl => match us, hl with | [_, _, _], _ => rfl, PySem.W.mg_of X G a_latest_event⟩
    is_in_time := ⟨f_is_in_time, _, fun_mk (st := s_is_in_time) l_is_in_time c_is_in_time k_is_in_time, (fun_mk (st := s_is_in_time) l_is_in_time c_is_in_time k_is_in_time).binds (ps := ["almanac", "span", "event", "act"]) fun _ _ _ _ _ _ us hl => match us, hl with | [_, _, _, _], _ => rfl, PySem.W.mg_of X G a_is_in_time⟩
    begins := ⟨f_begins, _, fun_mk (st := s_begins) l_begins c_begins k_begins, (fun_mk (st := s_begins) l_begins c_begins k_begins).binds (ps := ["book", "numbers"]) fun _ _ _ _ _ _ us hl => match us, hl with | [_, _], _ => rfl, PySem.W.mg_of X G a_begins⟩
    are_weekdays := ⟨f_are_weekdays, _, fun_mk (st := s_are_weekdays) l_are_weekdays c_are_weekdays k_are_weekdays, (fun_mk (st := s_are_weekdays) l_are_weekdays c_are_weekdays k_are_weekdays).binds (ps := ["days"]) fun _ _ _ _ _ _ us hl => match us, hl with | [_], _ => rfl, PySem.W.mg_of X G a_are_weekdays⟩
    week := ⟨f_week, _, fun_mk (st := s_week) l_week c_week k_week, (fun_mk (st := s_week) l_week c_week k_week).binds (ps := ["book", "numbers"]) fun _ _ _ _ _ _ us hl => match us, hl with | [_, _], _ => rfl, PySem.W.mg_of X G a_week⟩
    add_day := ⟨f_add_day, _, fun_mk (st := s_add_day) l_add_day c_add_day k_add_day, (fun_mk (st := s_add_day) l_add_day c_add_day k_add_day).binds (ps := ["days", "day"]) fun _ _ _ _ _ _ us hl => match us, hl with | [_, _], _ => rfl, PySem.W.mg_of X G a_add_day⟩
    yearly := ⟨f_yearly, _, fun_mk (st := s_yearly) l_yearly c_yearly k_yearly, (fun_mk (st := s_yearly) l_yearly c_yearly k_yearly).binds (ps := ["book", "numbers"]) fun _ _ _ _ _ _ us hl => match us, hl with | [_, _], _ => rfl, PySem.W.mg_of X G a_yearly⟩
    easters := ⟨f_easters, _, fun_mk (st := s_easters) l_easters c_easters k_easters, (fun_mk (st := s_easters) l_easters c_easters k_easters).binds (ps := ["book", "numbers"]) fun _ _ _ _ _ _ us hl => match us, hl with | [_, _], _ => rfl, PySem.W.mg_of X G a_easters⟩
    closed := ⟨f_closed, _, fun_mk (st := s_closed) l_closed c_closed k_closed, (fun_mk (st := s_closed) l_closed c_closed k_closed).binds (ps := ["book", "numbers"]) fun _ _ _ _ _ _ us hl => match us, hl with | [_, _], _ => rfl, PySem.W.mg_of X G a_closed⟩
    way := ⟨f_way, _, fun_mk (st := s_way) l_way c_way k_way, (fun_mk (st := s_way) l_way c_way k_way).binds (ps := ["book", "numbers"]) fun _ _ _ _ _ _ us hl => match us, hl with | [_, _], _ => rfl, PySem.W.mg_of X G a_way⟩
    stop := ⟨f_stop, _, fun_mk (st := s_stop) l_stop c_stop k_stop, (fun_mk (st := s_stop) l_stop c_stop k_stop).binds (ps := ["book", "numbers"]) fun _ _ _ _ _ _ us hl => match us, hl with | [_, _], _ => rfl, PySem.W.mg_of X G a_stop⟩
    rest := ⟨f_rest, _, fun_mk (st := s_rest) l_rest c_rest k_rest, (fun_mk (st := s_rest) l_rest c_rest k_rest).binds (ps := ["book", "numbers"]) fun _ _ _ _ _ _ us hl => match us, hl with | [_, _], _ => rfl, PySem.W.mg_of X G a_rest⟩
    is_span := ⟨f_is_span, _, fun_mk (st := s_is_span) l_is_span c_is_span k_is_span, (fun_mk (st := s_is_span) l_is_span c_is_span k_is_span).binds (ps := ["unit", "number"]) fun _ _ _ _ _ _ us hl => match us, hl with | [_, _], _ => rfl, PySem.W.mg_of X G a_is_span⟩
    refused_span := ⟨f_refused_span, _, fun_mk (st := s_refused_span) l_refused_span c_refused_span k_refused_span, (fun_mk (st := s_refused_span) l_refused_span c_refused_span k_refused_span).binds (ps := ["book", "numbers"]) fun _ _ _ _ _ _ us hl => match us, hl with | [_, _], _ => rfl, PySem.W.mg_of X G a_refused_span⟩
    span_of := ⟨f_span_of, _, fun_mk (st := s_span_of) l_span_of c_span_of k_span_of, (fun_mk (st := s_span_of) l_span_of c_span_of k_span_of).binds (ps := ["book", "numbers"]) fun _ _ _ _ _ _ us hl => match us, hl with | [_, _], _ => rfl, PySem.W.mg_of X G a_span_of⟩
    told_day := ⟨f_told_day, _, fun_mk (st := s_told_day) l_told_day c_told_day k_told_day, (fun_mk (st := s_told_day) l_told_day c_told_day k_told_day).binds (ps := ["number"]) fun _ _ _ _ _ _ us hl => match us, hl with | [_], _ => rfl, PySem.W.mg_of X G a_told_day⟩
    last := ⟨f_last, _, fun_mk (st := s_last) l_last c_last k_last, (fun_mk (st := s_last) l_last c_last k_last).binds (ps := ["book", "numbers"]) fun _ _ _ _ _ _ us hl => match us, hl with | [_, _], _ => rfl, PySem.W.mg_of X G a_last⟩
    in_dates := ⟨f_in_dates, _, fun_mk (st := s_in_dates) l_in_dates c_in_dates k_in_dates, (fun_mk (st := s_in_dates) l_in_dates c_in_dates k_in_dates).binds (ps := ["row"]) fun _ _ _ _ _ _ us hl => match us, hl with | [_], _ => rfl, PySem.W.mg_of X G a_in_dates⟩
    are_dates := ⟨f_are_dates, _, fun_mk (st := s_are_dates) l_are_dates c_are_dates k_are_dates, (fun_mk (st := s_are_dates) l_are_dates c_are_dates k_are_dates).binds (ps := ["dates"]) fun _ _ _ _ _ _ us hl => match us, hl with | [_], _ => rfl, PySem.W.mg_of X G a_are_dates⟩
    do_rise := ⟨f_do_rise, _, fun_mk (st := s_do_rise) l_do_rise c_do_rise k_do_rise, (fun_mk (st := s_do_rise) l_do_rise c_do_rise k_do_rise).binds (ps := ["days"]) fun _ _ _ _ _ _ us hl => match us, hl with | [_], _ => rfl, PySem.W.mg_of X G a_do_rise⟩
    anew := ⟨f_anew, _, fun_mk (st := s_anew) l_anew c_anew k_anew, (fun_mk (st := s_anew) l_anew c_anew k_anew).binds (ps := ["book", "numbers"]) fun _ _ _ _ _ _ us hl => match us, hl with | [_, _], _ => rfl, PySem.W.mg_of X G a_anew⟩
    latest := ⟨f_latest, _, fun_mk (st := s_latest) l_latest c_latest k_latest, (fun_mk (st := s_latest) l_latest c_latest k_latest).binds (ps := ["book", "numbers"]) fun _ _ _ _ _ _ us hl => match us, hl with | [_, _], _ => rfl, PySem.W.mg_of X G a_latest⟩
    in_time := ⟨f_in_time, _, fun_mk (st := s_in_time) l_in_time c_in_time k_in_time, (fun_mk (st := s_in_time) l_in_time c_in_time k_in_time).binds (ps := ["book", "numbers"]) fun _ _ _ _ _ _ us hl => match us, hl with | [_, _], _ => rfl, PySem.W.mg_of X G a_in_time⟩
    between := ⟨f_between, _, fun_mk (st := s_between) l_between c_between k_between, (fun_mk (st := s_between) l_between c_between k_between).binds (ps := ["book", "numbers"]) fun _ _ _ _ _ _ us hl => match us, hl with | [_, _], _ => rfl, PySem.W.mg_of X G a_between⟩
    working := ⟨f_working, _, fun_mk (st := s_working) l_working c_working k_working, (fun_mk (st := s_working) l_working c_working k_working).binds (ps := ["book", "numbers"]) fun _ _ _ _ _ _ us hl => match us, hl with | [_, _], _ => rfl, PySem.W.mg_of X G a_working⟩
    easter_date := ⟨f_easter_date, _, fun_mk (st := s_easter_date) l_easter_date c_easter_date k_easter_date, (fun_mk (st := s_easter_date) l_easter_date c_easter_date k_easter_date).binds (ps := ["book", "numbers"]) fun _ _ _ _ _ _ us hl => match us, hl with | [_, _], _ => rfl, PySem.W.mg_of X G a_easter_date⟩
    end_of_call := ⟨f_end_of_call, _, fun_mk (st := s_end_of_call) l_end_of_call c_end_of_call k_end_of_call, (fun_mk (st := s_end_of_call) l_end_of_call c_end_of_call k_end_of_call).binds (ps := ["calls", "start"]) fun _ _ _ _ _ _ us hl => match us, hl with | [_, _], _ => rfl, PySem.W.mg_of X G a_end_of_call⟩
    answers := ⟨f_answers, _, fun_mk (st := s_answers) l_answers c_answers k_answers, (fun_mk (st := s_answers) l_answers c_answers k_answers).binds (ps := ["calls"]) fun _ _ _ _ _ _ us hl => match us, hl with | [_], _ => rfl, PySem.W.mg_of X G a_answers⟩
    g_MONTH_LENGTHS := ⟨p_MONTH_LENGTHS, PySem.W.mg_of X G u_MONTH_LENGTHS, ⟨_, its_MONTH_LENGTHS, z_MONTH_LENGTHS, v_MONTH_LENGTHS, rfl, rfl, w_MONTH_LENGTHS, r_MONTH_LENGTHS⟩⟩
    g_LEAST_LENGTHS := ⟨p_LEAST_LENGTHS, PySem.W.mg_of X G u_LEAST_LENGTHS, ⟨_, its_LEAST_LENGTHS, z_LEAST_LENGTHS, v_LEAST_LENGTHS, rfl, rfl, w_LEAST_LENGTHS, r_LEAST_LENGTHS⟩⟩
    g_MOST_OF_UNIT := ⟨p_MOST_OF_UNIT, PySem.W.mg_of X G u_MOST_OF_UNIT, ⟨_, its_MOST_OF_UNIT, z_MOST_OF_UNIT, v_MOST_OF_UNIT, rfl, rfl, w_MOST_OF_UNIT, r_MOST_OF_UNIT⟩⟩
    g_HANDLERS := ⟨p_HANDLERS, PySem.W.mg_of X G u_HANDLERS, ⟨_, its_HANDLERS, z_HANDLERS, v_HANDLERS, rfl, rfl, w_HANDLERS, r_HANDLERS⟩⟩
    g_WHOLE_NUMBERS := ⟨p_WHOLE_NUMBERS, PySem.W.mg_of X G u_WHOLE_NUMBERS, ⟨_, its_WHOLE_NUMBERS, z_WHOLE_NUMBERS, v_WHOLE_NUMBERS, rfl, rfl, w_WHOLE_NUMBERS, r_WHOLE_NUMBERS⟩⟩
    g_ROWS := ⟨p_ROWS, PySem.W.mg_of X G u_ROWS, ⟨_, its_ROWS, z_ROWS, v_ROWS, rfl, rfl, w_ROWS, r_ROWS⟩⟩ }
  have e := hfa.symm.trans T.answers.m
  cases e
  exact ⟨T.answers.fd, fun s us hu => answers_binds T s us hu, fun base _ _ => ok_answers T⟩
end Dc
open PySem PySem.W PyProof.Rows
set_option maxRecDepth 100000 in
set_option maxHeartbeats 0 in
theorem PySem.Challenge.cw_daycounts_s01_answers_holds : PySem.Challenge.rw_daycounts_s01_answers.Holds := by
  refine Dc.headT ?_
  k_fillS
  refine L2.walk_specK (r := PySem.Challenge.rw_daycounts_s01_answers) (k := 12) (CX := L2.CX0) (ps := ["calls"]) (sp := Dc.sp_answers) (by decide +kernel) rfl rfl ⟨rfl, by decide, by decide⟩ (fun w h Y => PySem.W.kIn_of Y) ?F ?S (fun _ _ _ _ z => z)
  case F =>
    intro w mg fa h Y KX G hmg
    refine' Dc.all_mk KX G hmg ?i_FIRST_YEAR ?i_LAST_YEAR ?i_LEAP_YEAR ?i_MONTHS_OF_YEAR ?i_DAYS_OF_400_YEARS ?i_FEBRUARY ?i_SATURDAY ?i_FIRST_OF_NEXT_MONTH ?i_END_TO_END ?i_DAYS ?i_WEEKS ?i_MONTHS ?i_WORKING_DAYS ?i_STAY ?i_NEXT ?i_BEFORE ?i_FARTHEST_FROM_REST ?i_MOST_LOOKED_FOR_WORK ?i_MOST_LOOKED_FOR_EVENT ?i_LENGTH_LOOKED_AT_WHOLE ?i_WRONG ?i_NO_WAY ?i_OUT_OF_ORDER ?i_FULL ?i_BEYOND ?i_NO_END ?i_LAST_WEEKDAY ?i_MOST_WEEKDAYS ?i_FARTHEST_FROM_EASTER ?i_LAST_REST_RULE ?i_LAST_MONTHS_RULE ?i_MOST_DAYS ?i_MOST_WAYS ?i_MOST_STOPS ?i_MOST_DAYS_LATER ?n_range ?n_list ?n_max ?n_min ?n_len ?n_sum ?n_abs ?m_Almanac ?pg_Almanac ?hd_Almanac ?po_Almanac ?sa_Almanac ?mk_Almanac ?kc_Almanac ?na_Almanac_book ?na_Almanac_stops ?na_Almanac_years ?a_Almanac_init ?e_Almanac_init ?l_Almanac_init ?c_Almanac_init ?k_Almanac_init ?a_Almanac_rest_flags ?e_Almanac_rest_flags ?l_Almanac_rest_flags ?c_Almanac_rest_flags ?k_Almanac_rest_flags ?a_Almanac_find_rest_flags ?e_Almanac_find_rest_flags ?l_Almanac_find_rest_flags ?c_Almanac_find_rest_flags ?k_Almanac_find_rest_flags ?a_Almanac_rests ?e_Almanac_rests ?l_Almanac_rests ?c_Almanac_rests ?k_Almanac_rests ?a_Almanac_working_days ?e_Almanac_working_days ?l_Almanac_working_days ?c_Almanac_working_days ?k_Almanac_working_days ?m_Book ?pg_Book ?hd_Book ?po_Book ?sa_Book ?mk_Book ?kc_Book ?na_Book_closed_days ?na_Book_easter_days ?na_Book_stops ?na_Book_ways ?na_Book_week_days ?na_Book_yearly_days ?a_Book_init ?e_Book_init ?l_Book_init ?c_Book_init ?k_Book_init ?a_Book_forget_all ?e_Book_forget_all ?l_Book_forget_all ?c_Book_forget_all ?k_Book_forget_all ?a_Book_is_behind_stops ?e_Book_is_behind_stops ?l_Book_is_behind_stops ?c_Book_is_behind_stops ?k_Book_is_behind_stops ?m_Span ?pg_Span ?hd_Span ?po_Span ?sa_Span ?mk_Span ?kc_Span ?na_Span_counts ?na_Span_months_rule ?na_Span_number ?na_Span_rest_rule ?na_Span_unit ?a_Span_init ?e_Span_init ?l_Span_init ?c_Span_init ?k_Span_init ?a_Span_first_day ?e_Span_first_day ?l_Span_first_day ?c_Span_first_day ?k_Span_first_day ?a_Span_plain_end ?e_Span_plain_end ?l_Span_plain_end ?c_Span_plain_end ?k_Span_plain_end ?a_Span_least_length ?e_Span_least_length ?l_Span_least_length ?c_Span_least_length ?k_Span_least_length ?a_is_leap ?l_is_leap ?c_is_leap ?k_is_leap ?a_month_length ?l_month_length ?c_month_length ?k_month_length ?a_has_day ?l_has_day ?c_has_day ?k_has_day ?a_is_year ?l_is_year ?c_is_year ?k_is_year ?a_is_date ?l_is_date ?c_is_date ?k_is_date ?a_days_before_year ?l_days_before_year ?c_days_before_year ?k_days_before_year ?a_day_number ?l_day_number ?c_day_number ?k_day_number ?a_year_of ?l_year_of ?c_year_of ?k_year_of ?a_date_of ?l_date_of ?c_date_of ?k_date_of ?a_months_of ?l_months_of ?c_months_of ?k_months_of ?a_months_behind ?l_months_behind ?c_months_behind ?k_months_behind ?a_whole_months ?l_whole_months ?c_whole_months ?k_whole_months ?a_weekday ?l_weekday ?c_weekday ?k_weekday ?a_easter ?l_easter ?c_easter ?k_easter ?a_put_off ?l_put_off ?c_put_off ?k_put_off ?a_next_open ?l_next_open ?c_next_open ?k_next_open ?a_last_open ?l_last_open ?c_last_open ?k_last_open ?a_moved_off_rest ?l_moved_off_rest ?c_moved_off_rest ?k_moved_off_rest ?a_years_from ?l_years_from ?c_years_from ?k_years_from ?a_last_working_day ?l_last_working_day ?c_last_working_day ?k_last_working_day ?a_count_working_days ?l_count_working_days ?c_count_working_days ?k_count_working_days ?a_last_day ?l_last_day ?c_last_day ?k_last_day ?a_last_day_anew ?l_last_day_anew ?c_last_day_anew ?k_last_day_anew ?a_latest_event ?l_latest_event ?c_latest_event ?k_latest_event ?a_is_in_time ?l_is_in_time ?c_is_in_time ?k_is_in_time ?a_begins ?l_begins ?c_begins ?k_begins ?a_are_weekdays ?l_are_weekdays ?c_are_weekdays ?k_are_weekdays ?a_week ?l_week ?c_week ?k_week ?a_add_day ?l_add_day ?c_add_day ?k_add_day ?a_yearly ?l_yearly ?c_yearly ?k_yearly ?a_easters ?l_easters ?c_easters ?k_easters ?a_closed ?l_closed ?c_closed ?k_closed ?a_way ?l_way ?c_way ?k_way ?a_stop ?l_stop ?c_stop ?k_stop ?a_rest ?l_rest ?c_rest ?k_rest ?a_is_span ?l_is_span ?c_is_span ?k_is_span ?a_refused_span ?l_refused_span ?c_refused_span ?k_refused_span ?a_span_of ?l_span_of ?c_span_of ?k_span_of ?a_told_day ?l_told_day ?c_told_day ?k_told_day ?a_last ?l_last ?c_last ?k_last ?a_in_dates ?l_in_dates ?c_in_dates ?k_in_dates ?a_are_dates ?l_are_dates ?c_are_dates ?k_are_dates ?a_do_rise ?l_do_rise ?c_do_rise ?k_do_rise ?a_anew ?l_anew ?c_anew ?k_anew ?a_latest ?l_latest ?c_latest ?k_latest ?a_in_time ?l_in_time ?c_in_time ?k_in_time ?a_between ?l_between ?c_between ?k_between ?a_working ?l_working ?c_working ?k_working ?a_easter_date ?l_easter_date ?c_easter_date ?k_easter_date ?a_end_of_call ?l_end_of_call ?c_end_of_call ?k_end_of_call ?a_answers ?l_answers ?c_answers ?k_answers ?u_MONTH_LENGTHS ?v_MONTH_LENGTHS ?w_MONTH_LENGTHS ?r_MONTH_LENGTHS ?u_LEAST_LENGTHS ?v_LEAST_LENGTHS ?w_LEAST_LENGTHS ?r_LEAST_LENGTHS ?u_MOST_OF_UNIT ?v_MOST_OF_UNIT ?w_MOST_OF_UNIT ?r_MOST_OF_UNIT ?u_HANDLERS ?v_HANDLERS ?w_HANDLERS ?r_HANDLERS ?u_WHOLE_NUMBERS ?v_WHOLE_NUMBERS ?w_WHOLE_NUMBERS ?r_WHOLE_NUMBERS ?u_ROWS ?v_ROWS ?w_ROWS ?r_ROWS
    (case i_FIRST_YEAR => k_is)
    (case i_LAST_YEAR => k_is)
    (case i_LEAP_YEAR => k_is)
    (case i_MONTHS_OF_YEAR => k_is)
    (case i_DAYS_OF_400_YEARS => k_is)
    (case i_FEBRUARY => k_is)
    (case i_SATURDAY => k_is)
    (case i_FIRST_OF_NEXT_MONTH => k_is)
    (case i_END_TO_END => k_is)
    (case i_DAYS => k_is)
    (case i_WEEKS => k_is)
    (case i_MONTHS => k_is)
    (case i_WORKING_DAYS => k_is)
    (case i_STAY => k_is)
    (case i_NEXT => k_is)
    (case i_BEFORE => k_is)
    (case i_FARTHEST_FROM_REST => k_is)
    (case i_MOST_LOOKED_FOR_WORK => k_is)
    (case i_MOST_LOOKED_FOR_EVENT => k_is)
    (case i_LENGTH_LOOKED_AT_WHOLE => k_is)
    (case i_WRONG => k_is)
    (case i_NO_WAY => k_is)
    (case i_OUT_OF_ORDER => k_is)
    (case i_FULL => k_is)
    (case i_BEYOND => k_is)
    (case i_NO_END => k_is)
    (case i_LAST_WEEKDAY => k_is)
    (case i_MOST_WEEKDAYS => k_is)
    (case i_FARTHEST_FROM_EASTER => k_is)
    (case i_LAST_REST_RULE => k_is)
    (case i_LAST_MONTHS_RULE => k_is)
    (case i_MOST_DAYS => k_is)
    (case i_MOST_WAYS => k_is)
    (case i_MOST_STOPS => k_is)
    (case i_MOST_DAYS_LATER => k_is)
    (case n_range => k_is)
    (case n_list => k_is)
    (case n_max => k_is)
    (case n_min => k_is)
    (case n_len => k_is)
    (case n_sum => k_is)
    (case n_abs => k_is)
    (case m_Almanac => k_is)
    (case pg_Almanac => k_is)
    (case hd_Almanac => k_is)
    (case po_Almanac => k_is)
    (case sa_Almanac => k_is)
    (case mk_Almanac => k_is)
    (case kc_Almanac => k_is)
    (case na_Almanac_book => k_is)
    (case na_Almanac_stops => k_is)
    (case na_Almanac_years => k_is)
    (case a_Almanac_init => k_is)
    (case e_Almanac_init => k_is)
    (case l_Almanac_init => k_is)
    (case c_Almanac_init => k_is)
    (case k_Almanac_init => k_is)
    (case a_Almanac_rest_flags => k_is)
    (case e_Almanac_rest_flags => k_is)
    (case l_Almanac_rest_flags => k_is)
    (case c_Almanac_rest_flags => k_is)
    (case k_Almanac_rest_flags => k_is)
    (case a_Almanac_find_rest_flags => k_is)
    (case e_Almanac_find_rest_flags => k_is)
    (case l_Almanac_find_rest_flags => k_is)
    (case c_Almanac_find_rest_flags => k_is)
    (case k_Almanac_find_rest_flags => k_is)
    (case a_Almanac_rests => k_is)
    (case e_Almanac_rests => k_is)
    (case l_Almanac_rests => k_is)
    (case c_Almanac_rests => k_is)
    (case k_Almanac_rests => k_is)
    (case a_Almanac_working_days => k_is)
    (case e_Almanac_working_days => k_is)
    (case l_Almanac_working_days => k_is)
    (case c_Almanac_working_days => k_is)
    (case k_Almanac_working_days => k_is)
    (case m_Book => k_is)
    (case pg_Book => k_is)
    (case hd_Book => k_is)
    (case po_Book => k_is)
    (case sa_Book => k_is)
    (case mk_Book => k_is)
    (case kc_Book => k_is)
    (case na_Book_closed_days => k_is)
    (case na_Book_easter_days => k_is)
    (case na_Book_stops => k_is)
    (case na_Book_ways => k_is)
    (case na_Book_week_days => k_is)
    (case na_Book_yearly_days => k_is)
    (case a_Book_init => k_is)
    (case e_Book_init => k_is)
    (case l_Book_init => k_is)
    (case c_Book_init => k_is)
    (case k_Book_init => k_is)
    (case a_Book_forget_all => k_is)
    (case e_Book_forget_all => k_is)
    (case l_Book_forget_all => k_is)
    (case c_Book_forget_all => k_is)
    (case k_Book_forget_all => k_is)
    (case a_Book_is_behind_stops => k_is)
    (case e_Book_is_behind_stops => k_is)
    (case l_Book_is_behind_stops => k_is)
    (case c_Book_is_behind_stops => k_is)
    (case k_Book_is_behind_stops => k_is)
    (case m_Span => k_is)
    (case pg_Span => k_is)
    (case hd_Span => k_is)
    (case po_Span => k_is)
    (case sa_Span => k_is)
    (case mk_Span => k_is)
    (case kc_Span => k_is)
    (case na_Span_counts => k_is)
    (case na_Span_months_rule => k_is)
    (case na_Span_number => k_is)
    (case na_Span_rest_rule => k_is)
    (case na_Span_unit => k_is)
    (case a_Span_init => k_is)
    (case e_Span_init => k_is)
    (case l_Span_init => k_is)
    (case c_Span_init => k_is)
    (case k_Span_init => k_is)
    (case a_Span_first_day => k_is)
    (case e_Span_first_day => k_is)
    (case l_Span_first_day => k_is)
    (case c_Span_first_day => k_is)
    (case k_Span_first_day => k_is)
    (case a_Span_plain_end => k_is)
    (case e_Span_plain_end => k_is)
    (case l_Span_plain_end => k_is)
    (case c_Span_plain_end => k_is)
    (case k_Span_plain_end => k_is)
    (case a_Span_least_length => k_is)
    (case e_Span_least_length => k_is)
    (case l_Span_least_length => k_is)
    (case c_Span_least_length => k_is)
    (case k_Span_least_length => k_is)
    (case a_is_leap => k_is)
    (case l_is_leap => k_is)
    (case c_is_leap => k_is)
    (case k_is_leap => k_is)
    (case a_month_length => k_is)
    (case l_month_length => k_is)
    (case c_month_length => k_is)
    (case k_month_length => k_is)
    (case a_has_day => k_is)
    (case l_has_day => k_is)
    (case c_has_day => k_is)
    (case k_has_day => k_is)
    (case a_is_year => k_is)
    (case l_is_year => k_is)
    (case c_is_year => k_is)
    (case k_is_year => k_is)
    (case a_is_date => k_is)
    (case l_is_date => k_is)
    (case c_is_date => k_is)
    (case k_is_date => k_is)
    (case a_days_before_year => k_is)
    (case l_days_before_year => k_is)
    (case c_days_before_year => k_is)
    (case k_days_before_year => k_is)
    (case a_day_number => k_is)
    (case l_day_number => k_is)
    (case c_day_number => k_is)
    (case k_day_number => k_is)
    (case a_year_of => k_is)
    (case l_year_of => k_is)
    (case c_year_of => k_is)
    (case k_year_of => k_is)
    (case a_date_of => k_is)
    (case l_date_of => k_is)
    (case c_date_of => k_is)
    (case k_date_of => k_is)
    (case a_months_of => k_is)
    (case l_months_of => k_is)
    (case c_months_of => k_is)
    (case k_months_of => k_is)
    (case a_months_behind => k_is)
    (case l_months_behind => k_is)
    (case c_months_behind => k_is)
    (case k_months_behind => k_is)
    (case a_whole_months => k_is)
    (case l_whole_months => k_is)
    (case c_whole_months => k_is)
    (case k_whole_months => k_is)
    (case a_weekday => k_is)
    (case l_weekday => k_is)
    (case c_weekday => k_is)
    (case k_weekday => k_is)
    (case a_easter => k_is)
    (case l_easter => k_is)
    (case c_easter => k_is)
    (case k_easter => k_is)
    (case a_put_off => k_is)
    (case l_put_off => k_is)
    (case c_put_off => k_is)
    (case k_put_off => k_is)
    (case a_next_open => k_is)
    (case l_next_open => k_is)
    (case c_next_open => k_is)
    (case k_next_open => k_is)
    (case a_last_open => k_is)
    (case l_last_open => k_is)
    (case c_last_open => k_is)
    (case k_last_open => k_is)
    (case a_moved_off_rest => k_is)
    (case l_moved_off_rest => k_is)
    (case c_moved_off_rest => k_is)
    (case k_moved_off_rest => k_is)
    (case a_years_from => k_is)
    (case l_years_from => k_is)
    (case c_years_from => k_is)
    (case k_years_from => k_is)
    (case a_last_working_day => k_is)
    (case l_last_working_day => k_is)
    (case c_last_working_day => k_is)
    (case k_last_working_day => k_is)
    (case a_count_working_days => k_is)
    (case l_count_working_days => k_is)
    (case c_count_working_days => k_is)
    (case k_count_working_days => k_is)
    (case a_last_day => k_is)
    (case l_last_day => k_is)
    (case c_last_day => k_is)
    (case k_last_day => k_is)
    (case a_last_day_anew => k_is)
    (case l_last_day_anew => k_is)
    (case c_last_day_anew => k_is)
    (case k_last_day_anew => k_is)
    (case a_latest_event => k_is)
    (case l_latest_event => k_is)
    (case c_latest_event => k_is)
    (case k_latest_event => k_is)
    (case a_is_in_time => k_is)
    (case l_is_in_time => k_is)
    (case c_is_in_time => k_is)
    (case k_is_in_time => k_is)
    (case a_begins => k_is)
    (case l_begins => k_is)
    (case c_begins => k_is)
    (case k_begins => k_is)
    (case a_are_weekdays => k_is)
    (case l_are_weekdays => k_is)
    (case c_are_weekdays => k_is)
    (case k_are_weekdays => k_is)
    (case a_week => k_is)
    (case l_week => k_is)
    (case c_week => k_is)
    (case k_week => k_is)
    (case a_add_day => k_is)
    (case l_add_day => k_is)
    (case c_add_day => k_is)
    (case k_add_day => k_is)
    (case a_yearly => k_is)
    (case l_yearly => k_is)
    (case c_yearly => k_is)
    (case k_yearly => k_is)
    (case a_easters => k_is)
    (case l_easters => k_is)
    (case c_easters => k_is)
    (case k_easters => k_is)
    (case a_closed => k_is)
    (case l_closed => k_is)
    (case c_closed => k_is)
    (case k_closed => k_is)
    (case a_way => k_is)
    (case l_way => k_is)
    (case c_way => k_is)
    (case k_way => k_is)
    (case a_stop => k_is)
    (case l_stop => k_is)
    (case c_stop => k_is)
    (case k_stop => k_is)
    (case a_rest => k_is)
    (case l_rest => k_is)
    (case c_rest => k_is)
    (case k_rest => k_is)
    (case a_is_span => k_is)
    (case l_is_span => k_is)
    (case c_is_span => k_is)
    (case k_is_span => k_is)
    (case a_refused_span => k_is)
    (case l_refused_span => k_is)
    (case c_refused_span => k_is)
    (case k_refused_span => k_is)
    (case a_span_of => k_is)
    (case l_span_of => k_is)
    (case c_span_of => k_is)
    (case k_span_of => k_is)
    (case a_told_day => k_is)
    (case l_told_day => k_is)
    (case c_told_day => k_is)
    (case k_told_day => k_is)
    (case a_last => k_is)
    (case l_last => k_is)
    (case c_last => k_is)
    (case k_last => k_is)
    (case a_in_dates => k_is)
    (case l_in_dates => k_is)
    (case c_in_dates => k_is)
    (case k_in_dates => k_is)
    (case a_are_dates => k_is)
    (case l_are_dates => k_is)
    (case c_are_dates => k_is)
    (case k_are_dates => k_is)
    (case a_do_rise => k_is)
    (case l_do_rise => k_is)
    (case c_do_rise => k_is)
    (case k_do_rise => k_is)
    (case a_anew => k_is)
    (case l_anew => k_is)
    (case c_anew => k_is)
    (case k_anew => k_is)
    (case a_latest => k_is)
    (case l_latest => k_is)
    (case c_latest => k_is)
    (case k_latest => k_is)
    (case a_in_time => k_is)
    (case l_in_time => k_is)
    (case c_in_time => k_is)
    (case k_in_time => k_is)
    (case a_between => k_is)
    (case l_between => k_is)
    (case c_between => k_is)
    (case k_between => k_is)
    (case a_working => k_is)
    (case l_working => k_is)
    (case c_working => k_is)
    (case k_working => k_is)
    (case a_easter_date => k_is)
    (case l_easter_date => k_is)
    (case c_easter_date => k_is)
    (case k_easter_date => k_is)
    (case a_end_of_call => k_is)
    (case l_end_of_call => k_is)
    (case c_end_of_call => k_is)
    (case k_end_of_call => k_is)
    (case a_answers => k_is)
    (case l_answers => k_is)
    (case c_answers => k_is)
    (case k_answers => k_is)
    (case u_MONTH_LENGTHS => k_is)
    (case v_MONTH_LENGTHS => k_is)
    (case w_MONTH_LENGTHS => decide +kernel)
    (case r_MONTH_LENGTHS => exact .cons ⟨_, rfl⟩ (.cons ⟨_, rfl⟩ (.cons ⟨_, rfl⟩ (.cons ⟨_, rfl⟩ (.cons ⟨_, rfl⟩ (.cons ⟨_, rfl⟩ (.cons ⟨_, rfl⟩ (.cons ⟨_, rfl⟩ (.cons ⟨_, rfl⟩ (.cons ⟨_, rfl⟩ (.cons ⟨_, rfl⟩ (.cons ⟨_, rfl⟩ (.nil)))))))))))))
    (case u_LEAST_LENGTHS => k_is)
    (case v_LEAST_LENGTHS => k_is)
    (case w_LEAST_LENGTHS => decide +kernel)
    (case r_LEAST_LENGTHS => exact .cons ⟨_, rfl⟩ (.cons ⟨_, rfl⟩ (.cons ⟨_, rfl⟩ (.cons ⟨_, rfl⟩ (.nil)))))
    (case u_MOST_OF_UNIT => k_is)
    (case v_MOST_OF_UNIT => k_is)
    (case w_MOST_OF_UNIT => decide +kernel)
    (case r_MOST_OF_UNIT => exact .cons ⟨_, rfl⟩ (.cons ⟨_, rfl⟩ (.cons ⟨_, rfl⟩ (.cons ⟨_, rfl⟩ (.cons ⟨_, rfl⟩ (.nil))))))
    (case u_HANDLERS => k_is)
    (case v_HANDLERS => k_is)
    (case w_HANDLERS => decide +kernel)
    (case r_HANDLERS => exact .cons rfl (.cons rfl (.cons rfl (.cons rfl (.cons rfl (.cons rfl (.cons rfl (.cons rfl (.cons rfl (.cons rfl (.cons rfl (.cons rfl (.cons rfl (.cons rfl (.cons rfl (.nil))))))))))))))))
    (case u_WHOLE_NUMBERS => k_is)
    (case v_WHOLE_NUMBERS => k_is)
    (case w_WHOLE_NUMBERS => decide +kernel)
    (case r_WHOLE_NUMBERS => exact .cons ⟨_, rfl⟩ (.cons ⟨_, rfl⟩ (.cons ⟨_, rfl⟩ (.cons ⟨_, rfl⟩ (.cons ⟨_, rfl⟩ (.cons ⟨_, rfl⟩ (.cons ⟨_, rfl⟩ (.cons ⟨_, rfl⟩ (.cons ⟨_, rfl⟩ (.cons ⟨_, rfl⟩ (.cons ⟨_, rfl⟩ (.cons ⟨_, rfl⟩ (.cons ⟨_, rfl⟩ (.cons ⟨_, rfl⟩ (.cons ⟨_, rfl⟩ (.nil))))))))))))))))
    (case u_ROWS => k_is)
    (case v_ROWS => k_is)
    (case w_ROWS => decide +kernel)
    (case r_ROWS => exact .cons ⟨_, rfl⟩ (.cons ⟨_, rfl⟩ (.cons ⟨_, rfl⟩ (.cons ⟨_, rfl⟩ (.cons ⟨_, rfl⟩ (.cons ⟨_, rfl⟩ (.cons ⟨_, rfl⟩ (.cons ⟨_, rfl⟩ (.cons ⟨_, rfl⟩ (.cons ⟨_, rfl⟩ (.cons ⟨_, rfl⟩ (.cons ⟨_, rfl⟩ (.cons ⟨_, rfl⟩ (.cons ⟨_, rfl⟩ (.cons ⟨_, rfl⟩ (.nil))))))))))))))))
  case S =>
    intro K H xs a hO hwi hask hx
    cases hx with
    | cons h1 h2 =>
      cases h2
      cases h1 with
      | lst hs ha =>
        have e := L2.ints_dw a.1 _ ha
        subst e
        have q : ((Codec.inLen 0 30000 a.1 && a.1.all (Codec.inInt (-2147483648) 4294967295)) && true) = true := hwi
        rw [Bool.and_eq_true, Bool.and_eq_true] at q
        have hl := (Codec.inNat_iff.mp q.1.1).2
        obtain ⟨cs, e1, e2, e3, e4⟩ := Dc.asked_calls (l := a.1) hask
        refine ⟨_, cs, rfl, by rw [← e1]; exact hs, e2, e4, by rw [← e1]; exact hl, fun H' p hp => ?_⟩
        have hp2 : H' p = some (.lst ((PySx57.answers a.1).map L2.V.int)) := by rw [hp, e3]
        exact .lst (L2.SqL.of hp2) (L2.dw_ints _)
#print axioms PySem.Challenge.cw_daycounts_s01_answers_holds
end
